import PyProof.Rows.All
import HandS.Base
import HandS.Call
import HandS.List
import HandS.Comp
import HandS.Ends
import HandS.Words
import HandS.WordsList
import HandS.Text
import HandS.StrMore
import HandS.Iter
import HandS.Walk
import HandS.IsInst
import HandS.Conv
import HandS.Dict
import HandS.NoneIn
import HandS.More
import HandS.Deep
import HandS.TupMul
import HandS.Style
import HandS.TupAny
import HandS.Evl
import HandS.Exc
import HandS.ExcOwn
import HandS.ExcInit
import HandS.ExcValue
import HandS.ExcField
import HandS.ExcIs
import HandS.Star
import KE.KExcIs
import KE.KExcStr
import PyProof.InstStoreFacts
import PyProof.ExcBaseAll.LookupError
import PyProof.ExcBaseAll.IndexError
import PyProof.ExcBaseAll.RuntimeError
import PyProof.ExcBaseAll.OverflowError
import PyProof.ExcBaseAll.ArithmeticError
import HandS.WordsDict
import HandS.ClsMeth
import HandS.Property
import HandS.SlotsOwn
import PyProof.InstNe
import HandS.Set
import HandS.Strs
import HandS.Zip
import HandS.DictComp
import HandS.MakeKwOnly
import HandS.DictEq
import KE.KDictZip
import KE.KMinKey
import HandS.SortKw
import HandS.FStr
import KE.KDictCopyH
import PyProof.ReprRoads
import PyProof.ReprReads
import HandS.Codes
import HandS.RaiseMore
import HandS.WordsExc
import HandS.Lambda
import HandS.EndTab
import KE.KNestM
import PySem.Challenge.RW_offside_k13_bounds_of_texts
set_option Elab.async false
set_option linter.all false
set_option maxRecDepth 100000
set_option maxHeartbeats 4000000

namespace My
open PySem PySem.Spec PyProof.Rows L2
/-! ### rules that the layer lacks, and its own with their readings named -/
/-- the one-sign texts of a list of signs -/
def sg (cs : List Nat) : List V := cs.map fun c => .str ⟨#[c]⟩
section
variable {X : Cx}
def wListS : List V → Hp → VK → Prop := fun xs H Q => ∃ z : Str, xs = [.str z] ∧ z.length ≤ sizeLine ∧ ∀ l, H l = none → Q (.ref l) (upd H l (.lst (sg z.cps.toList)))
theorem c_listS (hc : X.calm = true) : CallR X (.type "list") wListS := by
  intro pins s σ H xs us Q I r h
  obtain ⟨z, rfl, hz, q⟩ := h
  obtain ⟨u, rfl, t, rfl⟩ := vals1 r
  refine call_list_str (I.ok.hd hc) z t (fun h' tk acc' c' hkeep hS hacc => ?_) hz
  refine ⟨.ref s.heap.objs.size, upd H s.heap.objs.size (.lst (sg z.cps.toList)), I.laid hkeep (Nat.le_refl _) (show ObjOk X.prog X.w _ _ _ (.lst (sg z.cps.toList)) from ⟨?_, acc'.toList, c', ?_, ?_⟩), rfl, q _ (I.hok.fresh (Nat.le_refl _))⟩
  · unfold sg
    rw [List.length_map, Array.length_toList]
    exact hz
  · refine vals_of_at (by unfold sg; rw [List.length_map, Array.length_toList, Array.length_toList, hacc.1]) fun j x w h1 h2 => ?_
    obtain ⟨c, u, hc1, e⟩ := hacc.2 j w (by rw [← Array.getElem?_toList]; exact h2)
    unfold sg at h1
    rw [List.getElem?_map, Array.getElem?_toList, hc1] at h1
    cases h1
    exact ⟨u, e⟩
  · rw [Array.toArray_toList]
    exact hS
theorem op_powW : OpR X (binaryOp .Pow) (rI (fun i j => 0 ≤ j ∧ (Builtin.Int.intBits i : Int) * j ≤ 2 ^ 27) fun i j => .int (i ^ j.toNat)) := opI fun _ _ _ _ _ _ _ hc q => pow_int hc.1 hc.2 q
def wReprB : List V → Hp → VK → Prop := fun xs H Q => ∃ b, xs = [.bl b] ∧ Q (.str (if b then "True" else "False")) H
theorem call_repr_bl : CallR X (.builtin "repr") wReprB := by
  intro pins s σ H xs us Q I r h
  obtain ⟨b, rfl, q⟩ := h
  obtain ⟨u, rfl, rx⟩ := vals1 r
  cases rx
  exact PySem.P.repr_of_bool ⟨.str _, H, I.tok _, ⟨_, rfl⟩, q⟩
def wInt1 : List V → Hp → VK → Prop := fun xs H Q => (∃ i, xs = [.int i] ∧ Q (.int i) H) ∨ ∃ k, xs = [.bl k] ∧ Q (.int (if k then 1 else 0)) H
theorem c_int1 : CallR X (.type "int") wInt1 := call_int1
def wAbs : List V → Hp → VK → Prop := fun xs H Q => ∃ i, xs = [.int i] ∧ Q (.int (if i < 0 then -i else i)) H
theorem c_abs : CallR X (.builtin "abs") wAbs := call_abs
def wMax2 : List V → Hp → VK → Prop := fun xs H Q => ∃ i j, xs = [.int i, .int j] ∧ Q (.int (if j > i then j else i)) H
theorem c_max2 (hc : X.calm = true) : CallR X (.builtin "max") wMax2 := call_max2 hc
def wMin2 : List V → Hp → VK → Prop := fun xs H Q => ∃ i j, xs = [.int i, .int j] ∧ Q (.int (if j < i then j else i)) H
theorem c_min2 (hc : X.calm = true) : CallR X (.builtin "min") wMin2 := call_min2 hc
def wLenS (K : PySem.W.Frag) : List V → Hp → VK → Prop := fun xs H Q => ∃ p ys, xs = [.ref p] ∧ (SqL K H p ys ∨ SqT K H p ys) ∧ Q (.int (ys.length : Int)) H
theorem c_len {K : PySem.W.Frag} (hK : X.K = K := by rfl) : CallR X (.builtin "len") (wLenS K) := by
  subst hK
  exact call_len_seq
def wLenT : List V → Hp → VK → Prop := fun xs H Q => ∃ z, xs = [.str z] ∧ z.length ≤ sizeLine ∧ Q (.int (z.length : Int)) H
theorem c_lenT : CallR X (.builtin "len") wLenT := call_len_str
def wListOf (K : PySem.W.Frag) : List V → Hp → VK → Prop := fun xs H Q => ∃ p ys, xs = [.ref p] ∧ (SqL K H p ys ∨ SqT K H p ys) ∧ ∀ l, H l = none → Q (.ref l) (upd H l (.lst ys))
theorem c_list {K : PySem.W.Frag} (hK : X.K = K := by rfl) : CallR X (.type "list") (wListOf K) := by
  subst hK
  exact call_list_of
def wTupleOf (K : PySem.W.Frag) : List V → Hp → VK → Prop := fun xs H Q => ∃ p ys, xs = [.ref p] ∧ ((SqL K H p ys ∧ ∀ l, H l = none → Q (.ref l) (upd H l (.tup ys))) ∨ (SqT K H p ys ∧ Q (.ref p) H))
theorem c_tuple {K : PySem.W.Frag} (hK : X.K = K := by rfl) : CallR X (.type "tuple") (wTupleOf K) := by
  subst hK
  exact call_tuple_of
def wStrB (f : Str → Bool) : V → List V → Hp → VK → Prop := fun x xs H Q => ∃ a, x = .str a ∧ xs = [] ∧ True ∧ Q (.bl (f a)) H
theorem c_isascii : MtR X "str.isascii" (wStrB Txt.isascii) := mt_isascii
theorem c_isalpha : MtR X "str.isalpha" (wStrB Txt.isalpha) := mt_isalpha
theorem c_islower : MtR X "str.islower" (wStrB Txt.islower) := mt_islower
def wAddS : R2 := fun x y H Q => ∃ i j, x = .str i ∧ y = .str j ∧ i.length + j.length ≤ sizeLine ∧ Q (.str (i ++ j)) H
theorem o_adds : OpR X (binaryOp .Add) wAddS := op_add_str
def wNotInC : R2 := fun x y H Q => ∃ (c : Nat) (z : Str), x = .str ⟨#[c]⟩ ∧ y = .str z ∧ Q (.bl (!decide (c ∈ z.cps.toList))) H
theorem o_notInC : OpR X (compareOp .NotIn) wNotInC := op_notIn_sign
def wJoin (K : PySem.W.Frag) : V → List V → Hp → VK → Prop := fun x xs H Q => ∃ a p, ∃ ys : List Str, x = .str a ∧ xs = [.ref p] ∧ (SqL K H p (ys.map V.str) ∨ SqT K H p (ys.map V.str)) ∧
    (ys.map (·.length)).sum + ys.length * a.length ≤ 16777216 ∧ Q (.str (Txt.join a ys)) H
def wInsert : V → List V → Hp → VK → Prop := fun x vs H Q => ∃ (l : Addr) (xs : List V) (i : Int) (y : V), x = .ref l ∧ vs = [.int i, y] ∧ H l = some (.lst xs) ∧ xs.length < sizeLine ∧ 0 ≤ i ∧ i < 2 ^ 63 ∧
    Q .non (upd H l (.lst (xs.take i.toNat ++ [y] ++ xs.drop i.toNat)))
theorem c_insert : MtR X "list.insert" wInsert := mt_insert
theorem c_join {K : PySem.W.Frag} (hK : X.K = K := by rfl) : MtR X "str.join" (wJoin K) := by
  subst hK
  exact mt_join
theorem c_isi {K : PySem.W.Frag} (hK : X.K = K := by rfl) : CallR X (.builtin "isinstance") (rIsi K) := by
  subst hK
  exact call_isi
theorem o_eqD {K : PySem.W.Frag} (hu : X.A.units + 64 < cLine) (hK : X.K = K := by rfl) : OpR X (compareOp .Eq) (rEqD K) := by
  subst hK
  exact op_eqD hu
theorem o_neD {K : PySem.W.Frag} (hu : X.A.units + 64 < cLine) (hK : X.K = K := by rfl) : OpR X (compareOp .NotEq) (rNeD K) := by
  subst hK
  exact op_neD hu
theorem o_inD {K : PySem.W.Frag} (hu : X.A.units + 65 < cLine) (hK : X.K = K := by rfl) : OpR X (compareOp .In) (rInD K) := by
  subst hK
  exact op_inD hu
theorem o_notInD {K : PySem.W.Frag} (hu : X.A.units + 65 < cLine) (hK : X.K = K := by rfl) : OpR X (compareOp .NotIn) (rNotInD K) := by
  subst hK
  exact op_notInD hu
theorem hu65 {k : Nat} {A : Around} (hr : Room k A) : A.units + 65 < cLine := by
  have := hr.un
  omega
theorem o_inL {K : PySem.W.Frag} (hK : X.K = K := by rfl) : OpR X (compareOp .In) (rIn K false) := by
  subst hK
  exact op_in_seq
theorem o_notInL {K : PySem.W.Frag} (hK : X.K = K := by rfl) : OpR X (compareOp .NotIn) (rIn K true) := by
  subst hK
  exact op_notIn_seq
theorem i_list {K : PySem.W.Frag} (hK : X.K = K := by rfl) : IxR X (rIxL K) := by
  subst hK
  exact ix_list
theorem i_tup {K : PySem.W.Frag} (hK : X.K = K := by rfl) : IxR X (rIxT K) := by
  subst hK
  exact ix_tup
theorem s_list {K : PySem.W.Frag} (hK : X.K = K := by rfl) : SlR X (rSlL K) := by
  subst hK
  exact sl_list
theorem p_list {K : PySem.W.Frag} {tg l : Expr} {tl : TE} (hl : PE X l tl) (hK : X.K = K := by rfl) : PI X tg l (iList K tl) := by
  subst hK
  exact pi_list hl
theorem p_tup {K : PySem.W.Frag} {tg l : Expr} {tl : TE} (hl : PE X l tl) (hK : X.K = K := by rfl) : PI X tg l (iTup K tl) := by
  subst hK
  exact pi_tup hl
theorem c_all {K : PySem.W.Frag} (hc : X.calm = true) (hK : X.K = K := by rfl) : CallR X (.builtin "all") (rAll K) := by
  subst hK
  exact cr_all hc
theorem e_bm0 {K : PySem.W.Frag} {T id : String} {name : Str} {r : V → List V → Hp → VK → Prop} {o : Expr} {to : TE} {apos cpos : Pos} (pa : PlainAttrs T) (slot : Slot T name id) (hty : typeOf (.builtin id) = pure (.type "method_descriptor")) (hm : MtR X id r) (ho : PE X o to) (hK : X.K = K := by rfl)
    (hbase : attributeBase o name X.env (eval o X.env) = eval o X.env := by rfl) (hline : (apos.endLine == cpos.line) = true := by rfl) : PE X (.Call (.Attribute o name apos) [] [] cpos) (tBM0 K T r to) := by
  subst hK
  exact pe_bm0 pa slot hty hm ho hbase hline
theorem e_bm {K : PySem.W.Frag} {T id : String} {name : Str} {r : V → List V → Hp → VK → Prop} {o e : Expr} {es : List Expr} {to : TE} {t : TA} {apos cpos : Pos} (pa : PlainAttrs T) (slot : Slot T name id) (hty : typeOf (.builtin id) = pure (.type "method_descriptor")) (hm : MtR X id r) (ho : PE X o to) (ha : PA X (e :: es) t) (hK : X.K = K := by rfl)
    (hbase : attributeBase o name X.env (eval o X.env) = eval o X.env := by rfl)
    (hfew : ((backTo cpos (starEach (e :: es) X.env)).all (fun x => !x.1) && (backToKw cpos (keywordEach [] X.env)).all (fun x => x.1.isSome)
      && decide ((e :: es).length + ([] : List Keyword).length + (if ([] : List Keyword).isEmpty then 0 else 1) < 30)) = true := by rfl)
    (hline : (apos.endLine == cpos.line) = true := by rfl) (hs : starEach (e :: es) X.env = (false, eval e X.env) :: starEach es X.env := by rfl) (hplain : (backTo cpos (starEach es X.env)).any (·.1) = false := by rfl) :
    PE X (.Call (.Attribute o name apos) (e :: es) [] cpos) (tBM K T r to t) := by
  subst hK
  exact pe_bm pa slot hty hm ho ha hbase hfew hline hs hplain
end
/-! ### steps of a reading -/
section
variable {K : PySem.W.Frag} {σ : L2.St} {H : Hp} {D : Ends}
theorem r_var {i : Nat} {v : V} {Q : VK} (h : σ[i]? = some (some v)) (q : Q v H) : tVar i σ H Q := ⟨v, h, q⟩
theorem r_c {v : V} {Q : VK} (q : Q v H) : tC v σ H Q := q
theorem r_op {r : R2} {ta tb : TE} {Q : VK} (q : ta σ H fun x H1 => tb σ H1 fun y H2 => r x y H2 Q) : tOp r ta tb σ H Q := q
theorem r_un {r : V → Hp → VK → Prop} {ta : TE} {Q : VK} (q : ta σ H fun x H1 => r x H1 Q) : tUn r ta σ H Q := q
theorem r_I0 {g : Int → Int → V} {i j : Int} {Q : VK} (q : Q (g i j) H) : rI0 g (.int i) (.int j) H Q := ⟨i, j, rfl, rfl, q⟩
theorem r_I {C : Int → Int → Prop} {g : Int → Int → V} {i j : Int} {Q : VK} (hc : C i j) (q : Q (g i j) H) : rI C g (.int i) (.int j) H Q := ⟨i, j, rfl, rfl, hc, q⟩
theorem r_U {g : Int → V} {i : Int} {Q : VK} (q : Q (g i) H) : rU g (.int i) H Q := ⟨i, rfl, q⟩
theorem r_eq {x y : V} {Q : VK} (hs : scal x y = true) (q : Q (.bl (decide (x = y))) H) : rEq x y H Q := ⟨hs, q⟩
theorem r_ne {x y : V} {Q : VK} (hs : scal x y = true) (q : Q (.bl (!decide (x = y))) H) : rNe x y H Q := ⟨hs, q⟩
theorem r_nil {Q : List V → Hp → Prop} (q : Q [] H) : tNil σ H Q := q
theorem r_cons {ta : TE} {tr : TA} {Q : List V → Hp → Prop} (q : ta σ H fun x H1 => tr σ H1 fun xs H2 => Q (x :: xs) H2) : tCons ta tr σ H Q := q
theorem r_cb {r : List V → Hp → VK → Prop} {t : TA} {Q : VK} (q : t σ H fun vs H1 => r vs H1 Q) : tCB r t σ H Q := q
theorem r_call {sp : Sp} {dvs : List V} {E : XK} {t : TA} {Q : VK} (q : t σ H fun vs H1 => sp (vs ++ dvs) H1 Q E) : tCall sp dvs E t σ H Q := q
theorem r_tup {t : TA} {Q : VK} (q : t σ H fun xs H1 => xs.length ≤ sizeLine ∧ ∀ p, H1 p = none → Q (.ref p) (upd H1 p (.tup xs))) : tTup t σ H Q := q
theorem r_lst {t : TA} {Q : VK} (q : t σ H fun xs H1 => xs.length ≤ sizeLine ∧ ∀ p, H1 p = none → Q (.ref p) (upd H1 p (.lst xs))) : tLst t σ H Q := q
theorem r_seq {t u : TS} (q : t { D with nx := u D } σ H) : tSeq t u D σ H := q
theorem r_next (q : D.nx σ H) : tNext D σ H := q
theorem r_asg {te : TE} {g : TG} (q : te σ H fun x H1 => g x σ H1 D.nx) : tAsg te g D σ H := q
theorem r_name {i : Nat} {x : V} {k : L2.St → Hp → Prop} (q : k (σ.set i (some x)) H) : gName i x σ H k := q
theorem r_sub {to ti : TE} {t : TSet} {v : V} {k : L2.St → Hp → Prop} (q : to σ H fun o H1 => ti σ H1 fun i H2 => t o i v H2 fun H3 => k σ H3) : gSub to ti t v σ H k := q
theorem r_setL {p : Addr} {xs : List V} {i : Int} {j : Nat} {v : V} {k : Hp → Prop} (h : H p = some (.lst xs)) (hi : ixN xs.length i = some j) (q : k (upd H p (.lst (xs.set j v)))) : rSetL (.ref p) (.int i) v H k := ⟨p, xs, i, j, rfl, rfl, h, hi, q⟩
theorem r_ifs {c : TT} {t u : TS} (q : c σ H fun b H1 => if b = true then t D σ H1 else u D σ H1) : tIfS c t u D σ H := q
theorem r_ret {te : TE} (q : te σ H D.rt) : tRet te D σ H := q
theorem r_drop {te : TE} (q : te σ H fun _ H1 => D.nx σ H1) : tDrop te D σ H := q
theorem r_test {t : TE} {Q : Bool → Hp → Prop} (q : t σ H fun x H' => ∃ k, x = .bl k ∧ Q k H') : tTest t σ H Q := q
theorem r_B {t : TE} {Q : Bool → Hp → Prop} (q : t σ H fun x H' => ∃ k, x = .bl k ∧ Q k H') : tB t σ H Q := q
theorem r_not {t : TT} {Q : Bool → Hp → Prop} (q : t σ H fun c H1 => Q (!c) H1) : tNot t σ H Q := q
theorem r_and {t u : TT} {Q : Bool → Hp → Prop} (q : t σ H fun c H1 => if c = true then u σ H1 Q else Q false H1) : tAnd t u σ H Q := q
theorem r_or {t u : TT} {Q : Bool → Hp → Prop} (q : t σ H fun c H1 => if c = true then Q true H1 else u σ H1 Q) : tOr t u σ H Q := q
theorem r_notV {ta : TE} {Q : VK} (q : ta σ H fun x H1 => ∃ c, x = .bl c ∧ Q (.bl (!c)) H1) : tNotV ta σ H Q := q
theorem r_andV {ta tb : TE} {Q : VK} (q : ta σ H fun x H1 => ∃ c, x = .bl c ∧ if c = true then tb σ H1 Q else Q (.bl false) H1) : tAndV ta tb σ H Q := q
theorem r_orV {ta tb : TE} {Q : VK} (q : ta σ H fun x H1 => ∃ c, x = .bl c ∧ if c = true then Q (.bl true) H1 else tb σ H1 Q) : tOrV ta tb σ H Q := q
theorem r_if {t : TT} {ta tb : TE} {Q : VK} (q : t σ H fun c H1 => if c = true then ta σ H1 Q else tb σ H1 Q) : tIf t ta tb σ H Q := q
theorem r_chain {r r' : R2} {ta tb tc : TE} {Q : VK} (q : ta σ H fun x H1 => tb σ H1 fun y H2 => r x y H2 fun z H3 => ∃ k, z = .bl k ∧ (if k = true then tc σ H3 fun w' H4 => r' y w' H4 Q else Q (.bl false) H3)) : tChain r r' ta tb tc σ H Q := q
theorem r_bl {b : Bool} {P : Bool → Prop} (q : P b) : ∃ k, V.bl b = V.bl k ∧ P k := ⟨b, rfl, q⟩
theorem r_ixL {p : Addr} {xs : List V} {i : Int} {v : V} {Q : VK} (h : H p = some (.lst xs)) (ha : atI xs i = some v) (q : Q v H) : rIxL K (.ref p) (.int i) H Q := ⟨p, xs, i, v, rfl, rfl, .inl (.inl h), ha, q⟩
theorem r_ixT {p : Addr} {xs : List V} {i : Int} {v : V} {Q : VK} (h : H p = some (.tup xs)) (ha : atI xs i = some v) (q : Q v H) : rIxT K (.ref p) (.int i) H Q := ⟨p, xs, i, v, rfl, rfl, .inl (.inl h), ha, q⟩
theorem r_int1 {i : Int} {Q : VK} (q : Q (.int i) H) : wInt1 [.int i] H Q := .inl ⟨i, rfl, q⟩
theorem r_int1b {b : Bool} {Q : VK} (q : Q (.int (if b then 1 else 0)) H) : wInt1 [.bl b] H Q := .inr ⟨b, rfl, q⟩
theorem r_abs {i : Int} {Q : VK} (q : Q (.int (if i < 0 then -i else i)) H) : wAbs [.int i] H Q := ⟨i, rfl, q⟩
theorem r_max2 {i j : Int} {Q : VK} (q : Q (.int (if j > i then j else i)) H) : wMax2 [.int i, .int j] H Q := ⟨i, j, rfl, q⟩
theorem r_min2 {i j : Int} {Q : VK} (q : Q (.int (if j < i then j else i)) H) : wMin2 [.int i, .int j] H Q := ⟨i, j, rfl, q⟩
theorem r_lenL {p : Addr} {ys : List V} {Q : VK} (h : H p = some (.lst ys)) (q : Q (.int (ys.length : Int)) H) : wLenS K [.ref p] H Q := ⟨p, ys, rfl, .inl (.inl (.inl h)), q⟩
theorem r_lenTp {p : Addr} {ys : List V} {Q : VK} (h : H p = some (.tup ys)) (q : Q (.int (ys.length : Int)) H) : wLenS K [.ref p] H Q := ⟨p, ys, rfl, .inr (.inl (.inl h)), q⟩
theorem r_lenT {z : Str} {Q : VK} (h : z.length ≤ sizeLine) (q : Q (.int (z.length : Int)) H) : wLenT [.str z] H Q := ⟨z, rfl, h, q⟩
theorem r_listL {p : Addr} {ys : List V} {Q : VK} (h : H p = some (.lst ys)) (q : ∀ l, H l = none → Q (.ref l) (upd H l (.lst ys))) : wListOf K [.ref p] H Q := ⟨p, ys, rfl, .inl (.inl (.inl h)), q⟩
theorem r_listS {z : Str} {Q : VK} (h : z.length ≤ sizeLine) (q : ∀ l, H l = none → Q (.ref l) (upd H l (.lst (sg z.cps.toList)))) : wListS [.str z] H Q := ⟨z, rfl, h, q⟩
theorem r_tupleL {p : Addr} {ys : List V} {Q : VK} (h : H p = some (.lst ys)) (q : ∀ l, H l = none → Q (.ref l) (upd H l (.tup ys))) : wTupleOf K [.ref p] H Q := ⟨p, ys, rfl, .inl ⟨.inl (.inl h), q⟩⟩
theorem r_reprB {b : Bool} {Q : VK} (q : Q (.str (if b then "True" else "False")) H) : wReprB [.bl b] H Q := ⟨b, rfl, q⟩
theorem r_bm {T : String} {r : V → List V → Hp → VK → Prop} {to : TE} {t : TA} {Q : VK} (q : to σ H fun x H1 => tyV K T x H1 ∧ t σ H1 fun xs H2 => r x xs H2 Q) : tBM K T r to t σ H Q := q
theorem r_bm0 {T : String} {r : V → List V → Hp → VK → Prop} {to : TE} {Q : VK} (q : to σ H fun x H1 => tyV K T x H1 ∧ r x [] H1 Q) : tBM0 K T r to σ H Q := q
theorem r_tyL {p : Addr} {xs : List V} {P : Prop} (h : H p = some (.lst xs)) (q : P) : tyV K "list" (.ref p) H ∧ P := ⟨.inl ⟨rfl, _, .inl (.inl h)⟩, q⟩
theorem r_tyS {z : Str} {P : Prop} (q : P) : tyV K "str" (.str z) H ∧ P := ⟨rfl, q⟩
theorem r_strB {f : Str → Bool} {a : Str} {Q : VK} (q : Q (.bl (f a)) H) : wStrB f (.str a) [] H Q := ⟨a, rfl, rfl, trivial, q⟩
theorem r_addS {i j : Str} {Q : VK} (h : i.length + j.length ≤ sizeLine) (q : Q (.str (i ++ j)) H) : wAddS (.str i) (.str j) H Q := ⟨i, j, rfl, rfl, h, q⟩
theorem r_notInC {c : Nat} {z : Str} {Q : VK} (q : Q (.bl (!decide (c ∈ z.cps.toList))) H) : wNotInC (.str ⟨#[c]⟩) (.str z) H Q := ⟨c, z, rfl, rfl, q⟩
theorem r_append {l : Addr} {xs : List V} {y : V} {Q : VK} (h : H l = some (.lst xs)) (hz : xs.length < sizeLine) (q : Q .non (upd H l (.lst (xs ++ [y])))) : rAppend (.ref l) [y] H Q := ⟨l, xs, y, rfl, rfl, h, hz, q⟩
theorem r_dnew {Q : VK} (q : ∀ p, H p = none → Q (.ref p) (upd H p (.dK []))) : tDNewK σ H Q := q
theorem r_cat {l b : Addr} {xs zs : List V} {Q : VK} (h : H l = some (.lst xs)) (h' : H b = some (.lst zs)) (hz : xs.length + zs.length ≤ sizeLine) (q : ∀ p, H p = none → Q (.ref p) (upd H p (.lst (xs ++ zs)))) : rCat (.ref l) (.ref b) H Q := ⟨l, b, xs, zs, rfl, rfl, h, h', hz, q⟩
theorem r_joinL {a : Str} {p : Addr} {ys : List Str} {Q : VK} (h : H p = some (.lst (ys.map V.str))) (hz : (ys.map (·.length)).sum + ys.length * a.length ≤ 16777216) (q : Q (.str (Txt.join a ys)) H) : wJoin K (.str a) [.ref p] H Q := ⟨a, p, ys, rfl, rfl, .inl (.inl (.inl h)), hz, q⟩
theorem r_rep {l : Addr} {xs : List V} {k : Int} {Q : VK} (h : H l = some (.lst xs)) (h0 : 0 ≤ k) (h1 : k < 1000) (hz : xs.length * k.toNat ≤ sizeLine) (q : ∀ p, H p = none → Q (.ref p) (upd H p (.lst (List.replicate k.toNat xs).flatten))) : rRep (.ref l) (.int k) H Q :=
  ⟨l, k, xs, rfl, rfl, h, by omega, by omega, hz, q⟩
theorem r_insert {l : Addr} {xs : List V} {i : Nat} {y : V} {Q : VK} (h : H l = some (.lst xs)) (hz : xs.length < sizeLine) (hi : i < 1000000) (q : Q .non (upd H l (.lst (xs.take i ++ [y] ++ xs.drop i)))) : wInsert (.ref l) [.int (i : Int), y] H Q :=
  ⟨l, xs, i, y, rfl, rfl, h, hz, Int.natCast_nonneg i, by omega, q⟩
/-- two ways that meet: what holds where they meet gives what follows -/
theorem r_seqJ {t u : TS} (C : L2.St → Hp → Prop) (tail : ∀ σ H, C σ H → u D σ H) (q : (∀ σ H, C σ H → u D σ H) → t { D with nx := u D } σ H) : tSeq t u D σ H := q tail
theorem r_popAt {l : Addr} {xs : List V} {k : Nat} {y : V} {Q : VK} (h : H l = some (.lst xs)) (hz : k < 9223372036854775808) (hy : xs[k]? = some y) (q : Q y (upd H l (.lst (xs.eraseIdx k)))) : rPopAt (.ref l) [.int (k : Int)] H Q := by
  have hk : k < xs.length := (List.getElem?_eq_some_iff.mp hy).1
  have hx : ixN xs.length (k : Int) = some k := by
    unfold ixN
    rw [if_pos (Int.natCast_nonneg k), if_pos (by omega)]
    rfl
  exact ⟨l, xs, k, k, y, rfl, rfl, h, by omega, by omega, (ixN_seq hx).1, hy, q⟩
theorem r_rng1 {ta : TA} {R : It → Hp → Prop} (q : ta σ H fun vs H1 => ∃ j : Int, vs = [.int j] ∧ -(2 ^ 62) ≤ j ∧ j < 2 ^ 62 ∧ R (Itr 0 j.toNat) H1) : iRng1 ta σ H R := q
theorem r_rng1j {j : Int} {P : Int → Prop} (h1 : -(2 ^ 62) ≤ j) (h2 : j < 2 ^ 62) (q : P j) : ∃ j' : Int, [V.int j] = [V.int j'] ∧ -(2 ^ 62) ≤ j' ∧ j' < 2 ^ 62 ∧ P j' := ⟨j, rfl, h1, h2, q⟩
theorem r_iList {tl : TE} {R : It → Hp → Prop} (q : tl σ H fun x H1 => ∃ a, x = .ref a ∧ (∃ xs, SqL K H1 a xs) ∧ R (Itl K a) H1) : iList K tl σ H R := q
theorem r_iListj {a : Addr} {xs : List V} {P : Addr → Prop} (h : H a = some (.lst xs)) (q : P a) : ∃ a', V.ref a = .ref a' ∧ (∃ xs, SqL K H a' xs) ∧ P a' := ⟨a, rfl, ⟨xs, .inl (.inl h)⟩, q⟩
theorem r_iTup {tl : TE} {R : It → Hp → Prop} (q : tl σ H fun x H1 => ∃ a, x = .ref a ∧ (∃ xs, SqT K H1 a xs) ∧ R (Itt K a) H1) : iTup K tl σ H R := q
theorem r_iTupj {a : Addr} {xs : List V} {P : Addr → Prop} (h : H a = some (.tup xs)) (q : P a) : ∃ a', V.ref a = .ref a' ∧ (∃ xs, SqT K H a' xs) ∧ P a' := ⟨a, rfl, ⟨xs, .inl (.inl h)⟩, q⟩
theorem r_all {p : Addr} {bs : List Bool} {Q : VK} (h : H p = some (.lst (bs.map V.bl))) (q : Q (.bl (bs.all id)) H) : rAll K [.ref p] H Q := ⟨p, bs, rfl, .inl (.inl h), q⟩
theorem r_iStr {te : TE} {R : It → Hp → Prop} (q : te σ H fun v H1 => ∃ x, v = .str x ∧ R (Its x) H1) : iStr te σ H R := q
theorem r_iStrj {z : Str} {P : Str → Prop} (q : P z) : ∃ x, V.str z = .str x ∧ P x := ⟨z, rfl, q⟩
def LcB (J : It) (g : TG) (tt : TT) (te : TE) (vs : List Nat) (σ : L2.St) (H1 : Hp) (D : Addr) (Q : VK) : Prop := ∃ W : Nat → Nat → Hp → Prop, (∃ m, W 0 m (upd H1 D (.lst []))) ∧ ∀ i m H, W i m H →
  (J.stop i H ∧ Q (.ref D) H) ∨ (J.go i H ∧ ∃ Nx : Hp → Prop, (∀ H', Nx H' → ∃ m', m' < m ∧ W (i + 1) m' H') ∧ ∀ x H', J.yld i H x H' → g x (wipe σ vs) H' fun σ2 H2 => wipe σ2 vs = wipe σ vs ∧ tt σ2 H2 fun b H3 =>
    if b = true then te σ2 H3 fun y H4 => ∃ acc, H4 D = some (.lst acc) ∧ acc.length < sizeLine ∧ Nx (upd H4 D (.lst (acc ++ [y]))) else Nx H3)
theorem r_lc {wi : TI} {g : TG} {tt : TT} {te : TE} {vs : List Nat} {Q : VK} (q : wi σ H fun J H1 => ∀ D, H1 D = none → LcB J g tt te vs σ H1 D Q) : tLc wi g tt te vs σ H Q := q
def ForB (J : It) (g : TG) (tb : TS) (D : Ends) (σ : L2.St) (H1 : Hp) : Prop := ∃ W : Nat → Nat → L2.St → Hp → Prop, (∃ m, W 0 m σ H1) ∧ ∀ i m σ H, W i m σ H →
  (J.stop i H ∧ D.nx σ H) ∨ (J.go i H ∧ ∃ N : L2.St → Hp → Prop, (∀ σ' H', N σ' H' → ∃ m', m' < m ∧ W (i + 1) m' σ' H') ∧ ∀ x H', J.yld i H x H' → g x σ H' fun σ2 H2 => tb { D with nx := N, ct := N, bk := D.nx } σ2 H2)
theorem r_for {wi : TI} {g : TG} {tb : TS} (q : wi σ H fun J H1 => ForB J g tb D σ H1) : tFor wi g tb D σ H := q
theorem r_yes {Q : Bool → Hp → Prop} (q : Q true H) : tYes σ H Q := q
/-- a comprehension over a walk; Pv by the turn and the heap -/
theorem lcB {J : It} {n : Nat} {G : Hp → Prop} {Y : Nat → Hp → V → Hp → Prop} (w : Walk J n G Y) {g : TG} {tt : TT} {te : TE} {vs : List Nat} {H1 : Hp} {D : Addr} {Q : VK} (Pv : Nat → Hp → Prop) (h0 : Pv 0 (upd H1 D (.lst []))) (hG : ∀ i H, i ≤ n → Pv i H → G H)
    (hs : ∀ i x H H', i < n → Pv i H → Y i H x H' → g x (wipe σ vs) H' fun σ2 H2 => wipe σ2 vs = wipe σ vs ∧ tt σ2 H2 fun b H3 =>
      if b = true then te σ2 H3 fun y H4 => ∃ acc, H4 D = some (.lst acc) ∧ acc.length < sizeLine ∧ Pv (i + 1) (upd H4 D (.lst (acc ++ [y]))) else Pv (i + 1) H3) (hd : ∀ H, Pv n H → Q (.ref D) H) : LcB J g tt te vs σ H1 D Q := lc_it w (Qd := fun H => Q (.ref D) H) Pv h0 hG hs hd
theorem forB {J : It} {n : Nat} {G : Hp → Prop} {Y : Nat → Hp → V → Hp → Prop} (w : Walk J n G Y) {g : TG} {tb : TS} (Pv : Nat → L2.St → Hp → Prop) (h0 : Pv 0 σ H) (hG : ∀ i σ H, i ≤ n → Pv i σ H → G H)
    (hs : ∀ i x σ H H', i < n → Pv i σ H → Y i H x H' → g x σ H' fun σ2 H2 => tb { D with nx := Pv (i + 1), ct := Pv (i + 1), bk := D.nx } σ2 H2) (hd : ∀ σ H, Pv n σ H → D.nx σ H) : ForB J g tb D σ H := for_it w Pv h0 hG hs hd
end
theorem nx_pos {a n : Int} (h : 1 ≤ n) (h0 : 0 ≤ a) : (a % n).toNat < n ∧ ((a % n).toNat : Int) = a % n := by
  have h1 := Int.emod_nonneg a (show n ≠ 0 by omega)
  have h2 := Int.emod_lt_of_pos a (show 0 < n by omega)
  omega
theorem get_cons_erase {α : Type} : ∀ {l : List α} {i : Nat} (h : i < l.length), (l[i] :: l.eraseIdx i).Perm l
  | [], _, h => absurd h (Nat.not_lt_zero _)
  | x :: r, 0, _ => .refl _
  | x :: r, i + 1, h => by
    have hi : i < r.length := Nat.lt_of_succ_lt_succ h
    have ih := get_cons_erase (l := r) (i := i) hi
    show (r[i] :: x :: r.eraseIdx i).Perm (x :: r)
    exact (List.Perm.swap x r[i] _).trans (ih.cons x)
theorem iteF' {b : Bool} {A B : Prop} (h : b = false) (q : B) : if b = true then A else B := by
  subst h
  exact iteF q
theorem iteT' {b : Bool} {A B : Prop} (h : b = true) (q : A) : if b = true then A else B := by
  subst h
  exact iteT q
theorem sz_of {n : Nat} (h : n ≤ 100000) : n ≤ sizeLine := Nat.le_trans h (by decide)
theorem sz_lt {n : Nat} (h : n < 100000) : n < sizeLine := Nat.lt_of_lt_of_le h (by decide)
/-- the text of some signs -/
abbrev ofC (cs : List Nat) : Str := ⟨cs.toArray⟩
theorem ofC_len (cs : List Nat) : (ofC cs).length = cs.length := rfl
theorem joinL_nil : ∀ cs : List Nat, TL.joinL [] (cs.map fun c => [c]) = cs
  | [] => rfl
  | [_] => rfl
  | c :: e :: r => by
    have ih := joinL_nil (e :: r)
    show [c] ++ ([] ++ TL.joinL [] ((e :: r).map fun c => [c])) = c :: e :: r
    rw [ih]
    rfl
theorem join_one (cs : List Nat) : Txt.join (Str.ofString "") (cs.map fun c => (⟨#[c]⟩ : Str)) = ofC cs := by
  refine TL.ext_tl ?_
  unfold Txt.join
  rw [StrLaws.glued_eq_join, TL.tl_join]
  rw [List.map_map]
  exact joinL_nil cs
theorem sum_one (cs : List Nat) : ((cs.map fun c => (⟨#[c]⟩ : Str)).map (·.length)).sum = cs.length := by
  rw [List.map_map]
  induction cs with
  | nil => rfl
  | cons c r ih =>
    rw [List.map_cons, List.sum_cons, ih, List.length_cons]
    show 1 + r.length = r.length + 1
    omega
/-! ### the draws -/
/-- a list of three ints, the first not below nought -/
def Dice (H : Hp) (d : Addr) : Prop := ∃ a b c : Int, 0 ≤ a ∧ H d = some (.lst [.int a, .int b, .int c])
/-- what stood, stands, but for what is at d -/
def Ext (d : Addr) (H H' : Hp) : Prop := ∀ b o, b ≠ d → H b = some o → H' b = some o
theorem Ext.refl (d : Addr) (H : Hp) : Ext d H H := fun _ _ _ h => h
theorem Ext.trans {d : Addr} {H H1 H2 : Hp} (a : Ext d H H1) (b : Ext d H1 H2) : Ext d H H2 := fun c o n h => b c o n (a c o n h)
theorem Ext.at_ {d : Addr} {H H' : Hp} {o : HO} (e : Ext d H H') : Ext d H (upd H' d o) := fun b u n h => by
  rw [upd_ne n]
  exact e b u n h
theorem Ext.new {d p : Addr} {H : Hp} {o : HO} (n : H p = none) : Ext d H (upd H p o) := fun b u _ h => by
  rw [upd_ne (ne_of_none h n)]
  exact h
theorem same_upd {H : Hp} {p : Addr} {o : HO} (h : H p = none) : Same H (upd H p o) := fun b x e => by
  rw [upd_ne (ne_of_none e h)]
  exact e
theorem ne_any {H : Hp} {a b : Addr} (h : ∃ o, H a = some o) (h' : H b = Option.none) : a ≠ b := by
  obtain ⟨o, h⟩ := h
  exact ne_of_none h h'
theorem there_here {H : Hp} {p : Addr} {o : HO} : ∃ u, upd H p o p = some u := ⟨o, upd_same⟩
theorem there_old {H : Hp} {p a : Addr} {o : HO} (n : H p = Option.none) (h : ∃ u, H a = some u) : ∃ u, upd H p o a = some u := by
  obtain ⟨u, h⟩ := h
  exact ⟨u, by rw [upd_ne (ne_of_none h n)]; exact h⟩
theorem Ext.same {d : Addr} {H H1 H2 : Hp} (s : Same H H1) (e : Ext d H1 H2) (n : H d = Option.none) : Same H H2 := fun b o h => e b o (ne_of_none h n) (s b o h)
theorem Ext.of_same {d : Addr} {H H' : Hp} (s : Same H H') : Ext d H H' := fun b o _ h => s b o h
theorem Dice.mk3 {d : Addr} {H : Hp} {a b c : Int} (h : 0 ≤ a) : Dice (upd H d (.lst [.int a, .int b, .int c])) d := ⟨a, b, c, h, upd_same⟩
theorem Dice.new {d p : Addr} {H : Hp} {o : HO} (h : Dice H d) (n : H p = none) : Dice (upd H p o) d := by
  obtain ⟨a, b, c, h0, e⟩ := h
  exact ⟨a, b, c, h0, by rw [upd_ne (ne_of_none e n)]; exact e⟩
theorem Dice.off {d p : Addr} {H : Hp} {o : HO} (h : Dice H d) (n : p ≠ d) : Dice (upd H p o) d := by
  obtain ⟨a, b, c, h0, e⟩ := h
  exact ⟨a, b, c, h0, by rw [upd_ne n.symm]; exact e⟩
theorem Dice.ne {d p : Addr} {H : Hp} (h : Dice H d) (n : H p = none) : p ≠ d := by
  obtain ⟨a, b, c, h0, e⟩ := h
  exact (ne_of_none e n).symm
theorem Ext.free_ {d p : Addr} {H H' : Hp} (e : Ext d H H') (hd : Dice H' d) (n : H' p = none) : H p = none := by
  cases q : H p with
  | none => rfl
  | some o =>
    have z := e p o (hd.ne n) q
    rw [n] at z
    cases z
/-- a list that was made and is filled on: upd at a place that was free -/
theorem Ext.grown {d p : Addr} {H H' : Hp} {o : HO} (e : Ext d H H') (n : H p = none) : Ext d H (upd H' p o) := fun b u nb h => by
  rw [upd_ne (ne_of_none h n)]
  exact e b u nb h
end My

namespace My
open PySem PySem.Spec PyProof.Rows L2
/-! ### dicts, several targets at once -/
section
variable {X : Cx}
def wSortedD : List V → Hp → VK → Prop := fun xs H Q => ∃ (a : Addr) (kvs : List (Key × V)) (ks : List Str), xs = [.ref a] ∧ Rd H a (.dK kvs) ∧ kvs.map (·.1) = ks.map Sum.inr ∧ ks.length < 64 ∧
    ∀ ys p, ys.Perm ks → sortedS ys = true → H p = none → Q (.ref p) (upd H p (.lst (ys.map V.str)))
theorem c_sortedD (hc : X.calm = true) : CallR X (.builtin "sorted") wSortedD := call_sortedD hc
theorem c_sortedS {K : PySem.W.Frag} (hK : X.K = K := by rfl) : CallR X (.builtin "sorted") (rSortedS K) := by
  subst hK
  exact cr_sortedS
/-- the view of d's values at v -/
def valsO (v d : Addr) : HO := .ext fun h => h.get? v = some { cls := .type "dict_values", data := .fields #[.ref d] }
def tVals (td : TE) : TE := fun σ H Q => td σ H fun x H1 => ∃ d kvs, x = .ref d ∧ H1 d = some (.dK kvs) ∧ ∀ v, H1 v = none → Q (.ref v) (upd H1 v (valsO v d))
/-- d.values() as a value -/
theorem e_values {e : Expr} {td : TE} {apos cpos : Pos} (he : PE X e td) (hbase : attributeBase e "values" X.env (eval e X.env) = eval e X.env := by rfl) (hline : (apos.endLine == cpos.line) = true := by rfl) :
    PE X (.Call (.Attribute e "values" apos) [] [] cpos) (tVals td) := by
  constructor
  intro pins s σ H Q I h
  refine wpAny_Call_method (T := "dict") (id := "dict.values") hbase rfl hline F.plainAttrs_dict F.slot_dict_values F.type_dict_values (thn (he.run pins s σ H _ I h) fun u s1 hu => ?_)
  obtain ⟨x, H1, I1, rx, d, kvs, rfl, hd, q⟩ := hu
  cases (show u = Value.ref d from rx)
  obtain ⟨z, lo, vs, rk, dd⟩ := (show ObjOk X.prog X.w H1 s1.heap d (.dK kvs) from I1.hok d _ hd)
  refine ⟨dd.typeIs, dd.mapOf.noDict, ?_⟩
  have hn : H1 s1.heap.objs.size = none := I1.hok.fresh (Nat.le_refl _)
  show wpAny _ _ (callWith cpos (.builtin "dict.values") [.ref d] [] []) _ X.xe s1
  refine method_meetsIn F.slot_dict_values F.entry_dict_values rfl (PySem.evalArgs_none ⟨rfl, dd.typeIs, F.args_dict_values_1 _, _, meets_dict_values (mixKind X.prog X.w) d lo, ⟨vs, dd⟩, ?_⟩)
  exact ⟨.ref s1.heap.objs.size, upd H1 s1.heap.objs.size (valsO s1.heap.objs.size d), I1.laid (t' := s1.toks) (fun b o e => Heap.get?_push_of_some _ e) (Nat.le_refl _) ⟨Heap.get?_push_size _ rfl, ⟨_, Heap.get?_push_size _ rfl⟩, fun _ _ a k => k _ a⟩, rfl, q _ hn⟩
theorem kv_get : ∀ {kvs : List (Key × V)} {vs : List (Key × Value)} {j : Nat} {kv : Key × V}, KV kvs vs → kvs[j]? = some kv → ∃ u, vs[j]? = some (kv.1, u) ∧ RelV kv.2 u
  | _, _, _, _, .nil, h => by simp at h
  | _, _, 0, _, .cons (b := (k, u)) r _, h => by
    cases h
    obtain ⟨e1, e2⟩ := r
    cases e1
    exact ⟨u, rfl, e2⟩
  | _, _, j + 1, _, .cons _ t, h => kv_get (j := j) t (by simpa using h)
/-- list of such a view -/
def wListV : List V → Hp → VK → Prop := fun xs H Q => ∃ v d kvs, xs = [.ref v] ∧ H v = some (valsO v d) ∧ H d = some (.dK kvs) ∧ ∀ l, H l = none → Q (.ref l) (upd H l (.lst (kvs.map Prod.snd)))
open PySem.W in
theorem c_listV (hc : X.calm = true) : CallR X (.type "list") wListV := by
  intro pins s σ H xs us Q I r h
  obtain ⟨v, d, kvs, rfl, hv, hd, q⟩ := h
  obtain ⟨u, rfl, rx⟩ := vals1 r
  cases rx
  obtain ⟨z, lo, vs, rk, dd⟩ := (show ObjOk X.prog X.w H s.heap d (.dK kvs) from I.hok d _ hd)
  obtain ⟨ho, _, _⟩ := I.hok v _ hv
  obtain ⟨es, ep, hraw, hsz, hat⟩ := dd.raw
  have hl : kvs.length = vs.length := Paired.length rk
  refine kdl_call (KdlSrc.rawValues (r := v) (d := d) (es := es) (ep := ep)) (I.ok.hd hc) ⟨⟨_, ho, rfl, rfl⟩, hraw⟩ (by omega) fun h' tk acc' c' hkeep hS hacc => ?_
  refine ⟨.ref s.heap.objs.size, upd H s.heap.objs.size (.lst (kvs.map Prod.snd)), I.laid hkeep (Nat.le_refl _) (show ObjOk X.prog X.w _ _ _ (.lst (kvs.map Prod.snd)) from ⟨by rw [List.length_map]; exact z, acc'.toList, c', ?_, by rw [Array.toArray_toList]; exact hS⟩), rfl, q _ (I.hok.fresh (Nat.le_refl _))⟩
  have el : acc'.toList.length = acc'.size := by simp
  refine vals_of_at (by rw [List.length_map, el, hacc.1]; omega) fun j x u h1 h2 => ?_
  obtain ⟨hj, rfl⟩ := hacc.2 j u (by rw [← Array.getElem?_toList]; exact h2)
  rw [List.getElem?_map] at h1
  cases hk : kvs[j]? with
  | none => rw [hk] at h1; cases h1
  | some kv =>
    rw [hk] at h1
    cases h1
    obtain ⟨u2, e1, e2⟩ := kv_get rk hk
    rw [(hat j hj _ _ e1).2]
    exact e2
end
section
variable {K : PySem.W.Frag} {σ : L2.St} {H : Hp} {D : Ends}
theorem r_par {i j : Nat} {ta : TA} (q : ta σ H fun vs H1 => ∃ v w, vs = [v, w] ∧ D.nx ((σ.set i (some v)).set j (some w)) H1) : tPar i j ta D σ H := q
theorem r_par2 {v w : V} {P : V → V → Prop} (q : P v w) : ∃ v' w', [v, w] = [v', w'] ∧ P v' w' := ⟨v, w, rfl, q⟩
theorem r_par3 {i j l : Nat} {ta : TA} (q : ta σ H fun vs H1 => ∃ u v w, vs = [u, v, w] ∧ D.nx (((σ.set i (some u)).set j (some v)).set l (some w)) H1) : tPar3 i j l ta D σ H := q
theorem r_par33 {u v w : V} {P : V → V → V → Prop} (q : P u v w) : ∃ u' v' w', [u, v, w] = [u', v', w'] ∧ P u' v' w' := ⟨u, v, w, rfl, q⟩
theorem r_dget {td ty : TE} {Q : VK} (q : td σ H fun x H1 => ty σ H1 fun y H2 => ∃ a v, x = .ref a ∧ DGet H2 a y (some v) ∧ Q v H2) : tDGet td ty σ H Q := q
theorem r_dgetS {a : Addr} {kvs : List (Key × V)} {s : Str} {v : V} {Q : V → Prop} (h : H a = some (.dK kvs)) (hv : valV kvs (.inr s) = some v) (q : Q v) : ∃ a' v', V.ref a = .ref a' ∧ DGet H a' (.str s) (some v') ∧ Q v' :=
  ⟨a, v, rfl, by rw [← hv]; exact DGet.k (k := Sum.inr s) h, q⟩
theorem r_dput {td ty tv : TE} (q : tv σ H fun v H1 => td σ H1 fun x H2 => ty σ H2 fun y H3 => ∃ a H4, x = .ref a ∧ DPut H3 a y v H4 ∧ D.nx σ H4) : sDPut td ty tv D σ H := q
theorem r_dputS {a : Addr} {kvs : List (Key × V)} {s : Str} {v : V} {Q : Hp → Prop} (h : H a = some (.dK kvs)) (hl : kvs.length < sizeLine) (q : Q (upd H a (.dK (putK kvs (.inr s) v)))) : ∃ a' H4, V.ref a = .ref a' ∧ DPut H a' (.str s) v H4 ∧ Q H4 :=
  ⟨a, _, rfl, DPut.k (k := Sum.inr s) h hl, q⟩
theorem r_disp {trs : List (TE × TE)} {Q : VK} (q : ∀ p, H p = none → tPairs trs σ (upd H p (.dK [])) fun ps H2 => H2 p = some (.dK []) ∧ ∃ kvs : List (Key × V), ps = kvs.map (fun kv => (kV kv.1, kv.2)) ∧ kvs.length ≤ 15 ∧ Q (.ref p) (upd H2 p (.dK (mergeK [] kvs)))) : tDisp trs σ H Q := q
theorem r_pairN {Q : List (V × V) → Hp → Prop} (q : Q [] H) : tPairs [] σ H Q := q
theorem r_pairC {tk tv : TE} {r : List (TE × TE)} {Q : List (V × V) → Hp → Prop} (q : tk σ H fun x H1 => tv σ H1 fun y H2 => tPairs r σ H2 fun ps H3 => Q ((x, y) :: ps) H3) : tPairs ((tk, tv) :: r) σ H Q := q
end
end My

namespace My
open PySem PySem.Spec PyProof.Rows L2
/-! ### rules for tuples of any kind, a tuple times a number, in over a tuple -/
section
variable {X : Cx}
theorem o_catA {K : PySem.W.Frag} (hK : X.K = K := by rfl) : OpR X (binaryOp .Add) (rCatA K) := by
  subst hK
  exact op_catA
theorem tuple_mul1 (l : Addr) (items : Array Value) (n : Nat) (dd : Option Addr) (sl : Array (Option Value)) (x : Int) (u : Tok) (c0 : (decide (x < -(2 ^ 63)) || decide (x ≥ 2 ^ 63)) = false) (c1 : (items.isEmpty || x == 1) = true) :
    Meets (Builtin.«tuple.__mul__» ⟨[.ref l, .int x u], []⟩) (fun _ R s => s.heap.get? l = some { cls := .type "tuple", dict := dd, data := .seq items n, slots := sl } ∧ R (.ok (.ret (Value.ref l))) s) :=
  .of_wp fun prog w A R s h => by
    obtain ⟨hp, g, d, tk, os⟩ := s
    obtain ⟨hl, h⟩ := h
    have f1 := AutoSeq1.idx_int
    wp_walk using wpAny_loadPart' hl
    repeat (first
      | (refine wpAny_ite_false (decide_eq_false (by rw [c0]; exact Bool.false_ne_true)) ?_; wp_walk using wpAny_loadPart' hl)
      | (refine wpAny_ite_true (decide_eq_true c1) ?_; wp_walk using wpAny_loadPart' hl))
    exact ⟨_, rfl, h⟩
theorem tuple_mul0 (l : Addr) (items : Array Value) (n : Nat) (dd : Option Addr) (sl : Array (Option Value)) (x : Int) (u : Tok) (c0 : (decide (x < -(2 ^ 63)) || decide (x ≥ 2 ^ 63)) = false) (c1 : (items.isEmpty || x == 1) = false) (c2 : (decide (x ≤ 0) || items.isEmpty) = true) :
    Meets (Builtin.«tuple.__mul__» ⟨[.ref l, .int x u], []⟩) (fun _ R s => s.heap.get? l = some { cls := .type "tuple", dict := dd, data := .seq items n, slots := sl } ∧
      R (.ok (.ret (Value.ref s.heap.objs.size))) { s with heap := s.heap.push { cls := Value.type "tuple", data := Data.seq #[] }, toks := s.toks }) :=
  .of_wp fun prog w A R s h => by
    obtain ⟨hp, g, d, tk, os⟩ := s
    obtain ⟨hl, h⟩ := h
    have f1 := AutoSeq1.idx_int
    wp_walk using wpAny_loadPart' hl
    repeat (first
      | (refine wpAny_ite_false (decide_eq_false (by rw [c0]; exact Bool.false_ne_true)) ?_; wp_walk using wpAny_loadPart' hl)
      | (refine wpAny_ite_false (decide_eq_false (by rw [c1]; exact Bool.false_ne_true)) ?_; wp_walk using wpAny_loadPart' hl)
      | (refine wpAny_ite_true (decide_eq_true c2) ?_; wp_walk using wpAny_loadPart' hl))
    exact ⟨_, rfl, h⟩
/-- t * k for any k up to 1000, t not empty -/
def rRepA (K : PySem.W.Frag) : R2 := fun x y H Q => ∃ l k xs, x = .ref l ∧ y = .int k ∧ SqT K H l xs ∧ xs ≠ [] ∧ -1000 ≤ k ∧ k ≤ 1000 ∧ xs.length ≤ 1000 ∧ (k = 1 → Q (.ref l) H) ∧ (k ≠ 1 → ∀ p, H p = none → Q (.ref p) (upd H p (.tup (List.replicate k.toNat xs).flatten)))
theorem op_repA : OpR X (binaryOp .Mult) (rRepA X.K) := by
  intro pins s σ H x y v u Q I rx ry h
  obtain ⟨l, k, xs, rfl, rfl, hT, hne, h1, h2, hz, q1, q2⟩ := h
  by_cases hk2 : 2 ≤ k
  · exact op_repT pins s σ H _ _ v u Q I rx ry ⟨l, k, xs, rfl, rfl, hT, hne, hk2, h2, hz, q2 (by omega)⟩
  cases rx
  obtain ⟨t, rfl⟩ := ry
  obtain ⟨its, r, ⟨⟨cls, dd, data, sl⟩, ho, hc, n, hd⟩, hs⟩ := I.tuple hT
  simp only at hc hd
  subst hc hd
  have hle : its.length = xs.length := r.length.symm
  have hn : its ≠ [] := fun e => hne (by
    rw [e] at hle
    exact List.eq_nil_of_length_eq_zero hle.symm)
  have hi : its.toArray.isEmpty = false := by
    cases its with
    | nil => exact absurd rfl hn
    | cons a b => rfl
  have c0 : (decide (k < -(2 ^ 63)) || decide (k ≥ 2 ^ 63)) = false := by
    rw [decide_eq_false (by omega), decide_eq_false (by omega)] <;> rfl
  by_cases hk1 : k = 1
  · have c1 : (its.toArray.isEmpty || k == 1) = true := by
      rw [hk1]
      simp
    exact wpAny_binaryOp_repeat_ref (T := "tuple") (U := "int") (by decide) ⟨_, ho, rfl⟩ (fun s' => typeIs_int s' k t) noFill_tuple_mul F.fills_int_mul F.slot_int_rmul repeat_tuple F.slot_int_index.lookup
      (call_meets F.slot_int_rmul (typeIs_int s k t) F.entry_int_rmul (F.args_int_rmul_2 _ _) (int_rmul_tuple k t l its.toArray n dd sl)
        ⟨ho, rfl, ⟨_, ho, rfl⟩, call_meets F.slot_tuple_mul ⟨_, ho, rfl⟩ F.entry_tuple_mul (F.args_tuple_mul_2 _ _) (tuple_mul1 l its.toArray n dd sl k t c0 c1) ⟨ho, ⟨.ref l, H, I, rfl, q1 hk1⟩⟩⟩)
  · have c1 : (its.toArray.isEmpty || k == 1) = false := by
      rw [hi, Bool.false_or]
      exact beq_eq_false_iff_ne.mpr hk1
    have c2 : (decide (k ≤ 0) || its.toArray.isEmpty) = true := by
      rw [decide_eq_true (by omega)]
      rfl
    refine wpAny_binaryOp_repeat_ref (T := "tuple") (U := "int") (by decide) ⟨_, ho, rfl⟩ (fun s' => typeIs_int s' k t) noFill_tuple_mul F.fills_int_mul F.slot_int_rmul repeat_tuple F.slot_int_index.lookup
      (call_meets F.slot_int_rmul (typeIs_int s k t) F.entry_int_rmul (F.args_int_rmul_2 _ _) (int_rmul_tuple k t l its.toArray n dd sl)
        ⟨ho, rfl, ⟨_, ho, rfl⟩, call_meets F.slot_tuple_mul ⟨_, ho, rfl⟩ F.entry_tuple_mul (F.args_tuple_mul_2 _ _) (tuple_mul0 l its.toArray n dd sl k t c0 c1 c2) ⟨ho, ?_⟩⟩)
    have hk0 : k.toNat = 0 := by omega
    have q3 := q2 hk1
    rw [hk0] at q3
    refine ⟨.ref s.heap.objs.size, _, I.laid (t' := s.toks) (o := .tup []) (fun b ob q => Heap.get?_push_of_some _ q) (Nat.le_refl _) ?_, rfl, q3 _ (I.hok.fresh (Nat.le_refl _))⟩
    exact ⟨Nat.zero_le _, [], .nil, IsTup.new _ _⟩
theorem o_repA {K : PySem.W.Frag} (hK : X.K = K := by rfl) : OpR X (binaryOp .Mult) (rRepA K) := by
  subst hK
  exact op_repA
def rInDT (K : PySem.W.Frag) : R2 := fun x y H Q => ∃ d ds, Dp K H x d ∧ Dp K H y (.tuple ds) ∧ SeqAt.shaped d = true ∧ SeqAt.shaped (.tuple ds) = true ∧ Q (.bl (ds.any fun z => PyData.eqv z d)) H
theorem op_inDT (hu : X.A.units + 65 < cLine) : OpR X (compareOp .In) (rInDT X.K) := by
  intro pins s σ H x y v u Q I rx ry h
  obtain ⟨d, ds, hd, he, sd, se, q⟩ := h
  obtain ⟨as, r1⟩ := Dp.reads I d x v hd rx
  obtain ⟨bs, r2⟩ := Dp.reads I (.tuple ds) y u he ry
  exact SeqAt.in_tuple_reads r2 r1 (SeqAt.canLay_of_shaped se) (SeqAt.canLay_of_shaped sd) (room_in_shaped sd hu) ⟨.bl _, H, I, rfl, q⟩
theorem o_inDT {K : PySem.W.Frag} (hu : X.A.units + 65 < cLine) (hK : X.K = K := by rfl) : OpR X (compareOp .In) (rInDT K) := by
  subst hK
  exact op_inDT hu
end
section
variable {K : PySem.W.Frag} {σ : L2.St} {H : Hp} {D : Ends}
theorem r_catA {a b : Addr} {xs ys : List V} {Q : VK} (h : H a = some (.tup xs)) (h' : H b = some (.tup ys)) (hz : xs.length + ys.length ≤ sizeLine)
    (q : ∀ p H', Same H H' → H' p = some (.tup (xs ++ ys)) → Q (.ref p) H') : rCatA K (.ref a) (.ref b) H Q :=
  ⟨a, b, xs, ys, rfl, rfl, .inl (.inl h), .inl (.inl h'), hz, fun e => q b H (Same.refl H) (by rw [e]; exact h'), fun _ e => q a H (Same.refl H) (by rw [e, List.append_nil]; exact h), fun _ _ p hp => q p _ (same_upd hp) upd_same⟩
theorem r_repA {l : Addr} {xs : List V} {k : Int} {Q : VK} (h : H l = some (.tup xs)) (h0 : xs ≠ []) (h1 : 0 ≤ k) (h2 : k ≤ 1000) (h3 : xs.length ≤ 1000)
    (q : ∀ p H', Same H H' → H' p = some (.tup (List.replicate k.toNat xs).flatten) → Q (.ref p) H') : rRepA K (.ref l) (.int k) H Q :=
  ⟨l, k, xs, rfl, rfl, .inl (.inl h), h0, by omega, h2, h3, fun e => q l H (Same.refl H) (by rw [e, h]; simp), fun _ p hp => q p _ (same_upd hp) upd_same⟩
theorem r_din {td ty : TE} {Q : VK} (q : ty σ H fun y H1 => td σ H1 fun x H2 => ∃ a o, x = .ref a ∧ DGet H2 a y o ∧ Q (.bl o.isSome) H2) : tDIn ty td σ H Q := q
theorem r_dinS {a : Addr} {kvs : List (Key × V)} {s : Str} {Q : Bool → Prop} (h : H a = some (.dK kvs)) (q : Q (valV kvs (.inr s)).isSome) : ∃ a' o, V.ref a = .ref a' ∧ DGet H a' (.str s) o ∧ Q o.isSome :=
  ⟨a, _, rfl, DGet.k (k := Sum.inr s) h, q⟩
theorem r_revL {te : TE} {Q : VK} (q : te σ H fun x H1 => ∃ a xs, x = .ref a ∧ SqL K H1 a xs ∧ ∀ p, H1 p = none → Q (.ref p) (upd H1 p (.lst xs.reverse))) : tRevL K te σ H Q := q
theorem whileJ {c : TT} {tb : TS} (C : L2.St → Hp → Prop) (tail : ∀ σ H, C σ H → D.nx σ H) (q : (∀ σ H, C σ H → D.nx σ H) → tWhile c tb D σ H) : tWhile c tb D σ H := q tail
theorem ifsJ {t : TT} {a b : TS} (C : L2.St → Hp → Prop) (tail : ∀ σ H, C σ H → D.nx σ H) (q : (∀ σ H, C σ H → D.nx σ H) → tIfS t a b D σ H) : tIfS t a b D σ H := q tail
theorem r_dget2 {td ty tx : TE} {Q : VK} (q : td σ H fun x H1 => ∃ a, x = .ref a ∧ IsD H1 a ∧ ty σ H1 fun y H2 => tx σ H2 fun z H3 => ∃ o, DGet H3 a y o ∧ Q (o.getD z) H3) : tDGet2 td ty tx σ H Q := q
end
end My

namespace My
open PySem PySem.Spec PyProof.Rows L2
/-! ### promises that know that nothing is being shown (no repr is under way) -/
structure FnG (P : Program) (w : World) (K : PySem.W.Frag) (mg : Str → Option Value) (base : Heap) (CX : CXT) (k : Nat) (f : Addr) (fd : FuncData) (ps : List Str) (sp : Sp) : Prop where
  len : ∀ vs H Q E, sp vs H Q E → vs.length = ps.length
  run : ∀ (A : Around) (outer : List Env) (s : Shared) (H : Hp) (args : Args) (us : List Value) (vs : List V) (Q : VK) (E : XK), A.guards = some [] → Room k A → Env0 P w K mg base A outer s H →
    BindsTo s fd args (ps.zip us) → Vals vs us → sp vs H Q E → codeAny (model P w) A (.call (.ref f) args) (CR CX outer P w H s Q E) s
section
variable {P : Program} {w : World} {K : PySem.W.Frag} {mg : Str → Option Value} {base : Heap} {CX : CXT} {k : Nat} {f : Addr} {fd : FuncData} {ps : List Str} {sp : Sp}
theorem FnG.of (F : FnOk P w K mg base CX k f fd ps sp) : FnG P w K mg base CX k f fd ps sp := ⟨F.len, fun A outer s H args us vs Q E _ => F.run A outer s H args us vs Q E⟩
theorem okG {x qual : Str} {st : Stmt} {N : List Str} (F : Fun K x qual st f fd) (S : FnScope N ps (defScope st)) (len : ∀ vs H Q E, sp vs H Q E → vs.length = ps.length)
    (hbody : ∀ (cdv : Value) (A : Around) (outer : List Env) (s : Shared) (H : Hp) (vs : List V) (Q : VK) (E : XK), A.guards = some [] → Room k (A.deeper (envOfC qual (defScope st) s.heap.objs.size f cdv)) → sp vs H Q E →
      ∃ t, PSs (cxOf CX0 P w K mg base N qual (defScope st) f cdv A outer s H E).nox (defBody st) t ∧ t { nx := fun _ H' => Q .non H', rt := Q } (start N vs) H) : FnG P w K mg base CX0 (k + 1) f fd ps sp := by
  obtain ⟨oc, od, kV, doc, pm, an, cdv, ct, osl, rfl, lk, hcd⟩ := F.ex
  constructor
  · exact len
  intro A outer s H args us vs Q E hg hr e0 hb r hsp
  have stay : ∀ b o, base.get? b = some o → s.heap.get? b = some o := fun b o e => (e0.bs b o e).1
  have kinds : ∀ y ∈ ps.zip us, (defScope st).names.lookup y.1 = some .local ∨ ((defScope st).names.lookup y.1 = some .cell ∧ ((cellsFrom (s.heap.objs.size + 1) (defScope st).names []).lookup y.1).isSome = true) := by
    intro y hy
    obtain ⟨n, v⟩ := y
    have := S.par n (List.of_mem_zip hy).1
    rcases this with q | q
    · left; exact q
    · right; exact ⟨q, PySem.W.cellsFrom_some _ _ _ (.inl q)⟩
  refine codeAny_call_function hr.depth ((e0.mod.kin.keeps stay) _ _ lk) rfl S.co S.gen rfl (PySem.W.codeRec_of (e0.mod.kin.keeps stay) hcd) (hb _ _ _ _ ?_)
  apply wpAny_newFunctionEnv_cells S.kind kinds
  intro env he s1 x
  subst he
  constructor
  · exact (e0.mod.nolimit.keeps stay).keeps x.toInCall.keep
  apply codeAny_func
  obtain ⟨t, ht, hq⟩ := hbody cdv A outer s H vs Q E hg (hr.deeper _) hsp
  have I := inv_start (CX := CX0) (E := E) S hr.hd e0 (len _ _ _ _ hsp) r x
  apply wpAny_mono (ht.nox.run [] s1 (start N vs) H _ I hq)
  · intro fl s' hs
    cases fl with
    | ret u =>
      obtain ⟨v, _, H', J, rv, q⟩ := hs
      exact ⟨v, H', J.os, J.bare, J.base, J.hok, rv, q⟩
    | next =>
      obtain ⟨_, H', J, q⟩ := hs
      exact ⟨V.non, H', J.os, J.bare, J.base, J.hok, rfl, q⟩
    | brk => exact hs.elim fun _ z => z.elim fun _ z => z.2.elim
    | cont => exact hs.elim fun _ z => z.elim fun _ z => z.2.elim
  · exact fun _ _ z => z
/-- the law is called: nothing is under way there -/
theorem lawG {mb : Str → Option Value} {fa a : Addr} {x : Str} {s1 : Shared} {vs : List Value} {ns : List Int} (KX : K.In s1.heap) (hns : s1.heap.Ns mainGlobals mg) (hb : s1.heap.Ns builtinsNs mb)
    (hbb : ∀ x : Str, x ≠ "__name__" → mb x = bootBuiltins x) (hlim : s1.heap.NoLimit) (hg : s1.gens = #[]) (ha : s1.heap.get? a = some { cls := .type "list", data := .seq vs.toArray }) (hi : IntsAre vs ns) (hl : ns.length ≤ sizeLine) (hr : Room k callerA)
    (F : ∀ base : Heap, K.In base → base.Ns mainGlobals mg → FnG P w K mg base CX k fa fd [x] sp) (hbind : ∀ (s : Shared) (u : Value), BindsTo s fd ⟨[u], []⟩ [(x, u)])
    (hsp : ∀ H : Hp, Only H → SqL K H a (ns.map V.int) → sp [.ref a] H (fun v _ => v = .bl true) fun _ _ _ => False) (hCX : ∀ H e s', CX [] H s1 (fun _ _ _ => False) e s' → False) :
    codeAny (model P w) callerA (.call (.ref fa) ⟨[.ref a], []⟩) (fun r s' => r = .ok (.ret (.bool true)) ∧ PySem.OldK s1.heap s'.heap ∧ s'.os = s1.os ∧ AllBare s'.gens) s1 := by
  have rv := vals_ints hi
  have core : ∀ H : Hp, Only H → SqL K H a (ns.map V.int) → HOk P w H s1.heap → (∀ b, H b ≠ none → b = a) → (H a ≠ none → K.lookup a = none) →
      codeAny (model P w) callerA (.call (.ref fa) ⟨[.ref a], []⟩) (fun r s' => r = .ok (.ret (.bool true)) ∧ PySem.OldK s1.heap s'.heap ∧ s'.os = s1.os ∧ AllBare s'.gens) s1 := by
    intro H hO hS hok hA hK
    have isA : ∀ b u, H b = some u → b = a := fun b u e => hA b (by rw [e]; exact fun z => nomatch z)
    have dictK : ∀ {b : Addr} {m : Str → Option Value}, s1.heap.Ns b m → (hidT s1.heap H).Ns b m := by
      intro b m hN
      obtain ⟨o, es, ep, e, d, r⟩ := hN
      refine ⟨o, es, ep, hidT_get e ?_, d, r⟩
      cases q : H b with
      | none => rfl
      | some u =>
        cases isA b u q
        rw [ha] at e
        cases e
        exact nomatch (show Data.seq vs.toArray _ = Data.dict es ep from d)
    have kB : K.In (hidT s1.heap H) := by
      intro b o e
      refine hidT_get (KX b o e) ?_
      cases q : H b with
      | none => rfl
      | some u =>
        cases isA b u q
        rw [hK (by rw [q]; exact fun z => nomatch z)] at e
        cases e
    obtain ⟨mc, l1, l2⟩ := hlim
    have e0 : Env0 P w K mg (hidT s1.heap H) callerA [] s1 H :=
      { frames := rfl, mod := { kin := kB, glob := dictK hns, blt := ⟨mb, dictK hb, hbb⟩, nolimit := ⟨mc, dictK l1, l2⟩ }, bs := fun b o e => of_hidT e, bsz := Nat.le_of_eq (hidT_size _ _), funs := trivial, frf := (fun b hb => nomatch (show b ∈ ([] : List Addr) from hb)), hok := hok, bare := .of_eq hg }
    apply codeAny_mono ((F _ kB (dictK hns)).run callerA [] s1 H ⟨[.ref a], []⟩ [.ref a] [.ref a] _ _ rfl hr e0 (hbind s1 (.ref a)) (.cons rfl .nil) (hsp H hO hS))
    intro r s' h
    match r, h with
    | .error e, h => exact (hCX H e s' h).elim
    | .ok .next, h => exact False.elim h
    | .ok .brk, h => exact False.elim h
    | .ok .cont, h => exact False.elim h
    | .ok (.ret u), h =>
      obtain ⟨v, H', os, bare, un, hok', r', q⟩ := h
      cases (show v = .bl true from q)
      cases (show u = Value.bool true from r')
      refine ⟨rfl, PySem.OldK.of_keep fun b o e => ?_, os, bare⟩
      cases q : H b with
      | none => exact un.keep b o e q (fun z => nomatch (show b ∈ ([] : List Addr) from z)) (fun z => nomatch z)
      | some u =>
        rcases hO b with z | ⟨ob, xs, z⟩
        · rw [q] at z
          cases z
        · obtain ⟨e1, _⟩ := hok b _ z
          obtain ⟨e2, _⟩ := hok' b _ (un.frzs b ob _ z)
          rw [e] at e1
          cases e1
          exact e2
  cases hk : K.lookup a with
  | some o =>
    have e := KX a o hk
    rw [ha] at e
    cases e
    apply core (fun _ => none) (fun _ => Or.inl rfl)
    · exact .inr ⟨_, vs.toArray, _, hk, rfl, rfl, rfl, by rw [List.size_toArray, hi.length]; exact hl, by simpa using rv⟩
    · exact fun b u z => nomatch (show (none : Option HO) = some u from z)
    · exact fun b z => absurd rfl z
    · exact fun z => absurd rfl z
  | none =>
    have at1 : ∀ b u, (if b = a then some (HO.frz { cls := .type "list", data := .seq vs.toArray } (.lst (ns.map V.int))) else none) = some u → b = a := fun b u z => by
      by_cases h : b = a
      · exact h
      · rw [if_neg h] at z
        cases z
    apply core (fun b => if b = a then some (.frz { cls := .type "list", data := .seq vs.toArray } (.lst (ns.map V.int))) else none)
    · intro b
      by_cases h : b = a
      · right; exact ⟨_, _, if_pos h⟩
      · left; exact if_neg h
    · exact .inl (.inr ⟨{ cls := .type "list", data := .seq vs.toArray }, if_pos rfl⟩)
    · intro b u z
      cases at1 b u z
      have z2 := (if_pos rfl).symm.trans z
      cases z2
      exact ⟨ha, by rw [List.length_map]; exact hl, vs, _, rv, ha⟩
    · intro b z
      by_cases h : b = a
      · exact h
      · exact absurd (if_neg h) z
    · exact fun _ => hk
end
theorem walkG {l : PySem.W.OpenLaw} {n k : Nat} {q : Program} {loose : List Str} {XP : (Str → Option Value) → Heap → Prop} {YP : World → Heap → Prop} {d : DefRec} {K : Params → PySem.W.Frag} {CX : World → CXT} {sp : World → Sp} {x : Str}
    (hn : l.most = some n) (hn2 : n ≤ sizeLine) (hdf : d.params.defaults = []) (hr : Room k callerA) (hY : ∀ (w : World) (h : Heap), YP w h → (K w.params).In h)
    (F : ∀ (w : World) (mg : Str → Option Value) (fa : Addr) (h : Heap), (K w.params).In h → h.Ns mainGlobals mg → mg d.name = some (.ref fa) → ∃ fd : FuncData, (∀ (s : Shared) (u : Value), BindsTo s fd ⟨[u], []⟩ [(x, u)]) ∧
      ∀ base : Heap, (K w.params).In base → base.Ns mainGlobals mg → FnG l.prog w (K w.params) mg base (CX w) k fa fd [x] (sp w))
    (hsp : ∀ (w : World) (H : Hp) (a : Addr) (ns : List Int), ns.length ≤ n → Only H → SqL (K w.params) H a (ns.map V.int) → sp w [.ref a] H (fun v _ => v = .bl true) fun _ _ _ => False)
    (hCX : ∀ (w : World) (H : Hp) (s : Shared) (e : Value) (s' : Shared), CX w [] H s (fun _ _ _ => False) e s' → False) : PySem.W.WalkO q loose XP YP l.row.toRowW d [] (fun f vs => PySem.call f vs) := by
  apply Att.attach_call hn hdf
  intro w s0 s1 mg mb fa o pm cd doc a vs ns G Y ho hd hcd hmg hobj hints hlen hg
  obtain ⟨fd, hb, hF⟩ := F w mg fa _ (hY w _ Y) G.T.g hmg
  exact lawG (hY w _ Y) G.T.g G.T.b G.T.builtins G.T.nolimit hg hobj hints (Nat.le_trans hlen hn2) hr hF hb (fun H hO hS => hsp w H a ns hlen hO hS) fun H e s' => hCX w H s1 e s'
/-! ### calls of such -/
section
variable {X : Cx} {CX : CXT} {k : Nat} {f : Addr} {fd : FuncData} {ps : List Str} {sp : Sp} {dvs : List V} {ds : List Value} {E : XK} {x : Str} {p pos : Pos} {e : Expr} {es : List Expr} {t : TA}
theorem runG {pins : List (Addr × Obj)} {σ : L2.St} {H : Hp} {s : Shared} {Q : VK} {us : List Value} {vs : List V} (F : FnG X.prog X.w X.K X.mg X.base CX k f fd ps sp) (hG : X.A.guards = some []) (hr : Room k X.A) (hb : Binds X.K fd ps ds) (hd : Vals dvs ds) (hx : Passes CX X E)
    (I : Inv X pins σ H s) (r : Vals vs us) (h : sp (vs ++ dvs) H Q E) : wpAny (model X.prog X.w) X.A (call (.ref f) us) (EP X pins σ Q) X.xe s := by
  have r2 := r.append hd
  apply wpAny_call
  apply codeAny_mono (F.run X.A X.stack s H ⟨us, []⟩ (us ++ ds) (vs ++ dvs) Q E hG hr I.env0 (hb s us I.kIn (by rw [← r2.length]; exact F.len _ _ _ _ h)) r2 h)
  intro r s' hq
  match r, hq with
  | .error e, hq => exact hx pins σ H s e s' I hq
  | .ok (.ret u), hq => exact I.after hq
  | .ok .next, hq => exact False.elim hq
  | .ok .brk, hq => exact False.elim hq
  | .ok .cont, hq => exact False.elim hq
theorem callG (F : FnG X.prog X.w X.K X.mg X.base CX k f fd ps sp) (hG : X.A.guards = some []) (hr : Room k X.A) (hg : Gl X x) (hm : X.mg x = some (.ref f)) (hk : PySem.W.keepIn X.K (.ref f) = true) (hb : Binds X.K fd ps ds) (hd : Vals dvs ds) (hx : Passes CX X E)
    (ha : PA X (e :: es) t) (hdb : (x == ("__debug__" : Str)) = false := by decide) (he : starEach (e :: es) X.env = (false, eval e X.env) :: starEach es X.env := by rfl) (hpl : (backTo pos (starEach es X.env)).any (·.1) = false := by rfl) : PE X (.Call (.Name x p) (e :: es) [] pos) (tCall sp dvs E t) := by
  constructor
  intro pins s σ H Q I h
  apply wpAny_Call_Name_kw
  apply ld_glob I hg hm _ hdb
  apply PySem.W.callWith_K (h₀ := X.base) I.ok.mod.kin hk _ he hpl
  exact thn (ha.run pos pins s σ H _ I h) fun us s1 ⟨vs, H1, I1, r, q⟩ => ⟨I1.kIn, runG F hG hr hb hd hx I1 r q⟩
end
/-! ### repr of data -/
/-- repr(x), x data: None, bools, ints below 1920 bits, texts, lists and tuples of such -/
def wReprD (K : PySem.W.Frag) : List V → Hp → VK → Prop := fun xs H Q => ∃ (a : Addr) (d : PyData), xs = [.ref a] ∧ Dp K H (.ref a) d ∧ d.showable = true ∧ d.hasDict = false ∧ d.depth ≤ 50 ∧ d.shown.length ≤ sizeLine ∧ Q (.str d.shown) H
theorem c_reprD {X : Cx} {K : PySem.W.Frag} (hG : X.A.guards = some []) (hu : X.A.units + 64 < cLine) (hK : X.K = K := by rfl) : CallR X (.builtin "repr") (wReprD K) := by
  subst hK
  intro pins s σ H xs us Q I r h
  obtain ⟨a, d, rfl, hd, h1, h2, h3, h4, q⟩ := h
  obtain ⟨u, rfl, rx⟩ := vals1 r
  obtain ⟨as, rd⟩ := Dp.reads I d (.ref a) u hd rx
  cases rx
  exact repr_of_reads' rd h1 (PyData.noDict_hsm h2) hG (by omega) (fun _ _ e => e) (fun h' u tk k => ⟨.str d.shown, H, I.kept k, ⟨_, rfl⟩, q⟩) h4
end My

namespace My
open PySem PySem.Spec PyProof.Rows L2
/-! ### exceptions held as values: made, stored into, read, asked for their class, shown -/
/-- what is asked of the mro of an own exception class whose tp_new is B's -/
structure Tl (B : String) (bm : List Value) : Prop where
  hB : bm.contains (.type B) = true
  hA : bm.contains (.type "AttributeError") = false
  hN : bm.contains (.type "NameError") = false
section
variable {M : Model} {prog : Program} {w : World} {A : Around} {E : Value → Shared → Prop} {R : Result → Shared → Prop} {h : Heap} {g : Array GenState} {d : Drawn} {t : Nat} {os : OsState}
variable {nm q : Str} {C N : Addr} {bs bm bmB : List Value} {hdct : Bool} {sn : List Str} {sub : List Value} {ab : Bool} {col : Option Bool} {dd : Option Addr} {k0 k1 k2 k3 k5 : Option Value} {B newId initId : String}
theorem x_check (F : ExcBaseFacts B newId initId bmB) (T : Tl B bm) {rest : List Value} {Q : Unit → Shared → Prop}
    (hC : h.get? C = some (excClassObj nm q C N bs bm hdct sn sub ab col dd k0 k1 k2 k3 k5 newId)) (hq : Q () ⟨h, g, d, t, os⟩) : wpAny M A (checkBuiltinCall newId ⟨.ref C :: rest, []⟩) Q E ⟨h, g, d, t, os⟩ := by
  have c1 : (Value.ref C :: bm).contains (.type B) = true := by rw [List.contains_cons, T.hB, Bool.or_true]
  have s := F.noStar
  simp only [checkBuiltinCall, F.newKind, F.newSplit, F.newRow]
  repeat (first | refine wpAny_loadPart_at hC ?_ | (refine wpAny_isSubtype_exc hC ?_; rw [c1]) | refine wpAny_staticBase_exc hC ?_ | refine wpAny_madeBy_exc hC ?_ | simp only [bne_self_eq_false, Bool.false_eq_true, if_false] | wp_step)
  exact hq
theorem x_new (F : ExcBaseFacts B newId initId bmB) (T : Tl B bm) {rest : List Value}
    (hC : h.get? C = some (excClassObj nm q C N bs bm hdct sn sub ab col dd k0 k1 k2 k3 k5 newId))
    (hq : R (.ok (.ret (.ref (h.objs.size + 1)))) ⟨(h.push (PySem.W.kdv_tup rest)).push (PySem.HandSPX.excO C h.objs.size), g, d, t, os⟩) (hz : rest.length ≤ sizeLine) :
    codeAny (model prog w) A (.builtin newId ⟨.ref C :: rest, []⟩) R ⟨h, g, d, t, os⟩ := by
  have e := F.ends
  have c1 : (Value.ref C :: bm).contains (.type B) = true := by rw [List.contains_cons, T.hB, Bool.or_true]
  have c2 : (Value.ref C :: bm).contains (.type "AttributeError") = false := by rw [List.contains_cons, T.hA]; rfl
  have c3 : (Value.ref C :: bm).contains (.type "NameError") = false := by rw [List.contains_cons, T.hN]; rfl
  refine codeAny_builtinAt F.entry ?_
  unfold Builtin.«BaseException.__new__»
  refine PySem.wpAt_bind ?_
  show PySem.wpAt _ _ _ (stack >>= _) _ _ _
  refine PySem.wpAt_bind (PySem.wpAt_stack fun p below => PySem.wpAt_of_wpAny ?_)
  wp_walk
  refine PySem.wpAt_of_wpAny ?_
  rw [F.owner]
  repeat (first | with_reducible refine wpAny_madeHere_exc F.canon hC ?_ | with_reducible refine wpAny_loadPart_at hC ?_ | (with_reducible refine wpAny_isSubtype_exc hC ?_; first | rw [c1] | rw [c2] | rw [c3]) | wp_step)
  show R _ _
  rw [Heap.size_push]
  exact hq
theorem x_type (F : ExcBaseFacts B newId initId bmB) (T : Tl B bm) {rest : List Value} {fI : Addr} {Q : Fin → Shared → Prop}
    (hC : h.get? C = some (excClassObj nm q C N bs bm hdct sn sub ab col dd k0 k1 k2 k3 k5 newId))
    (hi : PySem.W.Looks (model prog w) h (typeLookup (.ref C) "__init__") (some (.ref fI))) (hb : ∀ self, PySem.W.Looks (model prog w) h (bindSpecial (.ref fI) self) (.ref fI, [self])) (hz : rest.length ≤ sizeLine)
    (hq : codeAny (model prog w) A (.call (.ref fI) ⟨.ref (h.objs.size + 1) :: rest, []⟩)
      (fun r s' => match r with | .ok (.ret v) => v = .none ∧ Q (.done (.ret (.ref (h.objs.size + 1)))) s' | .ok _ => False | .error e => E e s')
      ⟨(h.push (PySem.W.kdv_tup rest)).push (PySem.HandSPX.excO C h.objs.size), g, d, t, os⟩) :
    wpAny (model prog w) A (Builtin.«type.__call__» ⟨.ref C :: rest, []⟩) Q E ⟨h, g, d, t, os⟩ := by
  repeat (first | with_reducible refine wpAny_loadPart_at hC ?_ | with_reducible refine wpAny_madeBy_exc hC ?_ | wp_step)
  refine codeAny_call_builtin_code (Code.quiet_builtin _ F.quiet) (x_check F T hC ?_)
  refine x_new F T hC ?_ hz
  show wpAny _ _ _ _ _ _
  have k : ∀ b o, h.get? b = some o → ((h.push (PySem.W.kdv_tup rest)).push (PySem.HandSPX.excO C h.objs.size)).get? b = some o := fun b o e => Heap.get?_push_of_some _ (Heap.get?_push_of_some _ e)
  have hget : ((h.push (PySem.W.kdv_tup rest)).push (PySem.HandSPX.excO C h.objs.size)).get? (h.objs.size + 1) = some (PySem.HandSPX.excO C h.objs.size) := by heap_get
  have cc : (Value.ref C :: bm).contains (.ref C) = true := by simp
  unfold isInstance
  repeat (first | with_reducible refine wpAny_loadPart_at hget ?_ | (with_reducible refine wpAny_isSubtype_exc (k _ _ hC) ?_; rw [cc]) | wp_step)
  show wpAny _ _ (typeLookup (.ref C) _) _ _ _
  refine (hi.keeps k).at (wpAny_holding (wpAny_bind (((hb (.ref (h.objs.size + 1))).keeps k).at (wpAny_bind (wpAny_call (codeAny_mono hq fun r s' z => ?_))))))
  rcases r with e | (_ | v | _ | _) <;> first | exact z | exact z.elim | skip
  obtain ⟨rfl, z⟩ := z
  first
    | exact wpAny_pure (wpAny_pure z)
    | (wp_walk; exact z)
theorem x_call (F : ExcBaseFacts B newId initId bmB) (T : Tl B bm) {rest : List Value} {fI : Addr}
    (hC : h.get? C = some (excClassObj nm q C N bs bm hdct sn sub ab col dd k0 k1 k2 k3 k5 newId))
    (hi : PySem.W.Looks (model prog w) h (typeLookup (.ref C) "__init__") (some (.ref fI))) (hb : ∀ self, PySem.W.Looks (model prog w) h (bindSpecial (.ref fI) self) (.ref fI, [self])) (hz : rest.length ≤ sizeLine)
    (hq : codeAny (model prog w) (A.under (.builtin "type.__call__" ⟨.ref C :: rest, []⟩)) (.call (.ref fI) ⟨.ref (h.objs.size + 1) :: rest, []⟩) (PySem.W.InitBack (h.objs.size + 1) R)
      ⟨(h.push (PySem.W.kdv_tup rest)).push (PySem.HandSPX.excO C h.objs.size), g, d, t, os⟩) :
    codeAny (model prog w) A (.call (.ref C) ⟨rest, []⟩) R ⟨h, g, d, t, os⟩ := by
  have f1 := tc_lookup
  have f2 := tc_bind (.ref C)
  have ty : (⟨h, g, d, t, os⟩ : Shared).TypeIs (.ref C) "type" := ⟨_, hC, rfl⟩
  refine codeAny_of_tree ?_
  show wpAny _ _ (callAny (.ref C) _) _ _ _
  repeat (any_goals (first | assumption | with_reducible refine wpAny_loadPart_at hC ?_ | wp_step))
  refine ⟨rfl, codeAny_call_builtin_at (Code.quiet_builtin _ (by decide +kernel)) entry_typeCall (wpAny_check_type_call_sub hC (x_type F T hC hi hb hz (codeAny_mono hq fun r s' z => ?_)))⟩
  rcases r with e | (v | _ | _ | _) <;> exact z
end
/-! ### in the abstract heap -/
/-- the facts of the written part that x_call asks -/
def xInB (K : PySem.W.Frag) (C : Addr) (B newId : String) : Bool := match K.lookup C with
  | some ⟨.type "type", _, .cls cd, sl⟩ => (match cd.mro, sl.toList with
    | .ref C' :: bm, [_, _, _, _, some (.builtin n), _] => C' == C && n == newId && !cd.hasDel && cd.hasDict && bm.contains (.type B) && !bm.contains (.type "AttributeError") && !bm.contains (.type "NameError") && bm.contains (.type "object")
    | _, _ => false)
  | _ => false
theorem xIn_of {K : PySem.W.Frag} {C : Addr} {B newId : String} (q : xInB K C B newId = true) : ∃ nm N qn bs bm sn sub ab col dd k0 k1 k2 k3 k5,
    K.lookup C = some (excClassObj nm qn C N bs bm true sn sub ab col dd k0 k1 k2 k3 k5 newId) ∧ Tl B bm ∧ bm.contains (.type "object") = true := by
  unfold xInB at q
  split at q
  · rename_i dd cd sl ho
    split at q
    · rename_i C' bm k0 k1 k2 k3 n k5 hm hs
      simp only [Bool.and_eq_true, beq_iff_eq, Bool.not_eq_true'] at q
      obtain ⟨⟨⟨⟨⟨⟨⟨rfl, rfl⟩, hdel⟩, hd⟩, h1⟩, h2⟩, h3⟩, h4⟩ := q
      obtain ⟨nm, bs, mro, ns, qn, hd', sn, sub, ab, col, del⟩ := cd
      dsimp only at hm hdel hd
      subst hm hdel hd
      have hsl : sl = #[k0, k1, k2, k3, some (.builtin n), k5] := by
        obtain ⟨l⟩ := sl
        simp only at hs
        rw [hs]
      subst hsl
      exact ⟨nm, ns, qn, bs, bm, sn, sub, ab, col, dd, k0, k1, k2, k3, k5, ho, ⟨h1, h2, h3⟩, h4⟩
    · cases q
  · cases q
end My

namespace My
open PySem PySem.Spec PyProof.Rows L2
/-- at e: an exception of the class at C as it was made, without a dict; its args at t -/
def exA (e C t : Addr) : HO := .ext fun h => h.get? e = some ({ cls := .ref C, data := .fields #[.ref t, .none, .none, .none, .bool false, .none] } : Obj)
theorem exA_ok {P : Program} {w : World} {H : Hp} {h : Heap} {e C t : Addr} (he : h.get? e = some ({ cls := .ref C, data := .fields #[.ref t, .none, .none, .none, .bool false, .none] } : Obj)) : ObjOk P w H h e (exA e C t) :=
  ⟨he, ⟨_, he⟩, fun h1 h2 z k => k _ z⟩
theorem exA_at {P : Program} {w : World} {H : Hp} {h : Heap} {e C t : Addr} (hok : HOk P w H h) (he : H e = some (exA e C t)) : h.get? e = some ({ cls := .ref C, data := .fields #[.ref t, .none, .none, .none, .bool false, .none] } : Obj) := by
  have x : ObjOk P w H h e (.ext fun h => h.get? e = some ({ cls := .ref C, data := .fields #[.ref t, .none, .none, .none, .bool false, .none] } : Obj)) := hok e _ he
  exact x.1
/-- what is asked of an own exception class -/
structure XC (K : PySem.W.Frag) (C : Addr) : Prop extends L2.ExcC K C where
  sa : PySem.W.findIn K (.ref C) "__setattr__" = some (some (.builtin "object.__setattr__"))
  kp : PySem.W.keepIn K (.ref C) = true
  st : PySem.W.findIn K (.ref C) "__str__" = some (some (.builtin "BaseException.__str__")) ∨ PySem.W.findIn K (.ref C) "__str__" = some (some (.builtin "KeyError.__str__"))
def xcB (K : PySem.W.Frag) (C : Addr) : Bool :=
  decide (PySem.W.findIn K (.ref C) "__getattribute__" = some (some (.builtin "BaseException.__getattribute__"))) &&
  decide (PySem.W.findIn K (.ref C) "__getattr__" = some none) &&
  decide (PySem.W.subIn K (.ref C) (.type "BaseException") = some true) &&
  PySem.W.hasDictIn K C &&
  decide (PySem.W.findIn K (.ref C) "__class__" = some (some (.builtin "object.__class__"))) &&
  decide (PySem.W.specialIn K (.builtin "object.__class__") "__get__" = some (some (.builtin "getset_descriptor.__get__"))) &&
  decide (PySem.W.takesIn K (.builtin "object.__class__") = some true) &&
  decide (PySem.W.mroIn K C (.type "object") = some true) &&
  decide (PySem.W.findIn K (.ref C) "__setattr__" = some (some (.builtin "object.__setattr__"))) &&
  PySem.W.keepIn K (.ref C) &&
  (decide (PySem.W.findIn K (.ref C) "__str__" = some (some (.builtin "BaseException.__str__"))) || decide (PySem.W.findIn K (.ref C) "__str__" = some (some (.builtin "KeyError.__str__"))))
theorem xcB_ok {K : PySem.W.Frag} {C : Addr} (h : xcB K C = true) : XC K C := by
  unfold xcB at h
  simp only [Bool.and_eq_true, Bool.or_eq_true, decide_eq_true_eq] at h
  obtain ⟨⟨⟨⟨⟨⟨⟨⟨⟨⟨h1, h2⟩, h3⟩, h4⟩, h5⟩, h6⟩, h7⟩, h8⟩, h9⟩, h10⟩, h11⟩ := h
  exact { hg := h1, hk := h2, hs := h3, hd := h4, ha := h5, hn := h6, ht := h7, hm := h8, sa := h9, kp := h10, st := h11 }
/-- an exception of the class at C, at a -/
def XAt (H : Hp) (a C : Addr) : Prop := (∃ t, H a = some (exA a C t)) ∨ ∃ dx fs, H a = some (exo a C (some dx)) ∧ H dx = some (exd dx fs)
section
variable {X : Cx} {CX : CXT} {pins : List (Addr × Obj)} {σ : L2.St} {H : Hp} {s : Shared} {a C f : Addr} {k : Nat} {sp : Sp} {E : XK} {x : Str} {e : Expr} {es : List Expr} {te to : TE} {ta : TA} {p pos : Pos} {fd : FuncData} {ps : List Str}
theorem xat_inst (I : Inv X pins σ H s) (h : XAt H a C) : ∃ ox od, PySem.W.InstAt s.heap a ox C od := by
  rcases h with ⟨t, h⟩ | ⟨dx, fs, h, hd⟩
  · exact ⟨_, none, exA_at I.hok h, rfl, rfl, trivial⟩
  · obtain ⟨t1, ho⟩ := exo_at I.hok h
    obtain ⟨mA, hns, _⟩ := exd_at I.hok hd
    obtain ⟨od, hod, _⟩ := lookIn_ns hns
    exact ⟨_, some od, ho, rfl, rfl, hod⟩
/-- isinstance(e, c) of such an exception -/
def rIsX (K : PySem.W.Frag) : List V → Hp → VK → Prop := fun xs H Q => ∃ (a C : Addr) (c : V) (u : Value) (b : Bool), xs = [.ref a, c] ∧ XAt H a C ∧ XC K C ∧ ClsV c u ∧ PySem.W.kitOne K (.ref C) u = some b ∧ Q (.bl b) H
theorem call_isX {K : PySem.W.Frag} (hK : X.K = K := by rfl) : CallR X (.builtin "isinstance") (rIsX K) := by
  subst hK
  intro pins s σ H xs us Q I r h
  obtain ⟨a, C, c, u, b, rfl, hx, T, k, e, q⟩ := h
  obtain ⟨u1, u2, rfl, r1, r2⟩ := vals2 r
  have e2 := k.eq r2
  subst e2
  cases (show u1 = Value.ref a from r1)
  obtain ⟨ox, od, J⟩ := xat_inst I hx
  have hcl : (PySem.W.clsIn X.K C).isSome = true := by
    obtain ⟨cd, hc, _⟩ := PySem.W.any_some T.hd
    rw [hc]
    rfl
  exact PySem.W.kia_one (PySem.W.kitx_exc hcl T.hg T.hk T.hs T.ha T.hn T.ht T.hm) I.kIn J e (fun z => nomatch z) fun tk => ⟨.bl b, H, I.tok tk, rfl, q⟩
theorem ne_of_none' {h : Heap} {b t : Addr} {v : Obj} (q : h.get? b = some v) (n : h.get? t = none) : b ≠ t := fun z => by
  rw [z, n] at q
  cases q
/-- two new objects -/
theorem laid2 {h' : Heap} {t a : Addr} {o u : HO} {t' : Nat} (I : Inv X pins σ H s) (kp : ∀ b v, s.heap.get? b = some v → h'.get? b = some v) (n1 : s.heap.get? t = none) (n2 : s.heap.get? a = none) (h1 : H t = none) (h2 : H a = none) (ne : a ≠ t)
    (o1 : ObjOk X.prog X.w (upd (upd H t o) a u) h' t o) (o2 : ObjOk X.prog X.w (upd (upd H t o) a u) h' a u) : Inv X pins σ (upd (upd H t o) a u) { s with heap := h', toks := t' } := by
  have na : ∀ {b : Addr} {v : Obj}, s.heap.get? b = some v → b ≠ t ∧ b ≠ a := fun {b v} q => ⟨ne_of_none' q n1, ne_of_none' q n2⟩
  have nH : ∀ {b : Addr} {v : HO}, H b = some v → (upd (upd H t o) a u) b = some v := fun {b v} q => by
    rw [upd_ne (ne_of_none q h2), upd_ne (ne_of_none q h1)]
    exact q
  refine I.un (t' := t') {
    keep := fun b v q _ _ _ => kp b v q
    slot := fun b v q _ _ _ => ⟨v.slots, kp b v q⟩
    free := fun b v q n _ => by rw [upd_ne (na q).2, upd_ne (na q).1]; exact n
    there := fun b v q _ => ⟨v, kp b v q⟩
    tups := fun b xs q => nH q
    frzs := fun b v w q => nH q
    tbls := fun b ps q => ⟨#[], by rw [nH q]; simp⟩ } fun b v q => ?_
  by_cases hb : b = a
  · subst hb
    rw [upd_same] at q
    cases q
    exact o2
  · rw [upd_ne hb] at q
    by_cases hd : b = t
    · subst hd
      rw [upd_same] at q
      cases q
      exact o1
    · rw [upd_ne hd] at q
      exact (I.hok b v q).stay (fun c v _ z => kp c v z) (fun c hc => nH hc) (fun c xs hc => nH hc)
/-- X(e), an own exception class without own __init__: its args stand -/
theorem pe_mkA {bmB : List Value} {B newId initId : String} (F : ExcBaseFacts B newId initId bmB) (q : PySem.W.excIn X.K C bmB newId = true) (gC : X.mg x = some (.ref C)) (kC : PySem.W.keepIn X.K (.ref C) = true) (hg : Gl X x)
    (he : PE X e te) (hs : starEach [e] X.env = (false, eval e X.env) :: starEach [] X.env := by rfl) (hdb : (x == ("__debug__" : Str)) = false := by decide) :
    PE X (.Call (.Name x p) [e] [] pos) (fun σ H Q => te σ H fun v H1 => ∀ t a, H1 t = none → H1 a = none → a ≠ t → Q (.ref a) (upd (upd H1 t (.tup [v])) a (exA a C t))) := by
  refine ⟨fun pins s σ H Q I h => ?_⟩
  refine wpAny_Call_Name_kw (ld_glob I hg gC ?_ hdb)
  refine PySem.W.callWith_K (h₀ := X.base) I.ok.mod.kin kC ?_ hs (by rfl)
  rw [hs]
  show wpAny _ _ (spliced ((false, eval e X.env) :: backTo pos (starEach [] X.env))) _ _ s
  refine Calls.spliced_cons (thn (he.run pins s σ H _ I h) fun u s1 ⟨v, H1, I1, r1, q1⟩ => ?_)
  refine Calls.spliced_nil ⟨I1.kIn, ?_⟩
  show wpAny _ _ (call (.ref C) [u]) _ _ _
  obtain ⟨bm, N, nm, qn, bs, hdct, sn, sub, ab, col, dd, k0, k1, k2, k3, k5, mN, hC, hN, hni, T⟩ := exc_obj I1.kIn q
  refine wpAny_call_exc_subT F T hC hN hni (fun h' a hm => ?_) (by show 1 ≤ sizeLine; rw [sizeLine_eq]; omega)
  have hn : H1 a = none := I1.hok.gone hm.new
  obtain ⟨t, ht, hnt, htt⟩ := hm.there
  have hn2 : H1 t = none := I1.hok.gone hnt
  have ne : a ≠ t := fun z => by
    rw [z] at ht
    rw [ht] at htt
    cases htt
  refine ⟨.ref a, _, laid2 I1 hm.keeps hnt hm.new hn2 hn ne ?_ (exA_ok ht), rfl, q1 t a hn2 hn ne⟩
  exact ⟨by show 1 ≤ sizeLine; rw [sizeLine_eq]; omega, [u], .cons r1 .nil, _, htt, rfl, _, rfl⟩
/-- X(e, ..), an own exception class with an own __init__ that is walked as a def -/
theorem pe_mkX {bmB : List Value} {B newId initId : String} (F : ExcBaseFacts B newId initId bmB) (q : xInB X.K C B newId = true) (kC : PySem.W.keepIn X.K (.ref C) = true) (iC : PySem.W.findIn X.K (.ref C) "__init__" = some (some (.ref f))) (tI : PySem.W.typeIn X.K (.ref f) = some (.type "function"))
    (F1 : FnOk X.prog X.w X.K X.mg X.base CX k f fd ps sp) (hr : Room (k + 1) X.A) (hb : Binds X.K fd ps []) (hps : ps.length ≤ 100) (hx : Passes CX X (fun _ _ _ => False)) (hg : Gl X x) (hm : X.mg x = some (.ref C)) (ha : PA X (e :: es) ta)
    (hdb : (x == ("__debug__" : Str)) = false := by decide) (he : starEach (e :: es) X.env = (false, eval e X.env) :: starEach es X.env := by rfl) (hpl : (backTo pos (starEach es X.env)).any (·.1) = false := by rfl) :
    PE X (.Call (.Name x p) (e :: es) [] pos) (fun σ H Q => ta σ H fun vs H1 => ∀ a, H1 a = none → sp (V.ref a :: vs) (upd H1 a (exo a C none)) (fun v H2 => v = .non ∧ Q (.ref a) H2) (fun _ _ _ => False)) := by
  refine ⟨fun pins s σ H Q I h => ?_⟩
  obtain ⟨nm, N, qn, bs, bm, sn, sub, ab, col, dd, k0, k1, k2, k3, k5, hC, T, _⟩ := xIn_of q
  refine wpAny_Call_Name_kw (ld_glob I hg hm ?_ hdb)
  refine PySem.W.callWith_K (h₀ := X.base) I.ok.mod.kin kC (thn (ha.run pos pins s σ H _ I h) fun us s1 ⟨vs, H1, I1, r1, q1⟩ => ⟨I1.kIn, ?_⟩) he hpl
  show wpAny _ _ (call (.ref C) us) _ _ _
  obtain ⟨hp, g, dr, tk, os⟩ := s1
  have hsz : hp.objs.size ≤ hp.objs.size + 1 := Nat.le_succ _
  have hn : H1 (hp.objs.size + 1) = none := I1.hok.fresh hsz
  have hq := q1 (hp.objs.size + 1) hn
  have kk : ∀ b o, hp.get? b = some o → ((hp.push (PySem.W.kdv_tup us)).push (PySem.HandSPX.excO C hp.objs.size)).get? b = some o := fun b o e => Heap.get?_push_of_some _ (Heap.get?_push_of_some _ e)
  have hget : ((hp.push (PySem.W.kdv_tup us)).push (PySem.HandSPX.excO C hp.objs.size)).get? (hp.objs.size + 1) = some (PySem.HandSPX.excO C hp.objs.size) := by heap_get
  have I2 : Inv X pins σ (upd H1 (hp.objs.size + 1) (exo (hp.objs.size + 1) C none)) ⟨(hp.push (PySem.W.kdv_tup us)).push (PySem.HandSPX.excO C hp.objs.size), g, dr, tk, os⟩ :=
    I1.laid (t' := tk) (a := hp.objs.size + 1) (o := exo (hp.objs.size + 1) C none) (h' := (hp.push (PySem.W.kdv_tup us)).push (PySem.HandSPX.excO C hp.objs.size)) kk hsz (exo_ok hget)
  have r2 : Vals (V.ref (hp.objs.size + 1) :: vs) (Value.ref (hp.objs.size + 1) :: us) := .cons rfl r1
  have hl : (Value.ref (hp.objs.size + 1) :: us).length = ps.length := by
    rw [← r2.length]
    exact F1.len _ _ _ _ hq
  refine wpAny_call (x_call F T (I1.kIn _ _ hC) (PySem.W.looks_findIn I1.kIn iC) (fun self => PySem.W.bind_fn I1.kIn self tI) ?_
    (codeAny_mono (F1.run _ X.stack _ _ ⟨Value.ref (hp.objs.size + 1) :: us, []⟩ (Value.ref (hp.objs.size + 1) :: us) _ _ (fun _ _ _ => False) (hr.make C us []) (I2.env0.make C us [])
      (by have z := hb _ (Value.ref (hp.objs.size + 1) :: us) I2.kIn (by rw [List.append_nil]; exact hl); rw [List.append_nil] at z; exact z) r2 hq) fun r s' hq' => ?_))
  · have z := hl
    rw [List.length_cons] at z
    rw [sizeLine_eq]
    omega
  · cases r with
    | error er => exact hx pins σ _ _ er s' I2 hq'
    | ok fl =>
      cases fl with
      | ret u =>
        obtain ⟨v, H', I3, rv, ev, q3⟩ := I2.after hq'
        subst ev
        exact ⟨rv, ⟨V.ref (hp.objs.size + 1), H', I3, rfl, q3⟩⟩
      | next => exact False.elim hq'
      | brk => exact False.elim hq'
      | cont => exact False.elim hq'
end
theorem keyStore : StoreFacts "KeyError" [.type "KeyError", .type "LookupError", .type "Exception", .type "BaseException", .type "object"] "object.__setattr__" "object" where
  mro := by kernel_rfl
  slot := .of (owner := "object") (n := "__setattr__") (by rw [typeLookup_type, builtinLookup_eq_fast]; kernel_rfl) (by decide +kernel) (by decide +kernel) (by decide +kernel)
    (by first | exact .inl (by decide +kernel) | exact .inr (by decide +kernel)) (by rw [isSubtype_type]; kernel_rfl)
  entry := PySem.F.entry_object_sa
  kind := by decide +kernel
  split := by decide +kernel
  hasOwner := by decide +kernel
  args := fun a b c => by unfold argsOk; kernel_rfl
  passes := fun self => by kernel_rfl
section
open Builtin Builtin.ObjectAttr
variable {prog : Program} {w : World} {A : Around} {R : Result → Shared → Prop} {hp : Heap} {g : Array GenState} {d : Drawn} {t : Nat} {os : OsState}
theorem x_osa {K : PySem.W.Frag} {name : Str} {tk : Tok} {v : Value} {x C : Addr} {fv : Array Value} {B : String} {bmB : List Value} (SF : StoreFacts B bmB "object.__setattr__" "object")
    (X : K.In hp) (hx : hp.get? x = some { cls := .ref C, data := .fields fv }) (ho : PySem.W.excOver K C bmB = true) (hh : PySem.W.hasDictIn K C = true) (ha : PySem.W.takerIn K C name = some none)
    (hq : ∀ h' tk' dx, (∀ b o, b ≠ x → hp.get? b = some o → h'.get? b = some o) → hp.objs.size ≤ dx → dx ≠ x → h'.get? x = some { cls := .ref C, dict := some dx, data := .fields fv } →
      h'.Ns1 dx (fun y => if y = name then some v else none) → R (.ok (.ret .none)) ⟨h', g, d, tk', os⟩) :
    codeAny (model prog w) A (.call (.builtin "object.__setattr__") ⟨[.ref x, .str name tk, v], []⟩) R ⟨hp, g, d, t, os⟩ := by
  have I : PySem.W.InstAt hp x { cls := .ref C, data := .fields fv } C none := ⟨hx, rfl, rfl, trivial⟩
  refine PySem.W.osa_openX SF X I ho ha fun b => ?_
  obtain ⟨cd, hcd, hd⟩ := PySem.W.any_some hh
  have hcls : PySem.W.Looks (model prog w) hp (classData C) cd := PySem.W.looks_clsIn X hcd
  have hxs : x ≠ hp.objs.size := Nat.ne_of_lt (Heap.lt_size hx)
  obtain ⟨nm, bs, mro, ns, qn, hd', sn, sb, ab, col, del⟩ := cd
  dsimp only at hd
  subst hd
  dsimp only
  unfold storeInOwnDict ownDictForStores
  repeat (first | with_reducible refine PySem.HandSPX.store_in_new ?_ ?_ | with_reducible refine wpAny_loadPart_at hx ?_ | with_reducible refine hcls.at ?_ | wp_step)
  · exact ⟨_, #[], _, (Heap.get?_update_ne _ _ _ _ hxs.symm).trans (Heap.get?_push_at rfl rfl), rfl, fun e he => absurd he (by simp), fun _ => rfl⟩
  · intro h' tk' hn' hs
    have hx₁ : (hp.push { cls := .type "dict", data := .dict #[] }).get? x = some { cls := .ref C, data := .fields fv } := Heap.get?_push_of_some _ hx
    refine hq h' tk' hp.objs.size (fun b o hb ho => ?_) (Nat.le_refl _) hxs.symm ?_ hn'
    · exact (hs.2 b (Nat.ne_of_lt (Heap.lt_size ho))).trans ((Heap.get?_update_ne _ _ _ _ hb).trans (Heap.get?_push_of_some _ ho))
    · exact (hs.2 x hxs).trans (Heap.get?_update_self _ hx₁ rfl)
end
section
variable {X : Cx} {CX : CXT} {pins : List (Addr × Obj)} {σ : L2.St} {H : Hp} {s : Shared} {a C f : Addr} {k : Nat} {sp : Sp} {E : XK} {x : Str} {e o : Expr} {es : List Expr} {te to : TE} {ta : TA} {p p' pos : Pos} {fd : FuncData} {ps : List Str}
/-- self.f = y, the first field -/
theorem stx_new {B : String} {bmB : List Value} {f : Str} {y : V} {u : Value} {Q : Unit → Shared → Prop} {E' : Value → Shared → Prop} {A : Around} (SF : StoreFacts B bmB "object.__setattr__" "object") (T : XC X.K C) (ho' : PySem.W.excOver X.K C bmB = true) (ht : PySem.W.takerIn X.K C f = some none)
    (I : Inv X pins σ H s) (e : H a = some (exo a C none)) (ry : RelV y u)
    (h : ∀ dx s', H dx = none → dx ≠ a → Inv X pins σ (upd (upd H dx (exd dx [(f, y)])) a (exo a C (some dx))) s' → Q () s') : wpAny (model X.prog X.w) A (setAttr (.ref a) f u) Q E' s := by
  obtain ⟨t1, ho⟩ := exo_at I.hok e
  obtain ⟨hp, g, d, t, os⟩ := s
  refine PySem.W.set_plain I.kIn (ox := { cls := .ref C, dict := none, data := .fields #[.ref t1, .none, .none, .none, .bool false, .none] }) (od := none) ⟨ho, rfl, rfl, trivial⟩ T.sa ?_
  refine x_osa SF I.kIn ho ho' T.hd ht (fun h' tk' dx k dn dne hx hn => ?_)
  have hnd : H dx = none := I.hok.fresh dn
  have nd : ∀ {b : Addr} {o : Obj}, hp.get? b = some o → b ≠ dx := fun {b o} q => Nat.ne_of_lt (Nat.lt_of_lt_of_le (Heap.lt_size q) dn)
  have na : ∀ {b : Addr}, H b = none → b ≠ a := fun {b} n => (ne_of_none e n).symm
  have Un1 : Un X.fs [] H (upd (upd H dx (exd dx [(f, y)])) a (exo a C (some dx))) hp h' := {
    keep := fun b o q n _ _ => k b o (na n) q
    slot := fun b o q n _ _ => ⟨o.slots, k b o (na n) q⟩
    free := fun b o q n _ => by rw [upd_ne (na n), upd_ne (nd q)]; exact n
    there := fun b o q _ => by
      by_cases hb : b = a
      · exact ⟨_, by rw [hb]; exact hx⟩
      · exact ⟨o, k b o hb q⟩
    tups := fun b xs q => by rw [upd_ne (at_ne e q exo_tup), upd_ne (ne_of_none q hnd)]; exact q
    frzs := fun b o v q => by rw [upd_ne (at_ne e q exo_frz), upd_ne (ne_of_none q hnd)]; exact q
    tbls := fun b ps q => ⟨#[], by rw [upd_ne (at_ne e q exo_tbl), upd_ne (ne_of_none q hnd), q]; simp⟩ }
  refine h dx _ hnd dne (I.un (t' := tk') Un1 fun b o q => ?_)
  by_cases hb : b = a
  · subst hb
    rw [upd_same] at q
    cases q
    exact exo_ok hx
  · rw [upd_ne hb] at q
    by_cases hd : b = dx
    · subst hd
      rw [upd_same] at q
      cases q
      exact exd_ok hn (relO_put (fs := []) ry fun g => True.intro)
    · rw [upd_ne hd] at q
      refine (I.hok b o q).stay (fun c v hc z => k c v ?_ z) (fun c hc => ?_) (fun c xs hc => ?_)
      · rcases hc with hc | hc
        · rw [hc]
          exact hb
        · exact at_ne e hc exo_own
      · rw [upd_ne (at_ne e hc exo_own), upd_ne (ne_of_none hc hnd)]
        exact hc
      · rw [upd_ne (at_ne e hc exo_tup), upd_ne (ne_of_none hc hnd)]
        exact hc
def tStx (C : Addr) (f : Str) (to te : TE) : TS := fun D σ H => te σ H fun y H1 => to σ H1 fun x H2 => ∃ a, x = .ref a ∧ H2 a = some (exo a C none) ∧ ∀ dx, H2 dx = none → dx ≠ a → D.nx σ (upd (upd H2 dx (exd dx [(f, y)])) a (exo a C (some dx)))
theorem ps_stx {B : String} {bmB : List Value} {f : Str} (SF : StoreFacts B bmB "object.__setattr__" "object") (T : XC X.K C) (ho' : PySem.W.excOver X.K C bmB = true) (ht : PySem.W.takerIn X.K C f = some none) (ho : PE X o to) (he : PE X e te)
    (hs : swapsWith e (some (.Attribute o f p')) pos.line X.env = pure false := by rfl) : PS X (.Assign [.Attribute o f p'] e pos) (tStx C f to te) := by
  refine ⟨fun pins s σ H D I h => ?_⟩
  refine plainObj_wpAny_Assign_Attribute (thn (he.run pins s σ H _ I h) fun v s1 ⟨y, H1, I1, r1, q1⟩ => thn (ho.run pins s1 σ H1 _ I1 q1) fun u s2 ⟨x, H2, I2, r2, a, ex, ea, q⟩ => ?_) hs
  subst ex
  obtain rfl : u = Value.ref a := r2
  exact stx_new SF T ho' ht I2 ea r1 fun dx s' n ne J => ⟨σ, _, J, q dx n ne⟩
/-- e.f, a field of such an exception -/
def tGetX (K : PySem.W.Frag) (n : Str) (te : TE) : TE := fun σ H Q => te σ H fun x H1 => ∃ (a C dx : Addr) (fs : List (Str × V)) (v : V), x = .ref a ∧ XC K C ∧ PySem.W.findIn K (.ref C) n = some none ∧ H1 a = some (exo a C (some dx)) ∧ H1 dx = some (exd dx fs) ∧ fs.lookup n = some v ∧ Q v H1
theorem pe_getX {K : PySem.W.Frag} {n : Str} (he : PE X e te) (hK : X.K = K := by rfl) (hb : attributeBase e n X.env (eval e X.env) = eval e X.env := by rfl) : PE X (.Attribute e n pos) (tGetX K n te) := by
  subst hK
  refine ⟨fun pins s σ H Q I h => ?_⟩
  refine attr_of hb (thn (he.run pins s σ H _ I h) fun u s1 hh => ?_)
  obtain ⟨x, H1, I1, rx, a, C, dx, fs, v, ex, T, hno, ea, ed, l, q⟩ := hh
  subst ex
  obtain rfl : u = Value.ref a := rx
  obtain ⟨t1, ho⟩ := exo_at I1.hok ea
  obtain ⟨mA, hns, hr⟩ := exd_at I1.hok ed
  obtain ⟨od, hod, hl⟩ := lookIn_ns hns
  obtain ⟨u, hu, ru⟩ := RelO.some_of (v := v) (o := mA n) (by rw [← l]; exact hr n)
  exact PySem.HandSPX.exc_get I1.kIn (od := some od) ⟨ho, rfl, rfl, hod⟩ T.hg T.hk T.hs (PySem.W.findObj_own T.hd hno rfl (by rw [hl, hu])) (handed_of ru) ⟨v, H1, I1.tok _, ru, q⟩
/-- str(e) of an exception with one text -/
def wStrX (K : PySem.W.Frag) : List V → Hp → VK → Prop := fun xs H Q => ∃ (a C t : Addr) (z : Str), xs = [.ref a] ∧ XC K C ∧ PySem.W.findIn K (.ref C) "__str__" = some (some (.builtin "BaseException.__str__")) ∧ H a = some (exA a C t) ∧ H t = some (.tup [.str z]) ∧ Q (.str z) H
theorem call_strX {K : PySem.W.Frag} (hu : X.A.units + 2 < cLine) (hK : X.K = K := by rfl) : CallR X (.type "str") (wStrX K) := by
  subst hK
  intro pins s σ H xs us Q I r h
  obtain ⟨a, C, t, z, rfl, T, hs, ea, et, q⟩ := h
  obtain ⟨u1, rfl, r1⟩ := vals1 r
  cases (show u1 = Value.ref a from r1)
  have ho := exA_at I.hok ea
  obtain ⟨_, its, rv, o, h1, h2, n, h3⟩ := (show ObjOk X.prog X.w H s.heap t (.tup [.str z]) from I.hok t _ et)
  obtain ⟨u, rfl, r2⟩ := vals1 rv
  obtain ⟨tk, rfl⟩ := (show ∃ t, u = Value.str z t from r2)
  exact PySem.P.str_of_C_one hu ⟨I.kIn, _, _, ho, rfl, rfl, rfl⟩ ⟨o, n, h1, h2, h3⟩ hs T.hs ⟨.str z, H, I, ⟨tk, rfl⟩, q⟩
end
end My

namespace My
open PySem PySem.Spec PyProof.Rows L2
/-! ### set(l) for a list of keys of any one kind, len(set(l)) for texts -/
section
variable {κ : Type} [DecidableEq κ]
/-- those met so far, each once, as they came -/
def met (key : Nat → κ) : Nat → List κ
  | 0 => []
  | i + 1 => if key i ∈ met key i then met key i else met key i ++ [key i]
theorem met_le (key : Nat → κ) : ∀ i, (met key i).length ≤ i
  | 0 => Nat.le_refl _
  | i + 1 => by
    have ih := met_le key i
    unfold met
    split
    · omega
    · rw [List.length_append, List.length_singleton]
      omega
theorem met_all {key : Nat → κ} : ∀ i, (∀ a b, a < b → b < i → key a ≠ key b) → met key i = (List.range i).map key
  | 0, _ => rfl
  | i + 1, h => by
    have ih := met_all i fun a b hab hb => h a b hab (by omega)
    unfold met
    rw [if_neg, ih, List.range_succ, List.map_append]
    · rfl
    · rw [ih]
      intro z
      obtain ⟨a, ha, e⟩ := List.mem_map.mp z
      exact h a i (List.mem_range.mp ha) (by omega) e
end
section
variable {prog : Program} {w : World} {κ : Type} [DecidableEq κ] {A : Around} {R : Result → Shared → Prop} {I : Addr} {fp wr : List Addr} {G : Array GenState → Array GenState → Prop} {n : Nat} {Pv : Nat → Value → Prop} {St : Nat → Shared → Prop}
theorem setOf_is {knd : KeyKind prog w κ} {h : Heap} {a : Addr} {f g : κ → Bool} {m k : Nat} (x : h.SetOf knd a f m) (e : ∀ y, f y = g y) (e2 : m = k) : h.SetOf knd a g k := by
  cases e2
  have : f = g := funext e
  cases this
  exact x
/-- the loop that fills a set, from a walk whose i-th value is a key -/
theorem fill (knd : KeyKind prog w κ) (W : WalksS prog w A.in1 I fp wr G n Pv St) (S : Addr) (hS : S ∉ fp) (key : Nat → κ) (hn : n + 1 < scanBound) (hv : ∀ i v, Pv i v → knd.is (key i) v = true ∧ v.scannable = true) :
    ∀ (k i : Nat) (s : Shared), n - i = k → i ≤ n → St i s → s.heap.SetOf knd S (fun y => decide (y ∈ met key i)) (met key i).length →
      (∀ s', Moved (S :: wr) G s s' → s'.heap.SetOf knd S (fun y => decide (y ∈ met key n)) (met key n).length → R (.ok (.ret .none)) s') →
      codeAny (model prog w) A (.builtin "set.update.loop" ⟨[.ref S, .ref I], []⟩) R s := by
  have hw : S ∉ wr := fun h => hS (W.sub _ h)
  have sub : ∀ b ∈ wr, b ∈ S :: wr := fun b hb => List.mem_cons_of_mem _ hb
  intro k
  induction k with
  | zero =>
    intro i s hk hi hst hset hR
    obtain rfl : i = n := by omega
    refine codeAny_builtin PyProof.Rows.F.entry_set_update_loop ?_
    rw [Around.under_plainId PyProof.Rows.F.plain_set_update_loop _]
    show wpAny _ A.in1 (pyNext (.ref I) >>= _) _ _ s
    refine wpAny_bind (W.done s _ _ hst fun s' hm => ?_)
    show wpAny _ A.in1 (ret Value.none) _ _ s'
    refine wpAny_pure (hR s' (hm.mono sub) ?_)
    obtain ⟨o, es, ep, t, ho, rest⟩ := hset
    exact ⟨o, es, ep, t, hm.heap S _ hw ho, rest⟩
  | succ k ih =>
    intro i s hk hi hst hset hR
    have lt : i < n := by omega
    refine codeAny_builtin PyProof.Rows.F.entry_set_update_loop ?_
    rw [Around.under_plainId PyProof.Rows.F.plain_set_update_loop _]
    show wpAny _ A.in1 (pyNext (.ref I) >>= _) _ _ s
    refine wpAny_bind (W.item i s _ _ lt hst fun v s' hP hst' hm => ?_)
    obtain ⟨hkv, hsc⟩ := hv i v hP
    have hset' : s'.heap.SetOf knd S (fun y => decide (y ∈ met key i)) (met key i).length := by
      obtain ⟨o, es, ep, t, ho, rest⟩ := hset
      exact ⟨o, es, ep, t, hm.heap S _ hw ho, rest⟩
    have le := met_le key i
    show wpAny _ A.in1 (holding [v] (setAdd S v) >>= _) _ _ s'
    refine wpAny_bind (wpAny_holding ?_)
    unfold setAdd
    refine wpAny_holding (wpAny_bind (knd.pyHash hkv ?_))
    refine wpAny_setAddHashed_of (knd := knd) (s := { s' with toks := s'.toks + 1 }) hkv hsc hset' (by omega) fun h' hb hs2 => ?_
    have hs3 : h'.SetOf knd S (fun y => decide (y ∈ met key (i + 1))) (met key (i + 1)).length := by
      by_cases c : key i ∈ met key i
      · have e : met key (i + 1) = met key i := by
          show (if key i ∈ met key i then _ else _) = _
          rw [if_pos c]
        rw [e]
        refine setOf_is hs2 (fun y => ?_) (by simp [c])
        by_cases d : y = key i
        · subst d; simp [c]
        · simp [d]
      · have e : met key (i + 1) = met key i ++ [key i] := by
          show (if key i ∈ met key i then _ else _) = _
          rw [if_neg c]
        rw [e]
        exact setOf_is hs2 (fun y => by simp) (by simp [c])
    refine wpAny_pure ⟨plainId_quiet PyProof.Rows.F.plain_set_update_loop _, ih (i + 1) _ (by omega) lt (W.frame _ s' _ _ hst' (Nat.le_succ _) fun b hbb o e => ?_) hs3 fun s'' hm'' hS'' => ?_⟩
    · rw [hb.2 b (fun z : b = S => hS (by rw [← z]; exact hbb))]
      exact e
    · refine hR s'' (Moved.trans W.gtrans ((hm.mono sub).then_heap (Nat.le_succ _) fun b o hbb e => ?_) hm'') hS''
      rw [hb.2 b (fun z : b = S => hbb (by rw [z]; exact List.mem_cons_self))]
      exact e
end
end My
namespace My
open PySem PySem.Spec PyProof.Rows L2
section
variable {prog : Program} {w : World} {κ : Type} [DecidableEq κ] {A : Around} {E : Value → Shared → Prop} {s : Shared}
/-- set.__init__(S, l): S an empty set that was just laid -/
theorem set_fill (knd : KeyKind prog w κ) {S l : Addr} {led : Bool} {items : Array Value} (key : Nat → κ) {R : Result → Shared → Prop} (hh : A.handled = none) (hS : s.heap.get? S = some { cls := .type "set", dict := none, data := .set #[] 0 (.fresh 0 0 led) })
    (hl : s.heap.IsList l items) (hb : items.size + 1 < scanBound) (hv : ∀ (i : Nat) (v : Value), items[i]? = some v → knd.is (key i) v = true ∧ v.scannable = true)
    (h : ∀ (h' : Heap) (tk : Nat), h'.SetOf knd S (fun y => decide (y ∈ met key items.size)) (met key items.size).length → (∀ b o, b ≠ S → s.heap.get? b = some o → h'.get? b = some o) → R (.ok (.ret .none)) { s with heap := h', toks := tk }) :
    codeAny (model prog w) A (.call (.builtin "set.__init__") ⟨[.ref S, .ref l], []⟩) R s := by
  have ty : s.TypeIs (.ref S) "set" := ⟨_, hS, rfl⟩
  refine codeAny_call_builtin PySem.F.called_set.init.plain PySem.F.entry_set_init (check_set_init_1 ty ?_)
  obtain ⟨ol, g1, g2, nl, g3⟩ := hl
  obtain ⟨o1, o2, o3, o4⟩ := ol
  simp only at g2 g3
  subst g2 g3
  have a1 := PySem.F.sub_list_set
  have a2 := PySem.F.sub_list_frozenset
  have a3 : (Value.type "list" == Value.type "dict") = false := by decide
  have isl : s.heap.IsList l items := ⟨_, g1, rfl, nl, rfl⟩
  unfold Builtin.«set.__init__» noKeywords Builtin.Frozenset.updateFrom
  generalize eP : pyIter = PI
  wp_walk
  subst eP
  refine wpAny_pyIter_list isl (wpAny_bind (wpAny_runValue ?_))
  have b1 : S < s.heap.objs.size := Heap.lt_size hS
  have b2 : l < s.heap.objs.size := Heap.lt_size g1
  have ne : S ≠ l := fun z => by
    rw [z, g1] at hS
    have y : some (Value.type "list") = some (Value.type "set") := congrArg (fun o => o.map Obj.cls) hS
    exact absurd (Option.some.inj y) (by decide)
  have nf : S ∉ [s.heap.objs.size, l] := fun z => by
    rcases List.mem_cons.mp z with z | z
    · exact Nat.ne_of_lt b1 z
    · exact ne (List.mem_singleton.mp z)
  have hh3 : A.in1.in1.handled = none := by simp [hh]
  refine fill knd ((Walks.list hh3 _ l (Nat.ne_of_lt b2) items).toS) S nf key hb hv (items.size - 0) 0 _ (by omega) (Nat.zero_le _) ⟨⟨_, Heap.get?_push_size _ rfl, rfl, rfl⟩, isl.push _⟩ ?_ ?_
  · exact setOf_is ((PyProof.Rows.setObjOf_fresh (knd := knd) led).setOf (Heap.get?_push_of_some _ hS) (by unfold scanBound; omega)) (fun y => by simp [met]) rfl
  · intro s' hm hset
    obtain ⟨h', g', d', tk', os'⟩ := s'
    obtain rfl : g' = s.gens := hm.gens
    obtain rfl : d' = s.drawn := hm.drawn
    obtain rfl : os' = s.os := hm.os
    refine wpAny_pure ?_
    show wpAny _ _ (ret Value.none) _ _ _
    refine wpAny_pure (h h' tk' hset fun b o hb q => ?_)
    have lt : b < s.heap.objs.size := Heap.lt_size q
    refine hm.heap b o (fun z => ?_) (Heap.get?_push_of_some _ q)
    simp only [List.mem_cons, List.not_mem_nil, or_false] at z
    rcases z with z | z
    · exact hb z
    · exact Nat.ne_of_lt lt z
/-- set(l), l a list of keys of one kind -/
theorem set_of_list (knd : KeyKind prog w κ) {l : Addr} {items : Array Value} (key : Nat → κ) {Q : Value → Shared → Prop} (hh : A.handled = none) (hl : s.heap.IsList l items) (hb : items.size + 1 < scanBound)
    (hv : ∀ (i : Nat) (v : Value), items[i]? = some v → knd.is (key i) v = true ∧ v.scannable = true)
    (h : ∀ (h' : Heap) (tk : Nat), h'.SetOf knd s.heap.objs.size (fun y => decide (y ∈ met key items.size)) (met key items.size).length → (∀ b o, b < s.heap.objs.size → s.heap.get? b = some o → h'.get? b = some o) →
      Q (.ref s.heap.objs.size) { s with heap := h', toks := tk }) : wpAny (model prog w) A (call (.type "set") [.ref l]) Q E s := by
  obtain ⟨c, tl, m1⟩ := PySem.F.called_set.mro
  have m2 := PySem.F.called_set.made
  have m3 := PySem.F.called_set.sub
  have m4 := PySem.F.called_set.notType
  have m5 := PySem.F.called_set.canCreate
  have m6 := PySem.F.typeCall_set_1 (.ref l)
  refine wpAny_call (codeAny_of_tree ?_)
  show wpAny _ _ (callAny (.type "set") _) _ _ _
  refine wpAny_pure ⟨Code.quiet_builtin _ (by decide +kernel), codeAny_builtin PySem.F.entry_type_call ?_⟩
  rw [Around.under_plain (weight_type_call_type "set" [.ref l] []) rfl]
  repeat (any_goals (first | assumption | wp_step))
  -- set.__new__: an empty set, laid last
  refine codeAny_mono (code_set_new_1 (.ref l) (E := E) (Q₁ := fun obj s₁ => ∃ led : Bool, obj = .ref s.heap.objs.size ∧ s₁ = { s with heap := s.heap.push { cls := .type "set", dict := none, data := .set #[] 0 (.fresh 0 0 led) } }) fun led => ⟨led, rfl, rfl⟩) fun r s₁ hr => ?_
  match r, hr with
  | .error e, hr => exact hr
  | .ok .next, hr => exact hr.elim
  | .ok .brk, hr => exact hr.elim
  | .ok .cont, hr => exact hr.elim
  | .ok (.ret obj), hr =>
    obtain ⟨led, rfl, rfl⟩ := hr
    obtain ⟨P1, eP⟩ : ∃ P1 : Heap, P1 = s.heap.push { cls := .type "set", dict := none, data := .set #[] 0 (.fresh 0 0 led) } := ⟨_, rfl⟩
    rw [← eP]
    have gS : P1.get? s.heap.objs.size = some { cls := .type "set", dict := none, data := .set #[] 0 (.fresh 0 0 led) } := by
      rw [eP]
      exact Heap.get?_push_size _ rfl
    have zS : P1.objs.size = s.heap.objs.size + 1 := by
      rw [eP, Heap.size_push]
    have kS : ∀ b o, s.heap.get? b = some o → P1.get? b = some o := fun b o q => by
      rw [eP]
      exact Heap.get?_push_of_some _ q
    have ty : Shared.TypeIs { s with heap := P1 } (.ref s.heap.objs.size) "set" := ⟨_, gS, rfl⟩
    have i1 := PySem.F.called_set.init.lookup
    have i2 := PySem.F.called_set.init.bind (.ref s.heap.objs.size)
    repeat (any_goals (first | assumption | wp_step))
    refine codeAny_mono (set_fill knd (R := fun r s' => r = .ok (.ret .none) ∧ Q (.ref s.heap.objs.size) s') key (A := A.in1) (by simp [hh]) gS (l := l) (items := items) ?_ hb hv fun h' tk hset hk => ⟨rfl, h h' tk hset fun b o hb2 q => hk b o (Nat.ne_of_lt hb2) (kS b o q)⟩) fun r s2 hr => ?_
    · obtain ⟨o, g1, g2, g3⟩ := hl
      exact ⟨o, kS _ _ g1, g2, g3⟩
    · obtain ⟨rfl, q⟩ := hr
      repeat (any_goals (first | assumption | wp_step))
end
theorem strs_key : ∀ {us : List Value} {xs : List Str}, Vals (xs.map V.str) us → ∀ (i : Nat) (v : Value), us[i]? = some v → ∃ t, v = .str (xs.getD i Str.empty) t
  | [], [], .nil, i, v, h => by simp at h
  | u :: us, x :: xs, .cons r t, 0, v, h => by
    cases h
    obtain ⟨k, rfl⟩ := r
    exact ⟨k, rfl⟩
  | u :: us, x :: xs, .cons r t, i + 1, v, h => strs_key t i v (by simpa using h)
/-- the texts, each once, as they came -/
def once (xs : List Str) : List Str := met (fun i => xs.getD i Str.empty) xs.length
theorem once_of {xs : List Str} (h : xs.Nodup) : (once xs).length = xs.length := by
  unfold once
  rw [met_all]
  · rw [List.length_map, List.length_range]
  · intro a b hab hb z
    have e1 : xs.getD a Str.empty = xs[a] := by rw [List.getD_eq_getElem?_getD, List.getElem?_eq_getElem (by omega)]; rfl
    have e2 : xs.getD b Str.empty = xs[b] := by rw [List.getD_eq_getElem?_getD, List.getElem?_eq_getElem hb]; rfl
    rw [e1, e2] at z
    exact List.pairwise_iff_getElem.mp h a b (by omega) hb hab z
def tLenSetS (K : PySem.W.Frag) (ta : TE) : TE := fun σ H Q => ta σ H fun x H1 => ∃ (l : Addr) (xs : List Str), x = .ref l ∧ SqL K H1 l (xs.map V.str) ∧ xs.length ≤ 4000 ∧ Q (.int ((once xs).length : Nat)) H1
theorem pe_lenSetS {X : Cx} {K : PySem.W.Frag} {a : Expr} {ta : TE} {p p2 q pos : Pos} (hg : Gl X "len") (hm : X.mg "len" = none) (hg2 : Gl X "set") (hm2 : X.mg "set" = none) (ha : PE X a ta) (hK : X.K = K := by rfl) (hc : X.calm = true := by rfl)
    (na : starEach [a] X.env = (false, eval a X.env) :: starEach [] X.env := by rfl) : PE X (.Call (.Name "len" p) [.Call (.Name "set" p2) [a] [] q] [] pos) (tLenSetS K ta) := by
  subst hK
  refine ⟨fun pins s σ H Q I h => ?_⟩
  refine Call_ (ld_blt I hg hm (show bootBuiltins "len" = some (.builtin "len") by decide +kernel) ?_)
  refine PyProof.Rows.callWith_builtin1 (PyProof.Rows.args_cons ?_ rfl) rfl rfl
  refine Call_ (ld_blt I hg2 hm2 (show bootBuiltins "set" = some (.type "set") by decide +kernel) ?_)
  refine PyProof.Rows.callWith_type1 (PyProof.Rows.args_cons (thn (ha.run pins s σ H _ I h) fun v s1 ⟨x, H1, I1, r1, q1⟩ => PyProof.Rows.args_nil ?_) na) na rfl
  obtain ⟨l, xs, rfl, hq, hl, q1⟩ := q1
  cases r1
  obtain ⟨its, r, pl, hz⟩ := I1.list hq
  have hlen : its.toArray.size = xs.length := by rw [List.size_toArray, ← r.length, List.length_map]
  refine set_of_list (PySem.strKind X.prog X.w) (fun i => xs.getD i Str.empty) (I1.ok.hd hc) pl.isList (by rw [hlen]; unfold scanBound; omega) (fun i v hv => ?_) fun h' tk hS hk => ?_
  · obtain ⟨t, rfl⟩ := strs_key r i v (by simpa using hv)
    exact ⟨strKind_is _ _ _ _, rfl⟩
  · refine PyProof.Rows.args_nil ?_
    rw [hlen] at hS
    obtain ⟨o, es, ep, t, ho, hex, hd, _, _, _, hf, hn⟩ := hS
    have I2 : Inv X pins σ H1 { s1 with heap := h', toks := tk } := I1.kept fun b o e => hk b o (Heap.lt_size e) e
    have hle := met_le (fun i => xs.getD i Str.empty) xs.length
    exact call_len_set ho hex hd hf (by rw [hn]; omega) ⟨.int (once xs).length, H1, I2.tok _, ⟨_, by rw [hn]; rfl⟩, q1⟩
end My

namespace My
open PySem PySem.Spec PyProof.Rows L2
/-! ### instances of own classes: made by a star, put together, compared -/
section
variable {X : Cx} {CX : CXT} {k : Nat} {f g C : Addr} {sp : Sp} {E : XK} {x : Str} {e : Expr} {te : TE} {p pos : Pos} {sp_ : Pos}
/-- anything, where nothing comes to it -/
theorem ps_no {st : Stmt} : PS X st (fun _ _ _ => False) := ⟨fun _ _ _ _ _ _ h => h.elim⟩
/-- C(*e) -/
theorem pe_makeS1 (M : Mk X.K C f) (F : FnR X.prog X.w X.K X.mg X.base CX k f sp) (hr : Room (k + 1) X.A) (hg : Gl X x) (hm : X.mg x = some (.ref C)) (hx : Passes CX X E) (he : PE X e te) (hd : (x == ("__debug__" : Str)) = false := by decide)
    (hst : starEach [.Starred e sp_] X.env = [(true, eval e X.env)] := by rfl) :
    PE X (.Call (.Name x p) [.Starred e sp_] [] pos) (fun σ H Q => te σ H fun y H1 => ∃ a xs, y = V.ref a ∧ (SqT X.K H1 a xs ∨ SqL X.K H1 a xs) ∧ ∀ x dx, H1 x = Option.none → H1 dx = Option.none → dx ≠ x →
      sp (V.ref x :: xs) (upd (upd H1 dx (.own x)) x (.ins C dx [])) (fun v H2 => v = .non ∧ Q (.ref x) H2) E) := by
  refine ⟨fun pins s σ H Q I h => ?_⟩
  refine wpAny_Call_Name_kw (ld_glob I hg hm ?_ hd)
  refine PySem.W.callWith_S (h₀ := X.base) I.ok.mod.kin M.kp (thn (he.run pins s σ H _ I h) fun v s1 ⟨y, H1, I1, ry, a, xs, ey, hxs, q⟩ => ?_) hst
  subst ey
  obtain rfl : v = Value.ref a := ry
  exact StX.star_any I1 hxs fun us s2 I2 rv => ⟨I2.kIn, StX.run_makeR M F hr hx I2 rv q⟩
/-- C() -/
theorem pe_makeR0 (M : Mk X.K C f) (F : FnR X.prog X.w X.K X.mg X.base CX k f sp) (hr : Room (k + 1) X.A) (hg : Gl X x) (hm : X.mg x = some (.ref C)) (hx : Passes CX X E) (hdb : (x == ("__debug__" : Str)) = false := by decide) :
    PE X (.Call (.Name x p) [] [] pos) (StX.tMakeR C sp E tNil) := by
  refine ⟨fun pins s σ H Q I h => ?_⟩
  refine wpAny_Call_Name_kw (ld_glob I hg hm ?_ hdb)
  exact PySem.W.callWith_K0 I.kIn M.kp (StX.run_makeR (us := []) M F hr hx I .nil h)
/-- x + y by C's own __add__ -/
def rOwnB (C : Addr) (sp : Sp) (E : XK) : R2 := fun x y H Q => ∃ a b dx dy fs gs, x = .ref a ∧ y = .ref b ∧ H a = some (.ins C dx fs) ∧ H b = some (.ins C dy gs) ∧ sp [.ref a, .ref b] H Q E
theorem op_ownB {op : Operator} (hc : PySem.W.selfFirst X.K C = true) (hs : PySem.W.findIn X.K (.ref C) (PySem.dunder op.info.2) = some (some (.ref g))) (hf : PySem.W.isFn X.K (.ref g) = true) (F : FnR X.prog X.w X.K X.mg X.base CX k g sp) (hr : Room k X.A) (hx : Passes CX X E) :
    OpR X (binaryOp op) (rOwnB C sp E) := by
  intro pins s σ H x y v u Q I rx ry h
  obtain ⟨a, b, dx, dy, fs, gs, rfl, rfl, ha, hb, q⟩ := h
  cases (show v = Value.ref a from rx)
  cases (show u = Value.ref b from ry)
  obtain ⟨mA, O, _, _, _, _⟩ := ins_get I.hok ha
  obtain ⟨od, J, _⟩ := O.look
  obtain ⟨mB, O', _, _, _, _⟩ := ins_get I.hok hb
  obtain ⟨od', J', _⟩ := O'.look
  obtain ⟨m, hF⟩ := I.fr
  refine PySem.W.binop_K hF I.ok.mod.kin J J'.type hc hs hf ?_
  refine wpAny_mono (wpAny_call (run_fnR (us := [.ref a, .ref b]) (vs := [.ref a, .ref b]) F hr hx I (.cons rfl (.cons rfl .nil)) q)) (fun w s' z => ?_) fun _ _ x => x
  obtain ⟨z', H', I', rz, qz⟩ := z
  exact SlX.cmpback rz ⟨z', H', I', rz, qz⟩
/-- x == y by C's own __eq__, y an instance of C -/
theorem op_ownEq (hn : PySem.W.notFirst X.K C (.ref C) = true) (hs : PySem.W.findIn X.K (.ref C) (cmpInfo .Eq).2.1 = some (some (.ref g))) (hf : PySem.W.isFn X.K (.ref g) = true) (F : FnR X.prog X.w X.K X.mg X.base CX k g sp)
    (hr : Room k X.A) (hx : Passes CX X E) : OpR X (compareOp .Eq) (rOwnB C sp E) := by
  intro pins s σ H x y v u Q I rx ry h
  obtain ⟨a, b, dx, dy, fs, gs, rfl, rfl, ha, hb, q⟩ := h
  cases (show v = Value.ref a from rx)
  cases (show u = Value.ref b from ry)
  obtain ⟨mA, O, _, _, _, _⟩ := ins_get I.hok ha
  obtain ⟨od, J, _⟩ := O.look
  obtain ⟨mB, O', _, _, _, _⟩ := ins_get I.hok hb
  obtain ⟨od', J', _⟩ := O'.look
  obtain ⟨m, hF⟩ := I.fr
  show wpAny _ _ (richCompare .Eq (.ref a) (.ref b)) _ _ _
  refine PySem.W.cmp_K (op := .Eq) (tb := .ref C) hr.units0 hF I.ok.mod.kin J J'.type hn hs hf ?_
  refine wpAny_mono (wpAny_call (run_fnR (us := [.ref a, .ref b]) (vs := [.ref a, .ref b]) F hr hx I (.cons rfl (.cons rfl .nil)) q)) (fun w s' z => ?_) fun _ _ x => x
  obtain ⟨z', H', I', rz, qz⟩ := z
  exact SlX.cmpback rz ⟨z', H', I', rz, qz⟩
end
end My
namespace My
open PySem PySem.Spec PyProof.Rows L2
def neIn (K : PySem.W.Frag) (C g : Addr) : Bool := match K.lookup C with
  | some ⟨.type "type", _, .cls cd, sl⟩ => (match cd.mro, sl.toList with
    | [.ref C', .type "object"], [_, _, _, _, some (.builtin n), _] => C' == C && !cd.hasDel && PySem.W.nsOkIn K cd.ns && PySem.W.nsIn K cd.ns "__eq__" == some (some (.ref g)) && PySem.W.nsIn K cd.ns "__ne__" == some none
    | _, _ => false)
  | _ => false
theorem nsSome {K : PySem.W.Frag} {h : Heap} {N : Addr} {mN : Str → Option Value} {n : Str} {v : Value} (X : K.In h) (G : h.Ns N mN) (e : PySem.W.nsIn K N n = some (some v)) : mN n = some v := by
  obtain ⟨oo, es, ep, ho, hd, _, hf⟩ := G; unfold PySem.W.nsIn at e; split at e
  case h_2 => cases e
  case h_1 c d es' n' sl q =>
    have hh := (X _ _ q).symm.trans ho; cases hh; cases hd; split at e
    case h_2 => split at e <;> cases e
    case h_1 en he => cases e; rw [← hf]; unfold nsFind findBy; rw [← Array.find?_toList, he]; rfl
def fnT (K : PySem.W.Frag) (g : Addr) : Bool := match K.lookup g with
  | some ⟨.type "function", _, .func _, _⟩ => true
  | _ => false
theorem neObj {K : PySem.W.Frag} {h : Heap} {C g x : Addr} {o : Obj} (X : K.In h) (q : neIn K C g = true) (hf : fnT K g = true) (hx : h.get? x = some o) (hc : o.cls = .ref C) : h.OwnEqNoNe x C g "object" [.type "object"] := by
  unfold neIn at q
  split at q
  · rename_i dd cd sl ho
    split at q
    · rename_i C' k0 k1 k2 k3 n k5 hm hs
      simp only [Bool.and_eq_true, beq_iff_eq, Bool.not_eq_true'] at q
      obtain ⟨⟨⟨⟨rfl, hdel⟩, hok⟩, heq⟩, hne⟩ := q
      obtain ⟨nm, bs, mro, ns, qn, hd, sn, sub, ab, col, del⟩ := cd
      dsimp only at hm hdel hok heq hne
      subst hm hdel
      have hsl : sl = #[k0, k1, k2, k3, some (.builtin n), k5] := by
        obtain ⟨l⟩ := sl
        simp only at hs
        rw [hs]
      subst hsl
      have hN := PySem.W.isNs_of_in X hok
      unfold fnT at hf
      split at hf
      · rename_i e
        exact ⟨o, _, nm, qn, ns, bs, hd, sn, sub, ab, col, dd, k0, k1, k2, k3, k5, n, _, _, hx, hc, X _ _ ho, .of_isNs hN, nsSome X (.of_isNs hN) heq, X _ _ e, rfl, F.cmp_object.mro, F.cmp_object.eq.lookup, PySem.W.nsMap_none_of_in X hok hne⟩
      · cases hf
    · cases q
  · cases q
section
variable {X : Cx} {CX : CXT} {k : Nat} {f g C : Addr} {sp : Sp} {E : XK}
/-- x != y where C has an own __eq__ and no __ne__ -/
def rOwnN (C : Addr) (sp : Sp) (E : XK) : R2 := fun x y H Q => ∃ a b dx dy fs gs, x = .ref a ∧ y = .ref b ∧ H a = some (.ins C dx fs) ∧ H b = some (.ins C dy gs) ∧ sp [.ref a, .ref b] H (fun v H' => ∃ c, v = .bl c ∧ Q (.bl (!c)) H') E
theorem op_ownNe (q : neIn X.K C g = true) (hf : fnT X.K g = true) (hu : X.A.units + 1 < cLine) (FR : FnR X.prog X.w X.K X.mg X.base CX k g sp) (hr : Room k X.A.in1) (hx : Passes CX X E) : OpR X (compareOp .NotEq) (rOwnN C sp E) := by
  intro pins s σ H x y v u Q I rx ry h
  obtain ⟨a, b, dx, dy, fs, gs, rfl, rfl, ha, hb, hq⟩ := h
  cases (show v = Value.ref a from rx)
  cases (show u = Value.ref b from ry)
  obtain ⟨mA, O, _, _, _, _⟩ := ins_get I.hok ha
  obtain ⟨od, J, _⟩ := O.look
  obtain ⟨mB, O', _, _, _, _⟩ := ins_get I.hok hb
  obtain ⟨od', J', _⟩ := O'.look
  have X1 := neObj I.kIn q hf J.1 rfl
  refine compareOp_ne_ownEq (h := s.heap) (g := s.gens) F.cmp_object X1 J'.1 rfl hu ?_
  refine wpAny_call (codeAny_mono (FR X.A.in1 X.stack s H [.ref a, .ref b] [.ref a, .ref b] _ E hr I.env0.in1 (.cons rfl (.cons rfl .nil)) hq) fun r s' hr2 => ?_)
  cases r with
  | error e => exact hx pins σ H s e s' I hr2
  | ok fl =>
    cases fl with
    | ret u =>
      obtain ⟨v, H', I3, rv, c, rfl, q3⟩ := I.after hr2
      cases (show u = Value.bool c from rv)
      exact ⟨c, rfl, .bl (!c), H', I3, rfl, q3⟩
    | next => exact False.elim hr2
    | brk => exact False.elim hr2
    | cont => exact False.elim hr2
end
end My

namespace My
open PySem PySem.Spec PyProof.Rows L2
/-! ### dicts that may be locked: their keys, their values -/
section
variable {X : Cx}
def wListDR : List V → Hp → VK → Prop := fun xs H Q => ∃ p kvs, xs = [.ref p] ∧ Rd H p (.dK kvs) ∧ ∀ q, H q = none → Q (.ref q) (upd H q (.lst (kvs.map fun kv => kV kv.1)))
theorem c_listDR (hc : X.calm = true) : CallR X (.type "list") wListDR := by
  rintro pins s σ H xs us Q I r ⟨p, kvs, rfl, hk, q⟩
  obtain ⟨u, rfl, rx⟩ := vals1 r
  cases (show u = Value.ref p from rx)
  obtain ⟨z, lo, vs, rk, hd⟩ := dk_rd I.hok hk
  obtain ⟨ep, hat⟩ := hd.dictAt
  have hl : kvs.length = vs.length := Paired.length rk
  refine PySem.W.kdl_call (PySem.W.kdl_dict (knd := mixKind X.prog X.w) (kvs := vs) (ep := ep) lo) (I.ok.hd hc) hat (hl ▸ z) fun h' tk acc' c' hkeep hS hacc => ?_
  have hn := I.hok.fresh (Nat.le_refl s.heap.objs.size)
  refine ⟨.ref s.heap.objs.size, _, I.laid (o := .lst (kvs.map fun kv => kV kv.1)) hkeep (Nat.le_refl _) ⟨by rw [List.length_map]; exact z, acc'.toList, c', vals_of_at ?_ ?_, by rw [Array.toArray_toList]; exact hS⟩, rfl, q _ hn⟩
  · have el : acc'.toList.length = acc'.size := by simp
    rw [List.length_map, el, hacc.1, hl]
  · intro j x w h1 h2
    obtain ⟨k, y, hky, hi⟩ := hacc.2 j w (by rw [← Array.getElem?_toList]; exact h2)
    rw [List.getElem?_map] at h1
    cases e : kvs[j]? with
    | none => rw [e] at h1; cases h1
    | some kv =>
      rw [e] at h1
      cases h1
      obtain ⟨u2, e1, _⟩ := kv_get rk e
      rw [e1] at hky
      cases hky
      exact keyIs_rel hi
def tValsR (td : TE) : TE := fun σ H Q => td σ H fun x H1 => ∃ d kvs, x = .ref d ∧ Rd H1 d (.dK kvs) ∧ ∀ v, H1 v = none → Q (.ref v) (upd H1 v (valsO v d))
theorem e_valuesR {e : Expr} {td : TE} {apos cpos : Pos} (he : PE X e td) (hbase : attributeBase e "values" X.env (eval e X.env) = eval e X.env := by rfl) (hline : (apos.endLine == cpos.line) = true := by rfl) :
    PE X (.Call (.Attribute e "values" apos) [] [] cpos) (tValsR td) := by
  constructor
  intro pins s σ H Q I h
  refine wpAny_Call_method (T := "dict") (id := "dict.values") hbase rfl hline F.plainAttrs_dict F.slot_dict_values F.type_dict_values (thn (he.run pins s σ H _ I h) fun u s1 hu => ?_)
  obtain ⟨x, H1, I1, rx, d, kvs, rfl, hd, q⟩ := hu
  cases (show u = Value.ref d from rx)
  obtain ⟨z, lo, vs, rk, dd⟩ := dk_rd I1.hok hd
  refine ⟨dd.typeIs, dd.mapOf.noDict, ?_⟩
  have hn : H1 s1.heap.objs.size = none := I1.hok.fresh (Nat.le_refl _)
  show wpAny _ _ (callWith cpos (.builtin "dict.values") [.ref d] [] []) _ X.xe s1
  refine method_meetsIn F.slot_dict_values F.entry_dict_values rfl (PySem.evalArgs_none ⟨rfl, dd.typeIs, F.args_dict_values_1 _, _, meets_dict_values (mixKind X.prog X.w) d lo, ⟨vs, dd⟩, ?_⟩)
  exact ⟨.ref s1.heap.objs.size, upd H1 s1.heap.objs.size (valsO s1.heap.objs.size d), I1.laid (t' := s1.toks) (fun b o e => Heap.get?_push_of_some _ e) (Nat.le_refl _) ⟨Heap.get?_push_size _ rfl, ⟨_, Heap.get?_push_size _ rfl⟩, fun _ _ a k => k _ a⟩, rfl, q _ hn⟩
def wListVR : List V → Hp → VK → Prop := fun xs H Q => ∃ v d kvs, xs = [.ref v] ∧ H v = some (valsO v d) ∧ Rd H d (.dK kvs) ∧ ∀ l, H l = none → Q (.ref l) (upd H l (.lst (kvs.map Prod.snd)))
open PySem.W in
theorem c_listVR (hc : X.calm = true) : CallR X (.type "list") wListVR := by
  intro pins s σ H xs us Q I r h
  obtain ⟨v, d, kvs, rfl, hv, hd, q⟩ := h
  obtain ⟨u, rfl, rx⟩ := vals1 r
  cases rx
  obtain ⟨z, lo, vs, rk, dd⟩ := dk_rd I.hok hd
  obtain ⟨ho, _, _⟩ := I.hok v _ hv
  obtain ⟨es, ep, hraw, hsz, hat⟩ := dd.raw
  have hl : kvs.length = vs.length := Paired.length rk
  refine kdl_call (KdlSrc.rawValues (r := v) (d := d) (es := es) (ep := ep)) (I.ok.hd hc) ⟨⟨_, ho, rfl, rfl⟩, hraw⟩ (by omega) fun h' tk acc' c' hkeep hS hacc => ?_
  refine ⟨.ref s.heap.objs.size, upd H s.heap.objs.size (.lst (kvs.map Prod.snd)), I.laid hkeep (Nat.le_refl _) (show ObjOk X.prog X.w _ _ _ (.lst (kvs.map Prod.snd)) from ⟨by rw [List.length_map]; exact z, acc'.toList, c', ?_, by rw [Array.toArray_toList]; exact hS⟩), rfl, q _ (I.hok.fresh (Nat.le_refl _))⟩
  have el : acc'.toList.length = acc'.size := by simp
  refine vals_of_at (by rw [List.length_map, el, hacc.1]; omega) fun j x u h1 h2 => ?_
  obtain ⟨hj, rfl⟩ := hacc.2 j u (by rw [← Array.getElem?_toList]; exact h2)
  rw [List.getElem?_map] at h1
  cases hk : kvs[j]? with
  | none => rw [hk] at h1; cases h1
  | some kv =>
    rw [hk] at h1
    cases h1
    obtain ⟨u2, e1, e2⟩ := kv_get rk hk
    rw [(hat j hj _ _ e1).2]
    exact e2
end
end My

namespace My
open PySem PySem.Spec PyProof.Rows L2 PySem.W
open PySem.Sem (wp)
/-! ### list(zip(a, b)) of two tuples: the zip keeps its pair, as long as the list holds it -/
section
variable {prog : Program} {w : World} {A : Around} {E : Value → Shared → Prop} {s : Shared}
theorem zz_next {z TI TO T i1 i2 l1 l2 : Addr} {f : Bool} {oT : Obj} {k1 k2 : Nat} {xs ys : Array Value} {x y : Value} {Q : Value → Shared → Prop} (D : ZipApart z TI TO i1 i2 l1 l2)
    (hz : IsZipHeld s.heap z TI TO T f) (ht : s.heap.get? T = some oT) (hp : IsPair s.heap TI (.ref i1) (.ref i2)) (u1 : s.heap.IsTupleIter i1 l1 k1) (u2 : s.heap.IsTupleIter i2 l2 k2) (e1 : s.heap.IsTuple l1 xs) (e2 : s.heap.IsTuple l2 ys) (hx : xs[k1]? = some x) (hy : ys[k2]? = some y)
    (q : ∀ h', IsZipHeld h' z TI TO T true → h'.IsTupleIter i1 l1 (k1 + 1) → h'.IsTupleIter i2 l2 (k2 + 1) → IsPair h' s.heap.objs.size x y → h'.objs.size = s.heap.objs.size + 1 → (∀ c o, c ≠ z → c ≠ i1 → c ≠ i2 → s.heap.get? c = some o → h'.get? c = some o) → Q (.ref s.heap.objs.size) { s with heap := h' }) :
    wpAny (model prog w) A (Builtin.«zip.__next__» ⟨[.ref z], []⟩) (fun fin s' => ∃ v, fin = .done (.ret v) ∧ Q v s') E s := by
  show wpAny _ _ (field (.ref z) 2 >>= _) _ _ _; refine wpAny_bind (wpAny_field hz rfl (x := .bool false) rfl ?_)
  show wpAny _ _ (field (.ref z) 3 >>= _) _ _ _; refine wpAny_bind (wpAny_field hz rfl (x := .ref TI) rfl ?_)
  refine wpAny_bind (wpAny_seqItems hp rfl ?_); show wpAny _ _ (Builtin.SmallTypes.ownedTupleIsFree (.ref z) >>= _) _ _ _
  refine wpAny_bind (wpAny_tupleHeld_zip hz ht fun g1 z1 b1 => ?_)
  simp only [Bool.false_eq_true, if_false]; refine wpAny_bind ?_
  rw [← Array.forIn_toList]; simp only [List.forIn_cons, List.forIn_nil]
  refine wpAny_bind (wpAny_bind (wpAny_holding ?_)); show wpAny _ _ (Builtin.SmallTypes.nextOf (.ref i1) >>= _) _ _ _
  refine wpAny_bind (RZ.nextOf_tuple_item (s := { s with heap := g1 }) (u1.extBut b1.extBut D.i1z) (e1.extBut b1.extBut D.l1z) hx fun g2 v1 b2 => wpAny_pure (wpAny_pure ?_))
  refine wpAny_bind (wpAny_bind (wpAny_holding ?_)); show wpAny _ _ (Builtin.SmallTypes.nextOf (.ref i2) >>= _) _ _ _
  refine wpAny_bind (RZ.nextOf_tuple_item (s := { s with heap := g2 }) ((u2.extBut b1.extBut D.i2z).extBut b2.extBut D.i12.symm) ((e2.extBut b1.extBut D.l2z).extBut b2.extBut D.l2i1) hy fun g3 v2 b3 => wpAny_pure (wpAny_pure (wpAny_pure ?_)))
  show wpAny _ _ (newTuple [x, y] >>= _) _ _ _; refine wpAny_bind (wpAny_newTuple (wpAny_pure ⟨_, rfl, ?_⟩))
  have hs : g3.objs.size = s.heap.objs.size := b3.1.trans (b2.1.trans b1.1)
  have z3 : IsZipHeld g3 z TI TO T true := b3.extBut _ _ D.i2z.symm (b2.extBut _ _ D.i1z.symm z1)
  have hp2 : IsPair (g3.push { cls := .type "tuple", data := .seq #[x, y] }) g3.objs.size x y := Heap.get?_push_size _ rfl
  have hs2 : (g3.push { cls := .type "tuple", data := .seq #[x, y] }).objs.size = g3.objs.size + 1 := Heap.size_push ..
  show Q (.ref g3.objs.size) _; rw [hs] at hp2 hs2 ⊢
  exact q _ (Heap.get?_push_of_some _ z3) ((v1.extBut b3.extBut D.i12).at fun o e => Heap.get?_push_of_some _ e) (v2.at fun o e => Heap.get?_push_of_some _ e) hp2 hs2 fun c o n1 n2 n3 e => Heap.get?_push_of_some _ (b3.extBut _ _ n3 (b2.extBut _ _ n2 (b1.extBut _ _ n1 e)))
theorem zz_end {z TI TO T i1 i2 l1 l2 : Addr} {f : Bool} {oT : Obj} {k1 k2 : Nat} {xs ys : Array Value} {Q : Fin → Shared → Prop} (hh : A.handled = none) (D : ZipApart z TI TO i1 i2 l1 l2)
    (hz : IsZipHeld s.heap z TI TO T f) (ht : s.heap.get? T = some oT) (hp : IsPair s.heap TI (.ref i1) (.ref i2)) (u1 : s.heap.IsTupleIter i1 l1 k1) (u2 : s.heap.IsTupleIter i2 l2 k2) (e1 : s.heap.IsTuple l1 xs) (e2 : s.heap.IsTuple l2 ys) (hx : xs[k1]? = none)
    (q : ∀ h' e, (∀ c o, c ≠ z → c ≠ i1 → c ≠ i2 → s.heap.get? c = some o → h'.get? c = some o) → (∃ o, h'.get? e = some o ∧ o.cls = .type "StopIteration") → E (.ref e) { s with heap := h' }) :
    wpAny (model prog w) A (Builtin.«zip.__next__» ⟨[.ref z], []⟩) Q E s := by
  show wpAny _ _ (field (.ref z) 2 >>= _) _ _ _; refine wpAny_bind (wpAny_field hz rfl (x := .bool false) rfl ?_)
  show wpAny _ _ (field (.ref z) 3 >>= _) _ _ _; refine wpAny_bind (wpAny_field hz rfl (x := .ref TI) rfl ?_)
  refine wpAny_bind (wpAny_seqItems hp rfl ?_); show wpAny _ _ (Builtin.SmallTypes.ownedTupleIsFree (.ref z) >>= _) _ _ _
  refine wpAny_bind (wpAny_tupleHeld_zip hz ht fun g1 z1 b1 => ?_)
  simp only [Bool.false_eq_true, if_false]; refine wpAny_bind ?_
  rw [← Array.forIn_toList]; simp only [List.forIn_cons, List.forIn_nil]
  refine wpAny_bind (wpAny_bind (wpAny_holding ?_)); show wpAny _ _ (Builtin.SmallTypes.nextOf (.ref i1) >>= _) _ _ _
  exact wpAny_bind (RZ.nextOf_tuple_end (s := { s with heap := g1 }) hh (u1.extBut b1.extBut D.i1z) (e1.extBut b1.extBut D.l1z) hx fun g2 e b2 he => q g2 e (fun c o n1 n2 _ r => b2 _ _ n2 (b1.extBut _ _ n1 r)) he)
/-- the zip, after i of its pairs -/
def ZSt (S : Addr) (h : Heap) (z TI TO i1 i2 l1 l2 : Addr) (i : Nat) : Prop := IsPair h TI (.ref i1) (.ref i2) ∧ h.IsTupleIter i1 l1 i ∧ h.IsTupleIter i2 l2 i ∧
  ((IsZip h z TI TO .none ∧ ∃ a b, IsPair h TO a b) ∨ ∃ T f oT, IsZipHeld h z TI TO T f ∧ h.get? T = some oT ∧ T ≠ z ∧ T ≠ i1 ∧ T ≠ i2 ∧ T ≠ S)
theorem zz_item {S z TI TO i1 i2 l1 l2 : Addr} {i : Nat} {xs ys : Array Value} {x y : Value} {Q : Option Value → Shared → Prop} (D : ZipApart z TI TO i1 i2 l1 l2) (hS : S < s.heap.objs.size) (st : ZSt S s.heap z TI TO i1 i2 l1 l2 i) (e1 : s.heap.IsTuple l1 xs) (e2 : s.heap.IsTuple l2 ys) (hx : xs[i]? = some x) (hy : ys[i]? = some y)
    (q : ∀ h', ZSt S h' z TI TO i1 i2 l1 l2 (i + 1) → IsPair h' s.heap.objs.size x y → h'.objs.size = s.heap.objs.size + 1 → (∀ c o, c ≠ z → c ≠ TO → c ≠ i1 → c ≠ i2 → s.heap.get? c = some o → h'.get? c = some o) → Q (some (.ref s.heap.objs.size)) { s with heap := h' }) :
    wpAny (model prog w) A (pyNext (.ref z)) Q E s := by
  obtain ⟨hp, u1, u2, st⟩ := st
  have m1 : i1 < s.heap.objs.size := by obtain ⟨_, e, _⟩ := u1; exact Heap.lt_size e
  have m2 : i2 < s.heap.objs.size := by obtain ⟨_, e, _⟩ := u2; exact Heap.lt_size e
  rcases st with ⟨hz, a, b, ho⟩ | ⟨T, f, oT, hz, ht, n1, n2, n3, n4⟩
  · have mz : z < s.heap.objs.size := Heap.lt_size hz
    refine RZ.pyNext_zipT_item D hz hp ho u1 u2 e1 e2 hx hy fun h' c1 c2 c3 c4 c5 c6 c7 => q h' ⟨c7 _ _ D.TIz D.TITO D.TIi1 D.TIi2 hp, c3, c4, .inr ⟨_, false, _, c1, c5, Nat.ne_of_gt mz, Nat.ne_of_gt m1, Nat.ne_of_gt m2, Nat.ne_of_gt hS⟩⟩ c5 c6 c7
  · have hT : s.TypeIs (.ref z) "zip" := ⟨_, hz, rfl⟩
    unfold pyNext
    refine wpAny_bind (wpAny_attempt (wpAny_callSpecial?_slot (name := Str.ofString "__next__") hT F.slot_zip_next (wpAny_call_entry F.slot_zip_next hT F.entry_zip_next (zz_next D hz ht hp u1 u2 e1 e2 hx hy fun h' c1 c3 c4 c5 c6 c7 => wpAny_pure ?_) (F.args_zip_next_1 _))))
    exact q h' ⟨c7 _ _ D.TIz D.TIi1 D.TIi2 hp, c3, c4, .inr ⟨T, true, oT, c1, c7 _ _ n1 n2 n3 ht, n1, n2, n3, n4⟩⟩ c5 c6 fun c o d1 _ d2 d3 e => c7 c o d1 d2 d3 e
theorem zz_done {S z TI TO i1 i2 l1 l2 : Addr} {i : Nat} {xs ys : Array Value} {Q : Option Value → Shared → Prop} (hh : A.handled = none) (D : ZipApart z TI TO i1 i2 l1 l2) (st : ZSt S s.heap z TI TO i1 i2 l1 l2 i) (e1 : s.heap.IsTuple l1 xs) (e2 : s.heap.IsTuple l2 ys) (hx : xs[i]? = none)
    (q : ∀ h', (∀ c o, c ≠ z → c ≠ TO → c ≠ i1 → c ≠ i2 → s.heap.get? c = some o → h'.get? c = some o) → Q none { s with heap := h' }) :
    wpAny (model prog w) A (pyNext (.ref z)) Q E s := by
  obtain ⟨hp, u1, u2, st⟩ := st
  rcases st with ⟨hz, a, b, ho⟩ | ⟨T, f, oT, hz, ht, n1, n2, n3, n4⟩
  · exact RZ.pyNext_zipT_end hh D hz hp ho u1 u2 e1 e2 (.inl hx) q
  · have hT : s.TypeIs (.ref z) "zip" := ⟨_, hz, rfl⟩
    unfold pyNext
    refine wpAny_bind (wpAny_attempt (wpAny_callSpecial?_slot (name := Str.ofString "__next__") hT F.slot_zip_next (wpAny_call_entry F.slot_zip_next hT F.entry_zip_next (zz_end hh D hz ht hp u1 u2 e1 e2 hx fun h' e hk he => ?_) (F.args_zip_next_1 _))))
    obtain ⟨o, ho, hc⟩ := he
    exact wpAny_bind (wpAny_isInstance (T := "StopIteration") (b := true) ⟨o, ho, hc⟩ isSubtype_stop (wpAny_pure (q _ fun c o n1 _ n2 n3 e => hk c o n1 n2 n3 e)))
theorem ZSt.keep {h h' : Heap} {z TI TO i1 i2 l1 l2 S : Addr} {i : Nat} (st : ZSt S h z TI TO i1 i2 l1 l2 i) (k : ∀ b o, b ≠ S → h.get? b = some o → h'.get? b = some o) (n1 : z ≠ S) (n2 : TI ≠ S) (n3 : TO ≠ S) (n4 : i1 ≠ S) (n5 : i2 ≠ S) : ZSt S h' z TI TO i1 i2 l1 l2 i := by
  obtain ⟨hp, u1, u2, st⟩ := st
  refine ⟨k _ _ n2 hp, u1.at fun o e => k _ o n4 e, u2.at fun o e => k _ o n5 e, ?_⟩
  rcases st with ⟨hz, a, b, ho⟩ | ⟨T, f, oT, hz, ht, m1, m2, m3, m4⟩
  · exact .inl ⟨k _ _ n1 hz, a, b, k _ _ n3 ho⟩
  · exact .inr ⟨T, f, oT, k _ _ n1 hz, k _ _ m4 ht, m1, m2, m3, m4⟩
end
/-- the pairs, each at its place, one behind another -/
structure MadeZ (xs ys : Array Value) (lo : Addr) (h : Heap) (as : List Addr) : Prop where
  rise : as.Pairwise (· < ·)
  above : ∀ a ∈ as, lo < a
  pairs : ∀ (j : Nat) (a : Addr), as[j]? = some a → ∃ x y, xs[j]? = some x ∧ ys[j]? = some y ∧ IsPair h a x y
end My
namespace My
open PySem PySem.Spec PyProof.Rows L2 PySem.W
open PySem.Sem (wp)
theorem zz_nolen : typeLookup (.type "zip") "__len__" = pure none := am_miss_of_fast (by decide +kernel)
theorem zz_nohint : typeLookup (.type "zip") "__length_hint__" = pure none := am_miss_of_fast (by decide +kernel)
theorem MadeZ.there {xs ys : Array Value} {lo : Addr} {h : Heap} {as : List Addr} (g : MadeZ xs ys lo h as) {a : Addr} (ha : a ∈ as) : a < h.objs.size := by
  obtain ⟨j, hj⟩ := List.mem_iff_getElem?.mp ha
  obtain ⟨_, _, _, _, e⟩ := g.pairs j a hj
  exact Heap.lt_size e
section
variable {prog : Program} {w : World} {A : Around} {s : Shared} {R : Result → Shared → Prop} {xs ys : Array Value} {z TI TO i1 i2 l1 l2 S lo : Addr}
structure ZAll (z TI TO i1 i2 l1 l2 S lo : Addr) : Prop where
  bz : z ≤ lo
  bTI : TI ≤ lo
  bTO : TO ≤ lo
  bi1 : i1 ≤ lo
  bi2 : i2 ≤ lo
  bS : S ≤ lo
  nz : z ≠ S
  nTI : TI ≠ S
  nTO : TO ≠ S
  ni1 : i1 ≠ S
  ni2 : i2 ≠ S
  nl1 : l1 ≠ S
  nl2 : l2 ≠ S
theorem tup_at {h h' : Heap} {a : Addr} {xs : Array Value} (x : h.IsTuple a xs) (k : ∀ o, h.get? a = some o → h'.get? a = some o) : h'.IsTuple a xs := by
  obtain ⟨o, ho, r⟩ := x
  exact ⟨o, k o ho, r⟩
theorem zz_loop (hh : A.handled = none) (D : ZipApart z TI TO i1 i2 l1 l2) (U : ZAll z TI TO i1 i2 l1 l2 S lo) (he : xs.size = ys.size) (hn : xs.size ≤ sizeLine) (res : Value) {h₁ : Heap}
    (hR : ∀ h' tk acc c as, (∀ b o, b ≠ S → b ≠ z → b ≠ TO → b ≠ i1 → b ≠ i2 → h₁.get? b = some o → h'.get? b = some o) → h'.get? S = some { cls := .type "list", dict := none, data := .seq acc c, slots := #[] } → as.length = xs.size → MadeZ xs ys lo h' as → acc.toList = as.map Value.ref → R (.ok (.ret res)) { s with heap := h', toks := tk }) :
    ∀ (k i : Nat) (h : Heap) (tk c : Nat) (acc : Array Value) (as : List Addr), xs.size - i = k → i ≤ xs.size → ZSt S h z TI TO i1 i2 l1 l2 i → h.IsTuple l1 xs → h.IsTuple l2 ys → (∀ b o, b ≠ S → b ≠ z → b ≠ TO → b ≠ i1 → b ≠ i2 → h₁.get? b = some o → h.get? b = some o) →
      h.get? S = some { cls := .type "list", dict := none, data := .seq acc c, slots := #[] } → acc.toList = as.map Value.ref → as.length = i → MadeZ xs ys lo h as → lo < h.objs.size →
      codeAny (model prog w) A (.builtin "list.extend.loop" ⟨[.ref S, .ref z, res], []⟩) R { s with heap := h, toks := tk } := by
  intro k
  induction k with
  | zero =>
    intro i h tk c acc as hk hi st t1 t2 hkeep hS hacc hal hG hlo
    refine codeAny_builtin PySem.F.entry_extend_loop ?_; rw [Around.under_plainId PySem.F.plain_extend_loop _]
    show wpAny _ A.in1 (pyNext (.ref z) >>= _) _ _ _
    refine wpAny_bind (zz_done (s := { s with heap := h, toks := tk }) (A := A.in1) hh D st t1 t2 (by simp; omega) fun h' he => wpAny_pure ?_)
    refine hR h' tk acc c as (fun b o n0 n1 n2 n3 n4 e => he b o n1 n2 n3 n4 (hkeep b o n0 n1 n2 n3 n4 e)) (he S _ U.nz.symm U.nTO.symm U.ni1.symm U.ni2.symm hS) (by omega) ⟨hG.rise, hG.above, fun j a hj => ?_⟩ hacc
    obtain ⟨x, y, e1, e2, e3⟩ := hG.pairs j a hj
    have ha := hG.above a (List.mem_of_getElem? hj)
    exact ⟨x, y, e1, e2, he a _ (Nat.ne_of_gt (Nat.lt_of_le_of_lt U.bz ha)) (Nat.ne_of_gt (Nat.lt_of_le_of_lt U.bTO ha)) (Nat.ne_of_gt (Nat.lt_of_le_of_lt U.bi1 ha)) (Nat.ne_of_gt (Nat.lt_of_le_of_lt U.bi2 ha)) e3⟩
  | succ k ih =>
    intro i h tk c acc as hk hi st t1 t2 hkeep hS hacc hal hG hlo
    have hlt : i < xs.size := by omega
    have hlt2 : i < ys.size := by omega
    have hsz : acc.size = i := by rw [← Array.length_toList, hacc, List.length_map, hal]
    refine codeAny_builtin PySem.F.entry_extend_loop ?_; rw [Around.under_plainId PySem.F.plain_extend_loop _]
    show wpAny _ A.in1 (pyNext (.ref z) >>= _) _ _ _
    refine wpAny_bind (zz_item (s := { s with heap := h, toks := tk }) (A := A.in1) D (Heap.lt_size hS) st t1 t2 (x := xs[i]) (y := ys[i]) (by simp [hlt]) (by simp [hlt2]) fun h' st' hp hz hkp => ?_)
    dsimp only at hp hz hkp ⊢
    have hS' := hkp S _ U.nz.symm U.nTO.symm U.ni1.symm U.ni2.symm hS
    have up : ∀ b o, b ≠ S → h'.get? b = some o → (h'.update S (Obj.mapSeq (·.push (Value.ref h.objs.size)))).get? b = some o := fun b o hb e => (Heap.get?_update_other _ _ (Ne.symm hb)).trans e
    have hSl : S < h.objs.size := Heap.lt_size hS
    have up2 : ∀ b o, lo < b → h.get? b = some o → (h'.update S (Obj.mapSeq (·.push (Value.ref h.objs.size)))).get? b = some o := fun b o hb e => up b o (Nat.ne_of_gt (Nat.lt_of_le_of_lt U.bS hb)) (hkp b o (Nat.ne_of_gt (Nat.lt_of_le_of_lt U.bz hb)) (Nat.ne_of_gt (Nat.lt_of_le_of_lt U.bTO hb)) (Nat.ne_of_gt (Nat.lt_of_le_of_lt U.bi1 hb)) (Nat.ne_of_gt (Nat.lt_of_le_of_lt U.bi2 hb)) e)
    show wpAny _ A.in1 (updateSeq S (·.push (Value.ref h.objs.size)) >>= _) _ _ _; refine wpAny_bind ?_
    refine wpAny_updateSeq hS' rfl (wpAny_pure ⟨plainId_quiet PySem.F.plain_extend_loop _, ih (i + 1) _ tk _ (acc.push (Value.ref h.objs.size)) (as ++ [h.objs.size]) (by omega) hlt (st'.keep up U.nz U.nTI U.nTO U.ni1 U.ni2) ?_ ?_ ?_ (Heap.get?_update_self _ hS' rfl) (by rw [Array.toList_push, hacc, List.map_append]; rfl) (by rw [List.length_append, hal]; rfl) ⟨?_, ?_, ?_⟩ ?_⟩) (by rw [hsz]; omega) (by show (acc.push (Value.ref h.objs.size)).size ≤ sizeLine + 1; rw [Array.size_push, hsz]; omega)
    · exact tup_at t1 fun o e => up _ o U.nl1 (hkp _ o D.l1z D.l1TO D.l1i1 D.l1i2 e)
    · exact tup_at t2 fun o e => up _ o U.nl2 (hkp _ o D.l2z D.l2TO D.l2i1 D.l2i2 e)
    · exact fun b o n0 n1 n2 n3 n4 e => up b o n0 (hkp b o n1 n2 n3 n4 (hkeep b o n0 n1 n2 n3 n4 e))
    · refine List.pairwise_append.mpr ⟨hG.rise, List.pairwise_singleton _ _, fun a ha b hb => by rw [List.mem_singleton.mp hb]; exact hG.there ha⟩
    · intro a ha
      rcases List.mem_append.mp ha with q | q
      · exact hG.above a q
      · rw [List.mem_singleton.mp q]; exact hlo
    · intro j b hj
      by_cases q : j < as.length
      · rw [List.getElem?_append_left q] at hj
        obtain ⟨x, y, e1, e2, e3⟩ := hG.pairs j b hj
        exact ⟨x, y, e1, e2, up2 b _ (hG.above b (List.mem_of_getElem? hj)) e3⟩
      · rw [List.getElem?_append_right (by omega)] at hj
        have q2 : j - as.length = 0 := by
          rcases Nat.eq_zero_or_pos (j - as.length) with v | v
          · exact v
          · rw [List.getElem?_eq_none (by show 1 ≤ _; omega)] at hj; cases hj
        rw [q2] at hj
        cases hj
        have q3 : j = i := by omega
        subst q3
        refine ⟨xs[j], ys[j], by simp [hlt], by simp [hlt2], up _ _ (Nat.ne_of_gt hSl) hp⟩
    · have e : (h'.update S (Obj.mapSeq (·.push (Value.ref h.objs.size)))).get? h.objs.size = _ := up _ _ (Nat.ne_of_gt hSl) hp
      exact Nat.lt_trans hlo (Heap.lt_size e)
end
end My
namespace My
open PySem PySem.Spec PyProof.Rows L2 PySem.W
open PySem.Sem (wp)
section
variable {prog : Program} {w : World} {A : Around} {E : Value → Shared → Prop} {s : Shared} {xs ys : Array Value} {z TI TO i1 i2 l1 l2 : Addr}
theorem zz_hint (hT : s.TypeIs (.ref z) "zip") {Q : Bool → Shared → Prop} (h : Q true s) : wpAny (model prog w) A (Builtin.List.listLengthHint (.ref z)) Q E s := by
  unfold Builtin.List.listLengthHint
  refine wpAny_bind (wpAny_specialOf hT zz_nolen ?_); show wpAny _ _ (specialOf (Value.ref z) (Str.ofString "__length_hint__") >>= _) _ _ _
  exact wpAny_bind (wpAny_specialOf hT zz_nohint (wpAny_pure h))
theorem zz_extend {R : Result → Shared → Prop} (hh : A.handled = none) (D : ZipApart z TI TO i1 i2 l1 l2) (S : Addr) (hz : IsZip s.heap z TI TO .none) (hTI : IsPair s.heap TI (.ref i1) (.ref i2)) (hTO : IsPair s.heap TO .none .none) (u1 : s.heap.IsTupleIter i1 l1 0) (u2 : s.heap.IsTupleIter i2 l2 0)
    (t1 : s.heap.IsTuple l1 xs) (t2 : s.heap.IsTuple l2 ys) (U : ZAll z TI TO i1 i2 l1 l2 S (s.heap.objs.size - 1)) (he : xs.size = ys.size) (hn : xs.size ≤ sizeLine) (res : Value) (c₀ : Nat) (hS : s.heap.get? S = some { cls := .type "list", data := .seq #[] c₀ })
    (hR : ∀ h' tk acc c as, (∀ b o, b ≠ S → b ≠ z → b ≠ TO → b ≠ i1 → b ≠ i2 → s.heap.get? b = some o → h'.get? b = some o) → h'.get? S = some { cls := .type "list", dict := none, data := .seq acc c, slots := #[] } → as.length = xs.size → MadeZ xs ys (s.heap.objs.size - 1) h' as → acc.toList = as.map Value.ref → R (.ok (.ret res)) { s with heap := h', toks := tk }) :
    wpAny (model prog w) A.in1 (Builtin.List.listExtendWith (.ref S) (.ref z) res) (fun fin s' => match fin with | .done f => R (.ok f) s' | .again c' => c'.quiet = true ∧ codeAny (model prog w) A c' R s') (fun e s' => R (.error e) s') s := by
  have hS0 : S < s.heap.objs.size := Heap.lt_size hS
  have hT : s.TypeIs (.ref z) "zip" := ⟨_, hz, rfl⟩
  have key : ∀ (h : Heap) (c₁ tk : Nat), (∀ b o, b ≠ S → s.heap.get? b = some o → h.get? b = some o) → h.objs.size = s.heap.objs.size → h.get? S = some { cls := .type "list", data := .seq #[] c₁ } → codeAny (model prog w) A (.builtin "list.extend.loop" ⟨[.ref S, .ref z, res], []⟩) R { s with heap := h, toks := tk } := by
    intro h c₁ tk hk hsz hS₁
    have kz : ∀ {b : Addr} {o : Obj}, b ≠ S → s.heap.get? b = some o → h.get? b = some o := fun n e => hk _ _ n e
    refine zz_loop (s := s) (h₁ := s.heap) hh D U he hn res (fun h' tk' acc c as hk' hS' hl hG hacc => hR h' tk' acc c as hk' hS' hl hG hacc) xs.size 0 h tk c₁ #[] [] (Nat.sub_zero _) (Nat.zero_le _)
      ⟨kz U.nTI hTI, u1.at fun o e => kz U.ni1 e, u2.at fun o e => kz U.ni2 e, .inl ⟨kz U.nz hz, _, _, kz U.nTO hTO⟩⟩ (tup_at t1 fun o e => kz U.nl1 e) (tup_at t2 fun o e => kz U.nl2 e) (fun b o n _ _ _ _ e => kz n e) hS₁ rfl rfl ⟨List.Pairwise.nil, (fun _ ha => nomatch ha), (fun j a hj => by simp at hj)⟩ (by rw [hsz]; exact Nat.sub_lt (Nat.lt_of_le_of_lt (Nat.zero_le _) hS0) Nat.one_pos)
  unfold Builtin.List.listExtendWith
  refine wpAny_bind (wpAny_typeOf (T := "zip") hT ?_)
  have h1 : Builtin.List.listSameRef (.ref S) (.ref z) = false := by simp [Builtin.List.listSameRef, U.nz.symm]
  simp only [h1, show (Value.type "zip" == Value.type "list") = false by decide, show (Value.type "zip" == Value.type "tuple") = false by decide, Bool.or_false, Bool.false_eq_true, if_false]
  refine wpAny_bind (wpAny_pyIter_zip hz ?_)
  refine wpAny_bind (wpAny_holding (zz_hint hT ?_))
  refine wpAny_ite_split (fun _ => ?_) (fun _ => wpAny_pure ⟨plainId_quiet PySem.F.plain_extend_loop _, key _ c₀ _ (fun b o _ e => e) rfl hS⟩)
  refine wpAny_bind (wpAny_rule (wpAny_bind ?_)); show wpAny _ _ (updateSeq S (·.push .none) >>= fun _ => updateSeq S (·.pop)) _ _ _
  refine wpAny_bind (wpAny_updateSeq hS rfl ?_); have s2 := Heap.get?_update_self (Obj.mapSeq (·.push Value.none)) hS rfl
  refine wpAny_updateSeq (hz := by seq_fits) s2 rfl ?_; have s3 := Heap.get?_update_self (Obj.mapSeq (·.pop)) s2 rfl
  refine wpAny_pure ⟨plainId_quiet PySem.F.plain_extend_loop _, key _ _ _ (fun b o hb e => ?_) ?_ s3⟩
  · exact (Heap.get?_update_other _ _ (Ne.symm hb)).trans ((Heap.get?_update_other _ _ (Ne.symm hb)).trans e)
  · rw [Heap.size_update, Heap.size_update]
theorem zz_init {R : Result → Shared → Prop} (hh : A.handled = none) (D : ZipApart z TI TO i1 i2 l1 l2) (S : Addr) (hz : IsZip s.heap z TI TO .none) (hTI : IsPair s.heap TI (.ref i1) (.ref i2)) (hTO : IsPair s.heap TO .none .none) (u1 : s.heap.IsTupleIter i1 l1 0) (u2 : s.heap.IsTupleIter i2 l2 0)
    (t1 : s.heap.IsTuple l1 xs) (t2 : s.heap.IsTuple l2 ys) (U : ZAll z TI TO i1 i2 l1 l2 S (s.heap.objs.size - 1)) (he : xs.size = ys.size) (hn : xs.size ≤ sizeLine) (hS : s.heap.get? S = some { cls := .type "list", data := .seq #[] })
    (hR : ∀ h' tk acc c as, (∀ b o, b ≠ S → b ≠ z → b ≠ TO → b ≠ i1 → b ≠ i2 → s.heap.get? b = some o → h'.get? b = some o) → h'.get? S = some { cls := .type "list", dict := none, data := .seq acc c, slots := #[] } → as.length = xs.size → MadeZ xs ys (s.heap.objs.size - 1) h' as → acc.toList = as.map Value.ref → R (.ok (.ret .none)) { s with heap := h', toks := tk }) :
    wpAny (model prog w) A.in1 (Builtin.«list.__init__» ⟨[.ref S, .ref z], []⟩) (fun fin s' => match fin with | .done f => R (.ok f) s' | .again c' => c'.quiet = true ∧ codeAny (model prog w) A c' R s') (fun e s' => R (.error e) s') s := by
  show wpAny _ _ (do let old ← Builtin.List.listItems (.ref S); Builtin.List.listUpdate (.ref S) (fun _ => #[]); letGo old.toList.reverse; Builtin.List.listExtendWith (.ref S) (.ref z) .none) _ _ s
  refine wpAny_bind ?_; unfold Builtin.List.listItems; refine wpAny_bind (wpAny_seqItems hS rfl (wpAny_pure ?_))
  show wpAny _ _ (updateSeq S (fun _ => #[]) >>= fun _ => letGo (#[] : Array Value).toList.reverse >>= fun _ => Builtin.List.listExtendWith (.ref S) (.ref z) .none) _ _ s
  refine wpAny_bind (wpAny_updateSeq hS rfl ?_); have s2 := Heap.get?_update_self (Obj.mapSeq (fun _ => (#[] : Array Value))) hS rfl
  have k : ∀ b o, b ≠ S → s.heap.get? b = some o → (s.heap.update S (Obj.mapSeq (fun _ => (#[] : Array Value)))).get? b = some o := fun b o hb e => (Heap.get?_update_other _ _ (Ne.symm hb)).trans e
  have hz2 : (s.heap.update S (Obj.mapSeq (fun _ => (#[] : Array Value)))).objs.size = s.heap.objs.size := Heap.size_update ..
  refine wpAny_bind (wpAny_letGo ?_)
  refine zz_extend (s := { s with heap := s.heap.update S (Obj.mapSeq (fun _ => (#[] : Array Value))) }) hh D S (k _ _ U.nz hz) (k _ _ U.nTI hTI) (k _ _ U.nTO hTO) (u1.at fun o e => k _ o U.ni1 e) (u2.at fun o e => k _ o U.ni2 e) (tup_at t1 fun o e => k _ o U.nl1 e) (tup_at t2 fun o e => k _ o U.nl2 e) (by rw [show (({ s with heap := s.heap.update S (Obj.mapSeq (fun _ => (#[] : Array Value))) } : Shared).heap.objs.size) = s.heap.objs.size from hz2]; exact U) he hn .none _ s2 (fun h' tk acc c as hk hS' hl hG hacc => ?_)
  exact hR h' tk acc c as (fun b o n0 n1 n2 n3 n4 e => hk b o n0 n1 n2 n3 n4 (k b o n0 e)) hS' hl (by rw [← hz2]; exact hG) hacc
theorem zz_call {Q : Value → Shared → Prop} (hh : A.handled = none) (D : ZipApart z TI TO i1 i2 l1 l2) (hz : IsZip s.heap z TI TO .none) (hTI : IsPair s.heap TI (.ref i1) (.ref i2)) (hTO : IsPair s.heap TO .none .none) (u1 : s.heap.IsTupleIter i1 l1 0) (u2 : s.heap.IsTupleIter i2 l2 0)
    (t1 : s.heap.IsTuple l1 xs) (t2 : s.heap.IsTuple l2 ys) (he : xs.size = ys.size) (hn : xs.size ≤ sizeLine)
    (hQ : ∀ h' tk acc c as, (∀ b o, b ≠ z → b ≠ TO → b ≠ i1 → b ≠ i2 → s.heap.get? b = some o → h'.get? b = some o) → h'.get? s.heap.objs.size = some { cls := .type "list", dict := none, data := .seq acc c, slots := #[] } → as.length = xs.size → MadeZ xs ys s.heap.objs.size h' as → acc.toList = as.map Value.ref → Q (.ref s.heap.objs.size) { s with heap := h', toks := tk }) :
    wpAny (model prog w) A (call (.type "list") [.ref z]) Q E s := by
  refine callType_codes (Q₁ := fun obj s₁ => obj = .ref s.heap.objs.size ∧ s₁ = { s with heap := s.heap.push { cls := .type "list", data := .seq #[] } }) PySem.F.called_list (PySem.F.typeCall_list_1 _) PySem.F.entry_list_init (code_list_new _ ⟨rfl, rfl⟩) fun obj s₁ h₁ => ?_
  obtain ⟨rfl, rfl⟩ := h₁
  have hS : (s.heap.push { cls := .type "list", data := .seq #[] }).get? s.heap.objs.size = some { cls := .type "list", data := .seq #[] } := Heap.get?_push_size _ rfl
  have hsz : (s.heap.push { cls := .type "list", data := .seq #[] }).objs.size - 1 = s.heap.objs.size := by rw [Heap.size_push]; rfl
  have k : ∀ {b : Addr} {o : Obj}, s.heap.get? b = some o → (s.heap.push { cls := .type "list", data := .seq #[] }).get? b = some o := fun e => Heap.get?_push_of_some _ e
  have lt : ∀ {b : Addr} {o : Obj}, s.heap.get? b = some o → b < s.heap.objs.size := fun e => Heap.lt_size e
  have b1 : i1 < s.heap.objs.size := by obtain ⟨_, e, _⟩ := u1; exact lt e
  have b2 : i2 < s.heap.objs.size := by obtain ⟨_, e, _⟩ := u2; exact lt e
  have b3 : l1 < s.heap.objs.size := by obtain ⟨_, e, _⟩ := t1; exact lt e
  have b4 : l2 < s.heap.objs.size := by obtain ⟨_, e, _⟩ := t2; exact lt e
  have U : ZAll z TI TO i1 i2 l1 l2 s.heap.objs.size s.heap.objs.size := ⟨Nat.le_of_lt (lt hz), Nat.le_of_lt (lt hTI), Nat.le_of_lt (lt hTO), Nat.le_of_lt b1, Nat.le_of_lt b2, Nat.le_refl _, Nat.ne_of_lt (lt hz), Nat.ne_of_lt (lt hTI), Nat.ne_of_lt (lt hTO), Nat.ne_of_lt b1, Nat.ne_of_lt b2, Nat.ne_of_lt b3, Nat.ne_of_lt b4⟩
  refine ⟨⟨_, hS, rfl⟩, PySem.F.args_list_init_2 _ _, zz_init (A := A.in1) (s := { s with heap := s.heap.push { cls := .type "list", data := .seq #[] } }) hh D s.heap.objs.size (k hz) (k hTI) (k hTO) (u1.at fun o e => k e) (u2.at fun o e => k e) (tup_at t1 fun o e => k e) (tup_at t2 fun o e => k e) (by show ZAll _ _ _ _ _ _ _ _ ((s.heap.push _).objs.size - 1); rw [hsz]; exact U) he hn hS (fun h' tk acc c as hk hS' hl hG hacc => ?_)⟩
  refine ⟨rfl, hQ h' tk acc c as (fun b o n1 n2 n3 n4 e => hk b o (Nat.ne_of_lt (lt e)) n1 n2 n3 n4 (k e)) hS' hl ?_ hacc⟩
  have : MadeZ xs ys ((s.heap.push { cls := .type "list", data := .seq #[] }).objs.size - 1) h' as := hG
  rw [hsz] at this
  exact this
end
end My
namespace My
open PySem PySem.Spec PyProof.Rows L2 PySem.W
open PySem.Sem (wp)
/-- the pairs tracked at their places -/
def putZ : Hp → List Addr → List (V × V) → Hp
  | H, a :: as, p :: ps => putZ (upd H a (.tup [p.1, p.2])) as ps
  | H, _, _ => H
theorem putZ_off {b : Addr} : ∀ (as : List Addr) (ps : List (V × V)) (H : Hp), b ∉ as → putZ H as ps b = H b
  | [], _, _, _ => rfl
  | _ :: _, [], _, _ => rfl
  | a :: as, p :: ps, H, h => by
    show putZ (upd H a _) as ps b = H b
    rw [putZ_off as ps _ (fun q => h (.tail _ q)), upd_ne (fun q => h (by rw [q]; exact .head _))]
theorem putZ_at : ∀ (as : List Addr) (ps : List (V × V)) (H : Hp), as.Nodup → ∀ (j : Nat) (a : Addr) (p : V × V), as[j]? = some a → ps[j]? = some p → putZ H as ps a = some (.tup [p.1, p.2])
  | a :: as, p :: ps, H, hn, 0, b, r, ha, hp => by
    cases ha
    cases hp
    show putZ (upd H a _) as ps a = _
    rw [putZ_off as ps _ (List.nodup_cons.mp hn).1, upd_same]
  | a :: as, p :: ps, H, hn, j + 1, b, r, ha, hp => putZ_at as ps (upd H a _) (List.nodup_cons.mp hn).2 j b r (by simpa using ha) (by simpa using hp)
theorem putZ_in {b : Addr} {as : List Addr} {ps : List (V × V)} {H : Hp} (hl : as.length = ps.length) (hn : as.Nodup) (h : b ∈ as) : ∃ (j : Nat) (p : V × V), as[j]? = some b ∧ ps[j]? = some p ∧ putZ H as ps b = some (.tup [p.1, p.2]) := by
  obtain ⟨j, hj⟩ := List.mem_iff_getElem?.mp h
  have hlt : j < ps.length := by rw [← hl]; exact (List.getElem?_eq_some_iff.mp hj).1
  exact ⟨j, ps[j], hj, List.getElem?_eq_getElem hlt, putZ_at as ps H hn j b _ hj (List.getElem?_eq_getElem hlt)⟩
theorem paired_at {α β : Type} {F : α → β → Prop} : ∀ {xs : List α} {ys : List β}, Paired F xs ys → ∀ {i : Nat} {x : α} {y : β}, xs[i]? = some x → ys[i]? = some y → F x y
  | _, _, .cons h _, 0, _, _, e, f => by cases e; cases f; exact h
  | _, _, .cons _ t, i + 1, _, _, e, f => paired_at t (i := i) (by simpa using e) (by simpa using f)
theorem paired_len {α β : Type} {F : α → β → Prop} : ∀ {xs : List α} {ys : List β}, Paired F xs ys → xs.length = ys.length
  | _, _, .nil => rfl
  | _, _, .cons _ t => congrArg Nat.succ (paired_len t)
theorem refs_vals : ∀ as : List Addr, Vals (as.map V.ref) (as.map Value.ref)
  | [] => .nil
  | _ :: as => .cons rfl (refs_vals as)
def tListZip (K : PySem.W.Frag) (ta : TA) : TE := fun σ H Q => ta σ H fun vs H1 => ∃ a b xs ys, vs = [.ref a, .ref b] ∧ SqT K H1 a xs ∧ SqT K H1 b ys ∧ xs.length = ys.length ∧
  ∀ (S : Addr) (as : List Addr), H1 S = none → (∀ t ∈ as, H1 t = none) → S ∉ as → as.Nodup → as.length = xs.length → Q (.ref S) (upd (putZ H1 as (xs.zip ys)) S (.lst (as.map V.ref)))
section
variable {X : Cx} {e e2 : Expr} {ta : TA} {p p2 cpos pos : Pos}
theorem zip_laid {pins : List (Addr × Obj)} {σ : L2.St} {H : Hp} {s : Shared} {h' : Heap} {tk : Nat} {xs ys : List V} {us vs : List Value} {acc : Array Value} {c : Nat} {as : List Addr} {S0 : Addr} (I : Inv X pins σ H s) (hz : xs.length ≤ sizeLine) (hS0 : s.heap.objs.size ≤ S0) (rx : Vals xs us) (ry : Vals ys vs) (hxy : xs.length = ys.length)
    (hk : ∀ b o, s.heap.get? b = some o → h'.get? b = some o) (hS : h'.get? S0 = some { cls := .type "list", dict := none, data := .seq acc c, slots := #[] }) (hl : as.length = us.length) (hG : MadeZ us.toArray vs.toArray S0 h' as) (hacc : acc.toList = as.map Value.ref) :
    H S0 = none ∧ (∀ t ∈ as, H t = none) ∧ S0 ∉ as ∧ as.Nodup ∧ Inv X pins σ (upd (putZ H as (xs.zip ys)) S0 (.lst (as.map V.ref))) { s with heap := h', toks := tk } := by
  have lu : xs.length = us.length := rx.length
  have lp : as.length = (xs.zip ys).length := by rw [List.length_zip]; omega
  have hSn : S0 ∉ as := fun q => Nat.lt_irrefl _ (hG.above _ q)
  have nd : as.Nodup := List.Pairwise.imp (fun {a b} (h : a < b) => Nat.ne_of_lt h) hG.rise
  have new : ∀ t ∈ as, H t = none := fun t ht => I.hok.fresh (Nat.le_trans hS0 (Nat.le_of_lt (hG.above t ht)))
  have newS : H S0 = none := I.hok.fresh hS0
  have off : ∀ b, b ∉ as → b ≠ S0 → upd (putZ H as (xs.zip ys)) S0 (.lst (as.map V.ref)) b = H b := fun b h1 h2 => by rw [upd_ne h2, putZ_off as _ _ h1]
  have low : ∀ b o, s.heap.get? b = some o → b ∉ as ∧ b ≠ S0 := fun b o e => ⟨fun q => absurd (Heap.lt_size e) (Nat.not_lt.mpr (Nat.le_trans hS0 (Nat.le_of_lt (hG.above b q)))), Nat.ne_of_lt (Nat.lt_of_lt_of_le (Heap.lt_size e) hS0)⟩
  have kp : ∀ b u, H b = some u → upd (putZ H as (xs.zip ys)) S0 (.lst (as.map V.ref)) b = some u := fun b u e => by
    rw [off b (fun q => by rw [new b q] at e; cases e) (fun q => by rw [q, newS] at e; cases e)]; exact e
  refine ⟨newS, new, hSn, nd, ?_⟩
  refine I.call' (ch := []) rfl ⟨fun b o q _ _ _ => hk b o q, fun b o q _ _ _ => ⟨o.slots, hk b o q⟩, fun b o q n _ => ?_, fun b o q _ => ⟨o, hk b o q⟩, fun b xs q => kp b _ q, fun b o u q => kp b _ q, fun b ps q => ⟨#[], by rw [kp b _ q]; simp⟩⟩ (fun b u q => ?_) I.bare fun b q => by simp at q
  · obtain ⟨z1, z2⟩ := low b o q
    rw [off b z1 z2]; exact n
  · by_cases hb2 : b = S0
    · rw [hb2] at q ⊢
      rw [upd_same] at q
      cases q
      refine ⟨by rw [List.length_map]; omega, acc.toList, c, by rw [hacc]; exact refs_vals as, ?_⟩
      rw [Array.toArray_toList]; exact hS
    · by_cases hb : b ∈ as
      · obtain ⟨j, pr, e1, e2, e3⟩ := putZ_in (H := H) lp nd hb
        rw [upd_ne hb2, e3] at q
        cases q
        obtain ⟨x, y, f1, f2, f3⟩ := hG.pairs j b e1
        have g1 : xs[j]? = some pr.1 ∧ ys[j]? = some pr.2 := by
          rw [List.getElem?_zip_eq_some] at e2
          exact e2
        have r1 : RelV pr.1 x := paired_at rx g1.1 (by simpa using f1)
        have r2 : RelV pr.2 y := paired_at ry g1.2 (by simpa using f2)
        exact ⟨by show 2 ≤ sizeLine; decide, [x, y], .cons r1 (.cons r2 .nil), ⟨_, f3, rfl, _, rfl⟩⟩
      · rw [off b hb hb2] at q
        exact (I.hok b u q).stay (fun d v _ y => hk d v y) (fun d y => kp d _ y) fun d xs y => kp d _ y
theorem pe_listZip (hc : X.calm = true) (ha : PA X [e, e2] ta) (hgL : Gl X "list") (hmL : X.mg "list" = none) (hvL : bootBuiltins "list" = some (.type "list")) (hgZ : Gl X "zip") (hmZ : X.mg "zip" = none)
    (hsL : starEach [.Call (.Name "zip" p2) [e, e2] [] cpos] X.env = (false, eval (.Call (.Name "zip" p2) [e, e2] [] cpos) X.env) :: starEach [] X.env := by rfl)
    (hs : starEach [e, e2] X.env = (false, eval e X.env) :: starEach [e2] X.env := by rfl) (hpl : (backTo cpos (starEach [e2] X.env)).any (·.1) = false := by rfl) :
    PE X (.Call (.Name "list" p) [.Call (.Name "zip" p2) [e, e2] [] cpos] [] pos) (tListZip X.K ta) := by
  constructor
  intro pins s σ H Q I hq
  refine wpAny_Call_Name_kw (ld_blt I hgL hmL hvL (callWith_type1 ?_ hsL rfl))
  rw [hsL]; show wpAny _ _ (spliced ((false, eval (.Call (.Name "zip" p2) [e, e2] [] cpos) X.env) :: backTo pos (starEach [] X.env))) _ _ s
  refine Calls.spliced_cons (Call_ (ld_blt I hgZ hmZ PyProof.Rows.boot_zip (callWith_type1 (thn (ha.run cpos pins s σ H _ I hq) fun us s1 ⟨vs, H1, I1, r1, q1⟩ => ?_) hs hpl)))
  obtain ⟨a, b, xs, ys, rfl, hqx, hqy, hxy, q⟩ := q1
  cases r1 with
  | cons r rr =>
    cases rr with
    | cons r' rr =>
      cases rr; cases r; cases r'
      obtain ⟨its, rv, p1, hz1⟩ := I1.tuple hqx
      obtain ⟨its2, rv2, p2', _⟩ := I1.tuple hqy
      obtain ⟨o1, ho1, _⟩ := id p1
      obtain ⟨o2, ho2, _⟩ := id p2'
      have hl1 : xs.length = its.length := rv.length
      have hl2 : ys.length = its2.length := rv2.length
      have sz : xs.length ≤ sizeLine := by exact hz1
      refine RZ.call_zipT (show s1.heap.IsTuple a its.toArray from p1) (show s1.heap.IsTuple b its2.toArray from p2') fun h' hz hTI hTO h1 h2 hsz hk => Calls.spliced_nil ?_
      have I2 : Inv X pins σ H1 { s1 with heap := h' } := I1.kept (t' := s1.toks) hk
      refine zz_call (s := { s1 with heap := h' }) (I1.ok.hd hc) (PySem.W.ktu_apart s1.heap.objs.size a b (Heap.lt_size ho1) (Heap.lt_size ho2)) hz hTI hTO h1 h2 (xs := its.toArray) (ys := its2.toArray) (tup_at p1 fun o e => hk _ _ e) (tup_at p2' fun o e => hk _ _ e) (by simp; omega) (by simp; omega) fun h2' tk acc c as hk2 hS hl hG hacc => ?_
      have lt : ∀ {c : Addr} {o : Obj}, s1.heap.get? c = some o → c < s1.heap.objs.size := fun e => Heap.lt_size e
      obtain ⟨k1, k2, k3, k4, J⟩ := zip_laid (tk := tk) (S0 := h'.objs.size) I1 sz (by rw [hsz]; omega) rv rv2 hxy (h' := h2') (acc := acc) (c := c) (as := as)
        (fun c o e => hk2 c o (Nat.ne_of_lt (Nat.lt_of_lt_of_le (lt e) (Nat.le_add_right _ _))) (Nat.ne_of_lt (Nat.lt_of_lt_of_le (lt e) (Nat.le_add_right _ _))) (Nat.ne_of_lt (lt e)) (Nat.ne_of_lt (Nat.lt_of_lt_of_le (lt e) (Nat.le_add_right _ _))) (hk c o e)) hS (by simpa using hl) hG hacc
      exact ⟨.ref _, _, J, rfl, q _ as k1 k2 k3 k4 (by simp at hl; omega)⟩
end
end My

local macro_rules | `(tactic| walk_at "zsame") => `(tactic| first
  | assumption
  | exact L2.Same.refl _
  | (refine L2.Same.trans ?_ (My.same_upd (by assumption)); walk_at "zsame"))
local macro_rules | `(tactic| walk_at "zget") => `(tactic| first
  | assumption
  | exact L2.upd_same
  | (refine My.same_upd (by assumption) _ _ ?_; walk_at "zget"))
local macro_rules | `(tactic| walk_at "zgetx") => `(tactic| first
  | exact ⟨_, by assumption⟩
  | exact My.there_here
  | (refine My.there_old (by assumption) ?_; walk_at "zgetx"))
local macro_rules | `(tactic| walk_at "zdice") => `(tactic| first
  | assumption
  | (refine My.Dice.new ?_ (by assumption); walk_at "zdice"))
local macro_rules | `(tactic| walk_at "zext") => `(tactic| first
  | assumption
  | exact My.Ext.refl _ _
  | (refine My.Ext.trans ?_ (My.Ext.new (by assumption)); walk_at "zext"))
local macro_rules | `(tactic| walk_at "zsz") => `(tactic| exact Nat.le_trans (m := 100000) (Nat.le_of_ble_eq_true rfl) (by decide))
local macro_rules | `(tactic| walk_at "zcond") => `(tactic| first
  | (show (0 : Int) < _; omega)
  | (show (0 : Int) < _; decide +kernel)
  | (refine And.intro ?_ ?_ <;> omega)
  | (refine Or.inl (And.intro ?_ ?_) <;> omega)
  | (refine Or.inr (And.intro ?_ ?_) <;> omega)
  | (refine And.intro ?_ ?_ <;> decide +kernel))
local macro_rules | `(tactic| walk_at "zhp") => `(tactic| first
  | assumption
  | exact L2.upd_same
  | (rw [L2.upd_ne (by assumption)]; walk_at "zhp")
  | (rw [L2.upd_ne (Ne.symm (by assumption))]; walk_at "zhp"))
local macro_rules | `(tactic| walk_at "zrd") => `(tactic| repeat (first
  | with_reducible refine My.r_seq ?_
  | with_reducible refine My.r_op ?_
  | with_reducible refine My.r_var rfl ?_
  | with_reducible refine My.r_c ?_
  | with_reducible refine My.r_cons ?_
  | with_reducible refine My.r_nil ?_
  | with_reducible refine My.r_asg ?_
  | with_reducible refine My.r_name ?_
  | with_reducible refine My.r_cb ?_
  | with_reducible refine My.r_call ?_
  | with_reducible refine My.r_I0 ?_
  | ((with_reducible refine My.r_I ?hcond ?_); (case hcond => walk_at "zcond"))
  | with_reducible refine My.r_int1 ?_
  | with_reducible refine My.r_int1b ?_
  | with_reducible refine My.r_abs ?_
  | with_reducible refine My.r_max2 ?_
  | with_reducible refine My.r_min2 ?_
  | with_reducible refine My.r_reprB ?_
  | with_reducible refine My.r_ifs ?_
  | with_reducible refine My.r_ret ?_
  | with_reducible refine My.r_next ?_
  | with_reducible refine My.r_test ?_
  | with_reducible refine My.r_B ?_
  | with_reducible refine My.r_bl ?_
  | with_reducible refine My.r_un ?_
  | with_reducible refine My.r_U ?_
  | with_reducible refine My.r_eq rfl ?_
  | with_reducible refine My.r_ne rfl ?_
  | with_reducible refine My.r_lenL (by walk_at "zhp") ?_
  | with_reducible refine My.r_lenTp (by walk_at "zhp") ?_
  | with_reducible refine My.r_listL (by walk_at "zhp") ?_
  | with_reducible refine My.r_tupleL (by walk_at "zhp") ?_
  | with_reducible refine My.r_ixL (by walk_at "zhp") rfl ?_
  | with_reducible refine My.r_sub ?_
  | with_reducible refine My.r_setL (by walk_at "zhp") rfl ?_
  | with_reducible refine My.r_bm ?_
  | with_reducible refine My.r_bm0 ?_
  | with_reducible refine My.r_tyL (by walk_at "zhp") ?_
  | with_reducible refine My.r_tyS ?_
  | with_reducible refine My.r_strB ?_
  | with_reducible refine My.r_notInC ?_
  | with_reducible refine My.r_rng1 ?_
  | with_reducible refine My.r_iList ?_
  | with_reducible refine My.r_iListj (by walk_at "zhp") ?_
  | with_reducible refine My.r_iTup ?_
  | with_reducible refine My.r_iTupj (by walk_at "zhp") ?_
  | with_reducible refine My.r_iStr ?_
  | with_reducible refine My.r_iStrj ?_
  | with_reducible refine My.r_dnew ?_
  | with_reducible refine My.r_par ?_
  | with_reducible refine My.r_par3 ?_
  | with_reducible refine My.r_dget ?_
  | with_reducible refine My.r_dput ?_
  | with_reducible refine My.r_pairC ?_
  | with_reducible refine My.r_pairN ?_
  | with_reducible refine My.r_not ?_
  | with_reducible refine My.r_and ?_
  | with_reducible refine My.r_or ?_
  | with_reducible refine My.r_notV ?_
  | with_reducible refine My.r_andV ?_
  | with_reducible refine My.r_orV ?_
  | with_reducible refine My.r_if ?_
  | with_reducible refine My.r_chain ?_
  | with_reducible refine My.r_lc ?_
  | with_reducible refine My.r_for ?_
  | with_reducible refine My.r_yes ?_
  | with_reducible refine My.r_tup ?_
  | with_reducible refine My.r_lst ?_
  | with_reducible refine My.r_drop ?_
  | with_reducible refine L2.iteF ?_
  | with_reducible refine L2.iteT ?_
  | refine My.iteF' rfl ?_
  | refine My.iteT' rfl ?_))

namespace My
theorem turns_ok (n : Nat) : ∃ m : Nat, (if (if (n : Int) < 8 then (n : Int) else 8) > 1 then (if (n : Int) < 8 then (n : Int) else 8) else 1) = (m : Int) ∧ m ≤ 8 := by
  by_cases h : (n : Int) < 8
  · rw [if_pos h]
    by_cases h2 : (n : Int) > 1
    · rw [if_pos h2]
      exact ⟨n, rfl, by omega⟩
    · rw [if_neg h2]
      exact ⟨1, rfl, by omega⟩
  · rw [if_neg h]
    exact ⟨8, rfl, by omega⟩
end My

namespace My
open PySem PySem.Spec PyProof.Rows L2
/-- kinds of values whose type is known -/
inductive KindV (H : Hp) : V → Prop where
  | str {s : Str} (h : s.length ≤ 100000) (ha : s.cps.all (fun c => decide (c < 128)) = true) : KindV H (.str s)
  | non : KindV H .non
  | bl (b : Bool) : KindV H (.bl b)
  | int (i : Int) : KindV H (.int i)
  | tup {a : Addr} {xs : List V} (e : H a = some (.tup xs)) : KindV H (.ref a)
  | lst {a : Addr} {xs : List V} (e : H a = some (.lst xs)) : KindV H (.ref a)
  | dK {a : Addr} {kvs : List (Key × V)} (e : H a = some (.dK kvs)) : KindV H (.ref a)
def isStrV : V → Bool
  | .str _ => true
  | _ => false
theorem KindV.isi {K : PySem.W.Frag} {H : Hp} {v : V} {Q : VK} (h : KindV H v) (q : Q (.bl (isStrV v)) H) : rIsi K [v, .ty "str"] H Q := by
  cases h with
  | str h ha => exact ⟨_, _, .type "str", .type "str", true, rfl, .ty _, .base (.str _), kit_ty (by decide +kernel), q⟩
  | non => exact ⟨_, _, .type "NoneType", .type "str", false, rfl, .ty _, .base .non, kit_ty (by decide +kernel), q⟩
  | bl b => exact ⟨_, _, .type "bool", .type "str", false, rfl, .ty _, .base (.bl _), kit_ty (by decide +kernel), q⟩
  | int i => exact ⟨_, _, .type "int", .type "str", false, rfl, .ty _, .base (.int _), kit_ty (by decide +kernel), q⟩
  | tup e => exact ⟨_, _, .type "tuple", .type "str", false, rfl, .ty _, .base (.tup e), kit_ty (by decide +kernel), q⟩
  | lst e => exact ⟨_, _, .type "list", .type "str", false, rfl, .ty _, .base (.lst e), kit_ty (by decide +kernel), q⟩
  | dK e => exact ⟨_, _, .type "dict", .type "str", false, rfl, .ty _, .base (.dK e), kit_ty (by decide +kernel), q⟩
theorem KindV.mono {d : Addr} {H H' : Hp} {v : V} (e : Ext d H H') (n : ∀ a, v = .ref a → a ≠ d) (h : KindV H v) : KindV H' v := by
  cases h with
  | str h ha => exact .str h ha
  | non => exact .non
  | bl b => exact .bl b
  | int i => exact .int i
  | tup h => exact .tup (e _ _ (n _ rfl) h)
  | lst h => exact .lst (e _ _ (n _ rfl) h)
  | dK h => exact .dK (e _ _ (n _ rfl) h)
/-- .. and it is not the dice -/
def KD (d : Addr) (H : Hp) (v : V) : Prop := KindV H v ∧ ∀ a, v = .ref a → a ≠ d
theorem KD.mono {d : Addr} {H H' : Hp} {v : V} (e : Ext d H H') (h : KD d H v) : KD d H' v := ⟨h.1.mono e h.2, h.2⟩
theorem KD.flat {d : Addr} {H : Hp} {v : V} (h : KindV H v) (n : ∀ a, v ≠ .ref a) : KD d H v := ⟨h, fun a e => absurd e (n a)⟩
theorem KD.at_ {d : Addr} {H : Hp} {a : Addr} (h : KindV H (.ref a)) (n : a ≠ d) : KD d H (.ref a) := ⟨h, fun b e => by cases e; exact n⟩
theorem KindV.isiT {K : PySem.W.Frag} {H : Hp} {v : V} {Q : VK} (T : String) (f : V → Bool) (h : KindV H v) (hs : ∀ s, kitB "str" T = some (f (.str s))) (hn : kitB "NoneType" T = some (f .non)) (hb : ∀ b, kitB "bool" T = some (f (.bl b)))
    (hi : ∀ i, kitB "int" T = some (f (.int i))) (ht : ∀ a xs, H a = some (.tup xs) → kitB "tuple" T = some (f (.ref a))) (hl : ∀ a xs, H a = some (.lst xs) → kitB "list" T = some (f (.ref a))) (hd : ∀ a kvs, H a = some (.dK kvs) → kitB "dict" T = some (f (.ref a)))
    (q : Q (.bl (f v)) H) : rIsi K [v, .ty T] H Q := by
  cases h with
  | str h ha => exact ⟨_, _, .type "str", .type T, _, rfl, .ty _, .base (.str _), kit_ty (hs _), q⟩
  | non => exact ⟨_, _, .type "NoneType", .type T, _, rfl, .ty _, .base .non, kit_ty hn, q⟩
  | bl b => exact ⟨_, _, .type "bool", .type T, _, rfl, .ty _, .base (.bl _), kit_ty (hb _), q⟩
  | int i => exact ⟨_, _, .type "int", .type T, _, rfl, .ty _, .base (.int _), kit_ty (hi _), q⟩
  | tup e => exact ⟨_, _, .type "tuple", .type T, _, rfl, .ty _, .base (.tup e), kit_ty (ht _ _ e), q⟩
  | lst e => exact ⟨_, _, .type "list", .type T, _, rfl, .ty _, .base (.lst e), kit_ty (hl _ _ e), q⟩
  | dK e => exact ⟨_, _, .type "dict", .type T, _, rfl, .ty _, .base (.dK e), kit_ty (hd _ _ e), q⟩
def isIntishV : V → Bool
  | .int _ => true
  | .bl _ => true
  | _ => false
def isBoolV : V → Bool
  | .bl _ => true
  | _ => false
theorem KindV.isiInt {K : PySem.W.Frag} {H : Hp} {v : V} {Q : VK} (h : KindV H v) (q : Q (.bl (isIntishV v)) H) : rIsi K [v, .ty "int"] H Q :=
  h.isiT "int" isIntishV (fun _ => by show _ = some false; decide +kernel) (by show _ = some false; decide +kernel) (fun _ => by show _ = some true; decide +kernel) (fun _ => by show _ = some true; decide +kernel) (fun _ _ _ => by show _ = some false; decide +kernel) (fun _ _ _ => by show _ = some false; decide +kernel) (fun _ _ _ => by show _ = some false; decide +kernel) q
theorem KindV.isiBool {K : PySem.W.Frag} {H : Hp} {v : V} {Q : VK} (h : KindV H v) (q : Q (.bl (isBoolV v)) H) : rIsi K [v, .ty "bool"] H Q :=
  h.isiT "bool" isBoolV (fun _ => by show _ = some false; decide +kernel) (by show _ = some false; decide +kernel) (fun _ => by show _ = some true; decide +kernel) (fun _ => by show _ = some false; decide +kernel) (fun _ _ _ => by show _ = some false; decide +kernel) (fun _ _ _ => by show _ = some false; decide +kernel) (fun _ _ _ => by show _ = some false; decide +kernel) q
end My

namespace My
open PySem PySem.Spec PyProof.Rows L2
/-! ### words -/
def goodC (c : Nat) : Bool := decide (97 ≤ c) && decide (c ≤ 122)
/-- a word: one to eight letters a to z -/
def isW (s : Str) : Bool := decide (0 < s.length) && decide (s.length ≤ 8) && s.cps.all goodC
def isWV : V → Bool
  | .str s => isW s
  | _ => false
theorem ascii_alpha : ∀ c : Nat, c < 128 → Unicode.isAlpha c = ((decide (65 ≤ c) && decide (c ≤ 90)) || goodC c) := by decide +kernel
theorem ascii_lower : ∀ c : Nat, c < 128 → Unicode.isLower c = goodC c := by decide +kernel
theorem ascii_upper : ∀ c : Nat, c < 128 → (Unicode.isUpper c || Unicode.isTitle c) = (decide (65 ≤ c) && decide (c ≤ 90)) := by decide +kernel
theorem word_signs (s : Str) : (Txt.isascii s && (Txt.isalpha s && Txt.islower s)) = (decide (0 < s.length) && s.cps.all goodC) := by
  obtain ⟨cs⟩ := s
  rw [Bool.eq_iff_iff]
  simp only [Txt.isascii, Txt.isalpha, Txt.islower, Str.length, Bool.and_eq_true, Array.all_eq_true_iff_forall_mem, Array.any_eq_true, decide_eq_true_eq, Bool.not_eq_true', gt_iff_lt]
  constructor
  · rintro ⟨h1, ⟨h2, h3⟩, h4, h5⟩
    refine ⟨decide_eq_true h2, fun c hc => ?_⟩
    have a := h3 c hc
    have b := h1 c hc
    rw [ascii_alpha c b] at a
    have d : (Unicode.isUpper c || Unicode.isTitle c) = false := by
      have := Array.any_eq_false.mp h5
      obtain ⟨i, hi, e⟩ := Array.mem_iff_getElem.mp hc
      rw [← e]
      simpa using this i hi
    rw [ascii_upper c b] at d
    rw [d, Bool.false_or] at a
    exact a
  · rintro ⟨h1', h2⟩
    have h1 : 0 < cs.size := of_decide_eq_true h1'
    have hb : ∀ c ∈ cs, c < 128 := fun c hc => by
      have := h2 c hc
      unfold goodC at this
      simp only [Bool.and_eq_true, decide_eq_true_eq] at this
      omega
    refine ⟨hb, ⟨h1, fun c hc => ?_⟩, ⟨0, h1, ?_⟩, ?_⟩
    · rw [ascii_alpha c (hb c hc), h2 c hc, Bool.or_true]
    · have hm : cs[0] ∈ cs := Array.getElem_mem h1
      rw [ascii_lower _ (hb _ hm)]
      exact h2 _ hm
    · refine Array.any_eq_false.mpr fun i hi => ?_
      have hm : cs[i] ∈ cs := Array.getElem_mem hi
      have g := h2 _ hm
      rw [ascii_upper _ (hb _ hm)]
      unfold goodC at g
      simp only [Bool.and_eq_true, decide_eq_true_eq] at g ⊢
      omega
def dsg (cs : List Nat) : List PyData := cs.map fun c => .str ⟨#[c]⟩
theorem dp_sg {K : PySem.W.Frag} {H : Hp} : ∀ cs : List Nat, DpAll K H (sg cs) (dsg cs)
  | [] => .nil
  | c :: r => .cons (.str _) (dp_sg r)
theorem sg_lay : ∀ cs : List Nat, (∀ c ∈ cs, c < 128) → PyData.canLayAll0 (dsg cs) = true
  | [], _ => rfl
  | c :: r, h => by
    have ih := sg_lay r fun x hx => h x (List.mem_cons_of_mem _ hx)
    have hc := h c List.mem_cons_self
    show (PyData.strOk ⟨#[c]⟩ && PyData.canLayAll0 (dsg r)) = true
    rw [ih, Bool.and_true]
    unfold PyData.strOk
    simp
    omega
theorem sg_depth : ∀ cs : List Nat, PyData.depthAll (dsg cs) = 0
  | [] => rfl
  | c :: r => by
    show max 0 (PyData.depthAll (dsg r)) = 0
    rw [sg_depth r]
    rfl
theorem sg_shaped {cs : List Nat} (h : ∀ c ∈ cs, c < 128) : SeqAt.shaped (.list (dsg cs)) = true := by
  show (PyData.canLayAll0 (dsg cs) && decide (PyData.depthAll (dsg cs) + 1 ≤ 64)) = true
  rw [sg_lay cs h, sg_depth]
  rfl
theorem sg_nil : ∀ cs : List Nat, PyData.eqv (.list (dsg cs)) (.list []) = cs.isEmpty
  | [] => rfl
  | _ :: _ => rfl
end My

namespace My
open PySem PySem.Spec PyProof.Rows L2
/-! ### data as it lies in the heap; nothing of it is at N -/
mutual
inductive Is (N : List Addr) (H : Hp) : V → PyData → Prop
  | non : Is N H .non .none
  | bl (b : Bool) : Is N H (.bl b) (.bool b)
  | int (i : Int) : Is N H (.int i) (.int i)
  | str {s : Str} (h : s.length ≤ 100000) (ha : s.cps.all (fun c => decide (c < 128)) = true) : Is N H (.str s) (.str s)
  | lst {a : Addr} {xs : List V} {ds : List PyData} (n : a ∉ N) (e : H a = some (.lst xs)) (h : IsAll N H xs ds) : Is N H (.ref a) (.list ds)
  | tup {a : Addr} {xs : List V} {ds : List PyData} (n : a ∉ N) (e : H a = some (.tup xs)) (h : IsAll N H xs ds) : Is N H (.ref a) (.tuple ds)
  | dct {a : Addr} (n : a ∉ N) (e : H a = some (.dK [])) : Is N H (.ref a) (.dict [])
inductive IsAll (N : List Addr) (H : Hp) : List V → List PyData → Prop
  | nil : IsAll N H [] []
  | cons {v : V} {vs : List V} {d : PyData} {ds : List PyData} (h : Is N H v d) (t : IsAll N H vs ds) : IsAll N H (v :: vs) (d :: ds)
end
def ExtN (N : List Addr) (H H' : Hp) : Prop := ∀ b o, b ∉ N → H b = some o → H' b = some o
theorem ExtN.refl (N : List Addr) (H : Hp) : ExtN N H H := fun _ _ _ h => h
theorem ExtN.of_ext {d : Addr} {N : List Addr} {H H' : Hp} (hd : d ∈ N) (e : Ext d H H') : ExtN N H H' := fun b o n h => e b o (fun z => n (z ▸ hd)) h
theorem ExtN.of_same {N : List Addr} {H H' : Hp} (e : Same H H') : ExtN N H H' := fun b o _ h => e b o h
theorem ExtN.trans {N : List Addr} {H H1 H2 : Hp} (a : ExtN N H H1) (b : ExtN N H1 H2) : ExtN N H H2 := fun c o n h => b c o n (a c o n h)
mutual
theorem Is.mono {N : List Addr} {H H' : Hp} (e : ExtN N H H') : ∀ {v : V} {d : PyData}, Is N H v d → Is N H' v d
  | _, _, .non => .non
  | _, _, .bl b => .bl b
  | _, _, .int i => .int i
  | _, _, .str h ha => .str h ha
  | _, _, .lst n h t => .lst n (e _ _ n h) (IsAll.mono e t)
  | _, _, .tup n h t => .tup n (e _ _ n h) (IsAll.mono e t)
  | _, _, .dct n h => .dct n (e _ _ n h)
theorem IsAll.mono {N : List Addr} {H H' : Hp} (e : ExtN N H H') : ∀ {vs : List V} {ds : List PyData}, IsAll N H vs ds → IsAll N H' vs ds
  | _, _, .nil => .nil
  | _, _, .cons h t => .cons (Is.mono e h) (IsAll.mono e t)
end
theorem Is.kind {N : List Addr} {H : Hp} {v : V} {d : PyData} (h : Is N H v d) : KindV H v := by
  cases h with
  | non => exact .non
  | bl b => exact .bl b
  | int i => exact .int i
  | str h ha => exact .str h ha
  | lst n e t => exact .lst e
  | tup n e t => exact .tup e
  | dct n e => exact .dK e
mutual
theorem Is.dp {K : PySem.W.Frag} {N : List Addr} {H : Hp} : ∀ {v : V} {d : PyData}, Is N H v d → d.hasDict = false → Dp K H v d
  | _, _, .non, _ => .non
  | _, _, .bl b, _ => .bl b
  | _, _, .int i, _ => .int i
  | _, _, .str h ha, _ => .str _
  | _, _, .lst n h t, q => .lst (.inl (.inl h)) (IsAll.dp t q)
  | _, _, .tup n h t, q => .tup (.inl (.inl h)) (IsAll.dp t q)
  | _, _, .dct n h, q => nomatch q
theorem IsAll.dp {K : PySem.W.Frag} {N : List Addr} {H : Hp} : ∀ {vs : List V} {ds : List PyData}, IsAll N H vs ds → PyData.hasDictAll ds = false → DpAll K H vs ds
  | _, _, .nil, _ => .nil
  | _, _, .cons h t, q => by
    have q2 := Bool.or_eq_false_iff.mp q
    exact .cons (Is.dp h q2.1) (IsAll.dp t q2.2)
end
theorem IsAll.len {N : List Addr} {H : Hp} : ∀ {vs : List V} {ds : List PyData}, IsAll N H vs ds → vs.length = ds.length
  | _, _, .nil => rfl
  | _, _, .cons _ t => congrArg Nat.succ t.len
theorem IsAll.get {N : List Addr} {H : Hp} : ∀ {vs : List V} {ds : List PyData} {i : Nat} {v : V}, IsAll N H vs ds → vs[i]? = some v → ∃ d, ds[i]? = some d ∧ Is N H v d
  | _, _, _, _, .nil, e => by simp at e
  | _, _, 0, _, .cons h _, e => by
    cases e
    exact ⟨_, rfl, h⟩
  | _, _, i + 1, _, .cons _ t, e => t.get (i := i) (by simpa using e)
theorem IsAll.append {N : List Addr} {H : Hp} : ∀ {vs us : List V} {ds es : List PyData}, IsAll N H vs ds → IsAll N H us es → IsAll N H (vs ++ us) (ds ++ es)
  | _, _, _, _, .nil, b => b
  | _, _, _, _, .cons h t, b => .cons h (t.append b)
theorem IsAll.take {N : List Addr} {H : Hp} : ∀ {vs : List V} {ds : List PyData} (k : Nat), IsAll N H vs ds → IsAll N H (vs.take k) (ds.take k)
  | _, _, 0, _ => .nil
  | _, _, _ + 1, .nil => .nil
  | _, _, k + 1, .cons h t => .cons h (t.take k)
theorem IsAll.drop {N : List Addr} {H : Hp} : ∀ {vs : List V} {ds : List PyData} (k : Nat), IsAll N H vs ds → IsAll N H (vs.drop k) (ds.drop k)
  | _, _, 0, h => h
  | _, _, _ + 1, .nil => .nil
  | _, _, k + 1, .cons _ t => t.drop k
theorem IsAll.mem {N : List Addr} {H : Hp} : ∀ {vs : List V} {ds : List PyData} {v : V}, IsAll N H vs ds → v ∈ vs → ∃ d, d ∈ ds ∧ Is N H v d
  | _, _, _, .cons h t, e => by
    cases e with
    | head => exact ⟨_, .head _, h⟩
    | tail _ e =>
      obtain ⟨d, m, i⟩ := t.mem e
      exact ⟨d, .tail _ m, i⟩
def tupD : PyData → Bool
  | .tuple _ => true
  | _ => false
def boolD : PyData → Bool
  | .bool _ => true
  | _ => false
theorem Is.isiTup {K : PySem.W.Frag} {N : List Addr} {H : Hp} {v : V} {d : PyData} {Q : VK} (h : Is N H v d) (q : Q (.bl (tupD d)) H) : rIsi K [v, .ty "tuple"] H Q := by
  cases h with
  | non => exact ⟨_, _, .type "NoneType", .type "tuple", false, rfl, .ty _, .base .non, kit_ty (by decide +kernel), q⟩
  | bl b => exact ⟨_, _, .type "bool", .type "tuple", false, rfl, .ty _, .base (.bl _), kit_ty (by decide +kernel), q⟩
  | int i => exact ⟨_, _, .type "int", .type "tuple", false, rfl, .ty _, .base (.int _), kit_ty (by decide +kernel), q⟩
  | str h ha => exact ⟨_, _, .type "str", .type "tuple", false, rfl, .ty _, .base (.str _), kit_ty (by decide +kernel), q⟩
  | lst n e t => exact ⟨_, _, .type "list", .type "tuple", false, rfl, .ty _, .base (.lst e), kit_ty (by decide +kernel), q⟩
  | tup n e t => exact ⟨_, _, .type "tuple", .type "tuple", true, rfl, .ty _, .base (.tup e), kit_ty (by decide +kernel), q⟩
  | dct n e => exact ⟨_, _, .type "dict", .type "tuple", false, rfl, .ty _, .base (.dK e), kit_ty (by decide +kernel), q⟩
theorem Is.isiBool {K : PySem.W.Frag} {N : List Addr} {H : Hp} {v : V} {d : PyData} {Q : VK} (h : Is N H v d) (q : Q (.bl (boolD d)) H) : rIsi K [v, .ty "bool"] H Q := by
  have e : boolD d = isBoolV v := by cases h <;> rfl
  rw [e] at q
  exact h.kind.isiBool q
mutual
theorem Is.sub {N N' : List Addr} {H : Hp} (s : ∀ a, a ∈ N' → a ∈ N) : ∀ {v : V} {d : PyData}, Is N H v d → Is N' H v d
  | _, _, .non => .non
  | _, _, .bl b => .bl b
  | _, _, .int i => .int i
  | _, _, .str h ha => .str h ha
  | _, _, .lst n h t => .lst (fun z => n (s _ z)) h (IsAll.sub s t)
  | _, _, .tup n h t => .tup (fun z => n (s _ z)) h (IsAll.sub s t)
  | _, _, .dct n h => .dct (fun z => n (s _ z)) h
theorem IsAll.sub {N N' : List Addr} {H : Hp} (s : ∀ a, a ∈ N' → a ∈ N) : ∀ {vs : List V} {ds : List PyData}, IsAll N H vs ds → IsAll N' H vs ds
  | _, _, .nil => .nil
  | _, _, .cons h t => .cons (Is.sub s h) (IsAll.sub s t)
end
/-- a new address may be left out, too -/
theorem nin_new {N : List Addr} {H : Hp} {a D : Addr} {o : HO} (n : a ∉ N) (h : H a = some o) (hD : H D = none) : a ∉ D :: N := fun z => by
  cases z with
  | head => rw [hD] at h; cases h
  | tail _ z => exact n z
mutual
theorem Is.more {N : List Addr} {H : Hp} {D : Addr} (hD : H D = none) : ∀ {v : V} {d : PyData}, Is N H v d → Is (D :: N) H v d
  | _, _, .non => .non
  | _, _, .bl b => .bl b
  | _, _, .int i => .int i
  | _, _, .str h ha => .str h ha
  | _, _, .lst n h t => .lst (nin_new n h hD) h (IsAll.more hD t)
  | _, _, .tup n h t => .tup (nin_new n h hD) h (IsAll.more hD t)
  | _, _, .dct n h => .dct (nin_new n h hD) h
theorem IsAll.more {N : List Addr} {H : Hp} {D : Addr} (hD : H D = none) : ∀ {vs : List V} {ds : List PyData}, IsAll N H vs ds → IsAll (D :: N) H vs ds
  | _, _, .nil => .nil
  | _, _, .cons h t => .cons (Is.more hD h) (IsAll.more hD t)
end
theorem ExtN.at_ {N : List Addr} {H H' : Hp} {p : Addr} {o : HO} (hp : p ∈ N) (e : ExtN N H H') : ExtN N H (upd H' p o) := fun b u n h => by
  have nb : b ≠ p := fun z => n (by rw [z]; exact hp)
  rw [upd_ne nb]
  exact e b u n h
theorem nin1 {a d : Addr} (h : a ≠ d) : a ∉ [d] := fun z => h (List.mem_singleton.mp z)
end My

namespace My
open PySem PySem.Spec PyProof.Rows L2
/-! ### books as the law keeps them -/
structure LB where
  op : List (Str × Str × Str)
  en : List (Str × Str)
  br : List (Str × Str)
  deep : Str
  gap : Str
def opW : List Str := ["of", "if", "do", "key"]
def enW : List Str := ["in", "fi", "end"]
def brW : List Str := ["lp", "lb"]
def clOf (w : Str) : Str := if w = ("lp" : Str) then "rp" else "rb"
structure LB.Ok (b : LB) : Prop where
  some : b.op ≠ []
  ops : ∀ x ∈ b.op, x.1 ∈ opW ∧ (x.2.1 = ("deeper" : Str) ∨ x.2.1 = ("level" : Str)) ∧ (x.2.2 = ("filled" : Str) ∨ x.2.2 = ("empty" : Str))
  opn : (b.op.map (·.1)).Nodup
  ens : ∀ x ∈ b.en, x.1 ∈ enW ∧ ∃ y ∈ b.op, y.1 = x.2
  enn : (b.en.map (·.1)).Nodup
  brs : ∀ x ∈ b.br, x.1 ∈ brW ∧ x.2 = clOf x.1
  brn : (b.br.map (·.1)).Nodup
  dp : b.deep = ("joins" : Str) ∨ b.deep = ("breaks" : Str)
  gp : b.gap = ("joins" : Str) ∨ b.gap = ("breaks" : Str)
def strD (l : List (Str × Str)) : List (Key × V) := l.map fun p => (Sum.inr p.1, .str p.2)
/-- the openers' dict: each opener's pair at a place of its own -/
inductive OpAt (N : List Addr) (H : Hp) : List (Key × V) → List (Str × Str × Str) → Prop
  | nil : OpAt N H [] []
  | cons {w a b : Str} {t : Addr} {r : List (Key × V)} {l : List (Str × Str × Str)} (n : t ∉ N) (e : H t = some (.tup [.str a, .str b])) (h : OpAt N H r l) : OpAt N H ((Sum.inr w, .ref t) :: r) ((w, a, b) :: l)
structure BookAt (N : List Addr) (H : Hp) (B : Addr) (b : LB) : Prop where
  ex : ∃ o e r kvs, H B = some (.dK [(Sum.inr "openers", .ref o), (Sum.inr "enders", .ref e), (Sum.inr "brackets", .ref r), (Sum.inr "deep", .str b.deep), (Sum.inr "gap", .str b.gap)]) ∧
    H o = some (.dK kvs) ∧ OpAt N H kvs b.op ∧ H e = some (.dK (strD b.en)) ∧ H r = some (.dK (strD b.br)) ∧ o ∉ N ∧ e ∉ N ∧ r ∉ N
  out : B ∉ N
theorem OpAt.mono {N : List Addr} {H H' : Hp} (x : ExtN N H H') : ∀ {kvs : List (Key × V)} {l : List (Str × Str × Str)}, OpAt N H kvs l → OpAt N H' kvs l
  | _, _, .nil => .nil
  | _, _, .cons n e h => .cons n (x _ _ n e) (h.mono x)
theorem BookAt.mono {N : List Addr} {H H' : Hp} {B : Addr} {b : LB} (x : ExtN N H H') (h : BookAt N H B b) : BookAt N H' B b := by
  obtain ⟨⟨o, e, r, kvs, h1, h2, h3, h4, h5, n1, n2, n3⟩, n⟩ := h
  exact ⟨⟨o, e, r, kvs, x _ _ n h1, x _ _ n1 h2, h3.mono x, x _ _ n2 h4, x _ _ n3 h5, n1, n2, n3⟩, n⟩
theorem OpAt.sub {N N' : List Addr} {H : Hp} (s : ∀ a, a ∈ N' → a ∈ N) : ∀ {kvs : List (Key × V)} {l : List (Str × Str × Str)}, OpAt N H kvs l → OpAt N' H kvs l
  | _, _, .nil => .nil
  | _, _, .cons n e h => .cons (fun z => n (s _ z)) e (h.sub s)
theorem OpAt.append {N : List Addr} {H : Hp} : ∀ {kvs ks : List (Key × V)} {l m : List (Str × Str × Str)}, OpAt N H kvs l → OpAt N H ks m → OpAt N H (kvs ++ ks) (l ++ m)
  | _, _, _, _, .nil, b => b
  | _, _, _, _, .cons n e h, b => .cons n e (h.append b)
theorem OpAt.len {N : List Addr} {H : Hp} : ∀ {kvs : List (Key × V)} {l : List (Str × Str × Str)}, OpAt N H kvs l → kvs.length = l.length
  | _, _, .nil => rfl
  | _, _, .cons _ _ h => congrArg Nat.succ h.len
theorem OpAt.keys {N : List Addr} {H : Hp} : ∀ {kvs : List (Key × V)} {l : List (Str × Str × Str)}, OpAt N H kvs l → kvs.map (·.1) = (l.map (·.1)).map Sum.inr
  | _, _, .nil => rfl
  | _, _, .cons _ _ h => congrArg (List.cons _) h.keys
/-- what the openers' dict gives -/
theorem OpAt.val {N : List Addr} {H : Hp} {w : Str} : ∀ {kvs : List (Key × V)} {l : List (Str × Str × Str)}, OpAt N H kvs l →
    (w ∉ l.map (·.1) ∧ valV kvs (Sum.inr w) = none) ∨ ∃ t a b, (w, a, b) ∈ l ∧ t ∉ N ∧ valV kvs (Sum.inr w) = some (.ref t) ∧ H t = some (.tup [.str a, .str b]) ∧ l.lookup w = some (a, b)
  | _, _, .nil => .inl ⟨fun z => (nomatch z), rfl⟩
  | _, _, .cons (w := u) (a := a) (b := b) (t := t) (r := r) (l := l) n e h => by
    by_cases hw : u = w
    · subst hw
      exact .inr ⟨t, a, b, .head _, n, valV_pos rfl, e, by simp [List.lookup]⟩
    · have h1 : valV ((Sum.inr u, V.ref t) :: r) (Sum.inr w) = valV r (Sum.inr w) := valV_neg (fun z => hw (Sum.inr.inj z))
      have h2 : (w == u) = false := by simp; exact fun z => hw z.symm
      rcases h.val (w := w) with ⟨a1, a2⟩ | ⟨t', a', b', m, n', v, e', lk⟩
      · refine .inl ⟨fun z => ?_, by rw [h1, a2]⟩
        cases z with
        | head => exact hw rfl
        | tail _ z => exact a1 z
      · exact .inr ⟨t', a', b', .tail _ m, n', by rw [h1, v], e', by simp only [List.lookup, h2]; exact lk⟩
end My

namespace My
open PySem PySem.Spec PyProof.Rows L2
/-! ### the law's reader as plain functions -/
abbrev Pile := List (Int × Str)
structure LLine where
  col : Int
  ws : List Str
structure LState where
  pile : Pile
  wait : Str
structure LRead where
  parts : List (List Str)
  states : List LState
  fault : Option (Nat × Str)
def LB.frees (b : LB) : List Str := b.en.map (·.1) ++ b.br.map (·.2)
def topOf (p : Pile) : Int := match p.getLast? with
  | some x => x.1
  | none => 0
/-- from the end on, what holds is taken away -/
def cutWhile (f : Int × Str → Bool) (p : Pile) : Pile := (p.reverse.dropWhile f).reverse
def popTo (c : Int) (p : Pile) : Pile := cutWhile (fun x => decide (c < x.1)) p
def LB.rule (b : LB) (w : Str) : Str × Str := (b.op.lookup w).getD ("", "")
def mRest (b : LB) (f : List Str) (p : Pile) (c : Int) (free : Bool) : List Str × Pile × Str :=
  if free = true then (f, p, "") else
    let q := popTo c p
    let g := f ++ List.replicate (p.length - q.length) ("}" : Str)
    if topOf q = c then (g ++ [(";" : Str)], q, "") else
      (g, q, if 0 ≤ topOf q ∧ (if p.length = q.length then b.deep else b.gap) = ("breaks" : Str) then (if p.length = q.length then "deep" else "gap") else "")
def mHead (b : LB) (s : LState) (l : LLine) : List Str × Pile × Str :=
  let free := decide (l.ws.headD "" ∈ b.frees)
  if s.wait = ("" : Str) then mRest b [] s.pile l.col free
  else if (!free && (decide (topOf s.pile < l.col) || (decide (l.col = topOf s.pile) && decide ((b.rule s.wait).1 = ("level" : Str))))) = true then (["{"], s.pile ++ [(l.col, s.wait)], "")
  else if (b.rule s.wait).2 = ("filled" : Str) then ([], s.pile, "filled")
  else mRest b ["{", "}"] s.pile l.col free
def LB.want (b : LB) (w : Str) : Str := (b.en.lookup w).getD ""
def unwind (u : Str) (p : Pile) : Pile := cutWhile (fun x => decide (0 ≤ x.1) && decide (x.2 ≠ u)) p
def LB.push (b : LB) (w : Str) (p : Pile) : Pile := if w ∈ b.br.map (·.1) then p ++ [(-1, w)] else p
def mWord (b : LB) (p : Pile) (w : Str) : List Str × Pile × Str :=
  if w ∈ b.br.map (·.2) ∨ w ∈ b.en.map (·.1) then
    let u := b.want w
    let q := unwind u p
    let f := List.replicate (p.length - q.length) ("}" : Str)
    match q.getLast? with
    | none => (f, q, if u = ("" : Str) then "closer" else "ender")
    | some x =>
      if (u = ("" : Str) ∧ (b.br.lookup x.2).getD "" ≠ w) ∨ (u ≠ ("" : Str) ∧ x.1 < 0) then (f, q, if u = ("" : Str) then "closer" else "ender")
      else (f ++ (if u ≠ ("" : Str) then [("}" : Str)] else []) ++ [w], b.push w q.dropLast, "")
  else ([w], b.push w p, "")
def mBody (b : LB) : Pile → List Str → List Str × Pile × Str
  | p, [] => ([], p, "")
  | p, w :: ws =>
    let r := mWord b p w
    if r.2.2 = ("" : Str) then
      let t := mBody b r.2.1 ws
      (r.1 ++ t.1, t.2.1, t.2.2)
    else r
def LB.waits (b : LB) (ws : List Str) : Str := if ws.getLastD "" ∈ b.op.map (·.1) then ws.getLastD "" else ""
def mLine (b : LB) (s : LState) (l : LLine) : List Str × LState × Str :=
  let h := mHead b s l
  if h.2.2 = ("" : Str) then
    let t := mBody b h.2.1 l.ws
    (h.1 ++ t.1, ⟨t.2.1, b.waits l.ws⟩, t.2.2)
  else ([], s, h.2.2)
def mEnd (b : LB) (s : LState) : List Str × Str :=
  if s.wait ≠ ("" : Str) ∧ (b.rule s.wait).2 = ("filled" : Str) then ([], "filled")
  else if s.pile.any (fun x => decide (x.1 < 0)) = true then ([], "open")
  else ((if s.wait ≠ ("" : Str) then [("{" : Str), "}"] else []) ++ List.replicate s.pile.length ("}" : Str), "")
/-- the rest of the lines, read behind what stands -/
def mReadOn (b : LB) (parts : List (List Str)) (states : List LState) (s : LState) : Nat → List LLine → LRead
  | i, [] => let e := mEnd b s
    if e.2 = ("" : Str) then ⟨parts ++ [e.1], states, none⟩ else ⟨parts, states, some (i, e.2)⟩
  | i, l :: ls => let r := mLine b s l
    if r.2.2 = ("" : Str) then mReadOn b (parts ++ [r.1]) (states ++ [r.2.1]) r.2.1 (i + 1) ls else ⟨parts, states, some (i, r.2.2)⟩
def mRead (b : LB) (ls : List LLine) : LRead := mReadOn b [] [⟨[], ""⟩] ⟨[], ""⟩ 0 ls
/-! ### what the reader keeps: blocks of openers, brackets of the book -/
def PileOk (b : LB) (p : Pile) : Prop := ∀ x ∈ p, (0 ≤ x.1 ∧ x.2 ∈ b.op.map (·.1)) ∨ (x.1 = -1 ∧ x.2 ∈ b.br.map (·.1))
structure LState.Ok (b : LB) (s : LState) : Prop where
  pile : PileOk b s.pile
  wait : s.wait = ("" : Str) ∨ s.wait ∈ b.op.map (·.1)
structure LLine.Ok (l : LLine) : Prop where
  col : 0 ≤ l.col
  some : l.ws ≠ []
theorem cutWhile_sub (f : Int × Str → Bool) (p : Pile) : ∀ x ∈ cutWhile f p, x ∈ p := fun x h => by
  have h2 := List.mem_reverse.mp h
  exact List.mem_reverse.mp ((List.dropWhile_sublist f).subset h2)
theorem cutWhile_nil (f : Int × Str → Bool) : cutWhile f [] = [] := rfl
theorem cutWhile_pos {f : Int × Str → Bool} {p : Pile} {x : Int × Str} (h : f x = true) : cutWhile f (p ++ [x]) = cutWhile f p := by
  unfold cutWhile
  rw [List.reverse_append]
  show (List.dropWhile f (x :: p.reverse)).reverse = _
  rw [List.dropWhile_cons, if_pos h]
theorem cutWhile_neg {f : Int × Str → Bool} {p : Pile} {x : Int × Str} (h : ¬ f x = true) : cutWhile f (p ++ [x]) = p ++ [x] := by
  unfold cutWhile
  rw [List.reverse_append]
  show (List.dropWhile f (x :: p.reverse)).reverse = _
  rw [List.dropWhile_cons, if_neg h, List.reverse_cons, List.reverse_reverse]
theorem PileOk.sub {b : LB} {p q : Pile} (h : PileOk b p) (s : ∀ x ∈ q, x ∈ p) : PileOk b q := fun x hx => h x (s x hx)
theorem PileOk.add {b : LB} {p : Pile} {x : Int × Str} (h : PileOk b p) (hx : (0 ≤ x.1 ∧ x.2 ∈ b.op.map (·.1)) ∨ (x.1 = -1 ∧ x.2 ∈ b.br.map (·.1))) : PileOk b (p ++ [x]) := fun y hy => by
  rcases List.mem_append.mp hy with z | z
  · exact h y z
  · rw [List.mem_singleton.mp z]
    exact hx
theorem mRest_ok {b : LB} {f : List Str} {p : Pile} {c : Int} {free : Bool} (h : PileOk b p) : PileOk b (mRest b f p c free).2.1 := by
  have h2 : PileOk b (popTo c p) := h.sub (cutWhile_sub _ _)
  unfold mRest
  split
  · exact h
  · dsimp only
    split
    · exact h2
    · exact h2
theorem mHead_ok {b : LB} {s : LState} {l : LLine} (h : s.Ok b) (hl : l.Ok) : PileOk b (mHead b s l).2.1 := by
  unfold mHead
  dsimp only
  split
  · exact mRest_ok h.pile
  · rename_i hw
    split
    · exact h.pile.add (.inl ⟨hl.col, h.wait.resolve_left hw⟩)
    · split
      · exact h.pile
      · exact mRest_ok h.pile
theorem push_ok {b : LB} {w : Str} {p : Pile} (h : PileOk b p) : PileOk b (b.push w p) := by
  unfold LB.push
  split
  · rename_i hw
    exact h.add (.inr ⟨rfl, hw⟩)
  · exact h
theorem mWord_ok {b : LB} {p : Pile} {w : Str} (h : PileOk b p) : PileOk b (mWord b p w).2.1 := by
  have h2 : PileOk b (unwind (b.want w) p) := h.sub (cutWhile_sub _ _)
  unfold mWord
  split
  · dsimp only
    split
    · exact h2
    · split
      · exact h2
      · exact push_ok (h2.sub fun x hx => (List.dropLast_sublist _).subset hx)
  · exact push_ok h
theorem mBody_ok {b : LB} : ∀ {ws : List Str} {p : Pile}, PileOk b p → PileOk b (mBody b p ws).2.1
  | [], _, h => h
  | w :: ws, p, h => by
    unfold mBody
    dsimp only
    split
    · exact mBody_ok (mWord_ok h)
    · exact mWord_ok h
theorem mLine_ok {b : LB} {s : LState} {l : LLine} (h : s.Ok b) (hl : l.Ok) : (mLine b s l).2.1.Ok b := by
  unfold mLine
  dsimp only
  split
  · refine ⟨mBody_ok (mHead_ok h hl), ?_⟩
    show b.waits l.ws = _ ∨ _
    unfold LB.waits
    split
    · rename_i hw
      exact .inr hw
    · exact .inl rfl
  · exact h
/-! ### where states and lines stand in the heap -/
inductive PileAt (N : List Addr) (H : Hp) : List V → Pile → Prop
  | nil : PileAt N H [] []
  | cons {t : Addr} {c : Int} {w : Str} {r : List V} {p : Pile} (n : t ∉ N) (e : H t = some (.tup [.int c, .str w])) (h : PileAt N H r p) : PileAt N H (.ref t :: r) ((c, w) :: p)
structure StateAt (N : List Addr) (H : Hp) (S : Addr) (s : LState) : Prop where
  ex : ∃ pa xs, H S = some (.lst [.ref pa, .str s.wait]) ∧ H pa = some (.lst xs) ∧ PileAt N H xs s.pile ∧ pa ∉ N
  out : S ∉ N
structure LineAt (N : List Addr) (H : Hp) (L : Addr) (l : LLine) : Prop where
  ex : ∃ ta, H L = some (.tup [.int l.col, .ref ta]) ∧ H ta = some (.tup (l.ws.map V.str)) ∧ ta ∉ N
  out : L ∉ N
theorem PileAt.mono {N : List Addr} {H H' : Hp} (x : ExtN N H H') : ∀ {vs : List V} {p : Pile}, PileAt N H vs p → PileAt N H' vs p
  | _, _, .nil => .nil
  | _, _, .cons n e h => .cons n (x _ _ n e) (h.mono x)
theorem PileAt.append {N : List Addr} {H : Hp} : ∀ {vs us : List V} {p q : Pile}, PileAt N H vs p → PileAt N H us q → PileAt N H (vs ++ us) (p ++ q)
  | _, _, _, _, .nil, b => b
  | _, _, _, _, .cons n e h, b => .cons n e (h.append b)
theorem PileAt.len {N : List Addr} {H : Hp} : ∀ {vs : List V} {p : Pile}, PileAt N H vs p → vs.length = p.length
  | _, _, .nil => rfl
  | _, _, .cons _ _ h => congrArg Nat.succ h.len
/-- the last one, and what stands ahead of it -/
theorem PileAt.last {N : List Addr} {H : Hp} : ∀ {vs : List V} {p : Pile} {c : Int} {w : Str}, PileAt N H vs (p ++ [(c, w)]) → ∃ us t, vs = us ++ [.ref t] ∧ PileAt N H us p ∧ t ∉ N ∧ H t = some (.tup [.int c, .str w])
  | _, [], _, _, .cons n e .nil => ⟨[], _, rfl, .nil, n, e⟩
  | _, _ :: _, _, _, .cons n e h => by
    obtain ⟨us, t, rfl, h2, n2, e2⟩ := h.last
    exact ⟨_ :: us, t, rfl, .cons n e h2, n2, e2⟩
theorem StateAt.mono {N : List Addr} {H H' : Hp} {S : Addr} {s : LState} (x : ExtN N H H') (h : StateAt N H S s) : StateAt N H' S s := by
  obtain ⟨⟨pa, xs, h1, h2, h3, n1⟩, n⟩ := h
  exact ⟨⟨pa, xs, x _ _ n h1, x _ _ n1 h2, h3.mono x, n1⟩, n⟩
theorem LineAt.mono {N : List Addr} {H H' : Hp} {L : Addr} {l : LLine} (x : ExtN N H H') (h : LineAt N H L l) : LineAt N H' L l := by
  obtain ⟨⟨ta, h1, h2, n1⟩, n⟩ := h
  exact ⟨⟨ta, x _ _ n h1, x _ _ n1 h2, n1⟩, n⟩
/-- a pile is data -/
def pileD (p : Pile) : List PyData := p.map fun x => .tuple [.int x.1, .str x.2]
theorem PileAt.dp {K : PySem.W.Frag} {N : List Addr} {H : Hp} : ∀ {vs : List V} {p : Pile}, PileAt N H vs p → DpAll K H vs (pileD p)
  | _, _, .nil => .nil
  | _, _, .cons n e h => .cons (.tup (.inl (.inl e)) (.cons (.int _) (.cons (.str _) .nil))) h.dp
theorem pile_lay : ∀ {p : Pile}, (∀ x ∈ p, PyData.canLay0 (.str x.2) = true) → PyData.canLayAll0 (pileD p) = true
  | [], _ => by simp [pileD, PyData.canLayAll0]
  | x :: r, h => by
    have h1 := h x (.head _)
    have h2 := pile_lay fun y hy => h y (.tail _ hy)
    have e : pileD (x :: r) = .tuple [.int x.1, .str x.2] :: pileD r := rfl
    rw [e]
    simp only [PyData.canLayAll0, PyData.canLay0, Bool.true_and, Bool.and_true, h2] at h1 ⊢
    exact h1
theorem pile_depth : ∀ (p : Pile), PyData.depthAll (pileD p) ≤ 2
  | [] => by simp [pileD, PyData.depthAll]
  | x :: r => by
    have h2 := pile_depth r
    have e : pileD (x :: r) = .tuple [.int x.1, .str x.2] :: pileD r := rfl
    rw [e]
    simp [PyData.depthAll, PyData.depth]
    omega
theorem r_neNil {K : PySem.W.Frag} {N : List Addr} {H : Hp} {a b : Addr} {xs : List V} {p : Pile} {Q : VK} (ha : H a = some (.lst xs)) (hp : PileAt N H xs p) (hb : H b = some (.lst [])) (hw : ∀ x ∈ p, PyData.canLay0 (.str x.2) = true) (q : Q (.bl (decide (p ≠ []))) H) : rNeD K (.ref a) (.ref b) H Q := by
  refine ⟨.list (pileD p), .list [], .lst (.inl (.inl ha)) hp.dp, .lst (.inl (.inl hb)) .nil, ?_, rfl, ?_⟩
  · refine Bool.and_eq_true_iff.mpr ⟨?_, decide_eq_true ?_⟩
    · simp only [PyData.canLay0]
      exact pile_lay hw
    · have := pile_depth p
      simp only [PyData.depth]
      omega
  · cases p with
    | nil => exact q
    | cons x r => exact q
theorem r_eqNil {K : PySem.W.Frag} {N : List Addr} {H : Hp} {a b : Addr} {xs : List V} {p : Pile} {Q : VK} (ha : H a = some (.lst xs)) (hp : PileAt N H xs p) (hb : H b = some (.lst [])) (hw : ∀ x ∈ p, PyData.canLay0 (.str x.2) = true) (q : Q (.bl (decide (p = []))) H) : rEqD K (.ref a) (.ref b) H Q := by
  refine ⟨.list (pileD p), .list [], .lst (.inl (.inl ha)) hp.dp, .lst (.inl (.inl hb)) .nil, ?_, rfl, ?_⟩
  · refine Bool.and_eq_true_iff.mpr ⟨?_, decide_eq_true ?_⟩
    · simp only [PyData.canLay0]
      exact pile_lay hw
    · have := pile_depth p
      simp only [PyData.depth]
      omega
  · cases p with
    | nil => exact q
    | cons x r => exact q
/-- two ways to one value -/
theorem r_ifK {σ : L2.St} {H : Hp} {c : TT} {ta tb : TE} {Q : VK} (v : V) (R : Hp → Prop) (key : ∀ Hx, R Hx → Q v Hx) (q : (∀ Hx, R Hx → Q v Hx) → tIf c ta tb σ H Q) : tIf c ta tb σ H Q := q key
theorem topOf_add (p : Pile) (x : Int × Str) : topOf (p ++ [x]) = x.1 := by
  unfold topOf
  rw [List.getLast?_concat]
theorem pile_end (p : Pile) : p = [] ∨ ∃ q x, p = q ++ [x] := by
  rcases List.eq_nil_or_concat p with h | ⟨q, x, h⟩
  · exact .inl h
  · exact .inr ⟨q, x, by rw [h, List.concat_eq_append]⟩
end My

namespace My
open PySem PySem.Spec PyProof.Rows L2
/-! ### data, and where they lie: nothing of them at A -/
inductive Dt where
  | non | bl (b : Bool) | int (i : Int) | str (s : Str)
  | lst (ds : List Dt) | tup (ds : List Dt) | dct (ks : List (Key × Dt)) | ins (C : Addr) (fs : List (Str × Dt)) | exc (a : Addr) (dx : Option Addr) (fs : List (Str × Dt))
def strG (s : Str) : Prop := s.length ≤ 100000 ∧ s.cps.all (fun c => decide (c < 128)) = true
section
variable {K : PySem.W.Frag}
mutual
inductive Rp (K : PySem.W.Frag) (A : List Addr) (H : Hp) : V → Dt → Prop
  | non : Rp K A H .non .non
  | bl (b : Bool) : Rp K A H (.bl b) (.bl b)
  | int (i : Int) : Rp K A H (.int i) (.int i)
  | str {s : Str} (h : strG s) : Rp K A H (.str s) (.str s)
  | lst {a : Addr} {xs : List V} {ds : List Dt} (n : a ∉ A) (e : H a = some (.lst xs)) (h : RpL K A H xs ds) : Rp K A H (.ref a) (.lst ds)
  | tup {a : Addr} {xs : List V} {ds : List Dt} (n : a ∉ A) (e : Rd H a (.tup xs)) (h : RpL K A H xs ds) : Rp K A H (.ref a) (.tup ds)
  | wtp {a : Addr} {xs : List V} {ds : List Dt} (e : ∀ H, SqT K H a xs) (h : RpL K A H xs ds) : Rp K A H (.ref a) (.tup ds)
  | dct {a : Addr} {kvs : List (Key × V)} {ks : List (Key × Dt)} (n : a ∉ A) (e : H a = some (.dK kvs)) (h : RpK K A H kvs ks) : Rp K A H (.ref a) (.dct ks)
  | ins {a C dx : Addr} {fs : List (Str × V)} {gs : List (Str × Dt)} (n : a ∉ A) (e : H a = some (.ins C dx fs)) (h : RpF K A H fs gs) : Rp K A H (.ref a) (.ins C gs)
  | exc0 {a : Addr} : Rp K A H (.ref a) (.exc a none [])
  | exc1 {a d : Addr} {fs : List (Str × V)} {gs : List (Str × Dt)} (n : d ∉ A) (e : H d = some (.xd fs)) (h : RpF K A H fs gs) : Rp K A H (.ref a) (.exc a (some d) gs)
inductive RpL (K : PySem.W.Frag) (A : List Addr) (H : Hp) : List V → List Dt → Prop
  | nil : RpL K A H [] []
  | cons {v : V} {vs : List V} {d : Dt} {ds : List Dt} (h : Rp K A H v d) (t : RpL K A H vs ds) : RpL K A H (v :: vs) (d :: ds)
inductive RpK (K : PySem.W.Frag) (A : List Addr) (H : Hp) : List (Key × V) → List (Key × Dt) → Prop
  | nil : RpK K A H [] []
  | cons {k : Key} {v : V} {vs : List (Key × V)} {d : Dt} {ds : List (Key × Dt)} (h : Rp K A H v d) (t : RpK K A H vs ds) : RpK K A H ((k, v) :: vs) ((k, d) :: ds)
inductive RpF (K : PySem.W.Frag) (A : List Addr) (H : Hp) : List (Str × V) → List (Str × Dt) → Prop
  | nil : RpF K A H [] []
  | cons {k : Str} {v : V} {vs : List (Str × V)} {d : Dt} {ds : List (Str × Dt)} (h : Rp K A H v d) (t : RpF K A H vs ds) : RpF K A H ((k, v) :: vs) ((k, d) :: ds)
end
/-- all but what is at A stays -/
def Xt (A : List Addr) (H H' : Hp) : Prop := ∀ b o, b ∉ A → H b = some o → H' b = some o
abbrev Ex (H H' : Hp) : Prop := Evl.Ex H H'
theorem Xt.refl (A : List Addr) (H : Hp) : Xt A H H := fun _ _ _ h => h
theorem Xt.trans {A : List Addr} {H H1 H2 : Hp} (a : Xt A H H1) (b : Xt A H1 H2) : Xt A H H2 := fun c o n h => b c o n (a c o n h)
theorem Xt.of {A : List Addr} {H H' : Hp} (e : Ex H H') : Xt A H H' := fun b o _ h => e b o h
theorem Xt.sub {A B : List Addr} {H H' : Hp} (s : ∀ a, a ∈ A → a ∈ B) (e : Xt A H H') : Xt B H H' := fun b o n h => e b o (fun z => n (s b z)) h
theorem Xt.put {A : List Addr} {H : Hp} {p : Addr} {o : HO} (h : p ∈ A) : Xt A H (upd H p o) := fun b u n e => by
  rw [upd_ne (fun z => n (by rw [z]; exact h))]
  exact e
theorem Xt.new {A : List Addr} {H : Hp} {p : Addr} {o : HO} (h : H p = none) : Xt A H (upd H p o) := Xt.of (Evl.Ex.new h)
theorem Rd.xt {A : List Addr} {H H' : Hp} {a : Addr} {u : HO} (e : Xt A H H') (n : a ∉ A) (h : Rd H a u) : Rd H' a u := by
  rcases h with h | ⟨o, h⟩
  · exact .inl (e _ _ n h)
  · exact .inr ⟨o, e _ _ n h⟩
theorem Rd.no {H : Hp} {a : Addr} {u : HO} {P : Prop} (h : Rd H a u) (q : H a = none) : P := by
  rcases h with h | ⟨o, h⟩
  · rw [q] at h; cases h
  · rw [q] at h; cases h
mutual
theorem Rp.mono {A : List Addr} {H H' : Hp} (e : Xt A H H') : ∀ {v : V} {d : Dt}, Rp K A H v d → Rp K A H' v d
  | _, _, .non => .non
  | _, _, .bl b => .bl b
  | _, _, .int i => .int i
  | _, _, .str h => .str h
  | _, _, .lst n h t => .lst n (e _ _ n h) (RpL.mono e t)
  | _, _, .tup n h t => .tup n (Rd.xt e n h) (RpL.mono e t)
  | _, _, .wtp h t => .wtp h (RpL.mono e t)
  | _, _, .dct n h t => .dct n (e _ _ n h) (RpK.mono e t)
  | _, _, .ins n h t => .ins n (e _ _ n h) (RpF.mono e t)
  | _, _, .exc0 => .exc0
  | _, _, .exc1 n h t => .exc1 n (e _ _ n h) (RpF.mono e t)
theorem RpL.mono {A : List Addr} {H H' : Hp} (e : Xt A H H') : ∀ {vs : List V} {ds : List Dt}, RpL K A H vs ds → RpL K A H' vs ds
  | _, _, .nil => .nil
  | _, _, .cons h t => .cons (Rp.mono e h) (RpL.mono e t)
theorem RpK.mono {A : List Addr} {H H' : Hp} (e : Xt A H H') : ∀ {vs : List (Key × V)} {ds : List (Key × Dt)}, RpK K A H vs ds → RpK K A H' vs ds
  | _, _, .nil => .nil
  | _, _, .cons h t => .cons (Rp.mono e h) (RpK.mono e t)
theorem RpF.mono {A : List Addr} {H H' : Hp} (e : Xt A H H') : ∀ {vs : List (Str × V)} {ds : List (Str × Dt)}, RpF K A H vs ds → RpF K A H' vs ds
  | _, _, .nil => .nil
  | _, _, .cons h t => .cons (Rp.mono e h) (RpF.mono e t)
end
mutual
/-- fewer or other places may be asked: those of B stand in A or are free -/
theorem Rp.to {A B : List Addr} {H : Hp} (s : ∀ a, a ∈ B → a ∈ A ∨ H a = none) : ∀ {v : V} {d : Dt}, Rp K A H v d → Rp K B H v d
  | _, _, .non => .non
  | _, _, .bl b => .bl b
  | _, _, .int i => .int i
  | _, _, .str h => .str h
  | _, _, .lst n h t => .lst (fun z => (s _ z).elim n (fun q => by rw [q] at h; cases h)) h (RpL.to s t)
  | _, _, .tup n h t => .tup (fun z => (s _ z).elim n (fun q => Rd.no h q)) h (RpL.to s t)
  | _, _, .wtp h t => .wtp h (RpL.to s t)
  | _, _, .dct n h t => .dct (fun z => (s _ z).elim n (fun q => by rw [q] at h; cases h)) h (RpK.to s t)
  | _, _, .ins n h t => .ins (fun z => (s _ z).elim n (fun q => by rw [q] at h; cases h)) h (RpF.to s t)
  | _, _, .exc0 => .exc0
  | _, _, .exc1 n h t => .exc1 (fun z => (s _ z).elim n (fun q => by rw [q] at h; cases h)) h (RpF.to s t)
theorem RpL.to {A B : List Addr} {H : Hp} (s : ∀ a, a ∈ B → a ∈ A ∨ H a = none) : ∀ {vs : List V} {ds : List Dt}, RpL K A H vs ds → RpL K B H vs ds
  | _, _, .nil => .nil
  | _, _, .cons h t => .cons (Rp.to s h) (RpL.to s t)
theorem RpK.to {A B : List Addr} {H : Hp} (s : ∀ a, a ∈ B → a ∈ A ∨ H a = none) : ∀ {vs : List (Key × V)} {ds : List (Key × Dt)}, RpK K A H vs ds → RpK K B H vs ds
  | _, _, .nil => .nil
  | _, _, .cons h t => .cons (Rp.to s h) (RpK.to s t)
theorem RpF.to {A B : List Addr} {H : Hp} (s : ∀ a, a ∈ B → a ∈ A ∨ H a = none) : ∀ {vs : List (Str × V)} {ds : List (Str × Dt)}, RpF K A H vs ds → RpF K B H vs ds
  | _, _, .nil => .nil
  | _, _, .cons h t => .cons (Rp.to s h) (RpF.to s t)
end
end
end My

namespace My
open PySem PySem.Spec PyProof.Rows L2
/-! ### what the slots hold -/
/-- within a thing of the def's own: data, or a list of its own -/
inductive Od where
  | dat (d : Dt) | own (ds : List Dt)
/-- a ghost: what holds of the heap, by the objects at as alone (the tables of code objects of who makes lambdas) -/
inductive Sd where
  | no | dat (d : Dt) | own (ds : List Dt) | dice (g : Addr) | ownD (ks : List (Key × Dt)) | obj (a C : Addr) (fs : List (Str × Dt))
  | ownA (a : Addr) (ds : List Dt) | recD (ks : List (Key × Od)) | recI (a C : Addr) (fs : List (Str × Od))
  | gst (as : List Addr) (P : List Addr → Hp → Prop)
abbrev Store := List Sd
section
variable {K : PySem.W.Frag}
/-- a thing of the def's own at a -/
inductive Own1 (K : PySem.W.Frag) (A : List Addr) (H : Hp) (a : Addr) : Sd → Prop
  | own {xs : List V} {ds : List Dt} (e : H a = some (.lst xs)) (h : RpL K A H xs ds) : Own1 K A H a (.own ds)
  | ownD {kvs : List (Key × V)} {ks : List (Key × Dt)} (e : H a = some (.dK kvs)) (h : RpK K A H kvs ks) : Own1 K A H a (.ownD ks)
  | obj {C dx : Addr} {fs : List (Str × V)} {gs : List (Str × Dt)} (e : H a = some (.ins C dx fs)) (h : RpF K A H fs gs) : Own1 K A H a (.obj a C gs)
  | dice (h : Dice H a) : Own1 K A H a (.dice a)
  | ownA {xs : List V} {ds : List Dt} (e : H a = some (.lst xs)) (h : RpL K A H xs ds) : Own1 K A H a (.ownA a ds)
inductive OdL {κ : Type} (K : PySem.W.Frag) (A : List Addr) (H : Hp) : List (κ × V) → List (κ × Od) → List Addr → Prop
  | nil : OdL K A H [] [] []
  | dat {k : κ} {v : V} {d : Dt} {vs : List (κ × V)} {ds : List (κ × Od)} {as : List Addr} (h : Rp K A H v d) (t : OdL K A H vs ds as) : OdL K A H ((k, v) :: vs) ((k, .dat d) :: ds) as
  | own {k : κ} {b : Addr} {xs : List V} {es : List Dt} {vs : List (κ × V)} {ds : List (κ × Od)} {as : List Addr} (e : H b = some (.lst xs)) (h : RpL K A H xs es) (t : OdL K A H vs ds as) : OdL K A H ((k, .ref b) :: vs) ((k, .own es) :: ds) (b :: as)
/-- a dict or an instance of the def's own, with lists of its own in it -/
inductive Grp (K : PySem.W.Frag) (A : List Addr) (H : Hp) (a : Addr) : Sd → List Addr → Prop
  | recD {kvs : List (Key × V)} {ks : List (Key × Od)} {as : List Addr} (e : H a = some (.dK kvs)) (h : OdL K A H kvs ks as) : Grp K A H a (.recD ks) as
  | recI {C dx : Addr} {fs : List (Str × V)} {gs : List (Str × Od)} {as : List Addr} (e : H a = some (.ins C dx fs)) (h : OdL K A H fs gs as) : Grp K A H a (.recI a C gs) as
structure Gst (as : List Addr) (P : List Addr → Hp → Prop) : Prop where
  step : ∀ {A : List Addr} {H H' : Hp}, Xt A H H' → (∀ b ∈ as, H' b = H b) → P A H → P A H'
  to : ∀ {A B : List Addr} {H : Hp}, (∀ a, a ∈ B → a ∈ A ∨ H a = none) → P A H → P B H
  here : ∀ {A : List Addr} {H : Hp}, P A H → ∀ a ∈ as, H a ≠ none
inductive SlA (K : PySem.W.Frag) (A : List Addr) (H : Hp) : L2.St → Store → List Addr → Prop
  | nil : SlA K A H [] [] []
  | no {x : Option V} {σ : L2.St} {δ : Store} {L : List Addr} (t : SlA K A H σ δ L) : SlA K A H (x :: σ) (.no :: δ) L
  | dat {v : V} {d : Dt} {σ : L2.St} {δ : Store} {L : List Addr} (h : Rp K A H v d) (t : SlA K A H σ δ L) : SlA K A H (some v :: σ) (.dat d :: δ) L
  | cell {a : Addr} {s : Sd} {σ : L2.St} {δ : Store} {L : List Addr} (h : Own1 K A H a s) (t : SlA K A H σ δ L) : SlA K A H (some (.ref a) :: σ) (s :: δ) (a :: L)
  | grp {a : Addr} {s : Sd} {σ : L2.St} {δ : Store} {L as : List Addr} (h : Grp K A H a s as) (t : SlA K A H σ δ L) : SlA K A H (some (.ref a) :: σ) (s :: δ) (a :: (as ++ L))
  | gst {as : List Addr} {P : List Addr → Hp → Prop} {σ : L2.St} {δ : Store} {L : List Addr} (g : Gst as P) (hp : P A H) (t : SlA K A H σ δ L) : SlA K A H (none :: σ) (.gst as P :: δ) (as ++ L)
theorem OdL.step {κ : Type} {A : List Addr} {H H' : Hp} (hx : Xt A H H') : ∀ {vs : List (κ × V)} {ds : List (κ × Od)} {as : List Addr}, OdL K A H vs ds as → (∀ b ∈ as, H' b = H b) → OdL K A H' vs ds as
  | _, _, _, .nil, _ => .nil
  | _, _, _, .dat h t, q => .dat (h.mono hx) (t.step hx q)
  | _, _, _, .own e h t, q => .own (by rw [q _ (.head _)]; exact e) (h.mono hx) (t.step hx fun b hb => q b (.tail _ hb))
theorem OdL.to {κ : Type} {A B : List Addr} {H : Hp} (s : ∀ a, a ∈ B → a ∈ A ∨ H a = none) : ∀ {vs : List (κ × V)} {ds : List (κ × Od)} {as : List Addr}, OdL K A H vs ds as → OdL K B H vs ds as
  | _, _, _, .nil => .nil
  | _, _, _, .dat h t => .dat (h.to s) (t.to s)
  | _, _, _, .own e h t => .own e (h.to s) (t.to s)
theorem OdL.here {κ : Type} {A : List Addr} {H : Hp} : ∀ {vs : List (κ × V)} {ds : List (κ × Od)} {as : List Addr}, OdL K A H vs ds as → ∀ b ∈ as, H b ≠ none
  | _, _, _, .dat _ t, b, h => t.here b h
  | _, _, _, .own e _ t, b, h => by
    rcases List.mem_cons.mp h with rfl | h
    · rw [e]; exact fun z => nomatch z
    · exact t.here b h
theorem Grp.step {A : List Addr} {H H' : Hp} {a : Addr} {s : Sd} {as : List Addr} (hx : Xt A H H') (h : Grp K A H a s as) (q : ∀ b ∈ a :: as, H' b = H b) : Grp K A H' a s as := by
  cases h with
  | recD e h => exact .recD (by rw [q _ (.head _)]; exact e) (h.step hx fun b hb => q b (.tail _ hb))
  | recI e h => exact .recI (by rw [q _ (.head _)]; exact e) (h.step hx fun b hb => q b (.tail _ hb))
theorem Grp.to {A B : List Addr} {H : Hp} {a : Addr} {s : Sd} {as : List Addr} (q : ∀ a, a ∈ B → a ∈ A ∨ H a = none) (h : Grp K A H a s as) : Grp K B H a s as := by
  cases h with
  | recD e h => exact .recD e (h.to q)
  | recI e h => exact .recI e (h.to q)
theorem Grp.here {A : List Addr} {H : Hp} {a : Addr} {s : Sd} {as : List Addr} (h : Grp K A H a s as) : ∀ b ∈ a :: as, H b ≠ none := fun b hb => by
  cases h with
  | recD e h =>
    rcases List.mem_cons.mp hb with rfl | hb
    · rw [e]; exact fun z => nomatch z
    · exact h.here b hb
  | recI e h =>
    rcases List.mem_cons.mp hb with rfl | hb
    · rw [e]; exact fun z => nomatch z
    · exact h.here b hb
theorem Dice.at_ {H H' : Hp} {g : Addr} (h : Dice H g) (e : H' g = H g) : Dice H' g := by
  obtain ⟨a, b, c, h0, q⟩ := h
  exact ⟨a, b, c, h0, by rw [e]; exact q⟩
theorem Own1.step {A : List Addr} {H H' : Hp} {a : Addr} {s : Sd} (hx : Xt A H H') (q : H' a = H a) (h : Own1 K A H a s) : Own1 K A H' a s := by
  cases h with
  | own e h => exact .own (by rw [q]; exact e) (h.mono hx)
  | ownD e h => exact .ownD (by rw [q]; exact e) (h.mono hx)
  | obj e h => exact .obj (by rw [q]; exact e) (h.mono hx)
  | dice h => exact .dice (h.at_ q)
  | ownA e h => exact .ownA (by rw [q]; exact e) (h.mono hx)
theorem Own1.to {A B : List Addr} {H : Hp} {a : Addr} {s : Sd} (q : ∀ a, a ∈ B → a ∈ A ∨ H a = none) (h : Own1 K A H a s) : Own1 K B H a s := by
  cases h with
  | own e h => exact .own e (h.to q)
  | ownD e h => exact .ownD e (h.to q)
  | obj e h => exact .obj e (h.to q)
  | dice h => exact .dice h
  | ownA e h => exact .ownA e (h.to q)
theorem Own1.here {A : List Addr} {H : Hp} {a : Addr} {s : Sd} (h : Own1 K A H a s) : H a ≠ none := by
  cases h with
  | own e h => rw [e]; exact fun z => nomatch z
  | ownD e h => rw [e]; exact fun z => nomatch z
  | obj e h => rw [e]; exact fun z => nomatch z
  | ownA e h => rw [e]; exact fun z => nomatch z
  | dice h =>
    obtain ⟨_, _, _, _, e⟩ := h
    rw [e]; exact fun z => nomatch z
theorem SlA.step {A : List Addr} {H H' : Hp} (hx : Xt A H H') : ∀ {σ : L2.St} {δ : Store} {L : List Addr}, SlA K A H σ δ L → (∀ b ∈ L, H' b = H b) → SlA K A H' σ δ L
  | _, _, _, .nil, _ => .nil
  | _, _, _, .no t, q => .no (t.step hx q)
  | _, _, _, .dat h t, q => .dat (h.mono hx) (t.step hx q)
  | _, _, _, .cell h t, q => .cell (h.step hx (q _ (.head _))) (t.step hx fun b hb => q b (.tail _ hb))
  | _, _, _, .grp h t, q => .grp (h.step hx fun b hb => q b (by
      rcases List.mem_cons.mp hb with z | z
      · rw [z]; exact .head _
      · exact .tail _ (List.mem_append_left _ z))) (t.step hx fun b hb => q b (.tail _ (List.mem_append_right _ hb)))
  | _, _, _, .gst g hp t, q => .gst g (g.step hx (fun b hb => q b (List.mem_append_left _ hb)) hp) (t.step hx fun b hb => q b (List.mem_append_right _ hb))
theorem SlA.to {A B : List Addr} {H : Hp} (s : ∀ a, a ∈ B → a ∈ A ∨ H a = none) : ∀ {σ : L2.St} {δ : Store} {L : List Addr}, SlA K A H σ δ L → SlA K B H σ δ L
  | _, _, _, .nil => .nil
  | _, _, _, .no t => .no (t.to s)
  | _, _, _, .dat h t => .dat (h.to s) (t.to s)
  | _, _, _, .cell h t => .cell (h.to s) (t.to s)
  | _, _, _, .grp h t => .grp (h.to s) (t.to s)
  | _, _, _, .gst g hp t => .gst g (g.to s hp) (t.to s)
theorem SlA.here {A : List Addr} {H : Hp} : ∀ {σ : L2.St} {δ : Store} {L : List Addr}, SlA K A H σ δ L → ∀ a ∈ L, H a ≠ none
  | _, _, _, .no t, a, h => t.here a h
  | _, _, _, .dat _ t, a, h => t.here a h
  | _, _, _, .cell q t, a, h => by
    rcases List.mem_cons.mp h with rfl | h
    · exact q.here
    · exact t.here a h
  | _, _, _, .grp q t, a, h => by
    rcases List.mem_cons.mp h with rfl | h
    · exact q.here _ (.head _)
    · rcases List.mem_append.mp h with h | h
      · exact q.here _ (.tail _ h)
      · exact t.here a h
  | _, _, _, .gst g hp t, a, h => (List.mem_append.mp h).elim (g.here hp a) (t.here a)
theorem SlA.get_dat {A : List Addr} {H : Hp} {d : Dt} : ∀ {σ : L2.St} {δ : Store} {L : List Addr} {i : Nat}, SlA K A H σ δ L → δ[i]? = some (.dat d) → ∃ v, σ[i]? = some (some v) ∧ Rp K A H v d
  | _, _, _, 0, .dat h t, e => by cases e; exact ⟨_, rfl, h⟩
  | _, _, _, 0, .cell h t, e => by cases e; cases h
  | _, _, _, 0, .grp h t, e => by cases e; cases h
  | _, _, _, i + 1, .no t, e => t.get_dat (i := i) e
  | _, _, _, i + 1, .dat _ t, e => t.get_dat (i := i) e
  | _, _, _, i + 1, .cell _ t, e => t.get_dat (i := i) e
  | _, _, _, i + 1, .grp _ t, e => t.get_dat (i := i) e
  | _, _, _, 0, .gst _ _ t, e => by cases e
  | _, _, _, i + 1, .gst _ _ t, e => t.get_dat (i := i) e
def Sd.isOwn : Sd → Bool
  | .no => false
  | .dat _ => false
  | .recD _ => false
  | .recI _ _ _ => false
  | .gst _ _ => false
  | _ => true
def Sd.isGrp : Sd → Bool
  | .recD _ => true
  | .recI _ _ _ => true
  | _ => false
def Sd.plain : Sd → Bool
  | .no => true
  | .dat _ => true
  | _ => false
theorem SlA.get_cell {A : List Addr} {H : Hp} {s : Sd} (hs : s.isOwn = true) : ∀ {σ : L2.St} {δ : Store} {L : List Addr} {i : Nat}, SlA K A H σ δ L → δ[i]? = some s → ∃ a, σ[i]? = some (some (.ref a)) ∧ a ∈ L ∧ Own1 K A H a s
  | _, _, _, 0, .no t, e => by cases e; cases hs
  | _, _, _, 0, .dat h t, e => by cases e; cases hs
  | _, _, _, 0, .cell h t, e => by cases e; exact ⟨_, rfl, .head _, h⟩
  | _, _, _, 0, .grp h t, e => by cases e; cases h <;> cases hs
  | _, _, _, i + 1, .no t, e => t.get_cell hs (i := i) e
  | _, _, _, i + 1, .dat _ t, e => t.get_cell hs (i := i) e
  | _, _, _, i + 1, .cell _ t, e => let ⟨a, h1, h2, h3⟩ := t.get_cell hs (i := i) e; ⟨a, h1, .tail _ h2, h3⟩
  | _, _, _, i + 1, .grp _ t, e => let ⟨a, h1, h2, h3⟩ := t.get_cell hs (i := i) e; ⟨a, h1, .tail _ (List.mem_append_right _ h2), h3⟩
  | _, _, _, 0, .gst _ _ t, e => by cases e; cases hs
  | _, _, _, i + 1, .gst _ _ t, e => let ⟨a, h1, h2, h3⟩ := t.get_cell hs (i := i) e; ⟨a, h1, List.mem_append_right _ h2, h3⟩
theorem SlA.isIn {A : List Addr} {H : Hp} {a : Addr} {s : Sd} (hs : s.isOwn = true) : ∀ {σ : L2.St} {δ : Store} {L : List Addr} {i : Nat}, SlA K A H σ δ L → σ[i]? = some (some (.ref a)) → δ[i]? = some s → a ∈ L
  | _, _, _, 0, .no t, e1, e2 => by cases e2; cases hs
  | _, _, _, 0, .dat h t, e1, e2 => by cases e2; cases hs
  | _, _, _, 0, .cell h t, e1, e2 => by cases e1; exact .head _
  | _, _, _, 0, .grp h t, e1, e2 => by cases e1; exact .head _
  | _, _, _, i + 1, .no t, e1, e2 => t.isIn hs (i := i) e1 e2
  | _, _, _, i + 1, .dat _ t, e1, e2 => t.isIn hs (i := i) e1 e2
  | _, _, _, i + 1, .cell _ t, e1, e2 => .tail _ (t.isIn hs (i := i) e1 e2)
  | _, _, _, i + 1, .grp _ t, e1, e2 => .tail _ (List.mem_append_right _ (t.isIn hs (i := i) e1 e2))
  | _, _, _, 0, .gst _ _ t, e1, e2 => by cases e1
  | _, _, _, i + 1, .gst _ _ t, e1, e2 => List.mem_append_right _ (t.isIn hs (i := i) e1 e2)
/-- one slot's own thing changes where it stands -/
theorem SlA.put {A : List Addr} {H H' : Hp} {a : Addr} {s s' : Sd} (hx : Xt A H H') (hs : s.isOwn = true) (ho : Own1 K A H' a s') : ∀ {σ : L2.St} {δ : Store} {L : List Addr} {i : Nat}, SlA K A H σ δ L → L.Nodup → (∀ b ∈ L, b ≠ a → H' b = H b) → σ[i]? = some (some (.ref a)) → δ[i]? = some s → SlA K A H' σ (δ.set i s') L
  | _, _, _, 0, .no t, nd, q, e1, e2 => by cases e2; cases hs
  | _, _, _, 0, .dat h t, nd, q, e1, e2 => by cases e2; cases hs
  | _, _, _, 0, .cell h t, nd, q, e1, e2 => by
    cases e1
    have n := (List.nodup_cons.mp nd).1
    exact .cell ho (t.step hx fun b hb => q b (.tail _ hb) (fun z => n (z ▸ hb)))
  | _, _, _, 0, .grp h t, nd, q, e1, e2 => by cases e2; cases h <;> cases hs
  | _, _, _, i + 1, .no t, nd, q, e1, e2 => .no (t.put (i := i) hx hs ho nd q e1 e2)
  | _, _, _, i + 1, .dat h t, nd, q, e1, e2 => .dat (h.mono hx) (t.put (i := i) hx hs ho nd q e1 e2)
  | _, _, _, i + 1, .cell (a := b) h t, nd, q, e1, e2 => by
    have nd2 := List.nodup_cons.mp nd
    have ha : a ∈ _ := t.isIn hs (i := i) e1 e2
    exact .cell (h.step hx (q _ (.head _) (fun z => nd2.1 (z ▸ ha)))) (t.put (i := i) hx hs ho nd2.2 (fun b hb => q b (.tail _ hb)) e1 e2)
  | _, _, _, i + 1, .grp (a := b) (as := as) h t, nd, q, e1, e2 => by
    have nd2 := List.nodup_cons.mp nd
    have nd3 := List.nodup_append.mp nd2.2
    have ha : a ∈ _ := t.isIn hs (i := i) e1 e2
    refine .grp (h.step hx fun c hc => q c ?_ fun z => ?_) (t.put (i := i) hx hs ho nd3.2.1 (fun b hb => q b (.tail _ (List.mem_append_right _ hb))) e1 e2)
    · rcases List.mem_cons.mp hc with w | w
      · rw [w]; exact .head _
      · exact .tail _ (List.mem_append_left _ w)
    · rcases List.mem_cons.mp hc with w | w
      · exact nd2.1 (by rw [← w, z]; exact List.mem_append_right _ ha)
      · exact nd3.2.2 c w a ha z
  | _, _, _, 0, .gst _ _ t, nd, q, e1, e2 => by cases e2; cases hs
  | _, _, _, i + 1, .gst g hp t, nd, q, e1, e2 => by
    have nd3 := List.nodup_append.mp nd
    have ha : a ∈ _ := t.isIn hs (i := i) e1 e2
    exact .gst g (g.step hx (fun c hc => q c (List.mem_append_left _ hc) fun z => nd3.2.2 c hc a ha z) hp) (t.put (i := i) hx hs ho nd3.2.1 (fun b hb => q b (List.mem_append_right _ hb)) e1 e2)
/-- a slot gets data | is forgotten | gets a thing of its own -/
theorem SlA.setD {A : List Addr} {H : Hp} {v : V} {d : Dt} (hv : Rp K A H v d) : ∀ {σ : L2.St} {δ : Store} {L : List Addr} (i : Nat), SlA K A H σ δ L → ∃ L', SlA K A H (σ.set i (some v)) (δ.set i (.dat d)) L' ∧ L'.Sublist L
  | _, _, _, _, .nil => ⟨[], .nil, .slnil⟩
  | _, _, _, 0, .no t => ⟨_, .dat hv t, List.Sublist.refl _⟩
  | _, _, _, 0, .dat _ t => ⟨_, .dat hv t, List.Sublist.refl _⟩
  | _, _, _, 0, .cell _ t => ⟨_, .dat hv t, List.sublist_cons_self _ _⟩
  | _, _, _, 0, .grp _ t => ⟨_, .dat hv t, (List.sublist_append_right _ _).cons _⟩
  | _, _, _, i + 1, .no t => let ⟨L', h1, h2⟩ := t.setD hv i; ⟨L', .no h1, h2⟩
  | _, _, _, i + 1, .dat h t => let ⟨L', h1, h2⟩ := t.setD hv i; ⟨L', .dat h h1, h2⟩
  | _, _, _, i + 1, .cell h t => let ⟨L', h1, h2⟩ := t.setD hv i; ⟨_ :: L', .cell h h1, h2.cons₂ _⟩
  | _, _, _, i + 1, .grp (as := as) h t => let ⟨L', h1, h2⟩ := t.setD hv i; ⟨_ :: (as ++ L'), .grp h h1, (List.Sublist.append_left h2 as).cons₂ _⟩
  | _, _, _, 0, .gst _ _ t => ⟨_, .dat hv t, List.sublist_append_right _ _⟩
  | _, _, _, i + 1, .gst (as := as) g hp t => let ⟨L', h1, h2⟩ := t.setD hv i; ⟨as ++ L', .gst g hp h1, List.Sublist.append_left h2 as⟩
theorem SlA.setN {A : List Addr} {H : Hp} {x : Option V} : ∀ {σ : L2.St} {δ : Store} {L : List Addr} (i : Nat), SlA K A H σ δ L → ∃ L', SlA K A H (σ.set i x) (δ.set i .no) L' ∧ L'.Sublist L ∧ ∀ a, σ[i]? = some (some (.ref a)) → (∃ s, δ[i]? = some s ∧ s.isOwn = true) → L.Nodup → a ∉ L'
  | _, _, _, _, .nil => ⟨[], .nil, .slnil, fun _ h => by simp at h⟩
  | _, _, _, 0, .no t => ⟨_, .no t, List.Sublist.refl _, fun a h1 ⟨s, h2, h3⟩ => by cases h2; cases h3⟩
  | _, _, _, 0, .dat _ t => ⟨_, .no t, List.Sublist.refl _, fun a h1 ⟨s, h2, h3⟩ => by cases h2; cases h3⟩
  | _, _, _, 0, .cell _ t => ⟨_, .no t, List.sublist_cons_self _ _, fun a h1 _ nd => by cases h1; exact (List.nodup_cons.mp nd).1⟩
  | _, _, _, 0, .grp h t => ⟨_, .no t, (List.sublist_append_right _ _).cons _, fun a h1 ⟨s, h2, h3⟩ => by cases h2; cases h <;> cases h3⟩
  | _, _, _, i + 1, .no t => let ⟨L', h1, h2, h3⟩ := t.setN (x := x) i; ⟨L', .no h1, h2, h3⟩
  | _, _, _, i + 1, .dat h t => let ⟨L', h1, h2, h3⟩ := t.setN (x := x) i; ⟨L', .dat h h1, h2, h3⟩
  | _, _, _, i + 1, .cell h t => let ⟨L', h1, h2, h3⟩ := t.setN (x := x) i; ⟨_ :: L', .cell h h1, h2.cons₂ _, fun a q1 q2 nd z => by
      have nd2 := List.nodup_cons.mp nd
      obtain ⟨s, q3, q4⟩ := q2
      rcases List.mem_cons.mp z with z | z
      · exact nd2.1 (z ▸ t.isIn q4 (i := i) q1 q3)
      · exact h3 a q1 ⟨s, q3, q4⟩ nd2.2 z⟩
  | _, _, _, i + 1, .grp (as := as) h t => let ⟨L', h1, h2, h3⟩ := t.setN (x := x) i; ⟨_ :: (as ++ L'), .grp h h1, (List.Sublist.append_left h2 as).cons₂ _, fun a q1 q2 nd z => by
      have nd2 := List.nodup_cons.mp nd
      have nd3 := List.nodup_append.mp nd2.2
      obtain ⟨s, q3, q4⟩ := q2
      have ha := t.isIn q4 (i := i) q1 q3
      rcases List.mem_cons.mp z with z | z
      · exact nd2.1 (by rw [← z]; exact List.mem_append_right _ ha)
      · rcases List.mem_append.mp z with z | z
        · exact nd3.2.2 a z a ha rfl
        · exact h3 a q1 ⟨s, q3, q4⟩ nd3.2.1 z⟩
  | _, _, _, 0, .gst _ _ t => ⟨_, .no t, List.sublist_append_right _ _, fun a h1 ⟨s, h2, h3⟩ => by cases h2; cases h3⟩
  | _, _, _, i + 1, .gst (as := as) g hp t => let ⟨L', h1, h2, h3⟩ := t.setN (x := x) i; ⟨as ++ L', .gst g hp h1, List.Sublist.append_left h2 as, fun a q1 q2 nd z => by
      have nd3 := List.nodup_append.mp nd
      obtain ⟨s, q3, q4⟩ := q2
      have ha := t.isIn q4 (i := i) q1 q3
      rcases List.mem_append.mp z with z | z
      · exact nd3.2.2 a z a ha rfl
      · exact h3 a q1 ⟨s, q3, q4⟩ nd3.2.1 z⟩
theorem SlA.setO {A : List Addr} {H : Hp} {a : Addr} {s : Sd} (hv : Own1 K A H a s) : ∀ {σ : L2.St} {δ : Store} {L : List Addr} (i : Nat), SlA K A H σ δ L → a ∉ L → L.Nodup → ∃ L', SlA K A H (σ.set i (some (.ref a))) (δ.set i s) L' ∧ L'.Nodup ∧ ∀ b ∈ L', b = a ∨ b ∈ L
  | _, _, _, _, .nil, _, nd => ⟨[], .nil, nd, fun _ h => .inr h⟩
  | _, _, _, 0, .no t, n, nd => ⟨_, .cell hv t, List.nodup_cons.mpr ⟨n, nd⟩, fun b h => List.mem_cons.mp h⟩
  | _, _, _, 0, .dat _ t, n, nd => ⟨_, .cell hv t, List.nodup_cons.mpr ⟨n, nd⟩, fun b h => List.mem_cons.mp h⟩
  | _, _, _, 0, .cell _ t, n, nd => ⟨_, .cell hv t, List.nodup_cons.mpr ⟨fun z => n (.tail _ z), (List.nodup_cons.mp nd).2⟩, fun b h => (List.mem_cons.mp h).imp id (.tail _)⟩
  | _, _, _, 0, .grp _ t, n, nd => ⟨_, .cell hv t, List.nodup_cons.mpr ⟨fun z => n (.tail _ (List.mem_append_right _ z)), (List.nodup_append.mp (List.nodup_cons.mp nd).2).2.1⟩, fun b h => (List.mem_cons.mp h).imp id fun z => .tail _ (List.mem_append_right _ z)⟩
  | _, _, _, i + 1, .no t, n, nd => let ⟨L', h1, h2, h3⟩ := t.setO hv i n nd; ⟨L', .no h1, h2, h3⟩
  | _, _, _, i + 1, .dat h t, n, nd => let ⟨L', h1, h2, h3⟩ := t.setO hv i n nd; ⟨L', .dat h h1, h2, h3⟩
  | _, _, _, i + 1, .cell h t, n, nd => by
    have nd2 := List.nodup_cons.mp nd
    obtain ⟨L', h1, h2, h3⟩ := t.setO hv i (fun z => n (.tail _ z)) nd2.2
    refine ⟨_ :: L', .cell h h1, List.nodup_cons.mpr ⟨fun z => ?_, h2⟩, fun b hb => ?_⟩
    · rcases h3 _ z with e | e
      · exact n (e ▸ .head _)
      · exact nd2.1 e
    · rcases List.mem_cons.mp hb with e | e
      · exact .inr (e ▸ .head _)
      · exact (h3 b e).imp id (.tail _)
  | _, _, _, i + 1, .grp (a := c) (as := as) h t, n, nd => by
    have nd2 := List.nodup_cons.mp nd
    have nd3 := List.nodup_append.mp nd2.2
    obtain ⟨L', h1, h2, h3⟩ := t.setO hv i (fun z => n (.tail _ (List.mem_append_right _ z))) nd3.2.1
    refine ⟨_ :: (as ++ L'), .grp h h1, List.nodup_cons.mpr ⟨fun z => ?_, List.nodup_append.mpr ⟨nd3.1, h2, fun x hx y hy e => ?_⟩⟩, fun b hb => ?_⟩
    · rcases List.mem_append.mp z with z | z
      · exact nd2.1 (List.mem_append_left _ z)
      · rcases h3 _ z with e | e
        · exact n (e ▸ .head _)
        · exact nd2.1 (List.mem_append_right _ e)
    · rcases h3 _ hy with w | w
      · exact n (by rw [← w, ← e]; exact .tail _ (List.mem_append_left _ hx))
      · exact nd3.2.2 x hx y w e
    · rcases List.mem_cons.mp hb with e | e
      · exact .inr (e ▸ .head _)
      · rcases List.mem_append.mp e with e | e
        · exact .inr (.tail _ (List.mem_append_left _ e))
        · exact (h3 b e).imp id fun z => .tail _ (List.mem_append_right _ z)
  | _, _, _, 0, .gst _ _ t, n, nd => ⟨_, .cell hv t, List.nodup_cons.mpr ⟨fun z => n (List.mem_append_right _ z), (List.nodup_append.mp nd).2.1⟩, fun b h => (List.mem_cons.mp h).imp id fun z => List.mem_append_right _ z⟩
  | _, _, _, i + 1, .gst (as := as) g hp t, n, nd => by
    have nd3 := List.nodup_append.mp nd
    obtain ⟨L', h1, h2, h3⟩ := t.setO hv i (fun z => n (List.mem_append_right _ z)) nd3.2.1
    refine ⟨as ++ L', .gst g hp h1, List.nodup_append.mpr ⟨nd3.1, h2, fun x hx y hy e => ?_⟩, fun b hb => ?_⟩
    · rcases h3 _ hy with w | w
      · exact n (by rw [← w, ← e]; exact List.mem_append_left _ hx)
      · exact nd3.2.2 x hx y w e
    · rcases List.mem_append.mp hb with e | e
      · exact .inr (List.mem_append_left _ e)
      · exact (h3 b e).imp id fun z => List.mem_append_right _ z
/-- a slot's group: what stands there, and how it changes at one place -/
theorem SlA.focus {A : List Addr} {H : Hp} {s : Sd} (hs : s.isGrp = true) : ∀ {σ : L2.St} {δ : Store} {L : List Addr} {i : Nat}, SlA K A H σ δ L → L.Nodup → δ[i]? = some s → ∃ a as, σ[i]? = some (some (.ref a)) ∧ Grp K A H a s as ∧ (a :: as).Sublist L ∧
    ∀ H' s' c, c ∈ a :: as → Xt A H H' → (∀ b ∈ L, b ≠ c → H' b = H b) → Grp K A H' a s' as → SlA K A H' σ (δ.set i s') L
  | _, _, _, 0, .no t, nd, e => by cases e; cases hs
  | _, _, _, 0, .dat h t, nd, e => by cases e; cases hs
  | _, _, _, 0, .cell h t, nd, e => by cases e; cases h <;> cases hs
  | _, _, _, 0, .grp (a := a) (as := as) h t, nd, e => by
    cases e
    have nd2 := List.nodup_cons.mp nd
    have nd3 := List.nodup_append.mp nd2.2
    refine ⟨a, as, rfl, h, (List.sublist_append_left _ _).cons₂ _, fun H' s' c hc hx q hg => .grp hg (t.step hx fun b hb => q b (.tail _ (List.mem_append_right _ hb)) fun z => ?_)⟩
    rcases List.mem_cons.mp hc with w | w
    · exact nd2.1 (by rw [← w, ← z]; exact List.mem_append_right _ hb)
    · exact nd3.2.2 c w b hb z.symm
  | _, _, _, i + 1, .no t, nd, e => let ⟨a, as, h1, h2, h3, h4⟩ := t.focus hs (i := i) nd e; ⟨a, as, h1, h2, h3, fun H' s' c hc hx q hg => .no (h4 H' s' c hc hx q hg)⟩
  | _, _, _, i + 1, .dat h t, nd, e => let ⟨a, as, h1, h2, h3, h4⟩ := t.focus hs (i := i) nd e; ⟨a, as, h1, h2, h3, fun H' s' c hc hx q hg => .dat (h.mono hx) (h4 H' s' c hc hx q hg)⟩
  | _, _, _, i + 1, .cell h t, nd, e => by
    have nd2 := List.nodup_cons.mp nd
    obtain ⟨a, as, h1, h2, h3, h4⟩ := t.focus hs (i := i) nd2.2 e
    exact ⟨a, as, h1, h2, h3.cons _, fun H' s' c hc hx q hg => .cell (h.step hx (q _ (.head _) fun z => nd2.1 (by rw [z]; exact h3.subset hc))) (h4 H' s' c hc hx (fun b hb => q b (.tail _ hb)) hg)⟩
  | _, _, _, i + 1, .grp (a := c) (as := bs) h t, nd, e => by
    have nd2 := List.nodup_cons.mp nd
    have nd3 := List.nodup_append.mp nd2.2
    obtain ⟨a, as, h1, h2, h3, h4⟩ := t.focus hs (i := i) nd3.2.1 e
    refine ⟨a, as, h1, h2, (h3.trans (List.sublist_append_right _ _)).cons _, fun H' s' c' hc hx q hg => .grp (h.step hx fun b hb => q b ?_ fun z => ?_) (h4 H' s' c' hc hx (fun b hb => q b (.tail _ (List.mem_append_right _ hb))) hg)⟩
    · rcases List.mem_cons.mp hb with w | w
      · rw [w]; exact .head _
      · exact .tail _ (List.mem_append_left _ w)
    · rcases List.mem_cons.mp hb with w | w
      · exact nd2.1 (by rw [← w, z]; exact List.mem_append_right _ (h3.subset hc))
      · exact nd3.2.2 b w c' (h3.subset hc) z
  | _, _, _, 0, .gst _ _ t, nd, e => by cases e; cases hs
  | _, _, _, i + 1, .gst (as := bs) g hp t, nd, e => by
    have nd3 := List.nodup_append.mp nd
    obtain ⟨a, as, h1, h2, h3, h4⟩ := t.focus hs (i := i) nd3.2.1 e
    exact ⟨a, as, h1, h2, h3.trans (List.sublist_append_right _ _), fun H' s' c' hc hx q hg => .gst g (g.step hx (fun b hb => q b (List.mem_append_left _ hb) fun z => nd3.2.2 b hb c' (h3.subset hc) z) hp) (h4 H' s' c' hc hx (fun b hb => q b (List.mem_append_right _ hb)) hg)⟩
theorem SlA.setG {A : List Addr} {H : Hp} {a : Addr} {s : Sd} {as : List Addr} (hv : Grp K A H a s as) (na : (a :: as).Nodup) : ∀ {σ : L2.St} {δ : Store} {L : List Addr} (i : Nat), SlA K A H σ δ L → (∀ b ∈ a :: as, b ∉ L) → L.Nodup → ∃ L', SlA K A H (σ.set i (some (.ref a))) (δ.set i s) L' ∧ L'.Nodup ∧ ∀ b ∈ L', b ∈ a :: as ∨ b ∈ L
  | _, _, _, _, .nil, _, nd => ⟨[], .nil, nd, fun _ h => .inr h⟩
  | _, _, L, 0, h, n, nd => by
    have fin : ∀ {σ : L2.St} {δ : Store} {L2 : List Addr} {x : Option V} {s0 : Sd}, SlA K A H σ δ L2 → L2.Sublist L → ∃ L', SlA K A H ((x :: σ).set 0 (some (.ref a))) ((s0 :: δ).set 0 s) L' ∧ L'.Nodup ∧ ∀ b ∈ L', b ∈ a :: as ∨ b ∈ L := fun {σ δ L2 x s0} t sb => by
      refine ⟨a :: (as ++ L2), .grp hv t, ?_, fun b hb => ?_⟩
      · have : ((a :: as) ++ L2).Nodup := List.nodup_append.mpr ⟨na, nd.sublist sb, fun x hx y hy e => n x hx (by rw [e]; exact sb.subset hy)⟩
        exact this
      · have : b ∈ (a :: as) ++ L2 := hb
        exact (List.mem_append.mp this).imp id fun z => sb.subset z
    cases h with
    | nil => exact ⟨[], .nil, nd, fun _ h => .inr h⟩
    | no t => exact fin t (List.Sublist.refl _)
    | dat _ t => exact fin t (List.Sublist.refl _)
    | cell _ t => exact fin t (List.sublist_cons_self _ _)
    | grp _ t => exact fin t ((List.sublist_append_right _ _).cons _)
    | gst _ _ t => exact fin t (List.sublist_append_right _ _)
  | _, _, _, i + 1, .no t, n, nd => let ⟨L', h1, h2, h3⟩ := t.setG hv na i n nd; ⟨L', .no h1, h2, h3⟩
  | _, _, _, i + 1, .dat h t, n, nd => let ⟨L', h1, h2, h3⟩ := t.setG hv na i n nd; ⟨L', .dat h h1, h2, h3⟩
  | _, _, _, i + 1, .cell (a := c) h t, n, nd => by
    have nd2 := List.nodup_cons.mp nd
    obtain ⟨L', h1, h2, h3⟩ := t.setG hv na i (fun b hb z => n b hb (.tail _ z)) nd2.2
    refine ⟨_ :: L', .cell h h1, List.nodup_cons.mpr ⟨fun z => ?_, h2⟩, fun b hb => ?_⟩
    · rcases h3 _ z with e | e
      · exact n _ e (.head _)
      · exact nd2.1 e
    · rcases List.mem_cons.mp hb with e | e
      · exact .inr (e ▸ .head _)
      · exact (h3 b e).imp id (.tail _)
  | _, _, _, i + 1, .grp (a := c) (as := bs) h t, n, nd => by
    have nd2 := List.nodup_cons.mp nd
    have nd3 := List.nodup_append.mp nd2.2
    obtain ⟨L', h1, h2, h3⟩ := t.setG hv na i (fun b hb z => n b hb (.tail _ (List.mem_append_right _ z))) nd3.2.1
    refine ⟨_ :: (bs ++ L'), .grp h h1, List.nodup_cons.mpr ⟨fun z => ?_, List.nodup_append.mpr ⟨nd3.1, h2, fun x hx y hy e => ?_⟩⟩, fun b hb => ?_⟩
    · rcases List.mem_append.mp z with z | z
      · exact nd2.1 (List.mem_append_left _ z)
      · rcases h3 _ z with e | e
        · exact n _ e (.head _)
        · exact nd2.1 (List.mem_append_right _ e)
    · rcases h3 _ hy with w | w
      · exact n _ w (by rw [← e]; exact .tail _ (List.mem_append_left _ hx))
      · exact nd3.2.2 x hx y w e
    · rcases List.mem_cons.mp hb with e | e
      · exact .inr (e ▸ .head _)
      · rcases List.mem_append.mp e with e | e
        · exact .inr (.tail _ (List.mem_append_left _ e))
        · exact (h3 b e).imp id fun z => .tail _ (List.mem_append_right _ z)
  | _, _, _, i + 1, .gst (as := bs) g hp t, n, nd => by
    have nd3 := List.nodup_append.mp nd
    obtain ⟨L', h1, h2, h3⟩ := t.setG hv na i (fun b hb z => n b hb (List.mem_append_right _ z)) nd3.2.1
    refine ⟨bs ++ L', .gst g hp h1, List.nodup_append.mpr ⟨nd3.1, h2, fun x hx y hy e => ?_⟩, fun b hb => ?_⟩
    · rcases h3 _ hy with w | w
      · exact n _ w (by rw [← e]; exact List.mem_append_left _ hx)
      · exact nd3.2.2 x hx y w e
    · rcases List.mem_append.mp hb with e | e
      · exact .inr (List.mem_append_left _ e)
      · exact (h3 b e).imp id fun z => List.mem_append_right _ z
/-! ### the whole of it: M what others may change, L what is the def's own -/
structure Ib0 (K : PySem.W.Frag) (M L : List Addr) (σ : L2.St) (δ : Store) (H : Hp) : Prop where
  sl : SlA K (L ++ M) H σ δ L
  nd : L.Nodup
  lm : ∀ a ∈ L, a ∉ M
  out : ∀ a ∈ M, H a ≠ none
structure Fr (L : List Addr) (H : Hp) (L' : List Addr) (H' : Hp) : Prop where
  ext : Xt L H H'
  nw : ∀ a ∈ L', a ∈ L ∨ H a = none
theorem Fr.refl (L : List Addr) (H : Hp) : Fr L H L H := ⟨Xt.refl _ _, fun _ h => .inl h⟩
theorem Fr.trans {L L1 L2 : List Addr} {H H1 H2 : Hp} (a : Fr L H L1 H1) (b : Fr L1 H1 L2 H2) : Fr L H L2 H2 := by
  refine ⟨fun c o n h => ?_, fun c hc => ?_⟩
  · refine b.ext c o (fun z => ?_) (a.ext c o n h)
    rcases a.nw c z with z | z
    · exact n z
    · rw [h] at z; cases z
  · rcases b.nw c hc with z | z
    · exact a.nw c z
    · by_cases hl : c ∈ L
      · exact .inl hl
      · right
        cases e : H c with
        | none => rfl
        | some o => rw [a.ext c o hl e] at z; cases z
theorem Fr.of_xt {L : List Addr} {H H' : Hp} (e : Xt L H H') : Fr L H L H' := ⟨e, fun _ h => .inl h⟩
/-! ### what is raised: told by its class and its fields; wx is what the text wishes of it -/
def XdAt (K : PySem.W.Frag) (A : List Addr) (H : Hp) (dx : Option Addr) (gs : List (Str × Dt)) : Prop := ∀ a, Rp K A H (.ref a) (.exc a dx gs)
class Xg (K : PySem.W.Frag) where
  ε : Value → List (Str × Dt) → Store → Prop
  wx : WX
instance (priority := 10) xg0 (K : PySem.W.Frag) : Xg K := ⟨fun _ _ _ => False, fun _ _ _ _ => True⟩
def OkX (K : PySem.W.Frag) [X : Xg K] (M L : List Addr) (H : Hp) : Prop := ∀ L' σ' δ' cls dx gs H', Ib0 K M L' σ' δ' H' → Fr L H L' H' → XdAt K (L' ++ M) H' dx gs → X.ε cls gs δ' → X.wx cls dx σ' H'
theorem OkX.go [Xg K] {M L L' : List Addr} {H H' : Hp} (k : OkX K M L H) (f : Fr L H L' H') : OkX K M L' H' := fun L1 σ1 δ1 cls dx gs H1 I1 f1 => k L1 σ1 δ1 cls dx gs H1 I1 (f.trans f1)
theorem Ib0.less {M L : List Addr} {σ : L2.St} {δ : Store} {H : Hp} {M' : List Addr} (I : Ib0 K M L σ δ H) (s : ∀ a ∈ M', a ∈ M) : Ib0 K M' L σ δ H :=
  ⟨I.sl.to fun a ha => .inl ((List.mem_append.mp ha).elim (fun z => List.mem_append_left _ z) fun z => List.mem_append_right _ (s a z)), I.nd, fun a ha z => I.lm a ha (s a z), fun a ha => I.out a (s a ha)⟩
theorem OkX.more [Xg K] {M M' L : List Addr} {H : Hp} (k : OkX K M L H) (s : ∀ a ∈ M, a ∈ M') : OkX K M' L H := fun L1 σ1 δ1 cls dx gs H1 I1 f1 x => k L1 σ1 δ1 cls dx gs H1 (I1.less s) f1 fun a => (x a).to fun b hb => .inl ((List.mem_append.mp hb).elim (fun z => List.mem_append_left _ z) fun z => List.mem_append_right _ (s b z))
theorem okX0 {M L : List Addr} {H : Hp} : @OkX K (xg0 K) M L H := fun _ _ _ _ _ _ _ _ _ _ h => h.elim
structure Ib (K : PySem.W.Frag) [Xg K] (M L : List Addr) (σ : L2.St) (δ : Store) (H : Hp) : Prop extends Ib0 K M L σ δ H where
  gx : OkX K M L H
theorem Ib.x0 [Xg K] {M L : List Addr} {σ : L2.St} {δ : Store} {H : Hp} (I : Ib K M L σ δ H) : @Ib K (xg0 K) M L σ δ H := @Ib.mk K (xg0 K) M L σ δ H I.toIb0 okX0
theorem Ib.d0 {M L : List Addr} {σ : L2.St} {δ : Store} {H : Hp} (I : @Ib K (xg0 K) M L σ δ H) : Ib0 K M L σ δ H := @Ib.toIb0 K (xg0 K) M L σ δ H I
section
variable [Xg K] {M L : List Addr} {σ : L2.St} {δ : Store} {H H' : Hp}
theorem Ib.here (I : Ib K M L σ δ H) : ∀ a ∈ L ++ M, H a ≠ none := fun a h => (List.mem_append.mp h).elim (I.sl.here a) (I.out a)
theorem Ib.fresh (I : Ib K M L σ δ H) {p : Addr} (h : H p = none) : p ∉ L ++ M := fun z => I.here p z h
theorem ex_at {H H' : Hp} (e : Ex H H') {b : Addr} (h : H b ≠ none) : H' b = H b := by
  cases q : H b with
  | none => exact absurd q h
  | some o => exact e b o q
theorem Ib.ext (I : Ib K M L σ δ H) (e : Ex H H') : Ib K M L σ δ H' :=
  ⟨⟨I.sl.step (Xt.of e) fun b hb => ex_at e (I.sl.here b hb), I.nd, I.lm, fun a h => by rw [ex_at e (I.out a h)]; exact I.out a h⟩, I.gx.go (Fr.of_xt (Xt.of e))⟩
theorem Ib.new {p : Addr} {o : HO} (I : Ib K M L σ δ H) (h : H p = none) : Ib K M L σ δ (upd H p o) := I.ext (Evl.Ex.new h)
/-- a new address that others change -/
theorem Ib.more {D : Addr} {o : HO} (I : Ib K M L σ δ H) (h : H D = none) : Ib K (D :: M) L σ δ (upd H D o) := by
  have s : ∀ a, a ∈ L ++ (D :: M) → a ∈ L ++ M ∨ H a = none := fun a ha => by
    rcases List.mem_append.mp ha with z | z
    · exact .inl (List.mem_append_left _ z)
    · rcases List.mem_cons.mp z with rfl | z
      · exact .inr h
      · exact .inl (List.mem_append_right _ z)
  have e : Ex H (upd H D o) := Evl.Ex.new h
  refine ⟨⟨(I.sl.to s).step (Xt.of e) fun b hb => ex_at e (I.sl.here b hb), I.nd, fun a ha z => ?_, fun a ha => ?_⟩, (I.gx.more fun a h => .tail _ h).go (Fr.of_xt (Xt.of e))⟩
  · rcases List.mem_cons.mp z with rfl | z
    · exact I.sl.here _ ha h
    · exact I.lm a ha z
  · rcases List.mem_cons.mp ha with rfl | z
    · rw [upd_same]; exact fun z => nomatch z
    · rw [ex_at e (I.out a z)]; exact I.out a z
theorem Ib.less {M' : List Addr} (I : Ib K M L σ δ H) (s : ∀ a ∈ M', a ∈ M) (g : OkX K M' L H) : Ib K M' L σ δ H := ⟨I.toIb0.less s, g⟩
theorem Ib.setD {v : V} {d : Dt} (i : Nat) (I : Ib K M L σ δ H) (hv : Rp K (L ++ M) H v d) : ∃ L', Ib K M L' (σ.set i (some v)) (δ.set i (.dat d)) H ∧ Fr L H L' H := by
  obtain ⟨L', h1, h2⟩ := I.sl.setD hv i
  have s : ∀ a, a ∈ L' ++ M → a ∈ L ++ M ∨ H a = none := fun a ha => .inl ((List.mem_append.mp ha).elim (fun z => List.mem_append_left _ (h2.subset z)) fun z => List.mem_append_right _ z)
  have f : Fr L H L' H := ⟨Xt.refl _ _, fun a ha => .inl (h2.subset ha)⟩
  exact ⟨L', ⟨⟨h1.to s, I.nd.sublist h2, fun a ha => I.lm a (h2.subset ha), I.out⟩, I.gx.go f⟩, f⟩
theorem Ib.setN {x : Option V} (i : Nat) (I : Ib K M L σ δ H) : ∃ L', Ib K M L' (σ.set i x) (δ.set i .no) H ∧ Fr L H L' H ∧ L'.Sublist L ∧ ∀ a, σ[i]? = some (some (.ref a)) → (∃ s, δ[i]? = some s ∧ s.isOwn = true) → a ∉ L' := by
  obtain ⟨L', h1, h2, h3⟩ := I.sl.setN (x := x) i
  have s : ∀ a, a ∈ L' ++ M → a ∈ L ++ M ∨ H a = none := fun a ha => .inl ((List.mem_append.mp ha).elim (fun z => List.mem_append_left _ (h2.subset z)) fun z => List.mem_append_right _ z)
  have f : Fr L H L' H := ⟨Xt.refl _ _, fun a ha => .inl (h2.subset ha)⟩
  exact ⟨L', ⟨⟨h1.to s, I.nd.sublist h2, fun a ha => I.lm a (h2.subset ha), I.out⟩, I.gx.go f⟩, f, h2, fun a q1 q2 => h3 a q1 q2 I.nd⟩
/-- a new thing of the def's own -/
theorem Ib.setO {a : Addr} {o : HO} {s : Sd} (i : Nat) (I : Ib K M L σ δ H) (ha : H a = none) (hv : Own1 K ((a :: L) ++ M) (upd H a o) a s) : ∃ L', Ib K M L' (σ.set i (some (.ref a))) (δ.set i s) (upd H a o) ∧ Fr L H L' (upd H a o) := by
  have e : Ex H (upd H a o) := Evl.Ex.new ha
  have q : ∀ b, b ∈ (a :: L) ++ M → b ∈ L ++ M ∨ H b = none := fun b hb => by
    rcases List.mem_cons.mp hb with rfl | z
    · exact .inr ha
    · exact .inl z
  have n : a ∉ L := fun z => I.sl.here a z ha
  obtain ⟨L', h1, h2, h3⟩ := ((I.sl.to q).step (Xt.of e) fun b hb => ex_at e (I.sl.here b hb)).setO hv i n I.nd
  have f : Fr L H L' (upd H a o) := ⟨Xt.of e, fun b hb => (h3 b hb).elim (fun w => .inr (w ▸ ha)) .inl⟩
  refine ⟨L', ⟨⟨h1.to fun b hb => .inl ?_, h2, fun b hb z => ?_, fun b hb => ?_⟩, I.gx.go f⟩, f⟩
  · rcases List.mem_append.mp hb with z | z
    · rcases h3 b z with rfl | z
      · exact .head _
      · exact .tail _ (List.mem_append_left _ z)
    · exact .tail _ (List.mem_append_right _ z)
  · rcases h3 b hb with rfl | w
    · exact I.out _ z ha
    · exact I.lm b w z
  · rw [ex_at e (I.out b hb)]; exact I.out b hb
/-- a new group; its lists stand already -/
theorem Ib.setG {a : Addr} {s : Sd} {as : List Addr} {M0 : List Addr} {H0 : Hp} (i : Nat) (I : Ib K ((a :: as) ++ M) L σ δ H) (na : (a :: as).Nodup) (nm : ∀ b ∈ a :: as, b ∉ M) (f0 : ∀ b ∈ a :: as, H0 b = none) (x : Xt L H0 H) (g : OkX K M L H0) (hv : Grp K (L ++ ((a :: as) ++ M)) H a s as) : ∃ L', Ib K M L' (σ.set i (some (.ref a))) (δ.set i s) H ∧ Fr L H0 L' H := by
  obtain ⟨L', h1, h2, h3⟩ := I.sl.setG hv na i (fun b hb z => I.lm b z (List.mem_append_left _ hb)) I.nd
  have f : Fr L H0 L' H := ⟨x, fun b hb => (h3 b hb).elim (fun w => .inr (f0 b w)) .inl⟩
  refine ⟨L', ⟨⟨h1.to fun b hb => .inl ?_, h2, fun b hb z => ?_, fun b hb => I.out b (List.mem_append_right _ hb)⟩, g.go f⟩, f⟩
  · rcases List.mem_append.mp hb with z | z
    · rcases h3 b z with w | w
      · exact List.mem_append_right _ (List.mem_append_left _ w)
      · exact List.mem_append_left _ w
    · exact List.mem_append_right _ (List.mem_append_right _ z)
  · rcases h3 b hb with w | w
    · exact nm b w z
    · exact I.lm b w (List.mem_append_right _ z)
theorem Ib.focus {i : Nat} {s : Sd} (I : Ib K M L σ δ H) (hs : s.isGrp = true) (e : δ[i]? = some s) : ∃ a as, σ[i]? = some (some (.ref a)) ∧ Grp K (L ++ M) H a s as ∧ (∀ b ∈ a :: as, b ∈ L) ∧ (a :: as).Nodup ∧
    ∀ o c s', c ∈ a :: as → Grp K (L ++ M) (upd H c o) a s' as → Ib K M L σ (δ.set i s') (upd H c o) ∧ Xt L H (upd H c o) := by
  obtain ⟨a, as, h1, h2, h3, h4⟩ := I.sl.focus hs I.nd e
  refine ⟨a, as, h1, h2, fun b hb => h3.subset hb, I.nd.sublist h3, fun o c s' hc hg => ?_⟩
  have ha := h3.subset hc
  refine ⟨⟨⟨h4 _ s' c hc (Xt.put (List.mem_append_left _ ha)) (fun b _ nb => upd_ne nb) hg, I.nd, I.lm, fun b hb => ?_⟩, I.gx.go (Fr.of_xt (Xt.put ha))⟩, Xt.put ha⟩
  rw [upd_ne (fun z : b = c => I.lm c ha (by rw [← z]; exact hb))]
  exact I.out b hb
/-- a thing of the def's own changes -/
theorem Ib.put {a : Addr} {o : HO} {s s' : Sd} {i : Nat} (I : Ib K M L σ δ H) (hs : s.isOwn = true) (ho : Own1 K (L ++ M) (upd H a o) a s') (e1 : σ[i]? = some (some (.ref a))) (e2 : δ[i]? = some s) : Ib K M L σ (δ.set i s') (upd H a o) ∧ Xt L H (upd H a o) := by
  have ha := I.sl.isIn hs e1 e2
  have hx : Xt (L ++ M) H (upd H a o) := Xt.put (List.mem_append_left _ ha)
  refine ⟨⟨⟨I.sl.put hx hs ho I.nd (fun b hb nb => upd_ne nb) e1 e2, I.nd, I.lm, fun b hb => ?_⟩, I.gx.go (Fr.of_xt (Xt.put ha))⟩, Xt.put ha⟩
  rw [upd_ne (fun z : b = a => I.lm a ha (by rw [← z]; exact hb))]
  exact I.out b hb
end
end
end My

namespace My
open PySem PySem.Spec PyProof.Rows L2
/-! ### what a reading makes of data -/
section
variable {K : PySem.W.Frag} [Xg K]
/-- an expression: its value's data and what the slots hold then -/
def W (K : PySem.W.Frag) [Xg K] (te : TE) (δ : Store) (Φ : Dt → Store → Prop) : Prop := ∀ M L σ H, Ib K M L σ δ H → ∀ Q : VK, (∀ v d δ' H', Ib K M L σ δ' H' → Xt L H H' → Rp K (L ++ M) H' v d → Φ d δ' → Q v H') → te σ H Q
/-- .. a new list -/
def Wn (K : PySem.W.Frag) [Xg K] (te : TE) (δ : Store) (Φ : List Dt → Store → Prop) : Prop := ∀ M L σ H, Ib K M L σ δ H → ∀ Q : VK, (∀ a xs ds δ' H', Ib K M L σ δ' H' → Xt L H H' → H' a = none → RpL K (L ++ M) H' xs ds → Φ ds δ' → Q (.ref a) (upd H' a (.lst xs))) → te σ H Q
def Wt (K : PySem.W.Frag) [Xg K] (tt : TT) (δ : Store) (Φ : Bool → Store → Prop) : Prop := ∀ M L σ H, Ib K M L σ δ H → ∀ Q : Bool → Hp → Prop, (∀ b δ' H', Ib K M L σ δ' H' → Xt L H H' → Φ b δ' → Q b H') → tt σ H Q
def Wa (K : PySem.W.Frag) [Xg K] (ta : TA) (δ : Store) (Φ : List Dt → Store → Prop) : Prop := ∀ M L σ H, Ib K M L σ δ H → ∀ Q : List V → Hp → Prop, (∀ vs ds δ' H', Ib K M L σ δ' H' → Xt L H H' → RpL K (L ++ M) H' vs ds → Φ ds δ' → Q vs H') → ta σ H Q
def Wo (K : PySem.W.Frag) [Xg K] (to : TO) (δ : Store) (Φ : Option Int → Store → Prop) : Prop := ∀ M L σ H, Ib K M L σ δ H → ∀ Q : Option Int → Hp → Prop, (∀ o δ' H', Ib K M L σ δ' H' → Xt L H H' → Φ o δ' → Q o H') → to σ H Q
structure En where
  nx : Store → Prop
  rt : Dt → Store → Prop
  bk : Store → Prop := fun _ => False
  ct : Store → Prop := fun _ => False
structure OkE (K : PySem.W.Frag) [Xg K] (M L : List Addr) (H : Hp) (E : En) (D : Ends) : Prop where
  nx : ∀ L' σ' δ' H', Ib K M L' σ' δ' H' → Fr L H L' H' → E.nx δ' → D.nx σ' H'
  rt : ∀ L' σ' δ' v d H', Ib K M L' σ' δ' H' → Fr L H L' H' → Rp K (L' ++ M) H' v d → E.rt d δ' → D.rt v H'
  bk : ∀ L' σ' δ' H', Ib K M L' σ' δ' H' → Fr L H L' H' → E.bk δ' → D.bk σ' H'
  ct : ∀ L' σ' δ' H', Ib K M L' σ' δ' H' → Fr L H L' H' → E.ct δ' → D.ct σ' H'
def Sw (K : PySem.W.Frag) [Xg K] (ts : TS) (δ : Store) (E : En) : Prop := ∀ M L σ H, Ib K M L σ δ H → ∀ D : Ends, OkE K M L H E D → ts D σ H
theorem OkE.go {M L L' : List Addr} {H H' : Hp} {E : En} {D : Ends} (k : OkE K M L H E D) (f : Fr L H L' H') : OkE K M L' H' E D :=
  ⟨fun L1 σ1 δ1 H1 I1 f1 => k.nx L1 σ1 δ1 H1 I1 (f.trans f1), fun L1 σ1 δ1 v d H1 I1 f1 => k.rt L1 σ1 δ1 v d H1 I1 (f.trans f1), fun L1 σ1 δ1 H1 I1 f1 => k.bk L1 σ1 δ1 H1 I1 (f.trans f1), fun L1 σ1 δ1 H1 I1 f1 => k.ct L1 σ1 δ1 H1 I1 (f.trans f1)⟩
variable {δ : Store} {Φ : Dt → Store → Prop} {ta tb te : TE} {E : En}
/-! ### data of scalars -/
theorem Rp.inv_int {A : List Addr} {H : Hp} {v : V} {i : Int} (h : Rp K A H v (.int i)) : v = .int i := by cases h; rfl
theorem Rp.inv_bl {A : List Addr} {H : Hp} {v : V} {b : Bool} (h : Rp K A H v (.bl b)) : v = .bl b := by cases h; rfl
theorem Rp.inv_str {A : List Addr} {H : Hp} {v : V} {s : Str} (h : Rp K A H v (.str s)) : v = .str s ∧ strG s := by cases h with | str h => exact ⟨rfl, h⟩
theorem Rp.inv_non {A : List Addr} {H : Hp} {v : V} (h : Rp K A H v .non) : v = .non := by cases h; rfl
theorem Rp.inv_lst {A : List Addr} {H : Hp} {v : V} {ds : List Dt} (h : Rp K A H v (.lst ds)) : ∃ a xs, v = .ref a ∧ a ∉ A ∧ H a = some (.lst xs) ∧ RpL K A H xs ds := by cases h with | lst n e h => exact ⟨_, _, rfl, n, e, h⟩
theorem Rp.inv_tup {A : List Addr} {H : Hp} {v : V} {ds : List Dt} (h : Rp K A H v (.tup ds)) : ∃ a xs, v = .ref a ∧ SqT K H a xs ∧ RpL K A H xs ds := by
  cases h with
  | tup n e h => exact ⟨_, _, rfl, .inl e, h⟩
  | wtp e h => exact ⟨_, _, rfl, e H, h⟩
theorem Rp.inv_dct {A : List Addr} {H : Hp} {v : V} {ks : List (Key × Dt)} (h : Rp K A H v (.dct ks)) : ∃ a kvs, v = .ref a ∧ a ∉ A ∧ Rd H a (.dK kvs) ∧ RpK K A H kvs ks := by cases h with | dct n e h => exact ⟨_, _, rfl, n, .inl e, h⟩
theorem Rp.inv_dctP {A : List Addr} {H : Hp} {v : V} {ks : List (Key × Dt)} (h : Rp K A H v (.dct ks)) : ∃ a kvs, v = .ref a ∧ a ∉ A ∧ H a = some (.dK kvs) ∧ RpK K A H kvs ks := by cases h with | dct n e h => exact ⟨_, _, rfl, n, e, h⟩
theorem Rp.inv_ins {A : List Addr} {H : Hp} {v : V} {C : Addr} {gs : List (Str × Dt)} (h : Rp K A H v (.ins C gs)) : ∃ a dx fs, v = .ref a ∧ a ∉ A ∧ H a = some (.ins C dx fs) ∧ RpF K A H fs gs := by cases h with | ins n e h => exact ⟨_, _, _, rfl, n, e, h⟩
theorem RpL.len {A : List Addr} {H : Hp} : ∀ {vs : List V} {ds : List Dt}, RpL K A H vs ds → vs.length = ds.length
  | _, _, .nil => rfl
  | _, _, .cons _ t => congrArg Nat.succ t.len
theorem RpL.get {A : List Addr} {H : Hp} : ∀ {vs : List V} {ds : List Dt} {i : Nat} {v : V}, RpL K A H vs ds → vs[i]? = some v → ∃ d, ds[i]? = some d ∧ Rp K A H v d
  | _, _, 0, _, .cons h _, e => by cases e; exact ⟨_, rfl, h⟩
  | _, _, i + 1, _, .cons _ t, e => t.get (i := i) (by simpa using e)
theorem RpL.at_ {A : List Addr} {H : Hp} : ∀ {vs : List V} {ds : List Dt} {i : Nat} {d : Dt}, RpL K A H vs ds → ds[i]? = some d → ∃ v, vs[i]? = some v ∧ Rp K A H v d
  | _, _, 0, _, .cons h _, e => by cases e; exact ⟨_, rfl, h⟩
  | _, _, i + 1, _, .cons _ t, e => t.at_ (i := i) (by simpa using e)
theorem RpL.append {A : List Addr} {H : Hp} : ∀ {vs us : List V} {ds es : List Dt}, RpL K A H vs ds → RpL K A H us es → RpL K A H (vs ++ us) (ds ++ es)
  | _, _, _, _, .nil, b => b
  | _, _, _, _, .cons h t, b => .cons h (t.append b)
theorem RpL.take {A : List Addr} {H : Hp} : ∀ {vs : List V} {ds : List Dt} (k : Nat), RpL K A H vs ds → RpL K A H (vs.take k) (ds.take k)
  | _, _, 0, _ => .nil
  | _, _, _ + 1, .nil => .nil
  | _, _, k + 1, .cons h t => .cons h (t.take k)
theorem RpL.drop {A : List Addr} {H : Hp} : ∀ {vs : List V} {ds : List Dt} (k : Nat), RpL K A H vs ds → RpL K A H (vs.drop k) (ds.drop k)
  | _, _, 0, h => h
  | _, _, _ + 1, .nil => .nil
  | _, _, k + 1, .cons _ t => t.drop k
theorem RpL.reverse {A : List Addr} {H : Hp} : ∀ {vs : List V} {ds : List Dt}, RpL K A H vs ds → RpL K A H vs.reverse ds.reverse
  | _, _, .nil => .nil
  | _, _, .cons h t => by
    rw [List.reverse_cons, List.reverse_cons]
    exact t.reverse.append (.cons h .nil)
theorem RpL.erase {A : List Addr} {H : Hp} : ∀ {vs : List V} {ds : List Dt} (k : Nat), RpL K A H vs ds → RpL K A H (vs.eraseIdx k) (ds.eraseIdx k)
  | _, _, _, .nil => .nil
  | _, _, 0, .cons _ t => t
  | _, _, k + 1, .cons h t => .cons h (t.erase k)
theorem RpL.set {A : List Addr} {H : Hp} {v : V} {d : Dt} (hv : Rp K A H v d) : ∀ {vs : List V} {ds : List Dt} (k : Nat), RpL K A H vs ds → RpL K A H (vs.set k v) (ds.set k d)
  | _, _, _, .nil => .nil
  | _, _, 0, .cons _ t => .cons hv t
  | _, _, k + 1, .cons h t => .cons h (t.set hv k)
theorem RpL.rep {A : List Addr} {H : Hp} {vs : List V} {ds : List Dt} (h : RpL K A H vs ds) : ∀ k : Nat, RpL K A H (List.replicate k vs).flatten (List.replicate k ds).flatten
  | 0 => .nil
  | k + 1 => by
    rw [List.replicate_succ, List.replicate_succ, List.flatten_cons, List.flatten_cons]
    exact h.append (h.rep k)
theorem RpL.mem {A : List Addr} {H : Hp} : ∀ {vs : List V} {ds : List Dt} {v : V}, RpL K A H vs ds → v ∈ vs → ∃ d, d ∈ ds ∧ Rp K A H v d
  | _, _, _, .cons h t, e => by
    cases e with
    | head => exact ⟨_, .head _, h⟩
    | tail _ e =>
      obtain ⟨d, m, i⟩ := t.mem e
      exact ⟨d, .tail _ m, i⟩
def intsD (ns : List Int) : List Dt := ns.map Dt.int
def strsD (ss : List Str) : List Dt := ss.map Dt.str
def blsD (bs : List Bool) : List Dt := bs.map Dt.bl
theorem RpL.ints {A : List Addr} {H : Hp} : ∀ {vs : List V} {ns : List Int}, RpL K A H vs (intsD ns) → vs = ns.map V.int
  | _, [], .nil => rfl
  | _, n :: ns, .cons h t => by rw [h.inv_int, RpL.ints (ns := ns) t]; rfl
theorem RpL.strs {A : List Addr} {H : Hp} : ∀ {vs : List V} {ss : List Str}, RpL K A H vs (strsD ss) → vs = ss.map V.str ∧ ∀ s ∈ ss, strG s
  | _, [], .nil => ⟨rfl, fun _ z => nomatch z⟩
  | _, s :: ss, .cons h t => by
    obtain ⟨h1, h2⟩ := h.inv_str
    obtain ⟨h3, h4⟩ := RpL.strs (ss := ss) t
    exact ⟨by rw [h1, h3]; rfl, fun x hx => (List.mem_cons.mp hx).elim (fun z => z ▸ h2) (h4 x)⟩
theorem RpL.bls {A : List Addr} {H : Hp} : ∀ {vs : List V} {bs : List Bool}, RpL K A H vs (blsD bs) → vs = bs.map V.bl
  | _, [], .nil => rfl
  | _, n :: ns, .cons h t => by rw [h.inv_bl, RpL.bls (bs := ns) t]; rfl
theorem RpL.of_strs {A : List Addr} {H : Hp} : ∀ {ss : List Str}, (∀ s ∈ ss, strG s) → RpL K A H (ss.map V.str) (strsD ss)
  | [], _ => .nil
  | s :: ss, h => .cons (.str (h s (.head _))) (RpL.of_strs fun x hx => h x (.tail _ hx))
theorem RpL.of_ints {A : List Addr} {H : Hp} : ∀ {ns : List Int}, RpL K A H (ns.map V.int) (intsD ns)
  | [] => .nil
  | n :: ns => .cons (.int n) RpL.of_ints
/-! ### names, constants -/
theorem w_var {i : Nat} {d : Dt} (h : δ[i]? = some (.dat d)) (q : Φ d δ) : W K (tVar i) δ Φ := fun M L σ H I Q k => by
  obtain ⟨v, e, hv⟩ := I.sl.get_dat h
  exact ⟨v, e, k v d δ H I (Xt.refl _ _) hv q⟩
theorem w_int {i : Int} (q : Φ (.int i) δ) : W K (tC (.int i)) δ Φ := fun M L σ H I Q k => k _ _ _ _ I (Xt.refl _ _) (.int i) q
theorem w_bl {b : Bool} (q : Φ (.bl b) δ) : W K (tC (.bl b)) δ Φ := fun M L σ H I Q k => k _ _ _ _ I (Xt.refl _ _) (.bl b) q
theorem w_non (q : Φ .non δ) : W K (tC .non) δ Φ := fun M L σ H I Q k => k _ _ _ _ I (Xt.refl _ _) .non q
theorem w_str {s : Str} (h : strG s) (q : Φ (.str s) δ) : W K (tC (.str s)) δ Φ := fun M L σ H I Q k => k _ _ _ _ I (Xt.refl _ _) (.str h) q
theorem w_wtp {a : Addr} {ss : List Str} (h : ∀ H, SqT K H a (ss.map V.str)) (hs : ∀ s ∈ ss, strG s) (q : Φ (.tup (strsD ss)) δ) : W K (tC (.ref a)) δ Φ := fun M L σ H I Q k =>
  k _ _ _ _ I (Xt.refl _ _) (.wtp h (.of_strs hs)) q
theorem W.imp {Ψ : Dt → Store → Prop} (h : W K te δ Φ) (q : ∀ d δ', Φ d δ' → Ψ d δ') : W K te δ Ψ := fun M L σ H I Q k => h M L σ H I Q fun v d δ' H' a b c e => k v d δ' H' a b c (q d δ' e)
theorem Wn.imp {Φ Ψ : List Dt → Store → Prop} (h : Wn K te δ Φ) (q : ∀ d δ', Φ d δ' → Ψ d δ') : Wn K te δ Ψ := fun M L σ H I Q k => h M L σ H I Q fun v d ds δ' H' a b c e f => k v d ds δ' H' a b c e (q ds δ' f)
theorem Wt.imp {tt : TT} {Φ Ψ : Bool → Store → Prop} (h : Wt K tt δ Φ) (q : ∀ d δ', Φ d δ' → Ψ d δ') : Wt K tt δ Ψ := fun M L σ H I Q k => h M L σ H I Q fun d δ' H' a b e => k d δ' H' a b (q d δ' e)
/-- a new list as data -/
theorem w_of_n {Φ : Dt → Store → Prop} (h : Wn K te δ fun ds δ' => Φ (.lst ds) δ') : W K te δ Φ := fun M L σ H I Q k =>
  h M L σ H I Q fun a xs ds δ' H' I' x ha hx q => k (.ref a) (.lst ds) δ' _ (I'.new ha) (x.trans (Xt.new ha)) (.lst (I'.fresh ha) upd_same (hx.mono (Xt.new ha))) q
/-! ### arguments -/
theorem wa_nil {Φ : List Dt → Store → Prop} (q : Φ [] δ) : Wa K tNil δ Φ := fun M L σ H I Q k => k [] [] δ H I (Xt.refl _ _) .nil q
theorem wa_cons {tr : TA} {Φ : List Dt → Store → Prop} (q : W K te δ fun d δ1 => Wa K tr δ1 fun ds δ2 => Φ (d :: ds) δ2) : Wa K (tCons te tr) δ Φ := fun M L σ H I Q k =>
  q M L σ H I _ fun v d δ1 H1 I1 x1 hv q1 => q1 M L σ H1 I1 _ fun vs ds δ2 H2 I2 x2 hvs q2 => k (v :: vs) (d :: ds) δ2 H2 I2 (x1.trans x2) (.cons (hv.mono (x2.sub fun a h => List.mem_append_left _ h)) hvs) q2
/-! ### operators on scalars -/
def dOf : V → Dt
  | .int i => .int i
  | .bl b => .bl b
  | _ => .non
def scB : V → Bool
  | .int _ => true
  | .bl _ => true
  | .non => true
  | _ => false
theorem Rp.of_sc {A : List Addr} {H : Hp} : ∀ {v : V}, scB v = true → Rp K A H v (dOf v)
  | .int i, _ => .int i
  | .bl b, _ => .bl b
  | .non, _ => .non
theorem w_op {r : R2} {P : Dt → Dt → Store → Prop} (q : W K ta δ fun a δ1 => W K tb δ1 fun b δ2 => P a b δ2) (hr : ∀ M L σ H v u a b δ2, Ib K M L σ δ2 H → Rp K (L ++ M) H v a → Rp K (L ++ M) H u b → P a b δ2 → ∀ Q : VK, (∀ v d δ' H', Ib K M L σ δ' H' → Xt L H H' → Rp K (L ++ M) H' v d → Φ d δ' → Q v H') → r v u H Q) : W K (tOp r ta tb) δ Φ := fun M L σ H I Q k =>
  q M L σ H I _ fun v a δ1 H1 I1 x1 hv q1 => q1 M L σ H1 I1 _ fun u b δ2 H2 I2 x2 hu q2 => hr M L σ H2 v u a b δ2 I2 (hv.mono (x2.sub fun a h => List.mem_append_left _ h)) hu q2 Q fun w d δ' H' I3 x3 hw q3 => k w d δ' H' I3 ((x1.trans x2).trans x3) hw q3
theorem w_I0 {g : Int → Int → V} (q : W K ta δ fun a δ1 => W K tb δ1 fun b δ2 => ∃ i j, a = .int i ∧ b = .int j ∧ scB (g i j) = true ∧ Φ (dOf (g i j)) δ2) : W K (tOp (rI0 g) ta tb) δ Φ :=
  w_op q fun M L σ H v u a b δ2 I hv hu hp Q k => by
    obtain ⟨i, j, rfl, rfl, hs, q⟩ := hp
    rw [hv.inv_int, hu.inv_int]
    exact ⟨i, j, rfl, rfl, k _ _ _ _ I (Xt.refl _ _) (Rp.of_sc hs) q⟩
theorem w_I {C : Int → Int → Prop} {g : Int → Int → V} (q : W K ta δ fun a δ1 => W K tb δ1 fun b δ2 => ∃ i j, a = .int i ∧ b = .int j ∧ scB (g i j) = true ∧ C i j ∧ Φ (dOf (g i j)) δ2) : W K (tOp (rI C g) ta tb) δ Φ :=
  w_op q fun M L σ H v u a b δ2 I hv hu hp Q k => by
    obtain ⟨i, j, rfl, rfl, hs, hc, q⟩ := hp
    rw [hv.inv_int, hu.inv_int]
    exact ⟨i, j, rfl, rfl, hc, k _ _ _ _ I (Xt.refl _ _) (Rp.of_sc hs) q⟩
theorem w_un {r : V → Hp → VK → Prop} {P : Dt → Store → Prop} (q : W K ta δ P) (hr : ∀ M L σ H v a δ2, Ib K M L σ δ2 H → Rp K (L ++ M) H v a → P a δ2 → ∀ Q : VK, (∀ v d δ' H', Ib K M L σ δ' H' → Xt L H H' → Rp K (L ++ M) H' v d → Φ d δ' → Q v H') → r v H Q) : W K (tUn r ta) δ Φ := fun M L σ H I Q k =>
  q M L σ H I _ fun v a δ1 H1 I1 x1 hv q1 => hr M L σ H1 v a δ1 I1 hv q1 Q fun w d δ' H' I3 x3 hw q3 => k w d δ' H' I3 (x1.trans x3) hw q3
theorem w_neg (q : W K ta δ fun a δ1 => ∃ i, a = .int i ∧ Φ (.int (-i)) δ1) : W K (tUn (rU fun i => .int (-i)) ta) δ Φ :=
  w_un q fun M L σ H v a δ2 I hv hp Q k => by
    obtain ⟨i, rfl, q⟩ := hp
    rw [hv.inv_int]
    exact ⟨i, rfl, k _ _ _ _ I (Xt.refl _ _) (.int _) q⟩
/-- == of scalars of one kind -/
def eqD : Dt → Dt → Option Bool
  | .int i, .int j => some (decide (i = j))
  | .str i, .str j => some (decide (i = j))
  | .bl i, .bl j => some (decide (i = j))
  | _, _ => none
theorem eqD_ok {A : List Addr} {H : Hp} {v u : V} {a b : Dt} {c : Bool} (hv : Rp K A H v a) (hu : Rp K A H u b) (h : eqD a b = some c) : scal v u = true ∧ decide (v = u) = c := by
  cases a with
  | int i => cases b with
    | int j => rw [hv.inv_int, hu.inv_int]; cases h; exact ⟨rfl, by simp⟩
    | _ => cases h
  | str i => cases b with
    | str j => rw [hv.inv_str.1, hu.inv_str.1]; cases h; exact ⟨rfl, by simp⟩
    | _ => cases h
  | bl i => cases b with
    | bl j => rw [hv.inv_bl, hu.inv_bl]; cases h; exact ⟨rfl, by simp⟩
    | _ => cases h
  | _ => cases h
theorem w_eq (q : W K ta δ fun a δ1 => W K tb δ1 fun b δ2 => ∃ c, eqD a b = some c ∧ Φ (.bl c) δ2) : W K (tOp rEq ta tb) δ Φ :=
  w_op q fun M L σ H v u a b δ2 I hv hu hp Q k => by
    obtain ⟨c, hc, q⟩ := hp
    obtain ⟨h1, h2⟩ := eqD_ok hv hu hc
    exact ⟨h1, by rw [h2]; exact k _ _ _ _ I (Xt.refl _ _) (.bl _) q⟩
theorem w_ne (q : W K ta δ fun a δ1 => W K tb δ1 fun b δ2 => ∃ c, eqD a b = some c ∧ Φ (.bl (!c)) δ2) : W K (tOp rNe ta tb) δ Φ :=
  w_op q fun M L σ H v u a b δ2 I hv hu hp Q k => by
    obtain ⟨c, hc, q⟩ := hp
    obtain ⟨h1, h2⟩ := eqD_ok hv hu hc
    exact ⟨h1, by rw [h2]; exact k _ _ _ _ I (Xt.refl _ _) (.bl _) q⟩
def Dt.isN : Dt → Bool
  | .non => true
  | _ => false
theorem Rp.isN {A : List Addr} {H : Hp} {v : V} {d : Dt} (h : Rp K A H v d) : decide (v = .non) = d.isN := by cases h <;> rfl
theorem w_isN (q : W K ta δ fun a δ1 => Φ (.bl a.isN) δ1) : W K (tIsN ta) δ Φ := fun M L σ H I Q k =>
  q M L σ H I _ fun v a δ1 H1 I1 x1 hv q1 => by
    show Q (.bl (decide (v = .non))) H1
    rw [hv.isN]
    exact k _ _ _ _ I1 x1 (.bl _) q1
/-! ### tests -/
theorem wt_B {Φ : Bool → Store → Prop} (q : W K te δ fun d δ1 => ∃ b, d = .bl b ∧ Φ b δ1) : Wt K (tB te) δ Φ := fun M L σ H I Q k =>
  q M L σ H I _ fun v a δ1 H1 I1 x1 hv q1 => by
    obtain ⟨b, rfl, q⟩ := q1
    exact ⟨b, hv.inv_bl, k _ _ _ I1 x1 q⟩
theorem wt_test {Φ : Bool → Store → Prop} (q : W K te δ fun d δ1 => ∃ b, d = .bl b ∧ Φ b δ1) : Wt K (tTest te) δ Φ := fun M L σ H I Q k =>
  q M L σ H I _ fun v a δ1 H1 I1 x1 hv q1 => by
    obtain ⟨b, rfl, q⟩ := q1
    exact ⟨b, hv.inv_bl, k _ _ _ I1 x1 q⟩
theorem wt_not {t : TT} {Φ : Bool → Store → Prop} (q : Wt K t δ fun b δ1 => Φ (!b) δ1) : Wt K (tNot t) δ Φ := fun M L σ H I Q k => q M L σ H I _ fun b δ1 H1 I1 x1 q1 => k _ _ _ I1 x1 q1
theorem wt_yes {Φ : Bool → Store → Prop} (q : Φ true δ) : Wt K tYes δ Φ := fun M L σ H I Q k => k _ _ _ I (Xt.refl _ _) q
theorem wt_and {t u : TT} {Φ : Bool → Store → Prop} (q : Wt K t δ fun b δ1 => if b = true then Wt K u δ1 Φ else Φ false δ1) : Wt K (tAnd t u) δ Φ := fun M L σ H I Q k => q M L σ H I _ fun b δ1 H1 I1 x1 q1 => by
  cases b with
  | true => exact q1 M L σ H1 I1 _ fun c δ2 H2 I2 x2 q2 => k c δ2 H2 I2 (x1.trans x2) q2
  | false => exact k false δ1 H1 I1 x1 q1
theorem wt_or {t u : TT} {Φ : Bool → Store → Prop} (q : Wt K t δ fun b δ1 => if b = true then Φ true δ1 else Wt K u δ1 Φ) : Wt K (tOr t u) δ Φ := fun M L σ H I Q k => q M L σ H I _ fun b δ1 H1 I1 x1 q1 => by
  cases b with
  | false => exact q1 M L σ H1 I1 _ fun c δ2 H2 I2 x2 q2 => k c δ2 H2 I2 (x1.trans x2) q2
  | true => exact k true δ1 H1 I1 x1 q1
theorem w_notV (q : W K ta δ fun a δ1 => ∃ b, a = .bl b ∧ Φ (.bl (!b)) δ1) : W K (tNotV ta) δ Φ := fun M L σ H I Q k =>
  q M L σ H I _ fun v a δ1 H1 I1 x1 hv q1 => by
    obtain ⟨b, rfl, q⟩ := q1
    exact ⟨b, hv.inv_bl, k _ _ _ _ I1 x1 (.bl _) q⟩
theorem w_andV (q : W K ta δ fun a δ1 => ∃ b, a = .bl b ∧ if b = true then W K tb δ1 Φ else Φ (.bl false) δ1) : W K (tAndV ta tb) δ Φ := fun M L σ H I Q k =>
  q M L σ H I _ fun v a δ1 H1 I1 x1 hv q1 => by
    obtain ⟨b, rfl, q⟩ := q1
    refine ⟨b, hv.inv_bl, ?_⟩
    cases b with
    | true => exact q M L σ H1 I1 _ fun c d δ2 H2 I2 x2 hc q2 => k c d δ2 H2 I2 (x1.trans x2) hc q2
    | false => exact k _ _ _ _ I1 x1 (.bl _) q
theorem w_orV (q : W K ta δ fun a δ1 => ∃ b, a = .bl b ∧ if b = true then Φ (.bl true) δ1 else W K tb δ1 Φ) : W K (tOrV ta tb) δ Φ := fun M L σ H I Q k =>
  q M L σ H I _ fun v a δ1 H1 I1 x1 hv q1 => by
    obtain ⟨b, rfl, q⟩ := q1
    refine ⟨b, hv.inv_bl, ?_⟩
    cases b with
    | false => exact q M L σ H1 I1 _ fun c d δ2 H2 I2 x2 hc q2 => k c d δ2 H2 I2 (x1.trans x2) hc q2
    | true => exact k _ _ _ _ I1 x1 (.bl _) q
theorem w_if {t : TT} (q : Wt K t δ fun b δ1 => if b = true then W K ta δ1 Φ else W K tb δ1 Φ) : W K (tIf t ta tb) δ Φ := fun M L σ H I Q k => q M L σ H I _ fun b δ1 H1 I1 x1 q1 => by
  cases b with
  | true => exact q1 M L σ H1 I1 _ fun c d δ2 H2 I2 x2 hc q2 => k c d δ2 H2 I2 (x1.trans x2) hc q2
  | false => exact q1 M L σ H1 I1 _ fun c d δ2 H2 I2 x2 hc q2 => k c d δ2 H2 I2 (x1.trans x2) hc q2
theorem w_chain0 {g g' : Int → Int → Bool} {tc : TE} (q : W K ta δ fun a δ1 => W K tb δ1 fun b δ2 => ∃ i j, a = .int i ∧ b = .int j ∧ if g i j = true then W K tc δ2 (fun c δ3 => ∃ l, c = .int l ∧ Φ (.bl (g' j l)) δ3) else Φ (.bl false) δ2) :
    W K (tChain (rI0 fun i j => .bl (g i j)) (rI0 fun i j => .bl (g' i j)) ta tb tc) δ Φ := fun M L σ H I Q k =>
  q M L σ H I _ fun v a δ1 H1 I1 x1 hv q1 => q1 M L σ H1 I1 _ fun u b δ2 H2 I2 x2 hu q2 => by
    obtain ⟨i, j, rfl, rfl, q⟩ := q2
    rw [hv.inv_int, hu.inv_int]
    refine ⟨i, j, rfl, rfl, g i j, rfl, ?_⟩
    cases hg : g i j with
    | true =>
      rw [hg, if_pos rfl] at q
      rw [if_pos rfl]
      exact q M L σ H2 I2 _ fun w c δ3 H3 I3 x3 hw q3 => by
        obtain ⟨l, rfl, q⟩ := q3
        rw [hw.inv_int]
        exact ⟨j, l, rfl, rfl, k _ _ _ _ I3 ((x1.trans x2).trans x3) (.bl _) q⟩
    | false =>
      rw [hg, if_neg (by decide)] at q
      rw [if_neg (by decide)]
      exact k _ _ _ _ I2 (x1.trans x2) (.bl _) q
end
end My

namespace My
open PySem PySem.Spec PyProof.Rows L2
section
variable {K : PySem.W.Frag} [Xg K]
abbrev Go (K : PySem.W.Frag) [Xg K] (M L : List Addr) (σ : L2.St) (H : Hp) (Φ : Dt → Store → Prop) (r : VK → Prop) : Prop := ∀ Q : VK, (∀ v d δ' H', Ib K M L σ δ' H' → Xt L H H' → Rp K (L ++ M) H' v d → Φ d δ' → Q v H') → r Q
abbrev GoN (K : PySem.W.Frag) [Xg K] (M L : List Addr) (σ : L2.St) (H : Hp) (Φ : List Dt → Store → Prop) (r : VK → Prop) : Prop := ∀ Q : VK, (∀ a xs ds δ' H', Ib K M L σ δ' H' → Xt L H H' → H' a = none → RpL K (L ++ M) H' xs ds → Φ ds δ' → Q (.ref a) (upd H' a (.lst xs))) → r Q
variable {δ : Store} {Φ : Dt → Store → Prop} {Ψ : List Dt → Store → Prop} {ta tb te : TE} {tr : TA} {E : En}
theorem xtL {L M : List Addr} {H H' : Hp} (x : Xt L H H') : Xt (L ++ M) H H' := x.sub fun _ h => List.mem_append_left _ h
theorem w_cb {r : List V → Hp → VK → Prop} {P : List Dt → Store → Prop} (q : Wa K tr δ P) (hr : ∀ M L σ H vs ds δ2, Ib K M L σ δ2 H → RpL K (L ++ M) H vs ds → P ds δ2 → Go K M L σ H Φ (r vs H)) : W K (tCB r tr) δ Φ := fun M L σ H I Q k =>
  q M L σ H I _ fun vs ds δ1 H1 I1 x1 hv q1 => hr M L σ H1 vs ds δ1 I1 hv q1 Q fun w d δ' H' I3 x3 hw q3 => k w d δ' H' I3 (x1.trans x3) hw q3
theorem wn_cb {r : List V → Hp → VK → Prop} {P : List Dt → Store → Prop} (q : Wa K tr δ P) (hr : ∀ M L σ H vs ds δ2, Ib K M L σ δ2 H → RpL K (L ++ M) H vs ds → P ds δ2 → GoN K M L σ H Ψ (r vs H)) : Wn K (tCB r tr) δ Ψ := fun M L σ H I Q k =>
  q M L σ H I _ fun vs ds δ1 H1 I1 x1 hv q1 => hr M L σ H1 vs ds δ1 I1 hv q1 Q fun a xs es δ' H' I3 x3 ha hw q3 => k a xs es δ' H' I3 (x1.trans x3) ha hw q3
theorem wn_op {r : R2} {P : Dt → Dt → Store → Prop} (q : W K ta δ fun a δ1 => W K tb δ1 fun b δ2 => P a b δ2) (hr : ∀ M L σ H v u a b δ2, Ib K M L σ δ2 H → Rp K (L ++ M) H v a → Rp K (L ++ M) H u b → P a b δ2 → GoN K M L σ H Ψ (r v u H)) : Wn K (tOp r ta tb) δ Ψ := fun M L σ H I Q k =>
  q M L σ H I _ fun v a δ1 H1 I1 x1 hv q1 => q1 M L σ H1 I1 _ fun u b δ2 H2 I2 x2 hu q2 => hr M L σ H2 v u a b δ2 I2 (hv.mono (xtL x2)) hu q2 Q fun a' xs es δ' H' I3 x3 ha hw q3 => k a' xs es δ' H' I3 ((x1.trans x2).trans x3) ha hw q3
/-- the first operand a list of the def's own, by its name -/
theorem w_opOwn {r : R2} {i : Nat} {s : Store → Sd → Prop} {P : Dt → Sd → Store → Prop} {s0 : Sd} (h0 : δ[i]? = some s0) (ho : s0.isOwn = true) (q : W K tb δ fun b δ2 => ∃ s, δ2[i]? = some s ∧ s.isOwn = true ∧ P b s δ2)
    (hr : ∀ M L σ H v a b s δ2, Ib K M L σ δ2 H → σ[i]? = some (some (.ref v)) → a = v → ∀ u, Rp K (L ++ M) H u b → Own1 K (L ++ M) H v s → P b s δ2 → Go K M L σ H Φ (r (.ref v) u H)) : W K (tOp r (tVar i) tb) δ Φ := fun M L σ H I Q k => by
  obtain ⟨a, e, _, _⟩ := I.sl.get_cell ho h0
  refine ⟨.ref a, e, q M L σ H I _ fun u b δ2 H2 I2 x2 hu q2 => ?_⟩
  obtain ⟨s, h2, hs, q3⟩ := q2
  obtain ⟨a', e', _, o'⟩ := I2.sl.get_cell hs h2
  rw [e] at e'
  cases e'
  exact hr M L σ H2 a a b s δ2 I2 e rfl u hu o' q3 Q fun w d δ' H' I3 x3 hw q4 => k w d δ' H' I3 (x2.trans x3) hw q4
/-! ### displays, items, lengths -/
theorem w_tup (q : Wa K tr δ fun ds δ1 => ds.length ≤ 100000 ∧ Φ (.tup ds) δ1) : W K (tTup tr) δ Φ := fun M L σ H I Q k =>
  q M L σ H I _ fun vs ds δ1 H1 I1 x1 hv q1 => ⟨sz_of (by rw [hv.len]; exact q1.1), fun p hp => k _ _ δ1 _ (I1.new hp) (x1.trans (Xt.new hp)) (.tup (I1.fresh hp) (.inl upd_same) (hv.mono (Xt.new hp))) q1.2⟩
theorem wn_lst (q : Wa K tr δ fun ds δ1 => ds.length ≤ 100000 ∧ Ψ ds δ1) : Wn K (tLst tr) δ Ψ := fun M L σ H I Q k =>
  q M L σ H I _ fun vs ds δ1 H1 I1 x1 hv q1 => ⟨sz_of (by rw [hv.len]; exact q1.1), fun p hp => k p vs ds δ1 H1 I1 x1 hp hv q1.2⟩
theorem RpL.atI {A : List Addr} {H : Hp} {xs : List V} {ds : List Dt} {i : Int} {d : Dt} (h : RpL K A H xs ds) (e : atI ds i = some d) : ∃ v, atI xs i = some v ∧ Rp K A H v d := by
  unfold L2.atI at e ⊢
  rw [h.len]
  cases q : ixN ds.length i with
  | none => rw [q] at e; cases e
  | some j => rw [q] at e; exact h.at_ e
theorem w_ixT (q : W K ta δ fun a δ1 => W K tb δ1 fun b δ2 => ∃ ds i d, a = .tup ds ∧ b = .int i ∧ atI ds i = some d ∧ Φ d δ2) : W K (tOp (rIxT K) ta tb) δ Φ :=
  w_op q fun M L σ H v u a b δ2 I hv hu hp Q k => by
    obtain ⟨ds, i, d, rfl, rfl, hd, q⟩ := hp
    obtain ⟨p, xs, rfl, hx, h⟩ := hv.inv_tup
    obtain ⟨w, hw, hr⟩ := h.atI hd
    rw [hu.inv_int]
    exact ⟨p, xs, i, w, rfl, rfl, hx, hw, k _ _ _ _ I (Xt.refl _ _) hr q⟩
theorem w_ixL (q : W K ta δ fun a δ1 => W K tb δ1 fun b δ2 => ∃ ds i d, a = .lst ds ∧ b = .int i ∧ atI ds i = some d ∧ Φ d δ2) : W K (tOp (rIxL K) ta tb) δ Φ :=
  w_op q fun M L σ H v u a b δ2 I hv hu hp Q k => by
    obtain ⟨ds, i, d, rfl, rfl, hd, q⟩ := hp
    obtain ⟨p, xs, rfl, hn, hx, h⟩ := hv.inv_lst
    obtain ⟨w, hw, hr⟩ := h.atI hd
    rw [hu.inv_int]
    exact ⟨p, xs, i, w, rfl, rfl, .inl (.inl hx), hw, k _ _ _ _ I (Xt.refl _ _) hr q⟩
theorem w_ixOwn {i : Nat} {ds0 : List Dt} (h0 : δ[i]? = some (.own ds0)) (q : W K tb δ fun b δ2 => ∃ ds j d, δ2[i]? = some (.own ds) ∧ b = .int j ∧ atI ds j = some d ∧ Φ d δ2) : W K (tOp (rIxL K) (tVar i) tb) δ Φ := fun M L σ H I Q k => by
  obtain ⟨a, e, _, _⟩ := I.sl.get_cell rfl h0
  refine ⟨.ref a, e, q M L σ H I _ fun u b δ2 H2 I2 x2 hu q2 => ?_⟩
  obtain ⟨ds, j, d, h2, rfl, hd, q3⟩ := q2
  obtain ⟨a', e', _, o'⟩ := I2.sl.get_cell rfl h2
  rw [e] at e'
  cases e'
  cases o' with
  | own ho hl =>
    obtain ⟨w, hw, hr⟩ := hl.atI hd
    rw [hu.inv_int]
    exact ⟨a, _, j, w, rfl, rfl, .inl (.inl ho), hw, k _ _ _ _ I2 x2 hr q3⟩
def Dt.len : Dt → Option Nat
  | .lst ds => some ds.length
  | .tup ds => some ds.length
  | _ => none
theorem Rp.sq {A : List Addr} {H : Hp} {v : V} {d : Dt} {n : Nat} (h : Rp K A H v d) (e : d.len = some n) : ∃ p xs, v = .ref p ∧ (SqL K H p xs ∨ SqT K H p xs) ∧ xs.length = n := by
  cases d with
  | lst ds =>
    obtain ⟨p, xs, rfl, hn, hx, h⟩ := h.inv_lst
    cases e
    exact ⟨p, xs, rfl, .inl (.inl (.inl hx)), h.len⟩
  | tup ds =>
    obtain ⟨p, xs, rfl, hx, h⟩ := h.inv_tup
    cases e
    exact ⟨p, xs, rfl, .inr hx, h.len⟩
  | _ => cases e
theorem w_len (q : Wa K tr δ fun ds δ1 => ∃ d n, ds = [d] ∧ d.len = some n ∧ Φ (.int (n : Int)) δ1) : W K (tCB (wLenS K) tr) δ Φ :=
  w_cb q fun M L σ H vs ds δ2 I hv hp Q k => by
    obtain ⟨d, n, rfl, hd, q⟩ := hp
    cases hv with
    | cons h t =>
      cases t
      obtain ⟨p, xs, rfl, hx, hn⟩ := h.sq hd
      exact ⟨p, xs, rfl, hx, by rw [hn]; exact k _ _ _ _ I (Xt.refl _ _) (.int _) q⟩
theorem w_lenS (q : Wa K tr δ fun ds δ1 => ∃ s, ds = [.str s] ∧ Φ (.int (s.length : Int)) δ1) : W K (tCB wLenT tr) δ Φ :=
  w_cb q fun M L σ H vs ds δ2 I hv hp Q k => by
    obtain ⟨s, rfl, q⟩ := hp
    cases hv with
    | cons h t =>
      cases t
      obtain ⟨rfl, hs⟩ := h.inv_str
      exact ⟨s, rfl, sz_of hs.1, k _ _ _ _ I (Xt.refl _ _) (.int _) q⟩
theorem w_lenOwn {i : Nat} {ds : List Dt} (h0 : δ[i]? = some (.own ds)) (q : Φ (.int (ds.length : Int)) δ) : W K (tCB (wLenS K) (tCons (tVar i) tNil)) δ Φ := fun M L σ H I Q k => by
  obtain ⟨a, e, _, o⟩ := I.sl.get_cell rfl h0
  cases o with
  | own ho hl => exact ⟨.ref a, e, a, _, rfl, .inl (.inl (.inl ho)), by rw [hl.len]; exact k _ _ _ _ I (Xt.refl _ _) (.int _) q⟩
def Dt.items : Dt → Option (List Dt)
  | .lst ds => some ds
  | .tup ds => some ds
  | _ => none
theorem Rp.its {A : List Addr} {H : Hp} {v : V} {d : Dt} {ds : List Dt} (h : Rp K A H v d) (e : d.items = some ds) : ∃ p xs, v = .ref p ∧ (SqL K H p xs ∨ SqT K H p xs) ∧ RpL K A H xs ds := by
  cases d with
  | lst ds =>
    obtain ⟨p, xs, rfl, hn, hx, h⟩ := h.inv_lst
    cases e
    exact ⟨p, xs, rfl, .inl (.inl (.inl hx)), h⟩
  | tup ds =>
    obtain ⟨p, xs, rfl, hx, h⟩ := h.inv_tup
    cases e
    exact ⟨p, xs, rfl, .inr hx, h⟩
  | _ => cases e
theorem wn_list (q : Wa K tr δ fun ds δ1 => ∃ d es, ds = [d] ∧ d.items = some es ∧ Ψ es δ1) : Wn K (tCB (wListOf K) tr) δ Ψ :=
  wn_cb q fun M L σ H vs ds δ2 I hv hp Q k => by
    obtain ⟨d, es, rfl, hd, q⟩ := hp
    cases hv with
    | cons h t =>
      cases t
      obtain ⟨p, xs, rfl, hx, hn⟩ := h.its hd
      exact ⟨p, xs, rfl, hx, fun l hl => k l xs es δ2 H I (Xt.refl _ _) hl hn q⟩
theorem wn_listOwn {i : Nat} {ds : List Dt} (h0 : δ[i]? = some (.own ds)) (q : Ψ ds δ) : Wn K (tCB (wListOf K) (tCons (tVar i) tNil)) δ Ψ := fun M L σ H I Q k => by
  obtain ⟨a, e, _, o⟩ := I.sl.get_cell rfl h0
  cases o with
  | own ho hx => exact ⟨.ref a, e, a, _, rfl, .inl (.inl (.inl ho)), fun l hl => k l _ _ δ H I (Xt.refl _ _) hl hx q⟩
theorem w_tuple (q : Wa K tr δ fun ds δ1 => ∃ d es, ds = [d] ∧ d.items = some es ∧ Φ (.tup es) δ1) : W K (tCB (wTupleOf K) tr) δ Φ :=
  w_cb q fun M L σ H vs ds δ2 I hv hp Q k => by
    obtain ⟨d, es, rfl, hd, q⟩ := hp
    cases hv with
    | cons h t =>
      cases t
      cases d with
      | lst es =>
        obtain ⟨p, xs, rfl, hn, hx, h⟩ := h.inv_lst
        cases hd
        exact ⟨p, xs, rfl, .inl ⟨.inl (.inl hx), fun l hl => k _ _ δ2 _ (I.new hl) (Xt.new hl) (.tup (I.fresh hl) (.inl upd_same) (h.mono (Xt.new hl))) q⟩⟩
      | tup es =>
        obtain ⟨p, xs, rfl, hx, h2⟩ := h.inv_tup
        cases hd
        exact ⟨p, xs, rfl, .inr ⟨hx, k _ _ δ2 H I (Xt.refl _ _) h q⟩⟩
      | _ => cases hd
theorem w_tupleOwn {i : Nat} {ds : List Dt} (h0 : δ[i]? = some (.own ds)) (q : Φ (.tup ds) δ) : W K (tCB (wTupleOf K) (tCons (tVar i) tNil)) δ Φ := fun M L σ H I Q k => by
  obtain ⟨a, e, _, o⟩ := I.sl.get_cell rfl h0
  cases o with
  | own ho hx => exact ⟨.ref a, e, a, _, rfl, .inl ⟨.inl (.inl ho), fun l hl => k _ _ δ _ (I.new hl) (Xt.new hl) (.tup (I.fresh hl) (.inl upd_same) (hx.mono (Xt.new hl))) q⟩⟩
/-- a new list handed straight on -/
theorem w_tupleN (q : Wn K te δ fun ds δ1 => Φ (.tup ds) δ1) : W K (tCB (wTupleOf K) (tCons te tNil)) δ Φ := w_tuple (wa_cons (w_of_n (q.imp fun ds δ' h => wa_nil ⟨_, _, rfl, rfl, h⟩)))
theorem wn_cat (q : W K ta δ fun a δ1 => W K tb δ1 fun b δ2 => ∃ ds es, a = .lst ds ∧ b = .lst es ∧ ds.length + es.length ≤ 100000 ∧ Ψ (ds ++ es) δ2) : Wn K (tOp rCat ta tb) δ Ψ :=
  wn_op q fun M L σ H v u a b δ2 I hv hu hp Q k => by
    obtain ⟨ds, es, rfl, rfl, hz, q⟩ := hp
    obtain ⟨p, xs, rfl, _, hx, h⟩ := hv.inv_lst
    obtain ⟨p', ys, rfl, _, hy, h'⟩ := hu.inv_lst
    exact ⟨p, p', xs, ys, rfl, rfl, hx, hy, sz_of (by rw [h.len, h'.len]; exact hz), fun l hl => k l _ _ δ2 H I (Xt.refl _ _) hl (h.append h') q⟩
theorem wn_catOwn {i : Nat} {ds0 : List Dt} (h0 : δ[i]? = some (.own ds0)) (q : W K tb δ fun b δ2 => ∃ ds es, δ2[i]? = some (.own ds) ∧ b = .lst es ∧ ds.length + es.length ≤ 100000 ∧ Ψ (ds ++ es) δ2) : Wn K (tOp rCat (tVar i) tb) δ Ψ := fun M L σ H I Q k => by
  obtain ⟨a, e, _, _⟩ := I.sl.get_cell rfl h0
  refine ⟨.ref a, e, q M L σ H I _ fun u b δ2 H2 I2 x2 hu q2 => ?_⟩
  obtain ⟨ds, es, h2, rfl, hz, q3⟩ := q2
  obtain ⟨a', e', _, o'⟩ := I2.sl.get_cell rfl h2
  rw [e] at e'
  cases e'
  cases o' with
  | own ho hl =>
    obtain ⟨p', ys, rfl, _, hy, h'⟩ := hu.inv_lst
    exact ⟨a, p', _, ys, rfl, rfl, ho, hy, sz_of (by rw [hl.len, h'.len]; exact hz), fun l hl' => k l _ _ δ2 H2 I2 x2 hl' (hl.append h') q3⟩
theorem wn_rep (q : W K ta δ fun a δ1 => W K tb δ1 fun b δ2 => ∃ ds j, a = .lst ds ∧ b = .int j ∧ 0 ≤ j ∧ j < 1000 ∧ ds.length * j.toNat ≤ 100000 ∧ Ψ (List.replicate j.toNat ds).flatten δ2) : Wn K (tOp rRep ta tb) δ Ψ :=
  wn_op q fun M L σ H v u a b δ2 I hv hu hp Q k => by
    obtain ⟨ds, j, rfl, rfl, h0, h1, hz, q⟩ := hp
    obtain ⟨p, xs, rfl, _, hx, h⟩ := hv.inv_lst
    rw [hu.inv_int]
    exact r_rep hx h0 h1 (sz_of (by rw [h.len]; exact hz)) fun l hl => k l _ _ δ2 H I (Xt.refl _ _) hl (h.rep _) q
theorem w_catA (q : W K ta δ fun a δ1 => W K tb δ1 fun b δ2 => ∃ ds es, a = .tup ds ∧ b = .tup es ∧ ds.length + es.length ≤ 100000 ∧ Φ (.tup (ds ++ es)) δ2) : W K (tOp (rCatA K) ta tb) δ Φ :=
  w_op q fun M L σ H v u a b δ2 I hv hu hp Q k => by
    obtain ⟨ds, es, rfl, rfl, hz, q⟩ := hp
    obtain ⟨p, xs, rfl, hx, h⟩ := hv.inv_tup
    obtain ⟨p', ys, rfl, hy, h'⟩ := hu.inv_tup
    refine ⟨p, p', xs, ys, rfl, rfl, hx, hy, sz_of (by rw [h.len, h'.len]; exact hz), fun e => ?_, fun _ e => ?_, fun _ _ l hl => ?_⟩
    · subst e
      cases h
      exact k _ _ _ _ I (Xt.refl _ _) hu q
    · subst e
      cases h'
      rw [List.append_nil] at q
      exact k _ _ _ _ I (Xt.refl _ _) hv q
    · exact k _ _ δ2 _ (I.new hl) (Xt.new hl) (.tup (I.fresh hl) (.inl upd_same) ((h.append h').mono (Xt.new hl))) q
/-! ### slices -/
theorem wo_none {Θ : Option Int → Store → Prop} (q : Θ none δ) : Wo K tNoPart δ Θ := fun M L σ H I Q k => k _ _ _ I (Xt.refl _ _) q
theorem wo_some {Θ : Option Int → Store → Prop} (q : W K te δ fun d δ1 => ∃ i, d = .int i ∧ Θ (some i) δ1) : Wo K (tPart te) δ Θ := fun M L σ H I Q k => q M L σ H I _ fun v d δ1 H1 I1 x1 hv q1 => by
  obtain ⟨i, rfl, q⟩ := q1
  exact ⟨i, hv.inv_int, k _ _ _ I1 x1 q⟩
def cutD (ds : List Dt) (lo hi : Option Int) : List Dt := (ds.drop (HT.sIx ds.length 0 lo)).take (HT.sIx ds.length ds.length hi - HT.sIx ds.length 0 lo)
theorem RpL.cut {A : List Addr} {H : Hp} {xs : List V} {ds : List Dt} (h : RpL K A H xs ds) (lo hi : Option Int) : RpL K A H (cutV xs lo hi) (cutD ds lo hi) := by
  unfold cutV cutD
  rw [h.len]
  exact (h.drop _).take _
theorem w_slA {lo hi : TO} (q : W K te δ fun a δ1 => Wo K lo δ1 fun l δ2 => Wo K hi δ2 fun u δ3 => ∃ ds, a = .tup ds ∧ Φ (.tup (cutD ds l u)) δ3) : W K (tSl (rSlA K) te lo hi) δ Φ := fun M L σ H I Q k =>
  q M L σ H I _ fun v a δ1 H1 I1 x1 hv q1 => q1 M L σ H1 I1 _ fun l δ2 H2 I2 x2 q2 => q2 M L σ H2 I2 _ fun u δ3 H3 I3 x3 q3 => by
    obtain ⟨ds, rfl, q⟩ := q3
    have hv3 := hv.mono (xtL (x2.trans x3))
    obtain ⟨p, xs, rfl, hx, h⟩ := hv3.inv_tup
    refine ⟨p, xs, rfl, hx, fun e => ?_, fun _ l' hl => ?_⟩
    · have : cutD ds l u = ds := by
        unfold cutD
        rw [h.len] at e
        rw [e.1, e.2, List.drop_zero, Nat.sub_zero, List.take_length]
      rw [this] at q
      exact k _ _ _ _ I3 ((x1.trans x2).trans x3) hv3 q
    · exact k _ _ δ3 _ (I3.new hl) (((x1.trans x2).trans x3).trans (Xt.new hl)) (.tup (I3.fresh hl) (.inl upd_same) ((h.cut l u).mono (Xt.new hl))) q
theorem wn_slL {lo hi : TO} (q : W K te δ fun a δ1 => Wo K lo δ1 fun l δ2 => Wo K hi δ2 fun u δ3 => ∃ ds, a = .lst ds ∧ Ψ (cutD ds l u) δ3) : Wn K (tSl (rSlL K) te lo hi) δ Ψ := fun M L σ H I Q k =>
  q M L σ H I _ fun v a δ1 H1 I1 x1 hv q1 => q1 M L σ H1 I1 _ fun l δ2 H2 I2 x2 q2 => q2 M L σ H2 I2 _ fun u δ3 H3 I3 x3 q3 => by
    obtain ⟨ds, rfl, q⟩ := q3
    have hv3 := hv.mono (xtL (x2.trans x3))
    obtain ⟨p, xs, rfl, _, hx, h⟩ := hv3.inv_lst
    exact ⟨p, xs, rfl, .inl (.inl hx), fun l' hl => k l' _ _ δ3 H3 I3 ((x1.trans x2).trans x3) hl (h.cut l u) q⟩
end
end My

namespace My
open PySem PySem.Spec PyProof.Rows L2
section
variable {K : PySem.W.Frag} [Xg K] {δ : Store} {ta tb te : TE} {tr : TA} {E : En} {t u : TS}
/-! ### statements -/
theorem sw_seq (q : Sw K t δ { E with nx := fun δ' => Sw K u δ' E }) : Sw K (tSeq t u) δ E := fun M L σ H I D k =>
  q M L σ H I { D with nx := u D } ⟨fun L' σ' δ' H' I' f h => h M L' σ' H' I' D (k.go f), k.rt, k.bk, k.ct⟩
theorem sw_next (q : E.nx δ) : Sw K tNext δ E := fun M L σ H I D k => k.nx L σ δ H I (Fr.refl _ _) q
theorem sw_cont (q : E.ct δ) : Sw K tCont δ E := fun M L σ H I D k => k.ct L σ δ H I (Fr.refl _ _) q
theorem sw_break (q : E.bk δ) : Sw K tBreak δ E := fun M L σ H I D k => k.bk L σ δ H I (Fr.refl _ _) q
theorem sw_ret (q : W K te δ E.rt) : Sw K (tRet te) δ E := fun M L σ H I D k => q M L σ H I _ fun v d δ' H' I' x hv h => k.rt L σ δ' v d H' I' (Fr.of_xt x) hv h
theorem sw_retN (q : E.rt .non δ) : Sw K tRetN δ E := fun M L σ H I D k => k.rt L σ δ _ _ H I (Fr.refl _ _) .non q
theorem sw_retOwn {i : Nat} {ds : List Dt} (h0 : δ[i]? = some (.own ds)) (q : E.rt (.lst ds) (δ.set i .no)) : Sw K (tRet (tVar i)) δ E := fun M L σ H I D k => by
  obtain ⟨a, e, ha, o⟩ := I.sl.get_cell rfl h0
  have hi : i < σ.length := (List.getElem?_eq_some_iff.mp e).1
  obtain ⟨L', I', f, sb, n⟩ := I.setN (x := some (.ref a)) i
  rw [show σ.set i (some (V.ref a)) = σ from by rw [← (List.getElem?_eq_some_iff.mp e).2, List.set_getElem_self]] at I'
  cases o with
  | own ho hl => exact ⟨.ref a, e, k.rt L' σ _ _ _ H I' f (.lst (fun z => (List.mem_append.mp z).elim (n a e ⟨_, h0, rfl⟩) fun w => I.lm a ha w) ho (hl.to fun b hb => .inl ((List.mem_append.mp hb).elim (fun w => List.mem_append_left _ (sb.subset w)) fun w => List.mem_append_right _ w))) q⟩
theorem sw_retOwnD {i : Nat} {ks : List (Key × Dt)} (h0 : δ[i]? = some (.ownD ks)) (q : E.rt (.dct ks) (δ.set i .no)) : Sw K (tRet (tVar i)) δ E := fun M L σ H I D k => by
  obtain ⟨a, e, ha, o⟩ := I.sl.get_cell rfl h0
  obtain ⟨L', I', f, sb, n⟩ := I.setN (x := some (.ref a)) i
  rw [show σ.set i (some (V.ref a)) = σ from by rw [← (List.getElem?_eq_some_iff.mp e).2, List.set_getElem_self]] at I'
  cases o with
  | ownD ho hl => exact ⟨.ref a, e, k.rt L' σ _ _ _ H I' f (.dct (fun z => (List.mem_append.mp z).elim (n a e ⟨_, h0, rfl⟩) fun w => I.lm a ha w) ho (hl.to fun b hb => .inl ((List.mem_append.mp hb).elim (fun w => List.mem_append_left _ (sb.subset w)) fun w => List.mem_append_right _ w))) q⟩
theorem sw_if {c : TT} (q : Wt K c δ fun b δ1 => if b = true then Sw K t δ1 E else Sw K u δ1 E) : Sw K (tIfS c t u) δ E := fun M L σ H I D k => q M L σ H I _ fun b δ1 H1 I1 x1 q1 => by
  cases b with
  | true => exact q1 M L σ H1 I1 D (k.go (Fr.of_xt x1))
  | false => exact q1 M L σ H1 I1 D (k.go (Fr.of_xt x1))
theorem sw_drop (q : W K te δ fun _ δ1 => E.nx δ1) : Sw K (tDrop te) δ E := fun M L σ H I D k => q M L σ H I _ fun v d δ' H' I' x hv h => k.nx L σ δ' H' I' (Fr.of_xt x) h
theorem sw_set {i : Nat} (q : W K te δ fun d δ1 => E.nx (δ1.set i (.dat d))) : Sw K (tAsg te (gName i)) δ E := fun M L σ H I D k => q M L σ H I _ fun v d δ' H' I' x hv h => by
  obtain ⟨L', I2, f⟩ := I'.setD i hv
  exact k.nx L' _ _ H' I2 ((Fr.of_xt x).trans f) h
/-- a new list that the def will change -/
theorem sw_own {i : Nat} (q : Wn K te δ fun ds δ1 => E.nx (δ1.set i (.own ds))) : Sw K (tAsg te (gName i)) δ E := fun M L σ H I D k => q M L σ H I _ fun a xs ds δ' H' I' x ha hx h => by
  have s : ∀ b, b ∈ (a :: L) ++ M → b ∈ L ++ M ∨ H' b = none := fun b hb => by
    rcases List.mem_cons.mp hb with rfl | z
    · exact .inr ha
    · exact .inl z
  obtain ⟨L', I2, f⟩ := I'.setO (o := .lst xs) (s := .own ds) i ha (.own upd_same ((hx.to s).mono (Xt.new ha)))
  exact k.nx L' _ _ _ I2 ((Fr.of_xt x).trans f) h
theorem sw_ownD {i : Nat} (q : E.nx (δ.set i (.ownD []))) : Sw K (tAsg tDNewK (gName i)) δ E := fun M L σ H I D k => fun p hp => by
  obtain ⟨L', I2, f⟩ := I.setO (o := .dK []) (s := .ownD []) i hp (.ownD upd_same .nil)
  exact k.nx L' _ _ _ I2 f q
/-- what was the def's own is data from now on -/
theorem sw_freeze {i : Nat} {ds : List Dt} (h0 : δ[i]? = some (.own ds)) (q : Sw K t (δ.set i (.dat (.lst ds))) E) : Sw K t δ E := fun M L σ H I D k => by
  obtain ⟨a, e, ha, o⟩ := I.sl.get_cell rfl h0
  obtain ⟨L', I', f, sb, n⟩ := I.setN (x := some (.ref a)) i
  have n' := n a e ⟨_, h0, rfl⟩
  cases o with
  | own ho hl =>
    obtain ⟨L2, I2, f2⟩ := I'.setD (v := .ref a) (d := .lst ds) i (.lst (fun z => (List.mem_append.mp z).elim n' fun w => I.lm a ha w) ho (hl.to fun b hb => .inl ((List.mem_append.mp hb).elim (fun w => List.mem_append_left _ (sb.subset w)) fun w => List.mem_append_right _ w)))
    rw [List.set_set, List.set_set, show σ.set i (some (V.ref a)) = σ from by rw [← (List.getElem?_eq_some_iff.mp e).2, List.set_getElem_self]] at I2
    exact q M L2 σ H I2 D (k.go (f.trans f2))
/-- .. a dict -/
theorem sw_freezeD {i : Nat} {ks : List (Key × Dt)} (h0 : δ[i]? = some (.ownD ks)) (q : Sw K t (δ.set i (.dat (.dct ks))) E) : Sw K t δ E := fun M L σ H I D k => by
  obtain ⟨a, e, ha, o⟩ := I.sl.get_cell rfl h0
  obtain ⟨L', I', f, sb, n⟩ := I.setN (x := some (.ref a)) i
  have n' := n a e ⟨_, h0, rfl⟩
  cases o with
  | ownD ho hl =>
    obtain ⟨L2, I2, f2⟩ := I'.setD (v := .ref a) (d := .dct ks) i (.dct (fun z => (List.mem_append.mp z).elim n' fun w => I.lm a ha w) ho (hl.to fun b hb => .inl ((List.mem_append.mp hb).elim (fun w => List.mem_append_left _ (sb.subset w)) fun w => List.mem_append_right _ w)))
    rw [List.set_set, List.set_set, show σ.set i (some (V.ref a)) = σ from by rw [← (List.getElem?_eq_some_iff.mp e).2, List.set_getElem_self]] at I2
    exact q M L2 σ H I2 D (k.go (f.trans f2))
/-- two ways that meet -/
theorem sw_join (C : Store → Prop) (h : ∀ δ', C δ' → Sw K u δ' E) (q : Sw K t δ { E with nx := C }) : Sw K (tSeq t u) δ E := sw_seq (fun M L σ H I D k => q M L σ H I D ⟨fun L' σ' δ' H' I' f c => k.nx L' σ' δ' H' I' f (h δ' c), k.rt, k.bk, k.ct⟩)
theorem Sw.imp {E' : En} (q : Sw K t δ E) (hn : ∀ δ', E.nx δ' → E'.nx δ') (hr : ∀ d δ', E.rt d δ' → E'.rt d δ') (hb : ∀ δ', E.bk δ' → E'.bk δ') (hc : ∀ δ', E.ct δ' → E'.ct δ') : Sw K t δ E' := fun M L σ H I D k =>
  q M L σ H I D ⟨fun L' σ' δ' H' I' f h => k.nx L' σ' δ' H' I' f (hn _ h), fun L' σ' δ' v d H' I' f hv h => k.rt L' σ' δ' v d H' I' f hv (hr _ _ h), fun L' σ' δ' H' I' f h => k.bk L' σ' δ' H' I' f (hb _ h), fun L' σ' δ' H' I' f h => k.ct L' σ' δ' H' I' f (hc _ h)⟩
/-! ### targets -/
def Wg (K : PySem.W.Frag) [Xg K] (g : TG) (d : Dt) (δ : Store) (Θ : Store → Prop) : Prop := ∀ M L σ v H, Ib K M L σ δ H → Rp K (L ++ M) H v d → ∀ Q : L2.St → Hp → Prop, (∀ L' σ' δ', Ib K M L' σ' δ' H → Fr L H L' H → Θ δ' → Q σ' H) → g v σ H Q
def Wgs (K : PySem.W.Frag) [Xg K] (g : TGs) (ds : List Dt) (δ : Store) (Θ : Store → Prop) : Prop := ∀ M L σ vs H, Ib K M L σ δ H → RpL K (L ++ M) H vs ds → ∀ Q : L2.St → Hp → Prop, (∀ L' σ' δ', Ib K M L' σ' δ' H → Fr L H L' H → Θ δ' → Q σ' H) → g vs σ H Q
theorem wg_name {i : Nat} {d : Dt} {Θ : Store → Prop} (q : Θ (δ.set i (.dat d))) : Wg K (gName i) d δ Θ := fun M L σ v H I hv Q k => by
  obtain ⟨L', I2, f⟩ := I.setD i hv
  exact k L' _ _ I2 f q
theorem RpL.less {A B : List Addr} {H : Hp} (s : ∀ a ∈ B, a ∈ A) {vs : List V} {ds : List Dt} (h : RpL K A H vs ds) : RpL K B H vs ds := h.to fun a ha => .inl (s a ha)
theorem Fr.sub_of {L L' M : List Addr} {H : Hp} (f : Fr L H L' H) (I : ∀ a ∈ L', H a ≠ none) : ∀ a ∈ L' ++ M, a ∈ L ++ M := fun a ha => by
  rcases List.mem_append.mp ha with z | z
  · exact List.mem_append_left _ ((f.nw a z).resolve_right (I a z))
  · exact List.mem_append_right _ z
theorem wgs_nil {Θ : Store → Prop} (q : Θ δ) : Wgs K gNil [] δ Θ := fun M L σ vs H I hv Q k => by
  cases hv
  exact ⟨rfl, k L σ δ I (Fr.refl _ _) q⟩
theorem wgs_cons {g : TG} {gs : TGs} {d : Dt} {ds : List Dt} {Θ : Store → Prop} (q : Wg K g d δ fun δ1 => Wgs K gs ds δ1 Θ) : Wgs K (gCons g gs) (d :: ds) δ Θ := fun M L σ vs H I hv Q k => by
  cases hv with
  | cons h t => exact ⟨_, _, rfl, q M L σ _ H I h _ fun L1 σ1 δ1 I1 f1 q1 => q1 M L1 σ1 _ H I1 (t.less (f1.sub_of I1.sl.here)) _ fun L2 σ2 δ2 I2 f2 q2 => k L2 σ2 δ2 I2 (f1.trans f2) q2⟩
theorem wg_tup {n : Nat} {gs : TGs} {ds : List Dt} {Θ : Store → Prop} (hn : ds.length = n) (q : Wgs K gs ds δ Θ) : Wg K (gTup K n gs) (.tup ds) δ Θ := fun M L σ v H I hv Q k => by
  obtain ⟨a, xs, rfl, hx, h⟩ := hv.inv_tup
  exact ⟨a, xs, rfl, hx, by rw [h.len]; exact hn, q M L σ xs H I h Q k⟩
theorem wg_unl {n : Nat} {gs : TGs} {ds : List Dt} {Θ : Store → Prop} (hn : ds.length = n) (q : Wgs K gs ds δ Θ) : Wg K (gUnl K n gs) (.lst ds) δ Θ := fun M L σ v H I hv Q k => by
  obtain ⟨a, xs, rfl, _, hx, h⟩ := hv.inv_lst
  exact ⟨a, xs, rfl, .inl (.inl hx), by rw [h.len]; exact hn, q M L σ xs H I h Q k⟩
theorem sw_asg {g : TG} (q : W K te δ fun d δ1 => Wg K g d δ1 E.nx) : Sw K (tAsg te g) δ E := fun M L σ H I D k => q M L σ H I _ fun v d δ' H' I' x hv h =>
  h M L σ v H' I' hv _ fun L1 σ1 δ1 I1 f1 q1 => k.nx L1 σ1 δ1 H' I1 ((Fr.of_xt x).trans f1) q1
theorem sw_par {i j : Nat} (q : Wa K tr δ fun ds δ1 => ∃ a b, ds = [a, b] ∧ E.nx ((δ1.set i (.dat a)).set j (.dat b))) : Sw K (tPar i j tr) δ E := fun M L σ H I D k => q M L σ H I _ fun vs ds δ' H' I' x hv h => by
  obtain ⟨a, b, rfl, h⟩ := h
  cases hv with
  | cons h1 t => cases t with
    | cons h2 t =>
      cases t
      obtain ⟨L1, I1, f1⟩ := I'.setD i h1
      obtain ⟨L2, I2, f2⟩ := I1.setD j (h2.to fun a ha => .inl (f1.sub_of I1.sl.here a ha))
      exact ⟨_, _, rfl, k.nx L2 _ _ H' I2 (((Fr.of_xt x).trans f1).trans f2) h⟩
theorem sw_par3 {i j l : Nat} (q : Wa K tr δ fun ds δ1 => ∃ a b c, ds = [a, b, c] ∧ E.nx (((δ1.set i (.dat a)).set j (.dat b)).set l (.dat c))) : Sw K (tPar3 i j l tr) δ E := fun M L σ H I D k => q M L σ H I _ fun vs ds δ' H' I' x hv h => by
  obtain ⟨a, b, c, rfl, h⟩ := h
  cases hv with
  | cons h1 t => cases t with
    | cons h2 t => cases t with
      | cons h3 t =>
        cases t
        obtain ⟨L1, I1, f1⟩ := I'.setD i h1
        obtain ⟨L2, I2, f2⟩ := I1.setD j (h2.to fun a ha => .inl (f1.sub_of I1.sl.here a ha))
        obtain ⟨L3, I3, f3⟩ := I2.setD l (h3.to fun a ha => .inl ((f1.trans f2).sub_of I2.sl.here a ha))
        exact ⟨_, _, _, rfl, k.nx L3 _ _ H' I3 ((((Fr.of_xt x).trans f1).trans f2).trans f3) h⟩
/-! ### what changes a thing of the def's own -/
theorem sw_app {i : Nat} {ds0 : List Dt} (h0 : δ[i]? = some (.own ds0)) (q : W K te δ fun d δ1 => ∃ ds, δ1[i]? = some (.own ds) ∧ ds.length < 100000 ∧ E.nx (δ1.set i (.own (ds ++ [d])))) : Sw K (tDrop (tBM K "list" rAppend (tVar i) (tCons te tNil))) δ E := fun M L σ H I D k => by
  obtain ⟨a, e, _, o⟩ := I.sl.get_cell rfl h0
  cases o with
  | own ho _ =>
  refine ⟨.ref a, e, .inl ⟨rfl, _, .inl (.inl ho)⟩, q M L σ H I _ fun v d δ1 H1 I1 x1 hv q1 => ?_⟩
  obtain ⟨ds, h1, hz, q⟩ := q1
  obtain ⟨a', e', ha', o'⟩ := I1.sl.get_cell rfl h1
  rw [e] at e'
  cases e'
  cases o' with
  | @own xs _ ho hl =>
    have hx : Xt (L ++ M) H1 (upd H1 a (.lst (xs ++ [v]))) := Xt.put (List.mem_append_left _ ha')
    obtain ⟨I2, x2⟩ := I1.put (o := .lst (xs ++ [v])) (s' := .own (ds ++ [d])) rfl (.own upd_same ((hl.append (.cons hv .nil)).mono hx)) e h1
    exact ⟨a, xs, v, rfl, rfl, ho, sz_lt (by rw [hl.len]; exact hz), k.nx L σ _ _ I2 (Fr.of_xt (x1.trans x2)) q⟩
theorem w_popAt {i : Nat} {ds0 : List Dt} {Φ : Dt → Store → Prop} (h0 : δ[i]? = some (.own ds0)) (q : W K te δ fun b δ1 => ∃ ds j d, b = .int (j : Nat) ∧ δ1[i]? = some (.own ds) ∧ ds[j]? = some d ∧ ds.length < 100000 ∧ Φ d (δ1.set i (.own (ds.eraseIdx j)))) : W K (tBM K "list" rPopAt (tVar i) (tCons te tNil)) δ Φ := fun M L σ H I Q k => by
  obtain ⟨a, e, _, o⟩ := I.sl.get_cell rfl h0
  cases o with
  | own ho _ =>
  refine ⟨.ref a, e, .inl ⟨rfl, _, .inl (.inl ho)⟩, q M L σ H I _ fun v b δ1 H1 I1 x1 hv q1 => ?_⟩
  obtain ⟨ds, j, d, rfl, h1, hd, hz, q⟩ := q1
  rw [hv.inv_int]
  obtain ⟨a', e', ha', o'⟩ := I1.sl.get_cell rfl h1
  rw [e] at e'
  cases e'
  cases o' with
  | @own xs _ ho hl =>
    have hx : Xt (L ++ M) H1 (upd H1 a (.lst (xs.eraseIdx j))) := Xt.put (List.mem_append_left _ ha')
    obtain ⟨w, hw, hr⟩ := hl.at_ hd
    obtain ⟨I2, x2⟩ := I1.put (o := .lst (xs.eraseIdx j)) (s' := .own (ds.eraseIdx j)) rfl (.own upd_same ((hl.erase j).mono hx)) e h1
    have hj : j < ds.length := (List.getElem?_eq_some_iff.mp hd).1
    exact r_popAt ho (by omega) hw (k w d _ _ I2 (x1.trans x2) (hr.mono hx) q)
theorem w_pop {i : Nat} {ds : List Dt} {d : Dt} {Φ : Dt → Store → Prop} (h0 : δ[i]? = some (.own (ds ++ [d]))) (q : Φ d (δ.set i (.own ds))) : W K (tBM0 K "list" rPop (tVar i)) δ Φ := fun M L σ H I Q k => by
  obtain ⟨a, e, ha, o⟩ := I.sl.get_cell rfl h0
  cases o with
  | @own xs _ ho hl =>
  have hn : xs.length = ds.length + 1 := by rw [hl.len, List.length_append]; rfl
  obtain ⟨w, hw, hr⟩ := hl.at_ (i := ds.length) (d := d) (by simp)
  have hx : Xt (L ++ M) H (upd H a (.lst xs.dropLast)) := Xt.put (List.mem_append_left _ ha)
  have hd : xs.dropLast = xs.take ds.length := by rw [List.dropLast_eq_take, hn]; rfl
  have h5 : RpL K (L ++ M) H xs.dropLast ds := by
    have := hl.take ds.length
    rw [List.take_left, ← hd] at this
    exact this
  obtain ⟨I2, x2⟩ := I.put (o := .lst xs.dropLast) (s' := .own ds) rfl (.own upd_same (h5.mono hx)) e h0
  exact ⟨.ref a, e, .inl ⟨rfl, _, .inl (.inl ho)⟩, a, xs, w, rfl, rfl, ho, by rw [hn]; exact hw, k w d _ _ I2 x2 (hr.mono hx) q⟩
theorem sw_insert {i : Nat} {ds0 : List Dt} (h0 : δ[i]? = some (.own ds0)) (q : Wa K tr δ fun as δ1 => ∃ ds j d, as = [.int (j : Nat), d] ∧ j < 100000 ∧ δ1[i]? = some (.own ds) ∧ ds.length < 100000 ∧ E.nx (δ1.set i (.own (ds.take j ++ [d] ++ ds.drop j)))) : Sw K (tDrop (tBM K "list" wInsert (tVar i) tr)) δ E := fun M L σ H I D k => by
  obtain ⟨a, e, _, o⟩ := I.sl.get_cell rfl h0
  cases o with
  | own ho _ =>
  refine ⟨.ref a, e, .inl ⟨rfl, _, .inl (.inl ho)⟩, q M L σ H I _ fun vs as δ1 H1 I1 x1 hv q1 => ?_⟩
  obtain ⟨ds, j, d, rfl, hj, h1, hz, q⟩ := q1
  cases hv with
  | cons hv1 t => cases t with
    | cons hv2 t =>
      cases t
      rw [hv1.inv_int]
      obtain ⟨a', e', ha', o'⟩ := I1.sl.get_cell rfl h1
      rw [e] at e'
      cases e'
      cases o' with
      | @own xs _ ho hl =>
        rename_i y
        have hx : Xt (L ++ M) H1 (upd H1 a (.lst (xs.take j ++ [y] ++ xs.drop j))) := Xt.put (List.mem_append_left _ ha')
        obtain ⟨I2, x2⟩ := I1.put (o := .lst (xs.take j ++ [y] ++ xs.drop j)) (s' := .own (ds.take j ++ [d] ++ ds.drop j)) rfl (.own upd_same ((((hl.take j).append (.cons hv2 .nil)).append (hl.drop j)).mono hx)) e h1
        exact r_insert ho (sz_lt (by rw [hl.len]; exact hz)) (by omega) (k.nx L σ _ _ I2 (Fr.of_xt (x1.trans x2)) q)
/-- xs[j] = v of an own list -/
theorem sw_setL {i : Nat} {ds0 : List Dt} (h0 : δ[i]? = some (.own ds0)) (q : W K te δ fun d δ1 => ∃ ds1, δ1[i]? = some (.own ds1) ∧ W K tb δ1 fun b δ2 => ∃ ds j l, b = .int j ∧ δ2[i]? = some (.own ds) ∧ ixN ds.length j = some l ∧ E.nx (δ2.set i (.own (ds.set l d)))) : Sw K (tAsg te (gSub (tVar i) tb rSetL)) δ E := fun M L σ H I D k => q M L σ H I _ fun v d δ1 H1 I1 x1 hv q1 => by
  obtain ⟨ds1, h1, q1⟩ := q1
  obtain ⟨a, e, _, _⟩ := I1.sl.get_cell rfl h1
  refine ⟨.ref a, e, q1 M L σ H1 I1 _ fun w b δ2 H2 I2 x2 hw q2 => ?_⟩
  obtain ⟨ds, j, l, rfl, h2, hl2, q⟩ := q2
  rw [hw.inv_int]
  obtain ⟨a', e', ha', o'⟩ := I2.sl.get_cell rfl h2
  rw [e] at e'
  cases e'
  cases o' with
  | @own xs _ ho hl =>
    have hx : Xt (L ++ M) H2 (upd H2 a (.lst (xs.set l v))) := Xt.put (List.mem_append_left _ ha')
    obtain ⟨I3, x3⟩ := I2.put (o := .lst (xs.set l v)) (s' := .own (ds.set l d)) rfl (.own upd_same ((hl.set (hv.mono (xtL x2)) l).mono hx)) e h2
    exact ⟨a, xs, j, l, rfl, rfl, ho, by rw [hl.len]; exact hl2, k.nx L σ _ _ I3 (Fr.of_xt ((x1.trans x2).trans x3)) q⟩
end
end My

namespace My
open PySem PySem.Spec PyProof.Rows L2
section
variable {K : PySem.W.Frag} [Xg K] {δ : Store} {ta tb te tl : TE} {tr : TA} {E : En} {t u tu : TS} {g : TG}
/-! ### loops -/
theorem Rp.fr {M L L' : List Addr} {H H' : Hp} {v : V} {d : Dt} (h : Rp K (L ++ M) H v d) (f : Fr L H L' H') : Rp K (L' ++ M) H' v d := by
  have h1 : Rp K (L' ++ (L ++ M)) H v d := h.to fun b hb => by
    rcases List.mem_append.mp hb with z | z
    · exact (f.nw b z).imp (fun w => List.mem_append_left _ w) id
    · exact .inl z
  exact (h1.mono (f.ext.sub fun a ha => List.mem_append_right _ (List.mem_append_left _ ha))).to fun b hb => .inl ((List.mem_append.mp hb).elim (fun w => List.mem_append_left _ w) fun w => List.mem_append_right _ (List.mem_append_right _ w))
theorem RpL.fr {M L L' : List Addr} {H H' : Hp} {vs : List V} {ds : List Dt} (h : RpL K (L ++ M) H vs ds) (f : Fr L H L' H') : RpL K (L' ++ M) H' vs ds := by
  have h1 : RpL K (L' ++ (L ++ M)) H vs ds := h.to fun b hb => by
    rcases List.mem_append.mp hb with z | z
    · exact (f.nw b z).imp (fun w => List.mem_append_left _ w) id
    · exact .inl z
  exact (h1.mono (f.ext.sub fun a ha => List.mem_append_right _ (List.mem_append_left _ ha))).to fun b hb => .inl ((List.mem_append.mp hb).elim (fun w => List.mem_append_left _ w) fun w => List.mem_append_right _ (List.mem_append_right _ w))
theorem for_core {J : It} {n : Nat} {G : Hp → Prop} {Y : Nat → Hp → V → Hp → Prop} {M L : List Addr} {σ : L2.St} {H : Hp} {D : Ends} (w : Walk J n G Y) (I : Ib K M L σ δ H) (k : OkE K M L H E D) (Inv : Nat → Store → Prop) (h0 : Inv 0 δ)
    (hG : ∀ L' H', Fr L H L' H' → G H') (hY : ∀ i L' σ' δ' H' x H2, i < n → Ib K M L' σ' δ' H' → Fr L H L' H' → Inv i δ' → Y i H' x H2 → Ib K M L' σ' δ' H2 ∧ Fr L' H' L' H2 ∧ ∃ d, Rp K (L' ++ M) H2 x d ∧ Wg K g d δ' fun δ3 => Sw K tu δ3 ⟨Inv (i + 1), E.rt, E.nx, Inv (i + 1)⟩)
    (hd : ∀ δ', Inv n δ' → E.nx δ') : ForB J g tu D σ H := by
  refine forB w (fun i σ' H' => ∃ L' δ', Ib K M L' σ' δ' H' ∧ Fr L H L' H' ∧ Inv i δ') ⟨L, δ, I, Fr.refl _ _, h0⟩ (fun i σ' H' _ ⟨L', δ', _, f, _⟩ => hG L' H' f) (fun i x σ' H' H2 hi hP hy => ?_) (fun σ' H' hP => ?_)
  · obtain ⟨L', δ', I', f, q⟩ := hP
    obtain ⟨I2, f2, d, hv, hg⟩ := hY i L' σ' δ' H' x H2 hi I' f q hy
    refine hg M L' σ' x H2 I2 hv _ fun L3 σ3 δ3 I3 f3 q3 => ?_
    have F : Fr L H L3 H2 := (f.trans f2).trans f3
    exact q3 M L3 σ3 H2 I3 _ ⟨fun L4 σ4 δ4 H4 I4 f4 q4 => ⟨L4, δ4, I4, F.trans f4, q4⟩, fun L4 σ4 δ4 v d H4 I4 f4 hv4 q4 => k.rt L4 σ4 δ4 v d H4 I4 (F.trans f4) hv4 q4, fun L4 σ4 δ4 H4 I4 f4 q4 => k.nx L4 σ4 δ4 H4 I4 (F.trans f4) q4, fun L4 σ4 δ4 H4 I4 f4 q4 => ⟨L4, δ4, I4, F.trans f4, q4⟩⟩
  · obtain ⟨L', δ', I', f, q⟩ := hP
    exact k.nx L' σ' δ' H' I' f (hd δ' q)
theorem sw_forL (q : W K tl δ fun d δ1 => ∃ (ds : List Dt) (Inv : Nat → Store → Prop), d = .lst ds ∧ Inv 0 δ1 ∧ (∀ i d δ2, ds[i]? = some d → Inv i δ2 → Wg K g d δ2 fun δ3 => Sw K tu δ3 ⟨Inv (i + 1), E.rt, E.nx, Inv (i + 1)⟩) ∧ ∀ δ2, Inv ds.length δ2 → E.nx δ2) : Sw K (tFor (iList K tl) g tu) δ E := fun M L σ H I D k => q M L σ H I _ fun v d δ1 H1 I1 x1 hv q1 => by
  obtain ⟨ds, Inv, rfl, h0, hs, hd⟩ := q1
  obtain ⟨a, xs, rfl, na, ha, hx⟩ := hv.inv_lst
  have st : ∀ L' H', Fr L H1 L' H' → H' a = some (.lst xs) := fun L' H' f => f.ext a _ (fun z => na (List.mem_append_left _ z)) ha
  refine ⟨a, rfl, ⟨xs, .inl (.inl ha)⟩, for_core (Inv := Inv) (walk_list (K := K) (xs := xs)) I1 (k.go (Fr.of_xt x1)) h0 (fun L' H' f => .inl (.inl (st L' H' f))) (fun i L' σ' δ' H' x H2 hi I' f qi hy => ?_) (fun δ' h => ?_)⟩
  · obtain ⟨rfl, hxi⟩ := hy
    obtain ⟨d, hd', hr⟩ := (hx.fr f).get hxi
    exact ⟨I', Fr.refl _ _, d, hr, hs i d δ' hd' qi⟩
  · rw [hx.len] at h
    exact hd δ' h
theorem sw_forT (q : W K tl δ fun d δ1 => ∃ (ds : List Dt) (Inv : Nat → Store → Prop), d = .tup ds ∧ Inv 0 δ1 ∧ (∀ i d δ2, ds[i]? = some d → Inv i δ2 → Wg K g d δ2 fun δ3 => Sw K tu δ3 ⟨Inv (i + 1), E.rt, E.nx, Inv (i + 1)⟩) ∧ ∀ δ2, Inv ds.length δ2 → E.nx δ2) : Sw K (tFor (iTup K tl) g tu) δ E := fun M L σ H I D k => q M L σ H I _ fun v d δ1 H1 I1 x1 hv q1 => by
  obtain ⟨ds, Inv, rfl, h0, hs, hd⟩ := q1
  have hv0 := hv
  have core : ∀ a xs, v = .ref a → RpL K (L ++ M) H1 xs ds → (∀ L' H', Fr L H1 L' H' → SqT K H' a xs) → iTup K (fun _ H Q => Q v H) σ H1 (fun J H2 => ForB J g tu D σ H2) := fun a xs e hx st => by
    subst e
    refine ⟨a, rfl, ⟨xs, st L H1 (Fr.refl _ _)⟩, for_core (Inv := Inv) (walk_tup (K := K) (xs := xs)) I1 (k.go (Fr.of_xt x1)) h0 st (fun i L' σ' δ' H' x H2 hi I' f qi hy => ?_) (fun δ' h => ?_)⟩
    · obtain ⟨rfl, hxi⟩ := hy
      obtain ⟨d, hd', hr⟩ := (hx.fr f).get hxi
      exact ⟨I', Fr.refl _ _, d, hr, hs i d δ' hd' qi⟩
    · rw [hx.len] at h
      exact hd δ' h
  cases hv with
  | tup n e h => exact core _ _ rfl h fun L' H' f => .inl (Rd.xt f.ext (fun z => n (List.mem_append_left _ z)) e)
  | wtp e h => exact core _ _ rfl h fun L' H' f => e H'
theorem sw_forR1 (q : Wa K tr δ fun ds δ1 => ∃ (n : Int) (Inv : Nat → Store → Prop), ds = [.int n] ∧ n ≤ 1000000 ∧ -1000000 ≤ n ∧ Inv 0 δ1 ∧ (∀ (i : Nat) δ2, (i : Int) < n → Inv i δ2 → Wg K g (.int (i : Int)) δ2 fun δ3 => Sw K tu δ3 ⟨Inv (i + 1), E.rt, E.nx, Inv (i + 1)⟩) ∧ ∀ δ2, Inv n.toNat δ2 → E.nx δ2) : Sw K (tFor (iRng1 tr) g tu) δ E := fun M L σ H I D k => q M L σ H I _ fun vs ds δ1 H1 I1 x1 hv q1 => by
  obtain ⟨n, Inv, rfl, hn, hn', h0, hs, hd⟩ := q1
  cases hv with
  | cons h1 t =>
    cases t
    rw [h1.inv_int]
    refine ⟨n, rfl, by omega, by omega, for_core (Inv := Inv) walk_range I1 (k.go (Fr.of_xt x1)) h0 (fun _ _ _ => trivial) (fun i L' σ' δ' H' x H2 hi I' f qi hy => ?_) (fun δ' h => hd δ' h)⟩
    obtain ⟨rfl, rfl⟩ := hy
    refine ⟨I', Fr.refl _ _, .int (i : Int), ?_, hs i δ' (by omega) qi⟩
    show Rp K _ _ (V.int (0 + (i : Int))) _
    rw [Int.zero_add]
    exact .int _
theorem sw_forR2 (q : Wa K tr δ fun ds δ1 => ∃ (lo n : Int) (Inv : Nat → Store → Prop), ds = [.int lo, .int n] ∧ (-1000000 ≤ lo ∧ lo ≤ 1000000 ∧ n ≤ 1000000 ∧ -1000000 ≤ n) ∧ Inv 0 δ1 ∧ (∀ (i : Nat) δ2, lo + (i : Int) < n → Inv i δ2 → Wg K g (.int (lo + (i : Int))) δ2 fun δ3 => Sw K tu δ3 ⟨Inv (i + 1), E.rt, E.nx, Inv (i + 1)⟩) ∧ ∀ δ2, Inv (n - lo).toNat δ2 → E.nx δ2) : Sw K (tFor (iRng2 tr) g tu) δ E := fun M L σ H I D k => q M L σ H I _ fun vs ds δ1 H1 I1 x1 hv q1 => by
  obtain ⟨lo, n, Inv, rfl, hn, h0, hs, hd⟩ := q1
  cases hv with
  | cons h1 t => cases t with
    | cons h2 t =>
      cases t
      rw [h1.inv_int, h2.inv_int]
      refine ⟨lo, n, rfl, by omega, for_core (Inv := Inv) walk_range I1 (k.go (Fr.of_xt x1)) h0 (fun _ _ _ => trivial) (fun i L' σ' δ' H' x H2 hi I' f qi hy => ?_) (fun δ' h => hd δ' h)⟩
      obtain ⟨rfl, rfl⟩ := hy
      exact ⟨I', Fr.refl _ _, .int _, .int _, hs i δ' (by omega) qi⟩
theorem sw_forS (q : W K tl δ fun d δ1 => ∃ (s : Str) (Inv : Nat → Store → Prop), d = .str s ∧ Inv 0 δ1 ∧ (∀ i (c : Nat) δ2, s.cps[i]? = some c → Inv i δ2 → Wg K g (.str ⟨#[c]⟩) δ2 fun δ3 => Sw K tu δ3 ⟨Inv (i + 1), E.rt, E.nx, Inv (i + 1)⟩) ∧ ∀ δ2, Inv s.cps.size δ2 → E.nx δ2) : Sw K (tFor (iStr tl) g tu) δ E := fun M L σ H I D k => q M L σ H I _ fun v d δ1 H1 I1 x1 hv q1 => by
  obtain ⟨s, Inv, rfl, h0, hs, hd⟩ := q1
  obtain ⟨rfl, hg⟩ := hv.inv_str
  refine ⟨s, rfl, for_core (Inv := Inv) walk_str I1 (k.go (Fr.of_xt x1)) h0 (fun _ _ _ => trivial) (fun i L' σ' δ' H' x H2 hi I' f qi hy => ?_) (fun δ' h => hd δ' h)⟩
  obtain ⟨rfl, c, hc, rfl⟩ := hy
  refine ⟨I', Fr.refl _ _, .str ⟨#[c]⟩, .str ⟨by show 1 ≤ _; decide, ?_⟩, hs i c δ' hc qi⟩
  have := hg.2
  rw [Array.all_eq_true_iff_forall_mem] at this
  have h2 := this c (Array.mem_of_getElem? hc)
  rw [Array.all_eq_true_iff_forall_mem]
  intro x hx
  have e : x = c := by simpa using hx
  rw [e]
  exact h2
/-! ### comprehensions -/
def noAt (vs : List Nat) (δ : Store) : Bool := vs.all fun v => match δ[v]? with
  | some .no => true
  | _ => false
def datAt (vs : List Nat) (δ : Store) : Bool := vs.all fun v => match δ[v]? with
  | some .no => true
  | some (.dat _) => true
  | _ => false
def clr (vs : List Nat) (δ : Store) : Store := vs.foldl (fun δ v => δ.set v .no) δ
theorem SlA.anyN {A : List Addr} {H : Hp} {x : Option V} : ∀ {σ : L2.St} {δ : Store} {L : List Addr} (i : Nat), SlA K A H σ δ L → δ[i]? = some .no → SlA K A H (σ.set i x) δ L
  | _, _, _, 0, .no t, _ => .no t
  | _, _, _, 0, .cell h t, e => by cases e; cases h
  | _, _, _, i + 1, .no t, e => .no (t.anyN i e)
  | _, _, _, i + 1, .dat h t, e => .dat h (t.anyN i e)
  | _, _, _, i + 1, .cell h t, e => .cell h (t.anyN i e)
  | _, _, _, 0, .grp h t, e => by cases e; cases h
  | _, _, _, i + 1, .grp h t, e => .grp h (t.anyN i e)
  | _, _, _, 0, .gst _ _ t, e => by cases e
  | _, _, _, i + 1, .gst g hp t, e => .gst g hp (t.anyN i e)
theorem SlA.unN {A : List Addr} {H : Hp} {x : Option V} : ∀ {σ : L2.St} {δ : Store} {L : List Addr} (i : Nat), SlA K A H (σ.set i x) δ L → δ[i]? = some .no → SlA K A H σ δ L
  | [], _, _, _, h, e => by simpa using h
  | _ :: _, _, _, 0, h, e => by
    rw [List.set_cons_zero] at h
    cases h with
    | no t => exact .no t
    | dat h t => cases e
    | cell h t => cases e; cases h
    | grp h t => cases e; cases h
    | gst g hp t => cases e
  | _ :: _, δ, L, i + 1, h, e => by
    rw [List.set_cons_succ] at h
    cases h with
    | no t => exact .no (SlA.unN i t e)
    | dat h t => exact .dat h (SlA.unN i t e)
    | cell h t => exact .cell h (SlA.unN i t e)
    | grp h t => exact .grp h (SlA.unN i t e)
    | gst g hp t => exact .gst g hp (SlA.unN i t e)
theorem SlA.forget {A : List Addr} {H : Hp} : ∀ {σ : L2.St} {δ : Store} {L : List Addr} (i : Nat), SlA K A H σ δ L → (∀ s, δ[i]? = some s → s.plain = true) → SlA K A H σ (δ.set i .no) L
  | _, _, _, _, .nil, _ => .nil
  | _, _, _, 0, .no t, _ => .no t
  | _, _, _, 0, .dat _ t, _ => .no t
  | _, _, _, 0, .cell h t, e => by
    have := e _ rfl
    cases h <;> cases this
  | _, _, _, i + 1, .no t, e => .no (t.forget i e)
  | _, _, _, i + 1, .dat h t, e => .dat h (t.forget i e)
  | _, _, _, i + 1, .cell h t, e => .cell h (t.forget i e)
  | _, _, _, 0, .grp h t, e => by
    have := e _ rfl
    cases h <;> cases this
  | _, _, _, i + 1, .grp h t, e => .grp h (t.forget i e)
  | _, _, _, 0, .gst _ _ t, e => by cases e _ rfl
  | _, _, _, i + 1, .gst g hp t, e => .gst g hp (t.forget i e)
theorem noAt_get {vs : List Nat} {δ : Store} (h : noAt vs δ = true) {v : Nat} (hv : v ∈ vs) : δ[v]? = some .no := by
  have := List.all_eq_true.mp h v hv
  split at this
  · assumption
  · cases this
theorem datAt_get {vs : List Nat} {δ : Store} (h : datAt vs δ = true) {v : Nat} (hv : v ∈ vs) : ∀ s, δ[v]? = some s → s.plain = true := by
  have := List.all_eq_true.mp h v hv
  intro s e
  rw [e] at this
  split at this
  · rename_i e2; cases e2; rfl
  · rename_i e2; cases e2; rfl
  · cases this
theorem SlA.wipe {A : List Addr} {H : Hp} {σ : L2.St} {δ : Store} {L : List Addr} : ∀ {vs : List Nat}, SlA K A H σ δ L → noAt vs δ = true → SlA K A H (wipe σ vs) δ L
  | [], h, _ => h
  | v :: vs, h, e => (h.wipe (vs := vs) (by
      unfold noAt at e ⊢
      rw [List.all_cons, Bool.and_eq_true] at e
      exact e.2)).anyN v (noAt_get e (.head _))
theorem SlA.unwipe {A : List Addr} {H : Hp} {σ : L2.St} {δ : Store} {L : List Addr} : ∀ {vs : List Nat}, SlA K A H (L2.wipe σ vs) δ L → noAt vs δ = true → SlA K A H σ δ L
  | [], h, _ => h
  | v :: vs, h, e => SlA.unwipe (vs := vs) (SlA.unN v h (noAt_get e (.head _))) (by
      unfold noAt at e ⊢
      rw [List.all_cons, Bool.and_eq_true] at e
      exact e.2)
theorem clr_get (vs : List Nat) : ∀ (δ : Store) (i : Nat), (clr vs δ)[i]? = if i ∈ vs ∧ i < δ.length then some .no else δ[i]? := by
  induction vs with
  | nil => intro δ i; simp [clr]
  | cons v vs ih =>
    intro δ i
    show (clr vs (δ.set v .no))[i]? = _
    rw [ih, List.length_set, List.getElem?_set]
    by_cases h1 : i ∈ vs ∧ i < δ.length
    · rw [if_pos h1, if_pos ⟨.tail _ h1.1, h1.2⟩]
    · rw [if_neg h1]
      by_cases h2 : v = i
      · subst h2
        by_cases h3 : v < δ.length
        · rw [if_pos rfl, if_pos h3, if_pos ⟨.head _, h3⟩]
        · rw [if_pos rfl, if_neg h3, if_neg (fun z => h3 z.2)]
          rw [List.getElem?_eq_none (by omega)]
      · rw [if_neg h2, if_neg (fun z => by
          rcases List.mem_cons.mp z.1 with e | e
          · exact h2 e.symm
          · exact h1 ⟨e, z.2⟩)]
theorem SlA.clr {A : List Addr} {H : Hp} {σ : L2.St} {L : List Addr} : ∀ {vs : List Nat} {δ : Store}, SlA K A H σ δ L → datAt vs δ = true → SlA K A H σ (clr vs δ) L
  | [], _, h, _ => h
  | v :: vs, δ, h, e => by
    have e1 := datAt_get e (.head _)
    refine SlA.clr (vs := vs) (h.forget v e1) ?_
    unfold datAt at e ⊢
    rw [List.all_cons, Bool.and_eq_true] at e
    refine List.all_eq_true.mpr fun i hi => ?_
    have := List.all_eq_true.mp e.2 i hi
    rw [List.getElem?_set]
    by_cases h2 : v = i
    · subst h2
      rw [if_pos rfl]
      by_cases h3 : v < δ.length
      · rw [if_pos h3]
      · rw [List.getElem?_eq_none (by omega)] at this
        cases this
    · rw [if_neg h2]
      exact this
theorem noAt_clr {vs : List Nat} {δ : Store} (h : datAt vs δ = true) : noAt vs (clr vs δ) = true := List.all_eq_true.mpr fun v hv => by
  have h1 := List.all_eq_true.mp h v hv
  have h2 : v < δ.length := by
    rcases Nat.lt_or_ge v δ.length with z | z
    · exact z
    · rw [List.getElem?_eq_none z] at h1
      cases h1
  rw [clr_get, if_pos ⟨hv, h2⟩]
theorem wipe_set {σ : L2.St} {x : Option V} {j : Nat} : ∀ {vs : List Nat}, j ∈ vs → wipe (σ.set j x) vs = wipe σ vs
  | v :: vs, h => by
    unfold wipe
    by_cases hv : j ∈ vs
    · rw [wipe_set hv]
    · have e : j = v := (List.mem_cons.mp h).resolve_right hv
      subst e
      refine List.ext_getElem? fun i => ?_
      by_cases hi : j = i
      · subst hi
        rw [List.getElem?_set, List.getElem?_set, wipe_length, wipe_length, List.length_set, if_pos rfl, if_pos rfl]
      · rw [List.getElem?_set_ne hi, List.getElem?_set_ne hi]
        exact wipe_other vs hi
where
  wipe_other {σ : L2.St} {x : Option V} {j i : Nat} : ∀ (vs : List Nat), j ≠ i → (wipe (σ.set j x) vs)[i]? = (wipe σ vs)[i]?
    | [], h => List.getElem?_set_ne h
    | v :: vs, h => by
      unfold wipe
      rw [List.getElem?_set, List.getElem?_set, wipe_length, wipe_length, List.length_set, wipe_other vs h]
/-- a target within a comprehension -/
def Wc (K : PySem.W.Frag) [Xg K] (g : TG) (vs : List Nat) (d : Dt) (δ : Store) (Θ : Store → Prop) : Prop := ∀ M L σ v H, Ib K M L σ δ H → Rp K (L ++ M) H v d → ∀ Q : L2.St → Hp → Prop, (∀ σ' δ', Ib K M L σ' δ' H → wipe σ' vs = wipe σ vs → Θ δ' → Q σ' H) → g v σ H Q
def Wcs (K : PySem.W.Frag) [Xg K] (g : TGs) (vs : List Nat) (ds : List Dt) (δ : Store) (Θ : Store → Prop) : Prop := ∀ M L σ xs H, Ib K M L σ δ H → RpL K (L ++ M) H xs ds → ∀ Q : L2.St → Hp → Prop, (∀ σ' δ', Ib K M L σ' δ' H → wipe σ' vs = wipe σ vs → Θ δ' → Q σ' H) → g xs σ H Q
theorem SlA.setD' {A : List Addr} {H : Hp} {v : V} {d : Dt} (hv : Rp K A H v d) : ∀ {σ : L2.St} {δ : Store} {L : List Addr} (i : Nat), SlA K A H σ δ L → (∀ s, δ[i]? = some s → s.plain = true) → SlA K A H (σ.set i (some v)) (δ.set i (.dat d)) L
  | _, _, _, _, .nil, _ => .nil
  | _, _, _, 0, .no t, _ => .dat hv t
  | _, _, _, 0, .dat _ t, _ => .dat hv t
  | _, _, _, 0, .cell h t, e => by
    have := e _ rfl
    cases h <;> cases this
  | _, _, _, i + 1, .no t, e => .no (t.setD' hv i e)
  | _, _, _, i + 1, .dat h t, e => .dat h (t.setD' hv i e)
  | _, _, _, i + 1, .cell h t, e => .cell h (t.setD' hv i e)
  | _, _, _, 0, .grp h t, e => by
    have := e _ rfl
    cases h <;> cases this
  | _, _, _, i + 1, .grp h t, e => .grp h (t.setD' hv i e)
  | _, _, _, 0, .gst _ _ t, e => by cases e _ rfl
  | _, _, _, i + 1, .gst g hp t, e => .gst g hp (t.setD' hv i e)
theorem wc_name {i : Nat} {vs : List Nat} {d : Dt} {Θ : Store → Prop} (hi : i ∈ vs) (hd : datAt [i] δ = true) (q : Θ (δ.set i (.dat d))) : Wc K (gName i) vs d δ Θ := fun M L σ v H I hv Q k =>
  k _ _ ⟨⟨I.sl.setD' hv i (datAt_get hd (.head _)), I.nd, I.lm, I.out⟩, I.gx⟩ (wipe_set hi) q
theorem wcs_nil {vs : List Nat} {Θ : Store → Prop} (q : Θ δ) : Wcs K gNil vs [] δ Θ := fun M L σ xs H I hv Q k => by
  cases hv
  exact ⟨rfl, k σ δ I rfl q⟩
theorem wcs_cons {g : TG} {gs : TGs} {vs : List Nat} {d : Dt} {ds : List Dt} {Θ : Store → Prop} (q : Wc K g vs d δ fun δ1 => Wcs K gs vs ds δ1 Θ) : Wcs K (gCons g gs) vs (d :: ds) δ Θ := fun M L σ xs H I hv Q k => by
  cases hv with
  | cons h t => exact ⟨_, _, rfl, q M L σ _ H I h _ fun σ1 δ1 I1 e1 q1 => q1 M L σ1 _ H I1 t _ fun σ2 δ2 I2 e2 q2 => k σ2 δ2 I2 (e2.trans e1) q2⟩
theorem wc_tup {n : Nat} {gs : TGs} {vs : List Nat} {ds : List Dt} {Θ : Store → Prop} (hn : ds.length = n) (q : Wcs K gs vs ds δ Θ) : Wc K (gTup K n gs) vs (.tup ds) δ Θ := fun M L σ v H I hv Q k => by
  obtain ⟨a, xs, rfl, hx, h⟩ := hv.inv_tup
  exact ⟨a, xs, rfl, hx, by rw [h.len]; exact hn, q M L σ xs H I h Q k⟩
theorem wipe_wipe (σ : L2.St) : ∀ vs : List Nat, wipe (wipe σ vs) vs = wipe σ vs := fun vs => by
  refine List.ext_getElem? fun i => ?_
  have key : ∀ (τ : L2.St) (us : List Nat), (wipe τ us)[i]? = if i ∈ us ∧ i < τ.length then some none else τ[i]? := fun τ us => by
    induction us with
    | nil => simp [wipe]
    | cons v us ih =>
      unfold wipe
      rw [List.getElem?_set, wipe_length, ih]
      by_cases h : v = i
      · subst h
        by_cases h2 : v < τ.length
        · simp [h2]
        · simp [h2]
      · have h3 : ¬ i = v := fun z => h z.symm
        simp [h, h3]
  rw [key, key, wipe_length]
  by_cases h : i ∈ vs ∧ i < σ.length
  · rw [if_pos h, if_pos h]
  · rw [if_neg h, if_neg h]
def hide (H : Hp) (D : Addr) : Hp := fun b => if b = D then none else H b
theorem hide_upd {H : Hp} {D : Addr} {o : HO} (h : H D = some o) : upd (hide H D) D o = H := funext fun b => by
  unfold upd hide
  by_cases e : b = D
  · rw [if_pos e, e, h]
  · rw [if_neg e, if_neg e]
theorem lc_core {J : It} {n : Nat} {G : Hp → Prop} {Y : Nat → Hp → V → Hp → Prop} {M L : List Addr} {σ : L2.St} {H : Hp} {D : Addr} {tt : TT} {vs : List Nat} {Q : VK} {Ψ : List Dt → Store → Prop} (w : Walk J n G Y) (I : Ib K M L σ δ H) (hD : H D = none) (Inv : Nat → List Dt → Store → Prop)
    (hv : ∀ i acc δ', Inv i acc δ' → noAt vs δ' = true ∧ acc.length < 100000) (h0 : Inv 0 [] δ) (hG : ∀ H', Xt L H H' → G H')
    (hY : ∀ i acc δ' σ' H' x H2, i < n → Ib K (D :: M) L σ' δ' H' → Xt L H H' → Inv i acc δ' → Y i H' x H2 → Ib K (D :: M) L σ' δ' H2 ∧ Ex H' H2 ∧ ∃ d, Rp K (L ++ (D :: M)) H2 x d ∧ Wc K g vs d δ' fun δ2 => Wt K tt δ2 fun b δ3 =>
      if b = true then W K te δ3 fun y δ4 => datAt vs δ4 = true ∧ Inv (i + 1) (acc ++ [y]) (clr vs δ4) else datAt vs δ3 = true ∧ Inv (i + 1) acc (clr vs δ3))
    (hd : ∀ acc δ', Inv n acc δ' → Ψ acc δ') (k : ∀ a xs ds δ' H', Ib K M L σ δ' H' → Xt L H H' → H' a = none → RpL K (L ++ M) H' xs ds → Ψ ds δ' → Q (.ref a) (upd H' a (.lst xs))) : LcB J g tt te vs σ H D Q := by
  have nDL : D ∉ L := fun z => I.sl.here D z hD
  refine lcB w (fun i H' => ∃ δ' acc ys, Ib K (D :: M) L σ δ' H' ∧ Xt L H H' ∧ H' D = some (.lst ys) ∧ RpL K (L ++ (D :: M)) H' ys acc ∧ Inv i acc δ') ⟨δ, [], [], I.more hD, Xt.new hD, upd_same, .nil, h0⟩ (fun i H' _ hP => ?_) (fun i x H1 H2 hi hP hy => ?_) (fun H1 hP => ?_)
  · obtain ⟨δ', acc, ys, _, x, _⟩ := hP
    exact hG H' x
  · obtain ⟨δ', acc, ys, I1, x1, hD1, hys, q1⟩ := hP
    obtain ⟨hn, hl⟩ := hv _ _ _ q1
    have Iw : Ib K (D :: M) L (wipe σ vs) δ' H1 := ⟨⟨I1.sl.wipe hn, I1.nd, I1.lm, I1.out⟩, I1.gx⟩
    obtain ⟨I2, e2, d, hr, hg⟩ := hY i acc δ' (wipe σ vs) H1 x H2 hi Iw x1 q1 hy
    refine hg (D :: M) L (wipe σ vs) x H2 I2 hr _ fun σ3 δ3 I3 ew q3 => ⟨by rw [ew]; exact wipe_wipe σ vs, ?_⟩
    refine q3 (D :: M) L σ3 H2 I3 _ fun b δ4 H4 I4 x4 q4 => ?_
    have ew2 : wipe σ3 vs = wipe σ vs := by rw [ew]; exact wipe_wipe σ vs
    have D4 : H4 D = some (.lst ys) := x4 D _ nDL (e2 D _ hD1)
    have y4 : RpL K (L ++ (D :: M)) H4 ys acc := (hys.mono (Xt.of e2)).mono (xtL x4)
    have X4 : Xt L H H4 := (x1.trans (Xt.of e2)).trans x4
    cases b with
    | true =>
      rw [if_pos rfl] at q4 ⊢
      refine q4 (D :: M) L σ3 H4 I4 _ fun y d5 δ5 H5 I5 x5 hy5 q5 => ?_
      have D5 : H5 D = some (.lst ys) := x5 D _ nDL D4
      have y5 := y4.mono (xtL x5)
      have pD : D ∈ L ++ (D :: M) := List.mem_append_right _ (.head _)
      refine ⟨ys, D5, sz_lt (by rw [y5.len]; exact hl), clr vs δ5, acc ++ [d5], ys ++ [y], ?_, ?_, upd_same, (y5.append (.cons hy5 .nil)).mono (Xt.put pD), q5.2⟩
      · have I6 : Ib K (D :: M) L σ (clr vs δ5) H5 := ⟨⟨SlA.unwipe (vs := vs) (by rw [← ew2]; exact (I5.sl.clr q5.1).wipe (noAt_clr q5.1)) (noAt_clr q5.1), I5.nd, I5.lm, I5.out⟩, I5.gx⟩
        refine ⟨⟨I6.sl.step (Xt.put pD) fun b hb => upd_ne (fun z => nDL (z ▸ hb)), I6.nd, I6.lm, fun a ha => ?_⟩, (I.gx.more fun a h => .tail _ h).go (Fr.of_xt fun b o nb hb => by rw [upd_ne (ne_of_none hb hD)]; exact (X4.trans x5) b o nb hb)⟩
        by_cases h : a = D
        · rw [h, upd_same]; exact fun z => nomatch z
        · rw [upd_ne h]; exact I6.out a ha
      · intro b o nb hb
        rw [upd_ne (ne_of_none hb hD)]
        exact (X4.trans x5) b o nb hb
    | false =>
      rw [if_neg (by decide)] at q4 ⊢
      exact ⟨clr vs δ4, acc, ys, ⟨⟨SlA.unwipe (vs := vs) (by rw [← ew2]; exact (I4.sl.clr q4.1).wipe (noAt_clr q4.1)) (noAt_clr q4.1), I4.nd, I4.lm, I4.out⟩, I4.gx⟩, X4, D4, y4, q4.2⟩
  · obtain ⟨δ', acc, ys, I1, x1, hD1, hys, q1⟩ := hP
    have xh : Xt (L ++ (D :: M)) H1 (hide H1 D) := fun b o nb hb => by
      unfold hide
      rw [if_neg (fun z : b = D => nb (by rw [z]; exact List.mem_append_right _ (.head _)))]
      exact hb
    have s : ∀ a, a ∈ L ++ M → a ∈ L ++ (D :: M) ∨ hide H1 D a = none := fun a ha => .inl ((List.mem_append.mp ha).elim (fun z => List.mem_append_left _ z) fun z => List.mem_append_right _ (.tail _ z))
    have nDM : D ∉ M := fun z => I.out D z hD
    have hb : ∀ b, b ≠ D → hide H1 D b = H1 b := fun b n => by unfold hide; rw [if_neg n]
    have xf : Xt L H (hide H1 D) := fun b o nb h => by
      have nD : b ≠ D := fun z => by rw [z, hD] at h; cases h
      rw [hb b nD]
      exact x1 b o nb h
    have := k D ys acc δ' (hide H1 D) ⟨⟨((I1.sl.step xh fun b h => hb b (fun z => nDL (z ▸ h))).to s), I1.nd, fun a ha z => I1.lm a ha (.tail _ z), fun a ha => by rw [hb a (fun z => nDM (z ▸ ha))]; exact I1.out a (.tail _ ha)⟩, I.gx.go (Fr.of_xt xf)⟩
      xf (by unfold hide; rw [if_pos rfl]) ((hys.mono xh).to s) (hd _ _ q1)
    rw [hide_upd hD1] at this
    exact this
end
end My

namespace My
open PySem PySem.Spec PyProof.Rows L2
section
variable {K : PySem.W.Frag} [Xg K] {δ : Store} {ta tb te tl : TE} {tr : TA} {E : En} {t u tu : TS} {g : TG} {tt : TT} {vs : List Nat} {Ψ : List Dt → Store → Prop} {Φ : Dt → Store → Prop}
/-! ### comprehensions, by what is walked -/
/-- a turn: what stands behind it -/
abbrev Turn (K : PySem.W.Frag) [Xg K] (g : TG) (tt : TT) (te : TE) (vs : List Nat) (x : Dt) (δ' : Store) (yes : Dt → Store → Prop) (no : Store → Prop) : Prop :=
  Wc K g vs x δ' fun δ2 => Wt K tt δ2 fun b δ3 => if b = true then W K te δ3 fun y δ4 => datAt vs δ4 = true ∧ yes y (clr vs δ4) else datAt vs δ3 = true ∧ no (clr vs δ3)
theorem wn_lcL (q : W K tl δ fun d δ1 => ∃ (ds : List Dt) (Inv : Nat → List Dt → Store → Prop), d = .lst ds ∧ (∀ i acc δ', Inv i acc δ' → noAt vs δ' = true ∧ acc.length < 100000) ∧ Inv 0 [] δ1 ∧
    (∀ i x acc δ', ds[i]? = some x → Inv i acc δ' → Turn K g tt te vs x δ' (fun y δ4 => Inv (i + 1) (acc ++ [y]) δ4) (fun δ4 => Inv (i + 1) acc δ4)) ∧ ∀ acc δ', Inv ds.length acc δ' → Ψ acc δ') : Wn K (tLc (iList K tl) g tt te vs) δ Ψ := fun M L σ H I Q k => q M L σ H I _ fun v d δ1 H1 I1 x1 hv q1 => by
  obtain ⟨ds, Inv, rfl, hb, h0, hs, hd⟩ := q1
  obtain ⟨a, xs, rfl, na, ha, hx⟩ := hv.inv_lst
  have nL : a ∉ L := fun z => na (List.mem_append_left _ z)
  refine ⟨a, rfl, ⟨xs, .inl (.inl ha)⟩, fun D hD => lc_core (walk_list (K := K) (xs := xs)) I1 hD Inv hb h0 (fun H' x => .inl (.inl (x a _ nL ha))) (fun i acc δ' σ' H' x H2 hi I' xx qi hy => ?_) (fun acc δ' h => ?_) fun b ys es δ' H' I' x' => k b ys es δ' H' I' (x1.trans x')⟩
  · obtain ⟨rfl, hxi⟩ := hy
    have h2 : RpL K (L ++ (D :: M)) H1 xs ds := hx.to fun b hb => by
      rcases List.mem_append.mp hb with z | z
      · exact .inl (List.mem_append_left _ z)
      · rcases List.mem_cons.mp z with rfl | z
        · exact .inr hD
        · exact .inl (List.mem_append_right _ z)
    obtain ⟨d, hd', hr⟩ := (h2.mono (xtL xx)).get hxi
    exact ⟨I', Evl.Ex.refl _, d, hr, hs i d acc δ' hd' qi⟩
  · rw [hx.len] at h
    exact hd acc δ' h
theorem wn_lcT (q : W K tl δ fun d δ1 => ∃ (ds : List Dt) (Inv : Nat → List Dt → Store → Prop), d = .tup ds ∧ (∀ i acc δ', Inv i acc δ' → noAt vs δ' = true ∧ acc.length < 100000) ∧ Inv 0 [] δ1 ∧
    (∀ i x acc δ', ds[i]? = some x → Inv i acc δ' → Turn K g tt te vs x δ' (fun y δ4 => Inv (i + 1) (acc ++ [y]) δ4) (fun δ4 => Inv (i + 1) acc δ4)) ∧ ∀ acc δ', Inv ds.length acc δ' → Ψ acc δ') : Wn K (tLc (iTup K tl) g tt te vs) δ Ψ := fun M L σ H I Q k => q M L σ H I _ fun v d δ1 H1 I1 x1 hv q1 => by
  obtain ⟨ds, Inv, rfl, hb, h0, hs, hd⟩ := q1
  have core : ∀ a xs, v = .ref a → RpL K (L ++ M) H1 xs ds → (∀ H', Xt L H1 H' → SqT K H' a xs) → iTup K (fun _ H Q => Q v H) σ H1 (fun J H2 => ∀ D, H2 D = none → LcB J g tt te vs σ H2 D Q) := fun a xs e hx st => by
    subst e
    refine ⟨a, rfl, ⟨xs, st H1 (Xt.refl _ _)⟩, fun D hD => lc_core (walk_tup (K := K) (xs := xs)) I1 hD Inv hb h0 st (fun i acc δ' σ' H' x H2 hi I' xx qi hy => ?_) (fun acc δ' h => ?_) fun b ys es δ' H' I' x' => k b ys es δ' H' I' (x1.trans x')⟩
    · obtain ⟨rfl, hxi⟩ := hy
      have h2 : RpL K (L ++ (D :: M)) H1 xs ds := hx.to fun b hb => by
        rcases List.mem_append.mp hb with z | z
        · exact .inl (List.mem_append_left _ z)
        · rcases List.mem_cons.mp z with rfl | z
          · exact .inr hD
          · exact .inl (List.mem_append_right _ z)
      obtain ⟨d, hd', hr⟩ := (h2.mono (xtL xx)).get hxi
      exact ⟨I', Evl.Ex.refl _, d, hr, hs i d acc δ' hd' qi⟩
    · rw [hx.len] at h
      exact hd acc δ' h
  cases hv with
  | tup n e h => exact core _ _ rfl h fun H' f => .inl (Rd.xt f (fun z => n (List.mem_append_left _ z)) e)
  | wtp e h => exact core _ _ rfl h fun H' f => e H'
theorem wn_lcR1 (q : Wa K tr δ fun as δ1 => ∃ (n : Int) (Inv : Nat → List Dt → Store → Prop), as = [.int n] ∧ (n ≤ 1000000 ∧ -1000000 ≤ n) ∧ (∀ i acc δ', Inv i acc δ' → noAt vs δ' = true ∧ acc.length < 100000) ∧ Inv 0 [] δ1 ∧
    (∀ (i : Nat) acc δ', (i : Int) < n → Inv i acc δ' → Turn K g tt te vs (.int (i : Int)) δ' (fun y δ4 => Inv (i + 1) (acc ++ [y]) δ4) (fun δ4 => Inv (i + 1) acc δ4)) ∧ ∀ acc δ', Inv n.toNat acc δ' → Ψ acc δ') : Wn K (tLc (iRng1 tr) g tt te vs) δ Ψ := fun M L σ H I Q k => q M L σ H I _ fun us as δ1 H1 I1 x1 hv q1 => by
  obtain ⟨n, Inv, rfl, hn, hb, h0, hs, hd⟩ := q1
  cases hv with
  | cons h1 t =>
    cases t
    rw [h1.inv_int]
    refine ⟨n, rfl, by omega, by omega, fun D hD => lc_core walk_range I1 hD Inv hb h0 (fun _ _ => trivial) (fun i acc δ' σ' H' x H2 hi I' xx qi hy => ?_) (fun acc δ' h => hd acc δ' h) fun b ys es δ' H' I' x' => k b ys es δ' H' I' (x1.trans x')⟩
    obtain ⟨rfl, rfl⟩ := hy
    refine ⟨I', Evl.Ex.refl _, .int (i : Int), ?_, hs i acc δ' (by omega) qi⟩
    show Rp K _ _ (V.int (0 + (i : Int))) _
    rw [Int.zero_add]
    exact .int _
theorem one_ok {s : Str} (hg : strG s) {i c : Nat} (hc : s.cps[i]? = some c) : strG ⟨#[c]⟩ := by
  refine ⟨by show 1 ≤ _; decide, ?_⟩
  have := hg.2
  rw [Array.all_eq_true_iff_forall_mem] at this ⊢
  intro x hx
  have e : x = c := by simpa using hx
  rw [e]
  exact this c (Array.mem_of_getElem? hc)
theorem wn_lcS (q : W K tl δ fun d δ1 => ∃ (s : Str) (Inv : Nat → List Dt → Store → Prop), d = .str s ∧ (∀ i acc δ', Inv i acc δ' → noAt vs δ' = true ∧ acc.length < 100000) ∧ Inv 0 [] δ1 ∧
    (∀ i (c : Nat) acc δ', s.cps[i]? = some c → Inv i acc δ' → Turn K g tt te vs (.str ⟨#[c]⟩) δ' (fun y δ4 => Inv (i + 1) (acc ++ [y]) δ4) (fun δ4 => Inv (i + 1) acc δ4)) ∧ ∀ acc δ', Inv s.cps.size acc δ' → Ψ acc δ') : Wn K (tLc (iStr tl) g tt te vs) δ Ψ := fun M L σ H I Q k => q M L σ H I _ fun v d δ1 H1 I1 x1 hv q1 => by
  obtain ⟨s, Inv, rfl, hb, h0, hs, hd⟩ := q1
  obtain ⟨rfl, hg⟩ := hv.inv_str
  refine ⟨s, rfl, fun D hD => lc_core walk_str I1 hD Inv hb h0 (fun _ _ => trivial) (fun i acc δ' σ' H' x H2 hi I' xx qi hy => ?_) (fun acc δ' h => hd acc δ' h) fun b ys es δ' H' I' x' => k b ys es δ' H' I' (x1.trans x')⟩
  obtain ⟨rfl, c, hc, rfl⟩ := hy
  exact ⟨I', Evl.Ex.refl _, .str ⟨#[c]⟩, .str (one_ok hg hc), hs i c acc δ' hc qi⟩
/-- each item's value: the store as it was -/
abbrev Each (K : PySem.W.Frag) [Xg K] (g : TG) (tt : TT) (te : TE) (vs : List Nat) (x : Dt) (δ1 : Store) (p : Bool) (y : Dt) : Prop := Turn K g tt te vs x δ1 (fun z δ4 => p = true ∧ z = y ∧ δ4 = δ1) (fun δ4 => p = false ∧ δ4 = δ1)
theorem Turn.imp {x : Dt} {δ' : Store} {y1 y2 : Dt → Store → Prop} {n1 n2 : Store → Prop} (h : Turn K g tt te vs x δ' y1 n1) (hy : ∀ d s, y1 d s → y2 d s) (hn : ∀ s, n1 s → n2 s) : Turn K g tt te vs x δ' y2 n2 := fun M L σ v H I hv Q k =>
  h M L σ v H I hv Q fun σ' δ2 I2 e q => k σ' δ2 I2 e (q.imp fun b δ3 q2 => by
    cases b with
    | true =>
      rw [if_pos rfl] at q2 ⊢
      exact q2.imp fun d δ4 q3 => ⟨q3.1, hy _ _ q3.2⟩
    | false =>
      rw [if_neg (by decide)] at q2 ⊢
      exact ⟨q2.1, hn _ q2.2⟩)
theorem take_map {α β : Type} {xs : List α} {x : α} {i : Nat} (p : α → Bool) (f : α → β) (h : xs[i]? = some x) : ((xs.take (i + 1)).filter p).map f = ((xs.take i).filter p).map f ++ if p x = true then [f x] else [] := by
  rw [List.take_add_one, h, List.filter_append, List.map_append]
  congr 1
  show (List.filter p [x]).map f = _
  by_cases hp : p x = true
  · rw [if_pos hp, List.filter_cons, if_pos hp]; rfl
  · rw [if_neg hp, List.filter_cons, if_neg hp]; rfl
theorem wn_mapL (q : W K tl δ fun d δ1 => ∃ (ds : List Dt) (p : Dt → Bool) (f : Dt → Dt), d = .lst ds ∧ noAt vs δ1 = true ∧ ds.length < 100000 ∧ (∀ (i : Nat) x, ds[i]? = some x → Each K g tt te vs x δ1 (p x) (f x)) ∧ Ψ ((ds.filter p).map f) δ1) : Wn K (tLc (iList K tl) g tt te vs) δ Ψ :=
  wn_lcL (q.imp fun d δ1 h => by
    obtain ⟨ds, p, f, rfl, hn, hl, he, q⟩ := h
    refine ⟨ds, fun i acc δ' => δ' = δ1 ∧ acc = ((ds.take i).filter p).map f, rfl, fun i acc δ' h => ⟨by rw [h.1]; exact hn, ?_⟩, ⟨rfl, rfl⟩, fun i x acc δ' hx h => ?_, fun acc δ' h => ?_⟩
    · rw [h.2, List.length_map]
      exact Nat.lt_of_le_of_lt (Nat.le_trans (List.length_filter_le _ _) (by rw [List.length_take]; exact Nat.min_le_right _ _)) hl
    · obtain ⟨rfl, rfl⟩ := h
      refine (he i x hx).imp (fun z s h => ⟨h.2.2, ?_⟩) (fun s h => ⟨h.2, ?_⟩)
      · rw [take_map p f hx, if_pos h.1, h.2.1]
      · rw [take_map p f hx, if_neg (by rw [h.1]; decide), List.append_nil]
    · obtain ⟨rfl, rfl⟩ := h
      rw [List.take_length]
      exact q)
theorem wn_mapT (q : W K tl δ fun d δ1 => ∃ (ds : List Dt) (p : Dt → Bool) (f : Dt → Dt), d = .tup ds ∧ noAt vs δ1 = true ∧ ds.length < 100000 ∧ (∀ (i : Nat) x, ds[i]? = some x → Each K g tt te vs x δ1 (p x) (f x)) ∧ Ψ ((ds.filter p).map f) δ1) : Wn K (tLc (iTup K tl) g tt te vs) δ Ψ :=
  wn_lcT (q.imp fun d δ1 h => by
    obtain ⟨ds, p, f, rfl, hn, hl, he, q⟩ := h
    refine ⟨ds, fun i acc δ' => δ' = δ1 ∧ acc = ((ds.take i).filter p).map f, rfl, fun i acc δ' h => ⟨by rw [h.1]; exact hn, ?_⟩, ⟨rfl, rfl⟩, fun i x acc δ' hx h => ?_, fun acc δ' h => ?_⟩
    · rw [h.2, List.length_map]
      exact Nat.lt_of_le_of_lt (Nat.le_trans (List.length_filter_le _ _) (by rw [List.length_take]; exact Nat.min_le_right _ _)) hl
    · obtain ⟨rfl, rfl⟩ := h
      refine (he i x hx).imp (fun z s h => ⟨h.2.2, ?_⟩) (fun s h => ⟨h.2, ?_⟩)
      · rw [take_map p f hx, if_pos h.1, h.2.1]
      · rw [take_map p f hx, if_neg (by rw [h.1]; decide), List.append_nil]
    · obtain ⟨rfl, rfl⟩ := h
      rw [List.take_length]
      exact q)
theorem wn_mapR1 (q : Wa K tr δ fun as δ1 => ∃ (n : Int) (p : Nat → Bool) (f : Nat → Dt), as = [.int n] ∧ (n < 100000 ∧ -100000 ≤ n) ∧ noAt vs δ1 = true ∧ (∀ i : Nat, (i : Int) < n → Each K g tt te vs (.int (i : Int)) δ1 (p i) (f i)) ∧ Ψ (((List.range n.toNat).filter p).map f) δ1) : Wn K (tLc (iRng1 tr) g tt te vs) δ Ψ :=
  wn_lcR1 (fun M L σ H I Q k => q M L σ H I Q fun us as δ1 H1 I1 x1 hv h => k us as δ1 H1 I1 x1 hv (by
    obtain ⟨n, p, f, rfl, hn, hv', he, q⟩ := h
    refine ⟨n, fun i acc δ' => i ≤ n.toNat ∧ δ' = δ1 ∧ acc = ((List.range i).filter p).map f, rfl, by omega, fun i acc δ' h => ⟨by rw [h.2.1]; exact hv', ?_⟩, ⟨Nat.zero_le _, rfl, rfl⟩, fun i acc δ' hx h => ?_, fun acc δ' h => ?_⟩
    · rw [h.2.2, List.length_map]
      have h2 := List.length_filter_le p (List.range i)
      rw [List.length_range] at h2
      have := h.1
      omega
    · obtain ⟨_, rfl, rfl⟩ := h
      refine (he i hx).imp (fun z s h => ⟨by omega, h.2.2, ?_⟩) (fun s h => ⟨by omega, h.2, ?_⟩)
      · rw [List.range_succ, List.filter_append, List.map_append, List.filter_cons, if_pos h.1, h.2.1]; rfl
      · rw [List.range_succ, List.filter_append, List.map_append, List.filter_cons, if_neg (by rw [h.1]; decide)]
        show _ = _ ++ []
        rw [List.append_nil]
    · obtain ⟨_, rfl, rfl⟩ := h
      exact q))
/-! ### defs -/
def spP (K : PySem.W.Frag) (T : List Dt → (Dt → Prop) → Prop) : Sp := fun vs H Q _ => ∃ (M : List Addr) (ds : List Dt) (k : Dt → Prop), (∀ a ∈ M, H a ≠ none) ∧ RpL K M H vs ds ∧ T ds k ∧ ∀ v d H', k d → Ex H H' → Rp K M H' v d → Q v H'
def spG (K : PySem.W.Frag) (T : List Dt → (Dt → Prop) → Prop) : Sp := fun vs H Q _ => ∃ (M : List Addr) (g : Addr) (us : List V) (ds : List Dt) (k : Dt → Prop), vs = .ref g :: us ∧ Dice H g ∧ g ∉ M ∧ (∀ a ∈ M, H a ≠ none) ∧ RpL K (g :: M) H us ds ∧ T ds k ∧
  ∀ v d H', k d → Xt [g] H H' → Dice H' g → Rp K (g :: M) H' v d → Q v H'
theorem w_call {T : List Dt → (Dt → Prop) → Prop} {X : XK} (q : Wa K tr δ fun ds δ1 => T ds fun d => Φ d δ1) : W K (tCall (spP K T) [] X tr) δ Φ := fun M L σ H I Q k => q M L σ H I _ fun vs ds δ1 H1 I1 x1 hv q1 => by
  rw [List.append_nil]
  exact ⟨L ++ M, ds, fun d => Φ d δ1, I1.here, hv, q1, fun v d H' kd e hr => k v d δ1 H' (I1.ext e) (x1.trans (Xt.of e)) hr kd⟩
theorem w_callG {T : List Dt → (Dt → Prop) → Prop} {X : XK} {i : Nat} {g : Addr} (h0 : δ[i]? = some (.dice g)) (q : Wa K tr δ fun ds δ1 => δ1[i]? = some (.dice g) ∧ T ds fun d => Φ d δ1) : W K (tCall (spG K T) [] X (tCons (tVar i) tr)) δ Φ := fun M L σ H I Q k => by
  obtain ⟨a, e, _, o⟩ := I.sl.get_cell rfl h0
  have ea : a = g := by cases o; rfl
  subst ea
  refine ⟨.ref a, e, q M L σ H I _ fun vs ds δ1 H1 I1 x1 hv q1 => ?_⟩
  obtain ⟨h1, q1⟩ := q1
  obtain ⟨a', e', ha, o'⟩ := I1.sl.get_cell rfl h1
  rw [e] at e'
  cases e'
  have hd : Dice H1 a := by cases o' with | dice h => exact h
  have sub1 : ∀ b, b ∈ a :: (L.erase a ++ M) → b ∈ L ++ M ∨ H1 b = none := fun b hb => .inl (by
    rcases List.mem_cons.mp hb with rfl | z
    · exact List.mem_append_left _ ha
    · exact (List.mem_append.mp z).elim (fun w => List.mem_append_left _ (List.mem_of_mem_erase w)) fun w => List.mem_append_right _ w)
  have sub2 : ∀ b, b ∈ L ++ M → b ∈ a :: (L.erase a ++ M) := fun b hb => by
    rcases List.mem_append.mp hb with z | z
    · by_cases h : b = a
      · exact h ▸ .head _
      · exact .tail _ (List.mem_append_left _ ((List.mem_erase_of_ne h).mpr z))
    · exact .tail _ (List.mem_append_right _ z)
  rw [List.append_nil]
  refine ⟨L.erase a ++ M, a, vs, ds, fun d => Φ d δ1, rfl, hd, fun z => ?_, fun b hb => I1.here b ((sub1 b (.tail _ hb)).resolve_right (fun w => by
    rcases List.mem_append.mp hb with y | y
    · exact I1.sl.here b (List.mem_of_mem_erase y) w
    · exact I1.out b y w)), hv.to sub1, q1, fun v d H' kd xg hd' hr => ?_⟩
  · rcases List.mem_append.mp z with z | z
    · exact (List.Nodup.not_mem_erase I1.nd) z
    · exact I1.lm a ha z
  · have xs : Xt L H1 H' := xg.sub fun b hb => by rw [List.mem_singleton.mp hb]; exact ha
    have sl := I1.sl.put (s := .dice a) (s' := .dice a) (xtL xs) rfl (.dice hd') I1.nd (fun b hb nb => by
      cases q : H1 b with
      | none => exact absurd q (I1.sl.here b hb)
      | some o => exact xg b o (fun z => nb (List.mem_singleton.mp z)) q) e h1
    have es : δ1.set i (.dice a) = δ1 := by rw [← (List.getElem?_eq_some_iff.mp h1).2, List.set_getElem_self]
    rw [es] at sl
    refine k v d δ1 H' ⟨⟨sl, I1.nd, I1.lm, fun b hb => ?_⟩, I1.gx.go (Fr.of_xt xs)⟩ (x1.trans xs) (hr.to fun b hb => .inl (sub2 b hb)) kd
    have nb : b ≠ a := fun z => I1.lm a ha (z ▸ hb)
    cases q : H1 b with
    | none => exact absurd q (I1.out b hb)
    | some o => rw [xg b o (fun z => nb (List.mem_singleton.mp z)) q]; exact fun z => nomatch z
def store0 (n : Nat) (ds : List Dt) : Store := ds.map Sd.dat ++ List.replicate (n - ds.length) Sd.no
theorem sl_start {A : List Addr} {H : Hp} (m : Nat) : ∀ {vs : List V} {ds : List Dt}, RpL K A H vs ds → SlA K A H (vs.map some ++ List.replicate m none) (ds.map Sd.dat ++ List.replicate m Sd.no) []
  | _, _, .nil => by
    induction m with
    | zero => exact .nil
    | succ m ih =>
      rw [List.replicate_succ, List.replicate_succ]
      exact .no ih
  | _, _, .cons h t => .dat h (sl_start m t)
end
section
variable {P : Program} {w : World} {K : PySem.W.Frag} {mg : Str → Option Value} {base : Heap}
theorem ok_pure {x qual : Str} {st : Stmt} {f : Addr} {fd : FuncData} {N ps : List Str} {k : Nat} {T : List Dt → (Dt → Prop) → Prop} (F : Fun K x qual st f fd) (S : FnScope N ps (defScope st)) (hl : ∀ ds κ, T ds κ → ds.length = ps.length)
    (hb : ∀ (cdv : Value) (A : Around) (outer : List Env) (s : Shared) (H : Hp) (E : XK) (ds : List Dt) (κ : Dt → Prop), Room k (A.deeper (envOfC qual (defScope st) s.heap.objs.size f cdv)) → T ds κ →
      ∃ t, PSs (cxOf CX0 P w K mg base N qual (defScope st) f cdv A outer s H E).nox (defBody st) t ∧ Sw K t (store0 N.length ds) ⟨fun _ => κ .non, fun d _ => κ d, fun _ => False, fun _ => False⟩) : FnOk P w K mg base CX0 (k + 1) f fd ps (spP K T) := by
  refine F.ok S (fun vs H Q E h => ?_) (fun cdv A outer s H vs Q E hr h => ?_)
  · obtain ⟨M, ds, κ, _, hv, ht, _⟩ := h
    rw [hv.len]
    exact hl ds κ ht
  · obtain ⟨M, ds, κ, hM, hv, ht, q⟩ := h
    obtain ⟨t, h1, h2⟩ := hb cdv A outer s H E ds κ hr ht
    refine ⟨t, h1, ?_⟩
    have I : Ib K M [] (start N vs) (store0 N.length ds) H := ⟨⟨by
      have := sl_start (N.length - vs.length) (RpL.to (A := M) (B := [] ++ M) (fun a h => .inl h) hv)
      unfold store0
      rw [← hv.len]
      exact this, List.nodup_nil, (fun a z => nomatch z), hM⟩, okX0⟩
    refine h2 M [] _ H I _ ⟨fun L' σ' δ' H' I' f h => ?_, fun L' σ' δ' v d H' I' f hr h => ?_, fun _ _ _ _ _ _ h => h.elim, fun _ _ _ _ _ _ h => h.elim⟩
    · exact q .non .non H' h (fun b o e => f.ext b o (fun z => nomatch z) e) .non
    · exact q v d H' h (fun b o e => f.ext b o (fun z => nomatch z) e) (hr.to fun b hb => .inl (List.mem_append_right _ hb))
theorem ok_dice {x qual : Str} {st : Stmt} {f : Addr} {fd : FuncData} {N ps : List Str} {p0 : Str} {k : Nat} {T : List Dt → (Dt → Prop) → Prop} (F : Fun K x qual st f fd) (S : FnScope N (p0 :: ps) (defScope st)) (hl : ∀ ds κ, T ds κ → ds.length = ps.length)
    (hb : ∀ (cdv : Value) (A : Around) (outer : List Env) (s : Shared) (H : Hp) (E : XK) (g : Addr) (ds : List Dt) (κ : Dt → Prop), Room k (A.deeper (envOfC qual (defScope st) s.heap.objs.size f cdv)) → T ds κ →
      ∃ t, PSs (cxOf CX0 P w K mg base N qual (defScope st) f cdv A outer s H E).nox (defBody st) t ∧ Sw K t (.dice g :: store0 (N.length - 1) ds) ⟨fun δ' => δ'[0]? = some (.dice g) ∧ κ .non, fun d δ' => δ'[0]? = some (.dice g) ∧ κ d, fun _ => False, fun _ => False⟩) : FnOk P w K mg base CX0 (k + 1) f fd (p0 :: ps) (spG K T) := by
  refine F.ok S (fun vs H Q E h => ?_) (fun cdv A outer s H vs Q E hr h => ?_)
  · obtain ⟨M, g, us, ds, κ, rfl, _, _, _, hv, ht, _⟩ := h
    show us.length + 1 = ps.length + 1
    rw [hv.len, hl ds κ ht]
  · obtain ⟨M, g, us, ds, κ, rfl, hd, ng, hM, hv, ht, q⟩ := h
    obtain ⟨t, h1, h2⟩ := hb cdv A outer s H E g ds κ hr ht
    refine ⟨t, h1, ?_⟩
    have I : Ib K M [g] (start N (.ref g :: us)) (.dice g :: store0 (N.length - 1) ds) H := ⟨⟨by
      have := sl_start (N.length - (us.length + 1)) (RpL.to (A := g :: M) (B := [g] ++ M) (fun a h => .inl h) hv)
      have e : N.length - 1 - ds.length = N.length - (us.length + 1) := by rw [hv.len]; omega
      unfold store0
      rw [e]
      exact .cell (.dice hd) this, List.nodup_cons.mpr ⟨(fun z => nomatch z), List.nodup_nil⟩, (fun a z => by rw [List.mem_singleton.mp z]; exact ng), hM⟩, okX0⟩
    have fin : ∀ L' σ' δ' v d H', Ib K M L' σ' δ' H' → Fr [g] H L' H' → Rp K (L' ++ M) H' v d → δ'[0]? = some (.dice g) ∧ κ d → Q v H' := fun L' σ' δ' v d H' I' f hr h => by
      obtain ⟨a, _, ha, o⟩ := I'.sl.get_cell rfl h.1
      cases o with
      | dice hd' => exact q v d H' h.2 f.ext hd' (hr.to fun b hb => .inl (by
          rcases List.mem_cons.mp hb with rfl | z
          · exact List.mem_append_left _ ha
          · exact List.mem_append_right _ z))
    exact h2 M [g] _ H I _ ⟨fun L' σ' δ' H' I' f h => fin L' σ' δ' .non .non H' I' f .non h, fun L' σ' δ' v d H' I' f hr h => fin L' σ' δ' v d H' I' f hr h, fun _ _ _ _ _ _ h => h.elim, fun _ _ _ _ _ _ h => h.elim⟩
end
end My

namespace My
open PySem PySem.Spec PyProof.Rows L2
section
variable {K : PySem.W.Frag} [Xg K] {δ : Store} {ta tb te tl : TE} {tr : TA} {E : En} {t u tu : TS} {Ψ : List Dt → Store → Prop} {Φ : Dt → Store → Prop}
/-! ### instances -/
theorem RpF.look {A : List Addr} {H : Hp} {f : Str} : ∀ {fs : List (Str × V)} {gs : List (Str × Dt)} {d : Dt}, RpF K A H fs gs → gs.lookup f = some d → ∃ v, fs.lookup f = some v ∧ Rp K A H v d
  | _, _, d, .cons (k := n) h t, e => by
    by_cases q : (f == n) = true
    · simp only [List.lookup, q] at e ⊢
      cases e
      exact ⟨_, rfl, h⟩
    · simp only [List.lookup, q] at e ⊢
      exact t.look e
theorem RpF.none {A : List Addr} {H : Hp} {f : Str} : ∀ {fs : List (Str × V)} {gs : List (Str × Dt)}, RpF K A H fs gs → gs.lookup f = none → fs.lookup f = none
  | _, _, .nil, _ => rfl
  | _, _, .cons (k := n) h t, e => by
    by_cases q : (f == n) = true
    · simp only [List.lookup, q] at e
      cases e
    · simp only [List.lookup, q] at e ⊢
      exact t.none e
theorem RpF.len {A : List Addr} {H : Hp} : ∀ {fs : List (Str × V)} {gs : List (Str × Dt)}, RpF K A H fs gs → fs.length = gs.length
  | _, _, .nil => rfl
  | _, _, .cons _ t => congrArg Nat.succ t.len
def putG (f : Str) (d : Dt) : List (Str × Dt) → List (Str × Dt)
  | [] => [(f, d)]
  | (g, x) :: r => if g = f then (g, d) :: r else (g, x) :: putG f d r
theorem RpF.put {A : List Addr} {H : Hp} {f : Str} {v : V} {d : Dt} (hv : Rp K A H v d) : ∀ {fs : List (Str × V)} {gs : List (Str × Dt)}, RpF K A H fs gs → RpF K A H (putF f v fs) (putG f d gs)
  | _, _, .nil => .cons hv .nil
  | _, _, .cons (k := n) h t => by
    unfold putF putG
    by_cases q : n = f
    · rw [if_pos q, if_pos q]
      exact .cons hv t
    · rw [if_neg q, if_neg q]
      exact .cons h (t.put hv)
theorem w_fld {f : Str} (q : W K te δ fun d δ1 => ∃ C gs x, d = .ins C gs ∧ Cls K C ∧ NoAttr K C f ∧ gs.lookup f = some x ∧ Φ x δ1) : W K (tFld K te f) δ Φ := fun M L σ H I Q k => q M L σ H I _ fun v d δ1 H1 I1 x1 hv q1 => by
  obtain ⟨C, gs, x, rfl, hc, hn, hl, q⟩ := q1
  obtain ⟨a, dx, fs, rfl, na, ha, hf⟩ := hv.inv_ins
  obtain ⟨y, hy, hr⟩ := hf.look hl
  exact ⟨a, C, dx, fs, y, rfl, ha, hc, hn, hy, k _ _ _ _ I1 x1 hr q⟩
theorem w_fldObj {f : Str} {i : Nat} {a C : Addr} {gs : List (Str × Dt)} {x : Dt} (h0 : δ[i]? = some (.obj a C gs)) (hc : Cls K C) (hn : NoAttr K C f) (hl : gs.lookup f = some x) (q : Φ x δ) : W K (tFld K (tVar i) f) δ Φ := fun M L σ H I Q k => by
  obtain ⟨b, e, _, o⟩ := I.sl.get_cell rfl h0
  cases o with
  | obj ho hf =>
    obtain ⟨y, hy, hr⟩ := hf.look hl
    exact ⟨.ref a, e, a, C, _, _, y, rfl, ho, hc, hn, hy, k _ _ _ _ I (Xt.refl _ _) hr q⟩
/-- self.f = e within __init__ -/
theorem sw_fld {f : Str} {i : Nat} {a C : Addr} (q : W K te δ fun d δ1 => ∃ gs, δ1[i]? = some (.obj a C gs) ∧ Cls K C ∧ NoAttr K C f ∧ gs.length < 1000 ∧ E.nx (δ1.set i (.obj a C (putG f d gs)))) : Sw K (sFld K (tVar i) te f) δ E := fun M L σ H I D k => q M L σ H I _ fun v d δ1 H1 I1 x1 hv q1 => by
  obtain ⟨gs, h1, hc, hn, hl, q⟩ := q1
  obtain ⟨b, e, hb, o⟩ := I1.sl.get_cell rfl h1
  cases o with
  | @obj _ dx fs _ ho hf =>
    have hx : Xt (L ++ M) H1 (upd H1 a (.ins C dx (putF f v fs))) := Xt.put (List.mem_append_left _ hb)
    obtain ⟨I2, x2⟩ := I1.put (o := .ins C dx (putF f v fs)) (s' := .obj a C (putG f d gs)) rfl (.obj upd_same ((hf.put hv).mono hx)) e h1
    exact ⟨.ref a, e, a, C, dx, fs, rfl, ho, hc, hn, by rw [hf.len]; exact hl, k.nx L σ _ _ I2 (Fr.of_xt (x1.trans x2)) q⟩
theorem w_meth {C : Addr} {m : Str} {T : List Dt → (Dt → Prop) → Prop} {X : XK} (q : W K te δ fun o δ1 => ∃ gs, o = .ins C gs ∧ gs.lookup m = none ∧ Wa K tr δ1 fun ds δ2 => T (o :: ds) fun d => Φ d δ2) : W K (tMeth C m (spP K T) [] X te tr) δ Φ := fun M L σ H I Q k => q M L σ H I _ fun v o δ1 H1 I1 x1 hv q1 => by
  obtain ⟨gs, rfl, hl, q1⟩ := q1
  obtain ⟨a, dx, fs, rfl, na, ha, hf⟩ := id hv.inv_ins
  refine ⟨a, dx, fs, rfl, ha, hf.none hl, q1 M L σ H1 I1 _ fun vs ds δ2 H2 I2 x2 hvs q2 => ?_⟩
  rw [List.append_nil]
  exact ⟨L ++ M, .ins C gs :: ds, fun d => Φ d δ2, I2.here, .cons (hv.mono (xtL x2)) hvs, q2, fun v d H' kd e hr => k v d δ2 H' (I2.ext e) ((x1.trans x2).trans (Xt.of e)) hr kd⟩
theorem w_prop {C : Addr} {T : List Dt → (Dt → Prop) → Prop} {X : XK} (q : W K te δ fun o δ1 => ∃ gs, o = .ins C gs ∧ T [o] fun d => Φ d δ1) : W K (tProp C (spP K T) [] X te) δ Φ := fun M L σ H I Q k => q M L σ H I _ fun v o δ1 H1 I1 x1 hv q1 => by
  obtain ⟨gs, rfl, q1⟩ := q1
  obtain ⟨a, dx, fs, rfl, na, ha, hf⟩ := id hv.inv_ins
  exact ⟨a, dx, fs, rfl, ha, L ++ M, [.ins C gs], fun d => Φ d δ1, I1.here, .cons hv .nil, q1, fun v d H' kd e hr => k v d δ1 H' (I1.ext e) (x1.trans (Xt.of e)) hr kd⟩
/-- a classmethod that does not look at its class -/
def spC (K : PySem.W.Frag) (C : Addr) (T : List Dt → (Dt → Prop) → Prop) : Sp := fun vs H Q E => ∃ us, vs = .ref C :: us ∧ spP K T us H Q E
theorem w_cmeth {C : Addr} {v : V} {T : List Dt → (Dt → Prop) → Prop} {X : XK} (hv : v = .ref C) (q : Wa K tr δ fun ds δ1 => T ds fun d => Φ d δ1) : W K (ClX.tCMeth C (spC K C T) X (tC v) tr) δ Φ := fun M L σ H I Q k => by
  subst hv
  refine ⟨rfl, q M L σ H I _ fun vs ds δ1 H1 I1 x1 hvs q1 => ⟨vs, rfl, L ++ M, ds, fun d => Φ d δ1, I1.here, hvs, q1, fun v d H' kd e hr => k v d δ1 H' (I1.ext e) (x1.trans (Xt.of e)) hr kd⟩⟩
/-- __init__: the new instance, the data, then the fields -/
def spI (K : PySem.W.Frag) (C : Addr) (T : List Dt → (List (Str × Dt) → Prop) → Prop) : Sp := fun vs H Q _ => ∃ (M : List Addr) (a dx : Addr) (us : List V) (ds : List Dt) (k : List (Str × Dt) → Prop), vs = .ref a :: us ∧ H a = some (.ins C dx []) ∧ a ∉ M ∧ (∀ b ∈ M, H b ≠ none) ∧ RpL K (a :: M) H us ds ∧ T ds k ∧
  ∀ dx' fs gs H', k gs → H' a = some (.ins C dx' fs) → RpF K (a :: M) H' fs gs → Xt [a] H H' → Q .non H'
theorem mk_core {C : Addr} {T : List Dt → (List (Str × Dt) → Prop) → Prop} {M L : List Addr} {σ : L2.St} {H : Hp} {Q : VK} {X : XK} {ds : List Dt} (I : Ib K M L σ δ H) (x dx : Addr) (hx : H x = none) (hdx : H dx = none) (ne : dx ≠ x) (ht : T ds fun gs => Φ (.ins C gs) δ)
    (H2 : Hp) (e2 : Ex (upd (upd H dx (.own x)) x (.ins C dx [])) H2) (us' : List V) (hv' : RpL K (x :: (L ++ M)) H2 us' ds)
    (k : ∀ v d δ' H', Ib K M L σ δ' H' → Xt L H H' → Rp K (L ++ M) H' v d → Φ d δ' → Q v H') : spI K C T (V.ref x :: us') H2 (fun v H3 => v = .non ∧ Q (.ref x) H3) X := by
  have e1 : Ex H (upd (upd H dx (.own x)) x (.ins C dx [])) := fun b o e => by
    rw [upd_ne (ne_of_none e hx), upd_ne (ne_of_none e hdx)]
    exact e
  have e3 := e1.trans e2
  refine ⟨L ++ M, x, dx, us', ds, fun gs => Φ (.ins C gs) δ, rfl, e2 _ _ upd_same, I.fresh hx, fun b hb => by rw [ex_at e3 (I.here b hb)]; exact I.here b hb, hv', ht, fun dx' fs gs H' kg hxa hf xx => ⟨rfl, ?_⟩⟩
  have e4 : Ex H H' := fun b o e => xx b o (fun z => ne_of_none e hx (List.mem_singleton.mp z)) (e3 b o e)
  exact k (.ref x) (.ins C gs) δ H' (I.ext e4) (Xt.of e4) (.ins (I.fresh hx) hxa (hf.to fun b hb => .inl (.tail _ hb))) kg
theorem RpL.more {A : List Addr} {H : Hp} {vs : List V} {ds : List Dt} {x : Addr} (h : RpL K A H vs ds) (hx : H x = none) : RpL K (x :: A) H vs ds := h.to fun b hb => (List.mem_cons.mp hb).elim (fun z => .inr (z ▸ hx)) .inl
/-- C(*e), C's __init__ takes all its arguments in one tuple -/
def spStar (sp : Sp) : Sp := fun vs H Q E => ∃ ws rest, vs = ws ++ rest ∧ ws.length = 1 ∧ rest.length ≤ sizeLine ∧ ∀ p, H p = Option.none → sp (ws ++ [V.ref p]) (upd H p (.tup rest)) Q E
theorem w_makeS {C : Addr} {T : List Dt → (List (Str × Dt) → Prop) → Prop} {X : XK} (q : W K te δ fun d δ1 => ∃ ds, d.items = some ds ∧ ds.length ≤ 100000 ∧ T [.tup ds] fun gs => Φ (.ins C gs) δ1) :
    W K (fun σ H Q => te σ H fun y H1 => ∃ a xs, y = V.ref a ∧ (SqT K H1 a xs ∨ SqL K H1 a xs) ∧ ∀ x dx, H1 x = Option.none → H1 dx = Option.none → dx ≠ x →
      spStar (spI K C T) (V.ref x :: xs) (upd (upd H1 dx (.own x)) x (.ins C dx [])) (fun v H2 => v = .non ∧ Q (.ref x) H2) X) δ Φ := fun M L σ H I Q k => q M L σ H I _ fun v d δ1 H1 I1 x1 hv q1 => by
  obtain ⟨ds, hd, hz, ht⟩ := q1
  obtain ⟨p, xs, rfl, hx, hl⟩ := hv.its hd
  refine ⟨p, xs, rfl, hx.symm, fun x dx fx fdx ne => ⟨[V.ref x], xs, rfl, rfl, sz_of (by rw [hl.len]; exact hz), fun r fr => ?_⟩⟩
  have e1 : Ex H1 (upd (upd H1 dx (.own x)) x (.ins C dx [])) := fun b o e => by
    rw [upd_ne (ne_of_none e fx), upd_ne (ne_of_none e fdx)]
    exact e
  have e2 : Ex (upd (upd H1 dx (.own x)) x (.ins C dx [])) (upd (upd (upd H1 dx (.own x)) x (.ins C dx [])) r (.tup xs)) := Evl.Ex.new fr
  have fr1 : H1 r = none := by
    cases q : H1 r with
    | none => rfl
    | some o => rw [e1 _ _ q] at fr; cases fr
  have nr : r ≠ x := fun z => by
    rw [z, upd_same] at fr
    cases fr
  refine mk_core (ds := [.tup ds]) I1 x dx fx fdx ne ht _ e2 _ (.cons (.tup (fun z => ?_) (.inl upd_same) ((hl.more fx).mono (Xt.of (e1.trans e2)))) .nil) (fun v d δ' H' I' x' hr h => k v d δ' H' I' (x1.trans x') hr h)
  rcases List.mem_cons.mp z with w | w
  · exact nr w
  · exact I1.fresh fr1 w
/-- C(..) of written arguments | C() -/
theorem w_makeSA {C : Addr} {T : List Dt → (List (Str × Dt) → Prop) → Prop} {X : XK} (q : Wa K tr δ fun ds δ1 => ds.length ≤ 100000 ∧ T [.tup ds] fun gs => Φ (.ins C gs) δ1) : W K (StX.tMakeR C (spStar (spI K C T)) X tr) δ Φ := fun M L σ H I Q k => q M L σ H I _ fun xs ds δ1 H1 I1 x1 hl q1 => by
  obtain ⟨hz, ht⟩ := q1
  intro x dx fx fdx ne
  refine ⟨[V.ref x], xs, rfl, rfl, sz_of (by rw [hl.len]; exact hz), fun r fr => ?_⟩
  have e1 : Ex H1 (upd (upd H1 dx (.own x)) x (.ins C dx [])) := fun b o e => by
    rw [upd_ne (ne_of_none e fx), upd_ne (ne_of_none e fdx)]
    exact e
  have e2 : Ex (upd (upd H1 dx (.own x)) x (.ins C dx [])) (upd (upd (upd H1 dx (.own x)) x (.ins C dx [])) r (.tup xs)) := Evl.Ex.new fr
  have fr1 : H1 r = none := by
    cases q : H1 r with
    | none => rfl
    | some o => rw [e1 _ _ q] at fr; cases fr
  have nr : r ≠ x := fun z => by
    rw [z, upd_same] at fr
    cases fr
  refine mk_core (ds := [.tup ds]) I1 x dx fx fdx ne ht _ e2 _ (.cons (.tup (fun z => ?_) (.inl upd_same) ((hl.more fx).mono (Xt.of (e1.trans e2)))) .nil) (fun v d δ' H' I' x' hr h => k v d δ' H' I' (x1.trans x') hr h)
  rcases List.mem_cons.mp z with w | w
  · exact nr w
  · exact I1.fresh fr1 w
/-- x op y by the class's own operator -/
theorem w_ownB {C : Addr} {T : List Dt → (Dt → Prop) → Prop} {X : XK} (q : W K ta δ fun a δ1 => W K tb δ1 fun b δ2 => ∃ gs hs, a = .ins C gs ∧ b = .ins C hs ∧ T [a, b] fun d => Φ d δ2) : W K (tOp (rOwnB C (spP K T) X) ta tb) δ Φ :=
  w_op q fun M L σ H v u a b δ2 I hv hu hp Q k => by
    obtain ⟨gs, hs, rfl, rfl, q⟩ := hp
    obtain ⟨x, dx, fs, rfl, _, hx, _⟩ := hv.inv_ins
    obtain ⟨y, dy, fs', rfl, _, hy, _⟩ := hu.inv_ins
    exact ⟨x, y, dx, dy, fs, fs', rfl, rfl, hx, hy, L ++ M, _, fun d => Φ d δ2, I.here, .cons hv (.cons hu .nil), q, fun v d H' kd e hr => k v d δ2 H' (I.ext e) (Xt.of e) hr kd⟩
theorem w_ownN {C : Addr} {T : List Dt → (Dt → Prop) → Prop} {X : XK} (q : W K ta δ fun a δ1 => W K tb δ1 fun b δ2 => ∃ gs hs, a = .ins C gs ∧ b = .ins C hs ∧ T [a, b] fun d => ∃ c, d = .bl c ∧ Φ (.bl (!c)) δ2) : W K (tOp (rOwnN C (spP K T) X) ta tb) δ Φ :=
  w_op q fun M L σ H v u a b δ2 I hv hu hp Q k => by
    obtain ⟨gs, hs, rfl, rfl, q⟩ := hp
    obtain ⟨x, dx, fs, rfl, _, hx, _⟩ := hv.inv_ins
    obtain ⟨y, dy, fs', rfl, _, hy, _⟩ := hu.inv_ins
    refine ⟨x, y, dx, dy, fs, fs', rfl, rfl, hx, hy, L ++ M, _, _, I.here, .cons hv (.cons hu .nil), q, fun v d H' kd e hr => ?_⟩
    obtain ⟨c, rfl, h⟩ := kd
    exact ⟨c, hr.inv_bl, k _ _ δ2 H' (I.ext e) (Xt.of e) (.bl _) h⟩
end
end My

namespace My
open PySem PySem.Spec PyProof.Rows L2
section
variable {K : PySem.W.Frag} [Xg K] {δ δ2 : Store} {ta tb te tl : TE} {tr : TA} {t u tu : TS} {g : TG} {n b c : Store → Prop} {r : Dt → Store → Prop} {Φ : Dt → Store → Prop} {Ψ : List Dt → Store → Prop}
/-! ### the same rules, the ends spelt out -/
theorem zs0 {α : Type} {a x : α} {l : List α} : (a :: l).set 0 x = x :: l := rfl
theorem zsS {α : Type} {a x : α} {l l' : List α} {i : Nat} (h : l.set i x = l') : (a :: l).set (i + 1) x = a :: l' := by rw [List.set_cons_succ, h]
theorem x_seq (q : Sw K t δ ⟨fun δ' => Sw K u δ' ⟨n, r, b, c⟩, r, b, c⟩) : Sw K (tSeq t u) δ ⟨n, r, b, c⟩ := sw_seq q
theorem x_next (q : n δ) : Sw K tNext δ ⟨n, r, b, c⟩ := sw_next q
theorem x_cont (q : c δ) : Sw K tCont δ ⟨n, r, b, c⟩ := sw_cont q
theorem x_break (q : b δ) : Sw K tBreak δ ⟨n, r, b, c⟩ := sw_break q
theorem x_ret (q : W K te δ r) : Sw K (tRet te) δ ⟨n, r, b, c⟩ := sw_ret q
theorem x_retN (q : r .non δ) : Sw K tRetN δ ⟨n, r, b, c⟩ := sw_retN q
theorem x_retOwn {i : Nat} {ds : List Dt} (h0 : δ[i]? = some (.own ds)) (h : δ.set i .no = δ2) (q : r (.lst ds) δ2) : Sw K (tRet (tVar i)) δ ⟨n, r, b, c⟩ := sw_retOwn h0 (by rw [h]; exact q)
theorem x_retOwnD {i : Nat} {ks : List (Key × Dt)} (h0 : δ[i]? = some (.ownD ks)) (h : δ.set i .no = δ2) (q : r (.dct ks) δ2) : Sw K (tRet (tVar i)) δ ⟨n, r, b, c⟩ := sw_retOwnD h0 (by rw [h]; exact q)
theorem x_if {k : TT} (q : Wt K k δ fun v δ1 => if v = true then Sw K t δ1 ⟨n, r, b, c⟩ else Sw K u δ1 ⟨n, r, b, c⟩) : Sw K (tIfS k t u) δ ⟨n, r, b, c⟩ := sw_if q
theorem x_drop (q : W K te δ fun _ δ1 => n δ1) : Sw K (tDrop te) δ ⟨n, r, b, c⟩ := sw_drop q
theorem x_set {i : Nat} (q : W K te δ fun d δ1 => ∃ δ2, δ1.set i (.dat d) = δ2 ∧ n δ2) : Sw K (tAsg te (gName i)) δ ⟨n, r, b, c⟩ := sw_set (q.imp fun d δ1 ⟨δ2, h, q⟩ => by rw [← h] at q; exact q)
theorem x_own {i : Nat} (q : Wn K te δ fun ds δ1 => ∃ δ2, δ1.set i (.own ds) = δ2 ∧ n δ2) : Sw K (tAsg te (gName i)) δ ⟨n, r, b, c⟩ := sw_own (q.imp fun d δ1 ⟨δ2, h, q⟩ => by rw [← h] at q; exact q)
theorem x_ownD {i : Nat} (h : δ.set i (.ownD []) = δ2) (q : n δ2) : Sw K (tAsg tDNewK (gName i)) δ ⟨n, r, b, c⟩ := sw_ownD (by rw [h]; exact q)
theorem x_freeze {i : Nat} {ds : List Dt} {E : En} (h0 : δ[i]? = some (.own ds)) (h : δ.set i (.dat (.lst ds)) = δ2) (q : Sw K t δ2 E) : Sw K t δ E := sw_freeze h0 (by rw [h]; exact q)
theorem x_freezeD {i : Nat} {ks : List (Key × Dt)} {E : En} (h0 : δ[i]? = some (.ownD ks)) (h : δ.set i (.dat (.dct ks)) = δ2) (q : Sw K t δ2 E) : Sw K t δ E := sw_freezeD h0 (by rw [h]; exact q)
theorem x_join (C : Store → Prop) (q : Sw K t δ ⟨C, r, b, c⟩) (h : ∀ δ', C δ' → Sw K u δ' ⟨n, r, b, c⟩) : Sw K (tSeq t u) δ ⟨n, r, b, c⟩ := sw_join C h q
theorem x_asg (q : W K te δ fun d δ1 => Wg K g d δ1 n) : Sw K (tAsg te g) δ ⟨n, r, b, c⟩ := sw_asg q
theorem x_par {i j : Nat} (q : Wa K tr δ fun ds δ1 => ∃ x y, ds = [x, y] ∧ ∃ δ2, δ1.set i (.dat x) = δ2 ∧ ∃ δ3, δ2.set j (.dat y) = δ3 ∧ n δ3) : Sw K (tPar i j tr) δ ⟨n, r, b, c⟩ := sw_par (fun M L σ H I Q k => q M L σ H I Q fun v d δ' H' a b e ⟨x, y, h, δ2, h2, δ3, h3, q⟩ => k v d δ' H' a b e ⟨x, y, h, by rw [h2, h3]; exact q⟩)
theorem x_par3 {i j l : Nat} (q : Wa K tr δ fun ds δ1 => ∃ x y z, ds = [x, y, z] ∧ ∃ δ2, δ1.set i (.dat x) = δ2 ∧ ∃ δ3, δ2.set j (.dat y) = δ3 ∧ ∃ δ4, δ3.set l (.dat z) = δ4 ∧ n δ4) : Sw K (tPar3 i j l tr) δ ⟨n, r, b, c⟩ := sw_par3 (fun M L σ H I Q k => q M L σ H I Q fun v d δ' H' a b e ⟨x, y, z, h, δ2, h2, δ3, h3, δ4, h4, q⟩ => k v d δ' H' a b e ⟨x, y, z, h, by rw [h2, h3, h4]; exact q⟩)
theorem xg_name {i : Nat} {d : Dt} {Θ : Store → Prop} (h : δ.set i (.dat d) = δ2) (q : Θ δ2) : Wg K (gName i) d δ Θ := wg_name (by rw [h]; exact q)
theorem xc_name {i : Nat} {vs : List Nat} {d : Dt} {Θ : Store → Prop} (hi : i ∈ vs) (hd : datAt [i] δ = true) (h : δ.set i (.dat d) = δ2) (q : Θ δ2) : Wc K (gName i) vs d δ Θ := wc_name hi hd (by rw [h]; exact q)
theorem x_app {i : Nat} {ds0 : List Dt} (h0 : δ[i]? = some (.own ds0)) (q : W K te δ fun d δ1 => ∃ ds, δ1[i]? = some (.own ds) ∧ ds.length < 100000 ∧ ∃ δ2, δ1.set i (.own (ds ++ [d])) = δ2 ∧ n δ2) : Sw K (tDrop (tBM K "list" rAppend (tVar i) (tCons te tNil))) δ ⟨n, r, b, c⟩ :=
  sw_app h0 (q.imp fun d δ1 ⟨ds, h1, h2, δ2, h3, q⟩ => ⟨ds, h1, h2, by rw [h3]; exact q⟩)
theorem x_popAt {i : Nat} {ds0 : List Dt} (h0 : δ[i]? = some (.own ds0)) (q : W K te δ fun x δ1 => ∃ ds j d, x = .int (j : Nat) ∧ δ1[i]? = some (.own ds) ∧ ds[j]? = some d ∧ ds.length < 100000 ∧ ∃ δ2, δ1.set i (.own (ds.eraseIdx j)) = δ2 ∧ Φ d δ2) : W K (tBM K "list" rPopAt (tVar i) (tCons te tNil)) δ Φ :=
  w_popAt h0 (q.imp fun d δ1 ⟨ds, j, x, h1, h2, h4, h5, δ2, h3, q⟩ => ⟨ds, j, x, h1, h2, h4, h5, by rw [h3]; exact q⟩)
theorem x_pop {i : Nat} {ds : List Dt} {d : Dt} (h0 : δ[i]? = some (.own (ds ++ [d]))) (h : δ.set i (.own ds) = δ2) (q : Φ d δ2) : W K (tBM0 K "list" rPop (tVar i)) δ Φ := w_pop h0 (by rw [h]; exact q)
theorem x_setL {i : Nat} {ds0 : List Dt} (h0 : δ[i]? = some (.own ds0)) (q : W K te δ fun d δ1 => ∃ ds1, δ1[i]? = some (.own ds1) ∧ W K tb δ1 fun x δ2 => ∃ ds j l, x = .int j ∧ δ2[i]? = some (.own ds) ∧ ixN ds.length j = some l ∧ ∃ δ3, δ2.set i (.own (ds.set l d)) = δ3 ∧ n δ3) : Sw K (tAsg te (gSub (tVar i) tb rSetL)) δ ⟨n, r, b, c⟩ :=
  sw_setL h0 (q.imp fun d δ1 ⟨ds1, h1, q⟩ => ⟨ds1, h1, q.imp fun x δ2 ⟨ds, j, l, h2, h3, h4, δ3, h5, q⟩ => ⟨ds, j, l, h2, h3, h4, by rw [h5]; exact q⟩⟩)
theorem x_fld {f : Str} {i : Nat} {a C : Addr} (q : W K te δ fun d δ1 => ∃ gs, δ1[i]? = some (.obj a C gs) ∧ Cls K C ∧ NoAttr K C f ∧ gs.length < 1000 ∧ ∃ δ2, δ1.set i (.obj a C (putG f d gs)) = δ2 ∧ n δ2) : Sw K (sFld K (tVar i) te f) δ ⟨n, r, b, c⟩ :=
  sw_fld (q.imp fun d δ1 ⟨gs, h1, h2, h3, h4, δ2, h5, q⟩ => ⟨gs, h1, h2, h3, h4, by rw [h5]; exact q⟩)
/-! ### loops -/
theorem x_forL (q : W K tl δ fun d δ1 => ∃ (ds : List Dt) (Inv : Nat → Store → Prop), d = .lst ds ∧ Inv 0 δ1 ∧ (∀ i d δ2, ds[i]? = some d → Inv i δ2 → Wg K g d δ2 fun δ3 => Sw K tu δ3 ⟨Inv (i + 1), r, n, Inv (i + 1)⟩) ∧ ∀ δ2, Inv ds.length δ2 → n δ2) : Sw K (tFor (iList K tl) g tu) δ ⟨n, r, b, c⟩ := sw_forL q
theorem x_forT (q : W K tl δ fun d δ1 => ∃ (ds : List Dt) (Inv : Nat → Store → Prop), d = .tup ds ∧ Inv 0 δ1 ∧ (∀ i d δ2, ds[i]? = some d → Inv i δ2 → Wg K g d δ2 fun δ3 => Sw K tu δ3 ⟨Inv (i + 1), r, n, Inv (i + 1)⟩) ∧ ∀ δ2, Inv ds.length δ2 → n δ2) : Sw K (tFor (iTup K tl) g tu) δ ⟨n, r, b, c⟩ := sw_forT q
theorem x_forR1 (q : Wa K tr δ fun ds δ1 => ∃ (m : Int) (Inv : Nat → Store → Prop), ds = [.int m] ∧ m ≤ 1000000 ∧ -1000000 ≤ m ∧ Inv 0 δ1 ∧ (∀ (i : Nat) δ2, (i : Int) < m → Inv i δ2 → Wg K g (.int (i : Int)) δ2 fun δ3 => Sw K tu δ3 ⟨Inv (i + 1), r, n, Inv (i + 1)⟩) ∧ ∀ δ2, Inv m.toNat δ2 → n δ2) : Sw K (tFor (iRng1 tr) g tu) δ ⟨n, r, b, c⟩ := sw_forR1 q
theorem x_while {k : TT} (Inv : Nat → Store → Prop) (m0 : Nat) (h0 : Inv m0 δ) (hs : ∀ m δ', Inv m δ' → Wt K k δ' fun v δ1 => if v = true then Sw K tu δ1 ⟨fun δ2 => ∃ m', m' < m ∧ Inv m' δ2, r, n, fun δ2 => ∃ m', m' < m ∧ Inv m' δ2⟩ else n δ1) : Sw K (tWhile k tu) δ ⟨n, r, b, c⟩ := fun M L σ H I D k' => by
  refine ⟨fun m σ' H' => ∃ L' δ', Ib K M L' σ' δ' H' ∧ Fr L H L' H' ∧ Inv m δ', ⟨m0, L, δ, I, Fr.refl _ _, h0⟩, fun m σ' H' ⟨L', δ', I', f, q⟩ => ?_⟩
  refine hs m δ' q M L' σ' H' I' _ fun v δ1 H1 I1 x1 q1 => ?_
  cases v with
  | true =>
    rw [if_pos rfl] at q1 ⊢
    refine ⟨fun σ2 H2 => ∃ L2 δ2, Ib K M L2 σ2 δ2 H2 ∧ Fr L H L2 H2 ∧ ∃ m', m' < m ∧ Inv m' δ2, fun σ2 H2 ⟨L2, δ2, I2, f2, m', hm, q2⟩ => ⟨m', hm, L2, δ2, I2, f2, q2⟩, ?_⟩
    have F := f.trans (Fr.of_xt x1)
    exact q1 M L' σ' H1 I1 _ ⟨fun L2 σ2 δ2 H2 I2 f2 h => ⟨L2, δ2, I2, F.trans f2, h⟩, fun L2 σ2 δ2 v d H2 I2 f2 hv h => k'.rt L2 σ2 δ2 v d H2 I2 (F.trans f2) hv h, fun L2 σ2 δ2 H2 I2 f2 h => k'.nx L2 σ2 δ2 H2 I2 (F.trans f2) h, fun L2 σ2 δ2 H2 I2 f2 h => ⟨L2, δ2, I2, F.trans f2, h⟩⟩
  | false =>
    rw [if_neg (by decide)] at q1 ⊢
    exact k'.nx L' σ' δ1 H1 I1 (f.trans (Fr.of_xt x1)) q1
theorem x_aug {i : Nat} {f : Int → Int → Int} {k : Int} (h0 : δ[i]? = some (.dat (.int k))) (q : W K te δ fun d δ1 => ∃ j, d = .int j ∧ δ1[i]? = some (.dat (.int k)) ∧ ∃ δ2, δ1.set i (.dat (.int (f k j))) = δ2 ∧ n δ2) {ti : TIp} (ht : ∀ (j : Int) (H : Hp) (Q : VK), Q (.int (f k j)) H → ti (.int k) (.int j) H Q) : Sw K (tAug i te ti) δ ⟨n, r, b, c⟩ := fun M L σ H I D k' => by
  obtain ⟨v, e, hv⟩ := I.sl.get_dat h0
  refine ⟨v, e, q M L σ H I _ fun w d δ1 H1 I1 x1 hw ⟨j, hj, h1, δ2, h2, q⟩ => ?_⟩
  subst hj
  rw [hv.inv_int, hw.inv_int]
  refine ht j H1 _ ?_
  obtain ⟨L', I', f'⟩ := I1.setD (v := .int (f k j)) (d := .int (f k j)) i (.int _)
  rw [h2] at I'
  exact k'.nx L' _ δ2 H1 I' ((Fr.of_xt x1).trans f') q
/-! ### a def that hands a new list out -/
def Sn (K : PySem.W.Frag) [Xg K] (t : TS) (δ : Store) (Ψ : List Dt → Store → Prop) : Prop := ∀ M L σ H, Ib K M L σ δ H → ∀ D : Ends, (∀ a xs ds L' σ' δ' H', Ib K M L' σ' δ' H' → Fr L H L' H' → H' a = none → RpL K (L' ++ M) H' xs ds → Ψ ds δ' → D.rt (.ref a) (upd H' a (.lst xs))) → t D σ H
theorem sn_ret (q : Wn K te δ Ψ) : Sn K (tRet te) δ Ψ := fun M L σ H I D k => q M L σ H I _ fun a xs ds δ' H' I' x h hx hp => k a xs ds L σ δ' H' I' (Fr.of_xt x) h hx hp
theorem sn_seq (q : Sw K t δ ⟨fun δ' => Sn K u δ' Ψ, fun _ _ => False, fun _ => False, fun _ => False⟩) : Sn K (tSeq t u) δ Ψ := fun M L σ H I D k => q M L σ H I _ ⟨fun L' σ' δ' H' I' f h => h M L' σ' H' I' D fun a xs ds L2 σ2 δ2 H2 I2 f2 => k a xs ds L2 σ2 δ2 H2 I2 (f.trans f2), fun _ _ _ _ _ _ _ _ _ h => h.elim, fun _ _ _ _ _ _ h => h.elim, fun _ _ _ _ _ _ h => h.elim⟩
def spN (K : PySem.W.Frag) (T : List Dt → (List Dt → Prop) → Prop) : Sp := fun vs H Q _ => ∃ (M : List Addr) (ds : List Dt) (k : List Dt → Prop), (∀ a ∈ M, H a ≠ none) ∧ RpL K M H vs ds ∧ T ds k ∧ ∀ a xs es H', k es → Ex H H' → H' a = none → RpL K M H' xs es → Q (.ref a) (upd H' a (.lst xs))
theorem wn_call {T : List Dt → (List Dt → Prop) → Prop} {X : XK} (q : Wa K tr δ fun ds δ1 => T ds fun d => Ψ d δ1) : Wn K (tCall (spN K T) [] X tr) δ Ψ := fun M L σ H I Q k => by
  refine q M L σ H I _ fun vs ds δ1 H1 I1 x1 hv q1 => ?_
  rw [List.append_nil]
  exact ⟨L ++ M, ds, fun d => Ψ d δ1, I1.here, hv, q1, fun a xs es H' kd e ha hr => k a xs es δ1 H' (I1.ext e) (x1.trans (Xt.of e)) ha hr kd⟩
/-- dice that are made just for the call -/
theorem w_callGN {T : List Dt → (Dt → Prop) → Prop} {X : XK} (q : Wn K te δ fun ds δ1 => ∃ i j l : Int, ds = [.int i, .int j, .int l] ∧ 0 ≤ i ∧ T [] fun d => Φ d δ1) : W K (tCall (spG K T) [] X (tCons te tNil)) δ Φ := fun M L σ H I Q k => by
  refine q M L σ H I _ fun a xs ds δ1 H1 I1 x1 ha hx ⟨i, j, l, hd, h0, ht⟩ => ?_
  subst hd
  have hxs : xs = [.int i, .int j, .int l] := by
    cases hx with
    | cons h1 t => cases t with
      | cons h2 t => cases t with
        | cons h3 t =>
          cases t
          rw [h1.inv_int, h2.inv_int, h3.inv_int]
  subst hxs
  have I2 := I1.new (o := .lst [V.int i, V.int j, V.int l]) ha
  refine ⟨L ++ M, a, [], [], fun d => Φ d δ1, rfl, ⟨i, j, l, h0, upd_same⟩, I1.fresh ha, I2.here, .nil, ht, fun v d H' kd e hd hr => ?_⟩
  have e2 : Ex H1 H' := fun b o hb => e b o (fun z => ne_of_none hb ha (List.mem_singleton.mp z)) (by rw [upd_ne (ne_of_none hb ha)]; exact hb)
  exact k v d δ1 H' (I1.ext e2) (x1.trans (Xt.of e2)) (hr.to fun b hb => .inl (.tail _ hb)) kd
end
section
variable {K : PySem.W.Frag}
theorem ok_new {P : Program} {w : World} {mg : Str → Option Value} {base : Heap} {x qual : Str} {st : Stmt} {f : Addr} {fd : FuncData} {N ps : List Str} {k : Nat} {T : List Dt → (List Dt → Prop) → Prop} (F : Fun K x qual st f fd) (S : FnScope N ps (defScope st)) (hl : ∀ ds κ, T ds κ → ds.length = ps.length)
    (hb : ∀ (cdv : Value) (A : Around) (outer : List Env) (s : Shared) (H : Hp) (E : XK) (ds : List Dt) (κ : List Dt → Prop), Room k (A.deeper (envOfC qual (defScope st) s.heap.objs.size f cdv)) → T ds κ →
      ∃ t, PSs (cxOf CX0 P w K mg base N qual (defScope st) f cdv A outer s H E).nox (defBody st) t ∧ Sn K t (store0 N.length ds) fun es _ => κ es) : FnOk P w K mg base CX0 (k + 1) f fd ps (spN K T) := by
  refine F.ok S (fun vs H Q E h => ?_) (fun cdv A outer s H vs Q E hr h => ?_)
  · obtain ⟨M, ds, κ, _, hv, ht, _⟩ := h
    rw [hv.len]
    exact hl ds κ ht
  · obtain ⟨M, ds, κ, hM, hv, ht, q⟩ := h
    obtain ⟨t, h1, h2⟩ := hb cdv A outer s H E ds κ hr ht
    refine ⟨t, h1, ?_⟩
    have I : Ib K M [] (start N vs) (store0 N.length ds) H := ⟨⟨by
      have := sl_start (N.length - vs.length) (RpL.to (A := M) (B := [] ++ M) (fun a h => .inl h) hv)
      unfold store0
      rw [← hv.len]
      exact this, List.nodup_nil, (fun a z => nomatch z), hM⟩, okX0⟩
    exact h2 M [] _ H I _ fun a xs es L' σ' δ' H' I' f ha hx hk => q a xs es H' hk (fun b o e => f.ext b o (fun z => nomatch z) e) ha (hx.to fun b hb => .inl (List.mem_append_right _ hb))
end
end My

namespace My
open PySem PySem.Spec PyProof.Rows L2
section
variable {K : PySem.W.Frag} [Xg K] {δ δ2 : Store} {ta tb te tl td ty : TE} {tr : TA} {t u tu : TS} {g : TG} {n b c : Store → Prop} {r : Dt → Store → Prop} {Φ : Dt → Store → Prop} {Ψ : List Dt → Store → Prop}
/-! ### dicts -/
section
variable {κ : Type} [DecidableEq κ] {α : Type}
def lkD (ks : List (κ × α)) (k : κ) : Option α := match ks with
  | [] => none
  | p :: r => if p.1 = k then some p.2 else lkD r k
def ptD (ks : List (κ × α)) (k : κ) (d : α) : List (κ × α) := if (lkD ks k).isSome = true then ks.map (fun p => if p.1 = k then (p.1, d) else p) else ks ++ [(k, d)]
end
def Dt.key : Dt → Option Key
  | .int i => some (.inl i)
  | .str s => some (.inr s)
  | _ => none
theorem Rp.key {A : List Addr} {H : Hp} {v : V} {d : Dt} {k : Key} (h : Rp K A H v d) (e : d.key = some k) : v = kV k := by
  cases d with
  | int i => cases e; exact h.inv_int
  | str s => cases e; exact h.inv_str.1
  | _ => cases e
theorem RpK.val {A : List Addr} {H : Hp} {k : Key} : ∀ {vs : List (Key × V)} {ds : List (Key × Dt)}, RpK K A H vs ds → (∀ d, lkD ds k = some d → ∃ v, valV vs k = some v ∧ Rp K A H v d) ∧ (valV vs k).isSome = (lkD ds k).isSome
  | _, _, .nil => ⟨(fun _ z => nomatch z), rfl⟩
  | _, _, .cons (k := k') (v := v) (vs := vs) (d := d) (ds := ds) h t => by
    obtain ⟨h1, h2⟩ := RpK.val (k := k) t
    by_cases e : k' = k
    · have e1 : valV ((k', v) :: vs) k = some v := valV_pos (p := (k', v)) e
      have e2 : lkD ((k', d) :: ds) k = some d := by unfold lkD; rw [if_pos e]
      exact ⟨fun d' q => by rw [e2] at q; cases q; exact ⟨v, e1, h⟩, by rw [e1, e2]; rfl⟩
    · have e1 : valV ((k', v) :: vs) k = valV vs k := valV_neg (p := (k', v)) e
      have e2 : lkD ((k', d) :: ds) k = lkD ds k := by show (if (k', d).1 = k then _ else _) = _; rw [if_neg e]
      exact ⟨fun d' q => by rw [e2] at q; rw [e1]; exact h1 d' q, by rw [e1, e2]; exact h2⟩
theorem RpK.len {A : List Addr} {H : Hp} : ∀ {vs : List (Key × V)} {ds : List (Key × Dt)}, RpK K A H vs ds → vs.length = ds.length
  | _, _, .nil => rfl
  | _, _, .cons _ t => congrArg Nat.succ t.len
theorem RpK.snoc {A : List Addr} {H : Hp} {k : Key} {v : V} {d : Dt} (hv : Rp K A H v d) : ∀ {vs : List (Key × V)} {ds : List (Key × Dt)}, RpK K A H vs ds → RpK K A H (vs ++ [(k, v)]) (ds ++ [(k, d)])
  | _, _, .nil => .cons hv .nil
  | _, _, .cons h t => .cons h (t.snoc hv)
theorem RpK.repl {A : List Addr} {H : Hp} {k : Key} {v : V} {d : Dt} (hv : Rp K A H v d) : ∀ {vs : List (Key × V)} {ds : List (Key × Dt)}, RpK K A H vs ds → RpK K A H (vs.map fun kv => if kv.1 = k then (kv.1, v) else kv) (ds.map fun p => if p.1 = k then (p.1, d) else p)
  | _, _, .nil => .nil
  | _, _, .cons (k := k') h t => by
    rw [List.map_cons, List.map_cons]
    by_cases e : k' = k
    · rw [if_pos e, if_pos e]; exact .cons hv (t.repl hv)
    · rw [if_neg e, if_neg e]; exact .cons h (t.repl hv)
theorem RpK.put {A : List Addr} {H : Hp} {k : Key} {v : V} {d : Dt} (hv : Rp K A H v d) {vs : List (Key × V)} {ds : List (Key × Dt)} (h : RpK K A H vs ds) : RpK K A H (putK vs k v) (ptD ds k d) := by
  have e : (vs.any fun kv => decide (kv.1 = k)) = (lkD ds k).isSome := by rw [valV_any]; exact h.val.2
  unfold putK ptD
  rw [e]
  by_cases q : (lkD ds k).isSome = true
  · rw [if_pos q, if_pos q]; exact h.repl hv
  · rw [if_neg q, if_neg q]; exact h.snoc hv
theorem w_dget (q : W K td δ fun o δ1 => W K ty δ1 fun i δ2 => ∃ ks k d, o = .dct ks ∧ i.key = some k ∧ lkD ks k = some d ∧ Φ d δ2) : W K (tDGet td ty) δ Φ := fun M L σ H I Q k' => q M L σ H I _ fun v o δ1 H1 I1 x1 hv q1 => q1 M L σ H1 I1 _ fun w i δ2 H2 I2 x2 hw q2 => by
  obtain ⟨ks, k, d, rfl, hk, hd, q⟩ := q2
  obtain ⟨a, kvs, rfl, _, ha, hr⟩ := (hv.mono (xtL x2)).inv_dct
  obtain ⟨y, hy, ry⟩ := hr.val.1 d hd
  exact ⟨a, y, rfl, .inl ⟨kvs, k, ha, hw.key hk, hy.symm⟩, k' y d δ2 H2 I2 (x1.trans x2) ry q⟩
theorem w_din (q : W K ty δ fun i δ1 => W K td δ1 fun o δ2 => ∃ ks k, o = .dct ks ∧ i.key = some k ∧ Φ (.bl (lkD ks k).isSome) δ2) : W K (tDIn ty td) δ Φ := fun M L σ H I Q k' => q M L σ H I _ fun v i δ1 H1 I1 x1 hv q1 => q1 M L σ H1 I1 _ fun w o δ2 H2 I2 x2 hw q2 => by
  obtain ⟨ks, k, rfl, hk, q⟩ := q2
  obtain ⟨a, kvs, rfl, _, ha, hr⟩ := hw.inv_dct
  exact ⟨a, valV kvs k, rfl, .inl ⟨kvs, k, ha, (hv.mono (xtL x2)).key hk, rfl⟩, by rw [hr.val.2]; exact k' _ _ δ2 H2 I2 (x1.trans x2) (.bl _) q⟩
theorem w_dnotin (q : W K ty δ fun i δ1 => W K td δ1 fun o δ2 => ∃ ks k, o = .dct ks ∧ i.key = some k ∧ Φ (.bl (!(lkD ks k).isSome)) δ2) : W K (tDNotIn ty td) δ Φ := fun M L σ H I Q k' => q M L σ H I _ fun v i δ1 H1 I1 x1 hv q1 => q1 M L σ H1 I1 _ fun w o δ2 H2 I2 x2 hw q2 => by
  obtain ⟨ks, k, rfl, hk, q⟩ := q2
  obtain ⟨a, kvs, rfl, _, ha, hr⟩ := hw.inv_dct
  exact ⟨a, valV kvs k, rfl, .inl ⟨kvs, k, ha, (hv.mono (xtL x2)).key hk, rfl⟩, by rw [hr.val.2]; exact k' _ _ δ2 H2 I2 (x1.trans x2) (.bl _) q⟩
theorem w_dget2 {tx : TE} (q : W K td δ fun o δ1 => ∃ ks, o = .dct ks ∧ W K ty δ1 fun i δ2 => W K tx δ2 fun e δ3 => ∃ k, i.key = some k ∧ Φ ((lkD ks k).getD e) δ3) : W K (tDGet2 td ty tx) δ Φ := fun M L σ H I Q k' => q M L σ H I _ fun v o δ1 H1 I1 x1 hv q1 => by
  obtain ⟨ks, rfl, q1⟩ := q1
  obtain ⟨a, kvs, rfl, _, ha, hr⟩ := id hv.inv_dct
  refine ⟨a, rfl, .inl ⟨kvs, ha⟩, q1 M L σ H1 I1 _ fun w i δ2 H2 I2 x2 hw q2 => q2 M L σ H2 I2 _ fun z e δ3 H3 I3 x3 hz q3 => ?_⟩
  obtain ⟨k, hk, q⟩ := q3
  obtain ⟨a', kvs', e', _, ha', hr'⟩ := ((hv.mono (xtL x2)).mono (xtL x3)).inv_dct
  cases e'
  refine ⟨valV kvs' k, .inl ⟨kvs', k, ha', (hw.mono (xtL x3)).key hk, rfl⟩, ?_⟩
  cases hd : lkD ks k with
  | none =>
    have hn : valV kvs' k = none := by
      have := (hr'.val (k := k)).2
      rw [hd] at this
      cases hv : valV kvs' k with
      | none => rfl
      | some _ => rw [hv] at this; cases this
    rw [hd] at q
    rw [hn]
    exact k' _ _ δ3 H3 I3 ((x1.trans x2).trans x3) hz q
  | some d =>
    obtain ⟨y, hy, ry⟩ := hr'.val.1 d hd
    rw [hd] at q
    rw [hy]
    exact k' _ _ δ3 H3 I3 ((x1.trans x2).trans x3) ry q
end
end My

namespace My
open PySem PySem.Spec PyProof.Rows L2
section
variable {K : PySem.W.Frag} [Xg K] {δ δ2 : Store} {ta tb te tl td ty : TE} {tr : TA} {t u tu : TS} {g : TG} {n b c : Store → Prop} {r : Dt → Store → Prop} {Φ : Dt → Store → Prop} {Ψ : List Dt → Store → Prop}
/-! ### groups: dicts of the def's own with lists of its own in them -/
section
variable {κ : Type} [DecidableEq κ] {α : Type}
def stD : List (κ × α) → κ → α → List (κ × α)
  | [], _, _ => []
  | p :: r, k, d => if p.1 = k then (p.1, d) :: r else p :: stD r k d
end
def Od.dt : Od → Dt
  | .dat d => d
  | .own ds => .lst ds
def Od.isDat : Od → Bool
  | .dat _ => true
  | _ => false
def odD {κ : Type} (ks : List (κ × Od)) : List (κ × Dt) := ks.map fun p => (p.1, p.2.dt)
section
variable {κ : Type} [DecidableEq κ]
theorem lkD_pos {α : Type} {p : κ × α} {r : List (κ × α)} {k : κ} (e : p.1 = k) : lkD (p :: r) k = some p.2 := if_pos e
theorem lkD_neg {α : Type} {p : κ × α} {r : List (κ × α)} {k : κ} (e : ¬ p.1 = k) : lkD (p :: r) k = lkD r k := if_neg e
theorem OdL.val {A : List Addr} {H : Hp} {k : κ} {d : Dt} : ∀ {vs : List (κ × V)} {ks : List (κ × Od)} {as : List Addr}, OdL K A H vs ks as → lkD ks k = some (.dat d) → ∃ v, valV vs k = some v ∧ Rp K A H v d
  | _, _, _, .dat (k := k') (v := v) h t, e => by
    by_cases q : k' = k
    · rw [lkD_pos q] at e
      cases e
      exact ⟨v, valV_pos (p := (k', v)) q, h⟩
    · rw [lkD_neg q] at e
      obtain ⟨w, h1, h2⟩ := t.val e
      exact ⟨w, by rw [valV_neg (p := (k', v)) q]; exact h1, h2⟩
  | _, _, _, .own (k := k') (b := b) _ _ t, e => by
    by_cases q : k' = k
    · rw [lkD_pos q] at e
      cases e
    · rw [lkD_neg q] at e
      obtain ⟨w, h1, h2⟩ := t.val e
      exact ⟨w, by rw [valV_neg (p := (k', .ref b)) q]; exact h1, h2⟩
theorem OdL.some_eq {A : List Addr} {H : Hp} {k : κ} : ∀ {vs : List (κ × V)} {ks : List (κ × Od)} {as : List Addr}, OdL K A H vs ks as → (valV vs k).isSome = (lkD ks k).isSome
  | _, _, _, .nil => rfl
  | _, _, _, .dat (k := k') (v := v) (d := d) h t => by
    by_cases q : k' = k
    · rw [lkD_pos q, valV_pos (p := (k', v)) q]; rfl
    · rw [lkD_neg q, valV_neg (p := (k', v)) q]; exact t.some_eq
  | _, _, _, .own (k := k') (b := b) _ _ t => by
    by_cases q : k' = k
    · rw [lkD_pos q, valV_pos (p := (k', .ref b)) q]; rfl
    · rw [lkD_neg q, valV_neg (p := (k', .ref b)) q]; exact t.some_eq
theorem OdL.focus {A : List Addr} {H : Hp} {k : κ} {es : List Dt} : ∀ {vs : List (κ × V)} {ks : List (κ × Od)} {as : List Addr}, OdL K A H vs ks as → as.Nodup → lkD ks k = some (.own es) → ∃ b xs, valV vs k = some (.ref b) ∧ b ∈ as ∧ H b = some (.lst xs) ∧ RpL K A H xs es ∧
    ∀ ys es', Xt A H (upd H b (.lst ys)) → RpL K A (upd H b (.lst ys)) ys es' → OdL K A (upd H b (.lst ys)) vs (stD ks k (.own es')) as
  | _, _, _, .dat (k := k') (v := v) h t, nd, e => by
    by_cases q : k' = k
    · rw [lkD_pos q] at e
      cases e
    · rw [lkD_neg q] at e
      obtain ⟨b, xs, h1, h2, h3, h4, h5⟩ := t.focus nd e
      refine ⟨b, xs, by rw [valV_neg (p := (k', v)) q]; exact h1, h2, h3, h4, fun ys es' hx hr => ?_⟩
      show OdL K A _ _ (if _ then _ else _) _
      rw [if_neg q]
      exact .dat (h.mono hx) (h5 ys es' hx hr)
  | _, _, _, .own (k := k') (b := a) (xs := xs) (es := es0) (as := as) he h t, nd, e => by
    have nd2 := List.nodup_cons.mp nd
    by_cases q : k' = k
    · rw [lkD_pos q] at e
      cases e
      refine ⟨a, xs, valV_pos (p := (k', .ref a)) q, .head _, he, h, fun ys es' hx hr => ?_⟩
      show OdL K A _ _ (if _ then _ else _) _
      rw [if_pos q]
      exact .own upd_same hr (t.step hx fun b hb => upd_ne (fun z => nd2.1 (by rw [← z]; exact hb)))
    · rw [lkD_neg q] at e
      obtain ⟨b, ys0, h1, h2, h3, h4, h5⟩ := t.focus nd2.2 e
      refine ⟨b, ys0, by rw [valV_neg (p := (k', .ref a)) q]; exact h1, .tail _ h2, h3, h4, fun ys es' hx hr => ?_⟩
      show OdL K A _ _ (if _ then _ else _) _
      rw [if_neg q]
      exact .own (by rw [upd_ne (fun z => nd2.1 (by rw [z]; exact h2))]; exact he) (h.mono hx) (h5 ys es' hx hr)
theorem OdL.snoc {A : List Addr} {H : Hp} {k : κ} {v : V} {d : Dt} (hv : Rp K A H v d) : ∀ {vs : List (κ × V)} {ks : List (κ × Od)} {as : List Addr}, OdL K A H vs ks as → OdL K A H (vs ++ [(k, v)]) (ks ++ [(k, .dat d)]) as
  | _, _, _, .nil => .dat hv .nil
  | _, _, _, .dat h t => .dat h (t.snoc hv)
  | _, _, _, .own e h t => .own e h (t.snoc hv)
theorem OdL.repl {A : List Addr} {H : Hp} {k : κ} {v : V} {d : Dt} (hv : Rp K A H v d) : ∀ {vs : List (κ × V)} {ks : List (κ × Od)} {as : List Addr}, OdL K A H vs ks as → (ks.all fun p => !decide (p.1 = k) || p.2.isDat) = true → OdL K A H (vs.map fun kv => if kv.1 = k then (kv.1, v) else kv) (ks.map fun p => if p.1 = k then (p.1, .dat d) else p) as
  | _, _, _, .nil, _ => .nil
  | _, _, _, .dat (k := k') h t, q => by
    rw [List.all_cons, Bool.and_eq_true] at q
    rw [List.map_cons, List.map_cons]
    by_cases e : k' = k
    · rw [if_pos e, if_pos e]; exact .dat hv (t.repl hv q.2)
    · rw [if_neg e, if_neg e]; exact .dat h (t.repl hv q.2)
  | _, _, _, .own (k := k') he h t, q => by
    rw [List.all_cons, Bool.and_eq_true] at q
    rw [List.map_cons, List.map_cons]
    by_cases e : k' = k
    · have := q.1
      simp only [e, decide_true, Bool.not_true, Bool.false_or] at this
      cases this
    · rw [if_neg e, if_neg e]; exact .own he h (t.repl hv q.2)
theorem OdL.put {A : List Addr} {H : Hp} {k : κ} {v : V} {d : Dt} (hv : Rp K A H v d) {vs : List (κ × V)} {ks : List (κ × Od)} {as : List Addr} (h : OdL K A H vs ks as) (q : (ks.all fun p => !decide (p.1 = k) || p.2.isDat) = true) : OdL K A H (putK vs k v) (ptD ks k (.dat d)) as := by
  have e : (vs.any fun kv => decide (kv.1 = k)) = (lkD ks k).isSome := by rw [valV_any]; exact h.some_eq
  unfold putK ptD
  rw [e]
  by_cases z : (lkD ks k).isSome = true
  · rw [if_pos z, if_pos z]; exact h.repl hv q
  · rw [if_neg z, if_neg z]; exact h.snoc hv
end
theorem OdL.len {κ : Type} {A : List Addr} {H : Hp} : ∀ {vs : List (κ × V)} {ks : List (κ × Od)} {as : List Addr}, OdL K A H vs ks as → vs.length = ks.length
  | _, _, _, .nil => rfl
  | _, _, _, .dat _ t => congrArg Nat.succ t.len
  | _, _, _, .own _ _ t => congrArg Nat.succ t.len
theorem OdL.toK {A B : List Addr} {H : Hp} (s : ∀ a, a ∈ B → a ∈ A ∨ H a = none) : ∀ {vs : List (Key × V)} {ks : List (Key × Od)} {as : List Addr}, OdL K A H vs ks as → (∀ b ∈ as, b ∉ B) → RpK K B H vs (odD ks)
  | _, _, _, .nil, _ => .nil
  | _, _, _, .dat h t, q => .cons (h.to s) (t.toK s q)
  | _, _, _, .own e h t, q => .cons (.lst (q _ (.head _)) e (h.to s)) (t.toK s fun b hb => q b (.tail _ hb))
theorem OdL.toF {A B : List Addr} {H : Hp} (s : ∀ a, a ∈ B → a ∈ A ∨ H a = none) : ∀ {vs : List (Str × V)} {ks : List (Str × Od)} {as : List Addr}, OdL K A H vs ks as → (∀ b ∈ as, b ∉ B) → RpF K B H vs (odD ks)
  | _, _, _, .nil, _ => .nil
  | _, _, _, .dat h t, q => .cons (h.to s) (t.toF s q)
  | _, _, _, .own e h t, q => .cons (.lst (q _ (.head _)) e (h.to s)) (t.toF s fun b hb => q b (.tail _ hb))
/-- a slot's group is given up -/
theorem SlA.dropG {A : List Addr} {H : Hp} {s : Sd} (hs : s.isGrp = true) : ∀ {σ : L2.St} {δ : Store} {L : List Addr} {i : Nat}, SlA K A H σ δ L → L.Nodup → δ[i]? = some s → ∃ a as L', σ[i]? = some (some (.ref a)) ∧ Grp K A H a s as ∧ SlA K A H σ (δ.set i .no) L' ∧ L'.Sublist L ∧ ∀ b ∈ a :: as, b ∈ L ∧ b ∉ L'
  | _, _, _, 0, .no t, nd, e => by cases e; cases hs
  | _, _, _, 0, .dat h t, nd, e => by cases e; cases hs
  | _, _, _, 0, .cell h t, nd, e => by cases e; cases h <;> cases hs
  | _, _, _, 0, .grp (a := a) (as := as) h t, nd, e => by
    cases e
    have nd2 := List.nodup_cons.mp nd
    have nd3 := List.nodup_append.mp nd2.2
    refine ⟨a, as, _, rfl, h, .no t, (List.sublist_append_right _ _).cons _, fun b hb => ?_⟩
    rcases List.mem_cons.mp hb with w | w
    · rw [w]; exact ⟨.head _, fun z => nd2.1 (List.mem_append_right _ z)⟩
    · exact ⟨.tail _ (List.mem_append_left _ w), fun z => nd3.2.2 b w b z rfl⟩
  | _, _, _, i + 1, .no t, nd, e => let ⟨a, as, L', h1, h2, h3, h4, h5⟩ := t.dropG hs (i := i) nd e; ⟨a, as, L', h1, h2, .no h3, h4, h5⟩
  | _, _, _, i + 1, .dat h t, nd, e => let ⟨a, as, L', h1, h2, h3, h4, h5⟩ := t.dropG hs (i := i) nd e; ⟨a, as, L', h1, h2, .dat h h3, h4, h5⟩
  | _, _, _, i + 1, .cell (a := x) h t, nd, e => by
    have nd2 := List.nodup_cons.mp nd
    obtain ⟨a, as, L', h1, h2, h3, h4, h5⟩ := t.dropG hs (i := i) nd2.2 e
    refine ⟨a, as, x :: L', h1, h2, .cell h h3, h4.cons₂ _, fun b hb => ⟨.tail _ (h5 b hb).1, fun z => ?_⟩⟩
    rcases List.mem_cons.mp z with w | w
    · exact nd2.1 (by rw [← w]; exact (h5 b hb).1)
    · exact (h5 b hb).2 w
  | _, _, _, i + 1, .grp (a := x) (as := bs) h t, nd, e => by
    have nd2 := List.nodup_cons.mp nd
    have nd3 := List.nodup_append.mp nd2.2
    obtain ⟨a, as, L', h1, h2, h3, h4, h5⟩ := t.dropG hs (i := i) nd3.2.1 e
    refine ⟨a, as, x :: (bs ++ L'), h1, h2, .grp h h3, (List.Sublist.append_left h4 bs).cons₂ _, fun b hb => ⟨.tail _ (List.mem_append_right _ (h5 b hb).1), fun z => ?_⟩⟩
    rcases List.mem_cons.mp z with w | w
    · exact nd2.1 (by rw [← w]; exact List.mem_append_right _ (h5 b hb).1)
    · rcases List.mem_append.mp w with w | w
      · exact nd3.2.2 b w b (h5 b hb).1 rfl
      · exact (h5 b hb).2 w
  | _, _, _, 0, .gst _ _ t, nd, e => by cases e; cases hs
  | _, _, _, i + 1, .gst (as := bs) g hp t, nd, e => by
    have nd3 := List.nodup_append.mp nd
    obtain ⟨a, as, L', h1, h2, h3, h4, h5⟩ := t.dropG hs (i := i) nd3.2.1 e
    refine ⟨a, as, bs ++ L', h1, h2, .gst g hp h3, List.Sublist.append_left h4 bs, fun b hb => ⟨List.mem_append_right _ (h5 b hb).1, fun w => ?_⟩⟩
    rcases List.mem_append.mp w with w | w
    · exact nd3.2.2 b w b (h5 b hb).1 rfl
    · exact (h5 b hb).2 w
theorem Ib.dropG {M L : List Addr} {σ : L2.St} {H : Hp} {s : Sd} {i : Nat} (I : Ib K M L σ δ H) (hs : s.isGrp = true) (e : δ[i]? = some s) : ∃ a as L', σ[i]? = some (some (.ref a)) ∧ Grp K (L ++ M) H a s as ∧ Ib K M L' σ (δ.set i .no) H ∧ Fr L H L' H ∧ (∀ b ∈ L', b ∈ L) ∧ ∀ b ∈ a :: as, b ∉ L' ++ M := by
  obtain ⟨a, as, L', h1, h2, h3, h4, h5⟩ := I.sl.dropG hs I.nd e
  have q : ∀ a, a ∈ L' ++ M → a ∈ L ++ M ∨ H a = none := fun a ha => .inl ((List.mem_append.mp ha).elim (fun z => List.mem_append_left _ (h4.subset z)) fun z => List.mem_append_right _ z)
  have f : Fr L H L' H := ⟨Xt.refl _ _, fun b hb => .inl (h4.subset hb)⟩
  refine ⟨a, as, L', h1, h2, ⟨⟨h3.to q, I.nd.sublist h4, fun b hb => I.lm b (h4.subset hb), I.out⟩, I.gx.go f⟩, f, fun b hb => h4.subset hb, fun b hb z => ?_⟩
  rcases List.mem_append.mp z with w | w
  · exact (h5 b hb).2 w
  · exact I.lm b (h5 b hb).1 w
theorem Grp.dat {A B : List Addr} {H : Hp} {a : Addr} {ks : List (Key × Od)} {as : List Addr} (h : Grp K A H a (.recD ks) as) (s : ∀ a, a ∈ B → a ∈ A ∨ H a = none) (q : ∀ b ∈ a :: as, b ∉ B) : Rp K B H (.ref a) (.dct (odD ks)) := by
  cases h with
  | recD e h => exact .dct (q a (.head _)) e (h.toK s fun b hb => q b (.tail _ hb))
theorem x_retR {i : Nat} {ks : List (Key × Od)} (h0 : δ[i]? = some (.recD ks)) (h : δ.set i .no = δ2) (q : r (.dct (odD ks)) δ2) : Sw K (tRet (tVar i)) δ ⟨n, r, b, c⟩ := fun M L σ H I D k => by
  obtain ⟨a, as, L', h1, h2, I', f, sb, hn⟩ := I.dropG rfl h0
  rw [h] at I'
  refine ⟨.ref a, h1, k.rt L' σ δ2 _ _ H I' f (h2.dat (fun b hb => .inl ?_) hn) q⟩
  exact (List.mem_append.mp hb).elim (fun z => List.mem_append_left _ (sb b z)) fun z => List.mem_append_right _ z
/-- a dict of the def's own is data from now on -/
theorem x_freezeR {i : Nat} {ks : List (Key × Od)} {E : En} (h0 : δ[i]? = some (.recD ks)) (h : δ.set i (.dat (.dct (odD ks))) = δ2) (q : Sw K t δ2 E) : Sw K t δ E := fun M L σ H I D k => by
  obtain ⟨a, as, L', h1, h2, I', f, sb, hn⟩ := I.dropG rfl h0
  have hv : Rp K (L' ++ M) H (.ref a) (.dct (odD ks)) := h2.dat (fun b hb => .inl ((List.mem_append.mp hb).elim (fun z => List.mem_append_left _ (sb b z)) fun z => List.mem_append_right _ z)) hn
  obtain ⟨L2, I2, f2⟩ := I'.setD i hv
  rw [List.set_set, h, show σ.set i (some (V.ref a)) = σ from by rw [← (List.getElem?_eq_some_iff.mp h1).2, List.set_getElem_self]] at I2
  exact q M L2 σ H I2 D (k.go (f.trans f2))
/-! ### reading and changing a group -/
theorem w_dgetR {i : Nat} {ks0 : List (Key × Od)} (h0 : δ[i]? = some (.recD ks0)) (q : W K ty δ fun x δ2 => ∃ ks k d, x.key = some k ∧ δ2[i]? = some (.recD ks) ∧ lkD ks k = some (.dat d) ∧ Φ d δ2) : W K (tDGet (tVar i) ty) δ Φ := fun M L σ H I Q k' => by
  obtain ⟨a, as, h1, _⟩ := I.focus rfl h0
  refine ⟨.ref a, h1, q M L σ H I _ fun w x δ2 H2 I2 x2 hw q2 => ?_⟩
  obtain ⟨ks, k, d, hk, h2, hl, q⟩ := q2
  obtain ⟨a', as', h1', hg, _⟩ := I2.focus rfl h2
  rw [h1] at h1'
  cases h1'
  cases hg with
  | recD e h =>
    obtain ⟨y, hy, ry⟩ := h.val hl
    exact ⟨a, y, rfl, .inl ⟨_, k, .inl e, hw.key hk, hy.symm⟩, k' y d δ2 H2 I2 x2 ry q⟩
/-- x[k].append(y), y a name -/
theorem x_appR {i j : Nat} {ks : List (Key × Od)} {k : Str} {es : List Dt} {d : Dt} (h0 : δ[i]? = some (.recD ks)) (hl : lkD ks (Sum.inr k : Key) = some (.own es)) (hj : δ[j]? = some (.dat d)) (hz : es.length < 100000) (h : δ.set i (.recD (stD ks (Sum.inr k) (.own (es ++ [d])))) = δ2) (q : n δ2) :
    Sw K (tDrop (tBM K "list" rAppend (tDGet (tVar i) (tC (.str k))) (tCons (tVar j) tNil))) δ ⟨n, r, b, c⟩ := fun M L σ H I D k' => by
  obtain ⟨a, as, h1, hg, hin, nd, hput⟩ := I.focus rfl h0
  have nd2 := List.nodup_cons.mp nd
  obtain ⟨y, ey, hy⟩ := I.sl.get_dat hj
  cases hg with
  | recD e hg =>
    obtain ⟨l, xs, hv, hm, hx, hr, hf⟩ := hg.focus nd2.2 hl
    refine ⟨.ref a, h1, a, .ref l, rfl, .inl ⟨_, Sum.inr k, .inl e, rfl, hv.symm⟩, .inl ⟨rfl, _, .inl (.inl hx)⟩, y, ey, l, xs, y, rfl, rfl, hx, sz_lt (by rw [hr.len]; exact hz), ?_⟩
    have hX : Xt (L ++ M) H (upd H l (.lst (xs ++ [y]))) := Xt.put (List.mem_append_left _ (hin l (.tail _ hm)))
    have ne : a ≠ l := fun z => nd2.1 (by rw [z]; exact hm)
    obtain ⟨I2, x2⟩ := hput (.lst (xs ++ [y])) l (.recD (stD ks (Sum.inr k) (.own (es ++ [d])))) (.tail _ hm) (.recD (by rw [upd_ne ne]; exact e) (hf (xs ++ [y]) (es ++ [d]) hX ((hr.append (.cons hy .nil)).mono hX)))
    rw [h] at I2
    exact k'.nx L σ δ2 _ I2 (Fr.of_xt x2) q
/-- x[k][j] -/
theorem w_ixR {i : Nat} {ks0 : List (Key × Od)} {k : Str} {es : List Dt} {j : Int} {d : Dt} (h0 : δ[i]? = some (.recD ks0)) (hl : lkD ks0 (Sum.inr k : Key) = some (.own es)) (hd : atI es j = some d) (q : Φ d δ) : W K (tOp (rIxL K) (tDGet (tVar i) (tC (.str k))) (tC (.int j))) δ Φ := fun M L σ H I Q k' => by
  obtain ⟨a, as, h1, hg, hin, nd, hput⟩ := I.focus rfl h0
  have nd2 := List.nodup_cons.mp nd
  cases hg with
  | recD e hg =>
    obtain ⟨l, xs, hv, hm, hx, hr, hf⟩ := hg.focus nd2.2 hl
    obtain ⟨w, hw, hr2⟩ := hr.atI hd
    exact ⟨.ref a, h1, a, .ref l, rfl, .inl ⟨_, Sum.inr k, .inl e, rfl, hv.symm⟩, l, xs, j, w, rfl, rfl, .inl (.inl hx), hw, k' w d δ H I (Xt.refl _ _) hr2 q⟩
theorem w_ixRn {i : Nat} {ks0 : List (Key × Od)} {k : Str} {es : List Dt} {j : Int} {d : Dt} (h0 : δ[i]? = some (.recD ks0)) (hl : lkD ks0 (Sum.inr k : Key) = some (.own es)) (hd : atI es (-j) = some d) (q : Φ d δ) : W K (tOp (rIxL K) (tDGet (tVar i) (tC (.str k))) (tUn (rU fun i => .int (-i)) (tC (.int j)))) δ Φ := fun M L σ H I Q k' => by
  obtain ⟨a, as, h1, hg, hin, nd, hput⟩ := I.focus rfl h0
  have nd2 := List.nodup_cons.mp nd
  cases hg with
  | recD e hg =>
    obtain ⟨l, xs, hv, hm, hx, hr, hf⟩ := hg.focus nd2.2 hl
    obtain ⟨w, hw, hr2⟩ := hr.atI hd
    exact ⟨.ref a, h1, a, .ref l, rfl, .inl ⟨_, Sum.inr k, .inl e, rfl, hv.symm⟩, j, rfl, l, xs, -j, w, rfl, rfl, .inl (.inl hx), hw, k' w d δ H I (Xt.refl _ _) hr2 q⟩
/-- x[k] = e, what stood there was data, or nothing -/
theorem x_dput {tv : TE} {i : Nat} (q : W K tv δ fun d δ1 => ∃ ks1, δ1[i]? = some (.recD ks1) ∧ W K ty δ1 fun x δ2 => ∃ ks k, x.key = some k ∧ δ2[i]? = some (.recD ks) ∧ ks.length < 100000 ∧ (ks.all fun p => !decide (p.1 = k) || p.2.isDat) = true ∧ ∃ δ3, δ2.set i (.recD (ptD ks k (.dat d))) = δ3 ∧ n δ3) : Sw K (sDPut (tVar i) ty tv) δ ⟨n, r, b, c⟩ := fun M L σ H I D k' => q M L σ H I _ fun v d δ1 H1 I1 x1 hv q1 => by
  obtain ⟨ks1, h1, q1⟩ := q1
  obtain ⟨a, as, e, _⟩ := I1.focus rfl h1
  refine ⟨.ref a, e, q1 M L σ H1 I1 _ fun w x δ2 H2 I2 x2 hw q2 => ?_⟩
  obtain ⟨ks, k, hk, h2, hl, ha, δ3, h3, q⟩ := q2
  obtain ⟨a', as', e', hg, hin, nd, hput⟩ := I2.focus rfl h2
  rw [e] at e'
  cases e'
  cases hg with
  | @recD kvs _ _ ho hr =>
    have hx : Xt (L ++ M) H2 (upd H2 a (.dK (putK kvs k v))) := Xt.put (List.mem_append_left _ (hin a (.head _)))
    have nd2 := List.nodup_cons.mp nd
    obtain ⟨I3, x3⟩ := hput (.dK (putK kvs k v)) a (.recD (ptD ks k (.dat d))) (.head _) (.recD upd_same ((hr.step hx fun b hb => upd_ne (fun z => nd2.1 (by rw [← z]; exact hb))).put ((hv.mono (xtL x2)).mono hx) ha))
    rw [h3] at I3
    exact ⟨a, _, rfl, .inl ⟨kvs, k, ho, hw.key hk, sz_lt (by rw [hr.len]; exact hl), rfl⟩, k'.nx L σ δ3 _ I3 (Fr.of_xt ((x1.trans x2).trans x3)) q⟩
/-! ### displays -/
def Wr (K : PySem.W.Frag) [Xg K] (trs : List (TE × TE)) (δ : Store) (Θ : List (Key × Od) → Store → Prop) : Prop := ∀ M L σ H, Ib K M L σ δ H → ∀ Q : List (V × V) → Hp → Prop, (∀ kvs ks as δ' H', Ib K (as ++ M) L σ δ' H' → Xt L H H' → OdL K (L ++ (as ++ M)) H' kvs ks as → as.Nodup → (∀ b ∈ as, H b = none) → Θ ks δ' → Q (kvs.map fun kv => (kV kv.1, kv.2)) H') → tPairs trs σ H Q
theorem wr_nil {Θ : List (Key × Od) → Store → Prop} (q : Θ [] δ) : Wr K [] δ Θ := fun M L σ H I Q k => k [] [] [] δ H I (Xt.refl _ _) .nil List.nodup_nil (fun _ z => nomatch z) q
theorem wr_dat {k : Str} {trs : List (TE × TE)} {Θ : List (Key × Od) → Store → Prop} (q : W K te δ fun d δ1 => Wr K trs δ1 fun ks δ2 => Θ ((Sum.inr k, .dat d) :: ks) δ2) : Wr K ((tC (.str k), te) :: trs) δ Θ := fun M L σ H I Q k' => by
  refine q M L σ H I _ fun v d δ1 H1 I1 x1 hv q1 => q1 M L σ H1 I1 _ fun kvs ks as δ2 H2 I2 x2 ho nd hf q2 => ?_
  refine k' ((Sum.inr k, v) :: kvs) ((Sum.inr k, .dat d) :: ks) as δ2 H2 I2 (x1.trans x2) (.dat ?_ ho) nd (fun b hb => ?_) q2
  · have h1 : Rp K (L ++ (as ++ M)) H1 v d := hv.to fun b hb => by
      rcases List.mem_append.mp hb with z | z
      · exact .inl (List.mem_append_left _ z)
      · rcases List.mem_append.mp z with z | z
        · exact .inr (hf b z)
        · exact .inl (List.mem_append_right _ z)
    exact h1.mono (x2.sub fun a h => List.mem_append_left _ h)
  · have nL : b ∉ L := fun z => I1.sl.here b z (hf b hb)
    cases e : H b with
    | none => rfl
    | some o => rw [← hf b hb]; exact (x1 b o nL e).symm
theorem wr_own {k : Str} {trs : List (TE × TE)} {Θ : List (Key × Od) → Store → Prop} (q : Wn K te δ fun ds δ1 => Wr K trs δ1 fun ks δ2 => Θ ((Sum.inr k, .own ds) :: ks) δ2) : Wr K ((tC (.str k), te) :: trs) δ Θ := fun M L σ H I Q k' => by
  refine q M L σ H I _ fun a xs ds δ1 H1 I1 x1 ha hx q1 => q1 (a :: M) L σ _ (I1.more ha) _ fun kvs ks as δ2 H2 I2 x2 ho nd hf q2 => ?_
  have nL : ∀ b, H1 b = none → b ∉ L := fun b hb z => I1.sl.here b z hb
  have fa : ∀ b ∈ as, b ≠ a ∧ H1 b = none := fun b hb => by
    have := hf b hb
    by_cases z : b = a
    · rw [z, upd_same] at this; cases this
    · exact ⟨z, by rw [upd_ne z] at this; exact this⟩
  have up : ∀ b, H1 b = none → H b = none := fun b hb => by
    cases e : H b with
    | none => rfl
    | some o => rw [← hb]; exact (x1 b o (nL b hb) e).symm
  have sb : ∀ c, c ∈ (a :: as) ++ M → c ∈ as ++ (a :: M) := fun c hc => by
    rcases List.mem_cons.mp hc with z | z
    · rw [z]; exact List.mem_append_right _ (.head _)
    · rcases List.mem_append.mp z with z | z
      · exact List.mem_append_left _ z
      · exact List.mem_append_right _ (.tail _ z)
  have sB : ∀ c, c ∈ L ++ ((a :: as) ++ M) → c ∈ L ++ (as ++ (a :: M)) := fun c hc => (List.mem_append.mp hc).elim (fun z => List.mem_append_left _ z) fun z => List.mem_append_right _ (sb c z)
  refine k' ((Sum.inr k, .ref a) :: kvs) ((Sum.inr k, .own ds) :: ks) (a :: as) δ2 H2 (I2.less sb ((I.gx.more fun b hb => List.mem_append_right _ hb).go (Fr.of_xt ((x1.trans (Xt.new ha)).trans x2)))) ((x1.trans (Xt.new ha)).trans x2) (.own (x2 a _ (nL a ha) upd_same) ?_ (ho.to fun b hb => .inl (sB b hb))) (List.nodup_cons.mpr ⟨fun z => (fa a z).1 rfl, nd⟩) (fun b hb => ?_) q2
  · have h1 : RpL K (L ++ ((a :: as) ++ M)) H1 xs ds := hx.to fun b hb => by
      rcases List.mem_append.mp hb with z | z
      · exact .inl (List.mem_append_left _ z)
      · rcases List.mem_cons.mp z with z | z
        · exact .inr (by rw [z]; exact ha)
        · rcases List.mem_append.mp z with z | z
          · exact .inr (fa b z).2
          · exact .inl (List.mem_append_right _ z)
    exact (h1.mono (Xt.new ha)).mono (x2.sub fun a h => List.mem_append_left _ h)
  · rcases List.mem_cons.mp hb with z | z
    · rw [z]; exact up a ha
    · exact up b (fa b z).2
theorem mergeK_id : ∀ (kvs acc : List (Key × V)), ((acc ++ kvs).map (·.1)).Nodup → mergeK acc kvs = acc ++ kvs
  | [], acc, _ => by rw [List.append_nil]; rfl
  | p :: r, acc, h => by
    have e : acc ++ p :: r = (acc ++ [p]) ++ r := by simp
    have hn : valV acc p.1 = none := by
      rw [List.map_append, List.map_cons] at h
      have h2 := (List.nodup_append.mp h).2.2
      unfold valV
      rw [Option.map_eq_none_iff, List.find?_eq_none]
      intro x hx z
      exact h2 x.1 (List.mem_map_of_mem hx) p.1 (.head _) (of_decide_eq_true z)
    show mergeK (putK acc p.1 p.2) r = _
    rw [putK_new p.2 hn, mergeK_id r (acc ++ [(p.1, p.2)]) (by rw [← e]; exact h), e]
theorem OdL.keys {A : List Addr} {H : Hp} : ∀ {vs : List (Key × V)} {ks : List (Key × Od)} {as : List Addr}, OdL K A H vs ks as → vs.map (·.1) = ks.map (·.1)
  | _, _, _, .nil => rfl
  | _, _, _, .dat _ t => by rw [List.map_cons, List.map_cons, t.keys]
  | _, _, _, .own _ _ t => by rw [List.map_cons, List.map_cons, t.keys]
/-- x = {..} -/
theorem x_disp {trs : List (TE × TE)} {i : Nat} (q : Wr K trs δ fun ks δ1 => ks.length ≤ 15 ∧ (ks.map (·.1)).Nodup ∧ ∃ δ2, δ1.set i (.recD ks) = δ2 ∧ n δ2) : Sw K (tAsg (tDisp trs) (gName i)) δ ⟨n, r, b, c⟩ := fun M L σ H I D k' p hp => by
  have nL : ∀ x, H x = none → x ∉ L := fun x hx z => I.sl.here x z hx
  have nM : ∀ x, H x = none → x ∉ M := fun x hx z => I.out x z hx
  refine q (p :: M) L σ _ (I.more hp) _ fun kvs ks as δ1 H1 I1 x1 ho nd hf ⟨h15, hk, δ2, h2, q⟩ => ⟨x1 p _ (nL p hp) upd_same, kvs, rfl, by rw [ho.len]; exact h15, ?_⟩
  rw [mergeK_id kvs [] (by rw [List.nil_append, ho.keys]; exact hk), List.nil_append]
  have fa : ∀ x ∈ as, x ≠ p ∧ H x = none := fun x hx => by
    have := hf x hx
    by_cases z : x = p
    · rw [z, upd_same] at this; cases this
    · exact ⟨z, by rw [upd_ne z] at this; exact this⟩
  have sb : ∀ c, c ∈ (p :: as) ++ M → c ∈ as ++ (p :: M) := fun c hc => by
    rcases List.mem_cons.mp hc with z | z
    · rw [z]; exact List.mem_append_right _ (.head _)
    · rcases List.mem_append.mp z with z | z
      · exact List.mem_append_left _ z
      · exact List.mem_append_right _ (.tail _ z)
  have sB : ∀ c, c ∈ L ++ ((p :: as) ++ M) → c ∈ L ++ (as ++ (p :: M)) := fun c hc => (List.mem_append.mp hc).elim (fun z => List.mem_append_left _ z) fun z => List.mem_append_right _ (sb c z)
  have hX : Xt (L ++ (as ++ (p :: M))) H1 (upd H1 p (.dK kvs)) := Xt.put (List.mem_append_right _ (List.mem_append_right _ (.head _)))
  have xx : Xt L H (upd H1 p (.dK kvs)) := fun b o nb e => by
    have ne : b ≠ p := ne_of_none e hp
    rw [upd_ne ne]
    exact x1 b o nb (by rw [upd_ne ne]; exact e)
  have I2 : Ib K ((p :: as) ++ M) L σ δ1 (upd H1 p (.dK kvs)) := ⟨⟨(I1.sl.step hX fun b hb => upd_ne (fun z => nL p hp (by rw [← z]; exact hb))).to fun b hb => .inl (sB b hb), I1.nd, fun a ha z => I1.lm a ha (sb a z), fun a ha => by
    by_cases z : a = p
    · rw [z, upd_same]; exact fun z => nomatch z
    · rw [upd_ne z]; exact I1.out a (sb a ha)⟩, (I.gx.more fun b hb => List.mem_append_right _ hb).go (Fr.of_xt xx)⟩
  have hg : Grp K (L ++ ((p :: as) ++ M)) (upd H1 p (.dK kvs)) p (.recD ks) as := .recD upd_same ((ho.step hX fun b hb => upd_ne (fa b hb).1).to fun b hb => .inl (sB b hb))
  have hA : ∀ b ∈ p :: as, H b = none := fun b hb => by
    rcases List.mem_cons.mp hb with z | z
    · rw [z]; exact hp
    · exact (fa b z).2
  obtain ⟨L', I3, f⟩ := I2.setG (M0 := []) i (List.nodup_cons.mpr ⟨fun z => (fa p z).1 rfl, nd⟩) (fun b hb => nM b (hA b hb)) hA xx I.gx hg
  rw [h2] at I3
  exact k'.nx L' _ δ2 _ I3 f q
end
end My

namespace My
open PySem PySem.Spec PyProof.Rows L2
section
variable {K : PySem.W.Frag} [Xg K] {δ δ2 : Store} {ta tb te tl td ty : TE} {tr : TA} {t u tu : TS} {g : TG} {n b c : Store → Prop} {r : Dt → Store → Prop} {Φ : Dt → Store → Prop} {Ψ : List Dt → Store → Prop}
/-! ### built-in functions of scalars -/
theorem w_int1 (q : Wa K tr δ fun ds δ1 => ∃ i, ds = [.int i] ∧ Φ (.int i) δ1) : W K (tCB wInt1 tr) δ Φ := w_cb q fun M L σ H vs ds δ2 I hv hp Q k => by
  obtain ⟨i, rfl, q⟩ := hp
  cases hv with | cons h t => cases t; rw [h.inv_int]; exact .inl ⟨i, rfl, k _ _ _ _ I (Xt.refl _ _) (.int _) q⟩
theorem w_int1b (q : Wa K tr δ fun ds δ1 => ∃ i : Bool, ds = [.bl i] ∧ Φ (.int (if i then 1 else 0)) δ1) : W K (tCB wInt1 tr) δ Φ := w_cb q fun M L σ H vs ds δ2 I hv hp Q k => by
  obtain ⟨i, rfl, q⟩ := hp
  cases hv with | cons h t => cases t; rw [h.inv_bl]; exact .inr ⟨i, rfl, k _ _ _ _ I (Xt.refl _ _) (.int _) q⟩
theorem w_abs (q : Wa K tr δ fun ds δ1 => ∃ i : Int, ds = [.int i] ∧ Φ (.int (if i < 0 then -i else i)) δ1) : W K (tCB wAbs tr) δ Φ := w_cb q fun M L σ H vs ds δ2 I hv hp Q k => by
  obtain ⟨i, rfl, q⟩ := hp
  cases hv with | cons h t => cases t; rw [h.inv_int]; exact ⟨i, rfl, k _ _ _ _ I (Xt.refl _ _) (.int _) q⟩
theorem w_max2 (q : Wa K tr δ fun ds δ1 => ∃ i j : Int, ds = [.int i, .int j] ∧ Φ (.int (if j > i then j else i)) δ1) : W K (tCB wMax2 tr) δ Φ := w_cb q fun M L σ H vs ds δ2 I hv hp Q k => by
  obtain ⟨i, j, rfl, q⟩ := hp
  cases hv with | cons h t => cases t with | cons h2 t => cases t; rw [h.inv_int, h2.inv_int]; exact ⟨i, j, rfl, k _ _ _ _ I (Xt.refl _ _) (.int _) q⟩
theorem w_min2 (q : Wa K tr δ fun ds δ1 => ∃ i j : Int, ds = [.int i, .int j] ∧ Φ (.int (if j < i then j else i)) δ1) : W K (tCB wMin2 tr) δ Φ := w_cb q fun M L σ H vs ds δ2 I hv hp Q k => by
  obtain ⟨i, j, rfl, q⟩ := hp
  cases hv with | cons h t => cases t with | cons h2 t => cases t; rw [h.inv_int, h2.inv_int]; exact ⟨i, j, rfl, k _ _ _ _ I (Xt.refl _ _) (.int _) q⟩
/-! ### dicts as lists -/
theorem RpK.keys {A : List Addr} {H : Hp} : ∀ {vs : List (Key × V)} {ds : List (Key × Dt)}, RpK K A H vs ds → vs.map (·.1) = ds.map (·.1)
  | _, _, .nil => rfl
  | _, _, .cons _ t => by rw [List.map_cons, List.map_cons, t.keys]
theorem RpK.vals {A : List Addr} {H : Hp} : ∀ {vs : List (Key × V)} {ds : List (Key × Dt)}, RpK K A H vs ds → RpL K A H (vs.map Prod.snd) (ds.map Prod.snd)
  | _, _, .nil => .nil
  | _, _, .cons h t => .cons h t.vals
theorem wn_listD (q : Wa K tr δ fun ds δ1 => ∃ ks ss, ds = [.dct ks] ∧ ks.map (·.1) = ss.map (Sum.inr : Str → Key) ∧ (∀ s ∈ ss, strG s) ∧ Ψ (strsD ss) δ1) : Wn K (tCB wListDR tr) δ Ψ := wn_cb q fun M L σ H vs ds δ2 I hv hp Q k => by
  obtain ⟨ks, ss, rfl, he, hs, q⟩ := hp
  cases hv with
  | cons h t =>
    cases t
    obtain ⟨p, kvs, rfl, _, hx, hr⟩ := h.inv_dct
    refine ⟨p, kvs, rfl, hx, fun l hl => ?_⟩
    have e : (kvs.map fun kv => kV kv.1) = ss.map V.str := by
      have e1 : (kvs.map fun kv => kV kv.1) = (kvs.map (·.1)).map kV := by rw [List.map_map] <;> rfl
      rw [e1, hr.keys, he, List.map_map] <;> rfl
    rw [e]
    exact k l _ _ δ2 H I (Xt.refl _ _) hl (RpL.of_strs hs) q
theorem wn_listVals (q : W K td δ fun o δ1 => ∃ ks, o = .dct ks ∧ Ψ (ks.map (·.2)) δ1) : Wn K (tCB wListVR (tCons (tValsR td) tNil)) δ Ψ := fun M L σ H I Q k => q M L σ H I _ fun v o δ1 H1 I1 x1 hv ⟨ks, ho, q⟩ => by
  subst ho
  obtain ⟨d, kvs, rfl, _, hx, hr⟩ := hv.inv_dct
  refine ⟨d, kvs, rfl, hx, fun v hn => ⟨v, d, kvs, rfl, upd_same, ?_, fun l hl => ?_⟩⟩
  · rcases hx with hx | ⟨o, hx⟩
    · exact .inl (by rw [upd_ne (ne_of_none hx hn)]; exact hx)
    · exact .inr ⟨o, by rw [upd_ne (ne_of_none hx hn)]; exact hx⟩
  · exact k l _ _ δ1 _ (I1.new hn) (x1.trans (Xt.new hn)) hl (hr.vals.mono (Xt.new hn)) q
theorem wn_sortedD (q : Wa K tr δ fun ds δ1 => ∃ ks ss, ds = [.dct ks] ∧ ks.map (·.1) = ss.map (Sum.inr : Str → Key) ∧ (∀ s ∈ ss, strG s) ∧ ss.length < 64 ∧ ∀ ys : List Str, ys.Perm ss → sortedS ys = true → Ψ (strsD ys) δ1) : Wn K (tCB wSortedD tr) δ Ψ := wn_cb q fun M L σ H vs ds δ2 I hv hp Q k => by
  obtain ⟨ks, ss, rfl, he, hs, hl, q⟩ := hp
  cases hv with
  | cons h t =>
    cases t
    obtain ⟨p, kvs, rfl, _, hx, hr⟩ := h.inv_dct
    exact ⟨p, kvs, ss, rfl, hx, by rw [hr.keys]; exact he, hl, fun ys l hp' hso hn => k l _ _ δ2 H I (Xt.refl _ _) hn (RpL.of_strs fun s h => hs s (hp'.mem_iff.mp h)) (q ys hp' hso)⟩
theorem wn_sortedS (q : Wa K tr δ fun ds δ1 => ∃ ss, ds = [.lst (strsD ss)] ∧ ss.length < 64 ∧ ∀ ys : List Str, ys.Perm ss → sortedS ys = true → Ψ (strsD ys) δ1) : Wn K (tCB (rSortedS K) tr) δ Ψ := wn_cb q fun M L σ H vs ds δ2 I hv hp Q k => by
  obtain ⟨ss, rfl, hl, q⟩ := hp
  cases hv with
  | cons h t =>
    cases t
    obtain ⟨p, xs, rfl, _, hx, hr⟩ := h.inv_lst
    obtain ⟨e, hs⟩ := hr.strs
    subst e
    exact ⟨p, ss, rfl, .inl (.inl hx), hl, fun ys l hp' hso hn => k l _ _ δ2 H I (Xt.refl _ _) hn (RpL.of_strs fun s h => hs s (hp'.mem_iff.mp h)) (q ys hp' hso)⟩
theorem w_all (q : Wa K tr δ fun ds δ1 => ∃ bs, ds = [.lst (blsD bs)] ∧ Φ (.bl (bs.all id)) δ1) : W K (tCB (rAll K) tr) δ Φ := w_cb q fun M L σ H vs ds δ2 I hv hp Q k => by
  obtain ⟨bs, rfl, q⟩ := hp
  cases hv with
  | cons h t =>
    cases t
    obtain ⟨p, xs, rfl, _, hx, hr⟩ := h.inv_lst
    rw [hr.bls] at hx
    exact ⟨p, bs, rfl, .inl (.inl hx), k _ _ δ2 H I (Xt.refl _ _) (.bl _) q⟩
/-! ### in, of texts -/
theorem inV_strs (s : Str) : ∀ ss : List Str, inV (.str s) (ss.map V.str) = decide (s ∈ ss)
  | [] => by simp [inV]
  | x :: ss => by
    have ih := inV_strs s ss
    unfold inV at ih ⊢
    rw [List.map_cons, List.any_cons, ih]
    show (x == s || _) = _
    by_cases e : x = s
    · subst e; simp
    · have e2 : ¬ s = x := fun z => e z.symm
      simp [e, e2]
theorem flat_strs (ss : List Str) : (ss.map V.str).all flatV = true := by
  rw [List.all_map, List.all_eq_true]
  exact fun _ _ => rfl
theorem w_inS {neg : Bool} (q : W K ta δ fun a δ1 => W K tb δ1 fun d δ2 => ∃ s ss, a = .str s ∧ d.items = some (strsD ss) ∧ Φ (.bl (if neg = true then !decide (s ∈ ss) else decide (s ∈ ss))) δ2) : W K (tOp (rIn K neg) ta tb) δ Φ :=
  w_op q fun M L σ H v u a b δ2 I hv hu hp Q k => by
    obtain ⟨s, ss, rfl, hd, q⟩ := hp
    obtain ⟨p, xs, rfl, hx, hr⟩ := hu.its hd
    rw [hv.inv_str.1]
    obtain ⟨e, _⟩ := hr.strs
    subst e
    refine ⟨p, _, rfl, hx, rfl, flat_strs ss, ?_⟩
    rw [inV_strs]
    exact k _ _ _ _ I (Xt.refl _ _) (.bl _) q
/-! ### == of data -/
mutual
def Dt.py : Dt → PyData
  | .non => .none
  | .bl b => .bool b
  | .int i => .int i
  | .str s => .str s
  | .lst ds => .list (Dt.pyL ds)
  | .tup ds => .tuple (Dt.pyL ds)
  | .dct _ => .none
  | .ins _ _ => .none
  | .exc _ _ _ => .none
def Dt.pyL : List Dt → List PyData
  | [] => []
  | d :: ds => d.py :: Dt.pyL ds
end
mutual
/-- no dict and no instance in it, at most so deep -/
def Dt.pur : Nat → Dt → Bool
  | _, .non => true
  | _, .bl _ => true
  | _, .int _ => true
  | _, .str _ => true
  | k + 1, .lst ds => Dt.purL k ds
  | k + 1, .tup ds => Dt.purL k ds
  | _, _ => false
def Dt.purL : Nat → List Dt → Bool
  | _, [] => true
  | k, d :: ds => d.pur k && Dt.purL k ds
end
mutual
theorem Rp.dp {A : List Addr} {H : Hp} {k : Nat} : ∀ {d : Dt} {v : V}, Rp K A H v d → d.pur k = true → Dp K H v d.py
  | .non, _, h, _ => by rw [h.inv_non]; exact .non
  | .bl _, _, h, _ => by rw [h.inv_bl]; exact .bl _
  | .int _, _, h, _ => by rw [h.inv_int]; exact .int _
  | .str _, _, h, _ => by rw [h.inv_str.1]; exact .str _
  | .lst ds, _, h, e => by
    obtain ⟨a, xs, rfl, _, hx, hr⟩ := h.inv_lst
    cases k with
    | zero => simp [Dt.pur] at e
    | succ k => exact .lst (.inl (.inl hx)) (RpL.dp hr (by simpa [Dt.pur] using e))
  | .tup ds, _, h, e => by
    obtain ⟨a, xs, rfl, hx, hr⟩ := h.inv_tup
    cases k with
    | zero => simp [Dt.pur] at e
    | succ k => exact .tup hx (RpL.dp hr (by simpa [Dt.pur] using e))
  | .dct _, _, _, e => by cases k <;> simp [Dt.pur] at e
  | .ins _ _, _, _, e => by cases k <;> simp [Dt.pur] at e
  | .exc _ _ _, _, _, e => by cases k <;> simp [Dt.pur] at e
theorem RpL.dp {A : List Addr} {H : Hp} {k : Nat} : ∀ {ds : List Dt} {vs : List V}, RpL K A H vs ds → Dt.purL k ds = true → DpAll K H vs (Dt.pyL ds)
  | [], _, h, _ => by cases h; exact .nil
  | d :: ds, _, h, e => by
    cases h with
    | cons h t =>
      have e' : (d.pur k && Dt.purL k ds) = true := by simpa [Dt.purL] using e
      rw [Bool.and_eq_true] at e'
      exact .cons (Rp.dp h e'.1) (RpL.dp t e'.2)
end
theorem strOk_of {s : Str} (h : strG s) : PyData.strOk s = true := by
  have := h.2
  unfold PyData.strOk
  rw [Array.all_eq_true_iff_forall_mem] at this ⊢
  intro x hx
  have := of_decide_eq_true (this x hx)
  exact decide_eq_true (by omega)
mutual
theorem Rp.lay {A : List Addr} {H : Hp} {k : Nat} : ∀ {d : Dt} {v : V}, Rp K A H v d → d.pur k = true → d.py.canLay0 = true ∧ d.py.depth ≤ k
  | .non, _, _, _ => by simp [Dt.py, PyData.canLay0, PyData.depth]
  | .bl _, _, _, _ => by simp [Dt.py, PyData.canLay0, PyData.depth]
  | .int _, _, _, _ => by simp [Dt.py, PyData.canLay0, PyData.depth]
  | .str _, _, h, _ => by simp [Dt.py, PyData.canLay0, PyData.depth, strOk_of h.inv_str.2]
  | .lst ds, _, h, e => by
    obtain ⟨a, xs, rfl, _, hx, hr⟩ := h.inv_lst
    cases k with
    | zero => simp [Dt.pur] at e
    | succ k =>
      have := RpL.lay hr (k := k) (by simpa [Dt.pur] using e)
      simp only [Dt.py, PyData.canLay0, PyData.depth]
      exact ⟨this.1, by omega⟩
  | .tup ds, _, h, e => by
    obtain ⟨a, xs, rfl, hx, hr⟩ := h.inv_tup
    cases k with
    | zero => simp [Dt.pur] at e
    | succ k =>
      have := RpL.lay hr (k := k) (by simpa [Dt.pur] using e)
      simp only [Dt.py, PyData.canLay0, PyData.depth]
      exact ⟨this.1, by omega⟩
  | .dct _, _, _, e => by cases k <;> simp [Dt.pur] at e
  | .ins _ _, _, _, e => by cases k <;> simp [Dt.pur] at e
  | .exc _ _ _, _, _, e => by cases k <;> simp [Dt.pur] at e
theorem RpL.lay {A : List Addr} {H : Hp} {k : Nat} : ∀ {ds : List Dt} {vs : List V}, RpL K A H vs ds → Dt.purL k ds = true → PyData.canLayAll0 (Dt.pyL ds) = true ∧ PyData.depthAll (Dt.pyL ds) ≤ k
  | [], _, _, _ => by simp [Dt.pyL, PyData.canLayAll0, PyData.depthAll]
  | d :: ds, _, h, e => by
    cases h with
    | cons h t =>
      have e' : (d.pur k && Dt.purL k ds) = true := by simpa [Dt.purL] using e
      rw [Bool.and_eq_true] at e'
      have h1 := Rp.lay h e'.1
      have h2 := RpL.lay t e'.2
      simp only [Dt.pyL, PyData.canLayAll0, PyData.depthAll, h1.1, h2.1, Bool.and_self]
      exact ⟨trivial, Nat.max_le.mpr ⟨h1.2, h2.2⟩⟩
end
theorem Rp.shp {A : List Addr} {H : Hp} {d : Dt} {v : V} (h : Rp K A H v d) (e : d.pur 60 = true) : SeqAt.shaped d.py = true := by
  have := h.lay e
  unfold SeqAt.shaped
  rw [this.1, Bool.true_and]
  exact decide_eq_true (by omega)
def Dt.eqv (a b : Dt) : Bool := PyData.eqv a.py b.py
theorem w_eqD (q : W K ta δ fun a δ1 => W K tb δ1 fun d δ2 => a.pur 60 = true ∧ d.pur 60 = true ∧ Φ (.bl (a.eqv d)) δ2) : W K (tOp (rEqD K) ta tb) δ Φ :=
  w_op q fun M L σ H v u a b δ2 I hv hu hp Q k => ⟨a.py, b.py, hv.dp hp.1, hu.dp hp.2.1, hv.shp hp.1, hu.shp hp.2.1, k _ _ _ _ I (Xt.refl _ _) (.bl _) hp.2.2⟩
theorem w_neD (q : W K ta δ fun a δ1 => W K tb δ1 fun d δ2 => a.pur 60 = true ∧ d.pur 60 = true ∧ Φ (.bl (!a.eqv d)) δ2) : W K (tOp (rNeD K) ta tb) δ Φ :=
  w_op q fun M L σ H v u a b δ2 I hv hu hp Q k => ⟨a.py, b.py, hv.dp hp.1, hu.dp hp.2.1, hv.shp hp.1, hu.shp hp.2.1, k _ _ _ _ I (Xt.refl _ _) (.bl _) hp.2.2⟩
mutual
theorem Dt.eqv_self {k : Nat} : ∀ {d : Dt}, d.pur k = true → d.eqv d = true
  | .non, _ => rfl
  | .bl b, _ => by simp [Dt.eqv, Dt.py, PyData.eqv]
  | .int _, _ => by simp [Dt.eqv, Dt.py, PyData.eqv]
  | .str _, _ => by simp [Dt.eqv, Dt.py, PyData.eqv]
  | .lst ds, e => by
    cases k with
    | zero => simp [Dt.pur] at e
    | succ k => simp only [Dt.eqv, Dt.py, PyData.eqv]; exact Dt.eqvL_self (k := k) (by simpa [Dt.pur] using e)
  | .tup ds, e => by
    cases k with
    | zero => simp [Dt.pur] at e
    | succ k => simp only [Dt.eqv, Dt.py, PyData.eqv]; exact Dt.eqvL_self (k := k) (by simpa [Dt.pur] using e)
  | .dct _, e => by cases k <;> simp [Dt.pur] at e
  | .ins _ _, e => by cases k <;> simp [Dt.pur] at e
theorem Dt.eqvL_self {k : Nat} : ∀ {ds : List Dt}, Dt.purL k ds = true → PyData.eqvAll (Dt.pyL ds) (Dt.pyL ds) = true
  | [], _ => by simp [Dt.pyL, PyData.eqvAll]
  | d :: ds, e => by
    have e' : (d.pur k && Dt.purL k ds) = true := by simpa [Dt.purL] using e
    rw [Bool.and_eq_true] at e'
    have h1 := Dt.eqv_self e'.1
    have h2 := Dt.eqvL_self e'.2
    unfold Dt.eqv at h1
    simp only [Dt.pyL, PyData.eqvAll, h1, h2, Bool.and_self]
end
end
end My

namespace My
open PySem PySem.Spec PyProof.Rows L2
section
variable {K : PySem.W.Frag} [Xg K] {δ δ2 : Store} {ta tb te tl td ty : TE} {tr : TA} {t u tu : TS} {g : TG} {n b c : Store → Prop} {r : Dt → Store → Prop} {Φ : Dt → Store → Prop} {Ψ : List Dt → Store → Prop}
/-! ### isinstance -/
def Dt.tyS : Dt → Option String
  | .non => some "NoneType"
  | .bl _ => some "bool"
  | .int _ => some "int"
  | .str _ => some "str"
  | .lst _ => some "list"
  | .tup _ => some "tuple"
  | .dct _ => some "dict"
  | .ins _ _ => none
  | .exc _ _ _ => none
theorem sqT_ty {H : Hp} {a : Addr} {xs : List V} (h : SqT K H a xs) : TyX K H (.ref a) (.type "tuple") := by
  rcases h with h | ⟨o, its, m, h1, h2, _⟩
  · rcases h with h | ⟨o, h⟩
    · exact .base (.tup h)
    · exact .fTuple h
  · exact .kTuple h1 h2
theorem Rp.tyx {A : List Addr} {H : Hp} {v : V} {d : Dt} {s : String} (h : Rp K A H v d) (e : d.tyS = some s) : TyX K H v (.type s) := by
  cases h with
  | non => cases e; exact .base .non
  | bl b => cases e; exact .base (.bl b)
  | int i => cases e; exact .base (.int i)
  | str _ => cases e; exact .base (.str _)
  | lst n h _ => cases e; exact .base (.lst h)
  | tup n h _ => cases e; exact sqT_ty (.inl h)
  | wtp h _ => cases e; exact sqT_ty (h H)
  | dct n h _ =>
    cases e
    exact .base (.dK h)
  | ins n h _ => cases e
  | exc0 => cases e
  | exc1 _ _ _ => cases e
/-- what isinstance asks of an own class -/
structure ClI (K : PySem.W.Frag) (C : Addr) : Prop where
  cl : Cls K C
  ha : PySem.W.findIn K (.ref C) "__class__" = some (some (.builtin "object.__class__"))
  hn : PySem.W.specialIn K (.builtin "object.__class__") "__get__" = some (some (.builtin "getset_descriptor.__get__"))
  tk : PySem.W.takesIn K (.builtin "object.__class__") = some true
  hm : PySem.W.mroIn K C (.type "object") = some true
theorem w_isT {s : String} (q : W K te δ fun d δ1 => ∃ ty x, d.tyS = some ty ∧ kitB ty s = some x ∧ Φ (.bl x) δ1) : W K (tCB (rIsi K) (tCons te (tCons (tC (.ty s)) tNil))) δ Φ := fun M L σ H I Q k => q M L σ H I _ fun v d δ1 H1 I1 x1 hv ⟨ty, x, h1, h2, q⟩ =>
  ⟨v, .ty s, .type ty, .type s, x, rfl, .ty s, hv.tyx h1, kit_ty h2, k _ _ δ1 H1 I1 x1 (.bl _) q⟩
/-- an own class, the value one of its instances | a built-in value -/
theorem w_isC {C : Addr} (hc : ClI K C) (q : W K te δ fun d δ1 => ∃ gs, d = .ins C gs ∧ Φ (.bl true) δ1) : W K (tCB (rIsi K) (tCons te (tCons (tC (.ref C)) tNil))) δ Φ := fun M L σ H I Q k => q M L σ H I _ fun v d δ1 H1 I1 x1 hv ⟨gs, h1, q⟩ => by
  subst h1
  obtain ⟨a, dx, fs, rfl, _, ha, _⟩ := id hv.inv_ins
  refine ⟨.ref a, .ref C, .ref C, .ref C, true, rfl, .own C, .base (.ins ha hc.cl hc.ha hc.hn hc.tk hc.hm), ?_, k _ _ δ1 H1 I1 x1 (.bl _) q⟩
  unfold PySem.W.kitOne
  exact if_pos (by simp)
theorem w_isCb {C : Addr} (q : W K te δ fun d δ1 => ∃ ty x, d.tyS = some ty ∧ PySem.W.kitOne K (.type ty) (.ref C) = some x ∧ Φ (.bl x) δ1) : W K (tCB (rIsi K) (tCons te (tCons (tC (.ref C)) tNil))) δ Φ := fun M L σ H I Q k => q M L σ H I _ fun v d δ1 H1 I1 x1 hv ⟨ty, x, h1, h2, q⟩ =>
  ⟨v, .ref C, .type ty, .ref C, x, rfl, .own C, hv.tyx h1, h2, k _ _ δ1 H1 I1 x1 (.bl _) q⟩
/-! ### __init__ with one tuple of all arguments -/
theorem bind_self {fd : FuncData} {ps : List Str} {nm : Str} {us rest : List Value} (hlen : us.length = ps.length) (h : ∀ us rest : List Value, us.length = ps.length → bindArgs fd ⟨us ++ rest, []⟩ = (newTuple rest >>= fun t => pure (ps.zip us ++ [(nm, t)]))) : bindArgs fd ⟨us ++ rest, []⟩ = (newTuple rest >>= fun t => pure (ps.zip us ++ [(nm, t)])) := h us rest hlen
end
end My

namespace My
open PySem PySem.Spec PyProof.Rows L2
/-! ### leaves: what the data must look like -/
def strGb (s : Str) : Bool := decide (s.length ≤ 100000) && s.cps.all (fun c => decide (c < 128))
theorem strG_of {s : Str} (h : strGb s = true) : strG s := by
  unfold strGb at h
  rw [Bool.and_eq_true] at h
  exact ⟨of_decide_eq_true h.1, h.2⟩
def LI1 (a : Dt) (P : Int → Prop) : Prop := ∃ i, a = .int i ∧ P i
def LI2 (a b : Dt) (P : Int → Int → Prop) : Prop := ∃ i j, a = .int i ∧ b = .int j ∧ P i j
def LB1 (a : Dt) (P : Bool → Prop) : Prop := ∃ b, a = .bl b ∧ P b
def LEq (a b : Dt) (P : Bool → Prop) : Prop := ∃ c, eqD a b = some c ∧ P c
def LIx (a b : Option (List Dt)) (x : Dt) (P : Dt → Prop) : Prop := ∃ ds i d, a = some ds ∧ x = .int i ∧ atI ds i = some d ∧ P d
def Dt.tupl : Dt → Option (List Dt)
  | .tup ds => some ds
  | _ => none
def Dt.lstl : Dt → Option (List Dt)
  | .lst ds => some ds
  | _ => none
def LIxT (a x : Dt) (P : Dt → Prop) : Prop := ∃ ds i d, a = .tup ds ∧ x = .int i ∧ atI ds i = some d ∧ P d
def LIxL (a x : Dt) (P : Dt → Prop) : Prop := ∃ ds i d, a = .lst ds ∧ x = .int i ∧ atI ds i = some d ∧ P d
def LLen (a : List Dt) (P : Nat → Prop) : Prop := ∃ d n, a = [d] ∧ d.len = some n ∧ P n
def LLenS (a : List Dt) (P : Str → Prop) : Prop := ∃ s, a = [.str s] ∧ P s
def LIts (a : List Dt) (P : List Dt → Prop) : Prop := ∃ d es, a = [d] ∧ d.items = some es ∧ P es
def LCat (a b : Dt) (P : List Dt → Prop) : Prop := ∃ ds es, a = .lst ds ∧ b = .lst es ∧ ds.length + es.length ≤ 100000 ∧ P (ds ++ es)
def LCatA (a b : Dt) (P : List Dt → Prop) : Prop := ∃ ds es, a = .tup ds ∧ b = .tup es ∧ ds.length + es.length ≤ 100000 ∧ P (ds ++ es)
def LRep (a b : Dt) (P : List Dt → Prop) : Prop := ∃ ds j, a = .lst ds ∧ b = .int j ∧ 0 ≤ j ∧ j < 1000 ∧ ds.length * j.toNat ≤ 100000 ∧ P (List.replicate j.toNat ds).flatten
def LSlT (a : Dt) (l u : Option Int) (P : List Dt → Prop) : Prop := ∃ ds, a = .tup ds ∧ P (cutD ds l u)
def LSlL (a : Dt) (l u : Option Int) (P : List Dt → Prop) : Prop := ∃ ds, a = .lst ds ∧ P (cutD ds l u)
def LDg (o i : Dt) (P : Dt → Prop) : Prop := ∃ ks k d, o = .dct ks ∧ i.key = some k ∧ lkD ks k = some d ∧ P d
def LDi (i o : Dt) (P : Bool → Prop) : Prop := ∃ ks k, o = .dct ks ∧ i.key = some k ∧ P (lkD ks k).isSome
def LInS (a d : Dt) (P : Bool → Prop) : Prop := ∃ s ss, a = .str s ∧ d.items = some (strsD ss) ∧ P (decide (s ∈ ss))
def LTy (s : String) (d : Dt) (P : Bool → Prop) : Prop := ∃ ty x, d.tyS = some ty ∧ kitB ty s = some x ∧ P x
def LA1 (a : List Dt) (P : Int → Prop) : Prop := ∃ i, a = [.int i] ∧ P i
def LN1 (a : List Dt) (P : Int → Prop) : Prop := (∃ i, a = [.int i] ∧ P i) ∨ ∃ b : Bool, a = [.bl b] ∧ P (if b then 1 else 0)
theorem lf_N1 {i : Int} {P : Int → Prop} (q : P i) : LN1 [.int i] P := .inl ⟨_, rfl, q⟩
theorem lf_N1b {b : Bool} {P : Int → Prop} (q : P (if b then 1 else 0)) : LN1 [.bl b] P := .inr ⟨_, rfl, q⟩
def LA2 (a : List Dt) (P : Int → Int → Prop) : Prop := ∃ i j, a = [.int i, .int j] ∧ P i j
theorem lf_I1 {i : Int} {P : Int → Prop} (q : P i) : LI1 (.int i) P := ⟨i, rfl, q⟩
theorem lf_I2 {i j : Int} {P : Int → Int → Prop} (q : P i j) : LI2 (.int i) (.int j) P := ⟨i, j, rfl, rfl, q⟩
theorem lf_B1 {i : Bool} {P : Bool → Prop} (q : P i) : LB1 (.bl i) P := ⟨i, rfl, q⟩
theorem lf_eqI {i j : Int} {P : Bool → Prop} (q : P (decide (i = j))) : LEq (.int i) (.int j) P := ⟨_, rfl, q⟩
theorem lf_eqS {i j : Str} {P : Bool → Prop} (q : P (decide (i = j))) : LEq (.str i) (.str j) P := ⟨_, rfl, q⟩
theorem lf_eqB {i j : Bool} {P : Bool → Prop} (q : P (decide (i = j))) : LEq (.bl i) (.bl j) P := ⟨_, rfl, q⟩
theorem lf_ixT {ds : List Dt} {i : Int} {d : Dt} {P : Dt → Prop} (h : atI ds i = some d) (q : P d) : LIxT (.tup ds) (.int i) P := ⟨ds, i, d, rfl, rfl, h, q⟩
theorem lf_ixL {ds : List Dt} {i : Int} {d : Dt} {P : Dt → Prop} (h : atI ds i = some d) (q : P d) : LIxL (.lst ds) (.int i) P := ⟨ds, i, d, rfl, rfl, h, q⟩
theorem lf_lenL {ds : List Dt} {P : Nat → Prop} (q : P ds.length) : LLen [.lst ds] P := ⟨_, _, rfl, rfl, q⟩
theorem lf_lenT {ds : List Dt} {P : Nat → Prop} (q : P ds.length) : LLen [.tup ds] P := ⟨_, _, rfl, rfl, q⟩
theorem lf_lenS {s : Str} {P : Str → Prop} (q : P s) : LLenS [.str s] P := ⟨_, rfl, q⟩
theorem lf_itsL {ds : List Dt} {P : List Dt → Prop} (q : P ds) : LIts [.lst ds] P := ⟨_, _, rfl, rfl, q⟩
theorem lf_itsT {ds : List Dt} {P : List Dt → Prop} (q : P ds) : LIts [.tup ds] P := ⟨_, _, rfl, rfl, q⟩
theorem lf_cat {ds es : List Dt} {P : List Dt → Prop} (h : ds.length + es.length ≤ 100000) (q : P (ds ++ es)) : LCat (.lst ds) (.lst es) P := ⟨ds, es, rfl, rfl, h, q⟩
theorem lf_catA {ds es : List Dt} {P : List Dt → Prop} (h : ds.length + es.length ≤ 100000) (q : P (ds ++ es)) : LCatA (.tup ds) (.tup es) P := ⟨ds, es, rfl, rfl, h, q⟩
theorem lf_rep {ds : List Dt} {j : Int} {P : List Dt → Prop} (h : 0 ≤ j ∧ j < 1000 ∧ ds.length * j.toNat ≤ 100000) (q : P (List.replicate j.toNat ds).flatten) : LRep (.lst ds) (.int j) P := ⟨ds, j, rfl, rfl, h.1, h.2.1, h.2.2, q⟩
theorem lf_slT {ds : List Dt} {l u : Option Int} {P : List Dt → Prop} (q : P (cutD ds l u)) : LSlT (.tup ds) l u P := ⟨ds, rfl, q⟩
theorem lf_slL {ds : List Dt} {l u : Option Int} {P : List Dt → Prop} (q : P (cutD ds l u)) : LSlL (.lst ds) l u P := ⟨ds, rfl, q⟩
theorem lf_dg {ks : List (Key × Dt)} {s : Str} {d : Dt} {P : Dt → Prop} (h : lkD ks (Sum.inr s : Key) = some d) (q : P d) : LDg (.dct ks) (.str s) P := ⟨ks, _, d, rfl, rfl, h, q⟩
theorem lf_di {ks : List (Key × Dt)} {s : Str} {P : Bool → Prop} (q : P (lkD ks (Sum.inr s : Key)).isSome) : LDi (.str s) (.dct ks) P := ⟨ks, _, rfl, rfl, q⟩
theorem lf_inL {s : Str} {ss : List Str} {P : Bool → Prop} (q : P (decide (s ∈ ss))) : LInS (.str s) (.lst (strsD ss)) P := ⟨s, ss, rfl, rfl, q⟩
theorem lf_inT {s : Str} {ss : List Str} {P : Bool → Prop} (q : P (decide (s ∈ ss))) : LInS (.str s) (.tup (strsD ss)) P := ⟨s, ss, rfl, rfl, q⟩
theorem lf_ty {s ty : String} {d : Dt} {x : Bool} {P : Bool → Prop} (h1 : d.tyS = some ty) (h2 : kitB ty s = some x) (q : P x) : LTy s d P := ⟨ty, x, h1, h2, q⟩
theorem lf_A1 {i : Int} {P : Int → Prop} (q : P i) : LA1 [.int i] P := ⟨_, rfl, q⟩
theorem lf_A2 {i j : Int} {P : Int → Int → Prop} (q : P i j) : LA2 [.int i, .int j] P := ⟨_, _, rfl, q⟩
theorem lf_yes {A B : Prop} (q : A) : if (true : Bool) = true then A else B := by rw [if_pos rfl]; exact q
theorem lf_no {A B : Prop} (q : B) : if (false : Bool) = true then A else B := by rw [if_neg (by decide)]; exact q
theorem lf_if {A B : Prop} {v : Bool} (q : v = true → A) (q2 : v = false → B) : if v = true then A else B := by
  cases v with
  | true => rw [if_pos rfl]; exact q rfl
  | false => rw [if_neg (by decide)]; exact q2 rfl
section
variable {K : PySem.W.Frag} [Xg K] {δ δ2 : Store} {ta tb tc te tl td ty tx : TE} {tr : TA} {t u tu : TS} {g : TG} {n b c : Store → Prop} {r : Dt → Store → Prop} {Φ : Dt → Store → Prop} {Ψ : List Dt → Store → Prop}
theorem y_I0i {f : Int → Int → Int} (q : W K ta δ fun a δ1 => W K tb δ1 fun b δ2 => LI2 a b fun i j => Φ (.int (f i j)) δ2) : W K (tOp (rI0 fun i j => .int (f i j)) ta tb) δ Φ := w_I0 (q.imp fun a δ1 h => h.imp fun b δ2 ⟨i, j, h1, h2, h3⟩ => ⟨i, j, h1, h2, rfl, h3⟩)
theorem y_I0b {f : Int → Int → Bool} (q : W K ta δ fun a δ1 => W K tb δ1 fun b δ2 => LI2 a b fun i j => Φ (.bl (f i j)) δ2) : W K (tOp (rI0 fun i j => .bl (f i j)) ta tb) δ Φ := w_I0 (q.imp fun a δ1 h => h.imp fun b δ2 ⟨i, j, h1, h2, h3⟩ => ⟨i, j, h1, h2, rfl, h3⟩)
theorem y_Ii {C : Int → Int → Prop} {f : Int → Int → Int} (q : W K ta δ fun a δ1 => W K tb δ1 fun b δ2 => LI2 a b fun i j => C i j ∧ Φ (.int (f i j)) δ2) : W K (tOp (rI C fun i j => .int (f i j)) ta tb) δ Φ := w_I (q.imp fun a δ1 h => h.imp fun b δ2 ⟨i, j, h1, h2, h3⟩ => ⟨i, j, h1, h2, rfl, h3⟩)
theorem y_neg (q : W K ta δ fun a δ1 => LI1 a fun i => Φ (.int (-i)) δ1) : W K (tUn (rU fun i => .int (-i)) ta) δ Φ := w_neg q
theorem y_eq (q : W K ta δ fun a δ1 => W K tb δ1 fun b δ2 => LEq a b fun c => Φ (.bl c) δ2) : W K (tOp rEq ta tb) δ Φ := w_eq q
theorem y_ne (q : W K ta δ fun a δ1 => W K tb δ1 fun b δ2 => LEq a b fun c => Φ (.bl (!c)) δ2) : W K (tOp rNe ta tb) δ Φ := w_ne q
theorem yt_B {Φ : Bool → Store → Prop} (q : W K te δ fun d δ1 => LB1 d fun b => Φ b δ1) : Wt K (tB te) δ Φ := wt_B q
theorem yt_test {Φ : Bool → Store → Prop} (q : W K te δ fun d δ1 => LB1 d fun b => Φ b δ1) : Wt K (tTest te) δ Φ := wt_test q
theorem y_notV (q : W K ta δ fun a δ1 => LB1 a fun b => Φ (.bl (!b)) δ1) : W K (tNotV ta) δ Φ := w_notV q
theorem y_andV (q : W K ta δ fun a δ1 => LB1 a fun b => if b = true then W K tb δ1 Φ else Φ (.bl false) δ1) : W K (tAndV ta tb) δ Φ := w_andV q
theorem y_orV (q : W K ta δ fun a δ1 => LB1 a fun b => if b = true then Φ (.bl true) δ1 else W K tb δ1 Φ) : W K (tOrV ta tb) δ Φ := w_orV q
theorem y_chain {g g' : Int → Int → Bool} (q : W K ta δ fun a δ1 => W K tb δ1 fun b δ2 => LI2 a b fun i j => if g i j = true then W K tc δ2 (fun c δ3 => LI1 c fun l => Φ (.bl (g' j l)) δ3) else Φ (.bl false) δ2) :
    W K (tChain (rI0 fun i j => .bl (g i j)) (rI0 fun i j => .bl (g' i j)) ta tb tc) δ Φ := w_chain0 q
theorem y_tup (q : Wa K tr δ fun ds δ1 => ds.length ≤ 100000 ∧ Φ (.tup ds) δ1) : W K (tTup tr) δ Φ := w_tup q
theorem y_ixT (q : W K ta δ fun a δ1 => W K tb δ1 fun b δ2 => LIxT a b fun d => Φ d δ2) : W K (tOp (rIxT K) ta tb) δ Φ := w_ixT (q.imp fun a δ1 h => h.imp fun b δ2 ⟨ds, i, d, h1, h2, h3, h4⟩ => ⟨ds, i, d, h1, h2, h3, h4⟩)
theorem y_ixL (q : W K ta δ fun a δ1 => W K tb δ1 fun b δ2 => LIxL a b fun d => Φ d δ2) : W K (tOp (rIxL K) ta tb) δ Φ := w_ixL (q.imp fun a δ1 h => h.imp fun b δ2 ⟨ds, i, d, h1, h2, h3, h4⟩ => ⟨ds, i, d, h1, h2, h3, h4⟩)
theorem y_len (q : Wa K tr δ fun ds δ1 => LLen ds fun n => Φ (.int (n : Int)) δ1) : W K (tCB (wLenS K) tr) δ Φ := w_len q
theorem y_lenS (q : Wa K tr δ fun ds δ1 => LLenS ds fun s => Φ (.int (s.length : Int)) δ1) : W K (tCB wLenT tr) δ Φ := w_lenS q
theorem yn_list (q : Wa K tr δ fun ds δ1 => LIts ds fun es => Ψ es δ1) : Wn K (tCB (wListOf K) tr) δ Ψ := wn_list q
theorem y_tuple (q : Wa K tr δ fun ds δ1 => LIts ds fun es => Φ (.tup es) δ1) : W K (tCB (wTupleOf K) tr) δ Φ := w_tuple q
theorem yn_cat (q : W K ta δ fun a δ1 => W K tb δ1 fun b δ2 => LCat a b fun ds => Ψ ds δ2) : Wn K (tOp rCat ta tb) δ Ψ := wn_cat q
theorem y_cat (q : W K ta δ fun a δ1 => W K tb δ1 fun b δ2 => LCat a b fun ds => Φ (.lst ds) δ2) : W K (tOp rCat ta tb) δ Φ := w_of_n (wn_cat q)
theorem y_catA (q : W K ta δ fun a δ1 => W K tb δ1 fun b δ2 => LCatA a b fun ds => Φ (.tup ds) δ2) : W K (tOp (rCatA K) ta tb) δ Φ := w_catA q
theorem yn_rep (q : W K ta δ fun a δ1 => W K tb δ1 fun b δ2 => LRep a b fun ds => Ψ ds δ2) : Wn K (tOp rRep ta tb) δ Ψ := wn_rep q
theorem y_rep (q : W K ta δ fun a δ1 => W K tb δ1 fun b δ2 => LRep a b fun ds => Φ (.lst ds) δ2) : W K (tOp rRep ta tb) δ Φ := w_of_n (wn_rep q)
theorem y_lst (q : Wa K tr δ fun ds δ1 => ds.length ≤ 100000 ∧ Φ (.lst ds) δ1) : W K (tLst tr) δ Φ := w_of_n (wn_lst q)
theorem y_list (q : Wa K tr δ fun ds δ1 => LIts ds fun es => Φ (.lst es) δ1) : W K (tCB (wListOf K) tr) δ Φ := w_of_n (wn_list q)
theorem yo_some {Θ : Option Int → Store → Prop} (q : W K te δ fun d δ1 => LI1 d fun i => Θ (some i) δ1) : Wo K (tPart te) δ Θ := wo_some q
theorem y_slA {lo hi : TO} (q : W K te δ fun a δ1 => Wo K lo δ1 fun l δ2 => Wo K hi δ2 fun u δ3 => LSlT a l u fun ds => Φ (.tup ds) δ3) : W K (tSl (rSlA K) te lo hi) δ Φ := w_slA q
theorem yn_slL {lo hi : TO} (q : W K te δ fun a δ1 => Wo K lo δ1 fun l δ2 => Wo K hi δ2 fun u δ3 => LSlL a l u fun ds => Ψ ds δ3) : Wn K (tSl (rSlL K) te lo hi) δ Ψ := wn_slL q
theorem y_slL {lo hi : TO} (q : W K te δ fun a δ1 => Wo K lo δ1 fun l δ2 => Wo K hi δ2 fun u δ3 => LSlL a l u fun ds => Φ (.lst ds) δ3) : W K (tSl (rSlL K) te lo hi) δ Φ := w_of_n (wn_slL q)
theorem y_dget (q : W K td δ fun o δ1 => W K ty δ1 fun i δ2 => LDg o i fun d => Φ d δ2) : W K (tDGet td ty) δ Φ := w_dget q
theorem y_din (q : W K ty δ fun i δ1 => W K td δ1 fun o δ2 => LDi i o fun x => Φ (.bl x) δ2) : W K (tDIn ty td) δ Φ := w_din q
theorem y_dnotin (q : W K ty δ fun i δ1 => W K td δ1 fun o δ2 => LDi i o fun x => Φ (.bl (!x)) δ2) : W K (tDNotIn ty td) δ Φ := w_dnotin q
theorem y_inS (q : W K ta δ fun a δ1 => W K tb δ1 fun d δ2 => LInS a d fun x => Φ (.bl x) δ2) : W K (tOp (rIn K false) ta tb) δ Φ := w_inS q
theorem y_notinS (q : W K ta δ fun a δ1 => W K tb δ1 fun d δ2 => LInS a d fun x => Φ (.bl (!x)) δ2) : W K (tOp (rIn K true) ta tb) δ Φ := w_inS q
theorem y_isT {s : String} (q : W K te δ fun d δ1 => LTy s d fun x => Φ (.bl x) δ1) : W K (tCB (rIsi K) (tCons te (tCons (tC (.ty s)) tNil))) δ Φ := w_isT q
theorem y_int1 (q : Wa K tr δ fun ds δ1 => LN1 ds fun i => Φ (.int i) δ1) : W K (tCB wInt1 tr) δ Φ := fun M L σ H I Q k => q M L σ H I _ fun vs ds δ1 H1 I1 x1 hv h => by
  rcases h with ⟨i, rfl, h⟩ | ⟨i, rfl, h⟩
  · cases hv with | cons h1 t => cases t; rw [h1.inv_int]; exact .inl ⟨i, rfl, k _ _ _ _ I1 x1 (.int _) h⟩
  · cases hv with | cons h1 t => cases t; rw [h1.inv_bl]; exact .inr ⟨i, rfl, k _ _ _ _ I1 x1 (.int _) h⟩
theorem y_abs (q : Wa K tr δ fun ds δ1 => LA1 ds fun i => Φ (.int (if i < 0 then -i else i)) δ1) : W K (tCB wAbs tr) δ Φ := w_abs q
theorem y_max2 (q : Wa K tr δ fun ds δ1 => LA2 ds fun i j => Φ (.int (if j > i then j else i)) δ1) : W K (tCB wMax2 tr) δ Φ := w_max2 q
theorem y_min2 (q : Wa K tr δ fun ds δ1 => LA2 ds fun i j => Φ (.int (if j < i then j else i)) δ1) : W K (tCB wMin2 tr) δ Φ := w_min2 q
theorem y_str {s : Str} (h : strGb s = true) (q : Φ (.str s) δ) : W K (tC (.str s)) δ Φ := w_str (strG_of h) q
theorem z_lst {i : Nat} {E : En} (q : Sw K (tAsg (tLst tr) (gName i)) δ E) : Sw K (tAsg (tLst tr) (gName i)) δ E := q
theorem z_lc {wi : TI} {tt : TT} {vs : List Nat} {i : Nat} {E : En} (q : Sw K (tAsg (tLc wi g tt te vs) (gName i)) δ E) : Sw K (tAsg (tLc wi g tt te vs) (gName i)) δ E := q
theorem z_new {i : Nat} {E : En} (q : Sw K (tAsg tDNewK (gName i)) δ E) : Sw K (tAsg tDNewK (gName i)) δ E := q
theorem z_cat {i : Nat} {E : En} (q : Sw K (tAsg (tOp rCat ta tb) (gName i)) δ E) : Sw K (tAsg (tOp rCat ta tb) (gName i)) δ E := q
theorem z_list {i : Nat} {E : En} (q : Sw K (tAsg (tCB (wListOf K) tr) (gName i)) δ E) : Sw K (tAsg (tCB (wListOf K) tr) (gName i)) δ E := q
theorem z_ifs {k : TT} {E : En} (q : Sw K (tSeq (tIfS k t u) tu) δ E) : Sw K (tSeq (tIfS k t u) tu) δ E := q
theorem z_ifn {k : TT} (q : Sn K (tSeq (tIfS k t u) tu) δ Ψ) : Sn K (tSeq (tIfS k t u) tu) δ Ψ := q
theorem sn_join (C : Store → Prop) (q : Sw K t δ ⟨C, fun _ _ => False, fun _ => False, fun _ => False⟩) (h : ∀ δ', C δ' → Sn K u δ' Ψ) : Sn K (tSeq t u) δ Ψ := sn_seq (fun M L σ H I D k => q M L σ H I D ⟨fun L' σ' δ' H' I' f c => k.nx L' σ' δ' H' I' f (h δ' c), k.rt, k.bk, k.ct⟩)
theorem x_asgU {K' : PySem.W.Frag} {m : Nat} {gs : TGs} (hK : K' = K) (q : W K te δ fun d δ1 => Wg K (gUnl K m gs) d δ1 n) : Sw K (tAsg te (gUnl K' m gs)) δ ⟨n, r, b, c⟩ := by
  subst hK
  exact x_asg q
theorem x_asgT {K' : PySem.W.Frag} {m : Nat} {gs : TGs} (hK : K' = K) (q : W K te δ fun d δ1 => Wg K (gTup K m gs) d δ1 n) : Sw K (tAsg te (gTup K' m gs)) δ ⟨n, r, b, c⟩ := by
  subst hK
  exact x_asg q
theorem yg_unl {K' : PySem.W.Frag} {m : Nat} {gs : TGs} {ds : List Dt} {Θ : Store → Prop} (hK : K' = K) (hn : ds.length = m) (q : Wgs K gs ds δ Θ) : Wg K (gUnl K' m gs) (.lst ds) δ Θ := by subst hK; exact wg_unl hn q
theorem yg_tup {K' : PySem.W.Frag} {m : Nat} {gs : TGs} {ds : List Dt} {Θ : Store → Prop} (hK : K' = K) (hn : ds.length = m) (q : Wgs K gs ds δ Θ) : Wg K (gTup K' m gs) (.tup ds) δ Θ := by subst hK; exact wg_tup hn q
theorem yc_tup {K' : PySem.W.Frag} {vs : List Nat} {m : Nat} {gs : TGs} {ds : List Dt} {Θ : Store → Prop} (hK : K' = K) (hn : ds.length = m) (q : Wcs K gs vs ds δ Θ) : Wc K (gTup K' m gs) vs (.tup ds) δ Θ := by subst hK; exact wc_tup hn q
theorem x_nx (q : n δ) : Sw K Ends.nx δ ⟨n, r, b, c⟩ := fun M L σ H I D k => k.nx L σ δ H I (Fr.refl _ _) q
end
end My

namespace My
open PySem PySem.Spec PyProof.Rows L2
/-! ### the laws' dice: what is promised of them -/
def tDice (ds : List Dt) (κ : List Dt → Prop) : Prop := ∃ (ns : List Int) (j : Nat), ds = [.lst (intsD ns), .int j] ∧ j < 1000 ∧ ∀ a b : Int, 0 ≤ a → κ [.int a, .int b, .int 0]
def tRoll (ds : List Dt) (κ : Dt → Prop) : Prop := ∃ m : Int, ds = [.int m] ∧ 1 ≤ m ∧ m < 1073741824 ∧ ∀ r : Nat, (r : Int) < m → κ (.int r)
theorem lf_roll {m : Int} {κ : Dt → Prop} (h : 1 ≤ m ∧ m < 1073741824) (q : ∀ r : Nat, (r : Int) < m → κ (.int r)) : tRoll [.int m] κ := ⟨m, rfl, h.1, h.2, q⟩
def tPick (ds : List Dt) (κ : Dt → Prop) : Prop := ∃ es : List Dt, ds = [.lst es] ∧ es ≠ [] ∧ es.length < 100000 ∧ ∀ x ∈ es, κ x
theorem lf_pick {es : List Dt} {κ : Dt → Prop} (h : es ≠ []) (h2 : es.length < 100000) (q : ∀ x ∈ es, κ x) : tPick [.lst es] κ := ⟨es, rfl, h, h2, q⟩
/-- of strings, or of anything that is told item by item -/
theorem lf_pickS {ss : List Str} {κ : Dt → Prop} (h : ss ≠ []) (h2 : ss.length < 100000) (q : ∀ s ∈ ss, κ (.str s)) : tPick [.lst (strsD ss)] κ := ⟨_, rfl, fun z => h (List.map_eq_nil_iff.mp z), by unfold strsD; rw [List.length_map]; exact h2, fun x hx => by
  obtain ⟨s, hs, rfl⟩ := List.mem_map.mp hx
  exact q s hs⟩
theorem lf_pickI {ss : List Int} {κ : Dt → Prop} (h : ss ≠ []) (h2 : ss.length < 100000) (q : ∀ s ∈ ss, κ (.int s)) : tPick [.lst (intsD ss)] κ := ⟨_, rfl, fun z => h (List.map_eq_nil_iff.mp z), by unfold intsD; rw [List.length_map]; exact h2, fun x hx => by
  obtain ⟨s, hs, rfl⟩ := List.mem_map.mp hx
  exact q s hs⟩
/-- so many different items, in any order -/
def tSome (ds : List Dt) (κ : Dt → Prop) : Prop := ∃ (es : List Dt) (m : Int), ds = [.lst es, .int m] ∧ 0 ≤ m ∧ es.length < 100000 ∧ ∀ ys rest : List Dt, (ys ++ rest).Perm es → (ys.length : Int) = (if (es.length : Int) < m then (es.length : Int) else m) → κ (.lst ys)
theorem ints_at {ns : List Int} {j : Nat} (h : j < ns.length) : ∃ i, atI (intsD ns) (j : Int) = some (.int i) := by
  refine ⟨ns[j], ?_⟩
  refine atI_nat ?_
  unfold intsD
  rw [List.getElem?_map, List.getElem?_eq_getElem h] <;> rfl
theorem ints_len (ns : List Int) : (intsD ns).length = ns.length := List.length_map ..
theorem strs_len (ns : List Str) : (strsD ns).length = ns.length := List.length_map ..
theorem at_nat {es : List Dt} {r : Nat} (h : (r : Int) < (es.length : Int)) : ∃ x, atI es (r : Int) = some x ∧ x ∈ es := by
  have h' : r < es.length := by omega
  exact ⟨es[r], atI_nat (List.getElem?_eq_getElem h'), List.getElem_mem h'⟩
theorem perm_strs {ys rest : List Dt} {ss : List Str} (h : (ys ++ rest).Perm (strsD ss)) : ∃ as bs : List Str, ys = strsD as ∧ rest = strsD bs ∧ (as ++ bs).Perm ss := by
  have all : ∀ d ∈ ys ++ rest, ∃ s, d = Dt.str s := fun d hd => by
    obtain ⟨s, _, rfl⟩ := List.mem_map.mp (h.mem_iff.mp hd)
    exact ⟨s, rfl⟩
  have un : ∀ l : List Dt, (∀ d ∈ l, ∃ s, d = Dt.str s) → ∃ as, l = strsD as := by
    intro l
    induction l with
    | nil => intro _; exact ⟨[], rfl⟩
    | cons d l ih =>
      intro hl
      obtain ⟨s, rfl⟩ := hl d (.head _)
      obtain ⟨as, rfl⟩ := ih fun d hd => hl d (.tail _ hd)
      exact ⟨s :: as, rfl⟩
  obtain ⟨as, rfl⟩ := un ys fun d hd => all d (List.mem_append_left _ hd)
  obtain ⟨bs, rfl⟩ := un rest fun d hd => all d (List.mem_append_right _ hd)
  refine ⟨as, bs, rfl, rfl, ?_⟩
  let f : Dt → Str := fun d => match d with
    | .str s => s
    | _ => Str.empty
  have hf : ∀ l : List Str, (strsD l).map f = l := fun l => by
    induction l with
    | nil => rfl
    | cons x l ih => show x :: (strsD l).map f = _; rw [ih]
  have := h.map f
  rw [List.map_append, hf, hf, hf] at this
  exact this
end My

namespace My
open PySem PySem.Spec PyProof.Rows L2
section
variable {K : PySem.W.Frag} [Xg K] {δ δ2 : Store} {ta tb tc te tl td ty tx : TE} {tt : TT} {tr : TA} {t u tu : TS} {g : TG} {vs : List Nat} {Φ : Dt → Store → Prop} {Ψ : List Dt → Store → Prop}
/-! ### comprehensions that leave the slots as they are, item by item -/
theorem wn_eachR1 (q : Wa K tr δ fun as δ1 => ∃ (n : Int) (P : Nat → Dt → Prop), as = [.int n] ∧ (n < 100000 ∧ -100000 ≤ n) ∧ noAt vs δ1 = true ∧ (∀ i : Nat, (i : Int) < n → Turn K g tt te vs (.int (i : Int)) δ1 (fun y δ4 => P i y ∧ δ4 = δ1) (fun _ => False)) ∧ ∀ acc, acc.length = n.toNat → (∀ i y, acc[i]? = some y → P i y) → Ψ acc δ1) : Wn K (tLc (iRng1 tr) g tt te vs) δ Ψ :=
  wn_lcR1 (fun M L σ H I Q k => q M L σ H I Q fun us as δ1 H1 I1 x1 hv ⟨n, P, ha, hn, hno, hs, hd⟩ => k us as δ1 H1 I1 x1 hv ⟨n, fun i acc δ' => δ' = δ1 ∧ acc.length = i ∧ i ≤ n.toNat ∧ ∀ j y, acc[j]? = some y → P j y, ha, by omega, fun i acc δ' ⟨h1, h2, h3, _⟩ => ⟨by rw [h1]; exact hno, by omega⟩, ⟨rfl, rfl, Nat.zero_le _, fun j y e => by simp at e⟩, fun i acc δ' hi ⟨h1, h2, h3, h4⟩ => by
    subst h1
    refine (hs i hi).imp (fun y s ⟨p, e⟩ => ?_) (fun s h => h.elim)
    refine ⟨e, by rw [List.length_append, h2]; rfl, by omega, fun j z e => ?_⟩
    by_cases hj : j < acc.length
    · rw [List.getElem?_append_left hj] at e; exact h4 j z e
    · rw [List.getElem?_append_right (by omega)] at e
      have : j - acc.length = 0 := by
        rcases Nat.eq_zero_or_pos (j - acc.length) with w | w
        · exact w
        · rw [List.getElem?_eq_none (by show 1 ≤ _; omega)] at e; cases e
      rw [this] at e
      cases e
      have : j = i := by omega
      rw [this]; exact p, fun acc δ' ⟨h1, h2, _, h4⟩ => by subst h1; exact hd acc h2 h4⟩)
theorem turn_acc {ds : List Dt} {P : Dt → Dt → Prop} {acc : List Dt} {i : Nat} {x y : Dt} (h : ∀ (j : Nat) x y, ds[j]? = some x → acc[j]? = some y → P x y) (hl : acc.length = i) (hx : ds[i]? = some x) (p : P x y) : ∀ (j : Nat) x z, ds[j]? = some x → (acc ++ [y])[j]? = some z → P x z := fun j x' z hx' e => by
  by_cases hj : j < acc.length
  · rw [List.getElem?_append_left hj] at e; exact h j x' z hx' e
  · rw [List.getElem?_append_right (by omega)] at e
    have : j - acc.length = 0 := by
      rcases Nat.eq_zero_or_pos (j - acc.length) with w | w
      · exact w
      · rw [List.getElem?_eq_none (by show 1 ≤ _; omega)] at e; cases e
    rw [this] at e
    cases e
    have : j = i := by omega
    rw [this] at hx'
    rw [hx] at hx'
    cases hx'
    exact p
theorem wn_eachL (q : W K tl δ fun d δ1 => ∃ (ds : List Dt) (P : Dt → Dt → Prop), d = .lst ds ∧ ds.length < 100000 ∧ noAt vs δ1 = true ∧ (∀ (i : Nat) x, ds[i]? = some x → Turn K g tt te vs x δ1 (fun y δ4 => P x y ∧ δ4 = δ1) (fun _ => False)) ∧ ∀ acc, acc.length = ds.length → (∀ (j : Nat) x y, ds[j]? = some x → acc[j]? = some y → P x y) → Ψ acc δ1) : Wn K (tLc (iList K tl) g tt te vs) δ Ψ :=
  wn_lcL (q.imp fun d δ1 ⟨ds, P, ha, hn, hno, hs, hd⟩ => ⟨ds, fun i acc δ' => δ' = δ1 ∧ acc.length = i ∧ i ≤ ds.length ∧ ∀ (j : Nat) x y, ds[j]? = some x → acc[j]? = some y → P x y, ha, fun i acc δ' ⟨h1, h2, h3, _⟩ => ⟨by rw [h1]; exact hno, by omega⟩, ⟨rfl, rfl, Nat.zero_le _, fun j x y _ e => by simp at e⟩, fun i x acc δ' hx ⟨h1, h2, h3, h4⟩ => by
    subst h1
    have hi : i < ds.length := (List.getElem?_eq_some_iff.mp hx).1
    exact (hs i x hx).imp (fun y s ⟨p, e⟩ => ⟨e, by rw [List.length_append, h2]; rfl, by omega, turn_acc h4 h2 hx p⟩) (fun s h => h.elim), fun acc δ' ⟨h1, h2, _, h4⟩ => by subst h1; exact hd acc h2 h4⟩)
theorem wn_eachT (q : W K tl δ fun d δ1 => ∃ (ds : List Dt) (P : Dt → Dt → Prop), d = .tup ds ∧ ds.length < 100000 ∧ noAt vs δ1 = true ∧ (∀ (i : Nat) x, ds[i]? = some x → Turn K g tt te vs x δ1 (fun y δ4 => P x y ∧ δ4 = δ1) (fun _ => False)) ∧ ∀ acc, acc.length = ds.length → (∀ (j : Nat) x y, ds[j]? = some x → acc[j]? = some y → P x y) → Ψ acc δ1) : Wn K (tLc (iTup K tl) g tt te vs) δ Ψ :=
  wn_lcT (q.imp fun d δ1 ⟨ds, P, ha, hn, hno, hs, hd⟩ => ⟨ds, fun i acc δ' => δ' = δ1 ∧ acc.length = i ∧ i ≤ ds.length ∧ ∀ (j : Nat) x y, ds[j]? = some x → acc[j]? = some y → P x y, ha, fun i acc δ' ⟨h1, h2, h3, _⟩ => ⟨by rw [h1]; exact hno, by omega⟩, ⟨rfl, rfl, Nat.zero_le _, fun j x y _ e => by simp at e⟩, fun i x acc δ' hx ⟨h1, h2, h3, h4⟩ => by
    subst h1
    have hi : i < ds.length := (List.getElem?_eq_some_iff.mp hx).1
    exact (hs i x hx).imp (fun y s ⟨p, e⟩ => ⟨e, by rw [List.length_append, h2]; rfl, by omega, turn_acc h4 h2 hx p⟩) (fun s h => h.elim), fun acc δ' ⟨h1, h2, _, h4⟩ => by subst h1; exact hd acc h2 h4⟩)
/-- .. what it comes to, when each item's is a function of it -/
theorem acc_map {ds acc : List Dt} {f : Dt → Dt} (hl : acc.length = ds.length) (h : ∀ (j : Nat) x y, ds[j]? = some x → acc[j]? = some y → y = f x) : acc = ds.map f := by
  refine List.ext_getElem? fun j => ?_
  rw [List.getElem?_map]
  cases hx : ds[j]? with
  | none => rw [List.getElem?_eq_none (by rw [hl]; exact List.getElem?_eq_none_iff.mp hx)]; rfl
  | some x =>
    have hj : j < acc.length := by rw [hl]; exact (List.getElem?_eq_some_iff.mp hx).1
    rw [List.getElem?_eq_getElem hj, h j x _ hx (List.getElem?_eq_getElem hj)]; rfl
theorem wn_mapL' (f : Dt → Dt) (q : W K tl δ fun d δ1 => ∃ (ds : List Dt), d = .lst ds ∧ ds.length < 100000 ∧ noAt vs δ1 = true ∧ (∀ (i : Nat) x, ds[i]? = some x → Turn K g tt te vs x δ1 (fun y δ4 => y = f x ∧ δ4 = δ1) (fun _ => False)) ∧ Ψ (ds.map f) δ1) : Wn K (tLc (iList K tl) g tt te vs) δ Ψ :=
  wn_eachL (q.imp fun d δ1 ⟨ds, h1, h2, h3, h4, h5⟩ => ⟨ds, fun x y => y = f x, h1, h2, h3, h4, fun acc hl h => by rw [acc_map hl h]; exact h5⟩)
theorem wn_mapT' (f : Dt → Dt) (q : W K tl δ fun d δ1 => ∃ (ds : List Dt), d = .tup ds ∧ ds.length < 100000 ∧ noAt vs δ1 = true ∧ (∀ (i : Nat) x, ds[i]? = some x → Turn K g tt te vs x δ1 (fun y δ4 => y = f x ∧ δ4 = δ1) (fun _ => False)) ∧ Ψ (ds.map f) δ1) : Wn K (tLc (iTup K tl) g tt te vs) δ Ψ :=
  wn_eachT (q.imp fun d δ1 ⟨ds, h1, h2, h3, h4, h5⟩ => ⟨ds, fun x y => y = f x, h1, h2, h3, h4, fun acc hl h => by rw [acc_map hl h]; exact h5⟩)
end
end My

namespace My
open PySem PySem.Spec PyProof.Rows L2
/-! ### plain books, states, lines as data -/
theorem lf_someS {ss : List Str} {m : Int} {κ : Dt → Prop} (h : 0 ≤ m ∧ ss.length < 100000) (q : ∀ as bs : List Str, (as ++ bs).Perm ss → (as.length : Int) = (if (ss.length : Int) < m then (ss.length : Int) else m) → κ (.lst (strsD as))) : tSome [.lst (strsD ss), .int m] κ := by
  refine ⟨_, m, rfl, h.1, by rw [strs_len]; exact h.2, fun ys rest hp hl => ?_⟩
  obtain ⟨as, bs, rfl, rfl, hq⟩ := perm_strs hp
  rw [strs_len, strs_len] at hl
  exact q as bs hq hl
theorem strs_get {as : List Str} {i : Nat} {d : Dt} (h : (strsD as)[i]? = some d) : ∃ w, d = .str w ∧ as[i]? = some w := by
  unfold strsD at h
  rw [List.getElem?_map] at h
  cases e : as[i]? with
  | none => rw [e] at h; cases h
  | some w => rw [e] at h; cases h; exact ⟨w, rfl, rfl⟩
theorem strs_snoc (ws : List Str) (s : Str) : strsD ws ++ [Dt.str s] = strsD (ws ++ [s]) := by unfold strsD; rw [List.map_append]; rfl
theorem strs_app (ws us : List Str) : strsD ws ++ strsD us = strsD (ws ++ us) := by unfold strsD; rw [List.map_append]
def odG (l : List (Key × Dt)) : List (Key × Od) := l.map fun p => (p.1, .dat p.2)
theorem odD_odG (l : List (Key × Dt)) : odD (odG l) = l := by
  unfold odD odG
  rw [List.map_map]
  exact List.map_id' l
def opsD (l : List (Str × Str × Str)) : List (Key × Dt) := l.map fun x => (Sum.inr x.1, .tup [.str x.2.1, .str x.2.2])
def ssD (l : List (Str × Str)) : List (Key × Dt) := l.map fun x => (Sum.inr x.1, .str x.2)
def LB.dt (b : LB) : Dt := .dct [(Sum.inr "openers", .dct (opsD b.op)), (Sum.inr "enders", .dct (ssD b.en)), (Sum.inr "brackets", .dct (ssD b.br)), (Sum.inr "deep", .str b.deep), (Sum.inr "gap", .str b.gap)]
section
variable {a b c d e : Dt}
abbrev bkL (a b c d e : Dt) : List (Key × Dt) := [(Sum.inr "openers", a), (Sum.inr "enders", b), (Sum.inr "brackets", c), (Sum.inr "deep", d), (Sum.inr "gap", e)]
theorem inr_ne {x y : Str} (h : x ≠ y) : ¬ (Sum.inr x : Key) = Sum.inr y := fun z => h (Sum.inr.inj z)
theorem bkl_o : lkD (bkL a b c d e) (Sum.inr "openers" : Key) = some a := lkD_pos rfl
theorem bkl_e : lkD (bkL a b c d e) (Sum.inr "enders" : Key) = some b := (lkD_neg (inr_ne (by decide))).trans (lkD_pos rfl)
theorem bkl_r : lkD (bkL a b c d e) (Sum.inr "brackets" : Key) = some c := (lkD_neg (inr_ne (by decide))).trans ((lkD_neg (inr_ne (by decide))).trans (lkD_pos rfl))
theorem bkl_d : lkD (bkL a b c d e) (Sum.inr "deep" : Key) = some d := (lkD_neg (inr_ne (by decide))).trans ((lkD_neg (inr_ne (by decide))).trans ((lkD_neg (inr_ne (by decide))).trans (lkD_pos rfl)))
theorem bkl_g : lkD (bkL a b c d e) (Sum.inr "gap" : Key) = some e := (lkD_neg (inr_ne (by decide))).trans ((lkD_neg (inr_ne (by decide))).trans ((lkD_neg (inr_ne (by decide))).trans ((lkD_neg (inr_ne (by decide))).trans (lkD_pos rfl))))
end
def pilD (p : Pile) : List Dt := p.map fun x => .tup [.int x.1, .str x.2]
def LState.dt (s : LState) : Dt := .lst [.lst (pilD s.pile), .str s.wait]
def LLine.dt (l : LLine) : Dt := .tup [.int l.col, .tup (strsD l.ws)]
section
variable {α : Type}
theorem lkD_map {β : Type} (f : α → Str) (v : α → β) (k : Str) : ∀ l : List α, lkD (l.map fun x => ((Sum.inr (f x) : Key), v x)) (Sum.inr k) = (l.find? fun x => decide (f x = k)).map v
  | [] => rfl
  | x :: l => by
    by_cases h : f x = k
    · have : lkD ((x :: l).map fun x => ((Sum.inr (f x) : Key), v x)) (Sum.inr k) = some (v x) := by
        rw [List.map_cons]; exact lkD_pos (by rw [h])
      rw [this, List.find?_cons, decide_eq_true h]; rfl
    · have : lkD ((x :: l).map fun x => ((Sum.inr (f x) : Key), v x)) (Sum.inr k) = lkD (l.map fun x => ((Sum.inr (f x) : Key), v x)) (Sum.inr k) := by
        rw [List.map_cons]; exact lkD_neg (fun z => h (Sum.inr.inj z))
      rw [this, List.find?_cons, decide_eq_false h, lkD_map f v k l]
end
theorem ptD_new {α : Type} {ks : List (Key × α)} {k : Key} {d : α} (h : lkD ks k = none) : ptD ks k d = ks ++ [(k, d)] := by
  unfold ptD
  rw [h]
  exact if_neg (fun z => by cases z)
theorem lkD_none {α : Type} {k : Str} : ∀ {ks : List (Key × α)}, (∀ p ∈ ks, p.1 ≠ Sum.inr k) → lkD ks (Sum.inr k : Key) = none
  | [], _ => rfl
  | p :: ks, h => by rw [lkD_neg (h p (.head _))]; exact lkD_none fun q hq => h q (.tail _ hq)
theorem all_dat (l : List (Key × Dt)) (k : Key) : ((odG l).all fun p => !decide (p.1 = k) || p.2.isDat) = true := by
  unfold odG
  rw [List.all_map, List.all_eq_true]
  intro x _
  simp [Od.isDat]
theorem odG_new {l : List (Key × Dt)} {k : Str} {d : Dt} (h : ∀ p ∈ l, p.1 ≠ Sum.inr k) : ptD (odG l) (Sum.inr k) (.dat d) = odG (l ++ [(Sum.inr k, d)]) := by
  rw [ptD_new (lkD_none fun p hp => by
    obtain ⟨q, hq, rfl⟩ := List.mem_map.mp hp
    exact h q hq)]
  unfold odG
  rw [List.map_append]; rfl
section
variable {K : PySem.W.Frag} [Xg K] {δ δ2 : Store} {ta tb tc te tl td ty tx tv : TE} {tr : TA} {t u tu : TS} {g : TG} {n b c : Store → Prop} {r : Dt → Store → Prop} {Φ : Dt → Store → Prop}
/-- an own dict of data as a group -/
theorem RpK.od {A : List Addr} {H : Hp} : ∀ {vs : List (Key × V)} {ks : List (Key × Dt)}, RpK K A H vs ks → OdL K A H vs (odG ks) []
  | _, _, .nil => .nil
  | _, _, .cons h t => .dat h t.od
theorem SlA.recOf {A : List Addr} {H : Hp} {ks : List (Key × Dt)} : ∀ {σ : L2.St} {δ : Store} {L : List Addr} {i : Nat}, SlA K A H σ δ L → δ[i]? = some (.ownD ks) → SlA K A H σ (δ.set i (.recD (odG ks))) L
  | _, _, _, 0, .no t, e => by cases e
  | _, _, _, 0, .dat h t, e => by cases e
  | _, _, _, 0, .cell h t, e => by
    cases e
    cases h with
    | ownD e h => exact .grp (as := []) (.recD e h.od) t
  | _, _, _, 0, .grp h t, e => by cases e; cases h
  | _, _, _, i + 1, .no t, e => .no (t.recOf (i := i) e)
  | _, _, _, i + 1, .dat h t, e => .dat h (t.recOf (i := i) e)
  | _, _, _, i + 1, .cell h t, e => .cell h (t.recOf (i := i) e)
  | _, _, _, i + 1, .grp h t, e => .grp h (t.recOf (i := i) e)
  | _, _, _, 0, .gst _ _ t, e => by cases e
  | _, _, _, i + 1, .gst g hp t, e => .gst g hp (t.recOf (i := i) e)
theorem x_recOf {i : Nat} {ks : List (Key × Dt)} {E : En} (h0 : δ[i]? = some (.ownD ks)) (h : δ.set i (.recD (odG ks)) = δ2) (q : Sw K t δ2 E) : Sw K t δ E := fun M L σ H I D k => q M L σ H ⟨⟨by rw [← h]; exact I.sl.recOf h0, I.nd, I.lm, I.out⟩, I.gx⟩ D k
/-- a, b, c = {}, {}, {} -/
theorem x_par3D {i j l : Nat} (q : ∃ δ2, δ.set i (.ownD []) = δ2 ∧ ∃ δ3, δ2.set j (.ownD []) = δ3 ∧ ∃ δ4, δ3.set l (.ownD []) = δ4 ∧ n δ4) : Sw K (tPar3 i j l (tCons tDNewK (tCons tDNewK (tCons tDNewK tNil)))) δ ⟨n, r, b, c⟩ := fun M L σ H I D k p1 h1 p2 h2 p3 h3 => by
  obtain ⟨δ2, e2, δ3, e3, δ4, e4, q⟩ := q
  obtain ⟨L1, I1, f1⟩ := I.setO (o := .dK []) (s := .ownD []) i h1 (.ownD upd_same .nil)
  obtain ⟨L2, I2, f2⟩ := I1.setO (o := .dK []) (s := .ownD []) j h2 (.ownD upd_same .nil)
  obtain ⟨L3, I3, f3⟩ := I2.setO (o := .dK []) (s := .ownD []) l h3 (.ownD upd_same .nil)
  rw [e2, e3, e4] at I3
  exact ⟨_, _, _, rfl, k.nx L3 _ δ4 _ I3 ((f1.trans f2).trans f3) q⟩
def LPut (ks : List (Key × Od)) (x d : Dt) (P : List (Key × Od) → Prop) : Prop := ∃ k, x.key = some k ∧ ks.length < 100000 ∧ (ks.all fun p => !decide (p.1 = k) || p.2.isDat) = true ∧ P (ptD ks k (.dat d))
theorem y_dput {i : Nat} (q : W K tv δ fun d δ1 => ∃ ks1, δ1[i]? = some (.recD ks1) ∧ W K ty δ1 fun x δ2 => ∃ ks, δ2[i]? = some (.recD ks) ∧ LPut ks x d fun ks' => ∃ δ3, δ2.set i (.recD ks') = δ3 ∧ n δ3) : Sw K (sDPut (tVar i) ty tv) δ ⟨n, r, b, c⟩ :=
  x_dput (q.imp fun d δ1 ⟨ks1, h1, q⟩ => ⟨ks1, h1, q.imp fun x δ2 ⟨ks, h2, k, h3, h4, h5, q⟩ => ⟨ks, k, h3, h2, h4, h5, q⟩⟩)
theorem lf_put {l : List (Key × Dt)} {k : Str} {d : Dt} {P : List (Key × Od) → Prop} (h : ∀ p ∈ l, p.1 ≠ Sum.inr k) (hl : l.length < 100000) (q : P (odG (l ++ [(Sum.inr k, d)]))) : LPut (odG l) (.str k) d P := ⟨Sum.inr k, rfl, by unfold odG; rw [List.length_map]; exact hl, all_dat l _, by rw [odG_new h]; exact q⟩
def LKeys (a : List Dt) (P : List Str → Prop) : Prop := ∃ ks ss, a = [.dct ks] ∧ ks.map (·.1) = ss.map (Sum.inr : Str → Key) ∧ (∀ s ∈ ss, strG s) ∧ P ss
theorem lf_keysO {l : List (Str × Str × Str)} {P : List Str → Prop} (h : ∀ s ∈ l.map (·.1), strG s) (q : P (l.map (·.1))) : LKeys [.dct (opsD l)] P := ⟨_, l.map (·.1), rfl, by unfold opsD; rw [List.map_map, List.map_map]; rfl, h, q⟩
theorem lf_keysS {l : List (Str × Str)} {P : List Str → Prop} (h : ∀ s ∈ l.map (·.1), strG s) (q : P (l.map (·.1))) : LKeys [.dct (ssD l)] P := ⟨_, l.map (·.1), rfl, by unfold ssD; rw [List.map_map, List.map_map]; rfl, h, q⟩
def LVals (o : Dt) (P : List Dt → Prop) : Prop := ∃ ks, o = .dct ks ∧ P (ks.map (·.2))
theorem lf_valsS {l : List (Str × Str)} {P : List Dt → Prop} (q : P (strsD (l.map (·.2)))) : LVals (.dct (ssD l)) P := ⟨_, rfl, by
  have : (ssD l).map (·.2) = strsD (l.map (·.2)) := by unfold ssD strsD; rw [List.map_map, List.map_map]; rfl
  rw [this]; exact q⟩
theorem y_sortedD (q : Wa K tr δ fun ds δ1 => LKeys ds fun ss => ss.length < 64 ∧ ∀ ys : List Str, ys.Perm ss → sortedS ys = true → Φ (.lst (strsD ys)) δ1) : W K (tCB wSortedD tr) δ Φ := w_of_n (wn_sortedD (fun M L σ H I Q k => q M L σ H I Q fun vs ds δ' H' a b e ⟨ks, ss, h1, h2, h3, h4, h5⟩ => k vs ds δ' H' a b e ⟨ks, ss, h1, h2, h3, h4, h5⟩))
theorem y_listD (q : Wa K tr δ fun ds δ1 => LKeys ds fun ss => Φ (.lst (strsD ss)) δ1) : W K (tCB wListDR tr) δ Φ := w_of_n (wn_listD (fun M L σ H I Q k => q M L σ H I Q fun vs ds δ' H' a b e ⟨ks, ss, h1, h2, h3, h4⟩ => k vs ds δ' H' a b e ⟨ks, ss, h1, h2, h3, h4⟩))
theorem y_listVals (q : W K td δ fun o δ1 => LVals o fun es => Φ (.lst es) δ1) : W K (tCB wListVR (tCons (tValsR td) tNil)) δ Φ := w_of_n (wn_listVals q)
def LSoS (a : List Dt) (P : List Str → Prop) : Prop := ∃ ss, a = [.lst (strsD ss)] ∧ P ss
theorem lf_soS {ss : List Str} {P : List Str → Prop} (q : P ss) : LSoS [.lst (strsD ss)] P := ⟨ss, rfl, q⟩
theorem y_sortedS (q : Wa K tr δ fun ds δ1 => LSoS ds fun ss => ss.length < 64 ∧ ∀ ys : List Str, ys.Perm ss → sortedS ys = true → Φ (.lst (strsD ys)) δ1) : W K (tCB (rSortedS K) tr) δ Φ := w_of_n (wn_sortedS q)
theorem strG_all {ss : List Str} (h : ss.all strGb = true) : ∀ s ∈ ss, strG s := fun s hs => strG_of (List.all_eq_true.mp h s hs)
theorem opW_G : ∀ s ∈ opW, strG s := strG_all (by decide +kernel)
theorem enW_G : ∀ s ∈ enW, strG s := strG_all (by decide +kernel)
theorem brW_G : ∀ s ∈ brW, strG s := strG_all (by decide +kernel)
theorem x_dispK (kl : List Str) (hn : kl.Nodup) (h15 : kl.length ≤ 15) {trs : List (TE × TE)} {i : Nat} (q : Wr K trs δ fun ks δ1 => ks.map (·.1) = kl.map Sum.inr ∧ ∃ δ2, δ1.set i (.recD ks) = δ2 ∧ n δ2) : Sw K (tAsg (tDisp trs) (gName i)) δ ⟨n, r, b, c⟩ :=
  x_disp (fun M L σ H I Q k => q M L σ H I Q fun kvs ks as δ' H' a1 a2 a3 a4 a5 ⟨h, q⟩ => k kvs ks as δ' H' a1 a2 a3 a4 a5 ⟨by
    have : (ks.map (·.1)).length = kl.length := by rw [h, List.length_map]
    rw [List.length_map] at this; omega, by
    rw [h]
    have hp : List.Pairwise (· ≠ ·) kl := hn
    exact List.Pairwise.map _ (fun a b hab z => hab (Sum.inr.inj z)) hp, q⟩)
/-- {k: v, ..} as a value -/
theorem w_dispK (kl : List Str) (hn : kl.Nodup) (h15 : kl.length ≤ 15) {trs : List (TE × TE)} (q : Wr K trs δ fun ks δ1 => ks.map (·.1) = kl.map Sum.inr ∧ Φ (.dct (odD ks)) δ1) : W K (tDisp trs) δ Φ := fun M L σ H I Q k' p hp => by
  have nL : ∀ x, H x = none → x ∉ L := fun x hx z => I.sl.here x z hx
  have nM : ∀ x, H x = none → x ∉ M := fun x hx z => I.out x z hx
  refine q (p :: M) L σ _ (I.more hp) _ fun kvs ks as δ1 H1 I1 x1 ho nd hf ⟨hk, q⟩ => ?_
  have hl : ks.length = kl.length := by
    have : (ks.map (·.1)).length = kl.length := by rw [hk, List.length_map]
    rw [List.length_map] at this; exact this
  refine ⟨x1 p _ (nL p hp) upd_same, kvs, rfl, by rw [ho.len]; omega, ?_⟩
  rw [mergeK_id kvs [] (by
    rw [List.nil_append, ho.keys, hk]
    have hp : List.Pairwise (· ≠ ·) kl := hn
    exact List.Pairwise.map _ (fun a b hab z => hab (Sum.inr.inj z)) hp), List.nil_append]
  have fa : ∀ x ∈ as, x ≠ p ∧ H x = none := fun x hx => by
    have := hf x hx
    by_cases z : x = p
    · rw [z, upd_same] at this; cases this
    · exact ⟨z, by rw [upd_ne z] at this; exact this⟩
  have hX : Xt (L ++ (as ++ (p :: M))) H1 (upd H1 p (.dK kvs)) := Xt.put (List.mem_append_right _ (List.mem_append_right _ (.head _)))
  have sb : ∀ c, c ∈ M → c ∈ as ++ (p :: M) := fun c hc => List.mem_append_right _ (.tail _ hc)
  have sB : ∀ c, c ∈ L ++ M → c ∈ L ++ (as ++ (p :: M)) := fun c hc => (List.mem_append.mp hc).elim (fun z => List.mem_append_left _ z) fun z => List.mem_append_right _ (sb c z)
  have xx : Xt L H (upd H1 p (.dK kvs)) := fun b o nb e => by
    have ne : b ≠ p := ne_of_none e hp
    rw [upd_ne ne]
    exact x1 b o nb (by rw [upd_ne ne]; exact e)
  have I2 : Ib K M L σ δ1 (upd H1 p (.dK kvs)) := ⟨⟨(I1.sl.step hX fun b hb => upd_ne (fun z => nL p hp (by rw [← z]; exact hb))).to fun b hb => .inl (sB b hb), I1.nd, fun a ha z => I1.lm a ha (sb a z), fun a ha => by
    by_cases z : a = p
    · rw [z, upd_same]; exact fun z => nomatch z
    · rw [upd_ne z]; exact I1.out a (sb a ha)⟩, I.gx.go (Fr.of_xt xx)⟩
  have nn : ∀ x, H x = none → x ∉ L ++ M := fun x hx z => (List.mem_append.mp z).elim (nL x hx) (nM x hx)
  exact k' (.ref p) _ δ1 _ I2 xx (.dct (nn p hp) upd_same ((ho.step hX fun b hb => upd_ne (fa b hb).1).toK (fun b hb => .inl (sB b hb)) fun b hb => nn b (fa b hb).2)) q
theorem lf_putK (l : List (Key × Dt)) (kl : List Str) {ks : List (Key × Od)} {k : Str} {d : Dt} {P : List (Key × Od) → Prop} (e : ks = odG l) (hk : l.map (·.1) = kl.map Sum.inr) (hn : k ∉ kl) (hl : kl.length < 100000) (q : P (odG (l ++ [(Sum.inr k, d)]))) : LPut ks (.str k) d P := by
  subst e
  refine lf_put (fun p hp z => hn ?_) ?_ q
  · have : p.1 ∈ l.map (·.1) := List.mem_map_of_mem hp
    rw [hk, z] at this
    obtain ⟨x, hx, e⟩ := List.mem_map.mp this
    rw [← Sum.inr.inj e]; exact hx
  · have : (l.map (·.1)).length = kl.length := by rw [hk, List.length_map]
    rw [List.length_map] at this; omega
end
end My

namespace My
open PySem PySem.Spec PyProof.Rows L2
section
variable {K : PySem.W.Frag} [Xg K] {δ δ2 : Store} {ta tb tc te tl td ty tx tv : TE} {tr : TA} {t u tu : TS} {g : TG} {n b c : Store → Prop} {r : Dt → Store → Prop} {Φ : Dt → Store → Prop}
/-! ### several things at once, some of them lists of the def's own -/
def Od.sd : Od → Sd
  | .dat d => .dat d
  | .own ds => .own ds
inductive OdV (K : PySem.W.Frag) (A : List Addr) (H : Hp) : List V → List Od → List Addr → Prop
  | nil : OdV K A H [] [] []
  | dat {v : V} {d : Dt} {vs : List V} {os : List Od} {as : List Addr} (h : Rp K A H v d) (t : OdV K A H vs os as) : OdV K A H (v :: vs) (.dat d :: os) as
  | own {a : Addr} {xs : List V} {es : List Dt} {vs : List V} {os : List Od} {as : List Addr} (e : H a = some (.lst xs)) (h : RpL K A H xs es) (t : OdV K A H vs os as) : OdV K A H (.ref a :: vs) (.own es :: os) (a :: as)
theorem OdV.to {A B : List Addr} {H : Hp} (s : ∀ a, a ∈ B → a ∈ A ∨ H a = none) : ∀ {vs : List V} {os : List Od} {as : List Addr}, OdV K A H vs os as → OdV K B H vs os as
  | _, _, _, .nil => .nil
  | _, _, _, .dat h t => .dat (h.to s) (t.to s)
  | _, _, _, .own e h t => .own e (h.to s) (t.to s)
def Wm (K : PySem.W.Frag) [Xg K] (tr : TA) (δ : Store) (Θ : List Od → Store → Prop) : Prop := ∀ M L σ H, Ib K M L σ δ H → ∀ Q : List V → Hp → Prop, (∀ vs os as δ' H', Ib K (as ++ M) L σ δ' H' → Xt L H H' → OdV K (L ++ (as ++ M)) H' vs os as → as.Nodup → (∀ b ∈ as, H b = none) → Θ os δ' → Q vs H') → tr σ H Q
theorem wm_nil {Θ : List Od → Store → Prop} (q : Θ [] δ) : Wm K tNil δ Θ := fun M L σ H I Q k => k [] [] [] δ H I (Xt.refl _ _) .nil List.nodup_nil (fun _ z => nomatch z) q
theorem wm_dat {Θ : List Od → Store → Prop} (q : W K te δ fun d δ1 => Wm K tr δ1 fun os δ2 => Θ (.dat d :: os) δ2) : Wm K (tCons te tr) δ Θ := fun M L σ H I Q k' => by
  refine q M L σ H I _ fun v d δ1 H1 I1 x1 hv q1 => q1 M L σ H1 I1 _ fun vs os as δ2 H2 I2 x2 ho nd hf q2 => ?_
  refine k' (v :: vs) (.dat d :: os) as δ2 H2 I2 (x1.trans x2) (.dat ?_ ho) nd (fun b hb => ?_) q2
  · have h1 : Rp K (L ++ (as ++ M)) H1 v d := hv.to fun b hb => by
      rcases List.mem_append.mp hb with z | z
      · exact .inl (List.mem_append_left _ z)
      · rcases List.mem_append.mp z with z | z
        · exact .inr (hf b z)
        · exact .inl (List.mem_append_right _ z)
    exact h1.mono (x2.sub fun a h => List.mem_append_left _ h)
  · have nL : b ∉ L := fun z => I1.sl.here b z (hf b hb)
    cases e : H b with
    | none => rfl
    | some o => rw [← hf b hb]; exact (x1 b o nL e).symm
theorem wm_own {Θ : List Od → Store → Prop} (q : Wn K te δ fun ds δ1 => Wm K tr δ1 fun os δ2 => Θ (.own ds :: os) δ2) : Wm K (tCons te tr) δ Θ := fun M L σ H I Q k' => by
  refine q M L σ H I _ fun a xs ds δ1 H1 I1 x1 ha hx q1 => q1 (a :: M) L σ _ (I1.more ha) _ fun vs os as δ2 H2 I2 x2 ho nd hf q2 => ?_
  have nL : ∀ b, H1 b = none → b ∉ L := fun b hb z => I1.sl.here b z hb
  have fa : ∀ b ∈ as, b ≠ a ∧ H1 b = none := fun b hb => by
    have := hf b hb
    by_cases z : b = a
    · rw [z, upd_same] at this; cases this
    · exact ⟨z, by rw [upd_ne z] at this; exact this⟩
  have up : ∀ b, H1 b = none → H b = none := fun b hb => by
    cases e : H b with
    | none => rfl
    | some o => rw [← hb]; exact (x1 b o (nL b hb) e).symm
  have sb : ∀ c, c ∈ (a :: as) ++ M → c ∈ as ++ (a :: M) := fun c hc => by
    rcases List.mem_cons.mp hc with z | z
    · rw [z]; exact List.mem_append_right _ (.head _)
    · rcases List.mem_append.mp z with z | z
      · exact List.mem_append_left _ z
      · exact List.mem_append_right _ (.tail _ z)
  have sB : ∀ c, c ∈ L ++ ((a :: as) ++ M) → c ∈ L ++ (as ++ (a :: M)) := fun c hc => (List.mem_append.mp hc).elim (fun z => List.mem_append_left _ z) fun z => List.mem_append_right _ (sb c z)
  refine k' (.ref a :: vs) (.own ds :: os) (a :: as) δ2 H2 (I2.less sb ((I.gx.more fun b hb => List.mem_append_right _ hb).go (Fr.of_xt ((x1.trans (Xt.new ha)).trans x2)))) ((x1.trans (Xt.new ha)).trans x2) (.own (x2 a _ (nL a ha) upd_same) ?_ (ho.to fun b hb => .inl (sB b hb))) (List.nodup_cons.mpr ⟨fun z => (fa a z).1 rfl, nd⟩) (fun b hb => ?_) q2
  · have h1 : RpL K (L ++ ((a :: as) ++ M)) H1 xs ds := hx.to fun b hb => by
      rcases List.mem_append.mp hb with z | z
      · exact .inl (List.mem_append_left _ z)
      · rcases List.mem_cons.mp z with z | z
        · exact .inr (by rw [z]; exact ha)
        · rcases List.mem_append.mp z with z | z
          · exact .inr (fa b z).2
          · exact .inl (List.mem_append_right _ z)
    exact (h1.mono (Xt.new ha)).mono (x2.sub fun a h => List.mem_append_left _ h)
  · rcases List.mem_cons.mp hb with z | z
    · rw [z]; exact up a ha
    · exact up b (fa b z).2
end
section
variable {K : PySem.W.Frag} {δ : Store} {M L : List Addr} {σ : L2.St} {H : Hp}
/-- what others may change becomes the def's own -/
theorem Ib.claim {a : Addr} {xs : List V} {ds : List Dt} {N : List Addr} (i : Nat) (I : Ib K (a :: N) L σ δ H) (na : a ∉ N) (hx : H a = some (.lst xs)) (hr : RpL K (L ++ (a :: N)) H xs ds) : ∃ L', Ib K N L' (σ.set i (some (.ref a))) (δ.set i (.own ds)) H ∧ ∀ b ∈ L', b = a ∨ b ∈ L := by
  obtain ⟨L', h1, h2, h3⟩ := I.sl.setO (.own hx hr) i (fun z => I.lm a z (.head _)) I.nd
  refine ⟨L', ⟨⟨h1.to fun b hb => .inl ?_, h2, fun b hb z => ?_, fun b hb => I.out b (.tail _ hb)⟩, okX0⟩, h3⟩
  · rcases List.mem_append.mp hb with z | z
    · rcases h3 b z with w | w
      · rw [w]; exact List.mem_append_right _ (.head _)
      · exact List.mem_append_left _ w
    · exact List.mem_append_right _ (.tail _ z)
  · rcases h3 b hb with w | w
    · exact na (by rw [← w]; exact z)
    · exact I.lm b w (.tail _ z)
theorem Ib.setOd {v : V} {o : Od} {vs : List V} {os : List Od} {as : List Addr} (i : Nat) (I : Ib K (as ++ M) L σ δ H) (h : OdV K (L ++ (as ++ M)) H (v :: vs) (o :: os) as) (nd : as.Nodup) (nm : ∀ b ∈ as, b ∉ M) :
    ∃ L' as', Ib K (as' ++ M) L' (σ.set i (some v)) (δ.set i o.sd) H ∧ OdV K (L' ++ (as' ++ M)) H vs os as' ∧ as'.Nodup ∧ (∀ b ∈ as', b ∈ as) ∧ ∀ b ∈ L', b ∈ as ∨ b ∈ L := by
  cases h with
  | dat h t =>
    obtain ⟨L', I', f⟩ := I.setD i h
    refine ⟨L', as, I', t.to fun b hb => .inl ?_, nd, fun b hb => hb, fun b hb => ?_⟩
    · exact f.sub_of I'.sl.here b hb
    · exact .inr ((f.nw b hb).resolve_right (I'.sl.here b hb))
  | @own a xs es _ _ as' e h t =>
    have nd2 := List.nodup_cons.mp nd
    obtain ⟨L', I', sb⟩ := I.claim (N := as' ++ M) i (fun z => (List.mem_append.mp z).elim nd2.1 (nm a (.head _))) e h
    refine ⟨L', as', I', t.to fun b hb => .inl ?_, nd2.2, fun b hb => .tail _ hb, fun b hb => ?_⟩
    · rcases List.mem_append.mp hb with z | z
      · rcases sb b z with w | w
        · rw [w]; exact List.mem_append_right _ (.head _)
        · exact List.mem_append_left _ w
      · exact List.mem_append_right _ (.tail _ z)
    · rcases sb b hb with w | w
      · rw [w]; exact .inl (.head _)
      · exact .inr w
end
section
variable {K : PySem.W.Frag} [Xg K] {δ δ2 : Store} {ta tb tc te tl td ty tx tv : TE} {tr : TA} {t u tu : TS} {g : TG} {n b c : Store → Prop} {r : Dt → Store → Prop} {Φ : Dt → Store → Prop}
theorem x_parM {i j : Nat} (q : Wm K tr δ fun os δ1 => ∃ x y, os = [x, y] ∧ ∃ δ2, δ1.set i x.sd = δ2 ∧ ∃ δ3, δ2.set j y.sd = δ3 ∧ n δ3) : Sw K (tPar i j tr) δ ⟨n, r, b, c⟩ := fun M L σ H I D k => by
  refine q M L σ H I _ fun vs os as δ1 H1 I1 x1 ho nd hf ⟨x, y, e, δ2, e2, δ3, e3, q⟩ => ?_
  subst e
  have nm : ∀ b ∈ as, b ∉ M := fun b hb z => I.out b z (hf b hb)
  cases vs with
  | nil => cases ho
  | cons v vs => cases vs with
    | nil => cases ho with
      | dat _ t => cases t
      | own _ _ t => cases t
    | cons w vs =>
      obtain ⟨L2, as2, I2, o2, nd2, s2, l2⟩ := (Ib.x0 I1).setOd i ho nd nm
      obtain ⟨L3, as3, I3, o3, nd3, s3, l3⟩ := I2.setOd j o2 nd2 fun b hb => nm b (s2 b hb)
      cases o3
      rw [e2, e3] at I3
      have f : Fr L H L3 H1 := ⟨x1, fun b hb => by
        rcases l3 b hb with z | z
        · exact .inr (hf b (s2 b z))
        · rcases l2 b z with z | z
          · exact .inr (hf b z)
          · exact .inl z⟩
      exact ⟨v, w, rfl, k.nx L3 _ δ3 H1 ⟨Ib.d0 I3, I.gx.go f⟩ f q⟩
theorem x_par3M {i j l : Nat} (q : Wm K tr δ fun os δ1 => ∃ x y z, os = [x, y, z] ∧ ∃ δ2, δ1.set i x.sd = δ2 ∧ ∃ δ3, δ2.set j y.sd = δ3 ∧ ∃ δ4, δ3.set l z.sd = δ4 ∧ n δ4) : Sw K (tPar3 i j l tr) δ ⟨n, r, b, c⟩ := fun M L σ H I D k => by
  refine q M L σ H I _ fun vs os as δ1 H1 I1 x1 ho nd hf ⟨x, y, z, e, δ2, e2, δ3, e3, δ4, e4, q⟩ => ?_
  subst e
  have nm : ∀ b ∈ as, b ∉ M := fun b hb z => I.out b z (hf b hb)
  have len : vs.length = 3 := by
    have : ∀ {vs : List V} {os : List Od} {as : List Addr}, OdV K (L ++ (as ++ M)) H1 vs os as → vs.length = os.length := fun {vs os as} h => by
      generalize L ++ (as ++ M) = A at h
      induction h with
      | nil => rfl
      | dat _ _ ih => exact congrArg Nat.succ ih
      | own _ _ _ ih => exact congrArg Nat.succ ih
    exact this ho
  match vs, len with
  | [v, w, p], _ =>
    obtain ⟨L2, as2, I2, o2, nd2, s2, l2⟩ := (Ib.x0 I1).setOd i ho nd nm
    obtain ⟨L3, as3, I3, o3, nd3, s3, l3⟩ := I2.setOd j o2 nd2 fun b hb => nm b (s2 b hb)
    obtain ⟨L4, as4, I4, o4, nd4, s4, l4⟩ := I3.setOd l o3 nd3 fun b hb => nm b (s2 b (s3 b hb))
    cases o4
    rw [e2, e3, e4] at I4
    have f : Fr L H L4 H1 := ⟨x1, fun b hb => by
      rcases l4 b hb with z | z
      · exact .inr (hf b (s2 b (s3 b z)))
      · rcases l3 b z with z | z
        · exact .inr (hf b (s2 b z))
        · rcases l2 b z with z | z
          · exact .inr (hf b z)
          · exact .inl z⟩
    exact ⟨v, w, p, rfl, k.nx L4 _ δ4 H1 ⟨Ib.d0 I4, I.gx.go f⟩ f q⟩
theorem lf_par {x y : Od} {P : Od → Od → Prop} (q : P x y) : ∃ x' y', [x, y] = [x', y'] ∧ P x' y' := ⟨x, y, rfl, q⟩
theorem lf_parD {x y : Dt} {P : Dt → Dt → Prop} (q : P x y) : ∃ x' y', [x, y] = [x', y'] ∧ P x' y' := ⟨x, y, rfl, q⟩
theorem lf_par3 {x y z : Od} {P : Od → Od → Od → Prop} (q : P x y z) : ∃ x' y' z', [x, y, z] = [x', y', z'] ∧ P x' y' z' := ⟨x, y, z, rfl, q⟩
theorem lf_par3D {x y z : Dt} {P : Dt → Dt → Dt → Prop} (q : P x y z) : ∃ x' y' z', [x, y, z] = [x', y', z'] ∧ P x' y' z' := ⟨x, y, z, rfl, q⟩
end
end My

namespace My
open PySem PySem.Spec PyProof.Rows L2
section
variable {K : PySem.W.Frag} [Xg K] {δ δ2 : Store} {ta tb tc te tl td ty tx tv : TE} {tr : TA} {t u tu : TS} {g : TG} {n b c : Store → Prop} {r : Dt → Store → Prop} {Φ : Dt → Store → Prop}
theorem pil_snoc (p : Pile) (x : Int × Str) : pilD (p ++ [x]) = pilD p ++ [.tup [.int x.1, .str x.2]] := by unfold pilD; rw [List.map_append]; rfl
theorem pil_len (p : Pile) : (pilD p).length = p.length := List.length_map ..
theorem pil_pur : ∀ (p : Pile), Dt.purL 59 (pilD p) = true
  | [] => rfl
  | x :: p => by
    have := pil_pur p
    unfold pilD at this ⊢
    rw [List.map_cons]
    simp only [Dt.purL, Dt.pur, this, Bool.and_self, Bool.and_true]
theorem pil_purD (p : Pile) : (Dt.lst (pilD p)).pur 60 = true := by simp only [Dt.pur]; exact pil_pur p
theorem strs_pur : ∀ (p : List Str), Dt.purL 59 (strsD p) = true
  | [] => rfl
  | x :: p => by
    have := strs_pur p
    unfold strsD at this ⊢
    rw [List.map_cons]
    simp only [Dt.purL, Dt.pur, this, Bool.and_self, Bool.and_true]
def LDd (a d : Dt) (P : Bool → Prop) : Prop := a.pur 60 = true ∧ d.pur 60 = true ∧ P (a.eqv d)
theorem y_eqD (q : W K ta δ fun a δ1 => W K tb δ1 fun d δ2 => LDd a d fun x => Φ (.bl x) δ2) : W K (tOp (rEqD K) ta tb) δ Φ := w_eqD q
theorem y_neD (q : W K ta δ fun a δ1 => W K tb δ1 fun d δ2 => LDd a d fun x => Φ (.bl (!x)) δ2) : W K (tOp (rNeD K) ta tb) δ Φ := w_neD q
theorem eqv_nil (ds : List Dt) : (Dt.lst ds).eqv (.lst []) = ds.isEmpty := by
  cases ds <;> simp [Dt.eqv, Dt.py, Dt.pyL, PyData.eqv, PyData.eqvAll]
theorem lf_pilNil {p : Pile} {P : Bool → Prop} (q : P (pilD p).isEmpty) : LDd (.lst (pilD p)) (.lst []) P := ⟨pil_purD p, rfl, by rw [eqv_nil]; exact q⟩
theorem lf_strNil {p : List Str} {P : Bool → Prop} (q : P (strsD p).isEmpty) : LDd (.lst (strsD p)) (.lst []) P := ⟨by simp only [Dt.pur]; exact strs_pur p, rfl, by rw [eqv_nil]; exact q⟩
theorem RpL.dpL {A : List Addr} {H : Hp} {xs : List V} {ds : List Dt} {k : Nat} {a : Addr} (e : H a = some (.lst xs)) (h : RpL K A H xs ds) (hp : Dt.purL k ds = true) : Dp K H (.ref a) (Dt.lst ds).py := .lst (.inl (.inl e)) (RpL.dp h hp)
theorem RpL.shpL {A : List Addr} {H : Hp} {xs : List V} {ds : List Dt} (h : RpL K A H xs ds) (hp : Dt.purL 59 ds = true) : SeqAt.shaped (Dt.lst ds).py = true := by
  have := RpL.lay h hp
  unfold SeqAt.shaped
  simp only [Dt.py, PyData.canLay0, PyData.depth, this.1, Bool.true_and]
  exact decide_eq_true (by omega)
theorem w_neOwn {i : Nat} {ds0 : List Dt} (h0 : δ[i]? = some (.own ds0)) (q : W K tb δ fun d δ2 => ∃ ds, δ2[i]? = some (.own ds) ∧ Dt.purL 59 ds = true ∧ d.pur 60 = true ∧ Φ (.bl (!(Dt.lst ds).eqv d)) δ2) : W K (tOp (rNeD K) (tVar i) tb) δ Φ := fun M L σ H I Q k => by
  obtain ⟨a, e, _, _⟩ := I.sl.get_cell rfl h0
  refine ⟨.ref a, e, q M L σ H I _ fun u d δ2 H2 I2 x2 hu ⟨ds, h2, hp, hd, q⟩ => ?_⟩
  obtain ⟨a', e', _, o'⟩ := I2.sl.get_cell rfl h2
  rw [e] at e'
  cases e'
  cases o' with
  | own ho hl => exact ⟨(Dt.lst ds).py, d.py, hl.dpL ho hp, hu.dp hd, hl.shpL hp, hu.shp hd, k _ _ _ _ I2 x2 (.bl _) q⟩
theorem w_eqOwn {i : Nat} {ds0 : List Dt} (h0 : δ[i]? = some (.own ds0)) (q : W K tb δ fun d δ2 => ∃ ds, δ2[i]? = some (.own ds) ∧ Dt.purL 59 ds = true ∧ d.pur 60 = true ∧ Φ (.bl ((Dt.lst ds).eqv d)) δ2) : W K (tOp (rEqD K) (tVar i) tb) δ Φ := fun M L σ H I Q k => by
  obtain ⟨a, e, _, _⟩ := I.sl.get_cell rfl h0
  refine ⟨.ref a, e, q M L σ H I _ fun u d δ2 H2 I2 x2 hu ⟨ds, h2, hp, hd, q⟩ => ?_⟩
  obtain ⟨a', e', _, o'⟩ := I2.sl.get_cell rfl h2
  rw [e] at e'
  cases e'
  cases o' with
  | own ho hl => exact ⟨(Dt.lst ds).py, d.py, hl.dpL ho hp, hu.dp hd, hl.shpL hp, hu.shp hd, k _ _ _ _ I2 x2 (.bl _) q⟩
/-- an own list compared with [] -/
theorem y_neOwn0 {i : Nat} {ds : List Dt} (h0 : δ[i]? = some (.own ds)) (hp : Dt.purL 59 ds = true) (q : Φ (.bl (!ds.isEmpty)) δ) : W K (tOp (rNeD K) (tVar i) (tLst tNil)) δ Φ := w_neOwn h0 (w_of_n (wn_lst (wa_nil ⟨by decide, ds, h0, hp, rfl, by rw [eqv_nil]; exact q⟩)))
theorem y_eqOwn0 {i : Nat} {ds : List Dt} (h0 : δ[i]? = some (.own ds)) (hp : Dt.purL 59 ds = true) (q : Φ (.bl ds.isEmpty) δ) : W K (tOp (rEqD K) (tVar i) (tLst tNil)) δ Φ := w_eqOwn h0 (w_of_n (wn_lst (wa_nil ⟨by decide, ds, h0, hp, rfl, by rw [eqv_nil]; exact q⟩)))
theorem pil_empty (p : Pile) : (pilD p).isEmpty = p.isEmpty := by cases p <;> rfl
theorem at_last (ds : List Dt) (d : Dt) : atI (ds ++ [d]) (-1) = some d := L2.atI_last _ _
theorem at_lastP (p : Pile) (x : Int × Str) : atI (pilD (p ++ [x])) (-1) = some (.tup [.int x.1, .str x.2]) := by rw [pil_snoc]; exact at_last _ _
theorem lf_inFree {b : LB} {s : Str} {P : Bool → Prop} (q : P (decide (s ∈ b.frees))) : LInS (.str s) (.lst (strsD (b.en.map (·.1)) ++ strsD (b.br.map (·.2)))) P := ⟨s, b.frees, rfl, by unfold LB.frees; rw [← strs_app]; rfl, q⟩
def tHead (ds : List Dt) (κ : Dt → Prop) : Prop := ∃ (b : LB) (s : LState) (l : LLine), ds = [b.dt, s.dt, l.dt] ∧ b.Ok ∧ s.Ok b ∧ l.Ok ∧ s.pile.length ≤ 50000 ∧ κ (.lst [.lst (strsD (mHead b s l).1), .lst (pilD (mHead b s l).2.1), .str (mHead b s l).2.2])
theorem pairG {b : LB} (h : b.Ok) {w : Str} (hw : w ∈ b.op.map (·.1)) : lkD (opsD b.op) (Sum.inr w : Key) = some (Dt.tup [Dt.str (b.rule w).1, Dt.str (b.rule w).2]) ∧ ((b.rule w).1 = ("deeper" : Str) ∨ (b.rule w).1 = ("level" : Str)) ∧ ((b.rule w).2 = ("filled" : Str) ∨ (b.rule w).2 = ("empty" : Str)) := by
  unfold opsD
  rw [lkD_map]
  have : ∀ l : List (Str × Str × Str), w ∈ l.map (·.1) → ∃ y ∈ l, (l.find? fun x => decide (x.1 = w)) = some y ∧ (l.lookup w).getD ("", "") = y.2 := by
    intro l
    induction l with
    | nil => intro h; cases h
    | cons x l ih =>
      intro hm
      by_cases e : x.1 = w
      · exact ⟨x, .head _, by rw [List.find?_cons, decide_eq_true e], by
          obtain ⟨a, b⟩ := x
          subst e
          simp [List.lookup]⟩
      · rcases List.mem_cons.mp hm with z | z
        · exact absurd z.symm e
        · obtain ⟨y, h1, h2, h3⟩ := ih z
          refine ⟨y, .tail _ h1, by rw [List.find?_cons, decide_eq_false e]; exact h2, ?_⟩
          obtain ⟨a, b⟩ := x
          have e2 : (w == a) = false := by simp; exact fun z => e z.symm
          simp only [List.lookup, e2]; exact h3
  obtain ⟨y, h1, h2, h3⟩ := this b.op hw
  have e : b.rule w = y.2 := h3
  rw [h2, e]
  exact ⟨rfl, (h.ops y h1).2⟩
theorem w_one (v : Dt) (q : W K te δ fun d δ' => d = v ∧ δ' = δ) (h : Φ v δ) : W K te δ Φ := q.imp fun d δ' ⟨h1, h2⟩ => by rw [h1, h2]; exact h
theorem wt_val {k : TT} {Φ : Bool → Store → Prop} (v : Bool) (q : Wt K k δ fun d δ' => d = v ∧ δ' = δ) (h : Φ v δ) : Wt K k δ Φ := q.imp fun d δ' ⟨h1, h2⟩ => by rw [h1, h2]; exact h
def LCatO (δ : Store) (i : Nat) (d : Dt) (P : List Dt → Prop) : Prop := ∃ ds es, δ[i]? = some (.own ds) ∧ d = .lst es ∧ ds.length + es.length ≤ 100000 ∧ P (ds ++ es)
theorem y_catOwn {i : Nat} {ds0 : List Dt} (h0 : δ[i]? = some (.own ds0)) (q : W K tb δ fun d δ2 => LCatO δ2 i d fun ds => Φ (.lst ds) δ2) : W K (tOp rCat (tVar i) tb) δ Φ := w_of_n (wn_catOwn h0 q)
theorem lf_catO {i : Nat} {ds es : List Dt} {P : List Dt → Prop} (h0 : δ[i]? = some (.own ds)) (hl : ds.length + es.length ≤ 100000) (q : P (ds ++ es)) : LCatO δ i (.lst es) P := ⟨ds, es, h0, rfl, hl, q⟩
def LIxO (δ : Store) (i : Nat) (x : Dt) (P : Dt → Prop) : Prop := ∃ ds j d, δ[i]? = some (.own ds) ∧ x = .int j ∧ atI ds j = some d ∧ P d
theorem y_ixOwn {i : Nat} {ds0 : List Dt} (h0 : δ[i]? = some (.own ds0)) (q : W K tb δ fun x δ2 => LIxO δ2 i x fun d => Φ d δ2) : W K (tOp (rIxL K) (tVar i) tb) δ Φ := w_ixOwn h0 (q.imp fun x δ2 ⟨ds, j, d, h1, h2, h3, h4⟩ => ⟨ds, j, d, h1, h2, h3, h4⟩)
theorem lf_ixO {i : Nat} {ds : List Dt} {j : Int} {d : Dt} {P : Dt → Prop} (h0 : δ[i]? = some (.own ds)) (hd : atI ds j = some d) (q : P d) : LIxO δ i (.int j) P := ⟨ds, j, d, h0, rfl, hd, q⟩
theorem yn_catOwn {Ψ : List Dt → Store → Prop} {i : Nat} {ds0 : List Dt} (h0 : δ[i]? = some (.own ds0)) (q : W K tb δ fun d δ2 => LCatO δ2 i d fun ds => Ψ ds δ2) : Wn K (tOp rCat (tVar i) tb) δ Ψ := wn_catOwn h0 q
def LDc (o : Dt) (P : List (Key × Dt) → Prop) : Prop := ∃ ks, o = .dct ks ∧ P ks
def LKy (i : Dt) (P : Key → Prop) : Prop := ∃ k, i.key = some k ∧ P k
theorem y_dget2 (q : W K td δ fun o δ1 => LDc o fun ks => W K ty δ1 fun i δ2 => W K tx δ2 fun e δ3 => LKy i fun k => Φ ((lkD ks k).getD e) δ3) : W K (tDGet2 td ty tx) δ Φ := w_dget2 q
theorem lf_dc {ks : List (Key × Dt)} {P : List (Key × Dt) → Prop} (q : P ks) : LDc (.dct ks) P := ⟨ks, rfl, q⟩
theorem lf_ky {s : Str} {P : Key → Prop} (q : P (Sum.inr s)) : LKy (.str s) P := ⟨_, rfl, q⟩
theorem ssD_find (w : Str) : ∀ l : List (Str × Str), ((l.find? fun x => decide (x.1 = w)).isSome = decide (w ∈ l.map (·.1))) ∧ ((l.find? fun x => decide (x.1 = w)).map fun x => Dt.str x.2) = (l.lookup w).map Dt.str
  | [] => ⟨rfl, rfl⟩
  | (a, y) :: l => by
    obtain ⟨h1, h2⟩ := ssD_find w l
    by_cases e : a = w
    · subst e
      rw [List.find?_cons, decide_eq_true (show (a, y).1 = a from rfl)]
      exact ⟨by simp, by simp [List.lookup]⟩
    · have e2 : (w == a) = false := by simp; exact fun z => e z.symm
      have e3 : ¬ w = a := fun z => e z.symm
      rw [List.find?_cons, decide_eq_false (show ¬ (a, y).1 = w from e)]
      exact ⟨by rw [h1]; simp [e3], by simp only [List.lookup, e2]; exact h2⟩
theorem ssD_lk (l : List (Str × Str)) (w : Str) : lkD (ssD l) (Sum.inr w : Key) = (l.lookup w).map Dt.str := by
  unfold ssD
  rw [lkD_map]
  exact (ssD_find w l).2
theorem ssD_some (l : List (Str × Str)) (w : Str) : (lkD (ssD l) (Sum.inr w : Key)).isSome = decide (w ∈ l.map (·.1)) := by
  unfold ssD
  rw [lkD_map, ← (ssD_find w l).1]
  cases (l.find? fun x => decide (x.1 = w)) <;> rfl
theorem opsD_some (l : List (Str × Str × Str)) (w : Str) : (lkD (opsD l) (Sum.inr w : Key)).isSome = decide (w ∈ l.map (·.1)) := by
  unfold opsD
  rw [lkD_map]
  have : ∀ l : List (Str × Str × Str), ((l.find? fun x => decide (x.1 = w)).map fun x => Dt.tup [.str x.2.1, .str x.2.2]).isSome = decide (w ∈ l.map (·.1)) := by
    intro l
    induction l with
    | nil => rfl
    | cons x l ih =>
      by_cases e : x.1 = w
      · rw [List.find?_cons, decide_eq_true e]; simp [e]
      · have e3 : ¬ w = x.1 := fun z => e z.symm
        rw [List.find?_cons, decide_eq_false e]
        show _ = decide (w ∈ x.1 :: l.map (·.1))
        simp only [List.mem_cons, e3, false_or]; exact ih
  exact this l
theorem want_lk (b : LB) (w : Str) : (lkD (ssD b.en) (Sum.inr w : Key)).getD (.str "") = .str (b.want w) := by
  rw [ssD_lk]
  unfold LB.want
  cases b.en.lookup w <;> rfl
theorem x_thru (C : Store → Prop) (q : Sw K t δ ⟨C, r, b, c⟩) (h : ∀ δ', C δ' → n δ') : Sw K t δ ⟨n, r, b, c⟩ := q.imp h (fun _ _ h => h) (fun _ h => h) (fun _ h => h)
end
end My

namespace My
open PySem PySem.Spec PyProof.Rows L2
theorem cutWhile_lenL (f : Int × Str → Bool) (p : Pile) : (cutWhile f p).length ≤ p.length := by
  unfold cutWhile
  rw [List.length_reverse]
  exact Nat.le_trans (List.dropWhile_sublist f).length_le (by rw [List.length_reverse]; exact Nat.le_refl _)
theorem mRest_len {b : LB} {f : List Str} {p : Pile} {c : Int} {free : Bool} : (mRest b f p c free).1.length ≤ f.length + p.length + 1 ∧ (mRest b f p c free).2.1.length ≤ p.length := by
  have h1 := cutWhile_lenL (fun x => decide (c < x.1)) p
  unfold mRest
  split
  · exact ⟨by show f.length ≤ _; omega, Nat.le_refl _⟩
  · dsimp only
    split
    · exact ⟨by simp; omega, h1⟩
    · exact ⟨by simp; omega, h1⟩
theorem mHead_len (b : LB) (s : LState) (l : LLine) : (mHead b s l).1.length ≤ s.pile.length + 3 ∧ (mHead b s l).2.1.length ≤ s.pile.length + 1 := by
  unfold mHead
  dsimp only
  split
  · have := mRest_len (b := b) (f := []) (p := s.pile) (c := l.col) (free := decide (l.ws.headD "" ∈ b.frees))
    exact ⟨Nat.le_trans this.1 (by show 0 + s.pile.length + 1 ≤ _; omega), Nat.le_trans this.2 (Nat.le_succ _)⟩
  · split
    · exact ⟨by show 1 ≤ _; omega, by simp⟩
    · split
      · exact ⟨Nat.zero_le _, Nat.le_succ _⟩
      · have := mRest_len (b := b) (f := ["{", "}"]) (p := s.pile) (c := l.col) (free := decide (l.ws.headD "" ∈ b.frees))
        exact ⟨Nat.le_trans this.1 (by show 2 + s.pile.length + 1 ≤ _; omega), Nat.le_trans this.2 (Nat.le_succ _)⟩
theorem push_len (b : LB) (w : Str) (p : Pile) : (b.push w p).length ≤ p.length + 1 := by
  unfold LB.push
  split
  · rw [List.length_append]; exact Nat.le_refl _
  · omega
theorem mWord_len (b : LB) (p : Pile) (w : Str) : (mWord b p w).1.length + (mWord b p w).2.1.length ≤ p.length + 3 ∧ (mWord b p w).2.1.length ≤ p.length + 1 := by
  have h1 := cutWhile_lenL (fun x => decide (0 ≤ x.1) && decide (x.2 ≠ b.want w)) p
  have h2 : (unwind (b.want w) p).length ≤ p.length := h1
  unfold mWord
  split
  · dsimp only
    split
    · exact ⟨by simp; omega, by show (unwind (b.want w) p).length ≤ _; omega⟩
    · split
      · exact ⟨by simp; omega, by show (unwind (b.want w) p).length ≤ _; omega⟩
      · have h3 := push_len b w (unwind (b.want w) p).dropLast
        rw [List.length_dropLast] at h3
        have h4 : (if b.want w ≠ ("" : Str) then [("}" : Str)] else []).length ≤ 1 := by split <;> decide
        refine ⟨?_, by show (b.push w (unwind (b.want w) p).dropLast).length ≤ _; omega⟩
        show (List.replicate _ _ ++ _ ++ [w]).length + (b.push w (unwind (b.want w) p).dropLast).length ≤ _
        rw [List.length_append, List.length_append, List.length_replicate]
        simp only [List.length_cons, List.length_nil]
        omega
  · have := push_len b w p
    exact ⟨by show 1 + (b.push w p).length ≤ p.length + 3; omega, this⟩
theorem mBody_len (b : LB) : ∀ (ws : List Str) (p : Pile), (mBody b p ws).1.length + (mBody b p ws).2.1.length ≤ p.length + 3 * ws.length ∧ (mBody b p ws).2.1.length ≤ p.length + ws.length
  | [], p => ⟨by show 0 + p.length ≤ _; omega, Nat.le_refl _⟩
  | w :: ws, p => by
    have h1 := mWord_len b p w
    have h2 := mBody_len b ws (mWord b p w).2.1
    show (if _ then _ else _ : List Str × Pile × Str).1.length + (if _ then _ else _ : List Str × Pile × Str).2.1.length ≤ _ ∧ (if _ then _ else _ : List Str × Pile × Str).2.1.length ≤ _
    split
    · dsimp only
      rw [List.length_append, List.length_cons]
      omega
    · rw [List.length_cons]; omega
theorem mLine_len (b : LB) (s : LState) (l : LLine) : (mLine b s l).1.length ≤ 2 * s.pile.length + 4 + 3 * l.ws.length ∧ (mLine b s l).2.1.pile.length ≤ s.pile.length + 1 + l.ws.length := by
  have h1 := mHead_len b s l
  have h2 := mBody_len b l.ws (mHead b s l).2.1
  unfold mLine
  dsimp only
  split
  · dsimp only
    rw [List.length_append]
    omega
  · exact ⟨Nat.zero_le _, by show s.pile.length ≤ _; omega⟩
section
variable {K : PySem.W.Frag} [Xg K] {δ δ2 : Store} {ta tb tc te tl td ty tx tv : TE} {tr : TA} {Φ : Dt → Store → Prop}
def LRepA (a b : Dt) (P : List Dt → Prop) : Prop := ∃ ds j, a = .tup ds ∧ b = .int j ∧ ds ≠ [] ∧ -1000 ≤ j ∧ j ≤ 1000 ∧ ds.length ≤ 1000 ∧ P (List.replicate j.toNat ds).flatten
theorem y_repA (q : W K ta δ fun a δ1 => W K tb δ1 fun b δ2 => LRepA a b fun ds => Φ (.tup ds) δ2) : W K (tOp (rRepA K) ta tb) δ Φ :=
  w_op q fun M L σ H v u a b δ2 I hv hu hp Q k => by
    obtain ⟨ds, j, rfl, rfl, hne, h0, h1, hz, q⟩ := hp
    obtain ⟨p, xs, rfl, hx, h⟩ := id hv.inv_tup
    rw [hu.inv_int]
    refine ⟨p, j, xs, rfl, rfl, hx, fun z => hne ?_, h0, h1, by rw [h.len]; exact hz, fun e => ?_, fun _ l hl => ?_⟩
    · have := h.len
      rw [z] at this
      exact List.length_eq_zero_iff.mp this.symm
    · subst e
      have e2 : (List.replicate (1 : Int).toNat ds).flatten = ds := by show (List.replicate 1 ds).flatten = ds; simp
      rw [e2] at q
      exact k _ _ _ _ I (Xt.refl _ _) hv q
    · exact k _ _ δ2 _ (I.new hl) (Xt.new hl) (.tup (I.fresh hl) (.inl upd_same) ((h.rep _).mono (Xt.new hl))) q
theorem lf_repA {ds : List Dt} {j : Int} {P : List Dt → Prop} (h : ds ≠ []) (h2 : -1000 ≤ j ∧ j ≤ 1000 ∧ ds.length ≤ 1000) (q : P (List.replicate j.toNat ds).flatten) : LRepA (.tup ds) (.int j) P := ⟨ds, j, rfl, rfl, h, h2.1, h2.2.1, h2.2.2, q⟩
def isNeg : Dt → Bool
  | .tup (.int c :: _) => decide (c < 0)
  | _ => false
theorem pil_filter (p : Pile) : ((pilD p).filter isNeg).map id = pilD (p.filter fun x => decide (x.1 < 0)) := by
  rw [List.map_id]
  induction p with
  | nil => rfl
  | cons x p ih =>
    have e : pilD (x :: p) = .tup [.int x.1, .str x.2] :: pilD p := rfl
    rw [e, List.filter_cons, List.filter_cons]
    show (if decide (x.1 < 0) = true then _ else _) = _
    by_cases h : decide (x.1 < 0) = true
    · rw [if_pos h, if_pos h, ih]; rfl
    · rw [if_neg h, if_neg h, ih]
theorem pil_get {p : Pile} {i : Nat} {d : Dt} (h : (pilD p)[i]? = some d) : ∃ x, d = .tup [.int x.1, .str x.2] ∧ p[i]? = some x := by
  unfold pilD at h
  rw [List.getElem?_map] at h
  cases e : p[i]? with
  | none => rw [e] at h; cases h
  | some w => rw [e] at h; cases h; exact ⟨w, rfl, rfl⟩
end
end My

namespace My
open PySem PySem.Spec PyProof.Rows L2
/-! ### what _law_read keeps -/
abbrev rec3 (p s : List Dt) (f : Dt) : List (Key × Od) := [(Sum.inr "parts", .own p), (Sum.inr "states", .own s), (Sum.inr "fault", .dat f)]
section
variable {p s p' : List Dt} {f f' : Dt}
theorem rec_p : lkD (rec3 p s f) (Sum.inr "parts" : Key) = some (.own p) := lkD_pos rfl
theorem ps_ne : ¬ ((Sum.inr (Str.ofString "parts") : Key) = Sum.inr (Str.ofString "states")) := fun z => absurd (Sum.inr.inj z) (by decide)
theorem pf_ne : ¬ ((Sum.inr (Str.ofString "parts") : Key) = Sum.inr (Str.ofString "fault")) := fun z => absurd (Sum.inr.inj z) (by decide)
theorem sf_ne : ¬ ((Sum.inr (Str.ofString "states") : Key) = Sum.inr (Str.ofString "fault")) := fun z => absurd (Sum.inr.inj z) (by decide)
theorem rec_s : lkD (rec3 p s f) (Sum.inr "states" : Key) = some (.own s) := (lkD_neg ps_ne).trans (lkD_pos rfl)
theorem rec_sp : stD (rec3 p s f) (Sum.inr "parts" : Key) (.own p') = rec3 p' s f := if_pos rfl
theorem rec_ss : stD (rec3 p s f) (Sum.inr "states" : Key) (.own p') = rec3 p p' f := by
  have h1 := ps_ne
  show (if (Sum.inr (Str.ofString "parts") : Key) = Sum.inr (Str.ofString "states") then _ else _) = _
  rw [if_neg h1]
  show _ :: (if (Sum.inr (Str.ofString "states") : Key) = Sum.inr (Str.ofString "states") then _ else _) = _
  rw [if_pos rfl]
theorem lf_fault {P : List (Key × Od) → Prop} (q : P (rec3 p s f')) : LPut (rec3 p s f) (.str "fault") f' P := by
  have h1 := pf_ne
  have h2 := sf_ne
  refine ⟨Sum.inr "fault", rfl, by show 3 < 100000; decide, ?_, ?_⟩
  · simp [List.all_cons, h1, h2, Od.isDat]
  · have e : lkD (rec3 p s f) (Sum.inr "fault" : Key) = some (.dat f) := (lkD_neg h1).trans ((lkD_neg h2).trans (lkD_pos rfl))
    unfold ptD
    have e2 : (rec3 p s f).map (fun p => if p.1 = (Sum.inr (Str.ofString "fault") : Key) then (p.1, Od.dat f') else p) = rec3 p s f' := by
      show [_, _, _] = _
      dsimp only
      rw [if_neg h1, if_neg h2, if_pos rfl]
    rw [e]
    show P (if true = true then _ else _)
    rw [if_pos rfl, e2]
    exact q
end
def parD (ps : List (List Str)) : List Dt := ps.map fun f => .tup (strsD f)
def stsD (ss : List LState) : List Dt := ss.map LState.dt
def linD (ls : List LLine) : List Dt := ls.map LLine.dt
def fauD : Option (Nat × Str) → Dt
  | none => .non
  | some (i, s) => .tup [.int i, .str s]
def rdDt (r : LRead) : Dt := .dct [(Sum.inr "parts", .lst (parD r.parts)), (Sum.inr "states", .lst (stsD r.states)), (Sum.inr "fault", fauD r.fault)]
theorem par_snoc (ps : List (List Str)) (f : List Str) : parD ps ++ [.tup (strsD f)] = parD (ps ++ [f]) := by unfold parD; rw [List.map_append]; rfl
theorem sts_snoc (ss : List LState) (s : LState) : stsD ss ++ [s.dt] = stsD (ss ++ [s]) := by unfold stsD; rw [List.map_append]; rfl
theorem lin_snoc (ss : List LLine) (s : LLine) : linD ss ++ [s.dt] = linD (ss ++ [s]) := by unfold linD; rw [List.map_append]; rfl
theorem sts_last (ss : List LState) (s : LState) : atI (stsD (ss ++ [s])) (-1) = some s.dt := by rw [← sts_snoc]; exact at_last _ _
theorem lin_at {ls : List LLine} {i : Nat} (h : i < ls.length) : ∃ l, ls[i]? = some l ∧ atI (linD ls) (i : Int) = some l.dt := by
  refine ⟨ls[i], List.getElem?_eq_getElem h, atI_nat ?_⟩
  unfold linD
  rw [List.getElem?_map, List.getElem?_eq_getElem h]; rfl
theorem lin_len (ls : List LLine) : (linD ls).length = ls.length := List.length_map ..
theorem par_len (ls : List (List Str)) : (parD ls).length = ls.length := List.length_map ..
theorem sts_len (ls : List LState) : (stsD ls).length = ls.length := List.length_map ..
section
variable {K : PySem.W.Frag} [Xg K] {δ δ2 : Store} {n b c : Store → Prop} {r : Dt → Store → Prop}
theorem x_appP {i j : Nat} {p s : List Dt} {f d : Dt} (h0 : δ[i]? = some (.recD (rec3 p s f))) (hj : δ[j]? = some (.dat d)) (hz : p.length < 100000) (h : δ.set i (.recD (rec3 (p ++ [d]) s f)) = δ2) (q : n δ2) : Sw K (tDrop (tBM K "list" rAppend (tDGet (tVar i) (tC (.str "parts"))) (tCons (tVar j) tNil))) δ ⟨n, r, b, c⟩ := x_appR h0 rec_p hj hz (by rw [rec_sp]; exact h) q
theorem x_appS {i j : Nat} {p s : List Dt} {f d : Dt} (h0 : δ[i]? = some (.recD (rec3 p s f))) (hj : δ[j]? = some (.dat d)) (hz : s.length < 100000) (h : δ.set i (.recD (rec3 p (s ++ [d]) f)) = δ2) (q : n δ2) : Sw K (tDrop (tBM K "list" rAppend (tDGet (tVar i) (tC (.str "states"))) (tCons (tVar j) tNil))) δ ⟨n, r, b, c⟩ := x_appR h0 rec_s hj hz (by rw [rec_ss]; exact h) q
end
end My

namespace My
open PySem PySem.Spec PyProof.Rows L2
section
variable {K : PySem.W.Frag} [Xg K] {δ δ2 : Store} {te : TE} {Φ : Dt → Store → Prop}
/-! ### a def that reads a list of its caller's own, its second argument -/
def spO (K : PySem.W.Frag) (T : List Dt → List Dt → (Dt → Prop) → Prop) : Sp := fun vs H Q _ => ∃ (M : List Addr) (p : Addr) (u : V) (d : Dt) (xs : List V) (es : List Dt) (κ : Dt → Prop), vs = [u, .ref p] ∧ H p = some (.lst xs) ∧ p ∉ M ∧ (∀ a ∈ M, H a ≠ none) ∧ Rp K (p :: M) H u d ∧ RpL K (p :: M) H xs es ∧ T [d] es κ ∧
  ∀ v d' H', κ d' → Xt [p] H H' → (∃ xs', H' p = some (.lst xs') ∧ RpL K (p :: M) H' xs' es) → Rp K (p :: M) H' v d' → Q v H'
theorem w_callO {T : List Dt → List Dt → (Dt → Prop) → Prop} {X : XK} {i : Nat} {es0 : List Dt} (h0 : δ[i]? = some (.own es0)) (q : W K te δ fun d δ1 => ∃ es, δ1[i]? = some (.own es) ∧ T [d] es fun d' => Φ d' δ1) : W K (tCall (spO K T) [] X (tCons te (tCons (tVar i) tNil))) δ Φ := fun M L σ H I Q k => by
  refine q M L σ H I _ fun v d δ1 H1 I1 x1 hv ⟨es, h1, ht⟩ => ?_
  obtain ⟨a, e, ha, o⟩ := I1.sl.get_cell rfl h1
  refine ⟨.ref a, e, ?_⟩
  cases o with
  | @own xs _ ho hl =>
    have sub1 : ∀ b, b ∈ a :: (L.erase a ++ M) → b ∈ L ++ M := fun b hb => by
      rcases List.mem_cons.mp hb with z | z
      · rw [z]; exact List.mem_append_left _ ha
      · exact (List.mem_append.mp z).elim (fun w => List.mem_append_left _ (List.mem_of_mem_erase w)) fun w => List.mem_append_right _ w
    have sub2 : ∀ b, b ∈ L ++ M → b ∈ a :: (L.erase a ++ M) := fun b hb => by
      by_cases z : b = a
      · rw [z]; exact .head _
      · exact .tail _ ((List.mem_append.mp hb).elim (fun w => List.mem_append_left _ ((List.mem_erase_of_ne z).mpr w)) fun w => List.mem_append_right _ w)
    have na : a ∉ L.erase a ++ M := fun z => (List.mem_append.mp z).elim (fun w => absurd w (fun w => by
      have := I1.nd.not_mem_erase (a := a)
      exact this w)) fun w => I1.lm a ha w
    refine ⟨L.erase a ++ M, a, v, d, xs, es, fun d' => Φ d' δ1, rfl, ho, na, fun b hb => I1.here b (sub1 b (.tail _ hb)), hv.to fun b hb => .inl (sub1 b hb), hl.to fun b hb => .inl (sub1 b hb), ht, fun w d' H' kd hx ⟨xs', hp', hr'⟩ hw => ?_⟩
    have hX : Xt (L ++ M) H1 H' := hx.sub fun b hb => by rw [List.mem_singleton.mp hb]; exact List.mem_append_left _ ha
    have stay : ∀ b, b ≠ a → H1 b ≠ none → H' b = H1 b := fun b nb hb => by
      cases z : H1 b with
      | none => exact absurd z hb
      | some o => exact hx b o (fun w => nb (List.mem_singleton.mp w)) z
    have sl := I1.sl.put hX (s := .own es) (s' := .own es) rfl (.own hp' (hr'.to fun b hb => .inl (sub2 b hb))) I1.nd (fun b hb nb => stay b nb (I1.sl.here b hb)) e h1
    have hs : δ1.set i (.own es) = δ1 := by
      obtain ⟨hi, he⟩ := List.getElem?_eq_some_iff.mp h1
      rw [← he, List.set_getElem_self]
    rw [hs] at sl
    refine k w d' δ1 H' ⟨⟨sl, I1.nd, I1.lm, fun b hb => ?_⟩, I1.gx.go (Fr.of_xt (hx.sub fun b hb => by rw [List.mem_singleton.mp hb]; exact ha))⟩ (x1.trans (hx.sub fun b hb => by rw [List.mem_singleton.mp hb]; exact ha)) (hw.to fun b hb => .inl (sub2 b hb)) kd
    rw [stay b (fun z => I1.lm a ha (by rw [← z]; exact hb)) (I1.out b hb)]
    exact I1.out b hb
theorem w_callOA {T : List Dt → List Dt → (Dt → Prop) → Prop} {X : XK} {i : Nat} {p : Addr} {es0 : List Dt} (h0 : δ[i]? = some (.ownA p es0)) (q : Φ (.int (es0.length : Int)) δ) : W K (tCB (wLenS K) (tCons (tVar i) tNil)) δ Φ := fun M L σ H I Q k => by
  obtain ⟨a, e, _, o⟩ := I.sl.get_cell rfl h0
  cases o with
  | ownA ho hl => exact ⟨.ref _, e, _, _, rfl, .inl (.inl (.inl ho)), by rw [hl.len]; exact k _ _ _ _ I (Xt.refl _ _) (.int _) q⟩
theorem w_lenOwnA {i : Nat} {p : Addr} {es0 : List Dt} (h0 : δ[i]? = some (.ownA p es0)) (q : Φ (.int (es0.length : Int)) δ) : W K (tCB (wLenS K) (tCons (tVar i) tNil)) δ Φ := w_callOA (T := fun _ _ _ => True) (X := fun _ _ _ => True) h0 q
theorem y_ixOwnA {i j : Nat} {p : Addr} {es0 : List Dt} (h0 : δ[i]? = some (.ownA p es0)) {y : Int} {d : Dt} (hj : δ[j]? = some (.dat (.int y))) (hd : atI es0 y = some d) (q : Φ d δ) : W K (tOp (rIxL K) (tVar i) (tVar j)) δ Φ := fun M L σ H I Q k => by
  obtain ⟨a, e, _, o⟩ := I.sl.get_cell rfl h0
  obtain ⟨v, ev, hv⟩ := I.sl.get_dat hj
  cases o with
  | ownA ho hl =>
    obtain ⟨w, hw, hr⟩ := hl.atI hd
    rw [hv.inv_int] at ev
    exact ⟨.ref _, e, .int y, ev, _, _, y, w, rfl, rfl, .inl (.inl ho), hw, k _ _ _ _ I (Xt.refl _ _) hr q⟩
end
section
variable {K : PySem.W.Frag}
theorem ok_ownA {P : Program} {w : World} {mg : Str → Option Value} {base : Heap} {x qual : Str} {st : Stmt} {f : Addr} {fd : FuncData} {N : List Str} {p0 p1 : Str} {k : Nat} {T : List Dt → List Dt → (Dt → Prop) → Prop} (F : Fun K x qual st f fd) (S : FnScope N [p0, p1] (defScope st))
    (hb : ∀ (cdv : Value) (A : Around) (outer : List Env) (s : Shared) (H : Hp) (E : XK) (p : Addr) (d : Dt) (es : List Dt) (κ : Dt → Prop), Room k (A.deeper (envOfC qual (defScope st) s.heap.objs.size f cdv)) → T [d] es κ →
      ∃ t, PSs (cxOf CX0 P w K mg base N qual (defScope st) f cdv A outer s H E).nox (defBody st) t ∧ Sw K t (.dat d :: .ownA p es :: List.replicate (N.length - 2) .no) ⟨fun δ' => δ'[1]? = some (.ownA p es) ∧ κ .non, fun d δ' => δ'[1]? = some (.ownA p es) ∧ κ d, fun _ => False, fun _ => False⟩) : FnOk P w K mg base CX0 (k + 1) f fd [p0, p1] (spO K T) := by
  refine F.ok S (fun vs H Q E h => ?_) (fun cdv A outer s H vs Q E hr h => ?_)
  · obtain ⟨M, p, u, d, xs, es, κ, rfl, _⟩ := h
    rfl
  · obtain ⟨M, p, u, d, xs, es, κ, rfl, hp, np, hM, hu, hx, ht, q⟩ := h
    obtain ⟨t, h1, h2⟩ := hb cdv A outer s H E p d es κ hr ht
    refine ⟨t, h1, ?_⟩
    have reps : ∀ m, SlA K ([p] ++ M) H (List.replicate m none) (List.replicate m Sd.no) [] := fun m => by
      induction m with
      | zero => exact .nil
      | succ m ih => exact .no ih
    have I : Ib K M [p] (start N [u, .ref p]) (.dat d :: .ownA p es :: List.replicate (N.length - 2) .no) H := ⟨⟨.dat hu (.cell (.ownA hp hx) (reps (N.length - 2))), List.nodup_cons.mpr ⟨(fun z => nomatch z), List.nodup_nil⟩, (fun a z => by rw [List.mem_singleton.mp z]; exact np), hM⟩, okX0⟩
    have fin : ∀ L' σ' δ' v d' H', Ib K M L' σ' δ' H' → Fr [p] H L' H' → Rp K (L' ++ M) H' v d' → δ'[1]? = some (.ownA p es) ∧ κ d' → Q v H' := fun L' σ' δ' v d' H' I' f hr h => by
      obtain ⟨a, e, ha, o⟩ := I'.sl.get_cell rfl h.1
      cases o with
      | ownA ho hl =>
        have s : ∀ b, b ∈ p :: M → b ∈ L' ++ M := fun b hb => by
          rcases List.mem_cons.mp hb with z | z
          · rw [z]; exact List.mem_append_left _ ha
          · exact List.mem_append_right _ z
        exact q v d' H' h.2 f.ext ⟨_, ho, hl.to fun b hb => .inl (s b hb)⟩ (hr.to fun b hb => .inl (s b hb))
    exact h2 M [p] _ H I _ ⟨fun L' σ' δ' H' I' f h => fin L' σ' δ' .non .non H' I' f .non h, fun L' σ' δ' v d H' I' f hr h => fin L' σ' δ' v d H' I' f hr h, fun _ _ _ _ _ _ h => h.elim, fun _ _ _ _ _ _ h => h.elim⟩
end
end My

namespace My
open PySem PySem.Spec PyProof.Rows L2
section
variable {K : PySem.W.Frag} [Xg K] {δ δ2 : Store} {te : TE} {Φ : Dt → Store → Prop}
def LS1 (d : Dt) (P : Str → Prop) : Prop := ∃ s, d = .str s ∧ P s
theorem lf_S1 {s : Str} {P : Str → Prop} (q : P s) : LS1 (.str s) P := ⟨s, rfl, q⟩
theorem Rp.tyStr {A : List Addr} {H : Hp} {s : Str} : Rp K A H (.str s) (.str s) → True := fun _ => trivial
theorem lf_tySame {s : String} {d : Dt} {P : Bool → Prop} (h : d.tyS = some s) (hk : kitB s s = some true) (q : P true) : LTy s d P := ⟨s, true, h, hk, q⟩
theorem lf_tyNo {s ty : String} {d : Dt} {P : Bool → Prop} (h : d.tyS = some ty) (hk : kitB ty s = some false) (q : P false) : LTy s d P := ⟨ty, false, h, hk, q⟩
theorem lf_nt {A B : Prop} (q : B) : if (!true : Bool) = true then A else B := by rw [if_neg (by decide)]; exact q
theorem lf_nf {A B : Prop} (q : A) : if (!false : Bool) = true then A else B := by rw [if_pos (by decide)]; exact q
/-- s.isascii() and the like -/
theorem y_strB {f : Str → Bool} (q : W K te δ fun d δ1 => LS1 d fun s => Φ (.bl (f s)) δ1) : W K (tBM0 K "str" (wStrB f) te) δ Φ := fun M L σ H I Q k => q M L σ H I _ fun v d δ1 H1 I1 x1 hv ⟨s, hd, q⟩ => by
  subst hd
  obtain ⟨rfl, hs⟩ := hv.inv_str
  exact ⟨rfl, s, rfl, rfl, trivial, k _ _ δ1 H1 I1 x1 (.bl _) q⟩
end
def absI (i : Int) : Int := if i < 0 then -i else i
def tIsInt (ds : List Dt) (κ : Dt → Prop) : Prop := ∃ i : Int, ds = [.int i] ∧ κ (.bl (decide (absI i < 10 ^ 60)))
def tChk (ds : List Dt) (κ : Dt → Prop) : Prop := ∃ i lo hi : Int, ds = [.int i, .int lo, .int hi] ∧ lo ≤ i ∧ i ≤ hi ∧ absI i < 10 ^ 60 ∧ κ .non
def wordB (s : Str) : Bool := decide (s.length ≤ 8) && (Txt.isascii s && (Txt.isalpha s && Txt.islower s))
def tIsWord (ds : List Dt) (κ : Dt → Prop) : Prop := ∃ s : Str, ds = [.str s] ∧ κ (.bl (wordB s))
def tIsCol (ds : List Dt) (κ : Dt → Prop) : Prop := ∃ i : Int, ds = [.int i] ∧ κ (.bl (decide (0 ≤ i) && decide (i ≤ 199)))
def wsB (ws : List Str) : Bool := (decide (1 ≤ ws.length) && decide (ws.length ≤ 6)) && ws.all wordB
def tIsWs (ds : List Dt) (κ : Dt → Prop) : Prop := ∃ ws : List Str, ds = [.tup (strsD ws)] ∧ ws.length ≤ 90000 ∧ κ (.bl (wsB ws))
def tIsLine (ds : List Dt) (κ : Dt → Prop) : Prop := ∃ l : LLine, ds = [l.dt] ∧ l.ws.length ≤ 90000 ∧ κ (.bl ((decide (0 ≤ l.col) && decide (l.col ≤ 199)) && wsB l.ws))
end My

namespace My
open PySem PySem.Spec PyProof.Rows L2
section
variable {K : PySem.W.Frag}
/-- __init__(self, *args) -/
theorem ok_init {P : Program} {w : World} {mg : Str → Option Value} {base : Heap} {x qual : Str} {st : Stmt} {f C : Addr} {fd : FuncData} {N : List Str} {p0 pv : Str} {k : Nat} {T : List Dt → (List (Str × Dt) → Prop) → Prop} (F : Fun K x qual st f fd) (S : FnScope N ([p0] ++ [pv]) (defScope st))
    (hbind : ∀ us rest : List Value, us.length = [p0].length → bindArgs fd ⟨us ++ rest, []⟩ = (newTuple rest >>= fun t => pure (([p0] : List Str).zip us ++ [((pv : Str), t)])))
    (hl : ∀ ds κ, T ds κ → ∃ es, ds = [.tup es])
    (hb : ∀ (cdv : Value) (A : Around) (outer : List Env) (s : Shared) (H : Hp) (E : XK) (a : Addr) (ds : List Dt) (κ : List (Str × Dt) → Prop), Room k (A.deeper (envOfC qual (defScope st) s.heap.objs.size f cdv)) → T [.tup ds] κ →
      ∃ t, PSs (cxOf CX0 P w K mg base N qual (defScope st) f cdv A outer s H E) (defBody st) t ∧ Sw K t (.obj a C [] :: .dat (.tup ds) :: List.replicate (N.length - 2) .no) ⟨fun δ' => ∃ gs, δ'[0]? = some (.obj a C gs) ∧ κ gs, fun _ _ => False, fun _ => False, fun _ => False⟩) : FnR P w K mg base CX0 (k + 1) f (spStar (spI K C T)) := by
  obtain ⟨oc, od, kV, doc, pm, an, cdv, ct, osl, rfl, lk, hcd⟩ := F.ex
  refine StX.fn_star (ps := [p0]) lk hcd S (StX.cxUp_none) hbind fun A outer s H vs Q E hr h => ?_
  obtain ⟨M, a, dx, us, ds, κ, rfl, ha, na, hM, hu, ht, q⟩ := h
  obtain ⟨es, rfl⟩ := hl ds κ ht
  obtain ⟨t, h1, h2⟩ := hb cdv A outer s H E a es κ hr ht
  refine ⟨t, h1, ?_⟩
  cases hu with
  | @cons v _ _ _ hv tl =>
    cases tl
    have reps : ∀ m, SlA K ([a] ++ M) H (List.replicate m none) (List.replicate m Sd.no) [] := fun m => by
      induction m with
      | zero => exact .nil
      | succ m ih => exact .no ih
    have I : Ib K M [a] (start N [.ref a, v]) (.obj a C [] :: .dat (.tup es) :: List.replicate (N.length - 2) .no) H := ⟨⟨.cell (.obj ha .nil) (.dat hv (reps (N.length - 2))), List.nodup_cons.mpr ⟨(fun z => nomatch z), List.nodup_nil⟩, (fun b z => by rw [List.mem_singleton.mp z]; exact na), hM⟩, okX0⟩
    refine h2 M [a] _ H I _ ⟨fun L' σ' δ' H' I' f ⟨gs, hg, hk⟩ => ?_, fun _ _ _ _ _ _ _ _ _ h => h.elim, fun _ _ _ _ _ _ h => h.elim, fun _ _ _ _ _ _ h => h.elim⟩
    obtain ⟨a', e, ha', o⟩ := I'.sl.get_cell rfl hg
    cases o with
    | obj ho hf =>
      exact q _ _ gs H' hk ho (hf.to fun b hb => .inl (by
        rcases List.mem_cons.mp hb with z | z
        · rw [z]; exact List.mem_append_left _ ha'
        · exact List.mem_append_right _ z)) f.ext
end
end My

namespace My
open PySem PySem.Spec PyProof.Rows L2
section
variable {K : PySem.W.Frag} [Xg K] {δ δ2 : Store} {tr : TA} {Φ : Dt → Store → Prop} {Ψ : List Dt → Store → Prop}
/-! ### list(zip(a, b)) of two tuples of one length -/
def zipD (xs ys : List Dt) : List Dt := List.zipWith (fun a b => .tup [a, b]) xs ys
theorem putZ_ex {H : Hp} {as : List Addr} {ps : List (V × V)} (h : ∀ t ∈ as, H t = none) : Ex H (putZ H as ps) := fun b o e => by
  rw [putZ_off as ps H (fun z => by rw [h b z] at e; cases e)]
  exact e
theorem zip_rp {A : List Addr} {H : Hp} : ∀ {as : List Addr} {vx vy : List V} {xs ys : List Dt}, RpL K A H vx xs → RpL K A H vy ys → as.length = vx.length → vx.length = vy.length → (∀ a ∈ as, a ∉ A) → (∀ (j : Nat) (a : Addr) (p : V × V), as[j]? = some a → (vx.zip vy)[j]? = some p → H a = some (.tup [p.1, p.2])) → RpL K A H (as.map V.ref) (zipD xs ys)
  | [], [], _, _, _, .nil, _, _, _, _, _ => .nil
  | a :: as, x :: vx, y :: vy, d :: xs, e :: ys, .cons h1 t1, .cons h2 t2, hl, hxy, hn, hp => by
    have e0 := hp 0 a (x, y) rfl rfl
    exact .cons (.tup (hn a (.head _)) (.inl e0) (.cons h1 (.cons h2 .nil))) (zip_rp t1 t2 (Nat.succ.inj hl) (Nat.succ.inj hxy) (fun b hb => hn b (.tail _ hb)) fun j b p ha hpp => hp (j + 1) b p (by simpa using ha) (by simpa using hpp))
theorem wn_listZip (q : Wa K tr δ fun ds δ1 => ∃ xs ys, ds = [.tup xs, .tup ys] ∧ xs.length = ys.length ∧ Ψ (zipD xs ys) δ1) : Wn K (tListZip K tr) δ Ψ := fun M L σ H I Q k => q M L σ H I _ fun vs ds δ1 H1 I1 x1 hv ⟨xs, ys, hd, hl, q⟩ => by
  subst hd
  cases hv with
  | cons h1 t => cases t with
    | cons h2 t =>
      cases t
      obtain ⟨a, vx, rfl, sx, rx⟩ := h1.inv_tup
      obtain ⟨b, vy, rfl, sy, ry⟩ := h2.inv_tup
      have hxy : vx.length = vy.length := by rw [rx.len, ry.len]; exact hl
      refine ⟨a, b, vx, vy, rfl, sx, sy, hxy, fun S as hS has hSn hnd hlen => ?_⟩
      have e := putZ_ex (ps := vx.zip vy) has
      have fr : ∀ a ∈ as, a ∉ L ++ M := fun a ha => I1.fresh (has a ha)
      refine k S (as.map V.ref) (zipD xs ys) δ1 _ (I1.ext e) (x1.trans (Xt.of e)) (by rw [putZ_off as _ _ hSn]; exact hS) ?_ q
      exact zip_rp (rx.mono (Xt.of e)) (ry.mono (Xt.of e)) hlen hxy fr fun j a p ha hp => putZ_at as _ H1 hnd j a p ha hp
def LZip (a : List Dt) (P : List Dt → Prop) : Prop := ∃ xs ys, a = [.tup xs, .tup ys] ∧ xs.length = ys.length ∧ P (zipD xs ys)
theorem lf_zip {xs ys : List Dt} {P : List Dt → Prop} (h : xs.length = ys.length) (q : P (zipD xs ys)) : LZip [.tup xs, .tup ys] P := ⟨xs, ys, rfl, h, q⟩
theorem y_listZip (q : Wa K tr δ fun ds δ1 => LZip ds fun es => Φ (.lst es) δ1) : W K (tListZip K tr) δ Φ := w_of_n (wn_listZip (fun M L σ H I Q k => q M L σ H I Q fun vs ds δ' H' a b e ⟨xs, ys, h1, h2, h3⟩ => k vs ds δ' H' a b e ⟨xs, ys, h1, h2, h3⟩))
end
end My

namespace My
open PySem PySem.Spec PyProof.Rows L2
section
variable {P : Program} {w : World} {K : PySem.W.Frag} {mg : Str → Option Value} {base : Heap}
/-! ### promises of methods, by position -/
theorem fnR {CX : CXT} {k : Nat} {f : Addr} {fd : FuncData} {ps : List Str} {sp : Sp} (F : FnOk P w K mg base CX k f fd ps sp) (hb : Binds K fd ps []) : FnR P w K mg base CX k f sp := (F.raw hb .nil).imp fun vs H Q E h => by rw [List.append_nil]; exact h
theorem ok_cm {x qual : Str} {st : Stmt} {f C : Addr} {fd : FuncData} {N ps : List Str} {p0 : Str} {k : Nat} {T : List Dt → (Dt → Prop) → Prop} (F : Fun K x qual st f fd) (S : FnScope N (p0 :: ps) (defScope st)) (hl : ∀ ds κ, T ds κ → ds.length = ps.length)
    (hb : ∀ (cdv : Value) (A : Around) (outer : List Env) (s : Shared) (H : Hp) (E : XK) (ds : List Dt) (κ : Dt → Prop), Room k (A.deeper (envOfC qual (defScope st) s.heap.objs.size f cdv)) → T ds κ →
      ∃ t, PSs (cxOf CX0 P w K mg base N qual (defScope st) f cdv A outer s H E).nox (defBody st) t ∧ Sw K t (.no :: store0 (N.length - 1) ds) ⟨fun _ => κ .non, fun d _ => κ d, fun _ => False, fun _ => False⟩) : FnOk P w K mg base CX0 (k + 1) f fd (p0 :: ps) (spC K C T) := by
  refine F.ok S (fun vs H Q E h => ?_) (fun cdv A outer s H vs Q E hr h => ?_)
  · obtain ⟨us, rfl, M, ds, κ, _, hv, ht, _⟩ := h
    show us.length + 1 = ps.length + 1
    rw [hv.len, hl ds κ ht]
  · obtain ⟨us, rfl, M, ds, κ, hM, hv, ht, q⟩ := h
    obtain ⟨t, h1, h2⟩ := hb cdv A outer s H E ds κ hr ht
    refine ⟨t, h1, ?_⟩
    have I : Ib K M [] (start N (.ref C :: us)) (.no :: store0 (N.length - 1) ds) H := ⟨⟨by
      have := sl_start (N.length - (us.length + 1)) (RpL.to (A := M) (B := [] ++ M) (fun a h => .inl h) hv)
      have e : N.length - 1 - ds.length = N.length - (us.length + 1) := by rw [hv.len]; omega
      unfold store0
      rw [e]
      exact .no this, List.nodup_nil, (fun a z => nomatch z), hM⟩, okX0⟩
    refine h2 M [] _ H I _ ⟨fun L' σ' δ' H' I' f h => ?_, fun L' σ' δ' v d H' I' f hr h => ?_, fun _ _ _ _ _ _ h => h.elim, fun _ _ _ _ _ _ h => h.elim⟩
    · exact q .non .non H' h (fun b o e => f.ext b o (fun z => nomatch z) e) .non
    · exact q v d H' h (fun b o e => f.ext b o (fun z => nomatch z) e) (hr.to fun b hb => .inl (List.mem_append_right _ hb))
end
section
variable {K : PySem.W.Frag} [Xg K] {δ δ2 : Store} {ta tb te : TE} {tr : TA} {Φ : Dt → Store → Prop}
/-! ### leaves: instances -/
def LIns (C : Addr) (o : Dt) (P : List (Str × Dt) → Prop) : Prop := ∃ gs, o = .ins C gs ∧ P gs
theorem lf_ins {C : Addr} {gs : List (Str × Dt)} {P : List (Str × Dt) → Prop} (q : P gs) : LIns C (.ins C gs) P := ⟨gs, rfl, q⟩
def LIns2 (C : Addr) (a b : Dt) (P : Prop) : Prop := ∃ gs hs, a = .ins C gs ∧ b = .ins C hs ∧ P
theorem lf_ins2 {C : Addr} {gs hs : List (Str × Dt)} {P : Prop} (q : P) : LIns2 C (.ins C gs) (.ins C hs) P := ⟨gs, hs, rfl, rfl, q⟩
theorem y_meth {C : Addr} {m : Str} {T : List Dt → (Dt → Prop) → Prop} {X : XK} (q : W K te δ fun o δ1 => LIns C o fun gs => gs.lookup m = none ∧ Wa K tr δ1 fun ds δ2 => T (.ins C gs :: ds) fun d => Φ d δ2) : W K (tMeth C m (spP K T) [] X te tr) δ Φ := w_meth (q.imp fun o δ1 ⟨gs, h, h2, q⟩ => ⟨gs, h, h2, by subst h; exact q⟩)
theorem y_prop {C : Addr} {T : List Dt → (Dt → Prop) → Prop} {X : XK} (q : W K te δ fun o δ1 => LIns C o fun gs => T [.ins C gs] fun d => Φ d δ1) : W K (tProp C (spP K T) [] X te) δ Φ := w_prop (q.imp fun o δ1 ⟨gs, h, q⟩ => ⟨gs, h, by subst h; exact q⟩)
theorem y_ownB {C : Addr} {T : List Dt → (Dt → Prop) → Prop} {X : XK} (q : W K ta δ fun a δ1 => W K tb δ1 fun b δ2 => LIns2 C a b (T [a, b] fun d => Φ d δ2)) : W K (tOp (rOwnB C (spP K T) X) ta tb) δ Φ := w_ownB (q.imp fun a δ1 h => h.imp fun b δ2 ⟨gs, hs, h1, h2, q⟩ => ⟨gs, hs, h1, h2, q⟩)
theorem y_ownN {C : Addr} {T : List Dt → (Dt → Prop) → Prop} {X : XK} (q : W K ta δ fun a δ1 => W K tb δ1 fun b δ2 => LIns2 C a b (T [a, b] fun d => LB1 d fun c => Φ (.bl (!c)) δ2)) : W K (tOp (rOwnN C (spP K T) X) ta tb) δ Φ := w_ownN (q.imp fun a δ1 h => h.imp fun b δ2 ⟨gs, hs, h1, h2, q⟩ => ⟨gs, hs, h1, h2, q⟩)
theorem y_isC {C : Addr} (hc : ClI K C) (q : W K te δ fun d δ1 => LIns C d fun _ => Φ (.bl true) δ1) : W K (tCB (rIsi K) (tCons te (tCons (tC (.ref C)) tNil))) δ Φ := w_isC hc (q.imp fun d δ1 ⟨gs, h, q⟩ => ⟨gs, h, q⟩)
theorem y_cmeth {C : Addr} {T : List Dt → (Dt → Prop) → Prop} {X : XK} (q : Wa K tr δ fun ds δ1 => T ds fun d => Φ d δ1) : W K (ClX.tCMeth C (spC K C T) X (tC (.ref C)) tr) δ Φ := w_cmeth rfl q
def LItsZ (d : Dt) (P : List Dt → Prop) : Prop := ∃ ds, d.items = some ds ∧ ds.length ≤ 100000 ∧ P ds
theorem lf_itz {ds : List Dt} {P : List Dt → Prop} (h : ds.length ≤ 100000) (q : P ds) : LItsZ (.lst ds) P := ⟨ds, rfl, h, q⟩
theorem lf_itzT {ds : List Dt} {P : List Dt → Prop} (h : ds.length ≤ 100000) (q : P ds) : LItsZ (.tup ds) P := ⟨ds, rfl, h, q⟩
theorem y_makeS {C : Addr} {T : List Dt → (List (Str × Dt) → Prop) → Prop} {X : XK} (q : W K te δ fun d δ1 => LItsZ d fun ds => T [.tup ds] fun gs => Φ (.ins C gs) δ1) :
    W K (fun σ H Q => te σ H fun y H1 => ∃ a xs, y = V.ref a ∧ (SqT K H1 a xs ∨ SqL K H1 a xs) ∧ ∀ x dx, H1 x = Option.none → H1 dx = Option.none → dx ≠ x →
      spStar (spI K C T) (V.ref x :: xs) (upd (upd H1 dx (.own x)) x (.ins C dx [])) (fun v H2 => v = .non ∧ Q (.ref x) H2) X) δ Φ := w_makeS (q.imp fun d δ1 ⟨ds, h1, h2, q⟩ => ⟨ds, h1, h2, q⟩)
/-! ### equality of equal data -/
theorem lf_ddSame {a d : Dt} {P : Bool → Prop} (h : a.pur 60 = true) (e : d = a) (q : P true) : LDd a d P := by
  subst e
  exact ⟨h, h, by rw [Dt.eqv_self h]; exact q⟩
theorem purL_map {α : Type} {k : Nat} {f : α → Dt} (h : ∀ x, (f x).pur k = true) : ∀ l : List α, Dt.purL k (l.map f) = true
  | [] => by simp [Dt.purL]
  | x :: l => by
    rw [List.map_cons]
    simp only [Dt.purL, h x, purL_map h l, Bool.and_self]
theorem pur_tupS {k : Nat} (ws : List Str) : (Dt.tup (strsD ws)).pur (k + 1) = true := by
  simp only [Dt.pur]
  exact purL_map (fun x => by cases k <;> simp [Dt.pur]) ws
theorem lin_pur (ls : List LLine) : (Dt.tup (linD ls)).pur 60 = true := by
  simp only [Dt.pur]
  exact purL_map (fun x => by
    show (Dt.tup [.int x.col, .tup (strsD x.ws)]).pur 59 = true
    simp only [Dt.pur, Dt.purL, pur_tupS, Bool.and_self]
    have := purL_map (k := 57) (f := Dt.str) (fun x => by simp [Dt.pur]) x.ws
    unfold strsD
    rw [this]; rfl) ls
theorem int_pur (ls : List Int) : (Dt.tup (intsD ls)).pur 60 = true := by
  simp only [Dt.pur]
  exact purL_map (fun x => by simp [Dt.pur]) ls
theorem wss_purL (ls : List (List Str)) : (Dt.tup (ls.map fun ws => .tup (strsD ws))).pur 60 = true := by
  simp only [Dt.pur]
  exact purL_map (fun ws => by exact pur_tupS (k := 58) ws) ls
end
end My

namespace My
open PySem PySem.Spec PyProof.Rows L2
section
variable {X : Cx} {CX : CXT} {K : PySem.W.Frag} [Xg K] {k : Nat} {f C : Addr} {sp : Sp} {E : XK} {x : Str} {e e2 : Expr} {te : TE} {ta : TA} {p p2 cpos pos sp_ : Pos}
def tMakeS (K : PySem.W.Frag) (C : Addr) (sp : Sp) (E : XK) (te : TE) : TE := fun σ H Q => te σ H fun y H1 => ∃ a xs, y = V.ref a ∧ (SqT K H1 a xs ∨ SqL K H1 a xs) ∧ ∀ x dx, H1 x = Option.none → H1 dx = Option.none → dx ≠ x →
  sp (V.ref x :: xs) (upd (upd H1 dx (.own x)) x (.ins C dx [])) (fun v H2 => v = .non ∧ Q (.ref x) H2) E
theorem pe_makeSK (hK : X.K = K) (M : Mk X.K C f) (F : FnR X.prog X.w X.K X.mg X.base CX k f sp) (hr : Room (k + 1) X.A) (hg : Gl X x) (hm : X.mg x = some (.ref C)) (hx : Passes CX X E) (he : PE X e te) (hd : (x == ("__debug__" : Str)) = false := by decide)
    (hst : starEach [.Starred e sp_] X.env = [(true, eval e X.env)] := by rfl) : PE X (.Call (.Name x p) [.Starred e sp_] [] pos) (tMakeS K C sp E te) := by
  subst hK
  exact pe_makeS1 M F hr hg hm hx he hd hst
theorem pe_listZipK (hK : X.K = K) (hc : X.calm = true) (ha : PA X [e, e2] ta) (hgL : Gl X "list") (hmL : X.mg "list" = none) (hvL : bootBuiltins "list" = some (.type "list")) (hgZ : Gl X "zip") (hmZ : X.mg "zip" = none)
    (hsL : starEach [.Call (.Name "zip" p2) [e, e2] [] cpos] X.env = (false, eval (.Call (.Name "zip" p2) [e, e2] [] cpos) X.env) :: starEach [] X.env := by rfl)
    (hs : starEach [e, e2] X.env = (false, eval e X.env) :: starEach [e2] X.env := by rfl) (hpl : (backTo cpos (starEach [e2] X.env)).any (·.1) = false := by rfl) :
    PE X (.Call (.Name "list" p) [.Call (.Name "zip" p2) [e, e2] [] cpos] [] pos) (tListZip K ta) := by
  subst hK
  exact pe_listZip hc ha hgL hmL hvL hgZ hmZ hsL hs hpl
end
section
variable {K : PySem.W.Frag} [Xg K] {δ : Store} {te : TE} {Φ : Dt → Store → Prop}
theorem y_makeSK {C : Addr} {T : List Dt → (List (Str × Dt) → Prop) → Prop} {X : XK} (q : W K te δ fun d δ1 => LItsZ d fun ds => T [.tup ds] fun gs => Φ (.ins C gs) δ1) : W K (tMakeS K C (spStar (spI K C T)) X te) δ Φ := y_makeS q
end
end My

namespace My
open PySem PySem.Spec PyProof.Rows L2
/-! ### repr of data: told only that the same data have the same text -/
mutual
def Dt.shw : Nat → Dt → Bool
  | _, .non => true
  | _, .bl _ => true
  | _, .int i => decide (i.natAbs < 10 ^ 12)
  | _, .str _ => true
  | k + 1, .lst ds => Dt.shwL k ds
  | k + 1, .tup ds => Dt.shwL k ds
  | _, _ => false
def Dt.shwL : Nat → List Dt → Bool
  | _, [] => true
  | k, d :: ds => d.shw k && Dt.shwL k ds
end
mutual
def Dt.bk : Dt → Nat
  | .str s => s.cps.size
  | .lst ds => Dt.bkL ds
  | .tup ds => Dt.bkL ds
  | _ => 0
def Dt.bkL : List Dt → Nat
  | [] => 0
  | d :: ds => d.bk + 1 + Dt.bkL ds
end
structure ShwOk (d : PyData) (k n : Nat) : Prop where
  sh : d.showable = true
  nd : d.hasDict = false
  ls : d.leavesShort 13 = true
  dp : d.depth ≤ k
  bk : d.bulk = n
structure ShwOkL (ds : List PyData) (k n : Nat) : Prop where
  sh : PyData.showableAll ds = true
  nd : PyData.hasDictAll ds = false
  ls : PyData.leavesShortAll 13 ds = true
  dp : PyData.depthAll ds ≤ k
  bk : PyData.bulkAll ds = n
theorem int_sh {i : Int} (h : i.natAbs < 10 ^ 12) : decide (i.natAbs.log2 < 1920) = true := by
  refine decide_eq_true ?_
  by_cases z : i.natAbs = 0
  · rw [z]; decide
  · exact Nat.lt_of_lt_of_le ((Nat.log2_lt z).mpr (Nat.lt_trans h (show 10 ^ 12 < 2 ^ 40 by decide))) (by decide)
section
variable {K : PySem.W.Frag} [Xg K]
mutual
theorem Rp.shw {A : List Addr} {H : Hp} : ∀ {k : Nat} {d : Dt} {v : V}, Rp K A H v d → d.shw k = true → d.pur k = true ∧ ShwOk d.py k d.bk
  | k, .non, _, _, _ => ⟨by cases k <;> rfl, by simp [Dt.py, PyData.showable], by simp [Dt.py, PyData.hasDict], by simp [Dt.py, PyData.leavesShort], by simp [Dt.py, PyData.depth], by simp [Dt.py, PyData.bulk, Dt.bk]⟩
  | k, .bl b, _, _, _ => ⟨by cases k <;> rfl, by simp [Dt.py, PyData.showable], by simp [Dt.py, PyData.hasDict], by simp [Dt.py, PyData.leavesShort], by simp [Dt.py, PyData.depth], by simp [Dt.py, PyData.bulk, Dt.bk]⟩
  | k, .int i, _, _, h => by
    have hi : i.natAbs < 10 ^ 12 := of_decide_eq_true (by cases k <;> simpa [Dt.shw] using h)
    exact ⟨by cases k <;> rfl, by simp only [Dt.py, PyData.showable]; exact int_sh hi, by simp [Dt.py, PyData.hasDict], by simp only [Dt.py, PyData.leavesShort]; exact decide_eq_true (PyData.shown_int_le hi), by simp [Dt.py, PyData.depth], by simp [Dt.py, PyData.bulk, Dt.bk]⟩
  | k, .str s, _, hv, _ => by
    refine ⟨by cases k <;> rfl, by simp [Dt.py, PyData.showable], by simp [Dt.py, PyData.hasDict], ?_, by simp [Dt.py, PyData.depth], by simp [Dt.py, PyData.bulk, Dt.bk]⟩
    simp only [Dt.py, PyData.leavesShort, List.all_eq_true]
    intro c hc
    have := (hv.inv_str).2.2
    rw [Array.all_eq_true_iff_forall_mem] at this
    have := of_decide_eq_true (this c (Array.mem_toList_iff.mp hc))
    exact decide_eq_true (Nat.lt_trans this (by decide))
  | k + 1, .lst ds, _, hv, h => by
    obtain ⟨_, _, _, _, _, hr⟩ := hv.inv_lst
    obtain ⟨h1, h2⟩ := RpL.shw (k := k) hr (by simpa [Dt.shw] using h)
    exact ⟨by simpa [Dt.pur] using h1, by simpa [Dt.py, PyData.showable] using h2.sh, by simpa [Dt.py, PyData.hasDict] using h2.nd, by simpa [Dt.py, PyData.leavesShort] using h2.ls, by
      have := h2.dp
      simp only [Dt.py, PyData.depth]; omega, by simpa [Dt.py, PyData.bulk, Dt.bk] using h2.bk⟩
  | k + 1, .tup ds, _, hv, h => by
    obtain ⟨_, _, _, _, hr⟩ := hv.inv_tup
    obtain ⟨h1, h2⟩ := RpL.shw (k := k) hr (by simpa [Dt.shw] using h)
    exact ⟨by simpa [Dt.pur] using h1, by simpa [Dt.py, PyData.showable] using h2.sh, by simpa [Dt.py, PyData.hasDict] using h2.nd, by simpa [Dt.py, PyData.leavesShort] using h2.ls, by
      have := h2.dp
      simp only [Dt.py, PyData.depth]; omega, by simpa [Dt.py, PyData.bulk, Dt.bk] using h2.bk⟩
  | 0, .lst _, _, _, h => by simp [Dt.shw] at h
  | 0, .tup _, _, _, h => by simp [Dt.shw] at h
  | k, .dct _, _, _, h => by cases k <;> simp [Dt.shw] at h
  | k, .ins _ _, _, _, h => by cases k <;> simp [Dt.shw] at h
  | k, .exc _ _ _, _, _, h => by cases k <;> simp [Dt.shw] at h
theorem RpL.shw {A : List Addr} {H : Hp} : ∀ {k : Nat} {ds : List Dt} {vs : List V}, RpL K A H vs ds → Dt.shwL k ds = true → Dt.purL k ds = true ∧ ShwOkL (Dt.pyL ds) k (Dt.bkL ds)
  | k, [], _, _, _ => ⟨by simp [Dt.purL], by simp [Dt.pyL, PyData.showableAll], by simp [Dt.pyL, PyData.hasDictAll], by simp [Dt.pyL, PyData.leavesShortAll], by simp [Dt.pyL, PyData.depthAll], by simp [Dt.pyL, PyData.bulkAll, Dt.bkL]⟩
  | k, d :: ds, _, .cons h t, e => by
    have e' : (d.shw k && Dt.shwL k ds) = true := by simpa [Dt.shwL] using e
    rw [Bool.and_eq_true] at e'
    obtain ⟨a1, a2⟩ := Rp.shw h e'.1
    obtain ⟨b1, b2⟩ := RpL.shw t e'.2
    refine ⟨by simp [Dt.purL, a1, b1], by simp [Dt.pyL, PyData.showableAll, a2.sh, b2.sh], by simp [Dt.pyL, PyData.hasDictAll, a2.nd, b2.nd], by simp [Dt.pyL, PyData.leavesShortAll, a2.ls, b2.ls], ?_, by simp [Dt.pyL, PyData.bulkAll, Dt.bkL, a2.bk, b2.bk]⟩
    have h1 := a2.dp
    have h2 := b2.dp
    simp only [Dt.pyL, PyData.depthAll]
    omega
end
variable {δ : Store} {Φ : Dt → Store → Prop}
/-- repr(x) != repr(y), x and y the same data -/
theorem w_reprNe {i j : Nat} {d : Dt} (hi : δ[i]? = some (.dat d)) (hj : δ[j]? = some (.dat d)) (hs : d.shw 50 = true) (hb : d.bk ≤ 1000000) (hl : d.items.isSome = true) (q : Φ (.bl false) δ) :
    W K (tOp rNe (tCB (wReprD K) (tCons (tVar i) tNil)) (tCB (wReprD K) (tCons (tVar j) tNil))) δ Φ := fun M L σ H I Q k => by
  obtain ⟨v, ev, hv⟩ := I.sl.get_dat hi
  obtain ⟨u, eu, hu⟩ := I.sl.get_dat hj
  have hf : ∀ {v : V}, Rp K (L ++ M) H v d → ∃ a, v = .ref a ∧ Dp K H (.ref a) d.py ∧ d.py.showable = true ∧ d.py.hasDict = false ∧ d.py.depth ≤ 50 ∧ d.py.shown.length ≤ sizeLine := fun {v} hv => by
    obtain ⟨h1, h2⟩ := hv.shw hs
    have hd := hv.dp h1
    cases h : d.items with
    | none => rw [h] at hl; cases hl
    | some es =>
      obtain ⟨p, xs, rfl, _⟩ := hv.its h
      exact ⟨p, rfl, hd, h2.sh, h2.nd, h2.dp, PyData.shown_fits_bulk (by decide) (Nat.le_refl 13) h2.ls (by rw [h2.bk]; exact Nat.le_trans hb (by decide))⟩
  obtain ⟨a, rfl, a1, a2, a3, a4, a5⟩ := hf hv
  obtain ⟨b, rfl, b1, b2, b3, b4, b5⟩ := hf hu
  refine ⟨.ref a, ev, a, d.py, rfl, a1, a2, a3, a4, a5, .ref b, eu, b, d.py, rfl, b1, b2, b3, b4, b5, rfl, ?_⟩
  rw [decide_eq_true rfl]
  exact k _ _ δ H I (Xt.refl _ _) (.bl _) q
theorem lin_shw {k : Nat} (ls : List LLine) (h : ∀ l ∈ ls, l.col.natAbs < 10 ^ 12) : Dt.shwL (k + 2) (linD ls) = true := by
  induction ls with
  | nil => simp [linD, Dt.shwL]
  | cons l ls ih =>
    have hw : ∀ ws : List Str, Dt.shwL k (strsD ws) = true := fun ws => by
      induction ws with
      | nil => simp [strsD, Dt.shwL]
      | cons w ws ih =>
        show Dt.shwL k (.str w :: strsD ws) = true
        simp only [Dt.shwL, ih, Bool.and_true]
        cases k <;> simp [Dt.shw]
    show Dt.shwL (k + 2) (.tup [.int l.col, .tup (strsD l.ws)] :: linD ls) = true
    have h0 := h l (.head _)
    simp only [Dt.shwL, Dt.shw, hw, decide_eq_true h0, ih fun l' hl => h l' (.tail _ hl), Bool.and_self]
theorem strs_bk {ws : List Str} (h : ∀ w ∈ ws, w.length ≤ 8) : Dt.bkL (strsD ws) ≤ 9 * ws.length := by
  induction ws with
  | nil => simp [strsD, Dt.bkL]
  | cons w ws ih =>
    have h1 := ih fun x hx => h x (.tail _ hx)
    have h2 : w.cps.size ≤ 8 := h w (.head _)
    show Dt.bkL (.str w :: strsD ws) ≤ _
    simp only [Dt.bkL, Dt.bk, List.length_cons]
    omega
theorem lin_bk {ls : List LLine} (h : ∀ l ∈ ls, l.ws.length ≤ 6 ∧ ∀ w ∈ l.ws, w.length ≤ 8) : Dt.bkL (linD ls) ≤ 60 * ls.length := by
  induction ls with
  | nil => simp [linD, Dt.bkL]
  | cons l ls ih =>
    have h1 := ih fun x hx => h x (.tail _ hx)
    have h2 := h l (.head _)
    have h3 := strs_bk h2.2
    show Dt.bkL (.tup [.int l.col, .tup (strsD l.ws)] :: linD ls) ≤ _
    simp only [Dt.bkL, Dt.bk, List.length_cons]
    omega
end
end My

namespace My
open PySem PySem.Spec PyProof.Rows L2
open PySem.Sem (wp)
/-! ### len, in, [], str, == of instances of own classes -/
section
variable {X : Cx} {CX : CXT} {k : Nat} {f g C : Addr} {sp : Sp} {E : XK}
theorem strRel {v : V} {u : Value} {s : Str} (h : RelV v u) (e : v = .str s) : ∃ t, u = .str s t := by subst e; exact h
/-- len(x) -/
def rLenOwn (C : Addr) (sp : Sp) (E : XK) : List V → Hp → VK → Prop := fun xs H Q => ∃ a dx fs, xs = [.ref a] ∧ H a = some (.ins C dx fs) ∧ sp [.ref a] H (fun v H' => ∃ n : Int, v = .int n ∧ 0 ≤ n ∧ n < 2 ^ 63 ∧ Q (.int n) H') E
theorem call_lenOwn (hs : PySem.W.findIn X.K (.ref C) "__len__" = some (some (.ref g))) (hf : PySem.W.isFn X.K (.ref g) = true) (F : FnR X.prog X.w X.K X.mg X.base CX k g sp) (hr : Room k X.A.in1) (hx : Passes CX X E) : CallR X (.builtin "len") (rLenOwn C sp E) := by
  intro pins s σ H xs us Q I r h
  obtain ⟨a, dx, fs, rfl, ha, q⟩ := h
  obtain ⟨u, rfl, rx⟩ := vals1 r
  cases (show u = Value.ref a from rx)
  obtain ⟨mA, O, _, _, _, _⟩ := ins_get I.hok ha
  obtain ⟨od, J, _⟩ := O.look
  obtain ⟨m, hF⟩ := I.fr
  refine PySem.W.len_K hF I.ok.mod.kin J hs hf ?_
  refine wpAny_call (codeAny_mono (F X.A.in1 X.stack s H [.ref a] [.ref a] _ E hr I.env0.in1 (.cons rfl .nil) q) fun r s' hr2 => ?_)
  cases r with
  | error e => exact hx pins σ H s e s' I hr2
  | ok fl =>
    cases fl with
    | ret u =>
      obtain ⟨v, H', I3, rv, n, rfl, h0, h1, q3⟩ := I.after hr2
      obtain ⟨t, rfl⟩ := rv
      exact ⟨⟨h0, h1⟩, .int n, H', I3.tok _, ⟨_, rfl⟩, q3⟩
    | next => exact False.elim hr2
    | brk => exact False.elim hr2
    | cont => exact False.elim hr2
/-- x in y, y an instance -/
def rInOwn (C : Addr) (sp : Sp) (E : XK) (neg : Bool) : R2 := fun x y H Q => ∃ b dy gs, y = .ref b ∧ H b = some (.ins C dy gs) ∧ sp [.ref b, x] H (fun v H' => ∃ c, v = .bl c ∧ Q (.bl (if neg then !c else c)) H') E
theorem op_inOwn (hs : PySem.W.findIn X.K (.ref C) "__contains__" = some (some (.ref g))) (hf : PySem.W.isFn X.K (.ref g) = true) (F : FnR X.prog X.w X.K X.mg X.base CX k g sp) (hr : Room k X.A) (hx : Passes CX X E) : OpR X (compareOp .In) (rInOwn C sp E false) := by
  intro pins s σ H x y v u Q I rx ry h
  obtain ⟨b, dy, gs, rfl, hb, q⟩ := h
  cases (show u = Value.ref b from ry)
  obtain ⟨mB, O, _, _, _, _⟩ := ins_get I.hok hb
  obtain ⟨od, J, _⟩ := O.look
  obtain ⟨m, hF⟩ := I.fr
  refine PySem.W.in_K hF I.ok.mod.kin J hs hf ?_
  refine wpAny_mono (wpAny_call (run_fnR (us := [.ref b, v]) (vs := [.ref b, x]) F hr hx I (.cons rfl (.cons rx .nil)) q)) (fun w s' z => ?_) fun _ _ x => x
  obtain ⟨z', H', I', rz, c, rfl, qz⟩ := z
  cases (show w = Value.bool c from rz)
  exact wpAny_truthy_bool ⟨.bl c, H', I', rfl, qz⟩
theorem op_notinOwn (hs : PySem.W.findIn X.K (.ref C) "__contains__" = some (some (.ref g))) (hf : PySem.W.isFn X.K (.ref g) = true) (F : FnR X.prog X.w X.K X.mg X.base CX k g sp) (hr : Room k X.A) (hx : Passes CX X E) : OpR X (compareOp .NotIn) (rInOwn C sp E true) := by
  intro pins s σ H x y v u Q I rx ry h
  obtain ⟨b, dy, gs, rfl, hb, q⟩ := h
  cases (show u = Value.ref b from ry)
  obtain ⟨mB, O, _, _, _, _⟩ := ins_get I.hok hb
  obtain ⟨od, J, _⟩ := O.look
  obtain ⟨m, hF⟩ := I.fr
  refine PySem.W.notIn_K hF I.ok.mod.kin J hs hf ?_
  refine wpAny_mono (wpAny_call (run_fnR (us := [.ref b, v]) (vs := [.ref b, x]) F hr hx I (.cons rfl (.cons rx .nil)) q)) (fun w s' z => ?_) fun _ _ x => x
  obtain ⟨z', H', I', rz, c, rfl, qz⟩ := z
  cases (show w = Value.bool c from rz)
  exact wpAny_truthy_bool ⟨.bl (!c), H', I', rfl, qz⟩
/-- x[i], x an instance -/
def rGetOwn (C : Addr) (sp : Sp) (E : XK) : R2 := fun x y H Q => ∃ a dx fs, x = .ref a ∧ H a = some (.ins C dx fs) ∧ sp [.ref a, y] H Q E
theorem op_getOwn (hq : PySem.W.noSeq X.K C = true) (hs : PySem.W.findIn X.K (.ref C) "__getitem__" = some (some (.ref g))) (hf : PySem.W.isFn X.K (.ref g) = true) (F : FnR X.prog X.w X.K X.mg X.base CX k g sp) (hr : Room k X.A) (hx : Passes CX X E) : OpR X getItem (rGetOwn C sp E) := by
  intro pins s σ H x y v u Q I rx ry h
  obtain ⟨a, dx, fs, rfl, ha, q⟩ := h
  cases (show v = Value.ref a from rx)
  obtain ⟨mA, O, _, _, _, _⟩ := ins_get I.hok ha
  obtain ⟨od, J, _⟩ := O.look
  obtain ⟨m, hF⟩ := I.fr
  refine PySem.W.getItem_K hF I.ok.mod.kin J hq hs hf ?_
  exact wpAny_call (run_fnR (us := [.ref a, u]) (vs := [.ref a, y]) F hr hx I (.cons rfl (.cons ry .nil)) q)
/-- str(x) -/
def rStrOwn (C : Addr) (sp : Sp) (E : XK) : List V → Hp → VK → Prop := fun xs H Q => ∃ a dx fs, xs = [.ref a] ∧ H a = some (.ins C dx fs) ∧ sp [.ref a] H (fun v H' => ∃ n : Str, v = .str n ∧ Q (.str n) H') E
theorem call_strOwn (hs : PySem.W.findIn X.K (.ref C) "__str__" = some (some (.ref g))) (hf : PySem.W.isFn X.K (.ref g) = true) (F : FnR X.prog X.w X.K X.mg X.base CX k g sp) (hr : Room k X.A.in1.in1) (hx : Passes CX X E) : CallR X (.type "str") (rStrOwn C sp E) := by
  intro pins s σ H xs us Q I r h
  obtain ⟨a, dx, fs, rfl, ha, q⟩ := h
  obtain ⟨u, rfl, rx⟩ := vals1 r
  cases (show u = Value.ref a from rx)
  obtain ⟨mA, O, _, _, _, _⟩ := ins_get I.hok ha
  obtain ⟨od, J, _⟩ := O.look
  refine PySem.W.kso_call hr.units0 I.kIn J hs hf ?_
  refine wpAny_call (codeAny_mono (F X.A.in1.in1 X.stack s H [.ref a] [.ref a] _ E hr I.env0.in1.in1 (.cons rfl .nil) q) fun r s' hr2 => ?_)
  cases r with
  | error e => exact hx pins σ H s e s' I hr2
  | ok fl =>
    cases fl with
    | ret u =>
      obtain ⟨v, H', I3, rv, n, rfl, q3⟩ := I.after hr2
      obtain ⟨t, rfl⟩ := rv
      exact ⟨.str n, H', I3, ⟨_, rfl⟩, q3⟩
    | next => exact False.elim hr2
    | brk => exact False.elim hr2
    | cont => exact False.elim hr2
/-- x == y by the class's own __eq__, y of a built-in type -/
def rEqB (K : PySem.W.Frag) (C : Addr) (sp : Sp) (E : XK) : R2 := fun x y H Q => ∃ a dx fs T, x = .ref a ∧ H a = some (.ins C dx fs) ∧ TyX K H y (.type T) ∧ PySem.W.notFirst K C (.type T) = true ∧ sp [.ref a, y] H Q E
theorem op_eqB {K : PySem.W.Frag} (hK : X.K = K) (hs : PySem.W.findIn X.K (.ref C) (cmpInfo .Eq).2.1 = some (some (.ref g))) (hf : PySem.W.isFn X.K (.ref g) = true) (F : FnR X.prog X.w X.K X.mg X.base CX k g sp) (hr : Room k X.A) (hx : Passes CX X E) : OpR X (compareOp .Eq) (rEqB K C sp E) := by
  subst hK
  intro pins s σ H x y v u Q I rx ry h
  obtain ⟨a, dx, fs, T, rfl, ha, ty, hn, q⟩ := h
  cases (show v = Value.ref a from rx)
  obtain ⟨mA, O, _, _, _, _⟩ := ins_get I.hok ha
  obtain ⟨od, J, _⟩ := O.look
  obtain ⟨m, hF⟩ := I.fr
  obtain ⟨P, kx, hP, _⟩ := kit_of I ry ty
  show wpAny _ _ (richCompare .Eq (.ref a) u) _ _ _
  refine PySem.W.cmp_K (op := .Eq) hr.units0 hF I.ok.mod.kin J (kx.ty _ _ I.kIn hP) hn hs hf ?_
  refine wpAny_mono (wpAny_call (run_fnR (us := [.ref a, u]) (vs := [.ref a, y]) F hr hx I (.cons rfl (.cons ry .nil)) q)) (fun w s' z => ?_) fun _ _ x => x
  obtain ⟨z', H', I', rz, qz⟩ := z
  exact SlX.cmpback rz ⟨z', H', I', rz, qz⟩
end
end My
namespace My
open PySem PySem.Spec PyProof.Rows L2
section
variable {prog : Program} {w : World} {A : Around} {R : Result → Shared → Prop} {I : Addr} {fp wr : List Addr} {n : Nat} {P : Nat → Value → Prop} {St : Nat → Heap → Prop}
theorem args_minD (a : Value) : argsOk "min" ⟨[a], [(Str.ofString "default", .none)]⟩ := by unfold argsOk; kernel_rfl
theorem loop_minD (W : Walks prog w A.in1 I fp wr n P St) (bt : Nat → Nat → Bool) (hc : CmpOf prog w A.in1 .Lt P bt) (S : Addr) (hSf : S ∉ fp) :
    ∀ (k j : Nat) (s : Shared) (vb : Value) (c : Nat), n - (j + 1) = k → j + 1 ≤ n → St (j + 1) s.heap → P (argBest bt j) vb → s.heap.get? S = some { cls := .type "list", dict := none, data := .seq #[vb, vb] c, slots := #[] } →
    (∀ v h' tk, P (argBest bt (n - 1)) v → (∀ b o, b ∉ wr → b ≠ S → s.heap.get? b = some o → h'.get? b = some o) → R (.ok (.ret v)) { s with heap := h', toks := tk }) → codeAny (model prog w) A (.builtin "min.loop" ⟨[.ref I, .none, .ref S], [(Str.ofString "default", .none)]⟩) R s := by
  have hSw : S ∉ wr := fun h => hSf (W.sub _ h)
  have hname : (toString "min" ++ toString ".loop" : String) = "min.loop" := by decide
  intro k
  induction k with
  | zero =>
    intro j s vb c hk hj st hp hS q
    have hin : j + 1 = n := by omega
    refine codeAny_builtin F.entry_min_loop ?_; rw [Around.under_plainId F.plain_min_loop _]; show wpAny _ A.in1 (seqItems? (.ref S) >>= _) _ _ s
    refine wpAny_bind (wpAny_seqItems hS rfl ?_); show wpAny _ A.in1 (tryCatch (pyNext (.ref I)) _ >>= _) _ _ s
    refine wpAny_bind (wpAny_tryCatch (W.done s _ _ (hin ▸ st) fun h' tk hk' => ?_)); have hS' := hk' S _ hSw hS
    show wpAny _ A.in1 (updateSeq S (fun _ => #[]) >>= _) _ _ _; refine wpAny_bind ?_; refine wpAny_updateSeq hS' rfl (wpAny_bind (wpAny_letGo (wpAny_pure ?_)))
    exact q vb _ tk (by rw [← hin]; exact hp) fun b o n1 n2 e => (Heap.get?_update_other _ _ (Ne.symm n2)).trans (hk' b o n1 e)
  | succ k ih =>
    intro j s vb c hk hj st hp hS q
    have hlt : j + 1 < n := by omega
    refine codeAny_builtin F.entry_min_loop ?_; rw [Around.under_plainId F.plain_min_loop _]; show wpAny _ A.in1 (seqItems? (.ref S) >>= _) _ _ s
    refine wpAny_bind (wpAny_seqItems hS rfl ?_); show wpAny _ A.in1 (tryCatch (pyNext (.ref I)) _ >>= _) _ _ s
    refine wpAny_bind (wpAny_tryCatch (W.item (j + 1) s _ _ hlt st fun v h' tk pv st' hk' => ?_)); have hS' := hk' S _ hSw hS
    show wpAny _ A.in1 (tryCatch (holding [v, v] (richCompare .Lt v vb >>= _)) _ >>= _) _ _ _
    refine wpAny_bind (wpAny_tryCatch (wpAny_holding (wpAny_bind (hc (j + 1) (argBest bt j) v vb _ _ _ pv hp (wpAny_bind (wpAny_holding (wpAny_truthy_bool (wpAny_bind (wpAny_letGo (wpAny_pure ?_))))))))))
    cases hb : bt (j + 1) (argBest bt j) with
    | true =>
      simp only [if_true]; refine wpAny_bind ?_
      refine wpAny_updateSeq hS' rfl (wpAny_bind (wpAny_letGo ?_)); rw [hname]
      refine wpAny_pure ⟨plainId_quiet F.plain_min_loop _, ih (j + 1) _ v _ (by omega) hlt (W.frame _ _ _ st' fun b hf o e => (Heap.get?_update_other _ _ (fun z : S = b => hSf (by rw [z]; exact hf))).trans e) (by simp only [argBest, hb, if_true]; exact pv) (Heap.get?_update_self _ hS' rfl) fun v' h2 tk2 hp2 hk2 => ?_⟩
      exact q v' h2 tk2 hp2 fun b o n1 n2 e => hk2 b o n1 n2 ((Heap.get?_update_other _ _ (Ne.symm n2)).trans (hk' b o n1 e))
    | false =>
      simp only [Bool.false_eq_true, if_false]; refine wpAny_bind (wpAny_letGo ?_); rw [hname]
      exact wpAny_pure ⟨plainId_quiet F.plain_min_loop _, ih (j + 1) _ vb c (by omega) hlt st' (by simp only [argBest, hb, Bool.false_eq_true, if_false]; exact hp) hS' fun v' h2 tk2 hp2 hk2 => q v' h2 tk2 hp2 fun b o n1 n2 e => hk2 b o n1 n2 (hk' b o n1 e)⟩
theorem first_minD (W : Walks prog w A.in1 I fp wr n P St) (bt : Nat → Nat → Bool) (hc : CmpOf prog w A.in1 .Lt P bt) (S : Addr) (hSf : S ∉ fp) {s : Shared} {c : Nat} (st : St 0 s.heap) (hS : s.heap.get? S = some { cls := .type "list", dict := none, data := .seq #[] c, slots := #[] })
    (q : ∀ v h' tk, (n = 0 ∧ v = .none) ∨ (0 < n ∧ P (argBest bt (n - 1)) v) → (∀ b o, b ∉ wr → b ≠ S → s.heap.get? b = some o → h'.get? b = some o) → R (.ok (.ret v)) { s with heap := h', toks := tk }) :
    codeAny (model prog w) A (.builtin "min.loop" ⟨[.ref I, .none, .ref S], [(Str.ofString "default", .none)]⟩) R s := by
  have hSw : S ∉ wr := fun h => hSf (W.sub _ h)
  have hname : (toString "min" ++ toString ".loop" : String) = "min.loop" := by decide
  refine codeAny_builtin F.entry_min_loop ?_; rw [Around.under_plainId F.plain_min_loop _]; show wpAny _ A.in1 (seqItems? (.ref S) >>= _) _ _ s
  refine wpAny_bind (wpAny_seqItems hS rfl ?_); show wpAny _ A.in1 (tryCatch (pyNext (.ref I)) _ >>= _) _ _ s
  by_cases hn : 0 < n
  · refine wpAny_bind (wpAny_tryCatch (W.item 0 s _ _ hn st fun v h' tk pv st' hk' => ?_)); have hS' := hk' S _ hSw hS
    show wpAny _ A.in1 (updateSeq S (fun _ => #[v, v]) >>= _) _ _ _; refine wpAny_bind (wpAny_updateSeq hS' rfl ?_); rw [hname]
    refine wpAny_pure ⟨plainId_quiet F.plain_min_loop _, loop_minD W bt hc S hSf _ 0 _ v _ rfl hn (W.frame _ _ _ st' fun b hf o e => (Heap.get?_update_other _ _ (fun z : S = b => hSf (by rw [z]; exact hf))).trans e) pv (Heap.get?_update_self _ hS' rfl) fun v' h2 tk2 hp2 hk2 => ?_⟩
    exact q v' h2 tk2 (.inr ⟨hn, hp2⟩) fun b o n1 n2 e => hk2 b o n1 n2 ((Heap.get?_update_other _ _ (Ne.symm n2)).trans (hk' b o n1 e))
  · have h0 : n = 0 := by omega
    subst h0
    refine wpAny_bind (wpAny_tryCatch (W.done s _ _ st fun h' tk hk' => ?_))
    exact wpAny_bind (wpAny_rule (wpAny_pure (q .none h' tk (.inl ⟨rfl, rfl⟩) fun b o n1 _ e => hk' b o n1 e)))
end
section
variable {prog : Program} {w : World} {A : Around} {E : Value → Shared → Prop} {s : Shared}
theorem call_minD {x : Value} {Q : Value → Shared → Prop}
    (h : wpAny (model prog w) A.in1 (pyIter x) (fun it s₂ => ∃ I fp wr n P St bt, it = .ref I ∧ Walks prog w A.in1 I fp wr n P St ∧ St 0 s₂.heap ∧ (∀ b ∈ fp, b < s₂.heap.objs.size) ∧ CmpOf prog w A.in1 .Lt P bt ∧
      ∀ v h' tk, (n = 0 ∧ v = .none) ∨ (0 < n ∧ P (argBest bt (n - 1)) v) → (∀ b o, b ∉ wr → s₂.heap.get? b = some o → h'.get? b = some o) → Q v { s₂ with heap := h', toks := tk }) E s) : wpAny (model prog w) A (call (.builtin "min") [x] [(Str.ofString "default", .none)]) Q E s := by
  have hname : (toString "min" ++ toString ".loop" : String) = "min.loop" := by decide
  refine PyProof.Rows.kmk_tree F.kind_min F.plain_min F.entry_min (args_minD _) ?_
  show wpAny _ A.in1 (Builtin.Builtins.bindParams "min" ["key", "default"] 0 ⟨[], [(Str.ofString "default", .none)]⟩ >>= _) _ _ s
  refine wpAny_bind (wpAny_of_eq (show Builtin.Builtins.bindParams "min" ["key", "default"] 0 ⟨[], [(Str.ofString "default", .none)]⟩ = pure [none, some .none] from rfl) (wpAny_bind (wpAny_pure ?_)))
  refine wpAny_bind (wpAny_mono h (fun it s₂ h₂ => ?_) fun _ _ e => e); obtain ⟨I, fp, wr, n, P, St, bt, rfl, W, st, hfp, hc, q⟩ := h₂
  refine wpAny_bind (wpAny_newObj_type ?_); have hSf : s₂.heap.objs.size ∉ fp := fun m => Nat.lt_irrefl _ (hfp _ m); rw [hname]
  refine wpAny_pure ⟨plainId_quiet F.plain_min_loop _, first_minD W bt hc s₂.heap.objs.size hSf (W.frame _ _ _ st fun b _ o e => Heap.get?_push_of_some _ e) (Heap.get?_push_size _ rfl) fun v h' tk hp hk => ?_⟩
  exact q v h' tk hp fun b o n1 e => hk b o n1 (Nat.ne_of_lt (Heap.lt_size e)) (Heap.get?_push_of_some _ e)
end
section
variable {prog : Program} {w : World} {A : Around} {R : Result → Shared → Prop} {I : Addr} {fp wr : List Addr} {n : Nat} {P : Nat → Value → Prop} {St : Nat → Heap → Prop}
theorem args_maxD (a : Value) : argsOk "max" ⟨[a], [(Str.ofString "default", .none)]⟩ := by unfold argsOk; kernel_rfl
theorem loop_maxD (W : Walks prog w A.in1 I fp wr n P St) (bt : Nat → Nat → Bool) (hc : CmpOf prog w A.in1 .Gt P bt) (S : Addr) (hSf : S ∉ fp) :
    ∀ (k j : Nat) (s : Shared) (vb : Value) (c : Nat), n - (j + 1) = k → j + 1 ≤ n → St (j + 1) s.heap → P (argBest bt j) vb → s.heap.get? S = some { cls := .type "list", dict := none, data := .seq #[vb, vb] c, slots := #[] } →
    (∀ v h' tk, P (argBest bt (n - 1)) v → (∀ b o, b ∉ wr → b ≠ S → s.heap.get? b = some o → h'.get? b = some o) → R (.ok (.ret v)) { s with heap := h', toks := tk }) → codeAny (model prog w) A (.builtin "max.loop" ⟨[.ref I, .none, .ref S], [(Str.ofString "default", .none)]⟩) R s := by
  have hSw : S ∉ wr := fun h => hSf (W.sub _ h)
  have hname : (toString "max" ++ toString ".loop" : String) = "max.loop" := by decide
  intro k
  induction k with
  | zero =>
    intro j s vb c hk hj st hp hS q
    have hin : j + 1 = n := by omega
    refine codeAny_builtin F.entry_max_loop ?_; rw [Around.under_plainId F.plain_max_loop _]; show wpAny _ A.in1 (seqItems? (.ref S) >>= _) _ _ s
    refine wpAny_bind (wpAny_seqItems hS rfl ?_); show wpAny _ A.in1 (tryCatch (pyNext (.ref I)) _ >>= _) _ _ s
    refine wpAny_bind (wpAny_tryCatch (W.done s _ _ (hin ▸ st) fun h' tk hk' => ?_)); have hS' := hk' S _ hSw hS
    show wpAny _ A.in1 (updateSeq S (fun _ => #[]) >>= _) _ _ _; refine wpAny_bind ?_; refine wpAny_updateSeq hS' rfl (wpAny_bind (wpAny_letGo (wpAny_pure ?_)))
    exact q vb _ tk (by rw [← hin]; exact hp) fun b o n1 n2 e => (Heap.get?_update_other _ _ (Ne.symm n2)).trans (hk' b o n1 e)
  | succ k ih =>
    intro j s vb c hk hj st hp hS q
    have hlt : j + 1 < n := by omega
    refine codeAny_builtin F.entry_max_loop ?_; rw [Around.under_plainId F.plain_max_loop _]; show wpAny _ A.in1 (seqItems? (.ref S) >>= _) _ _ s
    refine wpAny_bind (wpAny_seqItems hS rfl ?_); show wpAny _ A.in1 (tryCatch (pyNext (.ref I)) _ >>= _) _ _ s
    refine wpAny_bind (wpAny_tryCatch (W.item (j + 1) s _ _ hlt st fun v h' tk pv st' hk' => ?_)); have hS' := hk' S _ hSw hS
    show wpAny _ A.in1 (tryCatch (holding [v, v] (richCompare .Gt v vb >>= _)) _ >>= _) _ _ _
    refine wpAny_bind (wpAny_tryCatch (wpAny_holding (wpAny_bind (hc (j + 1) (argBest bt j) v vb _ _ _ pv hp (wpAny_bind (wpAny_holding (wpAny_truthy_bool (wpAny_bind (wpAny_letGo (wpAny_pure ?_))))))))))
    cases hb : bt (j + 1) (argBest bt j) with
    | true =>
      simp only [if_true]; refine wpAny_bind ?_
      refine wpAny_updateSeq hS' rfl (wpAny_bind (wpAny_letGo ?_)); rw [hname]
      refine wpAny_pure ⟨plainId_quiet F.plain_max_loop _, ih (j + 1) _ v _ (by omega) hlt (W.frame _ _ _ st' fun b hf o e => (Heap.get?_update_other _ _ (fun z : S = b => hSf (by rw [z]; exact hf))).trans e) (by simp only [argBest, hb, if_true]; exact pv) (Heap.get?_update_self _ hS' rfl) fun v' h2 tk2 hp2 hk2 => ?_⟩
      exact q v' h2 tk2 hp2 fun b o n1 n2 e => hk2 b o n1 n2 ((Heap.get?_update_other _ _ (Ne.symm n2)).trans (hk' b o n1 e))
    | false =>
      simp only [Bool.false_eq_true, if_false]; refine wpAny_bind (wpAny_letGo ?_); rw [hname]
      exact wpAny_pure ⟨plainId_quiet F.plain_max_loop _, ih (j + 1) _ vb c (by omega) hlt st' (by simp only [argBest, hb, Bool.false_eq_true, if_false]; exact hp) hS' fun v' h2 tk2 hp2 hk2 => q v' h2 tk2 hp2 fun b o n1 n2 e => hk2 b o n1 n2 (hk' b o n1 e)⟩
theorem first_maxD (W : Walks prog w A.in1 I fp wr n P St) (bt : Nat → Nat → Bool) (hc : CmpOf prog w A.in1 .Gt P bt) (S : Addr) (hSf : S ∉ fp) {s : Shared} {c : Nat} (st : St 0 s.heap) (hS : s.heap.get? S = some { cls := .type "list", dict := none, data := .seq #[] c, slots := #[] })
    (q : ∀ v h' tk, (n = 0 ∧ v = .none) ∨ (0 < n ∧ P (argBest bt (n - 1)) v) → (∀ b o, b ∉ wr → b ≠ S → s.heap.get? b = some o → h'.get? b = some o) → R (.ok (.ret v)) { s with heap := h', toks := tk }) :
    codeAny (model prog w) A (.builtin "max.loop" ⟨[.ref I, .none, .ref S], [(Str.ofString "default", .none)]⟩) R s := by
  have hSw : S ∉ wr := fun h => hSf (W.sub _ h)
  have hname : (toString "max" ++ toString ".loop" : String) = "max.loop" := by decide
  refine codeAny_builtin F.entry_max_loop ?_; rw [Around.under_plainId F.plain_max_loop _]; show wpAny _ A.in1 (seqItems? (.ref S) >>= _) _ _ s
  refine wpAny_bind (wpAny_seqItems hS rfl ?_); show wpAny _ A.in1 (tryCatch (pyNext (.ref I)) _ >>= _) _ _ s
  by_cases hn : 0 < n
  · refine wpAny_bind (wpAny_tryCatch (W.item 0 s _ _ hn st fun v h' tk pv st' hk' => ?_)); have hS' := hk' S _ hSw hS
    show wpAny _ A.in1 (updateSeq S (fun _ => #[v, v]) >>= _) _ _ _; refine wpAny_bind (wpAny_updateSeq hS' rfl ?_); rw [hname]
    refine wpAny_pure ⟨plainId_quiet F.plain_max_loop _, loop_maxD W bt hc S hSf _ 0 _ v _ rfl hn (W.frame _ _ _ st' fun b hf o e => (Heap.get?_update_other _ _ (fun z : S = b => hSf (by rw [z]; exact hf))).trans e) pv (Heap.get?_update_self _ hS' rfl) fun v' h2 tk2 hp2 hk2 => ?_⟩
    exact q v' h2 tk2 (.inr ⟨hn, hp2⟩) fun b o n1 n2 e => hk2 b o n1 n2 ((Heap.get?_update_other _ _ (Ne.symm n2)).trans (hk' b o n1 e))
  · have h0 : n = 0 := by omega
    subst h0
    refine wpAny_bind (wpAny_tryCatch (W.done s _ _ st fun h' tk hk' => ?_))
    exact wpAny_bind (wpAny_rule (wpAny_pure (q .none h' tk (.inl ⟨rfl, rfl⟩) fun b o n1 _ e => hk' b o n1 e)))
end
section
variable {prog : Program} {w : World} {A : Around} {E : Value → Shared → Prop} {s : Shared}
theorem call_maxD {x : Value} {Q : Value → Shared → Prop}
    (h : wpAny (model prog w) A.in1 (pyIter x) (fun it s₂ => ∃ I fp wr n P St bt, it = .ref I ∧ Walks prog w A.in1 I fp wr n P St ∧ St 0 s₂.heap ∧ (∀ b ∈ fp, b < s₂.heap.objs.size) ∧ CmpOf prog w A.in1 .Gt P bt ∧
      ∀ v h' tk, (n = 0 ∧ v = .none) ∨ (0 < n ∧ P (argBest bt (n - 1)) v) → (∀ b o, b ∉ wr → s₂.heap.get? b = some o → h'.get? b = some o) → Q v { s₂ with heap := h', toks := tk }) E s) : wpAny (model prog w) A (call (.builtin "max") [x] [(Str.ofString "default", .none)]) Q E s := by
  have hname : (toString "max" ++ toString ".loop" : String) = "max.loop" := by decide
  refine PyProof.Rows.kmk_tree F.kind_max F.plain_max F.entry_max (args_maxD _) ?_
  show wpAny _ A.in1 (Builtin.Builtins.bindParams "max" ["key", "default"] 0 ⟨[], [(Str.ofString "default", .none)]⟩ >>= _) _ _ s
  refine wpAny_bind (wpAny_of_eq (show Builtin.Builtins.bindParams "max" ["key", "default"] 0 ⟨[], [(Str.ofString "default", .none)]⟩ = pure [none, some .none] from rfl) (wpAny_bind (wpAny_pure ?_)))
  refine wpAny_bind (wpAny_mono h (fun it s₂ h₂ => ?_) fun _ _ e => e); obtain ⟨I, fp, wr, n, P, St, bt, rfl, W, st, hfp, hc, q⟩ := h₂
  refine wpAny_bind (wpAny_newObj_type ?_); have hSf : s₂.heap.objs.size ∉ fp := fun m => Nat.lt_irrefl _ (hfp _ m); rw [hname]
  refine wpAny_pure ⟨plainId_quiet F.plain_max_loop _, first_maxD W bt hc s₂.heap.objs.size hSf (W.frame _ _ _ st fun b _ o e => Heap.get?_push_of_some _ e) (Heap.get?_push_size _ rfl) fun v h' tk hp hk => ?_⟩
  exact q v h' tk hp fun b o n1 e => hk b o n1 (Nat.ne_of_lt (Heap.lt_size e)) (Heap.get?_push_of_some _ e)
end
theorem lst_at {h h' : Heap} {a : Addr} {xs : Array Value} (x : h.IsList a xs) (k : ∀ o, h.get? a = some o → h'.get? a = some o) : h'.IsList a xs := by
  obtain ⟨o, ho, r⟩ := x
  exact ⟨o, k o ho, r⟩
theorem two_lt {h : Heap} {o : Obj} {a b : Addr} (ha : a < h.objs.size) (hb : b ∈ [h.objs.size, a]) : b < (h.push o).objs.size := by
  rw [Heap.size_push]
  rcases List.mem_cons.mp hb with z | z
  · rw [z]; exact Nat.lt_succ_self _
  · rw [List.mem_singleton.mp z]; exact Nat.lt_succ_of_lt ha
/-! ### min(xs, default=None), max(xs, default=None) of ints -/
def mnV (lt : Int → Int → Bool) (ns : List Int) : V := if ns.length = 0 then .non else .int (ns.getD (argBest (fun i j => lt (ns.getD i 0) (ns.getD j 0)) (ns.length - 1)) 0)
def rMnD (K : PySem.W.Frag) (lt : Int → Int → Bool) : List V → List V → Hp → VK → Prop := fun xs zs H Q => ∃ (a : Addr) (ns : List Int), xs = [.ref a] ∧ zs = [.non] ∧ (SqL K H a (ns.map V.int) ∨ SqT K H a (ns.map V.int)) ∧ Q (mnV lt ns) H
theorem ints_val {ns : List Int} {its : List Value} (r : Vals (ns.map V.int) its) {i : Nat} {v : Value} (h : its.toArray[i]? = some v) : ∃ t, v = .int (ns.getD i 0) t := by
  have h2 : its[i]? = some v := by simpa using h
  have hl : ns.length = its.length := by have := r.length; rwa [List.length_map] at this
  have hi : i < ns.length := by rw [hl]; exact (List.getElem?_eq_some_iff.mp h2).1
  have e : (ns.map V.int)[i]? = some (.int ns[i]) := by rw [List.getElem?_map, List.getElem?_eq_getElem hi]; rfl
  obtain ⟨t, rfl⟩ := paired_at r e h2
  refine ⟨t, ?_⟩
  rw [List.getD_eq_getElem?_getD, List.getElem?_eq_getElem hi]; rfl
section
variable {X : Cx}
theorem mn_end {pins : List (Addr × Obj)} {σ : L2.St} {H : Hp} {s : Shared} {Q : VK} {ns : List Int} {its : List Value} {lt : Int → Int → Bool} (I : Inv X pins σ H s) (r : Vals (ns.map V.int) its) (q : Q (mnV lt ns) H) {h' : Heap} {tk : Nat} {v : Value} (hk : ∀ b o, s.heap.get? b = some o → h'.get? b = some o)
    (hv : (its.toArray.size = 0 ∧ v = .none) ∨ (0 < its.toArray.size ∧ its.toArray[argBest (fun i j => lt (ns.getD i 0) (ns.getD j 0)) (its.toArray.size - 1)]? = some v)) : EP X pins σ Q v { s with heap := h', toks := tk } := by
  have hl : ns.length = its.toArray.size := by have := r.length; rw [List.length_map] at this; simpa using this
  unfold mnV at q
  rcases hv with ⟨h0, rfl⟩ | ⟨h0, hv⟩
  · rw [if_pos (by omega)] at q
    exact ⟨.non, H, I.kept (t' := tk) hk, rfl, q⟩
  · rw [if_neg (by omega)] at q
    obtain ⟨t, rfl⟩ := ints_val r hv
    rw [← hl]
    exact ⟨.int _, H, I.kept (t' := tk) hk, ⟨t, rfl⟩, q⟩
theorem cr_minD {K : PySem.W.Frag} (hK : X.K = K) (hc : X.calm = true) : CallRK X (.builtin "min") [Str.ofString "default"] (rMnD K fun i j => decide (i < j)) := by
  subst hK
  intro pins s σ H xs zs us ws Q I r rz h
  obtain ⟨a, ns, rfl, rfl, hs, q⟩ := h
  obtain rfl := Vals.ref1 r
  obtain ⟨w1, rfl, e1⟩ := vals1 rz
  obtain rfl : w1 = Value.none := e1
  refine call_minD ?_
  rcases hs with hs | hs
  · obtain ⟨its, rv, p, _⟩ := I.list hs
    obtain ⟨o, ho, _⟩ := id p.isList
    refine wpAny_pyIter_list p.isList ⟨_, _, _, _, _, _, _, rfl, Walks.list (A := X.A.in1) (I.ok.hd hc) s.heap.objs.size a (Nat.ne_of_lt (Heap.lt_size ho)) its.toArray, ⟨⟨_, Heap.get?_push_size _ rfl, rfl, rfl⟩, lst_at p.isList fun o e => Heap.get?_push_of_some _ e⟩, fun b hb => ?_, CmpOf.ints_lt (fun i => ns.getD i 0) (fun i v h => ints_val rv h), fun v h' tk hv hk => ?_⟩
    · exact two_lt (Heap.lt_size ho) hb
    · exact mn_end I rv q (fun b o e => hk b o (fun z => Nat.ne_of_lt (Heap.lt_size e) (List.mem_singleton.mp z)) (Heap.get?_push_of_some _ e)) hv
  · obtain ⟨its, rv, p, _⟩ := I.tuple hs
    obtain ⟨o, ho, _⟩ := id p
    refine wpAny_pyIter_tuple (show s.heap.IsTuple a its.toArray from p) ⟨_, _, _, _, _, _, _, rfl, Walks.tuple (A := X.A.in1) (I.ok.hd hc) s.heap.objs.size a (Nat.ne_of_lt (Heap.lt_size ho)) its.toArray, ⟨⟨_, Heap.get?_push_size _ rfl, rfl, rfl⟩, tup_at p fun o e => Heap.get?_push_of_some _ e⟩, fun b hb => ?_, CmpOf.ints_lt (fun i => ns.getD i 0) (fun i v h => ints_val rv h), fun v h' tk hv hk => ?_⟩
    · exact two_lt (Heap.lt_size ho) hb
    · exact mn_end I rv q (fun b o e => hk b o (fun z => Nat.ne_of_lt (Heap.lt_size e) (List.mem_singleton.mp z)) (Heap.get?_push_of_some _ e)) hv
theorem cr_maxD {K : PySem.W.Frag} (hK : X.K = K) (hc : X.calm = true) : CallRK X (.builtin "max") [Str.ofString "default"] (rMnD K fun i j => decide (i > j)) := by
  subst hK
  intro pins s σ H xs zs us ws Q I r rz h
  obtain ⟨a, ns, rfl, rfl, hs, q⟩ := h
  obtain rfl := Vals.ref1 r
  obtain ⟨w1, rfl, e1⟩ := vals1 rz
  obtain rfl : w1 = Value.none := e1
  refine call_maxD ?_
  rcases hs with hs | hs
  · obtain ⟨its, rv, p, _⟩ := I.list hs
    obtain ⟨o, ho, _⟩ := id p.isList
    refine wpAny_pyIter_list p.isList ⟨_, _, _, _, _, _, _, rfl, Walks.list (A := X.A.in1) (I.ok.hd hc) s.heap.objs.size a (Nat.ne_of_lt (Heap.lt_size ho)) its.toArray, ⟨⟨_, Heap.get?_push_size _ rfl, rfl, rfl⟩, lst_at p.isList fun o e => Heap.get?_push_of_some _ e⟩, fun b hb => ?_, CmpOf.ints_gt (fun i => ns.getD i 0) (fun i v h => ints_val rv h), fun v h' tk hv hk => ?_⟩
    · exact two_lt (Heap.lt_size ho) hb
    · exact mn_end I rv q (fun b o e => hk b o (fun z => Nat.ne_of_lt (Heap.lt_size e) (List.mem_singleton.mp z)) (Heap.get?_push_of_some _ e)) hv
  · obtain ⟨its, rv, p, _⟩ := I.tuple hs
    obtain ⟨o, ho, _⟩ := id p
    refine wpAny_pyIter_tuple (show s.heap.IsTuple a its.toArray from p) ⟨_, _, _, _, _, _, _, rfl, Walks.tuple (A := X.A.in1) (I.ok.hd hc) s.heap.objs.size a (Nat.ne_of_lt (Heap.lt_size ho)) its.toArray, ⟨⟨_, Heap.get?_push_size _ rfl, rfl, rfl⟩, tup_at p fun o e => Heap.get?_push_of_some _ e⟩, fun b hb => ?_, CmpOf.ints_gt (fun i => ns.getD i 0) (fun i v h => ints_val rv h), fun v h' tk hv hk => ?_⟩
    · exact two_lt (Heap.lt_size ho) hb
    · exact mn_end I rv q (fun b o e => hk b o (fun z => Nat.ne_of_lt (Heap.lt_size e) (List.mem_singleton.mp z)) (Heap.get?_push_of_some _ e)) hv
end
end My

namespace My
open PySem PySem.Spec PyProof.Rows L2
/-! ### texts put together -/
/-! ### a text a number of times -/
def wMulS : R2 := fun x y H Q => ∃ (z : Str) (n : Int), x = .str z ∧ y = .int n ∧ 0 ≤ n ∧ n ≤ 1000 ∧ z.length ≤ 1000 ∧ Q (.str (Txt.mul z n)) H
theorem op_mulS {X : Cx} : OpR X (binaryOp .Mult) wMulS := by
  intro pins s σ H x y v u Q I rx ry h
  obtain ⟨z, n, rfl, rfl, h0, h1, h2, q⟩ := h
  obtain ⟨t, rfl⟩ := rx
  obtain ⟨t2, rfl⟩ := ry
  have hz : (z.length : Int) ≤ 1000 := by omega
  have hm : (z.length : Int) * n ≤ 1000000 := Int.le_trans (Int.mul_le_mul hz h1 h0 (by decide)) (by decide)
  refine PySem.SB.mul ⟨?_, fun a _ => ?_, fun a _ => ?_⟩ (fun t' k => ⟨.str _, H, I.kept (t' := k) fun _ _ e => e, ⟨_, rfl⟩, q⟩)
  · rw [decide_eq_false (by omega), decide_eq_false (by omega)]
    rfl
  · have hp : 0 < n := by omega
    refine Int.not_lt.mpr ((Int.le_ediv_iff_mul_le hp).mpr (by omega))
  · have e : z.length * n.toNat ≤ 1000000 := by
      have : ((z.length * n.toNat : Nat) : Int) ≤ 1000000 := by
        rw [Int.natCast_mul, Int.toNat_of_nonneg h0]
        exact hm
      omega
    have s1 := sizeLine_eq
    exact (show decide (z.length * n.toNat > sizeLine) = false from decide_eq_false (by omega))
def asc (s : Str) : Bool := s.cps.all (fun c => decide (c < 128))
theorem asc_app {a b : Str} (ha : asc a = true) (hb : asc b = true) : asc (a ++ b) = true := by
  unfold asc at *
  rw [Str.cps_append, Array.all_append, ha, hb]; rfl
theorem asc_nil0 : asc Str.empty = true := by simp [asc, Str.empty]
theorem asc_join {a : Str} (ha : asc a = true) : ∀ {ys : List Str}, (∀ y ∈ ys, asc y = true) → asc (Txt.join a ys) = true := by
  intro ys
  rw [TL.join_eq]
  induction ys with
  | nil => intro _; exact asc_nil0
  | cons x ys ih =>
    intro h
    cases ys with
    | nil => exact h x (.head _)
    | cons y ys => exact asc_app (asc_app (h x (.head _)) ha) (ih fun z hz => h z (.tail _ hz))
theorem foldl_asc {x : Array Nat} (hx : x.all (fun c => decide (c < 128)) = true) : ∀ (n : Nat) (acc : Array Nat), acc.all (fun c => decide (c < 128)) = true → ((List.replicate n x).foldl (· ++ ·) acc).all (fun c => decide (c < 128)) = true
  | 0, _, h => h
  | n + 1, acc, h => by
    rw [List.replicate_succ, List.foldl_cons]
    exact foldl_asc hx n _ (by rw [Array.all_append, h, hx]; rfl)
theorem asc_nil : asc Str.empty = true := by simp [asc, Str.empty]
theorem asc_mul {x : Str} (n : Int) (hx : asc x = true) : asc (Txt.mul x n) = true := by
  unfold Txt.mul
  split
  · exact asc_nil
  · split
    · exact hx
    · exact foldl_asc hx _ _ (by simp)
theorem len_mul1 {x : Str} {n : Int} (h0 : 0 ≤ n) : ((Txt.mul x n).length : Int) = (x.length : Int) * n := by
  have := PyProof.Rows.len_mul x n
  rw [decide_eq_false (by omega), if_neg (by decide)] at this
  exact this
theorem strG_join {a : Str} {ys : List Str} (ha : strG a) (hy : ∀ y ∈ ys, strG y) (h : (ys.map (·.length)).sum + ys.length * a.length ≤ 100000) : strG (Txt.join a ys) := by
  refine ⟨?_, asc_join ha.2 fun y m => (hy y m).2⟩
  rw [TL.join_eq]
  exact Nat.le_trans (StrLaws.join_length_le a ys) h
theorem strG_app {a b : Str} (ha : strG a) (hb : strG b) (h : a.length + b.length ≤ 100000) : strG (a ++ b) := ⟨by rw [Str.length_append]; exact h, asc_app ha.2 hb.2⟩
section
variable {K : PySem.W.Frag} [Xg K] {δ δ2 : Store} {ta tb te td : TE} {tr tk : TA} {Φ : Dt → Store → Prop}
/-- s * n -/
def LMulS (a b : Dt) (P : Str → Prop) : Prop := ∃ z n, a = .str z ∧ b = .int n ∧ 0 ≤ n ∧ n ≤ 1000 ∧ z.length ≤ 100 ∧ P (Txt.mul z n)
theorem lf_mulS {z : Str} {n : Int} {P : Str → Prop} (h : 0 ≤ n ∧ n ≤ 1000 ∧ z.length ≤ 100) (q : P (Txt.mul z n)) : LMulS (.str z) (.int n) P := ⟨z, n, rfl, rfl, h.1, h.2.1, h.2.2, q⟩
theorem y_mulS (q : W K ta δ fun a δ1 => W K tb δ1 fun b δ2 => LMulS a b fun z => Φ (.str z) δ2) : W K (tOp wMulS ta tb) δ Φ := w_op q fun M L σ H v u a b δ2 I hv hu hp Q k => by
  obtain ⟨z, n, rfl, rfl, h0, h1, h2, q⟩ := hp
  obtain ⟨rfl, hz⟩ := hv.inv_str
  rw [hu.inv_int]
  refine ⟨z, n, rfl, rfl, h0, h1, by omega, k _ _ _ _ I (Xt.refl _ _) (.str ⟨?_, asc_mul n hz.2⟩) q⟩
  have := len_mul1 (x := z) h0
  have h3 : (z.length : Int) * n ≤ 100 * 1000 := Int.mul_le_mul (by omega) h1 h0 (by decide)
  omega
/-- a.join(xs), xs a list or a tuple of texts -/
def LJoin (a : Dt) (ds : List Dt) (P : Str → Prop) : Prop := ∃ s d ys, a = .str s ∧ ds = [d] ∧ d.items = some (strsD ys) ∧ (ys.map (·.length)).sum + ys.length * s.length ≤ 100000 ∧ P (Txt.join s ys)
theorem lf_joinL {s : Str} {ys : List Str} {P : Str → Prop} (h : (ys.map (·.length)).sum + ys.length * s.length ≤ 100000) (q : P (Txt.join s ys)) : LJoin (.str s) [.lst (strsD ys)] P := ⟨s, _, ys, rfl, rfl, rfl, h, q⟩
theorem lf_joinT {s : Str} {ys : List Str} {P : Str → Prop} (h : (ys.map (·.length)).sum + ys.length * s.length ≤ 100000) (q : P (Txt.join s ys)) : LJoin (.str s) [.tup (strsD ys)] P := ⟨s, _, ys, rfl, rfl, rfl, h, q⟩
theorem y_join (q : W K te δ fun a δ1 => LS1 a fun s => Wa K tr δ1 fun ds δ2 => LJoin (.str s) ds fun z => Φ (.str z) δ2) : W K (tBM K "str" (wJoin K) te tr) δ Φ := fun M L σ H I Q k => q M L σ H I _ fun v a δ1 H1 I1 x1 hv ⟨s, hs, q1⟩ => by
  subst hs
  obtain ⟨rfl, hg⟩ := hv.inv_str
  refine ⟨rfl, q1 M L σ H1 I1 _ fun vs ds δ2 H2 I2 x2 hvs ⟨s', d, ys, e1, e2, hi, hz, q2⟩ => ?_⟩
  cases e1
  subst e2
  cases hvs with
  | cons h t =>
    cases t
    obtain ⟨p, xs, rfl, hx, hl⟩ := h.its hi
    obtain ⟨rfl, hys⟩ := hl.strs
    exact ⟨s, p, ys, rfl, rfl, hx, by omega, k _ _ δ2 H2 I2 (x1.trans x2) (.str (strG_join hg hys hz)) q2⟩
/-- f"{a}{b}" of texts -/
theorem y_fmt (q : W K te δ fun a δ1 => LS1 a fun s => Φ (.str s) δ1) : W K (tFmt te) δ Φ := fun M L σ H I Q k => q M L σ H I _ fun v a δ1 H1 I1 x1 hv ⟨s, hs, q1⟩ => by
  subst hs
  obtain ⟨rfl, hg⟩ := hv.inv_str
  exact .inl ⟨s, rfl, sz_of hg.1, k _ _ δ1 H1 I1 x1 (.str hg) q1⟩
def Wj (K : PySem.W.Frag) [Xg K] : List TE → Str → Store → (Str → Store → Prop) → Prop
  | [], acc, δ, Θ => Θ acc δ
  | t :: ts, acc, δ, Θ => W K t δ fun a δ1 => LS1 a fun s => acc.length + s.length ≤ 100000 ∧ Wj K ts (acc ++ s) δ1 Θ
theorem wj_run : ∀ {ts : List TE} {acc : Str} {δ : Store} {Θ : Str → Store → Prop}, Wj K ts acc δ Θ → strG acc → ∀ M L σ H, Ib K M L σ δ H → ∀ Q : Str → Hp → Prop, (∀ s δ' H', strG s → Ib K M L σ δ' H' → Xt L H H' → Θ s δ' → Q s H') → tJs ts acc σ H Q
  | [], acc, δ, Θ, q, hg, M, L, σ, H, I, Q, k => k acc δ H hg I (Xt.refl _ _) q
  | t :: ts, acc, δ, Θ, q, hg, M, L, σ, H, I, Q, k => q M L σ H I _ fun v a δ1 H1 I1 x1 hv ⟨s, hs, hz, q1⟩ => by
    subst hs
    obtain ⟨rfl, hs2⟩ := hv.inv_str
    have hg2 := strG_app hg hs2 hz
    exact ⟨s, rfl, sz_of hg2.1, wj_run q1 hg2 M L σ H1 I1 Q fun s' δ' H' g' I' x' h => k s' δ' H' g' I' (x1.trans x') h⟩
theorem y_joined {ts : List TE} (q : Wj K ts Str.empty δ fun s δ1 => Φ (.str s) δ1) : W K (fun σ H Q => tJs ts Str.empty σ H fun out H1 => Q (.str out) H1) δ Φ := fun M L σ H I Q k =>
  wj_run q ⟨by decide, asc_nil⟩ M L σ H I _ fun s δ' H' g' I' x' h => k _ _ δ' H' I' x' (.str g') h
theorem wj_nil {acc : Str} {Θ : Str → Store → Prop} (q : Θ acc δ) : Wj K [] acc δ Θ := q
theorem wj_cons {ts : List TE} {acc : Str} {Θ : Str → Store → Prop} (q : W K te δ fun a δ1 => LS1 a fun s => acc.length + s.length ≤ 100000 ∧ Wj K ts (acc ++ s) δ1 Θ) : Wj K (te :: ts) acc δ Θ := q
/-- s + t -/
def LCatS (a b : Dt) (P : Str → Prop) : Prop := ∃ s t, a = .str s ∧ b = .str t ∧ s.length + t.length ≤ 100000 ∧ P (s ++ t)
theorem lf_catS {s t : Str} {P : Str → Prop} (h : s.length + t.length ≤ 100000) (q : P (s ++ t)) : LCatS (.str s) (.str t) P := ⟨s, t, rfl, rfl, h, q⟩
end
end My

namespace My
open PySem PySem.Spec PyProof.Rows L2
section
variable {K : PySem.W.Frag} [Xg K] {δ δ2 : Store} {ta tb te : TE} {tr tk : TA} {Φ : Dt → Store → Prop}
/-! ### special methods of own classes -/
def LNat (d : Dt) (P : Int → Prop) : Prop := ∃ n : Int, d = .int n ∧ 0 ≤ n ∧ n < 2 ^ 63 ∧ P n
theorem y_lenOwn {C : Addr} {T : List Dt → (Dt → Prop) → Prop} {X : XK} (q : W K te δ fun o δ1 => LIns C o fun gs => T [.ins C gs] fun d => LNat d fun n => Φ (.int n) δ1) : W K (tCB (rLenOwn C (spP K T) X) (tCons te tNil)) δ Φ := fun M L σ H I Q k => q M L σ H I _ fun v o δ1 H1 I1 x1 hv ⟨gs, ho, q1⟩ => by
  subst ho
  obtain ⟨a, dx, fs, rfl, _, ha, _⟩ := id hv.inv_ins
  refine ⟨a, dx, fs, rfl, ha, L ++ M, [.ins C gs], _, I1.here, .cons hv .nil, q1, fun v d H' kd e hr => ?_⟩
  obtain ⟨n, rfl, h0, h1, q⟩ := kd
  exact ⟨n, hr.inv_int, h0, h1, k _ _ δ1 H' (I1.ext e) (x1.trans (Xt.of e)) (.int n) q⟩
theorem y_strOwn {C : Addr} {T : List Dt → (Dt → Prop) → Prop} {X : XK} (q : W K te δ fun o δ1 => LIns C o fun gs => T [.ins C gs] fun d => LS1 d fun n => Φ (.str n) δ1) : W K (tCB (rStrOwn C (spP K T) X) (tCons te tNil)) δ Φ := fun M L σ H I Q k => q M L σ H I _ fun v o δ1 H1 I1 x1 hv ⟨gs, ho, q1⟩ => by
  subst ho
  obtain ⟨a, dx, fs, rfl, _, ha, _⟩ := id hv.inv_ins
  refine ⟨a, dx, fs, rfl, ha, L ++ M, [.ins C gs], _, I1.here, .cons hv .nil, q1, fun v d H' kd e hr => ?_⟩
  obtain ⟨n, rfl, q⟩ := kd
  exact ⟨n, hr.inv_str.1, k _ _ δ1 H' (I1.ext e) (x1.trans (Xt.of e)) (.str hr.inv_str.2) q⟩
theorem y_inOwn {C : Addr} {neg : Bool} {T : List Dt → (Dt → Prop) → Prop} {X : XK} (q : W K ta δ fun a δ1 => W K tb δ1 fun b δ2 => LIns C b fun gs => T [.ins C gs, a] fun d => LB1 d fun c => Φ (.bl (if neg then !c else c)) δ2) : W K (tOp (rInOwn C (spP K T) X neg) ta tb) δ Φ :=
  w_op q fun M L σ H v u a b δ2 I hv hu ⟨gs, hb, q1⟩ Q k => by
    subst hb
    obtain ⟨y, dy, fs, rfl, _, hy, _⟩ := id hu.inv_ins
    refine ⟨y, dy, fs, rfl, hy, L ++ M, [.ins C gs, a], _, I.here, .cons hu (.cons hv .nil), q1, fun v d H' kd e hr => ?_⟩
    obtain ⟨c, rfl, q⟩ := kd
    exact ⟨c, hr.inv_bl, k _ _ δ2 H' (I.ext e) (Xt.of e) (.bl _) q⟩
theorem y_getOwn {C : Addr} {T : List Dt → (Dt → Prop) → Prop} {X : XK} (q : W K ta δ fun a δ1 => W K tb δ1 fun b δ2 => LIns C a fun gs => T [.ins C gs, b] fun d => Φ d δ2) : W K (tOp (rGetOwn C (spP K T) X) ta tb) δ Φ :=
  w_op q fun M L σ H v u a b δ2 I hv hu ⟨gs, hb, q1⟩ Q k => by
    subst hb
    obtain ⟨y, dy, fs, rfl, _, hy, _⟩ := id hv.inv_ins
    exact ⟨y, dy, fs, rfl, hy, L ++ M, [.ins C gs, b], fun d => Φ d δ2, I.here, .cons hv (.cons hu .nil), q1, fun v d H' kd e hr => k _ _ δ2 H' (I.ext e) (Xt.of e) hr kd⟩
def tyAll : List String := ["NoneType", "bool", "int", "str", "list", "tuple", "dict"]
theorem tyS_all {d : Dt} {s : String} (h : d.tyS = some s) : s ∈ tyAll := by
  cases d <;> first | (cases h; decide) | cases h
/-- x == y, y of a built-in type -/
theorem y_eqB {C : Addr} {T : List Dt → (Dt → Prop) → Prop} {X : XK} (hn : (tyAll.all fun t => PySem.W.notFirst K C (.type t)) = true) (q : W K ta δ fun a δ1 => W K tb δ1 fun b δ2 => LIns C a fun gs => b.tyS.isSome = true ∧ T [.ins C gs, b] fun d => Φ d δ2) : W K (tOp (rEqB K C (spP K T) X) ta tb) δ Φ :=
  w_op q fun M L σ H v u a b δ2 I hv hu ⟨gs, hb, ht, q1⟩ Q k => by
    subst hb
    obtain ⟨y, dy, fs, rfl, _, hy, _⟩ := id hv.inv_ins
    obtain ⟨s, hs⟩ := Option.isSome_iff_exists.mp ht
    exact ⟨y, dy, fs, s, rfl, hy, hu.tyx hs, List.all_eq_true.mp hn s (tyS_all hs), L ++ M, [.ins C gs, b], fun d => Φ d δ2, I.here, .cons hv (.cons hu .nil), q1, fun v d H' kd e hr => k _ _ δ2 H' (I.ext e) (Xt.of e) hr kd⟩
/-! ### min, max -/
def mnDt (lt : Int → Int → Bool) (ns : List Int) : Dt := if ns.length = 0 then .non else .int (ns.getD (argBest (fun i j => lt (ns.getD i 0) (ns.getD j 0)) (ns.length - 1)) 0)
theorem mn_rp {A : List Addr} {H : Hp} (lt : Int → Int → Bool) (ns : List Int) : Rp K A H (mnV lt ns) (mnDt lt ns) := by
  unfold mnV mnDt
  split
  · exact .non
  · exact .int _
def LMn (a b : List Dt) (P : List Int → Prop) : Prop := ∃ d ns, a = [d] ∧ b = [.non] ∧ d.items = some (intsD ns) ∧ P ns
theorem lf_mnL {ns : List Int} {P : List Int → Prop} (q : P ns) : LMn [.lst (intsD ns)] [.non] P := ⟨_, ns, rfl, rfl, rfl, q⟩
theorem lf_mnT {ns : List Int} {P : List Int → Prop} (q : P ns) : LMn [.tup (intsD ns)] [.non] P := ⟨_, ns, rfl, rfl, rfl, q⟩
theorem y_mnD {lt : Int → Int → Bool} (q : Wa K tr δ fun a δ1 => Wa K tk δ1 fun b δ2 => LMn a b fun ns => Φ (mnDt lt ns) δ2) : W K (tCKw (rMnD K lt) tr tk) δ Φ := fun M L σ H I Q k =>
  q M L σ H I _ fun vs ds δ1 H1 I1 x1 hv q1 => q1 M L σ H1 I1 _ fun us es δ2 H2 I2 x2 hu ⟨d, ns, e1, e2, hi, q2⟩ => by
    subst e1
    subst e2
    cases hv with
    | cons h t =>
      cases t
      cases hu with
      | cons h2 t =>
        cases t
        obtain ⟨p, xs, rfl, hx, hl⟩ := (h.mono (xtL x2)).its hi
        have := hl.ints
        subst this
        exact ⟨p, ns, rfl, by rw [h2.inv_non], hx, k _ _ δ2 H2 I2 (x1.trans x2) (mn_rp lt ns) q2⟩
theorem y_adds (q : W K ta δ fun a δ1 => W K tb δ1 fun b δ2 => LCatS a b fun s => Φ (.str s) δ2) : W K (tOp wAddS ta tb) δ Φ := w_op q fun M L σ H v u a b δ2 I hv hu hp Q k => by
  obtain ⟨z, t, rfl, rfl, h, q⟩ := hp
  obtain ⟨rfl, hz⟩ := hv.inv_str
  obtain ⟨rfl, ht⟩ := hu.inv_str
  exact ⟨z, t, rfl, rfl, sz_of h, k _ _ _ _ I (Xt.refl _ _) (.str (strG_app hz ht h)) q⟩
end
end My

namespace My
open PySem PySem.Spec PyProof.Rows L2
section
variable {K : PySem.W.Frag} [Xg K] {δ δ2 : Store} {ta tb te : TE} {tr tk : TA} {Φ : Dt → Store → Prop}
theorem y_inOwn0 {C : Addr} {T : List Dt → (Dt → Prop) → Prop} {X : XK} (q : W K ta δ fun a δ1 => W K tb δ1 fun b δ2 => LIns C b fun gs => T [.ins C gs, a] fun d => LB1 d fun c => Φ (.bl c) δ2) : W K (tOp (rInOwn C (spP K T) X false) ta tb) δ Φ := y_inOwn q
theorem y_notinOwn0 {C : Addr} {T : List Dt → (Dt → Prop) → Prop} {X : XK} (q : W K ta δ fun a δ1 => W K tb δ1 fun b δ2 => LIns C b fun gs => T [.ins C gs, a] fun d => LB1 d fun c => Φ (.bl (!c)) δ2) : W K (tOp (rInOwn C (spP K T) X true) ta tb) δ Φ := y_inOwn q
/-! ### x in xs, by equality of data -/
theorem pyL_any (a : Dt) : ∀ es : List Dt, ((Dt.pyL es).any fun z => PyData.eqv z a.py) = es.any fun z => z.eqv a
  | [] => rfl
  | d :: es => by
    show (PyData.eqv d.py a.py || (Dt.pyL es).any fun z => PyData.eqv z a.py) = (d.eqv a || es.any fun z => z.eqv a)
    rw [pyL_any a es]; rfl
def LInD (a d : Dt) (P : Bool → Prop) : Prop := ∃ es, d = .lst es ∧ a.pur 60 = true ∧ d.pur 60 = true ∧ P (es.any fun z => z.eqv a)
def LInT (a d : Dt) (P : Bool → Prop) : Prop := ∃ es, d = .tup es ∧ a.pur 60 = true ∧ d.pur 60 = true ∧ P (es.any fun z => z.eqv a)
theorem y_inD (q : W K ta δ fun a δ1 => W K tb δ1 fun d δ2 => LInD a d fun x => Φ (.bl x) δ2) : W K (tOp (rInD K) ta tb) δ Φ :=
  w_op q fun M L σ H v u a b δ2 I hv hu ⟨es, hb, h1, h2, q⟩ Q k => by
    subst hb
    exact ⟨a.py, Dt.pyL es, hv.dp h1, hu.dp h2, hv.shp h1, hu.shp h2, by rw [pyL_any]; exact k _ _ _ _ I (Xt.refl _ _) (.bl _) q⟩
theorem y_inDT (q : W K ta δ fun a δ1 => W K tb δ1 fun d δ2 => LInT a d fun x => Φ (.bl x) δ2) : W K (tOp (rInDT K) ta tb) δ Φ :=
  w_op q fun M L σ H v u a b δ2 I hv hu ⟨es, hb, h1, h2, q⟩ Q k => by
    subst hb
    exact ⟨a.py, Dt.pyL es, hv.dp h1, hu.dp h2, hv.shp h1, hu.shp h2, by rw [pyL_any]; exact k _ _ _ _ I (Xt.refl _ _) (.bl _) q⟩
/-! ### when data are equal -/
instance : DecidableEq LLine := fun a b => decidable_of_iff (a.col = b.col ∧ a.ws = b.ws) ⟨fun h => by
  obtain ⟨c, w⟩ := a
  obtain ⟨c', w'⟩ := b
  obtain ⟨h1, h2⟩ := h
  cases h1
  cases h2
  rfl, fun h => by rw [h]; exact ⟨rfl, rfl⟩⟩
theorem strs_eqv : ∀ a b : List Str, PyData.eqvAll (Dt.pyL (strsD a)) (Dt.pyL (strsD b)) = decide (a = b)
  | [], [] => by simp [strsD, Dt.pyL, PyData.eqvAll]
  | [], _ :: _ => by simp [strsD, Dt.pyL, PyData.eqvAll]
  | _ :: _, [] => by simp [strsD, Dt.pyL, PyData.eqvAll]
  | x :: a, y :: b => by
    have := strs_eqv a b
    show (PyData.eqv (.str x) (.str y) && PyData.eqvAll (Dt.pyL (strsD a)) (Dt.pyL (strsD b))) = _
    rw [this]
    simp only [PyData.eqv]
    by_cases h : x = y
    · subst h
      simp
    · have : (x == y) = false := beq_false_of_ne h
      rw [this, decide_eq_false (fun z => h (List.cons.inj z).1)]; rfl
theorem line_eqv (l m : LLine) : l.dt.eqv m.dt = decide (l = m) := by
  show PyData.eqv (.tuple [.int l.col, .tuple (Dt.pyL (strsD l.ws))]) (.tuple [.int m.col, .tuple (Dt.pyL (strsD m.ws))]) = _
  simp only [PyData.eqv, PyData.eqvAll, strs_eqv, Bool.and_true]
  obtain ⟨c, ws⟩ := l
  obtain ⟨c', ws'⟩ := m
  by_cases h : c = c'
  · subst h
    by_cases h2 : ws = ws'
    · subst h2; simp
    · simp [h2]
  · simp [h]
theorem lin_eqvL : ∀ a b : List LLine, PyData.eqvAll (Dt.pyL (linD a)) (Dt.pyL (linD b)) = decide (a = b)
  | [], [] => by simp [linD, Dt.pyL, PyData.eqvAll]
  | [], _ :: _ => by simp [linD, Dt.pyL, PyData.eqvAll]
  | _ :: _, [] => by simp [linD, Dt.pyL, PyData.eqvAll]
  | x :: a, y :: b => by
    have := lin_eqvL a b
    show (PyData.eqv x.dt.py y.dt.py && PyData.eqvAll (Dt.pyL (linD a)) (Dt.pyL (linD b))) = _
    rw [this, show PyData.eqv x.dt.py y.dt.py = decide (x = y) from line_eqv x y]
    by_cases h : x = y
    · subst h; simp
    · simp [h]
theorem lin_eqvT (a b : List LLine) : (Dt.tup (linD a)).eqv (.tup (linD b)) = decide (a = b) := by
  show PyData.eqv (.tuple _) (.tuple _) = _
  simp only [PyData.eqv]
  exact lin_eqvL a b
theorem lin_eqv (a b : List LLine) : (Dt.lst (linD a)).eqv (.lst (linD b)) = decide (a = b) := by
  show PyData.eqv (.list _) (.list _) = _
  simp only [PyData.eqv]
  exact lin_eqvL a b
theorem lin_any (l : LLine) : ∀ a : List LLine, ((linD a).any fun z => z.eqv l.dt) = decide (l ∈ a)
  | [] => by simp [linD]
  | x :: a => by
    have := lin_any l a
    show (x.dt.eqv l.dt || (linD a).any fun z => z.eqv l.dt) = _
    rw [this, line_eqv]
    by_cases h : x = l
    · subst h; simp
    · have h2 : ¬ l = x := fun z => h z.symm
      by_cases h3 : l ∈ a
      · simp [h3]
      · simp [h, h2, h3]
end
end My

namespace My
open PySem PySem.Spec PyProof.Rows L2
/-! ### methods of texts, with names for what they tell -/
section
variable {X : Cx}
def wSplit : V → List V → Hp → VK → Prop := fun x xs H Q => ∃ a b, x = .str a ∧ xs = [.str b] ∧ (b.length == 0) = false ∧ a.length + 2 ≤ sizeLine ∧ rNewStrs (Txt.split a b) H Q
theorem c_split : MtR X "str.split" wSplit := mt_split
def wLstC : V → List V → Hp → VK → Prop := fun x xs H Q => ∃ a b, x = .str a ∧ xs = [.str b] ∧ a.length ≤ sizeLine ∧ Q (.str (Txt.lstripChars a b)) H
theorem c_lstripC : MtR X "str.lstrip" wLstC := mt_lstripChars
def wLeS : R2 := fun x y H Q => ∃ i j, x = .str i ∧ y = .str j ∧ Q (.bl (!decide (j.cps.toList < i.cps.toList))) H
theorem o_leS : OpR X (compareOp .LtE) wLeS := op_le_str
end
end My

namespace My
open PySem PySem.Spec PyProof.Rows L2 ClX
/-! ### a class method that may raise -/
section
variable {X : Cx} {CX : CXT} {k : Nat} {C p g : Addr} {mc : Value} {sp : Sp} {E : L2.St → XK} {o e : Expr} {es : List Expr} {m : Str} {pos apos : Pos} {ta : TE} {t : TA} {pl : Sem Bool}
theorem run_fnRS {pins : List (Addr × Obj)} {σ : L2.St} {H : Hp} {s : Shared} {f : Addr} {Q : VK} {us : List Value} {vs : List V} (F : FnR X.prog X.w X.K X.mg X.base CX k f sp) (hr : Room k X.A) (hx : PassesAt CX X σ (E σ)) (I : Inv X pins σ H s) (r : Vals vs us) (h : sp vs H Q (E σ)) :
    codeAny (model X.prog X.w) X.A (.call (.ref f) ⟨us, []⟩) (fun r s' => match r with | .ok (.ret v) => EP X pins σ Q v s' | .ok _ => False | .error e => X.xe e s') s := by
  refine codeAny_mono (F X.A X.stack s H us vs Q (E σ) hr I.env0 r h) fun r s' hq => ?_
  cases r with
  | error e => exact hx pins H s e s' I hq
  | ok fl =>
    cases fl with
    | ret u => exact I.after hq
    | next => exact False.elim hq
    | brk => exact False.elim hq
    | cont => exact False.elim hq
theorem run_cmS {pins : List (Addr × Obj)} {σ : L2.St} {H : Hp} {s : Shared} {q : Addr} {Q : VK} {us : List Value} {vs : List V} (F : FnR X.prog X.w X.K X.mg X.base CX k g sp) (hr : Room k X.A) (hx : PassesAt CX X σ (E σ)) (I : Inv X ((q, PySem.W.methodObj (.ref g) (.ref C)) :: pins) σ H s)
    (r : Vals vs us) (h : sp (.ref C :: vs) H Q (E σ)) : wpAny (model X.prog X.w) X.A (call (.ref q) us) (EP X pins σ Q) X.xe s := by
  have z : wpAny (model X.prog X.w) X.A (call (.ref q) us) (EP X ((q, PySem.W.methodObj (.ref g) (.ref C)) :: pins) σ Q) X.xe s :=
    wpAny_call (PySem.W.method_call (pin_at I) (run_fnRS (us := .ref C :: us) (vs := .ref C :: vs) F hr hx I (.cons rfl r) h))
  exact thn z fun _ _ y => unpinE y
/-- C.m(..), what it raises told by the slots -/
def tCMethS (C : Addr) (sp : Sp) (E : L2.St → XK) (ta : TE) (t : TA) : TE := fun σ H Q => ta σ H fun x H1 => x = .ref C ∧ t σ H1 fun vs H2 => sp (.ref C :: vs) H2 Q (E σ)
theorem pe_cmethS (he : PE X o ta) (r : CRead X.K C mc) (c : CMet X.K C mc m p g) (F : FnR X.prog X.w X.K X.mg X.base CX k g sp) (hr : Room k X.A) (hx : ∀ σ, PassesAt CX X σ (E σ)) (ha : PA X (e :: es) t)
    (hst : starEach (e :: es) X.env = (false, eval e X.env) :: starEach es X.env := by rfl) (hpl : (backTo pos (starEach es X.env)).any (·.1) = false := by rfl)
    (ht : eval (.Call (.Attribute o m apos) (e :: es) [] pos) X.env = (do
      let ov ← eval o X.env
      standAt apos.atName
      let (f, first) ← holding [ov] (getMethod ov m pl)
      callWith pos f first (backTo pos (starEach (e :: es) X.env)) (backToKw pos (keywordEach [] X.env))) := by rfl) :
    PE X (.Call (.Attribute o m apos) (e :: es) [] pos) (tCMethS C sp E ta t) := by
  refine ⟨fun pins s σ H Q I h => ?_⟩
  refine PySem.W.methodCall_KW (pl := pl) (thn (he.run pins s σ H _ I h) fun u s1 ⟨x, H1, I1, rx, ex, q⟩ => ?_) ht
  subst ex
  obtain rfl : u = Value.ref C := rx
  refine getmethcm_ok I1 r c fun s2 I2 => ?_
  refine callwith_cm I2 (base_none I1 (Nat.le_refl _)) c.fi (thn (ha.run pos _ s2 σ H1 _ I2 q) fun us s3 ⟨vs, H2, I3, rv, q2⟩ => ⟨⟨pin_at I3, I3.kIn⟩, ?_⟩) hst hpl
  exact run_cmS F hr (hx σ) I3 rv q2
end
end My

namespace My
open PySem PySem.Spec PyProof.Rows L2
/-! ### raise and try, for own classes of any root, with and without a name in each clause -/
theorem xc_raises {X : Cx} {C : Addr} (T : XC X.K C) (ty : PySem.W.typeIn X.K (.ref C) = some (.type "type")) : Raises X (.ref C) := raises_own T.hs ty
theorem xc_exm {K : PySem.W.Frag} {C : Addr} {cls : Value} {b : Bool} (T : XC K C) (ty : PySem.W.typeIn K (.ref C) = some (.type "type")) (h : PySem.W.subIn K cls (.ref C) = some b) : PySem.W.exmOne K cls (.ref C) = some b := PySem.W.exm_ref T.hs T.hd ty h
section
variable {X : Cx} {CX : CXT} {C f : Addr} {k : Nat} {sp : Sp} {x : Str} {e : Expr} {es : List Expr} {te : TE} {ta : TA} {p pos : Pos} {fd : FuncData} {ps : List Str}
/-- X(e, ..), an own exception class with an own __init__, to be raised -/
theorem pmk_x {bmB : List Value} {B newId initId : String} (F : ExcBaseFacts B newId initId bmB) (q : xInB X.K C B newId = true) (kC : PySem.W.keepIn X.K (.ref C) = true) (iC : PySem.W.findIn X.K (.ref C) "__init__" = some (some (.ref f))) (tI : PySem.W.typeIn X.K (.ref f) = some (.type "function"))
    (F1 : FnOk X.prog X.w X.K X.mg X.base CX k f fd ps sp) (hr : Room (k + 1) X.A) (hb : Binds X.K fd ps []) (hps : ps.length ≤ 100) (hx : Passes CX X (fun _ _ _ => False)) (rs : Raises X (.ref C)) (hg : Gl X x) (hm : X.mg x = some (.ref C)) (ha : PA X (e :: es) ta)
    (hdb : (x == ("__debug__" : Str)) = false := by decide) (he : starEach (e :: es) X.env = (false, eval e X.env) :: starEach es X.env := by rfl) (hpl : (backTo pos (starEach es X.env)).any (·.1) = false := by rfl) :
    PMk X (.Call (.Name x p) (e :: es) [] pos) (tMkO C sp [] ta) := by
  intro pins s σ H Q I h
  obtain ⟨nm, N, qn, bs, bm, sn, sub, ab, col, dd, k0, k1, k2, k3, k5, hC, T, _⟩ := xIn_of q
  refine wpAny_Call_Name_kw (ld_glob I hg hm ?_ hdb)
  refine PySem.W.callWith_K (h₀ := X.base) I.ok.mod.kin kC (thn (ha.run pos pins s σ H _ I h) fun us s1 ⟨vs, H1, I1, r1, hz, q1⟩ => ⟨I1.kIn, ?_⟩) he hpl
  show wpAny _ _ (call (.ref C) us) _ _ _
  obtain ⟨hp, g, dr, tk, os⟩ := s1
  have hsz : hp.objs.size ≤ hp.objs.size + 1 := Nat.le_succ _
  have hn : H1 (hp.objs.size + 1) = none := I1.hok.fresh hsz
  have hq := q1 (hp.objs.size + 1) hn
  rw [List.append_nil] at hq
  have kk : ∀ b o, hp.get? b = some o → ((hp.push (PySem.W.kdv_tup us)).push (PySem.HandSPX.excO C hp.objs.size)).get? b = some o := fun b o e => Heap.get?_push_of_some _ (Heap.get?_push_of_some _ e)
  have hget : ((hp.push (PySem.W.kdv_tup us)).push (PySem.HandSPX.excO C hp.objs.size)).get? (hp.objs.size + 1) = some (PySem.HandSPX.excO C hp.objs.size) := by heap_get
  have I2 : Inv X pins σ (upd H1 (hp.objs.size + 1) (exo (hp.objs.size + 1) C none)) ⟨(hp.push (PySem.W.kdv_tup us)).push (PySem.HandSPX.excO C hp.objs.size), g, dr, tk, os⟩ :=
    I1.laid (t' := tk) (a := hp.objs.size + 1) (o := exo (hp.objs.size + 1) C none) (h' := (hp.push (PySem.W.kdv_tup us)).push (PySem.HandSPX.excO C hp.objs.size)) kk hsz (exo_ok hget)
  have r2 : Vals (V.ref (hp.objs.size + 1) :: vs) (Value.ref (hp.objs.size + 1) :: us) := .cons rfl r1
  have hl : (Value.ref (hp.objs.size + 1) :: us).length = ps.length := by
    rw [← r2.length]
    exact F1.len _ _ _ _ hq
  refine wpAny_call (x_call F T (I1.kIn _ _ hC) (PySem.W.looks_findIn I1.kIn iC) (fun self => PySem.W.bind_fn I1.kIn self tI) ?_
    (codeAny_mono (F1.run _ X.stack _ _ ⟨Value.ref (hp.objs.size + 1) :: us, []⟩ (Value.ref (hp.objs.size + 1) :: us) _ _ (fun _ _ _ => False) (hr.make C us []) (I2.env0.make C us [])
      (by have z := hb _ (Value.ref (hp.objs.size + 1) :: us) I2.kIn (by rw [List.append_nil]; exact hl); rw [List.append_nil] at z; exact z) r2 hq) fun r s' hq' => ?_))
  · have z := hl
    rw [List.length_cons] at z
    rw [sizeLine_eq]
    omega
  · cases r with
    | error er => exact hx pins σ _ _ er s' I2 hq'
    | ok fl =>
      cases fl with
      | ret u =>
        obtain ⟨v, H2, os2, bare2, un2, hok2, rv, ev, d, fs, ea, ed, hd1, q2⟩ := hq'
        subst ev
        obtain ⟨h2, g2, d2, t2, os'⟩ := s'
        exact ⟨rv, mk_end rs I1 hsz kk un2 hok2 os2 bare2 ea ed hd1 q2⟩
      | next => exact False.elim hq'
      | brk => exact False.elim hq'
      | cont => exact False.elim hq'
def tRaise (t : L2.St → Hp → XK → Prop) (W : WX) : TS := fun _ σ H => t σ H fun cls d H' => W cls d σ H'
theorem ps_raiseT {W : WX} {e : Expr} {t : L2.St → Hp → XK → Prop} {pos : Pos} (hc : X.calm = true) (tk : Takes X W) (he : PMk X e t) : PS X (.Raise (some e) none pos) (tRaise t W) := ps_raise hc tk he
/-- X('m') of a class without own __init__ -/
def tMkN (C : Addr) : L2.St → Hp → XK → Prop := fun _ H Q => Q (.ref C) none H
theorem pmk_n {bmB : List Value} {B newId initId : String} {m : Str} {j : Nat} {p2 : Pos} (F : ExcBaseFacts B newId initId bmB) (q : PySem.W.excIn X.K C bmB newId = true) (gC : X.mg x = some (.ref C)) (kC : PySem.W.keepIn X.K (.ref C) = true) (r : Raises X (.ref C)) (hg : Gl X x)
    (hdb : (x == ("__debug__" : Str)) = false := by decide) : PMk X (.Call (.Name x p) [.Constant (.str m) j p2] [] pos) (tMkN C) := pmk_own F q gC kC r hg hdb
end
/-- one clause with a name -/
def tTry (K : PySem.W.Frag) (c : Value) (i : Nat) (tb : WX → TS) (ts : Addr → Value → Option Addr → TS) (Wout : WX) : TS := fun D σ H => tb (wAs K c i ts Wout D) D σ H
theorem ps_tryT {X : Cx} {K : PySem.W.Frag} {x n : Str} {c : Value} {i : Nat} {body suite : List Stmt} {b₀ : Stmt} {np pos pos' : Pos} {tb : WX → TS} {ts : Addr → Value → Option Addr → TS} {Wout : WX} (hK : X.K = K) (hs : X.stack = X.env :: X.outer) (hf : X.env.frame = some X.env.locals) (hN : X.N.Nodup) (hi : X.N[i]? = some n) (hl : X.env.kindOf n = some .local) (hc : Names X x c) (tk : Takes X Wout)
    (hb : ∀ (W : WX) (pn : List (Addr × Obj)) (xe : Value → Shared → Prop), Takes (X.tr pn xe) W → PassesOwn (model X.prog X.w) X.A X.env xe → PSs (X.tr pn xe) body (tb W))
    (hu : ∀ (a : Addr) (oe : Obj) (cls : Value) (d : Option Addr) (pn : List (Addr × Obj)), Zc cls d oe → (∃ vs, oe.data = .fields vs) → PSs (X.suite a ((a, oe) :: pn)) (b₀ :: suite) (ts a cls d)) : PS X (.Try body [.ExceptHandler (some (.Name x np)) (some n) (b₀ :: suite) pos'] [] [] pos) (tTry K c i tb ts Wout) := by
  subst hK
  exact ps_try_as hs hf hN hi hl hc tk hb hu
end My

namespace My
open PySem PySem.Spec PyProof.Rows L2
/-! ### try with several clauses, each with or without a name -/
/-- an error that lies on the ground: at s, a of the class cls with the dict d -/
def Down (X : Cx) (pins : List (Addr × Obj)) (σ : L2.St) (H : Hp) (cls : Value) (d : Option Addr) (a : Addr) (s : Shared) : Prop :=
  ∃ (B : Heap) (sI : Shared), Inv X pins σ H sI ∧ (∀ b o, sI.heap.get? b = some o → b ∉ frs X.stack → B.get? b = some o) ∧ HandSPX.FlyingZ B (X.env :: X.outer) a (Zc cls d) s.heap ∧ sI.heap.UpToSlots s.heap ∧ H a = none ∧ s.os = sI.os ∧ AllBare s.gens
/-- a clause: its class, its name's slot, its suite by the error's address, class and dict -/
structure Cl where
  c : Value
  nm : Option Nat
  ts : Addr → Value → Option Addr → TS
def offE (D : Ends) (i : Nat) : Ends := { nx := fun σ' H' => D.nx (σ'.set i none) H', rt := D.rt, bk := fun σ' H' => D.bk (σ'.set i none) H', ct := fun σ' H' => D.ct (σ'.set i none) H' }
def Cl.go (l : Cl) (D : Ends) (a : Addr) (cls : Value) (d : Option Addr) (σ : L2.St) (H : Hp) : Prop := match l.nm with
  | none => l.ts a cls d D σ H
  | some i => l.ts a cls d (offE D i) (σ.set i (some (.ref a))) H
def wCls (K : PySem.W.Frag) (Wout : WX) (D : Ends) : List Cl → WX
  | [] => Wout
  | l :: r => fun cls d σ H => ∃ b, PySem.W.exmOne K cls l.c = some b ∧ if b = true then ∀ a, H a = none → l.go D a cls d σ H else wCls K Wout D r cls d σ H
section
variable {X : Cx} {pins : List (Addr × Obj)} {σ : L2.St} {H : Hp} {cls : Value} {d : Option Addr} {a : Addr} {s : Shared}
theorem Down.inv (h : Down X pins σ H cls d a s) : Inv X pins σ H s := by
  obtain ⟨B, sI, I, nb, fl, up, na, os, ag⟩ := h
  exact I.landed nb fl.1 up os ag
theorem Down.na (h : Down X pins σ H cls d a s) : H a = none := by
  obtain ⟨B, sI, I, nb, fl, up, na, os, ag⟩ := h
  exact na
/-- in the suite -/
theorem Down.sui (hs : X.stack = X.env :: X.outer) (hf : X.env.frame = some X.env.locals) (h : Down X pins σ H cls d a s) : ∃ oe, s.heap.get? a = some oe ∧ Zc cls d oe ∧ (∃ vs, oe.data = .fields vs) ∧ Inv (X.suite a ((a, oe) :: (X.pn ++ pins))) [] σ H s := by
  have J := h.inv
  obtain ⟨B, sI, I, nb, fl, up, na, os, ag⟩ := h
  obtain ⟨oe, us, he, hz, hd⟩ := fl.there
  have out : a ∉ frs (X.env :: X.outer) := fun hm => by
    obtain ⟨_, o, e, n⟩ := fl.2.2.1.mem hm
    rw [he] at e
    cases e
    exact n _ hd
  refine ⟨oe, he, hz, ⟨us, hd⟩, J.suite he hd na (fun z => out ?_) fun hm => out ?_⟩
  · exact List.mem_filterMap.mpr ⟨X.env, .head _, by rw [hf, z]⟩
  · obtain ⟨e, he, q⟩ := List.mem_filterMap.mp hm
    exact List.mem_filterMap.mpr ⟨e, .tail _ he, q⟩
theorem Down.again {A : Around} {E : Value → Shared → Prop} {Q : Unit → Shared → Prop} (h : Down X pins σ H cls d a s) (q : ∀ s', Down X pins σ H cls d a s' → Q () s') : wpAny (model X.prog X.w) A (setFlight (.ref a) none) Q E s := by
  obtain ⟨B, sI, I, nb, fl, up, na, os, ag⟩ := h
  exact HandSPX.lands_againZ fl fun h' fl' up' => q _ ⟨B, sI, I, nb, fl', up.trans up', na, os, ag⟩
/-- no clause takes it -/
theorem Down.out {W : WX} {D : Ends} (hs : X.stack = X.env :: X.outer) (hf : X.env.frame = some X.env.locals) (h : Down X pins σ H cls d a s) (tk : Takes X W) (w : W cls d σ H) : wpAny (model X.prog X.w) X.A (handleBy (.ref a) X.env []) (SP X pins D) X.xe s := by
  obtain ⟨B, sI, I, nb, fl, up, na, os, ag⟩ := h
  refine wpAny_handleBy_nil ?_
  have fin : wpAny (model X.prog X.w) X.A (setFlight (.ref a) X.env.frame) (fun _ s4 => wpAny (model X.prog X.w) X.A (throw (.ref a) : Sem Flow) (SP X pins D) X.xe s4) X.xe s := by
    rw [hf]
    refine HandSPX.setFlight_upZ fl fun h4 hh4 up4 => wpAny_throw (tk _ _ ?_)
    exact ⟨a, B, sI, pins, σ, H, cls, d, rfl, I, nb, up.trans up4, .inr (.inr (by rw [hs]; exact hh4)), na, os, ag, w⟩
  obtain ⟨_, _, _, _, _, _, _, _, at_, _, flds, fst, _⟩ := id fl
  unfold PySem.passOn
  refine wpAny_bind (wpAny_field at_ flds fst ?_)
  rw [if_neg (by simp)]
  first | exact wpAny_bind (wpAny_pure (wpAny_bind fin)) | exact wpAny_bind fin
/-- the suite's end is that of the try -/
theorem sp_unsuite {q : Addr × Obj} {D : Ends} {f : Flow} (ok : X.Ok) (h : SP (X.suite a (q :: (X.pn ++ pins))) [] D f s) : SP X pins D f s := by
  cases f with
  | next => obtain ⟨σ6, H6, S, z⟩ := h; exact ⟨_, _, S.unsuite ok, z⟩
  | brk => obtain ⟨σ6, H6, S, z⟩ := h; exact ⟨_, _, S.unsuite ok, z⟩
  | cont => obtain ⟨σ6, H6, S, z⟩ := h; exact ⟨_, _, S.unsuite ok, z⟩
  | ret u => obtain ⟨v, σ6, H6, S, r, z⟩ := h; exact ⟨_, _, _, S.unsuite ok, r, z⟩
theorem sp_untry {xe : Value → Shared → Prop} {D : Ends} {f : Flow} (ok : X.Ok) (h : SP (X.tr (X.pn ++ pins) xe) [] D f s) : SP X pins D f s := by
  cases f with
  | next => obtain ⟨σ6, H6, S, z⟩ := h; exact ⟨_, _, S.ofTry ok, z⟩
  | brk => obtain ⟨σ6, H6, S, z⟩ := h; exact ⟨_, _, S.ofTry ok, z⟩
  | cont => obtain ⟨σ6, H6, S, z⟩ := h; exact ⟨_, _, S.ofTry ok, z⟩
  | ret u => obtain ⟨v, σ6, H6, S, r, z⟩ := h; exact ⟨_, _, _, S.ofTry ok, r, z⟩
/-- behind a named clause: the name is gone -/
theorem sp_gone {i : Nat} {n : Str} {pos : Pos} {D : Ends} {f : Flow} (hN : X.N.Nodup) (hi : X.N[i]? = some n) (hl : X.env.kindOf n = some .local) (h : SP X pins (offE D i) f s) : wpAny (model X.prog X.w) X.A (do bindName X.env n .none; unbindBehindTheSuite X.env n pos) (fun _ s' => SP X pins D f s') X.xe s := by
  cases f with
  | next => obtain ⟨σ6, H6, S, z⟩ := h; exact gone_ok S hN hi hl fun s7 J => ⟨_, _, J, z⟩
  | brk => obtain ⟨σ6, H6, S, z⟩ := h; exact gone_ok S hN hi hl fun s7 J => ⟨_, _, J, z⟩
  | cont => obtain ⟨σ6, H6, S, z⟩ := h; exact gone_ok S hN hi hl fun s7 J => ⟨_, _, J, z⟩
  | ret u => obtain ⟨v, σ6, H6, S, r, z⟩ := h; exact gone_ok S hN hi hl fun s7 J => ⟨_, _, _, J, r, z⟩
end
def SuOk (X : Cx) (b : List Stmt) (ts : Addr → Value → Option Addr → TS) : Prop := ∀ (a : Addr) (oe : Obj) (cls : Value) (d : Option Addr) (pn : List (Addr × Obj)), Zc cls d oe → (∃ vs, oe.data = .fields vs) → PSs (X.suite a ((a, oe) :: pn)) b (ts a cls d)
inductive ClsOk (X : Cx) : List ExceptHandler → List Cl → Prop
  | nil : ClsOk X [] []
  | bare {x : Str} {c : Value} {ts : Addr → Value → Option Addr → TS} {b : Stmt} {bs : List Stmt} {np pos : Pos} {hds : List ExceptHandler} {l : List Cl} (hc : Names X x c) (hu : SuOk X (b :: bs) ts) (r : ClsOk X hds l) : ClsOk X (.ExceptHandler (some (.Name x np)) none (b :: bs) pos :: hds) (⟨c, none, ts⟩ :: l)
  | named {x n : Str} {i : Nat} {c : Value} {ts : Addr → Value → Option Addr → TS} {b : Stmt} {bs : List Stmt} {np pos : Pos} {hds : List ExceptHandler} {l : List Cl} (hi : X.N[i]? = some n) (hl : X.env.kindOf n = some .local) (hc : Names X x c) (hu : SuOk X (b :: bs) ts) (r : ClsOk X hds l) : ClsOk X (.ExceptHandler (some (.Name x np)) (some n) (b :: bs) pos :: hds) (⟨c, some i, ts⟩ :: l)
section
variable {X : Cx} {pins : List (Addr × Obj)} {σ : L2.St} {H : Hp} {cls : Value} {d : Option Addr} {a : Addr} {W : WX} {D : Ends}
theorem Down.handle (hs : X.stack = X.env :: X.outer) (hf : X.env.frame = some X.env.locals) (hN : X.N.Nodup) (tk : Takes X W) {hds : List ExceptHandler} {ls : List Cl} (k : ClsOk X hds ls) : ∀ {s : Shared}, Down X pins σ H cls d a s → wCls X.K W D ls cls d σ H → wpAny (model X.prog X.w) X.A (handleBy (.ref a) X.env hds) (SP X pins D) X.xe s := by
  have ask : ∀ {s : Shared} {x : Str} {c : Value} {b : Bool} {np : Pos} {Q : Bool → Shared → Prop} {E : Value → Shared → Prop}, Down X pins σ H cls d a s → Names X x c → PySem.W.exmOne X.K cls c = some b → Q b s →
      wpAny (model X.prog X.w) (X.A.mark (some (.ref a))) (eval (.Name x np) X.env) (fun c s₁ => wpAny (model X.prog X.w) (X.A.mark (some (.ref a))) (excMatches (.ref a) c) Q E s₁) E s := fun {s x c b np Q E} h hc hb q => by
    obtain ⟨oe, he, hz, _, S⟩ := h.sui hs hf
    have lk : PySem.W.Looks (model X.prog X.w) s.heap (typeOf (.ref a)) cls := fun A Q E s k q => wpAny_typeOf_ref (k _ _ he) (by rw [hz.1]; exact q)
    have fin := (PySem.W.exm_one (M := model X.prog X.w) h.inv.kIn lk hb).here (A := X.A.mark (some (.ref a))) (E := E) q
    obtain ⟨hg, hd, hm | ⟨hm, hv, hn⟩⟩ := hc
    · exact ld_glob S hg hm fin hd
    · exact ld_blt S hg hm hv fin hn hd
  induction k with
  | nil => exact fun h w => h.out hs hf tk w
  | @bare x c ts b bs np pos hds l hc hu r ih =>
    intro s h ⟨v, hv, w⟩
    refine wpAny_handleBy_cons (codeAny_handlers_test (ask h hc hv ?_)) (by intro q; cases q)
    cases v with
    | false => exact ih h w
    | true =>
      refine codeAny_handlers_suite (h.again fun s' h' => ?_)
      obtain ⟨oe, he, hz, hd, S⟩ := h'.sui hs hf
      exact wpAny_mono ((hu a oe cls d (X.pn ++ pins) hz hd).run [] _ _ H _ S (w a h.na)) (fun f s6 q => sp_unsuite h.inv.ok q) fun _ _ z => False.elim z
  | @named x n i c ts b bs np pos hds l hi hl hc hu r ih =>
    intro s h ⟨v, hv, w⟩
    refine wpAny_handleBy_cons (codeAny_handlers_test (ask h hc hv ?_)) (by intro q; cases q)
    cases v with
    | false => exact ih h w
    | true =>
      refine codeAny_handlers_suite_as (h.again fun s' h' => ?_)
      obtain ⟨oe, he, hz, hd, S⟩ := h'.sui hs hf
      refine store_ok (X := X.suite a ((a, oe) :: (X.pn ++ pins))) (v := .ref a) S hN hi (.inl hl) rfl (fun s5 S5 => ?_) (.inr hl)
      exact wpAny_mono ((hu a oe cls d (X.pn ++ pins) hz hd).run [] s5 _ H _ S5 (w a h.na)) (fun f s6 q => sp_gone hN hi hl (sp_unsuite h.inv.ok q)) fun _ _ z => False.elim z
def tTryM (K : PySem.W.Frag) (tb : WX → TS) (ls : List Cl) (W : WX) : TS := fun D σ H => tb (wCls K W D ls) D σ H
theorem ps_tryM {K : PySem.W.Frag} {body : List Stmt} {h₀ : ExceptHandler} {hds : List ExceptHandler} {ls : List Cl} {tb : WX → TS} {pos : Pos} (hK : X.K = K) (hs : X.stack = X.env :: X.outer) (hf : X.env.frame = some X.env.locals) (hN : X.N.Nodup) (tk : Takes X W)
    (hb : ∀ (W : WX) (pn : List (Addr × Obj)) (xe : Value → Shared → Prop), Takes (X.tr pn xe) W → PassesOwn (model X.prog X.w) X.A X.env xe → PSs (X.tr pn xe) body (tb W)) (k : ClsOk X (h₀ :: hds) ls) : PS X (.Try body (h₀ :: hds) [] [] pos) (tTryM K tb ls W) := by
  subst hK
  refine ⟨fun pins s σ H D I h => wpAny_Try_except ?_⟩
  have ok := I.ok
  refine wpAny_mono ((hb (wCls X.K W D ls) (X.pn ++ pins) (fun e s₁ => wpAny (model X.prog X.w) X.A (noteFrame e X.env) (fun _ s₂ => wpAny (model X.prog X.w) X.A (setFlight e none) (fun _ s₃ =>
    wpAny (model X.prog X.w) X.A (handleBy e X.env (h₀ :: hds)) (SP X pins D) X.xe s₃) X.xe s₂) X.xe s₁) (fun u s' xx => ?_) PassesOwn.looking).run [] s σ H D (I.toTry _) h) (fun f s1 q => ?_) fun e s1 he => he
  · obtain ⟨a, B, sI, _, σ', H', cls, d, rfl, J, nb, up, sky, na, os, ag, w⟩ := xx
    rw [show (X.tr (X.pn ++ pins) _).stack = X.env :: X.outer from hs] at sky
    exact Sky.land Zc.steady (by rw [ok.frames, hs]) hf sky fun h3 fl up3 => Down.handle hs hf hN tk k ⟨B, sI, J.ofTry ok, nb, fl, up.trans up3, na, os, ag⟩ w
  · have z := sp_untry ok q
    cases f with
    | next => exact wpAny_execs_nil z
    | ret u => exact z
    | brk => exact z
    | cont => exact z
end
end My

namespace My
open PySem PySem.Spec PyProof.Rows L2
/-! ### lambdas without parameters, handed to a def -/
theorem takes_len {X : Cx} {W : WX} (tk : Takes X W) : Takes X (fun cls d σ H => σ.length = X.N.length → W cls d σ H) := fun u s' ⟨a, B, sI, pins, σ, H, cls, d, e, I, nb, up, sky, na, os, ag, w⟩ => tk u s' ⟨a, B, sI, pins, σ, H, cls, d, e, I, nb, up, sky, na, os, ag, w I.len⟩
/-- x(), in the def that got the lambda -/
def tAct (n : Nat) (f c' : Addr) (q : Str) (tl : XK → Hp → VK → Prop) (W : WX) : TE := fun σ H Q => ∃ E : XK, (∀ cls d σ' H', E cls d H' → σ'.length = n → W cls d σ' H') ∧ σ[0]? = some (some (.ref f)) ∧ H c' = some (LamX.CodeO c' q) ∧ tl E H Q
theorem pe_actM {X : Cx} {n : Nat} {f c' : Addr} {q : Str} {tl : XK → Hp → VK → Prop} {W : WX} {e : Expr} (hn : X.N.length = n) (tk : Takes X W)
    (act : ∀ (W : WX) (E : XK), Takes X W → (∀ cls d σ' H', E cls d H' → W cls d σ' H') → PE X e (fun σZ HZ Q => σZ[0]? = some (some (.ref f)) ∧ HZ c' = some (LamX.CodeO c' q) ∧ tl E HZ Q)) : PE X e (tAct n f c' q tl W) := by
  refine ⟨fun pins s σ H Q I h => ?_⟩
  obtain ⟨E, hW, h1, h2, h3⟩ := h
  exact (act _ E (takes_len tk) fun cls d σ' H' hE hl => hW cls d σ' H' hE (hl.trans hn)).run pins s σ H Q I ⟨h1, h2, h3⟩
/-- the table at P: where each code object lies, and that it bears the name q -/
def TabM (q : Str) (H : Hp) (P : Addr) (ps : Array Value) : Prop := H P = some (.tbl ps) ∧ TriplesOk ps.toList ∧ ∀ (pos : Pos) (cv : Value), codeAmong pos ps.toList = some cv → ∃ c, cv = .ref c ∧ H c = some (LamX.CodeO c q)
/-- what making a lambda does: nothing new, or a new code object at c and a new row in the table -/
def LamTo (q : Str) (P : Addr) (ps : Array Value) (H : Hp) (c : Addr) (H1 : Hp) : Prop := (H1 = H ∧ ∃ pos, codeAmong pos ps.toList = some (.ref c)) ∨ (H c = none ∧ ∃ pos : Pos, H1 = upd (upd H P (.tbl (ps ++ #[rawInt pos.line, rawInt pos.col, .ref c]))) c (LamX.CodeO c q))
section
variable {X : Cx} {H : Hp} {s : Shared} {σ : L2.St} {pins : List (Addr × Obj)}
theorem out_frs (I : Inv X pins σ H s) {f : Addr} (hf : s.heap.objs.size ≤ f) : f ∉ frs X.stack := fun z => by
  rcases List.mem_cons.mp (I.stkSub _ z) with e | up
  · have := I.lt
    rw [← e] at this
    exact absurd this (Nat.not_lt.mpr hf)
  · exact I.nofs hf up
theorem lam_mk {c P : Addr} {ps : Array Value} {params : Arguments} {body : Expr} {scope : Scope} {pos : Pos} {E Q : Value → Shared → Prop} (I : Inv X pins σ H s) (TB : LamX.TabB X.base X.mg c P) (hcode : X.env.code = .ref c) (hT : TabM (X.env.qual ++ "<lambda>") H P ps)
    (hdef : defaultsOf params X.env = ([], [])) (hfree : ∀ y ∈ scope.names, y.2 = .free → ∃ c, X.env.cells.lookup y.1 = some c)
    (h : ∀ (f c' : Addr) (pm ctv : Value) (H1 : Hp) (s' : Shared), Inv X pins σ H1 s' → LamTo (X.env.qual ++ "<lambda>") P ps H c' H1 → H1 c' = some (LamX.CodeO c' (X.env.qual ++ "<lambda>")) →
      s'.heap.get? f = some (PySem.W.kla_obj "<lambda>" (X.env.qual ++ "<lambda>") params body scope (cloFrom X.env.cells scope.names []) pm c' ctv) → H1 f = none → f ∉ frs X.stack → Q (.ref f) s') : wpAny (model X.prog X.w) X.A (eval (.Lambda params body scope pos) X.env) Q E s := by
  obtain ⟨hP, ht, ha⟩ := hT
  have hP2 : s.heap.get? P = some { cls := .none, data := .fields ps } := I.hok P _ hP
  have bP := TB.bm.keeps I.bk
  apply PySem.W.kla_eval hdef
  rcases hc : codeAmong pos ps.toList with _ | cv
  · refine PySem.W.kla_makeFunction (mg := X.mg) (c := c) (P := P) (ps := ps) (closure_ok hfree) I.ok.glob (I.mod.glob.keeps I.bk) hcode (TB.code.keeps I.bk) hP2 ht hc TB.gP bP fun c' ctv h' tk hx hge hlt hrec htb => ?_
    obtain ⟨_, oc, vs, t, e2, hoc, hd, hv⟩ := hrec
    cases e2
    have hz : s.heap.objs.size ≤ h'.objs.size := Nat.le_trans hge (Nat.le_of_lt hlt)
    refine h h'.objs.size c' _ ctv _ _ (LamX.inv_table (t' := tk) (more := #[rawInt pos.line, rawInt pos.col, .ref c']) (h' := h'.push (PySem.W.kla_obj "<lambda>" (X.env.qual ++ "<lambda>") params body scope (cloFrom X.env.cells scope.names []) ((X.mg "__name__").getD .none) c' ctv)) I hP
      (fun b o hb e => Heap.get?_push_of_some _ (hx b o hb e)) (Heap.get?_push_of_some _ htb) hge ⟨oc, vs, t, Heap.get?_push_of_some _ hoc, hd, hv⟩) (.inr ⟨I.hok.fresh hge, pos, rfl⟩) upd_same (Heap.get?_push_size _ rfl) ?_ (out_frs I hz)
    have lP := Heap.lt_size hP2
    rw [upd_ne (Nat.ne_of_gt hlt), upd_ne (Nat.ne_of_gt (Nat.lt_of_lt_of_le lP hz))]
    exact I.hok.fresh hz
  · obtain ⟨c', rfl, hco⟩ := ha pos cv hc
    exact PySem.W.kla_makeFunctionHit (mg := X.mg) (c := c) (P := P) (ps := ps) (closure_ok hfree) I.ok.glob (I.mod.glob.keeps I.bk) hcode (TB.code.keeps I.bk) hP2 ht hc bP fun ctv h' tk hx hz =>
      h h'.objs.size c' _ ctv H _ (I.kept fun b o e => Heap.get?_push_of_some _ (hx b o e)) (.inl ⟨rfl, pos, hc⟩) hco (Heap.get?_push_size _ rfl) (I.hok.fresh hz) (out_frs I hz)
def tLamM (q : Str) (P : Addr) (TT : (XK → Hp → VK → Prop) → Hp → VK → Prop) (t : XK → TE) : TE := fun σ H Q => ∃ ps, TabM q H P ps ∧ ∀ c H1, LamTo q P ps H c H1 → H1 c = some (LamX.CodeO c q) → TT (fun E H' Q' => t E σ H' Q') H1 Q
/-- x(lambda: body) -/
theorem pe_lamM {TT : (XK → Hp → VK → Prop) → Hp → VK → Prop} {q x a : Str} {g c P : Addr} {k : Nat} {pg : Arguments} {bg : List Stmt} {sg : Scope} {dV kV doc pm cdv ct oc : Value} {an od : Option Addr} {osl : Array (Option Value)} {Ng : List Str} {params : Arguments} {body : Expr} {scope : Scope} {t : XK → TE} {p lpos pos : Pos}
    (hg : Gl X x) (hm : X.mg x = some (.ref g)) (hk : PySem.W.keepIn X.K (.ref g) = true) (lk : X.K.lookup g = some ⟨oc, od, .func (PySem.W.fnOf x x pg bg sg dV kV doc pm an cdv ct), osl⟩) (hcg : PySem.W.codeIn X.K cdv x = true) (hb : L2.Binds X.K (PySem.W.fnOf x x pg bg sg dV kV doc pm an cdv ct) [a] []) (Sg : FnScope Ng [a] sg) (hNg : Ng[0]? = some a) (hva : Vis sg a)
    (hG : LamX.GivesTo X Ng x sg g cdv bg a q TT) (TB : LamX.TabB X.base X.mg c P) (hcode : X.env.code = .ref c) (hr : Room (k + 2) X.A) (L : LamX.LamS X.env.scope scope) (hdef : defaultsOf params X.env = ([], []))
    (hbind : ∀ (n : Str) (cl : List (Str × Addr)) (pm cv ct2 : Value), bindArgs (PySem.W.kla_fn "<lambda>" n params body scope cl pm cv ct2) ⟨[], []⟩ = pure [])
    (hbody : ∀ (A : Around) (outer : List Env) (s : Shared) (H : Hp) (E : XK) (f c' : Addr), Room k (A.deeper (LamX.lamEnv X scope s.heap.objs.size f c')) → PE (LamX.lamCx X A outer s H E scope f c') body (t E)) (hq : X.env.qual ++ "<lambda>" = q := by rfl)
    (hdb : (x == ("__debug__" : Str)) = false := by decide) (hd : (a == ("__debug__" : Str)) = false := by decide) (hcd : (a == ("__classdict__" : Str)) = false := by decide) : PE X (.Call (.Name x p) [.Lambda params body scope lpos] [] pos) (tLamM q P TT t) := by
  subst hq
  refine ⟨fun pins s σ H Q I h => ?_⟩
  obtain ⟨ps, hT, h⟩ := h
  refine wpAny_Call_Name_kw (ld_glob I hg hm (PySem.W.callWith_K (h₀ := X.base) I.ok.mod.kin hk ?_ (by rfl) (by rfl)) hdb)
  change wpAny _ _ (spliced ((false, eval (.Lambda params body scope lpos) X.env) :: backTo pos (starEach [] X.env))) _ _ s
  refine Calls.spliced_cons (lam_mk I TB hcode hT hdef (L.has I.ok) fun f c' pm' ctv H1 s' J st hco hf hfn hfr => Calls.spliced_nil ⟨J.kIn, ?_⟩)
  have run : codeAny (model X.prog X.w) X.A (.call (.ref g) ⟨[.ref f], []⟩) (CR C8.CX0 X.stack X.prog X.w H1 s' Q C8.E0) s' := by
    refine LamX.run_ofS (N := Ng) (ps := [a]) (us := [.ref f]) (vs := [.ref f]) lk hcg Sg hr J.env0 (hb s' [.ref f] J.kIn rfl) (.cons rfl .nil) rfl fun hr2 => ?_
    obtain ⟨t2, h2, q2⟩ := hG f c' s' H1 Q (fun E H' Q' => t E σ H' Q') (fun W pn xe E p1 p2 tk hW => LamX.pe_act (i := 0) J L hf hfn hfr (hbind _ _ _ _ _) tk hW hr2 (fun A outer s H hr3 => hbody A outer s H E f c' hr3) hNg hva hd hcd) hco (h c' H1 st hco)
    exact ⟨t2, h2.nox, q2⟩
  refine wpAny_call (codeAny_mono run fun out s2 hq => ?_)
  cases out with
  | error _ => exact (show False from hq).elim
  | ok fl => cases fl with
    | ret u => exact J.after hq
    | next => exact False.elim hq
    | brk => exact False.elim hq
    | cont => exact False.elim hq
end
/-! ### a def whose code object is known -/
structure FunC (K : PySem.W.Frag) (c : Addr) (x qual : Str) (st : Stmt) (f : Addr) (fd : FuncData) : Prop where
  ex : ∃ (oc : Value) (od : Option Addr) (kV doc pm : Value) (an : Option Addr) (ct : Value) (osl : Array (Option Value)), fd = PySem.W.fnOf x qual (defArgs st) (defBody st) (defScope st) .none kV doc pm an (.ref c) ct ∧ K.lookup f = some ⟨oc, od, .func fd, osl⟩ ∧ PySem.W.codeIn K (.ref c) qual = true
  keep : PySem.W.keepIn K (.ref f) = true
section
variable {P : Program} {w : World} {K : PySem.W.Frag} {mg : Str → Option Value} {base : Heap}
theorem FunC.ok {c : Addr} {x qual : Str} {st : Stmt} {f : Addr} {fd : FuncData} {N ps : List Str} {k : Nat} {sp : Sp} (F : FunC K c x qual st f fd) (S : FnScope N ps (defScope st)) (len : ∀ vs H Q E, sp vs H Q E → vs.length = ps.length)
    (hb : ∀ (A : Around) (outer : List Env) (s : Shared) (H : Hp) (vs : List V) (Q : VK) (E : XK), Room k (A.deeper (envOfC qual (defScope st) s.heap.objs.size f (.ref c))) → sp vs H Q E →
      ∃ t, PSs (cxOf CX0 P w K mg base N qual (defScope st) f (.ref c) A outer s H E).nox (defBody st) t ∧ t { nx := fun _ H' => Q .non H', rt := Q } (start N vs) H) : FnOk P w K mg base CX0 (k + 1) f fd ps sp := by
  obtain ⟨oc, od, kV, doc, pm, an, ct, osl, rfl, lk, hcd⟩ := F.ex
  exact fn_of lk hcd S len fun A outer s H vs Q E room sp_ => by
    obtain ⟨t, h, q⟩ := hb A outer s H vs Q E room sp_
    exact ⟨t, h.nox, q⟩
end
section
variable {X : Cx}
/-- x(lambda: body), by what is known of x -/
theorem pe_lamF {TT : (XK → Hp → VK → Prop) → Hp → VK → Prop} {q x a : Str} {st : Stmt} {g c P : Addr} {fd : FuncData} {k : Nat} {Ng : List Str} {params : Arguments} {body : Expr} {scope : Scope} {t : XK → TE} {p lpos pos : Pos} (hg : Gl X x) (hm : X.mg x = some (.ref g)) (F : Fun X.K x x st g fd) (hb : L2.Binds X.K fd [a] []) (Sg : FnScope Ng [a] (defScope st)) (hNg : Ng[0]? = some a) (hva : Vis (defScope st) a)
    (hG : ∀ cdv : Value, LamX.GivesTo X Ng x (defScope st) g cdv (defBody st) a q TT) (TB : LamX.TabB X.base X.mg c P) (hcode : X.env.code = .ref c) (hr : Room (k + 2) X.A) (L : LamX.LamS X.env.scope scope) (hdef : defaultsOf params X.env = ([], []))
    (hbind : ∀ (n : Str) (cl : List (Str × Addr)) (pm cv ct2 : Value), bindArgs (PySem.W.kla_fn "<lambda>" n params body scope cl pm cv ct2) ⟨[], []⟩ = pure [])
    (hbody : ∀ (A : Around) (outer : List Env) (s : Shared) (H : Hp) (E : XK) (f c' : Addr), Room k (A.deeper (LamX.lamEnv X scope s.heap.objs.size f c')) → PE (LamX.lamCx X A outer s H E scope f c') body (t E)) (hq : X.env.qual ++ "<lambda>" = q := by rfl)
    (hdb : (x == ("__debug__" : Str)) = false := by decide) (hd : (a == ("__debug__" : Str)) = false := by decide) (hcd : (a == ("__classdict__" : Str)) = false := by decide) : PE X (.Call (.Name x p) [.Lambda params body scope lpos] [] pos) (tLamM q P TT t) := by
  obtain ⟨oc, od, kV, doc, pm, an, cdv, ct, osl, rfl, lk, hcd2⟩ := F.ex
  exact pe_lamM hg hm F.kp lk hcd2 hb Sg hNg hva (hG cdv) TB hcode hr L hdef hbind hbody hq hdb hd hcd
end
end My

namespace My
open PySem PySem.Spec PyProof.Rows L2
/-! ### texts in parts: split, lstrip, x[i], x[i:j], x <= y -/
theorem asc_iff {s : Str} : asc s = true ↔ ∀ c ∈ s.cps.toList, c < 128 := by
  unfold asc
  rw [← Array.all_toList, List.all_eq_true]
  exact ⟨fun h c hc => of_decide_eq_true (h c hc), fun h c hc => decide_eq_true (h c hc)⟩
theorem strG_sub {s t : Str} (h : strG s) (hl : t.length ≤ s.length) (hc : ∀ c ∈ t.cps.toList, c ∈ s.cps.toList) : strG t := ⟨Nat.le_trans hl h.1, asc_iff.mpr fun c z => asc_iff.mp h.2 c (hc c z)⟩
theorem spl_mem {b : List Nat} : ∀ {a : List Nat} {k : Nat} {acc p : List Nat}, p ∈ TL.spl b k acc a → p.length ≤ acc.length + a.length ∧ ∀ c ∈ p, c ∈ acc ∨ c ∈ a := by
  intro a
  induction a with
  | nil =>
    intro k acc p h
    rw [TL.spl_nil] at h
    rw [List.mem_singleton.mp h]
    exact ⟨Nat.le_add_right _ _, fun c hc => .inl hc⟩
  | cons x r ih =>
    intro k acc p h
    cases k with
    | zero =>
      have h' : p ∈ (if TL.pre b (x :: r) = true then acc :: TL.spl b (b.length - 1) [] r else TL.spl b 0 (acc ++ [x]) r) := h
      split at h'
      · rcases List.mem_cons.mp h' with rfl | z
        · exact ⟨Nat.le_add_right _ _, fun c hc => .inl hc⟩
        · obtain ⟨h1, h2⟩ := ih z
          refine ⟨by rw [List.length_nil] at h1; rw [List.length_cons]; omega, fun c hc => (h2 c hc).elim (fun z => nomatch z) fun z => .inr (.tail _ z)⟩
      · obtain ⟨h1, h2⟩ := ih h'
        refine ⟨by rw [List.length_append] at h1; simp only [List.length_cons, List.length_nil] at h1 ⊢; omega, fun c hc => (h2 c hc).elim (fun z => ?_) fun z => .inr (.tail _ z)⟩
        rcases List.mem_append.mp z with z | z
        · exact .inl z
        · rw [List.mem_singleton.mp z]; exact .inr (.head _)
    | succ k =>
      obtain ⟨h1, h2⟩ := ih (show p ∈ TL.spl b k acc r from h)
      exact ⟨by rw [List.length_cons]; omega, fun c hc => (h2 c hc).imp_right (.tail _)⟩
theorem S_tl (s : Str) : SX.S (TL.tl s) = s := TL.ext_tl rfl
theorem split_tl {s t : Str} (ht : (t.length == 0) = false) (hg : strG t) : Txt.split s t = (TL.spl (TL.tl t) 0 [] (TL.tl s)).map SX.S := by
  have hne : TL.tl t ≠ [] := fun z => by
    have : t.length = 0 := by
      show t.cps.size = 0
      rw [← Array.length_toList]
      exact congrArg List.length z
    rw [this] at ht
    cases ht
  have hk : (TL.tl t).all (· < 256) = true := List.all_eq_true.mpr fun c hc => decide_eq_true (Nat.lt_trans (asc_iff.mp hg.2 c hc) (by decide))
  have e := SX.split_S (a := TL.tl s) hne hk
  rw [S_tl, S_tl] at e
  exact e
theorem split_G {s t : Str} (hs : strG s) (ht : (t.length == 0) = false) (hg : strG t) : ∀ y ∈ Txt.split s t, strG y := fun y hy => by
  rw [split_tl ht hg] at hy
  obtain ⟨p, hp, rfl⟩ := List.mem_map.mp hy
  obtain ⟨h1, h2⟩ := spl_mem hp
  refine strG_sub hs ?_ fun c hc => (h2 c hc).elim (fun z => nomatch z) id
  have e1 : (SX.S p).length = p.length := SX.S_len p
  have e2 : s.length = (TL.tl s).length := (Array.length_toList).symm
  rw [e1, e2]
  rw [List.length_nil] at h1
  omega
section
variable {K : PySem.W.Frag} [Xg K] {δ : Store} {ta tb te : TE} {tr : TA} {Φ : Dt → Store → Prop} {Ψ : List Dt → Store → Prop}
theorem rpl_strs {A : List Addr} {H : Hp} : ∀ {ys : List Str}, (∀ y ∈ ys, strG y) → RpL K A H (ys.map V.str) (strsD ys)
  | [], _ => .nil
  | y :: ys, h => .cons (.str (h y (.head _))) (rpl_strs fun z hz => h z (.tail _ hz))
def LSplit (s : Str) (ds : List Dt) (P : List Str → Prop) : Prop := ∃ t, ds = [.str t] ∧ (t.length == 0) = false ∧ P (Txt.split s t)
theorem lf_split {s t : Str} {P : List Str → Prop} (h : (t.length == 0) = false) (q : P (Txt.split s t)) : LSplit s [.str t] P := ⟨t, rfl, h, q⟩
theorem wn_split (q : W K te δ fun a δ1 => LS1 a fun s => Wa K tr δ1 fun ds δ2 => LSplit s ds fun ys => Ψ (strsD ys) δ2) : Wn K (tBM K "str" wSplit te tr) δ Ψ := fun M L σ H I Q k => q M L σ H I _ fun v a δ1 H1 I1 x1 hv ⟨s, hs, q1⟩ => by
  subst hs
  obtain ⟨rfl, hg⟩ := hv.inv_str
  refine ⟨rfl, q1 M L σ H1 I1 _ fun vs ds δ2 H2 I2 x2 hvs ⟨t, e1, ht, q2⟩ => ?_⟩
  subst e1
  cases hvs with
  | cons h tl =>
    cases tl
    obtain ⟨rfl, hgt⟩ := h.inv_str
    have s1 := sizeLine_eq
    have s2 := hg.1
    exact ⟨s, t, rfl, rfl, ht, by omega, fun p hp => k p _ _ δ2 H2 I2 (x1.trans x2) hp (rpl_strs (split_G hg ht hgt)) q2⟩
theorem y_split (q : W K te δ fun a δ1 => LS1 a fun s => Wa K tr δ1 fun ds δ2 => LSplit s ds fun ys => Φ (.lst (strsD ys)) δ2) : W K (tBM K "str" wSplit te tr) δ Φ := w_of_n (wn_split q)
/-- x.lstrip(signs) -/
def LLstC (s : Str) (ds : List Dt) (P : Str → Prop) : Prop := ∃ t, ds = [.str t] ∧ P (Txt.lstripChars s t)
theorem lf_lstC {s t : Str} {P : Str → Prop} (q : P (Txt.lstripChars s t)) : LLstC s [.str t] P := ⟨t, rfl, q⟩
theorem lst_G {s t : Str} (hs : strG s) : strG (Txt.lstripChars s t) := by
  obtain ⟨i, hi, e⟩ := lstripChars_is_suffix s t
  rw [e]
  refine strG_sub hs (by rw [← e]; exact len_lstripChars s t) fun c hc => ?_
  have hc' : c ∈ (s.cps.extract i s.length).toList := hc
  rw [Array.toList_extract] at hc'
  exact List.drop_subset _ _ (List.take_subset _ _ hc')
theorem y_lstC (q : W K te δ fun a δ1 => LS1 a fun s => Wa K tr δ1 fun ds δ2 => LLstC s ds fun z => Φ (.str z) δ2) : W K (tBM K "str" wLstC te tr) δ Φ := fun M L σ H I Q k => q M L σ H I _ fun v a δ1 H1 I1 x1 hv ⟨s, hs, q1⟩ => by
  subst hs
  obtain ⟨rfl, hg⟩ := hv.inv_str
  refine ⟨rfl, q1 M L σ H1 I1 _ fun vs ds δ2 H2 I2 x2 hvs ⟨t, e1, q2⟩ => ?_⟩
  subst e1
  cases hvs with
  | cons h tl =>
    cases tl
    obtain ⟨rfl, _⟩ := h.inv_str
    exact ⟨s, t, rfl, rfl, sz_of hg.1, k _ _ δ2 H2 I2 (x1.trans x2) (.str (lst_G hg)) q2⟩
/-- x[i] -/
def LIxS (a b : Dt) (P : Str → Prop) : Prop := ∃ s i c, a = .str s ∧ b = .int i ∧ atI s.cps.toList i = some c ∧ P ⟨#[c]⟩
theorem lf_ixS {s : Str} {i : Int} {c : Nat} {P : Str → Prop} (h : atI s.cps.toList i = some c) (q : P ⟨#[c]⟩) : LIxS (.str s) (.int i) P := ⟨s, i, c, rfl, rfl, h, q⟩
theorem atI_mem {α : Type} {xs : List α} {i : Int} {c : α} (h : atI xs i = some c) : c ∈ xs := by
  unfold atI at h
  cases e : ixN xs.length i with
  | none => rw [e] at h; cases h
  | some j => rw [e] at h; exact List.mem_of_getElem? h
theorem one_G {c : Nat} (h : c < 128) : strG ⟨#[c]⟩ := ⟨by show 1 ≤ 100000; decide, asc_iff.mpr fun d hd => by rw [List.mem_singleton.mp (show d ∈ [c] from hd)]; exact h⟩
theorem y_ixS (q : W K ta δ fun a δ1 => W K tb δ1 fun b δ2 => LIxS a b fun z => Φ (.str z) δ2) : W K (tOp rIxS ta tb) δ Φ := w_op q fun M L σ H v u a b δ2 I hv hu hp Q k => by
  obtain ⟨s, i, c, rfl, rfl, h, q⟩ := hp
  obtain ⟨rfl, hg⟩ := hv.inv_str
  rw [hu.inv_int]
  exact ⟨s, i, c, rfl, rfl, sz_of hg.1, h, k _ _ _ _ I (Xt.refl _ _) (.str (one_G (asc_iff.mp hg.2 c (atI_mem h)))) q⟩
/-- x[i:j] -/
def LSlS (a : Dt) (lo hi : Option Int) (P : Str → Prop) : Prop := ∃ s, a = .str s ∧ P (cutS s lo hi)
theorem lf_slS {s : Str} {lo hi : Option Int} {P : Str → Prop} (q : P (cutS s lo hi)) : LSlS (.str s) lo hi P := ⟨s, rfl, q⟩
theorem cutS_G {s : Str} {lo hi : Option Int} (h : strG s) : strG (cutS s lo hi) := strG_sub h (cutS_length s lo hi) fun c hc => by
  have hc' : c ∈ (s.cps.toList.drop (HT.sIx s.length 0 lo)).take (HT.sIx s.length s.length hi - HT.sIx s.length 0 lo) := hc
  exact List.drop_subset _ _ (List.take_subset _ _ hc')
theorem y_slS {lo hi : TO} (q : W K te δ fun a δ1 => Wo K lo δ1 fun l δ2 => Wo K hi δ2 fun u δ3 => LSlS a l u fun z => Φ (.str z) δ3) : W K (tSl rSlS te lo hi) δ Φ := fun M L σ H I Q k =>
  q M L σ H I _ fun v a δ1 H1 I1 x1 hv q1 => q1 M L σ H1 I1 _ fun l δ2 H2 I2 x2 q2 => q2 M L σ H2 I2 _ fun u δ3 H3 I3 x3 q3 => by
    obtain ⟨s, rfl, q⟩ := q3
    obtain ⟨rfl, hg⟩ := hv.inv_str
    exact ⟨s, rfl, sz_of hg.1, k _ _ δ3 H3 I3 ((x1.trans x2).trans x3) (.str (cutS_G hg)) q⟩
/-- x <= y, texts -/
def LLeS (a b : Dt) (P : Bool → Prop) : Prop := ∃ i j, a = .str i ∧ b = .str j ∧ P (!decide (j.cps.toList < i.cps.toList))
theorem lf_leS {i j : Str} {P : Bool → Prop} (q : P (!decide (j.cps.toList < i.cps.toList))) : LLeS (.str i) (.str j) P := ⟨i, j, rfl, rfl, q⟩
theorem y_leS (q : W K ta δ fun a δ1 => W K tb δ1 fun b δ2 => LLeS a b fun c => Φ (.bl c) δ2) : W K (tOp wLeS ta tb) δ Φ := w_op q fun M L σ H v u a b δ2 I hv hu hp Q k => by
  obtain ⟨i, j, rfl, rfl, q⟩ := hp
  obtain ⟨rfl, _⟩ := hv.inv_str
  obtain ⟨rfl, _⟩ := hu.inv_str
  exact ⟨i, j, rfl, rfl, k _ _ _ _ I (Xt.refl _ _) (.bl _) q⟩
variable {tl : TE} {g : TG} {tt : TT} {vs : List Nat}
/-- [.. for c in s if ..]: the signs that are wanted -/
theorem wn_mapS (q : W K tl δ fun d δ1 => ∃ (s : Str) (p : Nat → Bool) (f : Nat → Dt), d = .str s ∧ noAt vs δ1 = true ∧ s.length < 100000 ∧ (∀ (i : Nat) c, s.cps[i]? = some c → Each K g tt te vs (.str ⟨#[c]⟩) δ1 (p c) (f c)) ∧ Ψ ((s.cps.toList.filter p).map f) δ1) : Wn K (tLc (iStr tl) g tt te vs) δ Ψ :=
  wn_lcS (q.imp fun d δ1 h => by
    obtain ⟨s, p, f, rfl, hn, hl, he, q⟩ := h
    refine ⟨s, fun i acc δ' => δ' = δ1 ∧ acc = ((s.cps.toList.take i).filter p).map f, rfl, fun i acc δ' h => ⟨by rw [h.1]; exact hn, ?_⟩, ⟨rfl, rfl⟩, fun i c acc δ' hx h => ?_, fun acc δ' h => ?_⟩
    · rw [h.2, List.length_map]
      exact Nat.lt_of_le_of_lt (Nat.le_trans (List.length_filter_le _ _) (by rw [List.length_take]; exact Nat.min_le_right _ _)) (by rw [Array.length_toList]; exact hl)
    · obtain ⟨rfl, rfl⟩ := h
      have hx' : s.cps.toList[i]? = some c := by rw [Array.getElem?_toList]; exact hx
      refine (he i c hx).imp (fun z s h => ⟨h.2.2, ?_⟩) (fun s h => ⟨h.2, ?_⟩)
      · rw [take_map p f hx', if_pos h.1, h.2.1]
      · rw [take_map p f hx', if_neg (by rw [h.1]; decide), List.append_nil]
    · obtain ⟨rfl, rfl⟩ := h
      rw [List.take_of_length_le (by rw [Array.length_toList]; exact Nat.le_refl _)]
      exact q)
end
end My

namespace My
open PySem PySem.Spec PyProof.Rows L2
/-! ### lines in their written form -/
theorem wordB_eq (s : Str) : wordB s = ((decide (0 < s.length) && decide (s.length ≤ 8)) && s.cps.all goodC) := by
  unfold wordB
  rw [word_signs]
  cases decide (s.length ≤ 8) <;> cases decide (0 < s.length) <;> simp
theorem drop_tw (p : Nat → Bool) : ∀ l : List Nat, l.drop (l.takeWhile p).length = l.dropWhile p
  | [] => rfl
  | c :: l => by
    rw [List.takeWhile_cons, List.dropWhile_cons]
    split
    · rw [List.length_cons, List.drop_succ_cons]; exact drop_tw p l
    · rfl
theorem tl_lst (x y : Str) : (Txt.lstripChars x y).cps.toList = x.cps.toList.dropWhile y.cps.contains := by
  rw [← drop_tw]
  unfold Txt.lstripChars Txt.stripBy
  split
  · rename_i h
    unfold stripSame at h
    rw [Bool.and_eq_true] at h
    have h0 : stripLo y.cps.contains true x = 0 := eq_of_beq h.1
    have h1 : (x.cps.toList.takeWhile y.cps.contains).length = 0 := h0
    rw [h1]; rfl
  · show (x.cps.extract (x.cps.toList.takeWhile y.cps.contains).length x.length).toList = _
    rw [Array.toList_extract]
    show (x.cps.toList.drop _).take (x.cps.size - _) = _
    refine List.take_of_length_le ?_
    rw [List.length_drop, Array.length_toList]
    exact Nat.le_refl _
def spc (s : Str) : Nat := (s.cps.toList.takeWhile (· == 32)).length
theorem sp_contains : (Str.ofString " ").cps.contains = fun c => c == 32 := by
  funext c
  show (#[32] : Array Nat).contains c = (c == 32)
  simp
  rfl
theorem tl_lsp (s : Str) : (Txt.lstripChars s (Str.ofString " ")).cps.toList = s.cps.toList.drop (spc s) := by
  rw [tl_lst, sp_contains]
  exact (drop_tw _ _).symm
theorem tw_le (p : Nat → Bool) (l : List Nat) : (l.takeWhile p).length ≤ l.length := (List.takeWhile_sublist p).length_le
theorem spc_le (s : Str) : spc s ≤ s.length := by
  have := tw_le (· == 32) s.cps.toList
  rw [Array.length_toList] at this
  exact this
theorem len_lsp (s : Str) : (Txt.lstripChars s (Str.ofString " ")).length = s.length - spc s := by
  have h := congrArg List.length (tl_lsp s)
  rw [List.length_drop, Array.length_toList, Array.length_toList] at h
  exact h
theorem cut_spc (s : Str) : cutS s (some ((spc s : Nat) : Int)) none = Txt.lstripChars s (Str.ofString " ") := by
  refine TL.ext_tl ?_
  show ((s.cps.toList.drop (HT.sIx s.length 0 (some ((spc s : Nat) : Int)))).take (HT.sIx s.length s.length none - HT.sIx s.length 0 (some ((spc s : Nat) : Int)))) = (Txt.lstripChars s (Str.ofString " ")).cps.toList
  rw [tl_lsp, HT.sIx_nat, Nat.min_eq_left (spc_le s)]
  refine List.take_of_length_le ?_
  rw [List.length_drop, Array.length_toList]
  exact Nat.le_refl _
/-- the signs ahead of the first other one are blanks, and it is none -/
theorem tw_at : ∀ (l : List Nat) (j : Nat), j < (l.takeWhile (· == 32)).length → l[j]? = some 32
  | [], _, h => absurd h (Nat.not_lt_zero _)
  | c :: l, j, h => by
    rw [List.takeWhile_cons] at h
    split at h
    · rename_i hc
      cases j with
      | zero => rw [eq_of_beq hc]; rfl
      | succ j => exact tw_at l j (by rw [List.length_cons] at h; omega)
    · exact absurd h (Nat.not_lt_zero _)
theorem tw_end : ∀ (l : List Nat), l[(l.takeWhile (· == 32)).length]? ≠ some 32
  | [], h => by cases h
  | c :: l, h => by
    rw [List.takeWhile_cons] at h
    split at h
    · rw [List.length_cons] at h
      exact tw_end l h
    · rename_i hc
      exact hc (by rw [Option.some.inj h]; rfl)
theorem spc_lt {s : Str} {j : Nat} (h : j < spc s) : s.cps.toList[j]? = some 32 := tw_at _ _ h
theorem spc_at {s : Str} (h : s.cps.toList[spc s]? = some 32) : False := tw_end _ h
/-- the line with a written form -/
def lineOf (s : Str) : LLine := ⟨((spc s : Nat) : Int), Txt.split (Txt.lstripChars s (Str.ofString " ")) (Str.ofString " ")⟩
theorem one_sp {c : Nat} : ((⟨#[c]⟩ : Str) = Str.ofString " ") ↔ c = 32 := by
  constructor
  · intro h
    have := congrArg (fun z : Str => z.cps.toList) h
    exact List.head_eq_of_cons_eq (show [c] = [32] from this)
  · rintro rfl; rfl
/-- a <= c <= z, by the signs' numbers -/
theorem le_one {c d : Nat} : (!decide ((⟨#[d]⟩ : Str).cps.toList < (⟨#[c]⟩ : Str).cps.toList)) = decide (c ≤ d) := by
  show (!decide ([d] < [c])) = decide (c ≤ d)
  have : [d] < [c] ↔ d < c := by
    constructor
    · intro h
      rcases List.cons_lt_cons_iff.mp h with h | h
      · exact h
      · exact absurd h.2 (by intro z; cases z)
    · intro h; exact List.cons_lt_cons_iff.mpr (.inl h)
  by_cases h : d < c
  · rw [decide_eq_true (this.mpr h), decide_eq_false (by omega)]; rfl
  · rw [decide_eq_false (fun z => h (this.mp z)), decide_eq_true (by omega)]; rfl
end My

namespace My
open PySem PySem.Spec PyProof.Rows L2
/-! ### a written form and back -/
theorem joinL_cons (c : Nat) (p : List Nat) : ∀ {r : List (List Nat)}, r ≠ [] → TL.joinL [c] (p :: r) = p ++ (c :: TL.joinL [c] r)
  | [], h => absurd rfl h
  | _ :: _, _ => rfl
theorem pre_one (c x : Nat) (r : List Nat) : TL.pre [c] (x :: r) = (x == c) := by
  unfold TL.pre
  show ((x :: r).take 1 == [c]) = (x == c)
  simp
theorem spl_nn {b : List Nat} : ∀ {a : List Nat} {k : Nat} {acc : List Nat}, TL.spl b k acc a ≠ [] := by
  intro a
  induction a with
  | nil => intro k acc; rw [TL.spl_nil]; simp
  | cons x r ih =>
    intro k acc
    cases k with
    | zero =>
      show (if TL.pre b (x :: r) = true then acc :: TL.spl b (b.length - 1) [] r else TL.spl b 0 (acc ++ [x]) r) ≠ []
      split
      · simp
      · exact ih
    | succ k => exact ih
theorem join_spl (c : Nat) : ∀ (a acc : List Nat), TL.joinL [c] (TL.spl [c] 0 acc a) = acc ++ a
  | [], acc => by rw [TL.spl_nil, List.append_nil]; rfl
  | x :: r, acc => by
    show TL.joinL [c] (if TL.pre [c] (x :: r) = true then acc :: TL.spl [c] ([c].length - 1) [] r else TL.spl [c] 0 (acc ++ [x]) r) = _
    split
    · rename_i h
      rw [pre_one] at h
      rw [joinL_cons c acc spl_nn, show [c].length - 1 = 0 from rfl, join_spl c r [], List.nil_append, eq_of_beq h]
    · rw [join_spl c r (acc ++ [x]), List.append_assoc]; rfl
theorem nlG : strG (Str.ofString "\n") := ⟨by decide, asc_iff.mpr (by decide +kernel)⟩
theorem bkG : strG (Str.ofString " ") := ⟨by decide, asc_iff.mpr (by decide +kernel)⟩
theorem join_split {t : Str} {c : Nat} (ht : TL.tl t = [c]) (hg : strG t) (s : Str) : Txt.join t (Txt.split s t) = s := by
  have h0 : (t.length == 0) = false := by
    have : t.length = 1 := by
      show t.cps.size = 1
      rw [← Array.length_toList]
      exact congrArg List.length ht
    rw [this]; rfl
  rw [split_tl h0 hg]
  have e := SX.join_S (TL.tl t) (TL.spl (TL.tl t) 0 [] (TL.tl s))
  rw [S_tl, ht, join_spl, List.nil_append, S_tl] at e
  rw [ht]
  exact e
theorem split_join {t : Str} {c : Nat} (ht : TL.tl t = [c]) (hg : strG t) {ys : List Str} (hne : ys ≠ []) (h : ∀ y ∈ ys, c ∉ y.cps.toList) : Txt.split (Txt.join t ys) t = ys := by
  have h0 : (t.length == 0) = false := by
    have : t.length = 1 := by
      show t.cps.size = 1
      rw [← Array.length_toList]
      exact congrArg List.length ht
    rw [this]; rfl
  have e1 : TL.tl (Txt.join t ys) = TL.joinL [c] (ys.map TL.tl) := by rw [TL.join_eq, TL.tl_join, ht]
  rw [split_tl h0 hg, e1, ht, TL.spl_join (by simpa using hne) (fun p hp => by
    obtain ⟨y, hy, rfl⟩ := List.mem_map.mp hp
    exact h y hy), List.map_map]
  conv => rhs; rw [← List.map_id ys]
  exact List.map_congr_left fun y _ => S_tl y
theorem foldl_tl {x : Array Nat} : ∀ (k : Nat) (acc : Array Nat), ((List.replicate k x).foldl (· ++ ·) acc).toList = acc.toList ++ (List.replicate k x.toList).flatten
  | 0, acc => by simp
  | k + 1, acc => by
    rw [List.replicate_succ, List.replicate_succ, List.foldl_cons, foldl_tl k, List.flatten_cons, Array.toList_append, List.append_assoc]
theorem mul_tl (n : Nat) : (Txt.mul (Str.ofString " ") (n : Int)).cps.toList = List.replicate n 32 := by
  unfold Txt.mul
  split
  · have : n = 0 := by omega
    rw [this]; rfl
  · split
    · rename_i h1 h2
      have : n = 1 := by
        rw [Bool.or_eq_true] at h2
        rcases h2 with h2 | h2
        · have := eq_of_beq h2; omega
        · exact absurd h2 (by decide)
      rw [this]; rfl
    · show ((List.replicate (n : Int).toNat (Str.ofString " ").cps).foldl (· ++ ·) #[]).toList = _
      rw [foldl_tl, Int.toNat_natCast]
      show [] ++ (List.replicate n [32]).flatten = _
      rw [List.nil_append, List.flatten_replicate_singleton]
theorem tw_rep : ∀ l : List Nat, l.takeWhile (· == 32) = List.replicate (l.takeWhile (· == 32)).length 32
  | [] => rfl
  | c :: l => by
    rw [List.takeWhile_cons]
    split
    · rename_i h
      rw [List.length_cons, List.replicate_succ, eq_of_beq h, ← tw_rep l]
    · rfl
theorem tw_app {n : Nat} {r : List Nat} (h : ∀ c r', r = c :: r' → c ≠ 32) : ((List.replicate n 32 ++ r).takeWhile (· == 32)).length = n := by
  induction n with
  | zero =>
    rw [List.replicate_zero, List.nil_append]
    cases r with
    | nil => rfl
    | cons c r' => rw [List.takeWhile_cons, if_neg (by simpa using h c r' rfl)]; rfl
  | succ n ih => rw [List.replicate_succ, List.cons_append, List.takeWhile_cons, if_pos (by rfl), List.length_cons, ih]
theorem bk1 : TL.tl (Str.ofString " ") = [32] := by decide +kernel
/-- what is written of the line of a string is the string -/
theorem wl_lineOf (s : Str) : Txt.mul (Str.ofString " ") (lineOf s).col ++ Txt.join (Str.ofString " ") (lineOf s).ws = s := by
  refine TL.ext_tl ?_
  show (Txt.mul (Str.ofString " ") ((spc s : Nat) : Int) ++ Txt.join (Str.ofString " ") (Txt.split (Txt.lstripChars s (Str.ofString " ")) (Str.ofString " "))).cps.toList = s.cps.toList
  rw [join_split bk1 bkG, Str.cps_append, Array.toList_append, mul_tl, tl_lsp]
  unfold spc
  rw [← tw_rep, drop_tw]
  exact List.takeWhile_append_dropWhile
theorem word_no {w : Str} (h : wordB w = true) : (32 ∉ w.cps.toList ∧ 10 ∉ w.cps.toList) ∧ ∃ c r, w.cps.toList = c :: r ∧ c ≠ 32 := by
  rw [wordB_eq] at h
  simp only [Bool.and_eq_true, decide_eq_true_eq] at h
  obtain ⟨⟨h1, _⟩, h2⟩ := h
  have g : ∀ c ∈ w.cps.toList, 97 ≤ c ∧ c ≤ 122 := fun c hc => by
    rw [← Array.all_toList, List.all_eq_true] at h2
    have := h2 c hc
    unfold goodC at this
    simpa using this
  refine ⟨⟨fun z => by have := g _ z; omega, fun z => by have := g _ z; omega⟩, ?_⟩
  cases e : w.cps.toList with
  | nil =>
    have : w.length = 0 := by
      show w.cps.size = 0
      rw [← Array.length_toList, e]; rfl
    omega
  | cons c r => exact ⟨c, r, rfl, by have := g c (by rw [e]; exact .head _); omega⟩
theorem lineOf_wl {l : LLine} (h1 : 0 ≤ l.col) (h : wsB l.ws = true) : lineOf (Txt.mul (Str.ofString " ") l.col ++ Txt.join (Str.ofString " ") l.ws) = l := by
  unfold wsB at h
  simp only [Bool.and_eq_true, decide_eq_true_eq, List.all_eq_true] at h
  obtain ⟨⟨h3, h4⟩, h5⟩ := h
  obtain ⟨n, hn⟩ : ∃ n : Nat, l.col = (n : Int) := ⟨l.col.toNat, by omega⟩
  have hws : l.ws ≠ [] := List.length_pos_iff.mp h3
  have htl : (Txt.mul (Str.ofString " ") l.col ++ Txt.join (Str.ofString " ") l.ws).cps.toList = List.replicate n 32 ++ (Txt.join (Str.ofString " ") l.ws).cps.toList := by
    rw [Str.cps_append, Array.toList_append, hn, mul_tl]
  have hhead : ∀ c r', (Txt.join (Str.ofString " ") l.ws).cps.toList = c :: r' → c ≠ 32 := fun c r' e => by
    have e1 : TL.tl (Txt.join (Str.ofString " ") l.ws) = TL.joinL [32] (l.ws.map TL.tl) := by rw [TL.join_eq, TL.tl_join, bk1]
    have e2 : TL.joinL [32] (l.ws.map TL.tl) = c :: r' := e1.symm.trans e
    cases hw : l.ws with
    | nil => exact absurd hw hws
    | cons w ws =>
      obtain ⟨_, d, r, hd, hd2⟩ := word_no (h5 w (by rw [hw]; exact .head _))
      rw [hw, List.map_cons] at e2
      have hd' : TL.tl w = d :: r := hd
      cases ws with
      | nil =>
        have e3 : TL.tl w = c :: r' := e2
        rw [hd'] at e3
        rw [← (List.cons.inj e3).1]; exact hd2
      | cons w2 ws2 =>
        rw [joinL_cons 32 _ (by simp), hd'] at e2
        rw [← (List.cons.inj e2).1]; exact hd2
  have hspc : spc (Txt.mul (Str.ofString " ") l.col ++ Txt.join (Str.ofString " ") l.ws) = n := by
    unfold spc
    rw [htl]
    exact tw_app hhead
  have hlst : Txt.lstripChars (Txt.mul (Str.ofString " ") l.col ++ Txt.join (Str.ofString " ") l.ws) (Str.ofString " ") = Txt.join (Str.ofString " ") l.ws := by
    refine TL.ext_tl ?_
    show (Txt.lstripChars _ _).cps.toList = _
    rw [tl_lsp, hspc, htl, List.drop_left' (List.length_replicate ..)]
  unfold lineOf
  rw [hspc, hlst, split_join bk1 bkG hws fun y hy => (word_no (h5 y hy)).1.1, ← hn]
end My

namespace My
open PySem PySem.Spec PyProof.Rows L2
/-! ### repr of what is a list, a tuple or an int -/
section
variable {K : PySem.W.Frag} [Xg K] {δ : Store} {Φ : Dt → Store → Prop} {ta tb : TE}
def wReprU (K : PySem.W.Frag) : List V → Hp → VK → Prop := fun xs H Q => wReprD K xs H Q ∨ ∃ i : Int, xs = [.int i] ∧ i.natAbs.log2 < 1920 ∧ Q (.str (toString i)) H
theorem c_reprU {X : Cx} {K : PySem.W.Frag} (hG : X.A.guards = some []) (hu : X.A.units + 64 < cLine) (hK : X.K = K := by rfl) : CallR X (.builtin "repr") (wReprU K) := by
  intro pins s σ H xs us Q I r h
  rcases h with h | h
  · exact c_reprD hG hu hK pins s σ H xs us Q I r h
  · exact SkE.call_repr_int pins s σ H xs us Q I r h
theorem rp_reprU {A : List Addr} {H : Hp} {v : V} {d : Dt} (hv : Rp K A H v d) (hs : d.shw 50 = true) (hb : d.bk ≤ 1000000) (hl : d.items.isSome = true) : ∃ a, v = .ref a ∧ Dp K H (.ref a) d.py ∧ d.py.showable = true ∧ d.py.hasDict = false ∧ d.py.depth ≤ 50 ∧ d.py.shown.length ≤ sizeLine := by
  obtain ⟨h1, h2⟩ := hv.shw hs
  have hd := hv.dp h1
  cases h : d.items with
  | none => rw [h] at hl; cases hl
  | some es =>
    obtain ⟨p, xs, rfl, _⟩ := hv.its h
    exact ⟨p, rfl, hd, h2.sh, h2.nd, h2.dp, PyData.shown_fits_bulk (by decide) (Nat.le_refl 13) h2.ls (by rw [h2.bk]; exact Nat.le_trans hb (by decide))⟩
/-- what may be shown -/
def LShU (d : Dt) (P : Prop) : Prop := (d.shw 50 = true ∧ d.bk ≤ 1000000 ∧ d.items.isSome = true ∧ P) ∨ ∃ i : Int, d = .int i ∧ i.natAbs < 10 ^ 12 ∧ P
theorem w_reprNeU (q : W K ta δ fun d δ1 => LShU d (W K tb δ1 fun e δ2 => e = d ∧ Φ (.bl false) δ2)) : W K (tOp rNe (tCB (wReprU K) (tCons ta tNil)) (tCB (wReprU K) (tCons tb tNil))) δ Φ := fun M L σ H I Q k =>
  q M L σ H I _ fun v d δ1 H1 I1 x1 hv hd => by
    rcases hd with ⟨hs, hb, hl, q1⟩ | ⟨i, rfl, hi, q1⟩
    · obtain ⟨a, rfl, a1, a2, a3, a4, a5⟩ := rp_reprU hv hs hb hl
      refine .inl ⟨a, d.py, rfl, a1, a2, a3, a4, a5, ?_⟩
      refine q1 M L σ H1 I1 _ fun u e δ2 H2 I2 x2 hu ⟨he, q2⟩ => ?_
      subst he
      obtain ⟨b, rfl, b1, b2, b3, b4, b5⟩ := rp_reprU hu hs hb hl
      refine .inl ⟨b, _, rfl, b1, b2, b3, b4, b5, rfl, ?_⟩
      rw [decide_eq_true rfl]
      exact k _ _ δ2 H2 I2 (x1.trans x2) (.bl _) q2
    · rw [hv.inv_int]
      have h0 : i.natAbs.log2 < 1920 := of_decide_eq_true (int_sh hi)
      refine .inr ⟨i, rfl, h0, ?_⟩
      refine q1 M L σ H1 I1 _ fun u e δ2 H2 I2 x2 hu ⟨he, q2⟩ => ?_
      subst he
      rw [hu.inv_int]
      refine .inr ⟨i, rfl, h0, rfl, ?_⟩
      rw [decide_eq_true rfl]
      exact k _ _ δ2 H2 I2 (x1.trans x2) (.bl _) q2
end
end My

namespace My
open PySem PySem.Spec PyProof.Rows L2
/-! ### what raises and what catches -/
/-- a def of data that may raise -/
def spX (K : PySem.W.Frag) (T : List Dt → (Dt → Prop) → (Value → List (Str × Dt) → Prop) → Prop) : Sp := fun vs H Q E => ∃ (M : List Addr) (ds : List Dt) (k : Dt → Prop) (ε : Value → List (Str × Dt) → Prop), (∀ a ∈ M, H a ≠ none) ∧ RpL K M H vs ds ∧ T ds k ε ∧
  (∀ v d H', k d → Ex H H' → Rp K M H' v d → Q v H') ∧ ∀ cls dx gs H', ε cls gs → Ex H H' → XdAt K M H' dx gs → E cls dx H'
def spCX (K : PySem.W.Frag) (C : Addr) (T : List Dt → (Dt → Prop) → (Value → List (Str × Dt) → Prop) → Prop) : Sp := fun vs H Q E => ∃ us, vs = .ref C :: us ∧ spX K T us H Q E
/-- __init__ of an error stores its argument -/
def spXi (C : Addr) (f : Str) : Sp := fun vs H Q _ => ∃ a y, vs = [.ref a, y] ∧ H a = some (exo a C none) ∧ ∀ dx, H dx = none → dx ≠ a → Q .non (upd (upd H dx (exd dx [(f, y)])) a (exo a C (some dx)))
section
variable {K : PySem.W.Frag} {A : List Addr} {H : Hp}
theorem XdAt.none : XdAt K A H none [] := fun _ => .exc0
theorem XdAt.one {d : Addr} {f : Str} {v : V} {y : Dt} (n : d ∉ A) (e : H d = some (.xd [(f, v)])) (h : Rp K A H v y) : XdAt K A H (some d) [(f, y)] := fun _ => .exc1 n e (.cons h .nil)
end
section
variable {K : PySem.W.Frag} [X : Xg K] {δ δ2 : Store} {ta tb te : TE} {tr : TA} {Φ : Dt → Store → Prop} {E : En} {W0 : WX}
/-! ### an error that is made to be raised -/
def Wk (K : PySem.W.Frag) [Xg K] (t : L2.St → Hp → XK → Prop) (δ : Store) (Ψ : Value → List (Str × Dt) → Store → Prop) : Prop := ∀ M L σ H, Ib K M L σ δ H → ∀ Q : XK, (∀ cls dx gs δ' H', Ib K M L σ δ' H' → Xt L H H' → XdAt K (L ++ M) H' dx gs → Ψ cls gs δ' → Q cls dx H') → t σ H Q
theorem wk_n {C : Addr} {Ψ : Value → List (Str × Dt) → Store → Prop} (q : Ψ (.ref C) [] δ) : Wk K (tMkN C) δ Ψ := fun M L σ H I Q k => k (.ref C) none [] δ H I (Xt.refl _ _) .none q
theorem upd_mk {H1 : Hp} {a dx C : Addr} {y : V} {f : Str} (ha : H1 a = none) (hd : dx ≠ a) : upd (del (upd (upd (upd H1 a (exo a C none)) dx (exd dx [(f, y)])) a (exo a C (some dx))) a) dx (.xd [(f, y)]) = upd H1 dx (.xd [(f, y)]) := by
  funext b
  by_cases h1 : b = dx
  · rw [h1, upd_same, upd_same]
  · rw [upd_ne h1, upd_ne h1]
    by_cases h2 : b = a
    · rw [h2, del_same, ha]
    · rw [del_ne h2, upd_ne h2, upd_ne h1, upd_ne h2]
theorem wk_x {C : Addr} {f : Str} {Ψ : Value → List (Str × Dt) → Store → Prop} (q : W K te δ fun d δ1 => Ψ (.ref C) [(f, d)] δ1) : Wk K (tMkO C (spXi C f) [] (tCons te tNil)) δ Ψ := fun M L σ H I Q k => q M L σ H I _ fun v d δ1 H1 I1 x1 hv q1 => by
  refine ⟨by show 1 ≤ 1000; decide, fun a ha => ⟨a, v, rfl, upd_same, fun dx hd hne => ⟨rfl, dx, [(f, v)], upd_same, by rw [upd_ne hne, upd_same], by rw [upd_ne hne] at hd; exact hd, ?_⟩⟩⟩
  have hd1 : H1 dx = Option.none := by rw [upd_ne hne] at hd; exact hd
  rw [upd_mk ha hne]
  have e : Ex H1 (upd H1 dx (.xd [(f, v)])) := Evl.Ex.new hd1
  exact k _ _ _ δ1 _ (I1.ext e) (x1.trans (Xt.of e)) (.one (I1.fresh hd1) upd_same (hv.mono (Xt.of e))) q1
theorem x_raise {t : L2.St → Hp → XK → Prop} (hW : X.wx = W0) (q : Wk K t δ fun cls gs δ' => X.ε cls gs δ') : Sw K (tRaise t W0) δ E := fun M L σ H I D _ => q M L σ H I _ fun cls dx gs δ' H' I' x' hx he => by
  subst hW
  exact I.gx L σ δ' cls dx gs H' I'.toIb0 (Fr.of_xt x') hx he
/-! ### calls that may raise -/
theorem y_callX {T : List Dt → (Dt → Prop) → (Value → List (Str × Dt) → Prop) → Prop} (hW : X.wx = W0) (q : Wa K tr δ fun ds δ1 => T ds (fun d => Φ d δ1) fun cls gs => X.ε cls gs δ1) : W K (tCallS (spX K T) (WE W0) tr) δ Φ := fun M L σ H I Q k => q M L σ H I _ fun vs ds δ1 H1 I1 x1 hv q1 => by
  subst hW
  exact ⟨L ++ M, ds, fun d => Φ d δ1, fun cls gs => X.ε cls gs δ1, I1.here, hv, q1, fun v d H' kd e hr => k v d δ1 H' (I1.ext e) (x1.trans (Xt.of e)) hr kd, fun cls dx gs H' he e hx => I1.gx L σ δ1 cls dx gs H' (I1.ext e).toIb0 (Fr.of_xt (Xt.of e)) hx he⟩
theorem y_cmethX {C : Addr} {T : List Dt → (Dt → Prop) → (Value → List (Str × Dt) → Prop) → Prop} (hW : X.wx = W0) (q : Wa K tr δ fun ds δ1 => T ds (fun d => Φ d δ1) fun cls gs => X.ε cls gs δ1) : W K (tCMethS C (spCX K C T) (WE W0) (tC (.ref C)) tr) δ Φ := fun M L σ H I Q k => by
  refine ⟨rfl, q M L σ H I _ fun vs ds δ1 H1 I1 x1 hv q1 => ?_⟩
  subst hW
  exact ⟨vs, rfl, L ++ M, ds, fun d => Φ d δ1, fun cls gs => X.ε cls gs δ1, I1.here, hv, q1, fun v d H' kd e hr => k v d δ1 H' (I1.ext e) (x1.trans (Xt.of e)) hr kd, fun cls dx gs H' he e hx => I1.gx L σ δ1 cls dx gs H' (I1.ext e).toIb0 (Fr.of_xt (Xt.of e)) hx he⟩
/-! ### the error in a suite -/
def LXf (cls : Value) (C : Addr) (n : Str) (a : Addr) (dx : Option Addr) (x : Dt) (P : Dt → Prop) : Prop := cls = .ref C ∧ ∃ gs y, x = .exc a dx gs ∧ gs.lookup n = some y ∧ P y
theorem lf_xf {C : Addr} {n : Str} {a : Addr} {dx : Option Addr} {y : Dt} {P : Dt → Prop} (q : P y) : LXf (.ref C) C n a dx (.exc a dx [(n, y)]) P := ⟨rfl, _, y, rfl, by simp [List.lookup], q⟩
theorem y_xf {C a : Addr} {cls : Value} {dx : Option Addr} {n : Str} (q : W K te δ fun x δ1 => LXf cls C n a dx x fun y => Φ y δ1) : W K (tXf a cls dx C n te) δ Φ := fun M L σ H I Q k => q M L σ H I _ fun v x δ1 H1 I1 x1 hv ⟨hc, gs, y, hx, hl, q1⟩ => by
  subst hx
  cases hv with
  | exc0 => cases hl
  | exc1 nn e h =>
    obtain ⟨u, hu, hr⟩ := h.look hl
    exact ⟨rfl, hc, _, _, u, rfl, e, hu, k u y δ1 H1 I1 x1 hr q1⟩
/-! ### try -/
def clE (E : En) (i : Nat) : En := ⟨fun δ => E.nx (δ.set i .no), E.rt, fun δ => E.bk (δ.set i .no), fun δ => E.ct (δ.set i .no)⟩
/-- behind the suite the name's slot is empty -/
theorem OkE.cl {M L : List Addr} {H : Hp} {D : Ends} (k : OkE K M L H E D) (i : Nat) : OkE K M L H (clE E i) { nx := fun σ' H' => D.nx (σ'.set i none) H', rt := D.rt, bk := fun σ' H' => D.bk (σ'.set i none) H', ct := fun σ' H' => D.ct (σ'.set i none) H' } := by
  refine ⟨fun L' σ' δ' H' I' f q => ?_, fun L' σ' δ' v d H' I' f hv q => k.rt L' σ' δ' v d H' I' f hv q, fun L' σ' δ' H' I' f q => ?_, fun L' σ' δ' H' I' f q => ?_⟩
  · obtain ⟨L2, I2, f2, _⟩ := I'.setN (x := none) i
    exact k.nx L2 _ _ H' I2 (f.trans f2) q
  · obtain ⟨L2, I2, f2, _⟩ := I'.setN (x := none) i
    exact k.bk L2 _ _ H' I2 (f.trans f2) q
  · obtain ⟨L2, I2, f2, _⟩ := I'.setN (x := none) i
    exact k.ct L2 _ _ H' I2 (f.trans f2) q
/-- what the clause does with what is raised -/
def WAs (K : PySem.W.Frag) [Xg K] (c : Value) (i : Nat) (ts : Addr → Value → Option Addr → TS) (cls : Value) (gs : List (Str × Dt)) (δ : Store) (E : En) (no : Prop) : Prop :=
  ∃ b, PySem.W.exmOne K cls c = some b ∧ if b = true then ∀ a dx, Sw K (ts a cls dx) (δ.set i (.dat (.exc a dx gs))) (clE E i) else no
theorem wm_yes {cls c : Value} {gs : List (Str × Dt)} {i : Nat} {ts : Addr → Value → Option Addr → TS} {no : Prop} {n b c' : Store → Prop} {r : Dt → Store → Prop} (he : PySem.W.exmOne K cls c = some true) (h : ∀ a dx, Sw K (ts a cls dx) (δ.set i (.dat (.exc a dx gs))) ⟨fun δ => n (δ.set i .no), r, fun δ => b (δ.set i .no), fun δ => c' (δ.set i .no)⟩) : WAs K c i ts cls gs δ ⟨n, r, b, c'⟩ no := ⟨true, he, h⟩
theorem was_run {M L : List Addr} {σ : L2.St} {H : Hp} {D : Ends} {Wout : WX} {cls c : Value} {i : Nat} {ts : Addr → Value → Option Addr → TS} {dx : Option Addr} {gs : List (Str × Dt)} {no : Prop} (I : Ib K M L σ δ H) (k : OkE K M L H E D) (hx : XdAt K (L ++ M) H dx gs) (hn : no → Wout cls dx σ H) (w : WAs K c i ts cls gs δ E no) : wAs K c i ts Wout D cls dx σ H := by
  obtain ⟨b, hb, h⟩ := w
  refine ⟨b, hb, fun e a ha => ?_, fun e => ?_⟩
  · rw [if_pos e] at h
    obtain ⟨L2, I2, f2⟩ := I.setD i (hx a)
    exact h a dx M L2 _ H I2 _ ((k.go f2).cl i)
  · rw [e, if_neg (by decide)] at h
    exact hn h
@[reducible] def xgT (K : PySem.W.Frag) (ε : Value → List (Str × Dt) → Store → Prop) (W : WX) : Xg K := ⟨ε, W⟩
/-- the body is shown for any wish about what is raised: ε tells what may be -/
theorem x_try {tb : WX → TS} {Wout : WX} {c : Value} {i : Nat} {ts : Addr → Value → Option Addr → TS} (no : Prop) (ε : Value → List (Str × Dt) → Store → Prop) (hn : no → ∀ cls dx σ H, Wout cls dx σ H) (hb : ∀ X' : Xg K, X'.ε = ε → @Sw K X' (tb X'.wx) δ E) (hm : ∀ cls gs δ', ε cls gs δ' → WAs K c i ts cls gs δ' E no) : Sw K (tTry K c i tb ts Wout) δ E := fun M L σ H I D k => by
  have conv : ∀ {L' σ' δ' H'}, @Ib K (xgT K ε (wAs K c i ts Wout D)) M L' σ' δ' H' → Fr L H L' H' → @Ib K X M L' σ' δ' H' := fun {L' σ' δ' H'} I' f => @Ib.mk K X M L' σ' δ' H' (@Ib.toIb0 K (xgT K ε (wAs K c i ts Wout D)) M L' σ' δ' H' I') (I.gx.go f)
  refine hb (xgT K ε (wAs K c i ts Wout D)) rfl M L σ H (@Ib.mk K (xgT K ε (wAs K c i ts Wout D)) M L σ δ H I.toIb0 fun L' σ' δ' cls dx gs H' I' f hx he => ?_) D (@OkE.mk K (xgT K ε (wAs K c i ts Wout D)) M L H E D (fun L' σ' δ' H' I' f q => k.nx L' σ' δ' H' (conv I' f) f q) (fun L' σ' δ' v d H' I' f hv q => k.rt L' σ' δ' v d H' (conv I' f) f hv q) (fun L' σ' δ' H' I' f q => k.bk L' σ' δ' H' (conv I' f) f q) (fun L' σ' δ' H' I' f q => k.ct L' σ' δ' H' (conv I' f) f q))
  have I2 : @Ib K X M L' σ' δ' H' := ⟨I', I.gx.go f⟩
  exact was_run I2 (k.go f) hx (fun z => hn z _ _ _ _) (hm cls gs δ' he)
end
/-! ### defs that may raise -/
section
variable {P : Program} {w : World} {K : PySem.W.Frag} {mg : Str → Option Value} {base : Heap}
theorem ok_pureX {x qual : Str} {st : Stmt} {f : Addr} {fd : FuncData} {N ps : List Str} {k : Nat} {T : List Dt → (Dt → Prop) → (Value → List (Str × Dt) → Prop) → Prop} (F : Fun K x qual st f fd) (S : FnScope N ps (defScope st)) (hl : ∀ ds κ ε, T ds κ ε → ds.length = ps.length)
    (hb : ∀ (cdv : Value) (A : Around) (outer : List Env) (s : Shared) (H : Hp) (E : XK) (ds : List Dt) (κ : Dt → Prop) (ε : Value → List (Str × Dt) → Prop) (X : Xg K), Room k (A.deeper (envOfC qual (defScope st) s.heap.objs.size f cdv)) → T ds κ ε → X.wx = (fun cls d _ H => E cls d H) → (∀ cls gs δ, ε cls gs → X.ε cls gs δ) →
      ∃ t, PSs (cxOf (L2.CX P w) P w K mg base N qual (defScope st) f cdv A outer s H E) (defBody st) t ∧ Sw K t (store0 N.length ds) ⟨fun _ => κ .non, fun d _ => κ d, fun _ => False, fun _ => False⟩) : FnOk P w K mg base (L2.CX P w) (k + 1) f fd ps (spX K T) := by
  refine F.okX S (fun vs H Q E h => ?_) (fun cdv A outer s H vs Q E hr h => ?_)
  · obtain ⟨M, ds, κ, ε, _, hv, ht, _⟩ := h
    rw [hv.len]
    exact hl ds κ ε ht
  · obtain ⟨M, ds, κ, ε, hM, hv, ht, q, qx⟩ := h
    let X : Xg K := ⟨fun cls gs _ => ε cls gs, fun cls d _ H => E cls d H⟩
    obtain ⟨t, h1, h2⟩ := hb cdv A outer s H E ds κ ε X hr ht rfl (fun _ _ _ h => h)
    refine ⟨t, h1, ?_⟩
    have I : @Ib K X M [] (start N vs) (store0 N.length ds) H := @Ib.mk K X M [] _ _ H ⟨by
      have := sl_start (N.length - vs.length) (RpL.to (A := M) (B := [] ++ M) (fun a h => .inl h) hv)
      unfold store0
      rw [← hv.len]
      exact this, List.nodup_nil, (fun a z => nomatch z), hM⟩ fun L' σ' δ' cls dx gs H' I' f hx he => qx cls dx gs H' he (fun b o e => f.ext b o (fun z => nomatch z) e) fun a => (hx a).to fun b hb => .inl (List.mem_append_right _ hb)
    refine h2 M [] _ H I _ (@OkE.mk K X M [] H _ _ (fun L' σ' δ' H' I' f h => ?_) (fun L' σ' δ' v d H' I' f hr h => ?_) (fun _ _ _ _ _ _ h => h.elim) (fun _ _ _ _ _ _ h => h.elim))
    · exact q .non .non H' h (fun b o e => f.ext b o (fun z => nomatch z) e) .non
    · exact q v d H' h (fun b o e => f.ext b o (fun z => nomatch z) e) (hr.to fun b hb => .inl (List.mem_append_right _ hb))
theorem ok_cmX {x qual : Str} {st : Stmt} {f C : Addr} {fd : FuncData} {N ps : List Str} {p0 : Str} {k : Nat} {T : List Dt → (Dt → Prop) → (Value → List (Str × Dt) → Prop) → Prop} (F : Fun K x qual st f fd) (S : FnScope N (p0 :: ps) (defScope st)) (hl : ∀ ds κ ε, T ds κ ε → ds.length = ps.length)
    (hb : ∀ (cdv : Value) (A : Around) (outer : List Env) (s : Shared) (H : Hp) (E : XK) (ds : List Dt) (κ : Dt → Prop) (ε : Value → List (Str × Dt) → Prop) (X : Xg K), Room k (A.deeper (envOfC qual (defScope st) s.heap.objs.size f cdv)) → T ds κ ε → X.wx = (fun cls d _ H => E cls d H) → (∀ cls gs δ, ε cls gs → X.ε cls gs δ) →
      ∃ t, PSs (cxOf (L2.CX P w) P w K mg base N qual (defScope st) f cdv A outer s H E) (defBody st) t ∧ Sw K t (.no :: store0 (N.length - 1) ds) ⟨fun _ => κ .non, fun d _ => κ d, fun _ => False, fun _ => False⟩) : FnOk P w K mg base (L2.CX P w) (k + 1) f fd (p0 :: ps) (spCX K C T) := by
  refine F.okX S (fun vs H Q E h => ?_) (fun cdv A outer s H vs Q E hr h => ?_)
  · obtain ⟨us, rfl, M, ds, κ, ε, _, hv, ht, _⟩ := h
    show us.length + 1 = ps.length + 1
    rw [hv.len, hl ds κ ε ht]
  · obtain ⟨us, rfl, M, ds, κ, ε, hM, hv, ht, q, qx⟩ := h
    let X : Xg K := ⟨fun cls gs _ => ε cls gs, fun cls d _ H => E cls d H⟩
    obtain ⟨t, h1, h2⟩ := hb cdv A outer s H E ds κ ε X hr ht rfl (fun _ _ _ h => h)
    refine ⟨t, h1, ?_⟩
    have I : @Ib K X M [] (start N (.ref C :: us)) (.no :: store0 (N.length - 1) ds) H := @Ib.mk K X M [] _ _ H ⟨by
      have := sl_start (N.length - (us.length + 1)) (RpL.to (A := M) (B := [] ++ M) (fun a h => .inl h) hv)
      have e : N.length - 1 - ds.length = N.length - (us.length + 1) := by rw [hv.len]; omega
      unfold store0
      rw [e]
      exact .no this, List.nodup_nil, (fun a z => nomatch z), hM⟩ fun L' σ' δ' cls dx gs H' I' f hx he => qx cls dx gs H' he (fun b o e => f.ext b o (fun z => nomatch z) e) fun a => (hx a).to fun b hb => .inl (List.mem_append_right _ hb)
    refine h2 M [] _ H I _ (@OkE.mk K X M [] H _ _ (fun L' σ' δ' H' I' f h => ?_) (fun L' σ' δ' v d H' I' f hr h => ?_) (fun _ _ _ _ _ _ h => h.elim) (fun _ _ _ _ _ _ h => h.elim))
    · exact q .non .non H' h (fun b o e => f.ext b o (fun z => nomatch z) e) .non
    · exact q v d H' h (fun b o e => f.ext b o (fun z => nomatch z) e) (hr.to fun b hb => .inl (List.mem_append_right _ hb))
end
end My

namespace My
open PySem PySem.Spec PyProof.Rows L2
/-! ### what R29, R30 (k11) had first: is None of both sides; a call that does not raise this time; a call whose promise is told at the heap's level -/
section
variable {K : PySem.W.Frag} [Xg K] {δ : Store} {ta tb : TE} {tr : TA} {Φ : Dt → Store → Prop}
/-- is None, both sides evaluated -/
def LNon (b : Dt) (P : Prop) : Prop := b = .non ∧ P
theorem lf_non {P : Prop} (q : P) : LNon .non P := ⟨rfl, q⟩
theorem y_isNo (q : W K ta δ fun a δ1 => W K tb δ1 fun b δ2 => LNon b (Φ (.bl a.isN) δ2)) : W K (tOp (fun x y H Q => y = .non ∧ Q (.bl (decide (x = .non))) H) ta tb) δ Φ :=
  w_op q fun M L σ H v u a b δ2 I hv hu hp Q k => by
    obtain ⟨rfl, q⟩ := hp
    refine ⟨hu.inv_non, ?_⟩
    rw [hv.isN]
    exact k _ _ _ _ I (Xt.refl _ _) (.bl _) q
theorem y_notNo (q : W K ta δ fun a δ1 => W K tb δ1 fun b δ2 => LNon b (Φ (.bl (!a.isN)) δ2)) : W K (tOp (fun x y H Q => y = .non ∧ Q (.bl (!decide (x = .non))) H) ta tb) δ Φ :=
  w_op q fun M L σ H v u a b δ2 I hv hu hp Q k => by
    obtain ⟨rfl, q⟩ := hp
    refine ⟨hu.inv_non, ?_⟩
    rw [hv.isN]
    exact k _ _ _ _ I (Xt.refl _ _) (.bl _) q
theorem lf_isY {A B : Prop} (q : A) : if Dt.non.isN = true then A else B := q
def EN : XK := fun _ _ _ => False
theorem passN {X : Cx} (σ : L2.St) : PassesAt (L2.CX X.prog X.w) X σ EN := fun pins H s e s' I c => by
  obtain ⟨_, _, _, _, _, _, _, _, _, _, _, _, z⟩ := c
  exact z.elim
theorem y_callN {T : List Dt → (Dt → Prop) → (Value → List (Str × Dt) → Prop) → Prop} (q : Wa K tr δ fun ds δ1 => T ds (fun d => Φ d δ1) fun _ _ => False) : W K (tCallS (spX K T) (fun _ => EN) tr) δ Φ := fun M L σ H I Q k => q M L σ H I _ fun vs ds δ1 H1 I1 x1 hv q1 =>
  ⟨L ++ M, ds, fun d => Φ d δ1, fun _ _ => False, I1.here, hv, q1, fun v d H' kd e hr => k v d δ1 H' (I1.ext e) (x1.trans (Xt.of e)) hr kd, fun _ _ _ _ he => he.elim⟩
theorem y_cmethN {C : Addr} {T : List Dt → (Dt → Prop) → (Value → List (Str × Dt) → Prop) → Prop} (q : Wa K tr δ fun ds δ1 => T ds (fun d => Φ d δ1) fun _ _ => False) : W K (tCMethS C (spCX K C T) (fun _ => EN) (tC (.ref C)) tr) δ Φ := fun M L σ H I Q k =>
  ⟨rfl, q M L σ H I _ fun vs ds δ1 H1 I1 x1 hv q1 => ⟨vs, rfl, L ++ M, ds, fun d => Φ d δ1, fun _ _ => False, I1.here, hv, q1, fun v d H' kd e hr => k v d δ1 H' (I1.ext e) (x1.trans (Xt.of e)) hr kd, fun _ _ _ _ he => he.elim⟩⟩
/-- a promise of the heap's level, as it is kept of data -/
def Hp1 (K : PySem.W.Frag) (sp : Sp) (X : XK) (ds : List Dt) (κ : Dt → Prop) : Prop := ∀ A vs H, RpL K A H vs ds → (∀ a ∈ A, H a ≠ none) → ∀ Q : VK, (∀ v d H', Ex H H' → Rp K A H' v d → κ d → Q v H') → sp vs H Q X
theorem w_callH {sp : Sp} {X : XK} (q : Wa K tr δ fun ds δ1 => Hp1 K sp X ds fun d => Φ d δ1) : W K (tCall sp [] X tr) δ Φ := fun M L σ H I Q k => q M L σ H I _ fun vs ds δ1 H1 I1 x1 hv q1 => by
  rw [List.append_nil]
  exact q1 (L ++ M) vs H1 hv I1.here _ fun v d H' e hr kd => k v d δ1 H' (I1.ext e) (x1.trans (Xt.of e)) hr kd
end
end My

namespace My
open PySem PySem.Spec PyProof.Rows L2
/-! ### __init__ of so many arguments, some by keyword -/
section
variable {K : PySem.W.Frag} [Xg K] {δ : Store} {tr tk : TA} {Φ : Dt → Store → Prop}
theorem w_makeK {C : Addr} {n m : Nat} {T : List Dt → (List (Str × Dt) → Prop) → Prop} {X : XK} (q : Wa K tr δ fun ds δ1 => Wa K tk δ1 fun es δ2 => ds.length = n ∧ es.length = m ∧ T (ds ++ es) fun gs => Φ (.ins C gs) δ2) : W K (tMakeK C n m (spI K C T) (fun vs zs => vs ++ zs) X tr tk) δ Φ := fun M L σ H I Q k => by
  refine q M L σ H I _ fun vs ds δ1 H1 I1 x1 hv q1 => q1 M L σ H1 I1 _ fun zs es δ2 H2 I2 x2 hz ⟨h1, h2, ht⟩ => ⟨by rw [hv.len]; exact h1, by rw [hz.len]; exact h2, fun x dx fx fdx ne => ?_⟩
  have hvs : RpL K (L ++ M) H2 (vs ++ zs) (ds ++ es) := (hv.mono (xtL x2)).append hz
  have e1 : Ex H2 (upd (upd H2 dx (.own x)) x (.ins C dx [])) := fun b o e => by
    rw [upd_ne (ne_of_none e fx), upd_ne (ne_of_none e fdx)]
    exact e
  exact mk_core I2 x dx fx fdx ne ht _ (Evl.Ex.refl _) _ ((hvs.more fx).mono (Xt.of e1)) (fun v d δ' H' I' x' hr h => k v d δ' H' I' ((x1.trans x2).trans x') hr h)
end
section
variable {K : PySem.W.Frag}
/-- __init__(self, ..) of data -/
theorem ok_initK {P : Program} {w : World} {mg : Str → Option Value} {base : Heap} {x qual : Str} {params : Arguments} {body : List Stmt} {scope : Scope} {dvs : List V} {kws : List (Str × V)} {f C : Addr} {fd : FuncData} {N ps : List Str} {p0 : Str} {k : Nat} {T : List Dt → (List (Str × Dt) → Prop) → Prop} (F : FunD K x qual params body scope dvs kws f fd) (S : FnScope N (p0 :: ps) scope)
    (hl : ∀ ds κ, T ds κ → ds.length = ps.length)
    (hb : ∀ (cdv : Value) (A : Around) (outer : List Env) (s : Shared) (H : Hp) (E : XK) (a : Addr) (ds : List Dt) (κ : List (Str × Dt) → Prop), Room k (A.deeper (envOfC qual scope s.heap.objs.size f cdv)) → T ds κ →
      ∃ t, PSs (cxOf CX0 P w K mg base N qual scope f cdv A outer s H E) body t ∧ Sw K t (.obj a C [] :: store0 (N.length - 1) ds) ⟨fun δ' => ∃ gs, δ'[0]? = some (.obj a C gs) ∧ κ gs, fun _ _ => False, fun _ => False, fun _ => False⟩) : FnOk P w K mg base CX0 (k + 1) f fd (p0 :: ps) (spI K C T) := by
  refine F.ok S (fun vs H Q E h => ?_) (fun cdv A outer s H vs Q E hr h => ?_)
  · obtain ⟨M, a, dx, us, ds, κ, rfl, _, _, _, hv, ht, _⟩ := h
    show us.length + 1 = ps.length + 1
    rw [hv.len, hl ds κ ht]
  · obtain ⟨M, a, dx, us, ds, κ, rfl, ha, na, hM, hv, ht, q⟩ := h
    obtain ⟨t, h1, h2⟩ := hb cdv A outer s H E a ds κ hr ht
    refine ⟨t, h1, ?_⟩
    have I : Ib K M [a] (start N (.ref a :: us)) (.obj a C [] :: store0 (N.length - 1) ds) H := ⟨⟨by
      have := sl_start (N.length - (us.length + 1)) (RpL.to (A := a :: M) (B := [a] ++ M) (fun a h => .inl h) hv)
      have e : N.length - 1 - ds.length = N.length - (us.length + 1) := by rw [hv.len]; omega
      unfold store0
      rw [e]
      exact .cell (.obj ha .nil) this, List.nodup_cons.mpr ⟨(fun z => nomatch z), List.nodup_nil⟩, (fun b z => by rw [List.mem_singleton.mp z]; exact na), hM⟩, okX0⟩
    refine h2 M [a] _ H I _ ⟨fun L' σ' δ' H' I' f ⟨gs, hg, hk⟩ => ?_, fun _ _ _ _ _ _ _ _ _ h => h.elim, fun _ _ _ _ _ _ h => h.elim, fun _ _ _ _ _ _ h => h.elim⟩
    obtain ⟨a', e, ha', o⟩ := I'.sl.get_cell rfl hg
    cases o with
    | obj ho hf =>
      exact q _ _ gs H' hk ho (hf.to fun b hb => .inl (by
        rcases List.mem_cons.mp hb with z | z
        · rw [z]; exact List.mem_append_left _ ha'
        · exact List.mem_append_right _ z)) f.ext
end
end My

namespace My
open PySem PySem.Spec PyProof.Rows L2
/-! ### tables of code objects, a ghost of who makes lambdas -/
def TabA (A : List Addr) (H : Hp) (P : Addr) (q : Str) : Prop := ∃ ps : Array Value, H P = some (.tbl ps) ∧ TriplesOk ps.toList ∧ ∀ (pos : Pos) (cv : Value), codeAmong pos ps.toList = some cv → ∃ c, cv = .ref c ∧ c ∉ A ∧ H c = some (LamX.CodeO c q)
def TabsA (T : List (Addr × Str)) (A : List Addr) (H : Hp) : Prop := ∀ p ∈ T, TabA A H p.1 p.2
theorem TabA.nil {A : List Addr} {H : Hp} {P : Addr} {q : Str} (h : H P = some (.tbl #[])) : TabA A H P q := ⟨#[], h, True.intro, fun pos cv hc => by
  have no : codeAmong pos [] = some cv := hc
  simp [codeAmong] at no⟩
theorem gst_tabs (T : List (Addr × Str)) : Gst (T.map (·.1)) (TabsA T) := by
  refine ⟨fun {A H H'} hx hq h p hp => ?_, fun {A B H} s h p hp => ?_, fun {A H} h a ha => ?_⟩
  · obtain ⟨ps, h1, h2, h3⟩ := h p hp
    refine ⟨ps, (hq _ (List.mem_map.mpr ⟨p, hp, rfl⟩)).trans h1, h2, fun pos cv hc => ?_⟩
    obtain ⟨c, e, n, o⟩ := h3 pos cv hc
    exact ⟨c, e, n, hx _ _ n o⟩
  · obtain ⟨ps, h1, h2, h3⟩ := h p hp
    refine ⟨ps, h1, h2, fun pos cv hc => ?_⟩
    obtain ⟨c, e, n, o⟩ := h3 pos cv hc
    exact ⟨c, e, fun z => (s c z).elim n fun w => (by
      rw [w] at o
      cases o), o⟩
  · obtain ⟨p, hp, rfl⟩ := List.mem_map.mp ha
    obtain ⟨ps, h1, _⟩ := h p hp
    rw [h1]
    exact fun z => nomatch z
section
variable {K : PySem.W.Frag}
theorem SlA.gst_in {A : List Addr} {H : Hp} {as : List Addr} {P : List Addr → Hp → Prop} : ∀ {σ : L2.St} {δ : Store} {L : List Addr} {i : Nat}, SlA K A H σ δ L → δ[i]? = some (.gst as P) → P A H ∧ ∀ b ∈ as, b ∈ L
  | _, _, _, 0, .no t, e => by cases e
  | _, _, _, 0, .dat h t, e => by cases e
  | _, _, _, 0, .cell h t, e => by cases e; cases h
  | _, _, _, 0, .grp h t, e => by cases e; cases h
  | _, _, _, 0, .gst g hp t, e => by cases e; exact ⟨hp, fun b hb => List.mem_append_left _ hb⟩
  | _, _, _, i + 1, .no t, e => t.gst_in (i := i) e
  | _, _, _, i + 1, .dat _ t, e => t.gst_in (i := i) e
  | _, _, _, i + 1, .cell _ t, e => let ⟨h1, h2⟩ := t.gst_in (i := i) e; ⟨h1, fun b hb => .tail _ (h2 b hb)⟩
  | _, _, _, i + 1, .grp _ t, e => let ⟨h1, h2⟩ := t.gst_in (i := i) e; ⟨h1, fun b hb => .tail _ (List.mem_append_right _ (h2 b hb))⟩
  | _, _, _, i + 1, .gst _ _ t, e => let ⟨h1, h2⟩ := t.gst_in (i := i) e; ⟨h1, fun b hb => List.mem_append_right _ (h2 b hb)⟩
/-- the ghost's own objects change -/
theorem SlA.regst {A : List Addr} {H H' : Hp} {as : List Addr} {P : List Addr → Hp → Prop} (hx : Xt A H H') (hp : P A H') : ∀ {σ : L2.St} {δ : Store} {L : List Addr} {i : Nat}, SlA K A H σ δ L → L.Nodup → (∀ b ∈ L, b ∉ as → H' b = H b) → δ[i]? = some (.gst as P) → SlA K A H' σ δ L
  | _, _, _, 0, .no t, nd, q, e => by cases e
  | _, _, _, 0, .dat h t, nd, q, e => by cases e
  | _, _, _, 0, .cell h t, nd, q, e => by cases e; cases h
  | _, _, _, 0, .grp h t, nd, q, e => by cases e; cases h
  | _, _, _, 0, .gst g _ t, nd, q, e => by
    cases e
    have nd3 := List.nodup_append.mp nd
    exact .gst g hp (t.step hx fun b hb => q b (List.mem_append_right _ hb) fun z => nd3.2.2 b z b hb rfl)
  | _, _, _, i + 1, .no t, nd, q, e => .no (t.regst hx hp (i := i) nd q e)
  | _, _, _, i + 1, .dat h t, nd, q, e => .dat (h.mono hx) (t.regst hx hp (i := i) nd q e)
  | _, _, _, i + 1, .cell h t, nd, q, e => by
    have nd2 := List.nodup_cons.mp nd
    exact .cell (h.step hx (q _ (.head _) fun z => nd2.1 ((t.gst_in (i := i) e).2 _ z))) (t.regst hx hp (i := i) nd2.2 (fun b hb => q b (.tail _ hb)) e)
  | _, _, _, i + 1, .grp (a := c) (as := bs) h t, nd, q, e => by
    have nd2 := List.nodup_cons.mp nd
    have nd3 := List.nodup_append.mp nd2.2
    refine .grp (h.step hx fun b hb => ?_) (t.regst hx hp (i := i) nd3.2.1 (fun b hb => q b (.tail _ (List.mem_append_right _ hb))) e)
    rcases List.mem_cons.mp hb with w | w
    · rw [w]
      exact q _ (.head _) fun z => nd2.1 (List.mem_append_right _ ((t.gst_in (i := i) e).2 _ z))
    · exact q _ (.tail _ (List.mem_append_left _ w)) fun z => nd3.2.2 b w b ((t.gst_in (i := i) e).2 _ z) rfl
  | _, _, _, i + 1, .gst (as := bs) g h t, nd, q, e => by
    have nd3 := List.nodup_append.mp nd
    exact .gst g (g.step hx (fun b hb => q _ (List.mem_append_left _ hb) fun z => nd3.2.2 b hb b ((t.gst_in (i := i) e).2 _ z) rfl) h) (t.regst hx hp (i := i) nd3.2.1 (fun b hb => q b (List.mem_append_right _ hb)) e)
end
section
variable {K : PySem.W.Frag} [X : Xg K] {δ : Store} {Φ : Dt → Store → Prop}
/-- making a lambda keeps all but the table -/
theorem Ib.lam {T : List (Addr × Str)} {q : Str} {P c : Addr} {ps : Array Value} {M L : List Addr} {σ : L2.St} {H H1 : Hp} {g : Nat} (hm : (P, q) ∈ T) (hu : ∀ p ∈ T, p.1 = P → p.2 = q) (I : Ib K M L σ δ H) (hg : δ[g]? = some (.gst (T.map (·.1)) (TabsA T))) (hP : H P = some (.tbl ps)) (st : LamTo q P ps H c H1) : Ib K M L σ δ H1 ∧ Xt L H H1 := by
  rcases st with ⟨rfl, _⟩ | ⟨hc, pos, rfl⟩
  · exact ⟨I, Xt.refl _ _⟩
  obtain ⟨tb, sub⟩ := I.sl.gst_in hg
  have inL : P ∈ L := sub P (List.mem_map.mpr ⟨_, hm, rfl⟩)
  have nc : c ∉ L ++ M := I.fresh hc
  have neq : P ≠ c := fun z => by rw [← z, hP] at hc; cases hc
  have hx : ∀ {B : List Addr}, P ∈ B → Xt B H (upd (upd H P (.tbl (ps ++ #[rawInt pos.line, rawInt pos.col, .ref c]))) c (LamX.CodeO c q)) := fun {B} hB b o nb e => by
    rw [upd_ne (ne_of_none e hc), upd_ne (fun z => nb (by rw [z]; exact hB))]
    exact e
  have same : ∀ b, H b ≠ none → b ≠ P → (upd (upd H P (.tbl (ps ++ #[rawInt pos.line, rawInt pos.col, .ref c]))) c (LamX.CodeO c q)) b = H b := fun b hb nb => by
    rw [upd_ne (fun z => hb (by rw [z]; exact hc)), upd_ne nb]
  refine ⟨⟨⟨I.sl.regst (hx (List.mem_append_left _ inL)) (fun p hp => ?_) I.nd (fun b hb nb => same b (I.sl.here b hb) fun z => nb (by rw [z]; exact List.mem_map.mpr ⟨_, hm, rfl⟩)) hg, I.nd, I.lm, fun a ha => ?_⟩, I.gx.go (Fr.of_xt (hx inL))⟩, hx inL⟩
  · obtain ⟨ps2, h1, h2, h3⟩ := tb p hp
    by_cases hpP : p.1 = P
    · rw [hpP, hP] at h1
      cases h1
      have e2 := hu p hp hpP
      refine ⟨_, by rw [hpP, upd_ne neq, upd_same], by
        rw [Array.toList_append]
        exact PySem.TriplesOk_snoc _ _ _ _ h2, fun pos' cv hcv => ?_⟩
      rw [Array.toList_append] at hcv
      rcases LamX.among_app _ h2 hcv with z | z
      · obtain ⟨c0, e, n0, o0⟩ := h3 pos' cv z
        exact ⟨c0, e, n0, hx (List.mem_append_left _ inL) _ _ n0 o0⟩
      · exact ⟨c, z, nc, by rw [e2, upd_same]⟩
    · refine ⟨ps2, (same _ (by rw [h1]; exact fun z => nomatch z) hpP).trans h1, h2, fun pos' cv hcv => ?_⟩
      obtain ⟨c0, e, n0, o0⟩ := h3 pos' cv hcv
      exact ⟨c0, e, n0, hx (List.mem_append_left _ inL) _ _ n0 o0⟩
  · rw [same a (I.out a ha) fun z => I.lm P inL (by rw [← z]; exact ha)]
    exact I.out a ha
theorem w_lam {T : List (Addr × Str)} {q : Str} {P : Addr} {TT : (XK → Hp → VK → Prop) → Hp → VK → Prop} {t : XK → TE} {g : Nat} (hm : (P, q) ∈ T) (hu : ∀ p ∈ T, p.1 = P → p.2 = q) (hg : δ[g]? = some (.gst (T.map (·.1)) (TabsA T)))
    (h : ∀ M L σ H, Ib K M L σ δ H → ∀ Q : VK, (∀ v d δ' H', Ib K M L σ δ' H' → Xt L H H' → Rp K (L ++ M) H' v d → Φ d δ' → Q v H') → TT (fun E H' Q' => t E σ H' Q') H Q) : W K (tLamM q P TT t) δ Φ := fun M L σ H I Q k => by
  obtain ⟨ps, h1, h2, h3⟩ := (I.sl.gst_in hg).1 _ hm
  refine ⟨ps, ⟨h1, h2, fun pos cv hc => ?_⟩, fun c H1 st hc => ?_⟩
  · obtain ⟨c, e, _, o⟩ := h3 pos cv hc
    exact ⟨c, e, o⟩
  · obtain ⟨I1, x1⟩ := I.lam hm hu hg h1 st
    exact h M L σ H1 I1 Q fun v d δ' H' I' x' hr hf => k v d δ' H' I' (x1.trans x') hr hf
/-! ### several clauses -/
def WCls (K : PySem.W.Frag) [Xg K] (cls : Value) (gs : List (Str × Dt)) (δ : Store) (E : En) : List Cl → Prop
  | [] => False
  | l :: r => ∃ b, PySem.W.exmOne K cls l.c = some b ∧ if b = true then ∀ a dx, (match l.nm with | none => Sw K (l.ts a cls dx) δ E | some i => Sw K (l.ts a cls dx) (δ.set i (.dat (.exc a dx gs))) (clE E i)) else WCls K cls gs δ E r
theorem wcl_no {cls : Value} {gs : List (Str × Dt)} {E : En} {l : Cl} {r : List Cl} (he : PySem.W.exmOne K cls l.c = some false) (h : WCls K cls gs δ E r) : WCls K cls gs δ E (l :: r) := ⟨false, he, h⟩
theorem wcl_bare {cls c : Value} {gs : List (Str × Dt)} {E : En} {ts : Addr → Value → Option Addr → TS} {r : List Cl} (he : PySem.W.exmOne K cls c = some true) (h : ∀ a dx, Sw K (ts a cls dx) δ E) : WCls K cls gs δ E (⟨c, none, ts⟩ :: r) := ⟨true, he, h⟩
theorem wcl_name {cls c : Value} {gs : List (Str × Dt)} {i : Nat} {n b c' : Store → Prop} {rt : Dt → Store → Prop} {ts : Addr → Value → Option Addr → TS} {r : List Cl} (he : PySem.W.exmOne K cls c = some true) (h : ∀ a dx, Sw K (ts a cls dx) (δ.set i (.dat (.exc a dx gs))) ⟨fun δ => n (δ.set i .no), rt, fun δ => b (δ.set i .no), fun δ => c' (δ.set i .no)⟩) : WCls K cls gs δ ⟨n, rt, b, c'⟩ (⟨c, some i, ts⟩ :: r) := ⟨true, he, h⟩
theorem wcls_run {M L : List Addr} {σ : L2.St} {H : Hp} {D : Ends} {W0 : WX} {E : En} {cls : Value} {dx : Option Addr} {gs : List (Str × Dt)} (I : Ib K M L σ δ H) (k : OkE K M L H E D) (hx : XdAt K (L ++ M) H dx gs) : ∀ {ls : List Cl}, WCls K cls gs δ E ls → wCls K W0 D ls cls dx σ H
  | [], w => w.elim
  | ⟨c, none, ts⟩ :: r, ⟨b, hb, h⟩ => ⟨b, hb, by
    cases b with
    | true => exact fun a _ => h a dx M L σ H I D k
    | false => exact wcls_run I k hx h⟩
  | ⟨c, some i, ts⟩ :: r, ⟨b, hb, h⟩ => ⟨b, hb, by
    cases b with
    | true =>
      intro a _
      obtain ⟨L2, I2, f2⟩ := I.setD i (hx a)
      exact h a dx M L2 _ H I2 _ ((k.go f2).cl i)
    | false => exact wcls_run I k hx h⟩
/-! ### try: x() / clauses, then the rest -/
def TMet (K : PySem.W.Frag) (N : List Str) (n : Nat) (ls : List Cl) (rest : TS) (q : Str) : (XK → Hp → VK → Prop) → Hp → VK → Prop := fun tl H Q => ∀ f c', H c' = some (LamX.CodeO c' q) → tSeq (tTryM K (fun W => tDrop (tAct n f c' q tl W)) ls fun _ _ _ _ => False) rest { nx := fun _ H' => Q .non H', rt := Q } (start N [.ref f]) H
theorem slno {A : List Addr} {H : Hp} : ∀ σ : L2.St, SlA K A H σ (List.replicate σ.length .no) []
  | [] => .nil
  | _ :: σ => .no (slno σ)
def Sd.hide : Sd → Sd
  | .dat d => .dat d
  | _ => .no
theorem SlA.hide {A : List Addr} {H : Hp} : ∀ {σ : L2.St} {δ : Store} {L : List Addr}, SlA K A H σ δ L → SlA K A H σ (δ.map Sd.hide) []
  | _, _, _, .nil => .nil
  | _, _, _, .no t => .no t.hide
  | _, _, _, .dat h t => .dat h t.hide
  | _, _, _, .cell h t => by cases h <;> exact .no t.hide
  | _, _, _, .grp h t => by cases h <;> exact .no t.hide
  | _, _, _, .gst _ _ t => .no t.hide
/-- x(lambda: ..), where x tries it: the lambda's body sees the maker's data alone -/
theorem w_met {T : List (Addr × Str)} {q : Str} {P : Addr} {N : List Str} {n : Nat} {ls : List Cl} {rest : TS} {t : XK → TE} {g : Nat} {δ0 : Store} (ε : Value → List (Str × Dt) → Prop) (hm : (P, q) ∈ T) (hu : ∀ p ∈ T, p.1 = P → p.2 = q) (hg : δ[g]? = some (.gst (T.map (·.1)) (TabsA T))) (hh : δ.map Sd.hide = δ0)
    (hn : ∀ f : Addr, (start N [V.ref f]).length = n) (h0 : ∀ f : Addr, (start N [V.ref f])[0]? = some (some (V.ref f)))
    (hb : ∀ (X' : Xg K) (E : XK), X'.wx = (fun cls d _ H => E cls d H) → (∀ cls gs δ', ε cls gs → X'.ε cls gs δ') → @W K X' (t E) δ0 fun _ _ => @Sw K (xg0 K) rest (List.replicate n .no) ⟨fun _ => Φ .non δ, fun r _ => Φ r δ, fun _ => False, fun _ => False⟩)
    (hx : ∀ cls gs, ε cls gs → @WCls K (xg0 K) cls gs (List.replicate n .no) ⟨fun _ => False, fun r _ => Φ r δ, fun _ => False, fun _ => False⟩ ls) : W K (tLamM q P (TMet K N n ls rest q) t) δ Φ := by
  refine w_lam hm hu hg fun M L σ H I Q k f c' hc => ?_
  /- the answer of the rest, or of a clause, is the maker's value -/
  have fin : ∀ {H1 H' : Hp} {v : V} {d : Dt} {L' : List Addr}, Ex H H1 → Fr [] H1 L' H' → Rp K (L' ++ (L ++ M)) H' v d → Φ d δ → Q v H' := fun {H1 H' v d L'} e1 f hr hf => by
    have e : Ex H H' := e1.trans fun b o e => f.ext b o (fun z => nomatch z) e
    exact k v d δ H' (I.ext e) (Xt.of e) (hr.to fun b hb => .inl (List.mem_append_right _ hb)) hf
  have okE : ∀ {H1 : Hp} {N1 : Store → Prop} {nx : L2.St → Hp → Prop}, Ex H H1 → (∀ L' σ' δ' H', @Ib K (xg0 K) (L ++ M) L' σ' δ' H' → Fr [] H1 L' H' → N1 δ' → nx σ' H') → @OkE K (xg0 K) (L ++ M) [] H1 ⟨N1, fun r _ => Φ r δ, fun _ => False, fun _ => False⟩ { nx := nx, rt := Q } := fun {H1 N1 nx} e1 hN =>
    @OkE.mk K (xg0 K) (L ++ M) [] H1 ⟨N1, fun r _ => Φ r δ, fun _ => False, fun _ => False⟩ { nx := nx, rt := Q } hN (fun L' σ' δ' v d H' _ f hr h => fin e1 f hr h) (fun _ _ _ _ _ _ h => h.elim) (fun _ _ _ _ _ _ h => h.elim)
  have ib : ∀ {H1 : Hp} (σ' : L2.St), σ'.length = n → Ex H H1 → @Ib K (xg0 K) (L ++ M) [] σ' (List.replicate n .no) H1 := fun {H1} σ' hl e1 => @Ib.mk K (xg0 K) (L ++ M) [] σ' _ H1 ⟨by rw [← hl]; exact slno σ', List.nodup_nil, (fun _ z => nomatch z), (I.ext e1).here⟩ okX0
  obtain ⟨E, hE⟩ : ∃ E : XK, E = fun cls d H' => ∀ σ' : L2.St, σ'.length = n → wCls K (fun _ _ _ _ => False) { nx := fun σ' H' => rest { nx := fun _ H' => Q .non H', rt := Q } σ' H', rt := Q } ls cls d σ' H' := ⟨_, rfl⟩
  refine ⟨E, fun cls d σ' H' he hl => by rw [hE] at he; exact he σ' hl, h0 f, hc, ?_⟩
  refine hb (xgT K (fun cls gs _ => ε cls gs) fun cls d _ H => E cls d H) E rfl (fun _ _ _ h => h) (L ++ M) [] σ H (@Ib.mk K (xgT K (fun cls gs _ => ε cls gs) fun cls d _ H => E cls d H) (L ++ M) [] σ δ0 H ⟨by rw [← hh]; exact I.sl.hide, List.nodup_nil, (fun _ z => nomatch z), I.here⟩ fun L' σ' δ' cls dx gs H' I' f' hxd he => ?_) _ fun v d δ1 H1 I1 x1 hr hs => ?_
  · have e1 : Ex H H' := fun b o e => f'.ext b o (fun z => nomatch z) e
    show E cls dx H'
    rw [hE]
    intro σ2 hl2
    exact @wcls_run K (xg0 K) _ (L ++ M) [] σ2 H' _ _ _ cls dx gs (ib σ2 hl2 e1) (okE e1 fun _ _ _ _ _ _ h => h.elim) (fun a => (hxd a).to fun b hb => .inl (List.mem_append_right _ hb)) ls (hx cls gs he)
  · have e1 : Ex H H1 := fun b o e => x1 b o (fun z => nomatch z) e
    exact hs (L ++ M) [] _ H1 (ib _ (hn f) e1) _ (okE e1 fun L' σ' δ' H' _ f h => fin e1 f .non h)
end
end My

namespace My
open PySem PySem.Spec PyProof.Rows L2
/-! ### calls that may raise, where the wish does not look at the slots -/
theorem passX {X : Cx} {E : XK} (tk : Takes X fun cls d _ H => E cls d H) : Passes (L2.CX X.prog X.w) X E := passes_call tk fun _ _ _ _ h => h
theorem passX0 {X : Cx} : Passes (L2.CX X.prog X.w) X EN := fun pins σ H s e s' I c => passN σ pins H s e s' I c
/-- __init__ that may raise -/
def spIX (K : PySem.W.Frag) (C : Addr) (T : List Dt → (List (Str × Dt) → Prop) → (Value → List (Str × Dt) → Prop) → Prop) : Sp := fun vs H Q E => ∃ (M : List Addr) (a dx : Addr) (us : List V) (ds : List Dt) (k : List (Str × Dt) → Prop) (ε : Value → List (Str × Dt) → Prop), vs = .ref a :: us ∧ H a = some (.ins C dx []) ∧ a ∉ M ∧ (∀ b ∈ M, H b ≠ none) ∧ RpL K (a :: M) H us ds ∧ T ds k ε ∧
  (∀ dx' fs gs H', k gs → H' a = some (.ins C dx' fs) → RpF K (a :: M) H' fs gs → Xt [a] H H' → Q .non H') ∧ ∀ cls dx gs H', ε cls gs → Xt [a] H H' → XdAt K M H' dx gs → E cls dx H'
section
variable {K : PySem.W.Frag} [X : Xg K] {δ : Store} {ta tb te : TE} {tr : TA} {Φ : Dt → Store → Prop} {E0 : XK} {ε' : Store → Value → List (Str × Dt) → Prop}
/-- what may be raised is what may pass -/
def Pas (K : PySem.W.Frag) [X : Xg K] (E0 : XK) (ε' : Store → Value → List (Str × Dt) → Prop) : Prop := ∀ δ cls gs, ε' δ cls gs → X.ε cls gs δ ∧ ∀ d σ H, X.wx cls d σ H → E0 cls d H
theorem pas_x (hW : X.wx = fun cls d _ H => E0 cls d H) : Pas K E0 fun δ cls gs => X.ε cls gs δ := fun δ cls gs h => ⟨h, fun d σ H w => by rw [hW] at w; exact w⟩
theorem pas_n : Pas K E0 fun _ _ _ => False := fun _ _ _ h => h.elim
theorem Pas.go (hP : Pas K E0 ε') {M L : List Addr} {σ : L2.St} {H H' : Hp} {cls : Value} {dx : Option Addr} {gs : List (Str × Dt)} (I : Ib K M L σ δ H) (h : ε' δ cls gs) (e : Ex H H') (hx : XdAt K (L ++ M) H' dx gs) : E0 cls dx H' :=
  (hP δ cls gs h).2 _ _ _ (I.gx L σ δ cls dx gs H' (I.ext e).toIb0 (Fr.of_xt (Xt.of e)) hx (hP δ cls gs h).1)
theorem z_meth {C : Addr} {m : Str} {T : List Dt → (Dt → Prop) → (Value → List (Str × Dt) → Prop) → Prop} (hP : Pas K E0 ε') (q : W K te δ fun o δ1 => LIns C o fun gs => gs.lookup m = none ∧ Wa K tr δ1 fun ds δ2 => T (.ins C gs :: ds) (fun d => Φ d δ2) (ε' δ2)) : W K (tMeth C m (spX K T) [] E0 te tr) δ Φ := fun M L σ H I Q k => q M L σ H I _ fun v o δ1 H1 I1 x1 hv q1 => by
  obtain ⟨gs, rfl, hl, q1⟩ := q1
  obtain ⟨a, dx, fs, rfl, na, ha, hf⟩ := id hv.inv_ins
  refine ⟨a, dx, fs, rfl, ha, hf.none hl, q1 M L σ H1 I1 _ fun vs ds δ2 H2 I2 x2 hvs q2 => ?_⟩
  rw [List.append_nil]
  exact ⟨L ++ M, .ins C gs :: ds, fun d => Φ d δ2, ε' δ2, I2.here, .cons (hv.mono (xtL x2)) hvs, q2, fun v d H' kd e hr => k v d δ2 H' (I2.ext e) ((x1.trans x2).trans (Xt.of e)) hr kd, fun cls dx gs H' he e hx => hP.go I2 he e hx⟩
theorem z_ownB {C : Addr} {T : List Dt → (Dt → Prop) → (Value → List (Str × Dt) → Prop) → Prop} (hP : Pas K E0 ε') (q : W K ta δ fun a δ1 => W K tb δ1 fun b δ2 => LIns2 C a b (T [a, b] (fun d => Φ d δ2) (ε' δ2))) : W K (tOp (rOwnB C (spX K T) E0) ta tb) δ Φ :=
  w_op q fun M L σ H v u a b δ2 I hv hu hp Q k => by
    obtain ⟨gs, hs, rfl, rfl, q⟩ := hp
    obtain ⟨x, dx, fs, rfl, _, hx, _⟩ := hv.inv_ins
    obtain ⟨y, dy, fs', rfl, _, hy, _⟩ := hu.inv_ins
    exact ⟨x, y, dx, dy, fs, fs', rfl, rfl, hx, hy, L ++ M, _, fun d => Φ d δ2, ε' δ2, I.here, .cons hv (.cons hu .nil), q, fun v d H' kd e hr => k v d δ2 H' (I.ext e) (Xt.of e) hr kd, fun cls dx gs H' he e hx => hP.go I he e hx⟩
theorem z_cmeth {C : Addr} {T : List Dt → (Dt → Prop) → (Value → List (Str × Dt) → Prop) → Prop} (hP : Pas K E0 ε') (q : Wa K tr δ fun ds δ1 => T ds (fun d => Φ d δ1) (ε' δ1)) : W K (ClX.tCMeth C (spCX K C T) E0 (tC (.ref C)) tr) δ Φ := fun M L σ H I Q k =>
  ⟨rfl, q M L σ H I _ fun vs ds δ1 H1 I1 x1 hvs q1 => ⟨vs, rfl, L ++ M, ds, fun d => Φ d δ1, ε' δ1, I1.here, hvs, q1, fun v d H' kd e hr => k v d δ1 H' (I1.ext e) (x1.trans (Xt.of e)) hr kd, fun cls dx gs H' he e hx => hP.go I1 he e hx⟩⟩
theorem z_call {T : List Dt → (Dt → Prop) → (Value → List (Str × Dt) → Prop) → Prop} (hP : Pas K E0 ε') (q : Wa K tr δ fun ds δ1 => T ds (fun d => Φ d δ1) (ε' δ1)) : W K (tCall (spX K T) [] E0 tr) δ Φ := fun M L σ H I Q k => q M L σ H I _ fun vs ds δ1 H1 I1 x1 hvs q1 => by
  rw [List.append_nil]
  exact ⟨L ++ M, ds, fun d => Φ d δ1, ε' δ1, I1.here, hvs, q1, fun v d H' kd e hr => k v d δ1 H' (I1.ext e) (x1.trans (Xt.of e)) hr kd, fun cls dx gs H' he e hx => hP.go I1 he e hx⟩
theorem mk_coreX {C : Addr} {T : List Dt → (List (Str × Dt) → Prop) → (Value → List (Str × Dt) → Prop) → Prop} {M L : List Addr} {σ : L2.St} {H : Hp} {Q : VK} {ds : List Dt} (hP : Pas K E0 ε') (I : Ib K M L σ δ H) (x dx : Addr) (hx : H x = none) (hdx : H dx = none) (ht : T ds (fun gs => Φ (.ins C gs) δ) (ε' δ))
    (H2 : Hp) (e2 : Ex (upd (upd H dx (.own x)) x (.ins C dx [])) H2) (us' : List V) (hv' : RpL K (x :: (L ++ M)) H2 us' ds)
    (k : ∀ v d δ' H', Ib K M L σ δ' H' → Xt L H H' → Rp K (L ++ M) H' v d → Φ d δ' → Q v H') : spIX K C T (V.ref x :: us') H2 (fun v H3 => v = .non ∧ Q (.ref x) H3) E0 := by
  have e3 : Ex H H2 := fun b o e => e2 _ _ (by
    rw [upd_ne (ne_of_none e hx), upd_ne (ne_of_none e hdx)]
    exact e)
  have e4 : ∀ {H' : Hp}, Xt [x] H2 H' → Ex H H' := fun {H'} xx b o e => xx b o (fun z => ne_of_none e hx (List.mem_singleton.mp z)) (e3 b o e)
  refine ⟨L ++ M, x, dx, us', ds, fun gs => Φ (.ins C gs) δ, ε' δ, rfl, e2 _ _ upd_same, I.fresh hx, fun b hb => by rw [ex_at e3 (I.here b hb)]; exact I.here b hb, hv', ht, fun dx' fs gs H' kg hxa hf xx => ⟨rfl, ?_⟩, fun cls d gs H' he xx hxd => hP.go I he (e4 xx) hxd⟩
  exact k (.ref x) (.ins C gs) δ H' (I.ext (e4 xx)) (Xt.of (e4 xx)) (.ins (I.fresh hx) hxa (hf.to fun b hb => .inl (.tail _ hb))) kg
theorem z_makeSK {C : Addr} {T : List Dt → (List (Str × Dt) → Prop) → (Value → List (Str × Dt) → Prop) → Prop} (hP : Pas K E0 ε') (q : W K te δ fun d δ1 => LItsZ d fun ds => T [.tup ds] (fun gs => Φ (.ins C gs) δ1) (ε' δ1)) : W K (tMakeS K C (spStar (spIX K C T)) E0 te) δ Φ := fun M L σ H I Q k => q M L σ H I _ fun v d δ1 H1 I1 x1 hv q1 => by
  obtain ⟨ds, hd, hz, ht⟩ := q1
  obtain ⟨p, xs, rfl, hx, hl⟩ := hv.its hd
  refine ⟨p, xs, rfl, hx.symm, fun x dx fx fdx ne => ⟨[V.ref x], xs, rfl, rfl, sz_of (by rw [hl.len]; exact hz), fun r fr => ?_⟩⟩
  have e1 : Ex H1 (upd (upd H1 dx (.own x)) x (.ins C dx [])) := fun b o e => by
    rw [upd_ne (ne_of_none e fx), upd_ne (ne_of_none e fdx)]
    exact e
  have e2 : Ex (upd (upd H1 dx (.own x)) x (.ins C dx [])) (upd (upd (upd H1 dx (.own x)) x (.ins C dx [])) r (.tup xs)) := Evl.Ex.new fr
  have fr1 : H1 r = none := by
    cases q : H1 r with
    | none => rfl
    | some o => rw [e1 _ _ q] at fr; cases fr
  have nr : r ≠ x := fun z => by
    rw [z, upd_same] at fr
    cases fr
  refine mk_coreX (ds := [.tup ds]) hP I1 x dx fx fdx ht _ e2 _ (.cons (.tup (fun z => ?_) (.inl upd_same) ((hl.more fx).mono (Xt.of (e1.trans e2)))) .nil) (fun v d δ' H' I' x' hr h => k v d δ' H' I' (x1.trans x') hr h)
  rcases List.mem_cons.mp z with w | w
  · exact nr w
  · exact I1.fresh fr1 w
/-- C() -/
theorem z_make0 {C : Addr} {T : List Dt → (List (Str × Dt) → Prop) → (Value → List (Str × Dt) → Prop) → Prop} (hP : Pas K E0 ε') (q : T [.tup []] (fun gs => Φ (.ins C gs) δ) (ε' δ)) : W K (StX.tMakeR C (spStar (spIX K C T)) E0 tNil) δ Φ := fun M L σ H I Q k x dx fx fdx ne => ⟨[V.ref x], [], rfl, rfl, Nat.zero_le _, fun r fr => by
  have e1 : Ex H (upd (upd H dx (.own x)) x (.ins C dx [])) := fun b o e => by
    rw [upd_ne (ne_of_none e fx), upd_ne (ne_of_none e fdx)]
    exact e
  have fr1 : H r = none := by
    cases q : H r with
    | none => rfl
    | some o => rw [e1 _ _ q] at fr; cases fr
  have nr : r ≠ x := fun z => by
    rw [z, upd_same] at fr
    cases fr
  refine mk_coreX (ds := [.tup []]) hP I x dx fx fdx q _ (Evl.Ex.new fr) _ (.cons (.tup (fun z => ?_) (.inl upd_same) .nil) .nil) (fun v d δ' H' I' x' hr h => k v d δ' H' I' x' hr h)
  rcases List.mem_cons.mp z with w | w
  · exact nr w
  · exact I.fresh fr1 w⟩
end
section
variable {P : Program} {w : World} {K : PySem.W.Frag} {mg : Str → Option Value} {base : Heap}
/-- __init__(self, *args) that may raise -/
theorem ok_initX {x qual : Str} {st : Stmt} {f C : Addr} {fd : FuncData} {N : List Str} {p0 pv : Str} {k : Nat} {T : List Dt → (List (Str × Dt) → Prop) → (Value → List (Str × Dt) → Prop) → Prop} (F : Fun K x qual st f fd) (S : FnScope N ([p0] ++ [pv]) (defScope st))
    (hbind : ∀ us rest : List Value, us.length = [p0].length → bindArgs fd ⟨us ++ rest, []⟩ = (newTuple rest >>= fun t => pure (([p0] : List Str).zip us ++ [((pv : Str), t)])))
    (hl : ∀ ds κ ε, T ds κ ε → ∃ es, ds = [.tup es])
    (hb : ∀ (cdv : Value) (A : Around) (outer : List Env) (s : Shared) (H : Hp) (E : XK) (a : Addr) (ds : List Dt) (κ : List (Str × Dt) → Prop) (ε : Value → List (Str × Dt) → Prop) (X : Xg K), Room k (A.deeper (envOfC qual (defScope st) s.heap.objs.size f cdv)) → T [.tup ds] κ ε → X.wx = (fun cls d _ H => E cls d H) → (∀ cls gs δ, ε cls gs → X.ε cls gs δ) →
      ∃ t, PSs (cxOf (L2.CX P w) P w K mg base N qual (defScope st) f cdv A outer s H E) (defBody st) t ∧ Sw K t (.obj a C [] :: .dat (.tup ds) :: List.replicate (N.length - 2) .no) ⟨fun δ' => ∃ gs, δ'[0]? = some (.obj a C gs) ∧ κ gs, fun _ _ => False, fun _ => False, fun _ => False⟩) : FnR P w K mg base (L2.CX P w) (k + 1) f (spStar (spIX K C T)) := by
  obtain ⟨oc, od, kV, doc, pm, an, cdv, ct, osl, rfl, lk, hcd⟩ := F.ex
  refine StX.fn_star (ps := [p0]) lk hcd S StX.cxUp hbind fun A outer s H vs Q E hr h => ?_
  obtain ⟨M, a, dx, us, ds, κ, ε, rfl, ha, na, hM, hu, ht, q, qx⟩ := h
  obtain ⟨es, rfl⟩ := hl ds κ ε ht
  let X : Xg K := ⟨fun cls gs _ => ε cls gs, fun cls d _ H => E cls d H⟩
  obtain ⟨t, h1, h2⟩ := hb cdv A outer s H E a es κ ε X hr ht rfl (fun _ _ _ h => h)
  refine ⟨t, h1, ?_⟩
  cases hu with
  | @cons v _ _ _ hv tl =>
    cases tl
    have sub : ∀ {L' : List Addr}, a ∈ L' → ∀ b ∈ a :: M, b ∈ L' ++ M := fun {L'} ha' b hb => by
      rcases List.mem_cons.mp hb with z | z
      · rw [z]; exact List.mem_append_left _ ha'
      · exact List.mem_append_right _ z
    have I : @Ib K X M [a] (start N [.ref a, v]) (.obj a C [] :: .dat (.tup es) :: List.replicate (N.length - 2) .no) H := @Ib.mk K X M [a] _ _ H ⟨.cell (.obj ha .nil) (.dat hv (by
      have := slno (K := K) (A := [a] ++ M) (H := H) (List.replicate (N.length - 2) none)
      rw [List.length_replicate] at this
      exact this)), List.nodup_cons.mpr ⟨(fun z => nomatch z), List.nodup_nil⟩, (fun b z => by rw [List.mem_singleton.mp z]; exact na), hM⟩ fun L' σ' δ' cls dx gs H' I' f hx he => qx cls dx gs H' he f.ext fun e => (hx e).to fun b hb => .inl (List.mem_append_right _ hb)
    · refine h2 M [a] _ H I _ (@OkE.mk K X M [a] H _ _ (fun L' σ' δ' H' I' f ⟨gs, hg, hk⟩ => ?_) (fun _ _ _ _ _ _ _ _ _ h => h.elim) (fun _ _ _ _ _ _ h => h.elim) (fun _ _ _ _ _ _ h => h.elim))
      obtain ⟨a', e, ha', o⟩ := I'.sl.get_cell rfl hg
      cases o with
      | obj ho hf => exact q _ _ gs H' hk ho (hf.to fun b hb => .inl (sub ha' b hb)) f.ext
end
end My

namespace My
open PySem PySem.Spec PyProof.Rows L2
/-! ### a def that draws and makes lambdas -/
theorem TabsA.to {T : List (Addr × Str)} {A B : List Addr} {H : Hp} (h : TabsA T A H) (s : ∀ a, a ∈ B → a ∈ A ∨ H a = none) : TabsA T B H := (gst_tabs T).to s h
theorem TabsA.step {T : List (Addr × Str)} {A : List Addr} {H H' : Hp} (h : TabsA T A H) (x : Xt A H H') (q : ∀ b ∈ T.map (·.1), H' b = H b) : TabsA T A H' := (gst_tabs T).step x q h
theorem TabsA.ex {T : List (Addr × Str)} {A : List Addr} {H H' : Hp} (h : TabsA T A H) (x : Ex H H') : TabsA T A H' := h.step (Xt.of x) fun b hb => ex_at x ((gst_tabs T).here h b hb)
def spT (K : PySem.W.Frag) (T : List (Addr × Str)) (Tm : (Dt → Prop) → Prop) : Sp := fun vs H Q _ => ∃ (M : List Addr) (g : Addr) (κ : Dt → Prop), vs = [.ref g] ∧ Dice H g ∧ g ∉ M ∧ g ∉ T.map (·.1) ∧ (∀ a ∈ M, H a ≠ none) ∧ (∀ a ∈ T.map (·.1), a ∉ M) ∧ (T.map (·.1)).Nodup ∧ Tm κ ∧ TabsA T (g :: (T.map (·.1) ++ M)) H ∧
  ∀ v d H', κ d → Xt (g :: T.map (·.1)) H H' → Dice H' g → TabsA T (g :: (T.map (·.1) ++ M)) H' → Rp K (g :: (T.map (·.1) ++ M)) H' v d → Q v H'
section
variable {P : Program} {w : World} {K : PySem.W.Frag} {mg : Str → Option Value} {base : Heap}
theorem ok_diceT {c : Addr} {x qual : Str} {st : Stmt} {f : Addr} {fd : FuncData} {N : List Str} {p0 : Str} {k m : Nat} {T : List (Addr × Str)} {Tm : (Dt → Prop) → Prop} (F : FunC K c x qual st f fd) (S : FnScope N [p0] (defScope st)) (hN : N.length = m + 2)
    (hb : ∀ (A : Around) (outer : List Env) (s : Shared) (H : Hp) (E : XK) (g : Addr) (κ : Dt → Prop), Room k (A.deeper (envOfC qual (defScope st) s.heap.objs.size f (.ref c))) → Tm κ →
      ∃ t, PSs (cxOf CX0 P w K mg base N qual (defScope st) f (.ref c) A outer s H E).nox (defBody st) t ∧ Sw K t (.dice g :: (List.replicate m .no ++ [.gst (T.map (·.1)) (TabsA T)])) ⟨fun δ' => δ'[0]? = some (.dice g) ∧ δ'[m + 1]? = some (.gst (T.map (·.1)) (TabsA T)) ∧ κ .non, fun d δ' => δ'[0]? = some (.dice g) ∧ δ'[m + 1]? = some (.gst (T.map (·.1)) (TabsA T)) ∧ κ d, fun _ => False, fun _ => False⟩) : FnOk P w K mg base CX0 (k + 1) f fd [p0] (spT K T Tm) := by
  refine F.ok S (fun vs H Q E h => ?_) (fun A outer s H vs Q E hr h => ?_)
  · obtain ⟨M, g, κ, rfl, _⟩ := h
    rfl
  · obtain ⟨M, g, κ, rfl, hd, ng, ngT, hM, hTM, hnd, ht, tb, q⟩ := h
    obtain ⟨t, h1, h2⟩ := hb A outer s H E g κ hr ht
    refine ⟨t, h1, ?_⟩
    have reps : ∀ m, SlA K (g :: T.map (·.1) ++ M) H (List.replicate m none ++ [none]) (List.replicate m Sd.no ++ [.gst (T.map (·.1)) (TabsA T)]) (T.map (·.1)) := fun m => by
      induction m with
      | zero =>
        have z : SlA K (g :: T.map (·.1) ++ M) H [none] [.gst (T.map (·.1)) (TabsA T)] (T.map (·.1) ++ []) := .gst (gst_tabs T) tb .nil
        rw [List.append_nil] at z
        exact z
      | succ m ih => exact .no ih
    have es : start N [V.ref g] = some (.ref g) :: (List.replicate m none ++ [none]) := by
      unfold L2.start
      rw [hN]
      show some (V.ref g) :: List.replicate (m + 1) none = _
      rw [List.replicate_succ']
    have I : Ib K M (g :: T.map (·.1)) (start N [.ref g]) (.dice g :: (List.replicate m .no ++ [.gst (T.map (·.1)) (TabsA T)])) H := by
      rw [es]
      refine ⟨⟨.cell (.dice hd) (reps m), List.nodup_cons.mpr ⟨ngT, hnd⟩, (fun a z => ?_), hM⟩, okX0⟩
      rcases List.mem_cons.mp z with e | e
      · rw [e]; exact ng
      · exact hTM a e
    have fin : ∀ L' σ' δ' v d H', Ib K M L' σ' δ' H' → Fr (g :: T.map (·.1)) H L' H' → Rp K (L' ++ M) H' v d → δ'[0]? = some (.dice g) ∧ δ'[m + 1]? = some (.gst (T.map (·.1)) (TabsA T)) ∧ κ d → Q v H' := fun L' σ' δ' v d H' I' f hr h => by
      obtain ⟨a, _, ha, o⟩ := I'.sl.get_cell rfl h.1
      obtain ⟨tb', sub⟩ := I'.sl.gst_in h.2.1
      cases o with
      | dice hd' =>
        have s : ∀ b, b ∈ g :: (T.map (·.1) ++ M) → b ∈ L' ++ M ∨ H' b = none := fun b hb => .inl (by
          rcases List.mem_cons.mp hb with rfl | z
          · exact List.mem_append_left _ ha
          · rcases List.mem_append.mp z with z | z
            · exact List.mem_append_left _ (sub b z)
            · exact List.mem_append_right _ z)
        exact q v d H' h.2.2 f.ext hd' (tb'.to s) (hr.to s)
    exact h2 M _ _ H I _ ⟨fun L' σ' δ' H' I' f h => fin L' σ' δ' .non .non H' I' f .non h, fun L' σ' δ' v d H' I' f hr h => fin L' σ' δ' v d H' I' f hr h, fun _ _ _ _ _ _ h => h.elim, fun _ _ _ _ _ _ h => h.elim⟩
end
section
variable {K : PySem.W.Frag}
/-- from the heap's level into the data layer, with the tables -/
theorem sw_runT {n : Nat} {T : List (Addr × Str)} {t : TS} {D : Ends} {σ : L2.St} {H : Hp} (h : Sw K t (List.replicate n .no ++ [.gst (T.map (·.1)) (TabsA T)]) ⟨fun _ => False, fun d _ => d = .bl true, fun _ => False, fun _ => False⟩) (hn : σ.length = n) (hnd : (T.map (·.1)).Nodup) (tb : TabsA T (T.map (·.1)) H) (q : ∀ H', D.rt (.bl true) H') : t D (σ ++ [none]) H := by
  subst hn
  have reps : ∀ σ : L2.St, SlA K (T.map (·.1) ++ []) H (σ ++ [none]) (List.replicate σ.length .no ++ [.gst (T.map (·.1)) (TabsA T)]) (T.map (·.1)) := fun σ => by
    rw [List.append_nil]
    induction σ with
    | nil =>
      have z : SlA K (T.map (·.1)) H [none] [.gst (T.map (·.1)) (TabsA T)] (T.map (·.1) ++ []) := .gst (gst_tabs T) tb .nil
      rw [List.append_nil] at z
      exact z
    | cons x σ ih => exact .no ih
  refine h [] _ _ H ⟨⟨reps σ, hnd, (fun _ _ z => nomatch z), (fun _ z => nomatch z)⟩, okX0⟩ D ⟨fun _ _ _ _ _ _ h => h.elim, fun L' σ' δ' v d H' _ _ hr h => ?_, fun _ _ _ _ _ _ h => h.elim, fun _ _ _ _ _ _ h => h.elim⟩
  subst h
  rw [hr.inv_bl]
  exact q H'
end
end My

namespace My
open PySem PySem.Spec PyProof.Rows L2
/-! ### str and repr of small ints -/
def smallI (i : Int) : Prop := -1000 ≤ i ∧ i ≤ 1000
def chkI (n : Nat) : Bool := (decide ((Str.ofString (toString ((n : Int) - 1000))).length ≤ 10) && (Str.ofString (toString ((n : Int) - 1000))).cps.all fun c => decide (c < 128)) && decide (((n : Int) - 1000).natAbs.log2 < 1920)
theorem chk_all : (List.range 2001).all chkI = true := by decide +kernel
theorem small_str {i : Int} (h : smallI i) : (Str.ofString (toString i)).length ≤ 10 ∧ strG (Str.ofString (toString i)) ∧ i.natAbs.log2 < 1920 := by
  obtain ⟨h1, h2⟩ := h
  have h3 := List.all_eq_true.mp chk_all (i + 1000).toNat (List.mem_range.mpr (by omega))
  unfold chkI at h3
  rw [show (((i + 1000).toNat : Int) - 1000) = i by omega] at h3
  simp only [Bool.and_eq_true] at h3
  have h4 := of_decide_eq_true h3.1.1
  exact ⟨h4, ⟨Nat.le_trans h4 (by decide), h3.1.2⟩, of_decide_eq_true h3.2⟩
section
variable {K : PySem.W.Frag} [Xg K] {δ : Store} {te : TE} {Φ : Dt → Store → Prop}
def LSi (d : Dt) (P : Str → Prop) : Prop := ∃ i : Int, d = .int i ∧ smallI i ∧ P (Str.ofString (toString i))
theorem lf_si {i : Int} {P : Str → Prop} (h : smallI i) (q : P (Str.ofString (toString i))) : LSi (.int i) P := ⟨i, rfl, h, q⟩
theorem y_strI (q : W K te δ fun d δ1 => LSi d fun s => Φ (.str s) δ1) : W K (tCB (fun xs H Q => ∃ i, xs = [V.int i] ∧ i.natAbs.log2 < 1920 ∧ Q (.str (toString i)) H) (tCons te tNil)) δ Φ := fun M L σ H I Q k => q M L σ H I _ fun v d δ1 H1 I1 x1 hv ⟨i, hd, hi, q1⟩ => by
  subst hd
  rw [hv.inv_int]
  obtain ⟨_, h2, h3⟩ := small_str hi
  exact ⟨i, rfl, h3, k _ _ δ1 H1 I1 x1 (.str h2) q1⟩
end
end My

local macro_rules | `(tactic| walk_at "zcd") => `(tactic| first
  | assumption
  | (show (0 : Int) < _; omega)
  | (show (0 : Int) < _; decide +kernel)
  | (refine And.intro ?_ ?_ <;> omega)
  | (refine Or.inl (And.intro ?_ ?_) <;> omega)
  | (refine Or.inr (And.intro ?_ ?_) <;> omega)
  | (refine And.intro ?_ ?_ <;> decide +kernel)
  | exact Nat.le_of_ble_eq_true rfl
  | omega)
local macro_rules | `(tactic| walk_at "zst") => `(tactic| first | exact My.zs0 | (refine' My.zsS ?zh; (case zh => walk_at "zst")))
local macro_rules | `(tactic| walk_at "zw") => `(tactic| repeat (first
  | ((with_reducible refine' My.w_var ?hv ?_); (case hv => exact rfl))
  | with_reducible refine My.w_int ?_
  | with_reducible refine My.w_bl ?_
  | with_reducible refine My.w_non ?_
  | ((with_reducible refine My.y_str ?h1 ?_); (case h1 => decide +kernel))
  | with_reducible refine My.wa_cons ?_
  | with_reducible refine My.wa_nil ?_
  | with_reducible refine My.y_I0i ?_
  | with_reducible refine My.y_I0b ?_
  | with_reducible refine My.y_Ii ?_
  | with_reducible refine My.lf_I2 ?_
  | with_reducible refine My.lf_I1 ?_
  | with_reducible refine My.lf_B1 ?_
  | with_reducible refine My.lf_A1 ?_
  | with_reducible refine My.lf_A2 ?_
  | with_reducible refine My.lf_N1 ?_
  | with_reducible refine My.lf_N1b ?_
  | with_reducible refine My.yt_B ?_
  | with_reducible refine My.yt_test ?_
  | with_reducible refine My.wt_not ?_
  | with_reducible refine My.wt_yes ?_
  | with_reducible refine My.wt_and ?_
  | with_reducible refine My.wt_or ?_
  | with_reducible refine My.lf_yes ?_
  | with_reducible refine My.lf_no ?_
  | with_reducible refine My.lf_nt ?_
  | with_reducible refine My.lf_nf ?_
  | with_reducible refine My.y_eq ?_
  | with_reducible refine My.y_ne ?_
  | with_reducible refine My.lf_eqI ?_
  | with_reducible refine My.lf_eqS ?_
  | with_reducible refine My.y_neg ?_
  | with_reducible refine My.y_notV ?_
  | with_reducible refine My.y_andV ?_
  | with_reducible refine My.y_orV ?_
  | with_reducible refine My.y_chain ?_
  | with_reducible refine My.w_isN ?_
  | with_reducible refine My.y_tup ?_
  | with_reducible refine My.y_ixT ?_
  | ((with_reducible refine' My.y_ixOwnA ?hv ?hj ?hd ?_); (case hv => exact rfl); (case hj => exact rfl); (case hd => assumption))
  | ((with_reducible refine' My.w_lenOwnA ?hv ?_); (case hv => exact rfl))
  | ((with_reducible refine' My.y_ixOwn ?hv ?_); (case hv => exact rfl))
  | ((with_reducible refine' My.lf_ixO ?hv ?hd ?_); (case hv => exact rfl); (case hd => first | assumption | exact rfl))
  | ((with_reducible refine' My.w_ixR ?hv ?hl ?hd ?_); (case hv => exact rfl); (case hl => first | exact My.rec_s | exact My.rec_p); (case hd => first | assumption | exact rfl))
  | ((with_reducible refine' My.w_ixRn ?hv ?hl ?hd ?_); (case hv => exact rfl); (case hl => first | exact My.rec_s | exact My.rec_p); (case hd => first | assumption | exact rfl))
  | with_reducible refine My.y_ixL ?_
  | ((with_reducible refine' My.lf_ixT ?hd ?_); (case hd => first | assumption | exact rfl))
  | ((with_reducible refine' My.lf_ixL ?hd ?_); (case hd => first | assumption | exact rfl))
  | ((with_reducible refine' My.w_lenOwn ?hv ?_); (case hv => exact rfl))
  | with_reducible refine My.y_len ?_
  | with_reducible refine My.y_lenS ?_
  | with_reducible refine My.lf_lenL ?_
  | with_reducible refine My.lf_lenT ?_
  | with_reducible refine My.lf_lenS ?_
  | ((with_reducible refine' My.wn_listOwn ?hv ?_); (case hv => exact rfl))
  | with_reducible refine My.yn_list ?_
  | ((with_reducible refine' My.w_tupleOwn ?hv ?_); (case hv => exact rfl))
  | with_reducible refine My.y_tuple ?_
  | with_reducible refine My.lf_itsL ?_
  | with_reducible refine My.lf_itsT ?_
  | ((with_reducible refine' My.yn_catOwn ?hv ?_); (case hv => exact rfl))
  | with_reducible refine My.yn_cat ?_
  | ((with_reducible refine' My.y_catOwn ?hv ?_); (case hv => exact rfl))
  | ((with_reducible refine' My.lf_catO ?hv ?hc ?_); (case hv => exact rfl); (case hc => (try simp only [My.strs_len, My.pil_len, List.length_cons, List.length_nil, List.length_append]); omega))
  | with_reducible refine My.y_cat ?_
  | with_reducible refine My.y_catA ?_
  | ((with_reducible refine My.lf_cat ?hc ?_); (case hc => (try simp only [My.strs_len, List.length_cons, List.length_nil, List.length_append]); omega))
  | ((with_reducible refine My.lf_catA ?hc ?_); (case hc => (try simp only [My.strs_len, List.length_cons, List.length_nil, List.length_append]); omega))
  | with_reducible refine My.yn_rep ?_
  | with_reducible refine My.y_rep ?_
  | with_reducible refine My.y_repA ?_
  | with_reducible refine My.y_lst ?_
  | with_reducible refine My.wn_lst ?_
  | with_reducible refine My.y_list ?_
  | with_reducible refine My.wo_none ?_
  | with_reducible refine My.yo_some ?_
  | with_reducible refine My.y_slA ?_
  | with_reducible refine My.yn_slL ?_
  | with_reducible refine My.y_slL ?_
  | with_reducible refine My.lf_slT ?_
  | with_reducible refine My.lf_slL ?_
  | ((with_reducible refine' My.w_dgetR ?hv ?_); (case hv => exact rfl))
  | with_reducible refine My.y_dget ?_
  | ((with_reducible refine' My.lf_dg ?hd ?_); (case hd => first | assumption | exact My.bkl_o | exact My.bkl_e | exact My.bkl_r | exact My.bkl_d | exact My.bkl_g))
  | with_reducible refine My.y_din ?_
  | with_reducible refine My.y_dnotin ?_
  | with_reducible refine My.y_dget2 ?_
  | with_reducible refine My.lf_dc ?_
  | with_reducible refine My.lf_ky ?_
  | with_reducible refine My.lf_di ?_
  | with_reducible refine My.lf_parD ?_
  | with_reducible refine My.lf_par3D ?_
  | with_reducible refine My.lf_pilNil ?_
  | with_reducible refine My.lf_strNil ?_
  | ((with_reducible refine' My.y_neOwn0 ?hv ?hp ?_); (case hv => exact rfl); (case hp => first | exact My.pil_pur _ | exact My.strs_pur _))
  | ((with_reducible refine' My.y_eqOwn0 ?hv ?hp ?_); (case hv => exact rfl); (case hp => first | exact My.pil_pur _ | exact My.strs_pur _))
  | with_reducible refine My.y_eqD ?_
  | with_reducible refine My.y_neD ?_
  | with_reducible refine My.lf_inFree ?_
  | with_reducible refine My.y_inS ?_
  | with_reducible refine My.y_notinS ?_
  | with_reducible refine My.lf_inL ?_
  | with_reducible refine My.lf_inT ?_
  | with_reducible refine My.y_isT ?_
  | ((with_reducible refine' My.lf_tySame ?hd ?hk ?_); (case hd => exact rfl); (case hk => decide +kernel))
  | ((with_reducible refine' My.lf_tyNo ?hd ?hk ?_); (case hd => exact rfl); (case hk => decide +kernel))
  | with_reducible refine My.y_strB ?_
  | with_reducible refine My.lf_S1 ?_
  | with_reducible refine My.y_int1 ?_
  | with_reducible refine My.y_abs ?_
  | with_reducible refine My.y_max2 ?_
  | with_reducible refine My.y_min2 ?_
  | ((with_reducible refine' My.w_callG ?hv ?_); (case hv => exact rfl))
  | ((with_reducible refine' My.w_callO ?hv ?_); (case hv => exact rfl))
  | with_reducible refine My.w_call ?_
  | with_reducible refine My.y_listZip ?_
  | ((with_reducible refine My.lf_zip ?hl ?_); (case hl => (simp only [List.length_map, My.ints_len, My.strs_len]; done)))
  | with_reducible refine My.y_makeSK ?_
  | with_reducible refine My.y_meth ?_
  | with_reducible refine My.y_prop ?_
  | with_reducible refine My.y_ownB ?_
  | with_reducible refine My.y_ownN ?_
  | with_reducible refine My.y_cmeth ?_
  | ((with_reducible refine My.y_isC ?hc ?_); (case hc => assumption))
  | with_reducible refine My.lf_ins ?_
  | with_reducible refine My.lf_ins2 ?_
  | with_reducible refine My.y_mulS ?_
  | with_reducible refine My.y_join ?_
  | with_reducible refine My.y_fmt ?_
  | with_reducible refine My.y_joined ?_
  | with_reducible refine My.wj_cons ?_
  | with_reducible refine My.wj_nil ?_
  | with_reducible refine My.y_adds ?_
  | with_reducible refine My.y_lenOwn ?_
  | with_reducible refine My.y_strOwn ?_
  | with_reducible refine My.y_inOwn0 ?_
  | with_reducible refine My.y_notinOwn0 ?_
  | with_reducible refine My.y_getOwn ?_
  | ((with_reducible refine My.y_eqB ?hc ?_); (case hc => assumption))
  | with_reducible refine My.y_mnD ?_
  | with_reducible refine My.lf_mnL ?_
  | with_reducible refine My.lf_mnT ?_
  | with_reducible refine My.y_inD ?_
  | with_reducible refine My.y_inDT ?_
  | with_reducible refine My.y_split ?_
  | with_reducible refine My.y_lstC ?_
  | with_reducible refine My.lf_lstC ?_
  | with_reducible refine My.y_ixS ?_
  | with_reducible refine My.y_slS ?_
  | with_reducible refine My.lf_slS ?_
  | with_reducible refine My.y_leS ?_
  | with_reducible refine My.lf_leS ?_
  | with_reducible refine My.y_isNo ?_
  | with_reducible refine My.y_notNo ?_
  | with_reducible refine My.lf_non ?_
  | with_reducible refine My.y_callN ?_
  | with_reducible refine My.y_cmethN ?_
  | ((with_reducible refine My.y_callX ?hW ?_); (case hW => first | assumption | rfl))
  | ((with_reducible refine My.y_cmethX ?hW ?_); (case hW => first | assumption | rfl))
  | ((with_reducible refine My.x_raise ?hW ?_); (case hW => assumption))
  | with_reducible refine My.wk_x ?_
  | with_reducible refine My.wk_n ?_
  | with_reducible refine My.y_xf ?_
  | with_reducible refine My.lf_xf ?_
  | walk_at "zx"
  | ((fail_if_success with_reducible refine My.z_ifs ?_); (with_reducible refine My.x_seq ?_))
  | with_reducible refine My.x_next ?_
  | with_reducible refine My.x_nx ?_
  | with_reducible refine My.x_cont ?_
  | with_reducible refine My.x_break ?_
  | with_reducible refine My.x_if ?_
  | ((with_reducible refine' My.x_retOwn ?hv ?hs ?_); (case hv => exact rfl); (case hs => walk_at "zst"))
  | ((with_reducible refine' My.x_retR ?hv ?hs ?_); (case hv => exact rfl); (case hs => walk_at "zst"))
  | with_reducible refine My.x_ret ?_
  | with_reducible refine My.x_retN ?_
  | ((with_reducible refine' My.x_app ?hv ?_); (case hv => exact rfl))
  | ((with_reducible refine' My.x_appP ?hv ?hj ?hz ?hs ?_); (case hv => exact rfl); (case hj => exact rfl); (case hz => (simp only [My.par_len, My.sts_len, List.length_append, List.length_cons, List.length_nil]; omega)); (case hs => walk_at "zst"))
  | ((with_reducible refine' My.x_appS ?hv ?hj ?hz ?hs ?_); (case hv => exact rfl); (case hj => exact rfl); (case hz => (simp only [My.par_len, My.sts_len, List.length_append, List.length_cons, List.length_nil]; omega)); (case hs => walk_at "zst"))
  | with_reducible refine My.x_drop ?_
  | ((with_reducible refine' My.xc_name ?hi ?hd ?hset ?_); (case hi => exact .head _); (case hd => exact rfl); (case hset => walk_at "zst"))
  | ((with_reducible refine My.yc_tup ?hk ?hn ?_); (case hk => exact rfl); (case hn => exact rfl))
  | with_reducible refine My.wcs_cons ?_
  | with_reducible refine My.wcs_nil ?_
  | ((with_reducible refine' My.xg_name ?hset ?_); (case hset => walk_at "zst"))
  | ((with_reducible refine My.yg_tup ?hk ?hn ?_); (case hk => exact rfl); (case hn => exact rfl))
  | ((with_reducible refine My.yg_unl ?hk ?hn ?_); (case hk => exact rfl); (case hn => exact rfl))
  | ((with_reducible refine My.x_asgU ?hk ?_); (case hk => exact rfl))
  | ((with_reducible refine My.x_asgT ?hk ?_); (case hk => exact rfl))
  | with_reducible refine My.wgs_cons ?_
  | with_reducible refine My.wgs_nil ?_
  | with_reducible refine My.x_par ?_
  | with_reducible refine My.x_par3 ?_
  | ((fail_if_success with_reducible refine My.z_ifn ?_); (with_reducible refine My.sn_seq ?_))
  | with_reducible refine My.sn_ret ?_
  | ((fail_if_success with_reducible refine My.z_lst ?_); (fail_if_success with_reducible refine My.z_lc ?_); (fail_if_success with_reducible refine My.z_new ?_); (fail_if_success with_reducible refine My.z_cat ?_); (fail_if_success with_reducible refine My.z_list ?_); (with_reducible refine My.x_set ?_))
  | ((with_reducible refine' ⟨_, ?hset, ?_⟩); (case hset => walk_at "zst"))
  | ((with_reducible refine' ⟨_, ?hset, ?_⟩); (case hset => exact rfl))
  | with_reducible refine My.y_dput ?_
  | with_reducible refine My.wr_dat ?_
  | with_reducible refine My.wr_nil ?_
  | with_reducible refine My.y_sortedD ?_
  | with_reducible refine My.y_sortedS ?_
  | with_reducible refine My.lf_soS ?_
  | with_reducible refine My.y_listD ?_
  | with_reducible refine My.y_listVals ?_
  | with_reducible refine My.lf_valsS ?_
  | ((with_reducible refine My.lf_keysO ?hc ?_); (case hc => assumption))
  | ((with_reducible refine My.lf_keysS ?hc ?_); (case hc => assumption))
  | ((with_reducible refine And.intro ?hg ?_); (case hg => exact rfl))
  | ((with_reducible refine My.lf_roll ?hc ?_); (case hc => walk_at "zcd"))
  | ((with_reducible refine And.intro ?hc ?_); (case hc => walk_at "zcd"))))
local macro_rules | `(tactic| walk_at "zi") => `(tactic| (first | with_reducible refine My.x_seq ?_ | with_reducible refine My.sn_seq ?_ | skip); (with_reducible refine My.x_if ?_); walk_at "zw")
local macro_rules | `(tactic| walk_at "zo") => `(tactic| (with_reducible refine My.x_own ?_); walk_at "zw")
local macro_rules | `(tactic| walk_at "zs") => `(tactic| (with_reducible refine My.x_set ?_); walk_at "zw")



namespace My
open PySem PySem.Spec PyProof.Rows L2
def topS (i : Nat) : Stmt := PySem.Challenge.pw_offside_k13_bounds_of_texts.main.body.getD i (.Pass ⟨0, 0, 0, 0⟩)
abbrev s_ParseError_init : Stmt := inClass (topS 4) 0
abbrev s_TooMany_init : Stmt := inClass (topS 5) 0
abbrev s_InvalidNumber_init : Stmt := inClass (topS 6) 0
abbrev s_is_integer : Stmt := topS 11
abbrev s_check_number : Stmt := topS 12
abbrev s_is_word : Stmt := topS 13
abbrev s_is_column : Stmt := topS 14
abbrev s_is_words_of_line : Stmt := topS 15
abbrev s_is_line : Stmt := topS 16
abbrev s_written_line : Stmt := topS 19
abbrev s_line_written : Stmt := topS 20
abbrev s_rows_of : Stmt := topS 21
abbrev s_are_columns : Stmt := topS 22
abbrev s_are_words : Stmt := topS 23
abbrev s_Text_init : Stmt := inClass (topS 24) 0
abbrev s_Text_read : Stmt := inClass (topS 24) 1
abbrev s_Text_made : Stmt := inClass (topS 24) 2
abbrev s_Text_lines : Stmt := inClass (topS 24) 3
abbrev s_Text_columns : Stmt := inClass (topS 24) 4
abbrev s_Text_words : Stmt := inClass (topS 24) 5
abbrev s_Text_least : Stmt := inClass (topS 24) 6
abbrev s_Text_greatest : Stmt := inClass (topS 24) 7
abbrev s_Text_moved : Stmt := inClass (topS 24) 8
abbrev s_Text_at : Stmt := inClass (topS 24) 9
abbrev s_Text_part : Stmt := inClass (topS 24) 10
abbrev s_Text_with_part : Stmt := inClass (topS 24) 12
abbrev s_Text_check_bounds : Stmt := inClass (topS 24) 13
abbrev s_Text_add : Stmt := inClass (topS 24) 14
abbrev s_Text_len : Stmt := inClass (topS 24) 18
abbrev s_Text_str : Stmt := inClass (topS 24) 21
abbrev s_dice : Stmt := topS 26
abbrev s_roll : Stmt := topS 27
abbrev s_text_made : Stmt := topS 28
abbrev s_met : Stmt := topS 29
abbrev s_right : Stmt := topS 30
abbrev s_law : Stmt := topS 31
theorem sc_ParseError_init : FnScope ["self", "line"] ["self", "line"] (defScope s_ParseError_init) := ⟨rfl, rfl, rfl, by decide +kernel, rfl, by decide +kernel, by decide +kernel⟩
theorem sc_TooMany_init : FnScope ["self", "limit"] ["self", "limit"] (defScope s_TooMany_init) := ⟨rfl, rfl, rfl, by decide +kernel, rfl, by decide +kernel, by decide +kernel⟩
theorem sc_InvalidNumber_init : FnScope ["self", "number"] ["self", "number"] (defScope s_InvalidNumber_init) := ⟨rfl, rfl, rfl, by decide +kernel, rfl, by decide +kernel, by decide +kernel⟩
theorem sc_is_integer : FnScope ["value"] ["value"] (defScope s_is_integer) := ⟨rfl, rfl, rfl, by decide +kernel, rfl, by decide +kernel, by decide +kernel⟩
theorem sc_check_number : FnScope ["value", "least", "greatest"] ["value", "least", "greatest"] (defScope s_check_number) := ⟨rfl, rfl, rfl, by decide +kernel, rfl, by decide +kernel, by decide +kernel⟩
theorem sc_is_word : FnScope ["value"] ["value"] (defScope s_is_word) := ⟨rfl, rfl, rfl, by decide +kernel, rfl, by decide +kernel, by decide +kernel⟩
theorem sc_is_column : FnScope ["value"] ["value"] (defScope s_is_column) := ⟨rfl, rfl, rfl, by decide +kernel, rfl, by decide +kernel, by decide +kernel⟩
theorem sc_is_words_of_line : FnScope ["value", "word"] ["value"] (defScope s_is_words_of_line) := ⟨rfl, rfl, rfl, by decide +kernel, rfl, by decide +kernel, by decide +kernel⟩
theorem sc_is_line : FnScope ["value"] ["value"] (defScope s_is_line) := ⟨rfl, rfl, rfl, by decide +kernel, rfl, by decide +kernel, by decide +kernel⟩
theorem sc_written_line : FnScope ["line", "column", "words", "blanks", "told"] ["line"] (defScope s_written_line) := ⟨rfl, rfl, rfl, by decide +kernel, rfl, by decide +kernel, by decide +kernel⟩
theorem sc_line_written : FnScope ["row", "bare", "line"] ["row"] (defScope s_line_written) := ⟨rfl, rfl, rfl, by decide +kernel, rfl, by decide +kernel, by decide +kernel⟩
theorem sc_rows_of : FnScope ["string"] ["string"] (defScope s_rows_of) := ⟨rfl, rfl, rfl, by decide +kernel, rfl, by decide +kernel, by decide +kernel⟩
theorem sc_are_columns : FnScope ["value", "many", "column"] ["value", "many"] (defScope s_are_columns) := ⟨rfl, rfl, rfl, by decide +kernel, rfl, by decide +kernel, by decide +kernel⟩
theorem sc_are_words : FnScope ["value", "words"] ["value"] (defScope s_are_words) := ⟨rfl, rfl, rfl, by decide +kernel, rfl, by decide +kernel, by decide +kernel⟩
theorem sc_Text_init : FnScope ["self", "lines", "line"] ["self", "lines"] (defScope s_Text_init) := ⟨rfl, rfl, rfl, by decide +kernel, rfl, by decide +kernel, by decide +kernel⟩
theorem sc_Text_read : FnScope ["cls", "string", "lines", "row", "line"] ["cls", "string"] (defScope s_Text_read) := ⟨rfl, rfl, rfl, by decide +kernel, rfl, by decide +kernel, by decide +kernel⟩
theorem sc_Text_made : FnScope ["cls", "columns", "words", "lines"] ["cls", "columns", "words"] (defScope s_Text_made) := ⟨rfl, rfl, rfl, by decide +kernel, rfl, by decide +kernel, by decide +kernel⟩
theorem sc_Text_lines : FnScope ["self"] ["self"] (defScope s_Text_lines) := ⟨rfl, rfl, rfl, by decide +kernel, rfl, by decide +kernel, by decide +kernel⟩
theorem sc_Text_columns : FnScope ["self"] ["self"] (defScope s_Text_columns) := ⟨rfl, rfl, rfl, by decide +kernel, rfl, by decide +kernel, by decide +kernel⟩
theorem sc_Text_words : FnScope ["self"] ["self"] (defScope s_Text_words) := ⟨rfl, rfl, rfl, by decide +kernel, rfl, by decide +kernel, by decide +kernel⟩
theorem sc_Text_least : FnScope ["self"] ["self"] (defScope s_Text_least) := ⟨rfl, rfl, rfl, by decide +kernel, rfl, by decide +kernel, by decide +kernel⟩
theorem sc_Text_greatest : FnScope ["self"] ["self"] (defScope s_Text_greatest) := ⟨rfl, rfl, rfl, by decide +kernel, rfl, by decide +kernel, by decide +kernel⟩
theorem sc_Text_moved : FnScope ["self", "by", "column", "columns"] ["self", "by"] (defScope s_Text_moved) := ⟨rfl, rfl, rfl, by decide +kernel, rfl, by decide +kernel, by decide +kernel⟩
theorem sc_Text_at : FnScope ["self", "columns"] ["self", "columns"] (defScope s_Text_at) := ⟨rfl, rfl, rfl, by decide +kernel, rfl, by decide +kernel, by decide +kernel⟩
theorem sc_Text_part : FnScope ["self", "first", "last", "lines"] ["self", "first", "last"] (defScope s_Text_part) := ⟨rfl, rfl, rfl, by decide +kernel, rfl, by decide +kernel, by decide +kernel⟩
theorem sc_Text_with_part : FnScope ["self", "first", "last", "other", "lines"] ["self", "first", "last", "other"] (defScope s_Text_with_part) := ⟨rfl, rfl, rfl, by decide +kernel, rfl, by decide +kernel, by decide +kernel⟩
theorem sc_Text_check_bounds : FnScope ["self", "first", "last"] ["self", "first", "last"] (defScope s_Text_check_bounds) := ⟨rfl, rfl, rfl, by decide +kernel, rfl, by decide +kernel, by decide +kernel⟩
theorem sc_Text_add : FnScope ["self", "other", "lines"] ["self", "other"] (defScope s_Text_add) := ⟨rfl, rfl, rfl, by decide +kernel, rfl, by decide +kernel, by decide +kernel⟩
theorem sc_Text_len : FnScope ["self"] ["self"] (defScope s_Text_len) := ⟨rfl, rfl, rfl, by decide +kernel, rfl, by decide +kernel, by decide +kernel⟩
theorem sc_Text_str : FnScope ["self", "line"] ["self"] (defScope s_Text_str) := ⟨rfl, rfl, rfl, by decide +kernel, rfl, by decide +kernel, by decide +kernel⟩
theorem sc_dice : FnScope ["_law_script", "_law_spot", "_law_cell", "_law_great", "_law_blend"] ["_law_script", "_law_spot"] (defScope s_dice) := ⟨rfl, rfl, rfl, by decide +kernel, rfl, by decide +kernel, by decide +kernel⟩
theorem sc_roll : FnScope ["_law_dice_here", "_law_total", "_law_found", "_law_one", "_law_two"] ["_law_dice_here", "_law_total"] (defScope s_roll) := ⟨rfl, rfl, rfl, by decide +kernel, rfl, by decide +kernel, by decide +kernel⟩
theorem sc_text_made : FnScope ["_law_lines", "_law_line"] ["_law_lines"] (defScope s_text_made) := ⟨rfl, rfl, rfl, by decide +kernel, rfl, by decide +kernel, by decide +kernel⟩
theorem sc_met : FnScope ["_law_call", "error"] ["_law_call"] (defScope s_met) := ⟨rfl, rfl, rfl, by decide +kernel, rfl, by decide +kernel, by decide +kernel⟩
theorem sc_right : FnScope ["_law_dice_here", "_law_at", "_law_rest", "_law_told", "_law_due", "_law_first", "_law_full", "_law_high", "_law_low", "_law_more", "_law_one", "#"] ["_law_dice_here"] (defScope s_right) := ⟨rfl, rfl, rfl, by decide +kernel, rfl, by decide +kernel, by decide +kernel⟩
theorem sc_law : FnScope ["_law_script", "_law_spot", "#"] ["_law_script"] (defScope s_law) := ⟨rfl, rfl, rfl, by decide +kernel, rfl, by decide +kernel, by decide +kernel⟩
abbrev q_right : Str := ("_law_right" : Str) ++ ".<locals>." ++ "<lambda>"
abbrev q_law : Str := ("law" : Str) ++ ".<locals>." ++ "<lambda>"
structure Txt (K : PySem.W.Frag) (mg : Str → Option Value) where
  C_InvalidText : Addr
  gC_InvalidText : mg "InvalidText" = some (.ref C_InvalidText)
  x_InvalidText : XC K C_InvalidText
  ty_InvalidText : PySem.W.typeIn K (.ref C_InvalidText) = some (.type "type")
  xi_InvalidText : PySem.W.excIn K C_InvalidText [.type "ValueError", .type "Exception", .type "BaseException", .type "object"] "ValueError.__new__" = true
  st_InvalidText : PySem.W.findIn K (.ref C_InvalidText) "__str__" = some (some (.builtin "BaseException.__str__"))
  C_ParseError : Addr
  gC_ParseError : mg "ParseError" = some (.ref C_ParseError)
  x_ParseError : XC K C_ParseError
  ty_ParseError : PySem.W.typeIn K (.ref C_ParseError) = some (.type "type")
  C_TooMany : Addr
  gC_TooMany : mg "TooMany" = some (.ref C_TooMany)
  x_TooMany : XC K C_TooMany
  ty_TooMany : PySem.W.typeIn K (.ref C_TooMany) = some (.type "type")
  C_InvalidNumber : Addr
  gC_InvalidNumber : mg "InvalidNumber" = some (.ref C_InvalidNumber)
  x_InvalidNumber : XC K C_InvalidNumber
  ty_InvalidNumber : PySem.W.typeIn K (.ref C_InvalidNumber) = some (.type "type")
  su_InvalidText_InvalidText : PySem.W.subIn K (.ref C_InvalidText) (.ref C_InvalidText) = some true
  su_InvalidText_ParseError : PySem.W.subIn K (.ref C_InvalidText) (.ref C_ParseError) = some false
  su_InvalidText_TooMany : PySem.W.subIn K (.ref C_InvalidText) (.ref C_TooMany) = some false
  su_InvalidText_InvalidNumber : PySem.W.subIn K (.ref C_InvalidText) (.ref C_InvalidNumber) = some false
  su_ParseError_InvalidText : PySem.W.subIn K (.ref C_ParseError) (.ref C_InvalidText) = some false
  su_ParseError_ParseError : PySem.W.subIn K (.ref C_ParseError) (.ref C_ParseError) = some true
  su_ParseError_TooMany : PySem.W.subIn K (.ref C_ParseError) (.ref C_TooMany) = some false
  su_ParseError_InvalidNumber : PySem.W.subIn K (.ref C_ParseError) (.ref C_InvalidNumber) = some false
  su_TooMany_InvalidText : PySem.W.subIn K (.ref C_TooMany) (.ref C_InvalidText) = some false
  su_TooMany_ParseError : PySem.W.subIn K (.ref C_TooMany) (.ref C_ParseError) = some false
  su_TooMany_TooMany : PySem.W.subIn K (.ref C_TooMany) (.ref C_TooMany) = some true
  su_TooMany_InvalidNumber : PySem.W.subIn K (.ref C_TooMany) (.ref C_InvalidNumber) = some false
  su_InvalidNumber_InvalidText : PySem.W.subIn K (.ref C_InvalidNumber) (.ref C_InvalidText) = some false
  su_InvalidNumber_ParseError : PySem.W.subIn K (.ref C_InvalidNumber) (.ref C_ParseError) = some false
  su_InvalidNumber_TooMany : PySem.W.subIn K (.ref C_InvalidNumber) (.ref C_TooMany) = some false
  su_InvalidNumber_InvalidNumber : PySem.W.subIn K (.ref C_InvalidNumber) (.ref C_InvalidNumber) = some true
  C_Text : Addr
  gC_Text : mg "Text" = some (.ref C_Text)
  cl_Text : Cls K C_Text
  rd_Text : ClX.CRead K C_Text (.type "type")
  ci_Text : ClI K C_Text
  nA_Text_lines : NoAttr K C_Text "_lines"
  nA_Text_columns : NoAttr K C_Text "_columns"
  nA_Text_words : NoAttr K C_Text "_words"
  f_ParseError_init : Addr
  fd_ParseError_init : FuncData
  F_ParseError_init : Fun K "__init__" "ParseError.__init__" s_ParseError_init f_ParseError_init fd_ParseError_init
  b_ParseError_init : Binds K fd_ParseError_init ["self", "line"] []
  xi_ParseError : xInB K C_ParseError "ValueError" "ValueError.__new__" = true
  xo_ParseError : PySem.W.excOver K C_ParseError [.type "ValueError", .type "Exception", .type "BaseException", .type "object"] = true
  tk_ParseError : PySem.W.takerIn K C_ParseError "line" = some none
  nf_ParseError : PySem.W.findIn K (.ref C_ParseError) "line" = some none
  i_ParseError : PySem.W.findIn K (.ref C_ParseError) "__init__" = some (some (.ref f_ParseError_init))
  ti_ParseError : PySem.W.typeIn K (.ref f_ParseError_init) = some (.type "function")
  f_TooMany_init : Addr
  fd_TooMany_init : FuncData
  F_TooMany_init : Fun K "__init__" "TooMany.__init__" s_TooMany_init f_TooMany_init fd_TooMany_init
  b_TooMany_init : Binds K fd_TooMany_init ["self", "limit"] []
  xi_TooMany : xInB K C_TooMany "OverflowError" "OverflowError.__new__" = true
  xo_TooMany : PySem.W.excOver K C_TooMany [.type "OverflowError", .type "ArithmeticError", .type "Exception", .type "BaseException", .type "object"] = true
  tk_TooMany : PySem.W.takerIn K C_TooMany "limit" = some none
  nf_TooMany : PySem.W.findIn K (.ref C_TooMany) "limit" = some none
  i_TooMany : PySem.W.findIn K (.ref C_TooMany) "__init__" = some (some (.ref f_TooMany_init))
  ti_TooMany : PySem.W.typeIn K (.ref f_TooMany_init) = some (.type "function")
  f_InvalidNumber_init : Addr
  fd_InvalidNumber_init : FuncData
  F_InvalidNumber_init : Fun K "__init__" "InvalidNumber.__init__" s_InvalidNumber_init f_InvalidNumber_init fd_InvalidNumber_init
  b_InvalidNumber_init : Binds K fd_InvalidNumber_init ["self", "number"] []
  xi_InvalidNumber : xInB K C_InvalidNumber "RuntimeError" "RuntimeError.__new__" = true
  xo_InvalidNumber : PySem.W.excOver K C_InvalidNumber [.type "RuntimeError", .type "Exception", .type "BaseException", .type "object"] = true
  tk_InvalidNumber : PySem.W.takerIn K C_InvalidNumber "number" = some none
  nf_InvalidNumber : PySem.W.findIn K (.ref C_InvalidNumber) "number" = some none
  i_InvalidNumber : PySem.W.findIn K (.ref C_InvalidNumber) "__init__" = some (some (.ref f_InvalidNumber_init))
  ti_InvalidNumber : PySem.W.typeIn K (.ref f_InvalidNumber_init) = some (.type "function")
  f_is_integer : Addr
  fd_is_integer : FuncData
  F_is_integer : Fun K "is_integer" "is_integer" s_is_integer f_is_integer fd_is_integer
  g_is_integer : mg "is_integer" = some (.ref f_is_integer)
  b_is_integer : Binds K fd_is_integer ["value"] []
  f_check_number : Addr
  fd_check_number : FuncData
  F_check_number : Fun K "check_number" "check_number" s_check_number f_check_number fd_check_number
  g_check_number : mg "check_number" = some (.ref f_check_number)
  b_check_number : Binds K fd_check_number ["value", "least", "greatest"] []
  f_is_word : Addr
  fd_is_word : FuncData
  F_is_word : Fun K "is_word" "is_word" s_is_word f_is_word fd_is_word
  g_is_word : mg "is_word" = some (.ref f_is_word)
  b_is_word : Binds K fd_is_word ["value"] []
  f_is_column : Addr
  fd_is_column : FuncData
  F_is_column : Fun K "is_column" "is_column" s_is_column f_is_column fd_is_column
  g_is_column : mg "is_column" = some (.ref f_is_column)
  b_is_column : Binds K fd_is_column ["value"] []
  f_is_words_of_line : Addr
  fd_is_words_of_line : FuncData
  F_is_words_of_line : Fun K "is_words_of_line" "is_words_of_line" s_is_words_of_line f_is_words_of_line fd_is_words_of_line
  g_is_words_of_line : mg "is_words_of_line" = some (.ref f_is_words_of_line)
  b_is_words_of_line : Binds K fd_is_words_of_line ["value"] []
  f_is_line : Addr
  fd_is_line : FuncData
  F_is_line : Fun K "is_line" "is_line" s_is_line f_is_line fd_is_line
  g_is_line : mg "is_line" = some (.ref f_is_line)
  b_is_line : Binds K fd_is_line ["value"] []
  f_written_line : Addr
  fd_written_line : FuncData
  F_written_line : Fun K "written_line" "written_line" s_written_line f_written_line fd_written_line
  g_written_line : mg "written_line" = some (.ref f_written_line)
  b_written_line : Binds K fd_written_line ["line"] []
  f_line_written : Addr
  fd_line_written : FuncData
  F_line_written : Fun K "line_written" "line_written" s_line_written f_line_written fd_line_written
  g_line_written : mg "line_written" = some (.ref f_line_written)
  b_line_written : Binds K fd_line_written ["row"] []
  f_rows_of : Addr
  fd_rows_of : FuncData
  F_rows_of : Fun K "rows_of" "rows_of" s_rows_of f_rows_of fd_rows_of
  g_rows_of : mg "rows_of" = some (.ref f_rows_of)
  b_rows_of : Binds K fd_rows_of ["string"] []
  f_are_columns : Addr
  fd_are_columns : FuncData
  F_are_columns : Fun K "are_columns" "are_columns" s_are_columns f_are_columns fd_are_columns
  g_are_columns : mg "are_columns" = some (.ref f_are_columns)
  b_are_columns : Binds K fd_are_columns ["value", "many"] []
  f_are_words : Addr
  fd_are_words : FuncData
  F_are_words : Fun K "are_words" "are_words" s_are_words f_are_words fd_are_words
  g_are_words : mg "are_words" = some (.ref f_are_words)
  b_are_words : Binds K fd_are_words ["value"] []
  f_Text_init : Addr
  fd_Text_init : FuncData
  F_Text_init : Fun K "__init__" "Text.__init__" s_Text_init f_Text_init fd_Text_init
  bs_Text_init : ∀ us rest : List Value, us.length = [("self" : Str)].length → bindArgs fd_Text_init ⟨us ++ rest, []⟩ = (newTuple rest >>= fun t => pure ((["self"] : List Str).zip us ++ [(("lines" : Str), t)]))
  mk_Text : Mk K C_Text f_Text_init
  f_Text_read : Addr
  fd_Text_read : FuncData
  F_Text_read : Fun K "read" "Text.read" s_Text_read f_Text_read fd_Text_read
  b_Text_read : Binds K fd_Text_read ["cls", "string"] []
  pa_Text_read : Addr
  cm_Text_read : ClX.CMet K C_Text (.type "type") "read" pa_Text_read f_Text_read
  f_Text_made : Addr
  fd_Text_made : FuncData
  F_Text_made : Fun K "made" "Text.made" s_Text_made f_Text_made fd_Text_made
  b_Text_made : Binds K fd_Text_made ["cls", "columns", "words"] []
  pa_Text_made : Addr
  cm_Text_made : ClX.CMet K C_Text (.type "type") "made" pa_Text_made f_Text_made
  f_Text_lines : Addr
  fd_Text_lines : FuncData
  F_Text_lines : Fun K "lines" "Text.lines" s_Text_lines f_Text_lines fd_Text_lines
  b_Text_lines : Binds K fd_Text_lines ["self"] []
  pa_Text_lines : Addr
  p_Text_lines : PropOf K C_Text "lines" pa_Text_lines f_Text_lines
  f_Text_columns : Addr
  fd_Text_columns : FuncData
  F_Text_columns : Fun K "columns" "Text.columns" s_Text_columns f_Text_columns fd_Text_columns
  b_Text_columns : Binds K fd_Text_columns ["self"] []
  pa_Text_columns : Addr
  p_Text_columns : PropOf K C_Text "columns" pa_Text_columns f_Text_columns
  f_Text_words : Addr
  fd_Text_words : FuncData
  F_Text_words : Fun K "words" "Text.words" s_Text_words f_Text_words fd_Text_words
  b_Text_words : Binds K fd_Text_words ["self"] []
  pa_Text_words : Addr
  p_Text_words : PropOf K C_Text "words" pa_Text_words f_Text_words
  f_Text_least : Addr
  fd_Text_least : FuncData
  F_Text_least : Fun K "least" "Text.least" s_Text_least f_Text_least fd_Text_least
  b_Text_least : Binds K fd_Text_least ["self"] []
  pa_Text_least : Addr
  p_Text_least : PropOf K C_Text "least" pa_Text_least f_Text_least
  f_Text_greatest : Addr
  fd_Text_greatest : FuncData
  F_Text_greatest : Fun K "greatest" "Text.greatest" s_Text_greatest f_Text_greatest fd_Text_greatest
  b_Text_greatest : Binds K fd_Text_greatest ["self"] []
  pa_Text_greatest : Addr
  p_Text_greatest : PropOf K C_Text "greatest" pa_Text_greatest f_Text_greatest
  f_Text_moved : Addr
  fd_Text_moved : FuncData
  F_Text_moved : Fun K "moved" "Text.moved" s_Text_moved f_Text_moved fd_Text_moved
  b_Text_moved : Binds K fd_Text_moved ["self", "by"] []
  m_Text_moved : Meth K C_Text "moved" f_Text_moved
  f_Text_at : Addr
  fd_Text_at : FuncData
  F_Text_at : Fun K "at" "Text.at" s_Text_at f_Text_at fd_Text_at
  b_Text_at : Binds K fd_Text_at ["self", "columns"] []
  m_Text_at : Meth K C_Text "at" f_Text_at
  f_Text_part : Addr
  fd_Text_part : FuncData
  F_Text_part : Fun K "part" "Text.part" s_Text_part f_Text_part fd_Text_part
  b_Text_part : Binds K fd_Text_part ["self", "first", "last"] []
  m_Text_part : Meth K C_Text "part" f_Text_part
  f_Text_with_part : Addr
  fd_Text_with_part : FuncData
  F_Text_with_part : Fun K "with_part" "Text.with_part" s_Text_with_part f_Text_with_part fd_Text_with_part
  b_Text_with_part : Binds K fd_Text_with_part ["self", "first", "last", "other"] []
  m_Text_with_part : Meth K C_Text "with_part" f_Text_with_part
  f_Text_check_bounds : Addr
  fd_Text_check_bounds : FuncData
  F_Text_check_bounds : Fun K "_check_bounds" "Text._check_bounds" s_Text_check_bounds f_Text_check_bounds fd_Text_check_bounds
  b_Text_check_bounds : Binds K fd_Text_check_bounds ["self", "first", "last"] []
  m_Text_check_bounds : Meth K C_Text "_check_bounds" f_Text_check_bounds
  f_Text_add : Addr
  fd_Text_add : FuncData
  F_Text_add : Fun K "__add__" "Text.__add__" s_Text_add f_Text_add fd_Text_add
  b_Text_add : Binds K fd_Text_add ["self", "other"] []
  o_Text_add : PySem.W.findIn K (.ref C_Text) "__add__" = some (some (.ref f_Text_add))
  of_Text_add : PySem.W.isFn K (.ref f_Text_add) = true
  sf_Text : PySem.W.selfFirst K C_Text = true
  f_Text_len : Addr
  fd_Text_len : FuncData
  F_Text_len : Fun K "__len__" "Text.__len__" s_Text_len f_Text_len fd_Text_len
  b_Text_len : Binds K fd_Text_len ["self"] []
  o_Text_len : PySem.W.findIn K (.ref C_Text) "__len__" = some (some (.ref f_Text_len))
  of_Text_len : PySem.W.isFn K (.ref f_Text_len) = true
  f_Text_str : Addr
  fd_Text_str : FuncData
  F_Text_str : Fun K "__str__" "Text.__str__" s_Text_str f_Text_str fd_Text_str
  b_Text_str : Binds K fd_Text_str ["self"] []
  o_Text_str : PySem.W.findIn K (.ref C_Text) "__str__" = some (some (.ref f_Text_str))
  of_Text_str : PySem.W.isFn K (.ref f_Text_str) = true
  f_dice : Addr
  fd_dice : FuncData
  F_dice : Fun K "_law_dice" "_law_dice" s_dice f_dice fd_dice
  g_dice : mg "_law_dice" = some (.ref f_dice)
  b_dice : Binds K fd_dice ["_law_script", "_law_spot"] []
  f_roll : Addr
  fd_roll : FuncData
  F_roll : Fun K "_law_roll" "_law_roll" s_roll f_roll fd_roll
  g_roll : mg "_law_roll" = some (.ref f_roll)
  b_roll : Binds K fd_roll ["_law_dice_here", "_law_total"] []
  f_text_made : Addr
  fd_text_made : FuncData
  F_text_made : Fun K "_law_text_made" "_law_text_made" s_text_made f_text_made fd_text_made
  g_text_made : mg "_law_text_made" = some (.ref f_text_made)
  b_text_made : Binds K fd_text_made ["_law_lines"] []
  f_met : Addr
  fd_met : FuncData
  F_met : Fun K "_law_met" "_law_met" s_met f_met fd_met
  g_met : mg "_law_met" = some (.ref f_met)
  b_met : Binds K fd_met ["_law_call"] []
  f_right : Addr
  fd_right : FuncData
  k_right : Addr
  F_right : FunC K k_right "_law_right" "_law_right" s_right f_right fd_right
  g_right : mg "_law_right" = some (.ref f_right)
  b_right : Binds K fd_right ["_law_dice_here"] []
  t_MAX_LETTERS : Tok
  c_MAX_LETTERS : mg "MAX_LETTERS" = some (.int (8) t_MAX_LETTERS)
  t_MAX_COLUMN : Tok
  c_MAX_COLUMN : mg "MAX_COLUMN" = some (.int (199) t_MAX_COLUMN)
  t_MAX_WORDS : Tok
  c_MAX_WORDS : mg "MAX_WORDS" = some (.int (6) t_MAX_WORDS)
  t_MAX_LINES : Tok
  c_MAX_LINES : mg "MAX_LINES" = some (.int (60) t_MAX_LINES)
  z_isinstance : mg "isinstance" = none
  z_int : mg "int" = none
  z_bool : mg "bool" = none
  z_abs : mg "abs" = none
  z_str : mg "str" = none
  z_len : mg "len" = none
  z_tuple : mg "tuple" = none
  z_all : mg "all" = none
  z_list : mg "list" = none
  z_zip : mg "zip" = none
  z_min : mg "min" = none
  z_max : mg "max" = none
  z_repr : mg "repr" = none
  z_range : mg "range" = none
end My
namespace My
open PySem PySem.Spec PyProof.Rows L2
section
variable {P : Program} {w : World} {K : PySem.W.Frag} {mg : Str → Option Value} {base : Heap}
/-! ### _law_roll -/
def spRoll : Sp := fun vs H Q _ => ∃ (d : Addr) (n : Int), vs = [.ref d, .int n] ∧ Dice H d ∧ 1 ≤ n ∧ n < 1073741824 ∧ ∀ (r : Nat) (H' : Hp), (r : Int) < n → Ext d H H' → Dice H' d → Q (.int r) H'
theorem ok_roll0 (T : Txt K mg) : FnOk P w K mg base CX0 1 T.f_roll T.fd_roll ["_law_dice_here", "_law_total"] spRoll := by
  refine T.F_roll.ok sc_roll (fun vs H Q E h => ?_) (fun cdv A outer s H vs Q E hr h => ?_)
  · obtain ⟨d, n, rfl, _⟩ := h
    rfl
  · obtain ⟨d, n, rfl, ⟨a, b, c, h0, hd⟩, h1, h2, q⟩ := h
    refine ⟨_, (pss_cons (ps_if (pt_cmpR op_gt (pe_ix (i_list (K := K)) (pv 0) pe_int (fun _ _ => rfl)) pe_int (nomark _)) (pss_cons (ps_set (i := 2) sc_roll.nd rfl (.inl rfl) (pe_op op_mod (pe_callTy c_int1 (by rfl) T.z_int (by decide +kernel) (pa_cons (pe_ix (i_list (K := K)) (pv 0) pe_int (fun _ _ => rfl)) pa_nil)) (pv 1)))
      (pss_cons (ps_asg (pe_op op_fdiv (pe_ix (i_list (K := K)) (pv 0) pe_int (fun _ _ => rfl)) (pv 1)) (pg_sub (pv 0) pe_int set_list))
      (pss_one (ps_ret (pv 2))))) pss_nil)
      (pss_cons (ps_asg (pe_op op_add (pe_ix (i_list (K := K)) (pv 0) pe_int (fun _ _ => rfl)) pe_int) (pg_sub (pv 0) pe_int set_list))
      (pss_cons (ps_set (i := 3) sc_roll.nd rfl (.inl rfl) (pe_op op_mod (pe_callTy c_int1 (by rfl) T.z_int (by decide +kernel) (pa_cons (pe_op op_add (pe_ix (i_list (K := K)) (pv 0) pe_int (fun _ _ => rfl)) (pe_op op_mul pe_int (pe_ix (i_list (K := K)) (pv 0) pe_int (fun _ _ => rfl)))) pa_nil)) pe_int))
      (pss_cons (ps_set (i := 4) sc_roll.nd rfl (.inl rfl) (pe_op op_add (pe_op op_mul (pe_op op_mod (pe_callTy c_int1 (by rfl) T.z_int (by decide +kernel) (pa_cons (pe_op op_mul (pv 3) (pv 3)) pa_nil)) pe_int) (pv 3)) (pe_op op_mul pe_int (pe_ix (i_list (K := K)) (pv 0) pe_int (fun _ _ => rfl)))))
      (pss_cons (ps_set (i := 4) sc_roll.nd rfl (.inl rfl) (pe_op op_mod (pe_callTy c_int1 (by rfl) T.z_int (by decide +kernel) (pa_cons (pv 4) pa_nil)) pe_int))
      (pss_one (ps_ret (pe_op op_mod (pe_callTy c_int1 (by rfl) T.z_int (by decide +kernel) (pa_cons (pe_op op_fdiv (pv 4) pe_int) pa_nil)) (pv 1))))))))), ?_⟩
    walk_at "zrd"
    refine ite2 (fun e => ?_) (fun e => ?_)
    · walk_at "zrd"
      obtain ⟨h3, h4⟩ := nx_pos h1 h0
      have q' := q (a % n).toNat (upd H d (.lst [.int (a / n), .int b, .int c])) h3 (Ext.refl d H).at_ (Dice.mk3 (Int.ediv_nonneg h0 (by omega)))
      rw [h4] at q'
      exact q'
    · walk_at "zrd"
      have key : ∀ z : Int, 0 ≤ z → Q (.int (z % n)) (upd H d (.lst [.int a, .int b, .int (c + 1)])) := fun z hz => by
        obtain ⟨h3, h4⟩ := nx_pos h1 hz
        have q' := q (z % n).toNat (upd H d (.lst [.int a, .int b, .int (c + 1)])) h3 (Ext.refl d H).at_ (Dice.mk3 h0)
        rw [h4] at q'
        exact q'
      exact key _ (Int.ediv_nonneg (Int.emod_nonneg _ (by decide)) (by decide))
end
end My

namespace My
open PySem PySem.Spec PyProof.Rows L2
section
variable {P : Program} {w : World} {K : PySem.W.Frag} {mg : Str → Option Value} {base : Heap}
theorem ok_dice_ (T : Txt K mg) : FnOk P w K mg base CX0 1 T.f_dice T.fd_dice ["_law_script", "_law_spot"] (spN K tDice) := ok_new T.F_dice sc_dice (fun ds κ ⟨ns, j, h, _⟩ => by rw [h]; rfl) fun cdv A outer s H E ds κ hr ht => by
  obtain ⟨ns, j, rfl, hj, q⟩ := ht
  refine ⟨_, (pss_cons (ps_set (i := 2) sc_dice.nd rfl (.inl rfl) (pe_op op_add (pe_op op_mul pe_int (pv 1)) pe_int))
      (pss_cons (ps_if (pt_cmpR op_lt (pv 1) (pe_callB (c_len (K := K)) (by rfl) T.z_len (by decide +kernel) (pa_cons (pv 0) pa_nil)) (nomark _)) (pss_one (ps_set (i := 2) sc_dice.nd rfl (.inl rfl) (pe_ix (i_list (K := K)) (pv 0) (pv 1) (fun _ _ => rfl)))) pss_nil)
      (pss_cons (ps_set (i := 3) sc_dice.nd rfl (.inl rfl) (pe_op op_mod (pe_callTy c_int1 (by rfl) T.z_int (by decide +kernel) (pa_cons (pe_callB c_abs (by rfl) T.z_abs (by decide +kernel) (pa_cons (pv 2) pa_nil)) pa_nil)) (pe_op op_powW (pe_op op_powW pe_int pe_int) pe_int)))
      (pss_cons (ps_set (i := 4) sc_dice.nd rfl (.inl rfl) (pe_op op_add (pe_op op_add (pe_op op_add (pe_op op_mul (pe_op op_mod (pe_callTy c_int1 (by rfl) T.z_int (by decide +kernel) (pa_cons (pv 3) pa_nil)) pe_int) pe_int) (pe_op op_mul pe_int (pv 1))) (pe_op op_mul pe_int (pe_callTy c_int1 (by rfl) T.z_int (by decide +kernel) (pa_cons (pe_cmpR op_lt (pv 2) pe_int (nomark _)) pa_nil)))) pe_int))
      (pss_one (ps_ret (pe_lst (pa_cons (pe_callB (c_max2 rfl) (by rfl) T.z_max (by decide +kernel) (pa_cons pe_int (pa_cons (pe_op op_sub (pv 3) (pe_op op_powW pe_int pe_int)) pa_nil))) (pa_cons (pe_op op_mod (pe_callTy c_int1 (by rfl) T.z_int (by decide +kernel) (pa_cons (pv 4) pa_nil)) pe_int) (pa_cons pe_int pa_nil)))))))))), ?_⟩
  show Sn K _ [.dat (.lst (intsD ns)), .dat (.int j), .no, .no, .no] _
  walk_at "zw"
  refine sn_join (fun δ' => ∃ c : Int, δ' = [.dat (.lst (intsD ns)), .dat (.int j), .dat (.int c), .no, .no]) ?_ ?_
  · refine x_if ?_
    walk_at "zw"
    refine lf_if (fun h => ?_) (fun h => ?_)
    · obtain ⟨i, hi⟩ := ints_at (ns := ns) (j := j) (by rw [ints_len] at h; have := of_decide_eq_true h; omega)
      walk_at "zw"
      exact ⟨_, rfl⟩
    · walk_at "zw"
      exact ⟨_, rfl⟩
  · rintro _ ⟨c, rfl⟩
    walk_at "zw"
    exact q _ _ (by split <;> omega)
/-! ### _law_roll, _law_pick, _law_some -/
theorem ok_roll (T : Txt K mg) : FnOk P w K mg base CX0 1 T.f_roll T.fd_roll ["_law_dice_here", "_law_total"] (spG K tRoll) := (ok_roll0 T).imp fun vs H Q E ⟨M, g, us, ds, k, hvs, hd, _, _, hv, ⟨m, hds, h1, h2, q⟩, k'⟩ => by
  subst hds hvs
  cases hv with
  | cons h t =>
    cases t
    rw [h.inv_int]
    exact ⟨g, m, rfl, hd, h1, h2, fun r H' hr e d => k' _ (.int r) H' (q r hr) (fun b o nb hb => e b o (fun z => nb (List.mem_singleton.mpr z)) hb) d (.int _)⟩
end
end My

namespace My
open PySem PySem.Spec PyProof.Rows L2
section
variable {P : Program} {w : World} {K : PySem.W.Frag} {mg : Str → Option Value} {base : Heap}
theorem ok_is_integer (T : Txt K mg) : FnOk P w K mg base CX0 1 T.f_is_integer T.fd_is_integer ["value"] (spP K tIsInt) := ok_pure T.F_is_integer sc_is_integer (fun ds κ ⟨i, h, _⟩ => by rw [h]; rfl) fun cdv A outer s0 H E ds κ hr ht => by
  obtain ⟨i, rfl, q⟩ := ht
  refine ⟨_, (pss_cons (ps_if (PW.pt (pw_or (pt_not (pt_val (pe_callB (c_isi (K := K)) (by rfl) T.z_isinstance (by decide +kernel) (pa_cons (pv 0) (pa_cons (pe_bltn (v := .ty "int") (by rfl) T.z_int (by decide +kernel) rfl) pa_nil))))) (pw_or1 (pt_val (pe_callB (c_isi (K := K)) (by rfl) T.z_isinstance (by decide +kernel) (pa_cons (pv 0) (pa_cons (pe_bltn (v := .ty "bool") (by rfl) T.z_bool (by decide +kernel) rfl) pa_nil))))))) (pss_one (ps_ret pe_bl)) pss_nil)
      (pss_one (ps_ret (pe_cmpR op_lt (pe_callB c_abs (by rfl) T.z_abs (by decide +kernel) (pa_cons (pv 0) pa_nil)) (pe_op op_powW pe_int pe_int) (nomark _))))), ?_⟩
  show Sw K _ [.dat (.int i)] _
  refine x_seq (x_if ?_)
  walk_at "zw"
  exact q
theorem ok_check_number (T : Txt K mg) : FnOk P w K mg base CX0 2 T.f_check_number T.fd_check_number ["value", "least", "greatest"] (spP K tChk) := ok_pure T.F_check_number sc_check_number (fun ds κ ⟨i, lo, hi, h, _⟩ => by rw [h]; rfl) fun cdv A outer s0 H E ds κ hr ht => by
  obtain ⟨i, lo, hi, rfl, h1, h2, h3, q⟩ := ht
  refine ⟨_, (pss_one (ps_if (PW.pt (pw_or (pt_not (pt_val (pe_call (ok_is_integer T) (hr.mono (by decide)) (by rfl) T.g_is_integer T.F_is_integer.kp T.b_is_integer .nil pass0 (pa_cons (pv 0) pa_nil)))) (pw_or1 (pt_not (pt_chain op_le op_le (pv 1) (pv 0) (pv 2)))))) (pss_one ps_no) pss_nil)), ?_⟩
  show Sw K _ [.dat (.int i), .dat (.int lo), .dat (.int hi)] _
  walk_at "zw"
  refine ⟨i, rfl, ?_⟩
  rw [decide_eq_true h3]
  walk_at "zw"
  rw [decide_eq_true h1]
  walk_at "zw"
  rw [decide_eq_true h2]
  walk_at "zw"
  exact q
theorem ok_is_word (T : Txt K mg) : FnOk P w K mg base CX0 1 T.f_is_word T.fd_is_word ["value"] (spP K tIsWord) := ok_pure T.F_is_word sc_is_word (fun ds κ ⟨i, h, _⟩ => by rw [h]; rfl) fun cdv A outer s0 H E ds κ hr ht => by
  obtain ⟨s, rfl, q⟩ := ht
  refine ⟨_, (pss_cons (ps_if (PW.pt (pw_or (pt_not (pt_val (pe_callB (c_isi (K := K)) (by rfl) T.z_isinstance (by decide +kernel) (pa_cons (pv 0) (pa_cons (pe_bltn (v := .ty "str") (by rfl) T.z_str (by decide +kernel) rfl) pa_nil))))) (pw_or1 (pt_cmpR op_gt (pe_callB c_lenT (by rfl) T.z_len (by decide +kernel) (pa_cons (pv 0) pa_nil)) (pe_glob (v := .int (8)) rfl T.c_MAX_LETTERS ⟨_, rfl⟩) (nomark _))))) (pss_one (ps_ret pe_bl)) pss_nil)
      (pss_one (ps_ret (pe_and (e_bm0 (K := K) PySem.F.plainAttrs_str PySem.F.slot_str_isascii PySem.F.type_str_isascii c_isascii (pv 0)) (pe_and (e_bm0 (K := K) PySem.F.plainAttrs_str PySem.F.slot_str_isalpha PySem.F.type_str_isalpha c_isalpha (pv 0)) (pe_one (e_bm0 (K := K) PySem.F.plainAttrs_str PySem.F.slot_str_islower PySem.F.type_str_islower c_islower (pv 0)))))))), ?_⟩
  show Sw K _ [.dat (.str s)] _
  unfold wordB at q
  refine x_seq (x_if ?_)
  walk_at "zw"
  refine lf_if (fun h => ?_) (fun h => ?_)
  · walk_at "zw"
    have := of_decide_eq_true h
    rw [decide_eq_false (by omega), Bool.false_and] at q
    exact q
  · walk_at "zw"
    have := of_decide_eq_false h
    rw [decide_eq_true (by omega), Bool.true_and] at q
    refine lf_if (fun h1 => ?_) (fun h1 => ?_)
    · walk_at "zw"
      rw [h1, Bool.true_and] at q
      refine lf_if (fun h2 => ?_) (fun h2 => ?_)
      · walk_at "zw"
        rw [h2, Bool.true_and] at q
        exact q
      · rw [h2, Bool.false_and] at q
        exact q
    · rw [h1, Bool.false_and] at q
      exact q
theorem ok_is_column (T : Txt K mg) : FnOk P w K mg base CX0 2 T.f_is_column T.fd_is_column ["value"] (spP K tIsCol) := ok_pure T.F_is_column sc_is_column (fun ds κ ⟨i, h, _⟩ => by rw [h]; rfl) fun cdv A outer s0 H E ds κ hr ht => by
  obtain ⟨i, rfl, q⟩ := ht
  refine ⟨_, (pss_one (ps_ret (pe_and (pe_call (ok_is_integer T) (hr.mono (by decide)) (by rfl) T.g_is_integer T.F_is_integer.kp T.b_is_integer .nil pass0 (pa_cons (pv 0) pa_nil)) (pe_one (pe_chain op_le op_le pe_int (pv 0) (pe_glob (v := .int (199)) rfl T.c_MAX_COLUMN ⟨_, rfl⟩)))))), ?_⟩
  show Sw K _ [.dat (.int i)] _
  walk_at "zw"
  refine ⟨i, rfl, ?_⟩
  walk_at "zw"
  refine lf_if (fun h => ?_) (fun h => ?_)
  · walk_at "zw"
    refine lf_if (fun h1 => ?_) (fun h1 => ?_)
    · walk_at "zw"
      rw [h1, Bool.true_and] at q
      exact q
    · rw [h1, Bool.false_and] at q
      exact q
  · have h2 := of_decide_eq_false h
    have h3 : (decide (0 ≤ i) && decide (i ≤ 199)) = false := by
      rw [Bool.and_eq_false_iff]
      unfold absI at h2
      by_cases z : i < 0
      · exact .inl (decide_eq_false (by omega))
      · rw [if_neg z] at h2
        refine .inr (decide_eq_false fun z2 => h2 (Int.lt_of_le_of_lt z2 (by decide +kernel)))
    rw [h3] at q
    exact q
theorem nb_t {x : Bool} (h : (!x) = true) : x = false := by cases x with
  | true => cases h
  | false => rfl
theorem nb_f {x : Bool} (h : (!x) = false) : x = true := by cases x with
  | true => rfl
  | false => cases h
theorem y_allT [Xg K] {te : TE} {δ : Store} {Φ : Dt → Store → Prop} (q : W K te δ fun d δ1 => ∃ bs, d = .lst (blsD bs) ∧ Φ (.bl (bs.all id)) δ1) : W K (tCB (rAll K) (tCons te tNil)) δ Φ := w_all (wa_cons (q.imp fun d δ1 ⟨bs, h, q⟩ => wa_nil ⟨bs, by rw [h], q⟩))
def wordD : Dt → Dt
  | .str s => .bl (wordB s)
  | _ => .non
theorem word_map : ∀ ws : List Str, (strsD ws).map wordD = blsD (ws.map wordB)
  | [] => rfl
  | x :: ws => by
    have := word_map ws
    show wordD (.str x) :: (strsD ws).map wordD = _
    rw [this]; rfl
theorem ok_is_words_of_line (T : Txt K mg) : FnOk P w K mg base CX0 2 T.f_is_words_of_line T.fd_is_words_of_line ["value"] (spP K tIsWs) := ok_pure T.F_is_words_of_line sc_is_words_of_line (fun ds κ ⟨i, h, _⟩ => by rw [h]; rfl) fun cdv A outer s0 H E ds κ hr ht => by
  obtain ⟨ws, rfl, hl, q⟩ := ht
  refine ⟨_, (pss_cons (ps_if (PW.pt (pw_or (pt_not (pt_val (pe_callB (c_isi (K := K)) (by rfl) T.z_isinstance (by decide +kernel) (pa_cons (pv 0) (pa_cons (pe_bltn (v := .ty "tuple") (by rfl) T.z_tuple (by decide +kernel) rfl) pa_nil))))) (pw_or1 (pt_not (pt_chain op_le op_le pe_int (pe_callB (c_len (K := K)) (by rfl) T.z_len (by decide +kernel) (pa_cons (pv 0) pa_nil)) (pe_glob (v := .int (6)) rfl T.c_MAX_WORDS ⟨_, rfl⟩)))))) (pss_one (ps_ret pe_bl)) pss_nil)
      (pss_one (ps_ret (pe_callB (c_all (K := K) rfl) (by rfl) T.z_all (by decide +kernel) (pa_cons (pe_lc (own := [("word", 1)]) rfl sc_is_words_of_line.nd (p_tup (K := K) (pv 0)) (blkOk_by (own := [("word", 1)]) (N := ["value", "word"]) (sc := (defScope s_is_words_of_line)) (by decide +kernel)) (fun _ _ _ _ _ => (pg_name (i := 1) sc_is_words_of_line.nd rfl (.inl rfl))) (fun _ _ _ _ _ => pts_nil) (fun _ _ _ _ _ => (pe_call (ok_is_word T) (hr.mono (by decide)) (by rfl) T.g_is_word T.F_is_word.kp T.b_is_word .nil pass0 (pa_cons (pv 1) pa_nil)))) pa_nil))))), ?_⟩
  show Sw K _ [.dat (.tup (strsD ws)), .no] _
  unfold wsB at q
  refine x_seq (x_if (wt_val (!(decide (1 ≤ ws.length) && decide (ws.length ≤ 6))) ?_ ?_))
  · walk_at "zw"
    rw [strs_len]
    refine lf_if (fun h => ?_) (fun h => ?_)
    · have := of_decide_eq_true h
      walk_at "zw"
      refine ⟨?_, rfl⟩
      rw [decide_eq_true (show 1 ≤ ws.length by omega), Bool.true_and]
      by_cases z : ws.length ≤ 6
      · rw [decide_eq_true z, decide_eq_true (show (ws.length : Int) ≤ 6 by omega)]
      · rw [decide_eq_false z, decide_eq_false (show ¬ (ws.length : Int) ≤ 6 by omega)]
    · have := of_decide_eq_false h
      walk_at "zw"
      refine ⟨?_, rfl⟩
      rw [decide_eq_false (show ¬ 1 ≤ ws.length by omega)]; rfl
  refine lf_if (fun h => ?_) (fun h => ?_)
  · walk_at "zw"
    have h2 : (decide (1 ≤ ws.length) && decide (ws.length ≤ 6)) = false := nb_t h
    rw [h2, Bool.false_and] at q
    exact q
  · have h2 : (decide (1 ≤ ws.length) && decide (ws.length ≤ 6)) = true := nb_f h
    rw [h2, Bool.true_and] at q
    walk_at "zw"
    refine y_allT (w_of_n (wn_mapT' wordD ?_))
    walk_at "zw"
    · rw [strs_len]; omega
    refine ⟨?_, ws.map wordB, by rw [word_map], ?_⟩
    · intro i x hx
      obtain ⟨u, rfl, _⟩ := strs_get hx
      walk_at "zw"
      refine ⟨u, rfl, ?_⟩
      all_goals first | exact ⟨rfl, rfl, rfl⟩ | exact ⟨rfl, rfl⟩ | exact rfl
    · rw [List.all_map]
      exact q
theorem ok_is_line (T : Txt K mg) : FnOk P w K mg base CX0 3 T.f_is_line T.fd_is_line ["value"] (spP K tIsLine) := ok_pure T.F_is_line sc_is_line (fun ds κ ⟨i, h, _⟩ => by rw [h]; rfl) fun cdv A outer s0 H E ds κ hr ht => by
  obtain ⟨l, rfl, hl, q⟩ := ht
  refine ⟨_, (pss_cons (ps_if (PW.pt (pw_or (pt_not (pt_val (pe_callB (c_isi (K := K)) (by rfl) T.z_isinstance (by decide +kernel) (pa_cons (pv 0) (pa_cons (pe_bltn (v := .ty "tuple") (by rfl) T.z_tuple (by decide +kernel) rfl) pa_nil))))) (pw_or1 (pt_cmpR op_ne (pe_callB (c_len (K := K)) (by rfl) T.z_len (by decide +kernel) (pa_cons (pv 0) pa_nil)) pe_int (nomark _))))) (pss_one (ps_ret pe_bl)) pss_nil)
      (pss_one (ps_ret (pe_and (pe_call (ok_is_column T) (hr.mono (by decide)) (by rfl) T.g_is_column T.F_is_column.kp T.b_is_column .nil pass0 (pa_cons (pe_ix (i_tup (K := K)) (pv 0) pe_int (fun _ _ => rfl)) pa_nil)) (pe_one (pe_call (ok_is_words_of_line T) (hr.mono (by decide)) (by rfl) T.g_is_words_of_line T.F_is_words_of_line.kp T.b_is_words_of_line .nil pass0 (pa_cons (pe_ix (i_tup (K := K)) (pv 0) pe_int (fun _ _ => rfl)) pa_nil))))))), ?_⟩
  show Sw K _ [.dat (.tup [.int l.col, .tup (strsD l.ws)])] _
  refine x_seq (x_if ?_)
  walk_at "zw"
  refine lf_if (fun h => absurd h (by show ¬ ((!decide (((2 : Nat) : Int) = 2)) = true); decide)) (fun _ => ?_)
  have h1 : atI [Dt.int l.col, Dt.tup (strsD l.ws)] 1 = some (.tup (strsD l.ws)) := L2.atI_nat (j := 1) rfl
  have h0 : atI [Dt.int l.col, Dt.tup (strsD l.ws)] 0 = some (.int l.col) := L2.atI_nat (j := 0) rfl
  walk_at "zw"
  refine ⟨l.col, rfl, ?_⟩
  walk_at "zw"
  refine lf_if (fun h => ?_) (fun h => ?_)
  · walk_at "zw"
    refine ⟨l.ws, rfl, hl, ?_⟩
    rw [h, Bool.true_and] at q
    exact q
  · rw [h, Bool.false_and] at q
    exact q
end
end My

namespace My
open PySem PySem.Spec PyProof.Rows L2
section
variable {P : Program} {w : World} {K : PySem.W.Frag} {mg : Str → Option Value} {base : Heap}
def colB (i : Int) : Bool := decide (0 ≤ i) && decide (i ≤ 199)
def colD : Dt → Dt
  | .int i => .bl (colB i)
  | _ => .non
theorem ints_get {as : List Int} {i : Nat} {d : Dt} (h : (intsD as)[i]? = some d) : ∃ w, d = .int w ∧ as[i]? = some w := by
  unfold intsD at h
  rw [List.getElem?_map] at h
  cases e : as[i]? with
  | none => rw [e] at h; cases h
  | some w => rw [e] at h; cases h; exact ⟨w, rfl, rfl⟩
theorem col_map : ∀ ws : List Int, (intsD ws).map colD = blsD (ws.map colB)
  | [] => rfl
  | x :: ws => by
    have := col_map ws
    show colD (.int x) :: (intsD ws).map colD = _
    rw [this]; rfl
def tAreCols (ds : List Dt) (κ : Dt → Prop) : Prop := ∃ (cs : List Int) (m : Nat), ds = [.tup (intsD cs), .int m] ∧ cs.length ≤ 90000 ∧ κ (.bl (decide (cs.length = m) && cs.all colB))
theorem ok_are_columns (T : Txt K mg) : FnOk P w K mg base CX0 3 T.f_are_columns T.fd_are_columns ["value", "many"] (spP K tAreCols) := ok_pure T.F_are_columns sc_are_columns (fun ds κ ⟨i, m, h, _⟩ => by rw [h]; rfl) fun cdv A outer s0 H E ds κ hr ht => by
  obtain ⟨cs, m, rfl, hl, q⟩ := ht
  refine ⟨_, (pss_cons (ps_if (PW.pt (pw_or (pt_not (pt_val (pe_callB (c_isi (K := K)) (by rfl) T.z_isinstance (by decide +kernel) (pa_cons (pv 0) (pa_cons (pe_bltn (v := .ty "tuple") (by rfl) T.z_tuple (by decide +kernel) rfl) pa_nil))))) (pw_or1 (pt_cmpR op_ne (pe_callB (c_len (K := K)) (by rfl) T.z_len (by decide +kernel) (pa_cons (pv 0) pa_nil)) (pv 1) (nomark _))))) (pss_one (ps_ret pe_bl)) pss_nil)
      (pss_one (ps_ret (pe_callB (c_all (K := K) rfl) (by rfl) T.z_all (by decide +kernel) (pa_cons (pe_lc (own := [("column", 2)]) rfl sc_are_columns.nd (p_tup (K := K) (pv 0)) (blkOk_by (own := [("column", 2)]) (N := ["value", "many", "column"]) (sc := (defScope s_are_columns)) (by decide +kernel)) (fun _ _ _ _ _ => (pg_name (i := 2) sc_are_columns.nd rfl (.inl rfl))) (fun _ _ _ _ _ => pts_nil) (fun _ _ _ _ _ => (pe_call (ok_is_column T) (hr.mono (by decide)) (by rfl) T.g_is_column T.F_is_column.kp T.b_is_column .nil pass0 (pa_cons (pv 2) pa_nil)))) pa_nil))))), ?_⟩
  show Sw K _ [.dat (.tup (intsD cs)), .dat (.int m), .no] _
  refine x_seq (x_if (wt_val (!decide (cs.length = m)) ?_ ?_))
  · walk_at "zw"
    rw [ints_len]
    refine ⟨?_, rfl⟩
    by_cases e : cs.length = m
    · rw [decide_eq_true e, decide_eq_true (show (cs.length : Int) = m by omega)]
    · rw [decide_eq_false e, decide_eq_false (show ¬ (cs.length : Int) = m by omega)]
  refine lf_if (fun h => ?_) (fun h => ?_)
  · walk_at "zw"
    rw [nb_t h, Bool.false_and] at q
    exact q
  · rw [nb_f h, Bool.true_and] at q
    walk_at "zw"
    refine y_allT (w_of_n (wn_mapT' colD ?_))
    walk_at "zw"
    · rw [ints_len]; omega
    refine ⟨?_, cs.map colB, by rw [col_map], ?_⟩
    · intro i x hx
      obtain ⟨u, rfl, _⟩ := ints_get hx
      walk_at "zw"
      refine ⟨u, rfl, ?_⟩
      all_goals first | exact ⟨rfl, rfl, rfl⟩ | exact ⟨rfl, rfl⟩ | exact rfl
    · rw [List.all_map]
      exact q
def wssD (l : List (List Str)) : List Dt := l.map fun ws => .tup (strsD ws)
theorem wss_len (l : List (List Str)) : (wssD l).length = l.length := List.length_map ..
theorem wss_get {as : List (List Str)} {i : Nat} {d : Dt} (h : (wssD as)[i]? = some d) : ∃ w, d = .tup (strsD w) ∧ as[i]? = some w := by
  unfold wssD at h
  rw [List.getElem?_map] at h
  cases e : as[i]? with
  | none => rw [e] at h; cases h
  | some w => rw [e] at h; cases h; exact ⟨w, rfl, rfl⟩
def tAreWords (ds : List Dt) (κ : Dt → Prop) : Prop := ∃ l : List (List Str), ds = [.tup (wssD l)] ∧ l.length ≤ 90000 ∧ (∀ ws ∈ l, ws.length ≤ 90000) ∧ κ (.bl (decide (l.length ≤ 60) && l.all wsB))
theorem strs_inj : ∀ {a b : List Str}, strsD a = strsD b → a = b
  | [], [], _ => rfl
  | [], _ :: _, h => by cases h
  | _ :: _, [], h => by cases h
  | x :: a, y :: b, h => by
    have h1 : Dt.str x = Dt.str y ∧ strsD a = strsD b := List.cons.inj h
    cases h1.1
    rw [strs_inj h1.2]
theorem ok_are_words (T : Txt K mg) : FnOk P w K mg base CX0 3 T.f_are_words T.fd_are_words ["value"] (spP K tAreWords) := ok_pure T.F_are_words sc_are_words (fun ds κ ⟨i, h, _⟩ => by rw [h]; rfl) fun cdv A outer s0 H E ds κ hr ht => by
  obtain ⟨l, rfl, hl, hw, q⟩ := ht
  refine ⟨_, (pss_cons (ps_if (PW.pt (pw_or (pt_not (pt_val (pe_callB (c_isi (K := K)) (by rfl) T.z_isinstance (by decide +kernel) (pa_cons (pv 0) (pa_cons (pe_bltn (v := .ty "tuple") (by rfl) T.z_tuple (by decide +kernel) rfl) pa_nil))))) (pw_or1 (pt_cmpR op_gt (pe_callB (c_len (K := K)) (by rfl) T.z_len (by decide +kernel) (pa_cons (pv 0) pa_nil)) (pe_glob (v := .int (60)) rfl T.c_MAX_LINES ⟨_, rfl⟩) (nomark _))))) (pss_one (ps_ret pe_bl)) pss_nil)
      (pss_one (ps_ret (pe_callB (c_all (K := K) rfl) (by rfl) T.z_all (by decide +kernel) (pa_cons (pe_lc (own := [("words", 1)]) rfl sc_are_words.nd (p_tup (K := K) (pv 0)) (blkOk_by (own := [("words", 1)]) (N := ["value", "words"]) (sc := (defScope s_are_words)) (by decide +kernel)) (fun _ _ _ _ _ => (pg_name (i := 1) sc_are_words.nd rfl (.inl rfl))) (fun _ _ _ _ _ => pts_nil) (fun _ _ _ _ _ => (pe_call (ok_is_words_of_line T) (hr.mono (by decide)) (by rfl) T.g_is_words_of_line T.F_is_words_of_line.kp T.b_is_words_of_line .nil pass0 (pa_cons (pv 1) pa_nil)))) pa_nil))))), ?_⟩
  show Sw K _ [.dat (.tup (wssD l)), .no] _
  refine x_seq (x_if (wt_val (!decide (l.length ≤ 60)) ?_ ?_))
  · walk_at "zw"
    rw [wss_len]
    refine ⟨?_, rfl⟩
    by_cases e : l.length ≤ 60
    · rw [decide_eq_true e, decide_eq_false (show ¬ (60 : Int) < l.length by omega)]; rfl
    · rw [decide_eq_false e, decide_eq_true (show (60 : Int) < l.length by omega)]; rfl
  refine lf_if (fun h => ?_) (fun h => ?_)
  · walk_at "zw"
    rw [nb_t h, Bool.false_and] at q
    exact q
  · rw [nb_f h, Bool.true_and] at q
    walk_at "zw"
    refine y_allT (w_of_n (wn_eachT ?_))
    walk_at "zw"
    refine ⟨_, fun x y => ∀ ws, x = .tup (strsD ws) → y = .bl (wsB ws), rfl, by rw [wss_len]; omega, rfl, ?_, ?_⟩
    · intro i x hx
      obtain ⟨u, rfl, hu⟩ := wss_get hx
      walk_at "zw"
      refine ⟨u, rfl, hw u (List.mem_of_getElem? hu), ?_⟩
      have e : ∀ ws, Dt.tup (strsD u) = .tup (strsD ws) → Dt.bl (wsB u) = .bl (wsB ws) := fun ws e => by
        injection e with e
        rw [strs_inj e]
      all_goals first | exact ⟨rfl, e, rfl⟩ | exact ⟨e, rfl⟩
    · intro acc ha hp
      refine ⟨l.map wsB, ?_, by rw [List.all_map]; exact q⟩
      congr 1
      refine List.ext_getElem? fun j => ?_
      unfold blsD
      rw [List.getElem?_map, List.getElem?_map]
      cases hj : l[j]? with
      | none =>
        rw [List.getElem?_eq_none (by rw [ha, wss_len]; exact List.getElem?_eq_none_iff.mp hj)]
        rfl
      | some ws =>
        have hjl : j < acc.length := by rw [ha, wss_len]; exact (List.getElem?_eq_some_iff.mp hj).1
        have hx : (wssD l)[j]? = some (.tup (strsD ws)) := by unfold wssD; rw [List.getElem?_map, hj]; rfl
        rw [List.getElem?_eq_getElem hjl, hp j _ _ hx (List.getElem?_eq_getElem hjl) ws rfl]
        rfl
end
end My

namespace My
open PySem PySem.Spec PyProof.Rows L2
section
variable {P : Program} {w : World} {K : PySem.W.Frag} {mg : Str → Option Value} {base : Heap}
/-! ### the class Text -/
theorem pe_fldK {X : Cx} {K : PySem.W.Frag} {o : Expr} {m : Str} {apos : Pos} {te : TE} (hK : X.K = K) (he : PE X o te) (hb : attributeBase o m X.env (eval o X.env) = eval o X.env) : PE X (.Attribute o m apos) (tFld K te m) := by
  subst hK
  exact pe_fld he hb
def txF (ls : List LLine) : List (Str × Dt) := [("_lines", .tup (linD ls)), ("_columns", .tup (intsD (ls.map (·.col)))), ("_words", .tup (wssD (ls.map (·.ws))))]
abbrev txD (C : Addr) (ls : List LLine) : Dt := .ins C (txF ls)
theorem tx_l (ls : List LLine) : (txF ls).lookup (Str.ofString "_lines") = some (.tup (linD ls)) := by
  unfold txF
  simp only [List.lookup, beq_self_eq_true]
theorem tx_c (ls : List LLine) : (txF ls).lookup (Str.ofString "_columns") = some (.tup (intsD (ls.map (·.col)))) := by
  unfold txF
  simp only [List.lookup, show (Str.ofString "_columns" == Str.ofString "_lines") = false by decide, beq_self_eq_true]
theorem tx_w (ls : List LLine) : (txF ls).lookup (Str.ofString "_words") = some (.tup (wssD (ls.map (·.ws)))) := by
  unfold txF
  simp only [List.lookup, show (Str.ofString "_words" == Str.ofString "_lines") = false by decide, show (Str.ofString "_words" == Str.ofString "_columns") = false by decide, beq_self_eq_true]
def tProp (C : Addr) (f : List LLine → Dt) (ds : List Dt) (κ : Dt → Prop) : Prop := ∃ ls : List LLine, ds = [txD C ls] ∧ κ (f ls)
theorem ok_Text_lines (T : Txt K mg) : FnOk P w K mg base CX0 1 T.f_Text_lines T.fd_Text_lines ["self"] (spP K (tProp T.C_Text fun ls => .tup (linD ls))) := ok_pure T.F_Text_lines sc_Text_lines (fun ds κ ⟨i, h, _⟩ => by rw [h]; rfl) fun cdv A outer s0 H E ds κ hr ht => by
  obtain ⟨ls, rfl, q⟩ := ht
  refine ⟨_, (pss_one (ps_ret (pe_fldK (K := K) rfl (pv 0) rfl))), ?_⟩
  show Sw K _ [.dat (.ins T.C_Text (txF ls))] _
  refine x_ret (w_fld ?_)
  walk_at "zw"
  exact ⟨_, _, _, rfl, T.cl_Text, T.nA_Text_lines, tx_l ls, q⟩
theorem ok_Text_columns (T : Txt K mg) : FnOk P w K mg base CX0 1 T.f_Text_columns T.fd_Text_columns ["self"] (spP K (tProp T.C_Text fun ls => .tup (intsD (ls.map (·.col))))) := ok_pure T.F_Text_columns sc_Text_columns (fun ds κ ⟨i, h, _⟩ => by rw [h]; rfl) fun cdv A outer s0 H E ds κ hr ht => by
  obtain ⟨ls, rfl, q⟩ := ht
  refine ⟨_, (pss_one (ps_ret (pe_fldK (K := K) rfl (pv 0) rfl))), ?_⟩
  show Sw K _ [.dat (.ins T.C_Text (txF ls))] _
  refine x_ret (w_fld ?_)
  walk_at "zw"
  exact ⟨_, _, _, rfl, T.cl_Text, T.nA_Text_columns, tx_c ls, q⟩
theorem ok_Text_words (T : Txt K mg) : FnOk P w K mg base CX0 1 T.f_Text_words T.fd_Text_words ["self"] (spP K (tProp T.C_Text fun ls => .tup (wssD (ls.map (·.ws))))) := ok_pure T.F_Text_words sc_Text_words (fun ds κ ⟨i, h, _⟩ => by rw [h]; rfl) fun cdv A outer s0 H E ds κ hr ht => by
  obtain ⟨ls, rfl, q⟩ := ht
  refine ⟨_, (pss_one (ps_ret (pe_fldK (K := K) rfl (pv 0) rfl))), ?_⟩
  show Sw K _ [.dat (.ins T.C_Text (txF ls))] _
  refine x_ret (w_fld ?_)
  walk_at "zw"
  exact ⟨_, _, _, rfl, T.cl_Text, T.nA_Text_words, tx_w ls, q⟩
end
end My

namespace My
open PySem PySem.Spec PyProof.Rows L2
section
variable {P : Program} {w : World} {K : PySem.W.Frag} {mg : Str → Option Value} {base : Heap}
theorem y_txL [Xg K] {C : Addr} (hc : Cls K C) (hn : NoAttr K C (Str.ofString "_lines")) {te : TE} {δ : Store} {Φ : Dt → Store → Prop} (q : W K te δ fun d δ1 => ∃ ls, d = .ins C (txF ls) ∧ Φ (.tup (linD ls)) δ1) : W K (tFld K te (Str.ofString "_lines")) δ Φ := w_fld (q.imp fun d δ1 ⟨ls, h, q⟩ => ⟨C, txF ls, _, h, hc, hn, tx_l ls, q⟩)
theorem y_txW [Xg K] {C : Addr} (hc : Cls K C) (hn : NoAttr K C (Str.ofString "_words")) {te : TE} {δ : Store} {Φ : Dt → Store → Prop} (q : W K te δ fun d δ1 => ∃ ls, d = .ins C (txF ls) ∧ Φ (.tup (wssD (ls.map (·.ws)))) δ1) : W K (tFld K te (Str.ofString "_words")) δ Φ := w_fld (q.imp fun d δ1 ⟨ls, h, q⟩ => ⟨C, txF ls, _, h, hc, hn, tx_w ls, q⟩)
theorem y_txC [Xg K] {C : Addr} (hc : Cls K C) (hn : NoAttr K C (Str.ofString "_columns")) {te : TE} {δ : Store} {Φ : Dt → Store → Prop} (q : W K te δ fun d δ1 => ∃ ls, d = .ins C (txF ls) ∧ Φ (.tup (intsD (ls.map (·.col)))) δ1) : W K (tFld K te (Str.ofString "_columns")) δ Φ := w_fld (q.imp fun d δ1 ⟨ls, h, q⟩ => ⟨C, txF ls, _, h, hc, hn, tx_c ls, q⟩)
theorem abs_small {i : Int} (h : 0 ≤ i) (h2 : i ≤ 1000000) : absI i < 10 ^ 60 := by
  unfold absI
  rw [if_neg (by omega)]
  exact Int.lt_of_le_of_lt h2 (by decide +kernel)
end
end My

namespace My
open PySem PySem.Spec PyProof.Rows L2
section
variable {P : Program} {w : World} {K : PySem.W.Frag} {mg : Str → Option Value} {base : Heap}
def tBnd (C : Addr) (ds : List Dt) (κ : Dt → Prop) : Prop := ∃ (ls : List LLine) (i j : Int), ds = [txD C ls, .int i, .int j] ∧ 0 ≤ i ∧ i ≤ j ∧ j ≤ ls.length ∧ ls.length ≤ 90000 ∧ κ .non
theorem ok_Text_check_bounds (T : Txt K mg) : FnOk P w K mg base CX0 3 T.f_Text_check_bounds T.fd_Text_check_bounds ["self", "first", "last"] (spP K (tBnd T.C_Text)) := ok_pure T.F_Text_check_bounds sc_Text_check_bounds (fun ds κ ⟨ls, i, j, h, _⟩ => by rw [h]; rfl) fun cdv A outer s0 H E ds κ hr ht => by
  obtain ⟨ls, i, j, rfl, h0, h1, h2, h3, q⟩ := ht
  refine ⟨_, (pss_cons (ps_expr (pe_call (ok_check_number T) (hr.mono (by decide)) (by rfl) T.g_check_number T.F_check_number.kp T.b_check_number .nil pass0 (pa_cons (pv 1) (pa_cons pe_int (pa_cons (pe_callB (c_len (K := K)) (by rfl) T.z_len (by decide +kernel) (pa_cons (pe_fldK (K := K) rfl (pv 0) rfl) pa_nil)) pa_nil)))))
      (pss_one (ps_expr (pe_call (ok_check_number T) (hr.mono (by decide)) (by rfl) T.g_check_number T.F_check_number.kp T.b_check_number .nil pass0 (pa_cons (pv 2) (pa_cons (pv 1) (pa_cons (pe_callB (c_len (K := K)) (by rfl) T.z_len (by decide +kernel) (pa_cons (pe_fldK (K := K) rfl (pv 0) rfl) pa_nil)) pa_nil))))))), ?_⟩
  show Sw K _ [.dat (.ins T.C_Text (txF ls)), .dat (.int i), .dat (.int j)] _
  walk_at "zw"
  refine y_txL T.cl_Text T.nA_Text_lines ?_
  walk_at "zw"
  refine ⟨i, 0, _, rfl, h0, by rw [lin_len]; omega, abs_small h0 (by omega), ?_⟩
  walk_at "zw"
  refine y_txL T.cl_Text T.nA_Text_lines ?_
  walk_at "zw"
  refine ⟨j, i, _, rfl, h1, by rw [lin_len]; omega, abs_small (by omega) (by omega), ?_⟩
  exact q
end
end My

namespace My
open PySem PySem.Spec PyProof.Rows L2
section
variable {P : Program} {w : World} {K : PySem.W.Frag} {mg : Str → Option Value} {base : Heap}
local macro_rules | `(tactic| walk_at "zx") => `(tactic| first
  | ((with_reducible refine My.x_raise ?hW ?_); (case hW => assumption))
  | with_reducible refine My.wk_x ?_
  | with_reducible refine My.wk_n ?_)
/-! ### the errors' own __init__ -/
theorem ok_TooMany_init (T : Txt K mg) : FnOk P w K mg base CX0 1 T.f_TooMany_init T.fd_TooMany_init ["self", "limit"] (spXi T.C_TooMany "limit") := by
  refine T.F_TooMany_init.ok sc_TooMany_init (fun vs H Q E h => ?_) (fun cdv A outer s H vs Q E hr h => ⟨_, (pss_one (ps_stx PySem.F.store_OverflowError T.x_TooMany T.xo_TooMany T.tk_TooMany (pv 0) (pv 1))), ?_⟩)
  · obtain ⟨a, y, rfl, _⟩ := h
    rfl
  · obtain ⟨a, y, rfl, ha, q⟩ := h
    exact ⟨y, rfl, .ref a, rfl, a, rfl, ha, fun dx hn hne => q dx hn hne⟩
theorem ok_InvalidNumber_init (T : Txt K mg) : FnOk P w K mg base CX0 1 T.f_InvalidNumber_init T.fd_InvalidNumber_init ["self", "number"] (spXi T.C_InvalidNumber "number") := by
  refine T.F_InvalidNumber_init.ok sc_InvalidNumber_init (fun vs H Q E h => ?_) (fun cdv A outer s H vs Q E hr h => ⟨_, (pss_one (ps_stx PySem.F.store_RuntimeError T.x_InvalidNumber T.xo_InvalidNumber T.tk_InvalidNumber (pv 0) (pv 1))), ?_⟩)
  · obtain ⟨a, y, rfl, _⟩ := h
    rfl
  · obtain ⟨a, y, rfl, ha, q⟩ := h
    exact ⟨y, rfl, .ref a, rfl, a, rfl, ha, fun dx hn hne => q dx hn hne⟩
theorem ok_ParseError_init (T : Txt K mg) : FnOk P w K mg base CX0 1 T.f_ParseError_init T.fd_ParseError_init ["self", "line"] (spXi T.C_ParseError "line") := by
  refine T.F_ParseError_init.ok sc_ParseError_init (fun vs H Q E h => ?_) (fun cdv A outer s H vs Q E hr h => ⟨_, (pss_one (ps_stx PySem.F.store_ValueError T.x_ParseError T.xo_ParseError T.tk_ParseError (pv 0) (pv 1))), ?_⟩)
  · obtain ⟨a, y, rfl, _⟩ := h
    rfl
  · obtain ⟨a, y, rfl, ha, q⟩ := h
    exact ⟨y, rfl, .ref a, rfl, a, rfl, ha, fun dx hn hne => q dx hn hne⟩
def fst0 : Dt → Dt
  | .tup (d :: _) => d
  | _ => .non
def lineB (l : LLine) : Bool := (decide (0 ≤ l.col) && decide (l.col ≤ 199)) && wsB l.ws
def tInit (CE : Addr) (ds : List Dt) (κ : List (Str × Dt) → Prop) (ε : Value → List (Str × Dt) → Prop) : Prop := ∃ ls : List LLine, ds = [.tup (linD ls)] ∧ (∀ l ∈ ls, lineB l = true ∧ l.ws.length ≤ 90000) ∧ ls.length ≤ 90000 ∧ (ls.length ≤ 60 → κ (txF ls)) ∧ (60 < ls.length → ε (.ref CE) [("limit", .int 60)])
theorem lin_get {as : List LLine} {i : Nat} {d : Dt} (h : (linD as)[i]? = some d) : ∃ w, d = w.dt ∧ as[i]? = some w := by
  unfold linD at h
  rw [List.getElem?_map] at h
  cases e : as[i]? with
  | none => rw [e] at h; cases h
  | some w => rw [e] at h; cases h; exact ⟨w, rfl, rfl⟩
theorem all_true : ∀ acc : List Dt, (∀ (j : Nat) y, acc[j]? = some y → y = .bl true) → acc = blsD (List.replicate acc.length true)
  | [], _ => rfl
  | x :: acc, h => by
    have h1 := h 0 x rfl
    have h2 := all_true acc fun j y e => h (j + 1) y (by simpa using e)
    rw [h1, List.length_cons, List.replicate_succ]
    show _ = Dt.bl true :: blsD (List.replicate acc.length true)
    rw [← h2]
def snd1 : Dt → Dt
  | .tup (_ :: d :: _) => d
  | _ => .non
theorem putG_len (f : Str) (d : Dt) : ∀ gs : List (Str × Dt), (putG f d gs).length ≤ gs.length + 1
  | [] => Nat.le_refl _
  | (g, x) :: r => by
    unfold putG
    split
    · rw [List.length_cons, List.length_cons]; omega
    · have := putG_len f d r
      rw [List.length_cons, List.length_cons]; omega
theorem okR_Text_init (T : Txt K mg) : FnR P w K mg base (L2.CX P w) 5 T.f_Text_init (spStar (spIX K T.C_Text (tInit T.C_TooMany))) := ok_initX T.F_Text_init sc_Text_init T.bs_Text_init (fun ds κ ε ⟨ls, h, _⟩ => ⟨_, h⟩) fun cdv A outer s0 H E a ds κ ε X hr ht hW hε => by
  obtain ⟨ls, hd, hl, hn, q0, qe⟩ := ht
  cases hd
  refine ⟨_, (pss_cons (ps_if (pt_not (pt_val (pe_callB (c_all (K := K) rfl) (by rfl) T.z_all (by decide +kernel) (pa_cons (pe_lc (own := [("line", 2)]) rfl sc_Text_init.nd (p_tup (K := K) (pv 1)) (blkOk_by (own := [("line", 2)]) (N := ["self", "lines", "line"]) (sc := (defScope s_Text_init)) (by decide +kernel)) (fun _ _ _ _ _ => (pg_name (i := 2) sc_Text_init.nd rfl (.inl rfl))) (fun _ _ _ _ _ => pts_nil) (fun _ _ _ _ _ => (pe_call (ok_is_line T) (hr.mono (by decide)) (by rfl) T.g_is_line T.F_is_line.kp T.b_is_line .nil pass0 (pa_cons (pv 2) pa_nil)))) pa_nil)))) (pss_one (ps_raiseT rfl (takes_of rfl rfl rfl rfl) (pmk_n PySem.F.excBase_ValueError T.xi_InvalidText T.gC_InvalidText T.x_InvalidText.kp (xc_raises T.x_InvalidText T.ty_InvalidText) (by rfl)))) pss_nil)
      (pss_cons (ps_if (pt_cmpR op_gt (pe_callB (c_len (K := K)) (by rfl) T.z_len (by decide +kernel) (pa_cons (pv 1) pa_nil)) (pe_glob (v := .int (60)) rfl T.c_MAX_LINES ⟨_, rfl⟩) (nomark _)) (pss_one (ps_raiseT rfl (takes_of rfl rfl rfl rfl) (pmk_x PySem.F.excBase_OverflowError T.xi_TooMany T.x_TooMany.kp T.i_TooMany T.ti_TooMany (ok_TooMany_init T) (hr.mono (by decide)) T.b_TooMany_init (by decide) pass0 (xc_raises T.x_TooMany T.ty_TooMany) (by rfl) T.gC_TooMany (pa_cons (pe_glob (v := .int (60)) rfl T.c_MAX_LINES ⟨_, rfl⟩) pa_nil)))) pss_nil)
      (pss_cons (ps_fld (pv 0) (pv 1) rfl)
      (pss_cons (ps_fld (pv 0) (pe_callTy (c_tuple (K := K)) (by rfl) T.z_tuple (by decide +kernel) (pa_cons (pe_lc (own := [("line", 2)]) rfl sc_Text_init.nd (p_tup (K := K) (pv 1)) (blkOk_by (own := [("line", 2)]) (N := ["self", "lines", "line"]) (sc := (defScope s_Text_init)) (by decide +kernel)) (fun _ _ _ _ _ => (pg_name (i := 2) sc_Text_init.nd rfl (.inl rfl))) (fun _ _ _ _ _ => pts_nil) (fun _ _ _ _ _ => (pe_ix (i_tup (K := K)) (pv 2) pe_int (fun _ _ => rfl)))) pa_nil)) rfl)
      (pss_one (ps_fld (pv 0) (pe_callTy (c_tuple (K := K)) (by rfl) T.z_tuple (by decide +kernel) (pa_cons (pe_lc (own := [("line", 2)]) rfl sc_Text_init.nd (p_tup (K := K) (pv 1)) (blkOk_by (own := [("line", 2)]) (N := ["self", "lines", "line"]) (sc := (defScope s_Text_init)) (by decide +kernel)) (fun _ _ _ _ _ => (pg_name (i := 2) sc_Text_init.nd rfl (.inl rfl))) (fun _ _ _ _ _ => pts_nil) (fun _ _ _ _ _ => (pe_ix (i_tup (K := K)) (pv 2) pe_int (fun _ _ => rfl)))) pa_nil)) rfl)))))), ?_⟩
  show Sw K _ [.obj a T.C_Text [], .dat (.tup (linD ls)), .no] _
  refine x_seq (x_if ?_)
  walk_at "zw"
  refine y_allT (K := K) (w_of_n (K := K) (wn_eachT (K := K) ?_))
  walk_at "zw"
  refine ⟨_, fun x y => y = .bl true, rfl, by rw [lin_len]; omega, rfl, ?_, ?_⟩
  · intro i x hx
    obtain ⟨l, rfl, hll⟩ := lin_get hx
    have hlb := hl l (List.mem_of_getElem? hll)
    walk_at "zw"
    refine ⟨l, rfl, hlb.2, ?_⟩
    have e : Dt.bl ((decide (0 ≤ l.col) && decide (l.col ≤ 199)) && wsB l.ws) = .bl true := by
      have := hlb.1
      unfold lineB at this
      rw [this]
    all_goals first | exact ⟨rfl, e, rfl⟩ | exact ⟨e, rfl⟩
  · intro acc ha hp
    refine ⟨List.replicate acc.length true, ?_, ?_⟩
    · rw [← all_true acc fun j y hj => by
        have hjl : j < (linD ls).length := by rw [← ha]; exact (List.getElem?_eq_some_iff.mp hj).1
        exact hp j _ y (List.getElem?_eq_getElem hjl) hj]
    have e : (List.replicate acc.length true).all id = true := by
      rw [List.all_eq_true]
      intro b hb
      exact (List.mem_replicate.mp hb).2
    rw [e]
    walk_at "zw"
    have hcl := T.cl_Text
    have hn1 := T.nA_Text_lines
    have hn2 := T.nA_Text_columns
    have hn3 := T.nA_Text_words
    refine x_seq (x_if ?_)
    walk_at "zw"
    refine lf_if (fun h => ?_) (fun h => ?_)
    · rw [lin_len] at h
      have := of_decide_eq_true h
      walk_at "zw"
      exact hε _ _ _ (qe (by omega))
    rw [lin_len] at h
    have q := q0 (by have := of_decide_eq_false h; omega)
    walk_at "zw"
    refine x_fld (a := a) (C := T.C_Text) ?_
    walk_at "zw"
    refine x_fld (a := a) (C := T.C_Text) ?_
    refine w_tupleN (K := K) (wn_mapT' (K := K) fst0 ?_)
    walk_at "zw"
    · rw [lin_len]; omega
    refine ⟨?_, ?_⟩
    · intro i x hx
      obtain ⟨l, rfl, _⟩ := lin_get hx
      have h0 : atI [Dt.int l.col, Dt.tup (strsD l.ws)] 0 = some (.int l.col) := L2.atI_nat (j := 0) rfl
      show Turn K _ _ _ _ (.tup [.int l.col, .tup (strsD l.ws)]) _ _ _
      walk_at "zw"
      all_goals first | exact ⟨rfl, rfl, rfl⟩ | exact ⟨rfl, rfl⟩ | exact rfl
    have e1 : (linD ls).map fst0 = intsD (ls.map (·.col)) := by
      unfold linD intsD
      rw [List.map_map, List.map_map]; rfl
    rw [e1]
    refine ⟨_, rfl, hcl, hn2, ?_, _, zs0, ?_⟩
    · exact Nat.lt_of_le_of_lt (putG_len _ _ _) (by show 0 + 1 < 1000; decide)
    refine x_fld (a := a) (C := T.C_Text) ?_
    refine w_tupleN (K := K) (wn_mapT' (K := K) snd1 ?_)
    walk_at "zw"
    · rw [lin_len]; omega
    refine ⟨?_, ?_⟩
    · intro i x hx
      obtain ⟨l, rfl, _⟩ := lin_get hx
      have h0 : atI [Dt.int l.col, Dt.tup (strsD l.ws)] 1 = some (.tup (strsD l.ws)) := L2.atI_nat (j := 1) rfl
      show Turn K _ _ _ _ (.tup [.int l.col, .tup (strsD l.ws)]) _ _ _
      walk_at "zw"
      all_goals first | exact ⟨rfl, rfl, rfl⟩ | exact ⟨rfl, rfl⟩ | exact rfl
    have e2 : (linD ls).map snd1 = wssD (ls.map (·.ws)) := by
      unfold linD wssD
      rw [List.map_map, List.map_map]; rfl
    rw [e2]
    refine ⟨_, rfl, hcl, hn3, ?_, _, zs0, _, rfl, ?_⟩
    · exact Nat.lt_of_le_of_lt (putG_len _ _ _) (Nat.lt_of_le_of_lt (Nat.succ_le_succ (putG_len _ _ _)) (by show 0 + 1 + 1 < 1000; decide))
    have e3 : putG (Str.ofString "_words") (.tup (wssD (ls.map (·.ws)))) (putG (Str.ofString "_columns") (Dt.tup (intsD (ls.map (·.col)))) (putG (Str.ofString "_lines") (Dt.tup (linD ls)) [])) = txF ls := by
      have n1 : ¬ Str.ofString "_lines" = Str.ofString "_columns" := by decide
      have n2 : ¬ Str.ofString "_lines" = Str.ofString "_words" := by decide
      have n3 : ¬ Str.ofString "_columns" = Str.ofString "_words" := by decide
      simp only [putG, if_neg n1, if_neg n2, if_neg n3]
      rfl
    rw [e3]
    exact q
end
end My

namespace My
open PySem PySem.Spec PyProof.Rows L2
section
variable {P : Program} {w : World} {K : PySem.W.Frag} {mg : Str → Option Value} {base : Heap}
structure TxOk (ls : List LLine) : Prop where
  ok : ∀ l ∈ ls, lineB l = true
  len : ls.length ≤ 60
theorem lineB_ws {l : LLine} (h : lineB l = true) : wsB l.ws = true ∧ l.ws.length ≤ 90000 ∧ colB l.col = true := by
  unfold lineB at h
  rw [Bool.and_eq_true] at h
  refine ⟨h.2, ?_, h.1⟩
  have := h.2
  unfold wsB at this
  rw [Bool.and_eq_true, Bool.and_eq_true] at this
  have := of_decide_eq_true this.1.2
  omega
theorem tInit_of {CE : Addr} {ls : List LLine} {κ : List (Str × Dt) → Prop} {ε : Value → List (Str × Dt) → Prop} (ok : TxOk ls) (q : κ (txF ls)) : tInit CE [.tup (linD ls)] κ ε := ⟨ls, rfl, fun l hl => ⟨ok.ok l hl, (lineB_ws (ok.ok l hl)).2.1⟩, by have := ok.len; omega, fun _ => q, fun h => by have := ok.len; omega⟩
theorem tInit_by {CE : Addr} {ls : List LLine} {κ : List (Str × Dt) → Prop} {ε : Value → List (Str × Dt) → Prop} (ok : ∀ l ∈ ls, lineB l = true) (hl : ls.length ≤ 90000) (q : ls.length ≤ 60 → κ (txF ls)) (e : 60 < ls.length → ε (.ref CE) [("limit", .int 60)]) : tInit CE [.tup (linD ls)] κ ε := ⟨ls, rfl, fun l hl => ⟨ok l hl, (lineB_ws (ok l hl)).2.1⟩, hl, q, e⟩
/-- columns and words as told, or an error -/
def tMade (C CT : Addr) (ds : List Dt) (κ : Dt → Prop) (ε : Value → List (Str × Dt) → Prop) : Prop := ∃ (cs : List Int) (wss : List (List Str)), ds = [.tup (intsD cs), .tup (wssD wss)] ∧ cs.length ≤ 1000 ∧ wss.length ≤ 1000 ∧ (∀ ws ∈ wss, ws.length ≤ 90000) ∧
  ((∃ ls : List LLine, cs = ls.map (·.col) ∧ wss = ls.map (·.ws) ∧ TxOk ls ∧ κ (txD C ls)) ∨ (((decide (wss.length ≤ 60) && wss.all wsB) && (decide (cs.length = wss.length) && cs.all colB)) = false ∧ ε (.ref CT) []))
theorem zip_lin : ∀ ls : List LLine, zipD (intsD (ls.map (·.col))) (wssD (ls.map (·.ws))) = linD ls
  | [] => rfl
  | l :: ls => by
    have := zip_lin ls
    show Dt.tup [.int l.col, .tup (strsD l.ws)] :: zipD (intsD (ls.map (·.col))) (wssD (ls.map (·.ws))) = _
    rw [this]; rfl
theorem TxOk.words {ls : List LLine} (ok : TxOk ls) : (decide ((ls.map (·.ws)).length ≤ 60) && (ls.map (·.ws)).all wsB) = true := by
  rw [List.length_map, decide_eq_true ok.len, Bool.true_and, List.all_map, List.all_eq_true]
  exact fun l hl => (lineB_ws (ok.ok l hl)).1
theorem TxOk.cols {ls : List LLine} (ok : TxOk ls) : (ls.map (·.col)).all colB = true := by
  rw [List.all_map, List.all_eq_true]
  exact fun l hl => (lineB_ws (ok.ok l hl)).2.2
local macro_rules | `(tactic| walk_at "zx") => `(tactic| first
  | ((with_reducible refine My.x_raise ?hW ?_); (case hW => assumption))
  | with_reducible refine My.wk_x ?_
  | with_reducible refine My.wk_n ?_
  | ((with_reducible refine My.z_makeSK (My.pas_x ?hW) ?_); (case hW => assumption)))
theorem ok_Text_made (T : Txt K mg) : FnOk P w K mg base (L2.CX P w) 7 T.f_Text_made T.fd_Text_made ["cls", "columns", "words"] (spCX K T.C_Text (tMade T.C_Text T.C_InvalidText)) := ok_cmX T.F_Text_made sc_Text_made (fun ds κ ε ⟨cs, wss, h, _⟩ => by rw [h]; rfl) fun cdv A outer s0 H E ds κ ε X hr ht hW hε => by
  obtain ⟨cs, wss, rfl, hc, hw, hws, alt⟩ := ht
  refine ⟨_, (pss_cons (ps_if (PW.pt (pw_or (pt_not (pt_val (pe_call (ok_are_words T) (hr.mono (by decide)) (by rfl) T.g_are_words T.F_are_words.kp T.b_are_words .nil pass0 (pa_cons (pv 2) pa_nil)))) (pw_or1 (pt_not (pt_val (pe_call (ok_are_columns T) (hr.mono (by decide)) (by rfl) T.g_are_columns T.F_are_columns.kp T.b_are_columns .nil pass0 (pa_cons (pv 1) (pa_cons (pe_callB (c_len (K := K)) (by rfl) T.z_len (by decide +kernel) (pa_cons (pv 2) pa_nil)) pa_nil)))))))) (pss_one (ps_raiseT rfl (takes_of rfl rfl rfl rfl) (pmk_n PySem.F.excBase_ValueError T.xi_InvalidText T.gC_InvalidText T.x_InvalidText.kp (xc_raises T.x_InvalidText T.ty_InvalidText) (by rfl)))) pss_nil)
      (pss_cons (ps_set (i := 3) sc_Text_made.nd rfl (.inl rfl) (pe_listZipK (K := K) rfl rfl (pa_cons (pv 1) (pa_cons (pv 2) pa_nil)) (by rfl) T.z_list (by decide +kernel) (by rfl) T.z_zip))
      (pss_one (ps_ret (pe_makeSK (K := K) rfl T.mk_Text (okR_Text_init T) (hr.mono (by decide)) (by rfl) T.gC_Text (passX (takes_of rfl rfl rfl rfl)) (pv 3)))))), ?_⟩
  show Sw K _ [.no, .dat (.tup (intsD cs)), .dat (.tup (wssD wss)), .no] _
  refine x_seq (x_if ?_)
  walk_at "zw"
  refine ⟨wss, rfl, by omega, hws, ?_⟩
  rcases alt with ⟨ls, rfl, rfl, ok, q⟩ | ⟨bad, qe⟩
  · have h60 := ok.len
    rw [ok.words]
    walk_at "zw"
    refine ⟨ls.map (·.col), ls.length, by rw [wss_len, List.length_map], by rw [List.length_map]; omega, ?_⟩
    rw [ok.cols, List.length_map, decide_eq_true rfl, Bool.true_and]
    walk_at "zw"
    refine lf_zip (by rw [ints_len, wss_len, List.length_map, List.length_map]) ?_
    rw [zip_lin]
    walk_at "zw"
    refine lf_itz (by rw [lin_len]; omega) (tInit_of ok ?_)
    exact q
  · cases e1 : (decide (wss.length ≤ 60) && wss.all wsB) with
    | false =>
      walk_at "zw"
      exact hε _ _ _ qe
    | true =>
      rw [e1, Bool.true_and] at bad
      walk_at "zw"
      refine ⟨cs, wss.length, by rw [wss_len], by omega, ?_⟩
      rw [bad]
      walk_at "zw"
      exact hε _ _ _ qe
theorem okR_Text_made (T : Txt K mg) : FnR P w K mg base (L2.CX P w) 7 T.f_Text_made (spCX K T.C_Text (tMade T.C_Text T.C_InvalidText)) := fnR (ok_Text_made T) T.b_Text_made
end
end My

namespace My
open PySem PySem.Spec PyProof.Rows L2
theorem TxOk.sub {ls os : List LLine} (ok : TxOk ls) (h : os.Sublist ls) : TxOk os := ⟨fun l hl => ok.ok l (h.subset hl), Nat.le_trans h.length_le ok.len⟩
theorem lin_cut (ls : List LLine) {i j : Nat} (h : i ≤ j) (hj : j ≤ ls.length) : cutD (linD ls) (some (i : Int)) (some (j : Int)) = linD ((ls.drop i).take (j - i)) := by
  unfold cutD
  rw [lin_len, HT.sIx_nat, HT.sIx_nat, Nat.min_eq_left (show i ≤ ls.length by omega), Nat.min_eq_left hj]
  unfold linD
  rw [List.map_take, List.map_drop]
theorem lin_cut0 (ls : List LLine) {j : Nat} (hj : j ≤ ls.length) : cutD (linD ls) none (some (j : Int)) = linD (ls.take j) := by
  unfold cutD
  rw [lin_len, HT.sIx_nat, Nat.min_eq_left hj]
  unfold linD
  rw [List.map_take]; rfl
theorem lin_cut1 (ls : List LLine) {i : Nat} (hi : i ≤ ls.length) : cutD (linD ls) (some (i : Int)) none = linD (ls.drop i) := by
  unfold cutD
  rw [lin_len, HT.sIx_nat, Nat.min_eq_left hi]
  show List.take (ls.length - i) (List.drop i (linD ls)) = _
  rw [List.take_of_length_le (by rw [List.length_drop, lin_len]; omega)]
  unfold linD
  rw [List.map_drop]
theorem lin_app (a b : List LLine) : linD a ++ linD b = linD (a ++ b) := by unfold linD; rw [List.map_append]
end My

local macro_rules | `(tactic| walk_at "zx") => `(tactic| first
  | ((with_reducible refine' My.y_txL ?hc ?hn ?_); (case hc => assumption); (case hn => assumption))
  | ((with_reducible refine' My.y_txW ?hc ?hn ?_); (case hc => assumption); (case hn => assumption))
  | ((with_reducible refine' My.y_txC ?hc ?hn ?_); (case hc => assumption); (case hn => assumption))
  | ((with_reducible refine My.lf_tx ?_))
  | ((with_reducible refine My.x_raise ?hW ?_); (case hW => assumption))
  | with_reducible refine My.wk_x ?_
  | with_reducible refine My.wk_n ?_
  | ((with_reducible refine My.z_makeSK (My.pas_x ?hW) ?_); (case hW => assumption))
  | ((with_reducible refine My.z_cmeth (My.pas_x ?hW) ?_); (case hW => assumption))
  | ((with_reducible refine My.z_meth (My.pas_x ?hW) ?_); (case hW => assumption))
  | ((with_reducible refine My.z_ownB (My.pas_x ?hW) ?_); (case hW => assumption))
  | with_reducible refine My.z_makeSK My.pas_n ?_
  | with_reducible refine My.z_cmeth My.pas_n ?_
  | with_reducible refine My.z_meth My.pas_n ?_
  | with_reducible refine My.z_ownB My.pas_n ?_)
namespace My
open PySem PySem.Spec PyProof.Rows L2
section
variable {P : Program} {w : World} {K : PySem.W.Frag} {mg : Str → Option Value} {base : Heap}
theorem s_tupA {X : Cx} {K : PySem.W.Frag} (hK : X.K = K := by rfl) : SlR X (rSlA K) := by
  subst hK
  exact sl_tupA
theorem lf_tx {C : Addr} {ls : List LLine} {P : List LLine → Prop} (q : P ls) : ∃ ls', Dt.ins C (txF ls) = .ins C (txF ls') ∧ P ls' := ⟨ls, rfl, q⟩
/-- other columns for the lines -/
def recol : List Int → List LLine → List LLine
  | c :: cs, l :: ls => ⟨c, l.ws⟩ :: recol cs ls
  | _, _ => []
theorem recol_col : ∀ {cs : List Int} {ls : List LLine}, cs.length = ls.length → (recol cs ls).map (·.col) = cs
  | [], [], _ => rfl
  | c :: cs, l :: ls, h => by
    show c :: (recol cs ls).map (·.col) = _
    rw [recol_col (Nat.succ.inj h)]
theorem recol_ws : ∀ {cs : List Int} {ls : List LLine}, cs.length = ls.length → (recol cs ls).map (·.ws) = ls.map (·.ws)
  | [], [], _ => rfl
  | c :: cs, l :: ls, h => by
    show l.ws :: (recol cs ls).map (·.ws) = _
    rw [recol_ws (Nat.succ.inj h)]; rfl
theorem recol_len {cs : List Int} {ls : List LLine} (h : cs.length = ls.length) : (recol cs ls).length = ls.length := by
  have := congrArg List.length (recol_ws h)
  rw [List.length_map, List.length_map] at this
  exact this
theorem recol_ok : ∀ {cs : List Int} {ls : List LLine}, cs.length = ls.length → (∀ c ∈ cs, colB c = true) → (∀ l ∈ ls, lineB l = true) → ∀ l ∈ recol cs ls, lineB l = true
  | [], [], _, _, _, l, hl => nomatch hl
  | c :: cs, l0 :: ls, h, hc, hl, l, hm => by
    rcases List.mem_cons.mp (show l ∈ ⟨c, l0.ws⟩ :: recol cs ls from hm) with e | e
    · rw [e]
      show (colB c && wsB l0.ws) = true
      rw [hc c (.head _), (lineB_ws (hl l0 (.head _))).1]; rfl
    · exact recol_ok (Nat.succ.inj h) (fun c hc' => hc c (.tail _ hc')) (fun l hl' => hl l (.tail _ hl')) l e
def tAt (C CT : Addr) (ds : List Dt) (κ : Dt → Prop) (ε : Value → List (Str × Dt) → Prop) : Prop := ∃ (ls : List LLine) (cs : List Int), ds = [txD C ls, .tup (intsD cs)] ∧ TxOk ls ∧ cs.length ≤ 1000 ∧
  ((cs.length = ls.length ∧ (∀ c ∈ cs, colB c = true) ∧ κ (txD C (recol cs ls))) ∨ ((decide (cs.length = ls.length) && cs.all colB) = false ∧ ε (.ref CT) []))
theorem tx_no {C : Addr} {ls : List LLine} {m : Str} (h1 : m ≠ "_lines" := by decide) (h2 : m ≠ "_columns" := by decide) (h3 : m ≠ "_words" := by decide) : (txF ls).lookup m = none := by
  unfold txF
  have e1 : (m == Str.ofString "_lines") = false := beq_false_of_ne h1
  have e2 : (m == Str.ofString "_columns") = false := beq_false_of_ne h2
  have e3 : (m == Str.ofString "_words") = false := beq_false_of_ne h3
  simp only [List.lookup, e1, e2, e3]
theorem ok_Text_at (T : Txt K mg) : FnOk P w K mg base (L2.CX P w) 8 T.f_Text_at T.fd_Text_at ["self", "columns"] (spX K (tAt T.C_Text T.C_InvalidText)) := ok_pureX T.F_Text_at sc_Text_at (fun ds κ ε ⟨ls, cs, h, _⟩ => by rw [h]; rfl) fun cdv A outer s0 H E ds κ ε X hr ht hW hε => by
  obtain ⟨ls, cs, rfl, ok, hz, alt⟩ := ht
  have hcl := T.cl_Text
  have hn1 := T.nA_Text_lines
  have hn2 := T.nA_Text_columns
  have hn3 := T.nA_Text_words
  have h60 := ok.len
  refine ⟨_, (pss_one (ps_ret (ClX.pe_cmeth (pe_glob (v := .ref T.C_Text) rfl T.gC_Text rfl) T.rd_Text T.cm_Text_made (okR_Text_made T) (hr.mono (by decide)) (passX (takes_of rfl rfl rfl rfl)) (pa_cons (pv 1) (pa_cons (pe_fldK (K := K) rfl (pv 0) rfl) pa_nil))))), ?_⟩
  show Sw K _ [.dat (.ins T.C_Text (txF ls)), .dat (.tup (intsD cs))] _
  walk_at "zw"
  refine ⟨cs, ls.map (·.ws), rfl, hz, by rw [List.length_map]; omega, fun ws hws => ?_, ?_⟩
  · obtain ⟨l, hl, rfl⟩ := List.mem_map.mp hws
    exact (lineB_ws (ok.ok l hl)).2.1
  rcases alt with ⟨hl, hc, q⟩ | ⟨bad, qe⟩
  · exact .inl ⟨recol cs ls, (recol_col hl).symm, (recol_ws hl).symm, ⟨recol_ok hl hc ok.ok, by rw [recol_len hl]; exact ok.len⟩, q⟩
  · refine .inr ⟨?_, hε _ _ _ qe⟩
    rw [List.length_map, bad, Bool.and_false]
def shift (by_ : Int) (l : LLine) : LLine := ⟨l.col + by_, l.ws⟩
def tMoved (C CN : Addr) (ds : List Dt) (κ : Dt → Prop) (ε : Value → List (Str × Dt) → Prop) : Prop := ∃ (ls : List LLine) (i : Int), ds = [txD C ls, .int i] ∧ TxOk ls ∧ absI i < 10 ^ 60 ∧
  (((∀ l ∈ ls, colB (l.col + i) = true) ∧ κ (txD C (ls.map (shift i)))) ∨ ((ls.map fun l => l.col + i).all colB = false ∧ ε (.ref CN) [("number", .int i)]))
theorem recol_shift (i : Int) : ∀ ls : List LLine, recol (ls.map fun l => l.col + i) ls = ls.map (shift i)
  | [] => rfl
  | l :: ls => by
    show _ :: recol (ls.map fun l => l.col + i) ls = _
    rw [recol_shift i ls]; rfl
def addD (i : Int) : Dt → Dt
  | .int c => .int (c + i)
  | _ => .non
theorem ok_Text_moved (T : Txt K mg) : FnOk P w K mg base (L2.CX P w) 9 T.f_Text_moved T.fd_Text_moved ["self", "by"] (spX K (tMoved T.C_Text T.C_InvalidNumber)) := ok_pureX T.F_Text_moved sc_Text_moved (fun ds κ ε ⟨ls, cs, h, _⟩ => by rw [h]; rfl) fun cdv A outer s0 H E ds κ ε X hr ht hW hε => by
  obtain ⟨ls, i, rfl, ok, hi, alt⟩ := ht
  have hcl := T.cl_Text
  have hn1 := T.nA_Text_lines
  have hn2 := T.nA_Text_columns
  have hn3 := T.nA_Text_words
  refine ⟨_, (pss_cons (ps_if (pt_not (pt_val (pe_call (ok_is_integer T) (hr.mono (by decide)) (by rfl) T.g_is_integer T.F_is_integer.kp T.b_is_integer .nil pass0 (pa_cons (pv 1) pa_nil)))) (pss_one (ps_raiseT rfl (takes_of rfl rfl rfl rfl) (pmk_x PySem.F.excBase_RuntimeError T.xi_InvalidNumber T.x_InvalidNumber.kp T.i_InvalidNumber T.ti_InvalidNumber (ok_InvalidNumber_init T) (hr.mono (by decide)) T.b_InvalidNumber_init (by decide) pass0 (xc_raises T.x_InvalidNumber T.ty_InvalidNumber) (by rfl) T.gC_InvalidNumber (pa_cons (pv 1) pa_nil)))) pss_nil)
      (pss_cons (ps_set (i := 3) sc_Text_moved.nd rfl (.inl rfl) (pe_callTy (c_tuple (K := K)) (by rfl) T.z_tuple (by decide +kernel) (pa_cons (pe_lc (own := [("column", 2)]) rfl sc_Text_moved.nd (p_tup (K := K) (pe_fldK (K := K) rfl (pv 0) rfl)) (blkOk_by (own := [("column", 2)]) (N := ["self", "by", "column", "columns"]) (sc := (defScope s_Text_moved)) (by decide +kernel)) (fun _ _ _ _ _ => (pg_name (i := 2) sc_Text_moved.nd rfl (.inl rfl))) (fun _ _ _ _ _ => pts_nil) (fun _ _ _ _ _ => (pe_op op_add (pv 2) (pv 1)))) pa_nil)))
      (pss_cons (ps_if (pt_not (pt_val (pe_call (ok_are_columns T) (hr.mono (by decide)) (by rfl) T.g_are_columns T.F_are_columns.kp T.b_are_columns .nil pass0 (pa_cons (pv 3) (pa_cons (pe_callB (c_len (K := K)) (by rfl) T.z_len (by decide +kernel) (pa_cons (pv 3) pa_nil)) pa_nil))))) (pss_one (ps_raiseT rfl (takes_of rfl rfl rfl rfl) (pmk_x PySem.F.excBase_RuntimeError T.xi_InvalidNumber T.x_InvalidNumber.kp T.i_InvalidNumber T.ti_InvalidNumber (ok_InvalidNumber_init T) (hr.mono (by decide)) T.b_InvalidNumber_init (by decide) pass0 (xc_raises T.x_InvalidNumber T.ty_InvalidNumber) (by rfl) T.gC_InvalidNumber (pa_cons (pv 1) pa_nil)))) pss_nil)
      (pss_one (ps_ret (pe_meth (pv 0) T.cl_Text T.m_Text_at (ok_Text_at T) (hr.mono (by decide)) T.b_Text_at .nil (passX (takes_of rfl rfl rfl rfl)) (pa_cons (pv 3) pa_nil))))))), ?_⟩
  show Sw K _ [.dat (.ins T.C_Text (txF ls)), .dat (.int i), .no, .no] _
  refine x_seq (x_if ?_)
  walk_at "zw"
  refine ⟨i, rfl, ?_⟩
  rw [decide_eq_true hi]
  walk_at "zw"
  refine w_of_n (K := K) (wn_mapT' (K := K) (addD i) ?_)
  walk_at "zw"
  · rw [ints_len, List.length_map]
    have := ok.len
    omega
  refine ⟨?_, ?_⟩
  · intro j x hx
    obtain ⟨c, rfl, _⟩ := ints_get hx
    walk_at "zw"
    all_goals first | exact ⟨rfl, rfl, rfl⟩ | exact ⟨rfl, rfl⟩ | exact rfl
  have e1 : (intsD (ls.map (·.col))).map (addD i) = intsD (ls.map fun l => l.col + i) := by
    unfold intsD
    rw [List.map_map, List.map_map, List.map_map]; rfl
  rw [e1]
  walk_at "zw"
  refine x_seq (x_if ?_)
  walk_at "zw"
  refine ⟨_, ls.length, by rw [ints_len, List.length_map], by rw [List.length_map]; have := ok.len; omega, ?_⟩
  rcases alt with ⟨hc, q⟩ | ⟨bad, qe⟩
  · have e2 : (ls.map fun l => l.col + i).all colB = true := by
      rw [List.all_map, List.all_eq_true]
      exact hc
    rw [e2, List.length_map, decide_eq_true rfl, Bool.true_and]
    walk_at "zw"
    refine ⟨ls, _, rfl, ok, by rw [List.length_map]; have := ok.len; omega, .inl ⟨by rw [List.length_map], fun c hc' => ?_, ?_⟩⟩
    · obtain ⟨l, hl, rfl⟩ := List.mem_map.mp hc'
      exact hc l hl
    rw [recol_shift]
    exact q
  · rw [bad, Bool.and_false]
    walk_at "zw"
    exact hε _ _ _ qe
/-- a part of the lines -/
def tPart (C : Addr) (ds : List Dt) (κ : Dt → Prop) : Prop := ∃ (ls : List LLine) (i j : Nat), ds = [txD C ls, .int i, .int j] ∧ TxOk ls ∧ i ≤ j ∧ j ≤ ls.length ∧ κ (txD C ((ls.drop i).take (j - i)))
theorem ok_Text_part (T : Txt K mg) : FnOk P w K mg base CX0 7 T.f_Text_part T.fd_Text_part ["self", "first", "last"] (spP K (tPart T.C_Text)) := ok_pure T.F_Text_part sc_Text_part (fun ds κ ⟨ls, i, j, h, _⟩ => by rw [h]; rfl) fun cdv A outer s0 H E ds κ hr ht => by
  obtain ⟨ls, i, j, rfl, ok, hij, hj, q⟩ := ht
  have hcl := T.cl_Text
  have hn1 := T.nA_Text_lines
  have hn2 := T.nA_Text_columns
  have hn3 := T.nA_Text_words
  refine ⟨_, (pss_cons (ps_expr (pe_meth (pv 0) T.cl_Text T.m_Text_check_bounds (ok_Text_check_bounds T) (hr.mono (by decide)) T.b_Text_check_bounds .nil pass0 (pa_cons (pv 1) (pa_cons (pv 2) pa_nil))))
      (pss_cons (ps_set (i := 3) sc_Text_part.nd rfl (.inl rfl) (pe_slice (s_tupA (K := K)) (pe_fldK (K := K) rfl (pv 0) rfl) (po_some (pv 1)) (po_some (pv 2))))
      (pss_one (ps_ret (pe_makeSK (K := K) rfl T.mk_Text (okR_Text_init T) (hr.mono (by decide)) (by rfl) T.gC_Text passX0 (pv 3)))))), ?_⟩
  show Sw K _ [.dat (.ins T.C_Text (txF ls)), .dat (.int i), .dat (.int j), .no] _
  have hl := ok.len
  have okp : TxOk ((ls.drop i).take (j - i)) := ok.sub ((List.take_sublist _ _).trans (List.drop_sublist _ _))
  walk_at "zw"
  refine ⟨ls, i, j, rfl, by omega, by omega, by omega, by omega, ?_⟩
  walk_at "zw"
  rw [lin_cut ls hij hj]
  refine lf_itzT (by rw [lin_len]; have := okp.len; omega) (tInit_of okp ?_)
  exact q
def tWithPart (C CE : Addr) (ds : List Dt) (κ : Dt → Prop) (ε : Value → List (Str × Dt) → Prop) : Prop := ∃ (ls os : List LLine) (i j : Nat), ds = [txD C ls, .int i, .int j, txD C os] ∧ TxOk ls ∧ TxOk os ∧ i ≤ j ∧ j ≤ ls.length ∧ ((ls.take i ++ os ++ ls.drop j).length ≤ 60 → κ (txD C (ls.take i ++ os ++ ls.drop j))) ∧ (60 < (ls.take i ++ os ++ ls.drop j).length → ε (.ref CE) [("limit", .int 60)])
theorem ok_Text_with_part (T : Txt K mg) : FnOk P w K mg base (L2.CX P w) 7 T.f_Text_with_part T.fd_Text_with_part ["self", "first", "last", "other"] (spX K (tWithPart T.C_Text T.C_TooMany)) := ok_pureX T.F_Text_with_part sc_Text_with_part (fun ds κ ε ⟨ls, os, i, j, h, _⟩ => by rw [h]; rfl) fun cdv A outer s0 H E ds κ ε X hr ht hW hε => by
  obtain ⟨ls, os, i, j, rfl, ok, oo, hij, hj, q, qe⟩ := ht
  have hcl := T.cl_Text
  have hn1 := T.nA_Text_lines
  have hn2 := T.nA_Text_columns
  have hn3 := T.nA_Text_words
  refine ⟨_, (pss_cons (ps_expr (pe_meth (pv 0) T.cl_Text T.m_Text_check_bounds (ok_Text_check_bounds T) (hr.mono (by decide)) T.b_Text_check_bounds .nil pass0 (pa_cons (pv 1) (pa_cons (pv 2) pa_nil))))
      (pss_cons (ps_if (pt_not (pt_val (pe_callB (c_isi (K := K)) (by rfl) T.z_isinstance (by decide +kernel) (pa_cons (pv 3) (pa_cons (pe_glob (v := .ref T.C_Text) rfl T.gC_Text rfl) pa_nil))))) (pss_one ps_no) pss_nil)
      (pss_cons (ps_set (i := 4) sc_Text_with_part.nd rfl (.inl rfl) (pe_op (o_catA (K := K)) (pe_op (o_catA (K := K)) (pe_slice (s_tupA (K := K)) (pe_fldK (K := K) rfl (pv 0) rfl) po_none (po_some (pv 1))) (pe_fldK (K := K) rfl (pv 3) rfl)) (pe_slice (s_tupA (K := K)) (pe_fldK (K := K) rfl (pv 0) rfl) (po_some (pv 2)) po_none)))
      (pss_one (ps_ret (pe_makeSK (K := K) rfl T.mk_Text (okR_Text_init T) (hr.mono (by decide)) (by rfl) T.gC_Text (passX (takes_of rfl rfl rfl rfl)) (pv 4))))))), ?_⟩
  show Sw K _ [.dat (.ins T.C_Text (txF ls)), .dat (.int i), .dat (.int j), .dat (.ins T.C_Text (txF os)), .no] _
  have hl := ok.len
  have hol := oo.len
  have hci := T.ci_Text
  have okp : ∀ l ∈ ls.take i ++ os ++ ls.drop j, lineB l = true := fun l hm => by
    rcases List.mem_append.mp hm with m | m
    · rcases List.mem_append.mp m with m | m
      · exact ok.ok l ((List.take_sublist _ _).subset m)
      · exact oo.ok l m
    · exact ok.ok l ((List.drop_sublist _ _).subset m)
  have hz : (ls.take i ++ os ++ ls.drop j).length ≤ 180 := by rw [List.length_append, List.length_append, List.length_take, List.length_drop]; omega
  walk_at "zw"
  refine ⟨ls, i, j, rfl, by omega, by omega, by omega, by omega, ?_⟩
  refine x_seq (x_if ?_)
  walk_at "zw"
  rw [lin_cut0 ls (by omega)]
  refine lf_catA (by rw [lin_len, lin_len, List.length_take]; omega) ?_
  walk_at "zw"
  rw [lin_cut1 ls hj, lin_app]
  refine lf_catA (by rw [lin_len, lin_len, List.length_append, List.length_take, List.length_drop]; omega) ?_
  rw [lin_app]
  walk_at "zw"
  refine lf_itzT (by rw [lin_len]; omega) (tInit_by okp (by omega) q fun h => hε _ _ _ (qe h))
theorem txOk_nil : TxOk [] := ⟨fun _ z => (nomatch z), by decide⟩
def tAdd (C CE : Addr) (ds : List Dt) (κ : Dt → Prop) (ε : Value → List (Str × Dt) → Prop) : Prop := ∃ ls os : List LLine, ds = [txD C ls, txD C os] ∧ TxOk ls ∧ TxOk os ∧ ((ls ++ os).length ≤ 60 → κ (txD C (ls ++ os))) ∧ (60 < (ls ++ os).length → ε (.ref CE) [("limit", .int 60)])
theorem ok_Text_add (T : Txt K mg) : FnOk P w K mg base (L2.CX P w) 7 T.f_Text_add T.fd_Text_add ["self", "other"] (spX K (tAdd T.C_Text T.C_TooMany)) := ok_pureX T.F_Text_add sc_Text_add (fun ds κ ε ⟨ls, os, h, _⟩ => by rw [h]; rfl) fun cdv A outer s0 H E ds κ ε X hr ht hW hε => by
  obtain ⟨ls, os, rfl, ok, oo, q, qe⟩ := ht
  have hcl := T.cl_Text
  have hn1 := T.nA_Text_lines
  have hci := T.ci_Text
  have hl := ok.len
  have hol := oo.len
  have okp : ∀ l ∈ ls ++ os, lineB l = true := fun l hm => (List.mem_append.mp hm).elim (ok.ok l) (oo.ok l)
  have hz : (ls ++ os).length ≤ 120 := by rw [List.length_append]; omega
  refine ⟨_, (pss_cons (ps_if (pt_not (pt_val (pe_callB (c_isi (K := K)) (by rfl) T.z_isinstance (by decide +kernel) (pa_cons (pv 1) (pa_cons (pe_glob (v := .ref T.C_Text) rfl T.gC_Text rfl) pa_nil))))) (pss_one ps_no) pss_nil)
      (pss_cons (ps_set (i := 2) sc_Text_add.nd rfl (.inl rfl) (pe_op (o_catA (K := K)) (pe_fldK (K := K) rfl (pv 0) rfl) (pe_fldK (K := K) rfl (pv 1) rfl)))
      (pss_one (ps_ret (pe_makeSK (K := K) rfl T.mk_Text (okR_Text_init T) (hr.mono (by decide)) (by rfl) T.gC_Text (passX (takes_of rfl rfl rfl rfl)) (pv 2)))))), ?_⟩
  show Sw K _ [.dat (.ins T.C_Text (txF ls)), .dat (.ins T.C_Text (txF os)), .no] _
  refine x_seq (x_if ?_)
  walk_at "zw"
  refine lf_catA (by rw [lin_len, lin_len]; omega) ?_
  rw [lin_app]
  walk_at "zw"
  refine lf_itzT (by rw [lin_len]; omega) (tInit_by okp (by omega) q fun h => hε _ _ _ (qe h))
theorem okR_Text_add (T : Txt K mg) : FnR P w K mg base (L2.CX P w) 7 T.f_Text_add (spX K (tAdd T.C_Text T.C_TooMany)) := fnR (ok_Text_add T) T.b_Text_add
end
end My

namespace My
open PySem PySem.Spec PyProof.Rows L2
theorem wdB_len {s : Str} (h : wordB s = true) : s.length ≤ 8 := by
  unfold wordB at h
  rw [Bool.and_eq_true] at h
  exact of_decide_eq_true h.1
theorem line_sh {l : LLine} (h : lineB l = true) : l.col.natAbs < 10 ^ 12 ∧ l.ws.length ≤ 6 ∧ ∀ w ∈ l.ws, w.length ≤ 8 := by
  unfold lineB wsB at h
  simp only [Bool.and_eq_true, decide_eq_true_eq, List.all_eq_true] at h
  refine ⟨by have := h.1; omega, h.2.1.2, fun w hw => wdB_len (h.2.2 w hw)⟩
end My

local macro_rules | `(tactic| walk_at "zx") => `(tactic| first
  | ((with_reducible refine' My.y_txL ?hc ?hn ?_); (case hc => assumption); (case hn => assumption))
  | ((with_reducible refine' My.y_txW ?hc ?hn ?_); (case hc => assumption); (case hn => assumption))
  | ((with_reducible refine' My.y_txC ?hc ?hn ?_); (case hc => assumption); (case hn => assumption))
  | ((with_reducible refine My.lf_tx ?_))
  | ((with_reducible refine My.x_raise ?hW ?_); (case hW => assumption))
  | with_reducible refine My.wk_x ?_
  | with_reducible refine My.wk_n ?_
  | ((with_reducible refine My.z_makeSK (My.pas_x ?hW) ?_); (case hW => assumption))
  | ((with_reducible refine My.z_cmeth (My.pas_x ?hW) ?_); (case hW => assumption))
  | ((with_reducible refine My.z_meth (My.pas_x ?hW) ?_); (case hW => assumption))
  | ((with_reducible refine My.z_ownB (My.pas_x ?hW) ?_); (case hW => assumption))
  | with_reducible refine My.z_makeSK My.pas_n ?_
  | with_reducible refine My.z_cmeth My.pas_n ?_
  | with_reducible refine My.z_meth My.pas_n ?_
  | with_reducible refine My.z_ownB My.pas_n ?_)
namespace My
open PySem PySem.Spec PyProof.Rows L2
section
variable {P : Program} {w : World} {K : PySem.W.Frag} {mg : Str → Option Value} {base : Heap}
def tTextMade (C : Addr) (ds : List Dt) (κ : Dt → Prop) : Prop := ∃ ls : List LLine, ds = [.lst (linD ls)] ∧ TxOk ls ∧ κ (txD C ls)
theorem ok_text_made (T : Txt K mg) : FnOk P w K mg base CX0 8 T.f_text_made T.fd_text_made ["_law_lines"] (spP K (tTextMade T.C_Text)) := ok_pure T.F_text_made sc_text_made (fun ds κ ⟨ls, h, _⟩ => by rw [h]; rfl) fun cdv A outer s0 H E ds κ hr ht => by
  obtain ⟨ls, rfl, ok, q⟩ := ht
  have hl := ok.len
  refine ⟨_, (pss_one (ps_ret (ClX.pe_cmeth (pe_glob (v := .ref T.C_Text) rfl T.gC_Text rfl) T.rd_Text T.cm_Text_made (okR_Text_made T) (hr.mono (by decide)) passX0 (pa_cons (pe_callTy (c_tuple (K := K)) (by rfl) T.z_tuple (by decide +kernel) (pa_cons (pe_lc (own := [("_law_line", 1)]) rfl sc_text_made.nd (p_list (K := K) (pv 0)) (blkOk_by (own := [("_law_line", 1)]) (N := ["_law_lines", "_law_line"]) (sc := (defScope s_text_made)) (by decide +kernel)) (fun _ _ _ _ _ => (pg_name (i := 1) sc_text_made.nd rfl (.inl rfl))) (fun _ _ _ _ _ => pts_nil) (fun _ _ _ _ _ => (pe_ix (i_tup (K := K)) (pv 1) pe_int (fun _ _ => rfl)))) pa_nil)) (pa_cons (pe_callTy (c_tuple (K := K)) (by rfl) T.z_tuple (by decide +kernel) (pa_cons (pe_lc (own := [("_law_line", 1)]) rfl sc_text_made.nd (p_list (K := K) (pv 0)) (blkOk_by (own := [("_law_line", 1)]) (N := ["_law_lines", "_law_line"]) (sc := (defScope s_text_made)) (by decide +kernel)) (fun _ _ _ _ _ => (pg_name (i := 1) sc_text_made.nd rfl (.inl rfl))) (fun _ _ _ _ _ => pts_nil) (fun _ _ _ _ _ => (pe_ix (i_tup (K := K)) (pv 1) pe_int (fun _ _ => rfl)))) pa_nil)) pa_nil))))), ?_⟩
  show Sw K _ [.dat (.lst (linD ls)), .no] _
  walk_at "zw"
  refine w_of_n (wn_mapL' fst0 ?_)
  walk_at "zw"
  · rw [lin_len]; omega
  refine ⟨?_, ?_⟩
  · intro i x hx
    obtain ⟨l, rfl, _⟩ := lin_get hx
    have h0 : atI [Dt.int l.col, Dt.tup (strsD l.ws)] 0 = some (.int l.col) := L2.atI_nat (j := 0) rfl
    show Turn K _ _ _ _ (.tup [.int l.col, .tup (strsD l.ws)]) _ _ _
    walk_at "zw"
    all_goals first | exact ⟨rfl, rfl, rfl⟩ | exact ⟨rfl, rfl⟩ | exact rfl
  walk_at "zw"
  refine w_of_n (wn_mapL' snd1 ?_)
  walk_at "zw"
  · rw [lin_len]; omega
  refine ⟨?_, ?_⟩
  · intro i x hx
    obtain ⟨l, rfl, _⟩ := lin_get hx
    have h0 : atI [Dt.int l.col, Dt.tup (strsD l.ws)] 1 = some (.tup (strsD l.ws)) := L2.atI_nat (j := 1) rfl
    show Turn K _ _ _ _ (.tup [.int l.col, .tup (strsD l.ws)]) _ _ _
    walk_at "zw"
    all_goals first | exact ⟨rfl, rfl, rfl⟩ | exact ⟨rfl, rfl⟩ | exact rfl
  walk_at "zw"
  have e0 : ∀ ws ∈ ls.map (·.ws), ws.length ≤ 90000 := fun ws hws => by
    obtain ⟨l, hl, rfl⟩ := List.mem_map.mp hws
    exact (lineB_ws (ok.ok l hl)).2.1
  refine ⟨ls.map (·.col), ls.map (·.ws), ?_, by rw [List.length_map]; omega, by rw [List.length_map]; omega, e0, .inl ⟨ls, rfl, rfl, ok, q⟩⟩
  have e1 : (linD ls).map fst0 = intsD (ls.map (·.col)) := by
    unfold linD intsD
    rw [List.map_map, List.map_map]; rfl
  have e2 : (linD ls).map snd1 = wssD (ls.map (·.ws)) := by
    unfold linD wssD
    rw [List.map_map, List.map_map]; rfl
  rw [e1, e2]
end
end My

namespace My
open PySem PySem.Spec PyProof.Rows L2
section
variable {P : Program} {w : World} {K : PySem.W.Frag} {mg : Str → Option Value} {base : Heap}
local macro_rules | `(tactic| walk_at "zx") => `(tactic| first
  | ((with_reducible refine' My.y_txL ?hc ?hn ?_); (case hc => assumption); (case hn => assumption))
  | ((with_reducible refine' My.y_txW ?hc ?hn ?_); (case hc => assumption); (case hn => assumption))
  | ((with_reducible refine' My.y_txC ?hc ?hn ?_); (case hc => assumption); (case hn => assumption)))
def tLen (C : Addr) (ds : List Dt) (κ : Dt → Prop) : Prop := ∃ ls : List LLine, ds = [txD C ls] ∧ κ (.int (ls.length : Int))
theorem ok_Text_len (T : Txt K mg) : FnOk P w K mg base CX0 1 T.f_Text_len T.fd_Text_len ["self"] (spP K (tLen T.C_Text)) := ok_pure T.F_Text_len sc_Text_len (fun ds κ ⟨ls, h, _⟩ => by rw [h]; rfl) fun cdv A outer s0 H E ds κ hr ht => by
  obtain ⟨ls, rfl, q⟩ := ht
  have hcl := T.cl_Text
  have hn1 := T.nA_Text_lines
  refine ⟨_, (pss_one (ps_ret (pe_callB (c_len (K := K)) (by rfl) T.z_len (by decide +kernel) (pa_cons (pe_fldK (K := K) rfl (pv 0) rfl) pa_nil)))), ?_⟩
  show Sw K _ [.dat (.ins T.C_Text (txF ls))] _
  walk_at "zw"
  rw [lin_len]
  exact q
def tMn (C : Addr) (lt : Int → Int → Bool) (ds : List Dt) (κ : Dt → Prop) : Prop := ∃ ls : List LLine, ds = [txD C ls] ∧ κ (mnDt lt (ls.map (·.col)))
theorem ok_Text_least (T : Txt K mg) : FnOk P w K mg base CX0 1 T.f_Text_least T.fd_Text_least ["self"] (spP K (tMn T.C_Text fun i j => decide (i < j))) := ok_pure T.F_Text_least sc_Text_least (fun ds κ ⟨ls, h, _⟩ => by rw [h]; rfl) fun cdv A outer s0 H E ds κ hr ht => by
  obtain ⟨ls, rfl, q⟩ := ht
  have hcl := T.cl_Text
  have hn2 := T.nA_Text_columns
  refine ⟨_, (pss_one (ps_ret (pe_callBK (cr_minD (K := K) rfl rfl) (by rfl) T.z_min (by decide +kernel) (pa_cons (pe_fldK (K := K) rfl (pv 0) rfl) pa_nil) (pk_cons pe_non pk_nil)))), ?_⟩
  show Sw K _ [.dat (.ins T.C_Text (txF ls))] _
  walk_at "zw"
  exact q
theorem ok_Text_greatest (T : Txt K mg) : FnOk P w K mg base CX0 1 T.f_Text_greatest T.fd_Text_greatest ["self"] (spP K (tMn T.C_Text fun i j => decide (i > j))) := ok_pure T.F_Text_greatest sc_Text_greatest (fun ds κ ⟨ls, h, _⟩ => by rw [h]; rfl) fun cdv A outer s0 H E ds κ hr ht => by
  obtain ⟨ls, rfl, q⟩ := ht
  have hcl := T.cl_Text
  have hn2 := T.nA_Text_columns
  refine ⟨_, (pss_one (ps_ret (pe_callBK (cr_maxD (K := K) rfl rfl) (by rfl) T.z_max (by decide +kernel) (pa_cons (pe_fldK (K := K) rfl (pv 0) rfl) pa_nil) (pk_cons pe_non pk_nil)))), ?_⟩
  show Sw K _ [.dat (.ins T.C_Text (txF ls))] _
  walk_at "zw"
  exact q
theorem okR_Text_len (T : Txt K mg) : FnR P w K mg base CX0 1 T.f_Text_len (spP K (tLen T.C_Text)) := fnR (ok_Text_len T) T.b_Text_len
end
end My

namespace My
open PySem PySem.Spec PyProof.Rows L2
section
variable {P : Program} {w : World} {K : PySem.W.Frag} {mg : Str → Option Value} {base : Heap}
/-! ### the judges, of any data without instances -/
mutual
def Dt.noI : Dt → Bool
  | .ins _ _ => false
  | .exc _ _ _ => false
  | .lst ds => Dt.noIL ds
  | .tup ds => Dt.noIL ds
  | _ => true
def Dt.noIL : List Dt → Bool
  | [] => true
  | d :: ds => d.noI && Dt.noIL ds
end
theorem noIL_get : ∀ {ds : List Dt} {i : Nat} {d : Dt}, Dt.noIL ds = true → ds[i]? = some d → d.noI = true
  | d :: ds, 0, _, h, e => by
    cases e
    simp only [Dt.noIL, Bool.and_eq_true] at h
    exact h.1
  | d :: ds, i + 1, _, h, e => by
    simp only [Dt.noIL, Bool.and_eq_true] at h
    exact noIL_get (i := i) h.2 (by simpa using e)
def intDt : Dt → Bool
  | .int i => decide (absI i < 10 ^ 60)
  | _ => false
def colDt : Dt → Bool
  | .int i => decide (0 ≤ i) && decide (i ≤ 199)
  | _ => false
def wordDt : Dt → Bool
  | .str s => wordB s
  | _ => false
def wsDt : Dt → Bool
  | .tup ds => (decide (1 ≤ ds.length) && decide (ds.length ≤ 6)) && ds.all wordDt
  | _ => false
def lineDt : Dt → Bool
  | .tup [a, b] => colDt a && wsDt b
  | _ => false
def tAny1 (f : Dt → Bool) (ds : List Dt) (κ : Dt → Prop) : Prop := ∃ d, ds = [d] ∧ d.noI = true ∧ κ (.bl (f d))
theorem kt_no {s ty : String} {d : Dt} {P : Bool → Prop} (h : d.tyS = some ty) (hk : kitB ty s = some false) (q : P false) : LTy s d P := ⟨ty, false, h, hk, q⟩
theorem kt_yes {s ty : String} {d : Dt} {P : Bool → Prop} (h : d.tyS = some ty) (hk : kitB ty s = some true) (q : P true) : LTy s d P := ⟨ty, true, h, hk, q⟩
theorem okA_is_integer (T : Txt K mg) : FnOk P w K mg base CX0 1 T.f_is_integer T.fd_is_integer ["value"] (spP K (tAny1 intDt)) := ok_pure T.F_is_integer sc_is_integer (fun ds κ ⟨d, h, _⟩ => by rw [h]; rfl) fun cdv A outer s0 H E ds κ hr ht => by
  obtain ⟨d, rfl, hd, q⟩ := ht
  refine ⟨_, (pss_cons (ps_if (PW.pt (pw_or (pt_not (pt_val (pe_callB (c_isi (K := K)) (by rfl) T.z_isinstance (by decide +kernel) (pa_cons (pv 0) (pa_cons (pe_bltn (v := .ty "int") (by rfl) T.z_int (by decide +kernel) rfl) pa_nil))))) (pw_or1 (pt_val (pe_callB (c_isi (K := K)) (by rfl) T.z_isinstance (by decide +kernel) (pa_cons (pv 0) (pa_cons (pe_bltn (v := .ty "bool") (by rfl) T.z_bool (by decide +kernel) rfl) pa_nil))))))) (pss_one (ps_ret pe_bl)) pss_nil)
      (pss_one (ps_ret (pe_cmpR op_lt (pe_callB c_abs (by rfl) T.z_abs (by decide +kernel) (pa_cons (pv 0) pa_nil)) (pe_op op_powW pe_int pe_int) (nomark _))))), ?_⟩
  show Sw K _ [.dat d] _
  refine x_seq (x_if ?_)
  walk_at "zw"
  cases d with
  | int i =>
    walk_at "zw"
    exact q
  | bl b =>
    refine kt_yes rfl (by decide +kernel) ?_
    walk_at "zw"
    exact q
  | non => refine kt_no rfl (by decide +kernel) ?_; walk_at "zw"; exact q
  | str _ => refine kt_no rfl (by decide +kernel) ?_; walk_at "zw"; exact q
  | lst _ => refine kt_no rfl (by decide +kernel) ?_; walk_at "zw"; exact q
  | tup _ => refine kt_no rfl (by decide +kernel) ?_; walk_at "zw"; exact q
  | dct _ => refine kt_no rfl (by decide +kernel) ?_; walk_at "zw"; exact q
  | ins _ _ => simp [Dt.noI] at hd
  | exc _ _ _ => simp [Dt.noI] at hd
theorem okA_is_column (T : Txt K mg) : FnOk P w K mg base CX0 2 T.f_is_column T.fd_is_column ["value"] (spP K (tAny1 colDt)) := ok_pure T.F_is_column sc_is_column (fun ds κ ⟨d, h, _⟩ => by rw [h]; rfl) fun cdv A outer s0 H E ds κ hr ht => by
  obtain ⟨d, rfl, hd, q⟩ := ht
  refine ⟨_, (pss_one (ps_ret (pe_and (pe_call (okA_is_integer T) (hr.mono (by decide)) (by rfl) T.g_is_integer T.F_is_integer.kp T.b_is_integer .nil pass0 (pa_cons (pv 0) pa_nil)) (pe_one (pe_chain op_le op_le pe_int (pv 0) (pe_glob (v := .int (199)) rfl T.c_MAX_COLUMN ⟨_, rfl⟩)))))), ?_⟩
  show Sw K _ [.dat d] _
  walk_at "zw"
  refine ⟨d, rfl, hd, ?_⟩
  cases d with
  | int i =>
    show LB1 (.bl (decide (absI i < 10 ^ 60))) _
    walk_at "zw"
    refine lf_if (fun h => ?_) (fun h => ?_)
    · walk_at "zw"
      refine lf_if (fun h1 => ?_) (fun h1 => ?_)
      · walk_at "zw"
        show κ _
        have : colDt (.int i) = decide (i ≤ 199) := by show (decide (0 ≤ i) && decide (i ≤ 199)) = _; rw [h1, Bool.true_and]
        rw [this] at q
        exact q
      · have : colDt (.int i) = false := by show (decide (0 ≤ i) && decide (i ≤ 199)) = _; rw [h1, Bool.false_and]
        rw [this] at q
        exact q
    · have h2 := of_decide_eq_false h
      have h3 : colDt (.int i) = false := by
        show (decide (0 ≤ i) && decide (i ≤ 199)) = false
        rw [Bool.and_eq_false_iff]
        unfold absI at h2
        by_cases z : i < 0
        · exact .inl (decide_eq_false (by omega))
        · rw [if_neg z] at h2
          exact .inr (decide_eq_false fun z2 => h2 (Int.lt_of_le_of_lt z2 (by decide +kernel)))
      rw [h3] at q
      exact q
  | non => show LB1 (.bl false) _; walk_at "zw"; exact q
  | bl _ => show LB1 (.bl false) _; walk_at "zw"; exact q
  | str _ => show LB1 (.bl false) _; walk_at "zw"; exact q
  | lst _ => show LB1 (.bl false) _; walk_at "zw"; exact q
  | tup _ => show LB1 (.bl false) _; walk_at "zw"; exact q
  | dct _ => show LB1 (.bl false) _; walk_at "zw"; exact q
  | ins _ _ => simp [Dt.noI] at hd
  | exc _ _ _ => simp [Dt.noI] at hd
theorem okA_is_word (T : Txt K mg) : FnOk P w K mg base CX0 1 T.f_is_word T.fd_is_word ["value"] (spP K (tAny1 wordDt)) := ok_pure T.F_is_word sc_is_word (fun ds κ ⟨i, h, _⟩ => by rw [h]; rfl) fun cdv A outer s0 H E ds κ hr ht => by
  obtain ⟨d, rfl, hd, q⟩ := ht
  refine ⟨_, (pss_cons (ps_if (PW.pt (pw_or (pt_not (pt_val (pe_callB (c_isi (K := K)) (by rfl) T.z_isinstance (by decide +kernel) (pa_cons (pv 0) (pa_cons (pe_bltn (v := .ty "str") (by rfl) T.z_str (by decide +kernel) rfl) pa_nil))))) (pw_or1 (pt_cmpR op_gt (pe_callB c_lenT (by rfl) T.z_len (by decide +kernel) (pa_cons (pv 0) pa_nil)) (pe_glob (v := .int (8)) rfl T.c_MAX_LETTERS ⟨_, rfl⟩) (nomark _))))) (pss_one (ps_ret pe_bl)) pss_nil)
      (pss_one (ps_ret (pe_and (e_bm0 (K := K) PySem.F.plainAttrs_str PySem.F.slot_str_isascii PySem.F.type_str_isascii c_isascii (pv 0)) (pe_and (e_bm0 (K := K) PySem.F.plainAttrs_str PySem.F.slot_str_isalpha PySem.F.type_str_isalpha c_isalpha (pv 0)) (pe_one (e_bm0 (K := K) PySem.F.plainAttrs_str PySem.F.slot_str_islower PySem.F.type_str_islower c_islower (pv 0)))))))), ?_⟩
  show Sw K _ [.dat d] _
  refine x_seq (x_if ?_)
  walk_at "zw"
  cases d with
  | str s =>
    have q : κ (.bl (wordB s)) := q
    unfold wordB at q
    walk_at "zw"
    refine lf_if (fun h => ?_) (fun h => ?_)
    · walk_at "zw"
      have := of_decide_eq_true h
      rw [decide_eq_false (by omega), Bool.false_and] at q
      exact q
    · walk_at "zw"
      have := of_decide_eq_false h
      rw [decide_eq_true (by omega), Bool.true_and] at q
      refine lf_if (fun h1 => ?_) (fun h1 => ?_)
      · walk_at "zw"
        rw [h1, Bool.true_and] at q
        refine lf_if (fun h2 => ?_) (fun h2 => ?_)
        · walk_at "zw"
          rw [h2, Bool.true_and] at q
          exact q
        · rw [h2, Bool.false_and] at q
          exact q
      · rw [h1, Bool.false_and] at q
        exact q
  | non => refine kt_no rfl (by decide +kernel) ?_; walk_at "zw"; exact q
  | bl _ => refine kt_no rfl (by decide +kernel) ?_; walk_at "zw"; exact q
  | int _ => refine kt_no rfl (by decide +kernel) ?_; walk_at "zw"; exact q
  | lst _ => refine kt_no rfl (by decide +kernel) ?_; walk_at "zw"; exact q
  | tup _ => refine kt_no rfl (by decide +kernel) ?_; walk_at "zw"; exact q
  | dct _ => refine kt_no rfl (by decide +kernel) ?_; walk_at "zw"; exact q
  | ins _ _ => simp [Dt.noI] at hd
  | exc _ _ _ => simp [Dt.noI] at hd
end
end My

namespace My
open PySem PySem.Spec PyProof.Rows L2
section
variable {P : Program} {w : World} {K : PySem.W.Frag} {mg : Str → Option Value} {base : Heap}
theorem blsD_map (f : Dt → Bool) (ds : List Dt) : ds.map (fun d => Dt.bl (f d)) = blsD (ds.map f) := by unfold blsD; rw [List.map_map]; rfl
theorem okA_is_words_of_line (T : Txt K mg) : FnOk P w K mg base CX0 2 T.f_is_words_of_line T.fd_is_words_of_line ["value"] (spP K (tAny1 wsDt)) := ok_pure T.F_is_words_of_line sc_is_words_of_line (fun ds κ ⟨i, h, _⟩ => by rw [h]; rfl) fun cdv A outer s0 H E ds κ hr ht => by
  obtain ⟨d, rfl, hd, q⟩ := ht
  refine ⟨_, (pss_cons (ps_if (PW.pt (pw_or (pt_not (pt_val (pe_callB (c_isi (K := K)) (by rfl) T.z_isinstance (by decide +kernel) (pa_cons (pv 0) (pa_cons (pe_bltn (v := .ty "tuple") (by rfl) T.z_tuple (by decide +kernel) rfl) pa_nil))))) (pw_or1 (pt_not (pt_chain op_le op_le pe_int (pe_callB (c_len (K := K)) (by rfl) T.z_len (by decide +kernel) (pa_cons (pv 0) pa_nil)) (pe_glob (v := .int (6)) rfl T.c_MAX_WORDS ⟨_, rfl⟩)))))) (pss_one (ps_ret pe_bl)) pss_nil)
      (pss_one (ps_ret (pe_callB (c_all (K := K) rfl) (by rfl) T.z_all (by decide +kernel) (pa_cons (pe_lc (own := [("word", 1)]) rfl sc_is_words_of_line.nd (p_tup (K := K) (pv 0)) (blkOk_by (own := [("word", 1)]) (N := ["value", "word"]) (sc := (defScope s_is_words_of_line)) (by decide +kernel)) (fun _ _ _ _ _ => (pg_name (i := 1) sc_is_words_of_line.nd rfl (.inl rfl))) (fun _ _ _ _ _ => pts_nil) (fun _ _ _ _ _ => (pe_call (okA_is_word T) (hr.mono (by decide)) (by rfl) T.g_is_word T.F_is_word.kp T.b_is_word .nil pass0 (pa_cons (pv 1) pa_nil)))) pa_nil))))), ?_⟩
  show Sw K _ [.dat d, .no] _
  cases d with
  | tup es =>
    have q : κ (.bl ((decide (1 ≤ es.length) && decide (es.length ≤ 6)) && es.all wordDt)) := q
    refine x_seq (x_if (wt_val (!(decide (1 ≤ es.length) && decide (es.length ≤ 6))) ?_ ?_))
    · walk_at "zw"
      refine lf_if (fun h => ?_) (fun h => ?_)
      · have := of_decide_eq_true h
        walk_at "zw"
        refine ⟨?_, rfl⟩
        rw [decide_eq_true (show 1 ≤ es.length by omega), Bool.true_and]
        by_cases z : es.length ≤ 6
        · rw [decide_eq_true z, decide_eq_true (show (es.length : Int) ≤ 6 by omega)]
        · rw [decide_eq_false z, decide_eq_false (show ¬ (es.length : Int) ≤ 6 by omega)]
      · have := of_decide_eq_false h
        walk_at "zw"
        refine ⟨?_, rfl⟩
        rw [decide_eq_false (show ¬ 1 ≤ es.length by omega)]; rfl
    refine lf_if (fun h => ?_) (fun h => ?_)
    · walk_at "zw"
      have h2 : (decide (1 ≤ es.length) && decide (es.length ≤ 6)) = false := nb_t h
      rw [h2, Bool.false_and] at q
      exact q
    · have h2 : (decide (1 ≤ es.length) && decide (es.length ≤ 6)) = true := nb_f h
      rw [h2, Bool.true_and] at q
      rw [Bool.and_eq_true] at h2
      have h6 := of_decide_eq_true h2.2
      walk_at "zw"
      refine y_allT (w_of_n (wn_mapT' (fun d => .bl (wordDt d)) ?_))
      walk_at "zw"
      · omega
      refine ⟨?_, es.map wordDt, by rw [blsD_map], ?_⟩
      · intro i x hx
        walk_at "zw"
        refine ⟨x, rfl, noIL_get (by simpa [Dt.noI] using hd) hx, ?_⟩
        all_goals first | exact ⟨rfl, rfl, rfl⟩ | exact ⟨rfl, rfl⟩ | exact rfl
      · rw [List.all_map]
        exact q
  | non => refine x_seq (x_if ?_); walk_at "zw"; exact q
  | bl _ => refine x_seq (x_if ?_); walk_at "zw"; exact q
  | int _ => refine x_seq (x_if ?_); walk_at "zw"; exact q
  | lst _ => refine x_seq (x_if ?_); walk_at "zw"; exact q
  | str _ => refine x_seq (x_if ?_); walk_at "zw"; exact q
  | dct _ => refine x_seq (x_if ?_); walk_at "zw"; exact q
  | ins _ _ => simp [Dt.noI] at hd
  | exc _ _ _ => simp [Dt.noI] at hd
theorem two_of : ∀ {es : List Dt}, es.length = 2 → ∃ a b, es = [a, b]
  | [a, b], _ => ⟨a, b, rfl⟩
theorem not_two : ∀ {es : List Dt}, es.length ≠ 2 → lineDt (.tup es) = false
  | [], _ => rfl
  | [_], _ => rfl
  | [_, _], h => absurd rfl h
  | _ :: _ :: _ :: _, _ => rfl
theorem okA_is_line (T : Txt K mg) : FnOk P w K mg base CX0 3 T.f_is_line T.fd_is_line ["value"] (spP K (tAny1 lineDt)) := ok_pure T.F_is_line sc_is_line (fun ds κ ⟨i, h, _⟩ => by rw [h]; rfl) fun cdv A outer s0 H E ds κ hr ht => by
  obtain ⟨d, rfl, hd, q⟩ := ht
  refine ⟨_, (pss_cons (ps_if (PW.pt (pw_or (pt_not (pt_val (pe_callB (c_isi (K := K)) (by rfl) T.z_isinstance (by decide +kernel) (pa_cons (pv 0) (pa_cons (pe_bltn (v := .ty "tuple") (by rfl) T.z_tuple (by decide +kernel) rfl) pa_nil))))) (pw_or1 (pt_cmpR op_ne (pe_callB (c_len (K := K)) (by rfl) T.z_len (by decide +kernel) (pa_cons (pv 0) pa_nil)) pe_int (nomark _))))) (pss_one (ps_ret pe_bl)) pss_nil)
      (pss_one (ps_ret (pe_and (pe_call (okA_is_column T) (hr.mono (by decide)) (by rfl) T.g_is_column T.F_is_column.kp T.b_is_column .nil pass0 (pa_cons (pe_ix (i_tup (K := K)) (pv 0) pe_int (fun _ _ => rfl)) pa_nil)) (pe_one (pe_call (okA_is_words_of_line T) (hr.mono (by decide)) (by rfl) T.g_is_words_of_line T.F_is_words_of_line.kp T.b_is_words_of_line .nil pass0 (pa_cons (pe_ix (i_tup (K := K)) (pv 0) pe_int (fun _ _ => rfl)) pa_nil))))))), ?_⟩
  show Sw K _ [.dat d] _
  refine x_seq (x_if ?_)
  walk_at "zw"
  cases d with
  | tup es =>
    walk_at "zw"
    refine lf_if (fun h => ?_) (fun h => ?_)
    · walk_at "zw"
      have h2 : (decide ((es.length : Int) = 2)) = false := nb_t h
      have h3 : es.length ≠ 2 := by have := of_decide_eq_false h2; omega
      rw [not_two h3] at q
      exact q
    · have h2 : (decide ((es.length : Int) = 2)) = true := nb_f h
      obtain ⟨a, b, rfl⟩ := two_of (es := es) (by have := of_decide_eq_true h2; omega)
      have h0 : atI [a, b] 0 = some a := L2.atI_nat (j := 0) rfl
      have h1 : atI [a, b] 1 = some b := L2.atI_nat (j := 1) rfl
      have hab : a.noI = true ∧ b.noI = true := by simpa [Dt.noI, Dt.noIL] using hd
      have q : κ (.bl (colDt a && wsDt b)) := q
      walk_at "zw"
      refine ⟨a, rfl, hab.1, ?_⟩
      walk_at "zw"
      refine lf_if (fun h => ?_) (fun h => ?_)
      · walk_at "zw"
        refine ⟨b, rfl, hab.2, ?_⟩
        rw [h, Bool.true_and] at q
        exact q
      · rw [h, Bool.false_and] at q
        exact q
  | non => refine kt_no rfl (by decide +kernel) ?_; walk_at "zw"; exact q
  | bl _ => refine kt_no rfl (by decide +kernel) ?_; walk_at "zw"; exact q
  | int _ => refine kt_no rfl (by decide +kernel) ?_; walk_at "zw"; exact q
  | lst _ => refine kt_no rfl (by decide +kernel) ?_; walk_at "zw"; exact q
  | str _ => refine kt_no rfl (by decide +kernel) ?_; walk_at "zw"; exact q
  | dct _ => refine kt_no rfl (by decide +kernel) ?_; walk_at "zw"; exact q
  | ins _ _ => simp [Dt.noI] at hd
  | exc _ _ _ => simp [Dt.noI] at hd
end
end My

namespace My
open PySem PySem.Spec PyProof.Rows L2
section
variable {P : Program} {w : World} {K : PySem.W.Frag} {mg : Str → Option Value} {base : Heap}
/-! ### what else a Text tells -/
theorem lineDt_of {d : Dt} (h : lineDt d = true) : ∃ l : LLine, d = l.dt ∧ lineB l = true := by
  cases d with
  | tup es =>
    match es, h with
    | [a, b], h =>
      simp only [lineDt, Bool.and_eq_true] at h
      obtain ⟨h1, h2⟩ := h
      cases a with
      | int c =>
        cases b with
        | tup ws =>
          simp only [wsDt, Bool.and_eq_true] at h2
          have un : ∀ ws : List Dt, ws.all wordDt = true → ∃ ss, ws = strsD ss ∧ ss.all wordB = true := by
            intro ws
            induction ws with
            | nil => intro _; exact ⟨[], rfl, rfl⟩
            | cons x ws ih =>
              intro hx
              rw [List.all_cons, Bool.and_eq_true] at hx
              obtain ⟨ss, rfl, hs⟩ := ih hx.2
              cases x with
              | str s => exact ⟨s :: ss, rfl, by rw [List.all_cons, hs]; simpa [wordDt] using hx.1⟩
              | _ => simp [wordDt] at hx
          obtain ⟨ss, rfl, hs⟩ := un ws h2.2
          refine ⟨⟨c, ss⟩, rfl, ?_⟩
          unfold lineB wsB
          have h3 : (decide (0 ≤ c) && decide (c ≤ 199)) = true := h1
          have h4 := h2.1
          rw [strs_len] at h4
          rw [h3, hs, h4.1, h4.2]; rfl
        | _ => simp [wsDt] at h2
      | _ => simp [colDt] at h1
  | _ => simp [lineDt] at h
theorem pur_lineD (l : LLine) : l.dt.pur 60 = true := by
  show (Dt.tup [.int l.col, .tup (strsD l.ws)]).pur 60 = true
  simp only [Dt.pur, Dt.purL, pur_tupS, Bool.and_self]
  have := purL_map (k := 58) (f := Dt.str) (fun x => by simp [Dt.pur]) l.ws
  unfold strsD
  rw [this]; rfl
theorem colB_range {l : LLine} (h : lineB l = true) : 0 ≤ l.col ∧ l.col ≤ 199 := by
  unfold lineB at h
  rw [Bool.and_eq_true, Bool.and_eq_true] at h
  exact ⟨of_decide_eq_true h.1.1, of_decide_eq_true h.1.2⟩
theorem kb_of {K : PySem.W.Frag} {ty : String} {C : Addr} (h : (PySem.W.kitOne K (.type ty) (.ref C) == some false) = true) : PySem.W.kitOne K (.type ty) (.ref C) = some false := by
  rw [beq_iff_eq] at h
  exact h
end
end My

namespace My
open PySem PySem.Spec PyProof.Rows L2
section
variable {P : Program} {w : World} {K : PySem.W.Frag} {mg : Str → Option Value} {base : Heap}
local macro_rules | `(tactic| walk_at "zx") => `(tactic| first
  | ((with_reducible refine' My.y_txL ?hc ?hn ?_); (case hc => assumption); (case hn => assumption))
  | ((with_reducible refine' My.y_txW ?hc ?hn ?_); (case hc => assumption); (case hn => assumption))
  | ((with_reducible refine' My.y_txC ?hc ?hn ?_); (case hc => assumption); (case hn => assumption)))
/-! ### the written form -/
def wl (l : LLine) : Str := Txt.mul " " l.col ++ Txt.join " " l.ws
theorem sum_le {c : Nat} : ∀ {ws : List Str}, (∀ w ∈ ws, w.length ≤ c) → (ws.map (·.length)).sum ≤ c * ws.length
  | [], _ => Nat.zero_le _
  | w :: ws, h => by
    have h1 := sum_le (ws := ws) fun x hx => h x (.tail _ hx)
    have h2 := h w (.head _)
    rw [List.map_cons, List.sum_cons, List.length_cons, Nat.mul_add]
    omega
theorem ws_sum {l : LLine} (h : l.ws.length ≤ 6 ∧ ∀ w ∈ l.ws, w.length ≤ 8) : (l.ws.map (·.length)).sum + l.ws.length * (" " : Str).length ≤ 54 := by
  have h1 := sum_le (c := 8) h.2
  have h2 : (" " : Str).length = 1 := by decide
  rw [h2]
  omega
theorem wl_len {l : LLine} (h : lineB l = true) (hs : l.ws.length ≤ 6 ∧ ∀ w ∈ l.ws, w.length ≤ 8) : (wl l).length ≤ 253 := by
  have h1 := ws_sum hs
  have h2 := colB_range h
  have h3 := len_mul1 (x := (" " : Str)) h2.1
  have h4 : (" " : Str).length = 1 := by decide
  have h5 : (Txt.join " " l.ws).length ≤ (l.ws.map (·.length)).sum + l.ws.length * (" " : Str).length := by rw [TL.join_eq]; exact StrLaws.join_length_le _ _
  rw [h4] at h3
  unfold wl
  rw [Str.length_append]
  omega
def tWl (ds : List Dt) (κ : Dt → Prop) : Prop := ∃ l : LLine, ds = [l.dt] ∧ lineB l = true ∧ κ (.str (wl l))
theorem ok_written_line (T : Txt K mg) : FnOk P w K mg base CX0 1 T.f_written_line T.fd_written_line ["line"] (spP K tWl) := ok_pure T.F_written_line sc_written_line (fun ds κ ⟨l, h, _⟩ => by rw [h]; rfl) fun cdv A outer s0 H E ds κ hr ht => by
  obtain ⟨l, rfl, hb, q⟩ := ht
  have hs := (line_sh hb).2
  have hc := colB_range hb
  have h4 : (" " : Str).length = 1 := by decide
  have hz := wl_len hb hs
  refine ⟨_, (pss_cons (ps_asg (pv 0) (pg_tup (by rfl) (pgs_cons (pg_name (i := 1) sc_written_line.nd rfl (.inl rfl)) (pgs_cons (pg_name (i := 2) sc_written_line.nd rfl (.inl rfl)) pgs_nil))))
      (pss_cons (ps_set (i := 3) sc_written_line.nd rfl (.inl rfl) (pe_op op_mulS pe_str (pv 1)))
      (pss_cons (ps_set (i := 4) sc_written_line.nd rfl (.inl rfl) (e_bm (K := K) PySem.F.plainAttrs_str PySem.F.slot_str_join PySem.F.type_str_join (c_join (K := K)) pe_str (pa_cons (pv 2) pa_nil)))
      (pss_one (ps_ret (pe_joined (PJ.cons (pe_fmt (pv 3)) (PJ.cons (pe_fmt (pv 4)) PJ.nil)))))))), ?_⟩
  show Sw K _ [.dat (.tup [.int l.col, .tup (strsD l.ws)]), .no, .no, .no, .no] _
  walk_at "zw"
  refine lf_mulS ⟨hc.1, by omega, by rw [h4]; decide⟩ ?_
  walk_at "zw"
  refine lf_joinT (Nat.le_trans (ws_sum hs) (by decide)) ?_
  walk_at "zw"
  unfold wl at hz q
  rw [Str.length_append] at hz
  refine ⟨by rw [show Str.empty.length = 0 from rfl]; omega, ?_⟩
  rw [Str.empty_append]
  refine wj_cons ?_
  walk_at "zw"
  exact q
theorem okA_written_line (T : Txt K mg) : FnR P w K mg base CX0 1 T.f_written_line (spP K tWl) := fnR (ok_written_line T) T.b_written_line
def tStr (C : Addr) (ds : List Dt) (κ : Dt → Prop) : Prop := ∃ ls : List LLine, ds = [txD C ls] ∧ TxOk ls ∧ κ (.str (Txt.join "\n" (ls.map wl)))
def wlD : Dt → Dt
  | .tup [.int c, .tup ws] => .str (wl ⟨c, ws.map fun d => match d with | .str s => s | _ => Str.empty⟩)
  | _ => .non
theorem wlD_dt (l : LLine) : wlD l.dt = .str (wl l) := by
  show Dt.str (wl ⟨l.col, (strsD l.ws).map _⟩) = _
  unfold strsD
  rw [List.map_map, show (List.map ((fun d => match d with | .str s => s | _ => Str.empty) ∘ Dt.str) l.ws) = l.ws from by
    conv => rhs; rw [← List.map_id l.ws]
    rfl]
theorem lin_wl (ls : List LLine) : (linD ls).map wlD = strsD (ls.map wl) := by
  unfold linD strsD
  rw [List.map_map, List.map_map]
  exact List.map_congr_left fun l _ => wlD_dt l
theorem wl_sum {ls : List LLine} (ok : TxOk ls) : ((ls.map wl).map (·.length)).sum + (ls.map wl).length * ("\n" : Str).length ≤ 100000 := by
  have h1 := sum_le (c := 253) (ws := ls.map wl) fun x hx => by
    obtain ⟨l, hl, rfl⟩ := List.mem_map.mp hx
    exact wl_len (ok.ok l hl) (line_sh (ok.ok l hl)).2
  have h2 : ("\n" : Str).length = 1 := by decide
  have := ok.len
  rw [h2]
  rw [List.length_map] at h1 ⊢
  omega
theorem ok_Text_str (T : Txt K mg) : FnOk P w K mg base CX0 3 T.f_Text_str T.fd_Text_str ["self"] (spP K (tStr T.C_Text)) := ok_pure T.F_Text_str sc_Text_str (fun ds κ ⟨ls, h, _⟩ => by rw [h]; rfl) fun cdv A outer s0 H E ds κ hr ht => by
  obtain ⟨ls, rfl, ok, q⟩ := ht
  have hcl := T.cl_Text
  have hn1 := T.nA_Text_lines
  refine ⟨_, (pss_one (ps_ret (e_bm (K := K) PySem.F.plainAttrs_str PySem.F.slot_str_join PySem.F.type_str_join (c_join (K := K)) pe_str (pa_cons (pe_lc (own := [("line", 1)]) rfl sc_Text_str.nd (p_tup (K := K) (pe_fldK (K := K) rfl (pv 0) rfl)) (blkOk_by (own := [("line", 1)]) (N := ["self", "line"]) (sc := (defScope s_Text_str)) (by decide +kernel)) (fun _ _ _ _ _ => (pg_name (i := 1) sc_Text_str.nd rfl (.inl rfl))) (fun _ _ _ _ _ => pts_nil) (fun _ _ _ _ _ => (pe_call (ok_written_line T) (hr.mono (by decide)) (by rfl) T.g_written_line T.F_written_line.kp T.b_written_line .nil pass0 (pa_cons (pv 1) pa_nil)))) pa_nil)))), ?_⟩
  show Sw K _ [.dat (.ins T.C_Text (txF ls)), .no] _
  walk_at "zw"
  refine w_of_n (wn_mapT' wlD ?_)
  walk_at "zw"
  · rw [lin_len]; have := ok.len; omega
  refine ⟨?_, ?_⟩
  · intro i x hx
    obtain ⟨l, rfl, hl⟩ := lin_get hx
    show Turn K _ _ _ _ l.dt _ _ _
    walk_at "zw"
    refine ⟨l, rfl, ok.ok l (List.mem_of_getElem? hl), ?_⟩
    walk_at "zw"
    exact ⟨(wlD_dt l).symm, rfl⟩
  walk_at "zw"
  rw [lin_wl]
  refine lf_joinL (wl_sum ok) ?_
  exact q
theorem okR_Text_str (T : Txt K mg) : FnR P w K mg base CX0 3 T.f_Text_str (spP K (tStr T.C_Text)) := fnR (ok_Text_str T) T.b_Text_str
end
end My

namespace My
open PySem PySem.Spec PyProof.Rows L2
section
variable {P : Program} {w : World} {K : PySem.W.Frag} {mg : Str → Option Value} {base : Heap}
theorem strs_noI : ∀ ws : List Str, Dt.noIL (strsD ws) = true
  | [] => rfl
  | w :: ws => by
    show Dt.noIL (.str w :: strsD ws) = true
    simp only [Dt.noIL, Dt.noI, strs_noI ws, Bool.and_self]
theorem line_noI (l : LLine) : l.dt.noI = true := by
  show (Dt.tup [.int l.col, .tup (strsD l.ws)]).noI = true
  simp only [Dt.noI, Dt.noIL, strs_noI, Bool.and_self]
theorem lin_noI : ∀ ls : List LLine, Dt.noIL (linD ls) = true
  | [] => rfl
  | l :: ls => by
    show Dt.noIL (l.dt :: linD ls) = true
    simp only [Dt.noIL, line_noI, lin_noI ls, Bool.and_self]
theorem line_dtB {l : LLine} (h : lineB l = true) : lineDt l.dt = true := by
  show (colDt (.int l.col) && wsDt (.tup (strsD l.ws))) = true
  unfold lineB wsB at h
  rw [Bool.and_eq_true] at h
  have e : (strsD l.ws).all wordDt = l.ws.all wordB := by
    unfold strsD
    rw [List.all_map]; rfl
  show (_ && ((decide (1 ≤ (strsD l.ws).length) && decide ((strsD l.ws).length ≤ 6)) && (strsD l.ws).all wordDt)) = true
  rw [strs_len, e, Bool.and_eq_true]
  exact h
theorem line_dtE (l : LLine) : lineDt l.dt = lineB l := by
  show (colDt (.int l.col) && wsDt (.tup (strsD l.ws))) = lineB l
  unfold lineB wsB
  have e : (strsD l.ws).all wordDt = l.ws.all wordB := by
    unfold strsD
    rw [List.all_map]; rfl
  show (_ && ((decide (1 ≤ (strsD l.ws).length) && decide ((strsD l.ws).length ≤ 6)) && (strsD l.ws).all wordDt)) = _
  rw [strs_len, e]; rfl
/-- if s, a text -/
def tTruS (te : TE) : TT := fun σ H Q => te σ H fun x H' => ∃ z : Str, x = .str z ∧ z.length ≤ sizeLine ∧ Q ((z.length : Int) != 0) H'
theorem pt_strK {X : Cx} {a : Expr} {ta : TE} (ha : PE X a ta) (he : ∀ whole, isTrue a X.env whole = (do let v ← whole; standAt a.pos; holding [v] (truthy v))) : PT X a (tTruS ta) := by
  refine ⟨fun pins s σ H Q I h => ?_⟩
  refine isTrue_plain (thn (ha.run pins s σ H _ I h) fun v s1 ⟨x, H1, I1, r1, q1⟩ => ?_) (he _)
  obtain ⟨z, rfl, hz, q⟩ := q1
  exact tru_ok pins s1 σ H1 _ v Q I1 r1 ⟨_, ⟨hz, rfl⟩, q⟩
theorem wt_truS {te : TE} {δ : Store} {Φ : Bool → Store → Prop} (q : W K te δ fun d δ1 => LS1 d fun z => Φ ((z.length : Int) != 0) δ1) : Wt K (tTruS te) δ Φ := fun M L σ H I Q k => q M L σ H I _ fun v d δ1 H1 I1 x1 hv ⟨z, hz, q⟩ => by
  subst hz
  obtain ⟨rfl, hg⟩ := hv.inv_str
  exact ⟨z, rfl, sz_of hg.1, k _ δ1 H1 I1 x1 q⟩
def tRows (ds : List Dt) (κ : Dt → Prop) : Prop := ∃ s : Str, ds = [.str s] ∧ κ (.lst (strsD (if s.length = 0 then [] else Txt.split s "\n")))
theorem ok_rows_of (T : Txt K mg) : FnOk P w K mg base CX0 1 T.f_rows_of T.fd_rows_of ["string"] (spP K tRows) := ok_pure T.F_rows_of sc_rows_of (fun ds κ ⟨s, h, _⟩ => by rw [h]; rfl) fun cdv A outer s0 H E ds κ hr ht => by
  obtain ⟨s, rfl, q⟩ := ht
  refine ⟨_, (pss_one (ps_ret (pe_ifExp (pt_strK (pv 0) (fun _ => rfl)) (e_bm (K := K) PySem.F.plainAttrs_str PySem.F.slot_str_split PySem.F.type_str_split c_split (pv 0) (pa_cons pe_str pa_nil)) (pe_lst pa_nil)))), ?_⟩
  show Sw K _ [.dat (.str s)] _
  walk_at "zw"
  refine w_if (wt_truS ?_)
  walk_at "zw"
  by_cases hs : s.length = 0
  · rw [if_pos hs] at q
    rw [show ((s.length : Int) != 0) = false by rw [hs]; rfl]
    walk_at "zw"
    exact q
  · rw [if_neg hs] at q
    rw [show ((s.length : Int) != 0) = true by simpa using hs]
    walk_at "zw"
    refine lf_split (by decide) ?_
    exact q
def tRow (ds : List Dt) (κ : Dt → Prop) : Prop := ∃ s : Str, ds = [.str s] ∧ s.length ≤ 5000 ∧ κ (if lineB (lineOf s) = true then (lineOf s).dt else .non)
theorem ok_line_written (T : Txt K mg) : FnOk P w K mg base CX0 4 T.f_line_written T.fd_line_written ["row"] (spP K tRow) := ok_pure T.F_line_written sc_line_written (fun ds κ ⟨s, h, _⟩ => by rw [h]; rfl) fun cdv A outer s0 H E ds κ hr ht => by
  obtain ⟨s, rfl, hsz, q⟩ := ht
  refine ⟨_, (pss_cons (ps_set (i := 1) sc_line_written.nd rfl (.inl rfl) (e_bm (K := K) PySem.F.plainAttrs_str PySem.F.slot_str_lstrip PySem.F.type_str_lstrip c_lstripC (pv 0) (pa_cons pe_str pa_nil)))
      (pss_cons (ps_set (i := 2) sc_line_written.nd rfl (.inl rfl) (pe_tup (pa_cons (pe_op op_sub (pe_callB c_lenT (by rfl) T.z_len (by decide +kernel) (pa_cons (pv 0) pa_nil)) (pe_callB c_lenT (by rfl) T.z_len (by decide +kernel) (pa_cons (pv 1) pa_nil))) (pa_cons (pe_callTy (c_tuple (K := K)) (by rfl) T.z_tuple (by decide +kernel) (pa_cons (e_bm (K := K) PySem.F.plainAttrs_str PySem.F.slot_str_split PySem.F.type_str_split c_split (pv 1) (pa_cons pe_str pa_nil)) pa_nil)) pa_nil))))
      (pss_one (ps_ret (pe_ifExp (pt_val (pe_call (okA_is_line T) (hr.mono (by decide)) (by rfl) T.g_is_line T.F_is_line.kp T.b_is_line .nil pass0 (pa_cons (pv 2) pa_nil))) (pv 2) pe_non))))), ?_⟩
  show Sw K _ [.dat (.str s), .no, .no] _
  walk_at "zw"
  refine lf_split (by decide) ?_
  walk_at "zw"
  have hc : ((s.length : Int) - ((Txt.lstripChars s (Str.ofString " ")).length : Int)) = (lineOf s).col := by
    have := len_lsp s
    have := spc_le s
    show _ = ((spc s : Nat) : Int)
    omega
  rw [hc]
  refine w_if ?_
  walk_at "zw"
  refine ⟨(lineOf s).dt, rfl, line_noI _, ?_⟩
  rw [line_dtE]
  walk_at "zw"
  refine lf_if (fun h => ?_) (fun h => ?_)
  · rw [if_pos h] at q
    walk_at "zw"
    exact q
  · rw [if_neg (by rw [h]; decide)] at q
    walk_at "zw"
    exact q
end
end My

namespace My
open PySem PySem.Spec PyProof.Rows L2
/-! ### whole texts and their written forms -/
def rowsS (s : Str) : List Str := if s.length = 0 then [] else Txt.split s "\n"
def linesS (s : Str) : List LLine := (rowsS s).map lineOf
/-- the index of the first row that is no line's, or the lines -/
def toldS (s : Str) : Dt := match (linesS s).findIdx? (fun l => !lineB l) with
  | some i => .int (i : Int)
  | none => .lst (linD (linesS s))
theorem nl1 : TL.tl (Str.ofString "\n") = [10] := by decide +kernel
theorem wl_row (s : Str) : wl (lineOf s) = s := wl_lineOf s
theorem row_wl {l : LLine} (h : lineB l = true) : lineOf (wl l) = l := by
  have h' := h
  unfold lineB at h'
  rw [Bool.and_eq_true] at h'
  exact lineOf_wl (colB_range h).1 h'.2
theorem joinL_mem {c x : Nat} : ∀ {ps : List (List Nat)}, x ∈ TL.joinL [c] ps → x = c ∨ ∃ p ∈ ps, x ∈ p
  | [], h => nomatch h
  | [p], h => .inr ⟨p, .head _, h⟩
  | p :: q :: r, h => by
    rw [joinL_cons c p (by simp)] at h
    rcases List.mem_append.mp h with z | z
    · exact .inr ⟨p, .head _, z⟩
    · rcases List.mem_cons.mp z with z | z
      · exact .inl z
      · exact (joinL_mem z).imp_right fun ⟨q', m, n⟩ => ⟨q', .tail _ m, n⟩
theorem wl_nl {l : LLine} (h : lineB l = true) : 10 ∉ (wl l).cps.toList := fun z => by
  have hc := colB_range h
  have hw : ∀ w ∈ l.ws, wordB w = true := by
    unfold lineB wsB at h
    simp only [Bool.and_eq_true, List.all_eq_true] at h
    exact h.2.2
  obtain ⟨n, hn⟩ : ∃ n : Nat, l.col = (n : Int) := ⟨l.col.toNat, by omega⟩
  unfold wl at z
  rw [Str.cps_append, Array.toList_append, hn, mul_tl] at z
  rcases List.mem_append.mp z with z | z
  · exact absurd (List.eq_of_mem_replicate z) (by decide)
  · have e1 : TL.tl (Txt.join (Str.ofString " ") l.ws) = TL.joinL [32] (l.ws.map TL.tl) := by rw [TL.join_eq, TL.tl_join, bk1]
    have z' : 10 ∈ TL.joinL [32] (l.ws.map TL.tl) := by rw [← e1]; exact z
    rcases joinL_mem z' with z2 | ⟨p, hp, z2⟩
    · exact absurd z2 (by decide)
    · obtain ⟨w, hw', rfl⟩ := List.mem_map.mp hp
      exact (word_no (hw w hw')).1.2 z2
theorem rows_of_text {ls : List LLine} (ok : ∀ l ∈ ls, lineB l = true) (hne : ls ≠ []) : Txt.split (Txt.join "\n" (ls.map wl)) "\n" = ls.map wl :=
  split_join nl1 nlG (by simpa using hne) fun y hy => by
    obtain ⟨l, hl, rfl⟩ := List.mem_map.mp hy
    exact wl_nl (ok l hl)
theorem text_of_rows (s : Str) : Txt.join "\n" ((linesS s).map wl) = s := by
  unfold linesS rowsS
  rw [List.map_map, show (wl ∘ lineOf) = id from funext wl_row, List.map_id]
  split
  · rename_i h
    refine TL.ext_tl ?_
    have : s.cps.toList = [] := List.length_eq_zero_iff.mp (by rw [Array.length_toList]; exact h)
    show TL.tl _ = s.cps.toList
    rw [this, TL.join_eq]; rfl
  · exact join_split nl1 nlG s
end My

local macro_rules | `(tactic| walk_at "zx") => `(tactic| first
  | ((with_reducible refine' My.y_txL ?hc ?hn ?_); (case hc => assumption); (case hn => assumption))
  | ((with_reducible refine' My.y_txW ?hc ?hn ?_); (case hc => assumption); (case hn => assumption))
  | ((with_reducible refine' My.y_txC ?hc ?hn ?_); (case hc => assumption); (case hn => assumption))
  | ((with_reducible refine My.lf_tx ?_))
  | ((with_reducible refine My.x_raise ?hW ?_); (case hW => assumption))
  | with_reducible refine My.wk_x ?_
  | with_reducible refine My.wk_n ?_
  | ((with_reducible refine My.z_makeSK (My.pas_x ?hW) ?_); (case hW => assumption))
  | ((with_reducible refine My.z_cmeth (My.pas_x ?hW) ?_); (case hW => assumption))
  | ((with_reducible refine My.z_meth (My.pas_x ?hW) ?_); (case hW => assumption))
  | ((with_reducible refine My.z_ownB (My.pas_x ?hW) ?_); (case hW => assumption))
  | with_reducible refine My.z_makeSK My.pas_n ?_
  | with_reducible refine My.z_cmeth My.pas_n ?_
  | with_reducible refine My.z_meth My.pas_n ?_
  | with_reducible refine My.z_ownB My.pas_n ?_
  | with_reducible refine My.y_isNo ?_
  | with_reducible refine My.y_notNo ?_
  | with_reducible refine My.lf_non ?_)
namespace My
open PySem PySem.Spec PyProof.Rows L2
section
variable {P : Program} {w : World} {K : PySem.W.Frag} {mg : Str → Option Value} {base : Heap}
theorem lf_isL {l : LLine} {A B : Prop} (q : B) : if l.dt.isN = true then A else B := q
/-- what all rows of are lines, too many perhaps -/
def tTxRead (C CE : Addr) (ds : List Dt) (κ : Dt → Prop) (ε : Value → List (Str × Dt) → Prop) : Prop := ∃ s : Str, ds = [.str s] ∧ s.length ≤ 5000 ∧ (linesS s).length ≤ 1000 ∧ (∀ l ∈ linesS s, lineB l = true) ∧ ((linesS s).length ≤ 60 → κ (txD C (linesS s))) ∧ (60 < (linesS s).length → ε (.ref CE) [("limit", .int 60)])
theorem lin_take1 {ls : List LLine} {i : Nat} {l : LLine} (h : ls[i]? = some l) : linD (ls.take i) ++ [l.dt] = linD (ls.take (i + 1)) := by
  obtain ⟨hlt, he⟩ := List.getElem?_eq_some_iff.mp h
  rw [List.take_succ_eq_append_getElem hlt, he]
  unfold linD
  rw [List.map_append]; rfl
theorem rows_mem {s r : Str} (h : r ∈ rowsS s) : r.length ≤ s.length := by
  unfold rowsS at h
  split at h
  · cases h
  · rw [split_tl (by decide) nlG] at h
    obtain ⟨p, hp, rfl⟩ := List.mem_map.mp h
    have h1 := (spl_mem hp).1
    rw [show (SX.S p).length = p.length from SX.S_len p]
    rw [show (TL.tl s).length = s.length from Array.length_toList] at h1
    simpa using h1
theorem ok_Text_read (T : Txt K mg) : FnOk P w K mg base (L2.CX P w) 7 T.f_Text_read T.fd_Text_read ["cls", "string"] (spCX K T.C_Text (tTxRead T.C_Text T.C_TooMany)) := ok_cmX T.F_Text_read sc_Text_read (fun ds κ ε ⟨i, h, _⟩ => by rw [h]; rfl) fun cdv A outer s0 H E ds κ ε X hr ht hW hε => by
  obtain ⟨s, rfl, hs, h60, okl, qn, qe⟩ := ht
  refine ⟨_, (pss_cons (ps_if (pt_not (pt_val (pe_callB (c_isi (K := K)) (by rfl) T.z_isinstance (by decide +kernel) (pa_cons (pv 1) (pa_cons (pe_bltn (v := .ty "str") (by rfl) T.z_str (by decide +kernel) rfl) pa_nil))))) (pss_one (ps_raiseT rfl (takes_of rfl rfl rfl rfl) (pmk_x PySem.F.excBase_ValueError T.xi_ParseError T.x_ParseError.kp T.i_ParseError T.ti_ParseError (ok_ParseError_init T) (hr.mono (by decide)) T.b_ParseError_init (by decide) pass0 (xc_raises T.x_ParseError T.ty_ParseError) (by rfl) T.gC_ParseError (pa_cons pe_non pa_nil)))) pss_nil)
      (pss_cons (ps_set (i := 2) sc_Text_read.nd rfl (.inl rfl) (pe_lst pa_nil))
      (pss_cons (ps_for (passes_of rfl) rfl (p_list (K := K) (pe_call (ok_rows_of T) (hr.mono (by decide)) (by rfl) T.g_rows_of T.F_rows_of.kp T.b_rows_of .nil pass0 (pa_cons (pv 1) pa_nil))) (pg_name (i := 3) sc_Text_read.nd rfl (.inl rfl)) (pss_cons (ps_set (i := 4) sc_Text_read.nd rfl (.inl rfl) (pe_call (ok_line_written T) (hr.mono (by decide)) (by rfl) T.g_line_written T.F_line_written.kp T.b_line_written .nil pass0 (pa_cons (pv 3) pa_nil)))
      (pss_cons (ps_if (pt_cmpR op_isN (pv 4) pe_non (nomark _)) (pss_one (ps_raiseT rfl (takes_of rfl rfl rfl rfl) (pmk_x PySem.F.excBase_ValueError T.xi_ParseError T.x_ParseError.kp T.i_ParseError T.ti_ParseError (ok_ParseError_init T) (hr.mono (by decide)) T.b_ParseError_init (by decide) pass0 (xc_raises T.x_ParseError T.ty_ParseError) (by rfl) T.gC_ParseError (pa_cons (pe_callB (c_len (K := K)) (by rfl) T.z_len (by decide +kernel) (pa_cons (pv 2) pa_nil)) pa_nil)))) pss_nil)
      (pss_one (ps_expr (e_bm (K := K) PySem.F.plainAttrs_list PySem.F.slot_list_append PySem.F.type_list_append mt_append (pv 2) (pa_cons (pv 4) pa_nil)))))))
      (pss_one (ps_ret (pe_makeSK (K := K) rfl T.mk_Text (okR_Text_init T) (hr.mono (by decide)) (by rfl) T.gC_Text (passX (takes_of rfl rfl rfl rfl)) (pv 2))))))), ?_⟩
  show Sw K _ [.no, .dat (.str s), .no, .no, .no] _
  refine x_seq (x_if ?_)
  walk_at "zw"
  walk_at "zo"
  refine x_seq (x_forL (K := K) ?_)
  walk_at "zw"
  refine ⟨s, rfl, ?_⟩
  refine ⟨strsD (rowsS s), fun i δ' => ∃ x3 x4 : Sd, δ' = [.no, .dat (.str s), .own (linD ((linesS s).take i)), x3, x4], ?_, ⟨_, _, rfl⟩, ?_, ?_⟩
  · rfl
  · rintro i d _ hd ⟨x3, x4, rfl⟩
    obtain ⟨r, rfl, hr⟩ : ∃ r, d = .str r ∧ (rowsS s)[i]? = some r := by
      unfold strsD at hd
      rw [List.getElem?_map] at hd
      cases e : (rowsS s)[i]? with
      | none => rw [e] at hd; cases hd
      | some u => rw [e] at hd; exact ⟨u, (Option.some.inj hd).symm, rfl⟩
    have hl : (linesS s)[i]? = some (lineOf r) := by
      unfold linesS
      rw [List.getElem?_map, hr]; rfl
    have hil : i < (linesS s).length := (List.getElem?_eq_some_iff.mp hl).1
    have hrl := rows_mem (List.mem_of_getElem? hr)
    walk_at "zw"
    refine ⟨r, rfl, by omega, ?_⟩
    rw [if_pos (okl _ (List.mem_of_getElem? hl))]
    refine' ⟨_, ?hset, ?_⟩
    case hset => walk_at "zst"
    refine x_seq (x_if ?_)
    walk_at "zw"
    refine lf_isL ?_
    walk_at "zw"
    exact ⟨by rw [lin_len, List.length_take]; omega, _, rfl, _, _, by rw [lin_take1 hl]; rfl⟩
  · rintro _ ⟨x3, x4, rfl⟩
    have hrl : (strsD (rowsS s)).length = (linesS s).length := by
      unfold linesS strsD
      rw [List.length_map, List.length_map]
    rw [hrl, List.take_length]
    refine x_freeze (i := 2) rfl rfl ?_
    show Sw K _ [.no, .dat (.str s), .dat (.lst (linD (linesS s))), x3, x4] _
    walk_at "zw"
    exact lf_itz (by rw [lin_len]; omega) (tInit_by okl (by omega) qn fun h => hε _ _ _ (qe h))
theorem okR_Text_read (T : Txt K mg) : FnR P w K mg base (L2.CX P w) 7 T.f_Text_read (spCX K T.C_Text (tTxRead T.C_Text T.C_TooMany)) := fnR (ok_Text_read T) T.b_Text_read
end
end My

namespace My
open PySem PySem.Spec PyProof.Rows L2
/-! ### texts and their lines -/
theorem text_lines {ls : List LLine} (ok : ∀ l ∈ ls, lineB l = true) : linesS (Txt.join "\n" (ls.map wl)) = ls := by
  unfold linesS rowsS
  by_cases h : ls = []
  · subst h; rfl
  · have h0 : ¬ (Txt.join "\n" (ls.map wl)).length = 0 := fun z => by
      have h1 := rows_of_text ok h
      have : Txt.join "\n" (ls.map wl) = "" := TL.ext_tl (by
        have : (Txt.join "\n" (ls.map wl)).cps.toList = [] := List.length_eq_zero_iff.mp (by rw [Array.length_toList]; exact z)
        show (Txt.join "\n" (ls.map wl)).cps.toList = _
        rw [this]; rfl)
      rw [this] at h1
      have h2 : Txt.split "" "\n" = [("" : Str)] := by decide +kernel
      rw [h2] at h1
      cases ls with
      | nil => exact h rfl
      | cons l r =>
        rw [List.map_cons] at h1
        have h3 := (List.cons.inj h1).1
        have h4 : lineOf "" = l := by rw [h3]; exact row_wl (ok l (.head _))
        have h5 : lineB (lineOf "") = true := by rw [h4]; exact ok l (.head _)
        revert h5
        decide +kernel
    rw [if_neg h0, rows_of_text ok h, List.map_map]
    conv => rhs; rw [← List.map_id ls]
    exact List.map_congr_left fun l hl => row_wl (ok l hl)
theorem joinL_snoc (c : Nat) (p : List Nat) : ∀ {ps : List (List Nat)}, ps ≠ [] → TL.joinL [c] (ps ++ [p]) = TL.joinL [c] ps ++ (c :: p)
  | [], h => absurd rfl h
  | [x], _ => rfl
  | x :: y :: r, _ => by
    have e : (x :: y :: r) ++ [p] = x :: ((y :: r) ++ [p]) := rfl
    rw [e, joinL_cons c x (by simp), joinL_cons c x (r := y :: r) (by simp), joinL_snoc c p (by simp), List.append_assoc]
    rfl
theorem join_more {ls : List LLine} {l : LLine} {s : Str} (hne : ls ≠ []) (hs : TL.tl s = 10 :: TL.tl (wl l)) : Txt.join "\n" (ls.map wl) ++ s = Txt.join "\n" ((ls ++ [l]).map wl) := by
  refine TL.ext_tl ?_
  rw [TL.tl_append, TL.join_eq, TL.join_eq, TL.tl_join, TL.tl_join, nl1, hs, List.map_append, List.map_append]
  exact (joinL_snoc 10 _ (by simpa using hne)).symm
theorem wl_le {l : LLine} {c : Nat} (h : lineB l = true) (hc : l.col ≤ c) (hw : (l.ws.map (·.length)).sum + l.ws.length ≤ 4) : (wl l).length ≤ c + 4 := by
  have h2 := colB_range h
  have h3 := len_mul1 (x := (" " : Str)) h2.1
  have h4 : (" " : Str).length = 1 := by decide
  have h5 : (Txt.join " " l.ws).length ≤ (l.ws.map (·.length)).sum + l.ws.length * (" " : Str).length := by rw [TL.join_eq]; exact StrLaws.join_length_le _ _
  rw [h4] at h3 h5
  unfold wl
  rw [Str.length_append]
  omega
theorem text_le {ls : List LLine} (h : ∀ l ∈ ls, (wl l).length ≤ 63) (hl : ls.length ≤ 61) : (Txt.join "\n" (ls.map wl)).length ≤ 3904 := by
  have h1 := sum_le (c := 63) (ws := ls.map wl) fun x hx => by
    obtain ⟨l, hl, rfl⟩ := List.mem_map.mp hx
    exact h l hl
  have h2 : ("\n" : Str).length = 1 := by decide
  have h5 : (Txt.join "\n" (ls.map wl)).length ≤ ((ls.map wl).map (·.length)).sum + (ls.map wl).length * ("\n" : Str).length := by rw [TL.join_eq]; exact StrLaws.join_length_le _ _
  rw [h2] at h5
  rw [List.length_map] at h1 h5
  omega
end My

local macro_rules | `(tactic| walk_at "zx") => `(tactic| first
  | with_reducible refine My.y_strI ?_
  | with_reducible refine My.y_xf ?_
  | with_reducible refine My.lf_xf ?_)
namespace My
open PySem PySem.Spec PyProof.Rows L2
section
variable {P : Program} {w : World} {K : PySem.W.Frag} {mg : Str → Option Value} {base : Heap}
/-! ### _law_met: the word for an error -/
def Met (T : Txt K mg) (cls : Value) (gs : List (Str × Dt)) (s : Str) : Prop := (cls = .ref T.C_InvalidText ∧ gs = [] ∧ s = "text") ∨
  (∃ i, smallI i ∧ cls = .ref T.C_InvalidNumber ∧ gs = [(("number" : Str), Dt.int i)] ∧ s = ("number " : Str) ++ Str.ofString (toString i)) ∨ (∃ i, smallI i ∧ cls = .ref T.C_TooMany ∧ gs = [(("limit" : Str), Dt.int i)] ∧ s = ("many " : Str) ++ Str.ofString (toString i))
theorem met_ok (T : Txt K mg) : ∃ (ls : List Cl) (rest : TS),
    (∀ (Nr : List Str) (qr : Str) (scr : Scope) (fr : Addr) (cr : Value) (A : Around) (outer : List Env) (s0 : Shared) (H0 : Hp) (E0 : XK) (cdv : Value) (q : Str), LamX.GivesTo (cxOf CX0 P w K mg base Nr qr scr fr cr A outer s0 H0 E0).nox ["_law_call", "error"] "_law_met" (defScope s_met) T.f_met cdv (defBody s_met) "_law_call" q (TMet K ["_law_call", "error"] 2 ls rest q)) ∧
    (∀ {Φ : Dt → Prop}, Φ (.str "fine") → @Sw K (xg0 K) rest (List.replicate 2 .no) ⟨fun _ => Φ .non, fun r _ => Φ r, fun _ => False, fun _ => False⟩) ∧
    (∀ {Φ : Dt → Prop} cls gs s, Met T cls gs s → Φ (.str s) → @WCls K (xg0 K) cls gs (List.replicate 2 .no) ⟨fun _ => False, fun r _ => Φ r, fun _ => False, fun _ => False⟩ ls) := by
  refine ⟨_, _, fun Nr qr scr fr cr A outer s0 H0 E0 cdv q f c' s H Q tl act hc h => ⟨_, (pss_cons (ps_tryM (K := K) rfl rfl rfl sc_met.nd takes0 (fun W pn xe tk po => (pss_one (ps_expr (pe_actM rfl tk (fun W E tk hW => act W pn xe E _ _ tk hW))))) (.bare ⟨rfl, by decide, Or.inl T.gC_InvalidText⟩ (fun a oe cls d pn hz hf => (pss_one (ps_ret pe_str)))
      (.named (i := 1) rfl rfl ⟨rfl, by decide, Or.inl T.gC_InvalidNumber⟩ (fun a oe cls d pn hz hf => (pss_one (ps_ret (pe_op o_adds pe_str (pe_callB SkE.call_repr_int (by rfl) T.z_repr (by decide +kernel) (pa_cons (pe_xf (XfC.mk T.x_InvalidNumber.hg T.x_InvalidNumber.hk T.x_InvalidNumber.hs T.x_InvalidNumber.hd) T.nf_InvalidNumber hz hf (pv 1)) pa_nil))))))
      (.named (i := 1) rfl rfl ⟨rfl, by decide, Or.inl T.gC_ParseError⟩ (fun a oe cls d pn hz hf => (pss_one (ps_ret (pe_op o_adds pe_str (pe_callB SkE.call_repr_int (by rfl) T.z_repr (by decide +kernel) (pa_cons (pe_xf (XfC.mk T.x_ParseError.hg T.x_ParseError.hk T.x_ParseError.hs T.x_ParseError.hd) T.nf_ParseError hz hf (pv 1)) pa_nil))))))
      (.named (i := 1) rfl rfl ⟨rfl, by decide, Or.inl T.gC_TooMany⟩ (fun a oe cls d pn hz hf => (pss_one (ps_ret (pe_op o_adds pe_str (pe_callTy call_str_int (by rfl) T.z_str (by decide +kernel) (pa_cons (pe_xf (XfC.mk T.x_TooMany.hg T.x_TooMany.hk T.x_TooMany.hs T.x_TooMany.hd) T.nf_TooMany hz hf (pv 1)) pa_nil))))))
      .nil)))))
      (pss_one (ps_ret pe_str))), h f c' hc⟩, ?_, ?_⟩
  · intro Φ q
    walk_at "zw"
    exact q
  · intro Φ cls gs s hm q
    rcases hm with ⟨rfl, rfl, rfl⟩ | ⟨i, hi, rfl, rfl, rfl⟩ | ⟨i, hi, rfl, rfl, rfl⟩
    · refine wcl_bare (xc_exm T.x_InvalidText T.ty_InvalidText T.su_InvalidText_InvalidText) (fun a dx => ?_)
      show Sw K _ [.no, .no] _
      walk_at "zw"
      exact q
    · have hz := (small_str hi).1
      refine wcl_no (xc_exm T.x_InvalidText T.ty_InvalidText T.su_InvalidNumber_InvalidText) ?_
      refine wcl_name (xc_exm T.x_InvalidNumber T.ty_InvalidNumber T.su_InvalidNumber_InvalidNumber) (fun a dx => ?_)
      show Sw K _ [.no, .dat (.exc a dx [("number", .int i)])] _
      walk_at "zw"
      refine lf_si hi ?_
      walk_at "zw"
      refine lf_catS (Nat.le_trans (Nat.add_le_add (show (Str.ofString "number ").length ≤ 10 by decide) hz) (by decide)) ?_
      exact q
    · have hz := (small_str hi).1
      refine wcl_no (xc_exm T.x_InvalidText T.ty_InvalidText T.su_TooMany_InvalidText) ?_
      refine wcl_no (xc_exm T.x_InvalidNumber T.ty_InvalidNumber T.su_TooMany_InvalidNumber) ?_
      refine wcl_no (xc_exm T.x_ParseError T.ty_ParseError T.su_TooMany_ParseError) ?_
      refine wcl_name (xc_exm T.x_TooMany T.ty_TooMany T.su_TooMany_TooMany) (fun a dx => ?_)
      show Sw K _ [.no, .dat (.exc a dx [("limit", .int i)])] _
      walk_at "zw"
      refine lf_si hi ?_
      walk_at "zw"
      refine lf_catS (Nat.le_trans (Nat.add_le_add (show (Str.ofString "many ").length ≤ 10 by decide) hz) (by decide)) ?_
      exact q
end
end My

local macro_rules | `(tactic| walk_at "zx") => `(tactic| first
  | ((with_reducible refine' My.y_txL ?hc ?hn ?_); (case hc => assumption); (case hn => assumption))
  | ((with_reducible refine' My.y_txW ?hc ?hn ?_); (case hc => assumption); (case hn => assumption))
  | ((with_reducible refine' My.y_txC ?hc ?hn ?_); (case hc => assumption); (case hn => assumption))
  | ((with_reducible refine My.lf_tx ?_))
  | ((with_reducible refine My.x_raise ?hW ?_); (case hW => assumption))
  | with_reducible refine My.wk_x ?_
  | with_reducible refine My.wk_n ?_
  | ((with_reducible refine My.z_makeSK (My.pas_x ?hW) ?_); (case hW => assumption))
  | ((with_reducible refine My.z_cmeth (My.pas_x ?hW) ?_); (case hW => assumption))
  | ((with_reducible refine My.z_meth (My.pas_x ?hW) ?_); (case hW => assumption))
  | ((with_reducible refine My.z_ownB (My.pas_x ?hW) ?_); (case hW => assumption))
  | with_reducible refine My.z_makeSK My.pas_n ?_
  | with_reducible refine My.z_cmeth My.pas_n ?_
  | with_reducible refine My.z_meth My.pas_n ?_
  | with_reducible refine My.z_ownB My.pas_n ?_
  | with_reducible refine My.y_strI ?_
  | with_reducible refine My.z_make0 My.pas_n ?_)
namespace My
theorem x_fzRet {K : PySem.W.Frag} {i : Nat} {ds : List Dt} {te : L2.TE} {δ δ2 : Store} {E : En} (h0 : δ[i]? = some (.own ds)) (h : δ.set i (.dat (.lst ds)) = δ2) (q : Sw K (L2.tRet te) δ2 E) : Sw K (L2.tRet te) δ E := x_freeze h0 h q
end My
local macro_rules | `(tactic| walk_at "zx") => `(tactic| first
  | ((with_reducible refine' My.x_fzRet (i := 3) ?h0 ?h ?_); (case h0 => exact rfl); (case h => exact rfl))
  | ((with_reducible refine' My.x_fzRet (i := 4) ?h0 ?h ?_); (case h0 => exact rfl); (case h => exact rfl)))
namespace My
open PySem PySem.Spec PyProof.Rows L2
section
variable {P : Program} {w : World} {K : PySem.W.Frag} {mg : Str → Option Value} {base : Heap}
theorem w_fine {PT : Addr} {q : Str} {Tl : List (Addr × Str)} {g : Nat} {δ δ0 : Store} {Φ : Dt → Store → Prop} {t : XK → TE} {ls : List Cl} {rest : TS} (hrest : ∀ {Φ : Dt → Prop}, Φ (.str "fine") → @Sw K (xg0 K) rest (List.replicate 2 .no) ⟨fun _ => Φ .non, fun r _ => Φ r, fun _ => False, fun _ => False⟩)
    (hm : (PT, q) ∈ Tl) (hu : ∀ p ∈ Tl, p.1 = PT → p.2 = q) (hg : δ[g]? = some (.gst (Tl.map (·.1)) (TabsA Tl))) (hh : δ.map Sd.hide = δ0)
    (hb : ∀ (X' : Xg K) (E : XK), X'.wx = (fun cls d _ H => E cls d H) → @W K X' (t E) δ0 fun _ _ => True) (qf : Φ (.str "fine") δ) : W K (tLamM q PT (TMet K ["_law_call", "error"] 2 ls rest q) t) δ Φ :=
  w_met (fun _ _ => False) hm hu hg hh (fun _ => rfl) (fun _ => rfl) (fun X' E hW _ => @W.imp K X' _ _ _ _ (hb X' E hW) fun _ _ _ => hrest (Φ := fun r => Φ r δ) qf) (fun _ _ h => h.elim)
theorem w_word {T : Txt K mg} {PT : Addr} {q : Str} {Tl : List (Addr × Str)} {g : Nat} {δ δ0 : Store} {Φ : Dt → Store → Prop} {t : XK → TE} {ls : List Cl} {rest : TS} (hcls : ∀ {Φ : Dt → Prop} cls gs s, Met T cls gs s → Φ (.str s) → @WCls K (xg0 K) cls gs (List.replicate 2 .no) ⟨fun _ => False, fun r _ => Φ r, fun _ => False, fun _ => False⟩ ls)
    (cls : Value) (gs : List (Str × Dt)) (s : Str) (met : Met T cls gs s) (hm : (PT, q) ∈ Tl) (hu : ∀ p ∈ Tl, p.1 = PT → p.2 = q) (hg : δ[g]? = some (.gst (Tl.map (·.1)) (TabsA Tl))) (hh : δ.map Sd.hide = δ0)
    (hb : ∀ (X' : Xg K) (E : XK), X'.wx = (fun cls d _ H => E cls d H) → (∀ δ', X'.ε cls gs δ') → @W K X' (t E) δ0 fun _ _ => False) (qf : Φ (.str s) δ) : W K (tLamM q PT (TMet K ["_law_call", "error"] 2 ls rest q) t) δ Φ :=
  w_met (fun c g => c = cls ∧ g = gs) hm hu hg hh (fun _ => rfl) (fun _ => rfl) (fun X' E hW hε => @W.imp K X' _ _ _ _ (hb X' E hW fun δ' => hε _ _ δ' ⟨rfl, rfl⟩) fun _ _ h => h.elim) (fun _ _ ⟨h1, h2⟩ => by
    subst h1 h2
    exact hcls (Φ := fun r => Φ r δ) _ _ s met qf)
def tRight (κ : Dt → Prop) : Prop := κ (.bl true)
def colsL (n : Nat) (s : Str) : List LLine := (List.range n).map fun (i : Nat) => (⟨(i : Int), [s]⟩ : LLine)
theorem colsL_ok {n : Nat} {s : Str} (hs : wordB s = true) (hn : n ≤ 60) : TxOk (colsL n s) := ⟨fun l hl => by
  obtain ⟨i, hi, rfl⟩ := List.mem_map.mp hl
  have h1 := List.mem_range.mp hi
  show ((decide (0 ≤ (i : Int)) && decide ((i : Int) ≤ 199)) && wsB [s]) = true
  rw [decide_eq_true (by omega), decide_eq_true (by omega)]
  unfold wsB
  rw [List.all_cons, hs]
  rfl, by unfold colsL; rw [List.length_map, List.length_range]; exact hn⟩
theorem colsL_len (n : Nat) (s : Str) : (colsL n s).length = n := by unfold colsL; rw [List.length_map, List.length_range]
theorem colsL_acc {n : Nat} {s : Str} {acc : List Dt} (ha : acc.length = n) (hp : ∀ (i : Nat) y, acc[i]? = some y → y = Dt.tup [.int (i : Int), .tup [.str s]]) : acc = linD (colsL n s) := by
  refine List.ext_getElem? fun i => ?_
  unfold linD colsL
  rw [List.map_map, List.getElem?_map]
  by_cases h : i < n
  · rw [List.getElem?_range h, List.getElem?_eq_getElem (by omega)]
    have := hp i _ (List.getElem?_eq_getElem (by omega))
    rw [this]; rfl
  · rw [List.getElem?_eq_none (by omega), List.getElem?_eq_none (by rw [List.length_range]; omega)]
    rfl
def nsI (n : Nat) : List Int := (List.range n).map fun (i : Nat) => (i : Int)
theorem colsL_col (n : Nat) (s : Str) : (colsL n s).map (·.col) = nsI n := by
  unfold colsL nsI
  rw [List.map_map]
  rfl
theorem hi_all : (List.range 59).all (fun f => decide ((nsI (1 + f)).getD (argBest (fun i j => decide ((nsI (1 + f)).getD i 0 > (nsI (1 + f)).getD j 0)) ((nsI (1 + f)).length - 1)) 0 = (f : Int))) = true := by decide +kernel
theorem lo_all : (List.range 59).all (fun f => decide ((nsI (1 + f)).getD (argBest (fun i j => decide ((nsI (1 + f)).getD i 0 < (nsI (1 + f)).getD j 0)) ((nsI (1 + f)).length - 1)) 0 = (0 : Int))) = true := by decide +kernel
theorem hi_col {f : Nat} (hf : f < 59) (s : Str) : mnDt (fun i j => decide (i > j)) ((colsL (1 + f) s).map (·.col)) = .int (f : Int) := by
  rw [colsL_col]
  have := of_decide_eq_true (List.all_eq_true.mp hi_all f (List.mem_range.mpr hf))
  unfold mnDt
  rw [if_neg (by unfold nsI; rw [List.length_map, List.length_range]; omega), this]
theorem lo_col {f : Nat} (hf : f < 59) (s : Str) : mnDt (fun i j => decide (i < j)) ((colsL (1 + f) s).map (·.col)) = .int 0 := by
  rw [colsL_col]
  have := of_decide_eq_true (List.all_eq_true.mp lo_all f (List.mem_range.mpr hf))
  unfold mnDt
  rw [if_neg (by unfold nsI; rw [List.length_map, List.length_range]; omega), this]
theorem rep_one {α : Type} (x : α) : ∀ n : Nat, (List.replicate n [x]).flatten = List.replicate n x
  | 0 => rfl
  | n + 1 => by rw [List.replicate_succ, List.replicate_succ, List.flatten_cons, rep_one x n]; rfl
theorem rep_ints (n : Nat) (c : Int) : (List.replicate n [Dt.int c]).flatten = intsD (List.replicate n c) := by
  rw [rep_one]
  unfold intsD
  rw [List.map_replicate]
theorem rep_wss (n : Nat) (s : Str) : (List.replicate n [Dt.tup [Dt.str s]]).flatten = wssD (List.replicate n [s]) := by
  rw [rep_one]
  unfold wssD
  rw [List.map_replicate]
  rfl
theorem ok_right (T : Txt K mg) {PR PL : Addr} (TB : LamX.TabB base mg T.k_right PR) (hne : PR ≠ PL) : FnOk P w K mg base CX0 15 T.f_right T.fd_right ["_law_dice_here"] (spT K [(PR, q_right), (PL, q_law)] tRight) := by
  obtain ⟨ls, rest, hG_met, hrest, hcls⟩ := met_ok (P := P) (w := w) (base := base) T
  refine ok_diceT (m := 10) T.F_right sc_right rfl fun A outer s0 H E g κ hr q => ?_
  refine ⟨_, (pss_cons (ps_set (i := 5) sc_right.nd rfl (.inr rfl) (pe_op op_add pe_int (pe_call (ok_roll T) (hr.mono (by decide)) (by rfl) T.g_roll T.F_roll.kp T.b_roll .nil pass0 (pa_cons (pv 0) (pa_cons pe_int pa_nil)))))
      (pss_cons (ps_set (i := 10) sc_right.nd rfl (.inr rfl) (pe_call (ok_text_made T) (hr.mono (by decide)) (by rfl) T.g_text_made T.F_text_made.kp T.b_text_made .nil pass0 (pa_cons (pe_lc (own := [("_law_at", 1)]) rfl sc_right.nd (pi_range1 (by rfl) T.z_range (pa_cons (pv 5) pa_nil)) (blkOk_by (own := [("_law_at", 1)]) (N := ["_law_dice_here", "_law_at", "_law_rest", "_law_told", "_law_due", "_law_first", "_law_full", "_law_high", "_law_low", "_law_more", "_law_one", "#"]) (sc := (defScope s_right)) (by decide +kernel)) (fun _ _ _ _ _ => (pg_name (i := 1) sc_right.nd rfl (.inl rfl))) (fun _ _ _ _ _ => pts_nil) (fun _ _ _ _ _ => (pe_tup (pa_cons (pv 1) (pa_cons (pe_tup (pa_cons pe_str pa_nil)) pa_nil))))) pa_nil)))
      (pss_cons (ps_set (i := 2) sc_right.nd rfl (.inl rfl) (pe_call (ok_text_made T) (hr.mono (by decide)) (by rfl) T.g_text_made T.F_text_made.kp T.b_text_made .nil pass0 (pa_cons (pe_lc (own := [("_law_at", 1)]) rfl sc_right.nd (pi_range1 (by rfl) T.z_range (pa_cons (pe_op op_sub pe_int (pv 5)) pa_nil)) (blkOk_by (own := [("_law_at", 1)]) (N := ["_law_dice_here", "_law_at", "_law_rest", "_law_told", "_law_due", "_law_first", "_law_full", "_law_high", "_law_low", "_law_more", "_law_one", "#"]) (sc := (defScope s_right)) (by decide +kernel)) (fun _ _ _ _ _ => (pg_name (i := 1) sc_right.nd rfl (.inl rfl))) (fun _ _ _ _ _ => pts_nil) (fun _ _ _ _ _ => (pe_tup (pa_cons (pv 1) (pa_cons (pe_tup (pa_cons pe_str pa_nil)) pa_nil))))) pa_nil)))
      (pss_cons (ps_asg (pe_tup (pa_cons (pe_op (op_ownB T.sf_Text T.o_Text_add T.of_Text_add (okR_Text_add T) (hr.mono (by decide)) passX0) (pv 10) (pv 2)) (pa_cons (pe_call (ok_text_made T) (hr.mono (by decide)) (by rfl) T.g_text_made T.F_text_made.kp T.b_text_made .nil pass0 (pa_cons (pe_lst (pa_cons (pe_tup (pa_cons pe_int (pa_cons (pe_tup (pa_cons pe_str (pa_cons pe_str pa_nil))) pa_nil))) pa_nil)) pa_nil)) pa_nil))) (pg_tup (by rfl) (pgs_cons (pg_name (i := 6) sc_right.nd rfl (.inr rfl)) (pgs_cons (pg_name (i := 9) sc_right.nd rfl (.inr rfl)) pgs_nil))))
      (pss_cons (ps_set (i := 3) sc_right.nd rfl (.inl rfl) (pe_lst (pa_cons (pe_lamF (q := q_right) (k := 12) (by rfl) T.g_met T.F_met T.b_met sc_met rfl (.inl rfl) (fun cdv => hG_met _ _ _ _ _ _ _ _ _ _ cdv _) TB rfl (hr.mono (by decide)) (show LamX.LamS (defScope s_right) _ from LamX.lamS_by (by decide +kernel)) rfl (fun _ _ _ _ _ => rfl) (fun A outer s H E f c' hr => (pe_op (op_ownB T.sf_Text T.o_Text_add T.of_Text_add (okR_Text_add T) (hr.mono (by decide)) (passX (takes_of rfl rfl rfl rfl))) (pv 6) (pv 9)))) pa_nil)))
      (pss_cons (ps_expr (e_bm (K := K) PySem.F.plainAttrs_list PySem.F.slot_list_append PySem.F.type_list_append mt_append (pv 3) (pa_cons (pe_lamF (q := q_right) (k := 12) (by rfl) T.g_met T.F_met T.b_met sc_met rfl (.inl rfl) (fun cdv => hG_met _ _ _ _ _ _ _ _ _ _ cdv _) TB rfl (hr.mono (by decide)) (show LamX.LamS (defScope s_right) _ from LamX.lamS_by (by decide +kernel)) rfl (fun _ _ _ _ _ => rfl) (fun A outer s H E f c' hr => (pe_meth (pv 6) T.cl_Text T.m_Text_with_part (ok_Text_with_part T) (hr.mono (by decide)) T.b_Text_with_part .nil (passX (takes_of rfl rfl rfl rfl)) (pa_cons (pv 5) (pa_cons (pv 5) (pa_cons (pv 9) pa_nil)))))) pa_nil)))
      (pss_cons (ps_expr (e_bm (K := K) PySem.F.plainAttrs_list PySem.F.slot_list_append PySem.F.type_list_append mt_append (pv 3) (pa_cons (pe_lamF (q := q_right) (k := 12) (by rfl) T.g_met T.F_met T.b_met sc_met rfl (.inl rfl) (fun cdv => hG_met _ _ _ _ _ _ _ _ _ _ cdv _) TB rfl (hr.mono (by decide)) (show LamX.LamS (defScope s_right) _ from LamX.lamS_by (by decide +kernel)) rfl (fun _ _ _ _ _ => rfl) (fun A outer s H E f c' hr => (ClX.pe_cmeth (pe_glob (v := .ref T.C_Text) rfl T.gC_Text rfl) T.rd_Text T.cm_Text_read (okR_Text_read T) (hr.mono (by decide)) (passX (takes_of rfl rfl rfl rfl)) (pa_cons (pe_op o_adds (pe_callTy (call_strOwn T.o_Text_str T.of_Text_str (okR_Text_str T) (hr.in1.in1.mono (by decide)) pass0) (by rfl) T.z_str (by decide +kernel) (pa_cons (pv 6) pa_nil)) pe_str) pa_nil)))) pa_nil)))
      (pss_cons (ps_if (PW.pt (pw_or (pt_cmpR (o_neD (K := K) hr.units) (pv 3) (pe_op op_rep (pe_lst (pa_cons pe_str pa_nil)) pe_int) (nomark _)) (pw_or1 (pt_cmpR op_ne (pe_callB (call_lenOwn T.o_Text_len T.of_Text_len (okR_Text_len T) (hr.in1.mono (by decide)) pass0) (by rfl) T.z_len (by decide +kernel) (pa_cons (pv 6) pa_nil)) pe_int (nomark _))))) (pss_one (ps_ret pe_bl)) pss_nil)
      (pss_cons (ps_set (i := 3) sc_right.nd rfl (.inl rfl) (pe_lst (pa_cons (pe_lamF (q := q_right) (k := 12) (by rfl) T.g_met T.F_met T.b_met sc_met rfl (.inl rfl) (fun cdv => hG_met _ _ _ _ _ _ _ _ _ _ cdv _) TB rfl (hr.mono (by decide)) (show LamX.LamS (defScope s_right) _ from LamX.lamS_by (by decide +kernel)) rfl (fun _ _ _ _ _ => rfl) (fun A outer s H E f c' hr => (pe_meth (pv 6) T.cl_Text T.m_Text_with_part (ok_Text_with_part T) (hr.mono (by decide)) T.b_Text_with_part .nil (passX (takes_of rfl rfl rfl rfl)) (pa_cons (pe_op op_sub (pv 5) pe_int) (pa_cons (pv 5) (pa_cons (pv 9) pa_nil)))))) pa_nil)))
      (pss_cons (ps_expr (e_bm (K := K) PySem.F.plainAttrs_list PySem.F.slot_list_append PySem.F.type_list_append mt_append (pv 3) (pa_cons (pe_lamF (q := q_right) (k := 12) (by rfl) T.g_met T.F_met T.b_met sc_met rfl (.inl rfl) (fun cdv => hG_met _ _ _ _ _ _ _ _ _ _ cdv _) TB rfl (hr.mono (by decide)) (show LamX.LamS (defScope s_right) _ from LamX.lamS_by (by decide +kernel)) rfl (fun _ _ _ _ _ => rfl) (fun A outer s H E f c' hr => (ClX.pe_cmeth (pe_glob (v := .ref T.C_Text) rfl T.gC_Text rfl) T.rd_Text T.cm_Text_read (okR_Text_read T) (hr.mono (by decide)) (passX (takes_of rfl rfl rfl rfl)) (pa_cons (pe_callTy (call_strOwn T.o_Text_str T.of_Text_str (okR_Text_str T) (hr.in1.in1.mono (by decide)) pass0) (by rfl) T.z_str (by decide +kernel) (pa_cons (pv 6) pa_nil)) pa_nil)))) pa_nil)))
      (pss_cons (ps_expr (e_bm (K := K) PySem.F.plainAttrs_list PySem.F.slot_list_append PySem.F.type_list_append mt_append (pv 3) (pa_cons (pe_lamF (q := q_right) (k := 12) (by rfl) T.g_met T.F_met T.b_met sc_met rfl (.inl rfl) (fun cdv => hG_met _ _ _ _ _ _ _ _ _ _ cdv _) TB rfl (hr.mono (by decide)) (show LamX.LamS (defScope s_right) _ from LamX.lamS_by (by decide +kernel)) rfl (fun _ _ _ _ _ => rfl) (fun A outer s H E f c' hr => (pe_op (op_ownB T.sf_Text T.o_Text_add T.of_Text_add (okR_Text_add T) (hr.mono (by decide)) (passX (takes_of rfl rfl rfl rfl))) (pe_meth (pv 6) T.cl_Text T.m_Text_part (ok_Text_part T) (hr.mono (by decide)) T.b_Text_part .nil pass0 (pa_cons pe_int (pa_cons pe_int pa_nil))) (pe_meth (pv 6) T.cl_Text T.m_Text_part (ok_Text_part T) (hr.mono (by decide)) T.b_Text_part .nil pass0 (pa_cons pe_int (pa_cons pe_int pa_nil)))))) pa_nil)))
      (pss_cons (ps_if (pt_cmpR (o_neD (K := K) hr.units) (pv 3) (pe_op op_rep (pe_lst (pa_cons pe_str pa_nil)) pe_int) (nomark _)) (pss_one (ps_ret pe_bl)) pss_nil)
      (pss_cons (ps_asg (pe_tup (pa_cons (pe_prop (pv 10) T.cl_Text T.p_Text_greatest (ok_Text_greatest T) (hr.mono (by decide)) T.b_Text_greatest .nil pass0 rfl) (pa_cons (pe_prop (pv 10) T.cl_Text T.p_Text_least (ok_Text_least T) (hr.mono (by decide)) T.b_Text_least .nil pass0 rfl) pa_nil))) (pg_tup (by rfl) (pgs_cons (pg_name (i := 7) sc_right.nd rfl (.inr rfl)) (pgs_cons (pg_name (i := 8) sc_right.nd rfl (.inr rfl)) pgs_nil))))
      (pss_cons (ps_set (i := 3) sc_right.nd rfl (.inl rfl) (pe_lst (pa_cons (pe_lamF (q := q_right) (k := 12) (by rfl) T.g_met T.F_met T.b_met sc_met rfl (.inl rfl) (fun cdv => hG_met _ _ _ _ _ _ _ _ _ _ cdv _) TB rfl (hr.mono (by decide)) (show LamX.LamS (defScope s_right) _ from LamX.lamS_by (by decide +kernel)) rfl (fun _ _ _ _ _ => rfl) (fun A outer s H E f c' hr => (pe_meth (pv 10) T.cl_Text T.m_Text_moved (ok_Text_moved T) (hr.mono (by decide)) T.b_Text_moved .nil (passX (takes_of rfl rfl rfl rfl)) (pa_cons (pe_op op_sub pe_int (pv 7)) pa_nil)))) pa_nil)))
      (pss_cons (ps_expr (e_bm (K := K) PySem.F.plainAttrs_list PySem.F.slot_list_append PySem.F.type_list_append mt_append (pv 3) (pa_cons (pe_lamF (q := q_right) (k := 12) (by rfl) T.g_met T.F_met T.b_met sc_met rfl (.inl rfl) (fun cdv => hG_met _ _ _ _ _ _ _ _ _ _ cdv _) TB rfl (hr.mono (by decide)) (show LamX.LamS (defScope s_right) _ from LamX.lamS_by (by decide +kernel)) rfl (fun _ _ _ _ _ => rfl) (fun A outer s H E f c' hr => (pe_meth (pv 10) T.cl_Text T.m_Text_moved (ok_Text_moved T) (hr.mono (by decide)) T.b_Text_moved .nil (passX (takes_of rfl rfl rfl rfl)) (pa_cons (pe_op op_sub pe_int (pv 7)) pa_nil)))) pa_nil)))
      (pss_cons (ps_expr (e_bm (K := K) PySem.F.plainAttrs_list PySem.F.slot_list_append PySem.F.type_list_append mt_append (pv 3) (pa_cons (pe_lamF (q := q_right) (k := 12) (by rfl) T.g_met T.F_met T.b_met sc_met rfl (.inl rfl) (fun cdv => hG_met _ _ _ _ _ _ _ _ _ _ cdv _) TB rfl (hr.mono (by decide)) (show LamX.LamS (defScope s_right) _ from LamX.lamS_by (by decide +kernel)) rfl (fun _ _ _ _ _ => rfl) (fun A outer s H E f c' hr => (pe_meth (pv 10) T.cl_Text T.m_Text_moved (ok_Text_moved T) (hr.mono (by decide)) T.b_Text_moved .nil (passX (takes_of rfl rfl rfl rfl)) (pa_cons (pe_un un_neg (pv 8)) pa_nil)))) pa_nil)))
      (pss_cons (ps_expr (e_bm (K := K) PySem.F.plainAttrs_list PySem.F.slot_list_append PySem.F.type_list_append mt_append (pv 3) (pa_cons (pe_lamF (q := q_right) (k := 12) (by rfl) T.g_met T.F_met T.b_met sc_met rfl (.inl rfl) (fun cdv => hG_met _ _ _ _ _ _ _ _ _ _ cdv _) TB rfl (hr.mono (by decide)) (show LamX.LamS (defScope s_right) _ from LamX.lamS_by (by decide +kernel)) rfl (fun _ _ _ _ _ => rfl) (fun A outer s H E f c' hr => (pe_meth (pv 10) T.cl_Text T.m_Text_moved (ok_Text_moved T) (hr.mono (by decide)) T.b_Text_moved .nil (passX (takes_of rfl rfl rfl rfl)) (pa_cons (pe_op op_sub (pe_un un_neg (pv 8)) pe_int) pa_nil)))) pa_nil)))
      (pss_cons (ps_expr (e_bm (K := K) PySem.F.plainAttrs_list PySem.F.slot_list_append PySem.F.type_list_append mt_append (pv 3) (pa_cons (pe_lamF (q := q_right) (k := 12) (by rfl) T.g_met T.F_met T.b_met sc_met rfl (.inl rfl) (fun cdv => hG_met _ _ _ _ _ _ _ _ _ _ cdv _) TB rfl (hr.mono (by decide)) (show LamX.LamS (defScope s_right) _ from LamX.lamS_by (by decide +kernel)) rfl (fun _ _ _ _ _ => rfl) (fun A outer s H E f c' hr => (pe_meth (pv 10) T.cl_Text T.m_Text_at (ok_Text_at T) (hr.mono (by decide)) T.b_Text_at .nil (passX (takes_of rfl rfl rfl rfl)) (pa_cons (pe_op (o_repA (K := K)) (pe_tup (pa_cons pe_int pa_nil)) (pv 5)) pa_nil)))) pa_nil)))
      (pss_cons (ps_expr (e_bm (K := K) PySem.F.plainAttrs_list PySem.F.slot_list_append PySem.F.type_list_append mt_append (pv 3) (pa_cons (pe_lamF (q := q_right) (k := 12) (by rfl) T.g_met T.F_met T.b_met sc_met rfl (.inl rfl) (fun cdv => hG_met _ _ _ _ _ _ _ _ _ _ cdv _) TB rfl (hr.mono (by decide)) (show LamX.LamS (defScope s_right) _ from LamX.lamS_by (by decide +kernel)) rfl (fun _ _ _ _ _ => rfl) (fun A outer s H E f c' hr => (pe_meth (pv 10) T.cl_Text T.m_Text_at (ok_Text_at T) (hr.mono (by decide)) T.b_Text_at .nil (passX (takes_of rfl rfl rfl rfl)) (pa_cons (pe_op (o_repA (K := K)) (pe_tup (pa_cons pe_int pa_nil)) (pv 5)) pa_nil)))) pa_nil)))
      (pss_cons (ps_expr (e_bm (K := K) PySem.F.plainAttrs_list PySem.F.slot_list_append PySem.F.type_list_append mt_append (pv 3) (pa_cons (pe_lamF (q := q_right) (k := 12) (by rfl) T.g_met T.F_met T.b_met sc_met rfl (.inl rfl) (fun cdv => hG_met _ _ _ _ _ _ _ _ _ _ cdv _) TB rfl (hr.mono (by decide)) (show LamX.LamS (defScope s_right) _ from LamX.lamS_by (by decide +kernel)) rfl (fun _ _ _ _ _ => rfl) (fun A outer s H E f c' hr => (ClX.pe_cmeth (pe_glob (v := .ref T.C_Text) rfl T.gC_Text rfl) T.rd_Text T.cm_Text_made (okR_Text_made T) (hr.mono (by decide)) (passX (takes_of rfl rfl rfl rfl)) (pa_cons (pe_op (o_repA (K := K)) (pe_tup (pa_cons pe_int pa_nil)) pe_int) (pa_cons (pe_op (o_repA (K := K)) (pe_tup (pa_cons (pe_tup (pa_cons pe_str pa_nil)) pa_nil)) pe_int) pa_nil))))) pa_nil)))
      (pss_cons (ps_set (i := 4) sc_right.nd rfl (.inl rfl) (pe_lst (pa_cons pe_str (pa_cons (pe_op o_adds pe_str (pe_callTy call_str_int (by rfl) T.z_str (by decide +kernel) (pa_cons (pe_op op_sub pe_int (pv 7)) pa_nil))) (pa_cons pe_str (pa_cons (pe_op o_adds pe_str (pe_callTy call_str_int (by rfl) T.z_str (by decide +kernel) (pa_cons (pe_op op_sub (pe_un un_neg (pv 8)) pe_int) pa_nil))) (pa_cons pe_str (pa_cons pe_str (pa_cons pe_str pa_nil)))))))))
      (pss_one (ps_ret (pe_cmpR (o_eqD (K := K) hr.units) (pv 3) (pv 4) (nomark _))))))))))))))))))))))))), ?_⟩
  generalize hTl : [(PR, q_right), (PL, q_law)] = Tl
  have hm : (PR, q_right) ∈ Tl := by rw [← hTl]; exact .head _
  have hu : ∀ p ∈ Tl, p.1 = PR → p.2 = q_right := fun p hp e => by
    rw [← hTl] at hp
    simp only [List.mem_cons, List.not_mem_nil, or_false] at hp
    rcases hp with rfl | rfl
    · rfl
    · exact absurd e.symm hne
  show Sw K _ [.dice g, .no, .no, .no, .no, .no, .no, .no, .no, .no, .no, .gst (Tl.map (·.1)) (TabsA Tl)] _
  walk_at "zw"
  intro f hf
  walk_at "zw"
  refine w_of_n (wn_eachR1 ?_)
  walk_at "zw"
  refine ⟨_, fun i y => y = Dt.tup [.int (i : Int), .tup [.str "a"]], rfl, ⟨by omega, by omega⟩, rfl, ?_, ?_⟩
  · intro i hi
    walk_at "zw"
    all_goals first | exact ⟨rfl, rfl, rfl⟩ | exact ⟨rfl, rfl⟩ | exact rfl | (show 2 ≤ 100000; decide)
  intro acc ha hp
  rw [colsL_acc (n := 1 + f) (by omega) hp]
  walk_at "zw"
  refine ⟨colsL (1 + f) "a", rfl, colsL_ok (by decide +kernel) (by omega), ?_⟩
  walk_at "zw"
  refine w_of_n (wn_eachR1 ?_)
  walk_at "zw"
  refine ⟨_, fun i y => y = Dt.tup [.int (i : Int), .tup [.str "b"]], rfl, ⟨by omega, by omega⟩, rfl, ?_, ?_⟩
  · intro i hi
    walk_at "zw"
    all_goals first | exact ⟨rfl, rfl, rfl⟩ | exact ⟨rfl, rfl⟩ | exact rfl | (show 2 ≤ 100000; decide)
  intro acc2 ha2 hp2
  rw [colsL_acc (n := 59 - f) (by omega) hp2]
  walk_at "zw"
  refine ⟨colsL (59 - f) "b", rfl, colsL_ok (by decide +kernel) (by omega), ?_⟩
  walk_at "zw"
  have okA : TxOk (colsL (1 + f) "a") := colsL_ok (by decide +kernel) (by omega)
  have okB : TxOk (colsL (59 - f) "b") := colsL_ok (by decide +kernel) (by omega)
  have lA := colsL_len (1 + f) "a"
  have lB := colsL_len (59 - f) "b"
  have lF : (colsL (1 + f) "a" ++ colsL (59 - f) "b").length = 60 := by rw [List.length_append, lA, lB]; omega
  refine ⟨colsL (1 + f) "a", colsL (59 - f) "b", rfl, okA, okB, fun _ => ?_, fun h => by omega⟩
  have okF : TxOk (colsL (1 + f) "a" ++ colsL (59 - f) "b") := ⟨fun l hl => (List.mem_append.mp hl).elim (okA.ok l) (okB.ok l), by omega⟩
  walk_at "zw"
  have hneF : colsL (1 + f) "a" ++ colsL (59 - f) "b" ≠ [] := fun z => by rw [z] at lF; cases lF
  have l2 : ∀ l ∈ colsL (1 + f) "a" ++ colsL (59 - f) "b", (wl l).length ≤ 63 := fun l hl => by
    have hb := okF.ok l hl
    have : l.col ≤ 59 ∧ (l.ws.map (·.length)).sum + l.ws.length ≤ 4 := by
      rcases List.mem_append.mp hl with m | m
      · obtain ⟨j, hj, rfl⟩ := List.mem_map.mp m
        have := List.mem_range.mp hj
        exact ⟨by show (j : Int) ≤ 59; omega, show ([("a" : Str)].map (·.length)).sum + [("a" : Str)].length ≤ 4 by decide +kernel⟩
      · obtain ⟨j, hj, rfl⟩ := List.mem_map.mp m
        have := List.mem_range.mp hj
        exact ⟨by show (j : Int) ≤ 59; omega, show ([("b" : Str)].map (·.length)).sum + [("b" : Str)].length ≤ 4 by decide +kernel⟩
    exact wl_le (c := 59) hb (by omega) this.2
  have okM : TxOk [(⟨0, ["c", "d"]⟩ : LLine)] := ⟨fun l hl => by
    rw [List.mem_singleton.mp hl]
    decide +kernel, by decide⟩
  refine ⟨[(⟨0, ["c", "d"]⟩ : LLine)], rfl, okM, ?_⟩
  walk_at "zw"
  have m60 : Met T (.ref T.C_TooMany) [(("limit" : Str), Dt.int 60)] "many 60" := .inr (.inr ⟨60, ⟨by decide, by decide⟩, rfl, rfl, by decide +kernel⟩)
  walk_at "zo"
  refine w_word (T := T) hcls (.ref T.C_TooMany) [(("limit" : Str), Dt.int 60)] "many 60" m60 hm hu (g := 11) rfl rfl (fun X' E1 hW hε => ?_) ?_
  · walk_at "zw"
    exact ⟨_, _, rfl, okF, okM, fun h => by rw [List.length_append, lF] at h; exact absurd h (by decide), fun _ => hε _⟩
  walk_at "zw"
  refine w_word (T := T) hcls (.ref T.C_TooMany) [(("limit" : Str), Dt.int 60)] "many 60" m60 hm hu (g := 11) rfl rfl (fun X' E1 hW hε => ?_) ?_
  · walk_at "zw"
    have lW : ((colsL (1 + f) "a" ++ colsL (59 - f) "b").take (1 + f) ++ [(⟨0, ["c", "d"]⟩ : LLine)] ++ (colsL (1 + f) "a" ++ colsL (59 - f) "b").drop (1 + f)).length = 61 := by
      rw [List.length_append, List.length_append, List.length_take, List.length_drop, lF]
      show min (1 + f) 60 + 1 + (60 - (1 + f)) = 61
      omega
    exact ⟨_, [(⟨0, ["c", "d"]⟩ : LLine)], 1 + f, 1 + f, by rw [show (((1 + f : Nat)) : Int) = 1 + (f : Int) by omega], okF, okM, Nat.le_refl _, by omega, fun h => by rw [lW] at h; exact absurd h (by decide), fun _ => hε _⟩
  walk_at "zw"
  refine w_word (T := T) hcls (.ref T.C_TooMany) [(("limit" : Str), Dt.int 60)] "many 60" m60 hm hu (g := 11) rfl rfl (fun X' E1 hW hε => ?_) ?_
  · walk_at "zw"
    have okG : ∀ l ∈ (colsL (1 + f) "a" ++ colsL (59 - f) "b") ++ [(⟨2, ["c", "d"]⟩ : LLine)], lineB l = true := fun l hl => (List.mem_append.mp hl).elim (okF.ok l) fun z => by
      rw [List.mem_singleton.mp z]
      decide +kernel
    have lG : ((colsL (1 + f) "a" ++ colsL (59 - f) "b") ++ [(⟨2, ["c", "d"]⟩ : LLine)]).length = 61 := by rw [List.length_append, lF]; rfl
    refine ⟨_, rfl, okF, ?_⟩
    walk_at "zw"
    have b1 := text_le l2 (by omega)
    refine lf_catS (Nat.le_trans (Nat.add_le_add b1 (show (Str.ofString "\n  c d").length ≤ 10 by decide)) (by decide)) ?_
    rw [join_more (l := ⟨2, ["c", "d"]⟩) hneF (by decide +kernel)]
    walk_at "zw"
    have b2 := text_le (ls := (colsL (1 + f) "a" ++ colsL (59 - f) "b") ++ [(⟨2, ["c", "d"]⟩ : LLine)]) (fun l hl => (List.mem_append.mp hl).elim (l2 l) fun z => by
      rw [List.mem_singleton.mp z]
      decide +kernel) (by omega)
    refine ⟨_, rfl, by omega, by rw [text_lines okG]; omega, by rw [text_lines okG]; exact okG, fun h => ?_, fun _ => hε _⟩
    rw [text_lines okG, lG] at h
    exact absurd h (by decide)
  walk_at "zw"
  refine x_freeze (i := 3) rfl rfl ?_
  show Sw K _ [_, _, _, _, _, _, _, _, _, _, _, _] _
  refine x_seq (x_if ?_)
  walk_at "zw"
  refine lf_rep ⟨by decide, by decide, by decide⟩ ?_
  refine lf_ddSame rfl rfl ?_
  walk_at "zw"
  refine ⟨_, rfl, ?_⟩
  rw [lF]
  show LNat _ _
  refine ⟨60, rfl, by decide, by decide, ?_⟩
  walk_at "zw"
  rw [if_neg (by decide)]
  walk_at "zw"
  walk_at "zo"
  refine w_fine hrest hm hu (g := 11) rfl rfl (fun X' E1 hW => ?_) ?_
  · walk_at "zw"
    have lW : ((colsL (1 + f) "a" ++ colsL (59 - f) "b").take f ++ [(⟨0, ["c", "d"]⟩ : LLine)] ++ (colsL (1 + f) "a" ++ colsL (59 - f) "b").drop (1 + f)).length = 60 := by
      rw [List.length_append, List.length_append, List.length_take, List.length_drop, lF]
      show min f 60 + 1 + (60 - (1 + f)) = 60
      omega
    exact ⟨_, [(⟨0, ["c", "d"]⟩ : LLine)], f, 1 + f, by rw [show (((1 + f : Nat)) : Int) = 1 + (f : Int) by omega, show 1 + (f : Int) - 1 = (f : Int) by omega], okF, okM, by omega, by omega, fun _ => trivial, fun h => by rw [lW] at h; exact absurd h (by decide)⟩
  walk_at "zw"
  refine w_fine hrest hm hu (g := 11) rfl rfl (fun X' E1 hW => ?_) ?_
  · walk_at "zw"
    refine ⟨_, rfl, okF, ?_⟩
    walk_at "zw"
    have b1 := text_le l2 (by omega)
    refine ⟨_, rfl, by omega, by rw [text_lines okF.ok]; omega, by rw [text_lines okF.ok]; exact okF.ok, fun h => trivial, fun h => ?_⟩
    rw [text_lines okF.ok, lF] at h
    exact absurd h (by decide)
  walk_at "zw"
  refine w_fine hrest hm hu (g := 11) rfl rfl (fun X' E1 hW => ?_) ?_
  · walk_at "zw"
    refine ⟨_, 0, 60, rfl, okF, by decide, by omega, ?_⟩
    walk_at "zw"
    refine ⟨_, 60, 60, rfl, okF, by decide, by omega, ?_⟩
    walk_at "zw"
    have k1 : TxOk (((colsL (1 + f) "a" ++ colsL (59 - f) "b").drop 0).take (60 - 0)) := okF.sub ((List.take_sublist _ _).trans (List.drop_sublist _ _))
    have k2 : TxOk (((colsL (1 + f) "a" ++ colsL (59 - f) "b").drop 60).take (60 - 60)) := okF.sub ((List.take_sublist _ _).trans (List.drop_sublist _ _))
    refine ⟨_, _, rfl, k1, k2, fun _ => trivial, fun h => ?_⟩
    rw [List.length_append, List.length_take, List.length_take, List.length_drop, List.length_drop, lF] at h
    exact absurd h (by decide)
  walk_at "zw"
  refine x_freeze (i := 3) rfl rfl ?_
  show Sw K _ [_, _, _, _, _, _, _, _, _, _, _, _] _
  refine x_seq (x_if ?_)
  walk_at "zw"
  refine lf_rep ⟨by decide, by decide, by decide⟩ ?_
  refine lf_ddSame rfl rfl ?_
  walk_at "zw"
  refine ⟨_, rfl, ?_⟩
  rw [hi_col (by omega)]
  dsimp only
  walk_at "zw"
  refine ⟨_, rfl, ?_⟩
  rw [lo_col (by omega)]
  dsimp only
  walk_at "zw"
  have cA : ∀ l ∈ colsL (1 + f) "a", ∃ j : Nat, j < 1 + f ∧ l = ⟨(j : Int), ["a"]⟩ := fun l hl => by
    obtain ⟨j, hj, rfl⟩ := List.mem_map.mp hl
    exact ⟨j, List.mem_range.mp hj, rfl⟩
  have inA : ∀ j : Nat, j < 1 + f → (⟨(j : Int), ["a"]⟩ : LLine) ∈ colsL (1 + f) "a" := fun j hj => List.mem_map.mpr ⟨j, List.mem_range.mpr hj, rfl⟩
  have big : ∀ i : Int, -1000 ≤ i → i ≤ 1000 → absI i < 10 ^ 60 := fun i h1 h2 => by
    unfold absI
    have : (1001 : Int) ≤ 10 ^ 60 := by decide +kernel
    split <;> omega
  have colB_iff : ∀ i : Int, colB i = true ↔ 0 ≤ i ∧ i ≤ 199 := fun i => by
    unfold colB
    rw [Bool.and_eq_true, decide_eq_true_iff, decide_eq_true_iff]
  walk_at "zo"
  refine w_fine hrest hm hu (g := 11) rfl rfl (fun X' E1 hW => ?_) ?_
  · walk_at "zw"
    refine ⟨_, _, rfl, okA, big _ (by omega) (by omega), .inl ⟨fun l hl => ?_, trivial⟩⟩
    obtain ⟨j, hj, rfl⟩ := cA l hl
    exact (colB_iff _).mpr ⟨by show 0 ≤ (j : Int) + _; omega, by show (j : Int) + _ ≤ 199; omega⟩
  walk_at "zw"
  refine w_word (T := T) hcls (.ref T.C_InvalidNumber) [(("number" : Str), Dt.int (200 - (f : Int)))] (("number " : Str) ++ Str.ofString (toString (200 - (f : Int)))) (.inr (.inl ⟨_, ⟨by omega, by omega⟩, rfl, rfl, rfl⟩)) hm hu (g := 11) rfl rfl (fun X' E1 hW hε => ?_) ?_
  · walk_at "zw"
    refine ⟨_, _, rfl, okA, big _ (by omega) (by omega), .inr ⟨?_, hε _⟩⟩
    rw [List.all_map]
    refine Bool.eq_false_iff.mpr fun h => ?_
    have := List.all_eq_true.mp h _ (inA f (by omega))
    have := (colB_iff _).mp this
    have h2 : (f : Int) + (200 - (f : Int)) ≤ 199 := this.2
    omega
  walk_at "zw"
  refine w_fine hrest hm hu (g := 11) rfl rfl (fun X' E1 hW => ?_) ?_
  · walk_at "zw"
    refine ⟨_, _, rfl, okA, big _ (by omega) (by omega), .inl ⟨fun l hl => ?_, trivial⟩⟩
    obtain ⟨j, hj, rfl⟩ := cA l hl
    exact (colB_iff _).mpr ⟨by show 0 ≤ (j : Int) + _; omega, by show (j : Int) + _ ≤ 199; omega⟩
  walk_at "zw"
  refine w_word (T := T) hcls (.ref T.C_InvalidNumber) [(("number" : Str), Dt.int (-0 - 1))] (("number " : Str) ++ Str.ofString (toString (-0 - 1 : Int))) (.inr (.inl ⟨_, ⟨by omega, by omega⟩, rfl, rfl, rfl⟩)) hm hu (g := 11) rfl rfl (fun X' E1 hW hε => ?_) ?_
  · walk_at "zw"
    refine ⟨_, _, rfl, okA, big _ (by omega) (by omega), .inr ⟨?_, hε _⟩⟩
    rw [List.all_map]
    refine Bool.eq_false_iff.mpr fun h => ?_
    have := List.all_eq_true.mp h _ (inA 0 (by omega))
    have := (colB_iff _).mp this
    have h2 : (0 : Int) ≤ ((0 : Nat) : Int) + (-0 - 1) := this.1
    omega
  walk_at "zw"
  refine w_fine hrest hm hu (g := 11) rfl rfl (fun X' E1 hW => ?_) ?_
  · walk_at "zw"
    refine lf_repA (by simp) ⟨by omega, by omega, by decide⟩ ?_
    rw [show (1 + (f : Int)).toNat = 1 + f by omega, rep_ints]
    walk_at "zw"
    exact ⟨_, _, rfl, okA, by rw [List.length_replicate]; omega, .inl ⟨by rw [List.length_replicate, lA], fun c hc => by rw [(List.mem_replicate.mp hc).2]; decide, trivial⟩⟩
  walk_at "zw"
  refine w_word (T := T) hcls (.ref T.C_InvalidText) [] "text" (.inl ⟨rfl, rfl, rfl⟩) hm hu (g := 11) rfl rfl (fun X' E1 hW hε => ?_) ?_
  · walk_at "zw"
    refine lf_repA (by simp) ⟨by omega, by omega, by decide⟩ ?_
    rw [show (1 + (f : Int)).toNat = 1 + f by omega, rep_ints]
    walk_at "zw"
    refine ⟨_, _, rfl, okA, by rw [List.length_replicate]; omega, .inr ⟨?_, hε _⟩⟩
    refine Bool.eq_false_iff.mpr fun h => ?_
    rw [Bool.and_eq_true] at h
    have := (colB_iff _).mp (List.all_eq_true.mp h.2 200 (List.mem_replicate.mpr ⟨by omega, rfl⟩))
    omega
  walk_at "zw"
  refine w_word (T := T) hcls (.ref T.C_InvalidText) [] "text" (.inl ⟨rfl, rfl, rfl⟩) hm hu (g := 11) rfl rfl (fun X' E1 hW hε => ?_) ?_
  · walk_at "zw"
    refine lf_repA (by simp) ⟨by decide, by decide, by decide⟩ ?_
    walk_at "zw"
    refine lf_repA (by simp) ⟨by decide, by decide, by decide⟩ ?_
    rw [rep_ints, rep_wss]
    walk_at "zw"
    refine ⟨_, _, rfl, by decide, by decide, fun ws hw => by rw [(List.mem_replicate.mp hw).2]; decide, .inr ⟨?_, hε _⟩⟩
    refine Bool.eq_false_iff.mpr fun h => ?_
    rw [Bool.and_eq_true, Bool.and_eq_true] at h
    have := of_decide_eq_true h.1.1
    rw [List.length_replicate] at this
    exact absurd this (by decide)
  walk_at "zw"
  have z1 := (small_str (i := 200 - (f : Int)) ⟨by omega, by omega⟩).1
  have z2 := (small_str (i := -0 - 1) ⟨by omega, by omega⟩).1
  have zn : (Str.ofString "number ").length ≤ 10 := by decide
  walk_at "zo"
  refine lf_si ⟨by omega, by omega⟩ ?_
  refine lf_catS (Nat.le_trans (Nat.add_le_add zn z1) (by decide)) ?_
  walk_at "zw"
  refine lf_si ⟨by omega, by omega⟩ ?_
  refine lf_catS (Nat.le_trans (Nat.add_le_add zn z2) (by decide)) ?_
  walk_at "zw"
  refine lf_ddSame rfl rfl ?_
  exact ⟨rfl, rfl, q⟩
end
end My

namespace My
open PySem PySem.Spec PyProof.Rows L2
section
variable {P : Program} {w : World} {K : PySem.W.Frag} {mg : Str → Option Value} {base : Heap}
/-! ### the dice, by the heap: the script may be a written list -/
def spDice (K : PySem.W.Frag) : Sp := fun vs H Q _ => ∃ (a : Addr) (ns : List Int) (k : Nat), vs = [.ref a, .int k] ∧ SqL K H a (ns.map V.int) ∧ ∀ (d : Addr) (H' : Hp), H d = none → Same H H' → Dice H' d → Q (.ref d) H'
theorem okH_dice (T : Txt K mg) : FnOk P w K mg base CX0 1 T.f_dice T.fd_dice ["_law_script", "_law_spot"] (spDice K) := by
  refine T.F_dice.ok sc_dice (fun vs H Q E h => ?_) (fun cdv A outer s H vs Q E hr h => ?_)
  · obtain ⟨a, ns, k, rfl, _⟩ := h
    rfl
  · obtain ⟨a, ns, k, rfl, hs, q⟩ := h
    refine ⟨_, (pss_cons (ps_set (i := 2) sc_dice.nd rfl (.inl rfl) (pe_op op_add (pe_op op_mul pe_int (pv 1)) pe_int))
      (pss_cons (ps_if (pt_cmpR op_lt (pv 1) (pe_callB (c_len (K := K)) (by rfl) T.z_len (by decide +kernel) (pa_cons (pv 0) pa_nil)) (nomark _)) (pss_one (ps_set (i := 2) sc_dice.nd rfl (.inl rfl) (pe_ix (i_list (K := K)) (pv 0) (pv 1) (fun _ _ => rfl)))) pss_nil)
      (pss_cons (ps_set (i := 3) sc_dice.nd rfl (.inl rfl) (pe_op op_mod (pe_callTy c_int1 (by rfl) T.z_int (by decide +kernel) (pa_cons (pe_callB c_abs (by rfl) T.z_abs (by decide +kernel) (pa_cons (pv 2) pa_nil)) pa_nil)) (pe_op op_powW (pe_op op_powW pe_int pe_int) pe_int)))
      (pss_cons (ps_set (i := 4) sc_dice.nd rfl (.inl rfl) (pe_op op_add (pe_op op_add (pe_op op_add (pe_op op_mul (pe_op op_mod (pe_callTy c_int1 (by rfl) T.z_int (by decide +kernel) (pa_cons (pv 3) pa_nil)) pe_int) pe_int) (pe_op op_mul pe_int (pv 1))) (pe_op op_mul pe_int (pe_callTy c_int1 (by rfl) T.z_int (by decide +kernel) (pa_cons (pe_cmpR op_lt (pv 2) pe_int (nomark _)) pa_nil)))) pe_int))
      (pss_one (ps_ret (pe_lst (pa_cons (pe_callB (c_max2 rfl) (by rfl) T.z_max (by decide +kernel) (pa_cons pe_int (pa_cons (pe_op op_sub (pv 3) (pe_op op_powW pe_int pe_int)) pa_nil))) (pa_cons (pe_op op_mod (pe_callTy c_int1 (by rfl) T.z_int (by decide +kernel) (pa_cons (pv 4) pa_nil)) pe_int) (pa_cons pe_int pa_nil)))))))))), ?_⟩
    walk_at "zrd"
    refine ⟨a, _, rfl, .inl hs, ?_⟩
    walk_at "zrd"
    have fin : ∀ (x y z : Int) (p : Addr), 0 ≤ x → H p = none → Q (.ref p) (upd H p (.lst [.int x, .int y, .int z])) := fun x y z p h0 hp =>
      q p _ hp (fun b o e => by rw [upd_ne (ne_of_none e hp)]; exact e) (Dice.mk3 h0)
    have tail : ∀ (g : Int), 0 ≤ (if g > 0 then g else 0) := fun g => by
      by_cases h : g > 0
      · rw [if_pos h]; omega
      · rw [if_neg h]; omega
    refine ite2 (fun e => ?_) (fun e => ?_)
    · have hk : k < ns.length := by
        have e1 := of_decide_eq_true e
        rw [List.length_map] at e1
        omega
      walk_at "zrd"
      refine ⟨a, _, (k : Int), .int ns[k], rfl, rfl, hs, atI_nat ?_, ?_⟩
      · rw [List.getElem?_map, List.getElem?_eq_getElem hk]
        rfl
      walk_at "zrd"
      exact ⟨by show 3 ≤ sizeLine; decide, fun p hp => fin _ _ _ p (tail _) hp⟩
    · walk_at "zrd"
      exact ⟨by show 3 ≤ sizeLine; decide, fun p hp => fin _ _ _ p (tail _) hp⟩
def spLaw (K : PySem.W.Frag) : Sp := fun vs H Q _ => ∃ (a : Addr) (ns : List Int), vs = [.ref a] ∧ SqL K H a (ns.map V.int) ∧ ns.length ≤ 63 ∧ ∀ H', Q (.bl true) H'
end
end My

local macro_rules | `(tactic| walk_at "zx") => `(tactic| first
  | ((with_reducible refine My.z_meth (My.pas_x ?hW) ?_); (case hW => assumption))
  | ((with_reducible refine My.z_make0 (My.pas_x ?hW) ?_); (case hW => assumption)))
namespace My
open PySem PySem.Spec PyProof.Rows L2
section
variable {P : Program} {w : World} {K : PySem.W.Frag} {mg : Str → Option Value} {base : Heap}
theorem turns_ok6 (n : Nat) : ∃ m : Nat, (if (if (n : Int) < 6 then (n : Int) else 6) > 1 then (if (n : Int) < 6 then (n : Int) else 6) else 1) = (m : Int) ∧ m ≤ 6 := by
  by_cases h : (n : Int) < 6
  · rw [if_pos h]
    by_cases h2 : (n : Int) > 1
    · rw [if_pos h2]
      exact ⟨n, rfl, by omega⟩
    · rw [if_neg h2]
      exact ⟨1, rfl, by omega⟩
  · rw [if_neg h]
    exact ⟨6, rfl, by omega⟩
def spLawT (K : PySem.W.Frag) (PR PL : Addr) : Sp := fun vs H Q _ => ∃ (a : Addr) (ns : List Int), vs = [.ref a] ∧ SqL K H a (ns.map V.int) ∧ ns.length ≤ 63 ∧ H PR = some (.tbl #[]) ∧ H PL = some (.tbl #[]) ∧ ∀ H', Q (.bl true) H'
theorem ok_law (T : Txt K mg) {kL PR PL f : Addr} {fd : FuncData} (F : FunC K kL "law" "law" s_law f fd) (TBR : LamX.TabB base mg T.k_right PR) (TB : LamX.TabB base mg kL PL) (hne : PR ≠ PL) : FnOk P w K mg base CX0 17 f fd ["_law_script"] (spLawT K PR PL) := by
  obtain ⟨ls, rest, hG_met, hrest, hcls⟩ := met_ok (P := P) (w := w) (base := base) T
  have okB_right := fun (_ : Txt K mg) => ok_right (P := P) (w := w) T TBR hne
  refine F.ok sc_law (fun vs H Q E h => ?_) (fun A outer s H vs Q E hr h => ?_)
  · obtain ⟨a, ns, rfl, _⟩ := h
    rfl
  · obtain ⟨a, ns, rfl, hS, hlen, tR, tL, q⟩ := h
    refine ⟨_, (pss_cons (ps_for PassesOwn.never rfl (pi_range1 (by rfl) T.z_range (pa_cons (pe_callB (c_max2 rfl) (by rfl) T.z_max (by decide +kernel) (pa_cons pe_int (pa_cons (pe_callB (c_min2 rfl) (by rfl) T.z_min (by decide +kernel) (pa_cons pe_int (pa_cons (pe_callB (c_len (K := K)) (by rfl) T.z_len (by decide +kernel) (pa_cons (pv 0) pa_nil)) pa_nil))) pa_nil))) pa_nil)) (pg_name (i := 1) sc_law.nd rfl (.inl rfl)) (pss_one (ps_if (pt_not (pt_val (pe_call (okB_right T) (hr.mono (by decide)) (by rfl) T.g_right T.F_right.keep T.b_right .nil pass0 (pa_cons (pe_call (okH_dice T) (hr.mono (by decide)) (by rfl) T.g_dice T.F_dice.kp T.b_dice .nil pass0 (pa_cons (pv 0) (pa_cons (pv 1) pa_nil))) pa_nil)))) (pss_one (ps_ret pe_bl)) pss_nil)))
      (pss_one (ps_ret (pe_and (pe_cmpR op_eq (pe_glob (v := .int (60)) rfl T.c_MAX_LINES ⟨_, rfl⟩) pe_int (nomark _)) (pe_one (pe_cmpR op_eq (pe_lamF (q := q_law) (k := 12) (by rfl) T.g_met T.F_met T.b_met sc_met rfl (.inl rfl) (fun cdv => hG_met _ _ _ _ _ _ _ _ _ _ cdv _) TB rfl (hr.mono (by decide)) (show LamX.LamS (defScope s_law) _ from LamX.lamS_by (by decide +kernel)) rfl (fun _ _ _ _ _ => rfl) (fun A outer s H E f c' hr => (pe_meth (pe_makeR0 T.mk_Text (okR_Text_init T) (hr.mono (by decide)) (by rfl) T.gC_Text (passX (takes_of rfl rfl rfl rfl))) T.cl_Text T.m_Text_moved (ok_Text_moved T) (hr.mono (by decide)) T.b_Text_moved .nil (passX (takes_of rfl rfl rfl rfl)) (pa_cons (pe_op op_powW pe_int pe_int) pa_nil)))) pe_str (nomark _))))))), ?_⟩
    have hnd : ([(PR, q_right), (PL, q_law)].map (·.1) : List Addr).Nodup := List.nodup_cons.mpr ⟨fun z => hne (List.mem_singleton.mp z), List.nodup_cons.mpr ⟨(fun z => nomatch z), List.nodup_nil⟩⟩
    have tb0 : TabsA [(PR, q_right), (PL, q_law)] ([(PR, q_right), (PL, q_law)].map (·.1)) H := fun p hp => by
      simp only [List.mem_cons, List.not_mem_nil, or_false] at hp
      rcases hp with rfl | rfl
      · exact .nil tR
      · exact .nil tL
    have na : a ∉ ([(PR, q_right), (PL, q_law)].map (·.1) : List Addr) ∨ ∀ H', SqL K H' a (ns.map V.int) := by
      rcases hS with h | h
      · left
        intro z
        simp only [List.map_cons, List.map_nil, List.mem_cons, List.not_mem_nil, or_false] at z
        rcases z with rfl | rfl
        · rcases h with h | ⟨o, h⟩
          · rw [tR] at h; cases h
          · rw [tR] at h; cases h
        · rcases h with h | ⟨o, h⟩
          · rw [tL] at h; cases h
          · rw [tL] at h; cases h
      · exact .inr fun H' => .inr h
    have seq : ∀ {H' : Hp}, Xt ([(PR, q_right), (PL, q_law)].map (·.1)) H H' → SqL K H' a (ns.map V.int) := fun {H'} x => by
      rcases na with n | h
      · rcases hS with h | h
        · exact .inl (Rd.xt x n h)
        · exact .inr h
      · exact h H'
    clear na
    generalize hTl : [(PR, q_right), (PL, q_law)] = Tl at *
    have hm : (PL, q_law) ∈ Tl := by rw [← hTl]; exact .tail _ (.head _)
    have hu : ∀ p ∈ Tl, p.1 = PL → p.2 = q_law := fun p hp e => by
      rw [← hTl] at hp
      simp only [List.mem_cons, List.not_mem_nil, or_false] at hp
      rcases hp with rfl | rfl
      · exact absurd e hne
      · rfl
    walk_at "zrd"
    refine ⟨a, _, rfl, .inl (seq (Xt.refl _ _)), ?_⟩
    walk_at "zrd"
    obtain ⟨m, em, hm6⟩ := turns_ok6 (ns.map V.int).length
    rw [em]
    refine r_rng1j (by omega) (by omega) ?_
    refine forB walk_range (fun i σ H' => ∃ y1, σ = [some (.ref a), y1, none] ∧ Xt (Tl.map (·.1)) H H' ∧ TabsA Tl (Tl.map (·.1)) H') ⟨_, rfl, Xt.refl _ _, tb0⟩ (fun _ _ _ _ _ => trivial) (fun i x σ H1 H2 hi hP hy => ?_) (fun σ H1 hP => ?_)
    · obtain ⟨rfl, rfl⟩ := hy
      obtain ⟨y1, rfl, s1, t1⟩ := hP
      walk_at "zrd"
      refine ⟨a, ns, i, by show [V.ref a, V.int (0 + (i : Int))] = _; rw [Int.zero_add], seq s1, fun d H3 hd s3 d3 => ?_⟩
      walk_at "zrd"
      have here := (gst_tabs Tl).here t1
      have ndT : d ∉ Tl.map (·.1) := fun z => here d z hd
      have s3x : Ex _ H3 := s3
      have t3 : TabsA Tl (d :: (Tl.map (·.1) ++ [])) H3 := ((t1.to (B := d :: (Tl.map (·.1) ++ [])) fun b hb => by
        rcases List.mem_cons.mp hb with rfl | z
        · exact .inr hd
        · rw [List.append_nil] at z
          exact .inl z).ex s3x)
      refine ⟨[], d, fun x => x = .bl true, rfl, d3, (fun z => nomatch z), ndT, (fun _ z => nomatch z), (fun _ _ z => nomatch z), hnd, rfl, hTl ▸ t3, fun v dd H4 hk hx hd4 ht4 hr4 => ?_⟩
      subst hk
      rw [hr4.inv_bl]
      refine ⟨true, rfl, ?_⟩
      rw [if_neg (by decide)]
      refine ⟨_, rfl, fun c o nc e => ?_, ?_⟩
      · have e2 := s1 c o nc e
        exact hx c o (fun z => (List.mem_cons.mp z).elim (fun w => ne_of_none e2 hd w) nc) (s3x c o e2)
      · exact ht4.to fun b hb => .inl (.tail _ (List.mem_append_left _ hb))
    · obtain ⟨y1, rfl, s1, t1⟩ := hP
      dsimp only
      refine sw_runT (K := K) (n := 2) (T := Tl) (σ := [some (.ref a), y1]) ?_ rfl hnd t1 fun H' => q H'
      show Sw K _ [.no, .no, .gst (Tl.map (·.1)) (TabsA Tl)] _
      walk_at "zw"
      rw [if_pos (by decide)]
      walk_at "zw"
      refine w_fine hrest hm hu (g := 2) rfl rfl (fun X' E1 hW => ?_) ?_
      · walk_at "zw"
        refine tInit_of (ls := []) txOk_nil ?_
        walk_at "zw"
        exact ⟨[], _, rfl, txOk_nil, by decide +kernel, .inl ⟨fun l hl => (nomatch hl), trivial⟩⟩
      walk_at "zw"
      exact congrArg Dt.bl (decide_eq_true rfl)
end
end My

namespace My
open PySem PySem.Spec PyProof.Rows L2
theorem all_mk {l : PySem.W.OpenLaw} {w : World} {K : PySem.W.Frag} {h : Heap} {mg : Str → Option Value} {fa : Addr} (X : K.In h) (G : h.Ns mainGlobals mg) (hfa : mg "law" = some (.ref fa))
    {C_InvalidText : Addr} (ty_InvalidText : PySem.W.typeIn K (.ref C_InvalidText) = some (.type "type"))
    {C_ParseError : Addr} (ty_ParseError : PySem.W.typeIn K (.ref C_ParseError) = some (.type "type"))
    {C_TooMany : Addr} (ty_TooMany : PySem.W.typeIn K (.ref C_TooMany) = some (.type "type"))
    {C_InvalidNumber : Addr} (ty_InvalidNumber : PySem.W.typeIn K (.ref C_InvalidNumber) = some (.type "type"))
    (su_InvalidText_InvalidText : PySem.W.subIn K (.ref C_InvalidText) (.ref C_InvalidText) = some true)
    (su_InvalidText_ParseError : PySem.W.subIn K (.ref C_InvalidText) (.ref C_ParseError) = some false)
    (su_InvalidText_TooMany : PySem.W.subIn K (.ref C_InvalidText) (.ref C_TooMany) = some false)
    (su_InvalidText_InvalidNumber : PySem.W.subIn K (.ref C_InvalidText) (.ref C_InvalidNumber) = some false)
    (su_ParseError_InvalidText : PySem.W.subIn K (.ref C_ParseError) (.ref C_InvalidText) = some false)
    (su_ParseError_ParseError : PySem.W.subIn K (.ref C_ParseError) (.ref C_ParseError) = some true)
    (su_ParseError_TooMany : PySem.W.subIn K (.ref C_ParseError) (.ref C_TooMany) = some false)
    (su_ParseError_InvalidNumber : PySem.W.subIn K (.ref C_ParseError) (.ref C_InvalidNumber) = some false)
    (su_TooMany_InvalidText : PySem.W.subIn K (.ref C_TooMany) (.ref C_InvalidText) = some false)
    (su_TooMany_ParseError : PySem.W.subIn K (.ref C_TooMany) (.ref C_ParseError) = some false)
    (su_TooMany_TooMany : PySem.W.subIn K (.ref C_TooMany) (.ref C_TooMany) = some true)
    (su_TooMany_InvalidNumber : PySem.W.subIn K (.ref C_TooMany) (.ref C_InvalidNumber) = some false)
    (su_InvalidNumber_InvalidText : PySem.W.subIn K (.ref C_InvalidNumber) (.ref C_InvalidText) = some false)
    (su_InvalidNumber_ParseError : PySem.W.subIn K (.ref C_InvalidNumber) (.ref C_ParseError) = some false)
    (su_InvalidNumber_TooMany : PySem.W.subIn K (.ref C_InvalidNumber) (.ref C_TooMany) = some false)
    (su_InvalidNumber_InvalidNumber : PySem.W.subIn K (.ref C_InvalidNumber) (.ref C_InvalidNumber) = some true)
    (gC_InvalidText : PySem.W.nsIn K mainGlobals "InvalidText" = some (some (.ref C_InvalidText))) (x_InvalidText : xcB K C_InvalidText = true)
    (xi_InvalidText : PySem.W.excIn K C_InvalidText [.type "ValueError", .type "Exception", .type "BaseException", .type "object"] "ValueError.__new__" = true) (st_InvalidText : PySem.W.findIn K (.ref C_InvalidText) "__str__" = some (some (.builtin "BaseException.__str__")))
    (gC_ParseError : PySem.W.nsIn K mainGlobals "ParseError" = some (some (.ref C_ParseError))) (x_ParseError : xcB K C_ParseError = true)
    (gC_TooMany : PySem.W.nsIn K mainGlobals "TooMany" = some (some (.ref C_TooMany))) (x_TooMany : xcB K C_TooMany = true)
    (gC_InvalidNumber : PySem.W.nsIn K mainGlobals "InvalidNumber" = some (some (.ref C_InvalidNumber))) (x_InvalidNumber : xcB K C_InvalidNumber = true)
    {C_Text : Addr} (gC_Text : PySem.W.nsIn K mainGlobals "Text" = some (some (.ref C_Text))) (pg_Text : PySem.W.plainGet K C_Text Str.empty = true) (hd_Text : PySem.W.hasDictIn K C_Text = true) (po_Text : PySem.W.plainOver K C_Text = true) (sa_Text : PySem.W.findIn K (.ref C_Text) "__setattr__" = some (some (.builtin "object.__setattr__"))) (kc_Text : PySem.W.keepIn K (.ref C_Text) = true) (rr_Text : PySem.W.readsIn K C_Text (.type "type") = true) (ga_Text : PySem.W.specialIn K (.ref C_Text) "__getattribute__" = some (some (.builtin "type.__getattribute__")))
    (cia_Text : PySem.W.findIn K (.ref C_Text) "__class__" = some (some (.builtin "object.__class__"))) (cin_Text : PySem.W.specialIn K (.builtin "object.__class__") "__get__" = some (some (.builtin "getset_descriptor.__get__"))) (cit_Text : PySem.W.takesIn K (.builtin "object.__class__") = some true) (cim_Text : PySem.W.mroIn K C_Text (.type "object") = some true)
    (nA_Text_lines : PySem.W.findIn K (.ref C_Text) "_lines" = some none)
    (nA_Text_columns : PySem.W.findIn K (.ref C_Text) "_columns" = some none)
    (nA_Text_words : PySem.W.findIn K (.ref C_Text) "_words" = some none)
    {f_ParseError_init : Addr} {od_ParseError_init an_ParseError_init : Option Addr} {sl_ParseError_init : Array (Option Value)} {oc_ParseError_init kV_ParseError_init dc_ParseError_init pm_ParseError_init cd_ParseError_init ct_ParseError_init : Value}
    (a_ParseError_init : PySem.W.findIn K (.ref C_ParseError) "__init__" = some (some (.ref f_ParseError_init))) (l_ParseError_init : K.lookup f_ParseError_init = some ⟨oc_ParseError_init, od_ParseError_init, .func (PySem.W.fnOf "__init__" "ParseError.__init__" (defArgs s_ParseError_init) (defBody s_ParseError_init) (defScope s_ParseError_init) .none kV_ParseError_init dc_ParseError_init pm_ParseError_init an_ParseError_init cd_ParseError_init ct_ParseError_init), sl_ParseError_init⟩) (c_ParseError_init : PySem.W.codeIn K cd_ParseError_init "ParseError.__init__" = true) (k_ParseError_init : PySem.W.keepIn K (.ref f_ParseError_init) = true)
    (xi_ParseError : xInB K C_ParseError "ValueError" "ValueError.__new__" = true) (xo_ParseError : PySem.W.excOver K C_ParseError [.type "ValueError", .type "Exception", .type "BaseException", .type "object"] = true) (tk_ParseError : PySem.W.takerIn K C_ParseError "line" = some none) (nf_ParseError : PySem.W.findIn K (.ref C_ParseError) "line" = some none) (ti_ParseError : PySem.W.typeIn K (.ref f_ParseError_init) = some (.type "function"))
    {f_TooMany_init : Addr} {od_TooMany_init an_TooMany_init : Option Addr} {sl_TooMany_init : Array (Option Value)} {oc_TooMany_init kV_TooMany_init dc_TooMany_init pm_TooMany_init cd_TooMany_init ct_TooMany_init : Value}
    (a_TooMany_init : PySem.W.findIn K (.ref C_TooMany) "__init__" = some (some (.ref f_TooMany_init))) (l_TooMany_init : K.lookup f_TooMany_init = some ⟨oc_TooMany_init, od_TooMany_init, .func (PySem.W.fnOf "__init__" "TooMany.__init__" (defArgs s_TooMany_init) (defBody s_TooMany_init) (defScope s_TooMany_init) .none kV_TooMany_init dc_TooMany_init pm_TooMany_init an_TooMany_init cd_TooMany_init ct_TooMany_init), sl_TooMany_init⟩) (c_TooMany_init : PySem.W.codeIn K cd_TooMany_init "TooMany.__init__" = true) (k_TooMany_init : PySem.W.keepIn K (.ref f_TooMany_init) = true)
    (xi_TooMany : xInB K C_TooMany "OverflowError" "OverflowError.__new__" = true) (xo_TooMany : PySem.W.excOver K C_TooMany [.type "OverflowError", .type "ArithmeticError", .type "Exception", .type "BaseException", .type "object"] = true) (tk_TooMany : PySem.W.takerIn K C_TooMany "limit" = some none) (nf_TooMany : PySem.W.findIn K (.ref C_TooMany) "limit" = some none) (ti_TooMany : PySem.W.typeIn K (.ref f_TooMany_init) = some (.type "function"))
    {f_InvalidNumber_init : Addr} {od_InvalidNumber_init an_InvalidNumber_init : Option Addr} {sl_InvalidNumber_init : Array (Option Value)} {oc_InvalidNumber_init kV_InvalidNumber_init dc_InvalidNumber_init pm_InvalidNumber_init cd_InvalidNumber_init ct_InvalidNumber_init : Value}
    (a_InvalidNumber_init : PySem.W.findIn K (.ref C_InvalidNumber) "__init__" = some (some (.ref f_InvalidNumber_init))) (l_InvalidNumber_init : K.lookup f_InvalidNumber_init = some ⟨oc_InvalidNumber_init, od_InvalidNumber_init, .func (PySem.W.fnOf "__init__" "InvalidNumber.__init__" (defArgs s_InvalidNumber_init) (defBody s_InvalidNumber_init) (defScope s_InvalidNumber_init) .none kV_InvalidNumber_init dc_InvalidNumber_init pm_InvalidNumber_init an_InvalidNumber_init cd_InvalidNumber_init ct_InvalidNumber_init), sl_InvalidNumber_init⟩) (c_InvalidNumber_init : PySem.W.codeIn K cd_InvalidNumber_init "InvalidNumber.__init__" = true) (k_InvalidNumber_init : PySem.W.keepIn K (.ref f_InvalidNumber_init) = true)
    (xi_InvalidNumber : xInB K C_InvalidNumber "RuntimeError" "RuntimeError.__new__" = true) (xo_InvalidNumber : PySem.W.excOver K C_InvalidNumber [.type "RuntimeError", .type "Exception", .type "BaseException", .type "object"] = true) (tk_InvalidNumber : PySem.W.takerIn K C_InvalidNumber "number" = some none) (nf_InvalidNumber : PySem.W.findIn K (.ref C_InvalidNumber) "number" = some none) (ti_InvalidNumber : PySem.W.typeIn K (.ref f_InvalidNumber_init) = some (.type "function"))
    {f_is_integer : Addr} {od_is_integer an_is_integer : Option Addr} {sl_is_integer : Array (Option Value)} {oc_is_integer kV_is_integer dc_is_integer pm_is_integer cd_is_integer ct_is_integer : Value}
    (a_is_integer : PySem.W.nsIn K mainGlobals "is_integer" = some (some (.ref f_is_integer))) (l_is_integer : K.lookup f_is_integer = some ⟨oc_is_integer, od_is_integer, .func (PySem.W.fnOf "is_integer" "is_integer" (defArgs s_is_integer) (defBody s_is_integer) (defScope s_is_integer) .none kV_is_integer dc_is_integer pm_is_integer an_is_integer cd_is_integer ct_is_integer), sl_is_integer⟩) (c_is_integer : PySem.W.codeIn K cd_is_integer "is_integer" = true) (k_is_integer : PySem.W.keepIn K (.ref f_is_integer) = true)
    {f_check_number : Addr} {od_check_number an_check_number : Option Addr} {sl_check_number : Array (Option Value)} {oc_check_number kV_check_number dc_check_number pm_check_number cd_check_number ct_check_number : Value}
    (a_check_number : PySem.W.nsIn K mainGlobals "check_number" = some (some (.ref f_check_number))) (l_check_number : K.lookup f_check_number = some ⟨oc_check_number, od_check_number, .func (PySem.W.fnOf "check_number" "check_number" (defArgs s_check_number) (defBody s_check_number) (defScope s_check_number) .none kV_check_number dc_check_number pm_check_number an_check_number cd_check_number ct_check_number), sl_check_number⟩) (c_check_number : PySem.W.codeIn K cd_check_number "check_number" = true) (k_check_number : PySem.W.keepIn K (.ref f_check_number) = true)
    {f_is_word : Addr} {od_is_word an_is_word : Option Addr} {sl_is_word : Array (Option Value)} {oc_is_word kV_is_word dc_is_word pm_is_word cd_is_word ct_is_word : Value}
    (a_is_word : PySem.W.nsIn K mainGlobals "is_word" = some (some (.ref f_is_word))) (l_is_word : K.lookup f_is_word = some ⟨oc_is_word, od_is_word, .func (PySem.W.fnOf "is_word" "is_word" (defArgs s_is_word) (defBody s_is_word) (defScope s_is_word) .none kV_is_word dc_is_word pm_is_word an_is_word cd_is_word ct_is_word), sl_is_word⟩) (c_is_word : PySem.W.codeIn K cd_is_word "is_word" = true) (k_is_word : PySem.W.keepIn K (.ref f_is_word) = true)
    {f_is_column : Addr} {od_is_column an_is_column : Option Addr} {sl_is_column : Array (Option Value)} {oc_is_column kV_is_column dc_is_column pm_is_column cd_is_column ct_is_column : Value}
    (a_is_column : PySem.W.nsIn K mainGlobals "is_column" = some (some (.ref f_is_column))) (l_is_column : K.lookup f_is_column = some ⟨oc_is_column, od_is_column, .func (PySem.W.fnOf "is_column" "is_column" (defArgs s_is_column) (defBody s_is_column) (defScope s_is_column) .none kV_is_column dc_is_column pm_is_column an_is_column cd_is_column ct_is_column), sl_is_column⟩) (c_is_column : PySem.W.codeIn K cd_is_column "is_column" = true) (k_is_column : PySem.W.keepIn K (.ref f_is_column) = true)
    {f_is_words_of_line : Addr} {od_is_words_of_line an_is_words_of_line : Option Addr} {sl_is_words_of_line : Array (Option Value)} {oc_is_words_of_line kV_is_words_of_line dc_is_words_of_line pm_is_words_of_line cd_is_words_of_line ct_is_words_of_line : Value}
    (a_is_words_of_line : PySem.W.nsIn K mainGlobals "is_words_of_line" = some (some (.ref f_is_words_of_line))) (l_is_words_of_line : K.lookup f_is_words_of_line = some ⟨oc_is_words_of_line, od_is_words_of_line, .func (PySem.W.fnOf "is_words_of_line" "is_words_of_line" (defArgs s_is_words_of_line) (defBody s_is_words_of_line) (defScope s_is_words_of_line) .none kV_is_words_of_line dc_is_words_of_line pm_is_words_of_line an_is_words_of_line cd_is_words_of_line ct_is_words_of_line), sl_is_words_of_line⟩) (c_is_words_of_line : PySem.W.codeIn K cd_is_words_of_line "is_words_of_line" = true) (k_is_words_of_line : PySem.W.keepIn K (.ref f_is_words_of_line) = true)
    {f_is_line : Addr} {od_is_line an_is_line : Option Addr} {sl_is_line : Array (Option Value)} {oc_is_line kV_is_line dc_is_line pm_is_line cd_is_line ct_is_line : Value}
    (a_is_line : PySem.W.nsIn K mainGlobals "is_line" = some (some (.ref f_is_line))) (l_is_line : K.lookup f_is_line = some ⟨oc_is_line, od_is_line, .func (PySem.W.fnOf "is_line" "is_line" (defArgs s_is_line) (defBody s_is_line) (defScope s_is_line) .none kV_is_line dc_is_line pm_is_line an_is_line cd_is_line ct_is_line), sl_is_line⟩) (c_is_line : PySem.W.codeIn K cd_is_line "is_line" = true) (k_is_line : PySem.W.keepIn K (.ref f_is_line) = true)
    {f_written_line : Addr} {od_written_line an_written_line : Option Addr} {sl_written_line : Array (Option Value)} {oc_written_line kV_written_line dc_written_line pm_written_line cd_written_line ct_written_line : Value}
    (a_written_line : PySem.W.nsIn K mainGlobals "written_line" = some (some (.ref f_written_line))) (l_written_line : K.lookup f_written_line = some ⟨oc_written_line, od_written_line, .func (PySem.W.fnOf "written_line" "written_line" (defArgs s_written_line) (defBody s_written_line) (defScope s_written_line) .none kV_written_line dc_written_line pm_written_line an_written_line cd_written_line ct_written_line), sl_written_line⟩) (c_written_line : PySem.W.codeIn K cd_written_line "written_line" = true) (k_written_line : PySem.W.keepIn K (.ref f_written_line) = true)
    {f_line_written : Addr} {od_line_written an_line_written : Option Addr} {sl_line_written : Array (Option Value)} {oc_line_written kV_line_written dc_line_written pm_line_written cd_line_written ct_line_written : Value}
    (a_line_written : PySem.W.nsIn K mainGlobals "line_written" = some (some (.ref f_line_written))) (l_line_written : K.lookup f_line_written = some ⟨oc_line_written, od_line_written, .func (PySem.W.fnOf "line_written" "line_written" (defArgs s_line_written) (defBody s_line_written) (defScope s_line_written) .none kV_line_written dc_line_written pm_line_written an_line_written cd_line_written ct_line_written), sl_line_written⟩) (c_line_written : PySem.W.codeIn K cd_line_written "line_written" = true) (k_line_written : PySem.W.keepIn K (.ref f_line_written) = true)
    {f_rows_of : Addr} {od_rows_of an_rows_of : Option Addr} {sl_rows_of : Array (Option Value)} {oc_rows_of kV_rows_of dc_rows_of pm_rows_of cd_rows_of ct_rows_of : Value}
    (a_rows_of : PySem.W.nsIn K mainGlobals "rows_of" = some (some (.ref f_rows_of))) (l_rows_of : K.lookup f_rows_of = some ⟨oc_rows_of, od_rows_of, .func (PySem.W.fnOf "rows_of" "rows_of" (defArgs s_rows_of) (defBody s_rows_of) (defScope s_rows_of) .none kV_rows_of dc_rows_of pm_rows_of an_rows_of cd_rows_of ct_rows_of), sl_rows_of⟩) (c_rows_of : PySem.W.codeIn K cd_rows_of "rows_of" = true) (k_rows_of : PySem.W.keepIn K (.ref f_rows_of) = true)
    {f_are_columns : Addr} {od_are_columns an_are_columns : Option Addr} {sl_are_columns : Array (Option Value)} {oc_are_columns kV_are_columns dc_are_columns pm_are_columns cd_are_columns ct_are_columns : Value}
    (a_are_columns : PySem.W.nsIn K mainGlobals "are_columns" = some (some (.ref f_are_columns))) (l_are_columns : K.lookup f_are_columns = some ⟨oc_are_columns, od_are_columns, .func (PySem.W.fnOf "are_columns" "are_columns" (defArgs s_are_columns) (defBody s_are_columns) (defScope s_are_columns) .none kV_are_columns dc_are_columns pm_are_columns an_are_columns cd_are_columns ct_are_columns), sl_are_columns⟩) (c_are_columns : PySem.W.codeIn K cd_are_columns "are_columns" = true) (k_are_columns : PySem.W.keepIn K (.ref f_are_columns) = true)
    {f_are_words : Addr} {od_are_words an_are_words : Option Addr} {sl_are_words : Array (Option Value)} {oc_are_words kV_are_words dc_are_words pm_are_words cd_are_words ct_are_words : Value}
    (a_are_words : PySem.W.nsIn K mainGlobals "are_words" = some (some (.ref f_are_words))) (l_are_words : K.lookup f_are_words = some ⟨oc_are_words, od_are_words, .func (PySem.W.fnOf "are_words" "are_words" (defArgs s_are_words) (defBody s_are_words) (defScope s_are_words) .none kV_are_words dc_are_words pm_are_words an_are_words cd_are_words ct_are_words), sl_are_words⟩) (c_are_words : PySem.W.codeIn K cd_are_words "are_words" = true) (k_are_words : PySem.W.keepIn K (.ref f_are_words) = true)
    {f_Text_init : Addr} {od_Text_init an_Text_init : Option Addr} {sl_Text_init : Array (Option Value)} {oc_Text_init kV_Text_init dc_Text_init pm_Text_init cd_Text_init ct_Text_init : Value}
    (a_Text_init : PySem.W.findIn K (.ref C_Text) "__init__" = some (some (.ref f_Text_init)))
    (l_Text_init : K.lookup f_Text_init = some ⟨oc_Text_init, od_Text_init, .func (PySem.W.fnOf "__init__" "Text.__init__" (defArgs s_Text_init) (defBody s_Text_init) (defScope s_Text_init) .none kV_Text_init dc_Text_init pm_Text_init an_Text_init cd_Text_init ct_Text_init), sl_Text_init⟩) (c_Text_init : PySem.W.codeIn K cd_Text_init "Text.__init__" = true) (k_Text_init : PySem.W.keepIn K (.ref f_Text_init) = true) (i_Text_init : PySem.W.isFn K (.ref f_Text_init) = true)
    (mk_Text : PySem.W.makesIn K C_Text = true)
    {f_Text_read : Addr} {od_Text_read an_Text_read : Option Addr} {sl_Text_read : Array (Option Value)} {oc_Text_read kV_Text_read dc_Text_read pm_Text_read cd_Text_read ct_Text_read : Value}
    {pa_Text_read : Addr} {rs_Text_read : List Value} (a_Text_read : PySem.W.findCls K (.ref C_Text) (.type "type") "read" = some (.get (.builtin "classmethod.__get__") (.ref pa_Text_read) .none (.ref C_Text))) (pr_Text_read : PySem.W.recIn K pa_Text_read "classmethod" = some (.ref f_Text_read :: rs_Text_read)) (fi_Text_read : PySem.W.fnIn K f_Text_read = true)
    (l_Text_read : K.lookup f_Text_read = some ⟨oc_Text_read, od_Text_read, .func (PySem.W.fnOf "read" "Text.read" (defArgs s_Text_read) (defBody s_Text_read) (defScope s_Text_read) .none kV_Text_read dc_Text_read pm_Text_read an_Text_read cd_Text_read ct_Text_read), sl_Text_read⟩) (c_Text_read : PySem.W.codeIn K cd_Text_read "Text.read" = true) (k_Text_read : PySem.W.keepIn K (.ref f_Text_read) = true) (i_Text_read : PySem.W.isFn K (.ref f_Text_read) = true)
    {f_Text_made : Addr} {od_Text_made an_Text_made : Option Addr} {sl_Text_made : Array (Option Value)} {oc_Text_made kV_Text_made dc_Text_made pm_Text_made cd_Text_made ct_Text_made : Value}
    {pa_Text_made : Addr} {rs_Text_made : List Value} (a_Text_made : PySem.W.findCls K (.ref C_Text) (.type "type") "made" = some (.get (.builtin "classmethod.__get__") (.ref pa_Text_made) .none (.ref C_Text))) (pr_Text_made : PySem.W.recIn K pa_Text_made "classmethod" = some (.ref f_Text_made :: rs_Text_made)) (fi_Text_made : PySem.W.fnIn K f_Text_made = true)
    (l_Text_made : K.lookup f_Text_made = some ⟨oc_Text_made, od_Text_made, .func (PySem.W.fnOf "made" "Text.made" (defArgs s_Text_made) (defBody s_Text_made) (defScope s_Text_made) .none kV_Text_made dc_Text_made pm_Text_made an_Text_made cd_Text_made ct_Text_made), sl_Text_made⟩) (c_Text_made : PySem.W.codeIn K cd_Text_made "Text.made" = true) (k_Text_made : PySem.W.keepIn K (.ref f_Text_made) = true) (i_Text_made : PySem.W.isFn K (.ref f_Text_made) = true)
    {f_Text_lines : Addr} {od_Text_lines an_Text_lines : Option Addr} {sl_Text_lines : Array (Option Value)} {oc_Text_lines kV_Text_lines dc_Text_lines pm_Text_lines cd_Text_lines ct_Text_lines : Value}
    {pa_Text_lines : Addr} {rs_Text_lines : List Value} (a_Text_lines : PySem.W.findIn K (.ref C_Text) "lines" = some (some (.ref pa_Text_lines))) (pg_Text_lines : PySem.W.specialIn K (.ref pa_Text_lines) "__get__" = some (some (.builtin "property.__get__"))) (pt_Text_lines : PySem.W.takesIn K (.ref pa_Text_lines) = some true) (pr_Text_lines : PySem.W.recIn K pa_Text_lines "property" = some (.ref f_Text_lines :: rs_Text_lines))
    (l_Text_lines : K.lookup f_Text_lines = some ⟨oc_Text_lines, od_Text_lines, .func (PySem.W.fnOf "lines" "Text.lines" (defArgs s_Text_lines) (defBody s_Text_lines) (defScope s_Text_lines) .none kV_Text_lines dc_Text_lines pm_Text_lines an_Text_lines cd_Text_lines ct_Text_lines), sl_Text_lines⟩) (c_Text_lines : PySem.W.codeIn K cd_Text_lines "Text.lines" = true) (k_Text_lines : PySem.W.keepIn K (.ref f_Text_lines) = true) (i_Text_lines : PySem.W.isFn K (.ref f_Text_lines) = true)
    {f_Text_columns : Addr} {od_Text_columns an_Text_columns : Option Addr} {sl_Text_columns : Array (Option Value)} {oc_Text_columns kV_Text_columns dc_Text_columns pm_Text_columns cd_Text_columns ct_Text_columns : Value}
    {pa_Text_columns : Addr} {rs_Text_columns : List Value} (a_Text_columns : PySem.W.findIn K (.ref C_Text) "columns" = some (some (.ref pa_Text_columns))) (pg_Text_columns : PySem.W.specialIn K (.ref pa_Text_columns) "__get__" = some (some (.builtin "property.__get__"))) (pt_Text_columns : PySem.W.takesIn K (.ref pa_Text_columns) = some true) (pr_Text_columns : PySem.W.recIn K pa_Text_columns "property" = some (.ref f_Text_columns :: rs_Text_columns))
    (l_Text_columns : K.lookup f_Text_columns = some ⟨oc_Text_columns, od_Text_columns, .func (PySem.W.fnOf "columns" "Text.columns" (defArgs s_Text_columns) (defBody s_Text_columns) (defScope s_Text_columns) .none kV_Text_columns dc_Text_columns pm_Text_columns an_Text_columns cd_Text_columns ct_Text_columns), sl_Text_columns⟩) (c_Text_columns : PySem.W.codeIn K cd_Text_columns "Text.columns" = true) (k_Text_columns : PySem.W.keepIn K (.ref f_Text_columns) = true) (i_Text_columns : PySem.W.isFn K (.ref f_Text_columns) = true)
    {f_Text_words : Addr} {od_Text_words an_Text_words : Option Addr} {sl_Text_words : Array (Option Value)} {oc_Text_words kV_Text_words dc_Text_words pm_Text_words cd_Text_words ct_Text_words : Value}
    {pa_Text_words : Addr} {rs_Text_words : List Value} (a_Text_words : PySem.W.findIn K (.ref C_Text) "words" = some (some (.ref pa_Text_words))) (pg_Text_words : PySem.W.specialIn K (.ref pa_Text_words) "__get__" = some (some (.builtin "property.__get__"))) (pt_Text_words : PySem.W.takesIn K (.ref pa_Text_words) = some true) (pr_Text_words : PySem.W.recIn K pa_Text_words "property" = some (.ref f_Text_words :: rs_Text_words))
    (l_Text_words : K.lookup f_Text_words = some ⟨oc_Text_words, od_Text_words, .func (PySem.W.fnOf "words" "Text.words" (defArgs s_Text_words) (defBody s_Text_words) (defScope s_Text_words) .none kV_Text_words dc_Text_words pm_Text_words an_Text_words cd_Text_words ct_Text_words), sl_Text_words⟩) (c_Text_words : PySem.W.codeIn K cd_Text_words "Text.words" = true) (k_Text_words : PySem.W.keepIn K (.ref f_Text_words) = true) (i_Text_words : PySem.W.isFn K (.ref f_Text_words) = true)
    {f_Text_least : Addr} {od_Text_least an_Text_least : Option Addr} {sl_Text_least : Array (Option Value)} {oc_Text_least kV_Text_least dc_Text_least pm_Text_least cd_Text_least ct_Text_least : Value}
    {pa_Text_least : Addr} {rs_Text_least : List Value} (a_Text_least : PySem.W.findIn K (.ref C_Text) "least" = some (some (.ref pa_Text_least))) (pg_Text_least : PySem.W.specialIn K (.ref pa_Text_least) "__get__" = some (some (.builtin "property.__get__"))) (pt_Text_least : PySem.W.takesIn K (.ref pa_Text_least) = some true) (pr_Text_least : PySem.W.recIn K pa_Text_least "property" = some (.ref f_Text_least :: rs_Text_least))
    (l_Text_least : K.lookup f_Text_least = some ⟨oc_Text_least, od_Text_least, .func (PySem.W.fnOf "least" "Text.least" (defArgs s_Text_least) (defBody s_Text_least) (defScope s_Text_least) .none kV_Text_least dc_Text_least pm_Text_least an_Text_least cd_Text_least ct_Text_least), sl_Text_least⟩) (c_Text_least : PySem.W.codeIn K cd_Text_least "Text.least" = true) (k_Text_least : PySem.W.keepIn K (.ref f_Text_least) = true) (i_Text_least : PySem.W.isFn K (.ref f_Text_least) = true)
    {f_Text_greatest : Addr} {od_Text_greatest an_Text_greatest : Option Addr} {sl_Text_greatest : Array (Option Value)} {oc_Text_greatest kV_Text_greatest dc_Text_greatest pm_Text_greatest cd_Text_greatest ct_Text_greatest : Value}
    {pa_Text_greatest : Addr} {rs_Text_greatest : List Value} (a_Text_greatest : PySem.W.findIn K (.ref C_Text) "greatest" = some (some (.ref pa_Text_greatest))) (pg_Text_greatest : PySem.W.specialIn K (.ref pa_Text_greatest) "__get__" = some (some (.builtin "property.__get__"))) (pt_Text_greatest : PySem.W.takesIn K (.ref pa_Text_greatest) = some true) (pr_Text_greatest : PySem.W.recIn K pa_Text_greatest "property" = some (.ref f_Text_greatest :: rs_Text_greatest))
    (l_Text_greatest : K.lookup f_Text_greatest = some ⟨oc_Text_greatest, od_Text_greatest, .func (PySem.W.fnOf "greatest" "Text.greatest" (defArgs s_Text_greatest) (defBody s_Text_greatest) (defScope s_Text_greatest) .none kV_Text_greatest dc_Text_greatest pm_Text_greatest an_Text_greatest cd_Text_greatest ct_Text_greatest), sl_Text_greatest⟩) (c_Text_greatest : PySem.W.codeIn K cd_Text_greatest "Text.greatest" = true) (k_Text_greatest : PySem.W.keepIn K (.ref f_Text_greatest) = true) (i_Text_greatest : PySem.W.isFn K (.ref f_Text_greatest) = true)
    {f_Text_moved : Addr} {od_Text_moved an_Text_moved : Option Addr} {sl_Text_moved : Array (Option Value)} {oc_Text_moved kV_Text_moved dc_Text_moved pm_Text_moved cd_Text_moved ct_Text_moved : Value}
    (a_Text_moved : PySem.W.findIn K (.ref C_Text) "moved" = some (some (.ref f_Text_moved)))
    (l_Text_moved : K.lookup f_Text_moved = some ⟨oc_Text_moved, od_Text_moved, .func (PySem.W.fnOf "moved" "Text.moved" (defArgs s_Text_moved) (defBody s_Text_moved) (defScope s_Text_moved) .none kV_Text_moved dc_Text_moved pm_Text_moved an_Text_moved cd_Text_moved ct_Text_moved), sl_Text_moved⟩) (c_Text_moved : PySem.W.codeIn K cd_Text_moved "Text.moved" = true) (k_Text_moved : PySem.W.keepIn K (.ref f_Text_moved) = true) (i_Text_moved : PySem.W.isFn K (.ref f_Text_moved) = true)
    {f_Text_at : Addr} {od_Text_at an_Text_at : Option Addr} {sl_Text_at : Array (Option Value)} {oc_Text_at kV_Text_at dc_Text_at pm_Text_at cd_Text_at ct_Text_at : Value}
    (a_Text_at : PySem.W.findIn K (.ref C_Text) "at" = some (some (.ref f_Text_at)))
    (l_Text_at : K.lookup f_Text_at = some ⟨oc_Text_at, od_Text_at, .func (PySem.W.fnOf "at" "Text.at" (defArgs s_Text_at) (defBody s_Text_at) (defScope s_Text_at) .none kV_Text_at dc_Text_at pm_Text_at an_Text_at cd_Text_at ct_Text_at), sl_Text_at⟩) (c_Text_at : PySem.W.codeIn K cd_Text_at "Text.at" = true) (k_Text_at : PySem.W.keepIn K (.ref f_Text_at) = true) (i_Text_at : PySem.W.isFn K (.ref f_Text_at) = true)
    {f_Text_part : Addr} {od_Text_part an_Text_part : Option Addr} {sl_Text_part : Array (Option Value)} {oc_Text_part kV_Text_part dc_Text_part pm_Text_part cd_Text_part ct_Text_part : Value}
    (a_Text_part : PySem.W.findIn K (.ref C_Text) "part" = some (some (.ref f_Text_part)))
    (l_Text_part : K.lookup f_Text_part = some ⟨oc_Text_part, od_Text_part, .func (PySem.W.fnOf "part" "Text.part" (defArgs s_Text_part) (defBody s_Text_part) (defScope s_Text_part) .none kV_Text_part dc_Text_part pm_Text_part an_Text_part cd_Text_part ct_Text_part), sl_Text_part⟩) (c_Text_part : PySem.W.codeIn K cd_Text_part "Text.part" = true) (k_Text_part : PySem.W.keepIn K (.ref f_Text_part) = true) (i_Text_part : PySem.W.isFn K (.ref f_Text_part) = true)
    {f_Text_with_part : Addr} {od_Text_with_part an_Text_with_part : Option Addr} {sl_Text_with_part : Array (Option Value)} {oc_Text_with_part kV_Text_with_part dc_Text_with_part pm_Text_with_part cd_Text_with_part ct_Text_with_part : Value}
    (a_Text_with_part : PySem.W.findIn K (.ref C_Text) "with_part" = some (some (.ref f_Text_with_part)))
    (l_Text_with_part : K.lookup f_Text_with_part = some ⟨oc_Text_with_part, od_Text_with_part, .func (PySem.W.fnOf "with_part" "Text.with_part" (defArgs s_Text_with_part) (defBody s_Text_with_part) (defScope s_Text_with_part) .none kV_Text_with_part dc_Text_with_part pm_Text_with_part an_Text_with_part cd_Text_with_part ct_Text_with_part), sl_Text_with_part⟩) (c_Text_with_part : PySem.W.codeIn K cd_Text_with_part "Text.with_part" = true) (k_Text_with_part : PySem.W.keepIn K (.ref f_Text_with_part) = true) (i_Text_with_part : PySem.W.isFn K (.ref f_Text_with_part) = true)
    {f_Text_check_bounds : Addr} {od_Text_check_bounds an_Text_check_bounds : Option Addr} {sl_Text_check_bounds : Array (Option Value)} {oc_Text_check_bounds kV_Text_check_bounds dc_Text_check_bounds pm_Text_check_bounds cd_Text_check_bounds ct_Text_check_bounds : Value}
    (a_Text_check_bounds : PySem.W.findIn K (.ref C_Text) "_check_bounds" = some (some (.ref f_Text_check_bounds)))
    (l_Text_check_bounds : K.lookup f_Text_check_bounds = some ⟨oc_Text_check_bounds, od_Text_check_bounds, .func (PySem.W.fnOf "_check_bounds" "Text._check_bounds" (defArgs s_Text_check_bounds) (defBody s_Text_check_bounds) (defScope s_Text_check_bounds) .none kV_Text_check_bounds dc_Text_check_bounds pm_Text_check_bounds an_Text_check_bounds cd_Text_check_bounds ct_Text_check_bounds), sl_Text_check_bounds⟩) (c_Text_check_bounds : PySem.W.codeIn K cd_Text_check_bounds "Text._check_bounds" = true) (k_Text_check_bounds : PySem.W.keepIn K (.ref f_Text_check_bounds) = true) (i_Text_check_bounds : PySem.W.isFn K (.ref f_Text_check_bounds) = true)
    {f_Text_add : Addr} {od_Text_add an_Text_add : Option Addr} {sl_Text_add : Array (Option Value)} {oc_Text_add kV_Text_add dc_Text_add pm_Text_add cd_Text_add ct_Text_add : Value}
    (a_Text_add : PySem.W.findIn K (.ref C_Text) "__add__" = some (some (.ref f_Text_add)))
    (l_Text_add : K.lookup f_Text_add = some ⟨oc_Text_add, od_Text_add, .func (PySem.W.fnOf "__add__" "Text.__add__" (defArgs s_Text_add) (defBody s_Text_add) (defScope s_Text_add) .none kV_Text_add dc_Text_add pm_Text_add an_Text_add cd_Text_add ct_Text_add), sl_Text_add⟩) (c_Text_add : PySem.W.codeIn K cd_Text_add "Text.__add__" = true) (k_Text_add : PySem.W.keepIn K (.ref f_Text_add) = true) (i_Text_add : PySem.W.isFn K (.ref f_Text_add) = true)
    (sf_Text : PySem.W.selfFirst K C_Text = true)
    {f_Text_len : Addr} {od_Text_len an_Text_len : Option Addr} {sl_Text_len : Array (Option Value)} {oc_Text_len kV_Text_len dc_Text_len pm_Text_len cd_Text_len ct_Text_len : Value}
    (a_Text_len : PySem.W.findIn K (.ref C_Text) "__len__" = some (some (.ref f_Text_len)))
    (l_Text_len : K.lookup f_Text_len = some ⟨oc_Text_len, od_Text_len, .func (PySem.W.fnOf "__len__" "Text.__len__" (defArgs s_Text_len) (defBody s_Text_len) (defScope s_Text_len) .none kV_Text_len dc_Text_len pm_Text_len an_Text_len cd_Text_len ct_Text_len), sl_Text_len⟩) (c_Text_len : PySem.W.codeIn K cd_Text_len "Text.__len__" = true) (k_Text_len : PySem.W.keepIn K (.ref f_Text_len) = true) (i_Text_len : PySem.W.isFn K (.ref f_Text_len) = true)
    {f_Text_str : Addr} {od_Text_str an_Text_str : Option Addr} {sl_Text_str : Array (Option Value)} {oc_Text_str kV_Text_str dc_Text_str pm_Text_str cd_Text_str ct_Text_str : Value}
    (a_Text_str : PySem.W.findIn K (.ref C_Text) "__str__" = some (some (.ref f_Text_str)))
    (l_Text_str : K.lookup f_Text_str = some ⟨oc_Text_str, od_Text_str, .func (PySem.W.fnOf "__str__" "Text.__str__" (defArgs s_Text_str) (defBody s_Text_str) (defScope s_Text_str) .none kV_Text_str dc_Text_str pm_Text_str an_Text_str cd_Text_str ct_Text_str), sl_Text_str⟩) (c_Text_str : PySem.W.codeIn K cd_Text_str "Text.__str__" = true) (k_Text_str : PySem.W.keepIn K (.ref f_Text_str) = true) (i_Text_str : PySem.W.isFn K (.ref f_Text_str) = true)
    {f_dice : Addr} {od_dice an_dice : Option Addr} {sl_dice : Array (Option Value)} {oc_dice kV_dice dc_dice pm_dice cd_dice ct_dice : Value}
    (a_dice : PySem.W.nsIn K mainGlobals "_law_dice" = some (some (.ref f_dice))) (l_dice : K.lookup f_dice = some ⟨oc_dice, od_dice, .func (PySem.W.fnOf "_law_dice" "_law_dice" (defArgs s_dice) (defBody s_dice) (defScope s_dice) .none kV_dice dc_dice pm_dice an_dice cd_dice ct_dice), sl_dice⟩) (c_dice : PySem.W.codeIn K cd_dice "_law_dice" = true) (k_dice : PySem.W.keepIn K (.ref f_dice) = true)
    {f_roll : Addr} {od_roll an_roll : Option Addr} {sl_roll : Array (Option Value)} {oc_roll kV_roll dc_roll pm_roll cd_roll ct_roll : Value}
    (a_roll : PySem.W.nsIn K mainGlobals "_law_roll" = some (some (.ref f_roll))) (l_roll : K.lookup f_roll = some ⟨oc_roll, od_roll, .func (PySem.W.fnOf "_law_roll" "_law_roll" (defArgs s_roll) (defBody s_roll) (defScope s_roll) .none kV_roll dc_roll pm_roll an_roll cd_roll ct_roll), sl_roll⟩) (c_roll : PySem.W.codeIn K cd_roll "_law_roll" = true) (k_roll : PySem.W.keepIn K (.ref f_roll) = true)
    {f_text_made : Addr} {od_text_made an_text_made : Option Addr} {sl_text_made : Array (Option Value)} {oc_text_made kV_text_made dc_text_made pm_text_made cd_text_made ct_text_made : Value}
    (a_text_made : PySem.W.nsIn K mainGlobals "_law_text_made" = some (some (.ref f_text_made))) (l_text_made : K.lookup f_text_made = some ⟨oc_text_made, od_text_made, .func (PySem.W.fnOf "_law_text_made" "_law_text_made" (defArgs s_text_made) (defBody s_text_made) (defScope s_text_made) .none kV_text_made dc_text_made pm_text_made an_text_made cd_text_made ct_text_made), sl_text_made⟩) (c_text_made : PySem.W.codeIn K cd_text_made "_law_text_made" = true) (k_text_made : PySem.W.keepIn K (.ref f_text_made) = true)
    {f_met : Addr} {od_met an_met : Option Addr} {sl_met : Array (Option Value)} {oc_met kV_met dc_met pm_met cd_met ct_met : Value}
    (a_met : PySem.W.nsIn K mainGlobals "_law_met" = some (some (.ref f_met))) (l_met : K.lookup f_met = some ⟨oc_met, od_met, .func (PySem.W.fnOf "_law_met" "_law_met" (defArgs s_met) (defBody s_met) (defScope s_met) .none kV_met dc_met pm_met an_met cd_met ct_met), sl_met⟩) (c_met : PySem.W.codeIn K cd_met "_law_met" = true) (k_met : PySem.W.keepIn K (.ref f_met) = true)
    {f_right : Addr} {od_right an_right : Option Addr} {sl_right : Array (Option Value)} {oc_right kV_right dc_right pm_right ct_right : Value}
    {ka_right P_right : Addr} {odk_right : Option Addr} {slk_right : Array (Option Value)} {vs_right : Array Value} (a_right : PySem.W.nsIn K mainGlobals "_law_right" = some (some (.ref f_right))) (l_right : K.lookup f_right = some ⟨oc_right, od_right, .func (PySem.W.fnOf "_law_right" "_law_right" (defArgs s_right) (defBody s_right) (defScope s_right) .none kV_right dc_right pm_right an_right (.ref ka_right) ct_right), sl_right⟩) (c_right : PySem.W.codeIn K (.ref ka_right) "_law_right" = true) (k_right : PySem.W.keepIn K (.ref f_right) = true)
    (lk_right : K.lookup ka_right = some ⟨.type "code", odk_right, .fields vs_right, slk_right⟩) (v_right : vs_right[11]? = some (.ref P_right)) (h_right : PySem.W.codeHdIn K ka_right P_right = true) (n_right : K.lookup P_right = none) (e_right : h.get? P_right = some { cls := .none, data := .fields #[] })
    {f_law : Addr} {od_law an_law : Option Addr} {sl_law : Array (Option Value)} {oc_law kV_law dc_law pm_law ct_law : Value}
    {ka_law P_law : Addr} {odk_law : Option Addr} {slk_law : Array (Option Value)} {vs_law : Array Value} (a_law : PySem.W.nsIn K mainGlobals "law" = some (some (.ref f_law))) (l_law : K.lookup f_law = some ⟨oc_law, od_law, .func (PySem.W.fnOf "law" "law" (defArgs s_law) (defBody s_law) (defScope s_law) .none kV_law dc_law pm_law an_law (.ref ka_law) ct_law), sl_law⟩) (c_law : PySem.W.codeIn K (.ref ka_law) "law" = true) (k_law : PySem.W.keepIn K (.ref f_law) = true)
    (lk_law : K.lookup ka_law = some ⟨.type "code", odk_law, .fields vs_law, slk_law⟩) (v_law : vs_law[11]? = some (.ref P_law)) (h_law : PySem.W.codeHdIn K ka_law P_law = true) (n_law : K.lookup P_law = none) (e_law : h.get? P_law = some { cls := .none, data := .fields #[] })
    {t_MAX_LETTERS : Tok} (m_MAX_LETTERS : PySem.W.nsIn K mainGlobals "MAX_LETTERS" = some (some (.int (8) t_MAX_LETTERS)))
    {t_MAX_COLUMN : Tok} (m_MAX_COLUMN : PySem.W.nsIn K mainGlobals "MAX_COLUMN" = some (some (.int (199) t_MAX_COLUMN)))
    {t_MAX_WORDS : Tok} (m_MAX_WORDS : PySem.W.nsIn K mainGlobals "MAX_WORDS" = some (some (.int (6) t_MAX_WORDS)))
    {t_MAX_LINES : Tok} (m_MAX_LINES : PySem.W.nsIn K mainGlobals "MAX_LINES" = some (some (.int (60) t_MAX_LINES)))
    (z_isinstance : PySem.W.nsIn K mainGlobals "isinstance" = some none)
    (z_int : PySem.W.nsIn K mainGlobals "int" = some none)
    (z_bool : PySem.W.nsIn K mainGlobals "bool" = some none)
    (z_abs : PySem.W.nsIn K mainGlobals "abs" = some none)
    (z_str : PySem.W.nsIn K mainGlobals "str" = some none)
    (z_len : PySem.W.nsIn K mainGlobals "len" = some none)
    (z_tuple : PySem.W.nsIn K mainGlobals "tuple" = some none)
    (z_all : PySem.W.nsIn K mainGlobals "all" = some none)
    (z_list : PySem.W.nsIn K mainGlobals "list" = some none)
    (z_zip : PySem.W.nsIn K mainGlobals "zip" = some none)
    (z_min : PySem.W.nsIn K mainGlobals "min" = some none)
    (z_max : PySem.W.nsIn K mainGlobals "max" = some none)
    (z_repr : PySem.W.nsIn K mainGlobals "repr" = some none)
    (z_range : PySem.W.nsIn K mainGlobals "range" = some none) 
    (hne : P_right ≠ P_law) : LamX.LawAtS l w K L2.CX0 17 63 "_law_script" mg fa h := by
  have e := hfa.symm.trans (PySem.W.mg_of X G a_law)
  cases e
  let T : Txt K mg := {
    ty_InvalidText := ty_InvalidText,
    ty_ParseError := ty_ParseError,
    ty_TooMany := ty_TooMany,
    ty_InvalidNumber := ty_InvalidNumber,
    su_InvalidText_InvalidText := su_InvalidText_InvalidText,
    su_InvalidText_ParseError := su_InvalidText_ParseError,
    su_InvalidText_TooMany := su_InvalidText_TooMany,
    su_InvalidText_InvalidNumber := su_InvalidText_InvalidNumber,
    su_ParseError_InvalidText := su_ParseError_InvalidText,
    su_ParseError_ParseError := su_ParseError_ParseError,
    su_ParseError_TooMany := su_ParseError_TooMany,
    su_ParseError_InvalidNumber := su_ParseError_InvalidNumber,
    su_TooMany_InvalidText := su_TooMany_InvalidText,
    su_TooMany_ParseError := su_TooMany_ParseError,
    su_TooMany_TooMany := su_TooMany_TooMany,
    su_TooMany_InvalidNumber := su_TooMany_InvalidNumber,
    su_InvalidNumber_InvalidText := su_InvalidNumber_InvalidText,
    su_InvalidNumber_ParseError := su_InvalidNumber_ParseError,
    su_InvalidNumber_TooMany := su_InvalidNumber_TooMany,
    su_InvalidNumber_InvalidNumber := su_InvalidNumber_InvalidNumber,
    C_InvalidText := C_InvalidText, gC_InvalidText := PySem.W.mg_of X G gC_InvalidText, x_InvalidText := xcB_ok x_InvalidText,
    xi_InvalidText := xi_InvalidText, st_InvalidText := st_InvalidText,
    C_ParseError := C_ParseError, gC_ParseError := PySem.W.mg_of X G gC_ParseError, x_ParseError := xcB_ok x_ParseError,
    C_TooMany := C_TooMany, gC_TooMany := PySem.W.mg_of X G gC_TooMany, x_TooMany := xcB_ok x_TooMany,
    C_InvalidNumber := C_InvalidNumber, gC_InvalidNumber := PySem.W.mg_of X G gC_InvalidNumber, x_InvalidNumber := xcB_ok x_InvalidNumber,
    C_Text := C_Text, gC_Text := PySem.W.mg_of X G gC_Text, cl_Text := ⟨pg_Text, hd_Text, po_Text, sa_Text⟩, rd_Text := ⟨rr_Text, ga_Text⟩,
    ci_Text := ⟨⟨pg_Text, hd_Text, po_Text, sa_Text⟩, cia_Text, cin_Text, cit_Text, cim_Text⟩,
    nA_Text_lines := nA_Text_lines,
    nA_Text_columns := nA_Text_columns,
    nA_Text_words := nA_Text_words,
    f_ParseError_init := f_ParseError_init, fd_ParseError_init := _, F_ParseError_init := fun_mk (st := s_ParseError_init) l_ParseError_init c_ParseError_init k_ParseError_init, b_ParseError_init := (fun_mk (st := s_ParseError_init) l_ParseError_init c_ParseError_init k_ParseError_init).binds (ps := ["self", "line"]) (fun _ _ _ _ _ _ us hl => match us, hl with | [_, _], _ => rfl),
    xi_ParseError := xi_ParseError, xo_ParseError := xo_ParseError, tk_ParseError := tk_ParseError, nf_ParseError := nf_ParseError, i_ParseError := a_ParseError_init, ti_ParseError := ti_ParseError,
    f_TooMany_init := f_TooMany_init, fd_TooMany_init := _, F_TooMany_init := fun_mk (st := s_TooMany_init) l_TooMany_init c_TooMany_init k_TooMany_init, b_TooMany_init := (fun_mk (st := s_TooMany_init) l_TooMany_init c_TooMany_init k_TooMany_init).binds (ps := ["self", "limit"]) (fun _ _ _ _ _ _ us hl => match us, hl with | [_, _], _ => rfl),
    xi_TooMany := xi_TooMany, xo_TooMany := xo_TooMany, tk_TooMany := tk_TooMany, nf_TooMany := nf_TooMany, i_TooMany := a_TooMany_init, ti_TooMany := ti_TooMany,
    f_InvalidNumber_init := f_InvalidNumber_init, fd_InvalidNumber_init := _, F_InvalidNumber_init := fun_mk (st := s_InvalidNumber_init) l_InvalidNumber_init c_InvalidNumber_init k_InvalidNumber_init, b_InvalidNumber_init := (fun_mk (st := s_InvalidNumber_init) l_InvalidNumber_init c_InvalidNumber_init k_InvalidNumber_init).binds (ps := ["self", "number"]) (fun _ _ _ _ _ _ us hl => match us, hl with | [_, _], _ => rfl),
    xi_InvalidNumber := xi_InvalidNumber, xo_InvalidNumber := xo_InvalidNumber, tk_InvalidNumber := tk_InvalidNumber, nf_InvalidNumber := nf_InvalidNumber, i_InvalidNumber := a_InvalidNumber_init, ti_InvalidNumber := ti_InvalidNumber,
    f_is_integer := f_is_integer, fd_is_integer := _, F_is_integer := fun_mk (st := s_is_integer) l_is_integer c_is_integer k_is_integer, g_is_integer := PySem.W.mg_of X G a_is_integer, b_is_integer := (fun_mk (st := s_is_integer) l_is_integer c_is_integer k_is_integer).binds (ps := ["value"]) (fun _ _ _ _ _ _ us hl => match us, hl with | [_], _ => rfl),
    f_check_number := f_check_number, fd_check_number := _, F_check_number := fun_mk (st := s_check_number) l_check_number c_check_number k_check_number, g_check_number := PySem.W.mg_of X G a_check_number, b_check_number := (fun_mk (st := s_check_number) l_check_number c_check_number k_check_number).binds (ps := ["value", "least", "greatest"]) (fun _ _ _ _ _ _ us hl => match us, hl with | [_, _, _], _ => rfl),
    f_is_word := f_is_word, fd_is_word := _, F_is_word := fun_mk (st := s_is_word) l_is_word c_is_word k_is_word, g_is_word := PySem.W.mg_of X G a_is_word, b_is_word := (fun_mk (st := s_is_word) l_is_word c_is_word k_is_word).binds (ps := ["value"]) (fun _ _ _ _ _ _ us hl => match us, hl with | [_], _ => rfl),
    f_is_column := f_is_column, fd_is_column := _, F_is_column := fun_mk (st := s_is_column) l_is_column c_is_column k_is_column, g_is_column := PySem.W.mg_of X G a_is_column, b_is_column := (fun_mk (st := s_is_column) l_is_column c_is_column k_is_column).binds (ps := ["value"]) (fun _ _ _ _ _ _ us hl => match us, hl with | [_], _ => rfl),
    f_is_words_of_line := f_is_words_of_line, fd_is_words_of_line := _, F_is_words_of_line := fun_mk (st := s_is_words_of_line) l_is_words_of_line c_is_words_of_line k_is_words_of_line, g_is_words_of_line := PySem.W.mg_of X G a_is_words_of_line, b_is_words_of_line := (fun_mk (st := s_is_words_of_line) l_is_words_of_line c_is_words_of_line k_is_words_of_line).binds (ps := ["value"]) (fun _ _ _ _ _ _ us hl => match us, hl with | [_], _ => rfl),
    f_is_line := f_is_line, fd_is_line := _, F_is_line := fun_mk (st := s_is_line) l_is_line c_is_line k_is_line, g_is_line := PySem.W.mg_of X G a_is_line, b_is_line := (fun_mk (st := s_is_line) l_is_line c_is_line k_is_line).binds (ps := ["value"]) (fun _ _ _ _ _ _ us hl => match us, hl with | [_], _ => rfl),
    f_written_line := f_written_line, fd_written_line := _, F_written_line := fun_mk (st := s_written_line) l_written_line c_written_line k_written_line, g_written_line := PySem.W.mg_of X G a_written_line, b_written_line := (fun_mk (st := s_written_line) l_written_line c_written_line k_written_line).binds (ps := ["line"]) (fun _ _ _ _ _ _ us hl => match us, hl with | [_], _ => rfl),
    f_line_written := f_line_written, fd_line_written := _, F_line_written := fun_mk (st := s_line_written) l_line_written c_line_written k_line_written, g_line_written := PySem.W.mg_of X G a_line_written, b_line_written := (fun_mk (st := s_line_written) l_line_written c_line_written k_line_written).binds (ps := ["row"]) (fun _ _ _ _ _ _ us hl => match us, hl with | [_], _ => rfl),
    f_rows_of := f_rows_of, fd_rows_of := _, F_rows_of := fun_mk (st := s_rows_of) l_rows_of c_rows_of k_rows_of, g_rows_of := PySem.W.mg_of X G a_rows_of, b_rows_of := (fun_mk (st := s_rows_of) l_rows_of c_rows_of k_rows_of).binds (ps := ["string"]) (fun _ _ _ _ _ _ us hl => match us, hl with | [_], _ => rfl),
    f_are_columns := f_are_columns, fd_are_columns := _, F_are_columns := fun_mk (st := s_are_columns) l_are_columns c_are_columns k_are_columns, g_are_columns := PySem.W.mg_of X G a_are_columns, b_are_columns := (fun_mk (st := s_are_columns) l_are_columns c_are_columns k_are_columns).binds (ps := ["value", "many"]) (fun _ _ _ _ _ _ us hl => match us, hl with | [_, _], _ => rfl),
    f_are_words := f_are_words, fd_are_words := _, F_are_words := fun_mk (st := s_are_words) l_are_words c_are_words k_are_words, g_are_words := PySem.W.mg_of X G a_are_words, b_are_words := (fun_mk (st := s_are_words) l_are_words c_are_words k_are_words).binds (ps := ["value"]) (fun _ _ _ _ _ _ us hl => match us, hl with | [_], _ => rfl),
    f_Text_init := f_Text_init, fd_Text_init := _, F_Text_init := fun_mk (st := s_Text_init) l_Text_init c_Text_init k_Text_init,
    bs_Text_init := StX.bind_star1 (B := fun vs => bindArgs (PySem.W.fnOf "__init__" "Text.__init__" (defArgs s_Text_init) (defBody s_Text_init) (defScope s_Text_init) .none kV_Text_init dc_Text_init pm_Text_init an_Text_init cd_Text_init ct_Text_init) ⟨vs, []⟩) (fun _ => rfl) (fun _ _ _ => rfl),
    mk_Text := ⟨mk_Text, a_Text_init, i_Text_init, kc_Text⟩,
    f_Text_read := f_Text_read, fd_Text_read := _, F_Text_read := fun_mk (st := s_Text_read) l_Text_read c_Text_read k_Text_read,
    b_Text_read := (fun_mk (st := s_Text_read) l_Text_read c_Text_read k_Text_read).binds (ps := ["cls", "string"]) (fun _ _ _ _ _ _ us hl => match us, hl with | [_, _], _ => rfl),
    pa_Text_read := pa_Text_read, cm_Text_read := ⟨a_Text_read, ⟨rs_Text_read, pr_Text_read⟩, fi_Text_read⟩,
    f_Text_made := f_Text_made, fd_Text_made := _, F_Text_made := fun_mk (st := s_Text_made) l_Text_made c_Text_made k_Text_made,
    b_Text_made := (fun_mk (st := s_Text_made) l_Text_made c_Text_made k_Text_made).binds (ps := ["cls", "columns", "words"]) (fun _ _ _ _ _ _ us hl => match us, hl with | [_, _, _], _ => rfl),
    pa_Text_made := pa_Text_made, cm_Text_made := ⟨a_Text_made, ⟨rs_Text_made, pr_Text_made⟩, fi_Text_made⟩,
    f_Text_lines := f_Text_lines, fd_Text_lines := _, F_Text_lines := fun_mk (st := s_Text_lines) l_Text_lines c_Text_lines k_Text_lines,
    b_Text_lines := (fun_mk (st := s_Text_lines) l_Text_lines c_Text_lines k_Text_lines).binds (ps := ["self"]) (fun _ _ _ _ _ _ us hl => match us, hl with | [_], _ => rfl),
    pa_Text_lines := pa_Text_lines, p_Text_lines := ⟨a_Text_lines, pg_Text_lines, pt_Text_lines, rs_Text_lines, pr_Text_lines⟩,
    f_Text_columns := f_Text_columns, fd_Text_columns := _, F_Text_columns := fun_mk (st := s_Text_columns) l_Text_columns c_Text_columns k_Text_columns,
    b_Text_columns := (fun_mk (st := s_Text_columns) l_Text_columns c_Text_columns k_Text_columns).binds (ps := ["self"]) (fun _ _ _ _ _ _ us hl => match us, hl with | [_], _ => rfl),
    pa_Text_columns := pa_Text_columns, p_Text_columns := ⟨a_Text_columns, pg_Text_columns, pt_Text_columns, rs_Text_columns, pr_Text_columns⟩,
    f_Text_words := f_Text_words, fd_Text_words := _, F_Text_words := fun_mk (st := s_Text_words) l_Text_words c_Text_words k_Text_words,
    b_Text_words := (fun_mk (st := s_Text_words) l_Text_words c_Text_words k_Text_words).binds (ps := ["self"]) (fun _ _ _ _ _ _ us hl => match us, hl with | [_], _ => rfl),
    pa_Text_words := pa_Text_words, p_Text_words := ⟨a_Text_words, pg_Text_words, pt_Text_words, rs_Text_words, pr_Text_words⟩,
    f_Text_least := f_Text_least, fd_Text_least := _, F_Text_least := fun_mk (st := s_Text_least) l_Text_least c_Text_least k_Text_least,
    b_Text_least := (fun_mk (st := s_Text_least) l_Text_least c_Text_least k_Text_least).binds (ps := ["self"]) (fun _ _ _ _ _ _ us hl => match us, hl with | [_], _ => rfl),
    pa_Text_least := pa_Text_least, p_Text_least := ⟨a_Text_least, pg_Text_least, pt_Text_least, rs_Text_least, pr_Text_least⟩,
    f_Text_greatest := f_Text_greatest, fd_Text_greatest := _, F_Text_greatest := fun_mk (st := s_Text_greatest) l_Text_greatest c_Text_greatest k_Text_greatest,
    b_Text_greatest := (fun_mk (st := s_Text_greatest) l_Text_greatest c_Text_greatest k_Text_greatest).binds (ps := ["self"]) (fun _ _ _ _ _ _ us hl => match us, hl with | [_], _ => rfl),
    pa_Text_greatest := pa_Text_greatest, p_Text_greatest := ⟨a_Text_greatest, pg_Text_greatest, pt_Text_greatest, rs_Text_greatest, pr_Text_greatest⟩,
    f_Text_moved := f_Text_moved, fd_Text_moved := _, F_Text_moved := fun_mk (st := s_Text_moved) l_Text_moved c_Text_moved k_Text_moved,
    b_Text_moved := (fun_mk (st := s_Text_moved) l_Text_moved c_Text_moved k_Text_moved).binds (ps := ["self", "by"]) (fun _ _ _ _ _ _ us hl => match us, hl with | [_, _], _ => rfl),
    m_Text_moved := ⟨a_Text_moved, i_Text_moved, k_Text_moved⟩,
    f_Text_at := f_Text_at, fd_Text_at := _, F_Text_at := fun_mk (st := s_Text_at) l_Text_at c_Text_at k_Text_at,
    b_Text_at := (fun_mk (st := s_Text_at) l_Text_at c_Text_at k_Text_at).binds (ps := ["self", "columns"]) (fun _ _ _ _ _ _ us hl => match us, hl with | [_, _], _ => rfl),
    m_Text_at := ⟨a_Text_at, i_Text_at, k_Text_at⟩,
    f_Text_part := f_Text_part, fd_Text_part := _, F_Text_part := fun_mk (st := s_Text_part) l_Text_part c_Text_part k_Text_part,
    b_Text_part := (fun_mk (st := s_Text_part) l_Text_part c_Text_part k_Text_part).binds (ps := ["self", "first", "last"]) (fun _ _ _ _ _ _ us hl => match us, hl with | [_, _, _], _ => rfl),
    m_Text_part := ⟨a_Text_part, i_Text_part, k_Text_part⟩,
    f_Text_with_part := f_Text_with_part, fd_Text_with_part := _, F_Text_with_part := fun_mk (st := s_Text_with_part) l_Text_with_part c_Text_with_part k_Text_with_part,
    b_Text_with_part := (fun_mk (st := s_Text_with_part) l_Text_with_part c_Text_with_part k_Text_with_part).binds (ps := ["self", "first", "last", "other"]) (fun _ _ _ _ _ _ us hl => match us, hl with | [_, _, _, _], _ => rfl),
    m_Text_with_part := ⟨a_Text_with_part, i_Text_with_part, k_Text_with_part⟩,
    f_Text_check_bounds := f_Text_check_bounds, fd_Text_check_bounds := _, F_Text_check_bounds := fun_mk (st := s_Text_check_bounds) l_Text_check_bounds c_Text_check_bounds k_Text_check_bounds,
    b_Text_check_bounds := (fun_mk (st := s_Text_check_bounds) l_Text_check_bounds c_Text_check_bounds k_Text_check_bounds).binds (ps := ["self", "first", "last"]) (fun _ _ _ _ _ _ us hl => match us, hl with | [_, _, _], _ => rfl),
    m_Text_check_bounds := ⟨a_Text_check_bounds, i_Text_check_bounds, k_Text_check_bounds⟩,
    f_Text_add := f_Text_add, fd_Text_add := _, F_Text_add := fun_mk (st := s_Text_add) l_Text_add c_Text_add k_Text_add,
    b_Text_add := (fun_mk (st := s_Text_add) l_Text_add c_Text_add k_Text_add).binds (ps := ["self", "other"]) (fun _ _ _ _ _ _ us hl => match us, hl with | [_, _], _ => rfl),
    o_Text_add := a_Text_add, of_Text_add := i_Text_add,
    sf_Text := sf_Text,
    f_Text_len := f_Text_len, fd_Text_len := _, F_Text_len := fun_mk (st := s_Text_len) l_Text_len c_Text_len k_Text_len,
    b_Text_len := (fun_mk (st := s_Text_len) l_Text_len c_Text_len k_Text_len).binds (ps := ["self"]) (fun _ _ _ _ _ _ us hl => match us, hl with | [_], _ => rfl),
    o_Text_len := a_Text_len, of_Text_len := i_Text_len,
    f_Text_str := f_Text_str, fd_Text_str := _, F_Text_str := fun_mk (st := s_Text_str) l_Text_str c_Text_str k_Text_str,
    b_Text_str := (fun_mk (st := s_Text_str) l_Text_str c_Text_str k_Text_str).binds (ps := ["self"]) (fun _ _ _ _ _ _ us hl => match us, hl with | [_], _ => rfl),
    o_Text_str := a_Text_str, of_Text_str := i_Text_str,
    f_dice := f_dice, fd_dice := _, F_dice := fun_mk (st := s_dice) l_dice c_dice k_dice, g_dice := PySem.W.mg_of X G a_dice, b_dice := (fun_mk (st := s_dice) l_dice c_dice k_dice).binds (ps := ["_law_script", "_law_spot"]) (fun _ _ _ _ _ _ us hl => match us, hl with | [_, _], _ => rfl),
    f_roll := f_roll, fd_roll := _, F_roll := fun_mk (st := s_roll) l_roll c_roll k_roll, g_roll := PySem.W.mg_of X G a_roll, b_roll := (fun_mk (st := s_roll) l_roll c_roll k_roll).binds (ps := ["_law_dice_here", "_law_total"]) (fun _ _ _ _ _ _ us hl => match us, hl with | [_, _], _ => rfl),
    f_text_made := f_text_made, fd_text_made := _, F_text_made := fun_mk (st := s_text_made) l_text_made c_text_made k_text_made, g_text_made := PySem.W.mg_of X G a_text_made, b_text_made := (fun_mk (st := s_text_made) l_text_made c_text_made k_text_made).binds (ps := ["_law_lines"]) (fun _ _ _ _ _ _ us hl => match us, hl with | [_], _ => rfl),
    f_met := f_met, fd_met := _, F_met := fun_mk (st := s_met) l_met c_met k_met, g_met := PySem.W.mg_of X G a_met, b_met := (fun_mk (st := s_met) l_met c_met k_met).binds (ps := ["_law_call"]) (fun _ _ _ _ _ _ us hl => match us, hl with | [_], _ => rfl),
    f_right := f_right, fd_right := _, k_right := ka_right, F_right := ⟨⟨_, _, _, _, _, _, _, _, rfl, l_right, c_right⟩, k_right⟩, g_right := PySem.W.mg_of X G a_right, b_right := (fun_mk (st := s_right) l_right c_right k_right).binds (ps := ["_law_dice_here"]) (fun _ _ _ _ _ _ us hl => match us, hl with | [_], _ => rfl),
    t_MAX_LETTERS := t_MAX_LETTERS, c_MAX_LETTERS := PySem.W.mg_of X G m_MAX_LETTERS,
    t_MAX_COLUMN := t_MAX_COLUMN, c_MAX_COLUMN := PySem.W.mg_of X G m_MAX_COLUMN,
    t_MAX_WORDS := t_MAX_WORDS, c_MAX_WORDS := PySem.W.mg_of X G m_MAX_WORDS,
    t_MAX_LINES := t_MAX_LINES, c_MAX_LINES := PySem.W.mg_of X G m_MAX_LINES,
    z_isinstance := PySem.W.mg_none_of X G z_isinstance,
    z_int := PySem.W.mg_none_of X G z_int,
    z_bool := PySem.W.mg_none_of X G z_bool,
    z_abs := PySem.W.mg_none_of X G z_abs,
    z_str := PySem.W.mg_none_of X G z_str,
    z_len := PySem.W.mg_none_of X G z_len,
    z_tuple := PySem.W.mg_none_of X G z_tuple,
    z_all := PySem.W.mg_none_of X G z_all,
    z_list := PySem.W.mg_none_of X G z_list,
    z_zip := PySem.W.mg_none_of X G z_zip,
    z_min := PySem.W.mg_none_of X G z_min,
    z_max := PySem.W.mg_none_of X G z_max,
    z_repr := PySem.W.mg_none_of X G z_repr,
    z_range := PySem.W.mg_none_of X G z_range }
  refine ⟨_, [(ka_right, P_right), (ka_law, P_law)], spLawT K P_right P_law, fun p hp => ?_, fun p hp => ?_, fun p hp => ?_, fun s v => .of_eq rfl, fun H a ns hl _ hT hS => ⟨a, ns, rfl, hS, hl, hT _ (.head _), hT _ (.tail _ (.head _)), fun _ => rfl⟩, fun base _ _ TBs => ok_law T ⟨⟨_, _, _, _, _, _, _, _, rfl, l_law, c_law⟩, k_law⟩ (TBs _ (.head _)) (TBs _ (.tail _ (.head _))) hne⟩
  · simp only [List.mem_cons, List.not_mem_nil, or_false] at hp
    rcases hp with rfl | rfl
    · exact e_right
    · exact e_law
  · simp only [List.mem_cons, List.not_mem_nil, or_false] at hp
    rcases hp with rfl | rfl
    · exact n_right
    · exact n_law
  · simp only [List.mem_cons, List.not_mem_nil, or_false] at hp
    rcases hp with rfl | rfl
    · exact PySem.W.codeHd_of_K X h_right
    · exact PySem.W.codeHd_of_K X h_law
end My
open PySem PySem.W PyProof.Rows
set_option maxHeartbeats 0 in
theorem PySem.Challenge.cw_offside_k13_bounds_of_texts_holds : PySem.Challenge.rw_offside_k13_bounds_of_texts.Holds := by
  w_on; o_law; k_head; (case hw => w_witness2)
  k_fill
  refine LamX.walk_ofTs (l := PySem.Challenge.rw_offside_k13_bounds_of_texts) (n := 63) (k := 17) (x := "_law_script") (CX := fun _ => L2.CX0) rfl (by decide) rfl ⟨rfl, by decide, by decide⟩ (fun w h Y => PySem.W.km_in_of Y) ?F (fun _ _ _ _ _ h => h)
  case F =>
    intro w mg fa h Y KX G hmg
    have hT8 := PySem.W.km_tabs_of Y
    refine' My.all_mk KX G hmg ?ty_InvalidText ?ty_ParseError ?ty_TooMany ?ty_InvalidNumber ?su_InvalidText_InvalidText ?su_InvalidText_ParseError ?su_InvalidText_TooMany ?su_InvalidText_InvalidNumber ?su_ParseError_InvalidText ?su_ParseError_ParseError ?su_ParseError_TooMany ?su_ParseError_InvalidNumber ?su_TooMany_InvalidText ?su_TooMany_ParseError ?su_TooMany_TooMany ?su_TooMany_InvalidNumber ?su_InvalidNumber_InvalidText ?su_InvalidNumber_ParseError ?su_InvalidNumber_TooMany ?su_InvalidNumber_InvalidNumber ?gC_InvalidText ?x_InvalidText ?xi_InvalidText ?st_InvalidText ?gC_ParseError ?x_ParseError ?gC_TooMany ?x_TooMany ?gC_InvalidNumber ?x_InvalidNumber ?gC_Text ?pg_Text ?hd_Text ?po_Text ?sa_Text ?kc_Text ?rr_Text ?ga_Text ?cia_Text ?cin_Text ?cit_Text ?cim_Text ?nA_Text_lines ?nA_Text_columns ?nA_Text_words ?a_ParseError_init ?l_ParseError_init ?c_ParseError_init ?k_ParseError_init ?xi_ParseError ?xo_ParseError ?tk_ParseError ?nf_ParseError ?ti_ParseError ?a_TooMany_init ?l_TooMany_init ?c_TooMany_init ?k_TooMany_init ?xi_TooMany ?xo_TooMany ?tk_TooMany ?nf_TooMany ?ti_TooMany ?a_InvalidNumber_init ?l_InvalidNumber_init ?c_InvalidNumber_init ?k_InvalidNumber_init ?xi_InvalidNumber ?xo_InvalidNumber ?tk_InvalidNumber ?nf_InvalidNumber ?ti_InvalidNumber ?a_is_integer ?l_is_integer ?c_is_integer ?k_is_integer ?a_check_number ?l_check_number ?c_check_number ?k_check_number ?a_is_word ?l_is_word ?c_is_word ?k_is_word ?a_is_column ?l_is_column ?c_is_column ?k_is_column ?a_is_words_of_line ?l_is_words_of_line ?c_is_words_of_line ?k_is_words_of_line ?a_is_line ?l_is_line ?c_is_line ?k_is_line ?a_written_line ?l_written_line ?c_written_line ?k_written_line ?a_line_written ?l_line_written ?c_line_written ?k_line_written ?a_rows_of ?l_rows_of ?c_rows_of ?k_rows_of ?a_are_columns ?l_are_columns ?c_are_columns ?k_are_columns ?a_are_words ?l_are_words ?c_are_words ?k_are_words ?a_Text_init ?l_Text_init ?c_Text_init ?k_Text_init ?i_Text_init ?mk_Text ?a_Text_read ?pr_Text_read ?l_Text_read ?c_Text_read ?k_Text_read ?i_Text_read ?fi_Text_read ?a_Text_made ?pr_Text_made ?l_Text_made ?c_Text_made ?k_Text_made ?i_Text_made ?fi_Text_made ?a_Text_lines ?pg_Text_lines ?pt_Text_lines ?pr_Text_lines ?l_Text_lines ?c_Text_lines ?k_Text_lines ?i_Text_lines ?a_Text_columns ?pg_Text_columns ?pt_Text_columns ?pr_Text_columns ?l_Text_columns ?c_Text_columns ?k_Text_columns ?i_Text_columns ?a_Text_words ?pg_Text_words ?pt_Text_words ?pr_Text_words ?l_Text_words ?c_Text_words ?k_Text_words ?i_Text_words ?a_Text_least ?pg_Text_least ?pt_Text_least ?pr_Text_least ?l_Text_least ?c_Text_least ?k_Text_least ?i_Text_least ?a_Text_greatest ?pg_Text_greatest ?pt_Text_greatest ?pr_Text_greatest ?l_Text_greatest ?c_Text_greatest ?k_Text_greatest ?i_Text_greatest ?a_Text_moved ?l_Text_moved ?c_Text_moved ?k_Text_moved ?i_Text_moved ?a_Text_at ?l_Text_at ?c_Text_at ?k_Text_at ?i_Text_at ?a_Text_part ?l_Text_part ?c_Text_part ?k_Text_part ?i_Text_part ?a_Text_with_part ?l_Text_with_part ?c_Text_with_part ?k_Text_with_part ?i_Text_with_part ?a_Text_check_bounds ?l_Text_check_bounds ?c_Text_check_bounds ?k_Text_check_bounds ?i_Text_check_bounds ?a_Text_add ?l_Text_add ?c_Text_add ?k_Text_add ?i_Text_add ?sf_Text ?a_Text_len ?l_Text_len ?c_Text_len ?k_Text_len ?i_Text_len ?a_Text_str ?l_Text_str ?c_Text_str ?k_Text_str ?i_Text_str ?a_dice ?l_dice ?c_dice ?k_dice ?a_roll ?l_roll ?c_roll ?k_roll ?a_text_made ?l_text_made ?c_text_made ?k_text_made ?a_met ?l_met ?c_met ?k_met ?a_right ?l_right ?c_right ?k_right ?lk_right ?v_right ?h_right ?n_right ?e_right ?a_law ?l_law ?c_law ?k_law ?lk_law ?v_law ?h_law ?n_law ?e_law ?m_MAX_LETTERS ?m_MAX_COLUMN ?m_MAX_WORDS ?m_MAX_LINES ?z_isinstance ?z_int ?z_bool ?z_abs ?z_str ?z_len ?z_tuple ?z_all ?z_list ?z_zip ?z_min ?z_max ?z_repr ?z_range ?hne
    (case ty_InvalidText => first | k_is | kernel_rfl); (case ty_ParseError => first | k_is | kernel_rfl); (case ty_TooMany => first | k_is | kernel_rfl); (case ty_InvalidNumber => first | k_is | kernel_rfl); (case su_InvalidText_InvalidText => first | k_is | kernel_rfl); (case su_InvalidText_ParseError => first | k_is | kernel_rfl); (case su_InvalidText_TooMany => first | k_is | kernel_rfl); (case su_InvalidText_InvalidNumber => first | k_is | kernel_rfl); (case su_ParseError_InvalidText => first | k_is | kernel_rfl); (case su_ParseError_ParseError => first | k_is | kernel_rfl); (case su_ParseError_TooMany => first | k_is | kernel_rfl); (case su_ParseError_InvalidNumber => first | k_is | kernel_rfl); (case su_TooMany_InvalidText => first | k_is | kernel_rfl); (case su_TooMany_ParseError => first | k_is | kernel_rfl); (case su_TooMany_TooMany => first | k_is | kernel_rfl); (case su_TooMany_InvalidNumber => first | k_is | kernel_rfl); (case su_InvalidNumber_InvalidText => first | k_is | kernel_rfl); (case su_InvalidNumber_ParseError => first | k_is | kernel_rfl); (case su_InvalidNumber_TooMany => first | k_is | kernel_rfl); (case su_InvalidNumber_InvalidNumber => first | k_is | kernel_rfl); (case gC_InvalidText => k_is); (case x_InvalidText => kernel_rfl); (case xi_InvalidText => kernel_rfl); (case st_InvalidText => k_is); (case gC_ParseError => k_is); (case x_ParseError => kernel_rfl); (case gC_TooMany => k_is); (case x_TooMany => kernel_rfl); (case gC_InvalidNumber => k_is); (case x_InvalidNumber => kernel_rfl); (case gC_Text => k_is); (case pg_Text => k_is); (case hd_Text => k_is); (case po_Text => k_is); (case sa_Text => k_is); (case kc_Text => k_is); (case rr_Text => first | k_is | kernel_rfl); (case ga_Text => first | k_is | kernel_rfl); (case cia_Text => first | k_is | kernel_rfl); (case cin_Text => first | k_is | kernel_rfl); (case cit_Text => first | k_is | kernel_rfl); (case cim_Text => first | k_is | kernel_rfl); (case nA_Text_lines => k_is); (case nA_Text_columns => k_is); (case nA_Text_words => k_is); (case a_ParseError_init => k_is); (case l_ParseError_init => k_is); (case c_ParseError_init => k_is); (case k_ParseError_init => k_is); (case xi_ParseError => kernel_rfl); (case xo_ParseError => kernel_rfl); (case tk_ParseError => k_is); (case nf_ParseError => k_is); (case ti_ParseError => k_is); (case a_TooMany_init => k_is); (case l_TooMany_init => k_is); (case c_TooMany_init => k_is); (case k_TooMany_init => k_is); (case xi_TooMany => kernel_rfl); (case xo_TooMany => kernel_rfl); (case tk_TooMany => k_is); (case nf_TooMany => k_is); (case ti_TooMany => k_is); (case a_InvalidNumber_init => k_is); (case l_InvalidNumber_init => k_is); (case c_InvalidNumber_init => k_is); (case k_InvalidNumber_init => k_is); (case xi_InvalidNumber => kernel_rfl); (case xo_InvalidNumber => kernel_rfl); (case tk_InvalidNumber => k_is); (case nf_InvalidNumber => k_is); (case ti_InvalidNumber => k_is); (case a_is_integer => k_is); (case l_is_integer => k_is); (case c_is_integer => k_is); (case k_is_integer => k_is); (case a_check_number => k_is); (case l_check_number => k_is); (case c_check_number => k_is); (case k_check_number => k_is); (case a_is_word => k_is); (case l_is_word => k_is); (case c_is_word => k_is); (case k_is_word => k_is); (case a_is_column => k_is); (case l_is_column => k_is); (case c_is_column => k_is); (case k_is_column => k_is); (case a_is_words_of_line => k_is); (case l_is_words_of_line => k_is); (case c_is_words_of_line => k_is); (case k_is_words_of_line => k_is); (case a_is_line => k_is); (case l_is_line => k_is); (case c_is_line => k_is); (case k_is_line => k_is); (case a_written_line => k_is); (case l_written_line => k_is); (case c_written_line => k_is); (case k_written_line => k_is); (case a_line_written => k_is); (case l_line_written => k_is); (case c_line_written => k_is); (case k_line_written => k_is); (case a_rows_of => k_is); (case l_rows_of => k_is); (case c_rows_of => k_is); (case k_rows_of => k_is); (case a_are_columns => k_is); (case l_are_columns => k_is); (case c_are_columns => k_is); (case k_are_columns => k_is); (case a_are_words => k_is); (case l_are_words => k_is); (case c_are_words => k_is); (case k_are_words => k_is); (case a_Text_init => k_is); (case l_Text_init => k_is); (case c_Text_init => k_is); (case k_Text_init => k_is); (case i_Text_init => k_is); (case mk_Text => k_is); (case a_Text_read => first | k_is | kernel_rfl); (case pr_Text_read => first | k_is | kernel_rfl); (case l_Text_read => k_is); (case c_Text_read => k_is); (case k_Text_read => k_is); (case i_Text_read => k_is); (case fi_Text_read => first | k_is | kernel_rfl); (case a_Text_made => first | k_is | kernel_rfl); (case pr_Text_made => first | k_is | kernel_rfl); (case l_Text_made => k_is); (case c_Text_made => k_is); (case k_Text_made => k_is); (case i_Text_made => k_is); (case fi_Text_made => first | k_is | kernel_rfl); (case a_Text_lines => first | k_is | kernel_rfl); (case pg_Text_lines => first | k_is | kernel_rfl); (case pt_Text_lines => first | k_is | kernel_rfl); (case pr_Text_lines => first | k_is | kernel_rfl); (case l_Text_lines => k_is); (case c_Text_lines => k_is); (case k_Text_lines => k_is); (case i_Text_lines => k_is); (case a_Text_columns => first | k_is | kernel_rfl); (case pg_Text_columns => first | k_is | kernel_rfl); (case pt_Text_columns => first | k_is | kernel_rfl); (case pr_Text_columns => first | k_is | kernel_rfl); (case l_Text_columns => k_is); (case c_Text_columns => k_is); (case k_Text_columns => k_is); (case i_Text_columns => k_is); (case a_Text_words => first | k_is | kernel_rfl); (case pg_Text_words => first | k_is | kernel_rfl); (case pt_Text_words => first | k_is | kernel_rfl); (case pr_Text_words => first | k_is | kernel_rfl); (case l_Text_words => k_is); (case c_Text_words => k_is); (case k_Text_words => k_is); (case i_Text_words => k_is); (case a_Text_least => first | k_is | kernel_rfl); (case pg_Text_least => first | k_is | kernel_rfl); (case pt_Text_least => first | k_is | kernel_rfl); (case pr_Text_least => first | k_is | kernel_rfl); (case l_Text_least => k_is); (case c_Text_least => k_is); (case k_Text_least => k_is); (case i_Text_least => k_is); (case a_Text_greatest => first | k_is | kernel_rfl); (case pg_Text_greatest => first | k_is | kernel_rfl); (case pt_Text_greatest => first | k_is | kernel_rfl); (case pr_Text_greatest => first | k_is | kernel_rfl); (case l_Text_greatest => k_is); (case c_Text_greatest => k_is); (case k_Text_greatest => k_is); (case i_Text_greatest => k_is); (case a_Text_moved => k_is); (case l_Text_moved => k_is); (case c_Text_moved => k_is); (case k_Text_moved => k_is); (case i_Text_moved => k_is); (case a_Text_at => k_is); (case l_Text_at => k_is); (case c_Text_at => k_is); (case k_Text_at => k_is); (case i_Text_at => k_is); (case a_Text_part => k_is); (case l_Text_part => k_is); (case c_Text_part => k_is); (case k_Text_part => k_is); (case i_Text_part => k_is); (case a_Text_with_part => k_is); (case l_Text_with_part => k_is); (case c_Text_with_part => k_is); (case k_Text_with_part => k_is); (case i_Text_with_part => k_is); (case a_Text_check_bounds => k_is); (case l_Text_check_bounds => k_is); (case c_Text_check_bounds => k_is); (case k_Text_check_bounds => k_is); (case i_Text_check_bounds => k_is); (case a_Text_add => k_is); (case l_Text_add => k_is); (case c_Text_add => k_is); (case k_Text_add => k_is); (case i_Text_add => k_is); (case sf_Text => first | k_is | kernel_rfl); (case a_Text_len => k_is); (case l_Text_len => k_is); (case c_Text_len => k_is); (case k_Text_len => k_is); (case i_Text_len => k_is); (case a_Text_str => k_is); (case l_Text_str => k_is); (case c_Text_str => k_is); (case k_Text_str => k_is); (case i_Text_str => k_is); (case a_dice => k_is); (case l_dice => k_is); (case c_dice => k_is); (case k_dice => k_is); (case a_roll => k_is); (case l_roll => k_is); (case c_roll => k_is); (case k_roll => k_is); (case a_text_made => k_is); (case l_text_made => k_is); (case c_text_made => k_is); (case k_text_made => k_is); (case a_met => k_is); (case l_met => k_is); (case c_met => k_is); (case k_met => k_is); (case a_right => k_is); (case l_right => k_is); (case c_right => k_is); (case k_right => k_is); (case lk_right => k_is); (case v_right => rfl); (case h_right => kernel_rfl); (case n_right => first | k_is | kernel_rfl); (case e_right => exact hT8 _ (by k_mem)); (case a_law => k_is); (case l_law => k_is); (case c_law => k_is); (case k_law => k_is); (case lk_law => k_is); (case v_law => rfl); (case h_law => kernel_rfl); (case n_law => first | k_is | kernel_rfl); (case e_law => exact hT8 _ (by k_mem)); (case m_MAX_LETTERS => k_is); (case m_MAX_COLUMN => k_is); (case m_MAX_WORDS => k_is); (case m_MAX_LINES => k_is); (case z_isinstance => k_is); (case z_int => k_is); (case z_bool => k_is); (case z_abs => k_is); (case z_str => k_is); (case z_len => k_is); (case z_tuple => k_is); (case z_all => k_is); (case z_list => k_is); (case z_zip => k_is); (case z_min => k_is); (case z_max => k_is); (case z_repr => k_is); (case z_range => k_is); (case hne => decide)
