import PyProof.Rows.All
import HandS.Base
import HandS.Call
import HandS.List
import HandS.Comp
import HandS.Ends
import HandS.Words
import HandS.WordsList
import HandS.Text
import HandS.StrMore
import HandS.Iter
import HandS.Walk
import HandS.IsInst
import HandS.Conv
import HandS.Dict
import HandS.NoneIn
import HandS.More
import HandS.Deep
import HandS.TupMul
import HandS.Style
import HandS.TupAny
import HandS.Evl
import HandS.Exc
import HandS.ExcOwn
import HandS.ExcInit
import HandS.ExcValue
import HandS.ExcField
import HandS.ExcIs
import HandS.Star
import KE.KExcIs
import KE.KExcStr
import PyProof.InstStoreFacts
import PyProof.ExcBaseAll.LookupError
import PyProof.ExcBaseAll.IndexError
import PyProof.ExcBaseAll.RuntimeError
import PyProof.ExcBaseAll.OverflowError
import PyProof.ExcBaseAll.ArithmeticError
import KE.KDictCopyH
import PyProof.ReprRoads
import PyProof.ReprReads
import PySem.Challenge.RW_offside_k00_errors_and_what_they_keep
set_option Elab.async false
set_option linter.all false
set_option maxRecDepth 100000
set_option maxHeartbeats 4000000
--HEADEND
namespace My
open PySem PySem.Spec PyProof.Rows L2
/-! ### rules that the layer lacks, and its own with their readings named -/
/-- the one-sign texts of a list of signs -/
def sg (cs : List Nat) : List V := cs.map fun c => .str ⟨#[c]⟩
section
variable {X : Cx}
def wListS : List V → Hp → VK → Prop := fun xs H Q => ∃ z : Str, xs = [.str z] ∧ z.length ≤ sizeLine ∧ ∀ l, H l = none → Q (.ref l) (upd H l (.lst (sg z.cps.toList)))
theorem c_listS (hc : X.calm = true) : CallR X (.type "list") wListS := by
  intro pins s σ H xs us Q I r h
  obtain ⟨z, rfl, hz, q⟩ := h
  obtain ⟨u, rfl, t, rfl⟩ := vals1 r
  refine call_list_str (I.ok.hd hc) z t (fun h' tk acc' c' hkeep hS hacc => ?_) hz
  refine ⟨.ref s.heap.objs.size, upd H s.heap.objs.size (.lst (sg z.cps.toList)), I.laid hkeep (Nat.le_refl _) (show ObjOk X.prog X.w _ _ _ (.lst (sg z.cps.toList)) from ⟨?_, acc'.toList, c', ?_, ?_⟩), rfl, q _ (I.hok.fresh (Nat.le_refl _))⟩
  · unfold sg
    rw [List.length_map, Array.length_toList]
    exact hz
  · refine vals_of_at (by unfold sg; rw [List.length_map, Array.length_toList, Array.length_toList, hacc.1]) fun j x w h1 h2 => ?_
    obtain ⟨c, u, hc1, e⟩ := hacc.2 j w (by rw [← Array.getElem?_toList]; exact h2)
    unfold sg at h1
    rw [List.getElem?_map, Array.getElem?_toList, hc1] at h1
    cases h1
    exact ⟨u, e⟩
  · rw [Array.toArray_toList]
    exact hS
theorem op_powW : OpR X (binaryOp .Pow) (rI (fun i j => 0 ≤ j ∧ (Builtin.Int.intBits i : Int) * j ≤ 2 ^ 27) fun i j => .int (i ^ j.toNat)) := opI fun _ _ _ _ _ _ _ hc q => pow_int hc.1 hc.2 q
def wReprB : List V → Hp → VK → Prop := fun xs H Q => ∃ b, xs = [.bl b] ∧ Q (.str (if b then "True" else "False")) H
theorem call_repr_bl : CallR X (.builtin "repr") wReprB := by
  intro pins s σ H xs us Q I r h
  obtain ⟨b, rfl, q⟩ := h
  obtain ⟨u, rfl, rx⟩ := vals1 r
  cases rx
  exact PySem.P.repr_of_bool ⟨.str _, H, I.tok _, ⟨_, rfl⟩, q⟩
def wInt1 : List V → Hp → VK → Prop := fun xs H Q => (∃ i, xs = [.int i] ∧ Q (.int i) H) ∨ ∃ k, xs = [.bl k] ∧ Q (.int (if k then 1 else 0)) H
theorem c_int1 : CallR X (.type "int") wInt1 := call_int1
def wAbs : List V → Hp → VK → Prop := fun xs H Q => ∃ i, xs = [.int i] ∧ Q (.int (if i < 0 then -i else i)) H
theorem c_abs : CallR X (.builtin "abs") wAbs := call_abs
def wMax2 : List V → Hp → VK → Prop := fun xs H Q => ∃ i j, xs = [.int i, .int j] ∧ Q (.int (if j > i then j else i)) H
theorem c_max2 (hc : X.calm = true) : CallR X (.builtin "max") wMax2 := call_max2 hc
def wMin2 : List V → Hp → VK → Prop := fun xs H Q => ∃ i j, xs = [.int i, .int j] ∧ Q (.int (if j < i then j else i)) H
theorem c_min2 (hc : X.calm = true) : CallR X (.builtin "min") wMin2 := call_min2 hc
def wLenS (K : PySem.W.Frag) : List V → Hp → VK → Prop := fun xs H Q => ∃ p ys, xs = [.ref p] ∧ (SqL K H p ys ∨ SqT K H p ys) ∧ Q (.int (ys.length : Int)) H
theorem c_len {K : PySem.W.Frag} (hK : X.K = K := by rfl) : CallR X (.builtin "len") (wLenS K) := by
  subst hK
  exact call_len_seq
def wLenT : List V → Hp → VK → Prop := fun xs H Q => ∃ z, xs = [.str z] ∧ z.length ≤ sizeLine ∧ Q (.int (z.length : Int)) H
theorem c_lenT : CallR X (.builtin "len") wLenT := call_len_str
def wListOf (K : PySem.W.Frag) : List V → Hp → VK → Prop := fun xs H Q => ∃ p ys, xs = [.ref p] ∧ (SqL K H p ys ∨ SqT K H p ys) ∧ ∀ l, H l = none → Q (.ref l) (upd H l (.lst ys))
theorem c_list {K : PySem.W.Frag} (hK : X.K = K := by rfl) : CallR X (.type "list") (wListOf K) := by
  subst hK
  exact call_list_of
def wTupleOf (K : PySem.W.Frag) : List V → Hp → VK → Prop := fun xs H Q => ∃ p ys, xs = [.ref p] ∧ ((SqL K H p ys ∧ ∀ l, H l = none → Q (.ref l) (upd H l (.tup ys))) ∨ (SqT K H p ys ∧ Q (.ref p) H))
theorem c_tuple {K : PySem.W.Frag} (hK : X.K = K := by rfl) : CallR X (.type "tuple") (wTupleOf K) := by
  subst hK
  exact call_tuple_of
def wStrB (f : Str → Bool) : V → List V → Hp → VK → Prop := fun x xs H Q => ∃ a, x = .str a ∧ xs = [] ∧ True ∧ Q (.bl (f a)) H
theorem c_isascii : MtR X "str.isascii" (wStrB Txt.isascii) := mt_isascii
theorem c_isalpha : MtR X "str.isalpha" (wStrB Txt.isalpha) := mt_isalpha
theorem c_islower : MtR X "str.islower" (wStrB Txt.islower) := mt_islower
def wAddS : R2 := fun x y H Q => ∃ i j, x = .str i ∧ y = .str j ∧ i.length + j.length ≤ sizeLine ∧ Q (.str (i ++ j)) H
theorem o_adds : OpR X (binaryOp .Add) wAddS := op_add_str
def wNotInC : R2 := fun x y H Q => ∃ (c : Nat) (z : Str), x = .str ⟨#[c]⟩ ∧ y = .str z ∧ Q (.bl (!decide (c ∈ z.cps.toList))) H
theorem o_notInC : OpR X (compareOp .NotIn) wNotInC := op_notIn_sign
def wJoin (K : PySem.W.Frag) : V → List V → Hp → VK → Prop := fun x xs H Q => ∃ a p, ∃ ys : List Str, x = .str a ∧ xs = [.ref p] ∧ (SqL K H p (ys.map V.str) ∨ SqT K H p (ys.map V.str)) ∧
    (ys.map (·.length)).sum + ys.length * a.length ≤ 16777216 ∧ Q (.str (Txt.join a ys)) H
def wInsert : V → List V → Hp → VK → Prop := fun x vs H Q => ∃ (l : Addr) (xs : List V) (i : Int) (y : V), x = .ref l ∧ vs = [.int i, y] ∧ H l = some (.lst xs) ∧ xs.length < sizeLine ∧ 0 ≤ i ∧ i < 2 ^ 63 ∧
    Q .non (upd H l (.lst (xs.take i.toNat ++ [y] ++ xs.drop i.toNat)))
theorem c_insert : MtR X "list.insert" wInsert := mt_insert
theorem c_join {K : PySem.W.Frag} (hK : X.K = K := by rfl) : MtR X "str.join" (wJoin K) := by
  subst hK
  exact mt_join
theorem c_isi {K : PySem.W.Frag} (hK : X.K = K := by rfl) : CallR X (.builtin "isinstance") (rIsi K) := by
  subst hK
  exact call_isi
theorem o_eqD {K : PySem.W.Frag} (hu : X.A.units + 64 < cLine) (hK : X.K = K := by rfl) : OpR X (compareOp .Eq) (rEqD K) := by
  subst hK
  exact op_eqD hu
theorem o_neD {K : PySem.W.Frag} (hu : X.A.units + 64 < cLine) (hK : X.K = K := by rfl) : OpR X (compareOp .NotEq) (rNeD K) := by
  subst hK
  exact op_neD hu
theorem o_inD {K : PySem.W.Frag} (hu : X.A.units + 65 < cLine) (hK : X.K = K := by rfl) : OpR X (compareOp .In) (rInD K) := by
  subst hK
  exact op_inD hu
theorem o_notInD {K : PySem.W.Frag} (hu : X.A.units + 65 < cLine) (hK : X.K = K := by rfl) : OpR X (compareOp .NotIn) (rNotInD K) := by
  subst hK
  exact op_notInD hu
theorem hu65 {k : Nat} {A : Around} (hr : Room k A) : A.units + 65 < cLine := by
  have := hr.un
  omega
theorem o_inL {K : PySem.W.Frag} (hK : X.K = K := by rfl) : OpR X (compareOp .In) (rIn K false) := by
  subst hK
  exact op_in_seq
theorem o_notInL {K : PySem.W.Frag} (hK : X.K = K := by rfl) : OpR X (compareOp .NotIn) (rIn K true) := by
  subst hK
  exact op_notIn_seq
theorem i_list {K : PySem.W.Frag} (hK : X.K = K := by rfl) : IxR X (rIxL K) := by
  subst hK
  exact ix_list
theorem i_tup {K : PySem.W.Frag} (hK : X.K = K := by rfl) : IxR X (rIxT K) := by
  subst hK
  exact ix_tup
theorem s_list {K : PySem.W.Frag} (hK : X.K = K := by rfl) : SlR X (rSlL K) := by
  subst hK
  exact sl_list
theorem p_list {K : PySem.W.Frag} {tg l : Expr} {tl : TE} (hl : PE X l tl) (hK : X.K = K := by rfl) : PI X tg l (iList K tl) := by
  subst hK
  exact pi_list hl
theorem p_tup {K : PySem.W.Frag} {tg l : Expr} {tl : TE} (hl : PE X l tl) (hK : X.K = K := by rfl) : PI X tg l (iTup K tl) := by
  subst hK
  exact pi_tup hl
theorem c_all {K : PySem.W.Frag} (hc : X.calm = true) (hK : X.K = K := by rfl) : CallR X (.builtin "all") (rAll K) := by
  subst hK
  exact cr_all hc
theorem e_bm0 {K : PySem.W.Frag} {T id : String} {name : Str} {r : V → List V → Hp → VK → Prop} {o : Expr} {to : TE} {apos cpos : Pos} (pa : PlainAttrs T) (slot : Slot T name id) (hty : typeOf (.builtin id) = pure (.type "method_descriptor")) (hm : MtR X id r) (ho : PE X o to) (hK : X.K = K := by rfl)
    (hbase : attributeBase o name X.env (eval o X.env) = eval o X.env := by rfl) (hline : (apos.endLine == cpos.line) = true := by rfl) : PE X (.Call (.Attribute o name apos) [] [] cpos) (tBM0 K T r to) := by
  subst hK
  exact pe_bm0 pa slot hty hm ho hbase hline
theorem e_bm {K : PySem.W.Frag} {T id : String} {name : Str} {r : V → List V → Hp → VK → Prop} {o e : Expr} {es : List Expr} {to : TE} {t : TA} {apos cpos : Pos} (pa : PlainAttrs T) (slot : Slot T name id) (hty : typeOf (.builtin id) = pure (.type "method_descriptor")) (hm : MtR X id r) (ho : PE X o to) (ha : PA X (e :: es) t) (hK : X.K = K := by rfl)
    (hbase : attributeBase o name X.env (eval o X.env) = eval o X.env := by rfl)
    (hfew : ((backTo cpos (starEach (e :: es) X.env)).all (fun x => !x.1) && (backToKw cpos (keywordEach [] X.env)).all (fun x => x.1.isSome)
      && decide ((e :: es).length + ([] : List Keyword).length + (if ([] : List Keyword).isEmpty then 0 else 1) < 30)) = true := by rfl)
    (hline : (apos.endLine == cpos.line) = true := by rfl) (hs : starEach (e :: es) X.env = (false, eval e X.env) :: starEach es X.env := by rfl) (hplain : (backTo cpos (starEach es X.env)).any (·.1) = false := by rfl) :
    PE X (.Call (.Attribute o name apos) (e :: es) [] cpos) (tBM K T r to t) := by
  subst hK
  exact pe_bm pa slot hty hm ho ha hbase hfew hline hs hplain
end
/-! ### steps of a reading -/
section
variable {K : PySem.W.Frag} {σ : L2.St} {H : Hp} {D : Ends}
theorem r_var {i : Nat} {v : V} {Q : VK} (h : σ[i]? = some (some v)) (q : Q v H) : tVar i σ H Q := ⟨v, h, q⟩
theorem r_c {v : V} {Q : VK} (q : Q v H) : tC v σ H Q := q
theorem r_op {r : R2} {ta tb : TE} {Q : VK} (q : ta σ H fun x H1 => tb σ H1 fun y H2 => r x y H2 Q) : tOp r ta tb σ H Q := q
theorem r_un {r : V → Hp → VK → Prop} {ta : TE} {Q : VK} (q : ta σ H fun x H1 => r x H1 Q) : tUn r ta σ H Q := q
theorem r_I0 {g : Int → Int → V} {i j : Int} {Q : VK} (q : Q (g i j) H) : rI0 g (.int i) (.int j) H Q := ⟨i, j, rfl, rfl, q⟩
theorem r_I {C : Int → Int → Prop} {g : Int → Int → V} {i j : Int} {Q : VK} (hc : C i j) (q : Q (g i j) H) : rI C g (.int i) (.int j) H Q := ⟨i, j, rfl, rfl, hc, q⟩
theorem r_U {g : Int → V} {i : Int} {Q : VK} (q : Q (g i) H) : rU g (.int i) H Q := ⟨i, rfl, q⟩
theorem r_eq {x y : V} {Q : VK} (hs : scal x y = true) (q : Q (.bl (decide (x = y))) H) : rEq x y H Q := ⟨hs, q⟩
theorem r_ne {x y : V} {Q : VK} (hs : scal x y = true) (q : Q (.bl (!decide (x = y))) H) : rNe x y H Q := ⟨hs, q⟩
theorem r_nil {Q : List V → Hp → Prop} (q : Q [] H) : tNil σ H Q := q
theorem r_cons {ta : TE} {tr : TA} {Q : List V → Hp → Prop} (q : ta σ H fun x H1 => tr σ H1 fun xs H2 => Q (x :: xs) H2) : tCons ta tr σ H Q := q
theorem r_cb {r : List V → Hp → VK → Prop} {t : TA} {Q : VK} (q : t σ H fun vs H1 => r vs H1 Q) : tCB r t σ H Q := q
theorem r_call {sp : Sp} {dvs : List V} {E : XK} {t : TA} {Q : VK} (q : t σ H fun vs H1 => sp (vs ++ dvs) H1 Q E) : tCall sp dvs E t σ H Q := q
theorem r_tup {t : TA} {Q : VK} (q : t σ H fun xs H1 => xs.length ≤ sizeLine ∧ ∀ p, H1 p = none → Q (.ref p) (upd H1 p (.tup xs))) : tTup t σ H Q := q
theorem r_lst {t : TA} {Q : VK} (q : t σ H fun xs H1 => xs.length ≤ sizeLine ∧ ∀ p, H1 p = none → Q (.ref p) (upd H1 p (.lst xs))) : tLst t σ H Q := q
theorem r_seq {t u : TS} (q : t { D with nx := u D } σ H) : tSeq t u D σ H := q
theorem r_next (q : D.nx σ H) : tNext D σ H := q
theorem r_asg {te : TE} {g : TG} (q : te σ H fun x H1 => g x σ H1 D.nx) : tAsg te g D σ H := q
theorem r_name {i : Nat} {x : V} {k : L2.St → Hp → Prop} (q : k (σ.set i (some x)) H) : gName i x σ H k := q
theorem r_sub {to ti : TE} {t : TSet} {v : V} {k : L2.St → Hp → Prop} (q : to σ H fun o H1 => ti σ H1 fun i H2 => t o i v H2 fun H3 => k σ H3) : gSub to ti t v σ H k := q
theorem r_setL {p : Addr} {xs : List V} {i : Int} {j : Nat} {v : V} {k : Hp → Prop} (h : H p = some (.lst xs)) (hi : ixN xs.length i = some j) (q : k (upd H p (.lst (xs.set j v)))) : rSetL (.ref p) (.int i) v H k := ⟨p, xs, i, j, rfl, rfl, h, hi, q⟩
theorem r_ifs {c : TT} {t u : TS} (q : c σ H fun b H1 => if b = true then t D σ H1 else u D σ H1) : tIfS c t u D σ H := q
theorem r_ret {te : TE} (q : te σ H D.rt) : tRet te D σ H := q
theorem r_drop {te : TE} (q : te σ H fun _ H1 => D.nx σ H1) : tDrop te D σ H := q
theorem r_test {t : TE} {Q : Bool → Hp → Prop} (q : t σ H fun x H' => ∃ k, x = .bl k ∧ Q k H') : tTest t σ H Q := q
theorem r_B {t : TE} {Q : Bool → Hp → Prop} (q : t σ H fun x H' => ∃ k, x = .bl k ∧ Q k H') : tB t σ H Q := q
theorem r_not {t : TT} {Q : Bool → Hp → Prop} (q : t σ H fun c H1 => Q (!c) H1) : tNot t σ H Q := q
theorem r_and {t u : TT} {Q : Bool → Hp → Prop} (q : t σ H fun c H1 => if c = true then u σ H1 Q else Q false H1) : tAnd t u σ H Q := q
theorem r_or {t u : TT} {Q : Bool → Hp → Prop} (q : t σ H fun c H1 => if c = true then Q true H1 else u σ H1 Q) : tOr t u σ H Q := q
theorem r_notV {ta : TE} {Q : VK} (q : ta σ H fun x H1 => ∃ c, x = .bl c ∧ Q (.bl (!c)) H1) : tNotV ta σ H Q := q
theorem r_andV {ta tb : TE} {Q : VK} (q : ta σ H fun x H1 => ∃ c, x = .bl c ∧ if c = true then tb σ H1 Q else Q (.bl false) H1) : tAndV ta tb σ H Q := q
theorem r_orV {ta tb : TE} {Q : VK} (q : ta σ H fun x H1 => ∃ c, x = .bl c ∧ if c = true then Q (.bl true) H1 else tb σ H1 Q) : tOrV ta tb σ H Q := q
theorem r_if {t : TT} {ta tb : TE} {Q : VK} (q : t σ H fun c H1 => if c = true then ta σ H1 Q else tb σ H1 Q) : tIf t ta tb σ H Q := q
theorem r_chain {r r' : R2} {ta tb tc : TE} {Q : VK} (q : ta σ H fun x H1 => tb σ H1 fun y H2 => r x y H2 fun z H3 => ∃ k, z = .bl k ∧ (if k = true then tc σ H3 fun w' H4 => r' y w' H4 Q else Q (.bl false) H3)) : tChain r r' ta tb tc σ H Q := q
theorem r_bl {b : Bool} {P : Bool → Prop} (q : P b) : ∃ k, V.bl b = V.bl k ∧ P k := ⟨b, rfl, q⟩
theorem r_ixL {p : Addr} {xs : List V} {i : Int} {v : V} {Q : VK} (h : H p = some (.lst xs)) (ha : atI xs i = some v) (q : Q v H) : rIxL K (.ref p) (.int i) H Q := ⟨p, xs, i, v, rfl, rfl, .inl (.inl h), ha, q⟩
theorem r_ixT {p : Addr} {xs : List V} {i : Int} {v : V} {Q : VK} (h : H p = some (.tup xs)) (ha : atI xs i = some v) (q : Q v H) : rIxT K (.ref p) (.int i) H Q := ⟨p, xs, i, v, rfl, rfl, .inl (.inl h), ha, q⟩
theorem r_int1 {i : Int} {Q : VK} (q : Q (.int i) H) : wInt1 [.int i] H Q := .inl ⟨i, rfl, q⟩
theorem r_int1b {b : Bool} {Q : VK} (q : Q (.int (if b then 1 else 0)) H) : wInt1 [.bl b] H Q := .inr ⟨b, rfl, q⟩
theorem r_abs {i : Int} {Q : VK} (q : Q (.int (if i < 0 then -i else i)) H) : wAbs [.int i] H Q := ⟨i, rfl, q⟩
theorem r_max2 {i j : Int} {Q : VK} (q : Q (.int (if j > i then j else i)) H) : wMax2 [.int i, .int j] H Q := ⟨i, j, rfl, q⟩
theorem r_min2 {i j : Int} {Q : VK} (q : Q (.int (if j < i then j else i)) H) : wMin2 [.int i, .int j] H Q := ⟨i, j, rfl, q⟩
theorem r_lenL {p : Addr} {ys : List V} {Q : VK} (h : H p = some (.lst ys)) (q : Q (.int (ys.length : Int)) H) : wLenS K [.ref p] H Q := ⟨p, ys, rfl, .inl (.inl (.inl h)), q⟩
theorem r_lenTp {p : Addr} {ys : List V} {Q : VK} (h : H p = some (.tup ys)) (q : Q (.int (ys.length : Int)) H) : wLenS K [.ref p] H Q := ⟨p, ys, rfl, .inr (.inl (.inl h)), q⟩
theorem r_lenT {z : Str} {Q : VK} (h : z.length ≤ sizeLine) (q : Q (.int (z.length : Int)) H) : wLenT [.str z] H Q := ⟨z, rfl, h, q⟩
theorem r_listL {p : Addr} {ys : List V} {Q : VK} (h : H p = some (.lst ys)) (q : ∀ l, H l = none → Q (.ref l) (upd H l (.lst ys))) : wListOf K [.ref p] H Q := ⟨p, ys, rfl, .inl (.inl (.inl h)), q⟩
theorem r_listS {z : Str} {Q : VK} (h : z.length ≤ sizeLine) (q : ∀ l, H l = none → Q (.ref l) (upd H l (.lst (sg z.cps.toList)))) : wListS [.str z] H Q := ⟨z, rfl, h, q⟩
theorem r_tupleL {p : Addr} {ys : List V} {Q : VK} (h : H p = some (.lst ys)) (q : ∀ l, H l = none → Q (.ref l) (upd H l (.tup ys))) : wTupleOf K [.ref p] H Q := ⟨p, ys, rfl, .inl ⟨.inl (.inl h), q⟩⟩
theorem r_reprB {b : Bool} {Q : VK} (q : Q (.str (if b then "True" else "False")) H) : wReprB [.bl b] H Q := ⟨b, rfl, q⟩
theorem r_bm {T : String} {r : V → List V → Hp → VK → Prop} {to : TE} {t : TA} {Q : VK} (q : to σ H fun x H1 => tyV K T x H1 ∧ t σ H1 fun xs H2 => r x xs H2 Q) : tBM K T r to t σ H Q := q
theorem r_bm0 {T : String} {r : V → List V → Hp → VK → Prop} {to : TE} {Q : VK} (q : to σ H fun x H1 => tyV K T x H1 ∧ r x [] H1 Q) : tBM0 K T r to σ H Q := q
theorem r_tyL {p : Addr} {xs : List V} {P : Prop} (h : H p = some (.lst xs)) (q : P) : tyV K "list" (.ref p) H ∧ P := ⟨.inl ⟨rfl, _, .inl (.inl h)⟩, q⟩
theorem r_tyS {z : Str} {P : Prop} (q : P) : tyV K "str" (.str z) H ∧ P := ⟨rfl, q⟩
theorem r_strB {f : Str → Bool} {a : Str} {Q : VK} (q : Q (.bl (f a)) H) : wStrB f (.str a) [] H Q := ⟨a, rfl, rfl, trivial, q⟩
theorem r_addS {i j : Str} {Q : VK} (h : i.length + j.length ≤ sizeLine) (q : Q (.str (i ++ j)) H) : wAddS (.str i) (.str j) H Q := ⟨i, j, rfl, rfl, h, q⟩
theorem r_notInC {c : Nat} {z : Str} {Q : VK} (q : Q (.bl (!decide (c ∈ z.cps.toList))) H) : wNotInC (.str ⟨#[c]⟩) (.str z) H Q := ⟨c, z, rfl, rfl, q⟩
theorem r_append {l : Addr} {xs : List V} {y : V} {Q : VK} (h : H l = some (.lst xs)) (hz : xs.length < sizeLine) (q : Q .non (upd H l (.lst (xs ++ [y])))) : rAppend (.ref l) [y] H Q := ⟨l, xs, y, rfl, rfl, h, hz, q⟩
theorem r_dnew {Q : VK} (q : ∀ p, H p = none → Q (.ref p) (upd H p (.dK []))) : tDNewK σ H Q := q
theorem r_cat {l b : Addr} {xs zs : List V} {Q : VK} (h : H l = some (.lst xs)) (h' : H b = some (.lst zs)) (hz : xs.length + zs.length ≤ sizeLine) (q : ∀ p, H p = none → Q (.ref p) (upd H p (.lst (xs ++ zs)))) : rCat (.ref l) (.ref b) H Q := ⟨l, b, xs, zs, rfl, rfl, h, h', hz, q⟩
theorem r_joinL {a : Str} {p : Addr} {ys : List Str} {Q : VK} (h : H p = some (.lst (ys.map V.str))) (hz : (ys.map (·.length)).sum + ys.length * a.length ≤ 16777216) (q : Q (.str (Txt.join a ys)) H) : wJoin K (.str a) [.ref p] H Q := ⟨a, p, ys, rfl, rfl, .inl (.inl (.inl h)), hz, q⟩
theorem r_rep {l : Addr} {xs : List V} {k : Int} {Q : VK} (h : H l = some (.lst xs)) (h0 : 0 ≤ k) (h1 : k < 1000) (hz : xs.length * k.toNat ≤ sizeLine) (q : ∀ p, H p = none → Q (.ref p) (upd H p (.lst (List.replicate k.toNat xs).flatten))) : rRep (.ref l) (.int k) H Q :=
  ⟨l, k, xs, rfl, rfl, h, by omega, by omega, hz, q⟩
theorem r_insert {l : Addr} {xs : List V} {i : Nat} {y : V} {Q : VK} (h : H l = some (.lst xs)) (hz : xs.length < sizeLine) (hi : i < 1000000) (q : Q .non (upd H l (.lst (xs.take i ++ [y] ++ xs.drop i)))) : wInsert (.ref l) [.int (i : Int), y] H Q :=
  ⟨l, xs, i, y, rfl, rfl, h, hz, Int.natCast_nonneg i, by omega, q⟩
/-- two ways that meet: what holds where they meet gives what follows -/
theorem r_seqJ {t u : TS} (C : L2.St → Hp → Prop) (tail : ∀ σ H, C σ H → u D σ H) (q : (∀ σ H, C σ H → u D σ H) → t { D with nx := u D } σ H) : tSeq t u D σ H := q tail
theorem r_popAt {l : Addr} {xs : List V} {k : Nat} {y : V} {Q : VK} (h : H l = some (.lst xs)) (hz : k < 9223372036854775808) (hy : xs[k]? = some y) (q : Q y (upd H l (.lst (xs.eraseIdx k)))) : rPopAt (.ref l) [.int (k : Int)] H Q := by
  have hk : k < xs.length := (List.getElem?_eq_some_iff.mp hy).1
  have hx : ixN xs.length (k : Int) = some k := by
    unfold ixN
    rw [if_pos (Int.natCast_nonneg k), if_pos (by omega)]
    rfl
  exact ⟨l, xs, k, k, y, rfl, rfl, h, by omega, by omega, (ixN_seq hx).1, hy, q⟩
theorem r_rng1 {ta : TA} {R : It → Hp → Prop} (q : ta σ H fun vs H1 => ∃ j : Int, vs = [.int j] ∧ -(2 ^ 62) ≤ j ∧ j < 2 ^ 62 ∧ R (Itr 0 j.toNat) H1) : iRng1 ta σ H R := q
theorem r_rng1j {j : Int} {P : Int → Prop} (h1 : -(2 ^ 62) ≤ j) (h2 : j < 2 ^ 62) (q : P j) : ∃ j' : Int, [V.int j] = [V.int j'] ∧ -(2 ^ 62) ≤ j' ∧ j' < 2 ^ 62 ∧ P j' := ⟨j, rfl, h1, h2, q⟩
theorem r_iList {tl : TE} {R : It → Hp → Prop} (q : tl σ H fun x H1 => ∃ a, x = .ref a ∧ (∃ xs, SqL K H1 a xs) ∧ R (Itl K a) H1) : iList K tl σ H R := q
theorem r_iListj {a : Addr} {xs : List V} {P : Addr → Prop} (h : H a = some (.lst xs)) (q : P a) : ∃ a', V.ref a = .ref a' ∧ (∃ xs, SqL K H a' xs) ∧ P a' := ⟨a, rfl, ⟨xs, .inl (.inl h)⟩, q⟩
theorem r_iTup {tl : TE} {R : It → Hp → Prop} (q : tl σ H fun x H1 => ∃ a, x = .ref a ∧ (∃ xs, SqT K H1 a xs) ∧ R (Itt K a) H1) : iTup K tl σ H R := q
theorem r_iTupj {a : Addr} {xs : List V} {P : Addr → Prop} (h : H a = some (.tup xs)) (q : P a) : ∃ a', V.ref a = .ref a' ∧ (∃ xs, SqT K H a' xs) ∧ P a' := ⟨a, rfl, ⟨xs, .inl (.inl h)⟩, q⟩
theorem r_all {p : Addr} {bs : List Bool} {Q : VK} (h : H p = some (.lst (bs.map V.bl))) (q : Q (.bl (bs.all id)) H) : rAll K [.ref p] H Q := ⟨p, bs, rfl, .inl (.inl h), q⟩
theorem r_iStr {te : TE} {R : It → Hp → Prop} (q : te σ H fun v H1 => ∃ x, v = .str x ∧ R (Its x) H1) : iStr te σ H R := q
theorem r_iStrj {z : Str} {P : Str → Prop} (q : P z) : ∃ x, V.str z = .str x ∧ P x := ⟨z, rfl, q⟩
def LcB (J : It) (g : TG) (tt : TT) (te : TE) (vs : List Nat) (σ : L2.St) (H1 : Hp) (D : Addr) (Q : VK) : Prop := ∃ W : Nat → Nat → Hp → Prop, (∃ m, W 0 m (upd H1 D (.lst []))) ∧ ∀ i m H, W i m H →
  (J.stop i H ∧ Q (.ref D) H) ∨ (J.go i H ∧ ∃ Nx : Hp → Prop, (∀ H', Nx H' → ∃ m', m' < m ∧ W (i + 1) m' H') ∧ ∀ x H', J.yld i H x H' → g x (wipe σ vs) H' fun σ2 H2 => wipe σ2 vs = wipe σ vs ∧ tt σ2 H2 fun b H3 =>
    if b = true then te σ2 H3 fun y H4 => ∃ acc, H4 D = some (.lst acc) ∧ acc.length < sizeLine ∧ Nx (upd H4 D (.lst (acc ++ [y]))) else Nx H3)
theorem r_lc {wi : TI} {g : TG} {tt : TT} {te : TE} {vs : List Nat} {Q : VK} (q : wi σ H fun J H1 => ∀ D, H1 D = none → LcB J g tt te vs σ H1 D Q) : tLc wi g tt te vs σ H Q := q
def ForB (J : It) (g : TG) (tb : TS) (D : Ends) (σ : L2.St) (H1 : Hp) : Prop := ∃ W : Nat → Nat → L2.St → Hp → Prop, (∃ m, W 0 m σ H1) ∧ ∀ i m σ H, W i m σ H →
  (J.stop i H ∧ D.nx σ H) ∨ (J.go i H ∧ ∃ N : L2.St → Hp → Prop, (∀ σ' H', N σ' H' → ∃ m', m' < m ∧ W (i + 1) m' σ' H') ∧ ∀ x H', J.yld i H x H' → g x σ H' fun σ2 H2 => tb { D with nx := N, ct := N, bk := D.nx } σ2 H2)
theorem r_for {wi : TI} {g : TG} {tb : TS} (q : wi σ H fun J H1 => ForB J g tb D σ H1) : tFor wi g tb D σ H := q
theorem r_yes {Q : Bool → Hp → Prop} (q : Q true H) : tYes σ H Q := q
/-- a comprehension over a walk; Pv by the turn and the heap -/
theorem lcB {J : It} {n : Nat} {G : Hp → Prop} {Y : Nat → Hp → V → Hp → Prop} (w : Walk J n G Y) {g : TG} {tt : TT} {te : TE} {vs : List Nat} {H1 : Hp} {D : Addr} {Q : VK} (Pv : Nat → Hp → Prop) (h0 : Pv 0 (upd H1 D (.lst []))) (hG : ∀ i H, i ≤ n → Pv i H → G H)
    (hs : ∀ i x H H', i < n → Pv i H → Y i H x H' → g x (wipe σ vs) H' fun σ2 H2 => wipe σ2 vs = wipe σ vs ∧ tt σ2 H2 fun b H3 =>
      if b = true then te σ2 H3 fun y H4 => ∃ acc, H4 D = some (.lst acc) ∧ acc.length < sizeLine ∧ Pv (i + 1) (upd H4 D (.lst (acc ++ [y]))) else Pv (i + 1) H3) (hd : ∀ H, Pv n H → Q (.ref D) H) : LcB J g tt te vs σ H1 D Q := lc_it w (Qd := fun H => Q (.ref D) H) Pv h0 hG hs hd
theorem forB {J : It} {n : Nat} {G : Hp → Prop} {Y : Nat → Hp → V → Hp → Prop} (w : Walk J n G Y) {g : TG} {tb : TS} (Pv : Nat → L2.St → Hp → Prop) (h0 : Pv 0 σ H) (hG : ∀ i σ H, i ≤ n → Pv i σ H → G H)
    (hs : ∀ i x σ H H', i < n → Pv i σ H → Y i H x H' → g x σ H' fun σ2 H2 => tb { D with nx := Pv (i + 1), ct := Pv (i + 1), bk := D.nx } σ2 H2) (hd : ∀ σ H, Pv n σ H → D.nx σ H) : ForB J g tb D σ H := for_it w Pv h0 hG hs hd
end
theorem nx_pos {a n : Int} (h : 1 ≤ n) (h0 : 0 ≤ a) : (a % n).toNat < n ∧ ((a % n).toNat : Int) = a % n := by
  have h1 := Int.emod_nonneg a (show n ≠ 0 by omega)
  have h2 := Int.emod_lt_of_pos a (show 0 < n by omega)
  omega
theorem get_cons_erase {α : Type} : ∀ {l : List α} {i : Nat} (h : i < l.length), (l[i] :: l.eraseIdx i).Perm l
  | [], _, h => absurd h (Nat.not_lt_zero _)
  | x :: r, 0, _ => .refl _
  | x :: r, i + 1, h => by
    have hi : i < r.length := Nat.lt_of_succ_lt_succ h
    have ih := get_cons_erase (l := r) (i := i) hi
    show (r[i] :: x :: r.eraseIdx i).Perm (x :: r)
    exact (List.Perm.swap x r[i] _).trans (ih.cons x)
theorem iteF' {b : Bool} {A B : Prop} (h : b = false) (q : B) : if b = true then A else B := by
  subst h
  exact iteF q
theorem iteT' {b : Bool} {A B : Prop} (h : b = true) (q : A) : if b = true then A else B := by
  subst h
  exact iteT q
theorem sz_of {n : Nat} (h : n ≤ 100000) : n ≤ sizeLine := Nat.le_trans h (by decide)
theorem sz_lt {n : Nat} (h : n < 100000) : n < sizeLine := Nat.lt_of_lt_of_le h (by decide)
/-- the text of some signs -/
abbrev ofC (cs : List Nat) : Str := ⟨cs.toArray⟩
theorem ofC_len (cs : List Nat) : (ofC cs).length = cs.length := rfl
theorem joinL_nil : ∀ cs : List Nat, TL.joinL [] (cs.map fun c => [c]) = cs
  | [] => rfl
  | [_] => rfl
  | c :: e :: r => by
    have ih := joinL_nil (e :: r)
    show [c] ++ ([] ++ TL.joinL [] ((e :: r).map fun c => [c])) = c :: e :: r
    rw [ih]
    rfl
theorem join_one (cs : List Nat) : Txt.join (Str.ofString "") (cs.map fun c => (⟨#[c]⟩ : Str)) = ofC cs := by
  refine TL.ext_tl ?_
  unfold Txt.join
  rw [StrLaws.glued_eq_join, TL.tl_join]
  rw [List.map_map]
  exact joinL_nil cs
theorem sum_one (cs : List Nat) : ((cs.map fun c => (⟨#[c]⟩ : Str)).map (·.length)).sum = cs.length := by
  rw [List.map_map]
  induction cs with
  | nil => rfl
  | cons c r ih =>
    rw [List.map_cons, List.sum_cons, ih, List.length_cons]
    show 1 + r.length = r.length + 1
    omega
/-! ### the draws -/
/-- a list of three ints, the first not below nought -/
def Dice (H : Hp) (d : Addr) : Prop := ∃ a b c : Int, 0 ≤ a ∧ H d = some (.lst [.int a, .int b, .int c])
/-- what stood, stands, but for what is at d -/
def Ext (d : Addr) (H H' : Hp) : Prop := ∀ b o, b ≠ d → H b = some o → H' b = some o
theorem Ext.refl (d : Addr) (H : Hp) : Ext d H H := fun _ _ _ h => h
theorem Ext.trans {d : Addr} {H H1 H2 : Hp} (a : Ext d H H1) (b : Ext d H1 H2) : Ext d H H2 := fun c o n h => b c o n (a c o n h)
theorem Ext.at_ {d : Addr} {H H' : Hp} {o : HO} (e : Ext d H H') : Ext d H (upd H' d o) := fun b u n h => by
  rw [upd_ne n]
  exact e b u n h
theorem Ext.new {d p : Addr} {H : Hp} {o : HO} (n : H p = none) : Ext d H (upd H p o) := fun b u _ h => by
  rw [upd_ne (ne_of_none h n)]
  exact h
theorem same_upd {H : Hp} {p : Addr} {o : HO} (h : H p = none) : Same H (upd H p o) := fun b x e => by
  rw [upd_ne (ne_of_none e h)]
  exact e
theorem ne_any {H : Hp} {a b : Addr} (h : ∃ o, H a = some o) (h' : H b = Option.none) : a ≠ b := by
  obtain ⟨o, h⟩ := h
  exact ne_of_none h h'
theorem there_here {H : Hp} {p : Addr} {o : HO} : ∃ u, upd H p o p = some u := ⟨o, upd_same⟩
theorem there_old {H : Hp} {p a : Addr} {o : HO} (n : H p = Option.none) (h : ∃ u, H a = some u) : ∃ u, upd H p o a = some u := by
  obtain ⟨u, h⟩ := h
  exact ⟨u, by rw [upd_ne (ne_of_none h n)]; exact h⟩
theorem Ext.same {d : Addr} {H H1 H2 : Hp} (s : Same H H1) (e : Ext d H1 H2) (n : H d = Option.none) : Same H H2 := fun b o h => e b o (ne_of_none h n) (s b o h)
theorem Ext.of_same {d : Addr} {H H' : Hp} (s : Same H H') : Ext d H H' := fun b o _ h => s b o h
theorem Dice.mk3 {d : Addr} {H : Hp} {a b c : Int} (h : 0 ≤ a) : Dice (upd H d (.lst [.int a, .int b, .int c])) d := ⟨a, b, c, h, upd_same⟩
theorem Dice.new {d p : Addr} {H : Hp} {o : HO} (h : Dice H d) (n : H p = none) : Dice (upd H p o) d := by
  obtain ⟨a, b, c, h0, e⟩ := h
  exact ⟨a, b, c, h0, by rw [upd_ne (ne_of_none e n)]; exact e⟩
theorem Dice.off {d p : Addr} {H : Hp} {o : HO} (h : Dice H d) (n : p ≠ d) : Dice (upd H p o) d := by
  obtain ⟨a, b, c, h0, e⟩ := h
  exact ⟨a, b, c, h0, by rw [upd_ne n.symm]; exact e⟩
theorem Dice.ne {d p : Addr} {H : Hp} (h : Dice H d) (n : H p = none) : p ≠ d := by
  obtain ⟨a, b, c, h0, e⟩ := h
  exact (ne_of_none e n).symm
theorem Ext.free_ {d p : Addr} {H H' : Hp} (e : Ext d H H') (hd : Dice H' d) (n : H' p = none) : H p = none := by
  cases q : H p with
  | none => rfl
  | some o =>
    have z := e p o (hd.ne n) q
    rw [n] at z
    cases z
/-- a list that was made and is filled on: upd at a place that was free -/
theorem Ext.grown {d p : Addr} {H H' : Hp} {o : HO} (e : Ext d H H') (n : H p = none) : Ext d H (upd H' p o) := fun b u nb h => by
  rw [upd_ne (ne_of_none h n)]
  exact e b u nb h
end My

namespace My
open PySem PySem.Spec PyProof.Rows L2
/-! ### dicts, several targets at once -/
section
variable {X : Cx}
def wSortedD : List V → Hp → VK → Prop := fun xs H Q => ∃ (a : Addr) (kvs : List (Key × V)) (ks : List Str), xs = [.ref a] ∧ Rd H a (.dK kvs) ∧ kvs.map (·.1) = ks.map Sum.inr ∧ ks.length < 64 ∧
    ∀ ys p, ys.Perm ks → sortedS ys = true → H p = none → Q (.ref p) (upd H p (.lst (ys.map V.str)))
theorem c_sortedD (hc : X.calm = true) : CallR X (.builtin "sorted") wSortedD := call_sortedD hc
theorem c_sortedS {K : PySem.W.Frag} (hK : X.K = K := by rfl) : CallR X (.builtin "sorted") (rSortedS K) := by
  subst hK
  exact cr_sortedS
/-- the view of d's values at v -/
def valsO (v d : Addr) : HO := .ext fun h => h.get? v = some { cls := .type "dict_values", data := .fields #[.ref d] }
def tVals (td : TE) : TE := fun σ H Q => td σ H fun x H1 => ∃ d kvs, x = .ref d ∧ H1 d = some (.dK kvs) ∧ ∀ v, H1 v = none → Q (.ref v) (upd H1 v (valsO v d))
/-- d.values() as a value -/
theorem e_values {e : Expr} {td : TE} {apos cpos : Pos} (he : PE X e td) (hbase : attributeBase e "values" X.env (eval e X.env) = eval e X.env := by rfl) (hline : (apos.endLine == cpos.line) = true := by rfl) :
    PE X (.Call (.Attribute e "values" apos) [] [] cpos) (tVals td) := by
  constructor
  intro pins s σ H Q I h
  refine wpAny_Call_method (T := "dict") (id := "dict.values") hbase rfl hline F.plainAttrs_dict F.slot_dict_values F.type_dict_values (thn (he.run pins s σ H _ I h) fun u s1 hu => ?_)
  obtain ⟨x, H1, I1, rx, d, kvs, rfl, hd, q⟩ := hu
  cases (show u = Value.ref d from rx)
  obtain ⟨z, lo, vs, rk, dd⟩ := (show ObjOk X.prog X.w H1 s1.heap d (.dK kvs) from I1.hok d _ hd)
  refine ⟨dd.typeIs, dd.mapOf.noDict, ?_⟩
  have hn : H1 s1.heap.objs.size = none := I1.hok.fresh (Nat.le_refl _)
  show wpAny _ _ (callWith cpos (.builtin "dict.values") [.ref d] [] []) _ X.xe s1
  refine method_meetsIn F.slot_dict_values F.entry_dict_values rfl (PySem.evalArgs_none ⟨rfl, dd.typeIs, F.args_dict_values_1 _, _, meets_dict_values (mixKind X.prog X.w) d lo, ⟨vs, dd⟩, ?_⟩)
  exact ⟨.ref s1.heap.objs.size, upd H1 s1.heap.objs.size (valsO s1.heap.objs.size d), I1.laid (t' := s1.toks) (fun b o e => Heap.get?_push_of_some _ e) (Nat.le_refl _) ⟨Heap.get?_push_size _ rfl, ⟨_, Heap.get?_push_size _ rfl⟩, fun _ _ a k => k _ a⟩, rfl, q _ hn⟩
theorem kv_get : ∀ {kvs : List (Key × V)} {vs : List (Key × Value)} {j : Nat} {kv : Key × V}, KV kvs vs → kvs[j]? = some kv → ∃ u, vs[j]? = some (kv.1, u) ∧ RelV kv.2 u
  | _, _, _, _, .nil, h => by simp at h
  | _, _, 0, _, .cons (b := (k, u)) r _, h => by
    cases h
    obtain ⟨e1, e2⟩ := r
    cases e1
    exact ⟨u, rfl, e2⟩
  | _, _, j + 1, _, .cons _ t, h => kv_get (j := j) t (by simpa using h)
/-- list of such a view -/
def wListV : List V → Hp → VK → Prop := fun xs H Q => ∃ v d kvs, xs = [.ref v] ∧ H v = some (valsO v d) ∧ H d = some (.dK kvs) ∧ ∀ l, H l = none → Q (.ref l) (upd H l (.lst (kvs.map Prod.snd)))
open PySem.W in
theorem c_listV (hc : X.calm = true) : CallR X (.type "list") wListV := by
  intro pins s σ H xs us Q I r h
  obtain ⟨v, d, kvs, rfl, hv, hd, q⟩ := h
  obtain ⟨u, rfl, rx⟩ := vals1 r
  cases rx
  obtain ⟨z, lo, vs, rk, dd⟩ := (show ObjOk X.prog X.w H s.heap d (.dK kvs) from I.hok d _ hd)
  obtain ⟨ho, _, _⟩ := I.hok v _ hv
  obtain ⟨es, ep, hraw, hsz, hat⟩ := dd.raw
  have hl : kvs.length = vs.length := Paired.length rk
  refine kdl_call (KdlSrc.rawValues (r := v) (d := d) (es := es) (ep := ep)) (I.ok.hd hc) ⟨⟨_, ho, rfl, rfl⟩, hraw⟩ (by omega) fun h' tk acc' c' hkeep hS hacc => ?_
  refine ⟨.ref s.heap.objs.size, upd H s.heap.objs.size (.lst (kvs.map Prod.snd)), I.laid hkeep (Nat.le_refl _) (show ObjOk X.prog X.w _ _ _ (.lst (kvs.map Prod.snd)) from ⟨by rw [List.length_map]; exact z, acc'.toList, c', ?_, by rw [Array.toArray_toList]; exact hS⟩), rfl, q _ (I.hok.fresh (Nat.le_refl _))⟩
  have el : acc'.toList.length = acc'.size := by simp
  refine vals_of_at (by rw [List.length_map, el, hacc.1]; omega) fun j x u h1 h2 => ?_
  obtain ⟨hj, rfl⟩ := hacc.2 j u (by rw [← Array.getElem?_toList]; exact h2)
  rw [List.getElem?_map] at h1
  cases hk : kvs[j]? with
  | none => rw [hk] at h1; cases h1
  | some kv =>
    rw [hk] at h1
    cases h1
    obtain ⟨u2, e1, e2⟩ := kv_get rk hk
    rw [(hat j hj _ _ e1).2]
    exact e2
end
section
variable {K : PySem.W.Frag} {σ : L2.St} {H : Hp} {D : Ends}
theorem r_par {i j : Nat} {ta : TA} (q : ta σ H fun vs H1 => ∃ v w, vs = [v, w] ∧ D.nx ((σ.set i (some v)).set j (some w)) H1) : tPar i j ta D σ H := q
theorem r_par2 {v w : V} {P : V → V → Prop} (q : P v w) : ∃ v' w', [v, w] = [v', w'] ∧ P v' w' := ⟨v, w, rfl, q⟩
theorem r_par3 {i j l : Nat} {ta : TA} (q : ta σ H fun vs H1 => ∃ u v w, vs = [u, v, w] ∧ D.nx (((σ.set i (some u)).set j (some v)).set l (some w)) H1) : tPar3 i j l ta D σ H := q
theorem r_par33 {u v w : V} {P : V → V → V → Prop} (q : P u v w) : ∃ u' v' w', [u, v, w] = [u', v', w'] ∧ P u' v' w' := ⟨u, v, w, rfl, q⟩
theorem r_dget {td ty : TE} {Q : VK} (q : td σ H fun x H1 => ty σ H1 fun y H2 => ∃ a v, x = .ref a ∧ DGet H2 a y (some v) ∧ Q v H2) : tDGet td ty σ H Q := q
theorem r_dgetS {a : Addr} {kvs : List (Key × V)} {s : Str} {v : V} {Q : V → Prop} (h : H a = some (.dK kvs)) (hv : valV kvs (.inr s) = some v) (q : Q v) : ∃ a' v', V.ref a = .ref a' ∧ DGet H a' (.str s) (some v') ∧ Q v' :=
  ⟨a, v, rfl, by rw [← hv]; exact DGet.k (k := Sum.inr s) h, q⟩
theorem r_dput {td ty tv : TE} (q : tv σ H fun v H1 => td σ H1 fun x H2 => ty σ H2 fun y H3 => ∃ a H4, x = .ref a ∧ DPut H3 a y v H4 ∧ D.nx σ H4) : sDPut td ty tv D σ H := q
theorem r_dputS {a : Addr} {kvs : List (Key × V)} {s : Str} {v : V} {Q : Hp → Prop} (h : H a = some (.dK kvs)) (hl : kvs.length < sizeLine) (q : Q (upd H a (.dK (putK kvs (.inr s) v)))) : ∃ a' H4, V.ref a = .ref a' ∧ DPut H a' (.str s) v H4 ∧ Q H4 :=
  ⟨a, _, rfl, DPut.k (k := Sum.inr s) h hl, q⟩
theorem r_disp {trs : List (TE × TE)} {Q : VK} (q : ∀ p, H p = none → tPairs trs σ (upd H p (.dK [])) fun ps H2 => H2 p = some (.dK []) ∧ ∃ kvs : List (Key × V), ps = kvs.map (fun kv => (kV kv.1, kv.2)) ∧ kvs.length ≤ 15 ∧ Q (.ref p) (upd H2 p (.dK (mergeK [] kvs)))) : tDisp trs σ H Q := q
theorem r_pairN {Q : List (V × V) → Hp → Prop} (q : Q [] H) : tPairs [] σ H Q := q
theorem r_pairC {tk tv : TE} {r : List (TE × TE)} {Q : List (V × V) → Hp → Prop} (q : tk σ H fun x H1 => tv σ H1 fun y H2 => tPairs r σ H2 fun ps H3 => Q ((x, y) :: ps) H3) : tPairs ((tk, tv) :: r) σ H Q := q
end
end My

namespace My
open PySem PySem.Spec PyProof.Rows L2
/-! ### rules for tuples of any kind, a tuple times a number, in over a tuple -/
section
variable {X : Cx}
theorem o_catA {K : PySem.W.Frag} (hK : X.K = K := by rfl) : OpR X (binaryOp .Add) (rCatA K) := by
  subst hK
  exact op_catA
theorem tuple_mul1 (l : Addr) (items : Array Value) (n : Nat) (dd : Option Addr) (sl : Array (Option Value)) (x : Int) (u : Tok) (c0 : (decide (x < -(2 ^ 63)) || decide (x ≥ 2 ^ 63)) = false) (c1 : (items.isEmpty || x == 1) = true) :
    Meets (Builtin.«tuple.__mul__» ⟨[.ref l, .int x u], []⟩) (fun _ R s => s.heap.get? l = some { cls := .type "tuple", dict := dd, data := .seq items n, slots := sl } ∧ R (.ok (.ret (Value.ref l))) s) :=
  .of_wp fun prog w A R s h => by
    obtain ⟨hp, g, d, tk, os⟩ := s
    obtain ⟨hl, h⟩ := h
    have f1 := AutoSeq1.idx_int
    wp_walk using wpAny_loadPart' hl
    repeat (first
      | (refine wpAny_ite_false (decide_eq_false (by rw [c0]; exact Bool.false_ne_true)) ?_; wp_walk using wpAny_loadPart' hl)
      | (refine wpAny_ite_true (decide_eq_true c1) ?_; wp_walk using wpAny_loadPart' hl))
    exact ⟨_, rfl, h⟩
theorem tuple_mul0 (l : Addr) (items : Array Value) (n : Nat) (dd : Option Addr) (sl : Array (Option Value)) (x : Int) (u : Tok) (c0 : (decide (x < -(2 ^ 63)) || decide (x ≥ 2 ^ 63)) = false) (c1 : (items.isEmpty || x == 1) = false) (c2 : (decide (x ≤ 0) || items.isEmpty) = true) :
    Meets (Builtin.«tuple.__mul__» ⟨[.ref l, .int x u], []⟩) (fun _ R s => s.heap.get? l = some { cls := .type "tuple", dict := dd, data := .seq items n, slots := sl } ∧
      R (.ok (.ret (Value.ref s.heap.objs.size))) { s with heap := s.heap.push { cls := Value.type "tuple", data := Data.seq #[] }, toks := s.toks }) :=
  .of_wp fun prog w A R s h => by
    obtain ⟨hp, g, d, tk, os⟩ := s
    obtain ⟨hl, h⟩ := h
    have f1 := AutoSeq1.idx_int
    wp_walk using wpAny_loadPart' hl
    repeat (first
      | (refine wpAny_ite_false (decide_eq_false (by rw [c0]; exact Bool.false_ne_true)) ?_; wp_walk using wpAny_loadPart' hl)
      | (refine wpAny_ite_false (decide_eq_false (by rw [c1]; exact Bool.false_ne_true)) ?_; wp_walk using wpAny_loadPart' hl)
      | (refine wpAny_ite_true (decide_eq_true c2) ?_; wp_walk using wpAny_loadPart' hl))
    exact ⟨_, rfl, h⟩
/-- t * k for any k up to 1000, t not empty -/
def rRepA (K : PySem.W.Frag) : R2 := fun x y H Q => ∃ l k xs, x = .ref l ∧ y = .int k ∧ SqT K H l xs ∧ xs ≠ [] ∧ -1000 ≤ k ∧ k ≤ 1000 ∧ xs.length ≤ 1000 ∧ (k = 1 → Q (.ref l) H) ∧ (k ≠ 1 → ∀ p, H p = none → Q (.ref p) (upd H p (.tup (List.replicate k.toNat xs).flatten)))
theorem op_repA : OpR X (binaryOp .Mult) (rRepA X.K) := by
  intro pins s σ H x y v u Q I rx ry h
  obtain ⟨l, k, xs, rfl, rfl, hT, hne, h1, h2, hz, q1, q2⟩ := h
  by_cases hk2 : 2 ≤ k
  · exact op_repT pins s σ H _ _ v u Q I rx ry ⟨l, k, xs, rfl, rfl, hT, hne, hk2, h2, hz, q2 (by omega)⟩
  cases rx
  obtain ⟨t, rfl⟩ := ry
  obtain ⟨its, r, ⟨⟨cls, dd, data, sl⟩, ho, hc, n, hd⟩, hs⟩ := I.tuple hT
  simp only at hc hd
  subst hc hd
  have hle : its.length = xs.length := r.length.symm
  have hn : its ≠ [] := fun e => hne (by
    rw [e] at hle
    exact List.eq_nil_of_length_eq_zero hle.symm)
  have hi : its.toArray.isEmpty = false := by
    cases its with
    | nil => exact absurd rfl hn
    | cons a b => rfl
  have c0 : (decide (k < -(2 ^ 63)) || decide (k ≥ 2 ^ 63)) = false := by
    rw [decide_eq_false (by omega), decide_eq_false (by omega)] <;> rfl
  by_cases hk1 : k = 1
  · have c1 : (its.toArray.isEmpty || k == 1) = true := by
      rw [hk1]
      simp
    exact wpAny_binaryOp_repeat_ref (T := "tuple") (U := "int") (by decide) ⟨_, ho, rfl⟩ (fun s' => typeIs_int s' k t) noFill_tuple_mul F.fills_int_mul F.slot_int_rmul repeat_tuple F.slot_int_index.lookup
      (call_meets F.slot_int_rmul (typeIs_int s k t) F.entry_int_rmul (F.args_int_rmul_2 _ _) (int_rmul_tuple k t l its.toArray n dd sl)
        ⟨ho, rfl, ⟨_, ho, rfl⟩, call_meets F.slot_tuple_mul ⟨_, ho, rfl⟩ F.entry_tuple_mul (F.args_tuple_mul_2 _ _) (tuple_mul1 l its.toArray n dd sl k t c0 c1) ⟨ho, ⟨.ref l, H, I, rfl, q1 hk1⟩⟩⟩)
  · have c1 : (its.toArray.isEmpty || k == 1) = false := by
      rw [hi, Bool.false_or]
      exact beq_eq_false_iff_ne.mpr hk1
    have c2 : (decide (k ≤ 0) || its.toArray.isEmpty) = true := by
      rw [decide_eq_true (by omega)]
      rfl
    refine wpAny_binaryOp_repeat_ref (T := "tuple") (U := "int") (by decide) ⟨_, ho, rfl⟩ (fun s' => typeIs_int s' k t) noFill_tuple_mul F.fills_int_mul F.slot_int_rmul repeat_tuple F.slot_int_index.lookup
      (call_meets F.slot_int_rmul (typeIs_int s k t) F.entry_int_rmul (F.args_int_rmul_2 _ _) (int_rmul_tuple k t l its.toArray n dd sl)
        ⟨ho, rfl, ⟨_, ho, rfl⟩, call_meets F.slot_tuple_mul ⟨_, ho, rfl⟩ F.entry_tuple_mul (F.args_tuple_mul_2 _ _) (tuple_mul0 l its.toArray n dd sl k t c0 c1 c2) ⟨ho, ?_⟩⟩)
    have hk0 : k.toNat = 0 := by omega
    have q3 := q2 hk1
    rw [hk0] at q3
    refine ⟨.ref s.heap.objs.size, _, I.laid (t' := s.toks) (o := .tup []) (fun b ob q => Heap.get?_push_of_some _ q) (Nat.le_refl _) ?_, rfl, q3 _ (I.hok.fresh (Nat.le_refl _))⟩
    exact ⟨Nat.zero_le _, [], .nil, IsTup.new _ _⟩
theorem o_repA {K : PySem.W.Frag} (hK : X.K = K := by rfl) : OpR X (binaryOp .Mult) (rRepA K) := by
  subst hK
  exact op_repA
def rInDT (K : PySem.W.Frag) : R2 := fun x y H Q => ∃ d ds, Dp K H x d ∧ Dp K H y (.tuple ds) ∧ SeqAt.shaped d = true ∧ SeqAt.shaped (.tuple ds) = true ∧ Q (.bl (ds.any fun z => PyData.eqv z d)) H
theorem op_inDT (hu : X.A.units + 65 < cLine) : OpR X (compareOp .In) (rInDT X.K) := by
  intro pins s σ H x y v u Q I rx ry h
  obtain ⟨d, ds, hd, he, sd, se, q⟩ := h
  obtain ⟨as, r1⟩ := Dp.reads I d x v hd rx
  obtain ⟨bs, r2⟩ := Dp.reads I (.tuple ds) y u he ry
  exact SeqAt.in_tuple_reads r2 r1 (SeqAt.canLay_of_shaped se) (SeqAt.canLay_of_shaped sd) (room_in_shaped sd hu) ⟨.bl _, H, I, rfl, q⟩
theorem o_inDT {K : PySem.W.Frag} (hu : X.A.units + 65 < cLine) (hK : X.K = K := by rfl) : OpR X (compareOp .In) (rInDT K) := by
  subst hK
  exact op_inDT hu
end
section
variable {K : PySem.W.Frag} {σ : L2.St} {H : Hp} {D : Ends}
theorem r_catA {a b : Addr} {xs ys : List V} {Q : VK} (h : H a = some (.tup xs)) (h' : H b = some (.tup ys)) (hz : xs.length + ys.length ≤ sizeLine)
    (q : ∀ p H', Same H H' → H' p = some (.tup (xs ++ ys)) → Q (.ref p) H') : rCatA K (.ref a) (.ref b) H Q :=
  ⟨a, b, xs, ys, rfl, rfl, .inl (.inl h), .inl (.inl h'), hz, fun e => q b H (Same.refl H) (by rw [e]; exact h'), fun _ e => q a H (Same.refl H) (by rw [e, List.append_nil]; exact h), fun _ _ p hp => q p _ (same_upd hp) upd_same⟩
theorem r_repA {l : Addr} {xs : List V} {k : Int} {Q : VK} (h : H l = some (.tup xs)) (h0 : xs ≠ []) (h1 : 0 ≤ k) (h2 : k ≤ 1000) (h3 : xs.length ≤ 1000)
    (q : ∀ p H', Same H H' → H' p = some (.tup (List.replicate k.toNat xs).flatten) → Q (.ref p) H') : rRepA K (.ref l) (.int k) H Q :=
  ⟨l, k, xs, rfl, rfl, .inl (.inl h), h0, by omega, h2, h3, fun e => q l H (Same.refl H) (by rw [e, h]; simp), fun _ p hp => q p _ (same_upd hp) upd_same⟩
theorem r_din {td ty : TE} {Q : VK} (q : ty σ H fun y H1 => td σ H1 fun x H2 => ∃ a o, x = .ref a ∧ DGet H2 a y o ∧ Q (.bl o.isSome) H2) : tDIn ty td σ H Q := q
theorem r_dinS {a : Addr} {kvs : List (Key × V)} {s : Str} {Q : Bool → Prop} (h : H a = some (.dK kvs)) (q : Q (valV kvs (.inr s)).isSome) : ∃ a' o, V.ref a = .ref a' ∧ DGet H a' (.str s) o ∧ Q o.isSome :=
  ⟨a, _, rfl, DGet.k (k := Sum.inr s) h, q⟩
theorem r_revL {te : TE} {Q : VK} (q : te σ H fun x H1 => ∃ a xs, x = .ref a ∧ SqL K H1 a xs ∧ ∀ p, H1 p = none → Q (.ref p) (upd H1 p (.lst xs.reverse))) : tRevL K te σ H Q := q
theorem whileJ {c : TT} {tb : TS} (C : L2.St → Hp → Prop) (tail : ∀ σ H, C σ H → D.nx σ H) (q : (∀ σ H, C σ H → D.nx σ H) → tWhile c tb D σ H) : tWhile c tb D σ H := q tail
theorem ifsJ {t : TT} {a b : TS} (C : L2.St → Hp → Prop) (tail : ∀ σ H, C σ H → D.nx σ H) (q : (∀ σ H, C σ H → D.nx σ H) → tIfS t a b D σ H) : tIfS t a b D σ H := q tail
theorem r_dget2 {td ty tx : TE} {Q : VK} (q : td σ H fun x H1 => ∃ a, x = .ref a ∧ IsD H1 a ∧ ty σ H1 fun y H2 => tx σ H2 fun z H3 => ∃ o, DGet H3 a y o ∧ Q (o.getD z) H3) : tDGet2 td ty tx σ H Q := q
end
end My

namespace My
open PySem PySem.Spec PyProof.Rows L2
/-! ### promises that know that nothing is being shown (no repr is under way) -/
structure FnG (P : Program) (w : World) (K : PySem.W.Frag) (mg : Str → Option Value) (base : Heap) (CX : CXT) (k : Nat) (f : Addr) (fd : FuncData) (ps : List Str) (sp : Sp) : Prop where
  len : ∀ vs H Q E, sp vs H Q E → vs.length = ps.length
  run : ∀ (A : Around) (outer : List Env) (s : Shared) (H : Hp) (args : Args) (us : List Value) (vs : List V) (Q : VK) (E : XK), A.guards = some [] → Room k A → Env0 P w K mg base A outer s H →
    BindsTo s fd args (ps.zip us) → Vals vs us → sp vs H Q E → codeAny (model P w) A (.call (.ref f) args) (CR CX outer P w H s Q E) s
section
variable {P : Program} {w : World} {K : PySem.W.Frag} {mg : Str → Option Value} {base : Heap} {CX : CXT} {k : Nat} {f : Addr} {fd : FuncData} {ps : List Str} {sp : Sp}
theorem FnG.of (F : FnOk P w K mg base CX k f fd ps sp) : FnG P w K mg base CX k f fd ps sp := ⟨F.len, fun A outer s H args us vs Q E _ => F.run A outer s H args us vs Q E⟩
theorem okG {x qual : Str} {st : Stmt} {N : List Str} (F : Fun K x qual st f fd) (S : FnScope N ps (defScope st)) (len : ∀ vs H Q E, sp vs H Q E → vs.length = ps.length)
    (hbody : ∀ (cdv : Value) (A : Around) (outer : List Env) (s : Shared) (H : Hp) (vs : List V) (Q : VK) (E : XK), A.guards = some [] → Room k (A.deeper (envOfC qual (defScope st) s.heap.objs.size f cdv)) → sp vs H Q E →
      ∃ t, PSs (cxOf CX0 P w K mg base N qual (defScope st) f cdv A outer s H E).nox (defBody st) t ∧ t { nx := fun _ H' => Q .non H', rt := Q } (start N vs) H) : FnG P w K mg base CX0 (k + 1) f fd ps sp := by
  obtain ⟨oc, od, kV, doc, pm, an, cdv, ct, osl, rfl, lk, hcd⟩ := F.ex
  constructor
  · exact len
  intro A outer s H args us vs Q E hg hr e0 hb r hsp
  have stay : ∀ b o, base.get? b = some o → s.heap.get? b = some o := fun b o e => (e0.bs b o e).1
  have kinds : ∀ y ∈ ps.zip us, (defScope st).names.lookup y.1 = some .local ∨ ((defScope st).names.lookup y.1 = some .cell ∧ ((cellsFrom (s.heap.objs.size + 1) (defScope st).names []).lookup y.1).isSome = true) := by
    intro y hy
    obtain ⟨n, v⟩ := y
    have := S.par n (List.of_mem_zip hy).1
    rcases this with q | q
    · left; exact q
    · right; exact ⟨q, PySem.W.cellsFrom_some _ _ _ (.inl q)⟩
  refine codeAny_call_function hr.depth ((e0.mod.kin.keeps stay) _ _ lk) rfl S.co S.gen rfl (PySem.W.codeRec_of (e0.mod.kin.keeps stay) hcd) (hb _ _ _ _ ?_)
  apply wpAny_newFunctionEnv_cells S.kind kinds
  intro env he s1 x
  subst he
  constructor
  · exact (e0.mod.nolimit.keeps stay).keeps x.toInCall.keep
  apply codeAny_func
  obtain ⟨t, ht, hq⟩ := hbody cdv A outer s H vs Q E hg (hr.deeper _) hsp
  have I := inv_start (CX := CX0) (E := E) S hr.hd e0 (len _ _ _ _ hsp) r x
  apply wpAny_mono (ht.nox.run [] s1 (start N vs) H _ I hq)
  · intro fl s' hs
    cases fl with
    | ret u =>
      obtain ⟨v, _, H', J, rv, q⟩ := hs
      exact ⟨v, H', J.os, J.bare, J.base, J.hok, rv, q⟩
    | next =>
      obtain ⟨_, H', J, q⟩ := hs
      exact ⟨V.non, H', J.os, J.bare, J.base, J.hok, rfl, q⟩
    | brk => exact hs.elim fun _ z => z.elim fun _ z => z.2.elim
    | cont => exact hs.elim fun _ z => z.elim fun _ z => z.2.elim
  · exact fun _ _ z => z
/-- the law is called: nothing is under way there -/
theorem lawG {mb : Str → Option Value} {fa a : Addr} {x : Str} {s1 : Shared} {vs : List Value} {ns : List Int} (KX : K.In s1.heap) (hns : s1.heap.Ns mainGlobals mg) (hb : s1.heap.Ns builtinsNs mb)
    (hbb : ∀ x : Str, x ≠ "__name__" → mb x = bootBuiltins x) (hlim : s1.heap.NoLimit) (hg : s1.gens = #[]) (ha : s1.heap.get? a = some { cls := .type "list", data := .seq vs.toArray }) (hi : IntsAre vs ns) (hl : ns.length ≤ sizeLine) (hr : Room k callerA)
    (F : ∀ base : Heap, K.In base → base.Ns mainGlobals mg → FnG P w K mg base CX k fa fd [x] sp) (hbind : ∀ (s : Shared) (u : Value), BindsTo s fd ⟨[u], []⟩ [(x, u)])
    (hsp : ∀ H : Hp, Only H → SqL K H a (ns.map V.int) → sp [.ref a] H (fun v _ => v = .bl true) fun _ _ _ => False) (hCX : ∀ H e s', CX [] H s1 (fun _ _ _ => False) e s' → False) :
    codeAny (model P w) callerA (.call (.ref fa) ⟨[.ref a], []⟩) (fun r s' => r = .ok (.ret (.bool true)) ∧ PySem.OldK s1.heap s'.heap ∧ s'.os = s1.os ∧ AllBare s'.gens) s1 := by
  have rv := vals_ints hi
  have core : ∀ H : Hp, Only H → SqL K H a (ns.map V.int) → HOk P w H s1.heap → (∀ b, H b ≠ none → b = a) → (H a ≠ none → K.lookup a = none) →
      codeAny (model P w) callerA (.call (.ref fa) ⟨[.ref a], []⟩) (fun r s' => r = .ok (.ret (.bool true)) ∧ PySem.OldK s1.heap s'.heap ∧ s'.os = s1.os ∧ AllBare s'.gens) s1 := by
    intro H hO hS hok hA hK
    have isA : ∀ b u, H b = some u → b = a := fun b u e => hA b (by rw [e]; exact fun z => nomatch z)
    have dictK : ∀ {b : Addr} {m : Str → Option Value}, s1.heap.Ns b m → (hidT s1.heap H).Ns b m := by
      intro b m hN
      obtain ⟨o, es, ep, e, d, r⟩ := hN
      refine ⟨o, es, ep, hidT_get e ?_, d, r⟩
      cases q : H b with
      | none => rfl
      | some u =>
        cases isA b u q
        rw [ha] at e
        cases e
        exact nomatch (show Data.seq vs.toArray _ = Data.dict es ep from d)
    have kB : K.In (hidT s1.heap H) := by
      intro b o e
      refine hidT_get (KX b o e) ?_
      cases q : H b with
      | none => rfl
      | some u =>
        cases isA b u q
        rw [hK (by rw [q]; exact fun z => nomatch z)] at e
        cases e
    obtain ⟨mc, l1, l2⟩ := hlim
    have e0 : Env0 P w K mg (hidT s1.heap H) callerA [] s1 H :=
      { frames := rfl, mod := { kin := kB, glob := dictK hns, blt := ⟨mb, dictK hb, hbb⟩, nolimit := ⟨mc, dictK l1, l2⟩ }, bs := fun b o e => of_hidT e, bsz := Nat.le_of_eq (hidT_size _ _), funs := trivial, frf := (fun b hb => nomatch (show b ∈ ([] : List Addr) from hb)), hok := hok, bare := .of_eq hg }
    apply codeAny_mono ((F _ kB (dictK hns)).run callerA [] s1 H ⟨[.ref a], []⟩ [.ref a] [.ref a] _ _ rfl hr e0 (hbind s1 (.ref a)) (.cons rfl .nil) (hsp H hO hS))
    intro r s' h
    match r, h with
    | .error e, h => exact (hCX H e s' h).elim
    | .ok .next, h => exact False.elim h
    | .ok .brk, h => exact False.elim h
    | .ok .cont, h => exact False.elim h
    | .ok (.ret u), h =>
      obtain ⟨v, H', os, bare, un, hok', r', q⟩ := h
      cases (show v = .bl true from q)
      cases (show u = Value.bool true from r')
      refine ⟨rfl, PySem.OldK.of_keep fun b o e => ?_, os, bare⟩
      cases q : H b with
      | none => exact un.keep b o e q (fun z => nomatch (show b ∈ ([] : List Addr) from z)) (fun z => nomatch z)
      | some u =>
        rcases hO b with z | ⟨ob, xs, z⟩
        · rw [q] at z
          cases z
        · obtain ⟨e1, _⟩ := hok b _ z
          obtain ⟨e2, _⟩ := hok' b _ (un.frzs b ob _ z)
          rw [e] at e1
          cases e1
          exact e2
  cases hk : K.lookup a with
  | some o =>
    have e := KX a o hk
    rw [ha] at e
    cases e
    apply core (fun _ => none) (fun _ => Or.inl rfl)
    · exact .inr ⟨_, vs.toArray, _, hk, rfl, rfl, rfl, by rw [List.size_toArray, hi.length]; exact hl, by simpa using rv⟩
    · exact fun b u z => nomatch (show (none : Option HO) = some u from z)
    · exact fun b z => absurd rfl z
    · exact fun z => absurd rfl z
  | none =>
    have at1 : ∀ b u, (if b = a then some (HO.frz { cls := .type "list", data := .seq vs.toArray } (.lst (ns.map V.int))) else none) = some u → b = a := fun b u z => by
      by_cases h : b = a
      · exact h
      · rw [if_neg h] at z
        cases z
    apply core (fun b => if b = a then some (.frz { cls := .type "list", data := .seq vs.toArray } (.lst (ns.map V.int))) else none)
    · intro b
      by_cases h : b = a
      · right; exact ⟨_, _, if_pos h⟩
      · left; exact if_neg h
    · exact .inl (.inr ⟨{ cls := .type "list", data := .seq vs.toArray }, if_pos rfl⟩)
    · intro b u z
      cases at1 b u z
      have z2 := (if_pos rfl).symm.trans z
      cases z2
      exact ⟨ha, by rw [List.length_map]; exact hl, vs, _, rv, ha⟩
    · intro b z
      by_cases h : b = a
      · exact h
      · exact absurd (if_neg h) z
    · exact fun _ => hk
end
theorem walkG {l : PySem.W.OpenLaw} {n k : Nat} {q : Program} {loose : List Str} {XP : (Str → Option Value) → Heap → Prop} {YP : World → Heap → Prop} {d : DefRec} {K : Params → PySem.W.Frag} {CX : World → CXT} {sp : World → Sp} {x : Str}
    (hn : l.most = some n) (hn2 : n ≤ sizeLine) (hdf : d.params.defaults = []) (hr : Room k callerA) (hY : ∀ (w : World) (h : Heap), YP w h → (K w.params).In h)
    (F : ∀ (w : World) (mg : Str → Option Value) (fa : Addr) (h : Heap), (K w.params).In h → h.Ns mainGlobals mg → mg d.name = some (.ref fa) → ∃ fd : FuncData, (∀ (s : Shared) (u : Value), BindsTo s fd ⟨[u], []⟩ [(x, u)]) ∧
      ∀ base : Heap, (K w.params).In base → base.Ns mainGlobals mg → FnG l.prog w (K w.params) mg base (CX w) k fa fd [x] (sp w))
    (hsp : ∀ (w : World) (H : Hp) (a : Addr) (ns : List Int), ns.length ≤ n → Only H → SqL (K w.params) H a (ns.map V.int) → sp w [.ref a] H (fun v _ => v = .bl true) fun _ _ _ => False)
    (hCX : ∀ (w : World) (H : Hp) (s : Shared) (e : Value) (s' : Shared), CX w [] H s (fun _ _ _ => False) e s' → False) : PySem.W.WalkO q loose XP YP l.row.toRowW d [] (fun f vs => PySem.call f vs) := by
  apply Att.attach_call hn hdf
  intro w s0 s1 mg mb fa o pm cd doc a vs ns G Y ho hd hcd hmg hobj hints hlen hg
  obtain ⟨fd, hb, hF⟩ := F w mg fa _ (hY w _ Y) G.T.g hmg
  exact lawG (hY w _ Y) G.T.g G.T.b G.T.builtins G.T.nolimit hg hobj hints (Nat.le_trans hlen hn2) hr hF hb (fun H hO hS => hsp w H a ns hlen hO hS) fun H e s' => hCX w H s1 e s'
/-! ### calls of such -/
section
variable {X : Cx} {CX : CXT} {k : Nat} {f : Addr} {fd : FuncData} {ps : List Str} {sp : Sp} {dvs : List V} {ds : List Value} {E : XK} {x : Str} {p pos : Pos} {e : Expr} {es : List Expr} {t : TA}
theorem runG {pins : List (Addr × Obj)} {σ : L2.St} {H : Hp} {s : Shared} {Q : VK} {us : List Value} {vs : List V} (F : FnG X.prog X.w X.K X.mg X.base CX k f fd ps sp) (hG : X.A.guards = some []) (hr : Room k X.A) (hb : Binds X.K fd ps ds) (hd : Vals dvs ds) (hx : Passes CX X E)
    (I : Inv X pins σ H s) (r : Vals vs us) (h : sp (vs ++ dvs) H Q E) : wpAny (model X.prog X.w) X.A (call (.ref f) us) (EP X pins σ Q) X.xe s := by
  have r2 := r.append hd
  apply wpAny_call
  apply codeAny_mono (F.run X.A X.stack s H ⟨us, []⟩ (us ++ ds) (vs ++ dvs) Q E hG hr I.env0 (hb s us I.kIn (by rw [← r2.length]; exact F.len _ _ _ _ h)) r2 h)
  intro r s' hq
  match r, hq with
  | .error e, hq => exact hx pins σ H s e s' I hq
  | .ok (.ret u), hq => exact I.after hq
  | .ok .next, hq => exact False.elim hq
  | .ok .brk, hq => exact False.elim hq
  | .ok .cont, hq => exact False.elim hq
theorem callG (F : FnG X.prog X.w X.K X.mg X.base CX k f fd ps sp) (hG : X.A.guards = some []) (hr : Room k X.A) (hg : Gl X x) (hm : X.mg x = some (.ref f)) (hk : PySem.W.keepIn X.K (.ref f) = true) (hb : Binds X.K fd ps ds) (hd : Vals dvs ds) (hx : Passes CX X E)
    (ha : PA X (e :: es) t) (hdb : (x == ("__debug__" : Str)) = false := by decide) (he : starEach (e :: es) X.env = (false, eval e X.env) :: starEach es X.env := by rfl) (hpl : (backTo pos (starEach es X.env)).any (·.1) = false := by rfl) : PE X (.Call (.Name x p) (e :: es) [] pos) (tCall sp dvs E t) := by
  constructor
  intro pins s σ H Q I h
  apply wpAny_Call_Name_kw
  apply ld_glob I hg hm _ hdb
  apply PySem.W.callWith_K (h₀ := X.base) I.ok.mod.kin hk _ he hpl
  exact thn (ha.run pos pins s σ H _ I h) fun us s1 ⟨vs, H1, I1, r, q⟩ => ⟨I1.kIn, runG F hG hr hb hd hx I1 r q⟩
end
/-! ### repr of data -/
/-- repr(x), x data: None, bools, ints below 1920 bits, texts, lists and tuples of such -/
def wReprD (K : PySem.W.Frag) : List V → Hp → VK → Prop := fun xs H Q => ∃ (a : Addr) (d : PyData), xs = [.ref a] ∧ Dp K H (.ref a) d ∧ d.showable = true ∧ d.hasDict = false ∧ d.depth ≤ 50 ∧ d.shown.length ≤ sizeLine ∧ Q (.str d.shown) H
theorem c_reprD {X : Cx} {K : PySem.W.Frag} (hG : X.A.guards = some []) (hu : X.A.units + 64 < cLine) (hK : X.K = K := by rfl) : CallR X (.builtin "repr") (wReprD K) := by
  subst hK
  intro pins s σ H xs us Q I r h
  obtain ⟨a, d, rfl, hd, h1, h2, h3, h4, q⟩ := h
  obtain ⟨u, rfl, rx⟩ := vals1 r
  obtain ⟨as, rd⟩ := Dp.reads I d (.ref a) u hd rx
  cases rx
  exact repr_of_reads' rd h1 (PyData.noDict_hsm h2) hG (by omega) (fun _ _ e => e) (fun h' u tk k => ⟨.str d.shown, H, I.kept k, ⟨_, rfl⟩, q⟩) h4
end My

namespace My
open PySem PySem.Spec PyProof.Rows L2
/-! ### exceptions held as values: made, stored into, read, asked for their class, shown -/
/-- what is asked of the mro of an own exception class whose tp_new is B's -/
structure Tl (B : String) (bm : List Value) : Prop where
  hB : bm.contains (.type B) = true
  hA : bm.contains (.type "AttributeError") = false
  hN : bm.contains (.type "NameError") = false
section
variable {M : Model} {prog : Program} {w : World} {A : Around} {E : Value → Shared → Prop} {R : Result → Shared → Prop} {h : Heap} {g : Array GenState} {d : Drawn} {t : Nat} {os : OsState}
variable {nm q : Str} {C N : Addr} {bs bm bmB : List Value} {hdct : Bool} {sn : List Str} {sub : List Value} {ab : Bool} {col : Option Bool} {dd : Option Addr} {k0 k1 k2 k3 k5 : Option Value} {B newId initId : String}
theorem x_check (F : ExcBaseFacts B newId initId bmB) (T : Tl B bm) {rest : List Value} {Q : Unit → Shared → Prop}
    (hC : h.get? C = some (excClassObj nm q C N bs bm hdct sn sub ab col dd k0 k1 k2 k3 k5 newId)) (hq : Q () ⟨h, g, d, t, os⟩) : wpAny M A (checkBuiltinCall newId ⟨.ref C :: rest, []⟩) Q E ⟨h, g, d, t, os⟩ := by
  have c1 : (Value.ref C :: bm).contains (.type B) = true := by rw [List.contains_cons, T.hB, Bool.or_true]
  have s := F.noStar
  simp only [checkBuiltinCall, F.newKind, F.newSplit, F.newRow]
  repeat (first | refine wpAny_loadPart_at hC ?_ | (refine wpAny_isSubtype_exc hC ?_; rw [c1]) | refine wpAny_staticBase_exc hC ?_ | refine wpAny_madeBy_exc hC ?_ | simp only [bne_self_eq_false, Bool.false_eq_true, if_false] | wp_step)
  exact hq
theorem x_new (F : ExcBaseFacts B newId initId bmB) (T : Tl B bm) {rest : List Value}
    (hC : h.get? C = some (excClassObj nm q C N bs bm hdct sn sub ab col dd k0 k1 k2 k3 k5 newId))
    (hq : R (.ok (.ret (.ref (h.objs.size + 1)))) ⟨(h.push (PySem.W.kdv_tup rest)).push (PySem.HandSPX.excO C h.objs.size), g, d, t, os⟩) (hz : rest.length ≤ sizeLine) :
    codeAny (model prog w) A (.builtin newId ⟨.ref C :: rest, []⟩) R ⟨h, g, d, t, os⟩ := by
  have e := F.ends
  have c1 : (Value.ref C :: bm).contains (.type B) = true := by rw [List.contains_cons, T.hB, Bool.or_true]
  have c2 : (Value.ref C :: bm).contains (.type "AttributeError") = false := by rw [List.contains_cons, T.hA]; rfl
  have c3 : (Value.ref C :: bm).contains (.type "NameError") = false := by rw [List.contains_cons, T.hN]; rfl
  refine codeAny_builtinAt F.entry ?_
  unfold Builtin.«BaseException.__new__»
  refine PySem.wpAt_bind ?_
  show PySem.wpAt _ _ _ (stack >>= _) _ _ _
  refine PySem.wpAt_bind (PySem.wpAt_stack fun p below => PySem.wpAt_of_wpAny ?_)
  wp_walk
  refine PySem.wpAt_of_wpAny ?_
  rw [F.owner]
  repeat (first | with_reducible refine wpAny_madeHere_exc F.canon hC ?_ | with_reducible refine wpAny_loadPart_at hC ?_ | (with_reducible refine wpAny_isSubtype_exc hC ?_; first | rw [c1] | rw [c2] | rw [c3]) | wp_step)
  show R _ _
  rw [Heap.size_push]
  exact hq
theorem x_type (F : ExcBaseFacts B newId initId bmB) (T : Tl B bm) {rest : List Value} {fI : Addr} {Q : Fin → Shared → Prop}
    (hC : h.get? C = some (excClassObj nm q C N bs bm hdct sn sub ab col dd k0 k1 k2 k3 k5 newId))
    (hi : PySem.W.Looks (model prog w) h (typeLookup (.ref C) "__init__") (some (.ref fI))) (hb : ∀ self, PySem.W.Looks (model prog w) h (bindSpecial (.ref fI) self) (.ref fI, [self])) (hz : rest.length ≤ sizeLine)
    (hq : codeAny (model prog w) A (.call (.ref fI) ⟨.ref (h.objs.size + 1) :: rest, []⟩)
      (fun r s' => match r with | .ok (.ret v) => v = .none ∧ Q (.done (.ret (.ref (h.objs.size + 1)))) s' | .ok _ => False | .error e => E e s')
      ⟨(h.push (PySem.W.kdv_tup rest)).push (PySem.HandSPX.excO C h.objs.size), g, d, t, os⟩) :
    wpAny (model prog w) A (Builtin.«type.__call__» ⟨.ref C :: rest, []⟩) Q E ⟨h, g, d, t, os⟩ := by
  repeat (first | with_reducible refine wpAny_loadPart_at hC ?_ | with_reducible refine wpAny_madeBy_exc hC ?_ | wp_step)
  refine codeAny_call_builtin_code (Code.quiet_builtin _ F.quiet) (x_check F T hC ?_)
  refine x_new F T hC ?_ hz
  show wpAny _ _ _ _ _ _
  have k : ∀ b o, h.get? b = some o → ((h.push (PySem.W.kdv_tup rest)).push (PySem.HandSPX.excO C h.objs.size)).get? b = some o := fun b o e => Heap.get?_push_of_some _ (Heap.get?_push_of_some _ e)
  have hget : ((h.push (PySem.W.kdv_tup rest)).push (PySem.HandSPX.excO C h.objs.size)).get? (h.objs.size + 1) = some (PySem.HandSPX.excO C h.objs.size) := by heap_get
  have cc : (Value.ref C :: bm).contains (.ref C) = true := by simp
  unfold isInstance
  repeat (first | with_reducible refine wpAny_loadPart_at hget ?_ | (with_reducible refine wpAny_isSubtype_exc (k _ _ hC) ?_; rw [cc]) | wp_step)
  show wpAny _ _ (typeLookup (.ref C) _) _ _ _
  refine (hi.keeps k).at (wpAny_holding (wpAny_bind (((hb (.ref (h.objs.size + 1))).keeps k).at (wpAny_bind (wpAny_call (codeAny_mono hq fun r s' z => ?_))))))
  rcases r with e | (_ | v | _ | _) <;> first | exact z | exact z.elim | skip
  obtain ⟨rfl, z⟩ := z
  first
    | exact wpAny_pure (wpAny_pure z)
    | (wp_walk; exact z)
theorem x_call (F : ExcBaseFacts B newId initId bmB) (T : Tl B bm) {rest : List Value} {fI : Addr}
    (hC : h.get? C = some (excClassObj nm q C N bs bm hdct sn sub ab col dd k0 k1 k2 k3 k5 newId))
    (hi : PySem.W.Looks (model prog w) h (typeLookup (.ref C) "__init__") (some (.ref fI))) (hb : ∀ self, PySem.W.Looks (model prog w) h (bindSpecial (.ref fI) self) (.ref fI, [self])) (hz : rest.length ≤ sizeLine)
    (hq : codeAny (model prog w) (A.under (.builtin "type.__call__" ⟨.ref C :: rest, []⟩)) (.call (.ref fI) ⟨.ref (h.objs.size + 1) :: rest, []⟩) (PySem.W.InitBack (h.objs.size + 1) R)
      ⟨(h.push (PySem.W.kdv_tup rest)).push (PySem.HandSPX.excO C h.objs.size), g, d, t, os⟩) :
    codeAny (model prog w) A (.call (.ref C) ⟨rest, []⟩) R ⟨h, g, d, t, os⟩ := by
  have f1 := tc_lookup
  have f2 := tc_bind (.ref C)
  have ty : (⟨h, g, d, t, os⟩ : Shared).TypeIs (.ref C) "type" := ⟨_, hC, rfl⟩
  refine codeAny_of_tree ?_
  show wpAny _ _ (callAny (.ref C) _) _ _ _
  repeat (any_goals (first | assumption | with_reducible refine wpAny_loadPart_at hC ?_ | wp_step))
  refine ⟨rfl, codeAny_call_builtin_at (Code.quiet_builtin _ (by decide +kernel)) entry_typeCall (wpAny_check_type_call_sub hC (x_type F T hC hi hb hz (codeAny_mono hq fun r s' z => ?_)))⟩
  rcases r with e | (v | _ | _ | _) <;> exact z
end
/-! ### in the abstract heap -/
/-- the facts of the written part that x_call asks -/
def xInB (K : PySem.W.Frag) (C : Addr) (B newId : String) : Bool := match K.lookup C with
  | some ⟨.type "type", _, .cls cd, sl⟩ => (match cd.mro, sl.toList with
    | .ref C' :: bm, [_, _, _, _, some (.builtin n), _] => C' == C && n == newId && !cd.hasDel && cd.hasDict && bm.contains (.type B) && !bm.contains (.type "AttributeError") && !bm.contains (.type "NameError") && bm.contains (.type "object")
    | _, _ => false)
  | _ => false
theorem xIn_of {K : PySem.W.Frag} {C : Addr} {B newId : String} (q : xInB K C B newId = true) : ∃ nm N qn bs bm sn sub ab col dd k0 k1 k2 k3 k5,
    K.lookup C = some (excClassObj nm qn C N bs bm true sn sub ab col dd k0 k1 k2 k3 k5 newId) ∧ Tl B bm ∧ bm.contains (.type "object") = true := by
  unfold xInB at q
  split at q
  · rename_i dd cd sl ho
    split at q
    · rename_i C' bm k0 k1 k2 k3 n k5 hm hs
      simp only [Bool.and_eq_true, beq_iff_eq, Bool.not_eq_true'] at q
      obtain ⟨⟨⟨⟨⟨⟨⟨rfl, rfl⟩, hdel⟩, hd⟩, h1⟩, h2⟩, h3⟩, h4⟩ := q
      obtain ⟨nm, bs, mro, ns, qn, hd', sn, sub, ab, col, del⟩ := cd
      dsimp only at hm hdel hd
      subst hm hdel hd
      have hsl : sl = #[k0, k1, k2, k3, some (.builtin n), k5] := by
        obtain ⟨l⟩ := sl
        simp only at hs
        rw [hs]
      subst hsl
      exact ⟨nm, ns, qn, bs, bm, sn, sub, ab, col, dd, k0, k1, k2, k3, k5, ho, ⟨h1, h2, h3⟩, h4⟩
    · cases q
  · cases q
end My

namespace My
open PySem PySem.Spec PyProof.Rows L2
/-- at e: an exception of the class at C as it was made, without a dict; its args at t -/
def exA (e C t : Addr) : HO := .ext fun h => h.get? e = some ({ cls := .ref C, data := .fields #[.ref t, .none, .none, .none, .bool false, .none] } : Obj)
theorem exA_ok {P : Program} {w : World} {H : Hp} {h : Heap} {e C t : Addr} (he : h.get? e = some ({ cls := .ref C, data := .fields #[.ref t, .none, .none, .none, .bool false, .none] } : Obj)) : ObjOk P w H h e (exA e C t) :=
  ⟨he, ⟨_, he⟩, fun h1 h2 z k => k _ z⟩
theorem exA_at {P : Program} {w : World} {H : Hp} {h : Heap} {e C t : Addr} (hok : HOk P w H h) (he : H e = some (exA e C t)) : h.get? e = some ({ cls := .ref C, data := .fields #[.ref t, .none, .none, .none, .bool false, .none] } : Obj) := by
  have x : ObjOk P w H h e (.ext fun h => h.get? e = some ({ cls := .ref C, data := .fields #[.ref t, .none, .none, .none, .bool false, .none] } : Obj)) := hok e _ he
  exact x.1
/-- what is asked of an own exception class -/
structure XC (K : PySem.W.Frag) (C : Addr) : Prop extends L2.ExcC K C where
  sa : PySem.W.findIn K (.ref C) "__setattr__" = some (some (.builtin "object.__setattr__"))
  kp : PySem.W.keepIn K (.ref C) = true
  st : PySem.W.findIn K (.ref C) "__str__" = some (some (.builtin "BaseException.__str__")) ∨ PySem.W.findIn K (.ref C) "__str__" = some (some (.builtin "KeyError.__str__"))
def xcB (K : PySem.W.Frag) (C : Addr) : Bool :=
  decide (PySem.W.findIn K (.ref C) "__getattribute__" = some (some (.builtin "BaseException.__getattribute__"))) &&
  decide (PySem.W.findIn K (.ref C) "__getattr__" = some none) &&
  decide (PySem.W.subIn K (.ref C) (.type "BaseException") = some true) &&
  PySem.W.hasDictIn K C &&
  decide (PySem.W.findIn K (.ref C) "__class__" = some (some (.builtin "object.__class__"))) &&
  decide (PySem.W.specialIn K (.builtin "object.__class__") "__get__" = some (some (.builtin "getset_descriptor.__get__"))) &&
  decide (PySem.W.takesIn K (.builtin "object.__class__") = some true) &&
  decide (PySem.W.mroIn K C (.type "object") = some true) &&
  decide (PySem.W.findIn K (.ref C) "__setattr__" = some (some (.builtin "object.__setattr__"))) &&
  PySem.W.keepIn K (.ref C) &&
  (decide (PySem.W.findIn K (.ref C) "__str__" = some (some (.builtin "BaseException.__str__"))) || decide (PySem.W.findIn K (.ref C) "__str__" = some (some (.builtin "KeyError.__str__"))))
theorem xcB_ok {K : PySem.W.Frag} {C : Addr} (h : xcB K C = true) : XC K C := by
  unfold xcB at h
  simp only [Bool.and_eq_true, Bool.or_eq_true, decide_eq_true_eq] at h
  obtain ⟨⟨⟨⟨⟨⟨⟨⟨⟨⟨h1, h2⟩, h3⟩, h4⟩, h5⟩, h6⟩, h7⟩, h8⟩, h9⟩, h10⟩, h11⟩ := h
  exact { hg := h1, hk := h2, hs := h3, hd := h4, ha := h5, hn := h6, ht := h7, hm := h8, sa := h9, kp := h10, st := h11 }
/-- an exception of the class at C, at a -/
def XAt (H : Hp) (a C : Addr) : Prop := (∃ t, H a = some (exA a C t)) ∨ ∃ dx fs, H a = some (exo a C (some dx)) ∧ H dx = some (exd dx fs)
section
variable {X : Cx} {CX : CXT} {pins : List (Addr × Obj)} {σ : L2.St} {H : Hp} {s : Shared} {a C f : Addr} {k : Nat} {sp : Sp} {E : XK} {x : Str} {e : Expr} {es : List Expr} {te to : TE} {ta : TA} {p pos : Pos} {fd : FuncData} {ps : List Str}
theorem xat_inst (I : Inv X pins σ H s) (h : XAt H a C) : ∃ ox od, PySem.W.InstAt s.heap a ox C od := by
  rcases h with ⟨t, h⟩ | ⟨dx, fs, h, hd⟩
  · exact ⟨_, none, exA_at I.hok h, rfl, rfl, trivial⟩
  · obtain ⟨t1, ho⟩ := exo_at I.hok h
    obtain ⟨mA, hns, _⟩ := exd_at I.hok hd
    obtain ⟨od, hod, _⟩ := lookIn_ns hns
    exact ⟨_, some od, ho, rfl, rfl, hod⟩
/-- isinstance(e, c) of such an exception -/
def rIsX (K : PySem.W.Frag) : List V → Hp → VK → Prop := fun xs H Q => ∃ (a C : Addr) (c : V) (u : Value) (b : Bool), xs = [.ref a, c] ∧ XAt H a C ∧ XC K C ∧ ClsV c u ∧ PySem.W.kitOne K (.ref C) u = some b ∧ Q (.bl b) H
theorem call_isX {K : PySem.W.Frag} (hK : X.K = K := by rfl) : CallR X (.builtin "isinstance") (rIsX K) := by
  subst hK
  intro pins s σ H xs us Q I r h
  obtain ⟨a, C, c, u, b, rfl, hx, T, k, e, q⟩ := h
  obtain ⟨u1, u2, rfl, r1, r2⟩ := vals2 r
  have e2 := k.eq r2
  subst e2
  cases (show u1 = Value.ref a from r1)
  obtain ⟨ox, od, J⟩ := xat_inst I hx
  have hcl : (PySem.W.clsIn X.K C).isSome = true := by
    obtain ⟨cd, hc, _⟩ := PySem.W.any_some T.hd
    rw [hc]
    rfl
  exact PySem.W.kia_one (PySem.W.kitx_exc hcl T.hg T.hk T.hs T.ha T.hn T.ht T.hm) I.kIn J e (fun z => nomatch z) fun tk => ⟨.bl b, H, I.tok tk, rfl, q⟩
theorem ne_of_none' {h : Heap} {b t : Addr} {v : Obj} (q : h.get? b = some v) (n : h.get? t = none) : b ≠ t := fun z => by
  rw [z, n] at q
  cases q
/-- two new objects -/
theorem laid2 {h' : Heap} {t a : Addr} {o u : HO} {t' : Nat} (I : Inv X pins σ H s) (kp : ∀ b v, s.heap.get? b = some v → h'.get? b = some v) (n1 : s.heap.get? t = none) (n2 : s.heap.get? a = none) (h1 : H t = none) (h2 : H a = none) (ne : a ≠ t)
    (o1 : ObjOk X.prog X.w (upd (upd H t o) a u) h' t o) (o2 : ObjOk X.prog X.w (upd (upd H t o) a u) h' a u) : Inv X pins σ (upd (upd H t o) a u) { s with heap := h', toks := t' } := by
  have na : ∀ {b : Addr} {v : Obj}, s.heap.get? b = some v → b ≠ t ∧ b ≠ a := fun {b v} q => ⟨ne_of_none' q n1, ne_of_none' q n2⟩
  have nH : ∀ {b : Addr} {v : HO}, H b = some v → (upd (upd H t o) a u) b = some v := fun {b v} q => by
    rw [upd_ne (ne_of_none q h2), upd_ne (ne_of_none q h1)]
    exact q
  refine I.un (t' := t') {
    keep := fun b v q _ _ _ => kp b v q
    slot := fun b v q _ _ _ => ⟨v.slots, kp b v q⟩
    free := fun b v q n _ => by rw [upd_ne (na q).2, upd_ne (na q).1]; exact n
    there := fun b v q _ => ⟨v, kp b v q⟩
    tups := fun b xs q => nH q
    frzs := fun b v w q => nH q
    tbls := fun b ps q => ⟨#[], by rw [nH q]; simp⟩ } fun b v q => ?_
  by_cases hb : b = a
  · subst hb
    rw [upd_same] at q
    cases q
    exact o2
  · rw [upd_ne hb] at q
    by_cases hd : b = t
    · subst hd
      rw [upd_same] at q
      cases q
      exact o1
    · rw [upd_ne hd] at q
      exact (I.hok b v q).stay (fun c v _ z => kp c v z) (fun c hc => nH hc) (fun c xs hc => nH hc)
/-- X(e), an own exception class without own __init__: its args stand -/
theorem pe_mkA {bmB : List Value} {B newId initId : String} (F : ExcBaseFacts B newId initId bmB) (q : PySem.W.excIn X.K C bmB newId = true) (gC : X.mg x = some (.ref C)) (kC : PySem.W.keepIn X.K (.ref C) = true) (hg : Gl X x)
    (he : PE X e te) (hs : starEach [e] X.env = (false, eval e X.env) :: starEach [] X.env := by rfl) (hdb : (x == ("__debug__" : Str)) = false := by decide) :
    PE X (.Call (.Name x p) [e] [] pos) (fun σ H Q => te σ H fun v H1 => ∀ t a, H1 t = none → H1 a = none → a ≠ t → Q (.ref a) (upd (upd H1 t (.tup [v])) a (exA a C t))) := by
  refine ⟨fun pins s σ H Q I h => ?_⟩
  refine wpAny_Call_Name_kw (ld_glob I hg gC ?_ hdb)
  refine PySem.W.callWith_K (h₀ := X.base) I.ok.mod.kin kC ?_ hs (by rfl)
  rw [hs]
  show wpAny _ _ (spliced ((false, eval e X.env) :: backTo pos (starEach [] X.env))) _ _ s
  refine Calls.spliced_cons (thn (he.run pins s σ H _ I h) fun u s1 ⟨v, H1, I1, r1, q1⟩ => ?_)
  refine Calls.spliced_nil ⟨I1.kIn, ?_⟩
  show wpAny _ _ (call (.ref C) [u]) _ _ _
  obtain ⟨bm, N, nm, qn, bs, hdct, sn, sub, ab, col, dd, k0, k1, k2, k3, k5, mN, hC, hN, hni, T⟩ := exc_obj I1.kIn q
  refine wpAny_call_exc_subT F T hC hN hni (fun h' a hm => ?_) (by show 1 ≤ sizeLine; rw [sizeLine_eq]; omega)
  have hn : H1 a = none := I1.hok.gone hm.new
  obtain ⟨t, ht, hnt, htt⟩ := hm.there
  have hn2 : H1 t = none := I1.hok.gone hnt
  have ne : a ≠ t := fun z => by
    rw [z] at ht
    rw [ht] at htt
    cases htt
  refine ⟨.ref a, _, laid2 I1 hm.keeps hnt hm.new hn2 hn ne ?_ (exA_ok ht), rfl, q1 t a hn2 hn ne⟩
  exact ⟨by show 1 ≤ sizeLine; rw [sizeLine_eq]; omega, [u], .cons r1 .nil, _, htt, rfl, _, rfl⟩
/-- X(e, ..), an own exception class with an own __init__ that is walked as a def -/
theorem pe_mkX {bmB : List Value} {B newId initId : String} (F : ExcBaseFacts B newId initId bmB) (q : xInB X.K C B newId = true) (kC : PySem.W.keepIn X.K (.ref C) = true) (iC : PySem.W.findIn X.K (.ref C) "__init__" = some (some (.ref f))) (tI : PySem.W.typeIn X.K (.ref f) = some (.type "function"))
    (F1 : FnOk X.prog X.w X.K X.mg X.base CX k f fd ps sp) (hr : Room (k + 1) X.A) (hb : Binds X.K fd ps []) (hps : ps.length ≤ 100) (hx : Passes CX X (fun _ _ _ => False)) (hg : Gl X x) (hm : X.mg x = some (.ref C)) (ha : PA X (e :: es) ta)
    (hdb : (x == ("__debug__" : Str)) = false := by decide) (he : starEach (e :: es) X.env = (false, eval e X.env) :: starEach es X.env := by rfl) (hpl : (backTo pos (starEach es X.env)).any (·.1) = false := by rfl) :
    PE X (.Call (.Name x p) (e :: es) [] pos) (fun σ H Q => ta σ H fun vs H1 => ∀ a, H1 a = none → sp (V.ref a :: vs) (upd H1 a (exo a C none)) (fun v H2 => v = .non ∧ Q (.ref a) H2) (fun _ _ _ => False)) := by
  refine ⟨fun pins s σ H Q I h => ?_⟩
  obtain ⟨nm, N, qn, bs, bm, sn, sub, ab, col, dd, k0, k1, k2, k3, k5, hC, T, _⟩ := xIn_of q
  refine wpAny_Call_Name_kw (ld_glob I hg hm ?_ hdb)
  refine PySem.W.callWith_K (h₀ := X.base) I.ok.mod.kin kC (thn (ha.run pos pins s σ H _ I h) fun us s1 ⟨vs, H1, I1, r1, q1⟩ => ⟨I1.kIn, ?_⟩) he hpl
  show wpAny _ _ (call (.ref C) us) _ _ _
  obtain ⟨hp, g, dr, tk, os⟩ := s1
  have hsz : hp.objs.size ≤ hp.objs.size + 1 := Nat.le_succ _
  have hn : H1 (hp.objs.size + 1) = none := I1.hok.fresh hsz
  have hq := q1 (hp.objs.size + 1) hn
  have kk : ∀ b o, hp.get? b = some o → ((hp.push (PySem.W.kdv_tup us)).push (PySem.HandSPX.excO C hp.objs.size)).get? b = some o := fun b o e => Heap.get?_push_of_some _ (Heap.get?_push_of_some _ e)
  have hget : ((hp.push (PySem.W.kdv_tup us)).push (PySem.HandSPX.excO C hp.objs.size)).get? (hp.objs.size + 1) = some (PySem.HandSPX.excO C hp.objs.size) := by heap_get
  have I2 : Inv X pins σ (upd H1 (hp.objs.size + 1) (exo (hp.objs.size + 1) C none)) ⟨(hp.push (PySem.W.kdv_tup us)).push (PySem.HandSPX.excO C hp.objs.size), g, dr, tk, os⟩ :=
    I1.laid (t' := tk) (a := hp.objs.size + 1) (o := exo (hp.objs.size + 1) C none) (h' := (hp.push (PySem.W.kdv_tup us)).push (PySem.HandSPX.excO C hp.objs.size)) kk hsz (exo_ok hget)
  have r2 : Vals (V.ref (hp.objs.size + 1) :: vs) (Value.ref (hp.objs.size + 1) :: us) := .cons rfl r1
  have hl : (Value.ref (hp.objs.size + 1) :: us).length = ps.length := by
    rw [← r2.length]
    exact F1.len _ _ _ _ hq
  refine wpAny_call (x_call F T (I1.kIn _ _ hC) (PySem.W.looks_findIn I1.kIn iC) (fun self => PySem.W.bind_fn I1.kIn self tI) ?_
    (codeAny_mono (F1.run _ X.stack _ _ ⟨Value.ref (hp.objs.size + 1) :: us, []⟩ (Value.ref (hp.objs.size + 1) :: us) _ _ (fun _ _ _ => False) (hr.make C us []) (I2.env0.make C us [])
      (by have z := hb _ (Value.ref (hp.objs.size + 1) :: us) I2.kIn (by rw [List.append_nil]; exact hl); rw [List.append_nil] at z; exact z) r2 hq) fun r s' hq' => ?_))
  · have z := hl
    rw [List.length_cons] at z
    rw [sizeLine_eq]
    omega
  · cases r with
    | error er => exact hx pins σ _ _ er s' I2 hq'
    | ok fl =>
      cases fl with
      | ret u =>
        obtain ⟨v, H', I3, rv, ev, q3⟩ := I2.after hq'
        subst ev
        exact ⟨rv, ⟨V.ref (hp.objs.size + 1), H', I3, rfl, q3⟩⟩
      | next => exact False.elim hq'
      | brk => exact False.elim hq'
      | cont => exact False.elim hq'
end
theorem keyStore : StoreFacts "KeyError" [.type "KeyError", .type "LookupError", .type "Exception", .type "BaseException", .type "object"] "object.__setattr__" "object" where
  mro := by kernel_rfl
  slot := .of (owner := "object") (n := "__setattr__") (by rw [typeLookup_type, builtinLookup_eq_fast]; kernel_rfl) (by decide +kernel) (by decide +kernel) (by decide +kernel)
    (by first | exact .inl (by decide +kernel) | exact .inr (by decide +kernel)) (by rw [isSubtype_type]; kernel_rfl)
  entry := PySem.F.entry_object_sa
  kind := by decide +kernel
  split := by decide +kernel
  hasOwner := by decide +kernel
  args := fun a b c => by unfold argsOk; kernel_rfl
  passes := fun self => by kernel_rfl
section
open Builtin Builtin.ObjectAttr
variable {prog : Program} {w : World} {A : Around} {R : Result → Shared → Prop} {hp : Heap} {g : Array GenState} {d : Drawn} {t : Nat} {os : OsState}
theorem x_osa {K : PySem.W.Frag} {name : Str} {tk : Tok} {v : Value} {x C : Addr} {fv : Array Value} {B : String} {bmB : List Value} (SF : StoreFacts B bmB "object.__setattr__" "object")
    (X : K.In hp) (hx : hp.get? x = some { cls := .ref C, data := .fields fv }) (ho : PySem.W.excOver K C bmB = true) (hh : PySem.W.hasDictIn K C = true) (ha : PySem.W.takerIn K C name = some none)
    (hq : ∀ h' tk' dx, (∀ b o, b ≠ x → hp.get? b = some o → h'.get? b = some o) → hp.objs.size ≤ dx → dx ≠ x → h'.get? x = some { cls := .ref C, dict := some dx, data := .fields fv } →
      h'.Ns1 dx (fun y => if y = name then some v else none) → R (.ok (.ret .none)) ⟨h', g, d, tk', os⟩) :
    codeAny (model prog w) A (.call (.builtin "object.__setattr__") ⟨[.ref x, .str name tk, v], []⟩) R ⟨hp, g, d, t, os⟩ := by
  have I : PySem.W.InstAt hp x { cls := .ref C, data := .fields fv } C none := ⟨hx, rfl, rfl, trivial⟩
  refine PySem.W.osa_openX SF X I ho ha fun b => ?_
  obtain ⟨cd, hcd, hd⟩ := PySem.W.any_some hh
  have hcls : PySem.W.Looks (model prog w) hp (classData C) cd := PySem.W.looks_clsIn X hcd
  have hxs : x ≠ hp.objs.size := Nat.ne_of_lt (Heap.lt_size hx)
  obtain ⟨nm, bs, mro, ns, qn, hd', sn, sb, ab, col, del⟩ := cd
  dsimp only at hd
  subst hd
  dsimp only
  unfold storeInOwnDict ownDictForStores
  repeat (first | with_reducible refine PySem.HandSPX.store_in_new ?_ ?_ | with_reducible refine wpAny_loadPart_at hx ?_ | with_reducible refine hcls.at ?_ | wp_step)
  · exact ⟨_, #[], _, (Heap.get?_update_ne _ _ _ _ hxs.symm).trans (Heap.get?_push_at rfl rfl), rfl, fun e he => absurd he (by simp), fun _ => rfl⟩
  · intro h' tk' hn' hs
    have hx₁ : (hp.push { cls := .type "dict", data := .dict #[] }).get? x = some { cls := .ref C, data := .fields fv } := Heap.get?_push_of_some _ hx
    refine hq h' tk' hp.objs.size (fun b o hb ho => ?_) (Nat.le_refl _) hxs.symm ?_ hn'
    · exact (hs.2 b (Nat.ne_of_lt (Heap.lt_size ho))).trans ((Heap.get?_update_ne _ _ _ _ hb).trans (Heap.get?_push_of_some _ ho))
    · exact (hs.2 x hxs).trans (Heap.get?_update_self _ hx₁ rfl)
end
section
variable {X : Cx} {CX : CXT} {pins : List (Addr × Obj)} {σ : L2.St} {H : Hp} {s : Shared} {a C f : Addr} {k : Nat} {sp : Sp} {E : XK} {x : Str} {e o : Expr} {es : List Expr} {te to : TE} {ta : TA} {p p' pos : Pos} {fd : FuncData} {ps : List Str}
/-- self.f = y, the first field -/
theorem stx_new {B : String} {bmB : List Value} {f : Str} {y : V} {u : Value} {Q : Unit → Shared → Prop} {E' : Value → Shared → Prop} {A : Around} (SF : StoreFacts B bmB "object.__setattr__" "object") (T : XC X.K C) (ho' : PySem.W.excOver X.K C bmB = true) (ht : PySem.W.takerIn X.K C f = some none)
    (I : Inv X pins σ H s) (e : H a = some (exo a C none)) (ry : RelV y u)
    (h : ∀ dx s', H dx = none → dx ≠ a → Inv X pins σ (upd (upd H dx (exd dx [(f, y)])) a (exo a C (some dx))) s' → Q () s') : wpAny (model X.prog X.w) A (setAttr (.ref a) f u) Q E' s := by
  obtain ⟨t1, ho⟩ := exo_at I.hok e
  obtain ⟨hp, g, d, t, os⟩ := s
  refine PySem.W.set_plain I.kIn (ox := { cls := .ref C, dict := none, data := .fields #[.ref t1, .none, .none, .none, .bool false, .none] }) (od := none) ⟨ho, rfl, rfl, trivial⟩ T.sa ?_
  refine x_osa SF I.kIn ho ho' T.hd ht (fun h' tk' dx k dn dne hx hn => ?_)
  have hnd : H dx = none := I.hok.fresh dn
  have nd : ∀ {b : Addr} {o : Obj}, hp.get? b = some o → b ≠ dx := fun {b o} q => Nat.ne_of_lt (Nat.lt_of_lt_of_le (Heap.lt_size q) dn)
  have na : ∀ {b : Addr}, H b = none → b ≠ a := fun {b} n => (ne_of_none e n).symm
  have Un1 : Un X.fs [] H (upd (upd H dx (exd dx [(f, y)])) a (exo a C (some dx))) hp h' := {
    keep := fun b o q n _ _ => k b o (na n) q
    slot := fun b o q n _ _ => ⟨o.slots, k b o (na n) q⟩
    free := fun b o q n _ => by rw [upd_ne (na n), upd_ne (nd q)]; exact n
    there := fun b o q _ => by
      by_cases hb : b = a
      · exact ⟨_, by rw [hb]; exact hx⟩
      · exact ⟨o, k b o hb q⟩
    tups := fun b xs q => by rw [upd_ne (at_ne e q exo_tup), upd_ne (ne_of_none q hnd)]; exact q
    frzs := fun b o v q => by rw [upd_ne (at_ne e q exo_frz), upd_ne (ne_of_none q hnd)]; exact q
    tbls := fun b ps q => ⟨#[], by rw [upd_ne (at_ne e q exo_tbl), upd_ne (ne_of_none q hnd), q]; simp⟩ }
  refine h dx _ hnd dne (I.un (t' := tk') Un1 fun b o q => ?_)
  by_cases hb : b = a
  · subst hb
    rw [upd_same] at q
    cases q
    exact exo_ok hx
  · rw [upd_ne hb] at q
    by_cases hd : b = dx
    · subst hd
      rw [upd_same] at q
      cases q
      exact exd_ok hn (relO_put (fs := []) ry fun g => True.intro)
    · rw [upd_ne hd] at q
      refine (I.hok b o q).stay (fun c v hc z => k c v ?_ z) (fun c hc => ?_) (fun c xs hc => ?_)
      · rcases hc with hc | hc
        · rw [hc]
          exact hb
        · exact at_ne e hc exo_own
      · rw [upd_ne (at_ne e hc exo_own), upd_ne (ne_of_none hc hnd)]
        exact hc
      · rw [upd_ne (at_ne e hc exo_tup), upd_ne (ne_of_none hc hnd)]
        exact hc
def tStx (C : Addr) (f : Str) (to te : TE) : TS := fun D σ H => te σ H fun y H1 => to σ H1 fun x H2 => ∃ a, x = .ref a ∧ H2 a = some (exo a C none) ∧ ∀ dx, H2 dx = none → dx ≠ a → D.nx σ (upd (upd H2 dx (exd dx [(f, y)])) a (exo a C (some dx)))
theorem ps_stx {B : String} {bmB : List Value} {f : Str} (SF : StoreFacts B bmB "object.__setattr__" "object") (T : XC X.K C) (ho' : PySem.W.excOver X.K C bmB = true) (ht : PySem.W.takerIn X.K C f = some none) (ho : PE X o to) (he : PE X e te)
    (hs : swapsWith e (some (.Attribute o f p')) pos.line X.env = pure false := by rfl) : PS X (.Assign [.Attribute o f p'] e pos) (tStx C f to te) := by
  refine ⟨fun pins s σ H D I h => ?_⟩
  refine plainObj_wpAny_Assign_Attribute (thn (he.run pins s σ H _ I h) fun v s1 ⟨y, H1, I1, r1, q1⟩ => thn (ho.run pins s1 σ H1 _ I1 q1) fun u s2 ⟨x, H2, I2, r2, a, ex, ea, q⟩ => ?_) hs
  subst ex
  obtain rfl : u = Value.ref a := r2
  exact stx_new SF T ho' ht I2 ea r1 fun dx s' n ne J => ⟨σ, _, J, q dx n ne⟩
/-- e.f, a field of such an exception -/
def tGetX (K : PySem.W.Frag) (n : Str) (te : TE) : TE := fun σ H Q => te σ H fun x H1 => ∃ (a C dx : Addr) (fs : List (Str × V)) (v : V), x = .ref a ∧ XC K C ∧ PySem.W.findIn K (.ref C) n = some none ∧ H1 a = some (exo a C (some dx)) ∧ H1 dx = some (exd dx fs) ∧ fs.lookup n = some v ∧ Q v H1
theorem pe_getX {K : PySem.W.Frag} {n : Str} (he : PE X e te) (hK : X.K = K := by rfl) (hb : attributeBase e n X.env (eval e X.env) = eval e X.env := by rfl) : PE X (.Attribute e n pos) (tGetX K n te) := by
  subst hK
  refine ⟨fun pins s σ H Q I h => ?_⟩
  refine attr_of hb (thn (he.run pins s σ H _ I h) fun u s1 hh => ?_)
  obtain ⟨x, H1, I1, rx, a, C, dx, fs, v, ex, T, hno, ea, ed, l, q⟩ := hh
  subst ex
  obtain rfl : u = Value.ref a := rx
  obtain ⟨t1, ho⟩ := exo_at I1.hok ea
  obtain ⟨mA, hns, hr⟩ := exd_at I1.hok ed
  obtain ⟨od, hod, hl⟩ := lookIn_ns hns
  obtain ⟨u, hu, ru⟩ := RelO.some_of (v := v) (o := mA n) (by rw [← l]; exact hr n)
  exact PySem.HandSPX.exc_get I1.kIn (od := some od) ⟨ho, rfl, rfl, hod⟩ T.hg T.hk T.hs (PySem.W.findObj_own T.hd hno rfl (by rw [hl, hu])) (handed_of ru) ⟨v, H1, I1.tok _, ru, q⟩
/-- str(e) of an exception with one text -/
def wStrX (K : PySem.W.Frag) : List V → Hp → VK → Prop := fun xs H Q => ∃ (a C t : Addr) (z : Str), xs = [.ref a] ∧ XC K C ∧ PySem.W.findIn K (.ref C) "__str__" = some (some (.builtin "BaseException.__str__")) ∧ H a = some (exA a C t) ∧ H t = some (.tup [.str z]) ∧ Q (.str z) H
theorem call_strX {K : PySem.W.Frag} (hu : X.A.units + 2 < cLine) (hK : X.K = K := by rfl) : CallR X (.type "str") (wStrX K) := by
  subst hK
  intro pins s σ H xs us Q I r h
  obtain ⟨a, C, t, z, rfl, T, hs, ea, et, q⟩ := h
  obtain ⟨u1, rfl, r1⟩ := vals1 r
  cases (show u1 = Value.ref a from r1)
  have ho := exA_at I.hok ea
  obtain ⟨_, its, rv, o, h1, h2, n, h3⟩ := (show ObjOk X.prog X.w H s.heap t (.tup [.str z]) from I.hok t _ et)
  obtain ⟨u, rfl, r2⟩ := vals1 rv
  obtain ⟨tk, rfl⟩ := (show ∃ t, u = Value.str z t from r2)
  exact PySem.P.str_of_C_one hu ⟨I.kIn, _, _, ho, rfl, rfl, rfl⟩ ⟨o, n, h1, h2, h3⟩ hs T.hs ⟨.str z, H, I, ⟨tk, rfl⟩, q⟩
end
end My

--MACROS
local macro_rules | `(tactic| walk_at "zsame") => `(tactic| first
  | assumption
  | exact L2.Same.refl _
  | (refine L2.Same.trans ?_ (My.same_upd (by assumption)); walk_at "zsame"))
local macro_rules | `(tactic| walk_at "zget") => `(tactic| first
  | assumption
  | exact L2.upd_same
  | (refine My.same_upd (by assumption) _ _ ?_; walk_at "zget"))
local macro_rules | `(tactic| walk_at "zgetx") => `(tactic| first
  | exact ⟨_, by assumption⟩
  | exact My.there_here
  | (refine My.there_old (by assumption) ?_; walk_at "zgetx"))
local macro_rules | `(tactic| walk_at "zdice") => `(tactic| first
  | assumption
  | (refine My.Dice.new ?_ (by assumption); walk_at "zdice"))
local macro_rules | `(tactic| walk_at "zext") => `(tactic| first
  | assumption
  | exact My.Ext.refl _ _
  | (refine My.Ext.trans ?_ (My.Ext.new (by assumption)); walk_at "zext"))
local macro_rules | `(tactic| walk_at "zsz") => `(tactic| exact Nat.le_trans (m := 100000) (Nat.le_of_ble_eq_true rfl) (by decide))
local macro_rules | `(tactic| walk_at "zcond") => `(tactic| first
  | (show (0 : Int) < _; omega)
  | (show (0 : Int) < _; decide +kernel)
  | (refine And.intro ?_ ?_ <;> omega)
  | (refine Or.inl (And.intro ?_ ?_) <;> omega)
  | (refine Or.inr (And.intro ?_ ?_) <;> omega)
  | (refine And.intro ?_ ?_ <;> decide +kernel))
local macro_rules | `(tactic| walk_at "zhp") => `(tactic| first
  | assumption
  | exact L2.upd_same
  | (rw [L2.upd_ne (by assumption)]; walk_at "zhp")
  | (rw [L2.upd_ne (Ne.symm (by assumption))]; walk_at "zhp"))
local macro_rules | `(tactic| walk_at "zrd") => `(tactic| repeat (first
  | with_reducible refine My.r_seq ?_
  | with_reducible refine My.r_op ?_
  | with_reducible refine My.r_var rfl ?_
  | with_reducible refine My.r_c ?_
  | with_reducible refine My.r_cons ?_
  | with_reducible refine My.r_nil ?_
  | with_reducible refine My.r_asg ?_
  | with_reducible refine My.r_name ?_
  | with_reducible refine My.r_cb ?_
  | with_reducible refine My.r_call ?_
  | with_reducible refine My.r_I0 ?_
  | ((with_reducible refine My.r_I ?hcond ?_); (case hcond => walk_at "zcond"))
  | with_reducible refine My.r_int1 ?_
  | with_reducible refine My.r_int1b ?_
  | with_reducible refine My.r_abs ?_
  | with_reducible refine My.r_max2 ?_
  | with_reducible refine My.r_min2 ?_
  | with_reducible refine My.r_reprB ?_
  | with_reducible refine My.r_ifs ?_
  | with_reducible refine My.r_ret ?_
  | with_reducible refine My.r_next ?_
  | with_reducible refine My.r_test ?_
  | with_reducible refine My.r_B ?_
  | with_reducible refine My.r_bl ?_
  | with_reducible refine My.r_un ?_
  | with_reducible refine My.r_U ?_
  | with_reducible refine My.r_eq rfl ?_
  | with_reducible refine My.r_ne rfl ?_
  | with_reducible refine My.r_lenL (by walk_at "zhp") ?_
  | with_reducible refine My.r_lenTp (by walk_at "zhp") ?_
  | with_reducible refine My.r_listL (by walk_at "zhp") ?_
  | with_reducible refine My.r_tupleL (by walk_at "zhp") ?_
  | with_reducible refine My.r_ixL (by walk_at "zhp") rfl ?_
  | with_reducible refine My.r_sub ?_
  | with_reducible refine My.r_setL (by walk_at "zhp") rfl ?_
  | with_reducible refine My.r_bm ?_
  | with_reducible refine My.r_bm0 ?_
  | with_reducible refine My.r_tyL (by walk_at "zhp") ?_
  | with_reducible refine My.r_tyS ?_
  | with_reducible refine My.r_strB ?_
  | with_reducible refine My.r_notInC ?_
  | with_reducible refine My.r_rng1 ?_
  | with_reducible refine My.r_iList ?_
  | with_reducible refine My.r_iListj (by walk_at "zhp") ?_
  | with_reducible refine My.r_iTup ?_
  | with_reducible refine My.r_iTupj (by walk_at "zhp") ?_
  | with_reducible refine My.r_iStr ?_
  | with_reducible refine My.r_iStrj ?_
  | with_reducible refine My.r_dnew ?_
  | with_reducible refine My.r_par ?_
  | with_reducible refine My.r_par3 ?_
  | with_reducible refine My.r_dget ?_
  | with_reducible refine My.r_dput ?_
  | with_reducible refine My.r_pairC ?_
  | with_reducible refine My.r_pairN ?_
  | with_reducible refine My.r_not ?_
  | with_reducible refine My.r_and ?_
  | with_reducible refine My.r_or ?_
  | with_reducible refine My.r_notV ?_
  | with_reducible refine My.r_andV ?_
  | with_reducible refine My.r_orV ?_
  | with_reducible refine My.r_if ?_
  | with_reducible refine My.r_chain ?_
  | with_reducible refine My.r_lc ?_
  | with_reducible refine My.r_for ?_
  | with_reducible refine My.r_yes ?_
  | with_reducible refine My.r_tup ?_
  | with_reducible refine My.r_lst ?_
  | with_reducible refine My.r_drop ?_
  | with_reducible refine L2.iteF ?_
  | with_reducible refine L2.iteT ?_
  | refine My.iteF' rfl ?_
  | refine My.iteT' rfl ?_))

--ENDMACROS
namespace My
theorem turns_ok (n : Nat) : ∃ m : Nat, (if (if (n : Int) < 8 then (n : Int) else 8) > 1 then (if (n : Int) < 8 then (n : Int) else 8) else 1) = (m : Int) ∧ m ≤ 8 := by
  by_cases h : (n : Int) < 8
  · rw [if_pos h]
    by_cases h2 : (n : Int) > 1
    · rw [if_pos h2]
      exact ⟨n, rfl, by omega⟩
    · rw [if_neg h2]
      exact ⟨1, rfl, by omega⟩
  · rw [if_neg h]
    exact ⟨8, rfl, by omega⟩
end My

namespace My
open PySem PySem.Spec PyProof.Rows L2
/-- kinds of values whose type is known -/
inductive KindV (H : Hp) : V → Prop where
  | str {s : Str} (h : s.length ≤ 100000) (ha : s.cps.all (fun c => decide (c < 128)) = true) : KindV H (.str s)
  | non : KindV H .non
  | bl (b : Bool) : KindV H (.bl b)
  | int (i : Int) : KindV H (.int i)
  | tup {a : Addr} {xs : List V} (e : H a = some (.tup xs)) : KindV H (.ref a)
  | lst {a : Addr} {xs : List V} (e : H a = some (.lst xs)) : KindV H (.ref a)
  | dK {a : Addr} {kvs : List (Key × V)} (e : H a = some (.dK kvs)) : KindV H (.ref a)
def isStrV : V → Bool
  | .str _ => true
  | _ => false
theorem KindV.isi {K : PySem.W.Frag} {H : Hp} {v : V} {Q : VK} (h : KindV H v) (q : Q (.bl (isStrV v)) H) : rIsi K [v, .ty "str"] H Q := by
  cases h with
  | str h ha => exact ⟨_, _, .type "str", .type "str", true, rfl, .ty _, .base (.str _), kit_ty (by decide +kernel), q⟩
  | non => exact ⟨_, _, .type "NoneType", .type "str", false, rfl, .ty _, .base .non, kit_ty (by decide +kernel), q⟩
  | bl b => exact ⟨_, _, .type "bool", .type "str", false, rfl, .ty _, .base (.bl _), kit_ty (by decide +kernel), q⟩
  | int i => exact ⟨_, _, .type "int", .type "str", false, rfl, .ty _, .base (.int _), kit_ty (by decide +kernel), q⟩
  | tup e => exact ⟨_, _, .type "tuple", .type "str", false, rfl, .ty _, .base (.tup e), kit_ty (by decide +kernel), q⟩
  | lst e => exact ⟨_, _, .type "list", .type "str", false, rfl, .ty _, .base (.lst e), kit_ty (by decide +kernel), q⟩
  | dK e => exact ⟨_, _, .type "dict", .type "str", false, rfl, .ty _, .base (.dK e), kit_ty (by decide +kernel), q⟩
theorem KindV.mono {d : Addr} {H H' : Hp} {v : V} (e : Ext d H H') (n : ∀ a, v = .ref a → a ≠ d) (h : KindV H v) : KindV H' v := by
  cases h with
  | str h ha => exact .str h ha
  | non => exact .non
  | bl b => exact .bl b
  | int i => exact .int i
  | tup h => exact .tup (e _ _ (n _ rfl) h)
  | lst h => exact .lst (e _ _ (n _ rfl) h)
  | dK h => exact .dK (e _ _ (n _ rfl) h)
/-- .. and it is not the dice -/
def KD (d : Addr) (H : Hp) (v : V) : Prop := KindV H v ∧ ∀ a, v = .ref a → a ≠ d
theorem KD.mono {d : Addr} {H H' : Hp} {v : V} (e : Ext d H H') (h : KD d H v) : KD d H' v := ⟨h.1.mono e h.2, h.2⟩
theorem KD.flat {d : Addr} {H : Hp} {v : V} (h : KindV H v) (n : ∀ a, v ≠ .ref a) : KD d H v := ⟨h, fun a e => absurd e (n a)⟩
theorem KD.at_ {d : Addr} {H : Hp} {a : Addr} (h : KindV H (.ref a)) (n : a ≠ d) : KD d H (.ref a) := ⟨h, fun b e => by cases e; exact n⟩
theorem KindV.isiT {K : PySem.W.Frag} {H : Hp} {v : V} {Q : VK} (T : String) (f : V → Bool) (h : KindV H v) (hs : ∀ s, kitB "str" T = some (f (.str s))) (hn : kitB "NoneType" T = some (f .non)) (hb : ∀ b, kitB "bool" T = some (f (.bl b)))
    (hi : ∀ i, kitB "int" T = some (f (.int i))) (ht : ∀ a xs, H a = some (.tup xs) → kitB "tuple" T = some (f (.ref a))) (hl : ∀ a xs, H a = some (.lst xs) → kitB "list" T = some (f (.ref a))) (hd : ∀ a kvs, H a = some (.dK kvs) → kitB "dict" T = some (f (.ref a)))
    (q : Q (.bl (f v)) H) : rIsi K [v, .ty T] H Q := by
  cases h with
  | str h ha => exact ⟨_, _, .type "str", .type T, _, rfl, .ty _, .base (.str _), kit_ty (hs _), q⟩
  | non => exact ⟨_, _, .type "NoneType", .type T, _, rfl, .ty _, .base .non, kit_ty hn, q⟩
  | bl b => exact ⟨_, _, .type "bool", .type T, _, rfl, .ty _, .base (.bl _), kit_ty (hb _), q⟩
  | int i => exact ⟨_, _, .type "int", .type T, _, rfl, .ty _, .base (.int _), kit_ty (hi _), q⟩
  | tup e => exact ⟨_, _, .type "tuple", .type T, _, rfl, .ty _, .base (.tup e), kit_ty (ht _ _ e), q⟩
  | lst e => exact ⟨_, _, .type "list", .type T, _, rfl, .ty _, .base (.lst e), kit_ty (hl _ _ e), q⟩
  | dK e => exact ⟨_, _, .type "dict", .type T, _, rfl, .ty _, .base (.dK e), kit_ty (hd _ _ e), q⟩
def isIntishV : V → Bool
  | .int _ => true
  | .bl _ => true
  | _ => false
def isBoolV : V → Bool
  | .bl _ => true
  | _ => false
theorem KindV.isiInt {K : PySem.W.Frag} {H : Hp} {v : V} {Q : VK} (h : KindV H v) (q : Q (.bl (isIntishV v)) H) : rIsi K [v, .ty "int"] H Q :=
  h.isiT "int" isIntishV (fun _ => by show _ = some false; decide +kernel) (by show _ = some false; decide +kernel) (fun _ => by show _ = some true; decide +kernel) (fun _ => by show _ = some true; decide +kernel) (fun _ _ _ => by show _ = some false; decide +kernel) (fun _ _ _ => by show _ = some false; decide +kernel) (fun _ _ _ => by show _ = some false; decide +kernel) q
theorem KindV.isiBool {K : PySem.W.Frag} {H : Hp} {v : V} {Q : VK} (h : KindV H v) (q : Q (.bl (isBoolV v)) H) : rIsi K [v, .ty "bool"] H Q :=
  h.isiT "bool" isBoolV (fun _ => by show _ = some false; decide +kernel) (by show _ = some false; decide +kernel) (fun _ => by show _ = some true; decide +kernel) (fun _ => by show _ = some false; decide +kernel) (fun _ _ _ => by show _ = some false; decide +kernel) (fun _ _ _ => by show _ = some false; decide +kernel) (fun _ _ _ => by show _ = some false; decide +kernel) q
end My

namespace My
open PySem PySem.Spec PyProof.Rows L2
/-! ### words -/
def goodC (c : Nat) : Bool := decide (97 ≤ c) && decide (c ≤ 122)
/-- a word: one to eight letters a to z -/
def isW (s : Str) : Bool := decide (0 < s.length) && decide (s.length ≤ 8) && s.cps.all goodC
def isWV : V → Bool
  | .str s => isW s
  | _ => false
theorem ascii_alpha : ∀ c : Nat, c < 128 → Unicode.isAlpha c = ((decide (65 ≤ c) && decide (c ≤ 90)) || goodC c) := by decide +kernel
theorem ascii_lower : ∀ c : Nat, c < 128 → Unicode.isLower c = goodC c := by decide +kernel
theorem ascii_upper : ∀ c : Nat, c < 128 → (Unicode.isUpper c || Unicode.isTitle c) = (decide (65 ≤ c) && decide (c ≤ 90)) := by decide +kernel
theorem word_signs (s : Str) : (Txt.isascii s && (Txt.isalpha s && Txt.islower s)) = (decide (0 < s.length) && s.cps.all goodC) := by
  obtain ⟨cs⟩ := s
  rw [Bool.eq_iff_iff]
  simp only [Txt.isascii, Txt.isalpha, Txt.islower, Str.length, Bool.and_eq_true, Array.all_eq_true_iff_forall_mem, Array.any_eq_true, decide_eq_true_eq, Bool.not_eq_true', gt_iff_lt]
  constructor
  · rintro ⟨h1, ⟨h2, h3⟩, h4, h5⟩
    refine ⟨decide_eq_true h2, fun c hc => ?_⟩
    have a := h3 c hc
    have b := h1 c hc
    rw [ascii_alpha c b] at a
    have d : (Unicode.isUpper c || Unicode.isTitle c) = false := by
      have := Array.any_eq_false.mp h5
      obtain ⟨i, hi, e⟩ := Array.mem_iff_getElem.mp hc
      rw [← e]
      simpa using this i hi
    rw [ascii_upper c b] at d
    rw [d, Bool.false_or] at a
    exact a
  · rintro ⟨h1', h2⟩
    have h1 : 0 < cs.size := of_decide_eq_true h1'
    have hb : ∀ c ∈ cs, c < 128 := fun c hc => by
      have := h2 c hc
      unfold goodC at this
      simp only [Bool.and_eq_true, decide_eq_true_eq] at this
      omega
    refine ⟨hb, ⟨h1, fun c hc => ?_⟩, ⟨0, h1, ?_⟩, ?_⟩
    · rw [ascii_alpha c (hb c hc), h2 c hc, Bool.or_true]
    · have hm : cs[0] ∈ cs := Array.getElem_mem h1
      rw [ascii_lower _ (hb _ hm)]
      exact h2 _ hm
    · refine Array.any_eq_false.mpr fun i hi => ?_
      have hm : cs[i] ∈ cs := Array.getElem_mem hi
      have g := h2 _ hm
      rw [ascii_upper _ (hb _ hm)]
      unfold goodC at g
      simp only [Bool.and_eq_true, decide_eq_true_eq] at g ⊢
      omega
def dsg (cs : List Nat) : List PyData := cs.map fun c => .str ⟨#[c]⟩
theorem dp_sg {K : PySem.W.Frag} {H : Hp} : ∀ cs : List Nat, DpAll K H (sg cs) (dsg cs)
  | [] => .nil
  | c :: r => .cons (.str _) (dp_sg r)
theorem sg_lay : ∀ cs : List Nat, (∀ c ∈ cs, c < 128) → PyData.canLayAll0 (dsg cs) = true
  | [], _ => rfl
  | c :: r, h => by
    have ih := sg_lay r fun x hx => h x (List.mem_cons_of_mem _ hx)
    have hc := h c List.mem_cons_self
    show (PyData.strOk ⟨#[c]⟩ && PyData.canLayAll0 (dsg r)) = true
    rw [ih, Bool.and_true]
    unfold PyData.strOk
    simp
    omega
theorem sg_depth : ∀ cs : List Nat, PyData.depthAll (dsg cs) = 0
  | [] => rfl
  | c :: r => by
    show max 0 (PyData.depthAll (dsg r)) = 0
    rw [sg_depth r]
    rfl
theorem sg_shaped {cs : List Nat} (h : ∀ c ∈ cs, c < 128) : SeqAt.shaped (.list (dsg cs)) = true := by
  show (PyData.canLayAll0 (dsg cs) && decide (PyData.depthAll (dsg cs) + 1 ≤ 64)) = true
  rw [sg_lay cs h, sg_depth]
  rfl
theorem sg_nil : ∀ cs : List Nat, PyData.eqv (.list (dsg cs)) (.list []) = cs.isEmpty
  | [] => rfl
  | _ :: _ => rfl
end My

namespace My
open PySem PySem.Spec PyProof.Rows L2
/-! ### data as it lies in the heap; nothing of it is at N -/
mutual
inductive Is (N : List Addr) (H : Hp) : V → PyData → Prop
  | non : Is N H .non .none
  | bl (b : Bool) : Is N H (.bl b) (.bool b)
  | int (i : Int) : Is N H (.int i) (.int i)
  | str {s : Str} (h : s.length ≤ 100000) (ha : s.cps.all (fun c => decide (c < 128)) = true) : Is N H (.str s) (.str s)
  | lst {a : Addr} {xs : List V} {ds : List PyData} (n : a ∉ N) (e : H a = some (.lst xs)) (h : IsAll N H xs ds) : Is N H (.ref a) (.list ds)
  | tup {a : Addr} {xs : List V} {ds : List PyData} (n : a ∉ N) (e : H a = some (.tup xs)) (h : IsAll N H xs ds) : Is N H (.ref a) (.tuple ds)
  | dct {a : Addr} (n : a ∉ N) (e : H a = some (.dK [])) : Is N H (.ref a) (.dict [])
inductive IsAll (N : List Addr) (H : Hp) : List V → List PyData → Prop
  | nil : IsAll N H [] []
  | cons {v : V} {vs : List V} {d : PyData} {ds : List PyData} (h : Is N H v d) (t : IsAll N H vs ds) : IsAll N H (v :: vs) (d :: ds)
end
def ExtN (N : List Addr) (H H' : Hp) : Prop := ∀ b o, b ∉ N → H b = some o → H' b = some o
theorem ExtN.refl (N : List Addr) (H : Hp) : ExtN N H H := fun _ _ _ h => h
theorem ExtN.of_ext {d : Addr} {N : List Addr} {H H' : Hp} (hd : d ∈ N) (e : Ext d H H') : ExtN N H H' := fun b o n h => e b o (fun z => n (z ▸ hd)) h
theorem ExtN.of_same {N : List Addr} {H H' : Hp} (e : Same H H') : ExtN N H H' := fun b o _ h => e b o h
theorem ExtN.trans {N : List Addr} {H H1 H2 : Hp} (a : ExtN N H H1) (b : ExtN N H1 H2) : ExtN N H H2 := fun c o n h => b c o n (a c o n h)
mutual
theorem Is.mono {N : List Addr} {H H' : Hp} (e : ExtN N H H') : ∀ {v : V} {d : PyData}, Is N H v d → Is N H' v d
  | _, _, .non => .non
  | _, _, .bl b => .bl b
  | _, _, .int i => .int i
  | _, _, .str h ha => .str h ha
  | _, _, .lst n h t => .lst n (e _ _ n h) (IsAll.mono e t)
  | _, _, .tup n h t => .tup n (e _ _ n h) (IsAll.mono e t)
  | _, _, .dct n h => .dct n (e _ _ n h)
theorem IsAll.mono {N : List Addr} {H H' : Hp} (e : ExtN N H H') : ∀ {vs : List V} {ds : List PyData}, IsAll N H vs ds → IsAll N H' vs ds
  | _, _, .nil => .nil
  | _, _, .cons h t => .cons (Is.mono e h) (IsAll.mono e t)
end
theorem Is.kind {N : List Addr} {H : Hp} {v : V} {d : PyData} (h : Is N H v d) : KindV H v := by
  cases h with
  | non => exact .non
  | bl b => exact .bl b
  | int i => exact .int i
  | str h ha => exact .str h ha
  | lst n e t => exact .lst e
  | tup n e t => exact .tup e
  | dct n e => exact .dK e
mutual
theorem Is.dp {K : PySem.W.Frag} {N : List Addr} {H : Hp} : ∀ {v : V} {d : PyData}, Is N H v d → d.hasDict = false → Dp K H v d
  | _, _, .non, _ => .non
  | _, _, .bl b, _ => .bl b
  | _, _, .int i, _ => .int i
  | _, _, .str h ha, _ => .str _
  | _, _, .lst n h t, q => .lst (.inl (.inl h)) (IsAll.dp t q)
  | _, _, .tup n h t, q => .tup (.inl (.inl h)) (IsAll.dp t q)
  | _, _, .dct n h, q => nomatch q
theorem IsAll.dp {K : PySem.W.Frag} {N : List Addr} {H : Hp} : ∀ {vs : List V} {ds : List PyData}, IsAll N H vs ds → PyData.hasDictAll ds = false → DpAll K H vs ds
  | _, _, .nil, _ => .nil
  | _, _, .cons h t, q => by
    have q2 := Bool.or_eq_false_iff.mp q
    exact .cons (Is.dp h q2.1) (IsAll.dp t q2.2)
end
theorem IsAll.len {N : List Addr} {H : Hp} : ∀ {vs : List V} {ds : List PyData}, IsAll N H vs ds → vs.length = ds.length
  | _, _, .nil => rfl
  | _, _, .cons _ t => congrArg Nat.succ t.len
theorem IsAll.get {N : List Addr} {H : Hp} : ∀ {vs : List V} {ds : List PyData} {i : Nat} {v : V}, IsAll N H vs ds → vs[i]? = some v → ∃ d, ds[i]? = some d ∧ Is N H v d
  | _, _, _, _, .nil, e => by simp at e
  | _, _, 0, _, .cons h _, e => by
    cases e
    exact ⟨_, rfl, h⟩
  | _, _, i + 1, _, .cons _ t, e => t.get (i := i) (by simpa using e)
theorem IsAll.append {N : List Addr} {H : Hp} : ∀ {vs us : List V} {ds es : List PyData}, IsAll N H vs ds → IsAll N H us es → IsAll N H (vs ++ us) (ds ++ es)
  | _, _, _, _, .nil, b => b
  | _, _, _, _, .cons h t, b => .cons h (t.append b)
theorem IsAll.take {N : List Addr} {H : Hp} : ∀ {vs : List V} {ds : List PyData} (k : Nat), IsAll N H vs ds → IsAll N H (vs.take k) (ds.take k)
  | _, _, 0, _ => .nil
  | _, _, _ + 1, .nil => .nil
  | _, _, k + 1, .cons h t => .cons h (t.take k)
theorem IsAll.drop {N : List Addr} {H : Hp} : ∀ {vs : List V} {ds : List PyData} (k : Nat), IsAll N H vs ds → IsAll N H (vs.drop k) (ds.drop k)
  | _, _, 0, h => h
  | _, _, _ + 1, .nil => .nil
  | _, _, k + 1, .cons _ t => t.drop k
theorem IsAll.mem {N : List Addr} {H : Hp} : ∀ {vs : List V} {ds : List PyData} {v : V}, IsAll N H vs ds → v ∈ vs → ∃ d, d ∈ ds ∧ Is N H v d
  | _, _, _, .cons h t, e => by
    cases e with
    | head => exact ⟨_, .head _, h⟩
    | tail _ e =>
      obtain ⟨d, m, i⟩ := t.mem e
      exact ⟨d, .tail _ m, i⟩
def tupD : PyData → Bool
  | .tuple _ => true
  | _ => false
def boolD : PyData → Bool
  | .bool _ => true
  | _ => false
theorem Is.isiTup {K : PySem.W.Frag} {N : List Addr} {H : Hp} {v : V} {d : PyData} {Q : VK} (h : Is N H v d) (q : Q (.bl (tupD d)) H) : rIsi K [v, .ty "tuple"] H Q := by
  cases h with
  | non => exact ⟨_, _, .type "NoneType", .type "tuple", false, rfl, .ty _, .base .non, kit_ty (by decide +kernel), q⟩
  | bl b => exact ⟨_, _, .type "bool", .type "tuple", false, rfl, .ty _, .base (.bl _), kit_ty (by decide +kernel), q⟩
  | int i => exact ⟨_, _, .type "int", .type "tuple", false, rfl, .ty _, .base (.int _), kit_ty (by decide +kernel), q⟩
  | str h ha => exact ⟨_, _, .type "str", .type "tuple", false, rfl, .ty _, .base (.str _), kit_ty (by decide +kernel), q⟩
  | lst n e t => exact ⟨_, _, .type "list", .type "tuple", false, rfl, .ty _, .base (.lst e), kit_ty (by decide +kernel), q⟩
  | tup n e t => exact ⟨_, _, .type "tuple", .type "tuple", true, rfl, .ty _, .base (.tup e), kit_ty (by decide +kernel), q⟩
  | dct n e => exact ⟨_, _, .type "dict", .type "tuple", false, rfl, .ty _, .base (.dK e), kit_ty (by decide +kernel), q⟩
theorem Is.isiBool {K : PySem.W.Frag} {N : List Addr} {H : Hp} {v : V} {d : PyData} {Q : VK} (h : Is N H v d) (q : Q (.bl (boolD d)) H) : rIsi K [v, .ty "bool"] H Q := by
  have e : boolD d = isBoolV v := by cases h <;> rfl
  rw [e] at q
  exact h.kind.isiBool q
mutual
theorem Is.sub {N N' : List Addr} {H : Hp} (s : ∀ a, a ∈ N' → a ∈ N) : ∀ {v : V} {d : PyData}, Is N H v d → Is N' H v d
  | _, _, .non => .non
  | _, _, .bl b => .bl b
  | _, _, .int i => .int i
  | _, _, .str h ha => .str h ha
  | _, _, .lst n h t => .lst (fun z => n (s _ z)) h (IsAll.sub s t)
  | _, _, .tup n h t => .tup (fun z => n (s _ z)) h (IsAll.sub s t)
  | _, _, .dct n h => .dct (fun z => n (s _ z)) h
theorem IsAll.sub {N N' : List Addr} {H : Hp} (s : ∀ a, a ∈ N' → a ∈ N) : ∀ {vs : List V} {ds : List PyData}, IsAll N H vs ds → IsAll N' H vs ds
  | _, _, .nil => .nil
  | _, _, .cons h t => .cons (Is.sub s h) (IsAll.sub s t)
end
/-- a new address may be left out, too -/
theorem nin_new {N : List Addr} {H : Hp} {a D : Addr} {o : HO} (n : a ∉ N) (h : H a = some o) (hD : H D = none) : a ∉ D :: N := fun z => by
  cases z with
  | head => rw [hD] at h; cases h
  | tail _ z => exact n z
mutual
theorem Is.more {N : List Addr} {H : Hp} {D : Addr} (hD : H D = none) : ∀ {v : V} {d : PyData}, Is N H v d → Is (D :: N) H v d
  | _, _, .non => .non
  | _, _, .bl b => .bl b
  | _, _, .int i => .int i
  | _, _, .str h ha => .str h ha
  | _, _, .lst n h t => .lst (nin_new n h hD) h (IsAll.more hD t)
  | _, _, .tup n h t => .tup (nin_new n h hD) h (IsAll.more hD t)
  | _, _, .dct n h => .dct (nin_new n h hD) h
theorem IsAll.more {N : List Addr} {H : Hp} {D : Addr} (hD : H D = none) : ∀ {vs : List V} {ds : List PyData}, IsAll N H vs ds → IsAll (D :: N) H vs ds
  | _, _, .nil => .nil
  | _, _, .cons h t => .cons (Is.more hD h) (IsAll.more hD t)
end
theorem ExtN.at_ {N : List Addr} {H H' : Hp} {p : Addr} {o : HO} (hp : p ∈ N) (e : ExtN N H H') : ExtN N H (upd H' p o) := fun b u n h => by
  have nb : b ≠ p := fun z => n (by rw [z]; exact hp)
  rw [upd_ne nb]
  exact e b u n h
theorem nin1 {a d : Addr} (h : a ≠ d) : a ∉ [d] := fun z => h (List.mem_singleton.mp z)
end My

--CUT
namespace My
open PySem PySem.Spec PyProof.Rows L2
/-! ### what may be drawn: data, or a dict of one text with an empty tuple; lists of such; their repr -/
inductive Th (K : PySem.W.Frag) (H : Hp) : V → PyData → Prop
  | dp {v : V} {d : PyData} (h : Dp K H v d) (hd : d.hasDict = false) : Th K H v d
  | dct {a t : Addr} {z : Str} (e : H a = some (.dK [(.inr z, .ref t)])) (et : H t = some (.tup [])) : Th K H (.ref a) (.dict [(.str z, .tuple [])])
section
variable {X : Cx} {pins : List (Addr × Obj)} {σ : L2.St} {H : Hp} {s : Shared}
theorem Th.reads {v : V} {d : PyData} {u : Value} (I : Inv X pins σ H s) (h : Th X.K H v d) (r : RelV v u) : ∃ as, Reads s.heap u d as ∧ (d.hasDict = true → sysModules ∉ as) := by
  cases h with
  | dp h hd =>
    obtain ⟨as, q⟩ := Dp.reads I d v u h r
    exact ⟨as, q, PyData.noDict_hsm hd⟩
  | @dct a t z e et =>
    cases (show u = Value.ref a from r)
    obtain ⟨_, hsm, vs, kv, o, es, ep, h1, h2, h3, _, h5, _⟩ := (show ObjOk X.prog X.w H s.heap a (.dK [(.inr z, .ref t)]) from I.hok a _ e)
    obtain ⟨_, its, rv, ot, ht1, ht2, n, ht3⟩ := (show ObjOk X.prog X.w H s.heap t (.tup []) from I.hok t _ et)
    cases rv
    cases kv with
    | cons k1 kr =>
      cases kr
      obtain ⟨k1, k2⟩ := k1
      have k3 := (show _ = Value.ref t from k2)
      obtain ⟨l⟩ := es
      cases h5 with
      | cons p1 p2 p3 =>
        cases p3
        rename_i _ _ _ en _
        obtain ⟨eh, ek, ev⟩ := en
        have p4 := p2.trans k3
        cases (show ev = Value.ref t from p4)
        have p5 := (show keyIs _ ek = true from p1)
        rw [← k1] at p5
        rcases keyIs_shape p5 with ⟨i, tk, e1, e2⟩ | ⟨x, tk, e1, e2⟩
        · cases e1
        · cases e1
          subst e2
          refine ⟨_, Reads.dict (kvs := [(.str z, .tuple [])]) h1 h2.1 h3 (.cons (.str z tk) .nil) (.cons (.tuple ht1 ht2 ht3 .nil) .nil), fun _ hm => ?_⟩
          have ne : a ≠ sysModules := beq_eq_false_iff_ne.mp hsm
          simp only [List.append_nil, List.mem_cons, List.not_mem_nil, or_false] at hm
          exact ne hm.symm
theorem ths_reads {d : PyData} (I : Inv X pins σ H s) : ∀ {vs : List V} {us : List Value}, (∀ v ∈ vs, Th X.K H v d) → Vals vs us → ∃ as, ReadsAll s.heap us (List.replicate vs.length d) as ∧ (d.hasDict = true → sysModules ∉ as)
  | [], _, _, .nil => ⟨_, .nil, fun _ z => nomatch z⟩
  | v :: vs, _, h, .cons r rr => by
    obtain ⟨as, h1, h2⟩ := (h v List.mem_cons_self).reads I r
    obtain ⟨bs, h3, h4⟩ := ths_reads I (fun x hx => h x (List.mem_cons_of_mem _ hx)) rr
    exact ⟨as ++ bs, .cons h1 h3, fun z hm => by
      rcases List.mem_append.mp hm with y | y
      · exact h2 z y
      · exact h4 z y⟩
theorem hasDict_rep {d : PyData} : ∀ n : Nat, PyData.hasDictAll (List.replicate n d) = true → d.hasDict = true
  | 0, h => by cases h
  | n + 1, h => by
    rw [List.replicate_succ] at h
    rcases Bool.or_eq_true_iff.mp (show (d.hasDict || PyData.hasDictAll (List.replicate n d)) = true from h) with y | y
    · exact y
    · exact hasDict_rep n y
end
section
variable {prog : Program} {w : World} {h₀ : Heap} {a : Addr} {o : Obj} {vs : Array Value} {n : Nat} {xs : List PyData} {as : List Addr}
theorem shows_list (h1 : h₀.get? a = some o) (h2 : o.cls = .type "list") (h3 : o.data = .seq vs n) (h4 : ReadsAll h₀ vs.toList xs as) (hs : PyData.showableAll xs = true) (hsm : PyData.hasDictAll xs = true → sysModules ∉ as)
    (hz : (listText (PyData.shownAll xs)).length ≤ sizeLine) : ∃ T idr, ShowsBy prog w h₀ a (.list xs) T idr := by
  obtain ⟨bs, hb, hk⟩ := ReprAllK.of_readsAll (prog := prog) (w := w) h4 hs hsm (fun t ht => Nat.le_trans (listText_mem_le ht) hz)
  have hna : a ∉ bs := not_mem_of_deeper (.list h1 h2 h3 h4) (by simp only [PyData.depth]; omega) hb
  refine ⟨"list", "list.__repr__", PySem.F.slot_list_repr.toG, PySem.F.slot_list_str, PySem.F.slot_list_format, fun s hk0 => ⟨o, hk0 _ _ h1, h2⟩, fun A E s Q hg hu hk0 hQ => ?_⟩
  simp only [PyData.depth] at hu
  simp only [PyData.shown] at hQ
  obtain ⟨l⟩ := vs
  cases l with
  | nil =>
    have h4' : ReadsAll h₀ [] xs _ := h4
    cases h4'
    simp only [PyData.shownAll, listText_nil] at hQ
    exact call_list_repr_empty ⟨o, hk0 _ _ h1, h2⟩ (hk0 _ _ h1) h3 (hQ s.heap _ _ fun _ _ e => e)
  | cons x l => exact call_list_reprK h1 h2 h3 hna (by simpa using hk.length_eq) (fun i y e => hk.item i y (by simpa using e)) hg (fun b _ => Clear.nil b) hu hk0 hQ hz
end
/-- repr(x): x as drawn, or a list of one such thing again and again -/
def fine (d : PyData) : Bool := d.showable && decide (d.depth ≤ 50) && decide (d.shown.length ≤ 100000)
def wReprT (K : PySem.W.Frag) : List V → Hp → VK → Prop := fun xs H Q => (∃ (v : V) (d : PyData), xs = [v] ∧ Th K H v d ∧ fine d = true ∧ Q (.str d.shown) H) ∨
  ∃ (a : Addr) (ys : List V) (d : PyData), xs = [.ref a] ∧ H a = some (.lst ys) ∧ (∀ y ∈ ys, Th K H y d) ∧ fine (.list (List.replicate ys.length d)) = true ∧ Q (.str (PyData.list (List.replicate ys.length d)).shown) H
theorem fine_ok {d : PyData} (h : fine d = true) : d.showable = true ∧ d.depth ≤ 50 ∧ d.shown.length ≤ sizeLine := by
  unfold fine at h
  simp only [Bool.and_eq_true, decide_eq_true_eq] at h
  exact ⟨h.1.1, h.1.2, Nat.le_trans h.2 (by decide)⟩
theorem c_reprT {X : Cx} {K : PySem.W.Frag} (hG : X.A.guards = some []) (hu : X.A.units + 64 < cLine) (hK : X.K = K := by rfl) : CallR X (.builtin "repr") (wReprT K) := by
  subst hK
  intro pins s σ H xs us Q I r h
  rcases h with ⟨v, d, rfl, ht, hf, q⟩ | ⟨a, ys, d, rfl, ha, hall, hf, q⟩
  · obtain ⟨h1, h2, h3⟩ := fine_ok hf
    obtain ⟨u, rfl, rx⟩ := vals1 r
    obtain ⟨as, rd, hsm⟩ := ht.reads I rx
    have fin : ∀ {b : Addr}, u = .ref b → wpAny (model X.prog X.w) X.A (call (.builtin "repr") [u]) (EP X pins σ Q) X.xe s := fun {b} e => by
      subst e
      exact repr_of_reads' rd h1 hsm hG (by omega) (fun _ _ e => e) (fun h' u tk k => ⟨.str d.shown, H, I.kept k, ⟨_, rfl⟩, q⟩) h3
    cases ht with
    | dct e et => exact fin rx
    | dp h hd =>
      cases h with
      | non =>
        cases (show u = Value.none from rx)
        exact PySem.P.repr_of_none ⟨.str _, H, I.tok _, ⟨_, rfl⟩, by simpa only [PyData.shown] using q⟩
      | bl b =>
        cases (show u = Value.bool b from rx)
        exact PySem.P.repr_of_bool ⟨.str _, H, I.tok _, ⟨_, rfl⟩, by simpa only [PyData.shown] using q⟩
      | int i =>
        obtain ⟨tk, rfl⟩ := (show ∃ t, u = Value.int i t from rx)
        exact PySem.P.repr_of_int (by simpa [PyData.showable] using h1) ⟨.str _, H, I.tok _, ⟨_, rfl⟩, by simpa only [PyData.shown] using q⟩
      | str z =>
        obtain ⟨tk, rfl⟩ := (show ∃ t, u = Value.str z t from rx)
        exact PySem.P.repr_of_str ⟨.str _, H, I.tok _, ⟨_, rfl⟩, by simpa only [PyData.shown] using q⟩ (by simpa only [PyData.shown] using h3)
      | lst _ _ => exact fin rx
      | tup _ _ => exact fin rx
  · obtain ⟨h1, h2, h3⟩ := fine_ok hf
    obtain ⟨u, rfl, rx⟩ := vals1 r
    cases (show u = Value.ref a from rx)
    obtain ⟨hz, its, n, rv, ho⟩ := (show ObjOk X.prog X.w H s.heap a (.lst ys) from I.hok a _ ha)
    obtain ⟨as, rd, hsm⟩ := ths_reads I hall rv
    obtain ⟨T, idr, S⟩ := shows_list (prog := X.prog) (w := X.w) (vs := its.toArray) ho rfl rfl rd (by simpa only [PyData.showable] using h1) (fun z => hsm (hasDict_rep _ z)) (by simpa only [PyData.shown] using h3)
    exact call_repr_slot (by omega) (S.typeIs s fun _ _ e => e) S.slotRepr (S.call X.A.in1 _ s _ hG (by show X.A.units + 1 + _ < cLine; omega) (fun _ _ e => e) fun h' u tk k => ⟨_, _, rfl, .str _, H, I.kept k, ⟨_, rfl⟩, q⟩)
/-! ### isinstance, one class behind the other -/
def kitRow (K : PySem.W.Frag) (C : Addr) (us : List Value) : List (Option Bool) := us.map (PySem.W.kitOne K (.ref C))
def mk1 (b : Bool) : Str := if b then "x" else "."
def marks (bs : List Bool) : Str := Txt.join "" (bs.map mk1)
end My

--CUT
namespace My
open PySem PySem.Spec PyProof.Rows L2
def topS (i : Nat) : Stmt := PySem.Challenge.pw_offside_k00_errors_and_what_they_keep.main.body.getD i (.Pass ⟨0, 0, 0, 0⟩)
abbrev s_ParseError_init : Stmt := inClass (topS 9) 0
abbrev s_UnknownWord_init : Stmt := inClass (topS 10) 0
abbrev s_Impossible_init : Stmt := inClass (topS 11) 0
abbrev s_NothingToUndo_init : Stmt := inClass (topS 12) 0
abbrev s_TooMany_init : Stmt := inClass (topS 13) 0
abbrev s_Refused_init : Stmt := inClass (topS 14) 0
abbrev s_NoColumns_init : Stmt := inClass (topS 15) 0
abbrev s_InvalidNumber_init : Stmt := inClass (topS 16) 0
abbrev s_Broken_init : Stmt := inClass (topS 17) 0
abbrev s_dice : Stmt := topS 19
abbrev s_roll : Stmt := topS 20
abbrev s_pick : Stmt := topS 21
abbrev s_kinds : Stmt := topS 22
abbrev s_others : Stmt := topS 23
abbrev s_right : Stmt := topS 24
abbrev s_law : Stmt := topS 25
theorem sc_ParseError_init : FnScope ["self", "line"] ["self", "line"] (defScope s_ParseError_init) := ⟨rfl, rfl, rfl, by decide +kernel, rfl, by decide +kernel, by decide +kernel⟩
theorem sc_UnknownWord_init : FnScope ["self", "asked"] ["self", "asked"] (defScope s_UnknownWord_init) := ⟨rfl, rfl, rfl, by decide +kernel, rfl, by decide +kernel, by decide +kernel⟩
theorem sc_Impossible_init : FnScope ["self", "index"] ["self", "index"] (defScope s_Impossible_init) := ⟨rfl, rfl, rfl, by decide +kernel, rfl, by decide +kernel, by decide +kernel⟩
theorem sc_NothingToUndo_init : FnScope ["self", "amount"] ["self", "amount"] (defScope s_NothingToUndo_init) := ⟨rfl, rfl, rfl, by decide +kernel, rfl, by decide +kernel, by decide +kernel⟩
theorem sc_TooMany_init : FnScope ["self", "limit"] ["self", "limit"] (defScope s_TooMany_init) := ⟨rfl, rfl, rfl, by decide +kernel, rfl, by decide +kernel, by decide +kernel⟩
theorem sc_Refused_init : FnScope ["self", "cause"] ["self", "cause"] (defScope s_Refused_init) := ⟨rfl, rfl, rfl, by decide +kernel, rfl, by decide +kernel, by decide +kernel⟩
theorem sc_NoColumns_init : FnScope ["self", "total"] ["self", "total"] (defScope s_NoColumns_init) := ⟨rfl, rfl, rfl, by decide +kernel, rfl, by decide +kernel, by decide +kernel⟩
theorem sc_InvalidNumber_init : FnScope ["self", "number"] ["self", "number"] (defScope s_InvalidNumber_init) := ⟨rfl, rfl, rfl, by decide +kernel, rfl, by decide +kernel, by decide +kernel⟩
theorem sc_Broken_init : FnScope ["self", "index"] ["self", "index"] (defScope s_Broken_init) := ⟨rfl, rfl, rfl, by decide +kernel, rfl, by decide +kernel, by decide +kernel⟩
theorem sc_dice : FnScope ["_law_script", "_law_spot", "_law_cell", "_law_great", "_law_blend"] ["_law_script", "_law_spot"] (defScope s_dice) := ⟨rfl, rfl, rfl, by decide +kernel, rfl, by decide +kernel, by decide +kernel⟩
theorem sc_roll : FnScope ["_law_dice_here", "_law_total", "_law_found", "_law_one", "_law_two"] ["_law_dice_here", "_law_total"] (defScope s_roll) := ⟨rfl, rfl, rfl, by decide +kernel, rfl, by decide +kernel, by decide +kernel⟩
theorem sc_pick : FnScope ["_law_dice_here", "_law_items"] ["_law_dice_here", "_law_items"] (defScope s_pick) := ⟨rfl, rfl, rfl, by decide +kernel, rfl, by decide +kernel, by decide +kernel⟩
theorem sc_kinds : FnScope ["_law_error", "_law_told", "_law_one"] ["_law_error"] (defScope s_kinds) := ⟨rfl, rfl, rfl, by decide +kernel, rfl, by decide +kernel, by decide +kernel⟩
theorem sc_others : FnScope ["_law_error", "_law_told", "_law_one"] ["_law_error"] (defScope s_others) := ⟨rfl, rfl, rfl, by decide +kernel, rfl, by decide +kernel, by decide +kernel⟩
theorem sc_right : FnScope ["_law_dice_here", "_law_thing", "_law_words", "_law_base", "_law_one", "_law_at", "_law_due", "_law_others_here", "_law_kept"] ["_law_dice_here"] (defScope s_right) := ⟨rfl, rfl, rfl, by decide +kernel, rfl, by decide +kernel, by decide +kernel⟩
theorem sc_law : FnScope ["_law_script", "_law_spot", "_law_dice_here", "_law_turn"] ["_law_script"] (defScope s_law) := ⟨rfl, rfl, rfl, by decide +kernel, rfl, by decide +kernel, by decide +kernel⟩
structure Txt (K : PySem.W.Frag) (mg : Str → Option Value) where
  C_OffsideError : Addr
  gC_OffsideError : mg "OffsideError" = some (.ref C_OffsideError)
  x_OffsideError : XC K C_OffsideError
  xi_OffsideError : PySem.W.excIn K C_OffsideError [.type "ValueError", .type "Exception", .type "BaseException", .type "object"] "ValueError.__new__" = true
  st_OffsideError : PySem.W.findIn K (.ref C_OffsideError) "__str__" = some (some (.builtin "BaseException.__str__"))
  C_InvalidWord : Addr
  gC_InvalidWord : mg "InvalidWord" = some (.ref C_InvalidWord)
  x_InvalidWord : XC K C_InvalidWord
  xi_InvalidWord : PySem.W.excIn K C_InvalidWord [.type "ValueError", .type "Exception", .type "BaseException", .type "object"] "ValueError.__new__" = true
  st_InvalidWord : PySem.W.findIn K (.ref C_InvalidWord) "__str__" = some (some (.builtin "BaseException.__str__"))
  C_InvalidBook : Addr
  gC_InvalidBook : mg "InvalidBook" = some (.ref C_InvalidBook)
  x_InvalidBook : XC K C_InvalidBook
  xi_InvalidBook : PySem.W.excIn K C_InvalidBook [.type "ValueError", .type "Exception", .type "BaseException", .type "object"] "ValueError.__new__" = true
  st_InvalidBook : PySem.W.findIn K (.ref C_InvalidBook) "__str__" = some (some (.builtin "BaseException.__str__"))
  C_InvalidText : Addr
  gC_InvalidText : mg "InvalidText" = some (.ref C_InvalidText)
  x_InvalidText : XC K C_InvalidText
  xi_InvalidText : PySem.W.excIn K C_InvalidText [.type "ValueError", .type "Exception", .type "BaseException", .type "object"] "ValueError.__new__" = true
  st_InvalidText : PySem.W.findIn K (.ref C_InvalidText) "__str__" = some (some (.builtin "BaseException.__str__"))
  C_InvalidState : Addr
  gC_InvalidState : mg "InvalidState" = some (.ref C_InvalidState)
  x_InvalidState : XC K C_InvalidState
  xi_InvalidState : PySem.W.excIn K C_InvalidState [.type "ValueError", .type "Exception", .type "BaseException", .type "object"] "ValueError.__new__" = true
  st_InvalidState : PySem.W.findIn K (.ref C_InvalidState) "__str__" = some (some (.builtin "BaseException.__str__"))
  C_InvalidRow : Addr
  gC_InvalidRow : mg "InvalidRow" = some (.ref C_InvalidRow)
  x_InvalidRow : XC K C_InvalidRow
  xi_InvalidRow : PySem.W.excIn K C_InvalidRow [.type "ValueError", .type "Exception", .type "BaseException", .type "object"] "ValueError.__new__" = true
  st_InvalidRow : PySem.W.findIn K (.ref C_InvalidRow) "__str__" = some (some (.builtin "BaseException.__str__"))
  C_InvalidDemand : Addr
  gC_InvalidDemand : mg "InvalidDemand" = some (.ref C_InvalidDemand)
  x_InvalidDemand : XC K C_InvalidDemand
  xi_InvalidDemand : PySem.W.excIn K C_InvalidDemand [.type "ValueError", .type "Exception", .type "BaseException", .type "object"] "ValueError.__new__" = true
  st_InvalidDemand : PySem.W.findIn K (.ref C_InvalidDemand) "__str__" = some (some (.builtin "BaseException.__str__"))
  C_InvalidOperation : Addr
  gC_InvalidOperation : mg "InvalidOperation" = some (.ref C_InvalidOperation)
  x_InvalidOperation : XC K C_InvalidOperation
  xi_InvalidOperation : PySem.W.excIn K C_InvalidOperation [.type "ValueError", .type "Exception", .type "BaseException", .type "object"] "ValueError.__new__" = true
  st_InvalidOperation : PySem.W.findIn K (.ref C_InvalidOperation) "__str__" = some (some (.builtin "BaseException.__str__"))
  C_ParseError : Addr
  gC_ParseError : mg "ParseError" = some (.ref C_ParseError)
  x_ParseError : XC K C_ParseError
  C_UnknownWord : Addr
  gC_UnknownWord : mg "UnknownWord" = some (.ref C_UnknownWord)
  x_UnknownWord : XC K C_UnknownWord
  C_Impossible : Addr
  gC_Impossible : mg "Impossible" = some (.ref C_Impossible)
  x_Impossible : XC K C_Impossible
  C_NothingToUndo : Addr
  gC_NothingToUndo : mg "NothingToUndo" = some (.ref C_NothingToUndo)
  x_NothingToUndo : XC K C_NothingToUndo
  C_TooMany : Addr
  gC_TooMany : mg "TooMany" = some (.ref C_TooMany)
  x_TooMany : XC K C_TooMany
  C_Refused : Addr
  gC_Refused : mg "Refused" = some (.ref C_Refused)
  x_Refused : XC K C_Refused
  C_NoColumns : Addr
  gC_NoColumns : mg "NoColumns" = some (.ref C_NoColumns)
  x_NoColumns : XC K C_NoColumns
  C_InvalidNumber : Addr
  gC_InvalidNumber : mg "InvalidNumber" = some (.ref C_InvalidNumber)
  x_InvalidNumber : XC K C_InvalidNumber
  C_Broken : Addr
  gC_Broken : mg "Broken" = some (.ref C_Broken)
  x_Broken : XC K C_Broken
  f_ParseError_init : Addr
  fd_ParseError_init : FuncData
  F_ParseError_init : Fun K "__init__" "ParseError.__init__" s_ParseError_init f_ParseError_init fd_ParseError_init
  b_ParseError_init : Binds K fd_ParseError_init ["self", "line"] []
  xi_ParseError : xInB K C_ParseError "ValueError" "ValueError.__new__" = true
  xo_ParseError : PySem.W.excOver K C_ParseError [.type "ValueError", .type "Exception", .type "BaseException", .type "object"] = true
  tk_ParseError : PySem.W.takerIn K C_ParseError "line" = some none
  nf_ParseError : PySem.W.findIn K (.ref C_ParseError) "line" = some none
  i_ParseError : PySem.W.findIn K (.ref C_ParseError) "__init__" = some (some (.ref f_ParseError_init))
  ti_ParseError : PySem.W.typeIn K (.ref f_ParseError_init) = some (.type "function")
  f_UnknownWord_init : Addr
  fd_UnknownWord_init : FuncData
  F_UnknownWord_init : Fun K "__init__" "UnknownWord.__init__" s_UnknownWord_init f_UnknownWord_init fd_UnknownWord_init
  b_UnknownWord_init : Binds K fd_UnknownWord_init ["self", "asked"] []
  xi_UnknownWord : xInB K C_UnknownWord "LookupError" "LookupError.__new__" = true
  xo_UnknownWord : PySem.W.excOver K C_UnknownWord [.type "KeyError", .type "LookupError", .type "Exception", .type "BaseException", .type "object"] = true
  tk_UnknownWord : PySem.W.takerIn K C_UnknownWord "asked" = some none
  nf_UnknownWord : PySem.W.findIn K (.ref C_UnknownWord) "asked" = some none
  i_UnknownWord : PySem.W.findIn K (.ref C_UnknownWord) "__init__" = some (some (.ref f_UnknownWord_init))
  ti_UnknownWord : PySem.W.typeIn K (.ref f_UnknownWord_init) = some (.type "function")
  f_Impossible_init : Addr
  fd_Impossible_init : FuncData
  F_Impossible_init : Fun K "__init__" "Impossible.__init__" s_Impossible_init f_Impossible_init fd_Impossible_init
  b_Impossible_init : Binds K fd_Impossible_init ["self", "index"] []
  xi_Impossible : xInB K C_Impossible "LookupError" "LookupError.__new__" = true
  xo_Impossible : PySem.W.excOver K C_Impossible [.type "LookupError", .type "Exception", .type "BaseException", .type "object"] = true
  tk_Impossible : PySem.W.takerIn K C_Impossible "index" = some none
  nf_Impossible : PySem.W.findIn K (.ref C_Impossible) "index" = some none
  i_Impossible : PySem.W.findIn K (.ref C_Impossible) "__init__" = some (some (.ref f_Impossible_init))
  ti_Impossible : PySem.W.typeIn K (.ref f_Impossible_init) = some (.type "function")
  f_NothingToUndo_init : Addr
  fd_NothingToUndo_init : FuncData
  F_NothingToUndo_init : Fun K "__init__" "NothingToUndo.__init__" s_NothingToUndo_init f_NothingToUndo_init fd_NothingToUndo_init
  b_NothingToUndo_init : Binds K fd_NothingToUndo_init ["self", "amount"] []
  xi_NothingToUndo : xInB K C_NothingToUndo "IndexError" "IndexError.__new__" = true
  xo_NothingToUndo : PySem.W.excOver K C_NothingToUndo [.type "IndexError", .type "LookupError", .type "Exception", .type "BaseException", .type "object"] = true
  tk_NothingToUndo : PySem.W.takerIn K C_NothingToUndo "amount" = some none
  nf_NothingToUndo : PySem.W.findIn K (.ref C_NothingToUndo) "amount" = some none
  i_NothingToUndo : PySem.W.findIn K (.ref C_NothingToUndo) "__init__" = some (some (.ref f_NothingToUndo_init))
  ti_NothingToUndo : PySem.W.typeIn K (.ref f_NothingToUndo_init) = some (.type "function")
  f_TooMany_init : Addr
  fd_TooMany_init : FuncData
  F_TooMany_init : Fun K "__init__" "TooMany.__init__" s_TooMany_init f_TooMany_init fd_TooMany_init
  b_TooMany_init : Binds K fd_TooMany_init ["self", "limit"] []
  xi_TooMany : xInB K C_TooMany "OverflowError" "OverflowError.__new__" = true
  xo_TooMany : PySem.W.excOver K C_TooMany [.type "OverflowError", .type "ArithmeticError", .type "Exception", .type "BaseException", .type "object"] = true
  tk_TooMany : PySem.W.takerIn K C_TooMany "limit" = some none
  nf_TooMany : PySem.W.findIn K (.ref C_TooMany) "limit" = some none
  i_TooMany : PySem.W.findIn K (.ref C_TooMany) "__init__" = some (some (.ref f_TooMany_init))
  ti_TooMany : PySem.W.typeIn K (.ref f_TooMany_init) = some (.type "function")
  f_Refused_init : Addr
  fd_Refused_init : FuncData
  F_Refused_init : Fun K "__init__" "Refused.__init__" s_Refused_init f_Refused_init fd_Refused_init
  b_Refused_init : Binds K fd_Refused_init ["self", "cause"] []
  xi_Refused : xInB K C_Refused "ArithmeticError" "ArithmeticError.__new__" = true
  xo_Refused : PySem.W.excOver K C_Refused [.type "ArithmeticError", .type "Exception", .type "BaseException", .type "object"] = true
  tk_Refused : PySem.W.takerIn K C_Refused "cause" = some none
  nf_Refused : PySem.W.findIn K (.ref C_Refused) "cause" = some none
  i_Refused : PySem.W.findIn K (.ref C_Refused) "__init__" = some (some (.ref f_Refused_init))
  ti_Refused : PySem.W.typeIn K (.ref f_Refused_init) = some (.type "function")
  f_NoColumns_init : Addr
  fd_NoColumns_init : FuncData
  F_NoColumns_init : Fun K "__init__" "NoColumns.__init__" s_NoColumns_init f_NoColumns_init fd_NoColumns_init
  b_NoColumns_init : Binds K fd_NoColumns_init ["self", "total"] []
  xi_NoColumns : xInB K C_NoColumns "ArithmeticError" "ArithmeticError.__new__" = true
  xo_NoColumns : PySem.W.excOver K C_NoColumns [.type "ArithmeticError", .type "Exception", .type "BaseException", .type "object"] = true
  tk_NoColumns : PySem.W.takerIn K C_NoColumns "total" = some none
  nf_NoColumns : PySem.W.findIn K (.ref C_NoColumns) "total" = some none
  i_NoColumns : PySem.W.findIn K (.ref C_NoColumns) "__init__" = some (some (.ref f_NoColumns_init))
  ti_NoColumns : PySem.W.typeIn K (.ref f_NoColumns_init) = some (.type "function")
  f_InvalidNumber_init : Addr
  fd_InvalidNumber_init : FuncData
  F_InvalidNumber_init : Fun K "__init__" "InvalidNumber.__init__" s_InvalidNumber_init f_InvalidNumber_init fd_InvalidNumber_init
  b_InvalidNumber_init : Binds K fd_InvalidNumber_init ["self", "number"] []
  xi_InvalidNumber : xInB K C_InvalidNumber "RuntimeError" "RuntimeError.__new__" = true
  xo_InvalidNumber : PySem.W.excOver K C_InvalidNumber [.type "RuntimeError", .type "Exception", .type "BaseException", .type "object"] = true
  tk_InvalidNumber : PySem.W.takerIn K C_InvalidNumber "number" = some none
  nf_InvalidNumber : PySem.W.findIn K (.ref C_InvalidNumber) "number" = some none
  i_InvalidNumber : PySem.W.findIn K (.ref C_InvalidNumber) "__init__" = some (some (.ref f_InvalidNumber_init))
  ti_InvalidNumber : PySem.W.typeIn K (.ref f_InvalidNumber_init) = some (.type "function")
  f_Broken_init : Addr
  fd_Broken_init : FuncData
  F_Broken_init : Fun K "__init__" "Broken.__init__" s_Broken_init f_Broken_init fd_Broken_init
  b_Broken_init : Binds K fd_Broken_init ["self", "index"] []
  xi_Broken : xInB K C_Broken "RuntimeError" "RuntimeError.__new__" = true
  xo_Broken : PySem.W.excOver K C_Broken [.type "RuntimeError", .type "Exception", .type "BaseException", .type "object"] = true
  tk_Broken : PySem.W.takerIn K C_Broken "index" = some none
  nf_Broken : PySem.W.findIn K (.ref C_Broken) "index" = some none
  i_Broken : PySem.W.findIn K (.ref C_Broken) "__init__" = some (some (.ref f_Broken_init))
  ti_Broken : PySem.W.typeIn K (.ref f_Broken_init) = some (.type "function")
  f_dice : Addr
  fd_dice : FuncData
  F_dice : Fun K "_law_dice" "_law_dice" s_dice f_dice fd_dice
  g_dice : mg "_law_dice" = some (.ref f_dice)
  b_dice : Binds K fd_dice ["_law_script", "_law_spot"] []
  f_roll : Addr
  fd_roll : FuncData
  F_roll : Fun K "_law_roll" "_law_roll" s_roll f_roll fd_roll
  g_roll : mg "_law_roll" = some (.ref f_roll)
  b_roll : Binds K fd_roll ["_law_dice_here", "_law_total"] []
  f_pick : Addr
  fd_pick : FuncData
  F_pick : Fun K "_law_pick" "_law_pick" s_pick f_pick fd_pick
  g_pick : mg "_law_pick" = some (.ref f_pick)
  b_pick : Binds K fd_pick ["_law_dice_here", "_law_items"] []
  f_kinds : Addr
  fd_kinds : FuncData
  F_kinds : Fun K "_law_kinds" "_law_kinds" s_kinds f_kinds fd_kinds
  g_kinds : mg "_law_kinds" = some (.ref f_kinds)
  b_kinds : Binds K fd_kinds ["_law_error"] []
  f_others : Addr
  fd_others : FuncData
  F_others : Fun K "_law_others" "_law_others" s_others f_others fd_others
  g_others : mg "_law_others" = some (.ref f_others)
  b_others : Binds K fd_others ["_law_error"] []
  f_right : Addr
  fd_right : FuncData
  F_right : Fun K "_law_right" "_law_right" s_right f_right fd_right
  g_right : mg "_law_right" = some (.ref f_right)
  b_right : Binds K fd_right ["_law_dice_here"] []
  z_len : mg "len" = none
  z_int : mg "int" = none
  z_abs : mg "abs" = none
  z_max : mg "max" = none
  z_isinstance : mg "isinstance" = none
  z_ValueError : mg "ValueError" = none
  z_KeyError : mg "KeyError" = none
  z_IndexError : mg "IndexError" = none
  z_LookupError : mg "LookupError" = none
  z_OverflowError : mg "OverflowError" = none
  z_ArithmeticError : mg "ArithmeticError" = none
  z_RuntimeError : mg "RuntimeError" = none
  z_str : mg "str" = none
  z_range : mg "range" = none
  z_repr : mg "repr" = none
  z_min : mg "min" = none
  k1_OffsideError : kitRow K C_OffsideError [.ref C_InvalidWord, .ref C_InvalidBook, .ref C_InvalidText, .ref C_InvalidState, .ref C_InvalidRow, .ref C_InvalidDemand, .ref C_InvalidOperation, .ref C_ParseError, .ref C_OffsideError, .type "ValueError"] = [some false, some false, some false, some false, some false, some false, some false, some false, some true, some true]
  k1_InvalidWord : kitRow K C_InvalidWord [.ref C_InvalidWord, .ref C_InvalidBook, .ref C_InvalidText, .ref C_InvalidState, .ref C_InvalidRow, .ref C_InvalidDemand, .ref C_InvalidOperation, .ref C_ParseError, .ref C_OffsideError, .type "ValueError"] = [some true, some false, some false, some false, some false, some false, some false, some false, some true, some true]
  k1_InvalidBook : kitRow K C_InvalidBook [.ref C_InvalidWord, .ref C_InvalidBook, .ref C_InvalidText, .ref C_InvalidState, .ref C_InvalidRow, .ref C_InvalidDemand, .ref C_InvalidOperation, .ref C_ParseError, .ref C_OffsideError, .type "ValueError"] = [some false, some true, some false, some false, some false, some false, some false, some false, some true, some true]
  k1_InvalidText : kitRow K C_InvalidText [.ref C_InvalidWord, .ref C_InvalidBook, .ref C_InvalidText, .ref C_InvalidState, .ref C_InvalidRow, .ref C_InvalidDemand, .ref C_InvalidOperation, .ref C_ParseError, .ref C_OffsideError, .type "ValueError"] = [some false, some false, some true, some false, some false, some false, some false, some false, some true, some true]
  k1_InvalidState : kitRow K C_InvalidState [.ref C_InvalidWord, .ref C_InvalidBook, .ref C_InvalidText, .ref C_InvalidState, .ref C_InvalidRow, .ref C_InvalidDemand, .ref C_InvalidOperation, .ref C_ParseError, .ref C_OffsideError, .type "ValueError"] = [some false, some false, some false, some true, some false, some false, some false, some false, some true, some true]
  k1_InvalidRow : kitRow K C_InvalidRow [.ref C_InvalidWord, .ref C_InvalidBook, .ref C_InvalidText, .ref C_InvalidState, .ref C_InvalidRow, .ref C_InvalidDemand, .ref C_InvalidOperation, .ref C_ParseError, .ref C_OffsideError, .type "ValueError"] = [some false, some false, some false, some false, some true, some false, some false, some false, some true, some true]
  k1_InvalidDemand : kitRow K C_InvalidDemand [.ref C_InvalidWord, .ref C_InvalidBook, .ref C_InvalidText, .ref C_InvalidState, .ref C_InvalidRow, .ref C_InvalidDemand, .ref C_InvalidOperation, .ref C_ParseError, .ref C_OffsideError, .type "ValueError"] = [some false, some false, some false, some false, some false, some true, some false, some false, some true, some true]
  k1_InvalidOperation : kitRow K C_InvalidOperation [.ref C_InvalidWord, .ref C_InvalidBook, .ref C_InvalidText, .ref C_InvalidState, .ref C_InvalidRow, .ref C_InvalidDemand, .ref C_InvalidOperation, .ref C_ParseError, .ref C_OffsideError, .type "ValueError"] = [some false, some false, some false, some false, some false, some false, some true, some false, some true, some true]
  k1_ParseError : kitRow K C_ParseError [.ref C_InvalidWord, .ref C_InvalidBook, .ref C_InvalidText, .ref C_InvalidState, .ref C_InvalidRow, .ref C_InvalidDemand, .ref C_InvalidOperation, .ref C_ParseError, .ref C_OffsideError, .type "ValueError"] = [some false, some false, some false, some false, some false, some false, some false, some true, some true, some true]
  k1_UnknownWord : kitRow K C_UnknownWord [.ref C_InvalidWord, .ref C_InvalidBook, .ref C_InvalidText, .ref C_InvalidState, .ref C_InvalidRow, .ref C_InvalidDemand, .ref C_InvalidOperation, .ref C_ParseError, .ref C_OffsideError, .type "ValueError"] = [some false, some false, some false, some false, some false, some false, some false, some false, some false, some false]
  k1_Impossible : kitRow K C_Impossible [.ref C_InvalidWord, .ref C_InvalidBook, .ref C_InvalidText, .ref C_InvalidState, .ref C_InvalidRow, .ref C_InvalidDemand, .ref C_InvalidOperation, .ref C_ParseError, .ref C_OffsideError, .type "ValueError"] = [some false, some false, some false, some false, some false, some false, some false, some false, some false, some false]
  k1_NothingToUndo : kitRow K C_NothingToUndo [.ref C_InvalidWord, .ref C_InvalidBook, .ref C_InvalidText, .ref C_InvalidState, .ref C_InvalidRow, .ref C_InvalidDemand, .ref C_InvalidOperation, .ref C_ParseError, .ref C_OffsideError, .type "ValueError"] = [some false, some false, some false, some false, some false, some false, some false, some false, some false, some false]
  k1_TooMany : kitRow K C_TooMany [.ref C_InvalidWord, .ref C_InvalidBook, .ref C_InvalidText, .ref C_InvalidState, .ref C_InvalidRow, .ref C_InvalidDemand, .ref C_InvalidOperation, .ref C_ParseError, .ref C_OffsideError, .type "ValueError"] = [some false, some false, some false, some false, some false, some false, some false, some false, some false, some false]
  k1_Refused : kitRow K C_Refused [.ref C_InvalidWord, .ref C_InvalidBook, .ref C_InvalidText, .ref C_InvalidState, .ref C_InvalidRow, .ref C_InvalidDemand, .ref C_InvalidOperation, .ref C_ParseError, .ref C_OffsideError, .type "ValueError"] = [some false, some false, some false, some false, some false, some false, some false, some false, some false, some false]
  k1_NoColumns : kitRow K C_NoColumns [.ref C_InvalidWord, .ref C_InvalidBook, .ref C_InvalidText, .ref C_InvalidState, .ref C_InvalidRow, .ref C_InvalidDemand, .ref C_InvalidOperation, .ref C_ParseError, .ref C_OffsideError, .type "ValueError"] = [some false, some false, some false, some false, some false, some false, some false, some false, some false, some false]
  k1_InvalidNumber : kitRow K C_InvalidNumber [.ref C_InvalidWord, .ref C_InvalidBook, .ref C_InvalidText, .ref C_InvalidState, .ref C_InvalidRow, .ref C_InvalidDemand, .ref C_InvalidOperation, .ref C_ParseError, .ref C_OffsideError, .type "ValueError"] = [some false, some false, some false, some false, some false, some false, some false, some false, some false, some false]
  k1_Broken : kitRow K C_Broken [.ref C_InvalidWord, .ref C_InvalidBook, .ref C_InvalidText, .ref C_InvalidState, .ref C_InvalidRow, .ref C_InvalidDemand, .ref C_InvalidOperation, .ref C_ParseError, .ref C_OffsideError, .type "ValueError"] = [some false, some false, some false, some false, some false, some false, some false, some false, some false, some false]
  k2_OffsideError : kitRow K C_OffsideError [.ref C_UnknownWord, .ref C_Impossible, .ref C_NothingToUndo, .ref C_TooMany, .ref C_Refused, .ref C_NoColumns, .ref C_InvalidNumber, .ref C_Broken, .type "KeyError", .type "IndexError", .type "LookupError", .type "OverflowError", .type "ArithmeticError", .type "RuntimeError"] = [some false, some false, some false, some false, some false, some false, some false, some false, some false, some false, some false, some false, some false, some false]
  k2_InvalidWord : kitRow K C_InvalidWord [.ref C_UnknownWord, .ref C_Impossible, .ref C_NothingToUndo, .ref C_TooMany, .ref C_Refused, .ref C_NoColumns, .ref C_InvalidNumber, .ref C_Broken, .type "KeyError", .type "IndexError", .type "LookupError", .type "OverflowError", .type "ArithmeticError", .type "RuntimeError"] = [some false, some false, some false, some false, some false, some false, some false, some false, some false, some false, some false, some false, some false, some false]
  k2_InvalidBook : kitRow K C_InvalidBook [.ref C_UnknownWord, .ref C_Impossible, .ref C_NothingToUndo, .ref C_TooMany, .ref C_Refused, .ref C_NoColumns, .ref C_InvalidNumber, .ref C_Broken, .type "KeyError", .type "IndexError", .type "LookupError", .type "OverflowError", .type "ArithmeticError", .type "RuntimeError"] = [some false, some false, some false, some false, some false, some false, some false, some false, some false, some false, some false, some false, some false, some false]
  k2_InvalidText : kitRow K C_InvalidText [.ref C_UnknownWord, .ref C_Impossible, .ref C_NothingToUndo, .ref C_TooMany, .ref C_Refused, .ref C_NoColumns, .ref C_InvalidNumber, .ref C_Broken, .type "KeyError", .type "IndexError", .type "LookupError", .type "OverflowError", .type "ArithmeticError", .type "RuntimeError"] = [some false, some false, some false, some false, some false, some false, some false, some false, some false, some false, some false, some false, some false, some false]
  k2_InvalidState : kitRow K C_InvalidState [.ref C_UnknownWord, .ref C_Impossible, .ref C_NothingToUndo, .ref C_TooMany, .ref C_Refused, .ref C_NoColumns, .ref C_InvalidNumber, .ref C_Broken, .type "KeyError", .type "IndexError", .type "LookupError", .type "OverflowError", .type "ArithmeticError", .type "RuntimeError"] = [some false, some false, some false, some false, some false, some false, some false, some false, some false, some false, some false, some false, some false, some false]
  k2_InvalidRow : kitRow K C_InvalidRow [.ref C_UnknownWord, .ref C_Impossible, .ref C_NothingToUndo, .ref C_TooMany, .ref C_Refused, .ref C_NoColumns, .ref C_InvalidNumber, .ref C_Broken, .type "KeyError", .type "IndexError", .type "LookupError", .type "OverflowError", .type "ArithmeticError", .type "RuntimeError"] = [some false, some false, some false, some false, some false, some false, some false, some false, some false, some false, some false, some false, some false, some false]
  k2_InvalidDemand : kitRow K C_InvalidDemand [.ref C_UnknownWord, .ref C_Impossible, .ref C_NothingToUndo, .ref C_TooMany, .ref C_Refused, .ref C_NoColumns, .ref C_InvalidNumber, .ref C_Broken, .type "KeyError", .type "IndexError", .type "LookupError", .type "OverflowError", .type "ArithmeticError", .type "RuntimeError"] = [some false, some false, some false, some false, some false, some false, some false, some false, some false, some false, some false, some false, some false, some false]
  k2_InvalidOperation : kitRow K C_InvalidOperation [.ref C_UnknownWord, .ref C_Impossible, .ref C_NothingToUndo, .ref C_TooMany, .ref C_Refused, .ref C_NoColumns, .ref C_InvalidNumber, .ref C_Broken, .type "KeyError", .type "IndexError", .type "LookupError", .type "OverflowError", .type "ArithmeticError", .type "RuntimeError"] = [some false, some false, some false, some false, some false, some false, some false, some false, some false, some false, some false, some false, some false, some false]
  k2_ParseError : kitRow K C_ParseError [.ref C_UnknownWord, .ref C_Impossible, .ref C_NothingToUndo, .ref C_TooMany, .ref C_Refused, .ref C_NoColumns, .ref C_InvalidNumber, .ref C_Broken, .type "KeyError", .type "IndexError", .type "LookupError", .type "OverflowError", .type "ArithmeticError", .type "RuntimeError"] = [some false, some false, some false, some false, some false, some false, some false, some false, some false, some false, some false, some false, some false, some false]
  k2_UnknownWord : kitRow K C_UnknownWord [.ref C_UnknownWord, .ref C_Impossible, .ref C_NothingToUndo, .ref C_TooMany, .ref C_Refused, .ref C_NoColumns, .ref C_InvalidNumber, .ref C_Broken, .type "KeyError", .type "IndexError", .type "LookupError", .type "OverflowError", .type "ArithmeticError", .type "RuntimeError"] = [some true, some false, some false, some false, some false, some false, some false, some false, some true, some false, some true, some false, some false, some false]
  k2_Impossible : kitRow K C_Impossible [.ref C_UnknownWord, .ref C_Impossible, .ref C_NothingToUndo, .ref C_TooMany, .ref C_Refused, .ref C_NoColumns, .ref C_InvalidNumber, .ref C_Broken, .type "KeyError", .type "IndexError", .type "LookupError", .type "OverflowError", .type "ArithmeticError", .type "RuntimeError"] = [some false, some true, some false, some false, some false, some false, some false, some false, some false, some false, some true, some false, some false, some false]
  k2_NothingToUndo : kitRow K C_NothingToUndo [.ref C_UnknownWord, .ref C_Impossible, .ref C_NothingToUndo, .ref C_TooMany, .ref C_Refused, .ref C_NoColumns, .ref C_InvalidNumber, .ref C_Broken, .type "KeyError", .type "IndexError", .type "LookupError", .type "OverflowError", .type "ArithmeticError", .type "RuntimeError"] = [some false, some false, some true, some false, some false, some false, some false, some false, some false, some true, some true, some false, some false, some false]
  k2_TooMany : kitRow K C_TooMany [.ref C_UnknownWord, .ref C_Impossible, .ref C_NothingToUndo, .ref C_TooMany, .ref C_Refused, .ref C_NoColumns, .ref C_InvalidNumber, .ref C_Broken, .type "KeyError", .type "IndexError", .type "LookupError", .type "OverflowError", .type "ArithmeticError", .type "RuntimeError"] = [some false, some false, some false, some true, some false, some false, some false, some false, some false, some false, some false, some true, some true, some false]
  k2_Refused : kitRow K C_Refused [.ref C_UnknownWord, .ref C_Impossible, .ref C_NothingToUndo, .ref C_TooMany, .ref C_Refused, .ref C_NoColumns, .ref C_InvalidNumber, .ref C_Broken, .type "KeyError", .type "IndexError", .type "LookupError", .type "OverflowError", .type "ArithmeticError", .type "RuntimeError"] = [some false, some false, some false, some false, some true, some false, some false, some false, some false, some false, some false, some false, some true, some false]
  k2_NoColumns : kitRow K C_NoColumns [.ref C_UnknownWord, .ref C_Impossible, .ref C_NothingToUndo, .ref C_TooMany, .ref C_Refused, .ref C_NoColumns, .ref C_InvalidNumber, .ref C_Broken, .type "KeyError", .type "IndexError", .type "LookupError", .type "OverflowError", .type "ArithmeticError", .type "RuntimeError"] = [some false, some false, some false, some false, some false, some true, some false, some false, some false, some false, some false, some false, some true, some false]
  k2_InvalidNumber : kitRow K C_InvalidNumber [.ref C_UnknownWord, .ref C_Impossible, .ref C_NothingToUndo, .ref C_TooMany, .ref C_Refused, .ref C_NoColumns, .ref C_InvalidNumber, .ref C_Broken, .type "KeyError", .type "IndexError", .type "LookupError", .type "OverflowError", .type "ArithmeticError", .type "RuntimeError"] = [some false, some false, some false, some false, some false, some false, some true, some false, some false, some false, some false, some false, some false, some true]
  k2_Broken : kitRow K C_Broken [.ref C_UnknownWord, .ref C_Impossible, .ref C_NothingToUndo, .ref C_TooMany, .ref C_Refused, .ref C_NoColumns, .ref C_InvalidNumber, .ref C_Broken, .type "KeyError", .type "IndexError", .type "LookupError", .type "OverflowError", .type "ArithmeticError", .type "RuntimeError"] = [some false, some false, some false, some false, some false, some false, some false, some true, some false, some false, some false, some false, some false, some true]
end My
namespace My
open PySem PySem.Spec PyProof.Rows L2
section
variable {P : Program} {w : World} {K : PySem.W.Frag} {mg : Str → Option Value} {base : Heap}
/-! ### _law_dice -/
def spDice (K : PySem.W.Frag) : Sp := fun vs H Q _ => ∃ (a : Addr) (ns : List Int) (k : Nat), vs = [.ref a, .int k] ∧ SqL K H a (ns.map V.int) ∧ ∀ (d : Addr) (H' : Hp), H d = none → Same H H' → Dice H' d → Q (.ref d) H'
theorem ok_dice (T : Txt K mg) : FnOk P w K mg base CX0 1 T.f_dice T.fd_dice ["_law_script", "_law_spot"] (spDice K) := by
  refine T.F_dice.ok sc_dice (fun vs H Q E h => ?_) (fun cdv A outer s H vs Q E hr h => ?_)
  · obtain ⟨a, ns, k, rfl, _⟩ := h
    rfl
  · obtain ⟨a, ns, k, rfl, hs, q⟩ := h
    refine ⟨_, (pss_cons (ps_set (i := 2) sc_dice.nd rfl (.inl rfl) (pe_op op_add (pe_op op_mul pe_int (pv 1)) pe_int))
      (pss_cons (ps_if (pt_cmpR op_lt (pv 1) (pe_callB (c_len (K := K)) (by rfl) T.z_len (by decide +kernel) (pa_cons (pv 0) pa_nil)) (nomark _)) (pss_one (ps_set (i := 2) sc_dice.nd rfl (.inl rfl) (pe_ix (i_list (K := K)) (pv 0) (pv 1) (fun _ _ => rfl)))) pss_nil)
      (pss_cons (ps_set (i := 3) sc_dice.nd rfl (.inl rfl) (pe_op op_mod (pe_callTy c_int1 (by rfl) T.z_int (by decide +kernel) (pa_cons (pe_callB c_abs (by rfl) T.z_abs (by decide +kernel) (pa_cons (pv 2) pa_nil)) pa_nil)) (pe_op op_powW (pe_op op_powW pe_int pe_int) pe_int)))
      (pss_cons (ps_set (i := 4) sc_dice.nd rfl (.inl rfl) (pe_op op_add (pe_op op_add (pe_op op_add (pe_op op_mul (pe_op op_mod (pe_callTy c_int1 (by rfl) T.z_int (by decide +kernel) (pa_cons (pv 3) pa_nil)) pe_int) pe_int) (pe_op op_mul pe_int (pv 1))) (pe_op op_mul pe_int (pe_callTy c_int1 (by rfl) T.z_int (by decide +kernel) (pa_cons (pe_cmpR op_lt (pv 2) pe_int (nomark _)) pa_nil)))) pe_int))
      (pss_one (ps_ret (pe_lst (pa_cons (pe_callB (c_max2 rfl) (by rfl) T.z_max (by decide +kernel) (pa_cons pe_int (pa_cons (pe_op op_sub (pv 3) (pe_op op_powW pe_int pe_int)) pa_nil))) (pa_cons (pe_op op_mod (pe_callTy c_int1 (by rfl) T.z_int (by decide +kernel) (pa_cons (pv 4) pa_nil)) pe_int) (pa_cons pe_int pa_nil)))))))))), ?_⟩
    walk_at "zrd"
    refine ⟨a, _, rfl, .inl hs, ?_⟩
    walk_at "zrd"
    have fin : ∀ (x y z : Int) (p : Addr), 0 ≤ x → H p = none → Q (.ref p) (upd H p (.lst [.int x, .int y, .int z])) := fun x y z p h0 hp =>
      q p _ hp (fun b o e => by rw [upd_ne (ne_of_none e hp)]; exact e) (Dice.mk3 h0)
    have tail : ∀ (g : Int), 0 ≤ (if g > 0 then g else 0) := fun g => by
      by_cases h : g > 0
      · rw [if_pos h]; omega
      · rw [if_neg h]; omega
    refine ite2 (fun e => ?_) (fun e => ?_)
    · have hk : k < ns.length := by
        have e1 := of_decide_eq_true e
        rw [List.length_map] at e1
        omega
      walk_at "zrd"
      refine ⟨a, _, (k : Int), .int ns[k], rfl, rfl, hs, atI_nat ?_, ?_⟩
      · rw [List.getElem?_map, List.getElem?_eq_getElem hk]
        rfl
      walk_at "zrd"
      exact ⟨by show 3 ≤ sizeLine; decide, fun p hp => fin _ _ _ p (tail _) hp⟩
    · walk_at "zrd"
      exact ⟨by show 3 ≤ sizeLine; decide, fun p hp => fin _ _ _ p (tail _) hp⟩
/-! ### _law_roll -/
def spRoll : Sp := fun vs H Q _ => ∃ (d : Addr) (n : Int), vs = [.ref d, .int n] ∧ Dice H d ∧ 1 ≤ n ∧ n < 1073741824 ∧ ∀ (r : Nat) (H' : Hp), (r : Int) < n → Ext d H H' → Dice H' d → Q (.int r) H'
theorem ok_roll (T : Txt K mg) : FnOk P w K mg base CX0 1 T.f_roll T.fd_roll ["_law_dice_here", "_law_total"] spRoll := by
  refine T.F_roll.ok sc_roll (fun vs H Q E h => ?_) (fun cdv A outer s H vs Q E hr h => ?_)
  · obtain ⟨d, n, rfl, _⟩ := h
    rfl
  · obtain ⟨d, n, rfl, ⟨a, b, c, h0, hd⟩, h1, h2, q⟩ := h
    refine ⟨_, (pss_cons (ps_if (pt_cmpR op_gt (pe_ix (i_list (K := K)) (pv 0) pe_int (fun _ _ => rfl)) pe_int (nomark _)) (pss_cons (ps_set (i := 2) sc_roll.nd rfl (.inl rfl) (pe_op op_mod (pe_callTy c_int1 (by rfl) T.z_int (by decide +kernel) (pa_cons (pe_ix (i_list (K := K)) (pv 0) pe_int (fun _ _ => rfl)) pa_nil)) (pv 1)))
      (pss_cons (ps_asg (pe_op op_fdiv (pe_ix (i_list (K := K)) (pv 0) pe_int (fun _ _ => rfl)) (pv 1)) (pg_sub (pv 0) pe_int set_list))
      (pss_one (ps_ret (pv 2))))) pss_nil)
      (pss_cons (ps_asg (pe_op op_add (pe_ix (i_list (K := K)) (pv 0) pe_int (fun _ _ => rfl)) pe_int) (pg_sub (pv 0) pe_int set_list))
      (pss_cons (ps_set (i := 3) sc_roll.nd rfl (.inl rfl) (pe_op op_mod (pe_callTy c_int1 (by rfl) T.z_int (by decide +kernel) (pa_cons (pe_op op_add (pe_ix (i_list (K := K)) (pv 0) pe_int (fun _ _ => rfl)) (pe_op op_mul pe_int (pe_ix (i_list (K := K)) (pv 0) pe_int (fun _ _ => rfl)))) pa_nil)) pe_int))
      (pss_cons (ps_set (i := 4) sc_roll.nd rfl (.inl rfl) (pe_op op_add (pe_op op_mul (pe_op op_mod (pe_callTy c_int1 (by rfl) T.z_int (by decide +kernel) (pa_cons (pe_op op_mul (pv 3) (pv 3)) pa_nil)) pe_int) (pv 3)) (pe_op op_mul pe_int (pe_ix (i_list (K := K)) (pv 0) pe_int (fun _ _ => rfl)))))
      (pss_cons (ps_set (i := 4) sc_roll.nd rfl (.inl rfl) (pe_op op_mod (pe_callTy c_int1 (by rfl) T.z_int (by decide +kernel) (pa_cons (pv 4) pa_nil)) pe_int))
      (pss_one (ps_ret (pe_op op_mod (pe_callTy c_int1 (by rfl) T.z_int (by decide +kernel) (pa_cons (pe_op op_fdiv (pv 4) pe_int) pa_nil)) (pv 1))))))))), ?_⟩
    walk_at "zrd"
    refine ite2 (fun e => ?_) (fun e => ?_)
    · walk_at "zrd"
      obtain ⟨h3, h4⟩ := nx_pos h1 h0
      have q' := q (a % n).toNat (upd H d (.lst [.int (a / n), .int b, .int c])) h3 (Ext.refl d H).at_ (Dice.mk3 (Int.ediv_nonneg h0 (by omega)))
      rw [h4] at q'
      exact q'
    · walk_at "zrd"
      have key : ∀ z : Int, 0 ≤ z → Q (.int (z % n)) (upd H d (.lst [.int a, .int b, .int (c + 1)])) := fun z hz => by
        obtain ⟨h3, h4⟩ := nx_pos h1 hz
        have q' := q (z % n).toNat (upd H d (.lst [.int a, .int b, .int (c + 1)])) h3 (Ext.refl d H).at_ (Dice.mk3 h0)
        rw [h4] at q'
        exact q'
      exact key _ (Int.ediv_nonneg (Int.emod_nonneg _ (by decide)) (by decide))
/-! ### _law_pick -/
def spPick : Sp := fun vs H Q _ => ∃ (d l : Addr) (xs : List V), vs = [.ref d, .ref l] ∧ Dice H d ∧ H l = some (.lst xs) ∧ l ≠ d ∧ xs ≠ [] ∧ xs.length < 1073741824 ∧ ∀ (v : V) (H' : Hp), v ∈ xs → Ext d H H' → Dice H' d → Q v H'
theorem ok_pick (T : Txt K mg) : FnOk P w K mg base CX0 2 T.f_pick T.fd_pick ["_law_dice_here", "_law_items"] spPick := by
  refine T.F_pick.ok sc_pick (fun vs H Q E h => ?_) (fun cdv A outer s H vs Q E hr h => ?_)
  · obtain ⟨d, l, xs, rfl, _⟩ := h
    rfl
  · obtain ⟨d, l, xs, rfl, hd, hl, hne, h1, h2, q⟩ := h
    have h0 : 1 ≤ xs.length := List.length_pos_iff.mpr h1
    refine ⟨_, (pss_one (ps_ret (pe_ix (i_list (K := K)) (pv 1) (pe_call (ok_roll T) (hr.mono (by decide)) (by rfl) T.g_roll T.F_roll.kp T.b_roll .nil pass0 (pa_cons (pv 0) (pa_cons (pe_callB (c_len (K := K)) (by rfl) T.z_len (by decide +kernel) (pa_cons (pv 1) pa_nil)) pa_nil))) (fun _ _ => rfl)))), ?_⟩
    walk_at "zrd"
    refine ⟨d, (xs.length : Int), rfl, hd, by omega, by omega, fun r H1 hr1 e1 d1 => ?_⟩
    have hl1 : H1 l = some (.lst xs) := e1 _ _ hne hl
    have hr2 : r < xs.length := by omega
    refine ⟨l, xs, r, xs[r], rfl, rfl, .inl (.inl hl1), atI_nat (List.getElem?_eq_getElem hr2), ?_⟩
    exact q _ H1 (List.getElem_mem hr2) e1 d1
end
end My

--CUT
namespace My
open PySem PySem.Spec PyProof.Rows L2 Evl
/-! ### what evaluates to what, further -/
section
variable {K : PySem.W.Frag} {σ : L2.St} {H H' : Hp} {D : Ends}
theorem el_cat {ta tb : TE} {a : Addr} {xs ys : List V} (ha : Ev ta σ H (.ref a)) (h : H a = some (.lst xs)) (hb : EvL tb σ H ys) (hz : xs.length + ys.length ≤ 100000) : EvL (tOp rCat ta tb) σ H (xs ++ ys) := fun H1 e Q q =>
  ha H1 e _ fun H2 e2 => hb H2 (e.trans e2) _ fun p H3 _ e3 hp => r_cat (((e.trans e2).trans e3) _ _ h) hp (sz_of hz) fun l hl => q l _ (fresh_back (e2.trans e3) hl) ((e2.trans e3).trans (Ex.new hl)) upd_same
theorem el_rep {ta tb : TE} {xs : List V} {k : Int} (ha : EvL ta σ H xs) (hb : Ev tb σ H (.int k)) (h0 : 0 ≤ k) (h1 : k < 1000) (hz : xs.length * k.toNat ≤ 100000) : EvL (tOp rRep ta tb) σ H (List.replicate k.toNat xs).flatten := fun H1 e Q q =>
  ha H1 e _ fun p1 H2 _ e2 hp1 => hb H2 (e.trans e2) _ fun H3 e3 => r_rep (e3 _ _ hp1) h0 h1 (sz_of hz) fun l hl => q l _ (fresh_back (e2.trans e3) hl) ((e2.trans e3).trans (Ex.new hl)) upd_same
theorem Dice.same {d : Addr} {H H' : Hp} (h : Dice H d) (e : Same H H') : Dice H' d := by
  obtain ⟨a, b, c, h0, g⟩ := h
  exact ⟨a, b, c, h0, e _ _ g⟩
/-- a value of which R is told -/
def EvP (te : TE) (σ : L2.St) (H : Hp) (R : V → Hp → Prop) : Prop := ∀ H1, Ex H H1 → ∀ Q : VK, (∀ v H2, Ex H1 H2 → R v H2 → Q v H2) → te σ H1 Q
/-- of each value something is told -/
inductive Zp (H : Hp) : List V → List (V → Hp → Prop) → Prop
  | nil : Zp H [] []
  | cons {v : V} {vs : List V} {R : V → Hp → Prop} {Rs : List (V → Hp → Prop)} (h : R v H) (t : Zp H vs Rs) : Zp H (v :: vs) (R :: Rs)
def EvZ (ta : TA) (σ : L2.St) (H : Hp) (Rs : List (V → Hp → Prop)) : Prop := ∀ H1, Ex H H1 → ∀ Q : List V → Hp → Prop, (∀ vs H2, Ex H1 H2 → Zp H2 vs Rs → Q vs H2) → ta σ H1 Q
def Mono (R : V → Hp → Prop) : Prop := ∀ v H1 H2, Ex H1 H2 → R v H1 → R v H2
theorem ez_nil : EvZ tNil σ H [] := fun H1 _ Q q => q [] H1 (Ex.refl H1) .nil
theorem ez_cons {te : TE} {tr : TA} {R : V → Hp → Prop} {Rs : List (V → Hp → Prop)} (m : Mono R) (h : EvP te σ H R) (hr : EvZ tr σ H Rs) : EvZ (tCons te tr) σ H (R :: Rs) := fun H1 e Q q =>
  h H1 e _ fun v H2 e2 hv => hr H2 (e.trans e2) _ fun vs H3 e3 hvs => q _ H3 (e2.trans e3) (.cons (m v _ _ e3 hv) hvs)
theorem Zp.len {vs : List V} {Rs : List (V → Hp → Prop)} (h : Zp H vs Rs) : vs.length = Rs.length := by
  induction h with
  | nil => rfl
  | cons _ _ ih => exact congrArg Nat.succ ih
theorem Zp.mono (e : Ex H H') {vs : List V} {Rs : List (V → Hp → Prop)} (h : Zp H vs Rs) (m : ∀ R ∈ Rs, Mono R) : Zp H' vs Rs := by
  induction h with
  | nil => exact .nil
  | cons h t ih => exact .cons (m _ List.mem_cons_self _ _ _ e h) (ih fun R hR => m R (List.mem_cons_of_mem _ hR))
theorem Zp.append {vs us : List V} {Rs Ss : List (V → Hp → Prop)} (h : Zp H vs Rs) (g : Zp H us Ss) : Zp H (vs ++ us) (Rs ++ Ss) := by
  induction h with
  | nil => exact g
  | cons h t ih => exact .cons h ih
theorem Zp.get {vs : List V} {Rs : List (V → Hp → Prop)} (h : Zp H vs Rs) : ∀ {i : Nat} {v : V}, vs[i]? = some v → ∃ R, Rs[i]? = some R ∧ R v H := by
  induction h with
  | nil =>
    intro i v e
    simp at e
  | cons h t ih =>
    intro i v e
    cases i with
    | zero =>
      cases e
      exact ⟨_, rfl, h⟩
    | succ i => exact ih (i := i) (by simpa using e)
/-! ### exceptions as values -/
/-- an exception of C with one field -/
def XF (C : Addr) (f : Str) (y : V) (v : V) (H : Hp) : Prop := ∃ a dx, v = .ref a ∧ H a = some (exo a C (some dx)) ∧ H dx = some (exd dx [(f, y)])
/-- an exception of C with one text as its args -/
def XA (C : Addr) (z : Str) (v : V) (H : Hp) : Prop := ∃ a t, v = .ref a ∧ H a = some (exA a C t) ∧ H t = some (.tup [.str z])
theorem XF.mono {C : Addr} {f : Str} {y : V} : Mono (XF C f y) := fun v H1 H2 e h => by
  obtain ⟨a, dx, h1, h2, h3⟩ := h
  exact ⟨a, dx, h1, e _ _ h2, e _ _ h3⟩
theorem XA.mono {C : Addr} {z : Str} : Mono (XA C z) := fun v H1 H2 e h => by
  obtain ⟨a, t, h1, h2, h3⟩ := h
  exact ⟨a, t, h1, e _ _ h2, e _ _ h3⟩
theorem XAt.mono {a C : Addr} (e : Ex H H') (h : XAt H a C) : XAt H' a C := by
  rcases h with ⟨t, h⟩ | ⟨dx, fs, h, hd⟩
  · exact .inl ⟨t, e _ _ h⟩
  · exact .inr ⟨dx, fs, e _ _ h, e _ _ hd⟩
theorem XF.at_ {C : Addr} {f : Str} {y v : V} (h : XF C f y v H) : ∃ a, v = .ref a ∧ XAt H a C := by
  obtain ⟨a, dx, h1, h2, h3⟩ := h
  exact ⟨a, h1, .inr ⟨dx, _, h2, h3⟩⟩
theorem XA.at_ {C : Addr} {z : Str} {v : V} (h : XA C z v H) : ∃ a, v = .ref a ∧ XAt H a C := by
  obtain ⟨a, t, h1, h2, h3⟩ := h
  exact ⟨a, h1, .inl ⟨t, h2⟩⟩
/-- __init__ stores its argument -/
def spXI (C : Addr) (f : Str) : Sp := fun vs H Q _ => ∃ a y, vs = [.ref a, y] ∧ H a = some (exo a C none) ∧ ∀ dx, H dx = none → dx ≠ a → Q .non (upd (upd H dx (exd dx [(f, y)])) a (exo a C (some dx)))
abbrev tMkX (C : Addr) (sp : Sp) (ta : TA) : TE := fun σ H Q => ta σ H fun vs H1 => ∀ a, H1 a = none → sp (V.ref a :: vs) (upd H1 a (exo a C none)) (fun v H2 => v = .non ∧ Q (.ref a) H2) (fun _ _ _ => False)
abbrev tMkA (C : Addr) (te : TE) : TE := fun σ H Q => te σ H fun v H1 => ∀ t a, H1 t = none → H1 a = none → a ≠ t → Q (.ref a) (upd (upd H1 t (.tup [v])) a (exA a C t))
theorem xi_end {C : Addr} {f : Str} {y : V} {Q : VK} (q : ∀ v H2, Ex H H2 → XF C f y v H2 → Q v H2) (a : Addr) (ha : H a = none) : spXI C f [V.ref a, y] (upd H a (exo a C none)) (fun v H2 => v = .non ∧ Q (.ref a) H2) (fun _ _ _ => False) :=
  ⟨a, y, rfl, upd_same, fun dx hd hne => ⟨rfl, q (.ref a) _ (Ex.mut (Ex.mut (Ex.mut (Ex.refl H) ha) (by rw [upd_ne hne] at hd; exact hd)) ha) ⟨a, dx, rfl, upd_same, by rw [upd_ne hne, upd_same]⟩⟩⟩
theorem ep_mkX {C : Addr} {f : Str} {y : V} {te : TE} (h : Ev te σ H y) : EvP (tMkX C (spXI C f) (tCons te tNil)) σ H (XF C f y) := fun H1 e Q q =>
  h H1 e _ fun H2 e2 => fun a ha => xi_end (fun v H3 e3 hv => q v H3 (e2.trans e3) hv) a ha
theorem ep_mkA {C : Addr} {z : Str} {te : TE} (h : Ev te σ H (.str z)) : EvP (tMkA C te) σ H (XA C z) := fun H1 e Q q =>
  h H1 e _ fun H2 e2 => fun t a ht ha hne => q (.ref a) _ (e2.trans (Ex.mut (Ex.mut (Ex.refl H2) ht) ha)) ⟨a, t, rfl, upd_same, by rw [upd_ne hne.symm, upd_same]⟩
theorem ev_isX {a C : Addr} {c : V} {u : Value} {b : Bool} {ta tc : TE} (ha : Ev ta σ H (.ref a)) (hc : Ev tc σ H c) (hx : XAt H a C) (T : XC K C) (k : ClsV c u) (h : PySem.W.kitOne K (.ref C) u = some b) : Ev (tCB (rIsX K) (tCons ta (tCons tc tNil))) σ H (.bl b) :=
  ev_cb (ea_cons ha (ea_cons hc ea_nil)) fun H1 e Q q => ⟨a, C, c, u, b, rfl, hx.mono e, T, k, h, q H1 (Ex.refl H1)⟩
theorem ev_getX {n : Str} {C : Addr} {y v : V} {te : TE} (h : Ev te σ H v) (hv : XF C n y v H) (T : XC K C) (hn : PySem.W.findIn K (.ref C) n = some none) : Ev (tGetX K n te) σ H y := fun H1 e Q q => h H1 e _ fun H2 e2 => by
  obtain ⟨a, dx, h1, h2, h3⟩ := XF.mono v _ _ (e.trans e2) hv
  exact ⟨a, C, dx, _, y, h1, T, hn, h2, h3, by simp [List.lookup], q H2 e2⟩
theorem ev_strX {C : Addr} {z : Str} {v : V} {te : TE} (h : Ev te σ H v) (hv : XA C z v H) (T : XC K C) (hs : PySem.W.findIn K (.ref C) "__str__" = some (some (.builtin "BaseException.__str__"))) : Ev (tCB (wStrX K) (tCons te tNil)) σ H (.str z) := fun H1 e Q q => h H1 e _ fun H2 e2 => by
  obtain ⟨a, t, h1, h2, h3⟩ := XA.mono v _ _ (e.trans e2) hv
  exact ⟨a, C, t, z, by rw [h1], T, hs, h2, h3, q H2 e2⟩
theorem el_as {te : TE} {xs ys : List V} (h : EvL te σ H xs) (e : xs = ys) : EvL te σ H ys := by
  rw [← e]
  exact h
/-- "".join of a new list of texts -/
theorem ev_joinN {te to : TE} {a : Str} {ys : List Str} (ho : Ev to σ H (.str a)) (h : EvL te σ H (ys.map V.str)) (hz : (ys.map (·.length)).sum + ys.length * a.length ≤ 16777216) : Ev (tBM K "str" (wJoin K) to (tCons te tNil)) σ H (.str (Txt.join a ys)) := fun H1 e Q q =>
  ho H1 e _ fun H2 e2 => ⟨rfl, h H2 (e.trans e2) _ fun p H3 _ e3 hp => r_joinL hp hz (q H3 (e2.trans e3))⟩
theorem et_yes : EvT tYes σ H true := fun H1 _ Q q => q H1 (Ex.refl H1)
theorem sum_mk : ∀ bs : List Bool, ((bs.map mk1).map (·.length)).sum = bs.length
  | [] => rfl
  | b :: bs => by
    rw [List.map_cons, List.map_cons, List.sum_cons, sum_mk bs]
    cases b
    · show 1 + bs.length = bs.length + 1
      omega
    · show 1 + bs.length = bs.length + 1
      omega
theorem given_map (bs : List Bool) : given (bs.map V.bl).length (fun _ => true) (fun i => V.str (mk1 (bs.getD i false))) = (bs.map mk1).map V.str := by
  unfold given
  rw [List.length_map, List.filter_eq_self.mpr (fun _ _ => rfl), List.map_map]
  refine List.ext_getElem? fun i => ?_
  rw [List.getElem?_map, List.getElem?_map]
  by_cases h : i < bs.length
  · rw [List.getElem?_range h, List.getElem?_eq_getElem h]
    simp [h]
  · rw [List.getElem?_eq_none (by simp; omega), List.getElem?_eq_none (by omega)]
    rfl
end
theorem hu2 {k : Nat} {A : Around} (hr : Room k A) : A.units + 2 < cLine := by
  have := hr.un
  omega
section
variable {P : Program} {w : World} {K : PySem.W.Frag} {mg : Str → Option Value} {base : Heap}
theorem ok_ParseError_init (T : Txt K mg) : FnOk P w K mg base CX0 1 T.f_ParseError_init T.fd_ParseError_init ["self", "line"] (spXI T.C_ParseError "line") := by
  refine T.F_ParseError_init.ok sc_ParseError_init (fun vs H Q E h => ?_) (fun cdv A outer s H vs Q E hr h => ⟨_, (pss_one (ps_stx PySem.F.store_ValueError T.x_ParseError T.xo_ParseError T.tk_ParseError (pv 0) (pv 1))), ?_⟩)
  · obtain ⟨a, y, rfl, _⟩ := h
    rfl
  · obtain ⟨a, y, rfl, ha, q⟩ := h
    exact ⟨y, rfl, .ref a, rfl, a, rfl, ha, fun dx hn hne => q dx hn hne⟩
theorem ok_UnknownWord_init (T : Txt K mg) : FnOk P w K mg base CX0 1 T.f_UnknownWord_init T.fd_UnknownWord_init ["self", "asked"] (spXI T.C_UnknownWord "asked") := by
  refine T.F_UnknownWord_init.ok sc_UnknownWord_init (fun vs H Q E h => ?_) (fun cdv A outer s H vs Q E hr h => ⟨_, (pss_one (ps_stx keyStore T.x_UnknownWord T.xo_UnknownWord T.tk_UnknownWord (pv 0) (pv 1))), ?_⟩)
  · obtain ⟨a, y, rfl, _⟩ := h
    rfl
  · obtain ⟨a, y, rfl, ha, q⟩ := h
    exact ⟨y, rfl, .ref a, rfl, a, rfl, ha, fun dx hn hne => q dx hn hne⟩
theorem ok_Impossible_init (T : Txt K mg) : FnOk P w K mg base CX0 1 T.f_Impossible_init T.fd_Impossible_init ["self", "index"] (spXI T.C_Impossible "index") := by
  refine T.F_Impossible_init.ok sc_Impossible_init (fun vs H Q E h => ?_) (fun cdv A outer s H vs Q E hr h => ⟨_, (pss_one (ps_stx PySem.F.store_LookupError T.x_Impossible T.xo_Impossible T.tk_Impossible (pv 0) (pv 1))), ?_⟩)
  · obtain ⟨a, y, rfl, _⟩ := h
    rfl
  · obtain ⟨a, y, rfl, ha, q⟩ := h
    exact ⟨y, rfl, .ref a, rfl, a, rfl, ha, fun dx hn hne => q dx hn hne⟩
theorem ok_NothingToUndo_init (T : Txt K mg) : FnOk P w K mg base CX0 1 T.f_NothingToUndo_init T.fd_NothingToUndo_init ["self", "amount"] (spXI T.C_NothingToUndo "amount") := by
  refine T.F_NothingToUndo_init.ok sc_NothingToUndo_init (fun vs H Q E h => ?_) (fun cdv A outer s H vs Q E hr h => ⟨_, (pss_one (ps_stx PySem.F.store_IndexError T.x_NothingToUndo T.xo_NothingToUndo T.tk_NothingToUndo (pv 0) (pv 1))), ?_⟩)
  · obtain ⟨a, y, rfl, _⟩ := h
    rfl
  · obtain ⟨a, y, rfl, ha, q⟩ := h
    exact ⟨y, rfl, .ref a, rfl, a, rfl, ha, fun dx hn hne => q dx hn hne⟩
theorem ok_TooMany_init (T : Txt K mg) : FnOk P w K mg base CX0 1 T.f_TooMany_init T.fd_TooMany_init ["self", "limit"] (spXI T.C_TooMany "limit") := by
  refine T.F_TooMany_init.ok sc_TooMany_init (fun vs H Q E h => ?_) (fun cdv A outer s H vs Q E hr h => ⟨_, (pss_one (ps_stx PySem.F.store_OverflowError T.x_TooMany T.xo_TooMany T.tk_TooMany (pv 0) (pv 1))), ?_⟩)
  · obtain ⟨a, y, rfl, _⟩ := h
    rfl
  · obtain ⟨a, y, rfl, ha, q⟩ := h
    exact ⟨y, rfl, .ref a, rfl, a, rfl, ha, fun dx hn hne => q dx hn hne⟩
theorem ok_Refused_init (T : Txt K mg) : FnOk P w K mg base CX0 1 T.f_Refused_init T.fd_Refused_init ["self", "cause"] (spXI T.C_Refused "cause") := by
  refine T.F_Refused_init.ok sc_Refused_init (fun vs H Q E h => ?_) (fun cdv A outer s H vs Q E hr h => ⟨_, (pss_one (ps_stx PySem.F.store_ArithmeticError T.x_Refused T.xo_Refused T.tk_Refused (pv 0) (pv 1))), ?_⟩)
  · obtain ⟨a, y, rfl, _⟩ := h
    rfl
  · obtain ⟨a, y, rfl, ha, q⟩ := h
    exact ⟨y, rfl, .ref a, rfl, a, rfl, ha, fun dx hn hne => q dx hn hne⟩
theorem ok_NoColumns_init (T : Txt K mg) : FnOk P w K mg base CX0 1 T.f_NoColumns_init T.fd_NoColumns_init ["self", "total"] (spXI T.C_NoColumns "total") := by
  refine T.F_NoColumns_init.ok sc_NoColumns_init (fun vs H Q E h => ?_) (fun cdv A outer s H vs Q E hr h => ⟨_, (pss_one (ps_stx PySem.F.store_ArithmeticError T.x_NoColumns T.xo_NoColumns T.tk_NoColumns (pv 0) (pv 1))), ?_⟩)
  · obtain ⟨a, y, rfl, _⟩ := h
    rfl
  · obtain ⟨a, y, rfl, ha, q⟩ := h
    exact ⟨y, rfl, .ref a, rfl, a, rfl, ha, fun dx hn hne => q dx hn hne⟩
theorem ok_InvalidNumber_init (T : Txt K mg) : FnOk P w K mg base CX0 1 T.f_InvalidNumber_init T.fd_InvalidNumber_init ["self", "number"] (spXI T.C_InvalidNumber "number") := by
  refine T.F_InvalidNumber_init.ok sc_InvalidNumber_init (fun vs H Q E h => ?_) (fun cdv A outer s H vs Q E hr h => ⟨_, (pss_one (ps_stx PySem.F.store_RuntimeError T.x_InvalidNumber T.xo_InvalidNumber T.tk_InvalidNumber (pv 0) (pv 1))), ?_⟩)
  · obtain ⟨a, y, rfl, _⟩ := h
    rfl
  · obtain ⟨a, y, rfl, ha, q⟩ := h
    exact ⟨y, rfl, .ref a, rfl, a, rfl, ha, fun dx hn hne => q dx hn hne⟩
theorem ok_Broken_init (T : Txt K mg) : FnOk P w K mg base CX0 1 T.f_Broken_init T.fd_Broken_init ["self", "index"] (spXI T.C_Broken "index") := by
  refine T.F_Broken_init.ok sc_Broken_init (fun vs H Q E h => ?_) (fun cdv A outer s H vs Q E hr h => ⟨_, (pss_one (ps_stx PySem.F.store_RuntimeError T.x_Broken T.xo_Broken T.tk_Broken (pv 0) (pv 1))), ?_⟩)
  · obtain ⟨a, y, rfl, _⟩ := h
    rfl
  · obtain ⟨a, y, rfl, ha, q⟩ := h
    exact ⟨y, rfl, .ref a, rfl, a, rfl, ha, fun dx hn hne => q dx hn hne⟩
/-! ### _law_kinds, _law_others -/
def spRow (K : PySem.W.Frag) (us : List Value) : Sp := fun vs H Q _ => ∃ (a C : Addr) (bs : List Bool), vs = [.ref a] ∧ XAt H a C ∧ XC K C ∧ kitRow K C us = bs.map some ∧ ∀ H', Ex H H' → Q (.str (marks bs)) H'
def uKinds (T : Txt K mg) : List Value := [.ref T.C_InvalidWord, .ref T.C_InvalidBook, .ref T.C_InvalidText, .ref T.C_InvalidState, .ref T.C_InvalidRow, .ref T.C_InvalidDemand, .ref T.C_InvalidOperation, .ref T.C_ParseError, .ref T.C_OffsideError, .type "ValueError"]
def uOthers (T : Txt K mg) : List Value := [.ref T.C_UnknownWord, .ref T.C_Impossible, .ref T.C_NothingToUndo, .ref T.C_TooMany, .ref T.C_Refused, .ref T.C_NoColumns, .ref T.C_InvalidNumber, .ref T.C_Broken, .type "KeyError", .type "IndexError", .type "LookupError", .type "OverflowError", .type "ArithmeticError", .type "RuntimeError"]
theorem row_cons {C : Addr} {u : Value} {us : List Value} {bs : List Bool} (h : kitRow K C (u :: us) = bs.map some) : ∃ b r, bs = b :: r ∧ PySem.W.kitOne K (.ref C) u = some b ∧ kitRow K C us = r.map some := by
  cases bs with
  | nil => cases h
  | cons b r =>
    have e : PySem.W.kitOne K (.ref C) u :: kitRow K C us = some b :: r.map some := h
    injection e with e1 e2
    exact ⟨b, r, rfl, e1, e2⟩
theorem row_nil {C : Addr} {bs : List Bool} (h : kitRow K C [] = bs.map some) : bs = [] := by
  cases bs with
  | nil => rfl
  | cons b r => cases h
theorem ok_kinds (T : Txt K mg) : FnOk P w K mg base CX0 1 T.f_kinds T.fd_kinds ["_law_error"] (spRow K (uKinds T)) := by
  refine T.F_kinds.ok sc_kinds (fun vs H Q E h => ?_) (fun cdv A outer s H vs Q E hr h => ?_)
  · obtain ⟨a, C, bs, rfl, _⟩ := h
    rfl
  · obtain ⟨a, C, bs, rfl, hx, hT, hb, q⟩ := h
    refine ⟨_, (pss_cons (ps_set (i := 1) sc_kinds.nd rfl (.inl rfl) (pe_lst (pa_cons (pe_callB (call_isX (K := K)) (by rfl) T.z_isinstance (by decide +kernel) (pa_cons (pv 0) (pa_cons (pe_glob (v := .ref T.C_InvalidWord) rfl T.gC_InvalidWord rfl) pa_nil))) (pa_cons (pe_callB (call_isX (K := K)) (by rfl) T.z_isinstance (by decide +kernel) (pa_cons (pv 0) (pa_cons (pe_glob (v := .ref T.C_InvalidBook) rfl T.gC_InvalidBook rfl) pa_nil))) (pa_cons (pe_callB (call_isX (K := K)) (by rfl) T.z_isinstance (by decide +kernel) (pa_cons (pv 0) (pa_cons (pe_glob (v := .ref T.C_InvalidText) rfl T.gC_InvalidText rfl) pa_nil))) pa_nil)))))
      (pss_cons (ps_set (i := 1) sc_kinds.nd rfl (.inl rfl) (pe_op op_cat (pv 1) (pe_lst (pa_cons (pe_callB (call_isX (K := K)) (by rfl) T.z_isinstance (by decide +kernel) (pa_cons (pv 0) (pa_cons (pe_glob (v := .ref T.C_InvalidState) rfl T.gC_InvalidState rfl) pa_nil))) (pa_cons (pe_callB (call_isX (K := K)) (by rfl) T.z_isinstance (by decide +kernel) (pa_cons (pv 0) (pa_cons (pe_glob (v := .ref T.C_InvalidRow) rfl T.gC_InvalidRow rfl) pa_nil))) pa_nil)))))
      (pss_cons (ps_set (i := 1) sc_kinds.nd rfl (.inl rfl) (pe_op op_cat (pv 1) (pe_lst (pa_cons (pe_callB (call_isX (K := K)) (by rfl) T.z_isinstance (by decide +kernel) (pa_cons (pv 0) (pa_cons (pe_glob (v := .ref T.C_InvalidDemand) rfl T.gC_InvalidDemand rfl) pa_nil))) (pa_cons (pe_callB (call_isX (K := K)) (by rfl) T.z_isinstance (by decide +kernel) (pa_cons (pv 0) (pa_cons (pe_glob (v := .ref T.C_InvalidOperation) rfl T.gC_InvalidOperation rfl) pa_nil))) pa_nil)))))
      (pss_cons (ps_set (i := 1) sc_kinds.nd rfl (.inl rfl) (pe_op op_cat (pv 1) (pe_lst (pa_cons (pe_callB (call_isX (K := K)) (by rfl) T.z_isinstance (by decide +kernel) (pa_cons (pv 0) (pa_cons (pe_glob (v := .ref T.C_ParseError) rfl T.gC_ParseError rfl) pa_nil))) (pa_cons (pe_callB (call_isX (K := K)) (by rfl) T.z_isinstance (by decide +kernel) (pa_cons (pv 0) (pa_cons (pe_glob (v := .ref T.C_OffsideError) rfl T.gC_OffsideError rfl) pa_nil))) (pa_cons (pe_callB (call_isX (K := K)) (by rfl) T.z_isinstance (by decide +kernel) (pa_cons (pv 0) (pa_cons (pe_bltn (v := .ty "ValueError") (by rfl) T.z_ValueError (by decide +kernel) rfl) pa_nil))) pa_nil))))))
      (pss_one (ps_ret (e_bm (K := K) PySem.F.plainAttrs_str PySem.F.slot_str_join PySem.F.type_str_join (c_join (K := K)) pe_str (pa_cons (pe_lc (own := [("_law_one", 2)]) rfl sc_kinds.nd (p_list (K := K) (pv 1)) (blkOk_by (own := [("_law_one", 2)]) (N := ["_law_error", "_law_told", "_law_one"]) (sc := (defScope s_kinds)) (by decide +kernel)) (fun _ _ _ _ _ => (pg_name (i := 2) sc_kinds.nd rfl (.inl rfl))) (fun _ _ _ _ _ => pts_nil) (fun _ _ _ _ _ => (pe_ifExp (pt_val (pv 2)) pe_str pe_str))) pa_nil)))))))), ?_⟩
    obtain ⟨b0, r0, rfl, g0, hb0⟩ := row_cons hb
    obtain ⟨b1, r1, rfl, g1, hb1⟩ := row_cons hb0
    obtain ⟨b2, r2, rfl, g2, hb2⟩ := row_cons hb1
    obtain ⟨b3, r3, rfl, g3, hb3⟩ := row_cons hb2
    obtain ⟨b4, r4, rfl, g4, hb4⟩ := row_cons hb3
    obtain ⟨b5, r5, rfl, g5, hb5⟩ := row_cons hb4
    obtain ⟨b6, r6, rfl, g6, hb6⟩ := row_cons hb5
    obtain ⟨b7, r7, rfl, g7, hb7⟩ := row_cons hb6
    obtain ⟨b8, r8, rfl, g8, hb8⟩ := row_cons hb7
    obtain ⟨b9, r9, rfl, g9, hb9⟩ := row_cons hb8
    obtain rfl := row_nil hb9
    refine q_asgL (el_lst (ea_cons (ev_isX (ev_var rfl) ev_c (hx.mono (Ex.refl H)) hT (.own _) g0) (ea_cons (ev_isX (ev_var rfl) ev_c (hx.mono (Ex.refl H)) hT (.own _) g1) (ea_cons (ev_isX (ev_var rfl) ev_c (hx.mono (Ex.refl H)) hT (.own _) g2) ea_nil))) (by show 3 ≤ 100000; decide)) fun p0 H0 f0 x0 w0 => ?_
    refine q_asgL (el_cat (ev_var rfl) w0 (el_lst (ea_cons (ev_isX (ev_var rfl) ev_c (hx.mono x0) hT (.own _) g3) (ea_cons (ev_isX (ev_var rfl) ev_c (hx.mono x0) hT (.own _) g4) ea_nil)) (by show 2 ≤ 100000; decide)) (by show 3 + 2 ≤ 100000; decide)) fun p1 H1 f1 y1 w1 => ?_
    have x1 := x0.trans y1
    refine q_asgL (el_cat (ev_var rfl) w1 (el_lst (ea_cons (ev_isX (ev_var rfl) ev_c (hx.mono x1) hT (.own _) g5) (ea_cons (ev_isX (ev_var rfl) ev_c (hx.mono x1) hT (.own _) g6) ea_nil)) (by show 2 ≤ 100000; decide)) (by show 5 + 2 ≤ 100000; decide)) fun p2 H2 f2 y2 w2 => ?_
    have x2 := x1.trans y2
    refine q_asgL (el_cat (ev_var rfl) w2 (el_lst (ea_cons (ev_isX (ev_var rfl) ev_c (hx.mono x2) hT (.own _) g7) (ea_cons (ev_isX (ev_var rfl) ev_c (hx.mono x2) hT (.own _) g8) (ea_cons (ev_isX (ev_var rfl) ev_c (hx.mono x2) hT (.ty _) g9) ea_nil))) (by show 3 ≤ 100000; decide)) (by show 7 + 3 ≤ 100000; decide)) fun p3 H3 f3 y3 w3 => ?_
    have x3 := x2.trans y3
    refine s_ret (ev_joinN (ys := ([b0, b1, b2, b3, b4, b5, b6, b7, b8, b9]).map mk1) ev_c (el_as (el_lcL (fun _ => true) (fun i => V.str (mk1 (([b0, b1, b2, b3, b4, b5, b6, b7, b8, b9] : List Bool).getD i false))) (ev_var rfl) (sq_of w3) (by show 10 ≤ 40000; decide) (fun _ => rfl) (fun i x H1 e hi => et_yes) (fun i x H1 e hi _ => ?_)) (given_map [b0, b1, b2, b3, b4, b5, b6, b7, b8, b9])) (by rw [sum_mk]; show 10 + 10 * 0 ≤ 16777216; decide)) fun H9 e9 => q H9 (x3.trans e9)
    have hx' : ∃ b : Bool, x = .bl b ∧ ([b0, b1, b2, b3, b4, b5, b6, b7, b8, b9] : List Bool)[i]? = some b := by
      have hi' : (([b0, b1, b2, b3, b4, b5, b6, b7, b8, b9] : List Bool).map V.bl)[i]? = some x := hi
      rw [List.getElem?_map] at hi'
      obtain ⟨b, h1, h2⟩ := Option.map_eq_some_iff.mp hi'
      exact ⟨b, h2.symm, h1⟩
    obtain ⟨b, rfl, hb⟩ := hx'
    rw [List.getD_eq_getElem?_getD, hb]
    exact ev_if (et_B (ev_var rfl)) (fun z => by rw [z]; exact ev_c) (fun z => by rw [z]; exact ev_c)
theorem ok_others (T : Txt K mg) : FnOk P w K mg base CX0 1 T.f_others T.fd_others ["_law_error"] (spRow K (uOthers T)) := by
  refine T.F_others.ok sc_others (fun vs H Q E h => ?_) (fun cdv A outer s H vs Q E hr h => ?_)
  · obtain ⟨a, C, bs, rfl, _⟩ := h
    rfl
  · obtain ⟨a, C, bs, rfl, hx, hT, hb, q⟩ := h
    refine ⟨_, (pss_cons (ps_set (i := 1) sc_others.nd rfl (.inl rfl) (pe_lst (pa_cons (pe_callB (call_isX (K := K)) (by rfl) T.z_isinstance (by decide +kernel) (pa_cons (pv 0) (pa_cons (pe_glob (v := .ref T.C_UnknownWord) rfl T.gC_UnknownWord rfl) pa_nil))) (pa_cons (pe_callB (call_isX (K := K)) (by rfl) T.z_isinstance (by decide +kernel) (pa_cons (pv 0) (pa_cons (pe_glob (v := .ref T.C_Impossible) rfl T.gC_Impossible rfl) pa_nil))) (pa_cons (pe_callB (call_isX (K := K)) (by rfl) T.z_isinstance (by decide +kernel) (pa_cons (pv 0) (pa_cons (pe_glob (v := .ref T.C_NothingToUndo) rfl T.gC_NothingToUndo rfl) pa_nil))) pa_nil)))))
      (pss_cons (ps_set (i := 1) sc_others.nd rfl (.inl rfl) (pe_op op_cat (pv 1) (pe_lst (pa_cons (pe_callB (call_isX (K := K)) (by rfl) T.z_isinstance (by decide +kernel) (pa_cons (pv 0) (pa_cons (pe_glob (v := .ref T.C_TooMany) rfl T.gC_TooMany rfl) pa_nil))) (pa_cons (pe_callB (call_isX (K := K)) (by rfl) T.z_isinstance (by decide +kernel) (pa_cons (pv 0) (pa_cons (pe_glob (v := .ref T.C_Refused) rfl T.gC_Refused rfl) pa_nil))) (pa_cons (pe_callB (call_isX (K := K)) (by rfl) T.z_isinstance (by decide +kernel) (pa_cons (pv 0) (pa_cons (pe_glob (v := .ref T.C_NoColumns) rfl T.gC_NoColumns rfl) pa_nil))) pa_nil))))))
      (pss_cons (ps_set (i := 1) sc_others.nd rfl (.inl rfl) (pe_op op_cat (pv 1) (pe_lst (pa_cons (pe_callB (call_isX (K := K)) (by rfl) T.z_isinstance (by decide +kernel) (pa_cons (pv 0) (pa_cons (pe_glob (v := .ref T.C_InvalidNumber) rfl T.gC_InvalidNumber rfl) pa_nil))) (pa_cons (pe_callB (call_isX (K := K)) (by rfl) T.z_isinstance (by decide +kernel) (pa_cons (pv 0) (pa_cons (pe_glob (v := .ref T.C_Broken) rfl T.gC_Broken rfl) pa_nil))) (pa_cons (pe_callB (call_isX (K := K)) (by rfl) T.z_isinstance (by decide +kernel) (pa_cons (pv 0) (pa_cons (pe_bltn (v := .ty "KeyError") (by rfl) T.z_KeyError (by decide +kernel) rfl) pa_nil))) pa_nil))))))
      (pss_cons (ps_set (i := 1) sc_others.nd rfl (.inl rfl) (pe_op op_cat (pv 1) (pe_lst (pa_cons (pe_callB (call_isX (K := K)) (by rfl) T.z_isinstance (by decide +kernel) (pa_cons (pv 0) (pa_cons (pe_bltn (v := .ty "IndexError") (by rfl) T.z_IndexError (by decide +kernel) rfl) pa_nil))) (pa_cons (pe_callB (call_isX (K := K)) (by rfl) T.z_isinstance (by decide +kernel) (pa_cons (pv 0) (pa_cons (pe_bltn (v := .ty "LookupError") (by rfl) T.z_LookupError (by decide +kernel) rfl) pa_nil))) (pa_cons (pe_callB (call_isX (K := K)) (by rfl) T.z_isinstance (by decide +kernel) (pa_cons (pv 0) (pa_cons (pe_bltn (v := .ty "OverflowError") (by rfl) T.z_OverflowError (by decide +kernel) rfl) pa_nil))) pa_nil))))))
      (pss_cons (ps_set (i := 1) sc_others.nd rfl (.inl rfl) (pe_op op_cat (pv 1) (pe_lst (pa_cons (pe_callB (call_isX (K := K)) (by rfl) T.z_isinstance (by decide +kernel) (pa_cons (pv 0) (pa_cons (pe_bltn (v := .ty "ArithmeticError") (by rfl) T.z_ArithmeticError (by decide +kernel) rfl) pa_nil))) (pa_cons (pe_callB (call_isX (K := K)) (by rfl) T.z_isinstance (by decide +kernel) (pa_cons (pv 0) (pa_cons (pe_bltn (v := .ty "RuntimeError") (by rfl) T.z_RuntimeError (by decide +kernel) rfl) pa_nil))) pa_nil)))))
      (pss_one (ps_ret (e_bm (K := K) PySem.F.plainAttrs_str PySem.F.slot_str_join PySem.F.type_str_join (c_join (K := K)) pe_str (pa_cons (pe_lc (own := [("_law_one", 2)]) rfl sc_others.nd (p_list (K := K) (pv 1)) (blkOk_by (own := [("_law_one", 2)]) (N := ["_law_error", "_law_told", "_law_one"]) (sc := (defScope s_others)) (by decide +kernel)) (fun _ _ _ _ _ => (pg_name (i := 2) sc_others.nd rfl (.inl rfl))) (fun _ _ _ _ _ => pts_nil) (fun _ _ _ _ _ => (pe_ifExp (pt_val (pv 2)) pe_str pe_str))) pa_nil))))))))), ?_⟩
    obtain ⟨b0, r0, rfl, g0, hb0⟩ := row_cons hb
    obtain ⟨b1, r1, rfl, g1, hb1⟩ := row_cons hb0
    obtain ⟨b2, r2, rfl, g2, hb2⟩ := row_cons hb1
    obtain ⟨b3, r3, rfl, g3, hb3⟩ := row_cons hb2
    obtain ⟨b4, r4, rfl, g4, hb4⟩ := row_cons hb3
    obtain ⟨b5, r5, rfl, g5, hb5⟩ := row_cons hb4
    obtain ⟨b6, r6, rfl, g6, hb6⟩ := row_cons hb5
    obtain ⟨b7, r7, rfl, g7, hb7⟩ := row_cons hb6
    obtain ⟨b8, r8, rfl, g8, hb8⟩ := row_cons hb7
    obtain ⟨b9, r9, rfl, g9, hb9⟩ := row_cons hb8
    obtain ⟨b10, r10, rfl, g10, hb10⟩ := row_cons hb9
    obtain ⟨b11, r11, rfl, g11, hb11⟩ := row_cons hb10
    obtain ⟨b12, r12, rfl, g12, hb12⟩ := row_cons hb11
    obtain ⟨b13, r13, rfl, g13, hb13⟩ := row_cons hb12
    obtain rfl := row_nil hb13
    refine q_asgL (el_lst (ea_cons (ev_isX (ev_var rfl) ev_c (hx.mono (Ex.refl H)) hT (.own _) g0) (ea_cons (ev_isX (ev_var rfl) ev_c (hx.mono (Ex.refl H)) hT (.own _) g1) (ea_cons (ev_isX (ev_var rfl) ev_c (hx.mono (Ex.refl H)) hT (.own _) g2) ea_nil))) (by show 3 ≤ 100000; decide)) fun p0 H0 f0 x0 w0 => ?_
    refine q_asgL (el_cat (ev_var rfl) w0 (el_lst (ea_cons (ev_isX (ev_var rfl) ev_c (hx.mono x0) hT (.own _) g3) (ea_cons (ev_isX (ev_var rfl) ev_c (hx.mono x0) hT (.own _) g4) (ea_cons (ev_isX (ev_var rfl) ev_c (hx.mono x0) hT (.own _) g5) ea_nil))) (by show 3 ≤ 100000; decide)) (by show 3 + 3 ≤ 100000; decide)) fun p1 H1 f1 y1 w1 => ?_
    have x1 := x0.trans y1
    refine q_asgL (el_cat (ev_var rfl) w1 (el_lst (ea_cons (ev_isX (ev_var rfl) ev_c (hx.mono x1) hT (.own _) g6) (ea_cons (ev_isX (ev_var rfl) ev_c (hx.mono x1) hT (.own _) g7) (ea_cons (ev_isX (ev_var rfl) ev_c (hx.mono x1) hT (.ty _) g8) ea_nil))) (by show 3 ≤ 100000; decide)) (by show 6 + 3 ≤ 100000; decide)) fun p2 H2 f2 y2 w2 => ?_
    have x2 := x1.trans y2
    refine q_asgL (el_cat (ev_var rfl) w2 (el_lst (ea_cons (ev_isX (ev_var rfl) ev_c (hx.mono x2) hT (.ty _) g9) (ea_cons (ev_isX (ev_var rfl) ev_c (hx.mono x2) hT (.ty _) g10) (ea_cons (ev_isX (ev_var rfl) ev_c (hx.mono x2) hT (.ty _) g11) ea_nil))) (by show 3 ≤ 100000; decide)) (by show 9 + 3 ≤ 100000; decide)) fun p3 H3 f3 y3 w3 => ?_
    have x3 := x2.trans y3
    refine q_asgL (el_cat (ev_var rfl) w3 (el_lst (ea_cons (ev_isX (ev_var rfl) ev_c (hx.mono x3) hT (.ty _) g12) (ea_cons (ev_isX (ev_var rfl) ev_c (hx.mono x3) hT (.ty _) g13) ea_nil)) (by show 2 ≤ 100000; decide)) (by show 12 + 2 ≤ 100000; decide)) fun p4 H4 f4 y4 w4 => ?_
    have x4 := x3.trans y4
    refine s_ret (ev_joinN (ys := ([b0, b1, b2, b3, b4, b5, b6, b7, b8, b9, b10, b11, b12, b13]).map mk1) ev_c (el_as (el_lcL (fun _ => true) (fun i => V.str (mk1 (([b0, b1, b2, b3, b4, b5, b6, b7, b8, b9, b10, b11, b12, b13] : List Bool).getD i false))) (ev_var rfl) (sq_of w4) (by show 14 ≤ 40000; decide) (fun _ => rfl) (fun i x H1 e hi => et_yes) (fun i x H1 e hi _ => ?_)) (given_map [b0, b1, b2, b3, b4, b5, b6, b7, b8, b9, b10, b11, b12, b13])) (by rw [sum_mk]; show 14 + 14 * 0 ≤ 16777216; decide)) fun H9 e9 => q H9 (x4.trans e9)
    have hx' : ∃ b : Bool, x = .bl b ∧ ([b0, b1, b2, b3, b4, b5, b6, b7, b8, b9, b10, b11, b12, b13] : List Bool)[i]? = some b := by
      have hi' : (([b0, b1, b2, b3, b4, b5, b6, b7, b8, b9, b10, b11, b12, b13] : List Bool).map V.bl)[i]? = some x := hi
      rw [List.getElem?_map] at hi'
      obtain ⟨b, h1, h2⟩ := Option.map_eq_some_iff.mp hi'
      exact ⟨b, h2.symm, h1⟩
    obtain ⟨b, rfl, hb⟩ := hx'
    rw [List.getD_eq_getElem?_getD, hb]
    exact ev_if (et_B (ev_var rfl)) (fun z => by rw [z]; exact ev_c) (fun z => by rw [z]; exact ev_c)
end
end My

--CUT
namespace My
open PySem PySem.Spec PyProof.Rows L2 Evl
/-! ### what is drawn -/
def things : List PyData := [.int 0, .str "", .str "a", .none, .tuple [], .tuple [.str "of", .int 3], .int (10 ^ (30 : Int).toNat), .bool true, .tuple [.tuple [.int 4, .tuple [.str "a"]], .str "x"], .list [.int 1]]
def theDict : PyData := .dict [(.str "a", .tuple [])]
section
variable {K : PySem.W.Frag} {σ : L2.St} {H H' : Hp} {D : Ends} {d p : Addr} {N : List Addr}
def IsP (d : Addr) (dd : PyData) : V → Hp → Prop := fun v H => Is [d] H v dd
theorem IsP.mono {dd : PyData} : Mono (IsP d dd) := fun v H1 H2 e h => Is.mono (ExtN.of_same e) h
theorem zp_all : ∀ {ds : List PyData} {vs : List V}, Zp H vs (ds.map (IsP d)) → IsAll [d] H vs ds
  | [], _, h => by
    cases h
    exact .nil
  | dd :: ds, _, h => by
    cases h with
    | cons h t => exact .cons h (zp_all t)
theorem not_d (hd : ∃ o, H d = some o) {H1 : Hp} (e : Ex H H1) (hp : H1 p = none) : p ∉ [d] := fun z => by
  obtain ⟨o, ho⟩ := hd
  rw [List.mem_singleton.mp z, e _ _ ho] at hp
  cases hp
theorem ei_c {v : V} {dd : PyData} (h : ∀ H, Is [d] H v dd) : EvP (tC v) σ H (IsP d dd) := fun H1 _ Q q => q v H1 (Ex.refl H1) (h H1)
theorem ei_v {te : TE} {v : V} {dd : PyData} (h : Ev te σ H v) (hv : ∀ H, Is [d] H v dd) : EvP te σ H (IsP d dd) := fun H1 e Q q => h H1 e _ fun H2 e2 => q v H2 e2 (hv H2)
theorem ei_tup {ta : TA} {ds : List PyData} (hd : ∃ o, H d = some o) (h : EvZ ta σ H (ds.map (IsP d))) (hl : ds.length ≤ 100000) : EvP (tTup ta) σ H (IsP d (.tuple ds)) := fun H1 e Q q =>
  h H1 e _ fun vs H2 e2 hz => ⟨sz_of (by rw [hz.len, List.length_map]; exact hl), fun p hp => q (.ref p) _ (e2.trans (Ex.new hp)) (.tup (not_d hd (e.trans e2) hp) upd_same ((zp_all hz).mono (ExtN.of_same (Ex.new hp))))⟩
theorem ei_lst {ta : TA} {ds : List PyData} (hd : ∃ o, H d = some o) (h : EvZ ta σ H (ds.map (IsP d))) (hl : ds.length ≤ 100000) : EvP (tLst ta) σ H (IsP d (.list ds)) := fun H1 e Q q =>
  h H1 e _ fun vs H2 e2 hz => ⟨sz_of (by rw [hz.len, List.length_map]; exact hl), fun p hp => q (.ref p) _ (e2.trans (Ex.new hp)) (.lst (not_d hd (e.trans e2) hp) upd_same ((zp_all hz).mono (ExtN.of_same (Ex.new hp))))⟩
/-- one of the things: which one, and where nothing of it lies -/
def Dw (N : List Addr) (dd : PyData) : V → Hp → Prop := fun v H => (dd ∈ things ∧ Is N H v dd) ∨
  (dd = theDict ∧ ∃ a t, v = .ref a ∧ a ∉ N ∧ t ∉ N ∧ H a = some (.dK [(.inr "a", .ref t)]) ∧ H t = some (.tup []))
def Drawn (d : Addr) : V → Hp → Prop := fun v H => ∃ dd, Dw [d] dd v H
theorem Dw.ext {v : V} {dd : PyData} (e : ExtN N H H') (h : Dw N dd v H) : Dw N dd v H' := by
  rcases h with ⟨h1, h2⟩ | ⟨h1, a, t, h2, h3, h4, h5, h6⟩
  · exact .inl ⟨h1, h2.mono e⟩
  · exact .inr ⟨h1, a, t, h2, h3, h4, e _ _ h3 h5, e _ _ h4 h6⟩
theorem Dw.more {v : V} {dd : PyData} (hp : H p = none) (h : Dw N dd v H) : Dw (p :: N) dd v H := by
  rcases h with ⟨h1, h2⟩ | ⟨h1, a, t, h2, h3, h4, h5, h6⟩
  · exact .inl ⟨h1, h2.more hp⟩
  · refine .inr ⟨h1, a, t, h2, fun z => ?_, fun z => ?_, h5, h6⟩
    · rcases List.mem_cons.mp z with z | z
      · rw [z, hp] at h5
        cases h5
      · exact h3 z
    · rcases List.mem_cons.mp z with z | z
      · rw [z, hp] at h6
        cases h6
      · exact h4 z
theorem Drawn.mono : Mono (Drawn d) := fun v H1 H2 e h => by
  obtain ⟨dd, h⟩ := h
  exact ⟨dd, h.ext (ExtN.of_same e)⟩
theorem ed_of {te : TE} {dd : PyData} (h : EvP te σ H (IsP d dd)) (hm : dd ∈ things) : EvP te σ H (Drawn d) := fun H1 e Q q => h H1 e _ fun v H2 e2 hv => q v H2 e2 ⟨dd, .inl ⟨hm, hv⟩⟩
theorem ed_disp (hd : ∃ o, H d = some o) : EvP (tDisp [(tC (.str "a"), tTup tNil)]) σ H (Drawn d) := fun H1 e Q q p hp => by
  have e1 : Ex H1 (upd H1 p (.dK [])) := Ex.new hp
  refine ⟨by show 0 ≤ sizeLine; decide, fun t ht => ⟨?_, [(.inr "a", .ref t)], rfl, by show 1 ≤ 15; decide, ?_⟩⟩
  · rw [upd_ne (ne_of_none upd_same ht)]
    exact upd_same
  · have hpt : t ≠ p := (ne_of_none upd_same ht).symm
    have ht1 : H1 t = none := by
      rw [upd_ne hpt] at ht
      exact ht
    refine q (.ref p) _ (Ex.mut (Ex.mut (Ex.mut (Ex.refl H1) hp) ht1) hp) ⟨theDict, .inr ⟨rfl, p, t, rfl, not_d hd e hp, not_d hd e ht1, ?_, ?_⟩⟩
    · rw [upd_same]
      rfl
    · rw [upd_ne hpt]
      exact upd_same
theorem th_of {v : V} {dd : PyData} (h : Dw N dd v H) : Th K H v dd := by
  rcases h with ⟨h1, h2⟩ | ⟨rfl, a, t, rfl, _, _, h5, h6⟩
  · have hn : dd.hasDict = false := (show ∀ x ∈ things, x.hasDict = false by decide +kernel) dd h1
    exact .dp (h2.dp hn) hn
  · exact .dct h5 h6
theorem fine_things : ∀ x ∈ things, fine x = true ∧ fine (.list (List.replicate 8 x)) = true := by decide +kernel
theorem fine_dict : fine theDict = true ∧ fine (.list (List.replicate 8 theDict)) = true := by decide +kernel
theorem fine_of {v : V} {dd : PyData} (h : Dw N dd v H) : fine dd = true ∧ fine (.list (List.replicate 8 dd)) = true := by
  rcases h with ⟨h1, _⟩ | ⟨rfl, _⟩
  · exact fine_things dd h1
  · exact fine_dict
end
/-! ### a text a number of times -/
def wMulS : R2 := fun x y H Q => ∃ (z : Str) (n : Int), x = .str z ∧ y = .int n ∧ 0 ≤ n ∧ n ≤ 1000 ∧ z.length ≤ 1000 ∧ Q (.str (Txt.mul z n)) H
theorem op_mulS {X : Cx} : OpR X (binaryOp .Mult) wMulS := by
  intro pins s σ H x y v u Q I rx ry h
  obtain ⟨z, n, rfl, rfl, h0, h1, h2, q⟩ := h
  obtain ⟨t, rfl⟩ := rx
  obtain ⟨t2, rfl⟩ := ry
  have hz : (z.length : Int) ≤ 1000 := by omega
  have hm : (z.length : Int) * n ≤ 1000000 := Int.le_trans (Int.mul_le_mul hz h1 h0 (by decide)) (by decide)
  refine PySem.SB.mul ⟨?_, fun a _ => ?_, fun a _ => ?_⟩ (fun t' k => ⟨.str _, H, I.kept (t' := k) fun _ _ e => e, ⟨_, rfl⟩, q⟩)
  · rw [decide_eq_false (by omega), decide_eq_false (by omega)]
    rfl
  · have hp : 0 < n := by omega
    refine Int.not_lt.mpr ((Int.le_ediv_iff_mul_le hp).mpr (by omega))
  · have e : z.length * n.toNat ≤ 1000000 := by
      have : ((z.length * n.toNat : Nat) : Int) ≤ 1000000 := by
        rw [Int.natCast_mul, Int.toNat_of_nonneg h0]
        exact hm
      omega
    have s1 := sizeLine_eq
    exact (show decide (z.length * n.toNat > sizeLine) = false from decide_eq_false (by omega))
end My

--CUT
namespace My
open PySem PySem.Spec PyProof.Rows L2 Evl
section
variable {K : PySem.W.Frag} {σ : L2.St} {H H' : Hp} {D : Ends} {tz : TS}
theorem r_lstZ {ta : TA} {Rs : List (V → Hp → Prop)} {Q : VK} (h : EvZ ta σ H Rs) (hl : Rs.length ≤ 100000) (q : ∀ vs H1, Ex H H1 → Zp H1 vs Rs → ∀ p, H1 p = none → Q (.ref p) (upd H1 p (.lst vs))) : tLst ta σ H Q :=
  h H (Ex.refl H) _ fun vs H1 e z => ⟨sz_of (by rw [z.len]; exact hl), fun p hp => q vs H1 e z p hp⟩
theorem r_lstA {ta : TA} {vs : List V} {Q : VK} (h : EvA ta σ H vs) (hl : vs.length ≤ 100000) (q : ∀ H1, Ex H H1 → ∀ p, H1 p = none → Q (.ref p) (upd H1 p (.lst vs))) : tLst ta σ H Q :=
  h H (Ex.refl H) _ fun H1 e => ⟨sz_of hl, fun p hp => q H1 e p hp⟩
theorem q_asgZ {i : Nat} {ta : TA} {Rs : List (V → Hp → Prop)} (h : EvZ ta σ H Rs) (hl : Rs.length ≤ 100000) (m : ∀ R ∈ Rs, Mono R)
    (k : ∀ p vs H1, H p = none → Ex H H1 → H1 p = some (.lst vs) → Zp H1 vs Rs → tz D (σ.set i (some (.ref p))) H1) : tSeq (tAsg (tLst ta) (gName i)) tz D σ H :=
  r_seq (r_asg (r_lstZ h hl fun vs H1 e z p hp => r_name (k p vs _ (fresh_back e hp) (e.trans (Ex.new hp)) upd_same (z.mono (Ex.new hp) m))))
theorem q_asgZc {i j : Nat} {ta : TA} {a : Addr} {us : List V} {Rs Ss : List (V → Hp → Prop)} (hv : σ[j]? = some (some (.ref a))) (ha : H a = some (.lst us)) (hs : Zp H us Ss) (ms : ∀ R ∈ Ss, Mono R) (h : EvZ ta σ H Rs) (hl : Ss.length + Rs.length ≤ 100000) (m : ∀ R ∈ Rs, Mono R)
    (k : ∀ p vs H1, H p = none → Ex H H1 → H1 p = some (.lst vs) → Zp H1 vs (Ss ++ Rs) → tz D (σ.set i (some (.ref p))) H1) : tSeq (tAsg (tOp rCat (tVar j) (tLst ta)) (gName i)) tz D σ H :=
  r_seq (r_asg (r_op (r_var hv (r_lstZ h (by omega) fun vs H1 e z p hp => r_cat (Ex.trans e (Ex.new hp) _ _ ha) upd_same (sz_of (by rw [hs.len, z.len]; exact hl)) fun q hq =>
    r_name (k q _ _ (fresh_back e (fresh_back (Ex.new hp) hq)) ((e.trans (Ex.new hp)).trans (Ex.new hq)) upd_same (((hs.mono (e.trans (Ex.new hp)) ms).append (z.mono (Ex.new hp) m)).mono (Ex.new hq) fun R hR => (List.mem_append.mp hR).elim (ms R) (m R)))))))
theorem given_const (n : Nat) (v : V) : given n (fun _ => true) (fun _ => v) = List.replicate n v := by
  unfold given
  rw [List.filter_eq_self.mpr (fun _ _ => rfl), List.map_const', List.length_range]
theorem dp_strs : ∀ ss : List Str, DpAll K H (ss.map V.str) (ss.map PyData.str)
  | [] => .nil
  | s :: ss => .cons (.str s) (dp_strs ss)
def okS (ss : List Str) : Bool := SeqAt.shaped (.list (ss.map PyData.str))
theorem rv_neSame {ss : List Str} {p q : Addr} (hp : H p = some (.lst (ss.map V.str))) (hq : H q = some (.lst (ss.map V.str))) (h : okS ss = true) : RV (rNeD K) (.ref p) (.ref q) H (.bl false) := fun H1 e Q k =>
  ⟨_, _, .lst (sq_of (e _ _ hp)) (dp_strs ss), .lst (sq_of (e _ _ hq)) (dp_strs ss), h, h, by
    rw [PySem.SeqAt.eqv_refl _ (SeqAt.canLay_of_shaped h)]
    exact k H1 (Ex.refl H1)⟩
theorem et_neLL {ta tb : TE} {ss : List Str} (ha : EvL ta σ H (ss.map V.str)) (hb : EvL tb σ H (ss.map V.str)) (h : okS ss = true) : EvT (tTest (tOp (rNeD K) ta tb)) σ H false :=
  et_test (ev_opLL ha hb fun _ _ _ hp hq _ => rv_neSame hp hq h)
theorem et_neLV {ta tb : TE} {ss : List Str} {q : Addr} (ha : EvL ta σ H (ss.map V.str)) (hb : ∀ H1, Ex H H1 → Ev tb σ H1 (.ref q)) (hq : H q = some (.lst (ss.map V.str))) (h : okS ss = true) : EvT (tTest (tOp (rNeD K) ta tb)) σ H false :=
  et_test (ev_opL1 ha hb fun _ _ hp e => rv_neSame hp (e _ _ hq) h)
theorem et_or2 {t u : TT} (h1 : EvT t σ H false) (h2 : EvT u σ H false) : EvT (tOr t u) σ H false := et_is (et_or h1 fun _ => h2) rfl
theorem et_neStr {ta tb : TE} {s u : Str} (ha : Ev ta σ H (.str s)) (hb : Ev tb σ H (.str u)) (h : s = u) : EvT (tTest (tOp rNe ta tb)) σ H false := et_test (ev_is (ev_op ha hb (rv_ne rfl)) (by rw [h]; simp))
theorem ev_mulS {ta tb : TE} {z : Str} {n : Int} (ha : Ev ta σ H (.str z)) (hb : Ev tb σ H (.int n)) (h0 : 0 ≤ n ∧ n ≤ 1000 ∧ z.length ≤ 1000) : Ev (tOp wMulS ta tb) σ H (.str (Txt.mul z n)) :=
  ev_op ha hb fun H1 _ Q q => ⟨z, n, rfl, rfl, h0.1, h0.2.1, h0.2.2, q H1 (Ex.refl H1)⟩
theorem ev_addS {ta tb : TE} {z u : Str} (ha : Ev ta σ H (.str z)) (hb : Ev tb σ H (.str u)) (h : z.length + u.length ≤ 100000) : Ev (tOp wAddS ta tb) σ H (.str (z ++ u)) :=
  ev_op ha hb fun H1 _ Q q => r_addS (sz_of h) (q H1 (Ex.refl H1))
theorem ev_repr {te : TE} {N : List Addr} {v : V} {dd : PyData} (h : Ev te σ H v) (ht : Dw N dd v H) : Ev (tCB (wReprT K) (tCons te tNil)) σ H (.str dd.shown) := fun H1 e Q q => h H1 e _ fun H2 e2 =>
  .inl ⟨v, dd, rfl, th_of (ht.ext (ExtN.of_same (e.trans e2))), (fine_of ht).1, q H2 e2⟩
theorem ev_reprL {te : TE} {N : List Addr} {v : V} {dd : PyData} (h : EvL te σ H (List.replicate 8 v)) (ht : Dw N dd v H) : Ev (tCB (wReprT K) (tCons te tNil)) σ H (.str (PyData.list (List.replicate 8 dd)).shown) := fun H1 e Q q => h H1 e _ fun p H2 _ e2 hp =>
  .inr ⟨p, List.replicate 8 v, dd, rfl, hp, fun y hy => by rw [List.eq_of_mem_replicate hy]; exact th_of (ht.ext (ExtN.of_same (e.trans e2))), (fine_of ht).2, q H2 e2⟩
theorem ev_getP {te : TE} {n : Str} {C : Addr} {y : V} (h : EvP te σ H (XF C n y)) (T : XC K C) (hn : PySem.W.findIn K (.ref C) n = some none) : Ev (tGetX K n te) σ H y := fun H1 e Q q => h H1 e _ fun v H2 e2 hv => by
  obtain ⟨a, dx, h1, h2, h3⟩ := hv
  exact ⟨a, C, dx, _, y, h1, T, hn, h2, h3, by simp [List.lookup], q H2 e2⟩
theorem sp_row {a C : Addr} {bs : List Bool} {us : List Value} (hx : XAt H a C) (hT : XC K C) (hb : kitRow K C us = bs.map some) : SpV (spRow K us) [V.ref a] H (.str (marks bs)) := fun H1 e Q q E => ⟨a, C, bs, rfl, hx.mono e, hT, hb, fun H' e' => q H' e'⟩
/-- what exceptions keep when lists change -/
def NL (H H' : Hp) : Prop := ∀ b φ, H b = some (.ext φ) → H' b = some (.ext φ)
theorem NL.of_ex (e : Ex H H') : NL H H' := fun b φ h => e b _ h
theorem NL.of_ext {d : Addr} (hd : Dice H d) (e : Ext d H H') : NL H H' := fun b φ h => e b _ (fun z => by
  obtain ⟨x, y, c, _, g⟩ := hd
  rw [z, g] at h
  cases h) h
theorem NL.set {p : Addr} {xs : List V} {o : HO} (hp : H p = some (.lst xs)) : NL H (upd H p o) := fun b φ h => by
  rw [upd_ne (fun z => by
    rw [z, hp] at h
    cases h)]
  exact h
theorem NL.trans {H1 : Hp} (a : NL H H1) (b : NL H1 H') : NL H H' := fun c φ h => b c φ (a c φ h)
theorem XAt.nl {a C : Addr} (e : NL H H') (h : XAt H a C) : XAt H' a C := by
  rcases h with ⟨t, h⟩ | ⟨dx, fs, h, hd⟩
  · exact .inl ⟨t, e _ _ h⟩
  · exact .inr ⟨dx, fs, e _ _ h, e _ _ hd⟩
end
/-! ### what is told of each error -/
def kb (i : Nat) : List Bool := (List.range 8).map (fun j => decide (j = i)) ++ [true, true]
def no10 : List Bool := List.replicate 10 false
def no14 : List Bool := List.replicate 14 false
def ob (i : Nat) : List Bool := (List.range 8).map (fun j => decide (j = i)) ++ (([[true, false, true, false, false, false], [false, false, true, false, false, false], [false, true, true, false, false, false], [false, false, false, true, true, false],
  [false, false, false, false, true, false], [false, false, false, false, true, false], [false, false, false, false, false, true], [false, false, false, false, false, true]] : List (List Bool)).getD i [])
def fld (i : Nat) : Str := (["asked", "index", "amount", "limit", "cause", "total", "number", "index"] : List Str).getD i ""
def ws4 : List Str := ["", "no book", "a", "row 3"]
theorem ws4_ok : ∀ z ∈ ws4, okS (List.replicate 8 z) = true ∧ z.length ≤ 1000 := by decide +kernel
section
variable {P : Program} {w : World} {K : PySem.W.Frag} {mg : Str → Option Value} {base : Heap} {σ : L2.St} {H H' : Hp}
def RK (T : Txt K mg) (i : Nat) : V → Hp → Prop := fun v H => ∃ a C, v = .ref a ∧ XAt H a C ∧ XC K C ∧ kitRow K C (uKinds T) = (kb i).map some ∧ kitRow K C (uOthers T) = no14.map some
def RB (T : Txt K mg) (z : Str) (i : Nat) : V → Hp → Prop := fun v H => ∃ C, XA C z v H ∧ XC K C ∧ PySem.W.findIn K (.ref C) "__str__" = some (some (.builtin "BaseException.__str__")) ∧ (i < 7 → kitRow K C (uKinds T) = (kb i).map some) ∧ kitRow K C (uOthers T) = no14.map some
def RO (T : Txt K mg) (y : V) (i : Nat) : V → Hp → Prop := fun v H => ∃ C, XF C (fld i) y v H ∧ XC K C ∧ PySem.W.findIn K (.ref C) (fld i) = some none ∧ kitRow K C (uKinds T) = no10.map some ∧ kitRow K C (uOthers T) = (ob i).map some
theorem RB.mono {T : Txt K mg} {z : Str} {i : Nat} : Mono (RB T z i) := fun v H1 H2 e h => by
  obtain ⟨C, h1, h2⟩ := h
  exact ⟨C, XA.mono _ _ _ e h1, h2⟩
theorem RO.mono {T : Txt K mg} {y : V} {i : Nat} : Mono (RO T y i) := fun v H1 H2 e h => by
  obtain ⟨C, h1, h2⟩ := h
  exact ⟨C, XF.mono _ _ _ e h1, h2⟩
theorem mono_all {α : Type} {R : α → V → Hp → Prop} (h : ∀ a, Mono (R a)) (l : List α) : ∀ r ∈ l.map R, Mono r := fun r hr => by
  obtain ⟨a, _, rfl⟩ := List.mem_map.mp hr
  exact h a
theorem zp_map {α : Type} {R : α → V → Hp → Prop} {l : List α} {vs : List V} (z : Zp H vs (l.map R)) {i : Nat} {v : V} (hi : vs[i]? = some v) : ∃ a, l[i]? = some a ∧ R a v H := by
  obtain ⟨r, h1, h2⟩ := z.get hi
  rw [List.getElem?_map] at h1
  obtain ⟨a, h3, rfl⟩ := Option.map_eq_some_iff.mp h1
  exact ⟨a, h3, h2⟩
theorem eb {T : Txt K mg} {C : Addr} {z : Str} {te : TE} (i : Nat) (h : EvP te σ H (XA C z)) (x : XC K C) (s : PySem.W.findIn K (.ref C) "__str__" = some (some (.builtin "BaseException.__str__"))) (k : i < 7 → kitRow K C (uKinds T) = (kb i).map some) (o : kitRow K C (uOthers T) = no14.map some) : EvP te σ H (RB T z i) :=
  fun H1 e Q q => h H1 e _ fun v H2 e2 hv => q v H2 e2 ⟨C, hv, x, s, k, o⟩
theorem eo {T : Txt K mg} {C : Addr} {y : V} {te : TE} (i : Nat) (h : EvP te σ H (XF C (fld i) y)) (x : XC K C) (s : PySem.W.findIn K (.ref C) (fld i) = some none) (k : kitRow K C (uKinds T) = no10.map some) (o : kitRow K C (uOthers T) = (ob i).map some) : EvP te σ H (RO T y i) :=
  fun H1 e Q q => h H1 e _ fun v H2 e2 hv => q v H2 e2 ⟨C, hv, x, s, k, o⟩
end
end My

--CUT
namespace My
open PySem PySem.Spec PyProof.Rows L2 Evl
section
variable {P : Program} {w : World} {K : PySem.W.Frag} {mg : Str → Option Value} {base : Heap}
theorem ev_callP {σ : L2.St} {H : Hp} {sp : Sp} {dvs : List V} {E : XK} {te : TE} {R : V → Hp → Prop} {z : V} (h : EvP te σ H R) (hs : ∀ v H1, R v H1 → SpV sp ([v] ++ dvs) H1 z) : Ev (tCall sp dvs E (tCons te tNil)) σ H z :=
  fun H1 e Q q => h H1 e _ fun v H2 e2 hv => hs v H2 hv H2 (Ex.refl H2) Q (fun H3 e3 => q H3 (e2.trans e3)) E
theorem get8 {H : Hp} {vs : List V} {R : Nat → V → Hp → Prop} (z : Zp H vs ((List.range 8).map R)) {i : Nat} (h : i < 8) : ∃ x, vs[i]? = some x ∧ R i x H := by
  have hl : vs.length = 8 := z.len
  have hg : vs[i]? = some vs[i] := List.getElem?_eq_getElem (by omega)
  obtain ⟨j, hj, hr⟩ := zp_map z hg
  rw [List.getElem?_range h] at hj
  cases hj
  exact ⟨_, hg, hr⟩
theorem at8 {H : Hp} {vs : List V} {R : Nat → V → Hp → Prop} (z : Zp H vs ((List.range 8).map R)) {i : Nat} {x : V} (h : vs[i]? = some x) : i < 8 ∧ R i x H := by
  have hl : vs.length = 8 := z.len
  have hi : i < 8 := by
    have := (List.getElem?_eq_some_iff.mp h).1
    omega
  obtain ⟨j, hj, hr⟩ := zp_map z h
  rw [List.getElem?_range hi] at hj
  cases hj
  exact ⟨hi, hr⟩
def dueOf (i : Int) : Str := Txt.mul "." i ++ "x" ++ Txt.mul "." (7 - i) ++ "xx"
theorem due_ok : ∀ i, i < 8 → dueOf (i : Nat) = marks (kb i) ∧ (Txt.mul "." (i : Nat)).length ≤ 100 ∧ (Txt.mul "." (i : Nat) ++ "x").length ≤ 100 ∧ (Txt.mul "." (7 - ((i : Nat) : Int))).length ≤ 100 ∧ (Txt.mul "." (i : Nat) ++ "x" ++ Txt.mul "." (7 - ((i : Nat) : Int))).length ≤ 100 := by decide +kernel
def ofs : List Bool := List.replicate 8 false ++ [true, true]
def spRight : Sp := fun vs H Q _ => ∃ d : Addr, vs = [.ref d] ∧ Dice H d ∧ ∀ H', Ext d H H' → Dice H' d → Q (.bl true) H'
theorem ok_right (T : Txt K mg) : FnG P w K mg base CX0 3 T.f_right T.fd_right ["_law_dice_here"] spRight := by
  refine okG T.F_right sc_right (fun vs H Q E h => ?_) (fun cdv A outer s H vs Q E hg hr h => ?_)
  · obtain ⟨d, rfl, _⟩ := h
    rfl
  · obtain ⟨d, rfl, hd, q⟩ := h
    refine ⟨_, (pss_cons (ps_set (i := 1) sc_right.nd rfl (.inl rfl) (pe_call (ok_pick T) (hr.mono (by decide)) (by rfl) T.g_pick T.F_pick.kp T.b_pick .nil pass0 (pa_cons (pv 0) (pa_cons (pe_lst (pa_cons pe_int (pa_cons pe_str (pa_cons pe_str (pa_cons pe_non (pa_cons (pe_tup pa_nil) (pa_cons (pe_tup (pa_cons pe_str (pa_cons pe_int pa_nil))) (pa_cons (pe_op op_powW pe_int pe_int) (pa_cons pe_bl (pa_cons (pe_tup (pa_cons (pe_tup (pa_cons pe_int (pa_cons (pe_tup (pa_cons pe_str pa_nil)) pa_nil))) (pa_cons pe_str pa_nil))) (pa_cons (pe_lst (pa_cons pe_int pa_nil)) (pa_cons (pe_disp (pps_cons pe_str (pe_tup pa_nil) pps_nil) (by rfl) (by rfl) (fun z => by cases z) (by decide)) pa_nil)))))))))))) pa_nil))))
      (pss_cons (ps_set (i := 2) sc_right.nd rfl (.inl rfl) (pe_call (ok_pick T) (hr.mono (by decide)) (by rfl) T.g_pick T.F_pick.kp T.b_pick .nil pass0 (pa_cons (pv 0) (pa_cons (pe_lst (pa_cons pe_str (pa_cons pe_str (pa_cons pe_str (pa_cons pe_str pa_nil))))) pa_nil))))
      (pss_cons (ps_set (i := 3) sc_right.nd rfl (.inl rfl) (pe_lst (pa_cons (pe_mkA PySem.F.excBase_ValueError T.xi_InvalidWord T.gC_InvalidWord T.x_InvalidWord.kp (by rfl) (pv 2)) (pa_cons (pe_mkA PySem.F.excBase_ValueError T.xi_InvalidBook T.gC_InvalidBook T.x_InvalidBook.kp (by rfl) (pv 2)) (pa_cons (pe_mkA PySem.F.excBase_ValueError T.xi_InvalidText T.gC_InvalidText T.x_InvalidText.kp (by rfl) (pv 2)) (pa_cons (pe_mkA PySem.F.excBase_ValueError T.xi_InvalidState T.gC_InvalidState T.x_InvalidState.kp (by rfl) (pv 2)) (pa_cons (pe_mkA PySem.F.excBase_ValueError T.xi_InvalidRow T.gC_InvalidRow T.x_InvalidRow.kp (by rfl) (pv 2)) pa_nil)))))))
      (pss_cons (ps_set (i := 3) sc_right.nd rfl (.inl rfl) (pe_op op_cat (pv 3) (pe_lst (pa_cons (pe_mkA PySem.F.excBase_ValueError T.xi_InvalidDemand T.gC_InvalidDemand T.x_InvalidDemand.kp (by rfl) (pv 2)) (pa_cons (pe_mkA PySem.F.excBase_ValueError T.xi_InvalidOperation T.gC_InvalidOperation T.x_InvalidOperation.kp (by rfl) (pv 2)) (pa_cons (pe_mkA PySem.F.excBase_ValueError T.xi_OffsideError T.gC_OffsideError T.x_OffsideError.kp (by rfl) (pv 2)) pa_nil))))))
      (pss_cons (ps_if (PW.pt (pw_or (pt_cmpR (o_neD (K := K) hr.units) (pe_lc (own := [("_law_one", 4)]) rfl sc_right.nd (p_list (K := K) (pv 3)) (blkOk_by (own := [("_law_one", 4)]) (N := ["_law_dice_here", "_law_thing", "_law_words", "_law_base", "_law_one", "_law_at", "_law_due", "_law_others_here", "_law_kept"]) (sc := (defScope s_right)) (by decide +kernel)) (fun _ _ _ _ _ => (pg_name (i := 4) sc_right.nd rfl (.inl rfl))) (fun _ _ _ _ _ => pts_nil) (fun _ _ _ _ _ => (pe_callTy (call_strX (K := K) (hu2 hr)) (by rfl) T.z_str (by decide +kernel) (pa_cons (pv 4) pa_nil)))) (pe_op op_rep (pe_lst (pa_cons (pv 2) pa_nil)) pe_int) (nomark _)) (pw_or1 (pt_cmpR (o_neD (K := K) hr.units) (pe_lc (own := [("_law_one", 4)]) rfl sc_right.nd (p_list (K := K) (pv 3)) (blkOk_by (own := [("_law_one", 4)]) (N := ["_law_dice_here", "_law_thing", "_law_words", "_law_base", "_law_one", "_law_at", "_law_due", "_law_others_here", "_law_kept"]) (sc := (defScope s_right)) (by decide +kernel)) (fun _ _ _ _ _ => (pg_name (i := 4) sc_right.nd rfl (.inl rfl))) (fun _ _ _ _ _ => pts_nil) (fun _ _ _ _ _ => (pe_call (ok_others T) (hr.mono (by decide)) (by rfl) T.g_others T.F_others.kp T.b_others .nil pass0 (pa_cons (pv 4) pa_nil)))) (pe_op op_rep (pe_lst (pa_cons (pe_op op_mulS pe_str pe_int) pa_nil)) pe_int) (nomark _))))) (pss_one (ps_ret pe_bl)) pss_nil)
      (pss_cons (ps_asg (pe_mkX PySem.F.excBase_ValueError T.xi_ParseError T.x_ParseError.kp T.i_ParseError T.ti_ParseError (ok_ParseError_init T) (hr.mono (by decide)) T.b_ParseError_init (by decide) pass0 (by rfl) T.gC_ParseError (pa_cons (pe_call (ok_pick T) (hr.mono (by decide)) (by rfl) T.g_pick T.F_pick.kp T.b_pick .nil pass0 (pa_cons (pv 0) (pa_cons (pe_lst (pa_cons pe_non (pa_cons pe_int (pa_cons pe_int (pa_cons (pe_op op_powW pe_int pe_int) pa_nil))))) pa_nil))) pa_nil)) (pg_sub (pv 3) pe_int set_list))
      (pss_cons (ps_setLc (i := 6) (own := [("_law_at", 5)]) rfl sc_right.nd rfl rfl (sw_true rfl rfl rfl (by decide +kernel)) (pi_range1 (by rfl) T.z_range (pa_cons pe_int pa_nil)) (blkOk_by (own := [("_law_at", 5)]) (N := ["_law_dice_here", "_law_thing", "_law_words", "_law_base", "_law_one", "_law_at", "_law_due", "_law_others_here", "_law_kept"]) (sc := (defScope s_right)) (by decide +kernel)) (fun _ _ _ _ _ => (pg_name (i := 5) sc_right.nd rfl (.inl rfl))) (fun _ _ _ _ _ => pts_nil) (fun _ _ _ _ _ => (pe_op o_adds (pe_op o_adds (pe_op o_adds (pe_op op_mulS pe_str (pv 5)) pe_str) (pe_op op_mulS pe_str (pe_op op_sub pe_int (pv 5)))) pe_str)))
      (pss_cons (ps_if (PW.pt (pw_or (pt_cmpR (o_neD (K := K) hr.units) (pe_lc (own := [("_law_one", 4)]) rfl sc_right.nd (p_list (K := K) (pv 3)) (blkOk_by (own := [("_law_one", 4)]) (N := ["_law_dice_here", "_law_thing", "_law_words", "_law_base", "_law_one", "_law_at", "_law_due", "_law_others_here", "_law_kept"]) (sc := (defScope s_right)) (by decide +kernel)) (fun _ _ _ _ _ => (pg_name (i := 4) sc_right.nd rfl (.inl rfl))) (fun _ _ _ _ _ => pts_nil) (fun _ _ _ _ _ => (pe_call (ok_kinds T) (hr.mono (by decide)) (by rfl) T.g_kinds T.F_kinds.kp T.b_kinds .nil pass0 (pa_cons (pv 4) pa_nil)))) (pv 6) (nomark _)) (pw_or1 (pt_cmpR op_ne (pe_call (ok_kinds T) (hr.mono (by decide)) (by rfl) T.g_kinds T.F_kinds.kp T.b_kinds .nil pass0 (pa_cons (pe_mkA PySem.F.excBase_ValueError T.xi_OffsideError T.gC_OffsideError T.x_OffsideError.kp (by rfl) (pv 2)) pa_nil)) (pe_op o_adds (pe_op op_mulS pe_str pe_int) pe_str) (nomark _))))) (pss_one (ps_ret pe_bl)) pss_nil)
      (pss_cons (ps_set (i := 7) sc_right.nd rfl (.inl rfl) (pe_lst (pa_cons (pe_mkX PySem.F.excBase_LookupError T.xi_UnknownWord T.x_UnknownWord.kp T.i_UnknownWord T.ti_UnknownWord (ok_UnknownWord_init T) (hr.mono (by decide)) T.b_UnknownWord_init (by decide) pass0 (by rfl) T.gC_UnknownWord (pa_cons (pv 1) pa_nil)) (pa_cons (pe_mkX PySem.F.excBase_LookupError T.xi_Impossible T.x_Impossible.kp T.i_Impossible T.ti_Impossible (ok_Impossible_init T) (hr.mono (by decide)) T.b_Impossible_init (by decide) pass0 (by rfl) T.gC_Impossible (pa_cons (pv 1) pa_nil)) (pa_cons (pe_mkX PySem.F.excBase_IndexError T.xi_NothingToUndo T.x_NothingToUndo.kp T.i_NothingToUndo T.ti_NothingToUndo (ok_NothingToUndo_init T) (hr.mono (by decide)) T.b_NothingToUndo_init (by decide) pass0 (by rfl) T.gC_NothingToUndo (pa_cons (pv 1) pa_nil)) (pa_cons (pe_mkX PySem.F.excBase_OverflowError T.xi_TooMany T.x_TooMany.kp T.i_TooMany T.ti_TooMany (ok_TooMany_init T) (hr.mono (by decide)) T.b_TooMany_init (by decide) pass0 (by rfl) T.gC_TooMany (pa_cons (pv 1) pa_nil)) (pa_cons (pe_mkX PySem.F.excBase_ArithmeticError T.xi_Refused T.x_Refused.kp T.i_Refused T.ti_Refused (ok_Refused_init T) (hr.mono (by decide)) T.b_Refused_init (by decide) pass0 (by rfl) T.gC_Refused (pa_cons (pv 1) pa_nil)) pa_nil)))))))
      (pss_cons (ps_set (i := 7) sc_right.nd rfl (.inl rfl) (pe_op op_cat (pv 7) (pe_lst (pa_cons (pe_mkX PySem.F.excBase_ArithmeticError T.xi_NoColumns T.x_NoColumns.kp T.i_NoColumns T.ti_NoColumns (ok_NoColumns_init T) (hr.mono (by decide)) T.b_NoColumns_init (by decide) pass0 (by rfl) T.gC_NoColumns (pa_cons (pv 1) pa_nil)) (pa_cons (pe_mkX PySem.F.excBase_RuntimeError T.xi_InvalidNumber T.x_InvalidNumber.kp T.i_InvalidNumber T.ti_InvalidNumber (ok_InvalidNumber_init T) (hr.mono (by decide)) T.b_InvalidNumber_init (by decide) pass0 (by rfl) T.gC_InvalidNumber (pa_cons (pv 1) pa_nil)) (pa_cons (pe_mkX PySem.F.excBase_RuntimeError T.xi_Broken T.x_Broken.kp T.i_Broken T.ti_Broken (ok_Broken_init T) (hr.mono (by decide)) T.b_Broken_init (by decide) pass0 (by rfl) T.gC_Broken (pa_cons (pv 1) pa_nil)) pa_nil))))))
      (pss_cons (ps_set (i := 6) sc_right.nd rfl (.inl rfl) (pe_lst (pa_cons pe_str (pa_cons pe_str (pa_cons pe_str (pa_cons pe_str (pa_cons pe_str (pa_cons pe_str pa_nil))))))))
      (pss_cons (ps_set (i := 6) sc_right.nd rfl (.inl rfl) (pe_op op_cat (pv 6) (pe_lst (pa_cons pe_str (pa_cons pe_str pa_nil)))))
      (pss_cons (ps_if (PW.pt (pw_or (pt_cmpR (o_neD (K := K) hr.units) (pe_lc (own := [("_law_one", 4)]) rfl sc_right.nd (p_list (K := K) (pv 7)) (blkOk_by (own := [("_law_one", 4)]) (N := ["_law_dice_here", "_law_thing", "_law_words", "_law_base", "_law_one", "_law_at", "_law_due", "_law_others_here", "_law_kept"]) (sc := (defScope s_right)) (by decide +kernel)) (fun _ _ _ _ _ => (pg_name (i := 4) sc_right.nd rfl (.inl rfl))) (fun _ _ _ _ _ => pts_nil) (fun _ _ _ _ _ => (pe_call (ok_others T) (hr.mono (by decide)) (by rfl) T.g_others T.F_others.kp T.b_others .nil pass0 (pa_cons (pv 4) pa_nil)))) (pv 6) (nomark _)) (pw_or1 (pt_cmpR (o_neD (K := K) hr.units) (pe_lc (own := [("_law_one", 4)]) rfl sc_right.nd (p_list (K := K) (pv 7)) (blkOk_by (own := [("_law_one", 4)]) (N := ["_law_dice_here", "_law_thing", "_law_words", "_law_base", "_law_one", "_law_at", "_law_due", "_law_others_here", "_law_kept"]) (sc := (defScope s_right)) (by decide +kernel)) (fun _ _ _ _ _ => (pg_name (i := 4) sc_right.nd rfl (.inl rfl))) (fun _ _ _ _ _ => pts_nil) (fun _ _ _ _ _ => (pe_call (ok_kinds T) (hr.mono (by decide)) (by rfl) T.g_kinds T.F_kinds.kp T.b_kinds .nil pass0 (pa_cons (pv 4) pa_nil)))) (pe_op op_rep (pe_lst (pa_cons (pe_op op_mulS pe_str pe_int) pa_nil)) pe_int) (nomark _))))) (pss_one (ps_ret pe_bl)) pss_nil)
      (pss_cons (ps_if (PW.pt (pw_or (pt_cmpR op_ne (pe_call (ok_others T) (hr.mono (by decide)) (by rfl) T.g_others T.F_others.kp T.b_others .nil pass0 (pa_cons (pe_ix (i_list (K := K)) (pv 3) pe_int (fun _ _ => rfl)) pa_nil)) (pe_op op_mulS pe_str pe_int) (nomark _)) (pw_or1 (pt_cmpR op_ne (pe_callB (c_reprT (K := K) hg hr.units) (by rfl) T.z_repr (by decide +kernel) (pa_cons (pe_getX (K := K) (pe_mkX PySem.F.excBase_ValueError T.xi_ParseError T.x_ParseError.kp T.i_ParseError T.ti_ParseError (ok_ParseError_init T) (hr.mono (by decide)) T.b_ParseError_init (by decide) pass0 (by rfl) T.gC_ParseError (pa_cons (pv 1) pa_nil))) pa_nil)) (pe_callB (c_reprT (K := K) hg hr.units) (by rfl) T.z_repr (by decide +kernel) (pa_cons (pv 1) pa_nil)) (nomark _))))) (pss_one (ps_ret pe_bl)) pss_nil)
      (pss_cons (ps_set (i := 8) sc_right.nd rfl (.inl rfl) (pe_lst (pa_cons (pe_getX (K := K) (pe_ix (i_list (K := K)) (pv 7) pe_int (fun _ _ => rfl))) (pa_cons (pe_getX (K := K) (pe_ix (i_list (K := K)) (pv 7) pe_int (fun _ _ => rfl))) (pa_cons (pe_getX (K := K) (pe_ix (i_list (K := K)) (pv 7) pe_int (fun _ _ => rfl))) (pa_cons (pe_getX (K := K) (pe_ix (i_list (K := K)) (pv 7) pe_int (fun _ _ => rfl))) (pa_cons (pe_getX (K := K) (pe_ix (i_list (K := K)) (pv 7) pe_int (fun _ _ => rfl))) pa_nil)))))))
      (pss_one (ps_ret (pe_cmpR op_eq (pe_callB (c_reprT (K := K) hg hr.units) (by rfl) T.z_repr (by decide +kernel) (pa_cons (pe_op op_cat (pv 8) (pe_lst (pa_cons (pe_getX (K := K) (pe_ix (i_list (K := K)) (pv 7) pe_int (fun _ _ => rfl))) (pa_cons (pe_getX (K := K) (pe_ix (i_list (K := K)) (pv 7) pe_int (fun _ _ => rfl))) (pa_cons (pe_getX (K := K) (pe_ix (i_list (K := K)) (pv 7) pe_int (fun _ _ => rfl))) pa_nil))))) pa_nil)) (pe_callB (c_reprT (K := K) hg hr.units) (by rfl) T.z_repr (by decide +kernel) (pa_cons (pe_op op_rep (pe_lst (pa_cons (pv 1) pa_nil)) pe_int) pa_nil)) (nomark _))))))))))))))))))), ?_⟩
    have hdo : ∃ o, H d = some o := by
      obtain ⟨a, b, c, _, e⟩ := hd
      exact ⟨_, e⟩
    refine r_seq (r_asg (r_call (r_cons (r_var rfl (r_cons (r_lstZ (Rs := List.replicate 11 (Drawn d)) ?_ (by show 11 ≤ 100000; decide) fun vs H1 e1 z1 p1 hp1 => ?_))))))
    · exact (ez_cons Drawn.mono (ed_of (ei_c fun _ => .int 0) (List.mem_of_getElem? (i := 0) rfl))
        (ez_cons Drawn.mono (ed_of (ei_c fun _ => (.str (by decide +kernel) (by decide +kernel))) (List.mem_of_getElem? (i := 1) rfl))
        (ez_cons Drawn.mono (ed_of (ei_c fun _ => (.str (by decide +kernel) (by decide +kernel))) (List.mem_of_getElem? (i := 2) rfl))
        (ez_cons Drawn.mono (ed_of (ei_c fun _ => .non) (List.mem_of_getElem? (i := 3) rfl))
        (ez_cons Drawn.mono (ed_of (ei_tup (ds := []) hdo ez_nil (by decide)) (List.mem_of_getElem? (i := 4) rfl))
        (ez_cons Drawn.mono (ed_of (ei_tup (ds := [.str "of", .int 3]) hdo (ez_cons IsP.mono (ei_c fun _ => (.str (by decide +kernel) (by decide +kernel))) (ez_cons IsP.mono (ei_c fun _ => .int 3) ez_nil)) (by decide)) (List.mem_of_getElem? (i := 5) rfl))
        (ez_cons Drawn.mono (ed_of (ei_v (ev_op ev_c ev_c (rv_I ⟨by decide, by decide +kernel⟩)) fun _ => .int _) (List.mem_of_getElem? (i := 6) rfl))
        (ez_cons Drawn.mono (ed_of (ei_c fun _ => .bl true) (List.mem_of_getElem? (i := 7) rfl))
        (ez_cons Drawn.mono (ed_of (ei_tup (ds := [.tuple [.int 4, .tuple [.str "a"]], .str "x"]) hdo (ez_cons IsP.mono (ei_tup (ds := [.int 4, .tuple [.str "a"]]) hdo (ez_cons IsP.mono (ei_c fun _ => .int 4) (ez_cons IsP.mono (ei_tup (ds := [.str "a"]) hdo (ez_cons IsP.mono (ei_c fun _ => (.str (by decide +kernel) (by decide +kernel))) ez_nil) (by decide)) ez_nil)) (by decide)) (ez_cons IsP.mono (ei_c fun _ => (.str (by decide +kernel) (by decide +kernel))) ez_nil)) (by decide)) (List.mem_of_getElem? (i := 8) rfl))
        (ez_cons Drawn.mono (ed_of (ei_lst (ds := [.int 1]) hdo (ez_cons IsP.mono (ei_c fun _ => .int 1) ez_nil) (by decide)) (List.mem_of_getElem? (i := 9) rfl))
        (ez_cons Drawn.mono (ed_disp hdo)
        ez_nil)))))))))))
    have d1 : Dice H1 d := hd.same e1
    have l1 : vs.length = 11 := z1.len
    refine r_nil ⟨d, p1, vs, rfl, d1.new hp1, upd_same, d1.ne hp1, (fun z => by rw [z] at l1; cases l1), by omega, fun v H2 hv e2 d2 => ?_⟩
    have hv' : Drawn d v H1 := by
      obtain ⟨i, hi⟩ := List.mem_iff_getElem?.mp hv
      obtain ⟨R, h1, h2⟩ := z1.get hi
      rw [List.eq_of_mem_replicate (List.mem_of_getElem? h1)] at h2
      exact h2
    obtain ⟨dd, hv'⟩ := hv'
    have t2 : Dw [d] dd v H2 := (hv'.ext (ExtN.of_same (Ex.new hp1))).ext (ExtN.of_ext (.head _) e2)
    have x2 : Ext d H H2 := (Ext.of_same (e1.trans (Ex.new hp1))).trans e2
    clear z1 hv hv' e1 hp1 d1 l1 e2 vs
    refine r_name ?_
    try dsimp only
    refine r_seq (r_asg (r_call (r_cons (r_var rfl (r_cons (r_lstA (vs := ws4.map V.str) ?_ (by decide) fun H3 e3 p3 hp3 => ?_))))))
    · exact (ea_cons ev_c (ea_cons ev_c (ea_cons ev_c (ea_cons ev_c ea_nil))))
    have d3 := d2.same e3
    refine r_nil ⟨d, p3, _, rfl, d3.new hp3, upd_same, d3.ne hp3, (fun z => nomatch z), by decide, fun wv H4 hw e4 d4 => ?_⟩
    obtain ⟨z, hz, rfl⟩ := List.mem_map.mp hw
    have t4 : Dw [d] dd v H4 := (t2.ext (ExtN.of_same (e3.trans (Ex.new hp3)))).ext (ExtN.of_ext (.head _) e4)
    have x4 : Ext d H H4 := (x2.trans (.of_same (e3.trans (Ex.new hp3)))).trans e4
    obtain ⟨zk, zl⟩ := ws4_ok z hz
    clear t2 x2 hw hz e3 hp3 d3 e4 d2
    refine r_name ?_
    try dsimp only
    refine q_asgZ (Rs := ([0, 1, 2, 3, 4] : List Nat).map (RB T z)) ?_ (by show 5 ≤ 100000; decide) (mono_all (fun _ => RB.mono) _) fun p5 b5 H5 f5 e5 w5 z5 => ?_
    · exact (ez_cons RB.mono (eb 0 (ep_mkA (ev_var rfl)) T.x_InvalidWord T.st_InvalidWord (fun _ => T.k1_InvalidWord) T.k2_InvalidWord) (ez_cons RB.mono (eb 1 (ep_mkA (ev_var rfl)) T.x_InvalidBook T.st_InvalidBook (fun _ => T.k1_InvalidBook) T.k2_InvalidBook) (ez_cons RB.mono (eb 2 (ep_mkA (ev_var rfl)) T.x_InvalidText T.st_InvalidText (fun _ => T.k1_InvalidText) T.k2_InvalidText) (ez_cons RB.mono (eb 3 (ep_mkA (ev_var rfl)) T.x_InvalidState T.st_InvalidState (fun _ => T.k1_InvalidState) T.k2_InvalidState) (ez_cons RB.mono (eb 4 (ep_mkA (ev_var rfl)) T.x_InvalidRow T.st_InvalidRow (fun _ => T.k1_InvalidRow) T.k2_InvalidRow) ez_nil)))))
    refine q_asgZc (Rs := ([5, 6, 7] : List Nat).map (RB T z)) rfl w5 z5 (mono_all (fun _ => RB.mono) _) ?_ (by show 5 + 3 ≤ 100000; decide) (mono_all (fun _ => RB.mono) _) fun p6 b6 H6 f6 e6 w6 z6 => ?_
    · exact (ez_cons RB.mono (eb 5 (ep_mkA (ev_var rfl)) T.x_InvalidDemand T.st_InvalidDemand (fun _ => T.k1_InvalidDemand) T.k2_InvalidDemand) (ez_cons RB.mono (eb 6 (ep_mkA (ev_var rfl)) T.x_InvalidOperation T.st_InvalidOperation (fun _ => T.k1_InvalidOperation) T.k2_InvalidOperation) (ez_cons RB.mono (eb 7 (ep_mkA (ev_var rfl)) T.x_OffsideError T.st_OffsideError (fun h => absurd h (by decide)) T.k2_OffsideError) ez_nil)))
    have z6 : Zp H6 b6 ((List.range 8).map (RB T z)) := z6
    have l6 : b6.length = 8 := z6.len
    have d5 := d4.same e5
    have n6 : p6 ≠ d := d5.ne f6
    have h6 : H p6 = none := by
      cases h : H p6 with
      | none => rfl
      | some o =>
        have := e5 _ _ (x4 _ _ n6 h)
        rw [f6] at this
        cases this
    have t6 : Dw [p6, d] dd v H6 := ((t4.ext (ExtN.of_same e5)).more f6).ext (ExtN.of_same e6)
    have d6 := d5.same e6
    have x6 : Ext d H H6 := x4.trans (.of_same (e5.trans e6))
    clear t4 x4 e5 e6 w5 z5 d5 d4 f5 f6 hdo
    try dsimp only
    refine q_when (b := false) (et_or2 (et_neLL (ss := List.replicate 8 z) ?_ ?_ zk) (et_neLL (ss := List.replicate 8 (marks no14)) ?_ ?_ (by decide +kernel))) (fun z => nomatch z) fun _ H7 e7 => ?_
    · refine el_as (el_lcL (fun _ => true) (fun _ => V.str z) (ev_var rfl) (sq_of w6) (by rw [l6]; decide) (fun _ => rfl) (fun i x H1 e hi => et_yes) (fun i x H1 e hi _ => ?_)) (by rw [l6, given_const]; rfl)
      obtain ⟨_, C, h1, h2, h3, _, _⟩ := at8 z6 hi
      exact ev_strX (ev_var rfl) (XA.mono _ _ _ e h1) h2 h3
    · exact el_as (el_rep (el_lst (ea_cons (ev_var rfl) ea_nil) (by show 1 ≤ 100000; decide)) ev_c (by decide) (by decide) (by show 1 * 8 ≤ 100000; decide)) rfl
    · refine el_as (el_lcL (fun _ => true) (fun _ => V.str (marks no14)) (ev_var rfl) (sq_of w6) (by rw [l6]; decide) (fun _ => rfl) (fun i x H1 e hi => et_yes) (fun i x H1 e hi _ => ?_)) (by rw [l6, given_const]; rfl)
      obtain ⟨_, C, ⟨a, t, h1, h2, _⟩, hx, _, _, ho⟩ := at8 z6 hi
      subst h1
      exact ev_call (ea_cons (ev_var rfl) ea_nil) (sp_row (.inl ⟨t, e _ _ h2⟩) hx ho)
    · exact el_as (el_rep (el_lst (ea_cons (ev_mulS ev_c ev_c ⟨by decide, by decide, by decide⟩) ea_nil) (by show 1 ≤ 100000; decide)) ev_c (by decide) (by decide) (by show 1 * 8 ≤ 100000; decide)) (by
        rw [show Txt.mul "." 14 = marks no14 by decide +kernel]
        rfl)
    have w7 := e7 _ _ w6
    have z7 := z6.mono e7 (mono_all (fun _ => RB.mono) _)
    have d7 := d6.same e7
    have t7 := t6.ext (ExtN.of_same e7)
    have x7 := x6.trans (.of_same e7)
    clear e7 w6 z6 d6 t6 x6
    refine r_seq (r_asg ?_)
    refine r_cons (r_call (r_cons (r_var rfl (r_cons (r_lstA (vs := [.non, .int 0, .int 7, .int (10 ^ (20 : Int).toNat)]) ?_ (by decide) fun H8 e8 p8 hp8 => ?_)))))
    · exact (ea_cons ev_c (ea_cons ev_c (ea_cons ev_c (ea_cons (ev_op ev_c ev_c (rv_I ⟨by decide, by decide +kernel⟩)) ea_nil))))
    have d8 := d7.same e8
    refine r_nil ⟨d, p8, _, rfl, d8.new hp8, upd_same, d8.ne hp8, (fun z => nomatch z), by decide, fun y H9 hy e9 d9 => ?_⟩
    refine r_nil ?_
    intro a ha
    refine ⟨a, y, rfl, upd_same, fun dx hdx hne => ⟨rfl, ?_⟩⟩
    have e10 : Ex H9 (upd (upd (upd H9 a (exo a T.C_ParseError none)) dx (exd dx [("line", y)])) a (exo a T.C_ParseError (some dx))) := Ex.mut (Ex.mut (Ex.mut (Ex.refl H9) ha) (by
      rw [upd_ne hne] at hdx
      exact hdx)) ha
    have hy1 : XF T.C_ParseError "line" y (.ref a) (upd (upd (upd H9 a (exo a T.C_ParseError none)) dx (exd dx [("line", y)])) a (exo a T.C_ParseError (some dx))) := ⟨a, dx, rfl, upd_same, by rw [upd_ne hne, upd_same]⟩
    generalize upd (upd (upd H9 a (exo a T.C_ParseError none)) dx (exd dx [("line", y)])) a (exo a T.C_ParseError (some dx)) = H10 at e10 hy1 ⊢
    generalize V.ref a = y1 at hy1 ⊢
    have w10 : H10 p6 = some (.lst b6) := e10 _ _ (e9 _ _ n6 (Ex.new hp8 _ _ (e8 _ _ w7)))
    refine r_sub (r_var rfl (r_c (r_setL (j := 7) w10 (by rw [l6]; rfl) ?_)))
    have nl : NL H7 (upd H10 p6 (.lst (b6.set 7 y1))) := ((NL.of_ex (e8.trans (Ex.new hp8))).trans (NL.of_ext (d8.new hp8) e9)).trans ((NL.of_ex e10).trans (NL.set w10))
    have hK : ∀ i x, (b6.set 7 y1)[i]? = some x → RK T i x (upd H10 p6 (.lst (b6.set 7 y1))) := by
      intro i x hi
      by_cases h : i = 7
      · subst h
        rw [List.getElem?_set_self (by omega)] at hi
        cases hi
        obtain ⟨a', dx, h1, h2, h3⟩ := hy1
        exact ⟨a', _, h1, XAt.nl (NL.set w10) (.inr ⟨dx, _, h2, h3⟩), T.x_ParseError, T.k1_ParseError, T.k2_ParseError⟩
      · rw [List.getElem?_set_ne (fun z => h z.symm)] at hi
        obtain ⟨h8, C, ⟨a', t, h1, h2, _⟩, hx, _, hk, ho⟩ := at8 z7 hi
        exact ⟨a', C, h1, XAt.nl nl (.inl ⟨t, h2⟩), hx, hk (by omega), ho⟩
    have w11 : (upd H10 p6 (.lst (b6.set 7 y1))) p6 = some (.lst (b6.set 7 y1)) := upd_same
    have d11 : Dice (upd H10 p6 (.lst (b6.set 7 y1))) d := (d9.same e10).off n6
    have t11 : Dw [p6, d] dd v (upd H10 p6 (.lst (b6.set 7 y1))) := t7.ext (((((ExtN.of_same (e8.trans (Ex.new hp8))).trans (ExtN.of_ext (.tail _ (.head _)) e9)).trans (ExtN.of_same e10))).at_ (.head _))
    have x11 : Ext d H (upd H10 p6 (.lst (b6.set 7 y1))) := (((x7.trans (.of_same (e8.trans (Ex.new hp8)))).trans e9).trans (.of_same e10)).grown h6
    generalize upd H10 p6 (.lst (b6.set 7 y1)) = H11 at hK w11 d11 t11 x11 ⊢
    have l11 : (b6.set 7 y1).length = 8 := by rw [List.length_set, l6]
    have g7' : (b6.set 7 y1)[7]? = some y1 := List.getElem?_set_self (by omega)
    generalize b6.set 7 y1 = b11 at hK w11 l11 g7'
    clear nl w10 e10 hy1 e9 d9 hy hp8 d8 e8 w7 z7 d7 t7 x7 l6 h6 n6 ha
    try dsimp only
    refine q_asgL (el_as (ys := ((List.range 8).map fun i => marks (kb i)).map V.str) (el_lcR1 (fun _ => true) (fun i => V.str (marks (kb i))) (ea_cons ev_c ea_nil) ⟨by decide, by decide⟩ (fun _ => rfl) (fun i H1 e hi => et_yes) (fun i H1 e hi _ => ?_)) rfl) fun p12 H12 f12 e12 w12 => ?_
    · obtain ⟨k1, k2, k3, k4, k5⟩ := due_ok i (by omega)
      exact ev_is (ev_addS (ev_addS (ev_addS (ev_mulS ev_c (ev_var rfl) ⟨by omega, by omega, by decide⟩) ev_c (by show _ + 1 ≤ _; omega)) (ev_mulS ev_c (ev_op ev_c (ev_var rfl) rv_I0) ⟨by omega, by omega, by decide⟩) (by omega)) ev_c (by show _ + 2 ≤ _; omega)) (congrArg V.str k1)
    have hK12 : ∀ i x, b11[i]? = some x → ∀ H1, Ex H12 H1 → RK T i x H1 := fun i x hi H1 e => by
      obtain ⟨a, C, h1, h2, h3⟩ := hK i x hi
      exact ⟨a, C, h1, h2.mono (e12.trans e), h3⟩
    have w11' := e12 _ _ w11
    have d12 := d11.same e12
    have t12 := t11.ext (ExtN.of_same e12)
    have x12 := x11.trans (.of_same e12)
    clear hK e12 w11 d11 t11 x11 f12
    refine q_when (b := false) (et_or2 (et_neLV (ss := (List.range 8).map fun i => marks (kb i)) ?_ (fun _ _ => ev_var rfl) w12 (by decide +kernel)) (et_neStr (s := marks ofs) ?_ (ev_addS (ev_mulS ev_c ev_c ⟨by decide, by decide, by decide⟩) ev_c (by decide +kernel)) (by decide +kernel))) (fun z => nomatch z) fun _ H13 e13 => ?_
    · refine el_as (el_lcL (fun _ => true) (fun i => V.str (marks (kb i))) (ev_var rfl) (sq_of w11') (by rw [l11]; decide) (fun _ => rfl) (fun i x H1 e hi => et_yes) (fun i x H1 e hi _ => ?_)) (by rw [l11]; rfl)
      obtain ⟨a, C, h1, hx, hT, hk, _⟩ := hK12 i x hi H1 e
      subst h1
      exact ev_call (ea_cons (ev_var rfl) ea_nil) (sp_row hx hT hk)
    · exact ev_callP (ep_mkA (ev_var rfl)) fun x H1 hx => by
        obtain ⟨a, t, h1, h2, _⟩ := hx
        subst h1
        exact sp_row (bs := ofs) (.inl ⟨t, h2⟩) T.x_OffsideError T.k1_OffsideError
    have w13 := e13 _ _ w11'
    have d13 := d12.same e13
    have t13 := t12.ext (ExtN.of_same e13)
    have x13 := x12.trans (.of_same e13)
    have hK13 : ∀ i x, b11[i]? = some x → ∀ H1, Ex H13 H1 → RK T i x H1 := fun i x hi H1 e => hK12 i x hi H1 (e13.trans e)
    clear hK12 e13 w11' w12 d12 t12 x12
    refine q_asgZ (Rs := ([0, 1, 2, 3, 4] : List Nat).map (RO T v)) ?_ (by show 5 ≤ 100000; decide) (mono_all (fun _ => RO.mono) _) fun p14 b14 H14 f14 e14 w14 z14 => ?_
    · exact (ez_cons RO.mono (eo 0 (ep_mkX (ev_var rfl)) T.x_UnknownWord T.nf_UnknownWord T.k1_UnknownWord T.k2_UnknownWord) (ez_cons RO.mono (eo 1 (ep_mkX (ev_var rfl)) T.x_Impossible T.nf_Impossible T.k1_Impossible T.k2_Impossible) (ez_cons RO.mono (eo 2 (ep_mkX (ev_var rfl)) T.x_NothingToUndo T.nf_NothingToUndo T.k1_NothingToUndo T.k2_NothingToUndo) (ez_cons RO.mono (eo 3 (ep_mkX (ev_var rfl)) T.x_TooMany T.nf_TooMany T.k1_TooMany T.k2_TooMany) (ez_cons RO.mono (eo 4 (ep_mkX (ev_var rfl)) T.x_Refused T.nf_Refused T.k1_Refused T.k2_Refused) ez_nil)))))
    refine q_asgZc (Rs := ([5, 6, 7] : List Nat).map (RO T v)) rfl w14 z14 (mono_all (fun _ => RO.mono) _) ?_ (by show 5 + 3 ≤ 100000; decide) (mono_all (fun _ => RO.mono) _) fun p15 b15 H15 f15 e15 w15 z15 => ?_
    · exact (ez_cons RO.mono (eo 5 (ep_mkX (ev_var rfl)) T.x_NoColumns T.nf_NoColumns T.k1_NoColumns T.k2_NoColumns) (ez_cons RO.mono (eo 6 (ep_mkX (ev_var rfl)) T.x_InvalidNumber T.nf_InvalidNumber T.k1_InvalidNumber T.k2_InvalidNumber) (ez_cons RO.mono (eo 7 (ep_mkX (ev_var rfl)) T.x_Broken T.nf_Broken T.k1_Broken T.k2_Broken) ez_nil)))
    have z15 : Zp H15 b15 ((List.range 8).map (RO T v)) := z15
    have l15 : b15.length = 8 := z15.len
    have e15' := e14.trans e15
    clear f14 w14 z14 f15 e14 e15
    try dsimp only
    have hdue : ((List.range 8).map fun i => marks (ob i)) = [("x.......x.x..." : Str), (".x........x..." : Str), ("..x......xx..." : Str), ("...x.......xx." : Str), ("....x.......x." : Str), (".....x......x." : Str), ("......x......x" : Str), (".......x.....x" : Str)] := by decide +kernel
    refine q_asgL (el_lst (ea_cons ev_c (ea_cons ev_c (ea_cons ev_c (ea_cons ev_c (ea_cons ev_c (ea_cons ev_c ea_nil)))))) (by decide)) fun p16 H16 f16 e16 v16 => ?_
    refine q_asgL (el_as (ys := ((List.range 8).map fun i => marks (ob i)).map V.str) (el_cat (ev_var rfl) v16 (el_lst (ea_cons ev_c (ea_cons ev_c ea_nil)) (by decide)) (by decide)) (by rw [hdue]; rfl)) fun p17 H17 f17 e17 w17 => ?_
    have e17' := e16.trans e17
    try dsimp only
    refine q_when (b := false) (et_or2 (et_neLV (ss := (List.range 8).map fun i => marks (ob i)) ?_ (fun _ _ => ev_var rfl) w17 (by decide +kernel)) (et_neLL (ss := List.replicate 8 (marks no10)) ?_ ?_ (by decide +kernel))) (fun z => nomatch z) fun _ H18 e18 => ?_
    · refine el_as (el_lcL (fun _ => true) (fun i => V.str (marks (ob i))) (ev_var rfl) (sq_of (e17' _ _ w15)) (by rw [l15]; decide) (fun _ => rfl) (fun i x H1 e hi => et_yes) (fun i x H1 e hi _ => ?_)) (by rw [l15]; rfl)
      obtain ⟨_, C, hx, hT, _, _, ho⟩ := at8 z15 hi
      obtain ⟨a, h1, h2⟩ := (XF.mono _ _ _ (e17'.trans e) hx).at_
      subst h1
      exact ev_call (ea_cons (ev_var rfl) ea_nil) (sp_row h2 hT ho)
    · refine el_as (el_lcL (fun _ => true) (fun _ => V.str (marks no10)) (ev_var rfl) (sq_of (e17' _ _ w15)) (by rw [l15]; decide) (fun _ => rfl) (fun i x H1 e hi => et_yes) (fun i x H1 e hi _ => ?_)) (by rw [l15, given_const]; rfl)
      obtain ⟨_, C, hx, hT, _, hk, _⟩ := at8 z15 hi
      obtain ⟨a, h1, h2⟩ := (XF.mono _ _ _ (e17'.trans e) hx).at_
      subst h1
      exact ev_call (ea_cons (ev_var rfl) ea_nil) (sp_row h2 hT hk)
    · exact el_as (el_rep (el_lst (ea_cons (ev_mulS ev_c ev_c ⟨by decide, by decide, by decide⟩) ea_nil) (by show 1 ≤ 100000; decide)) ev_c (by decide) (by decide) (by show 1 * 8 ≤ 100000; decide)) (by
        rw [show Txt.mul "." 10 = marks no10 by decide +kernel]
        rfl)
    have e18' := (e15'.trans e17').trans e18
    have w18 := e18' _ _ w13
    have t18 := t13.ext (ExtN.of_same e18')
    have w16 : H18 p15 = some (.lst b15) := e18 _ _ (e17' _ _ w15)
    have z18 := z15.mono (e17'.trans e18) (mono_all (fun _ => RO.mono) _)
    obtain ⟨a7, C7, h71, h72, h73, _, h74⟩ := hK13 7 y1 g7' H18 e18'
    refine q_when (b := false) (et_or2 (et_neStr (s := marks no14) (ev_call (ea_cons (ev_op (ev_var rfl) ev_c (rv_ixL (sq_of w18) (L2.atI_nat (j := 7) g7'))) ea_nil) (by rw [h71]; exact sp_row h72 h73 h74)) (ev_mulS ev_c ev_c ⟨by decide, by decide, by decide⟩) (by decide +kernel))
      (et_neStr (ev_repr (ev_getP (ep_mkX (ev_var rfl)) T.x_ParseError T.nf_ParseError) t18) (ev_repr (ev_var rfl) t18) rfl)) (fun z => nomatch z) fun _ H19 e19 => ?_
    obtain ⟨o0, g0, D0, r0, T0, n0, _⟩ := get8 z18 (i := 0) (by decide)
    obtain ⟨o1, g1, D1, r1, T1, n1, _⟩ := get8 z18 (i := 1) (by decide)
    obtain ⟨o2, g2, D2, r2, T2, n2, _⟩ := get8 z18 (i := 2) (by decide)
    obtain ⟨o3, g3, D3, r3, T3, n3, _⟩ := get8 z18 (i := 3) (by decide)
    obtain ⟨o4, g4, D4, r4, T4, n4, _⟩ := get8 z18 (i := 4) (by decide)
    obtain ⟨o5, g5, D5, r5, T5, n5, _⟩ := get8 z18 (i := 5) (by decide)
    obtain ⟨o6, g6, D6, r6, T6, n6, _⟩ := get8 z18 (i := 6) (by decide)
    obtain ⟨o7, g7, D7, r7, T7, n7, _⟩ := get8 z18 (i := 7) (by decide)
    refine q_asgL (el_lst (ea_cons (ev_getX (ev_op (ev_var rfl) ev_c (rv_ixL (sq_of (e19 _ _ w16)) (L2.atI_nat (j := 0) g0))) (XF.mono _ _ _ e19 r0) T0 n0) (ea_cons (ev_getX (ev_op (ev_var rfl) ev_c (rv_ixL (sq_of (e19 _ _ w16)) (L2.atI_nat (j := 1) g1))) (XF.mono _ _ _ e19 r1) T1 n1) (ea_cons (ev_getX (ev_op (ev_var rfl) ev_c (rv_ixL (sq_of (e19 _ _ w16)) (L2.atI_nat (j := 2) g2))) (XF.mono _ _ _ e19 r2) T2 n2) (ea_cons (ev_getX (ev_op (ev_var rfl) ev_c (rv_ixL (sq_of (e19 _ _ w16)) (L2.atI_nat (j := 3) g3))) (XF.mono _ _ _ e19 r3) T3 n3) (ea_cons (ev_getX (ev_op (ev_var rfl) ev_c (rv_ixL (sq_of (e19 _ _ w16)) (L2.atI_nat (j := 4) g4))) (XF.mono _ _ _ e19 r4) T4 n4) ea_nil))))) (by show 5 ≤ 100000; decide)) fun p20 H20 f20 e20 w20 => ?_
    have e20' := e19.trans e20
    have t20 := t18.ext (ExtN.of_same e20')
    refine s_ret (v := .bl true) (ev_is (ev_op (ev_reprL (el_as (el_cat (ev_var rfl) w20 (el_lst (ea_cons (ev_getX (ev_op (ev_var rfl) ev_c (rv_ixL (sq_of (e20' _ _ w16)) (L2.atI_nat (j := 5) g5))) (XF.mono _ _ _ e20' r5) T5 n5) (ea_cons (ev_getX (ev_op (ev_var rfl) ev_c (rv_ixL (sq_of (e20' _ _ w16)) (L2.atI_nat (j := 6) g6))) (XF.mono _ _ _ e20' r6) T6 n6) (ea_cons (ev_getX (ev_op (ev_var rfl) ev_c (rv_ixL (sq_of (e20' _ _ w16)) (L2.atI_nat (j := 7) g7))) (XF.mono _ _ _ e20' r7) T7 n7) ea_nil))) (by show 3 ≤ 100000; decide)) (by show 5 + 3 ≤ 100000; decide)) rfl) t20) (ev_reprL (el_as (el_rep (el_lst (ea_cons (ev_var rfl) ea_nil) (by show 1 ≤ 100000; decide)) ev_c (by decide) (by decide) (by show 1 * 8 ≤ 100000; decide)) rfl) t20) (rv_eq rfl)) (by simp)) fun H21 e21 => ?_
    have eF := (e18'.trans e20').trans e21
    exact q H21 (x13.trans (.of_same eF)) (d13.same eF)
end
end My

--CUT
namespace My
open PySem PySem.Spec PyProof.Rows L2 Evl
section
variable {P : Program} {w : World} {K : PySem.W.Frag} {mg : Str → Option Value} {base : Heap}
/-! ### the law -/
def spLaw (K : PySem.W.Frag) : Sp := fun vs H Q _ => ∃ (a : Addr) (ns : List Int), vs = [.ref a] ∧ SqL K H a (ns.map V.int) ∧ ns.length ≤ 63 ∧ ∀ H', Q (.bl true) H'
theorem ok_law (T : Txt K mg) {f : Addr} {fd : FuncData} (F : Fun K "law" "law" s_law f fd) : FnG P w K mg base CX0 4 f fd ["_law_script"] (spLaw K) := by
  refine okG F sc_law (fun vs H Q E h => ?_) (fun cdv A outer s H vs Q E hg hr h => ?_)
  · obtain ⟨a, ns, rfl, _⟩ := h
    rfl
  · obtain ⟨a, ns, rfl, hS, hlen, q⟩ := h
    refine ⟨_, (pss_cons (ps_for PassesOwn.never rfl (pi_range1 (by rfl) T.z_range (pa_cons (pe_callB (c_max2 rfl) (by rfl) T.z_max (by decide +kernel) (pa_cons pe_int (pa_cons (pe_callB (c_min2 rfl) (by rfl) T.z_min (by decide +kernel) (pa_cons pe_int (pa_cons (pe_callB (c_len (K := K)) (by rfl) T.z_len (by decide +kernel) (pa_cons (pv 0) pa_nil)) pa_nil))) pa_nil))) pa_nil)) (pg_name (i := 1) sc_law.nd rfl (.inl rfl)) (pss_cons (ps_set (i := 2) sc_law.nd rfl (.inl rfl) (pe_call (ok_dice T) (hr.mono (by decide)) (by rfl) T.g_dice T.F_dice.kp T.b_dice .nil pass0 (pa_cons (pv 0) (pa_cons (pv 1) pa_nil))))
      (pss_one (ps_for PassesOwn.never rfl (pi_range1 (by rfl) T.z_range (pa_cons pe_int pa_nil)) (pg_name (i := 3) sc_law.nd rfl (.inl rfl)) (pss_one (ps_if (pt_not (pt_val (callG (ok_right T) hg (hr.mono (by decide)) (by rfl) T.g_right T.F_right.kp T.b_right .nil pass0 (pa_cons (pv 2) pa_nil)))) (pss_one (ps_ret pe_bl)) pss_nil))))))
      (pss_one (ps_ret (pe_cmpR (o_eqD (K := K) hr.units) (pe_lst (pa_cons (pe_getX (K := K) (pe_mkX PySem.F.excBase_ValueError T.xi_ParseError T.x_ParseError.kp T.i_ParseError T.ti_ParseError (ok_ParseError_init T) (hr.mono (by decide)) T.b_ParseError_init (by decide) pass0 (by rfl) T.gC_ParseError (pa_cons pe_non pa_nil))) (pa_cons (pe_getX (K := K) (pe_mkX PySem.F.excBase_RuntimeError T.xi_Broken T.x_Broken.kp T.i_Broken T.ti_Broken (ok_Broken_init T) (hr.mono (by decide)) T.b_Broken_init (by decide) pass0 (by rfl) T.gC_Broken (pa_cons pe_int pa_nil))) (pa_cons (pe_getX (K := K) (pe_mkX PySem.F.excBase_OverflowError T.xi_TooMany T.x_TooMany.kp T.i_TooMany T.ti_TooMany (ok_TooMany_init T) (hr.mono (by decide)) T.b_TooMany_init (by decide) pass0 (by rfl) T.gC_TooMany (pa_cons pe_int pa_nil))) pa_nil)))) (pe_lst (pa_cons pe_non (pa_cons pe_int (pa_cons pe_int pa_nil)))) (nomark _))))), ?_⟩
    walk_at "zrd"
    refine ⟨a, _, rfl, .inl hS, ?_⟩
    walk_at "zrd"
    obtain ⟨m, em, hm⟩ := turns_ok (ns.map V.int).length
    rw [em]
    refine r_rng1j (by omega) (by omega) ?_
    refine forB walk_range (fun i σ H' => ∃ y1 y2 y3, σ = [some (.ref a), y1, y2, y3] ∧ Same H H') ⟨_, _, _, rfl, Same.refl H⟩ (fun _ _ _ _ _ => trivial) (fun i x σ H1 H2 hi hP hy => ?_) (fun σ H1 hP => ?_)
    · obtain ⟨rfl, rfl⟩ := hy
      obtain ⟨y1, y2, y3, rfl, s1⟩ := hP
      walk_at "zrd"
      refine ⟨a, ns, i, by show [V.ref a, V.int (0 + (i : Int))] = _; rw [Int.zero_add], s1.seq hS, fun d H3 hd s3 d3 => ?_⟩
      have hd0 : H d = none := s1.free hd
      walk_at "zrd"
      refine r_rng1j (by decide) (by decide) ?_
      refine forB walk_range (fun j σ H' => ∃ y3, σ = [some (.ref a), some (.int (0 + (i : Int))), some (.ref d), y3] ∧ Same H H' ∧ Dice H' d) ⟨_, rfl, s1.trans s3, d3⟩ (fun _ _ _ _ _ => trivial) (fun j x σ H4 H5 hj hP hy => ?_) (fun σ H4 hP => ?_)
      · obtain ⟨rfl, rfl⟩ := hy
        obtain ⟨z3, rfl, s4, d4⟩ := hP
        walk_at "zrd"
        refine ⟨d, rfl, d4, fun H6 e6 d6 => ?_⟩
        walk_at "zrd"
        exact ⟨_, rfl, e6.same s4 hd0, d6⟩
      · obtain ⟨z3, rfl, s4, d4⟩ := hP
        exact ⟨_, _, _, rfl, s4⟩
    · obtain ⟨y1, y2, y3, rfl, s1⟩ := hP
      refine s_ret (v := .bl true) (ev_is (ev_opLL (xs := [.non, .int 3, .int 60]) (ys := [.non, .int 3, .int 60])
        (el_lst (ea_cons (ev_getP (ep_mkX ev_c) T.x_ParseError T.nf_ParseError) (ea_cons (ev_getP (ep_mkX ev_c) T.x_Broken T.nf_Broken) (ea_cons (ev_getP (ep_mkX ev_c) T.x_TooMany T.nf_TooMany) ea_nil))) (by decide))
        (el_lst (ea_cons ev_c (ea_cons ev_c (ea_cons ev_c ea_nil))) (by decide))
        (fun p r H2 hp hr2 e => rv_val fun H3 e3 Q k => ⟨.list [.none, .int 3, .int 60], .list [.none, .int 3, .int 60], .lst (sq_of (e3 _ _ hp)) (.cons .non (.cons (.int _) (.cons (.int _) .nil))), .lst (sq_of (e3 _ _ hr2)) (.cons .non (.cons (.int _) (.cons (.int _) .nil))), rfl, rfl, k⟩)) rfl) fun H9 _ => q H9
end
theorem all_mk {l : PySem.W.OpenLaw} {w : World} {K : PySem.W.Frag} {h : Heap} {mg : Str → Option Value} {fa : Addr} (X : K.In h) (G : h.Ns mainGlobals mg) (hfa : mg "law" = some (.ref fa))
    {C_OffsideError : Addr} (gC_OffsideError : PySem.W.nsIn K mainGlobals "OffsideError" = some (some (.ref C_OffsideError))) (x_OffsideError : xcB K C_OffsideError = true)
    (xi_OffsideError : PySem.W.excIn K C_OffsideError [.type "ValueError", .type "Exception", .type "BaseException", .type "object"] "ValueError.__new__" = true) (st_OffsideError : PySem.W.findIn K (.ref C_OffsideError) "__str__" = some (some (.builtin "BaseException.__str__")))
    {C_InvalidWord : Addr} (gC_InvalidWord : PySem.W.nsIn K mainGlobals "InvalidWord" = some (some (.ref C_InvalidWord))) (x_InvalidWord : xcB K C_InvalidWord = true)
    (xi_InvalidWord : PySem.W.excIn K C_InvalidWord [.type "ValueError", .type "Exception", .type "BaseException", .type "object"] "ValueError.__new__" = true) (st_InvalidWord : PySem.W.findIn K (.ref C_InvalidWord) "__str__" = some (some (.builtin "BaseException.__str__")))
    {C_InvalidBook : Addr} (gC_InvalidBook : PySem.W.nsIn K mainGlobals "InvalidBook" = some (some (.ref C_InvalidBook))) (x_InvalidBook : xcB K C_InvalidBook = true)
    (xi_InvalidBook : PySem.W.excIn K C_InvalidBook [.type "ValueError", .type "Exception", .type "BaseException", .type "object"] "ValueError.__new__" = true) (st_InvalidBook : PySem.W.findIn K (.ref C_InvalidBook) "__str__" = some (some (.builtin "BaseException.__str__")))
    {C_InvalidText : Addr} (gC_InvalidText : PySem.W.nsIn K mainGlobals "InvalidText" = some (some (.ref C_InvalidText))) (x_InvalidText : xcB K C_InvalidText = true)
    (xi_InvalidText : PySem.W.excIn K C_InvalidText [.type "ValueError", .type "Exception", .type "BaseException", .type "object"] "ValueError.__new__" = true) (st_InvalidText : PySem.W.findIn K (.ref C_InvalidText) "__str__" = some (some (.builtin "BaseException.__str__")))
    {C_InvalidState : Addr} (gC_InvalidState : PySem.W.nsIn K mainGlobals "InvalidState" = some (some (.ref C_InvalidState))) (x_InvalidState : xcB K C_InvalidState = true)
    (xi_InvalidState : PySem.W.excIn K C_InvalidState [.type "ValueError", .type "Exception", .type "BaseException", .type "object"] "ValueError.__new__" = true) (st_InvalidState : PySem.W.findIn K (.ref C_InvalidState) "__str__" = some (some (.builtin "BaseException.__str__")))
    {C_InvalidRow : Addr} (gC_InvalidRow : PySem.W.nsIn K mainGlobals "InvalidRow" = some (some (.ref C_InvalidRow))) (x_InvalidRow : xcB K C_InvalidRow = true)
    (xi_InvalidRow : PySem.W.excIn K C_InvalidRow [.type "ValueError", .type "Exception", .type "BaseException", .type "object"] "ValueError.__new__" = true) (st_InvalidRow : PySem.W.findIn K (.ref C_InvalidRow) "__str__" = some (some (.builtin "BaseException.__str__")))
    {C_InvalidDemand : Addr} (gC_InvalidDemand : PySem.W.nsIn K mainGlobals "InvalidDemand" = some (some (.ref C_InvalidDemand))) (x_InvalidDemand : xcB K C_InvalidDemand = true)
    (xi_InvalidDemand : PySem.W.excIn K C_InvalidDemand [.type "ValueError", .type "Exception", .type "BaseException", .type "object"] "ValueError.__new__" = true) (st_InvalidDemand : PySem.W.findIn K (.ref C_InvalidDemand) "__str__" = some (some (.builtin "BaseException.__str__")))
    {C_InvalidOperation : Addr} (gC_InvalidOperation : PySem.W.nsIn K mainGlobals "InvalidOperation" = some (some (.ref C_InvalidOperation))) (x_InvalidOperation : xcB K C_InvalidOperation = true)
    (xi_InvalidOperation : PySem.W.excIn K C_InvalidOperation [.type "ValueError", .type "Exception", .type "BaseException", .type "object"] "ValueError.__new__" = true) (st_InvalidOperation : PySem.W.findIn K (.ref C_InvalidOperation) "__str__" = some (some (.builtin "BaseException.__str__")))
    {C_ParseError : Addr} (gC_ParseError : PySem.W.nsIn K mainGlobals "ParseError" = some (some (.ref C_ParseError))) (x_ParseError : xcB K C_ParseError = true)
    {C_UnknownWord : Addr} (gC_UnknownWord : PySem.W.nsIn K mainGlobals "UnknownWord" = some (some (.ref C_UnknownWord))) (x_UnknownWord : xcB K C_UnknownWord = true)
    {C_Impossible : Addr} (gC_Impossible : PySem.W.nsIn K mainGlobals "Impossible" = some (some (.ref C_Impossible))) (x_Impossible : xcB K C_Impossible = true)
    {C_NothingToUndo : Addr} (gC_NothingToUndo : PySem.W.nsIn K mainGlobals "NothingToUndo" = some (some (.ref C_NothingToUndo))) (x_NothingToUndo : xcB K C_NothingToUndo = true)
    {C_TooMany : Addr} (gC_TooMany : PySem.W.nsIn K mainGlobals "TooMany" = some (some (.ref C_TooMany))) (x_TooMany : xcB K C_TooMany = true)
    {C_Refused : Addr} (gC_Refused : PySem.W.nsIn K mainGlobals "Refused" = some (some (.ref C_Refused))) (x_Refused : xcB K C_Refused = true)
    {C_NoColumns : Addr} (gC_NoColumns : PySem.W.nsIn K mainGlobals "NoColumns" = some (some (.ref C_NoColumns))) (x_NoColumns : xcB K C_NoColumns = true)
    {C_InvalidNumber : Addr} (gC_InvalidNumber : PySem.W.nsIn K mainGlobals "InvalidNumber" = some (some (.ref C_InvalidNumber))) (x_InvalidNumber : xcB K C_InvalidNumber = true)
    {C_Broken : Addr} (gC_Broken : PySem.W.nsIn K mainGlobals "Broken" = some (some (.ref C_Broken))) (x_Broken : xcB K C_Broken = true)
    {f_ParseError_init : Addr} {od_ParseError_init an_ParseError_init : Option Addr} {sl_ParseError_init : Array (Option Value)} {oc_ParseError_init kV_ParseError_init dc_ParseError_init pm_ParseError_init cd_ParseError_init ct_ParseError_init : Value}
    (a_ParseError_init : PySem.W.findIn K (.ref C_ParseError) "__init__" = some (some (.ref f_ParseError_init))) (l_ParseError_init : K.lookup f_ParseError_init = some ⟨oc_ParseError_init, od_ParseError_init, .func (PySem.W.fnOf "__init__" "ParseError.__init__" (defArgs s_ParseError_init) (defBody s_ParseError_init) (defScope s_ParseError_init) .none kV_ParseError_init dc_ParseError_init pm_ParseError_init an_ParseError_init cd_ParseError_init ct_ParseError_init), sl_ParseError_init⟩) (c_ParseError_init : PySem.W.codeIn K cd_ParseError_init "ParseError.__init__" = true) (k_ParseError_init : PySem.W.keepIn K (.ref f_ParseError_init) = true)
    (xi_ParseError : xInB K C_ParseError "ValueError" "ValueError.__new__" = true) (xo_ParseError : PySem.W.excOver K C_ParseError [.type "ValueError", .type "Exception", .type "BaseException", .type "object"] = true) (tk_ParseError : PySem.W.takerIn K C_ParseError "line" = some none) (nf_ParseError : PySem.W.findIn K (.ref C_ParseError) "line" = some none) (ti_ParseError : PySem.W.typeIn K (.ref f_ParseError_init) = some (.type "function"))
    {f_UnknownWord_init : Addr} {od_UnknownWord_init an_UnknownWord_init : Option Addr} {sl_UnknownWord_init : Array (Option Value)} {oc_UnknownWord_init kV_UnknownWord_init dc_UnknownWord_init pm_UnknownWord_init cd_UnknownWord_init ct_UnknownWord_init : Value}
    (a_UnknownWord_init : PySem.W.findIn K (.ref C_UnknownWord) "__init__" = some (some (.ref f_UnknownWord_init))) (l_UnknownWord_init : K.lookup f_UnknownWord_init = some ⟨oc_UnknownWord_init, od_UnknownWord_init, .func (PySem.W.fnOf "__init__" "UnknownWord.__init__" (defArgs s_UnknownWord_init) (defBody s_UnknownWord_init) (defScope s_UnknownWord_init) .none kV_UnknownWord_init dc_UnknownWord_init pm_UnknownWord_init an_UnknownWord_init cd_UnknownWord_init ct_UnknownWord_init), sl_UnknownWord_init⟩) (c_UnknownWord_init : PySem.W.codeIn K cd_UnknownWord_init "UnknownWord.__init__" = true) (k_UnknownWord_init : PySem.W.keepIn K (.ref f_UnknownWord_init) = true)
    (xi_UnknownWord : xInB K C_UnknownWord "LookupError" "LookupError.__new__" = true) (xo_UnknownWord : PySem.W.excOver K C_UnknownWord [.type "KeyError", .type "LookupError", .type "Exception", .type "BaseException", .type "object"] = true) (tk_UnknownWord : PySem.W.takerIn K C_UnknownWord "asked" = some none) (nf_UnknownWord : PySem.W.findIn K (.ref C_UnknownWord) "asked" = some none) (ti_UnknownWord : PySem.W.typeIn K (.ref f_UnknownWord_init) = some (.type "function"))
    {f_Impossible_init : Addr} {od_Impossible_init an_Impossible_init : Option Addr} {sl_Impossible_init : Array (Option Value)} {oc_Impossible_init kV_Impossible_init dc_Impossible_init pm_Impossible_init cd_Impossible_init ct_Impossible_init : Value}
    (a_Impossible_init : PySem.W.findIn K (.ref C_Impossible) "__init__" = some (some (.ref f_Impossible_init))) (l_Impossible_init : K.lookup f_Impossible_init = some ⟨oc_Impossible_init, od_Impossible_init, .func (PySem.W.fnOf "__init__" "Impossible.__init__" (defArgs s_Impossible_init) (defBody s_Impossible_init) (defScope s_Impossible_init) .none kV_Impossible_init dc_Impossible_init pm_Impossible_init an_Impossible_init cd_Impossible_init ct_Impossible_init), sl_Impossible_init⟩) (c_Impossible_init : PySem.W.codeIn K cd_Impossible_init "Impossible.__init__" = true) (k_Impossible_init : PySem.W.keepIn K (.ref f_Impossible_init) = true)
    (xi_Impossible : xInB K C_Impossible "LookupError" "LookupError.__new__" = true) (xo_Impossible : PySem.W.excOver K C_Impossible [.type "LookupError", .type "Exception", .type "BaseException", .type "object"] = true) (tk_Impossible : PySem.W.takerIn K C_Impossible "index" = some none) (nf_Impossible : PySem.W.findIn K (.ref C_Impossible) "index" = some none) (ti_Impossible : PySem.W.typeIn K (.ref f_Impossible_init) = some (.type "function"))
    {f_NothingToUndo_init : Addr} {od_NothingToUndo_init an_NothingToUndo_init : Option Addr} {sl_NothingToUndo_init : Array (Option Value)} {oc_NothingToUndo_init kV_NothingToUndo_init dc_NothingToUndo_init pm_NothingToUndo_init cd_NothingToUndo_init ct_NothingToUndo_init : Value}
    (a_NothingToUndo_init : PySem.W.findIn K (.ref C_NothingToUndo) "__init__" = some (some (.ref f_NothingToUndo_init))) (l_NothingToUndo_init : K.lookup f_NothingToUndo_init = some ⟨oc_NothingToUndo_init, od_NothingToUndo_init, .func (PySem.W.fnOf "__init__" "NothingToUndo.__init__" (defArgs s_NothingToUndo_init) (defBody s_NothingToUndo_init) (defScope s_NothingToUndo_init) .none kV_NothingToUndo_init dc_NothingToUndo_init pm_NothingToUndo_init an_NothingToUndo_init cd_NothingToUndo_init ct_NothingToUndo_init), sl_NothingToUndo_init⟩) (c_NothingToUndo_init : PySem.W.codeIn K cd_NothingToUndo_init "NothingToUndo.__init__" = true) (k_NothingToUndo_init : PySem.W.keepIn K (.ref f_NothingToUndo_init) = true)
    (xi_NothingToUndo : xInB K C_NothingToUndo "IndexError" "IndexError.__new__" = true) (xo_NothingToUndo : PySem.W.excOver K C_NothingToUndo [.type "IndexError", .type "LookupError", .type "Exception", .type "BaseException", .type "object"] = true) (tk_NothingToUndo : PySem.W.takerIn K C_NothingToUndo "amount" = some none) (nf_NothingToUndo : PySem.W.findIn K (.ref C_NothingToUndo) "amount" = some none) (ti_NothingToUndo : PySem.W.typeIn K (.ref f_NothingToUndo_init) = some (.type "function"))
    {f_TooMany_init : Addr} {od_TooMany_init an_TooMany_init : Option Addr} {sl_TooMany_init : Array (Option Value)} {oc_TooMany_init kV_TooMany_init dc_TooMany_init pm_TooMany_init cd_TooMany_init ct_TooMany_init : Value}
    (a_TooMany_init : PySem.W.findIn K (.ref C_TooMany) "__init__" = some (some (.ref f_TooMany_init))) (l_TooMany_init : K.lookup f_TooMany_init = some ⟨oc_TooMany_init, od_TooMany_init, .func (PySem.W.fnOf "__init__" "TooMany.__init__" (defArgs s_TooMany_init) (defBody s_TooMany_init) (defScope s_TooMany_init) .none kV_TooMany_init dc_TooMany_init pm_TooMany_init an_TooMany_init cd_TooMany_init ct_TooMany_init), sl_TooMany_init⟩) (c_TooMany_init : PySem.W.codeIn K cd_TooMany_init "TooMany.__init__" = true) (k_TooMany_init : PySem.W.keepIn K (.ref f_TooMany_init) = true)
    (xi_TooMany : xInB K C_TooMany "OverflowError" "OverflowError.__new__" = true) (xo_TooMany : PySem.W.excOver K C_TooMany [.type "OverflowError", .type "ArithmeticError", .type "Exception", .type "BaseException", .type "object"] = true) (tk_TooMany : PySem.W.takerIn K C_TooMany "limit" = some none) (nf_TooMany : PySem.W.findIn K (.ref C_TooMany) "limit" = some none) (ti_TooMany : PySem.W.typeIn K (.ref f_TooMany_init) = some (.type "function"))
    {f_Refused_init : Addr} {od_Refused_init an_Refused_init : Option Addr} {sl_Refused_init : Array (Option Value)} {oc_Refused_init kV_Refused_init dc_Refused_init pm_Refused_init cd_Refused_init ct_Refused_init : Value}
    (a_Refused_init : PySem.W.findIn K (.ref C_Refused) "__init__" = some (some (.ref f_Refused_init))) (l_Refused_init : K.lookup f_Refused_init = some ⟨oc_Refused_init, od_Refused_init, .func (PySem.W.fnOf "__init__" "Refused.__init__" (defArgs s_Refused_init) (defBody s_Refused_init) (defScope s_Refused_init) .none kV_Refused_init dc_Refused_init pm_Refused_init an_Refused_init cd_Refused_init ct_Refused_init), sl_Refused_init⟩) (c_Refused_init : PySem.W.codeIn K cd_Refused_init "Refused.__init__" = true) (k_Refused_init : PySem.W.keepIn K (.ref f_Refused_init) = true)
    (xi_Refused : xInB K C_Refused "ArithmeticError" "ArithmeticError.__new__" = true) (xo_Refused : PySem.W.excOver K C_Refused [.type "ArithmeticError", .type "Exception", .type "BaseException", .type "object"] = true) (tk_Refused : PySem.W.takerIn K C_Refused "cause" = some none) (nf_Refused : PySem.W.findIn K (.ref C_Refused) "cause" = some none) (ti_Refused : PySem.W.typeIn K (.ref f_Refused_init) = some (.type "function"))
    {f_NoColumns_init : Addr} {od_NoColumns_init an_NoColumns_init : Option Addr} {sl_NoColumns_init : Array (Option Value)} {oc_NoColumns_init kV_NoColumns_init dc_NoColumns_init pm_NoColumns_init cd_NoColumns_init ct_NoColumns_init : Value}
    (a_NoColumns_init : PySem.W.findIn K (.ref C_NoColumns) "__init__" = some (some (.ref f_NoColumns_init))) (l_NoColumns_init : K.lookup f_NoColumns_init = some ⟨oc_NoColumns_init, od_NoColumns_init, .func (PySem.W.fnOf "__init__" "NoColumns.__init__" (defArgs s_NoColumns_init) (defBody s_NoColumns_init) (defScope s_NoColumns_init) .none kV_NoColumns_init dc_NoColumns_init pm_NoColumns_init an_NoColumns_init cd_NoColumns_init ct_NoColumns_init), sl_NoColumns_init⟩) (c_NoColumns_init : PySem.W.codeIn K cd_NoColumns_init "NoColumns.__init__" = true) (k_NoColumns_init : PySem.W.keepIn K (.ref f_NoColumns_init) = true)
    (xi_NoColumns : xInB K C_NoColumns "ArithmeticError" "ArithmeticError.__new__" = true) (xo_NoColumns : PySem.W.excOver K C_NoColumns [.type "ArithmeticError", .type "Exception", .type "BaseException", .type "object"] = true) (tk_NoColumns : PySem.W.takerIn K C_NoColumns "total" = some none) (nf_NoColumns : PySem.W.findIn K (.ref C_NoColumns) "total" = some none) (ti_NoColumns : PySem.W.typeIn K (.ref f_NoColumns_init) = some (.type "function"))
    {f_InvalidNumber_init : Addr} {od_InvalidNumber_init an_InvalidNumber_init : Option Addr} {sl_InvalidNumber_init : Array (Option Value)} {oc_InvalidNumber_init kV_InvalidNumber_init dc_InvalidNumber_init pm_InvalidNumber_init cd_InvalidNumber_init ct_InvalidNumber_init : Value}
    (a_InvalidNumber_init : PySem.W.findIn K (.ref C_InvalidNumber) "__init__" = some (some (.ref f_InvalidNumber_init))) (l_InvalidNumber_init : K.lookup f_InvalidNumber_init = some ⟨oc_InvalidNumber_init, od_InvalidNumber_init, .func (PySem.W.fnOf "__init__" "InvalidNumber.__init__" (defArgs s_InvalidNumber_init) (defBody s_InvalidNumber_init) (defScope s_InvalidNumber_init) .none kV_InvalidNumber_init dc_InvalidNumber_init pm_InvalidNumber_init an_InvalidNumber_init cd_InvalidNumber_init ct_InvalidNumber_init), sl_InvalidNumber_init⟩) (c_InvalidNumber_init : PySem.W.codeIn K cd_InvalidNumber_init "InvalidNumber.__init__" = true) (k_InvalidNumber_init : PySem.W.keepIn K (.ref f_InvalidNumber_init) = true)
    (xi_InvalidNumber : xInB K C_InvalidNumber "RuntimeError" "RuntimeError.__new__" = true) (xo_InvalidNumber : PySem.W.excOver K C_InvalidNumber [.type "RuntimeError", .type "Exception", .type "BaseException", .type "object"] = true) (tk_InvalidNumber : PySem.W.takerIn K C_InvalidNumber "number" = some none) (nf_InvalidNumber : PySem.W.findIn K (.ref C_InvalidNumber) "number" = some none) (ti_InvalidNumber : PySem.W.typeIn K (.ref f_InvalidNumber_init) = some (.type "function"))
    {f_Broken_init : Addr} {od_Broken_init an_Broken_init : Option Addr} {sl_Broken_init : Array (Option Value)} {oc_Broken_init kV_Broken_init dc_Broken_init pm_Broken_init cd_Broken_init ct_Broken_init : Value}
    (a_Broken_init : PySem.W.findIn K (.ref C_Broken) "__init__" = some (some (.ref f_Broken_init))) (l_Broken_init : K.lookup f_Broken_init = some ⟨oc_Broken_init, od_Broken_init, .func (PySem.W.fnOf "__init__" "Broken.__init__" (defArgs s_Broken_init) (defBody s_Broken_init) (defScope s_Broken_init) .none kV_Broken_init dc_Broken_init pm_Broken_init an_Broken_init cd_Broken_init ct_Broken_init), sl_Broken_init⟩) (c_Broken_init : PySem.W.codeIn K cd_Broken_init "Broken.__init__" = true) (k_Broken_init : PySem.W.keepIn K (.ref f_Broken_init) = true)
    (xi_Broken : xInB K C_Broken "RuntimeError" "RuntimeError.__new__" = true) (xo_Broken : PySem.W.excOver K C_Broken [.type "RuntimeError", .type "Exception", .type "BaseException", .type "object"] = true) (tk_Broken : PySem.W.takerIn K C_Broken "index" = some none) (nf_Broken : PySem.W.findIn K (.ref C_Broken) "index" = some none) (ti_Broken : PySem.W.typeIn K (.ref f_Broken_init) = some (.type "function"))
    {f_dice : Addr} {od_dice an_dice : Option Addr} {sl_dice : Array (Option Value)} {oc_dice kV_dice dc_dice pm_dice cd_dice ct_dice : Value}
    (a_dice : PySem.W.nsIn K mainGlobals "_law_dice" = some (some (.ref f_dice))) (l_dice : K.lookup f_dice = some ⟨oc_dice, od_dice, .func (PySem.W.fnOf "_law_dice" "_law_dice" (defArgs s_dice) (defBody s_dice) (defScope s_dice) .none kV_dice dc_dice pm_dice an_dice cd_dice ct_dice), sl_dice⟩) (c_dice : PySem.W.codeIn K cd_dice "_law_dice" = true) (k_dice : PySem.W.keepIn K (.ref f_dice) = true)
    {f_roll : Addr} {od_roll an_roll : Option Addr} {sl_roll : Array (Option Value)} {oc_roll kV_roll dc_roll pm_roll cd_roll ct_roll : Value}
    (a_roll : PySem.W.nsIn K mainGlobals "_law_roll" = some (some (.ref f_roll))) (l_roll : K.lookup f_roll = some ⟨oc_roll, od_roll, .func (PySem.W.fnOf "_law_roll" "_law_roll" (defArgs s_roll) (defBody s_roll) (defScope s_roll) .none kV_roll dc_roll pm_roll an_roll cd_roll ct_roll), sl_roll⟩) (c_roll : PySem.W.codeIn K cd_roll "_law_roll" = true) (k_roll : PySem.W.keepIn K (.ref f_roll) = true)
    {f_pick : Addr} {od_pick an_pick : Option Addr} {sl_pick : Array (Option Value)} {oc_pick kV_pick dc_pick pm_pick cd_pick ct_pick : Value}
    (a_pick : PySem.W.nsIn K mainGlobals "_law_pick" = some (some (.ref f_pick))) (l_pick : K.lookup f_pick = some ⟨oc_pick, od_pick, .func (PySem.W.fnOf "_law_pick" "_law_pick" (defArgs s_pick) (defBody s_pick) (defScope s_pick) .none kV_pick dc_pick pm_pick an_pick cd_pick ct_pick), sl_pick⟩) (c_pick : PySem.W.codeIn K cd_pick "_law_pick" = true) (k_pick : PySem.W.keepIn K (.ref f_pick) = true)
    {f_kinds : Addr} {od_kinds an_kinds : Option Addr} {sl_kinds : Array (Option Value)} {oc_kinds kV_kinds dc_kinds pm_kinds cd_kinds ct_kinds : Value}
    (a_kinds : PySem.W.nsIn K mainGlobals "_law_kinds" = some (some (.ref f_kinds))) (l_kinds : K.lookup f_kinds = some ⟨oc_kinds, od_kinds, .func (PySem.W.fnOf "_law_kinds" "_law_kinds" (defArgs s_kinds) (defBody s_kinds) (defScope s_kinds) .none kV_kinds dc_kinds pm_kinds an_kinds cd_kinds ct_kinds), sl_kinds⟩) (c_kinds : PySem.W.codeIn K cd_kinds "_law_kinds" = true) (k_kinds : PySem.W.keepIn K (.ref f_kinds) = true)
    {f_others : Addr} {od_others an_others : Option Addr} {sl_others : Array (Option Value)} {oc_others kV_others dc_others pm_others cd_others ct_others : Value}
    (a_others : PySem.W.nsIn K mainGlobals "_law_others" = some (some (.ref f_others))) (l_others : K.lookup f_others = some ⟨oc_others, od_others, .func (PySem.W.fnOf "_law_others" "_law_others" (defArgs s_others) (defBody s_others) (defScope s_others) .none kV_others dc_others pm_others an_others cd_others ct_others), sl_others⟩) (c_others : PySem.W.codeIn K cd_others "_law_others" = true) (k_others : PySem.W.keepIn K (.ref f_others) = true)
    {f_right : Addr} {od_right an_right : Option Addr} {sl_right : Array (Option Value)} {oc_right kV_right dc_right pm_right cd_right ct_right : Value}
    (a_right : PySem.W.nsIn K mainGlobals "_law_right" = some (some (.ref f_right))) (l_right : K.lookup f_right = some ⟨oc_right, od_right, .func (PySem.W.fnOf "_law_right" "_law_right" (defArgs s_right) (defBody s_right) (defScope s_right) .none kV_right dc_right pm_right an_right cd_right ct_right), sl_right⟩) (c_right : PySem.W.codeIn K cd_right "_law_right" = true) (k_right : PySem.W.keepIn K (.ref f_right) = true)
    {f_law : Addr} {od_law an_law : Option Addr} {sl_law : Array (Option Value)} {oc_law kV_law dc_law pm_law cd_law ct_law : Value}
    (a_law : PySem.W.nsIn K mainGlobals "law" = some (some (.ref f_law))) (l_law : K.lookup f_law = some ⟨oc_law, od_law, .func (PySem.W.fnOf "law" "law" (defArgs s_law) (defBody s_law) (defScope s_law) .none kV_law dc_law pm_law an_law cd_law ct_law), sl_law⟩) (c_law : PySem.W.codeIn K cd_law "law" = true) (k_law : PySem.W.keepIn K (.ref f_law) = true)
    (k1_OffsideError : kitRow K C_OffsideError [.ref C_InvalidWord, .ref C_InvalidBook, .ref C_InvalidText, .ref C_InvalidState, .ref C_InvalidRow, .ref C_InvalidDemand, .ref C_InvalidOperation, .ref C_ParseError, .ref C_OffsideError, .type "ValueError"] = [some false, some false, some false, some false, some false, some false, some false, some false, some true, some true])
    (k1_InvalidWord : kitRow K C_InvalidWord [.ref C_InvalidWord, .ref C_InvalidBook, .ref C_InvalidText, .ref C_InvalidState, .ref C_InvalidRow, .ref C_InvalidDemand, .ref C_InvalidOperation, .ref C_ParseError, .ref C_OffsideError, .type "ValueError"] = [some true, some false, some false, some false, some false, some false, some false, some false, some true, some true])
    (k1_InvalidBook : kitRow K C_InvalidBook [.ref C_InvalidWord, .ref C_InvalidBook, .ref C_InvalidText, .ref C_InvalidState, .ref C_InvalidRow, .ref C_InvalidDemand, .ref C_InvalidOperation, .ref C_ParseError, .ref C_OffsideError, .type "ValueError"] = [some false, some true, some false, some false, some false, some false, some false, some false, some true, some true])
    (k1_InvalidText : kitRow K C_InvalidText [.ref C_InvalidWord, .ref C_InvalidBook, .ref C_InvalidText, .ref C_InvalidState, .ref C_InvalidRow, .ref C_InvalidDemand, .ref C_InvalidOperation, .ref C_ParseError, .ref C_OffsideError, .type "ValueError"] = [some false, some false, some true, some false, some false, some false, some false, some false, some true, some true])
    (k1_InvalidState : kitRow K C_InvalidState [.ref C_InvalidWord, .ref C_InvalidBook, .ref C_InvalidText, .ref C_InvalidState, .ref C_InvalidRow, .ref C_InvalidDemand, .ref C_InvalidOperation, .ref C_ParseError, .ref C_OffsideError, .type "ValueError"] = [some false, some false, some false, some true, some false, some false, some false, some false, some true, some true])
    (k1_InvalidRow : kitRow K C_InvalidRow [.ref C_InvalidWord, .ref C_InvalidBook, .ref C_InvalidText, .ref C_InvalidState, .ref C_InvalidRow, .ref C_InvalidDemand, .ref C_InvalidOperation, .ref C_ParseError, .ref C_OffsideError, .type "ValueError"] = [some false, some false, some false, some false, some true, some false, some false, some false, some true, some true])
    (k1_InvalidDemand : kitRow K C_InvalidDemand [.ref C_InvalidWord, .ref C_InvalidBook, .ref C_InvalidText, .ref C_InvalidState, .ref C_InvalidRow, .ref C_InvalidDemand, .ref C_InvalidOperation, .ref C_ParseError, .ref C_OffsideError, .type "ValueError"] = [some false, some false, some false, some false, some false, some true, some false, some false, some true, some true])
    (k1_InvalidOperation : kitRow K C_InvalidOperation [.ref C_InvalidWord, .ref C_InvalidBook, .ref C_InvalidText, .ref C_InvalidState, .ref C_InvalidRow, .ref C_InvalidDemand, .ref C_InvalidOperation, .ref C_ParseError, .ref C_OffsideError, .type "ValueError"] = [some false, some false, some false, some false, some false, some false, some true, some false, some true, some true])
    (k1_ParseError : kitRow K C_ParseError [.ref C_InvalidWord, .ref C_InvalidBook, .ref C_InvalidText, .ref C_InvalidState, .ref C_InvalidRow, .ref C_InvalidDemand, .ref C_InvalidOperation, .ref C_ParseError, .ref C_OffsideError, .type "ValueError"] = [some false, some false, some false, some false, some false, some false, some false, some true, some true, some true])
    (k1_UnknownWord : kitRow K C_UnknownWord [.ref C_InvalidWord, .ref C_InvalidBook, .ref C_InvalidText, .ref C_InvalidState, .ref C_InvalidRow, .ref C_InvalidDemand, .ref C_InvalidOperation, .ref C_ParseError, .ref C_OffsideError, .type "ValueError"] = [some false, some false, some false, some false, some false, some false, some false, some false, some false, some false])
    (k1_Impossible : kitRow K C_Impossible [.ref C_InvalidWord, .ref C_InvalidBook, .ref C_InvalidText, .ref C_InvalidState, .ref C_InvalidRow, .ref C_InvalidDemand, .ref C_InvalidOperation, .ref C_ParseError, .ref C_OffsideError, .type "ValueError"] = [some false, some false, some false, some false, some false, some false, some false, some false, some false, some false])
    (k1_NothingToUndo : kitRow K C_NothingToUndo [.ref C_InvalidWord, .ref C_InvalidBook, .ref C_InvalidText, .ref C_InvalidState, .ref C_InvalidRow, .ref C_InvalidDemand, .ref C_InvalidOperation, .ref C_ParseError, .ref C_OffsideError, .type "ValueError"] = [some false, some false, some false, some false, some false, some false, some false, some false, some false, some false])
    (k1_TooMany : kitRow K C_TooMany [.ref C_InvalidWord, .ref C_InvalidBook, .ref C_InvalidText, .ref C_InvalidState, .ref C_InvalidRow, .ref C_InvalidDemand, .ref C_InvalidOperation, .ref C_ParseError, .ref C_OffsideError, .type "ValueError"] = [some false, some false, some false, some false, some false, some false, some false, some false, some false, some false])
    (k1_Refused : kitRow K C_Refused [.ref C_InvalidWord, .ref C_InvalidBook, .ref C_InvalidText, .ref C_InvalidState, .ref C_InvalidRow, .ref C_InvalidDemand, .ref C_InvalidOperation, .ref C_ParseError, .ref C_OffsideError, .type "ValueError"] = [some false, some false, some false, some false, some false, some false, some false, some false, some false, some false])
    (k1_NoColumns : kitRow K C_NoColumns [.ref C_InvalidWord, .ref C_InvalidBook, .ref C_InvalidText, .ref C_InvalidState, .ref C_InvalidRow, .ref C_InvalidDemand, .ref C_InvalidOperation, .ref C_ParseError, .ref C_OffsideError, .type "ValueError"] = [some false, some false, some false, some false, some false, some false, some false, some false, some false, some false])
    (k1_InvalidNumber : kitRow K C_InvalidNumber [.ref C_InvalidWord, .ref C_InvalidBook, .ref C_InvalidText, .ref C_InvalidState, .ref C_InvalidRow, .ref C_InvalidDemand, .ref C_InvalidOperation, .ref C_ParseError, .ref C_OffsideError, .type "ValueError"] = [some false, some false, some false, some false, some false, some false, some false, some false, some false, some false])
    (k1_Broken : kitRow K C_Broken [.ref C_InvalidWord, .ref C_InvalidBook, .ref C_InvalidText, .ref C_InvalidState, .ref C_InvalidRow, .ref C_InvalidDemand, .ref C_InvalidOperation, .ref C_ParseError, .ref C_OffsideError, .type "ValueError"] = [some false, some false, some false, some false, some false, some false, some false, some false, some false, some false])
    (k2_OffsideError : kitRow K C_OffsideError [.ref C_UnknownWord, .ref C_Impossible, .ref C_NothingToUndo, .ref C_TooMany, .ref C_Refused, .ref C_NoColumns, .ref C_InvalidNumber, .ref C_Broken, .type "KeyError", .type "IndexError", .type "LookupError", .type "OverflowError", .type "ArithmeticError", .type "RuntimeError"] = [some false, some false, some false, some false, some false, some false, some false, some false, some false, some false, some false, some false, some false, some false])
    (k2_InvalidWord : kitRow K C_InvalidWord [.ref C_UnknownWord, .ref C_Impossible, .ref C_NothingToUndo, .ref C_TooMany, .ref C_Refused, .ref C_NoColumns, .ref C_InvalidNumber, .ref C_Broken, .type "KeyError", .type "IndexError", .type "LookupError", .type "OverflowError", .type "ArithmeticError", .type "RuntimeError"] = [some false, some false, some false, some false, some false, some false, some false, some false, some false, some false, some false, some false, some false, some false])
    (k2_InvalidBook : kitRow K C_InvalidBook [.ref C_UnknownWord, .ref C_Impossible, .ref C_NothingToUndo, .ref C_TooMany, .ref C_Refused, .ref C_NoColumns, .ref C_InvalidNumber, .ref C_Broken, .type "KeyError", .type "IndexError", .type "LookupError", .type "OverflowError", .type "ArithmeticError", .type "RuntimeError"] = [some false, some false, some false, some false, some false, some false, some false, some false, some false, some false, some false, some false, some false, some false])
    (k2_InvalidText : kitRow K C_InvalidText [.ref C_UnknownWord, .ref C_Impossible, .ref C_NothingToUndo, .ref C_TooMany, .ref C_Refused, .ref C_NoColumns, .ref C_InvalidNumber, .ref C_Broken, .type "KeyError", .type "IndexError", .type "LookupError", .type "OverflowError", .type "ArithmeticError", .type "RuntimeError"] = [some false, some false, some false, some false, some false, some false, some false, some false, some false, some false, some false, some false, some false, some false])
    (k2_InvalidState : kitRow K C_InvalidState [.ref C_UnknownWord, .ref C_Impossible, .ref C_NothingToUndo, .ref C_TooMany, .ref C_Refused, .ref C_NoColumns, .ref C_InvalidNumber, .ref C_Broken, .type "KeyError", .type "IndexError", .type "LookupError", .type "OverflowError", .type "ArithmeticError", .type "RuntimeError"] = [some false, some false, some false, some false, some false, some false, some false, some false, some false, some false, some false, some false, some false, some false])
    (k2_InvalidRow : kitRow K C_InvalidRow [.ref C_UnknownWord, .ref C_Impossible, .ref C_NothingToUndo, .ref C_TooMany, .ref C_Refused, .ref C_NoColumns, .ref C_InvalidNumber, .ref C_Broken, .type "KeyError", .type "IndexError", .type "LookupError", .type "OverflowError", .type "ArithmeticError", .type "RuntimeError"] = [some false, some false, some false, some false, some false, some false, some false, some false, some false, some false, some false, some false, some false, some false])
    (k2_InvalidDemand : kitRow K C_InvalidDemand [.ref C_UnknownWord, .ref C_Impossible, .ref C_NothingToUndo, .ref C_TooMany, .ref C_Refused, .ref C_NoColumns, .ref C_InvalidNumber, .ref C_Broken, .type "KeyError", .type "IndexError", .type "LookupError", .type "OverflowError", .type "ArithmeticError", .type "RuntimeError"] = [some false, some false, some false, some false, some false, some false, some false, some false, some false, some false, some false, some false, some false, some false])
    (k2_InvalidOperation : kitRow K C_InvalidOperation [.ref C_UnknownWord, .ref C_Impossible, .ref C_NothingToUndo, .ref C_TooMany, .ref C_Refused, .ref C_NoColumns, .ref C_InvalidNumber, .ref C_Broken, .type "KeyError", .type "IndexError", .type "LookupError", .type "OverflowError", .type "ArithmeticError", .type "RuntimeError"] = [some false, some false, some false, some false, some false, some false, some false, some false, some false, some false, some false, some false, some false, some false])
    (k2_ParseError : kitRow K C_ParseError [.ref C_UnknownWord, .ref C_Impossible, .ref C_NothingToUndo, .ref C_TooMany, .ref C_Refused, .ref C_NoColumns, .ref C_InvalidNumber, .ref C_Broken, .type "KeyError", .type "IndexError", .type "LookupError", .type "OverflowError", .type "ArithmeticError", .type "RuntimeError"] = [some false, some false, some false, some false, some false, some false, some false, some false, some false, some false, some false, some false, some false, some false])
    (k2_UnknownWord : kitRow K C_UnknownWord [.ref C_UnknownWord, .ref C_Impossible, .ref C_NothingToUndo, .ref C_TooMany, .ref C_Refused, .ref C_NoColumns, .ref C_InvalidNumber, .ref C_Broken, .type "KeyError", .type "IndexError", .type "LookupError", .type "OverflowError", .type "ArithmeticError", .type "RuntimeError"] = [some true, some false, some false, some false, some false, some false, some false, some false, some true, some false, some true, some false, some false, some false])
    (k2_Impossible : kitRow K C_Impossible [.ref C_UnknownWord, .ref C_Impossible, .ref C_NothingToUndo, .ref C_TooMany, .ref C_Refused, .ref C_NoColumns, .ref C_InvalidNumber, .ref C_Broken, .type "KeyError", .type "IndexError", .type "LookupError", .type "OverflowError", .type "ArithmeticError", .type "RuntimeError"] = [some false, some true, some false, some false, some false, some false, some false, some false, some false, some false, some true, some false, some false, some false])
    (k2_NothingToUndo : kitRow K C_NothingToUndo [.ref C_UnknownWord, .ref C_Impossible, .ref C_NothingToUndo, .ref C_TooMany, .ref C_Refused, .ref C_NoColumns, .ref C_InvalidNumber, .ref C_Broken, .type "KeyError", .type "IndexError", .type "LookupError", .type "OverflowError", .type "ArithmeticError", .type "RuntimeError"] = [some false, some false, some true, some false, some false, some false, some false, some false, some false, some true, some true, some false, some false, some false])
    (k2_TooMany : kitRow K C_TooMany [.ref C_UnknownWord, .ref C_Impossible, .ref C_NothingToUndo, .ref C_TooMany, .ref C_Refused, .ref C_NoColumns, .ref C_InvalidNumber, .ref C_Broken, .type "KeyError", .type "IndexError", .type "LookupError", .type "OverflowError", .type "ArithmeticError", .type "RuntimeError"] = [some false, some false, some false, some true, some false, some false, some false, some false, some false, some false, some false, some true, some true, some false])
    (k2_Refused : kitRow K C_Refused [.ref C_UnknownWord, .ref C_Impossible, .ref C_NothingToUndo, .ref C_TooMany, .ref C_Refused, .ref C_NoColumns, .ref C_InvalidNumber, .ref C_Broken, .type "KeyError", .type "IndexError", .type "LookupError", .type "OverflowError", .type "ArithmeticError", .type "RuntimeError"] = [some false, some false, some false, some false, some true, some false, some false, some false, some false, some false, some false, some false, some true, some false])
    (k2_NoColumns : kitRow K C_NoColumns [.ref C_UnknownWord, .ref C_Impossible, .ref C_NothingToUndo, .ref C_TooMany, .ref C_Refused, .ref C_NoColumns, .ref C_InvalidNumber, .ref C_Broken, .type "KeyError", .type "IndexError", .type "LookupError", .type "OverflowError", .type "ArithmeticError", .type "RuntimeError"] = [some false, some false, some false, some false, some false, some true, some false, some false, some false, some false, some false, some false, some true, some false])
    (k2_InvalidNumber : kitRow K C_InvalidNumber [.ref C_UnknownWord, .ref C_Impossible, .ref C_NothingToUndo, .ref C_TooMany, .ref C_Refused, .ref C_NoColumns, .ref C_InvalidNumber, .ref C_Broken, .type "KeyError", .type "IndexError", .type "LookupError", .type "OverflowError", .type "ArithmeticError", .type "RuntimeError"] = [some false, some false, some false, some false, some false, some false, some true, some false, some false, some false, some false, some false, some false, some true])
    (k2_Broken : kitRow K C_Broken [.ref C_UnknownWord, .ref C_Impossible, .ref C_NothingToUndo, .ref C_TooMany, .ref C_Refused, .ref C_NoColumns, .ref C_InvalidNumber, .ref C_Broken, .type "KeyError", .type "IndexError", .type "LookupError", .type "OverflowError", .type "ArithmeticError", .type "RuntimeError"] = [some false, some false, some false, some false, some false, some false, some false, some true, some false, some false, some false, some false, some false, some true])
    (z_len : PySem.W.nsIn K mainGlobals "len" = some none)
    (z_int : PySem.W.nsIn K mainGlobals "int" = some none)
    (z_abs : PySem.W.nsIn K mainGlobals "abs" = some none)
    (z_max : PySem.W.nsIn K mainGlobals "max" = some none)
    (z_isinstance : PySem.W.nsIn K mainGlobals "isinstance" = some none)
    (z_ValueError : PySem.W.nsIn K mainGlobals "ValueError" = some none)
    (z_KeyError : PySem.W.nsIn K mainGlobals "KeyError" = some none)
    (z_IndexError : PySem.W.nsIn K mainGlobals "IndexError" = some none)
    (z_LookupError : PySem.W.nsIn K mainGlobals "LookupError" = some none)
    (z_OverflowError : PySem.W.nsIn K mainGlobals "OverflowError" = some none)
    (z_ArithmeticError : PySem.W.nsIn K mainGlobals "ArithmeticError" = some none)
    (z_RuntimeError : PySem.W.nsIn K mainGlobals "RuntimeError" = some none)
    (z_str : PySem.W.nsIn K mainGlobals "str" = some none)
    (z_range : PySem.W.nsIn K mainGlobals "range" = some none)
    (z_repr : PySem.W.nsIn K mainGlobals "repr" = some none)
    (z_min : PySem.W.nsIn K mainGlobals "min" = some none) :
    ∃ fd : FuncData, (∀ (s : Shared) (v : Value), BindsTo s fd ⟨[v], []⟩ [("_law_script", v)]) ∧ ∀ base : Heap, K.In base → base.Ns mainGlobals mg → FnG l.prog w K mg base CX0 4 fa fd ["_law_script"] (spLaw K) := by
  have e := hfa.symm.trans (PySem.W.mg_of X G a_law)
  cases e
  let T : Txt K mg := {
    C_OffsideError := C_OffsideError, gC_OffsideError := PySem.W.mg_of X G gC_OffsideError, x_OffsideError := xcB_ok x_OffsideError,
    xi_OffsideError := xi_OffsideError, st_OffsideError := st_OffsideError,
    C_InvalidWord := C_InvalidWord, gC_InvalidWord := PySem.W.mg_of X G gC_InvalidWord, x_InvalidWord := xcB_ok x_InvalidWord,
    xi_InvalidWord := xi_InvalidWord, st_InvalidWord := st_InvalidWord,
    C_InvalidBook := C_InvalidBook, gC_InvalidBook := PySem.W.mg_of X G gC_InvalidBook, x_InvalidBook := xcB_ok x_InvalidBook,
    xi_InvalidBook := xi_InvalidBook, st_InvalidBook := st_InvalidBook,
    C_InvalidText := C_InvalidText, gC_InvalidText := PySem.W.mg_of X G gC_InvalidText, x_InvalidText := xcB_ok x_InvalidText,
    xi_InvalidText := xi_InvalidText, st_InvalidText := st_InvalidText,
    C_InvalidState := C_InvalidState, gC_InvalidState := PySem.W.mg_of X G gC_InvalidState, x_InvalidState := xcB_ok x_InvalidState,
    xi_InvalidState := xi_InvalidState, st_InvalidState := st_InvalidState,
    C_InvalidRow := C_InvalidRow, gC_InvalidRow := PySem.W.mg_of X G gC_InvalidRow, x_InvalidRow := xcB_ok x_InvalidRow,
    xi_InvalidRow := xi_InvalidRow, st_InvalidRow := st_InvalidRow,
    C_InvalidDemand := C_InvalidDemand, gC_InvalidDemand := PySem.W.mg_of X G gC_InvalidDemand, x_InvalidDemand := xcB_ok x_InvalidDemand,
    xi_InvalidDemand := xi_InvalidDemand, st_InvalidDemand := st_InvalidDemand,
    C_InvalidOperation := C_InvalidOperation, gC_InvalidOperation := PySem.W.mg_of X G gC_InvalidOperation, x_InvalidOperation := xcB_ok x_InvalidOperation,
    xi_InvalidOperation := xi_InvalidOperation, st_InvalidOperation := st_InvalidOperation,
    C_ParseError := C_ParseError, gC_ParseError := PySem.W.mg_of X G gC_ParseError, x_ParseError := xcB_ok x_ParseError,
    C_UnknownWord := C_UnknownWord, gC_UnknownWord := PySem.W.mg_of X G gC_UnknownWord, x_UnknownWord := xcB_ok x_UnknownWord,
    C_Impossible := C_Impossible, gC_Impossible := PySem.W.mg_of X G gC_Impossible, x_Impossible := xcB_ok x_Impossible,
    C_NothingToUndo := C_NothingToUndo, gC_NothingToUndo := PySem.W.mg_of X G gC_NothingToUndo, x_NothingToUndo := xcB_ok x_NothingToUndo,
    C_TooMany := C_TooMany, gC_TooMany := PySem.W.mg_of X G gC_TooMany, x_TooMany := xcB_ok x_TooMany,
    C_Refused := C_Refused, gC_Refused := PySem.W.mg_of X G gC_Refused, x_Refused := xcB_ok x_Refused,
    C_NoColumns := C_NoColumns, gC_NoColumns := PySem.W.mg_of X G gC_NoColumns, x_NoColumns := xcB_ok x_NoColumns,
    C_InvalidNumber := C_InvalidNumber, gC_InvalidNumber := PySem.W.mg_of X G gC_InvalidNumber, x_InvalidNumber := xcB_ok x_InvalidNumber,
    C_Broken := C_Broken, gC_Broken := PySem.W.mg_of X G gC_Broken, x_Broken := xcB_ok x_Broken,
    f_ParseError_init := f_ParseError_init, fd_ParseError_init := _, F_ParseError_init := fun_mk (st := s_ParseError_init) l_ParseError_init c_ParseError_init k_ParseError_init, b_ParseError_init := (fun_mk (st := s_ParseError_init) l_ParseError_init c_ParseError_init k_ParseError_init).binds (ps := ["self", "line"]) (fun _ _ _ _ _ _ us hl => match us, hl with | [_, _], _ => rfl),
    xi_ParseError := xi_ParseError, xo_ParseError := xo_ParseError, tk_ParseError := tk_ParseError, nf_ParseError := nf_ParseError, i_ParseError := a_ParseError_init, ti_ParseError := ti_ParseError,
    f_UnknownWord_init := f_UnknownWord_init, fd_UnknownWord_init := _, F_UnknownWord_init := fun_mk (st := s_UnknownWord_init) l_UnknownWord_init c_UnknownWord_init k_UnknownWord_init, b_UnknownWord_init := (fun_mk (st := s_UnknownWord_init) l_UnknownWord_init c_UnknownWord_init k_UnknownWord_init).binds (ps := ["self", "asked"]) (fun _ _ _ _ _ _ us hl => match us, hl with | [_, _], _ => rfl),
    xi_UnknownWord := xi_UnknownWord, xo_UnknownWord := xo_UnknownWord, tk_UnknownWord := tk_UnknownWord, nf_UnknownWord := nf_UnknownWord, i_UnknownWord := a_UnknownWord_init, ti_UnknownWord := ti_UnknownWord,
    f_Impossible_init := f_Impossible_init, fd_Impossible_init := _, F_Impossible_init := fun_mk (st := s_Impossible_init) l_Impossible_init c_Impossible_init k_Impossible_init, b_Impossible_init := (fun_mk (st := s_Impossible_init) l_Impossible_init c_Impossible_init k_Impossible_init).binds (ps := ["self", "index"]) (fun _ _ _ _ _ _ us hl => match us, hl with | [_, _], _ => rfl),
    xi_Impossible := xi_Impossible, xo_Impossible := xo_Impossible, tk_Impossible := tk_Impossible, nf_Impossible := nf_Impossible, i_Impossible := a_Impossible_init, ti_Impossible := ti_Impossible,
    f_NothingToUndo_init := f_NothingToUndo_init, fd_NothingToUndo_init := _, F_NothingToUndo_init := fun_mk (st := s_NothingToUndo_init) l_NothingToUndo_init c_NothingToUndo_init k_NothingToUndo_init, b_NothingToUndo_init := (fun_mk (st := s_NothingToUndo_init) l_NothingToUndo_init c_NothingToUndo_init k_NothingToUndo_init).binds (ps := ["self", "amount"]) (fun _ _ _ _ _ _ us hl => match us, hl with | [_, _], _ => rfl),
    xi_NothingToUndo := xi_NothingToUndo, xo_NothingToUndo := xo_NothingToUndo, tk_NothingToUndo := tk_NothingToUndo, nf_NothingToUndo := nf_NothingToUndo, i_NothingToUndo := a_NothingToUndo_init, ti_NothingToUndo := ti_NothingToUndo,
    f_TooMany_init := f_TooMany_init, fd_TooMany_init := _, F_TooMany_init := fun_mk (st := s_TooMany_init) l_TooMany_init c_TooMany_init k_TooMany_init, b_TooMany_init := (fun_mk (st := s_TooMany_init) l_TooMany_init c_TooMany_init k_TooMany_init).binds (ps := ["self", "limit"]) (fun _ _ _ _ _ _ us hl => match us, hl with | [_, _], _ => rfl),
    xi_TooMany := xi_TooMany, xo_TooMany := xo_TooMany, tk_TooMany := tk_TooMany, nf_TooMany := nf_TooMany, i_TooMany := a_TooMany_init, ti_TooMany := ti_TooMany,
    f_Refused_init := f_Refused_init, fd_Refused_init := _, F_Refused_init := fun_mk (st := s_Refused_init) l_Refused_init c_Refused_init k_Refused_init, b_Refused_init := (fun_mk (st := s_Refused_init) l_Refused_init c_Refused_init k_Refused_init).binds (ps := ["self", "cause"]) (fun _ _ _ _ _ _ us hl => match us, hl with | [_, _], _ => rfl),
    xi_Refused := xi_Refused, xo_Refused := xo_Refused, tk_Refused := tk_Refused, nf_Refused := nf_Refused, i_Refused := a_Refused_init, ti_Refused := ti_Refused,
    f_NoColumns_init := f_NoColumns_init, fd_NoColumns_init := _, F_NoColumns_init := fun_mk (st := s_NoColumns_init) l_NoColumns_init c_NoColumns_init k_NoColumns_init, b_NoColumns_init := (fun_mk (st := s_NoColumns_init) l_NoColumns_init c_NoColumns_init k_NoColumns_init).binds (ps := ["self", "total"]) (fun _ _ _ _ _ _ us hl => match us, hl with | [_, _], _ => rfl),
    xi_NoColumns := xi_NoColumns, xo_NoColumns := xo_NoColumns, tk_NoColumns := tk_NoColumns, nf_NoColumns := nf_NoColumns, i_NoColumns := a_NoColumns_init, ti_NoColumns := ti_NoColumns,
    f_InvalidNumber_init := f_InvalidNumber_init, fd_InvalidNumber_init := _, F_InvalidNumber_init := fun_mk (st := s_InvalidNumber_init) l_InvalidNumber_init c_InvalidNumber_init k_InvalidNumber_init, b_InvalidNumber_init := (fun_mk (st := s_InvalidNumber_init) l_InvalidNumber_init c_InvalidNumber_init k_InvalidNumber_init).binds (ps := ["self", "number"]) (fun _ _ _ _ _ _ us hl => match us, hl with | [_, _], _ => rfl),
    xi_InvalidNumber := xi_InvalidNumber, xo_InvalidNumber := xo_InvalidNumber, tk_InvalidNumber := tk_InvalidNumber, nf_InvalidNumber := nf_InvalidNumber, i_InvalidNumber := a_InvalidNumber_init, ti_InvalidNumber := ti_InvalidNumber,
    f_Broken_init := f_Broken_init, fd_Broken_init := _, F_Broken_init := fun_mk (st := s_Broken_init) l_Broken_init c_Broken_init k_Broken_init, b_Broken_init := (fun_mk (st := s_Broken_init) l_Broken_init c_Broken_init k_Broken_init).binds (ps := ["self", "index"]) (fun _ _ _ _ _ _ us hl => match us, hl with | [_, _], _ => rfl),
    xi_Broken := xi_Broken, xo_Broken := xo_Broken, tk_Broken := tk_Broken, nf_Broken := nf_Broken, i_Broken := a_Broken_init, ti_Broken := ti_Broken,
    f_dice := f_dice, fd_dice := _, F_dice := fun_mk (st := s_dice) l_dice c_dice k_dice, g_dice := PySem.W.mg_of X G a_dice, b_dice := (fun_mk (st := s_dice) l_dice c_dice k_dice).binds (ps := ["_law_script", "_law_spot"]) (fun _ _ _ _ _ _ us hl => match us, hl with | [_, _], _ => rfl),
    f_roll := f_roll, fd_roll := _, F_roll := fun_mk (st := s_roll) l_roll c_roll k_roll, g_roll := PySem.W.mg_of X G a_roll, b_roll := (fun_mk (st := s_roll) l_roll c_roll k_roll).binds (ps := ["_law_dice_here", "_law_total"]) (fun _ _ _ _ _ _ us hl => match us, hl with | [_, _], _ => rfl),
    f_pick := f_pick, fd_pick := _, F_pick := fun_mk (st := s_pick) l_pick c_pick k_pick, g_pick := PySem.W.mg_of X G a_pick, b_pick := (fun_mk (st := s_pick) l_pick c_pick k_pick).binds (ps := ["_law_dice_here", "_law_items"]) (fun _ _ _ _ _ _ us hl => match us, hl with | [_, _], _ => rfl),
    f_kinds := f_kinds, fd_kinds := _, F_kinds := fun_mk (st := s_kinds) l_kinds c_kinds k_kinds, g_kinds := PySem.W.mg_of X G a_kinds, b_kinds := (fun_mk (st := s_kinds) l_kinds c_kinds k_kinds).binds (ps := ["_law_error"]) (fun _ _ _ _ _ _ us hl => match us, hl with | [_], _ => rfl),
    f_others := f_others, fd_others := _, F_others := fun_mk (st := s_others) l_others c_others k_others, g_others := PySem.W.mg_of X G a_others, b_others := (fun_mk (st := s_others) l_others c_others k_others).binds (ps := ["_law_error"]) (fun _ _ _ _ _ _ us hl => match us, hl with | [_], _ => rfl),
    f_right := f_right, fd_right := _, F_right := fun_mk (st := s_right) l_right c_right k_right, g_right := PySem.W.mg_of X G a_right, b_right := (fun_mk (st := s_right) l_right c_right k_right).binds (ps := ["_law_dice_here"]) (fun _ _ _ _ _ _ us hl => match us, hl with | [_], _ => rfl),
    k1_OffsideError := k1_OffsideError,
    k1_InvalidWord := k1_InvalidWord,
    k1_InvalidBook := k1_InvalidBook,
    k1_InvalidText := k1_InvalidText,
    k1_InvalidState := k1_InvalidState,
    k1_InvalidRow := k1_InvalidRow,
    k1_InvalidDemand := k1_InvalidDemand,
    k1_InvalidOperation := k1_InvalidOperation,
    k1_ParseError := k1_ParseError,
    k1_UnknownWord := k1_UnknownWord,
    k1_Impossible := k1_Impossible,
    k1_NothingToUndo := k1_NothingToUndo,
    k1_TooMany := k1_TooMany,
    k1_Refused := k1_Refused,
    k1_NoColumns := k1_NoColumns,
    k1_InvalidNumber := k1_InvalidNumber,
    k1_Broken := k1_Broken,
    k2_OffsideError := k2_OffsideError,
    k2_InvalidWord := k2_InvalidWord,
    k2_InvalidBook := k2_InvalidBook,
    k2_InvalidText := k2_InvalidText,
    k2_InvalidState := k2_InvalidState,
    k2_InvalidRow := k2_InvalidRow,
    k2_InvalidDemand := k2_InvalidDemand,
    k2_InvalidOperation := k2_InvalidOperation,
    k2_ParseError := k2_ParseError,
    k2_UnknownWord := k2_UnknownWord,
    k2_Impossible := k2_Impossible,
    k2_NothingToUndo := k2_NothingToUndo,
    k2_TooMany := k2_TooMany,
    k2_Refused := k2_Refused,
    k2_NoColumns := k2_NoColumns,
    k2_InvalidNumber := k2_InvalidNumber,
    k2_Broken := k2_Broken,
    z_len := PySem.W.mg_none_of X G z_len,
    z_int := PySem.W.mg_none_of X G z_int,
    z_abs := PySem.W.mg_none_of X G z_abs,
    z_max := PySem.W.mg_none_of X G z_max,
    z_isinstance := PySem.W.mg_none_of X G z_isinstance,
    z_ValueError := PySem.W.mg_none_of X G z_ValueError,
    z_KeyError := PySem.W.mg_none_of X G z_KeyError,
    z_IndexError := PySem.W.mg_none_of X G z_IndexError,
    z_LookupError := PySem.W.mg_none_of X G z_LookupError,
    z_OverflowError := PySem.W.mg_none_of X G z_OverflowError,
    z_ArithmeticError := PySem.W.mg_none_of X G z_ArithmeticError,
    z_RuntimeError := PySem.W.mg_none_of X G z_RuntimeError,
    z_str := PySem.W.mg_none_of X G z_str,
    z_range := PySem.W.mg_none_of X G z_range,
    z_repr := PySem.W.mg_none_of X G z_repr,
    z_min := PySem.W.mg_none_of X G z_min }
  exact ⟨_, fun s v => .of_eq rfl, fun base _ _ => ok_law T (fun_mk (st := s_law) l_law c_law k_law)⟩
end My
open PySem PySem.W PyProof.Rows
set_option maxHeartbeats 0 in
theorem PySem.Challenge.cw_offside_k00_errors_and_what_they_keep_holds : PySem.Challenge.rw_offside_k00_errors_and_what_they_keep.Holds := by
  w_on; o_law; k_head; (case hw => w_witness2)
  k_fill
  refine My.walkG (l := PySem.Challenge.rw_offside_k00_errors_and_what_they_keep) (n := 63) (k := 4) (x := "_law_script") (CX := fun _ => L2.CX0) (sp := fun w => My.spLaw _) rfl (by decide) rfl ⟨rfl, by decide, by decide⟩ (fun w h Y => PySem.W.kIn_of Y) ?F (fun _ _ a ns hl _ hS => ⟨a, ns, rfl, hS, hl, fun _ => rfl⟩) (fun _ _ _ _ _ h => h)
  case F =>
    intro w mg fa h KX G hmg
    refine' My.all_mk KX G hmg ?gC_OffsideError ?x_OffsideError ?xi_OffsideError ?st_OffsideError ?gC_InvalidWord ?x_InvalidWord ?xi_InvalidWord ?st_InvalidWord ?gC_InvalidBook ?x_InvalidBook ?xi_InvalidBook ?st_InvalidBook ?gC_InvalidText ?x_InvalidText ?xi_InvalidText ?st_InvalidText ?gC_InvalidState ?x_InvalidState ?xi_InvalidState ?st_InvalidState ?gC_InvalidRow ?x_InvalidRow ?xi_InvalidRow ?st_InvalidRow ?gC_InvalidDemand ?x_InvalidDemand ?xi_InvalidDemand ?st_InvalidDemand ?gC_InvalidOperation ?x_InvalidOperation ?xi_InvalidOperation ?st_InvalidOperation ?gC_ParseError ?x_ParseError ?gC_UnknownWord ?x_UnknownWord ?gC_Impossible ?x_Impossible ?gC_NothingToUndo ?x_NothingToUndo ?gC_TooMany ?x_TooMany ?gC_Refused ?x_Refused ?gC_NoColumns ?x_NoColumns ?gC_InvalidNumber ?x_InvalidNumber ?gC_Broken ?x_Broken ?a_ParseError_init ?l_ParseError_init ?c_ParseError_init ?k_ParseError_init ?xi_ParseError ?xo_ParseError ?tk_ParseError ?nf_ParseError ?ti_ParseError ?a_UnknownWord_init ?l_UnknownWord_init ?c_UnknownWord_init ?k_UnknownWord_init ?xi_UnknownWord ?xo_UnknownWord ?tk_UnknownWord ?nf_UnknownWord ?ti_UnknownWord ?a_Impossible_init ?l_Impossible_init ?c_Impossible_init ?k_Impossible_init ?xi_Impossible ?xo_Impossible ?tk_Impossible ?nf_Impossible ?ti_Impossible ?a_NothingToUndo_init ?l_NothingToUndo_init ?c_NothingToUndo_init ?k_NothingToUndo_init ?xi_NothingToUndo ?xo_NothingToUndo ?tk_NothingToUndo ?nf_NothingToUndo ?ti_NothingToUndo ?a_TooMany_init ?l_TooMany_init ?c_TooMany_init ?k_TooMany_init ?xi_TooMany ?xo_TooMany ?tk_TooMany ?nf_TooMany ?ti_TooMany ?a_Refused_init ?l_Refused_init ?c_Refused_init ?k_Refused_init ?xi_Refused ?xo_Refused ?tk_Refused ?nf_Refused ?ti_Refused ?a_NoColumns_init ?l_NoColumns_init ?c_NoColumns_init ?k_NoColumns_init ?xi_NoColumns ?xo_NoColumns ?tk_NoColumns ?nf_NoColumns ?ti_NoColumns ?a_InvalidNumber_init ?l_InvalidNumber_init ?c_InvalidNumber_init ?k_InvalidNumber_init ?xi_InvalidNumber ?xo_InvalidNumber ?tk_InvalidNumber ?nf_InvalidNumber ?ti_InvalidNumber ?a_Broken_init ?l_Broken_init ?c_Broken_init ?k_Broken_init ?xi_Broken ?xo_Broken ?tk_Broken ?nf_Broken ?ti_Broken ?a_dice ?l_dice ?c_dice ?k_dice ?a_roll ?l_roll ?c_roll ?k_roll ?a_pick ?l_pick ?c_pick ?k_pick ?a_kinds ?l_kinds ?c_kinds ?k_kinds ?a_others ?l_others ?c_others ?k_others ?a_right ?l_right ?c_right ?k_right ?a_law ?l_law ?c_law ?k_law ?k1_OffsideError ?k1_InvalidWord ?k1_InvalidBook ?k1_InvalidText ?k1_InvalidState ?k1_InvalidRow ?k1_InvalidDemand ?k1_InvalidOperation ?k1_ParseError ?k1_UnknownWord ?k1_Impossible ?k1_NothingToUndo ?k1_TooMany ?k1_Refused ?k1_NoColumns ?k1_InvalidNumber ?k1_Broken ?k2_OffsideError ?k2_InvalidWord ?k2_InvalidBook ?k2_InvalidText ?k2_InvalidState ?k2_InvalidRow ?k2_InvalidDemand ?k2_InvalidOperation ?k2_ParseError ?k2_UnknownWord ?k2_Impossible ?k2_NothingToUndo ?k2_TooMany ?k2_Refused ?k2_NoColumns ?k2_InvalidNumber ?k2_Broken ?z_len ?z_int ?z_abs ?z_max ?z_isinstance ?z_ValueError ?z_KeyError ?z_IndexError ?z_LookupError ?z_OverflowError ?z_ArithmeticError ?z_RuntimeError ?z_str ?z_range ?z_repr ?z_min
    (case gC_OffsideError => k_is); (case x_OffsideError => kernel_rfl); (case xi_OffsideError => kernel_rfl); (case st_OffsideError => k_is); (case gC_InvalidWord => k_is); (case x_InvalidWord => kernel_rfl); (case xi_InvalidWord => kernel_rfl); (case st_InvalidWord => k_is); (case gC_InvalidBook => k_is); (case x_InvalidBook => kernel_rfl); (case xi_InvalidBook => kernel_rfl); (case st_InvalidBook => k_is); (case gC_InvalidText => k_is); (case x_InvalidText => kernel_rfl); (case xi_InvalidText => kernel_rfl); (case st_InvalidText => k_is); (case gC_InvalidState => k_is); (case x_InvalidState => kernel_rfl); (case xi_InvalidState => kernel_rfl); (case st_InvalidState => k_is); (case gC_InvalidRow => k_is); (case x_InvalidRow => kernel_rfl); (case xi_InvalidRow => kernel_rfl); (case st_InvalidRow => k_is); (case gC_InvalidDemand => k_is); (case x_InvalidDemand => kernel_rfl); (case xi_InvalidDemand => kernel_rfl); (case st_InvalidDemand => k_is); (case gC_InvalidOperation => k_is); (case x_InvalidOperation => kernel_rfl); (case xi_InvalidOperation => kernel_rfl); (case st_InvalidOperation => k_is); (case gC_ParseError => k_is); (case x_ParseError => kernel_rfl); (case gC_UnknownWord => k_is); (case x_UnknownWord => kernel_rfl); (case gC_Impossible => k_is); (case x_Impossible => kernel_rfl); (case gC_NothingToUndo => k_is); (case x_NothingToUndo => kernel_rfl); (case gC_TooMany => k_is); (case x_TooMany => kernel_rfl); (case gC_Refused => k_is); (case x_Refused => kernel_rfl); (case gC_NoColumns => k_is); (case x_NoColumns => kernel_rfl); (case gC_InvalidNumber => k_is); (case x_InvalidNumber => kernel_rfl); (case gC_Broken => k_is); (case x_Broken => kernel_rfl); (case a_ParseError_init => k_is); (case l_ParseError_init => k_is); (case c_ParseError_init => k_is); (case k_ParseError_init => k_is); (case xi_ParseError => kernel_rfl); (case xo_ParseError => kernel_rfl); (case tk_ParseError => k_is); (case nf_ParseError => k_is); (case ti_ParseError => k_is); (case a_UnknownWord_init => k_is); (case l_UnknownWord_init => k_is); (case c_UnknownWord_init => k_is); (case k_UnknownWord_init => k_is); (case xi_UnknownWord => kernel_rfl); (case xo_UnknownWord => kernel_rfl); (case tk_UnknownWord => k_is); (case nf_UnknownWord => k_is); (case ti_UnknownWord => k_is); (case a_Impossible_init => k_is); (case l_Impossible_init => k_is); (case c_Impossible_init => k_is); (case k_Impossible_init => k_is); (case xi_Impossible => kernel_rfl); (case xo_Impossible => kernel_rfl); (case tk_Impossible => k_is); (case nf_Impossible => k_is); (case ti_Impossible => k_is); (case a_NothingToUndo_init => k_is); (case l_NothingToUndo_init => k_is); (case c_NothingToUndo_init => k_is); (case k_NothingToUndo_init => k_is); (case xi_NothingToUndo => kernel_rfl); (case xo_NothingToUndo => kernel_rfl); (case tk_NothingToUndo => k_is); (case nf_NothingToUndo => k_is); (case ti_NothingToUndo => k_is); (case a_TooMany_init => k_is); (case l_TooMany_init => k_is); (case c_TooMany_init => k_is); (case k_TooMany_init => k_is); (case xi_TooMany => kernel_rfl); (case xo_TooMany => kernel_rfl); (case tk_TooMany => k_is); (case nf_TooMany => k_is); (case ti_TooMany => k_is); (case a_Refused_init => k_is); (case l_Refused_init => k_is); (case c_Refused_init => k_is); (case k_Refused_init => k_is); (case xi_Refused => kernel_rfl); (case xo_Refused => kernel_rfl); (case tk_Refused => k_is); (case nf_Refused => k_is); (case ti_Refused => k_is); (case a_NoColumns_init => k_is); (case l_NoColumns_init => k_is); (case c_NoColumns_init => k_is); (case k_NoColumns_init => k_is); (case xi_NoColumns => kernel_rfl); (case xo_NoColumns => kernel_rfl); (case tk_NoColumns => k_is); (case nf_NoColumns => k_is); (case ti_NoColumns => k_is); (case a_InvalidNumber_init => k_is); (case l_InvalidNumber_init => k_is); (case c_InvalidNumber_init => k_is); (case k_InvalidNumber_init => k_is); (case xi_InvalidNumber => kernel_rfl); (case xo_InvalidNumber => kernel_rfl); (case tk_InvalidNumber => k_is); (case nf_InvalidNumber => k_is); (case ti_InvalidNumber => k_is); (case a_Broken_init => k_is); (case l_Broken_init => k_is); (case c_Broken_init => k_is); (case k_Broken_init => k_is); (case xi_Broken => kernel_rfl); (case xo_Broken => kernel_rfl); (case tk_Broken => k_is); (case nf_Broken => k_is); (case ti_Broken => k_is); (case a_dice => k_is); (case l_dice => k_is); (case c_dice => k_is); (case k_dice => k_is); (case a_roll => k_is); (case l_roll => k_is); (case c_roll => k_is); (case k_roll => k_is); (case a_pick => k_is); (case l_pick => k_is); (case c_pick => k_is); (case k_pick => k_is); (case a_kinds => k_is); (case l_kinds => k_is); (case c_kinds => k_is); (case k_kinds => k_is); (case a_others => k_is); (case l_others => k_is); (case c_others => k_is); (case k_others => k_is); (case a_right => k_is); (case l_right => k_is); (case c_right => k_is); (case k_right => k_is); (case a_law => k_is); (case l_law => k_is); (case c_law => k_is); (case k_law => k_is); (case k1_OffsideError => kernel_rfl); (case k1_InvalidWord => kernel_rfl); (case k1_InvalidBook => kernel_rfl); (case k1_InvalidText => kernel_rfl); (case k1_InvalidState => kernel_rfl); (case k1_InvalidRow => kernel_rfl); (case k1_InvalidDemand => kernel_rfl); (case k1_InvalidOperation => kernel_rfl); (case k1_ParseError => kernel_rfl); (case k1_UnknownWord => kernel_rfl); (case k1_Impossible => kernel_rfl); (case k1_NothingToUndo => kernel_rfl); (case k1_TooMany => kernel_rfl); (case k1_Refused => kernel_rfl); (case k1_NoColumns => kernel_rfl); (case k1_InvalidNumber => kernel_rfl); (case k1_Broken => kernel_rfl); (case k2_OffsideError => kernel_rfl); (case k2_InvalidWord => kernel_rfl); (case k2_InvalidBook => kernel_rfl); (case k2_InvalidText => kernel_rfl); (case k2_InvalidState => kernel_rfl); (case k2_InvalidRow => kernel_rfl); (case k2_InvalidDemand => kernel_rfl); (case k2_InvalidOperation => kernel_rfl); (case k2_ParseError => kernel_rfl); (case k2_UnknownWord => kernel_rfl); (case k2_Impossible => kernel_rfl); (case k2_NothingToUndo => kernel_rfl); (case k2_TooMany => kernel_rfl); (case k2_Refused => kernel_rfl); (case k2_NoColumns => kernel_rfl); (case k2_InvalidNumber => kernel_rfl); (case k2_Broken => kernel_rfl); (case z_len => k_is); (case z_int => k_is); (case z_abs => k_is); (case z_max => k_is); (case z_isinstance => k_is); (case z_ValueError => k_is); (case z_KeyError => k_is); (case z_IndexError => k_is); (case z_LookupError => k_is); (case z_OverflowError => k_is); (case z_ArithmeticError => k_is); (case z_RuntimeError => k_is); (case z_str => k_is); (case z_range => k_is); (case z_repr => k_is); (case z_min => k_is)

