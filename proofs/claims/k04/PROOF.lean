import PyProof.Rows.All
import HandS.Base
import HandS.Call
import HandS.List
import HandS.Comp
import HandS.Ends
import HandS.Words
import HandS.WordsList
import HandS.Text
import HandS.StrMore
import HandS.Iter
import HandS.Walk
import HandS.IsInst
import HandS.Conv
import HandS.Dict
import HandS.NoneIn
import HandS.More
import HandS.Deep
import HandS.TupMul
import HandS.Style
import HandS.TupAny
import HandS.Evl
import KE.KDictCopyH
import PyProof.ReprRoads
import PyProof.ReprReads
import PySem.Challenge.RW_offside_k04_signs_judged
set_option Elab.async false
set_option linter.all false
set_option maxRecDepth 100000
set_option maxHeartbeats 4000000
--HEADEND
namespace My
open PySem PySem.Spec PyProof.Rows L2
/-! ### rules that the layer lacks, and its own with their readings named -/
/-- the one-sign texts of a list of signs -/
def sg (cs : List Nat) : List V := cs.map fun c => .str ⟨#[c]⟩
section
variable {X : Cx}
def wListS : List V → Hp → VK → Prop := fun xs H Q => ∃ z : Str, xs = [.str z] ∧ z.length ≤ sizeLine ∧ ∀ l, H l = none → Q (.ref l) (upd H l (.lst (sg z.cps.toList)))
theorem c_listS (hc : X.calm = true) : CallR X (.type "list") wListS := by
  intro pins s σ H xs us Q I r h
  obtain ⟨z, rfl, hz, q⟩ := h
  obtain ⟨u, rfl, t, rfl⟩ := vals1 r
  refine call_list_str (I.ok.hd hc) z t (fun h' tk acc' c' hkeep hS hacc => ?_) hz
  refine ⟨.ref s.heap.objs.size, upd H s.heap.objs.size (.lst (sg z.cps.toList)), I.laid hkeep (Nat.le_refl _) (show ObjOk X.prog X.w _ _ _ (.lst (sg z.cps.toList)) from ⟨?_, acc'.toList, c', ?_, ?_⟩), rfl, q _ (I.hok.fresh (Nat.le_refl _))⟩
  · unfold sg
    rw [List.length_map, Array.length_toList]
    exact hz
  · refine vals_of_at (by unfold sg; rw [List.length_map, Array.length_toList, Array.length_toList, hacc.1]) fun j x w h1 h2 => ?_
    obtain ⟨c, u, hc1, e⟩ := hacc.2 j w (by rw [← Array.getElem?_toList]; exact h2)
    unfold sg at h1
    rw [List.getElem?_map, Array.getElem?_toList, hc1] at h1
    cases h1
    exact ⟨u, e⟩
  · rw [Array.toArray_toList]
    exact hS
theorem op_powW : OpR X (binaryOp .Pow) (rI (fun i j => 0 ≤ j ∧ (Builtin.Int.intBits i : Int) * j ≤ 2 ^ 27) fun i j => .int (i ^ j.toNat)) := opI fun _ _ _ _ _ _ _ hc q => pow_int hc.1 hc.2 q
def wReprB : List V → Hp → VK → Prop := fun xs H Q => ∃ b, xs = [.bl b] ∧ Q (.str (if b then "True" else "False")) H
theorem call_repr_bl : CallR X (.builtin "repr") wReprB := by
  intro pins s σ H xs us Q I r h
  obtain ⟨b, rfl, q⟩ := h
  obtain ⟨u, rfl, rx⟩ := vals1 r
  cases rx
  exact PySem.P.repr_of_bool ⟨.str _, H, I.tok _, ⟨_, rfl⟩, q⟩
def wInt1 : List V → Hp → VK → Prop := fun xs H Q => (∃ i, xs = [.int i] ∧ Q (.int i) H) ∨ ∃ k, xs = [.bl k] ∧ Q (.int (if k then 1 else 0)) H
theorem c_int1 : CallR X (.type "int") wInt1 := call_int1
def wAbs : List V → Hp → VK → Prop := fun xs H Q => ∃ i, xs = [.int i] ∧ Q (.int (if i < 0 then -i else i)) H
theorem c_abs : CallR X (.builtin "abs") wAbs := call_abs
def wMax2 : List V → Hp → VK → Prop := fun xs H Q => ∃ i j, xs = [.int i, .int j] ∧ Q (.int (if j > i then j else i)) H
theorem c_max2 (hc : X.calm = true) : CallR X (.builtin "max") wMax2 := call_max2 hc
def wMin2 : List V → Hp → VK → Prop := fun xs H Q => ∃ i j, xs = [.int i, .int j] ∧ Q (.int (if j < i then j else i)) H
theorem c_min2 (hc : X.calm = true) : CallR X (.builtin "min") wMin2 := call_min2 hc
def wLenS (K : PySem.W.Frag) : List V → Hp → VK → Prop := fun xs H Q => ∃ p ys, xs = [.ref p] ∧ (SqL K H p ys ∨ SqT K H p ys) ∧ Q (.int (ys.length : Int)) H
theorem c_len {K : PySem.W.Frag} (hK : X.K = K := by rfl) : CallR X (.builtin "len") (wLenS K) := by
  subst hK
  exact call_len_seq
def wLenT : List V → Hp → VK → Prop := fun xs H Q => ∃ z, xs = [.str z] ∧ z.length ≤ sizeLine ∧ Q (.int (z.length : Int)) H
theorem c_lenT : CallR X (.builtin "len") wLenT := call_len_str
def wListOf (K : PySem.W.Frag) : List V → Hp → VK → Prop := fun xs H Q => ∃ p ys, xs = [.ref p] ∧ (SqL K H p ys ∨ SqT K H p ys) ∧ ∀ l, H l = none → Q (.ref l) (upd H l (.lst ys))
theorem c_list {K : PySem.W.Frag} (hK : X.K = K := by rfl) : CallR X (.type "list") (wListOf K) := by
  subst hK
  exact call_list_of
def wTupleOf (K : PySem.W.Frag) : List V → Hp → VK → Prop := fun xs H Q => ∃ p ys, xs = [.ref p] ∧ ((SqL K H p ys ∧ ∀ l, H l = none → Q (.ref l) (upd H l (.tup ys))) ∨ (SqT K H p ys ∧ Q (.ref p) H))
theorem c_tuple {K : PySem.W.Frag} (hK : X.K = K := by rfl) : CallR X (.type "tuple") (wTupleOf K) := by
  subst hK
  exact call_tuple_of
def wStrB (f : Str → Bool) : V → List V → Hp → VK → Prop := fun x xs H Q => ∃ a, x = .str a ∧ xs = [] ∧ True ∧ Q (.bl (f a)) H
theorem c_isascii : MtR X "str.isascii" (wStrB Txt.isascii) := mt_isascii
theorem c_isalpha : MtR X "str.isalpha" (wStrB Txt.isalpha) := mt_isalpha
theorem c_islower : MtR X "str.islower" (wStrB Txt.islower) := mt_islower
def wAddS : R2 := fun x y H Q => ∃ i j, x = .str i ∧ y = .str j ∧ i.length + j.length ≤ sizeLine ∧ Q (.str (i ++ j)) H
theorem o_adds : OpR X (binaryOp .Add) wAddS := op_add_str
def wNotInC : R2 := fun x y H Q => ∃ (c : Nat) (z : Str), x = .str ⟨#[c]⟩ ∧ y = .str z ∧ Q (.bl (!decide (c ∈ z.cps.toList))) H
theorem o_notInC : OpR X (compareOp .NotIn) wNotInC := op_notIn_sign
def wJoin (K : PySem.W.Frag) : V → List V → Hp → VK → Prop := fun x xs H Q => ∃ a p, ∃ ys : List Str, x = .str a ∧ xs = [.ref p] ∧ (SqL K H p (ys.map V.str) ∨ SqT K H p (ys.map V.str)) ∧
    (ys.map (·.length)).sum + ys.length * a.length ≤ 16777216 ∧ Q (.str (Txt.join a ys)) H
def wInsert : V → List V → Hp → VK → Prop := fun x vs H Q => ∃ (l : Addr) (xs : List V) (i : Int) (y : V), x = .ref l ∧ vs = [.int i, y] ∧ H l = some (.lst xs) ∧ xs.length < sizeLine ∧ 0 ≤ i ∧ i < 2 ^ 63 ∧
    Q .non (upd H l (.lst (xs.take i.toNat ++ [y] ++ xs.drop i.toNat)))
theorem c_insert : MtR X "list.insert" wInsert := mt_insert
theorem c_join {K : PySem.W.Frag} (hK : X.K = K := by rfl) : MtR X "str.join" (wJoin K) := by
  subst hK
  exact mt_join
theorem c_isi {K : PySem.W.Frag} (hK : X.K = K := by rfl) : CallR X (.builtin "isinstance") (rIsi K) := by
  subst hK
  exact call_isi
theorem o_eqD {K : PySem.W.Frag} (hu : X.A.units + 64 < cLine) (hK : X.K = K := by rfl) : OpR X (compareOp .Eq) (rEqD K) := by
  subst hK
  exact op_eqD hu
theorem o_neD {K : PySem.W.Frag} (hu : X.A.units + 64 < cLine) (hK : X.K = K := by rfl) : OpR X (compareOp .NotEq) (rNeD K) := by
  subst hK
  exact op_neD hu
theorem o_inD {K : PySem.W.Frag} (hu : X.A.units + 65 < cLine) (hK : X.K = K := by rfl) : OpR X (compareOp .In) (rInD K) := by
  subst hK
  exact op_inD hu
theorem o_notInD {K : PySem.W.Frag} (hu : X.A.units + 65 < cLine) (hK : X.K = K := by rfl) : OpR X (compareOp .NotIn) (rNotInD K) := by
  subst hK
  exact op_notInD hu
theorem hu65 {k : Nat} {A : Around} (hr : Room k A) : A.units + 65 < cLine := by
  have := hr.un
  omega
theorem o_inL {K : PySem.W.Frag} (hK : X.K = K := by rfl) : OpR X (compareOp .In) (rIn K false) := by
  subst hK
  exact op_in_seq
theorem o_notInL {K : PySem.W.Frag} (hK : X.K = K := by rfl) : OpR X (compareOp .NotIn) (rIn K true) := by
  subst hK
  exact op_notIn_seq
theorem i_list {K : PySem.W.Frag} (hK : X.K = K := by rfl) : IxR X (rIxL K) := by
  subst hK
  exact ix_list
theorem i_tup {K : PySem.W.Frag} (hK : X.K = K := by rfl) : IxR X (rIxT K) := by
  subst hK
  exact ix_tup
theorem s_list {K : PySem.W.Frag} (hK : X.K = K := by rfl) : SlR X (rSlL K) := by
  subst hK
  exact sl_list
theorem p_list {K : PySem.W.Frag} {tg l : Expr} {tl : TE} (hl : PE X l tl) (hK : X.K = K := by rfl) : PI X tg l (iList K tl) := by
  subst hK
  exact pi_list hl
theorem p_tup {K : PySem.W.Frag} {tg l : Expr} {tl : TE} (hl : PE X l tl) (hK : X.K = K := by rfl) : PI X tg l (iTup K tl) := by
  subst hK
  exact pi_tup hl
theorem c_all {K : PySem.W.Frag} (hc : X.calm = true) (hK : X.K = K := by rfl) : CallR X (.builtin "all") (rAll K) := by
  subst hK
  exact cr_all hc
theorem e_bm0 {K : PySem.W.Frag} {T id : String} {name : Str} {r : V → List V → Hp → VK → Prop} {o : Expr} {to : TE} {apos cpos : Pos} (pa : PlainAttrs T) (slot : Slot T name id) (hty : typeOf (.builtin id) = pure (.type "method_descriptor")) (hm : MtR X id r) (ho : PE X o to) (hK : X.K = K := by rfl)
    (hbase : attributeBase o name X.env (eval o X.env) = eval o X.env := by rfl) (hline : (apos.endLine == cpos.line) = true := by rfl) : PE X (.Call (.Attribute o name apos) [] [] cpos) (tBM0 K T r to) := by
  subst hK
  exact pe_bm0 pa slot hty hm ho hbase hline
theorem e_bm {K : PySem.W.Frag} {T id : String} {name : Str} {r : V → List V → Hp → VK → Prop} {o e : Expr} {es : List Expr} {to : TE} {t : TA} {apos cpos : Pos} (pa : PlainAttrs T) (slot : Slot T name id) (hty : typeOf (.builtin id) = pure (.type "method_descriptor")) (hm : MtR X id r) (ho : PE X o to) (ha : PA X (e :: es) t) (hK : X.K = K := by rfl)
    (hbase : attributeBase o name X.env (eval o X.env) = eval o X.env := by rfl)
    (hfew : ((backTo cpos (starEach (e :: es) X.env)).all (fun x => !x.1) && (backToKw cpos (keywordEach [] X.env)).all (fun x => x.1.isSome)
      && decide ((e :: es).length + ([] : List Keyword).length + (if ([] : List Keyword).isEmpty then 0 else 1) < 30)) = true := by rfl)
    (hline : (apos.endLine == cpos.line) = true := by rfl) (hs : starEach (e :: es) X.env = (false, eval e X.env) :: starEach es X.env := by rfl) (hplain : (backTo cpos (starEach es X.env)).any (·.1) = false := by rfl) :
    PE X (.Call (.Attribute o name apos) (e :: es) [] cpos) (tBM K T r to t) := by
  subst hK
  exact pe_bm pa slot hty hm ho ha hbase hfew hline hs hplain
end
/-! ### steps of a reading -/
section
variable {K : PySem.W.Frag} {σ : L2.St} {H : Hp} {D : Ends}
theorem r_var {i : Nat} {v : V} {Q : VK} (h : σ[i]? = some (some v)) (q : Q v H) : tVar i σ H Q := ⟨v, h, q⟩
theorem r_c {v : V} {Q : VK} (q : Q v H) : tC v σ H Q := q
theorem r_op {r : R2} {ta tb : TE} {Q : VK} (q : ta σ H fun x H1 => tb σ H1 fun y H2 => r x y H2 Q) : tOp r ta tb σ H Q := q
theorem r_un {r : V → Hp → VK → Prop} {ta : TE} {Q : VK} (q : ta σ H fun x H1 => r x H1 Q) : tUn r ta σ H Q := q
theorem r_I0 {g : Int → Int → V} {i j : Int} {Q : VK} (q : Q (g i j) H) : rI0 g (.int i) (.int j) H Q := ⟨i, j, rfl, rfl, q⟩
theorem r_I {C : Int → Int → Prop} {g : Int → Int → V} {i j : Int} {Q : VK} (hc : C i j) (q : Q (g i j) H) : rI C g (.int i) (.int j) H Q := ⟨i, j, rfl, rfl, hc, q⟩
theorem r_U {g : Int → V} {i : Int} {Q : VK} (q : Q (g i) H) : rU g (.int i) H Q := ⟨i, rfl, q⟩
theorem r_eq {x y : V} {Q : VK} (hs : scal x y = true) (q : Q (.bl (decide (x = y))) H) : rEq x y H Q := ⟨hs, q⟩
theorem r_ne {x y : V} {Q : VK} (hs : scal x y = true) (q : Q (.bl (!decide (x = y))) H) : rNe x y H Q := ⟨hs, q⟩
theorem r_nil {Q : List V → Hp → Prop} (q : Q [] H) : tNil σ H Q := q
theorem r_cons {ta : TE} {tr : TA} {Q : List V → Hp → Prop} (q : ta σ H fun x H1 => tr σ H1 fun xs H2 => Q (x :: xs) H2) : tCons ta tr σ H Q := q
theorem r_cb {r : List V → Hp → VK → Prop} {t : TA} {Q : VK} (q : t σ H fun vs H1 => r vs H1 Q) : tCB r t σ H Q := q
theorem r_call {sp : Sp} {dvs : List V} {E : XK} {t : TA} {Q : VK} (q : t σ H fun vs H1 => sp (vs ++ dvs) H1 Q E) : tCall sp dvs E t σ H Q := q
theorem r_tup {t : TA} {Q : VK} (q : t σ H fun xs H1 => xs.length ≤ sizeLine ∧ ∀ p, H1 p = none → Q (.ref p) (upd H1 p (.tup xs))) : tTup t σ H Q := q
theorem r_lst {t : TA} {Q : VK} (q : t σ H fun xs H1 => xs.length ≤ sizeLine ∧ ∀ p, H1 p = none → Q (.ref p) (upd H1 p (.lst xs))) : tLst t σ H Q := q
theorem r_seq {t u : TS} (q : t { D with nx := u D } σ H) : tSeq t u D σ H := q
theorem r_next (q : D.nx σ H) : tNext D σ H := q
theorem r_asg {te : TE} {g : TG} (q : te σ H fun x H1 => g x σ H1 D.nx) : tAsg te g D σ H := q
theorem r_name {i : Nat} {x : V} {k : L2.St → Hp → Prop} (q : k (σ.set i (some x)) H) : gName i x σ H k := q
theorem r_sub {to ti : TE} {t : TSet} {v : V} {k : L2.St → Hp → Prop} (q : to σ H fun o H1 => ti σ H1 fun i H2 => t o i v H2 fun H3 => k σ H3) : gSub to ti t v σ H k := q
theorem r_setL {p : Addr} {xs : List V} {i : Int} {j : Nat} {v : V} {k : Hp → Prop} (h : H p = some (.lst xs)) (hi : ixN xs.length i = some j) (q : k (upd H p (.lst (xs.set j v)))) : rSetL (.ref p) (.int i) v H k := ⟨p, xs, i, j, rfl, rfl, h, hi, q⟩
theorem r_ifs {c : TT} {t u : TS} (q : c σ H fun b H1 => if b = true then t D σ H1 else u D σ H1) : tIfS c t u D σ H := q
theorem r_ret {te : TE} (q : te σ H D.rt) : tRet te D σ H := q
theorem r_drop {te : TE} (q : te σ H fun _ H1 => D.nx σ H1) : tDrop te D σ H := q
theorem r_test {t : TE} {Q : Bool → Hp → Prop} (q : t σ H fun x H' => ∃ k, x = .bl k ∧ Q k H') : tTest t σ H Q := q
theorem r_B {t : TE} {Q : Bool → Hp → Prop} (q : t σ H fun x H' => ∃ k, x = .bl k ∧ Q k H') : tB t σ H Q := q
theorem r_not {t : TT} {Q : Bool → Hp → Prop} (q : t σ H fun c H1 => Q (!c) H1) : tNot t σ H Q := q
theorem r_and {t u : TT} {Q : Bool → Hp → Prop} (q : t σ H fun c H1 => if c = true then u σ H1 Q else Q false H1) : tAnd t u σ H Q := q
theorem r_or {t u : TT} {Q : Bool → Hp → Prop} (q : t σ H fun c H1 => if c = true then Q true H1 else u σ H1 Q) : tOr t u σ H Q := q
theorem r_notV {ta : TE} {Q : VK} (q : ta σ H fun x H1 => ∃ c, x = .bl c ∧ Q (.bl (!c)) H1) : tNotV ta σ H Q := q
theorem r_andV {ta tb : TE} {Q : VK} (q : ta σ H fun x H1 => ∃ c, x = .bl c ∧ if c = true then tb σ H1 Q else Q (.bl false) H1) : tAndV ta tb σ H Q := q
theorem r_orV {ta tb : TE} {Q : VK} (q : ta σ H fun x H1 => ∃ c, x = .bl c ∧ if c = true then Q (.bl true) H1 else tb σ H1 Q) : tOrV ta tb σ H Q := q
theorem r_if {t : TT} {ta tb : TE} {Q : VK} (q : t σ H fun c H1 => if c = true then ta σ H1 Q else tb σ H1 Q) : tIf t ta tb σ H Q := q
theorem r_chain {r r' : R2} {ta tb tc : TE} {Q : VK} (q : ta σ H fun x H1 => tb σ H1 fun y H2 => r x y H2 fun z H3 => ∃ k, z = .bl k ∧ (if k = true then tc σ H3 fun w' H4 => r' y w' H4 Q else Q (.bl false) H3)) : tChain r r' ta tb tc σ H Q := q
theorem r_bl {b : Bool} {P : Bool → Prop} (q : P b) : ∃ k, V.bl b = V.bl k ∧ P k := ⟨b, rfl, q⟩
theorem r_ixL {p : Addr} {xs : List V} {i : Int} {v : V} {Q : VK} (h : H p = some (.lst xs)) (ha : atI xs i = some v) (q : Q v H) : rIxL K (.ref p) (.int i) H Q := ⟨p, xs, i, v, rfl, rfl, .inl (.inl h), ha, q⟩
theorem r_ixT {p : Addr} {xs : List V} {i : Int} {v : V} {Q : VK} (h : H p = some (.tup xs)) (ha : atI xs i = some v) (q : Q v H) : rIxT K (.ref p) (.int i) H Q := ⟨p, xs, i, v, rfl, rfl, .inl (.inl h), ha, q⟩
theorem r_int1 {i : Int} {Q : VK} (q : Q (.int i) H) : wInt1 [.int i] H Q := .inl ⟨i, rfl, q⟩
theorem r_int1b {b : Bool} {Q : VK} (q : Q (.int (if b then 1 else 0)) H) : wInt1 [.bl b] H Q := .inr ⟨b, rfl, q⟩
theorem r_abs {i : Int} {Q : VK} (q : Q (.int (if i < 0 then -i else i)) H) : wAbs [.int i] H Q := ⟨i, rfl, q⟩
theorem r_max2 {i j : Int} {Q : VK} (q : Q (.int (if j > i then j else i)) H) : wMax2 [.int i, .int j] H Q := ⟨i, j, rfl, q⟩
theorem r_min2 {i j : Int} {Q : VK} (q : Q (.int (if j < i then j else i)) H) : wMin2 [.int i, .int j] H Q := ⟨i, j, rfl, q⟩
theorem r_lenL {p : Addr} {ys : List V} {Q : VK} (h : H p = some (.lst ys)) (q : Q (.int (ys.length : Int)) H) : wLenS K [.ref p] H Q := ⟨p, ys, rfl, .inl (.inl (.inl h)), q⟩
theorem r_lenTp {p : Addr} {ys : List V} {Q : VK} (h : H p = some (.tup ys)) (q : Q (.int (ys.length : Int)) H) : wLenS K [.ref p] H Q := ⟨p, ys, rfl, .inr (.inl (.inl h)), q⟩
theorem r_lenT {z : Str} {Q : VK} (h : z.length ≤ sizeLine) (q : Q (.int (z.length : Int)) H) : wLenT [.str z] H Q := ⟨z, rfl, h, q⟩
theorem r_listL {p : Addr} {ys : List V} {Q : VK} (h : H p = some (.lst ys)) (q : ∀ l, H l = none → Q (.ref l) (upd H l (.lst ys))) : wListOf K [.ref p] H Q := ⟨p, ys, rfl, .inl (.inl (.inl h)), q⟩
theorem r_listS {z : Str} {Q : VK} (h : z.length ≤ sizeLine) (q : ∀ l, H l = none → Q (.ref l) (upd H l (.lst (sg z.cps.toList)))) : wListS [.str z] H Q := ⟨z, rfl, h, q⟩
theorem r_tupleL {p : Addr} {ys : List V} {Q : VK} (h : H p = some (.lst ys)) (q : ∀ l, H l = none → Q (.ref l) (upd H l (.tup ys))) : wTupleOf K [.ref p] H Q := ⟨p, ys, rfl, .inl ⟨.inl (.inl h), q⟩⟩
theorem r_reprB {b : Bool} {Q : VK} (q : Q (.str (if b then "True" else "False")) H) : wReprB [.bl b] H Q := ⟨b, rfl, q⟩
theorem r_bm {T : String} {r : V → List V → Hp → VK → Prop} {to : TE} {t : TA} {Q : VK} (q : to σ H fun x H1 => tyV K T x H1 ∧ t σ H1 fun xs H2 => r x xs H2 Q) : tBM K T r to t σ H Q := q
theorem r_bm0 {T : String} {r : V → List V → Hp → VK → Prop} {to : TE} {Q : VK} (q : to σ H fun x H1 => tyV K T x H1 ∧ r x [] H1 Q) : tBM0 K T r to σ H Q := q
theorem r_tyL {p : Addr} {xs : List V} {P : Prop} (h : H p = some (.lst xs)) (q : P) : tyV K "list" (.ref p) H ∧ P := ⟨.inl ⟨rfl, _, .inl (.inl h)⟩, q⟩
theorem r_tyS {z : Str} {P : Prop} (q : P) : tyV K "str" (.str z) H ∧ P := ⟨rfl, q⟩
theorem r_strB {f : Str → Bool} {a : Str} {Q : VK} (q : Q (.bl (f a)) H) : wStrB f (.str a) [] H Q := ⟨a, rfl, rfl, trivial, q⟩
theorem r_addS {i j : Str} {Q : VK} (h : i.length + j.length ≤ sizeLine) (q : Q (.str (i ++ j)) H) : wAddS (.str i) (.str j) H Q := ⟨i, j, rfl, rfl, h, q⟩
theorem r_notInC {c : Nat} {z : Str} {Q : VK} (q : Q (.bl (!decide (c ∈ z.cps.toList))) H) : wNotInC (.str ⟨#[c]⟩) (.str z) H Q := ⟨c, z, rfl, rfl, q⟩
theorem r_append {l : Addr} {xs : List V} {y : V} {Q : VK} (h : H l = some (.lst xs)) (hz : xs.length < sizeLine) (q : Q .non (upd H l (.lst (xs ++ [y])))) : rAppend (.ref l) [y] H Q := ⟨l, xs, y, rfl, rfl, h, hz, q⟩
theorem r_dnew {Q : VK} (q : ∀ p, H p = none → Q (.ref p) (upd H p (.dK []))) : tDNewK σ H Q := q
theorem r_cat {l b : Addr} {xs zs : List V} {Q : VK} (h : H l = some (.lst xs)) (h' : H b = some (.lst zs)) (hz : xs.length + zs.length ≤ sizeLine) (q : ∀ p, H p = none → Q (.ref p) (upd H p (.lst (xs ++ zs)))) : rCat (.ref l) (.ref b) H Q := ⟨l, b, xs, zs, rfl, rfl, h, h', hz, q⟩
theorem r_joinL {a : Str} {p : Addr} {ys : List Str} {Q : VK} (h : H p = some (.lst (ys.map V.str))) (hz : (ys.map (·.length)).sum + ys.length * a.length ≤ 16777216) (q : Q (.str (Txt.join a ys)) H) : wJoin K (.str a) [.ref p] H Q := ⟨a, p, ys, rfl, rfl, .inl (.inl (.inl h)), hz, q⟩
theorem r_rep {l : Addr} {xs : List V} {k : Int} {Q : VK} (h : H l = some (.lst xs)) (h0 : 0 ≤ k) (h1 : k < 1000) (hz : xs.length * k.toNat ≤ sizeLine) (q : ∀ p, H p = none → Q (.ref p) (upd H p (.lst (List.replicate k.toNat xs).flatten))) : rRep (.ref l) (.int k) H Q :=
  ⟨l, k, xs, rfl, rfl, h, by omega, by omega, hz, q⟩
theorem r_insert {l : Addr} {xs : List V} {i : Nat} {y : V} {Q : VK} (h : H l = some (.lst xs)) (hz : xs.length < sizeLine) (hi : i < 1000000) (q : Q .non (upd H l (.lst (xs.take i ++ [y] ++ xs.drop i)))) : wInsert (.ref l) [.int (i : Int), y] H Q :=
  ⟨l, xs, i, y, rfl, rfl, h, hz, Int.natCast_nonneg i, by omega, q⟩
/-- two ways that meet: what holds where they meet gives what follows -/
theorem r_seqJ {t u : TS} (C : L2.St → Hp → Prop) (tail : ∀ σ H, C σ H → u D σ H) (q : (∀ σ H, C σ H → u D σ H) → t { D with nx := u D } σ H) : tSeq t u D σ H := q tail
theorem r_popAt {l : Addr} {xs : List V} {k : Nat} {y : V} {Q : VK} (h : H l = some (.lst xs)) (hz : k < 9223372036854775808) (hy : xs[k]? = some y) (q : Q y (upd H l (.lst (xs.eraseIdx k)))) : rPopAt (.ref l) [.int (k : Int)] H Q := by
  have hk : k < xs.length := (List.getElem?_eq_some_iff.mp hy).1
  have hx : ixN xs.length (k : Int) = some k := by
    unfold ixN
    rw [if_pos (Int.natCast_nonneg k), if_pos (by omega)]
    rfl
  exact ⟨l, xs, k, k, y, rfl, rfl, h, by omega, by omega, (ixN_seq hx).1, hy, q⟩
theorem r_rng1 {ta : TA} {R : It → Hp → Prop} (q : ta σ H fun vs H1 => ∃ j : Int, vs = [.int j] ∧ -(2 ^ 62) ≤ j ∧ j < 2 ^ 62 ∧ R (Itr 0 j.toNat) H1) : iRng1 ta σ H R := q
theorem r_rng1j {j : Int} {P : Int → Prop} (h1 : -(2 ^ 62) ≤ j) (h2 : j < 2 ^ 62) (q : P j) : ∃ j' : Int, [V.int j] = [V.int j'] ∧ -(2 ^ 62) ≤ j' ∧ j' < 2 ^ 62 ∧ P j' := ⟨j, rfl, h1, h2, q⟩
theorem r_iList {tl : TE} {R : It → Hp → Prop} (q : tl σ H fun x H1 => ∃ a, x = .ref a ∧ (∃ xs, SqL K H1 a xs) ∧ R (Itl K a) H1) : iList K tl σ H R := q
theorem r_iListj {a : Addr} {xs : List V} {P : Addr → Prop} (h : H a = some (.lst xs)) (q : P a) : ∃ a', V.ref a = .ref a' ∧ (∃ xs, SqL K H a' xs) ∧ P a' := ⟨a, rfl, ⟨xs, .inl (.inl h)⟩, q⟩
theorem r_iTup {tl : TE} {R : It → Hp → Prop} (q : tl σ H fun x H1 => ∃ a, x = .ref a ∧ (∃ xs, SqT K H1 a xs) ∧ R (Itt K a) H1) : iTup K tl σ H R := q
theorem r_iTupj {a : Addr} {xs : List V} {P : Addr → Prop} (h : H a = some (.tup xs)) (q : P a) : ∃ a', V.ref a = .ref a' ∧ (∃ xs, SqT K H a' xs) ∧ P a' := ⟨a, rfl, ⟨xs, .inl (.inl h)⟩, q⟩
theorem r_all {p : Addr} {bs : List Bool} {Q : VK} (h : H p = some (.lst (bs.map V.bl))) (q : Q (.bl (bs.all id)) H) : rAll K [.ref p] H Q := ⟨p, bs, rfl, .inl (.inl h), q⟩
theorem r_iStr {te : TE} {R : It → Hp → Prop} (q : te σ H fun v H1 => ∃ x, v = .str x ∧ R (Its x) H1) : iStr te σ H R := q
theorem r_iStrj {z : Str} {P : Str → Prop} (q : P z) : ∃ x, V.str z = .str x ∧ P x := ⟨z, rfl, q⟩
def LcB (J : It) (g : TG) (tt : TT) (te : TE) (vs : List Nat) (σ : L2.St) (H1 : Hp) (D : Addr) (Q : VK) : Prop := ∃ W : Nat → Nat → Hp → Prop, (∃ m, W 0 m (upd H1 D (.lst []))) ∧ ∀ i m H, W i m H →
  (J.stop i H ∧ Q (.ref D) H) ∨ (J.go i H ∧ ∃ Nx : Hp → Prop, (∀ H', Nx H' → ∃ m', m' < m ∧ W (i + 1) m' H') ∧ ∀ x H', J.yld i H x H' → g x (wipe σ vs) H' fun σ2 H2 => wipe σ2 vs = wipe σ vs ∧ tt σ2 H2 fun b H3 =>
    if b = true then te σ2 H3 fun y H4 => ∃ acc, H4 D = some (.lst acc) ∧ acc.length < sizeLine ∧ Nx (upd H4 D (.lst (acc ++ [y]))) else Nx H3)
theorem r_lc {wi : TI} {g : TG} {tt : TT} {te : TE} {vs : List Nat} {Q : VK} (q : wi σ H fun J H1 => ∀ D, H1 D = none → LcB J g tt te vs σ H1 D Q) : tLc wi g tt te vs σ H Q := q
def ForB (J : It) (g : TG) (tb : TS) (D : Ends) (σ : L2.St) (H1 : Hp) : Prop := ∃ W : Nat → Nat → L2.St → Hp → Prop, (∃ m, W 0 m σ H1) ∧ ∀ i m σ H, W i m σ H →
  (J.stop i H ∧ D.nx σ H) ∨ (J.go i H ∧ ∃ N : L2.St → Hp → Prop, (∀ σ' H', N σ' H' → ∃ m', m' < m ∧ W (i + 1) m' σ' H') ∧ ∀ x H', J.yld i H x H' → g x σ H' fun σ2 H2 => tb { D with nx := N, ct := N, bk := D.nx } σ2 H2)
theorem r_for {wi : TI} {g : TG} {tb : TS} (q : wi σ H fun J H1 => ForB J g tb D σ H1) : tFor wi g tb D σ H := q
theorem r_yes {Q : Bool → Hp → Prop} (q : Q true H) : tYes σ H Q := q
/-- a comprehension over a walk; Pv by the turn and the heap -/
theorem lcB {J : It} {n : Nat} {G : Hp → Prop} {Y : Nat → Hp → V → Hp → Prop} (w : Walk J n G Y) {g : TG} {tt : TT} {te : TE} {vs : List Nat} {H1 : Hp} {D : Addr} {Q : VK} (Pv : Nat → Hp → Prop) (h0 : Pv 0 (upd H1 D (.lst []))) (hG : ∀ i H, i ≤ n → Pv i H → G H)
    (hs : ∀ i x H H', i < n → Pv i H → Y i H x H' → g x (wipe σ vs) H' fun σ2 H2 => wipe σ2 vs = wipe σ vs ∧ tt σ2 H2 fun b H3 =>
      if b = true then te σ2 H3 fun y H4 => ∃ acc, H4 D = some (.lst acc) ∧ acc.length < sizeLine ∧ Pv (i + 1) (upd H4 D (.lst (acc ++ [y]))) else Pv (i + 1) H3) (hd : ∀ H, Pv n H → Q (.ref D) H) : LcB J g tt te vs σ H1 D Q := lc_it w (Qd := fun H => Q (.ref D) H) Pv h0 hG hs hd
theorem forB {J : It} {n : Nat} {G : Hp → Prop} {Y : Nat → Hp → V → Hp → Prop} (w : Walk J n G Y) {g : TG} {tb : TS} (Pv : Nat → L2.St → Hp → Prop) (h0 : Pv 0 σ H) (hG : ∀ i σ H, i ≤ n → Pv i σ H → G H)
    (hs : ∀ i x σ H H', i < n → Pv i σ H → Y i H x H' → g x σ H' fun σ2 H2 => tb { D with nx := Pv (i + 1), ct := Pv (i + 1), bk := D.nx } σ2 H2) (hd : ∀ σ H, Pv n σ H → D.nx σ H) : ForB J g tb D σ H := for_it w Pv h0 hG hs hd
end
theorem nx_pos {a n : Int} (h : 1 ≤ n) (h0 : 0 ≤ a) : (a % n).toNat < n ∧ ((a % n).toNat : Int) = a % n := by
  have h1 := Int.emod_nonneg a (show n ≠ 0 by omega)
  have h2 := Int.emod_lt_of_pos a (show 0 < n by omega)
  omega
theorem get_cons_erase {α : Type} : ∀ {l : List α} {i : Nat} (h : i < l.length), (l[i] :: l.eraseIdx i).Perm l
  | [], _, h => absurd h (Nat.not_lt_zero _)
  | x :: r, 0, _ => .refl _
  | x :: r, i + 1, h => by
    have hi : i < r.length := Nat.lt_of_succ_lt_succ h
    have ih := get_cons_erase (l := r) (i := i) hi
    show (r[i] :: x :: r.eraseIdx i).Perm (x :: r)
    exact (List.Perm.swap x r[i] _).trans (ih.cons x)
theorem iteF' {b : Bool} {A B : Prop} (h : b = false) (q : B) : if b = true then A else B := by
  subst h
  exact iteF q
theorem iteT' {b : Bool} {A B : Prop} (h : b = true) (q : A) : if b = true then A else B := by
  subst h
  exact iteT q
theorem sz_of {n : Nat} (h : n ≤ 100000) : n ≤ sizeLine := Nat.le_trans h (by decide)
theorem sz_lt {n : Nat} (h : n < 100000) : n < sizeLine := Nat.lt_of_lt_of_le h (by decide)
/-- the text of some signs -/
abbrev ofC (cs : List Nat) : Str := ⟨cs.toArray⟩
theorem ofC_len (cs : List Nat) : (ofC cs).length = cs.length := rfl
theorem joinL_nil : ∀ cs : List Nat, TL.joinL [] (cs.map fun c => [c]) = cs
  | [] => rfl
  | [_] => rfl
  | c :: e :: r => by
    have ih := joinL_nil (e :: r)
    show [c] ++ ([] ++ TL.joinL [] ((e :: r).map fun c => [c])) = c :: e :: r
    rw [ih]
    rfl
theorem join_one (cs : List Nat) : Txt.join (Str.ofString "") (cs.map fun c => (⟨#[c]⟩ : Str)) = ofC cs := by
  refine TL.ext_tl ?_
  unfold Txt.join
  rw [StrLaws.glued_eq_join, TL.tl_join]
  rw [List.map_map]
  exact joinL_nil cs
theorem sum_one (cs : List Nat) : ((cs.map fun c => (⟨#[c]⟩ : Str)).map (·.length)).sum = cs.length := by
  rw [List.map_map]
  induction cs with
  | nil => rfl
  | cons c r ih =>
    rw [List.map_cons, List.sum_cons, ih, List.length_cons]
    show 1 + r.length = r.length + 1
    omega
/-! ### the draws -/
/-- a list of three ints, the first not below nought -/
def Dice (H : Hp) (d : Addr) : Prop := ∃ a b c : Int, 0 ≤ a ∧ H d = some (.lst [.int a, .int b, .int c])
/-- what stood, stands, but for what is at d -/
def Ext (d : Addr) (H H' : Hp) : Prop := ∀ b o, b ≠ d → H b = some o → H' b = some o
theorem Ext.refl (d : Addr) (H : Hp) : Ext d H H := fun _ _ _ h => h
theorem Ext.trans {d : Addr} {H H1 H2 : Hp} (a : Ext d H H1) (b : Ext d H1 H2) : Ext d H H2 := fun c o n h => b c o n (a c o n h)
theorem Ext.at_ {d : Addr} {H H' : Hp} {o : HO} (e : Ext d H H') : Ext d H (upd H' d o) := fun b u n h => by
  rw [upd_ne n]
  exact e b u n h
theorem Ext.new {d p : Addr} {H : Hp} {o : HO} (n : H p = none) : Ext d H (upd H p o) := fun b u _ h => by
  rw [upd_ne (ne_of_none h n)]
  exact h
theorem same_upd {H : Hp} {p : Addr} {o : HO} (h : H p = none) : Same H (upd H p o) := fun b x e => by
  rw [upd_ne (ne_of_none e h)]
  exact e
theorem ne_any {H : Hp} {a b : Addr} (h : ∃ o, H a = some o) (h' : H b = Option.none) : a ≠ b := by
  obtain ⟨o, h⟩ := h
  exact ne_of_none h h'
theorem there_here {H : Hp} {p : Addr} {o : HO} : ∃ u, upd H p o p = some u := ⟨o, upd_same⟩
theorem there_old {H : Hp} {p a : Addr} {o : HO} (n : H p = Option.none) (h : ∃ u, H a = some u) : ∃ u, upd H p o a = some u := by
  obtain ⟨u, h⟩ := h
  exact ⟨u, by rw [upd_ne (ne_of_none h n)]; exact h⟩
theorem Ext.same {d : Addr} {H H1 H2 : Hp} (s : Same H H1) (e : Ext d H1 H2) (n : H d = Option.none) : Same H H2 := fun b o h => e b o (ne_of_none h n) (s b o h)
theorem Ext.of_same {d : Addr} {H H' : Hp} (s : Same H H') : Ext d H H' := fun b o _ h => s b o h
theorem Dice.mk3 {d : Addr} {H : Hp} {a b c : Int} (h : 0 ≤ a) : Dice (upd H d (.lst [.int a, .int b, .int c])) d := ⟨a, b, c, h, upd_same⟩
theorem Dice.new {d p : Addr} {H : Hp} {o : HO} (h : Dice H d) (n : H p = none) : Dice (upd H p o) d := by
  obtain ⟨a, b, c, h0, e⟩ := h
  exact ⟨a, b, c, h0, by rw [upd_ne (ne_of_none e n)]; exact e⟩
theorem Dice.off {d p : Addr} {H : Hp} {o : HO} (h : Dice H d) (n : p ≠ d) : Dice (upd H p o) d := by
  obtain ⟨a, b, c, h0, e⟩ := h
  exact ⟨a, b, c, h0, by rw [upd_ne n.symm]; exact e⟩
theorem Dice.ne {d p : Addr} {H : Hp} (h : Dice H d) (n : H p = none) : p ≠ d := by
  obtain ⟨a, b, c, h0, e⟩ := h
  exact (ne_of_none e n).symm
theorem Ext.free_ {d p : Addr} {H H' : Hp} (e : Ext d H H') (hd : Dice H' d) (n : H' p = none) : H p = none := by
  cases q : H p with
  | none => rfl
  | some o =>
    have z := e p o (hd.ne n) q
    rw [n] at z
    cases z
/-- a list that was made and is filled on: upd at a place that was free -/
theorem Ext.grown {d p : Addr} {H H' : Hp} {o : HO} (e : Ext d H H') (n : H p = none) : Ext d H (upd H' p o) := fun b u nb h => by
  rw [upd_ne (ne_of_none h n)]
  exact e b u nb h
end My

namespace My
open PySem PySem.Spec PyProof.Rows L2
/-! ### dicts, several targets at once -/
section
variable {X : Cx}
def wSortedD : List V → Hp → VK → Prop := fun xs H Q => ∃ (a : Addr) (kvs : List (Key × V)) (ks : List Str), xs = [.ref a] ∧ Rd H a (.dK kvs) ∧ kvs.map (·.1) = ks.map Sum.inr ∧ ks.length < 64 ∧
    ∀ ys p, ys.Perm ks → sortedS ys = true → H p = none → Q (.ref p) (upd H p (.lst (ys.map V.str)))
theorem c_sortedD (hc : X.calm = true) : CallR X (.builtin "sorted") wSortedD := call_sortedD hc
theorem c_sortedS {K : PySem.W.Frag} (hK : X.K = K := by rfl) : CallR X (.builtin "sorted") (rSortedS K) := by
  subst hK
  exact cr_sortedS
/-- the view of d's values at v -/
def valsO (v d : Addr) : HO := .ext fun h => h.get? v = some { cls := .type "dict_values", data := .fields #[.ref d] }
def tVals (td : TE) : TE := fun σ H Q => td σ H fun x H1 => ∃ d kvs, x = .ref d ∧ H1 d = some (.dK kvs) ∧ ∀ v, H1 v = none → Q (.ref v) (upd H1 v (valsO v d))
/-- d.values() as a value -/
theorem e_values {e : Expr} {td : TE} {apos cpos : Pos} (he : PE X e td) (hbase : attributeBase e "values" X.env (eval e X.env) = eval e X.env := by rfl) (hline : (apos.endLine == cpos.line) = true := by rfl) :
    PE X (.Call (.Attribute e "values" apos) [] [] cpos) (tVals td) := by
  constructor
  intro pins s σ H Q I h
  refine wpAny_Call_method (T := "dict") (id := "dict.values") hbase rfl hline F.plainAttrs_dict F.slot_dict_values F.type_dict_values (thn (he.run pins s σ H _ I h) fun u s1 hu => ?_)
  obtain ⟨x, H1, I1, rx, d, kvs, rfl, hd, q⟩ := hu
  cases (show u = Value.ref d from rx)
  obtain ⟨z, lo, vs, rk, dd⟩ := (show ObjOk X.prog X.w H1 s1.heap d (.dK kvs) from I1.hok d _ hd)
  refine ⟨dd.typeIs, dd.mapOf.noDict, ?_⟩
  have hn : H1 s1.heap.objs.size = none := I1.hok.fresh (Nat.le_refl _)
  show wpAny _ _ (callWith cpos (.builtin "dict.values") [.ref d] [] []) _ X.xe s1
  refine method_meetsIn F.slot_dict_values F.entry_dict_values rfl (PySem.evalArgs_none ⟨rfl, dd.typeIs, F.args_dict_values_1 _, _, meets_dict_values (mixKind X.prog X.w) d lo, ⟨vs, dd⟩, ?_⟩)
  exact ⟨.ref s1.heap.objs.size, upd H1 s1.heap.objs.size (valsO s1.heap.objs.size d), I1.laid (t' := s1.toks) (fun b o e => Heap.get?_push_of_some _ e) (Nat.le_refl _) ⟨Heap.get?_push_size _ rfl, ⟨_, Heap.get?_push_size _ rfl⟩, fun _ _ a k => k _ a⟩, rfl, q _ hn⟩
theorem kv_get : ∀ {kvs : List (Key × V)} {vs : List (Key × Value)} {j : Nat} {kv : Key × V}, KV kvs vs → kvs[j]? = some kv → ∃ u, vs[j]? = some (kv.1, u) ∧ RelV kv.2 u
  | _, _, _, _, .nil, h => by simp at h
  | _, _, 0, _, .cons (b := (k, u)) r _, h => by
    cases h
    obtain ⟨e1, e2⟩ := r
    cases e1
    exact ⟨u, rfl, e2⟩
  | _, _, j + 1, _, .cons _ t, h => kv_get (j := j) t (by simpa using h)
/-- list of such a view -/
def wListV : List V → Hp → VK → Prop := fun xs H Q => ∃ v d kvs, xs = [.ref v] ∧ H v = some (valsO v d) ∧ H d = some (.dK kvs) ∧ ∀ l, H l = none → Q (.ref l) (upd H l (.lst (kvs.map Prod.snd)))
open PySem.W in
theorem c_listV (hc : X.calm = true) : CallR X (.type "list") wListV := by
  intro pins s σ H xs us Q I r h
  obtain ⟨v, d, kvs, rfl, hv, hd, q⟩ := h
  obtain ⟨u, rfl, rx⟩ := vals1 r
  cases rx
  obtain ⟨z, lo, vs, rk, dd⟩ := (show ObjOk X.prog X.w H s.heap d (.dK kvs) from I.hok d _ hd)
  obtain ⟨ho, _, _⟩ := I.hok v _ hv
  obtain ⟨es, ep, hraw, hsz, hat⟩ := dd.raw
  have hl : kvs.length = vs.length := Paired.length rk
  refine kdl_call (KdlSrc.rawValues (r := v) (d := d) (es := es) (ep := ep)) (I.ok.hd hc) ⟨⟨_, ho, rfl, rfl⟩, hraw⟩ (by omega) fun h' tk acc' c' hkeep hS hacc => ?_
  refine ⟨.ref s.heap.objs.size, upd H s.heap.objs.size (.lst (kvs.map Prod.snd)), I.laid hkeep (Nat.le_refl _) (show ObjOk X.prog X.w _ _ _ (.lst (kvs.map Prod.snd)) from ⟨by rw [List.length_map]; exact z, acc'.toList, c', ?_, by rw [Array.toArray_toList]; exact hS⟩), rfl, q _ (I.hok.fresh (Nat.le_refl _))⟩
  have el : acc'.toList.length = acc'.size := by simp
  refine vals_of_at (by rw [List.length_map, el, hacc.1]; omega) fun j x u h1 h2 => ?_
  obtain ⟨hj, rfl⟩ := hacc.2 j u (by rw [← Array.getElem?_toList]; exact h2)
  rw [List.getElem?_map] at h1
  cases hk : kvs[j]? with
  | none => rw [hk] at h1; cases h1
  | some kv =>
    rw [hk] at h1
    cases h1
    obtain ⟨u2, e1, e2⟩ := kv_get rk hk
    rw [(hat j hj _ _ e1).2]
    exact e2
end
section
variable {K : PySem.W.Frag} {σ : L2.St} {H : Hp} {D : Ends}
theorem r_par {i j : Nat} {ta : TA} (q : ta σ H fun vs H1 => ∃ v w, vs = [v, w] ∧ D.nx ((σ.set i (some v)).set j (some w)) H1) : tPar i j ta D σ H := q
theorem r_par2 {v w : V} {P : V → V → Prop} (q : P v w) : ∃ v' w', [v, w] = [v', w'] ∧ P v' w' := ⟨v, w, rfl, q⟩
theorem r_par3 {i j l : Nat} {ta : TA} (q : ta σ H fun vs H1 => ∃ u v w, vs = [u, v, w] ∧ D.nx (((σ.set i (some u)).set j (some v)).set l (some w)) H1) : tPar3 i j l ta D σ H := q
theorem r_par33 {u v w : V} {P : V → V → V → Prop} (q : P u v w) : ∃ u' v' w', [u, v, w] = [u', v', w'] ∧ P u' v' w' := ⟨u, v, w, rfl, q⟩
theorem r_dget {td ty : TE} {Q : VK} (q : td σ H fun x H1 => ty σ H1 fun y H2 => ∃ a v, x = .ref a ∧ DGet H2 a y (some v) ∧ Q v H2) : tDGet td ty σ H Q := q
theorem r_dgetS {a : Addr} {kvs : List (Key × V)} {s : Str} {v : V} {Q : V → Prop} (h : H a = some (.dK kvs)) (hv : valV kvs (.inr s) = some v) (q : Q v) : ∃ a' v', V.ref a = .ref a' ∧ DGet H a' (.str s) (some v') ∧ Q v' :=
  ⟨a, v, rfl, by rw [← hv]; exact DGet.k (k := Sum.inr s) h, q⟩
theorem r_dput {td ty tv : TE} (q : tv σ H fun v H1 => td σ H1 fun x H2 => ty σ H2 fun y H3 => ∃ a H4, x = .ref a ∧ DPut H3 a y v H4 ∧ D.nx σ H4) : sDPut td ty tv D σ H := q
theorem r_dputS {a : Addr} {kvs : List (Key × V)} {s : Str} {v : V} {Q : Hp → Prop} (h : H a = some (.dK kvs)) (hl : kvs.length < sizeLine) (q : Q (upd H a (.dK (putK kvs (.inr s) v)))) : ∃ a' H4, V.ref a = .ref a' ∧ DPut H a' (.str s) v H4 ∧ Q H4 :=
  ⟨a, _, rfl, DPut.k (k := Sum.inr s) h hl, q⟩
theorem r_disp {trs : List (TE × TE)} {Q : VK} (q : ∀ p, H p = none → tPairs trs σ (upd H p (.dK [])) fun ps H2 => H2 p = some (.dK []) ∧ ∃ kvs : List (Key × V), ps = kvs.map (fun kv => (kV kv.1, kv.2)) ∧ kvs.length ≤ 15 ∧ Q (.ref p) (upd H2 p (.dK (mergeK [] kvs)))) : tDisp trs σ H Q := q
theorem r_pairN {Q : List (V × V) → Hp → Prop} (q : Q [] H) : tPairs [] σ H Q := q
theorem r_pairC {tk tv : TE} {r : List (TE × TE)} {Q : List (V × V) → Hp → Prop} (q : tk σ H fun x H1 => tv σ H1 fun y H2 => tPairs r σ H2 fun ps H3 => Q ((x, y) :: ps) H3) : tPairs ((tk, tv) :: r) σ H Q := q
end
end My

namespace My
open PySem PySem.Spec PyProof.Rows L2
/-! ### rules for tuples of any kind, a tuple times a number, in over a tuple -/
section
variable {X : Cx}
theorem o_catA {K : PySem.W.Frag} (hK : X.K = K := by rfl) : OpR X (binaryOp .Add) (rCatA K) := by
  subst hK
  exact op_catA
theorem tuple_mul1 (l : Addr) (items : Array Value) (n : Nat) (dd : Option Addr) (sl : Array (Option Value)) (x : Int) (u : Tok) (c0 : (decide (x < -(2 ^ 63)) || decide (x ≥ 2 ^ 63)) = false) (c1 : (items.isEmpty || x == 1) = true) :
    Meets (Builtin.«tuple.__mul__» ⟨[.ref l, .int x u], []⟩) (fun _ R s => s.heap.get? l = some { cls := .type "tuple", dict := dd, data := .seq items n, slots := sl } ∧ R (.ok (.ret (Value.ref l))) s) :=
  .of_wp fun prog w A R s h => by
    obtain ⟨hp, g, d, tk, os⟩ := s
    obtain ⟨hl, h⟩ := h
    have f1 := AutoSeq1.idx_int
    wp_walk using wpAny_loadPart' hl
    repeat (first
      | (refine wpAny_ite_false (decide_eq_false (by rw [c0]; exact Bool.false_ne_true)) ?_; wp_walk using wpAny_loadPart' hl)
      | (refine wpAny_ite_true (decide_eq_true c1) ?_; wp_walk using wpAny_loadPart' hl))
    exact ⟨_, rfl, h⟩
theorem tuple_mul0 (l : Addr) (items : Array Value) (n : Nat) (dd : Option Addr) (sl : Array (Option Value)) (x : Int) (u : Tok) (c0 : (decide (x < -(2 ^ 63)) || decide (x ≥ 2 ^ 63)) = false) (c1 : (items.isEmpty || x == 1) = false) (c2 : (decide (x ≤ 0) || items.isEmpty) = true) :
    Meets (Builtin.«tuple.__mul__» ⟨[.ref l, .int x u], []⟩) (fun _ R s => s.heap.get? l = some { cls := .type "tuple", dict := dd, data := .seq items n, slots := sl } ∧
      R (.ok (.ret (Value.ref s.heap.objs.size))) { s with heap := s.heap.push { cls := Value.type "tuple", data := Data.seq #[] }, toks := s.toks }) :=
  .of_wp fun prog w A R s h => by
    obtain ⟨hp, g, d, tk, os⟩ := s
    obtain ⟨hl, h⟩ := h
    have f1 := AutoSeq1.idx_int
    wp_walk using wpAny_loadPart' hl
    repeat (first
      | (refine wpAny_ite_false (decide_eq_false (by rw [c0]; exact Bool.false_ne_true)) ?_; wp_walk using wpAny_loadPart' hl)
      | (refine wpAny_ite_false (decide_eq_false (by rw [c1]; exact Bool.false_ne_true)) ?_; wp_walk using wpAny_loadPart' hl)
      | (refine wpAny_ite_true (decide_eq_true c2) ?_; wp_walk using wpAny_loadPart' hl))
    exact ⟨_, rfl, h⟩
/-- t * k for any k up to 1000, t not empty -/
def rRepA (K : PySem.W.Frag) : R2 := fun x y H Q => ∃ l k xs, x = .ref l ∧ y = .int k ∧ SqT K H l xs ∧ xs ≠ [] ∧ -1000 ≤ k ∧ k ≤ 1000 ∧ xs.length ≤ 1000 ∧ (k = 1 → Q (.ref l) H) ∧ (k ≠ 1 → ∀ p, H p = none → Q (.ref p) (upd H p (.tup (List.replicate k.toNat xs).flatten)))
theorem op_repA : OpR X (binaryOp .Mult) (rRepA X.K) := by
  intro pins s σ H x y v u Q I rx ry h
  obtain ⟨l, k, xs, rfl, rfl, hT, hne, h1, h2, hz, q1, q2⟩ := h
  by_cases hk2 : 2 ≤ k
  · exact op_repT pins s σ H _ _ v u Q I rx ry ⟨l, k, xs, rfl, rfl, hT, hne, hk2, h2, hz, q2 (by omega)⟩
  cases rx
  obtain ⟨t, rfl⟩ := ry
  obtain ⟨its, r, ⟨⟨cls, dd, data, sl⟩, ho, hc, n, hd⟩, hs⟩ := I.tuple hT
  simp only at hc hd
  subst hc hd
  have hle : its.length = xs.length := r.length.symm
  have hn : its ≠ [] := fun e => hne (by
    rw [e] at hle
    exact List.eq_nil_of_length_eq_zero hle.symm)
  have hi : its.toArray.isEmpty = false := by
    cases its with
    | nil => exact absurd rfl hn
    | cons a b => rfl
  have c0 : (decide (k < -(2 ^ 63)) || decide (k ≥ 2 ^ 63)) = false := by
    rw [decide_eq_false (by omega), decide_eq_false (by omega)] <;> rfl
  by_cases hk1 : k = 1
  · have c1 : (its.toArray.isEmpty || k == 1) = true := by
      rw [hk1]
      simp
    exact wpAny_binaryOp_repeat_ref (T := "tuple") (U := "int") (by decide) ⟨_, ho, rfl⟩ (fun s' => typeIs_int s' k t) noFill_tuple_mul F.fills_int_mul F.slot_int_rmul repeat_tuple F.slot_int_index.lookup
      (call_meets F.slot_int_rmul (typeIs_int s k t) F.entry_int_rmul (F.args_int_rmul_2 _ _) (int_rmul_tuple k t l its.toArray n dd sl)
        ⟨ho, rfl, ⟨_, ho, rfl⟩, call_meets F.slot_tuple_mul ⟨_, ho, rfl⟩ F.entry_tuple_mul (F.args_tuple_mul_2 _ _) (tuple_mul1 l its.toArray n dd sl k t c0 c1) ⟨ho, ⟨.ref l, H, I, rfl, q1 hk1⟩⟩⟩)
  · have c1 : (its.toArray.isEmpty || k == 1) = false := by
      rw [hi, Bool.false_or]
      exact beq_eq_false_iff_ne.mpr hk1
    have c2 : (decide (k ≤ 0) || its.toArray.isEmpty) = true := by
      rw [decide_eq_true (by omega)]
      rfl
    refine wpAny_binaryOp_repeat_ref (T := "tuple") (U := "int") (by decide) ⟨_, ho, rfl⟩ (fun s' => typeIs_int s' k t) noFill_tuple_mul F.fills_int_mul F.slot_int_rmul repeat_tuple F.slot_int_index.lookup
      (call_meets F.slot_int_rmul (typeIs_int s k t) F.entry_int_rmul (F.args_int_rmul_2 _ _) (int_rmul_tuple k t l its.toArray n dd sl)
        ⟨ho, rfl, ⟨_, ho, rfl⟩, call_meets F.slot_tuple_mul ⟨_, ho, rfl⟩ F.entry_tuple_mul (F.args_tuple_mul_2 _ _) (tuple_mul0 l its.toArray n dd sl k t c0 c1 c2) ⟨ho, ?_⟩⟩)
    have hk0 : k.toNat = 0 := by omega
    have q3 := q2 hk1
    rw [hk0] at q3
    refine ⟨.ref s.heap.objs.size, _, I.laid (t' := s.toks) (o := .tup []) (fun b ob q => Heap.get?_push_of_some _ q) (Nat.le_refl _) ?_, rfl, q3 _ (I.hok.fresh (Nat.le_refl _))⟩
    exact ⟨Nat.zero_le _, [], .nil, IsTup.new _ _⟩
theorem o_repA {K : PySem.W.Frag} (hK : X.K = K := by rfl) : OpR X (binaryOp .Mult) (rRepA K) := by
  subst hK
  exact op_repA
def rInDT (K : PySem.W.Frag) : R2 := fun x y H Q => ∃ d ds, Dp K H x d ∧ Dp K H y (.tuple ds) ∧ SeqAt.shaped d = true ∧ SeqAt.shaped (.tuple ds) = true ∧ Q (.bl (ds.any fun z => PyData.eqv z d)) H
theorem op_inDT (hu : X.A.units + 65 < cLine) : OpR X (compareOp .In) (rInDT X.K) := by
  intro pins s σ H x y v u Q I rx ry h
  obtain ⟨d, ds, hd, he, sd, se, q⟩ := h
  obtain ⟨as, r1⟩ := Dp.reads I d x v hd rx
  obtain ⟨bs, r2⟩ := Dp.reads I (.tuple ds) y u he ry
  exact SeqAt.in_tuple_reads r2 r1 (SeqAt.canLay_of_shaped se) (SeqAt.canLay_of_shaped sd) (room_in_shaped sd hu) ⟨.bl _, H, I, rfl, q⟩
theorem o_inDT {K : PySem.W.Frag} (hu : X.A.units + 65 < cLine) (hK : X.K = K := by rfl) : OpR X (compareOp .In) (rInDT K) := by
  subst hK
  exact op_inDT hu
end
section
variable {K : PySem.W.Frag} {σ : L2.St} {H : Hp} {D : Ends}
theorem r_catA {a b : Addr} {xs ys : List V} {Q : VK} (h : H a = some (.tup xs)) (h' : H b = some (.tup ys)) (hz : xs.length + ys.length ≤ sizeLine)
    (q : ∀ p H', Same H H' → H' p = some (.tup (xs ++ ys)) → Q (.ref p) H') : rCatA K (.ref a) (.ref b) H Q :=
  ⟨a, b, xs, ys, rfl, rfl, .inl (.inl h), .inl (.inl h'), hz, fun e => q b H (Same.refl H) (by rw [e]; exact h'), fun _ e => q a H (Same.refl H) (by rw [e, List.append_nil]; exact h), fun _ _ p hp => q p _ (same_upd hp) upd_same⟩
theorem r_repA {l : Addr} {xs : List V} {k : Int} {Q : VK} (h : H l = some (.tup xs)) (h0 : xs ≠ []) (h1 : 0 ≤ k) (h2 : k ≤ 1000) (h3 : xs.length ≤ 1000)
    (q : ∀ p H', Same H H' → H' p = some (.tup (List.replicate k.toNat xs).flatten) → Q (.ref p) H') : rRepA K (.ref l) (.int k) H Q :=
  ⟨l, k, xs, rfl, rfl, .inl (.inl h), h0, by omega, h2, h3, fun e => q l H (Same.refl H) (by rw [e, h]; simp), fun _ p hp => q p _ (same_upd hp) upd_same⟩
theorem r_din {td ty : TE} {Q : VK} (q : ty σ H fun y H1 => td σ H1 fun x H2 => ∃ a o, x = .ref a ∧ DGet H2 a y o ∧ Q (.bl o.isSome) H2) : tDIn ty td σ H Q := q
theorem r_dinS {a : Addr} {kvs : List (Key × V)} {s : Str} {Q : Bool → Prop} (h : H a = some (.dK kvs)) (q : Q (valV kvs (.inr s)).isSome) : ∃ a' o, V.ref a = .ref a' ∧ DGet H a' (.str s) o ∧ Q o.isSome :=
  ⟨a, _, rfl, DGet.k (k := Sum.inr s) h, q⟩
theorem r_revL {te : TE} {Q : VK} (q : te σ H fun x H1 => ∃ a xs, x = .ref a ∧ SqL K H1 a xs ∧ ∀ p, H1 p = none → Q (.ref p) (upd H1 p (.lst xs.reverse))) : tRevL K te σ H Q := q
theorem whileJ {c : TT} {tb : TS} (C : L2.St → Hp → Prop) (tail : ∀ σ H, C σ H → D.nx σ H) (q : (∀ σ H, C σ H → D.nx σ H) → tWhile c tb D σ H) : tWhile c tb D σ H := q tail
theorem ifsJ {t : TT} {a b : TS} (C : L2.St → Hp → Prop) (tail : ∀ σ H, C σ H → D.nx σ H) (q : (∀ σ H, C σ H → D.nx σ H) → tIfS t a b D σ H) : tIfS t a b D σ H := q tail
theorem r_dget2 {td ty tx : TE} {Q : VK} (q : td σ H fun x H1 => ∃ a, x = .ref a ∧ IsD H1 a ∧ ty σ H1 fun y H2 => tx σ H2 fun z H3 => ∃ o, DGet H3 a y o ∧ Q (o.getD z) H3) : tDGet2 td ty tx σ H Q := q
end
end My

--MACROS
local macro_rules | `(tactic| walk_at "zsame") => `(tactic| first
  | assumption
  | exact L2.Same.refl _
  | (refine L2.Same.trans ?_ (My.same_upd (by assumption)); walk_at "zsame"))
local macro_rules | `(tactic| walk_at "zget") => `(tactic| first
  | assumption
  | exact L2.upd_same
  | (refine My.same_upd (by assumption) _ _ ?_; walk_at "zget"))
local macro_rules | `(tactic| walk_at "zgetx") => `(tactic| first
  | exact ⟨_, by assumption⟩
  | exact My.there_here
  | (refine My.there_old (by assumption) ?_; walk_at "zgetx"))
local macro_rules | `(tactic| walk_at "zdice") => `(tactic| first
  | assumption
  | (refine My.Dice.new ?_ (by assumption); walk_at "zdice"))
local macro_rules | `(tactic| walk_at "zext") => `(tactic| first
  | assumption
  | exact My.Ext.refl _ _
  | (refine My.Ext.trans ?_ (My.Ext.new (by assumption)); walk_at "zext"))
local macro_rules | `(tactic| walk_at "zsz") => `(tactic| exact Nat.le_trans (m := 100000) (Nat.le_of_ble_eq_true rfl) (by decide))
local macro_rules | `(tactic| walk_at "zcond") => `(tactic| first
  | (show (0 : Int) < _; omega)
  | (show (0 : Int) < _; decide +kernel)
  | (refine And.intro ?_ ?_ <;> omega)
  | (refine Or.inl (And.intro ?_ ?_) <;> omega)
  | (refine Or.inr (And.intro ?_ ?_) <;> omega)
  | (refine And.intro ?_ ?_ <;> decide +kernel))
local macro_rules | `(tactic| walk_at "zhp") => `(tactic| first
  | assumption
  | exact L2.upd_same
  | (rw [L2.upd_ne (by assumption)]; walk_at "zhp")
  | (rw [L2.upd_ne (Ne.symm (by assumption))]; walk_at "zhp"))
local macro_rules | `(tactic| walk_at "zrd") => `(tactic| repeat (first
  | with_reducible refine My.r_seq ?_
  | with_reducible refine My.r_op ?_
  | with_reducible refine My.r_var rfl ?_
  | with_reducible refine My.r_c ?_
  | with_reducible refine My.r_cons ?_
  | with_reducible refine My.r_nil ?_
  | with_reducible refine My.r_asg ?_
  | with_reducible refine My.r_name ?_
  | with_reducible refine My.r_cb ?_
  | with_reducible refine My.r_call ?_
  | with_reducible refine My.r_I0 ?_
  | ((with_reducible refine My.r_I ?hcond ?_); (case hcond => walk_at "zcond"))
  | with_reducible refine My.r_int1 ?_
  | with_reducible refine My.r_int1b ?_
  | with_reducible refine My.r_abs ?_
  | with_reducible refine My.r_max2 ?_
  | with_reducible refine My.r_min2 ?_
  | with_reducible refine My.r_reprB ?_
  | with_reducible refine My.r_ifs ?_
  | with_reducible refine My.r_ret ?_
  | with_reducible refine My.r_next ?_
  | with_reducible refine My.r_test ?_
  | with_reducible refine My.r_B ?_
  | with_reducible refine My.r_bl ?_
  | with_reducible refine My.r_un ?_
  | with_reducible refine My.r_U ?_
  | with_reducible refine My.r_eq rfl ?_
  | with_reducible refine My.r_ne rfl ?_
  | with_reducible refine My.r_lenL (by walk_at "zhp") ?_
  | with_reducible refine My.r_lenTp (by walk_at "zhp") ?_
  | with_reducible refine My.r_listL (by walk_at "zhp") ?_
  | with_reducible refine My.r_tupleL (by walk_at "zhp") ?_
  | with_reducible refine My.r_ixL (by walk_at "zhp") rfl ?_
  | with_reducible refine My.r_sub ?_
  | with_reducible refine My.r_setL (by walk_at "zhp") rfl ?_
  | with_reducible refine My.r_bm ?_
  | with_reducible refine My.r_bm0 ?_
  | with_reducible refine My.r_tyL (by walk_at "zhp") ?_
  | with_reducible refine My.r_tyS ?_
  | with_reducible refine My.r_strB ?_
  | with_reducible refine My.r_notInC ?_
  | with_reducible refine My.r_rng1 ?_
  | with_reducible refine My.r_iList ?_
  | with_reducible refine My.r_iListj (by walk_at "zhp") ?_
  | with_reducible refine My.r_iTup ?_
  | with_reducible refine My.r_iTupj (by walk_at "zhp") ?_
  | with_reducible refine My.r_iStr ?_
  | with_reducible refine My.r_iStrj ?_
  | with_reducible refine My.r_dnew ?_
  | with_reducible refine My.r_par ?_
  | with_reducible refine My.r_par3 ?_
  | with_reducible refine My.r_dget ?_
  | with_reducible refine My.r_dput ?_
  | with_reducible refine My.r_pairC ?_
  | with_reducible refine My.r_pairN ?_
  | with_reducible refine My.r_not ?_
  | with_reducible refine My.r_and ?_
  | with_reducible refine My.r_or ?_
  | with_reducible refine My.r_notV ?_
  | with_reducible refine My.r_andV ?_
  | with_reducible refine My.r_orV ?_
  | with_reducible refine My.r_if ?_
  | with_reducible refine My.r_chain ?_
  | with_reducible refine My.r_lc ?_
  | with_reducible refine My.r_for ?_
  | with_reducible refine My.r_yes ?_
  | with_reducible refine My.r_tup ?_
  | with_reducible refine My.r_lst ?_
  | with_reducible refine My.r_drop ?_
  | with_reducible refine L2.iteF ?_
  | with_reducible refine L2.iteT ?_
  | refine My.iteF' rfl ?_
  | refine My.iteT' rfl ?_))

--ENDMACROS
namespace My
theorem turns_ok (n : Nat) : ∃ m : Nat, (if (if (n : Int) < 8 then (n : Int) else 8) > 1 then (if (n : Int) < 8 then (n : Int) else 8) else 1) = (m : Int) ∧ m ≤ 8 := by
  by_cases h : (n : Int) < 8
  · rw [if_pos h]
    by_cases h2 : (n : Int) > 1
    · rw [if_pos h2]
      exact ⟨n, rfl, by omega⟩
    · rw [if_neg h2]
      exact ⟨1, rfl, by omega⟩
  · rw [if_neg h]
    exact ⟨8, rfl, by omega⟩
end My

namespace My
open PySem PySem.Spec PyProof.Rows L2
/-- kinds of values whose type is known -/
inductive KindV (H : Hp) : V → Prop where
  | str {s : Str} (h : s.length ≤ 100000) (ha : s.cps.all (fun c => decide (c < 128)) = true) : KindV H (.str s)
  | non : KindV H .non
  | bl (b : Bool) : KindV H (.bl b)
  | int (i : Int) : KindV H (.int i)
  | tup {a : Addr} {xs : List V} (e : H a = some (.tup xs)) : KindV H (.ref a)
  | lst {a : Addr} {xs : List V} (e : H a = some (.lst xs)) : KindV H (.ref a)
  | dK {a : Addr} {kvs : List (Key × V)} (e : H a = some (.dK kvs)) : KindV H (.ref a)
def isStrV : V → Bool
  | .str _ => true
  | _ => false
theorem KindV.isi {K : PySem.W.Frag} {H : Hp} {v : V} {Q : VK} (h : KindV H v) (q : Q (.bl (isStrV v)) H) : rIsi K [v, .ty "str"] H Q := by
  cases h with
  | str h ha => exact ⟨_, _, .type "str", .type "str", true, rfl, .ty _, .base (.str _), kit_ty (by decide +kernel), q⟩
  | non => exact ⟨_, _, .type "NoneType", .type "str", false, rfl, .ty _, .base .non, kit_ty (by decide +kernel), q⟩
  | bl b => exact ⟨_, _, .type "bool", .type "str", false, rfl, .ty _, .base (.bl _), kit_ty (by decide +kernel), q⟩
  | int i => exact ⟨_, _, .type "int", .type "str", false, rfl, .ty _, .base (.int _), kit_ty (by decide +kernel), q⟩
  | tup e => exact ⟨_, _, .type "tuple", .type "str", false, rfl, .ty _, .base (.tup e), kit_ty (by decide +kernel), q⟩
  | lst e => exact ⟨_, _, .type "list", .type "str", false, rfl, .ty _, .base (.lst e), kit_ty (by decide +kernel), q⟩
  | dK e => exact ⟨_, _, .type "dict", .type "str", false, rfl, .ty _, .base (.dK e), kit_ty (by decide +kernel), q⟩
theorem KindV.mono {d : Addr} {H H' : Hp} {v : V} (e : Ext d H H') (n : ∀ a, v = .ref a → a ≠ d) (h : KindV H v) : KindV H' v := by
  cases h with
  | str h ha => exact .str h ha
  | non => exact .non
  | bl b => exact .bl b
  | int i => exact .int i
  | tup h => exact .tup (e _ _ (n _ rfl) h)
  | lst h => exact .lst (e _ _ (n _ rfl) h)
  | dK h => exact .dK (e _ _ (n _ rfl) h)
/-- .. and it is not the dice -/
def KD (d : Addr) (H : Hp) (v : V) : Prop := KindV H v ∧ ∀ a, v = .ref a → a ≠ d
theorem KD.mono {d : Addr} {H H' : Hp} {v : V} (e : Ext d H H') (h : KD d H v) : KD d H' v := ⟨h.1.mono e h.2, h.2⟩
theorem KD.flat {d : Addr} {H : Hp} {v : V} (h : KindV H v) (n : ∀ a, v ≠ .ref a) : KD d H v := ⟨h, fun a e => absurd e (n a)⟩
theorem KD.at_ {d : Addr} {H : Hp} {a : Addr} (h : KindV H (.ref a)) (n : a ≠ d) : KD d H (.ref a) := ⟨h, fun b e => by cases e; exact n⟩
theorem KindV.isiT {K : PySem.W.Frag} {H : Hp} {v : V} {Q : VK} (T : String) (f : V → Bool) (h : KindV H v) (hs : ∀ s, kitB "str" T = some (f (.str s))) (hn : kitB "NoneType" T = some (f .non)) (hb : ∀ b, kitB "bool" T = some (f (.bl b)))
    (hi : ∀ i, kitB "int" T = some (f (.int i))) (ht : ∀ a xs, H a = some (.tup xs) → kitB "tuple" T = some (f (.ref a))) (hl : ∀ a xs, H a = some (.lst xs) → kitB "list" T = some (f (.ref a))) (hd : ∀ a kvs, H a = some (.dK kvs) → kitB "dict" T = some (f (.ref a)))
    (q : Q (.bl (f v)) H) : rIsi K [v, .ty T] H Q := by
  cases h with
  | str h ha => exact ⟨_, _, .type "str", .type T, _, rfl, .ty _, .base (.str _), kit_ty (hs _), q⟩
  | non => exact ⟨_, _, .type "NoneType", .type T, _, rfl, .ty _, .base .non, kit_ty hn, q⟩
  | bl b => exact ⟨_, _, .type "bool", .type T, _, rfl, .ty _, .base (.bl _), kit_ty (hb _), q⟩
  | int i => exact ⟨_, _, .type "int", .type T, _, rfl, .ty _, .base (.int _), kit_ty (hi _), q⟩
  | tup e => exact ⟨_, _, .type "tuple", .type T, _, rfl, .ty _, .base (.tup e), kit_ty (ht _ _ e), q⟩
  | lst e => exact ⟨_, _, .type "list", .type T, _, rfl, .ty _, .base (.lst e), kit_ty (hl _ _ e), q⟩
  | dK e => exact ⟨_, _, .type "dict", .type T, _, rfl, .ty _, .base (.dK e), kit_ty (hd _ _ e), q⟩
def isIntishV : V → Bool
  | .int _ => true
  | .bl _ => true
  | _ => false
def isBoolV : V → Bool
  | .bl _ => true
  | _ => false
theorem KindV.isiInt {K : PySem.W.Frag} {H : Hp} {v : V} {Q : VK} (h : KindV H v) (q : Q (.bl (isIntishV v)) H) : rIsi K [v, .ty "int"] H Q :=
  h.isiT "int" isIntishV (fun _ => by show _ = some false; decide +kernel) (by show _ = some false; decide +kernel) (fun _ => by show _ = some true; decide +kernel) (fun _ => by show _ = some true; decide +kernel) (fun _ _ _ => by show _ = some false; decide +kernel) (fun _ _ _ => by show _ = some false; decide +kernel) (fun _ _ _ => by show _ = some false; decide +kernel) q
theorem KindV.isiBool {K : PySem.W.Frag} {H : Hp} {v : V} {Q : VK} (h : KindV H v) (q : Q (.bl (isBoolV v)) H) : rIsi K [v, .ty "bool"] H Q :=
  h.isiT "bool" isBoolV (fun _ => by show _ = some false; decide +kernel) (by show _ = some false; decide +kernel) (fun _ => by show _ = some true; decide +kernel) (fun _ => by show _ = some false; decide +kernel) (fun _ _ _ => by show _ = some false; decide +kernel) (fun _ _ _ => by show _ = some false; decide +kernel) (fun _ _ _ => by show _ = some false; decide +kernel) q
end My

namespace My
open PySem PySem.Spec PyProof.Rows L2
/-! ### words -/
def goodC (c : Nat) : Bool := decide (97 ≤ c) && decide (c ≤ 122)
/-- a word: one to eight letters a to z -/
def isW (s : Str) : Bool := decide (0 < s.length) && decide (s.length ≤ 8) && s.cps.all goodC
def isWV : V → Bool
  | .str s => isW s
  | _ => false
theorem ascii_alpha : ∀ c : Nat, c < 128 → Unicode.isAlpha c = ((decide (65 ≤ c) && decide (c ≤ 90)) || goodC c) := by decide +kernel
theorem ascii_lower : ∀ c : Nat, c < 128 → Unicode.isLower c = goodC c := by decide +kernel
theorem ascii_upper : ∀ c : Nat, c < 128 → (Unicode.isUpper c || Unicode.isTitle c) = (decide (65 ≤ c) && decide (c ≤ 90)) := by decide +kernel
theorem word_signs (s : Str) : (Txt.isascii s && (Txt.isalpha s && Txt.islower s)) = (decide (0 < s.length) && s.cps.all goodC) := by
  obtain ⟨cs⟩ := s
  rw [Bool.eq_iff_iff]
  simp only [Txt.isascii, Txt.isalpha, Txt.islower, Str.length, Bool.and_eq_true, Array.all_eq_true_iff_forall_mem, Array.any_eq_true, decide_eq_true_eq, Bool.not_eq_true', gt_iff_lt]
  constructor
  · rintro ⟨h1, ⟨h2, h3⟩, h4, h5⟩
    refine ⟨decide_eq_true h2, fun c hc => ?_⟩
    have a := h3 c hc
    have b := h1 c hc
    rw [ascii_alpha c b] at a
    have d : (Unicode.isUpper c || Unicode.isTitle c) = false := by
      have := Array.any_eq_false.mp h5
      obtain ⟨i, hi, e⟩ := Array.mem_iff_getElem.mp hc
      rw [← e]
      simpa using this i hi
    rw [ascii_upper c b] at d
    rw [d, Bool.false_or] at a
    exact a
  · rintro ⟨h1', h2⟩
    have h1 : 0 < cs.size := of_decide_eq_true h1'
    have hb : ∀ c ∈ cs, c < 128 := fun c hc => by
      have := h2 c hc
      unfold goodC at this
      simp only [Bool.and_eq_true, decide_eq_true_eq] at this
      omega
    refine ⟨hb, ⟨h1, fun c hc => ?_⟩, ⟨0, h1, ?_⟩, ?_⟩
    · rw [ascii_alpha c (hb c hc), h2 c hc, Bool.or_true]
    · have hm : cs[0] ∈ cs := Array.getElem_mem h1
      rw [ascii_lower _ (hb _ hm)]
      exact h2 _ hm
    · refine Array.any_eq_false.mpr fun i hi => ?_
      have hm : cs[i] ∈ cs := Array.getElem_mem hi
      have g := h2 _ hm
      rw [ascii_upper _ (hb _ hm)]
      unfold goodC at g
      simp only [Bool.and_eq_true, decide_eq_true_eq] at g ⊢
      omega
def dsg (cs : List Nat) : List PyData := cs.map fun c => .str ⟨#[c]⟩
theorem dp_sg {K : PySem.W.Frag} {H : Hp} : ∀ cs : List Nat, DpAll K H (sg cs) (dsg cs)
  | [] => .nil
  | c :: r => .cons (.str _) (dp_sg r)
theorem sg_lay : ∀ cs : List Nat, (∀ c ∈ cs, c < 128) → PyData.canLayAll0 (dsg cs) = true
  | [], _ => rfl
  | c :: r, h => by
    have ih := sg_lay r fun x hx => h x (List.mem_cons_of_mem _ hx)
    have hc := h c List.mem_cons_self
    show (PyData.strOk ⟨#[c]⟩ && PyData.canLayAll0 (dsg r)) = true
    rw [ih, Bool.and_true]
    unfold PyData.strOk
    simp
    omega
theorem sg_depth : ∀ cs : List Nat, PyData.depthAll (dsg cs) = 0
  | [] => rfl
  | c :: r => by
    show max 0 (PyData.depthAll (dsg r)) = 0
    rw [sg_depth r]
    rfl
theorem sg_shaped {cs : List Nat} (h : ∀ c ∈ cs, c < 128) : SeqAt.shaped (.list (dsg cs)) = true := by
  show (PyData.canLayAll0 (dsg cs) && decide (PyData.depthAll (dsg cs) + 1 ≤ 64)) = true
  rw [sg_lay cs h, sg_depth]
  rfl
theorem sg_nil : ∀ cs : List Nat, PyData.eqv (.list (dsg cs)) (.list []) = cs.isEmpty
  | [] => rfl
  | _ :: _ => rfl
end My

namespace My
open PySem PySem.Spec PyProof.Rows L2
/-! ### data as it lies in the heap; nothing of it is at N -/
mutual
inductive Is (N : List Addr) (H : Hp) : V → PyData → Prop
  | non : Is N H .non .none
  | bl (b : Bool) : Is N H (.bl b) (.bool b)
  | int (i : Int) : Is N H (.int i) (.int i)
  | str {s : Str} (h : s.length ≤ 100000) (ha : s.cps.all (fun c => decide (c < 128)) = true) : Is N H (.str s) (.str s)
  | lst {a : Addr} {xs : List V} {ds : List PyData} (n : a ∉ N) (e : H a = some (.lst xs)) (h : IsAll N H xs ds) : Is N H (.ref a) (.list ds)
  | tup {a : Addr} {xs : List V} {ds : List PyData} (n : a ∉ N) (e : H a = some (.tup xs)) (h : IsAll N H xs ds) : Is N H (.ref a) (.tuple ds)
  | dct {a : Addr} (n : a ∉ N) (e : H a = some (.dK [])) : Is N H (.ref a) (.dict [])
inductive IsAll (N : List Addr) (H : Hp) : List V → List PyData → Prop
  | nil : IsAll N H [] []
  | cons {v : V} {vs : List V} {d : PyData} {ds : List PyData} (h : Is N H v d) (t : IsAll N H vs ds) : IsAll N H (v :: vs) (d :: ds)
end
def ExtN (N : List Addr) (H H' : Hp) : Prop := ∀ b o, b ∉ N → H b = some o → H' b = some o
theorem ExtN.refl (N : List Addr) (H : Hp) : ExtN N H H := fun _ _ _ h => h
theorem ExtN.of_ext {d : Addr} {N : List Addr} {H H' : Hp} (hd : d ∈ N) (e : Ext d H H') : ExtN N H H' := fun b o n h => e b o (fun z => n (z ▸ hd)) h
theorem ExtN.of_same {N : List Addr} {H H' : Hp} (e : Same H H') : ExtN N H H' := fun b o _ h => e b o h
theorem ExtN.trans {N : List Addr} {H H1 H2 : Hp} (a : ExtN N H H1) (b : ExtN N H1 H2) : ExtN N H H2 := fun c o n h => b c o n (a c o n h)
mutual
theorem Is.mono {N : List Addr} {H H' : Hp} (e : ExtN N H H') : ∀ {v : V} {d : PyData}, Is N H v d → Is N H' v d
  | _, _, .non => .non
  | _, _, .bl b => .bl b
  | _, _, .int i => .int i
  | _, _, .str h ha => .str h ha
  | _, _, .lst n h t => .lst n (e _ _ n h) (IsAll.mono e t)
  | _, _, .tup n h t => .tup n (e _ _ n h) (IsAll.mono e t)
  | _, _, .dct n h => .dct n (e _ _ n h)
theorem IsAll.mono {N : List Addr} {H H' : Hp} (e : ExtN N H H') : ∀ {vs : List V} {ds : List PyData}, IsAll N H vs ds → IsAll N H' vs ds
  | _, _, .nil => .nil
  | _, _, .cons h t => .cons (Is.mono e h) (IsAll.mono e t)
end
theorem Is.kind {N : List Addr} {H : Hp} {v : V} {d : PyData} (h : Is N H v d) : KindV H v := by
  cases h with
  | non => exact .non
  | bl b => exact .bl b
  | int i => exact .int i
  | str h ha => exact .str h ha
  | lst n e t => exact .lst e
  | tup n e t => exact .tup e
  | dct n e => exact .dK e
mutual
theorem Is.dp {K : PySem.W.Frag} {N : List Addr} {H : Hp} : ∀ {v : V} {d : PyData}, Is N H v d → d.hasDict = false → Dp K H v d
  | _, _, .non, _ => .non
  | _, _, .bl b, _ => .bl b
  | _, _, .int i, _ => .int i
  | _, _, .str h ha, _ => .str _
  | _, _, .lst n h t, q => .lst (.inl (.inl h)) (IsAll.dp t q)
  | _, _, .tup n h t, q => .tup (.inl (.inl h)) (IsAll.dp t q)
  | _, _, .dct n h, q => nomatch q
theorem IsAll.dp {K : PySem.W.Frag} {N : List Addr} {H : Hp} : ∀ {vs : List V} {ds : List PyData}, IsAll N H vs ds → PyData.hasDictAll ds = false → DpAll K H vs ds
  | _, _, .nil, _ => .nil
  | _, _, .cons h t, q => by
    have q2 := Bool.or_eq_false_iff.mp q
    exact .cons (Is.dp h q2.1) (IsAll.dp t q2.2)
end
theorem IsAll.len {N : List Addr} {H : Hp} : ∀ {vs : List V} {ds : List PyData}, IsAll N H vs ds → vs.length = ds.length
  | _, _, .nil => rfl
  | _, _, .cons _ t => congrArg Nat.succ t.len
theorem IsAll.get {N : List Addr} {H : Hp} : ∀ {vs : List V} {ds : List PyData} {i : Nat} {v : V}, IsAll N H vs ds → vs[i]? = some v → ∃ d, ds[i]? = some d ∧ Is N H v d
  | _, _, _, _, .nil, e => by simp at e
  | _, _, 0, _, .cons h _, e => by
    cases e
    exact ⟨_, rfl, h⟩
  | _, _, i + 1, _, .cons _ t, e => t.get (i := i) (by simpa using e)
theorem IsAll.append {N : List Addr} {H : Hp} : ∀ {vs us : List V} {ds es : List PyData}, IsAll N H vs ds → IsAll N H us es → IsAll N H (vs ++ us) (ds ++ es)
  | _, _, _, _, .nil, b => b
  | _, _, _, _, .cons h t, b => .cons h (t.append b)
theorem IsAll.take {N : List Addr} {H : Hp} : ∀ {vs : List V} {ds : List PyData} (k : Nat), IsAll N H vs ds → IsAll N H (vs.take k) (ds.take k)
  | _, _, 0, _ => .nil
  | _, _, _ + 1, .nil => .nil
  | _, _, k + 1, .cons h t => .cons h (t.take k)
theorem IsAll.drop {N : List Addr} {H : Hp} : ∀ {vs : List V} {ds : List PyData} (k : Nat), IsAll N H vs ds → IsAll N H (vs.drop k) (ds.drop k)
  | _, _, 0, h => h
  | _, _, _ + 1, .nil => .nil
  | _, _, k + 1, .cons _ t => t.drop k
theorem IsAll.mem {N : List Addr} {H : Hp} : ∀ {vs : List V} {ds : List PyData} {v : V}, IsAll N H vs ds → v ∈ vs → ∃ d, d ∈ ds ∧ Is N H v d
  | _, _, _, .cons h t, e => by
    cases e with
    | head => exact ⟨_, .head _, h⟩
    | tail _ e =>
      obtain ⟨d, m, i⟩ := t.mem e
      exact ⟨d, .tail _ m, i⟩
def tupD : PyData → Bool
  | .tuple _ => true
  | _ => false
def boolD : PyData → Bool
  | .bool _ => true
  | _ => false
theorem Is.isiTup {K : PySem.W.Frag} {N : List Addr} {H : Hp} {v : V} {d : PyData} {Q : VK} (h : Is N H v d) (q : Q (.bl (tupD d)) H) : rIsi K [v, .ty "tuple"] H Q := by
  cases h with
  | non => exact ⟨_, _, .type "NoneType", .type "tuple", false, rfl, .ty _, .base .non, kit_ty (by decide +kernel), q⟩
  | bl b => exact ⟨_, _, .type "bool", .type "tuple", false, rfl, .ty _, .base (.bl _), kit_ty (by decide +kernel), q⟩
  | int i => exact ⟨_, _, .type "int", .type "tuple", false, rfl, .ty _, .base (.int _), kit_ty (by decide +kernel), q⟩
  | str h ha => exact ⟨_, _, .type "str", .type "tuple", false, rfl, .ty _, .base (.str _), kit_ty (by decide +kernel), q⟩
  | lst n e t => exact ⟨_, _, .type "list", .type "tuple", false, rfl, .ty _, .base (.lst e), kit_ty (by decide +kernel), q⟩
  | tup n e t => exact ⟨_, _, .type "tuple", .type "tuple", true, rfl, .ty _, .base (.tup e), kit_ty (by decide +kernel), q⟩
  | dct n e => exact ⟨_, _, .type "dict", .type "tuple", false, rfl, .ty _, .base (.dK e), kit_ty (by decide +kernel), q⟩
theorem Is.isiBool {K : PySem.W.Frag} {N : List Addr} {H : Hp} {v : V} {d : PyData} {Q : VK} (h : Is N H v d) (q : Q (.bl (boolD d)) H) : rIsi K [v, .ty "bool"] H Q := by
  have e : boolD d = isBoolV v := by cases h <;> rfl
  rw [e] at q
  exact h.kind.isiBool q
mutual
theorem Is.sub {N N' : List Addr} {H : Hp} (s : ∀ a, a ∈ N' → a ∈ N) : ∀ {v : V} {d : PyData}, Is N H v d → Is N' H v d
  | _, _, .non => .non
  | _, _, .bl b => .bl b
  | _, _, .int i => .int i
  | _, _, .str h ha => .str h ha
  | _, _, .lst n h t => .lst (fun z => n (s _ z)) h (IsAll.sub s t)
  | _, _, .tup n h t => .tup (fun z => n (s _ z)) h (IsAll.sub s t)
  | _, _, .dct n h => .dct (fun z => n (s _ z)) h
theorem IsAll.sub {N N' : List Addr} {H : Hp} (s : ∀ a, a ∈ N' → a ∈ N) : ∀ {vs : List V} {ds : List PyData}, IsAll N H vs ds → IsAll N' H vs ds
  | _, _, .nil => .nil
  | _, _, .cons h t => .cons (Is.sub s h) (IsAll.sub s t)
end
/-- a new address may be left out, too -/
theorem nin_new {N : List Addr} {H : Hp} {a D : Addr} {o : HO} (n : a ∉ N) (h : H a = some o) (hD : H D = none) : a ∉ D :: N := fun z => by
  cases z with
  | head => rw [hD] at h; cases h
  | tail _ z => exact n z
mutual
theorem Is.more {N : List Addr} {H : Hp} {D : Addr} (hD : H D = none) : ∀ {v : V} {d : PyData}, Is N H v d → Is (D :: N) H v d
  | _, _, .non => .non
  | _, _, .bl b => .bl b
  | _, _, .int i => .int i
  | _, _, .str h ha => .str h ha
  | _, _, .lst n h t => .lst (nin_new n h hD) h (IsAll.more hD t)
  | _, _, .tup n h t => .tup (nin_new n h hD) h (IsAll.more hD t)
  | _, _, .dct n h => .dct (nin_new n h hD) h
theorem IsAll.more {N : List Addr} {H : Hp} {D : Addr} (hD : H D = none) : ∀ {vs : List V} {ds : List PyData}, IsAll N H vs ds → IsAll (D :: N) H vs ds
  | _, _, .nil => .nil
  | _, _, .cons h t => .cons (Is.more hD h) (IsAll.more hD t)
end
theorem ExtN.at_ {N : List Addr} {H H' : Hp} {p : Addr} {o : HO} (hp : p ∈ N) (e : ExtN N H H') : ExtN N H (upd H' p o) := fun b u n h => by
  have nb : b ≠ p := fun z => n (by rw [z]; exact hp)
  rw [upd_ne nb]
  exact e b u n h
theorem nin1 {a d : Addr} (h : a ≠ d) : a ∉ [d] := fun z => h (List.mem_singleton.mp z)
end My

--CUT
namespace My
open PySem PySem.Spec PyProof.Rows L2
/-! ### books as the law keeps them -/
structure LB where
  op : List (Str × Str × Str)
  en : List (Str × Str)
  br : List (Str × Str)
  deep : Str
  gap : Str
def opW : List Str := ["of", "if", "do", "key"]
def enW : List Str := ["in", "fi", "end"]
def brW : List Str := ["lp", "lb"]
def clOf (w : Str) : Str := if w = ("lp" : Str) then "rp" else "rb"
structure LB.Ok (b : LB) : Prop where
  some : b.op ≠ []
  ops : ∀ x ∈ b.op, x.1 ∈ opW ∧ (x.2.1 = ("deeper" : Str) ∨ x.2.1 = ("level" : Str)) ∧ (x.2.2 = ("filled" : Str) ∨ x.2.2 = ("empty" : Str))
  opn : (b.op.map (·.1)).Nodup
  ens : ∀ x ∈ b.en, x.1 ∈ enW ∧ ∃ y ∈ b.op, y.1 = x.2
  enn : (b.en.map (·.1)).Nodup
  brs : ∀ x ∈ b.br, x.1 ∈ brW ∧ x.2 = clOf x.1
  brn : (b.br.map (·.1)).Nodup
  dp : b.deep = ("joins" : Str) ∨ b.deep = ("breaks" : Str)
  gp : b.gap = ("joins" : Str) ∨ b.gap = ("breaks" : Str)
def strD (l : List (Str × Str)) : List (Key × V) := l.map fun p => (Sum.inr p.1, .str p.2)
/-- the openers' dict: each opener's pair at a place of its own -/
inductive OpAt (N : List Addr) (H : Hp) : List (Key × V) → List (Str × Str × Str) → Prop
  | nil : OpAt N H [] []
  | cons {w a b : Str} {t : Addr} {r : List (Key × V)} {l : List (Str × Str × Str)} (n : t ∉ N) (e : H t = some (.tup [.str a, .str b])) (h : OpAt N H r l) : OpAt N H ((Sum.inr w, .ref t) :: r) ((w, a, b) :: l)
structure BookAt (N : List Addr) (H : Hp) (B : Addr) (b : LB) : Prop where
  ex : ∃ o e r kvs, H B = some (.dK [(Sum.inr "openers", .ref o), (Sum.inr "enders", .ref e), (Sum.inr "brackets", .ref r), (Sum.inr "deep", .str b.deep), (Sum.inr "gap", .str b.gap)]) ∧
    H o = some (.dK kvs) ∧ OpAt N H kvs b.op ∧ H e = some (.dK (strD b.en)) ∧ H r = some (.dK (strD b.br)) ∧ o ∉ N ∧ e ∉ N ∧ r ∉ N
  out : B ∉ N
theorem OpAt.mono {N : List Addr} {H H' : Hp} (x : ExtN N H H') : ∀ {kvs : List (Key × V)} {l : List (Str × Str × Str)}, OpAt N H kvs l → OpAt N H' kvs l
  | _, _, .nil => .nil
  | _, _, .cons n e h => .cons n (x _ _ n e) (h.mono x)
theorem BookAt.mono {N : List Addr} {H H' : Hp} {B : Addr} {b : LB} (x : ExtN N H H') (h : BookAt N H B b) : BookAt N H' B b := by
  obtain ⟨⟨o, e, r, kvs, h1, h2, h3, h4, h5, n1, n2, n3⟩, n⟩ := h
  exact ⟨⟨o, e, r, kvs, x _ _ n h1, x _ _ n1 h2, h3.mono x, x _ _ n2 h4, x _ _ n3 h5, n1, n2, n3⟩, n⟩
theorem OpAt.sub {N N' : List Addr} {H : Hp} (s : ∀ a, a ∈ N' → a ∈ N) : ∀ {kvs : List (Key × V)} {l : List (Str × Str × Str)}, OpAt N H kvs l → OpAt N' H kvs l
  | _, _, .nil => .nil
  | _, _, .cons n e h => .cons (fun z => n (s _ z)) e (h.sub s)
theorem OpAt.append {N : List Addr} {H : Hp} : ∀ {kvs ks : List (Key × V)} {l m : List (Str × Str × Str)}, OpAt N H kvs l → OpAt N H ks m → OpAt N H (kvs ++ ks) (l ++ m)
  | _, _, _, _, .nil, b => b
  | _, _, _, _, .cons n e h, b => .cons n e (h.append b)
theorem OpAt.len {N : List Addr} {H : Hp} : ∀ {kvs : List (Key × V)} {l : List (Str × Str × Str)}, OpAt N H kvs l → kvs.length = l.length
  | _, _, .nil => rfl
  | _, _, .cons _ _ h => congrArg Nat.succ h.len
theorem OpAt.keys {N : List Addr} {H : Hp} : ∀ {kvs : List (Key × V)} {l : List (Str × Str × Str)}, OpAt N H kvs l → kvs.map (·.1) = (l.map (·.1)).map Sum.inr
  | _, _, .nil => rfl
  | _, _, .cons _ _ h => congrArg (List.cons _) h.keys
/-- what the openers' dict gives -/
theorem OpAt.val {N : List Addr} {H : Hp} {w : Str} : ∀ {kvs : List (Key × V)} {l : List (Str × Str × Str)}, OpAt N H kvs l →
    (w ∉ l.map (·.1) ∧ valV kvs (Sum.inr w) = none) ∨ ∃ t a b, (w, a, b) ∈ l ∧ t ∉ N ∧ valV kvs (Sum.inr w) = some (.ref t) ∧ H t = some (.tup [.str a, .str b]) ∧ l.lookup w = some (a, b)
  | _, _, .nil => .inl ⟨fun z => (nomatch z), rfl⟩
  | _, _, .cons (w := u) (a := a) (b := b) (t := t) (r := r) (l := l) n e h => by
    by_cases hw : u = w
    · subst hw
      exact .inr ⟨t, a, b, .head _, n, valV_pos rfl, e, by simp [List.lookup]⟩
    · have h1 : valV ((Sum.inr u, V.ref t) :: r) (Sum.inr w) = valV r (Sum.inr w) := valV_neg (fun z => hw (Sum.inr.inj z))
      have h2 : (w == u) = false := by simp; exact fun z => hw z.symm
      rcases h.val (w := w) with ⟨a1, a2⟩ | ⟨t', a', b', m, n', v, e', lk⟩
      · refine .inl ⟨fun z => ?_, by rw [h1, a2]⟩
        cases z with
        | head => exact hw rfl
        | tail _ z => exact a1 z
      · exact .inr ⟨t', a', b', .tail _ m, n', by rw [h1, v], e', by simp only [List.lookup, h2]; exact lk⟩
end My

--CUT
namespace My
open PySem PySem.Spec PyProof.Rows L2
def topS (i : Nat) : Stmt := PySem.Challenge.pw_offside_k04_signs_judged.main.body.getD i (.Pass ⟨0, 0, 0, 0⟩)
abbrev s_is_word : Stmt := topS 3
abbrev s_is_sign : Stmt := topS 4
abbrev s_is_signs : Stmt := topS 5
abbrev s_dice : Stmt := topS 7
abbrev s_roll : Stmt := topS 8
abbrev s_pick : Stmt := topS 9
abbrev s_some : Stmt := topS 10
abbrev s_book : Stmt := topS 11
abbrev s_roles : Stmt := topS 12
abbrev s_words : Stmt := topS 13
abbrev s_head : Stmt := topS 14
abbrev s_body : Stmt := topS 15
abbrev s_line : Stmt := topS 16
abbrev s_end : Stmt := topS 17
abbrev s_read : Stmt := topS 18
abbrev s_columns_near : Stmt := topS 19
abbrev s_good_line : Stmt := topS 20
abbrev s_good_text : Stmt := topS 21
abbrev s_filling : Stmt := topS 22
abbrev s_right : Stmt := topS 23
abbrev s_law : Stmt := topS 24
theorem sc_is_word : FnScope ["value"] ["value"] (defScope s_is_word) := ⟨rfl, rfl, rfl, by decide +kernel, rfl, by decide +kernel, by decide +kernel⟩
theorem sc_is_sign : FnScope ["value"] ["value"] (defScope s_is_sign) := ⟨rfl, rfl, rfl, by decide +kernel, rfl, by decide +kernel, by decide +kernel⟩
theorem sc_is_signs : FnScope ["value", "sign"] ["value"] (defScope s_is_signs) := ⟨rfl, rfl, rfl, by decide +kernel, rfl, by decide +kernel, by decide +kernel⟩
theorem sc_dice : FnScope ["_law_script", "_law_spot", "_law_cell", "_law_great", "_law_blend"] ["_law_script", "_law_spot"] (defScope s_dice) := ⟨rfl, rfl, rfl, by decide +kernel, rfl, by decide +kernel, by decide +kernel⟩
theorem sc_roll : FnScope ["_law_dice_here", "_law_total", "_law_found", "_law_one", "_law_two"] ["_law_dice_here", "_law_total"] (defScope s_roll) := ⟨rfl, rfl, rfl, by decide +kernel, rfl, by decide +kernel, by decide +kernel⟩
theorem sc_pick : FnScope ["_law_dice_here", "_law_items"] ["_law_dice_here", "_law_items"] (defScope s_pick) := ⟨rfl, rfl, rfl, by decide +kernel, rfl, by decide +kernel, by decide +kernel⟩
theorem sc_some : FnScope ["_law_dice_here", "_law_items", "_law_size", "_law_left", "_law_turn"] ["_law_dice_here", "_law_items", "_law_size"] (defScope s_some) := ⟨rfl, rfl, rfl, by decide +kernel, rfl, by decide +kernel, by decide +kernel⟩
theorem sc_book : FnScope ["_law_dice_here", "_law_openers", "_law_enders", "_law_brackets", "_law_word", "_law_book_here"] ["_law_dice_here"] (defScope s_book) := ⟨rfl, rfl, rfl, by decide +kernel, rfl, by decide +kernel, by decide +kernel⟩
theorem sc_roles : FnScope ["_law_book_here", "_law_closers"] ["_law_book_here"] (defScope s_roles) := ⟨rfl, rfl, rfl, by decide +kernel, rfl, by decide +kernel, by decide +kernel⟩
theorem sc_words : FnScope ["_law_dice_here", "_law_book_here", "_law_openers", "_law_enders", "_law_brackets", "_law_closers", "_law_found", "_law_turn", "_law_sorts"] ["_law_dice_here", "_law_book_here"] (defScope s_words) := ⟨rfl, rfl, rfl, by decide +kernel, rfl, by decide +kernel, by decide +kernel⟩
theorem sc_head : FnScope ["_law_book_here", "_law_state", "_law_line_here", "_law_pile", "_law_waiting", "_law_found", "_law_column", "_law_top", "_law_is_free", "_law_depth", "_law_need", "_law_size", "_law_rule"] ["_law_book_here", "_law_state", "_law_line_here"] (defScope s_head) := ⟨rfl, rfl, rfl, by decide +kernel, rfl, by decide +kernel, by decide +kernel⟩
theorem sc_body : FnScope ["_law_book_here", "_law_pile", "_law_words_here", "_law_found", "_law_word", "_law_wanted"] ["_law_book_here", "_law_pile", "_law_words_here"] (defScope s_body) := ⟨rfl, rfl, rfl, by decide +kernel, rfl, by decide +kernel, by decide +kernel⟩
theorem sc_line : FnScope ["_law_book_here", "_law_state", "_law_line_here", "_law_signs", "_law_pile", "_law_reason", "_law_more", "_law_waiting"] ["_law_book_here", "_law_state", "_law_line_here"] (defScope s_line) := ⟨rfl, rfl, rfl, by decide +kernel, rfl, by decide +kernel, by decide +kernel⟩
theorem sc_end : FnScope ["_law_book_here", "_law_state", "_law_pile", "_law_waiting", "_law_block"] ["_law_book_here", "_law_state"] (defScope s_end) := ⟨rfl, rfl, rfl, by decide +kernel, rfl, by decide +kernel, by decide +kernel⟩
theorem sc_read : FnScope ["_law_book_here", "_law_lines", "_law_found", "_law_at", "_law_signs", "_law_state", "_law_reason"] ["_law_book_here", "_law_lines"] (defScope s_read) := ⟨rfl, rfl, rfl, by decide +kernel, rfl, by decide +kernel, by decide +kernel⟩
theorem sc_columns_near : FnScope ["_law_dice_here", "_law_state", "_law_block", "_law_some_here", "_law_one"] ["_law_dice_here", "_law_state"] (defScope s_columns_near) := ⟨rfl, rfl, rfl, by decide +kernel, rfl, by decide +kernel, by decide +kernel⟩
theorem sc_good_line : FnScope ["_law_dice_here", "_law_book_here", "_law_state", "_law_turn", "_law_line_here", "_law_column"] ["_law_dice_here", "_law_book_here", "_law_state"] (defScope s_good_line) := ⟨rfl, rfl, rfl, by decide +kernel, rfl, by decide +kernel, by decide +kernel⟩
theorem sc_good_text : FnScope ["_law_dice_here", "_law_book_here", "_law_size", "_law_lines", "_law_state", "_law_turn", "_law_block"] ["_law_dice_here", "_law_book_here", "_law_size"] (defScope s_good_text) := ⟨rfl, rfl, rfl, by decide +kernel, rfl, by decide +kernel, by decide +kernel⟩
theorem sc_filling : FnScope ["_law_state", "_law_column"] ["_law_state"] (defScope s_filling) := ⟨rfl, rfl, rfl, by decide +kernel, rfl, by decide +kernel, by decide +kernel⟩
theorem sc_right : FnScope ["_law_dice_here", "_law_size", "_law_signs", "_law_turn", "_law_some_here", "_law_odd", "_law_at", "_law_spoilt", "_law_told"] ["_law_dice_here"] (defScope s_right) := ⟨rfl, rfl, rfl, by decide +kernel, rfl, by decide +kernel, by decide +kernel⟩
theorem sc_law : FnScope ["_law_script", "_law_spot", "_law_dice_here", "_law_turn", "_law_book_here", "_law_part", "_law_one"] ["_law_script"] (defScope s_law) := ⟨rfl, rfl, rfl, by decide +kernel, rfl, by decide +kernel, by decide +kernel⟩
structure Txt (K : PySem.W.Frag) (mg : Str → Option Value) where
  f_is_word : Addr
  fd_is_word : FuncData
  F_is_word : Fun K "is_word" "is_word" s_is_word f_is_word fd_is_word
  g_is_word : mg "is_word" = some (.ref f_is_word)
  b_is_word : Binds K fd_is_word ["value"] []
  f_is_sign : Addr
  fd_is_sign : FuncData
  F_is_sign : Fun K "is_sign" "is_sign" s_is_sign f_is_sign fd_is_sign
  g_is_sign : mg "is_sign" = some (.ref f_is_sign)
  b_is_sign : Binds K fd_is_sign ["value"] []
  f_is_signs : Addr
  fd_is_signs : FuncData
  F_is_signs : Fun K "is_signs" "is_signs" s_is_signs f_is_signs fd_is_signs
  g_is_signs : mg "is_signs" = some (.ref f_is_signs)
  b_is_signs : Binds K fd_is_signs ["value"] []
  f_dice : Addr
  fd_dice : FuncData
  F_dice : Fun K "_law_dice" "_law_dice" s_dice f_dice fd_dice
  g_dice : mg "_law_dice" = some (.ref f_dice)
  b_dice : Binds K fd_dice ["_law_script", "_law_spot"] []
  f_roll : Addr
  fd_roll : FuncData
  F_roll : Fun K "_law_roll" "_law_roll" s_roll f_roll fd_roll
  g_roll : mg "_law_roll" = some (.ref f_roll)
  b_roll : Binds K fd_roll ["_law_dice_here", "_law_total"] []
  f_pick : Addr
  fd_pick : FuncData
  F_pick : Fun K "_law_pick" "_law_pick" s_pick f_pick fd_pick
  g_pick : mg "_law_pick" = some (.ref f_pick)
  b_pick : Binds K fd_pick ["_law_dice_here", "_law_items"] []
  f_some : Addr
  fd_some : FuncData
  F_some : Fun K "_law_some" "_law_some" s_some f_some fd_some
  g_some : mg "_law_some" = some (.ref f_some)
  b_some : Binds K fd_some ["_law_dice_here", "_law_items", "_law_size"] []
  f_book : Addr
  fd_book : FuncData
  F_book : Fun K "_law_book" "_law_book" s_book f_book fd_book
  g_book : mg "_law_book" = some (.ref f_book)
  b_book : Binds K fd_book ["_law_dice_here"] []
  f_roles : Addr
  fd_roles : FuncData
  F_roles : Fun K "_law_roles" "_law_roles" s_roles f_roles fd_roles
  g_roles : mg "_law_roles" = some (.ref f_roles)
  b_roles : Binds K fd_roles ["_law_book_here"] []
  f_words : Addr
  fd_words : FuncData
  F_words : Fun K "_law_words" "_law_words" s_words f_words fd_words
  g_words : mg "_law_words" = some (.ref f_words)
  b_words : Binds K fd_words ["_law_dice_here", "_law_book_here"] []
  f_head : Addr
  fd_head : FuncData
  F_head : Fun K "_law_head" "_law_head" s_head f_head fd_head
  g_head : mg "_law_head" = some (.ref f_head)
  b_head : Binds K fd_head ["_law_book_here", "_law_state", "_law_line_here"] []
  f_body : Addr
  fd_body : FuncData
  F_body : Fun K "_law_body" "_law_body" s_body f_body fd_body
  g_body : mg "_law_body" = some (.ref f_body)
  b_body : Binds K fd_body ["_law_book_here", "_law_pile", "_law_words_here"] []
  f_line : Addr
  fd_line : FuncData
  F_line : Fun K "_law_line" "_law_line" s_line f_line fd_line
  g_line : mg "_law_line" = some (.ref f_line)
  b_line : Binds K fd_line ["_law_book_here", "_law_state", "_law_line_here"] []
  f_end : Addr
  fd_end : FuncData
  F_end : Fun K "_law_end" "_law_end" s_end f_end fd_end
  g_end : mg "_law_end" = some (.ref f_end)
  b_end : Binds K fd_end ["_law_book_here", "_law_state"] []
  f_read : Addr
  fd_read : FuncData
  F_read : Fun K "_law_read" "_law_read" s_read f_read fd_read
  g_read : mg "_law_read" = some (.ref f_read)
  b_read : Binds K fd_read ["_law_book_here", "_law_lines"] []
  f_columns_near : Addr
  fd_columns_near : FuncData
  F_columns_near : Fun K "_law_columns_near" "_law_columns_near" s_columns_near f_columns_near fd_columns_near
  g_columns_near : mg "_law_columns_near" = some (.ref f_columns_near)
  b_columns_near : Binds K fd_columns_near ["_law_dice_here", "_law_state"] []
  f_good_line : Addr
  fd_good_line : FuncData
  F_good_line : Fun K "_law_good_line" "_law_good_line" s_good_line f_good_line fd_good_line
  g_good_line : mg "_law_good_line" = some (.ref f_good_line)
  b_good_line : Binds K fd_good_line ["_law_dice_here", "_law_book_here", "_law_state"] []
  f_good_text : Addr
  fd_good_text : FuncData
  F_good_text : Fun K "_law_good_text" "_law_good_text" s_good_text f_good_text fd_good_text
  g_good_text : mg "_law_good_text" = some (.ref f_good_text)
  b_good_text : Binds K fd_good_text ["_law_dice_here", "_law_book_here", "_law_size"] []
  f_filling : Addr
  fd_filling : FuncData
  F_filling : Fun K "_law_filling" "_law_filling" s_filling f_filling fd_filling
  g_filling : mg "_law_filling" = some (.ref f_filling)
  b_filling : Binds K fd_filling ["_law_state"] []
  f_right : Addr
  fd_right : FuncData
  F_right : Fun K "_law_right" "_law_right" s_right f_right fd_right
  g_right : mg "_law_right" = some (.ref f_right)
  b_right : Binds K fd_right ["_law_dice_here"] []
  t_MAX_LETTERS : Tok
  c_MAX_LETTERS : mg "MAX_LETTERS" = some (.int (8) t_MAX_LETTERS)
  a_SIGNS : Addr
  c_SIGNS : mg "SIGNS" = some (.ref a_SIGNS)
  q_SIGNS : ∀ H : Hp, SqT K H a_SIGNS [.str "{", .str "}", .str ";"]
  z_isinstance : mg "isinstance" = none
  z_str : mg "str" = none
  z_len : mg "len" = none
  z_tuple : mg "tuple" = none
  z_all : mg "all" = none
  z_int : mg "int" = none
  z_abs : mg "abs" = none
  z_max : mg "max" = none
  z_list : mg "list" = none
  z_range : mg "range" = none
  z_min : mg "min" = none
  z_sorted : mg "sorted" = none
end My
namespace My
open PySem PySem.Spec PyProof.Rows L2
section
variable {P : Program} {w : World} {K : PySem.W.Frag} {mg : Str → Option Value} {base : Heap}
/-! ### _law_dice -/
def spDice (K : PySem.W.Frag) : Sp := fun vs H Q _ => ∃ (a : Addr) (ns : List Int) (k : Nat), vs = [.ref a, .int k] ∧ SqL K H a (ns.map V.int) ∧ ∀ (d : Addr) (H' : Hp), H d = none → Same H H' → Dice H' d → Q (.ref d) H'
theorem ok_dice (T : Txt K mg) : FnOk P w K mg base CX0 1 T.f_dice T.fd_dice ["_law_script", "_law_spot"] (spDice K) := by
  refine T.F_dice.ok sc_dice (fun vs H Q E h => ?_) (fun cdv A outer s H vs Q E hr h => ?_)
  · obtain ⟨a, ns, k, rfl, _⟩ := h
    rfl
  · obtain ⟨a, ns, k, rfl, hs, q⟩ := h
    refine ⟨_, (pss_cons (ps_set (i := 2) sc_dice.nd rfl (.inl rfl) (pe_op op_add (pe_op op_mul pe_int (pv 1)) pe_int))
      (pss_cons (ps_if (pt_cmpR op_lt (pv 1) (pe_callB (c_len (K := K)) (by rfl) T.z_len (by decide +kernel) (pa_cons (pv 0) pa_nil)) (nomark _)) (pss_one (ps_set (i := 2) sc_dice.nd rfl (.inl rfl) (pe_ix (i_list (K := K)) (pv 0) (pv 1) (fun _ _ => rfl)))) pss_nil)
      (pss_cons (ps_set (i := 3) sc_dice.nd rfl (.inl rfl) (pe_op op_mod (pe_callTy c_int1 (by rfl) T.z_int (by decide +kernel) (pa_cons (pe_callB c_abs (by rfl) T.z_abs (by decide +kernel) (pa_cons (pv 2) pa_nil)) pa_nil)) (pe_op op_powW (pe_op op_powW pe_int pe_int) pe_int)))
      (pss_cons (ps_set (i := 4) sc_dice.nd rfl (.inl rfl) (pe_op op_add (pe_op op_add (pe_op op_add (pe_op op_mul (pe_op op_mod (pe_callTy c_int1 (by rfl) T.z_int (by decide +kernel) (pa_cons (pv 3) pa_nil)) pe_int) pe_int) (pe_op op_mul pe_int (pv 1))) (pe_op op_mul pe_int (pe_callTy c_int1 (by rfl) T.z_int (by decide +kernel) (pa_cons (pe_cmpR op_lt (pv 2) pe_int (nomark _)) pa_nil)))) pe_int))
      (pss_one (ps_ret (pe_lst (pa_cons (pe_callB (c_max2 rfl) (by rfl) T.z_max (by decide +kernel) (pa_cons pe_int (pa_cons (pe_op op_sub (pv 3) (pe_op op_powW pe_int pe_int)) pa_nil))) (pa_cons (pe_op op_mod (pe_callTy c_int1 (by rfl) T.z_int (by decide +kernel) (pa_cons (pv 4) pa_nil)) pe_int) (pa_cons pe_int pa_nil)))))))))), ?_⟩
    walk_at "zrd"
    refine ⟨a, _, rfl, .inl hs, ?_⟩
    walk_at "zrd"
    have fin : ∀ (x y z : Int) (p : Addr), 0 ≤ x → H p = none → Q (.ref p) (upd H p (.lst [.int x, .int y, .int z])) := fun x y z p h0 hp =>
      q p _ hp (fun b o e => by rw [upd_ne (ne_of_none e hp)]; exact e) (Dice.mk3 h0)
    have tail : ∀ (g : Int), 0 ≤ (if g > 0 then g else 0) := fun g => by
      by_cases h : g > 0
      · rw [if_pos h]; omega
      · rw [if_neg h]; omega
    refine ite2 (fun e => ?_) (fun e => ?_)
    · have hk : k < ns.length := by
        have e1 := of_decide_eq_true e
        rw [List.length_map] at e1
        omega
      walk_at "zrd"
      refine ⟨a, _, (k : Int), .int ns[k], rfl, rfl, hs, atI_nat ?_, ?_⟩
      · rw [List.getElem?_map, List.getElem?_eq_getElem hk]
        rfl
      walk_at "zrd"
      exact ⟨by show 3 ≤ sizeLine; decide, fun p hp => fin _ _ _ p (tail _) hp⟩
    · walk_at "zrd"
      exact ⟨by show 3 ≤ sizeLine; decide, fun p hp => fin _ _ _ p (tail _) hp⟩
/-! ### _law_roll -/
def spRoll : Sp := fun vs H Q _ => ∃ (d : Addr) (n : Int), vs = [.ref d, .int n] ∧ Dice H d ∧ 1 ≤ n ∧ n < 1073741824 ∧ ∀ (r : Nat) (H' : Hp), (r : Int) < n → Ext d H H' → Dice H' d → Q (.int r) H'
theorem ok_roll (T : Txt K mg) : FnOk P w K mg base CX0 1 T.f_roll T.fd_roll ["_law_dice_here", "_law_total"] spRoll := by
  refine T.F_roll.ok sc_roll (fun vs H Q E h => ?_) (fun cdv A outer s H vs Q E hr h => ?_)
  · obtain ⟨d, n, rfl, _⟩ := h
    rfl
  · obtain ⟨d, n, rfl, ⟨a, b, c, h0, hd⟩, h1, h2, q⟩ := h
    refine ⟨_, (pss_cons (ps_if (pt_cmpR op_gt (pe_ix (i_list (K := K)) (pv 0) pe_int (fun _ _ => rfl)) pe_int (nomark _)) (pss_cons (ps_set (i := 2) sc_roll.nd rfl (.inl rfl) (pe_op op_mod (pe_callTy c_int1 (by rfl) T.z_int (by decide +kernel) (pa_cons (pe_ix (i_list (K := K)) (pv 0) pe_int (fun _ _ => rfl)) pa_nil)) (pv 1)))
      (pss_cons (ps_asg (pe_op op_fdiv (pe_ix (i_list (K := K)) (pv 0) pe_int (fun _ _ => rfl)) (pv 1)) (pg_sub (pv 0) pe_int set_list))
      (pss_one (ps_ret (pv 2))))) pss_nil)
      (pss_cons (ps_asg (pe_op op_add (pe_ix (i_list (K := K)) (pv 0) pe_int (fun _ _ => rfl)) pe_int) (pg_sub (pv 0) pe_int set_list))
      (pss_cons (ps_set (i := 3) sc_roll.nd rfl (.inl rfl) (pe_op op_mod (pe_callTy c_int1 (by rfl) T.z_int (by decide +kernel) (pa_cons (pe_op op_add (pe_ix (i_list (K := K)) (pv 0) pe_int (fun _ _ => rfl)) (pe_op op_mul pe_int (pe_ix (i_list (K := K)) (pv 0) pe_int (fun _ _ => rfl)))) pa_nil)) pe_int))
      (pss_cons (ps_set (i := 4) sc_roll.nd rfl (.inl rfl) (pe_op op_add (pe_op op_mul (pe_op op_mod (pe_callTy c_int1 (by rfl) T.z_int (by decide +kernel) (pa_cons (pe_op op_mul (pv 3) (pv 3)) pa_nil)) pe_int) (pv 3)) (pe_op op_mul pe_int (pe_ix (i_list (K := K)) (pv 0) pe_int (fun _ _ => rfl)))))
      (pss_cons (ps_set (i := 4) sc_roll.nd rfl (.inl rfl) (pe_op op_mod (pe_callTy c_int1 (by rfl) T.z_int (by decide +kernel) (pa_cons (pv 4) pa_nil)) pe_int))
      (pss_one (ps_ret (pe_op op_mod (pe_callTy c_int1 (by rfl) T.z_int (by decide +kernel) (pa_cons (pe_op op_fdiv (pv 4) pe_int) pa_nil)) (pv 1))))))))), ?_⟩
    walk_at "zrd"
    refine ite2 (fun e => ?_) (fun e => ?_)
    · walk_at "zrd"
      obtain ⟨h3, h4⟩ := nx_pos h1 h0
      have q' := q (a % n).toNat (upd H d (.lst [.int (a / n), .int b, .int c])) h3 (Ext.refl d H).at_ (Dice.mk3 (Int.ediv_nonneg h0 (by omega)))
      rw [h4] at q'
      exact q'
    · walk_at "zrd"
      have key : ∀ z : Int, 0 ≤ z → Q (.int (z % n)) (upd H d (.lst [.int a, .int b, .int (c + 1)])) := fun z hz => by
        obtain ⟨h3, h4⟩ := nx_pos h1 hz
        have q' := q (z % n).toNat (upd H d (.lst [.int a, .int b, .int (c + 1)])) h3 (Ext.refl d H).at_ (Dice.mk3 h0)
        rw [h4] at q'
        exact q'
      exact key _ (Int.ediv_nonneg (Int.emod_nonneg _ (by decide)) (by decide))
/-! ### _law_pick -/
def spPick : Sp := fun vs H Q _ => ∃ (d l : Addr) (xs : List V), vs = [.ref d, .ref l] ∧ Dice H d ∧ H l = some (.lst xs) ∧ l ≠ d ∧ xs ≠ [] ∧ xs.length < 1073741824 ∧ ∀ (v : V) (H' : Hp), v ∈ xs → Ext d H H' → Dice H' d → Q v H'
theorem ok_pick (T : Txt K mg) : FnOk P w K mg base CX0 2 T.f_pick T.fd_pick ["_law_dice_here", "_law_items"] spPick := by
  refine T.F_pick.ok sc_pick (fun vs H Q E h => ?_) (fun cdv A outer s H vs Q E hr h => ?_)
  · obtain ⟨d, l, xs, rfl, _⟩ := h
    rfl
  · obtain ⟨d, l, xs, rfl, hd, hl, hne, h1, h2, q⟩ := h
    have h0 : 1 ≤ xs.length := List.length_pos_iff.mpr h1
    refine ⟨_, (pss_one (ps_ret (pe_ix (i_list (K := K)) (pv 1) (pe_call (ok_roll T) (hr.mono (by decide)) (by rfl) T.g_roll T.F_roll.kp T.b_roll .nil pass0 (pa_cons (pv 0) (pa_cons (pe_callB (c_len (K := K)) (by rfl) T.z_len (by decide +kernel) (pa_cons (pv 1) pa_nil)) pa_nil))) (fun _ _ => rfl)))), ?_⟩
    walk_at "zrd"
    refine ⟨d, (xs.length : Int), rfl, hd, by omega, by omega, fun r H1 hr1 e1 d1 => ?_⟩
    have hl1 : H1 l = some (.lst xs) := e1 _ _ hne hl
    have hr2 : r < xs.length := by omega
    refine ⟨l, xs, r, xs[r], rfl, rfl, .inl (.inl hl1), atI_nat (List.getElem?_eq_getElem hr2), ?_⟩
    exact q _ H1 (List.getElem_mem hr2) e1 d1
end
end My

namespace My
open PySem PySem.Spec PyProof.Rows L2
section
variable {P : Program} {w : World} {K : PySem.W.Frag} {mg : Str → Option Value} {base : Heap}
/-! ### _law_some -/
def spSome : Sp := fun vs H Q _ => ∃ (d l : Addr) (xs : List V) (n : Int), vs = [.ref d, .ref l, .int n] ∧ Dice H d ∧ H l = some (.lst xs) ∧ l ≠ d ∧ 0 ≤ n ∧ xs.length < 100000 ∧
  ∀ (p : Addr) (ys rest : List V) (H' : Hp), H p = none → (ys ++ rest).Perm xs → (ys.length : Int) = (if (xs.length : Int) < n then (xs.length : Int) else n) → Ext d H H' → Dice H' d → H' p = some (.lst ys) → Q (.ref p) H'
theorem ok_some (T : Txt K mg) : FnOk P w K mg base CX0 2 T.f_some T.fd_some ["_law_dice_here", "_law_items", "_law_size"] spSome := by
  refine T.F_some.ok sc_some (fun vs H Q E h => ?_) (fun cdv A outer s H vs Q E hr h => ?_)
  · obtain ⟨d, l, xs, n, rfl, _⟩ := h
    rfl
  · obtain ⟨d, l, xs, n, rfl, hd, hl, hne, h0, h1, q⟩ := h
    refine ⟨_, (pss_cons (ps_set (i := 3) sc_some.nd rfl (.inr rfl) (pe_callTy (c_list (K := K)) (by rfl) T.z_list (by decide +kernel) (pa_cons (pv 1) pa_nil)))
      (pss_one (ps_ret (pe_lc (own := [("_law_turn", 4)]) rfl sc_some.nd (pi_range1 (by rfl) T.z_range (pa_cons (pe_callB (c_min2 rfl) (by rfl) T.z_min (by decide +kernel) (pa_cons (pv 2) (pa_cons (pe_callB (c_len (K := K)) (by rfl) T.z_len (by decide +kernel) (pa_cons (pv 3) pa_nil)) pa_nil))) pa_nil)) (blkOk_by (own := [("_law_turn", 4)]) (N := ["_law_dice_here", "_law_items", "_law_size", "_law_left", "_law_turn"]) (sc := (defScope s_some)) (by decide +kernel)) (fun _ _ _ _ _ => (pg_name (i := 4) sc_some.nd rfl (.inl rfl))) (fun _ _ _ _ _ => pts_nil) (fun _ _ _ _ _ => (e_bm (K := K) PySem.F.plainAttrs_list PySem.F.slot_list_pop PySem.F.type_list_pop mt_popAt (pv 3) (pa_cons (pe_call (ok_roll T) (hr.mono (by decide)) (by rfl) T.g_roll T.F_roll.kp T.b_roll .nil pass0 (pa_cons (pv 0) (pa_cons (pe_callB (c_len (K := K)) (by rfl) T.z_len (by decide +kernel) (pa_cons (pv 3) pa_nil)) pa_nil))) pa_nil))))))), ?_⟩
    walk_at "zrd"
    intro m hm
    have hlm : l ≠ m := ne_of_none hl hm
    have hmd : m ≠ d := hd.ne hm
    walk_at "zrd"
    have hmin : (if (xs.length : Int) < n then (xs.length : Int) else n) < 100000 := by
      by_cases h : (xs.length : Int) < n
      · rw [if_pos h]; omega
      · rw [if_neg h]; omega
    have hmin0 : 0 ≤ (if (xs.length : Int) < n then (xs.length : Int) else n) := by
      by_cases h : (xs.length : Int) < n
      · rw [if_pos h]; omega
      · rw [if_neg h]; omega
    have hminx : (if (xs.length : Int) < n then (xs.length : Int) else n) ≤ xs.length := by
      by_cases h : (xs.length : Int) < n
      · rw [if_pos h]; omega
      · rw [if_neg h]; omega
    refine r_rng1j (by omega) (by omega) ?_
    intro D hD
    have hDm : D ≠ m := (ne_of_none (upd_same (H := H)) hD).symm
    have hDd : D ≠ d := (hd.new hm).ne hD
    have hDH : H D = none := by
      rw [upd_ne hDm] at hD
      exact hD
    generalize hn : (if (xs.length : Int) < n then (xs.length : Int) else n) = z at hmin hmin0 hminx q
    refine lcB walk_range (fun i H' => ∃ ys rest : List V, ys.length = i ∧ (ys ++ rest).Perm xs ∧ H' D = some (.lst ys) ∧ H' m = some (.lst rest) ∧ Dice H' d ∧ Ext d H H')
      ⟨[], xs, rfl, .refl _, upd_same, by rw [upd_ne hDm.symm, upd_same], (hd.new hm).new hD, ((Ext.refl d H).grown hm).grown hDH⟩ (fun _ _ _ _ => trivial) (fun i x H1 H2 hi hP hy => ?_) (fun H1 hP => ?_)
    · obtain ⟨rfl, rfl⟩ := hy
      obtain ⟨ys, rest, hl1, hp1, hD1, hm1, hd1, he1⟩ := hP
      have hlen : ys.length + rest.length = xs.length := by
        rw [← hp1.length_eq, List.length_append]
      have hpos : 1 ≤ rest.length := by omega
      walk_at "zrd"
      refine ⟨rfl, ?_⟩
      walk_at "zrd"
      refine ⟨d, (rest.length : Int), rfl, hd1, by omega, by omega, fun r H3 hr3 he3 hd3 => ?_⟩
      have hr4 : r < rest.length := by omega
      have hm3 : H3 m = some (.lst rest) := he3 _ _ hmd hm1
      have hD3 : H3 D = some (.lst ys) := he3 _ _ hDd hD1
      walk_at "zrd"
      refine r_popAt hm3 (by omega) (List.getElem?_eq_getElem hr4) ⟨ys, by rw [upd_ne hDm]; exact hD3, Nat.lt_of_lt_of_le (show ys.length < 100000 by omega) (by decide), ys ++ [rest[r]], rest.eraseIdx r, ?_, ?_, upd_same, ?_, ?_, ?_⟩
      · rw [List.length_append, hl1]
        rfl
      · rw [List.append_assoc]
        exact ((get_cons_erase hr4).append_left ys).trans hp1
      · rw [upd_ne hDm.symm, upd_same]
      · exact (hd3.off hmd).off hDd
      · exact ((he1.trans he3).grown hm).grown hDH
    · obtain ⟨ys, rest, hl1, hp1, hD1, hm1, hd1, he1⟩ := hP
      exact q D ys rest H1 hDH hp1 (by omega) he1 hd1 hD1
end
end My

--CUT
namespace My
open PySem PySem.Spec PyProof.Rows L2
section
variable {P : Program} {w : World} {K : PySem.W.Frag} {mg : Str → Option Value} {base : Heap}
theorem not_in_take {α : Type} : ∀ {l : List α} {i : Nat} {x : α}, l.Nodup → l[i]? = some x → x ∉ l.take i
  | [], _, _, _, h => by simp at h
  | y :: r, 0, _, _, _ => fun z => nomatch z
  | y :: r, i + 1, x, n, h => fun z => by
    have n2 := List.nodup_cons.mp n
    have h2 : r[i]? = some x := by simpa using h
    cases z with
    | head => exact n2.1 (List.mem_of_getElem? h2)
    | tail _ z => exact not_in_take n2.2 h2 z
theorem perm_nodup {ys rest xs : List V} (h : (ys ++ rest).Perm xs) (n : xs.Nodup) : ys.Nodup ∧ ∀ y ∈ ys, y ∈ xs :=
  ⟨(List.nodup_append.mp (h.nodup_iff.mpr n)).1, fun y hy => h.subset (List.mem_append_left _ hy)⟩
theorem str_mem {w : Str} {l : List Str} (h : V.str w ∈ l.map V.str) : w ∈ l := by
  obtain ⟨u, hu, e⟩ := List.mem_map.mp h
  cases e
  exact hu
theorem strD_none {w : Str} : ∀ {l : List (Str × Str)}, w ∉ l.map (·.1) → valV (strD l) (Sum.inr w) = none
  | [], _ => rfl
  | (u, x) :: r, h => by
    have hw : ¬ (Sum.inr u : Key) = Sum.inr w := fun z => h (by rw [Sum.inr.inj z]; exact .head _)
    show valV ((Sum.inr u, V.str x) :: strD r) (Sum.inr w) = none
    rw [valV_neg hw]
    exact strD_none fun z => h (.tail _ z)
theorem strD_put {w x : Str} {l : List (Str × Str)} (h : w ∉ l.map (·.1)) : putK (strD l) (Sum.inr w) (.str x) = strD (l ++ [(w, x)]) := by
  rw [putK_new _ (strD_none h)]
  unfold strD
  rw [List.map_append]
  rfl
theorem nodup_of_map {α β : Type} {f : α → β} : ∀ {l : List α}, (l.map f).Nodup → l.Nodup
  | [], _ => .nil
  | _ :: _, h => by
    have h2 := List.nodup_cons.mp h
    exact List.nodup_cons.mpr ⟨fun z => h2.1 (List.mem_map.mpr ⟨_, z, rfl⟩), nodup_of_map h2.2⟩
theorem ne_obj {H : Hp} {a b : Addr} {x y : HO} (h : H a = some x) (g : H b = some y) (n : x ≠ y) : a ≠ b := fun e => n (by rw [e] at h; exact Option.some.inj (h.symm.trans g))
theorem OpAt.off {N : List Addr} {H : Hp} {a : Addr} {ks : List (Key × V)} (ha : H a = some (.dK ks)) : ∀ {kvs : List (Key × V)} {l : List (Str × Str × Str)}, OpAt N H kvs l → OpAt (a :: N) H kvs l
  | _, _, .nil => .nil
  | _, _, .cons n e h => .cons (fun z => by
      cases z with
      | head => exact ne_obj e ha (fun z => nomatch z) rfl
      | tail _ z => exact n z) e (h.off ha)
theorem lr_merge : mergeK [] ([(Sum.inr "lp", .str "rp"), (Sum.inr "lb", .str "rb")] : List (Key × V)) = strD [("lp", "rp"), ("lb", "rb")] := by rfl
theorem lr_val {u : Str} (h : u ∈ brW) : valV (strD [("lp", "rp"), ("lb", "rb")]) (Sum.inr u) = some (.str (clOf u)) := by
  rcases List.mem_cons.mp h with rfl | h
  · exact valV_pos rfl
  · rw [List.mem_singleton.mp h]
    have e : clOf ("lb" : Str) = ("rb" : Str) := by decide
    rw [e]
    refine (valV_neg (fun z => absurd (Sum.inr.inj (α := Int) z) (show ¬ ("lp" : Str) = ("lb" : Str) by decide))).trans (valV_pos ?_)
    rfl
def bkv (o e r : Addr) : List (Key × V) := [(Sum.inr "openers", .ref o), (Sum.inr "enders", .ref e), (Sum.inr "brackets", .ref r)]
theorem bkv_merge (o e r : Addr) : mergeK [] (bkv o e r) = bkv o e r := by rfl
def bkv4 (o e r : Addr) (a : Str) : List (Key × V) := [(Sum.inr "openers", .ref o), (Sum.inr "enders", .ref e), (Sum.inr "brackets", .ref r), (Sum.inr "deep", .str a)]
def bkv5 (o e r : Addr) (a b : Str) : List (Key × V) := [(Sum.inr "openers", .ref o), (Sum.inr "enders", .ref e), (Sum.inr "brackets", .ref r), (Sum.inr "deep", .str a), (Sum.inr "gap", .str b)]
theorem bkv_deep (o e r : Addr) (a : Str) : putK (bkv o e r) (Sum.inr "deep") (V.str a) = bkv4 o e r a := by rfl
theorem bkv_gap (o e r : Addr) (a b : Str) : putK (bkv4 o e r a) (Sum.inr "gap") (V.str b) = bkv5 o e r a b := by rfl
theorem two_upd {H : Hp} {p : Addr} {x y : HO} (g : H p = none) : ∃ HB, upd (upd H p x) p y = HB ∧ HB p = some y ∧ (∀ b z, H b = some z → HB b = some z) ∧ ∀ d, Dice H d → Dice HB d :=
  ⟨_, rfl, upd_same, fun b z h => by rw [upd_ne (ne_of_none h g), upd_ne (ne_of_none h g)]; exact h, fun d h => (h.new g).off (h.ne g)⟩
/-! ### _law_book -/
def spBook : Sp := fun vs H Q _ => ∃ d : Addr, vs = [.ref d] ∧ Dice H d ∧ ∀ (B : Addr) (b : LB) (H' : Hp), b.Ok → BookAt [d] H' B b → Ext d H H' → Dice H' d → Q (.ref B) H'
theorem ok_book (T : Txt K mg) : FnOk P w K mg base CX0 3 T.f_book T.fd_book ["_law_dice_here"] spBook := by
  refine T.F_book.ok sc_book (fun vs H Q E h => ?_) (fun cdv A outer s H vs Q E hr h => ?_)
  · obtain ⟨d, rfl, _⟩ := h
    rfl
  · obtain ⟨d, rfl, hd, q⟩ := h
    refine ⟨_, (pss_cons (ps_par3 (i := 1) (j := 2) (l := 3) rfl sc_book.nd rfl rfl rfl (by decide) (by decide) (by decide) rfl rfl rfl (pa_cons pe_dnewK (pa_cons pe_dnewK (pa_cons pe_dnewK pa_nil))) (by rfl))
      (pss_cons (ps_for PassesOwn.never rfl (p_list (K := K) (pe_call (ok_some T) (hr.mono (by decide)) (by rfl) T.g_some T.F_some.kp T.b_some .nil pass0 (pa_cons (pv 0) (pa_cons (pe_lst (pa_cons pe_str (pa_cons pe_str (pa_cons pe_str (pa_cons pe_str pa_nil))))) (pa_cons (pe_op op_add pe_int (pe_call (ok_roll T) (hr.mono (by decide)) (by rfl) T.g_roll T.F_roll.kp T.b_roll .nil pass0 (pa_cons (pv 0) (pa_cons pe_int pa_nil)))) pa_nil))))) (pg_name (i := 4) sc_book.nd rfl (.inl rfl)) (pss_one (ps_dput (hu_of hr) (pv 1) (pv 4) (pe_tup (pa_cons (pe_call (ok_pick T) (hr.mono (by decide)) (by rfl) T.g_pick T.F_pick.kp T.b_pick .nil pass0 (pa_cons (pv 0) (pa_cons (pe_lst (pa_cons pe_str (pa_cons pe_str pa_nil))) pa_nil))) (pa_cons (pe_call (ok_pick T) (hr.mono (by decide)) (by rfl) T.g_pick T.F_pick.kp T.b_pick .nil pass0 (pa_cons (pv 0) (pa_cons (pe_lst (pa_cons pe_str (pa_cons pe_str pa_nil))) pa_nil))) pa_nil))) rfl)))
      (pss_cons (ps_for PassesOwn.never rfl (p_list (K := K) (pe_call (ok_some T) (hr.mono (by decide)) (by rfl) T.g_some T.F_some.kp T.b_some .nil pass0 (pa_cons (pv 0) (pa_cons (pe_lst (pa_cons pe_str (pa_cons pe_str (pa_cons pe_str pa_nil)))) (pa_cons (pe_call (ok_roll T) (hr.mono (by decide)) (by rfl) T.g_roll T.F_roll.kp T.b_roll .nil pass0 (pa_cons (pv 0) (pa_cons pe_int pa_nil))) pa_nil))))) (pg_name (i := 4) sc_book.nd rfl (.inl rfl)) (pss_one (ps_dput (hu_of hr) (pv 2) (pv 4) (pe_call (ok_pick T) (hr.mono (by decide)) (by rfl) T.g_pick T.F_pick.kp T.b_pick .nil pass0 (pa_cons (pv 0) (pa_cons (pe_callB (c_sortedD rfl) (by rfl) T.z_sorted (by decide +kernel) (pa_cons (pv 1) pa_nil)) pa_nil))) rfl)))
      (pss_cons (ps_for PassesOwn.never rfl (p_list (K := K) (pe_call (ok_some T) (hr.mono (by decide)) (by rfl) T.g_some T.F_some.kp T.b_some .nil pass0 (pa_cons (pv 0) (pa_cons (pe_lst (pa_cons pe_str (pa_cons pe_str pa_nil))) (pa_cons (pe_call (ok_roll T) (hr.mono (by decide)) (by rfl) T.g_roll T.F_roll.kp T.b_roll .nil pass0 (pa_cons (pv 0) (pa_cons pe_int pa_nil))) pa_nil))))) (pg_name (i := 4) sc_book.nd rfl (.inl rfl)) (pss_one (ps_dput (hu_of hr) (pv 3) (pv 4) (pe_dget (hu_of hr) (pe_disp (pps_cons pe_str pe_str (pps_cons pe_str pe_str pps_nil)) (by rfl) (by rfl) (fun z => by cases z) (by decide)) (pv 4) (fun _ _ => rfl)) rfl)))
      (pss_cons (ps_set (i := 5) sc_book.nd rfl (.inl rfl) (pe_disp (pps_cons pe_str (pv 1) (pps_cons pe_str (pv 2) (pps_cons pe_str (pv 3) pps_nil))) (by rfl) (by rfl) (fun z => by cases z) (by decide)))
      (pss_cons (ps_dput (hu_of hr) (pv 5) pe_str (pe_call (ok_pick T) (hr.mono (by decide)) (by rfl) T.g_pick T.F_pick.kp T.b_pick .nil pass0 (pa_cons (pv 0) (pa_cons (pe_lst (pa_cons pe_str (pa_cons pe_str (pa_cons pe_str pa_nil)))) pa_nil))) rfl)
      (pss_cons (ps_dput (hu_of hr) (pv 5) pe_str (pe_call (ok_pick T) (hr.mono (by decide)) (by rfl) T.g_pick T.F_pick.kp T.b_pick .nil pass0 (pa_cons (pv 0) (pa_cons (pe_lst (pa_cons pe_str (pa_cons pe_str (pa_cons pe_str pa_nil)))) pa_nil))) rfl)
      (pss_one (ps_ret (pv 5)))))))))), ?_⟩
    walk_at "zrd"
    intro o h1
    walk_at "zrd"
    intro e h2
    walk_at "zrd"
    intro r h3
    walk_at "zrd"
    refine r_par33 ?_
    have noe : o ≠ e := ne_any (by walk_at "zgetx") h2
    have nor : o ≠ r := ne_any (by walk_at "zgetx") h3
    have ner : e ≠ r := ne_any (by walk_at "zgetx") h3
    have nod : o ≠ d := Dice.ne (by walk_at "zdice") h1
    have ned : e ≠ d := Dice.ne (by walk_at "zdice") h2
    have nrd : r ≠ d := Dice.ne (by walk_at "zdice") h3
    have d0 : Dice (upd (upd (upd H o (.dK [])) e (.dK [])) r (.dK [])) d := by walk_at "zdice"
    have e0 : Ext d H (upd (upd (upd H o (.dK [])) e (.dK [])) r (.dK [])) := by walk_at "zext"
    have o0 : (upd (upd (upd H o (.dK [])) e (.dK [])) r (.dK [])) o = some (.dK []) := by walk_at "zget"
    have f0 : (upd (upd (upd H o (.dK [])) e (.dK [])) r (.dK [])) e = some (.dK []) := by walk_at "zget"
    have r0 : (upd (upd (upd H o (.dK [])) e (.dK [])) r (.dK [])) r = some (.dK []) := by walk_at "zget"
    have eH : H e = none := by
      rw [← h2, upd_ne noe.symm]
    have rH : H r = none := by
      rw [← h3, upd_ne ner.symm, upd_ne nor.symm]
    generalize upd (upd (upd H o (.dK [])) e (.dK [])) r (.dK []) = H0 at d0 e0 o0 f0 r0
    clear h2 h3
    walk_at "zrd"
    refine ⟨by walk_at "zsz", fun l hl => ?_⟩
    walk_at "zrd"
    refine ⟨d, 4, rfl, by walk_at "zdice", by decide, by decide, fun k H1 hk e1 d1 => ?_⟩
    walk_at "zrd"
    have nld : l ≠ d := Dice.ne (by walk_at "zdice") hl
    refine ⟨d, l, _, 1 + (k : Int), rfl, d1, e1 _ _ nld (by walk_at "zget"), nld, by omega, (by show 4 < 100000; decide), fun p ys rest H2 hp hperm hlen e2 d2 hp2 => ?_⟩
    obtain ⟨ysn, ysm⟩ := perm_nodup hperm (by decide +kernel)
    have hlen2 : ys ≠ [] := fun z => by
      rw [z] at hlen
      have : (([] : List V).length : Int) = if (([V.str (Str.ofString "of"), V.str (Str.ofString "if"), V.str (Str.ofString "do"), V.str (Str.ofString "key")] : List V).length : Int) < 1 + (k : Int) then (([V.str (Str.ofString "of"), V.str (Str.ofString "if"), V.str (Str.ofString "do"), V.str (Str.ofString "key")] : List V).length : Int) else 1 + (k : Int) := hlen
      split at this
      · simp at this
      · simp at this
        omega
    have hys4 : ys.length ≤ 4 := by
      have := hperm.length_eq
      rw [List.length_append] at this
      have h4 : ([V.str (Str.ofString "of"), V.str (Str.ofString "if"), V.str (Str.ofString "do"), V.str (Str.ofString "key")] : List V).length = 4 := rfl
      omega
    have x1 : Ext d H0 H2 := Ext.trans (Ext.trans (by walk_at "zext") e1) e2
    have npo : p ≠ o := (ne_of_none (e1 _ _ nod (same_upd hl _ _ o0)) hp).symm
    have npe : p ≠ e := (ne_of_none (e1 _ _ ned (same_upd hl _ _ f0)) hp).symm
    have npr : p ≠ r := (ne_of_none (e1 _ _ nrd (same_upd hl _ _ r0)) hp).symm
    have npd : p ≠ d := d1.ne hp
    have m1 : o ∈ [o, d] := .head _
    have m2 : d ∈ [o, d] := .tail _ (.head _)
    walk_at "zrd"
    refine forB (walk_list (xs := ys)) (fun i σ H' => ∃ y4 y5 op kvs, σ = [some (.ref d), some (.ref o), some (.ref e), some (.ref r), y4, y5] ∧ H' p = some (.lst ys) ∧ H' o = some (.dK kvs) ∧ OpAt [o, d] H' kvs op ∧ (op.map (·.1)).map V.str = ys.take i ∧
        (∀ x ∈ op, (x.2.1 = ("deeper" : Str) ∨ x.2.1 = ("level" : Str)) ∧ (x.2.2 = ("filled" : Str) ∨ x.2.2 = ("empty" : Str))) ∧ H' e = some (.dK []) ∧ H' r = some (.dK []) ∧ Dice H' d ∧ Ext d H H')
      ⟨_, _, [], [], rfl, hp2, x1 _ _ nod o0, .nil, rfl, (fun _ z => nomatch z), x1 _ _ ned f0, x1 _ _ nrd r0, d2, e0.trans x1⟩ (fun i σ H' _ hP => ?_) (fun i x σ H3 H4 hi hP hy => ?_) (fun σ H3 hP => ?_)
    · obtain ⟨_, _, _, _, _, h, _⟩ := hP
      exact .inl (.inl h)
    · obtain ⟨rfl, hx⟩ := hy
      obtain ⟨y4, y5, op, kvs, rfl, hp3, ho3, hop, hk3, hab, he3, hr3, d3, e3⟩ := hP
      obtain ⟨u, huW, rfl⟩ : ∃ u ∈ opW, x = .str u := by
        have := ysm x (List.mem_of_getElem? hx)
        obtain ⟨u, hu, e⟩ := List.mem_map.mp (show x ∈ opW.map V.str from this)
        exact ⟨u, hu, e.symm⟩
      have hnew : u ∉ op.map (·.1) := fun z => not_in_take ysn hx (by rw [← hk3]; exact List.mem_map.mpr ⟨u, z, rfl⟩)
      have hvn : valV kvs (Sum.inr u) = none := by
        rcases hop.val (w := u) with z | ⟨t, a, b, m, _⟩
        · exact z.2
        · exact absurd (List.mem_map.mpr ⟨_, m, rfl⟩) hnew
      walk_at "zrd"
      refine ⟨by walk_at "zsz", fun p1 g1 => ?_⟩
      walk_at "zrd"
      refine ⟨d, p1, _, rfl, by walk_at "zdice", upd_same, Dice.ne (by walk_at "zdice") g1, by simp, (by show 2 < 1073741824; decide), fun v1 H5 hv1 e5 d5 => ?_⟩
      walk_at "zrd"
      refine ⟨by walk_at "zsz", fun p2 g2 => ?_⟩
      walk_at "zrd"
      refine ⟨d, p2, _, rfl, by walk_at "zdice", upd_same, Dice.ne (by walk_at "zdice") g2, by simp, (by show 2 < 1073741824; decide), fun v2 H6 hv2 e6 d6 => ?_⟩
      walk_at "zrd"
      refine ⟨by walk_at "zsz", fun t gt => ?_⟩
      obtain ⟨a, ha, rfl⟩ : ∃ a, (a = ("deeper" : Str) ∨ a = ("level" : Str)) ∧ v1 = .str a := by
        simp only [List.mem_cons, List.not_mem_nil, or_false] at hv1
        rcases hv1 with rfl | rfl
        · exact ⟨_, .inl rfl, rfl⟩
        · exact ⟨_, .inr rfl, rfl⟩
      obtain ⟨b, hb, rfl⟩ : ∃ b, (b = ("filled" : Str) ∨ b = ("empty" : Str)) ∧ v2 = .str b := by
        simp only [List.mem_cons, List.not_mem_nil, or_false] at hv2
        rcases hv2 with rfl | rfl
        · exact ⟨_, .inl rfl, rfl⟩
        · exact ⟨_, .inr rfl, rfl⟩
      have x2 : Ext d H4 H6 := Ext.trans (Ext.trans (Ext.trans (by walk_at "zext") e5) (by walk_at "zext")) e6
      have ho6 := x2 _ _ nod ho3
      have nto : t ≠ o := (ne_of_none ho6 gt).symm
      have ntd : t ≠ d := d6.ne gt
      have hto : (upd H6 t (.tup [.str a, .str b])) o = some (.dK kvs) := by
        rw [upd_ne nto.symm]
        exact ho6
      have hkl : kvs.length ≤ 4 := by
        have h5 := congrArg List.length hk3
        rw [List.length_map, List.length_map, List.length_take] at h5
        rw [hop.len]
        omega
      walk_at "zrd"
      refine r_dputS hto (sz_lt (by omega)) ?_
      rw [putK_new _ hvn]
      have xN : ExtN [o, d] H4 (upd (upd H6 t (.tup [.str a, .str b])) o (.dK (kvs ++ [(Sum.inr u, V.ref t)]))) := ((ExtN.of_ext m2 x2).trans (ExtN.of_same (same_upd gt))).at_ m1
      refine ⟨_, _, op ++ [(u, a, b)], _, rfl, ?_, upd_same, (hop.mono xN).append (.cons (fun z => by cases z with | head => exact nto rfl | tail _ z => exact ntd (List.mem_singleton.mp z)) (by rw [upd_ne nto]; exact upd_same) .nil), ?_, ?_, ?_, ?_, (d6.new gt).off nod, ((e3.trans x2).trans (Ext.new gt)).grown h1⟩
      · rw [upd_ne npo, upd_ne (ne_of_none (x2 _ _ npd hp3) gt)]
        exact x2 _ _ npd hp3
      · rw [List.map_append, List.map_append, hk3, List.take_add_one, hx]
        rfl
      · intro z hz
        rcases List.mem_append.mp hz with h | h
        · exact hab z h
        · rw [List.mem_singleton.mp h]
          exact ⟨ha, hb⟩
      · rw [upd_ne noe.symm, upd_ne (ne_of_none (x2 _ _ ned he3) gt)]
        exact x2 _ _ ned he3
      · rw [upd_ne nor.symm, upd_ne (ne_of_none (x2 _ _ nrd hr3) gt)]
        exact x2 _ _ nrd hr3
    · obtain ⟨y4, y5, op, kvs, rfl, hp3, ho3, hop, hk3, hab, he3, hr3, d3, e3⟩ := hP
      rw [List.take_length] at hk3
      walk_at "zrd"
      refine ⟨by walk_at "zsz", fun l2 hl2 => ?_⟩
      walk_at "zrd"
      refine ⟨d, 4, rfl, by walk_at "zdice", by decide, by decide, fun k2 H4 hk2 e4 d4 => ?_⟩
      walk_at "zrd"
      have nl2d : l2 ≠ d := Dice.ne (by walk_at "zdice") hl2
      refine ⟨d, l2, _, (k2 : Int), rfl, d4, e4 _ _ nl2d (by walk_at "zget"), nl2d, by omega, (by show 3 < 100000; decide), fun p2 ys2 rest2 H5 hpp2 hperm2 hlen2' e5 d5 hp5 => ?_⟩
      obtain ⟨ysn2, ysm2⟩ := perm_nodup hperm2 (by decide +kernel)
      have hys3 : ys2.length ≤ 3 := by
        have := hperm2.length_eq
        rw [List.length_append] at this
        have h4 : ([V.str (Str.ofString "in"), V.str (Str.ofString "fi"), V.str (Str.ofString "end")] : List V).length = 3 := rfl
        omega
      have x5 : Ext d H3 H5 := Ext.trans (Ext.trans (by walk_at "zext") e4) e5
      have ho5 := x5 _ _ nod ho3
      have he5 := x5 _ _ ned he3
      have hr5 := x5 _ _ nrd hr3
      have hop5 : OpAt [e, d] H5 kvs op := (((hop.sub (N' := [d]) (fun a z => .tail _ z)).mono (ExtN.of_ext (.head _) x5)).off he5)
      have hps : ∀ a z, a ≠ d → H3 a = some z → p2 ≠ a := fun a z na ha => (ne_of_none (Ext.trans (Ext.trans (show Ext d H3 H3 by walk_at "zext") (by walk_at "zext")) e4 _ _ na ha) hpp2).symm
      have q2o : p2 ≠ o := hps _ _ nod ho3
      have q2e : p2 ≠ e := hps _ _ ned he3
      have q2r : p2 ≠ r := hps _ _ nrd hr3
      have q2d : p2 ≠ d := d4.ne hpp2
      have opN : op ≠ [] := fun z => hlen2 (by rw [← hk3, z]; rfl)
      have eHf : Ext d H H5 := e3.trans x5
      have opl : op.length ≤ 4 := by
        rw [← hk3, List.length_map, List.length_map] at hys4
        exact hys4
      have opW' : ∀ x ∈ op, x.1 ∈ opW := fun x hx => by
        have : V.str x.1 ∈ ys := by
          rw [← hk3]
          exact List.mem_map.mpr ⟨_, List.mem_map.mpr ⟨_, hx, rfl⟩, rfl⟩
        exact str_mem (show V.str x.1 ∈ opW.map V.str from ysm _ this)
      have opn : (op.map (·.1)).Nodup := by
        rw [← hk3] at ysn
        exact nodup_of_map ysn
      clear hp3 ho3 hop he3 hr3 d3 e3 hps x5 e4 e5 d4 hl2 hpp2
      walk_at "zrd"
      refine forB (walk_list (xs := ys2)) (fun i σ H' => ∃ y4 y5 en, σ = [some (.ref d), some (.ref o), some (.ref e), some (.ref r), y4, y5] ∧ H' p2 = some (.lst ys2) ∧ H' e = some (.dK (strD en)) ∧ (en.map (·.1)).map V.str = ys2.take i ∧
          (∀ x ∈ en, ∃ y ∈ op, y.1 = x.2) ∧ H' o = some (.dK kvs) ∧ OpAt [e, d] H' kvs op ∧ H' r = some (.dK []) ∧ Dice H' d ∧ Ext d H H')
        ⟨_, _, [], rfl, hp5, he5, rfl, (fun _ z => nomatch z), ho5, hop5, hr5, d5, eHf⟩ (fun i σ H' _ hP => ?_) (fun i x σ H6 H7 hi hP hy => ?_) (fun σ H6 hP => ?_)
      · obtain ⟨_, _, _, _, h, _⟩ := hP
        exact .inl (.inl h)
      · obtain ⟨rfl, hx⟩ := hy
        obtain ⟨y4, y5, en, rfl, hp6, he6, hk6, hen, ho6, hop6, hr6, d6, e6⟩ := hP
        obtain ⟨u, huW, rfl⟩ : ∃ u ∈ enW, x = .str u := by
          have := ysm2 x (List.mem_of_getElem? hx)
          obtain ⟨u, hu, e⟩ := List.mem_map.mp (show x ∈ enW.map V.str from this)
          exact ⟨u, hu, e.symm⟩
        have hnew : u ∉ en.map (·.1) := fun z => not_in_take ysn2 hx (by rw [← hk6]; exact List.mem_map.mpr ⟨u, z, rfl⟩)
        walk_at "zrd"
        refine ⟨o, kvs, op.map (·.1), rfl, .inl ho6, hop6.keys, by rw [List.length_map]; omega, fun us p1 husp _ g1 => ?_⟩
        have usl : us.length ≤ 4 := by
          have := husp.length_eq
          rw [List.length_map] at this
          omega
        have usN : us.map V.str ≠ [] := fun z => opN (by
          have : us = [] := List.map_eq_nil_iff.mp z
          subst this
          exact List.map_eq_nil_iff.mp husp.symm.eq_nil)
        have usm : ∀ x ∈ us, ∃ y ∈ op, y.1 = x := fun x hx => by
          obtain ⟨y, hy, e⟩ := List.mem_map.mp (husp.subset hx)
          exact ⟨y, hy, e⟩
        walk_at "zrd"
        refine ⟨d, p1, _, rfl, by walk_at "zdice", upd_same, Dice.ne (by walk_at "zdice") g1, usN, (by rw [List.length_map]; omega), fun v1 H8 hv1 e8 d8 => ?_⟩
        obtain ⟨x, hxu, rfl⟩ : ∃ x ∈ us, v1 = .str x := by
          obtain ⟨x, hxu, e⟩ := List.mem_map.mp hv1
          exact ⟨x, hxu, e.symm⟩
        have x8 : Ext d H7 H8 := Ext.trans (by walk_at "zext") e8
        have he8 := x8 _ _ ned he6
        have enl : en.length ≤ 3 := by
          have h5 := congrArg List.length hk6
          rw [List.length_map, List.length_map, List.length_take] at h5
          omega
        walk_at "zrd"
        refine r_dputS he8 (sz_lt (by unfold strD; rw [List.length_map]; omega)) ?_
        rw [strD_put hnew]
        have xN : ExtN [e, d] H7 (upd H8 e (.dK (strD (en ++ [(u, x)])))) := (ExtN.of_ext (.tail _ (.head _)) x8).at_ (.head _)
        refine ⟨_, _, en ++ [(u, x)], rfl, ?_, upd_same, ?_, ?_, ?_, hop6.mono xN, ?_, d8.off ned, (e6.trans x8).grown eH⟩
        · rw [upd_ne q2e]
          exact x8 _ _ q2d hp6
        · rw [List.map_append, List.map_append, hk6, List.take_add_one, hx]
          rfl
        · intro z hz
          rcases List.mem_append.mp hz with h | h
          · exact hen z h
          · rw [List.mem_singleton.mp h]
            exact usm x hxu
        · rw [upd_ne noe]
          exact x8 _ _ nod ho6
        · rw [upd_ne ner.symm]
          exact x8 _ _ nrd hr6
      · obtain ⟨y4, y5, en, rfl, hp6, he6, hk6, hen, ho6, hop6, hr6, d6, e6⟩ := hP
        rw [List.take_length] at hk6
        have enl : en.length ≤ 3 := by
          have h5 := congrArg List.length hk6
          rw [List.length_map, List.length_map] at h5
          omega
        have enW' : ∀ x ∈ en, x.1 ∈ enW := fun x hx => by
          have : V.str x.1 ∈ ys2 := by
            rw [← hk6]
            exact List.mem_map.mpr ⟨_, List.mem_map.mpr ⟨_, hx, rfl⟩, rfl⟩
          exact str_mem (show V.str x.1 ∈ enW.map V.str from ysm2 _ this)
        have enn : (en.map (·.1)).Nodup := by
          rw [← hk6] at ysn2
          exact nodup_of_map ysn2
        clear hp6 d5 ho5 he5 hr5 hop5 hp5 hk6 hperm2 hlen2' ysn2 ysm2 hys3
        walk_at "zrd"
        refine ⟨by walk_at "zsz", fun l3 hl3 => ?_⟩
        walk_at "zrd"
        refine ⟨d, 3, rfl, by walk_at "zdice", by decide, by decide, fun k3 H7 hk3 e7 d7 => ?_⟩
        walk_at "zrd"
        have nl3d : l3 ≠ d := Dice.ne (by walk_at "zdice") hl3
        refine ⟨d, l3, _, (k3 : Int), rfl, d7, e7 _ _ nl3d (by walk_at "zget"), nl3d, by omega, (by show 2 < 100000; decide), fun p3 ys3 rest3 H8 hpp3 hperm3 hlen3' e8 d8 hp8 => ?_⟩
        obtain ⟨ysn3, ysm3⟩ := perm_nodup hperm3 (by decide +kernel)
        have hys2 : ys3.length ≤ 2 := by
          have := hperm3.length_eq
          rw [List.length_append] at this
          have h4 : ([V.str (Str.ofString "lp"), V.str (Str.ofString "lb")] : List V).length = 2 := rfl
          omega
        have x8 : Ext d H6 H8 := Ext.trans (Ext.trans (by walk_at "zext") e7) e8
        have ho8 := x8 _ _ nod ho6
        have he8 := x8 _ _ ned he6
        have hr8 := x8 _ _ nrd hr6
        have hop8 : OpAt [r, d] H8 kvs op := (((hop6.mono (ExtN.of_ext (.tail _ (.head _)) x8)).sub (N' := [d]) (fun a z => .tail _ z)).off hr8)
        have hps : ∀ a z, a ≠ d → H6 a = some z → p3 ≠ a := fun a z na ha => (ne_of_none (Ext.trans (Ext.trans (show Ext d H6 H6 by walk_at "zext") (by walk_at "zext")) e7 _ _ na ha) hpp3).symm
        have q3o : p3 ≠ o := hps _ _ nod ho6
        have q3e : p3 ≠ e := hps _ _ ned he6
        have q3r : p3 ≠ r := hps _ _ nrd hr6
        have q3d : p3 ≠ d := d7.ne hpp3
        have e9 : Ext d H H8 := e6.trans x8
        clear ho6 he6 hr6 d6 hop6 hps x8 e7 e8 d7 hl3 hpp3
        walk_at "zrd"
        refine forB (walk_list (xs := ys3)) (fun i σ H' => ∃ y4 y5 br, σ = [some (.ref d), some (.ref o), some (.ref e), some (.ref r), y4, y5] ∧ H' p3 = some (.lst ys3) ∧ H' r = some (.dK (strD br)) ∧ (br.map (·.1)).map V.str = ys3.take i ∧
            (∀ x ∈ br, x.2 = clOf x.1) ∧ H' o = some (.dK kvs) ∧ OpAt [r, d] H' kvs op ∧ H' e = some (.dK (strD en)) ∧ Dice H' d ∧ Ext d H H')
          ⟨_, _, [], rfl, hp8, hr8, rfl, (fun _ z => nomatch z), ho8, hop8, he8, d8, e9⟩ (fun i σ H' _ hP => ?_) (fun i x σ H9 H10 hi hP hy => ?_) (fun σ H9 hP => ?_)
        · obtain ⟨_, _, _, _, h, _⟩ := hP
          exact .inl (.inl h)
        · obtain ⟨rfl, hx⟩ := hy
          obtain ⟨y4, y5, br, rfl, hp6, hr6, hk6, hbr, ho6, hop6, he6, d6, e6⟩ := hP
          obtain ⟨u, huW, rfl⟩ : ∃ u ∈ brW, x = .str u := by
            have := ysm3 x (List.mem_of_getElem? hx)
            obtain ⟨u, hu, e⟩ := List.mem_map.mp (show x ∈ brW.map V.str from this)
            exact ⟨u, hu, e.symm⟩
          have hnew : u ∉ br.map (·.1) := fun z => not_in_take ysn3 hx (by rw [← hk6]; exact List.mem_map.mpr ⟨u, z, rfl⟩)
          walk_at "zrd"
          refine r_disp fun p1 g1 => ?_
          refine r_pairC (r_c (r_c (r_pairC (r_c (r_c (r_pairN ?_))))))
          refine ⟨upd_same, ([(Sum.inr "lp", .str "rp"), (Sum.inr "lb", .str "rb")] : List (Key × V)), rfl, by decide, ?_⟩
          obtain ⟨HB, eB, fB, sB, dB⟩ := two_upd (x := .dK []) (y := .dK (mergeK [] ([(Sum.inr "lp", .str "rp"), (Sum.inr "lb", .str "rb")] : List (Key × V)))) g1
          rw [eB]
          rw [lr_merge] at fB
          clear eB
          walk_at "zrd"
          refine r_dgetS fB (lr_val huW) ?_
          have brl : br.length ≤ 2 := by
            have h5 := congrArg List.length hk6
            rw [List.length_map, List.length_map, List.length_take] at h5
            omega
          walk_at "zrd"
          refine r_dputS (sB _ _ hr6) (sz_lt (by unfold strD; rw [List.length_map]; omega)) ?_
          rw [strD_put hnew]
          have hx2 : ∀ b z, b ≠ r → H10 b = some z → (upd HB r (.dK (strD (br ++ [(u, clOf u)])))) b = some z := fun b z nb hb => by
            rw [upd_ne nb]
            exact sB _ _ hb
          refine ⟨_, _, br ++ [(u, clOf u)], rfl, hx2 _ _ q3r hp6, upd_same, ?_, ?_, hx2 _ _ nor ho6, hop6.mono (fun b z nb hb => hx2 b z (fun e => nb (e ▸ .head _)) hb), hx2 _ _ ner he6, (dB _ d6).off nrd, (e6.trans (fun b z _ hb => sB b z hb)).grown rH⟩
          · rw [List.map_append, List.map_append, hk6, List.take_add_one, hx]
            rfl
          · intro z hz
            rcases List.mem_append.mp hz with h | h
            · exact hbr z h
            · rw [List.mem_singleton.mp h]
        · obtain ⟨y4, y5, br, rfl, hp6, hr6, hk6, hbr, ho6, hop6, he6, d6, e6⟩ := hP
          rw [List.take_length] at hk6
          have brW' : ∀ x ∈ br, x.1 ∈ brW := fun x hx => by
            have : V.str x.1 ∈ ys3 := by
              rw [← hk6]
              exact List.mem_map.mpr ⟨_, List.mem_map.mpr ⟨_, hx, rfl⟩, rfl⟩
            exact str_mem (show V.str x.1 ∈ brW.map V.str from ysm3 _ this)
          have brn : (br.map (·.1)).Nodup := by
            rw [← hk6] at ysn3
            exact nodup_of_map ysn3
          walk_at "zrd"
          refine r_disp fun p1 g1 => ?_
          refine r_pairC (r_c (r_var rfl (r_pairC (r_c (r_var rfl (r_pairC (r_c (r_var rfl (r_pairN ?_)))))))))
          refine ⟨upd_same, bkv o e r, rfl, (by show 3 ≤ 15; decide), ?_⟩
          obtain ⟨HB, eB, fB, sB, dB⟩ := two_upd (x := .dK []) (y := .dK (mergeK [] (bkv o e r))) g1
          rw [eB]
          rw [bkv_merge] at fB
          clear eB
          have dHB := dB _ d6
          have n1d : p1 ≠ d := d6.ne g1
          have g1H : H p1 = none := e6.free_ d6 g1
          walk_at "zrd"
          refine ⟨by walk_at "zsz", fun p4 g4 => ?_⟩
          walk_at "zrd"
          refine ⟨d, p4, _, rfl, by walk_at "zdice", upd_same, Dice.ne (by walk_at "zdice") g4, by simp, (by show 3 < 1073741824; decide), fun v1 H10 hv1 e10 d10 => ?_⟩
          obtain ⟨a, ha, rfl⟩ : ∃ a, (a = ("joins" : Str) ∨ a = ("breaks" : Str)) ∧ v1 = .str a := by
            simp only [List.mem_cons, List.not_mem_nil, or_false] at hv1
            rcases hv1 with rfl | rfl | rfl
            · exact ⟨_, .inl rfl, rfl⟩
            · exact ⟨_, .inl rfl, rfl⟩
            · exact ⟨_, .inr rfl, rfl⟩
          have x10 : Ext d HB H10 := Ext.trans (by walk_at "zext") e10
          walk_at "zrd"
          refine r_dputS (x10 _ _ n1d fB) (sz_lt (by show 3 < _; decide)) ?_
          rw [bkv_deep]
          walk_at "zrd"
          refine ⟨by walk_at "zsz", fun p5 g5 => ?_⟩
          have d11 : Dice (upd H10 p1 (.dK (bkv4 o e r a))) d := d10.off n1d
          walk_at "zrd"
          refine ⟨d, p5, _, rfl, by walk_at "zdice", upd_same, Dice.ne (by walk_at "zdice") g5, by simp, (by show 3 < 1073741824; decide), fun v2 H12 hv2 e12 d12 => ?_⟩
          obtain ⟨b, hb, rfl⟩ : ∃ b, (b = ("joins" : Str) ∨ b = ("breaks" : Str)) ∧ v2 = .str b := by
            simp only [List.mem_cons, List.not_mem_nil, or_false] at hv2
            rcases hv2 with rfl | rfl | rfl
            · exact ⟨_, .inl rfl, rfl⟩
            · exact ⟨_, .inl rfl, rfl⟩
            · exact ⟨_, .inr rfl, rfl⟩
          have x12 : Ext d (upd H10 p1 (.dK (bkv4 o e r a))) H12 := Ext.trans (by walk_at "zext") e12
          walk_at "zrd"
          refine r_dputS (x12 _ _ n1d upd_same) (sz_lt (by show 4 < _; decide)) ?_
          rw [bkv_gap]
          walk_at "zrd"
          have np : ∀ c z, H9 c = some z → c ≠ p1 := fun c z hc => ne_of_none hc g1
          have keep : ∀ c z, c ≠ d → H9 c = some z → (upd H12 p1 (.dK (bkv5 o e r a b))) c = some z := fun c z nc hc => by
            rw [upd_ne (np _ _ hc)]
            refine x12 _ _ nc ?_
            rw [upd_ne (np _ _ hc)]
            exact x10 _ _ nc (sB _ _ hc)
          refine q p1 ⟨op, en, br, a, b⟩ _ ?_ ?_ ?_ ?_
          · exact ⟨opN, fun x hx => ⟨opW' x hx, hab x hx⟩, opn, fun x hx => ⟨enW' x hx, hen x hx⟩, enn, fun x hx => ⟨brW' x hx, hbr x hx⟩, brn, ha, hb⟩
          · exact ⟨⟨o, e, r, kvs, upd_same, keep _ _ nod ho6, (hop6.sub (N' := [d]) (fun _ z => .tail _ z)).mono (fun c z nc hc => keep c z (fun e => nc (e ▸ .head _)) hc), keep _ _ ned he6, keep _ _ nrd hr6, fun z => nod (List.mem_singleton.mp z), fun z => ned (List.mem_singleton.mp z), fun z => nrd (List.mem_singleton.mp z)⟩, fun z => n1d (List.mem_singleton.mp z)⟩
          · exact e6.trans fun c z nc hc => keep c z nc hc
          · exact d12.off n1d
end
end My

--CUT
namespace My
open PySem PySem.Spec PyProof.Rows L2
/-! ### the law's reader as plain functions -/
abbrev Pile := List (Int × Str)
structure LLine where
  col : Int
  ws : List Str
structure LState where
  pile : Pile
  wait : Str
structure LRead where
  parts : List (List Str)
  states : List LState
  fault : Option (Nat × Str)
def LB.frees (b : LB) : List Str := b.en.map (·.1) ++ b.br.map (·.2)
def topOf (p : Pile) : Int := match p.getLast? with
  | some x => x.1
  | none => 0
/-- from the end on, what holds is taken away -/
def cutWhile (f : Int × Str → Bool) (p : Pile) : Pile := (p.reverse.dropWhile f).reverse
def popTo (c : Int) (p : Pile) : Pile := cutWhile (fun x => decide (c < x.1)) p
def LB.rule (b : LB) (w : Str) : Str × Str := (b.op.lookup w).getD ("", "")
def mRest (b : LB) (f : List Str) (p : Pile) (c : Int) (free : Bool) : List Str × Pile × Str :=
  if free = true then (f, p, "") else
    let q := popTo c p
    let g := f ++ List.replicate (p.length - q.length) ("}" : Str)
    if topOf q = c then (g ++ [(";" : Str)], q, "") else
      (g, q, if 0 ≤ topOf q ∧ (if p.length = q.length then b.deep else b.gap) = ("breaks" : Str) then (if p.length = q.length then "deep" else "gap") else "")
def mHead (b : LB) (s : LState) (l : LLine) : List Str × Pile × Str :=
  let free := decide (l.ws.headD "" ∈ b.frees)
  if s.wait = ("" : Str) then mRest b [] s.pile l.col free
  else if (!free && (decide (topOf s.pile < l.col) || (decide (l.col = topOf s.pile) && decide ((b.rule s.wait).1 = ("level" : Str))))) = true then (["{"], s.pile ++ [(l.col, s.wait)], "")
  else if (b.rule s.wait).2 = ("filled" : Str) then ([], s.pile, "filled")
  else mRest b ["{", "}"] s.pile l.col free
def LB.want (b : LB) (w : Str) : Str := (b.en.lookup w).getD ""
def unwind (u : Str) (p : Pile) : Pile := cutWhile (fun x => decide (0 ≤ x.1) && decide (x.2 ≠ u)) p
def LB.push (b : LB) (w : Str) (p : Pile) : Pile := if w ∈ b.br.map (·.1) then p ++ [(-1, w)] else p
def mWord (b : LB) (p : Pile) (w : Str) : List Str × Pile × Str :=
  if w ∈ b.br.map (·.2) ∨ w ∈ b.en.map (·.1) then
    let u := b.want w
    let q := unwind u p
    let f := List.replicate (p.length - q.length) ("}" : Str)
    match q.getLast? with
    | none => (f, q, if u = ("" : Str) then "closer" else "ender")
    | some x =>
      if (u = ("" : Str) ∧ (b.br.lookup x.2).getD "" ≠ w) ∨ (u ≠ ("" : Str) ∧ x.1 < 0) then (f, q, if u = ("" : Str) then "closer" else "ender")
      else (f ++ (if u ≠ ("" : Str) then [("}" : Str)] else []) ++ [w], b.push w q.dropLast, "")
  else ([w], b.push w p, "")
def mBody (b : LB) : Pile → List Str → List Str × Pile × Str
  | p, [] => ([], p, "")
  | p, w :: ws =>
    let r := mWord b p w
    if r.2.2 = ("" : Str) then
      let t := mBody b r.2.1 ws
      (r.1 ++ t.1, t.2.1, t.2.2)
    else r
def LB.waits (b : LB) (ws : List Str) : Str := if ws.getLastD "" ∈ b.op.map (·.1) then ws.getLastD "" else ""
def mLine (b : LB) (s : LState) (l : LLine) : List Str × LState × Str :=
  let h := mHead b s l
  if h.2.2 = ("" : Str) then
    let t := mBody b h.2.1 l.ws
    (h.1 ++ t.1, ⟨t.2.1, b.waits l.ws⟩, t.2.2)
  else ([], s, h.2.2)
def mEnd (b : LB) (s : LState) : List Str × Str :=
  if s.wait ≠ ("" : Str) ∧ (b.rule s.wait).2 = ("filled" : Str) then ([], "filled")
  else if s.pile.any (fun x => decide (x.1 < 0)) = true then ([], "open")
  else ((if s.wait ≠ ("" : Str) then [("{" : Str), "}"] else []) ++ List.replicate s.pile.length ("}" : Str), "")
/-- the rest of the lines, read behind what stands -/
def mReadOn (b : LB) (parts : List (List Str)) (states : List LState) (s : LState) : Nat → List LLine → LRead
  | i, [] => let e := mEnd b s
    if e.2 = ("" : Str) then ⟨parts ++ [e.1], states, none⟩ else ⟨parts, states, some (i, e.2)⟩
  | i, l :: ls => let r := mLine b s l
    if r.2.2 = ("" : Str) then mReadOn b (parts ++ [r.1]) (states ++ [r.2.1]) r.2.1 (i + 1) ls else ⟨parts, states, some (i, r.2.2)⟩
def mRead (b : LB) (ls : List LLine) : LRead := mReadOn b [] [⟨[], ""⟩] ⟨[], ""⟩ 0 ls
/-! ### what the reader keeps: blocks of openers, brackets of the book -/
def PileOk (b : LB) (p : Pile) : Prop := ∀ x ∈ p, (0 ≤ x.1 ∧ x.2 ∈ b.op.map (·.1)) ∨ (x.1 = -1 ∧ x.2 ∈ b.br.map (·.1))
structure LState.Ok (b : LB) (s : LState) : Prop where
  pile : PileOk b s.pile
  wait : s.wait = ("" : Str) ∨ s.wait ∈ b.op.map (·.1)
structure LLine.Ok (l : LLine) : Prop where
  col : 0 ≤ l.col
  some : l.ws ≠ []
theorem cutWhile_sub (f : Int × Str → Bool) (p : Pile) : ∀ x ∈ cutWhile f p, x ∈ p := fun x h => by
  have h2 := List.mem_reverse.mp h
  exact List.mem_reverse.mp ((List.dropWhile_sublist f).subset h2)
theorem cutWhile_nil (f : Int × Str → Bool) : cutWhile f [] = [] := rfl
theorem cutWhile_pos {f : Int × Str → Bool} {p : Pile} {x : Int × Str} (h : f x = true) : cutWhile f (p ++ [x]) = cutWhile f p := by
  unfold cutWhile
  rw [List.reverse_append]
  show (List.dropWhile f (x :: p.reverse)).reverse = _
  rw [List.dropWhile_cons, if_pos h]
theorem cutWhile_neg {f : Int × Str → Bool} {p : Pile} {x : Int × Str} (h : ¬ f x = true) : cutWhile f (p ++ [x]) = p ++ [x] := by
  unfold cutWhile
  rw [List.reverse_append]
  show (List.dropWhile f (x :: p.reverse)).reverse = _
  rw [List.dropWhile_cons, if_neg h, List.reverse_cons, List.reverse_reverse]
theorem PileOk.sub {b : LB} {p q : Pile} (h : PileOk b p) (s : ∀ x ∈ q, x ∈ p) : PileOk b q := fun x hx => h x (s x hx)
theorem PileOk.add {b : LB} {p : Pile} {x : Int × Str} (h : PileOk b p) (hx : (0 ≤ x.1 ∧ x.2 ∈ b.op.map (·.1)) ∨ (x.1 = -1 ∧ x.2 ∈ b.br.map (·.1))) : PileOk b (p ++ [x]) := fun y hy => by
  rcases List.mem_append.mp hy with z | z
  · exact h y z
  · rw [List.mem_singleton.mp z]
    exact hx
theorem mRest_ok {b : LB} {f : List Str} {p : Pile} {c : Int} {free : Bool} (h : PileOk b p) : PileOk b (mRest b f p c free).2.1 := by
  have h2 : PileOk b (popTo c p) := h.sub (cutWhile_sub _ _)
  unfold mRest
  split
  · exact h
  · dsimp only
    split
    · exact h2
    · exact h2
theorem mHead_ok {b : LB} {s : LState} {l : LLine} (h : s.Ok b) (hl : l.Ok) : PileOk b (mHead b s l).2.1 := by
  unfold mHead
  dsimp only
  split
  · exact mRest_ok h.pile
  · rename_i hw
    split
    · exact h.pile.add (.inl ⟨hl.col, h.wait.resolve_left hw⟩)
    · split
      · exact h.pile
      · exact mRest_ok h.pile
theorem push_ok {b : LB} {w : Str} {p : Pile} (h : PileOk b p) : PileOk b (b.push w p) := by
  unfold LB.push
  split
  · rename_i hw
    exact h.add (.inr ⟨rfl, hw⟩)
  · exact h
theorem mWord_ok {b : LB} {p : Pile} {w : Str} (h : PileOk b p) : PileOk b (mWord b p w).2.1 := by
  have h2 : PileOk b (unwind (b.want w) p) := h.sub (cutWhile_sub _ _)
  unfold mWord
  split
  · dsimp only
    split
    · exact h2
    · split
      · exact h2
      · exact push_ok (h2.sub fun x hx => (List.dropLast_sublist _).subset hx)
  · exact push_ok h
theorem mBody_ok {b : LB} : ∀ {ws : List Str} {p : Pile}, PileOk b p → PileOk b (mBody b p ws).2.1
  | [], _, h => h
  | w :: ws, p, h => by
    unfold mBody
    dsimp only
    split
    · exact mBody_ok (mWord_ok h)
    · exact mWord_ok h
theorem mLine_ok {b : LB} {s : LState} {l : LLine} (h : s.Ok b) (hl : l.Ok) : (mLine b s l).2.1.Ok b := by
  unfold mLine
  dsimp only
  split
  · refine ⟨mBody_ok (mHead_ok h hl), ?_⟩
    show b.waits l.ws = _ ∨ _
    unfold LB.waits
    split
    · rename_i hw
      exact .inr hw
    · exact .inl rfl
  · exact h
/-! ### where states and lines stand in the heap -/
inductive PileAt (N : List Addr) (H : Hp) : List V → Pile → Prop
  | nil : PileAt N H [] []
  | cons {t : Addr} {c : Int} {w : Str} {r : List V} {p : Pile} (n : t ∉ N) (e : H t = some (.tup [.int c, .str w])) (h : PileAt N H r p) : PileAt N H (.ref t :: r) ((c, w) :: p)
structure StateAt (N : List Addr) (H : Hp) (S : Addr) (s : LState) : Prop where
  ex : ∃ pa xs, H S = some (.lst [.ref pa, .str s.wait]) ∧ H pa = some (.lst xs) ∧ PileAt N H xs s.pile ∧ pa ∉ N
  out : S ∉ N
structure LineAt (N : List Addr) (H : Hp) (L : Addr) (l : LLine) : Prop where
  ex : ∃ ta, H L = some (.tup [.int l.col, .ref ta]) ∧ H ta = some (.tup (l.ws.map V.str)) ∧ ta ∉ N
  out : L ∉ N
theorem PileAt.mono {N : List Addr} {H H' : Hp} (x : ExtN N H H') : ∀ {vs : List V} {p : Pile}, PileAt N H vs p → PileAt N H' vs p
  | _, _, .nil => .nil
  | _, _, .cons n e h => .cons n (x _ _ n e) (h.mono x)
theorem PileAt.append {N : List Addr} {H : Hp} : ∀ {vs us : List V} {p q : Pile}, PileAt N H vs p → PileAt N H us q → PileAt N H (vs ++ us) (p ++ q)
  | _, _, _, _, .nil, b => b
  | _, _, _, _, .cons n e h, b => .cons n e (h.append b)
theorem PileAt.len {N : List Addr} {H : Hp} : ∀ {vs : List V} {p : Pile}, PileAt N H vs p → vs.length = p.length
  | _, _, .nil => rfl
  | _, _, .cons _ _ h => congrArg Nat.succ h.len
/-- the last one, and what stands ahead of it -/
theorem PileAt.last {N : List Addr} {H : Hp} : ∀ {vs : List V} {p : Pile} {c : Int} {w : Str}, PileAt N H vs (p ++ [(c, w)]) → ∃ us t, vs = us ++ [.ref t] ∧ PileAt N H us p ∧ t ∉ N ∧ H t = some (.tup [.int c, .str w])
  | _, [], _, _, .cons n e .nil => ⟨[], _, rfl, .nil, n, e⟩
  | _, _ :: _, _, _, .cons n e h => by
    obtain ⟨us, t, rfl, h2, n2, e2⟩ := h.last
    exact ⟨_ :: us, t, rfl, .cons n e h2, n2, e2⟩
theorem StateAt.mono {N : List Addr} {H H' : Hp} {S : Addr} {s : LState} (x : ExtN N H H') (h : StateAt N H S s) : StateAt N H' S s := by
  obtain ⟨⟨pa, xs, h1, h2, h3, n1⟩, n⟩ := h
  exact ⟨⟨pa, xs, x _ _ n h1, x _ _ n1 h2, h3.mono x, n1⟩, n⟩
theorem LineAt.mono {N : List Addr} {H H' : Hp} {L : Addr} {l : LLine} (x : ExtN N H H') (h : LineAt N H L l) : LineAt N H' L l := by
  obtain ⟨⟨ta, h1, h2, n1⟩, n⟩ := h
  exact ⟨⟨ta, x _ _ n h1, x _ _ n1 h2, n1⟩, n⟩
/-- a pile is data -/
def pileD (p : Pile) : List PyData := p.map fun x => .tuple [.int x.1, .str x.2]
theorem PileAt.dp {K : PySem.W.Frag} {N : List Addr} {H : Hp} : ∀ {vs : List V} {p : Pile}, PileAt N H vs p → DpAll K H vs (pileD p)
  | _, _, .nil => .nil
  | _, _, .cons n e h => .cons (.tup (.inl (.inl e)) (.cons (.int _) (.cons (.str _) .nil))) h.dp
theorem pile_lay : ∀ {p : Pile}, (∀ x ∈ p, PyData.canLay0 (.str x.2) = true) → PyData.canLayAll0 (pileD p) = true
  | [], _ => by simp [pileD, PyData.canLayAll0]
  | x :: r, h => by
    have h1 := h x (.head _)
    have h2 := pile_lay fun y hy => h y (.tail _ hy)
    have e : pileD (x :: r) = .tuple [.int x.1, .str x.2] :: pileD r := rfl
    rw [e]
    simp only [PyData.canLayAll0, PyData.canLay0, Bool.true_and, Bool.and_true, h2] at h1 ⊢
    exact h1
theorem pile_depth : ∀ (p : Pile), PyData.depthAll (pileD p) ≤ 2
  | [] => by simp [pileD, PyData.depthAll]
  | x :: r => by
    have h2 := pile_depth r
    have e : pileD (x :: r) = .tuple [.int x.1, .str x.2] :: pileD r := rfl
    rw [e]
    simp [PyData.depthAll, PyData.depth]
    omega
theorem r_neNil {K : PySem.W.Frag} {N : List Addr} {H : Hp} {a b : Addr} {xs : List V} {p : Pile} {Q : VK} (ha : H a = some (.lst xs)) (hp : PileAt N H xs p) (hb : H b = some (.lst [])) (hw : ∀ x ∈ p, PyData.canLay0 (.str x.2) = true) (q : Q (.bl (decide (p ≠ []))) H) : rNeD K (.ref a) (.ref b) H Q := by
  refine ⟨.list (pileD p), .list [], .lst (.inl (.inl ha)) hp.dp, .lst (.inl (.inl hb)) .nil, ?_, rfl, ?_⟩
  · refine Bool.and_eq_true_iff.mpr ⟨?_, decide_eq_true ?_⟩
    · simp only [PyData.canLay0]
      exact pile_lay hw
    · have := pile_depth p
      simp only [PyData.depth]
      omega
  · cases p with
    | nil => exact q
    | cons x r => exact q
theorem r_eqNil {K : PySem.W.Frag} {N : List Addr} {H : Hp} {a b : Addr} {xs : List V} {p : Pile} {Q : VK} (ha : H a = some (.lst xs)) (hp : PileAt N H xs p) (hb : H b = some (.lst [])) (hw : ∀ x ∈ p, PyData.canLay0 (.str x.2) = true) (q : Q (.bl (decide (p = []))) H) : rEqD K (.ref a) (.ref b) H Q := by
  refine ⟨.list (pileD p), .list [], .lst (.inl (.inl ha)) hp.dp, .lst (.inl (.inl hb)) .nil, ?_, rfl, ?_⟩
  · refine Bool.and_eq_true_iff.mpr ⟨?_, decide_eq_true ?_⟩
    · simp only [PyData.canLay0]
      exact pile_lay hw
    · have := pile_depth p
      simp only [PyData.depth]
      omega
  · cases p with
    | nil => exact q
    | cons x r => exact q
/-- two ways to one value -/
theorem r_ifK {σ : L2.St} {H : Hp} {c : TT} {ta tb : TE} {Q : VK} (v : V) (R : Hp → Prop) (key : ∀ Hx, R Hx → Q v Hx) (q : (∀ Hx, R Hx → Q v Hx) → tIf c ta tb σ H Q) : tIf c ta tb σ H Q := q key
theorem topOf_add (p : Pile) (x : Int × Str) : topOf (p ++ [x]) = x.1 := by
  unfold topOf
  rw [List.getLast?_concat]
theorem pile_end (p : Pile) : p = [] ∨ ∃ q x, p = q ++ [x] := by
  rcases List.eq_nil_or_concat p with h | ⟨q, x, h⟩
  · exact .inl h
  · exact .inr ⟨q, x, by rw [h, List.concat_eq_append]⟩
end My

namespace My
open PySem PySem.Spec PyProof.Rows L2
section
variable {P : Program} {w : World} {K : PySem.W.Frag} {mg : Str → Option Value} {base : Heap}
theorem bk_o {o e r : Addr} {a b : Str} : valV ([(Sum.inr "openers", .ref o), (Sum.inr "enders", .ref e), (Sum.inr "brackets", .ref r), (Sum.inr "deep", .str a), (Sum.inr "gap", .str b)] : List (Key × V)) (Sum.inr "openers") = some (.ref o) := by rfl
theorem bk_e {o e r : Addr} {a b : Str} : valV ([(Sum.inr "openers", .ref o), (Sum.inr "enders", .ref e), (Sum.inr "brackets", .ref r), (Sum.inr "deep", .str a), (Sum.inr "gap", .str b)] : List (Key × V)) (Sum.inr "enders") = some (.ref e) := by rfl
theorem bk_r {o e r : Addr} {a b : Str} : valV ([(Sum.inr "openers", .ref o), (Sum.inr "enders", .ref e), (Sum.inr "brackets", .ref r), (Sum.inr "deep", .str a), (Sum.inr "gap", .str b)] : List (Key × V)) (Sum.inr "brackets") = some (.ref r) := by rfl
theorem bk_d {o e r : Addr} {a b : Str} : valV ([(Sum.inr "openers", .ref o), (Sum.inr "enders", .ref e), (Sum.inr "brackets", .ref r), (Sum.inr "deep", .str a), (Sum.inr "gap", .str b)] : List (Key × V)) (Sum.inr "deep") = some (.str a) := by rfl
theorem bk_g {o e r : Addr} {a b : Str} : valV ([(Sum.inr "openers", .ref o), (Sum.inr "enders", .ref e), (Sum.inr "brackets", .ref r), (Sum.inr "deep", .str a), (Sum.inr "gap", .str b)] : List (Key × V)) (Sum.inr "gap") = some (.str b) := by rfl
theorem r_vals {σ : L2.St} {H : Hp} {td : TE} {Q : VK} (q : td σ H fun x H1 => ∃ d kvs, x = .ref d ∧ H1 d = some (.dK kvs) ∧ ∀ v, H1 v = none → Q (.ref v) (upd H1 v (valsO v d))) : tVals td σ H Q := q
theorem strD_vals (l : List (Str × Str)) : (strD l).map Prod.snd = (l.map (·.2)).map V.str := by
  unfold strD
  rw [List.map_map, List.map_map]
  rfl
theorem strD_keys (l : List (Str × Str)) : (strD l).map (·.1) = (l.map (·.1)).map Sum.inr := by
  unfold strD
  rw [List.map_map, List.map_map]
  rfl
theorem short {α : Type} {l m : List α} {n : Nat} (d : l.Nodup) (s : ∀ x ∈ l, x ∈ m) (h : m.length ≤ n) : l.length ≤ n := by
  induction l generalizing m n with
  | nil => exact Nat.zero_le _
  | cons x r ih =>
    have d2 := List.nodup_cons.mp d
    obtain ⟨m1, m2, rfl⟩ := List.append_of_mem (s x (.head _))
    rw [List.length_append, List.length_cons] at h
    have := ih (m := m1 ++ m2) (n := n - 1) d2.2 (fun y hy => by
      rcases List.mem_append.mp (s y (.tail _ hy)) with z | z
      · exact List.mem_append_left _ z
      · cases z with
        | head => exact absurd hy d2.1
        | tail _ z => exact List.mem_append_right _ z) (by rw [List.length_append]; omega)
    rw [List.length_cons]
    omega
theorem LB.Ok.opl {b : LB} (h : b.Ok) : b.op.length ≤ 4 := by
  have := short (m := opW) (n := 4) h.opn (fun x hx => by
    obtain ⟨y, hy, rfl⟩ := List.mem_map.mp hx
    exact (h.ops y hy).1) (Nat.le_refl 4)
  rwa [List.length_map] at this
theorem LB.Ok.enl {b : LB} (h : b.Ok) : b.en.length ≤ 3 := by
  have := short (m := enW) (n := 3) h.enn (fun x hx => by
    obtain ⟨y, hy, rfl⟩ := List.mem_map.mp hx
    exact (h.ens y hy).1) (Nat.le_refl 3)
  rwa [List.length_map] at this
theorem LB.Ok.brl {b : LB} (h : b.Ok) : b.br.length ≤ 2 := by
  have := short (m := brW) (n := 2) h.brn (fun x hx => by
    obtain ⟨y, hy, rfl⟩ := List.mem_map.mp hx
    exact (h.brs y hy).1) (Nat.le_refl 2)
  rwa [List.length_map] at this
/-! ### _law_roles -/
def spRoles : Sp := fun vs H Q _ => ∃ (N : List Addr) (B : Addr) (b : LB), vs = [.ref B] ∧ BookAt N H B b ∧ b.Ok ∧
  ∀ (a1 a2 a3 a4 r : Addr) (us es bs cs : List Str) (H' : Hp), Same H H' → H a1 = none → H a2 = none → H a3 = none → H a4 = none → H r = none →
    H' r = some (.lst [.ref a1, .ref a2, .ref a3, .ref a4]) → H' a1 = some (.lst (us.map V.str)) → H' a2 = some (.lst (es.map V.str)) → H' a3 = some (.lst (bs.map V.str)) → H' a4 = some (.lst (cs.map V.str)) →
    us.Perm (b.op.map (·.1)) → es.Perm (b.en.map (·.1)) → bs.Perm (b.br.map (·.1)) → cs.Perm (b.br.map (·.2)) → Q (.ref r) H'
theorem ok_roles (T : Txt K mg) : FnOk P w K mg base CX0 3 T.f_roles T.fd_roles ["_law_book_here"] spRoles := by
  refine T.F_roles.ok sc_roles (fun vs H Q E h => ?_) (fun cdv A outer s H vs Q E hr h => ?_)
  · obtain ⟨N, B, b, rfl, _⟩ := h
    rfl
  · obtain ⟨N, B, b, rfl, hb, ho, q⟩ := h
    refine ⟨_, (pss_cons (ps_set (i := 1) sc_roles.nd rfl (.inl rfl) (pe_callB (c_sortedS (K := K)) (by rfl) T.z_sorted (by decide +kernel) (pa_cons (pe_callTy (c_listV rfl) (by rfl) T.z_list (by decide +kernel) (pa_cons (e_values (pe_dget (hu_of hr) (pv 0) pe_str (fun _ _ => rfl))) pa_nil)) pa_nil)))
      (pss_one (ps_ret (pe_lst (pa_cons (pe_callB (c_sortedD rfl) (by rfl) T.z_sorted (by decide +kernel) (pa_cons (pe_dget (hu_of hr) (pv 0) pe_str (fun _ _ => rfl)) pa_nil)) (pa_cons (pe_callB (c_sortedD rfl) (by rfl) T.z_sorted (by decide +kernel) (pa_cons (pe_dget (hu_of hr) (pv 0) pe_str (fun _ _ => rfl)) pa_nil)) (pa_cons (pe_callB (c_sortedD rfl) (by rfl) T.z_sorted (by decide +kernel) (pa_cons (pe_dget (hu_of hr) (pv 0) pe_str (fun _ _ => rfl)) pa_nil)) (pa_cons (pv 1) pa_nil)))))))), ?_⟩
    obtain ⟨⟨o, e, r, kvs, h1, h2, h3, h4, h5, n1, n2, n3⟩, n⟩ := hb
    have l1 := ho.opl
    have l2 := ho.enl
    have l3 := ho.brl
    walk_at "zrd"
    refine r_vals (r_dget (r_var rfl (r_c (r_dgetS h1 bk_r ⟨_, _, rfl, h5, fun v hv => ?_⟩))))
    walk_at "zrd"
    have q1 : Same H (upd H v (valsO v r)) := same_upd hv
    refine ⟨v, r, _, rfl, upd_same, q1 _ _ h5, fun l hl => ?_⟩
    have q2 : Same H (upd (upd H v (valsO v r)) l (.lst ((strD b.br).map Prod.snd))) := q1.trans (same_upd hl)
    walk_at "zrd"
    refine ⟨l, b.br.map (·.2), rfl, .of (by rw [← strD_vals]; exact upd_same), by rw [List.length_map]; omega, fun cs a4 hcs _ ha4 => ?_⟩
    obtain ⟨HA, eA⟩ : ∃ X, X = upd (upd (upd H v (valsO v r)) l (.lst ((strD b.br).map Prod.snd))) a4 (.lst (cs.map V.str)) := ⟨_, rfl⟩
    have qA : Same H HA := by
      rw [eA]
      exact q2.trans (same_upd ha4)
    have g4 : HA a4 = some (.lst (cs.map V.str)) := by
      rw [eA]
      exact upd_same
    have f4 : H a4 = none := q2.free ha4
    rw [← eA]
    clear eA
    walk_at "zrd"
    refine r_dgetS (qA _ _ h1) bk_o ⟨o, kvs, b.op.map (·.1), rfl, .inl (qA _ _ h2), h3.keys, by rw [List.length_map]; omega, fun us a1 hus _ ha1 => ?_⟩
    walk_at "zrd"
    have qB := qA.trans (same_upd (o := .lst (us.map V.str)) ha1)
    refine r_dgetS (qB _ _ h1) bk_e ⟨e, _, b.en.map (·.1), rfl, .inl (qB _ _ h4), strD_keys _, by rw [List.length_map]; omega, fun es a2 hes _ ha2 => ?_⟩
    walk_at "zrd"
    have qC := qB.trans (same_upd (o := .lst (es.map V.str)) ha2)
    refine r_dgetS (qC _ _ h1) bk_r ⟨r, _, b.br.map (·.1), rfl, .inl (qC _ _ h5), strD_keys _, by rw [List.length_map]; omega, fun bs a3 hbs _ ha3 => ?_⟩
    walk_at "zrd"
    have qD := qC.trans (same_upd (o := .lst (bs.map V.str)) ha3)
    refine ⟨by walk_at "zsz", fun p hp => ?_⟩
    refine q a1 a2 a3 a4 p us es bs cs _ (qD.trans (same_upd hp)) (qA.free ha1) (qB.free ha2) (qC.free ha3) f4 (qD.free hp) upd_same ?_ ?_ ?_ ?_ hus hes hbs hcs
    · walk_at "zget"
    · walk_at "zget"
    · walk_at "zget"
    · walk_at "zget"
end
end My

namespace My
open PySem PySem.Spec PyProof.Rows L2 Evl
/-! ### what evaluates to what, further -/
section
variable {K : PySem.W.Frag} {σ : L2.St} {H H' : Hp} {D : Ends}
theorem ev_dget {td ty : TE} {a : Addr} {kvs : List (Key × V)} {s : Str} {v : V} (hd : Ev td σ H (.ref a)) (hy : Ev ty σ H (.str s)) (h : H a = some (.dK kvs)) (hv : valV kvs (.inr s) = some v) : Ev (tDGet td ty) σ H v :=
  fun H1 e Q q => hd H1 e _ fun H2 e2 => hy H2 (e.trans e2) _ fun H3 e3 => r_dgetS (((e.trans e2).trans e3) _ _ h) hv (q H3 (e2.trans e3))
theorem ev_din {td ty : TE} {a : Addr} {kvs : List (Key × V)} {s : Str} (hy : Ev ty σ H (.str s)) (hd : Ev td σ H (.ref a)) (h : H a = some (.dK kvs)) : Ev (tDIn ty td) σ H (.bl (valV kvs (.inr s)).isSome) :=
  fun H1 e Q q => hy H1 e _ fun H2 e2 => hd H2 (e.trans e2) _ fun H3 e3 => r_dinS (Q := fun b => Q (.bl b) H3) (((e.trans e2).trans e3) _ _ h) (q H3 (e2.trans e3))
theorem ev_dget2 {td ty tx : TE} {a : Addr} {kvs : List (Key × V)} {s : Str} {z : V} (hd : Ev td σ H (.ref a)) (hy : Ev ty σ H (.str s)) (hx : Ev tx σ H z) (h : H a = some (.dK kvs)) : Ev (tDGet2 td ty tx) σ H ((valV kvs (.inr s)).getD z) :=
  fun H1 e Q q => hd H1 e _ fun H2 e2 => ⟨a, rfl, .inl ⟨_, .inl ((e.trans e2) _ _ h)⟩, hy H2 (e.trans e2) _ fun H3 e3 => hx H3 ((e.trans e2).trans e3) _ fun H4 e4 =>
    ⟨_, DGet.k (k := Sum.inr s) ((((e.trans e2).trans e3).trans e4) _ _ h), q H4 ((e2.trans e3).trans e4)⟩⟩
theorem ev_neNil {N : List Addr} {a : Addr} {xs : List V} {p : Pile} {ta : TE} (ha : Ev ta σ H (.ref a)) (h : H a = some (.lst xs)) (hp : PileAt N H xs p) (hw : ∀ x ∈ p, PyData.canLay0 (.str x.2) = true) :
    Ev (tOp (rNeD K) ta (tLst tNil)) σ H (.bl (decide (p ≠ []))) :=
  ev_opL ha (el_lst ea_nil (by decide)) fun b H1 hb e => rv_val fun H2 e2 Q q => r_neNil ((e.trans e2) _ _ h) (hp.mono (ExtN.of_same (e.trans e2))) (e2 _ _ hb) hw q
theorem ev_eqNil {N : List Addr} {a : Addr} {xs : List V} {p : Pile} {ta : TE} (ha : Ev ta σ H (.ref a)) (h : H a = some (.lst xs)) (hp : PileAt N H xs p) (hw : ∀ x ∈ p, PyData.canLay0 (.str x.2) = true) :
    Ev (tOp (rEqD K) ta (tLst tNil)) σ H (.bl (decide (p = []))) :=
  ev_opL ha (el_lst ea_nil (by decide)) fun b H1 hb e => rv_val fun H2 e2 Q q => r_eqNil ((e.trans e2) _ _ h) (hp.mono (ExtN.of_same (e.trans e2))) (e2 _ _ hb) hw q
/-- the last one's column, its word -/
theorem ev_lastRef {a : Addr} {us : List V} {t : Addr} {ta : TE} (ha : Ev ta σ H (.ref a)) (h : H a = some (.lst (us ++ [.ref t]))) : Ev (tOp (rIxL K) ta (tUn (rU fun i => .int (-i)) (tC (.int 1)))) σ H (.ref t) :=
  ev_op ha (ev_un ev_c ru_neg) (rv_ixL (sq_of h) (L2.atI_last _ _))
theorem ev_col {t : Addr} {c : Int} {w : Str} {te : TE} (ha : Ev te σ H (.ref t)) (h : H t = some (.tup [.int c, .str w])) : Ev (tOp (rIxT K) te (tC (.int 0))) σ H (.int c) := ev_op ha ev_c (rv_ixT (st_of h) rfl)
theorem ev_wrd {t : Addr} {c : Int} {w : Str} {te : TE} (ha : Ev te σ H (.ref t)) (h : H t = some (.tup [.int c, .str w])) : Ev (tOp (rIxT K) te (tC (.int 1))) σ H (.str w) := ev_op ha ev_c (rv_ixT (st_of h) rfl)
theorem ev_gt {ta tb : TE} {i j : Int} (ha : Ev ta σ H (.int i)) (hb : Ev tb σ H (.int j)) : Ev (tOp (rI0 fun i j => .bl (decide (i > j))) ta tb) σ H (.bl (decide (i > j))) := ev_op ha hb rv_I0
theorem ev_eqS {ta tb : TE} {s u : Str} (ha : Ev ta σ H (.str s)) (hb : Ev tb σ H (.str u)) : Ev (tOp rEq ta tb) σ H (.bl (decide (s = u))) := ev_is (ev_op ha hb (rv_eq rfl)) (by simp)
theorem ev_eqI {ta tb : TE} {s u : Int} (ha : Ev ta σ H (.int s)) (hb : Ev tb σ H (.int u)) : Ev (tOp rEq ta tb) σ H (.bl (decide (s = u))) := ev_is (ev_op ha hb (rv_eq rfl)) (by simp)
theorem ev_neS {ta tb : TE} {s u : Str} (ha : Ev ta σ H (.str s)) (hb : Ev tb σ H (.str u)) : Ev (tOp rNe ta tb) σ H (.bl (decide (s ≠ u))) := ev_is (ev_op ha hb (rv_ne rfl)) (by simp)
theorem same_free {H H' : Hp} {a : Addr} (e : Ex H H') (h : H' a = none) : H a = none := fresh_back e h
/-- pop of the last -/
theorem s_pop {l : Addr} {xs : List V} {y : V} {ta : TE} (ha : Ev ta σ H (.ref l)) (hl : H l = some (.lst (xs ++ [y]))) (k : ∀ H1, Ex H H1 → D.nx σ (upd H1 l (.lst xs))) : tDrop (tBM0 K "list" rPop ta) D σ H :=
  ha H (Ex.refl H) _ fun H1 e1 => ⟨.inl ⟨rfl, _, sq_of (e1 _ _ hl)⟩, l, xs ++ [y], y, rfl, rfl, e1 _ _ hl, by simp, by rw [List.dropLast_concat]; exact k H1 e1⟩
theorem q_pop {tz : TS} {l : Addr} {xs : List V} {y : V} {ta : TE} (ha : Ev ta σ H (.ref l)) (hl : H l = some (.lst (xs ++ [y]))) (k : ∀ H1, Ex H H1 → tz D σ (upd H1 l (.lst xs))) : tSeq (tDrop (tBM0 K "list" rPop ta)) tz D σ H :=
  s_pop (D := { D with nx := tz D }) ha hl k
end
end My

--CUT
namespace My
open PySem PySem.Spec PyProof.Rows L2 Evl
section
variable {P : Program} {w : World} {K : PySem.W.Frag} {mg : Str → Option Value} {base : Heap}
theorem inV_str (w : Str) : ∀ l : List Str, inV (.str w) (l.map V.str) = decide (w ∈ l)
  | [] => by simp [inV]
  | u :: r => by
    have ih := inV_str w r
    unfold inV at ih ⊢
    rw [List.map_cons, List.any_cons, ih]
    by_cases e : u = w
    · subst e
      simp [eqV]
    · have e2 : ¬ w = u := fun z => e z.symm
      simp [eqV, e, e2]
theorem r_inS {σ : L2.St} {H : Hp} {w : Str} {l : List Str} {p : Addr} {Q : VK} (h : H p = some (.lst (l.map V.str))) (q : Q (.bl (decide (w ∈ l))) H) : rIn K false (.str w) (.ref p) H Q :=
  ⟨p, _, rfl, .inl (.of h), rfl, by rw [List.all_map]; exact List.all_eq_true.mpr fun _ _ => rfl, by rw [inV_str]; exact q⟩
theorem frees_at (b : LB) : (strD b.en).map (fun kv => kV kv.1) ++ (strD b.br).map Prod.snd = b.frees.map V.str := by
  unfold strD LB.frees
  rw [List.map_append, List.map_map, List.map_map, List.map_map, List.map_map]
  rfl
theorem LB.Ok.lay {b : LB} (h : b.Ok) {x : Int × Str} (hx : (0 ≤ x.1 ∧ x.2 ∈ b.op.map (·.1)) ∨ (x.1 = -1 ∧ x.2 ∈ b.br.map (·.1))) : PyData.canLay0 (.str x.2) = true := by
  have k : ∀ w ∈ opW ++ brW, PyData.canLay0 (.str w) = true := by decide +kernel
  rcases hx with ⟨_, m⟩ | ⟨_, m⟩
  · obtain ⟨y, hy, e⟩ := List.mem_map.mp m
    rw [← e]
    exact k _ (List.mem_append_left _ (h.ops y hy).1)
  · obtain ⟨y, hy, e⟩ := List.mem_map.mp m
    rw [← e]
    exact k _ (List.mem_append_right _ (h.brs y hy).1)
/-- a test that comes to b and leaves the heap -/
def TV (t : TT) (σ : L2.St) (H : Hp) (b : Bool) : Prop := ∀ Q : Bool → Hp → Prop, Q b H → t σ H Q
theorem TV.and {t u : TT} {σ : L2.St} {H : Hp} {a b : Bool} (ht : TV t σ H a) (hu : TV u σ H b) : TV (tAnd t u) σ H (a && b) := fun Q q => by
  refine r_and (ht _ ?_)
  cases a with
  | false => exact q
  | true => exact hu _ q
theorem TV.or {t u : TT} {σ : L2.St} {H : Hp} {a b : Bool} (ht : TV t σ H a) (hu : TV u σ H b) : TV (tOr t u) σ H (a || b) := fun Q q => by
  refine r_or (ht _ ?_)
  cases a with
  | true => exact q
  | false => exact hu _ q
theorem TV.not {t : TT} {σ : L2.St} {H : Hp} {a : Bool} (ht : TV t σ H a) : TV (tNot t) σ H (!a) := fun _ q => r_not (ht _ q)
/-! ### _law_head -/
def spHead : Sp := fun vs H Q _ => ∃ (N : List Addr) (B S L : Addr) (b : LB) (s : LState) (l : LLine), vs = [.ref B, .ref S, .ref L] ∧ BookAt N H B b ∧ b.Ok ∧ StateAt N H S s ∧ s.Ok b ∧ LineAt N H L l ∧ l.Ok ∧ s.pile.length ≤ 50000 ∧ (∀ a ∈ N, H a ≠ none) ∧
  ∀ (a1 a2 r : Addr) (xs : List V) (H' : Hp), Same H H' → H a1 = none → H a2 = none → H r = none → a1 ≠ a2 →
    H' r = some (.lst [.ref a1, .ref a2, .str (mHead b s l).2.2]) → H' a1 = some (.lst ((mHead b s l).1.map V.str)) → H' a2 = some (.lst xs) → PileAt N H' xs (mHead b s l).2.1 → Q (.ref r) H'
theorem ok_head (T : Txt K mg) : FnOk P w K mg base CX0 3 T.f_head T.fd_head ["_law_book_here", "_law_state", "_law_line_here"] spHead := by
  refine T.F_head.ok sc_head (fun vs H Q E h => ?_) (fun cdv A outer s H vs Q E hr h => ?_)
  · obtain ⟨N, B, S, L, b, s, l, rfl, _⟩ := h
    rfl
  · obtain ⟨N, B, S, L, b, s, l, rfl, hb, ho, hs, so, hl, lo, lp, hN, q⟩ := h
    refine ⟨_, (pss_cons (ps_par3 (i := 3) (j := 4) (l := 5) rfl sc_head.nd rfl rfl rfl (by decide) (by decide) (by decide) rfl rfl rfl (pa_cons (pe_callTy (c_list (K := K)) (by rfl) T.z_list (by decide +kernel) (pa_cons (pe_ix (i_list (K := K)) (pv 1) pe_int (fun _ _ => rfl)) pa_nil)) (pa_cons (pe_ix (i_list (K := K)) (pv 1) pe_int (fun _ _ => rfl)) (pa_cons (pe_lst pa_nil) pa_nil))) (by rfl))
      (pss_cons (ps_par (i := 6) (j := 7) rfl sc_head.nd rfl rfl (by decide) rfl rfl (pa_cons (pe_ix (i_tup (K := K)) (pv 2) pe_int (fun _ _ => rfl)) (pa_cons (pe_ifExp (pt_cmpR (o_neD (K := K) hr.units) (pe_ix (i_list (K := K)) (pv 1) pe_int (fun _ _ => rfl)) (pe_lst pa_nil) (nomark _)) (pe_ix (i_tup (K := K)) (pe_ix (i_list (K := K)) (pe_ix (i_list (K := K)) (pv 1) pe_int (fun _ _ => rfl)) (pe_un un_neg pe_int) (fun _ _ => rfl)) pe_int (fun _ _ => rfl)) pe_int) pa_nil)) (by rfl))
      (pss_cons (ps_set (i := 8) sc_head.nd rfl (.inl rfl) (pe_cmpR (o_inL (K := K)) (pe_ix (i_tup (K := K)) (pe_ix (i_tup (K := K)) (pv 2) pe_int (fun _ _ => rfl)) pe_int (fun _ _ => rfl)) (pe_op op_cat (pe_callTy (L2.call_list_dK rfl) (by rfl) T.z_list (by decide +kernel) (pa_cons (pe_dget (hu_of hr) (pv 0) pe_str (fun _ _ => rfl)) pa_nil)) (pe_callTy (c_listV rfl) (by rfl) T.z_list (by decide +kernel) (pa_cons (e_values (pe_dget (hu_of hr) (pv 0) pe_str (fun _ _ => rfl))) pa_nil))) (by rfl)))
      (pss_cons (ps_if (pt_cmpR op_ne (pv 4) pe_str (nomark _)) (pss_cons (ps_asg (pe_dget (hu_of hr) (pe_dget (hu_of hr) (pv 0) pe_str (fun _ _ => rfl)) (pv 4) (fun _ _ => rfl)) (pg_tup (by rfl) (pgs_cons (pg_name (i := 9) sc_head.nd rfl (.inl rfl)) (pgs_cons (pg_name (i := 10) sc_head.nd rfl (.inl rfl)) pgs_nil))))
      (pss_cons (ps_if (PW.pt (pw_and (pt_not (pt_val (pv 8))) (pw_and1 (PW.pt (pw_or (pt_cmpR op_gt (pv 6) (pv 7) (nomark _)) (pw_or1 (PW.pt (pw_and (pt_cmpR op_eq (pv 6) (pv 7) (nomark _)) (pw_and1 (pt_cmpR op_eq (pv 9) pe_str (nomark _))))))))))) (pss_one (ps_ret (pe_lst (pa_cons (pe_lst (pa_cons pe_str pa_nil)) (pa_cons (pe_op op_cat (pv 3) (pe_lst (pa_cons (pe_tup (pa_cons (pv 6) (pa_cons (pv 4) pa_nil))) pa_nil))) (pa_cons pe_str pa_nil)))))) pss_nil)
      (pss_cons (ps_if (pt_cmpR op_eq (pv 10) pe_str (nomark _)) (pss_one (ps_ret (pe_lst (pa_cons (pe_lst pa_nil) (pa_cons (pv 3) (pa_cons pe_str pa_nil)))))) pss_nil)
      (pss_one (ps_set (i := 5) sc_head.nd rfl (.inl rfl) (pe_lst (pa_cons pe_str (pa_cons pe_str pa_nil)))))))) pss_nil)
      (pss_cons (ps_if (pt_val (pv 8)) (pss_one (ps_ret (pe_lst (pa_cons (pv 5) (pa_cons (pv 3) (pa_cons pe_str pa_nil)))))) pss_nil)
      (pss_cons (ps_set (i := 11) sc_head.nd rfl (.inl rfl) (pe_callB (c_len (K := K)) (by rfl) T.z_len (by decide +kernel) (pa_cons (pv 3) pa_nil)))
      (pss_cons (ps_while PassesOwn.never (PW.pt (pw_and (pt_cmpR (o_neD (K := K) hr.units) (pv 3) (pe_lst pa_nil) (nomark _)) (pw_and1 (pt_cmpR op_gt (pe_ix (i_tup (K := K)) (pe_ix (i_list (K := K)) (pv 3) (pe_un un_neg pe_int) (fun _ _ => rfl)) pe_int (fun _ _ => rfl)) (pv 6) (nomark _))))) (pss_cons (ps_expr (e_bm0 (K := K) PySem.F.plainAttrs_list PySem.F.slot_list_pop PySem.F.type_list_pop mt_pop (pv 3)))
      (pss_one (ps_expr (e_bm (K := K) PySem.F.plainAttrs_list PySem.F.slot_list_append PySem.F.type_list_append mt_append (pv 5) (pa_cons pe_str pa_nil))))))
      (pss_cons (ps_set (i := 7) sc_head.nd rfl (.inl rfl) (pe_ifExp (pt_cmpR (o_neD (K := K) hr.units) (pv 3) (pe_lst pa_nil) (nomark _)) (pe_ix (i_tup (K := K)) (pe_ix (i_list (K := K)) (pv 3) (pe_un un_neg pe_int) (fun _ _ => rfl)) pe_int (fun _ _ => rfl)) pe_int))
      (pss_cons (ps_if (pt_cmpR op_eq (pv 7) (pv 6) (nomark _)) (pss_one (ps_ret (pe_lst (pa_cons (pe_op op_cat (pv 5) (pe_lst (pa_cons pe_str pa_nil))) (pa_cons (pv 3) (pa_cons pe_str pa_nil)))))) pss_nil)
      (pss_cons (ps_set (i := 12) sc_head.nd rfl (.inl rfl) (pe_ifExp (pt_cmpR op_eq (pv 11) (pe_callB (c_len (K := K)) (by rfl) T.z_len (by decide +kernel) (pa_cons (pv 3) pa_nil)) (nomark _)) pe_str pe_str))
      (pss_one (ps_ret (pe_lst (pa_cons (pv 5) (pa_cons (pv 3) (pa_cons (pe_ifExp (PW.pt (pw_and (pt_cmpR op_ge (pv 7) pe_int (nomark _)) (pw_and1 (pt_cmpR op_eq (pe_dget (hu_of hr) (pv 0) (pv 12) (fun _ _ => rfl)) pe_str (nomark _))))) (pv 12) pe_str) pa_nil)))))))))))))))), ?_⟩
    obtain ⟨⟨o, e, r, kvs, h1, h2, h3, h4, h5, n1, n2, n3⟩, n⟩ := hb
    obtain ⟨⟨pa, xs, s1, s2, s3, m1⟩, m0⟩ := hs
    obtain ⟨⟨ta, t1, t2, k1⟩, k0⟩ := hl
    have s3H := s3
    have h1H := h1
    walk_at "zrd"
    intro p0 f0
    have s1' := same_upd (o := .lst xs) f0 _ _ s1
    walk_at "zrd"
    refine ⟨by walk_at "zsz", fun p1 f1 => ?_⟩
    walk_at "zrd"
    refine r_par33 ?_
    have e2 : Same H (upd (upd H p0 (.lst xs)) p1 (.lst [])) := (same_upd f0).trans (same_upd f1)
    have g0 : (upd (upd H p0 (.lst xs)) p1 (.lst [])) p0 = some (.lst xs) := by walk_at "zget"
    have g1 : (upd (upd H p0 (.lst xs)) p1 (.lst [])) p1 = some (.lst []) := upd_same
    have f1H : H p1 = none := (same_upd f0).free f1
    have n01 : p0 ≠ p1 := fun e => by
      rw [← e, upd_same] at f1
      cases f1
    generalize upd (upd H p0 (.lst xs)) p1 (.lst []) = H2 at e2 g0 g1
    clear f1 s1'
    have h1 := e2 _ _ h1
    have h2 := e2 _ _ h2
    have h4 := e2 _ _ h4
    have h5 := e2 _ _ h5
    have s1 := e2 _ _ s1
    have s2 := e2 _ _ s2
    have s3 := s3.mono (ExtN.of_same e2)
    have h3 := h3.mono (ExtN.of_same e2)
    have t1 := e2 _ _ t1
    have t2 := e2 _ _ t2
    walk_at "zrd"
    refine r_ixT t1 rfl ?_
    have wok : ∀ x ∈ s.pile, PyData.canLay0 (.str x.2) = true := fun x hx => ho.lay (so.pile x hx)
    refine r_cons (r_ifK (.int (topOf s.pile)) (fun Hx => Same H2 Hx) (fun H3 e3 => ?_) (fun key => ?_))
    rotate_left
    · clear q
      walk_at "zrd"
      refine ⟨by walk_at "zsz", fun p2 f2 => ?_⟩
      have e3 := same_upd (o := .lst []) f2
      refine r_neNil (e3 _ _ s2) (s3.mono (ExtN.of_same e3)) upd_same wok ?_
      walk_at "zrd"
      rcases pile_end s.pile with hp | ⟨q0, x, hp⟩
      · have e : decide (s.pile ≠ []) = false := by rw [hp]; rfl
        have := key _ e3
        rw [e, if_neg (by decide)]
        rw [hp] at this
        exact this
      · have e : decide (s.pile ≠ []) = true := by rw [hp]; simp
        have := key _ e3
        rw [e, if_pos rfl]
        rw [hp, topOf_add] at this
        obtain ⟨c, u⟩ := x
        rw [hp] at s3
        obtain ⟨us, t, rfl, s4, n4, e4⟩ := s3.last
        have s1 := e3 _ _ s1
        have s2 := e3 _ _ s2
        have e4 := e3 _ _ e4
        walk_at "zrd"
        refine r_ixL s2 (L2.atI_last _ _) ?_
        walk_at "zrd"
        refine r_ixT e4 rfl ?_
        exact this
    refine r_nil ⟨_, _, rfl, ?_⟩
    have sm0 := e2
    clear e2
    have h1 := e3 _ _ h1
    have h2 := e3 _ _ h2
    have h4 := e3 _ _ h4
    have h5 := e3 _ _ h5
    have g0 := e3 _ _ g0
    have g1 := e3 _ _ g1
    have h3 := h3.mono (ExtN.of_same e3)
    have s3 := s3.mono (ExtN.of_same e3)
    have t1 := e3 _ _ t1
    have t2 := e3 _ _ t2
    have sm := sm0.trans e3
    clear sm0 s1 s2
    obtain ⟨w0, wr, hws⟩ : ∃ w0 wr, l.ws = w0 :: wr := List.exists_cons_of_ne_nil lo.some
    rw [hws] at t2
    walk_at "zrd"
    refine r_ixT t1 rfl ?_
    walk_at "zrd"
    refine r_ixT t2 (L2.atI_nat (j := 0) rfl) ?_
    walk_at "zrd"
    refine r_dgetS h1 bk_e ⟨_, _, rfl, h4, fun p2 f2 => ?_⟩
    walk_at "zrd"
    have e4 := same_upd (o := .lst ((strD b.en).map fun kv => kV kv.1)) f2
    refine r_vals (r_dget (r_var rfl (r_c (r_dgetS (e4 _ _ h1) bk_r ⟨_, _, rfl, e4 _ _ h5, fun v hv => ?_⟩))))
    have e5 := e4.trans (same_upd (o := valsO v r) hv)
    walk_at "zrd"
    refine ⟨v, r, _, rfl, upd_same, e5 _ _ h5, fun p3 f3 => ?_⟩
    have e6 := e5.trans (same_upd (o := .lst ((strD b.br).map Prod.snd)) f3)
    walk_at "zrd"
    refine r_cat (same_upd f3 _ _ (same_upd hv _ _ upd_same)) upd_same ?_ (fun p4 f4 => ?_)
    · unfold strD
      simp only [List.length_map]
      exact Nat.le_trans (Nat.add_le_add ho.enl ho.brl) (by decide)
    rw [frees_at]
    refine r_inS (σ := []) upd_same ?_
    have e7 := e6.trans (same_upd (o := .lst (b.frees.map V.str)) f4)
    generalize upd (upd (upd (upd H3 p2 (.lst ((strD b.en).map fun kv => kV kv.1))) v (valsO v r)) p3 (.lst ((strD b.br).map Prod.snd))) p4 (.lst (b.frees.map V.str)) = H4 at e7
    clear e4 e5 e6 f4 f3 hv f2
    have h1 := e7 _ _ h1
    have h2 := e7 _ _ h2
    have h4 := e7 _ _ h4
    have h5 := e7 _ _ h5
    have g0 := e7 _ _ g0
    have g1 := e7 _ _ g1
    have h3 := h3.mono (ExtN.of_same e7)
    have s3 := s3.mono (ExtN.of_same e7)
    have sm := sm.trans e7
    have hfree : decide (l.ws.headD "" ∈ b.frees) = decide (w0 ∈ b.frees) := by rw [hws]; rfl
    clear e7 e3 t1 t2
    refine r_name ?_
    dsimp only
    refine r_seqJ (fun σ H' => ∃ pf f y9 y10 y11 y12, σ = [some (.ref B), some (.ref S), some (.ref L), some (.ref p0), some (.str s.wait), some (.ref pf), some (.int l.col), some (.int (topOf s.pile)), some (.bl (decide (w0 ∈ b.frees))), y9, y10, y11, y12] ∧
      H' pf = some (.lst (f.map V.str)) ∧ Same H4 H' ∧ pf ≠ p0 ∧ H pf = none ∧ f.length ≤ 2 ∧ mHead b s l = mRest b f s.pile l.col (decide (w0 ∈ b.frees))) (fun σ H5 hC => ?_) (fun key => ?_)
    · obtain ⟨pf, f, y9, y10, y11, y12, rfl, gf, e8, nf0, ff, fl2, hm⟩ := hC
      have g0 := e8 _ _ g0
      have s3 := s3.mono (ExtN.of_same e8)
      have sm := sm.trans e8
      have h1 := e8 _ _ h1
      clear e8 h2 h4 h5 h3
      refine r_seq ?_
      refine r_ifs (r_B (r_var rfl ⟨_, rfl, ?_⟩))
      by_cases hf : w0 ∈ b.frees
      · rw [if_pos (decide_eq_true hf)]
        have hm2 : mHead b s l = (f, s.pile, ("" : Str)) := by
          rw [hm]
          unfold mRest
          rw [if_pos (decide_eq_true hf)]
        walk_at "zrd"
        refine ⟨by walk_at "zsz", fun p6 f6 => ?_⟩
        have x1 := same_upd (o := .lst [.ref pf, .ref p0, .str ""]) f6
        refine q pf p0 p6 xs _ (sm.trans x1) ff f0 (sm.free f6) nf0 ?_ ?_ (x1 _ _ g0) ?_
        · rw [hm2]
          exact upd_same
        · rw [hm2]
          exact x1 _ _ gf
        · rw [hm2]
          exact s3.mono (ExtN.of_same x1)
      · rw [if_neg (by simp [hf])]
        refine r_next ?_
        dsimp only
        have hm2 : mHead b s l = mRest b f s.pile l.col false := by
          rw [hm, decide_eq_false hf]
        have hlx : (xs.length : Int) = (s.pile.length : Int) := by rw [s3H.len]
        refine q_asg (ev_len (ev_var rfl) (sq_of g0)) fun H6 e6 => ?_
        refine r_seqJ (fun σ H' => ∃ us k, σ = [some (.ref B), some (.ref S), some (.ref L), some (.ref p0), some (.str s.wait), some (.ref pf), some (.int l.col), some (.int (topOf s.pile)), some (.bl (decide (w0 ∈ b.frees))), y9, y10, some (.int (s.pile.length : Int)), y12] ∧
          PileAt N H us (popTo l.col s.pile) ∧ H' p0 = some (.lst us) ∧ H' pf = some (.lst ((f ++ List.replicate k ("}" : Str)).map V.str)) ∧ Same H H' ∧ s.pile.length = (popTo l.col s.pile).length + k) (fun σ' H7 hC => ?_) (fun key => ?_)
        · obtain ⟨us, k, rfl, hp, g7, w7, sm7, hlen⟩ := hC
          have hk : s.pile.length - (popTo l.col s.pile).length = k := by omega
          have hsub : ∀ x ∈ popTo l.col s.pile, x ∈ s.pile := cutWhile_sub _ _
          have hm3 : mHead b s l = (if topOf (popTo l.col s.pile) = l.col then ((f ++ List.replicate k ("}" : Str) ++ [(";" : Str)], popTo l.col s.pile, ("" : Str)) : List Str × Pile × Str) else
              ((f ++ List.replicate k ("}" : Str), popTo l.col s.pile, (@ite Str (0 ≤ topOf (popTo l.col s.pile) ∧ (if s.pile.length = (popTo l.col s.pile).length then b.deep else b.gap) = ("breaks" : Str)) _ (@ite Str (s.pile.length = (popTo l.col s.pile).length) _ ("deep" : Str) ("gap" : Str)) ("" : Str))) : List Str × Pile × Str)) := by
            rw [hm2]
            unfold mRest
            rw [if_neg (by decide)]
            dsimp only
            rw [hk]
          generalize popTo l.col s.pile = qq at hp hlen hk hsub hm3
          have hpl : ∀ x ∈ qq, PyData.canLay0 (.str x.2) = true := fun x hx => wok x (hsub x hx)
          refine q_asg (v := .int (topOf qq)) ?_ fun H8 e8 => ?_
          · have hE := ev_neNil (K := K) (σ := [some (.ref B), some (.ref S), some (.ref L), some (.ref p0), some (.str s.wait), some (.ref pf), some (.int l.col), some (.int (topOf s.pile)), some (.bl (decide (w0 ∈ b.frees))), y9, y10, some (.int (s.pile.length : Int)), y12]) (ta := tVar 3) (ev_var rfl) g7 (hp.mono (ExtN.of_same sm7)) hpl
            rcases pile_end qq with rfl | ⟨q2, ⟨c, u⟩, rfl⟩
            · exact ev_if (et_B hE) (fun z => nomatch z) (fun _ => ev_c)
            · obtain ⟨us2, t, rfl, hp2, nt, ht⟩ := hp.last
              rw [topOf_add]
              exact ev_if (et_B hE) (fun _ => ev_col (ev_lastRef (ev_var rfl) g7) (sm7 _ _ ht)) (fun z => by simp at z)
          have g8 := e8 _ _ g7
          have w8 := e8 _ _ w7
          have sm8 := sm7.trans e8
          refine q_when (b := decide (topOf qq = l.col)) (et_B (ev_eqI (ev_var rfl) (ev_var rfl))) (fun hb H9 e9 => ?_) (fun hb H9 e9 => ?_)
          · rw [if_pos (of_decide_eq_true hb)] at hm3
            have g9 := e9 _ _ g8
            have w9 := e9 _ _ w8
            have sm9 := sm8.trans e9
            clear e9 e8 e6
            walk_at "zrd"
            refine ⟨by walk_at "zsz", fun p5 f5 => ?_⟩
            have x1 := same_upd (o := .lst [.str ";"]) f5
            refine r_cat (x1 _ _ w9) upd_same ?_ (fun p6 f6 => ?_)
            · exact sz_of (by simp; omega)
            have x2 := x1.trans (same_upd (o := .lst ((f ++ List.replicate k ("}" : Str)).map V.str ++ [.str ";"])) f6)
            walk_at "zrd"
            refine ⟨by walk_at "zsz", fun p7 f7 => ?_⟩
            have x3 := x2.trans (same_upd (o := .lst [.ref p6, .ref p0, .str ""]) f7)
            refine q p6 p0 p7 us _ (sm9.trans x3) ((sm9.trans x1).free f6) f0 ((sm9.trans x2).free f7) (ne_of_none (x1 _ _ g9) f6).symm ?_ ?_ ?_ ?_
            · rw [hm3]
              exact upd_same
            · rw [hm3]
              refine same_upd f7 _ _ ?_
              rw [upd_same]
              simp
            · exact x3 _ _ g9
            · rw [hm3]
              exact hp.mono (ExtN.of_same (sm9.trans x3))
          · rw [if_neg (of_decide_eq_false hb)] at hm3
            have g9 := e9 _ _ g8
            have w9 := e9 _ _ w8
            have sm9 := sm8.trans e9
            clear e9 e8 e6
            refine q_asg (v := .str (if s.pile.length = qq.length then ("deep" : Str) else ("gap" : Str))) ?_ fun H10 e10 => ?_
            · refine ev_if (b := decide (s.pile.length = qq.length)) (et_B (ev_is (ev_eqI (ev_var rfl) (ev_len (ev_var rfl) (sq_of g9))) (by rw [hp.len]; congr 1; exact decide_eq_decide.mpr (by omega)))) (fun z => ?_) (fun z => ?_)
              · rw [if_pos (of_decide_eq_true z)]
                exact ev_c
              · rw [if_neg (of_decide_eq_false z)]
                exact ev_c
            have g10 := e10 _ _ g9
            have w10 := e10 _ _ w9
            have sm10 := sm9.trans e10
            have h110 := sm10 _ _ h1H
            clear e10 g9 w9 sm9
            refine r_ret (r_lst (r_cons (r_var rfl (r_cons (r_var rfl (r_cons ?_))))))
            refine ev_if (b := decide (0 ≤ topOf qq ∧ (if s.pile.length = qq.length then b.deep else b.gap) = ("breaks" : Str))) (v := .str (mHead b s l).2.2) ?_ ?_ ?_ H10 (Ex.refl _) _ fun H11 e11 => ?_
            · refine et_is (et_and (a := decide (0 ≤ topOf qq)) (b := decide ((if s.pile.length = qq.length then b.deep else b.gap) = ("breaks" : Str))) (et_B (ev_is (ev_op (ev_var rfl) ev_c rv_I0) (by simp))) (fun _ => et_B (ev_eqS (ev_dget (ev_var rfl) (ev_var rfl) h110 ?_) ev_c))) (by simp)
              split
              · exact bk_d
              · exact bk_g
            · intro z
              rw [hm3, if_pos (of_decide_eq_true z)]
              exact ev_var rfl
            · intro z
              rw [hm3, if_neg (of_decide_eq_false z)]
              exact ev_c
            refine r_nil ⟨by walk_at "zsz", fun p7 f7 => ?_⟩
            have x3 := e11.trans (Ex.new (o := .lst [.ref pf, .ref p0, .str (mHead b s l).2.2]) f7)
            have hf1 : (mHead b s l).1 = f ++ List.replicate k ("}" : Str) := by rw [hm3]
            have hf2 : (mHead b s l).2.1 = qq := by rw [hm3]
            refine q pf p0 p7 us _ (sm10.trans x3) ff f0 ((sm10.trans e11).free f7) nf0 upd_same ?_ ?_ ?_
            · rw [hf1]
              exact x3 _ _ w10
            · exact x3 _ _ g10
            · rw [hf2]
              exact hp.mono (ExtN.of_same (sm10.trans x3))
        · refine s_while (fun m σ H' => ∃ us q1 k, σ = [some (.ref B), some (.ref S), some (.ref L), some (.ref p0), some (.str s.wait), some (.ref pf), some (.int l.col), some (.int (topOf s.pile)), some (.bl (decide (w0 ∈ b.frees))), y9, y10, some (.int (s.pile.length : Int)), y12] ∧ q1.length = m ∧ PileAt N H us q1 ∧
            H' p0 = some (.lst us) ∧ H' pf = some (.lst ((f ++ List.replicate k ("}" : Str)).map V.str)) ∧ Same H H' ∧ popTo l.col s.pile = popTo l.col q1 ∧ s.pile.length = q1.length + k ∧ (∀ x ∈ q1, x ∈ s.pile)) s.pile.length
            ⟨xs, s.pile, 0, by rw [← hlx]; rfl, rfl, s3H, e6 _ _ g0, by simpa using e6 _ _ gf, sm.trans e6, rfl, rfl, fun _ h => h⟩ (fun m σ' H7 hW => ?_)
          obtain ⟨us, q1, k, rfl, hqm, hp, g7, w7, sm7, hpop, hlen, hsub⟩ := hW
          have hE := ev_neNil (K := K) (σ := [some (.ref B), some (.ref S), some (.ref L), some (.ref p0), some (.str s.wait), some (.ref pf), some (.int l.col), some (.int (topOf s.pile)), some (.bl (decide (w0 ∈ b.frees))), y9, y10, some (.int (s.pile.length : Int)), y12]) (ta := tVar 3) (ev_var rfl) g7 (hp.mono (ExtN.of_same sm7)) (fun x hx => wok x (hsub x hx))
          rcases pile_end q1 with rfl | ⟨q2, ⟨c, u⟩, rfl⟩
          · refine ⟨false, et_and (a := false) (b := false) (et_B hE) (fun z => nomatch z), (fun z => nomatch z), fun _ H8 e8 => ?_⟩
            refine key _ _ ⟨us, k, rfl, ?_, e8 _ _ g7, e8 _ _ w7, sm7.trans e8, ?_⟩
            · rw [hpop]
              exact hp
            · rw [hpop]
              exact hlen
          · obtain ⟨us2, t, rfl, hp2, nt, ht⟩ := hp.last
            refine ⟨decide (c > l.col), et_is (et_and (b := decide (c > l.col)) (et_B hE) (fun _ => et_B (ev_gt (ev_col (ev_lastRef (ev_var rfl) g7) (sm7 _ _ ht)) (ev_var rfl)))) (by simp), fun hb H8 e8 => ⟨_, fun _ _ h => h, ?_⟩, fun hb H8 e8 => ?_⟩
            · have hc : l.col < c := of_decide_eq_true hb
              refine q_pop (ev_var rfl) (e8 _ _ g7) fun H9 e9 => ?_
              have w9 : upd H9 p0 (.lst us2) pf = some (.lst ((f ++ List.replicate k ("}" : Str)).map V.str)) := by
                rw [upd_ne nf0]
                exact e9 _ _ (e8 _ _ w7)
              refine s_app w9 (ev_var rfl) ev_c ?_ fun H10 e10 => ?_
              · have := hlen
                simp at this ⊢
                omega
              refine ⟨q2.length, by rw [← hqm, List.length_append]; exact Nat.lt_succ_self _, us2, q2, k + 1, rfl, rfl, hp2, ?_, ?_, ?_, ?_, ?_, fun x hx => hsub x (List.mem_append_left _ hx)⟩
              · rw [upd_ne nf0.symm]
                exact e10 _ _ upd_same
              · rw [upd_same, List.replicate_succ']
                simp
              · exact Ex.mut ((Ex.mut (o := .lst us2) ((sm7.trans e8).trans e9) f0).trans e10) ff
              · rw [hpop]
                exact cutWhile_pos (decide_eq_true hc)
              · rw [hlen, List.length_append]
                show q2.length + 1 + k = _
                omega
            · have hc : ¬ l.col < c := of_decide_eq_false hb
              have hcut : popTo l.col (q2 ++ [(c, u)]) = q2 ++ [(c, u)] := cutWhile_neg (by simpa using hc)
              refine key _ _ ⟨us2 ++ [.ref t], k, rfl, ?_, e8 _ _ g7, e8 _ _ w7, sm7.trans e8, ?_⟩
              · rw [hpop, hcut]
                exact hp
              · rw [hpop, hcut]
                exact hlen
    · walk_at "zrd"
      by_cases hw : s.wait = ("" : Str)
      · have e : (!decide (V.str s.wait = V.str "")) = false := by rw [hw]; rfl
        rw [e, if_neg (by decide)]
        refine r_next ?_
        refine key _ _ ⟨p1, [], _, _, _, _, rfl, g1, fun _ _ h => h, n01.symm, f1H, by decide, ?_⟩
        unfold mHead
        dsimp only
        rw [if_pos hw, hfree]
      · have e : (!decide (V.str s.wait = V.str "")) = true := by simp [hw]
        rw [e, if_pos rfl]
        have hwm := so.wait.resolve_left hw
        obtain ⟨tr, da, na, _, _, hv, htr, hlk⟩ := (h3.val (w := s.wait)).resolve_left (fun z => z.1 hwm)
        have hrule : b.rule s.wait = (da, na) := by
          unfold LB.rule
          rw [hlk]
          rfl
        walk_at "zrd"
        refine r_dgetS h1 bk_o ?_
        walk_at "zrd"
        refine r_dgetS h2 hv ?_
        refine ⟨tr, [.str da, .str na], rfl, .inl (.inl htr), rfl, _, _, rfl, r_name ⟨_, _, rfl, r_name ⟨rfl, ?_⟩⟩⟩
        have hm : mHead b s l = if (!decide (w0 ∈ b.frees) && (decide (topOf s.pile < l.col) || (decide (l.col = topOf s.pile) && decide (da = ("level" : Str))))) = true then ([("{" : Str)], s.pile ++ [(l.col, s.wait)], ("" : Str))
            else if na = ("filled" : Str) then ([], s.pile, ("filled" : Str)) else mRest b ["{", "}"] s.pile l.col (decide (w0 ∈ b.frees)) := by
          unfold mHead
          dsimp only
          rw [if_neg hw, hfree, hrule]
        dsimp only
        refine r_seqJ (fun σ H' => ∃ y11 y12, σ = [some (.ref B), some (.ref S), some (.ref L), some (.ref p0), some (.str s.wait), some (.ref p1), some (.int l.col), some (.int (topOf s.pile)), some (.bl (decide (w0 ∈ b.frees))), some (.str da), some (.str na), y11, y12] ∧ H' = H4 ∧
          mHead b s l = if na = ("filled" : Str) then ([], s.pile, ("filled" : Str)) else mRest b ["{", "}"] s.pile l.col (decide (w0 ∈ b.frees))) (fun σ H5 hC => ?_) (fun key2 => ?_)
        · obtain ⟨y11, y12, rfl, rfl, hm2⟩ := hC
          refine r_ifs (r_test (r_op (r_var rfl (r_c (r_eq rfl ⟨_, rfl, ?_⟩)))))
          by_cases hn : na = ("filled" : Str)
          · rw [if_pos (by rw [hn]; rfl)]
            rw [if_pos hn] at hm2
            walk_at "zrd"
            refine ⟨by walk_at "zsz", fun p5 f5 => ?_⟩
            walk_at "zrd"
            refine ⟨by walk_at "zsz", fun p6 f6 => ?_⟩
            have x1 := same_upd (o := .lst []) f5
            have x2 := x1.trans (same_upd (o := .lst [.ref p5, .ref p0, .str "filled"]) f6)
            refine q p5 p0 p6 xs _ (sm.trans x2) (sm.free f5) f0 ((sm.trans x1).free f6) (ne_of_none g0 f5).symm ?_ ?_ ?_ ?_
            · rw [hm2]
              exact upd_same
            · rw [hm2]
              exact same_upd f6 _ _ upd_same
            · exact x2 _ _ g0
            · rw [hm2]
              exact s3.mono (ExtN.of_same x2)
          · rw [if_neg (by simp [hn])]
            rw [if_neg hn] at hm2
            refine r_next ?_
            dsimp only
            refine r_asg (r_lst (r_cons (r_c (r_cons (r_c (r_nil ⟨by walk_at "zsz", fun p5 f5 => r_name ?_⟩))))))
            exact key _ _ ⟨p5, ["{", "}"], _, _, _, _, rfl, upd_same, same_upd f5, (ne_of_none g0 f5).symm, sm.free f5, by show 2 ≤ 2; decide, hm2⟩
        · refine r_ifs ((TV.and (TV.not (a := decide (w0 ∈ b.frees)) fun Q q => ?_) (TV.or (a := decide (topOf s.pile < l.col)) (fun Q q => ?_) (TV.and (a := decide (l.col = topOf s.pile)) (b := decide (da = ("level" : Str))) (fun Q q => ?_) (fun Q q => ?_)))) _ ?_)
          · walk_at "zrd"
            exact q
          · walk_at "zrd"
            exact q
          · walk_at "zrd"
            simpa using q
          · walk_at "zrd"
            simpa using q
          · split
            · rename_i hc
              rw [if_pos hc] at hm
              walk_at "zrd"
              refine ⟨by walk_at "zsz", fun p5 f5 => ?_⟩
              have x1 := same_upd (o := .lst [.str "{"]) f5
              walk_at "zrd"
              refine ⟨by walk_at "zsz", fun p6 f6 => ?_⟩
              have x2 := x1.trans (same_upd (o := .tup [.int l.col, .str s.wait]) f6)
              walk_at "zrd"
              refine ⟨by walk_at "zsz", fun p7 f7 => ?_⟩
              have x3 := x2.trans (same_upd (o := .lst [.ref p6]) f7)
              walk_at "zrd"
              refine r_cat (x3 _ _ g0) upd_same ?_ (fun p8 f8 => ?_)
              · rw [s3.len]
                exact Nat.le_trans (Nat.add_le_add lp (Nat.le_refl 1)) (by decide)
              have x4 := x3.trans (same_upd (o := .lst (xs ++ [.ref p6])) f8)
              walk_at "zrd"
              refine ⟨by walk_at "zsz", fun p9 f9 => ?_⟩
              have x5 := x4.trans (same_upd (o := .lst [.ref p5, .ref p8, .str ""]) f9)
              have y5 := same_upd (o := .tup [.int l.col, .str s.wait]) f6 _ _ (upd_same (H := H4) (a := p5) (o := .lst [.str "{"]))
              have y6 := same_upd (o := .lst [.ref p6]) f7 _ _ y5
              refine q p5 p8 p9 (xs ++ [.ref p6]) _ (sm.trans x5) (sm.free f5) ((sm.trans x3).free f8) ((sm.trans x4).free f9) (ne_of_none y6 f8) ?_ ?_ ?_ ?_
              · rw [hm]
                exact upd_same
              · rw [hm]
                exact same_upd f9 _ _ (same_upd f8 _ _ y6)
              · exact same_upd f9 _ _ upd_same
              · rw [hm]
                refine (s3.mono (ExtN.of_same x5)).append (.cons ?_ (same_upd f9 _ _ (same_upd f8 _ _ (same_upd f7 _ _ upd_same))) .nil)
                exact fun z => hN _ z ((sm.trans x1).free f6)
            · rename_i hc
              rw [if_neg hc] at hm
              refine r_next ?_
              exact key2 _ _ ⟨_, _, rfl, rfl, hm⟩
end
end My

--CUT
namespace My
open PySem PySem.Spec PyProof.Rows L2 Evl
/-! ### lists put together, dicts of texts -/
section
variable {K : PySem.W.Frag} {σ : L2.St} {H H' : Hp} {D : Ends}
theorem el_cat {ta tb : TE} {a : Addr} {xs ys : List V} (ha : Ev ta σ H (.ref a)) (h : H a = some (.lst xs)) (hb : EvL tb σ H ys) (hz : xs.length + ys.length ≤ 100000) : EvL (tOp rCat ta tb) σ H (xs ++ ys) := fun H1 e Q q =>
  ha H1 e _ fun H2 e2 => hb H2 (e.trans e2) _ fun p H3 _ e3 hp => r_cat (((e.trans e2).trans e3) _ _ h) hp (sz_of hz) fun l hl => q l _ (fresh_back (e2.trans e3) hl) ((e2.trans e3).trans (Ex.new hl)) upd_same
theorem el_catLL {ta tb : TE} {xs ys : List V} (ha : EvL ta σ H xs) (hb : EvL tb σ H ys) (hz : xs.length + ys.length ≤ 100000) : EvL (tOp rCat ta tb) σ H (xs ++ ys) := fun H1 e Q q =>
  ha H1 e _ fun p1 H2 _ e2 hp1 => hb H2 (e.trans e2) _ fun p H3 _ e3 hp => r_cat (e3 _ _ hp1) hp (sz_of hz) fun l hl => q l _ (fresh_back (e2.trans e3) hl) ((e2.trans e3).trans (Ex.new hl)) upd_same
theorem el_rep {ta tb : TE} {xs : List V} {k : Int} (ha : EvL ta σ H xs) (hb : Ev tb σ H (.int k)) (h0 : 0 ≤ k) (h1 : k < 1000) (hz : xs.length * k.toNat ≤ 100000) : EvL (tOp rRep ta tb) σ H (List.replicate k.toNat xs).flatten := fun H1 e Q q =>
  ha H1 e _ fun p1 H2 _ e2 hp1 => hb H2 (e.trans e2) _ fun H3 e3 => r_rep (e3 _ _ hp1) h0 h1 (sz_of hz) fun l hl => q l _ (fresh_back (e2.trans e3) hl) ((e2.trans e3).trans (Ex.new hl)) upd_same
theorem ev_intB {te : TE} {b : Bool} (h : Ev te σ H (.bl b)) : Ev (tCB wInt1 (tCons te tNil)) σ H (.int (if b then 1 else 0)) := fun H1 e Q q => h H1 e _ fun H2 e2 => r_int1b (q H2 e2)
theorem el_vals {td : TE} {r : Addr} {kvs : List (Key × V)} (hd : Ev td σ H (.ref r)) (h : H r = some (.dK kvs)) : EvL (tCB wListV (tCons (tVals td) tNil)) σ H (kvs.map Prod.snd) := fun H1 e Q q =>
  hd H1 e _ fun H2 e2 => ⟨r, kvs, rfl, (e.trans e2) _ _ h, fun v hv => ⟨v, r, kvs, rfl, upd_same, Ex.new hv _ _ ((e.trans e2) _ _ h), fun l hl => q l _ (fresh_back (e2.trans (Ex.new hv)) hl) ((e2.trans (Ex.new hv)).trans (Ex.new hl)) upd_same⟩⟩
theorem ev_inVals {ta td : TE} {r : Addr} {w : Str} {l : List (Str × Str)} (ha : Ev ta σ H (.str w)) (hd : Ev td σ H (.ref r)) (h : H r = some (.dK (strD l))) :
    Ev (tOp (rIn K false) ta (tCB wListV (tCons (tVals td) tNil))) σ H (.bl (decide (w ∈ l.map (·.2)))) :=
  ev_opL ha (el_vals hd h) fun p H1 hp e => rv_val fun H2 e2 Q q => r_inS (σ := []) (by rw [← strD_vals]; exact e2 _ _ hp) q
theorem strD_val (w : Str) : ∀ l : List (Str × Str), valV (strD l) (Sum.inr w) = (l.lookup w).map V.str
  | [] => rfl
  | (u, x) :: r => by
    by_cases hw : u = w
    · subst hw
      have : valV (strD ((u, x) :: r)) (Sum.inr u) = some (V.str x) := valV_pos rfl
      rw [this]
      simp [List.lookup]
    · have h1 : valV (strD ((u, x) :: r)) (Sum.inr w) = valV (strD r) (Sum.inr w) := valV_neg (fun z => hw (Sum.inr.inj z))
      have h2 : (w == u) = false := by simp; exact fun z => hw z.symm
      rw [h1, strD_val w r]
      simp only [List.lookup, h2]
theorem lookup_some {w : Str} : ∀ {l : List (Str × Str)}, (l.lookup w).isSome = decide (w ∈ l.map (·.1))
  | [] => rfl
  | (u, x) :: r => by
    by_cases hw : w = u
    · subst hw
      simp [List.lookup]
    · have h2 : (w == u) = false := by simp; exact hw
      simp only [List.lookup, h2, lookup_some (l := r), List.map_cons, List.mem_cons, hw, false_or]
theorem lookup_mem {w x : Str} : ∀ {l : List (Str × Str)}, l.lookup w = some x → (w, x) ∈ l
  | [], h => by simp at h
  | (u, y) :: r, h => by
    by_cases hw : w = u
    · subst hw
      simp [List.lookup] at h
      rw [h]
      exact .head _
    · have h2 : (w == u) = false := by simp; exact hw
      simp only [List.lookup, h2] at h
      exact .tail _ (lookup_mem h)
theorem strD_isSome (w : Str) (l : List (Str × Str)) : (valV (strD l) (Sum.inr w)).isSome = decide (w ∈ l.map (·.1)) := by
  rw [strD_val, Option.isSome_map, lookup_some]
theorem PileAt.lst {N : List Addr} {H : Hp} {a : Addr} {zs : List V} {o : HO} (ha : H a = some (.lst zs)) : ∀ {vs : List V} {p : Pile}, PileAt N H vs p → PileAt N (upd H a o) vs p
  | _, _, .nil => .nil
  | _, _, .cons (t := t) n e h => .cons n (by
      have : t ≠ a := ne_obj e ha (fun z => nomatch z)
      rw [upd_ne this]
      exact e) (h.lst ha)
theorem PileAt.exx {N : List Addr} {H H' : Hp} (e : Ex H H') {vs : List V} {p : Pile} (h : PileAt N H vs p) : PileAt N H' vs p := h.mono (ExtN.of_same e)
theorem BookAt.exx {N : List Addr} {H H' : Hp} (e : Ex H H') {B : Addr} {b : LB} (h : BookAt N H B b) : BookAt N H' B b := h.mono (ExtN.of_same e)
def allW : List Str := ["of", "if", "do", "key", "in", "fi", "end", "lp", "lb", "rp", "rb", "a", "b", "x", "y", "z"]
def sgW : List Str := ["{", "}", ";", "of", "if", "do", "key", "in", "fi", "end", "lp", "lb", "rp", "rb", "a", "b", "x", "y", "z"]
theorem all_sg {w : Str} (h : w ∈ allW) : w ∈ sgW := .tail _ (.tail _ (.tail _ h))
theorem sg_cl : ("}" : Str) ∈ sgW := .tail _ (.head _)
theorem sg_op : ("{" : Str) ∈ sgW := .head _
theorem sg_se : (";" : Str) ∈ sgW := .tail _ (.tail _ (.head _))
theorem LB.Ok.noE {b : LB} (h : b.Ok) : ¬ ("" : Str) ∈ b.op.map (·.1) := fun z => by
  obtain ⟨y, hy, e⟩ := List.mem_map.mp z
  have := (h.ops y hy).1
  rw [e] at this
  exact absurd this (by decide)
theorem LB.Ok.want {b : LB} (h : b.Ok) (w : Str) : b.want w = ("" : Str) ∨ b.want w ∈ b.op.map (·.1) := by
  unfold LB.want
  cases e : b.en.lookup w with
  | none => exact .inl rfl
  | some x =>
    obtain ⟨_, y, hy, e2⟩ := h.ens _ (lookup_mem e)
    exact .inr (List.mem_map.mpr ⟨y, hy, e2⟩)
end
end My

--CUT
namespace My
open PySem PySem.Spec PyProof.Rows L2 Evl
section
variable {P : Program} {w : World} {K : PySem.W.Frag} {mg : Str → Option Value} {base : Heap}
/-! ### _law_body -/
def spBody : Sp := fun vs H Q _ => ∃ (N : List Addr) (B pa ta : Addr) (b : LB) (p : Pile) (xs : List V) (ws : List Str), vs = [.ref B, .ref pa, .ref ta] ∧ BookAt N H B b ∧ b.Ok ∧ H pa = some (.lst xs) ∧ PileAt N H xs p ∧ PileOk b p ∧
  H ta = some (.tup (ws.map V.str)) ∧ (∀ u ∈ ws, u ∈ allW) ∧ ws.length ≤ 10 ∧ p.length ≤ 50000 ∧ (∀ a ∈ N, H a ≠ none) ∧
  ∀ (a1 a2 r : Addr) (f : List Str) (xs' : List V) (p' : Pile) (re : Str) (H' : Hp), Same H H' → H a1 = none → H a2 = none → H r = none → H' r = some (.lst [.ref a1, .ref a2, .str re]) → H' a1 = some (.lst (f.map V.str)) → (∀ u ∈ f, u ∈ sgW) → f.length ≤ 60000 →
    H' a2 = some (.lst xs') → PileAt N H' xs' p' → PileOk b p' → p'.length ≤ p.length + ws.length → Q (.ref r) H'
structure BI (N : List Addr) (H : Hp) (b : LB) (pp pf : Addr) (f : List Str) (us : List V) (q : Pile) (n m : Nat) (H' : Hp) : Prop where
  pile : H' pp = some (.lst us)
  at_ : PileAt N H' us q
  ok : PileOk b q
  fnd : H' pf = some (.lst (f.map V.str))
  sg : ∀ u ∈ f, u ∈ sgW
  same : Same H H'
  free : H pf = none
  ne : pp ≠ pf
  all : f.length + q.length ≤ n
  len : q.length ≤ m
theorem BI.exx {N : List Addr} {H : Hp} {b : LB} {pp pf : Addr} {f : List Str} {us : List V} {q : Pile} {n m : Nat} {H' H2 : Hp} (h : BI N H b pp pf f us q n m H') (e : Ex H' H2) : BI N H b pp pf f us q n m H2 :=
  ⟨e _ _ h.pile, h.at_.exx e, h.ok, e _ _ h.fnd, h.sg, h.same.trans e, h.free, h.ne, h.all, h.len⟩
/-- a sign more -/
theorem BI.app {N : List Addr} {H : Hp} {b : LB} {pp pf : Addr} {f : List Str} {us : List V} {q : Pile} {n m : Nat} {H' : Hp} {u : Str} (h : BI N H b pp pf f us q n m H') (hu : u ∈ sgW) : BI N H b pp pf (f ++ [u]) us q (n + 1) m (upd H' pf (.lst (f.map V.str ++ [.str u]))) :=
  ⟨by rw [upd_ne h.ne]; exact h.pile, h.at_.lst h.fnd, h.ok, by rw [upd_same, List.map_append]; rfl, fun w hw => by
    rcases List.mem_append.mp hw with z | z
    · exact h.sg w z
    · rw [List.mem_singleton.mp z]
      exact hu, Ex.mut h.same h.free, h.free, h.ne, by have := h.all; rw [List.length_append]; show f.length + 1 + q.length ≤ n + 1; omega, h.len⟩
/-- the last block goes -/
theorem BI.pop {N : List Addr} {H : Hp} {b : LB} {pp pf : Addr} {f : List Str} {us : List V} {q : Pile} {n m : Nat} {H' : Hp} {x : Int × Str} {y : V} (h : BI N H b pp pf f (us ++ [y]) (q ++ [x]) n m H') (hp : H pp = none) (ha : PileAt N H' us q) : BI N H b pp pf f us q (n - 1) m (upd H' pp (.lst us)) :=
  ⟨upd_same, ha.lst h.pile, h.ok.sub fun z hz => List.mem_append_left _ hz, by rw [upd_ne h.ne.symm]; exact h.fnd, h.sg, Ex.mut h.same hp, h.free, h.ne, by have := h.all; rw [List.length_append] at this; simp at this; omega, by have := h.len; rw [List.length_append] at this; simp at this; omega⟩
theorem q_any {t : TT} {σ : L2.St} {H : Hp} {tu tz : TS} {D : Ends} {R : Prop} (h : ∃ b, EvT t σ H b ∧ (b = false → R)) (h1 : ∀ H1, Ex H H1 → tu { D with nx := tz D } σ H1) (h2 : R → ∀ H1, Ex H H1 → tz D σ H1) : tSeq (tIfS t tu tNext) tz D σ H := by
  obtain ⟨b, hb, hr⟩ := h
  exact q_when hb (fun _ => h1) (fun z => h2 (hr z))
theorem BI.wk {N : List Addr} {H : Hp} {b : LB} {pp pf : Addr} {f : List Str} {us : List V} {q : Pile} {n m n' m' : Nat} {H' : Hp} (h : BI N H b pp pf f us q n m H') (hn : n ≤ n') (hm : m ≤ m') : BI N H b pp pf f us q n' m' H' :=
  ⟨h.pile, h.at_, h.ok, h.fnd, h.sg, h.same, h.free, h.ne, Nat.le_trans h.all hn, Nat.le_trans h.len hm⟩
theorem ok_body (T : Txt K mg) : FnOk P w K mg base CX0 3 T.f_body T.fd_body ["_law_book_here", "_law_pile", "_law_words_here"] spBody := by
  refine T.F_body.ok sc_body (fun vs H Q E h => ?_) (fun cdv A outer s H vs Q E hr h => ?_)
  · obtain ⟨N, B, pa, ta, b, p, xs, ws, rfl, _⟩ := h
    rfl
  · obtain ⟨N, B, pa, ta, b, p, xs, ws, rfl, hb, ho, hpa, hp, pok, hta, hws, hwl, hpl, hN, q⟩ := h
    refine ⟨_, (pss_cons (ps_par (i := 3) (j := 1) rfl sc_body.nd rfl rfl (by decide) rfl rfl (pa_cons (pe_lst pa_nil) (pa_cons (pe_callTy (c_list (K := K)) (by rfl) T.z_list (by decide +kernel) (pa_cons (pv 1) pa_nil)) pa_nil)) (by rfl))
      (pss_cons (ps_for PassesOwn.never rfl (p_tup (K := K) (pv 2)) (pg_name (i := 4) sc_body.nd rfl (.inl rfl)) (pss_cons (ps_if (PW.pt (pw_or (pt_cmpR (o_inL (K := K)) (pv 4) (pe_callTy (c_listV rfl) (by rfl) T.z_list (by decide +kernel) (pa_cons (e_values (pe_dget (hu_of hr) (pv 0) pe_str (fun _ _ => rfl))) pa_nil)) (by rfl)) (pw_or1 (pt_cmp (pc_din (hu_of hr) (pv 4) (pe_dget (hu_of hr) (pv 0) pe_str (fun _ _ => rfl))))))) (pss_cons (ps_set (i := 5) sc_body.nd rfl (.inl rfl) (pe_dget2 (hu_of hr) (pe_dget (hu_of hr) (pv 0) pe_str (fun _ _ => rfl)) (pv 4) pe_str ⟨rfl, rfl, rfl, rfl⟩))
      (pss_cons (ps_while PassesOwn.never (PW.pt (pw_and (pt_cmpR (o_neD (K := K) hr.units) (pv 1) (pe_lst pa_nil) (nomark _)) (pw_and (pt_cmpR op_ge (pe_ix (i_tup (K := K)) (pe_ix (i_list (K := K)) (pv 1) (pe_un un_neg pe_int) (fun _ _ => rfl)) pe_int (fun _ _ => rfl)) pe_int (nomark _)) (pw_and1 (pt_cmpR op_ne (pe_ix (i_tup (K := K)) (pe_ix (i_list (K := K)) (pv 1) (pe_un un_neg pe_int) (fun _ _ => rfl)) pe_int (fun _ _ => rfl)) (pv 5) (nomark _)))))) (pss_cons (ps_expr (e_bm0 (K := K) PySem.F.plainAttrs_list PySem.F.slot_list_pop PySem.F.type_list_pop mt_pop (pv 1)))
      (pss_one (ps_expr (e_bm (K := K) PySem.F.plainAttrs_list PySem.F.slot_list_append PySem.F.type_list_append mt_append (pv 3) (pa_cons pe_str pa_nil))))))
      (pss_cons (ps_if (PW.pt (pw_or (pt_cmpR (o_eqD (K := K) hr.units) (pv 1) (pe_lst pa_nil) (nomark _)) (pw_or (PW.pt (pw_and (pt_cmpR op_eq (pv 5) pe_str (nomark _)) (pw_and1 (pt_cmpR op_ne (pe_dget (hu_of hr) (pe_dget (hu_of hr) (pv 0) pe_str (fun _ _ => rfl)) (pe_ix (i_tup (K := K)) (pe_ix (i_list (K := K)) (pv 1) (pe_un un_neg pe_int) (fun _ _ => rfl)) pe_int (fun _ _ => rfl)) (fun _ _ => rfl)) (pv 4) (nomark _))))) (pw_or1 (PW.pt (pw_and (pt_cmpR op_ne (pv 5) pe_str (nomark _)) (pw_and1 (pt_cmpR op_lt (pe_ix (i_tup (K := K)) (pe_ix (i_list (K := K)) (pv 1) (pe_un un_neg pe_int) (fun _ _ => rfl)) pe_int (fun _ _ => rfl)) pe_int (nomark _))))))))) (pss_one (ps_ret (pe_lst (pa_cons (pv 3) (pa_cons (pv 1) (pa_cons (pe_ifExp (pt_cmpR op_eq (pv 5) pe_str (nomark _)) pe_str pe_str) pa_nil)))))) pss_nil)
      (pss_cons (ps_expr (e_bm0 (K := K) PySem.F.plainAttrs_list PySem.F.slot_list_pop PySem.F.type_list_pop mt_pop (pv 1)))
      (pss_one (ps_set (i := 3) sc_body.nd rfl (.inl rfl) (pe_op op_cat (pv 3) (pe_op op_rep (pe_lst (pa_cons pe_str pa_nil)) (pe_callTy c_int1 (by rfl) T.z_int (by decide +kernel) (pa_cons (pe_cmpR op_ne (pv 5) pe_str (nomark _)) pa_nil)))))))))) pss_nil)
      (pss_cons (ps_if (pt_cmp (pc_din (hu_of hr) (pv 4) (pe_dget (hu_of hr) (pv 0) pe_str (fun _ _ => rfl)))) (pss_one (ps_expr (e_bm (K := K) PySem.F.plainAttrs_list PySem.F.slot_list_append PySem.F.type_list_append mt_append (pv 1) (pa_cons (pe_tup (pa_cons (pe_un un_neg pe_int) (pa_cons (pv 4) pa_nil))) pa_nil)))) pss_nil)
      (pss_one (ps_expr (e_bm (K := K) PySem.F.plainAttrs_list PySem.F.slot_list_append PySem.F.type_list_append mt_append (pv 3) (pa_cons (pv 4) pa_nil)))))))
      (pss_one (ps_ret (pe_lst (pa_cons (pv 3) (pa_cons (pv 1) (pa_cons pe_str pa_nil)))))))), ?_⟩
    obtain ⟨⟨o, e, r, kvs, h1, h2, h3, h4, h5, n1, n2, n3⟩, n⟩ := hb
    walk_at "zrd"
    refine ⟨by walk_at "zsz", fun pf f0 => ?_⟩
    have hpa2 := same_upd (o := .lst []) f0 _ _ hpa
    walk_at "zrd"
    intro pp f1
    walk_at "zrd"
    refine r_par2 ?_
    have fpp : H pp = none := (same_upd f0).free f1
    have npf : pp ≠ pf := fun z => by rw [z, upd_same] at f1; cases f1
    have s0 : Same H (upd (upd H pf (.lst [])) pp (.lst xs)) := (same_upd f0).trans (same_upd f1)
    have g0 : (upd (upd H pf (.lst [])) pp (.lst xs)) pp = some (.lst xs) := upd_same
    have g1 : (upd (upd H pf (.lst [])) pp (.lst xs)) pf = some (.lst []) := by walk_at "zget"
    generalize upd (upd H pf (.lst [])) pp (.lst xs) = H1 at s0 g0 g1
    clear hpa2 f1
    refine q_forT (a := ta) (ev_var rfl) (.inl (.inl (s0 _ _ hta))) (fun i σ H' => ∃ pf f us q y4 y5, σ = [some (.ref B), some (.ref pp), some (.ref ta), some (.ref pf), y4, y5] ∧ BI N H b pp pf f us q (p.length + 2 * i) (p.length + i) H')
      (fun H2 e2 => ⟨pf, [], xs, p, _, _, rfl, e2 _ _ g0, hp.exx (s0.trans e2), pok, e2 _ _ g1, fun _ z => (nomatch z), s0.trans e2, f0, npf, by simp, by simp⟩)
      (fun i σ' H' hi hP => by obtain ⟨_, _, _, _, _, _, _, z⟩ := hP; exact .inl (.inl (z.same _ _ hta))) (fun i x σ' H2 hx hP => ?_) (fun σ' H2 hP => ?_)
    · obtain ⟨pf, f, us, q1, y4, y5, rfl, hI⟩ := hP
      rw [List.getElem?_map] at hx
      obtain ⟨u, hu0, rfl⟩ : ∃ u, ws[i]? = some u ∧ V.str u = x := by
        cases z : ws[i]? with
        | none => rw [z] at hx; cases hx
        | some u => rw [z] at hx; exact ⟨u, rfl, Option.some.inj hx⟩
      have hu := hws u (List.mem_of_getElem? hu0)
      have hil : i < ws.length := (List.getElem?_eq_some_iff.mp hu0).1
      refine r_name ?_
      dsimp only
      refine r_seqJ (fun σ H' => ∃ pf f us q y5, σ = [some (.ref B), some (.ref pp), some (.ref ta), some (.ref pf), some (.str u), y5] ∧ BI N H b pp pf f us q (p.length + 2 * i) (p.length + i) H') (fun σ' H3 hC => ?_) (fun key => ?_)
      · obtain ⟨pf, f, us, q1, y5, rfl, hI⟩ := hC
        refine r_seqJ (fun σ H' => ∃ us q, σ = [some (.ref B), some (.ref pp), some (.ref ta), some (.ref pf), some (.str u), y5] ∧ BI N H b pp pf f us q (p.length + 2 * i + 1) (p.length + i + 1) H') (fun σ' H4 hC => ?_) (fun key => ?_)
        · obtain ⟨us, q1, rfl, hI⟩ := hC
          refine s_app hI.fnd (ev_var rfl) (ev_var rfl) ?_ fun H5 e5 => ?_
          · rw [List.length_map]
            have := hI.all
            omega
          exact ⟨pf, f ++ [u], us, q1, _, _, rfl, (BI.app (hI.exx e5) (all_sg hu)).wk (by omega) (by omega)⟩
        · refine s_when (b := decide (u ∈ b.br.map (·.1))) (et_B (ev_is (ev_din (ev_var rfl) (ev_dget (ev_var rfl) ev_c (hI.same _ _ h1) bk_r) (hI.same _ _ h5)) (by rw [strD_isSome]))) (fun hb H4 e4 => ?_) (fun hb H4 e4 => ?_)
          · have hI4 := hI.exx e4
            refine s_appU hI4.pile (ev_var rfl) (eu_tup (ea_cons (ev_un ev_c ru_neg) (ea_cons (ev_var rfl) ea_nil)) (by show 2 ≤ 100000; decide)) ?_ fun t H5 ft e5 ht => ?_
            · have := hI4.at_.len
              have := hI4.len
              omega
            have hI5 := hI4.exx e5
            refine key _ _ ⟨us ++ [.ref t], q1 ++ [(-1, u)], rfl, upd_same, ?_, hI5.ok.add (.inr ⟨rfl, of_decide_eq_true hb⟩), ?_, hI5.sg, Ex.mut hI5.same fpp, hI5.free, hI5.ne, ?_, ?_⟩
            · refine PileAt.append (hI5.at_.lst hI5.pile) (.cons (fun z => hN _ z (hI4.same.free ft)) ?_ .nil)
              rw [upd_ne (ne_obj ht hI5.pile (fun z => nomatch z))]
              exact ht
            · rw [upd_ne hI5.ne.symm]
              exact hI5.fnd
            · have := hI.all
              rw [List.length_append]
              show f.length + (q1.length + 1) ≤ _
              omega
            · have := hI.len
              rw [List.length_append]
              show q1.length + 1 ≤ _
              omega
          · exact key _ _ ⟨us, q1, rfl, (hI.exx e4).wk (by omega) (by omega)⟩
      · refine s_when (b := decide (u ∈ b.br.map (·.2)) || decide (u ∈ b.en.map (·.1))) (et_or (et_B (ev_inVals (ev_var rfl) (ev_dget (ev_var rfl) ev_c (hI.same _ _ h1) bk_r) (hI.same _ _ h5)))
            (fun _ => et_B (ev_is (ev_din (ev_var rfl) (ev_dget (ev_var rfl) ev_c (hI.same _ _ h1) bk_e) (hI.same _ _ h4)) (by rw [strD_isSome])))) (fun hb H4 e4 => ?_) (fun hb H4 e4 => ?_)
        · have hI4 := hI.exx e4
          refine q_asg (v := .str (b.want u)) (ev_is (ev_dget2 (ev_dget (ev_var rfl) ev_c (hI4.same _ _ h1) bk_e) (ev_var rfl) ev_c (hI4.same _ _ h4)) ?_) fun H5 e5 => ?_
          · rw [strD_val]
            unfold LB.want
            cases b.en.lookup u <;> rfl
          have hI5 := hI4.exx e5
          clear e4 e5 hI hI4
          refine r_seqJ (fun σ H' => ∃ f us q, σ = [some (.ref B), some (.ref pp), some (.ref ta), some (.ref pf), some (.str u), some (.str (b.want u))] ∧ BI N H b pp pf f us q (p.length + 2 * i) (p.length + i) H' ∧ (q = [] ∨ ∃ q2 c v, q = q2 ++ [(c, v)] ∧ (c < 0 ∨ v = b.want u))) (fun σ' H6 hC => ?_) (fun key2 => ?_)
          · obtain ⟨f, us, q1, rfl, hI, hend⟩ := hC
            refine q_any (R := ∃ q2 c v, q1 = q2 ++ [(c, v)]) ?_ (fun H7 e7 => ?_) (fun hR H7 e7 => ?_)
            · have hE := ev_eqNil (K := K) (σ := [some (.ref B), some (.ref pp), some (.ref ta), some (.ref pf), some (.str u), some (.str (b.want u))]) (ta := tVar 1) (ev_var rfl) hI.pile hI.at_ (fun x hx => ho.lay (hI.ok x hx))
              rcases pile_end q1 with rfl | ⟨q2, ⟨c, v⟩, rfl⟩
              · exact ⟨true, et_or (a := true) (b := false) (et_B hE) (fun z => nomatch z), fun z => nomatch z⟩
              · obtain ⟨us2, t, rfl, hp2, nt, ht⟩ := hI.at_.last
                refine ⟨_, et_or (et_B hE) (fun _ => et_or (et_and (b := decide ((b.br.lookup v).getD "" ≠ u)) (et_B (ev_eqS (ev_var rfl) ev_c)) (fun z => et_B (ev_neS (ev_dget (ev_dget (ev_var rfl) ev_c (hI.same _ _ h1) bk_r) (ev_wrd (ev_lastRef (ev_var rfl) hI.pile) ht) (hI.same _ _ h5) ?_) (ev_var rfl))))
                  (fun _ => et_and (et_B (ev_neS (ev_var rfl) ev_c)) (fun _ => et_B (ev_op (ev_col (ev_lastRef (ev_var rfl) hI.pile) ht) ev_c rv_I0)))), fun _ => ⟨_, _, _, rfl⟩⟩
                have hw : b.want u = ("" : Str) := of_decide_eq_true z
                have hv : v ∈ b.br.map (·.1) := by
                  rcases hI.ok (c, v) (List.mem_append_right _ (.head _)) with ⟨hc, hv⟩ | ⟨_, hv⟩
                  · rcases hend with h0 | ⟨q3, c3, v3, e3, h3⟩
                    · simp at h0
                    · obtain ⟨_, e4⟩ := List.append_inj' e3 rfl
                      cases e4
                      rcases h3 with h3 | h3
                      · exact absurd hc (by show ¬ (0 : Int) ≤ c; omega)
                      · rw [h3, hw] at hv
                        exact absurd hv ho.noE
                  · exact hv
                have hl := lookup_some (w := v) (l := b.br)
                rw [decide_eq_true hv] at hl
                rw [strD_val]
                cases hlk : b.br.lookup v with
                | none => rw [hlk] at hl; cases hl
                | some x => rfl
            · have hJ := hI.exx e7
              refine r_ret (r_lst (r_cons (r_var rfl (r_cons (r_var rfl (r_cons ?_))))))
              refine ev_if (b := decide (b.want u = ("" : Str))) (v := .str (if b.want u = ("" : Str) then ("closer" : Str) else ("ender" : Str))) (et_B (ev_eqS (ev_var rfl) ev_c)) ?_ ?_ H7 (Ex.refl _) _ fun H8 e8 => ?_
              · intro z
                rw [if_pos (of_decide_eq_true z)]
                exact ev_c
              · intro z
                rw [if_neg (of_decide_eq_false z)]
                exact ev_c
              refine r_nil ⟨by walk_at "zsz", fun pr fr => ?_⟩
              have x1 := e8.trans (Ex.new (o := .lst [.ref pf, .ref pp, .str (if b.want u = ("" : Str) then ("closer" : Str) else ("ender" : Str))]) fr)
              have hL := hJ.exx x1
              have b1 := hI.all
              have b2 := hI.len
              exact q pf pp pr f us q1 _ _ hL.same hI.free fpp ((hJ.exx e8).same.free fr) upd_same hL.fnd hL.sg (by omega) hL.pile hL.at_ hL.ok (by omega)
            · obtain ⟨q2, c, v, rfl⟩ := hR
              obtain ⟨us2, t, rfl, hp2, nt, ht⟩ := hI.at_.last
              have hJ := hI.exx e7
              refine q_pop (ev_var rfl) hJ.pile fun H8 e8 => ?_
              have hL := BI.pop (hJ.exx e8) fpp (hp2.exx (e7.trans e8))
              refine s_asgL (el_cat (ev_var rfl) hL.fnd (el_rep (el_lst (ea_cons ev_c ea_nil) (by show 1 ≤ 100000; decide)) (ev_intB (ev_neS (ev_var rfl) ev_c)) ?_ ?_ ?_) ?_) fun pn H9 fn e9 h9 => ?_
              · split <;> decide
              · split <;> decide
              · split <;> decide
              · have := hI.all
                have h2 : (List.replicate (if decide (b.want u ≠ ("" : Str)) = true then (1 : Int) else 0).toNat [V.str "}"]).flatten.length ≤ 1 := by
                  split <;> decide
                rw [List.length_map]
                refine Nat.le_trans (Nat.add_le_add_left h2 _) ?_
                omega
              have hM := hL.exx e9
              refine key _ _ ⟨pn, f ++ (List.replicate (if decide (b.want u ≠ ("" : Str)) = true then (1 : Int) else 0).toNat [("}" : Str)]).flatten, us2, q2, _, rfl, hM.pile, hM.at_, hM.ok, ?_, ?_, hM.same, hL.same.free fn, ?_, ?_, hM.len⟩
              · rw [h9, List.map_append]
                split <;> rfl
              · intro w hw
                rcases List.mem_append.mp hw with z | z
                · exact hL.sg w z
                · split at z
                  · rw [List.mem_singleton.mp (show w ∈ [("}" : Str)] from z)]
                    exact sg_cl
                  · cases z
              · exact (ne_of_none hL.pile fn)
              · have := hI.all
                rw [List.length_append]
                rw [List.length_append] at this
                have h2 : (List.replicate (if decide (b.want u ≠ ("" : Str)) = true then (1 : Int) else 0).toNat [("}" : Str)]).flatten.length ≤ 1 := by
                  split <;> decide
                have h3 : ([(c, v)] : Pile).length = 1 := rfl
                omega
          · refine s_while (fun m σ H' => ∃ f us q, σ = [some (.ref B), some (.ref pp), some (.ref ta), some (.ref pf), some (.str u), some (.str (b.want u))] ∧ q.length = m ∧ BI N H b pp pf f us q (p.length + 2 * i) (p.length + i) H') q1.length ⟨f, us, q1, rfl, rfl, hI5⟩ (fun m σ' H6 hW => ?_)
            obtain ⟨f, us, q1, rfl, hqm, hI⟩ := hW
            have hE := ev_neNil (K := K) (σ := [some (.ref B), some (.ref pp), some (.ref ta), some (.ref pf), some (.str u), some (.str (b.want u))]) (ta := tVar 1) (ev_var rfl) hI.pile hI.at_ (fun x hx => ho.lay (hI.ok x hx))
            rcases pile_end q1 with rfl | ⟨q2, ⟨c, v⟩, rfl⟩
            · exact ⟨false, et_and (a := false) (b := false) (et_B hE) (fun z => nomatch z), (fun z => nomatch z), fun _ H8 e8 => key2 _ _ ⟨f, us, [], rfl, hI.exx e8, .inl rfl⟩⟩
            · obtain ⟨us2, t, rfl, hp2, nt, ht⟩ := hI.at_.last
              refine ⟨decide (c ≥ 0) && decide (v ≠ b.want u), et_is (et_and (et_B hE) (fun _ => et_and (et_B (ev_op (ev_col (ev_lastRef (ev_var rfl) hI.pile) ht) ev_c rv_I0)) (fun _ => et_B (ev_neS (ev_wrd (ev_lastRef (ev_var rfl) hI.pile) ht) (ev_var rfl))))) (by simp), fun hb H8 e8 => ⟨_, fun _ _ h => h, ?_⟩, fun hb H8 e8 => ?_⟩
              · have hJ := hI.exx e8
                refine q_pop (ev_var rfl) hJ.pile fun H9 e9 => ?_
                have hL := BI.pop (hJ.exx e9) fpp (hp2.exx (e8.trans e9))
                have ha := hI.all
                rw [List.length_append] at ha
                have h3 : ([(c, v)] : Pile).length = 1 := rfl
                refine s_app hL.fnd (ev_var rfl) ev_c ?_ fun H10 e10 => ?_
                · rw [List.length_map]
                  omega
                exact ⟨q2.length, by rw [← hqm, List.length_append]; exact Nat.lt_succ_self _, f ++ [("}" : Str)], us2, q2, rfl, rfl, (BI.app (hL.exx e10) sg_cl).wk (by omega) (Nat.le_refl _)⟩
              · refine key2 _ _ ⟨f, _, _, rfl, hI.exx e8, .inr ⟨q2, c, v, rfl, ?_⟩⟩
                rcases Bool.and_eq_false_iff.mp hb with z | z
                · have := of_decide_eq_false z
                  exact .inl (by omega)
                · exact .inr (Decidable.not_not.mp (of_decide_eq_false z))
        · exact key _ _ ⟨pf, f, us, q1, _, rfl, hI.exx e4⟩
    · obtain ⟨pf, f, us, q1, y4, y5, rfl, hI⟩ := hP
      walk_at "zrd"
      refine ⟨by walk_at "zsz", fun pr fr => ?_⟩
      have x1 := same_upd (o := .lst [.ref pf, .ref pp, .str ""]) fr
      have hJ := hI.exx x1
      have b1 := hI.all
      have b2 := hI.len
      rw [List.length_map] at b1 b2
      exact q pf pp pr f us q1 _ _ hJ.same hI.free fpp (hI.same.free fr) upd_same hJ.fnd hJ.sg (by omega) hJ.pile hJ.at_ hJ.ok b2
end
end My

--CUT
namespace My
open PySem PySem.Spec PyProof.Rows L2 Evl
section
variable {K : PySem.W.Frag} {σ : L2.St} {H : Hp} {D : Ends}
theorem r_unl3 {i j k : Nat} {a : Addr} {u v w : V} {Q : L2.St → Hp → Prop} (h : H a = some (.lst [u, v, w])) (q : Q (((σ.set i (some u)).set j (some v)).set k (some w)) H) : gUnl K 3 (gCons (gName i) (gCons (gName j) (gCons (gName k) gNil))) (.ref a) σ H Q :=
  ⟨a, _, rfl, sq_of h, rfl, _, _, rfl, _, _, rfl, _, _, rfl, rfl, q⟩
theorem r_unl2 {i j : Nat} {a : Addr} {u v : V} {Q : L2.St → Hp → Prop} (h : H a = some (.lst [u, v])) (q : Q ((σ.set i (some u)).set j (some v)) H) : gUnl K 2 (gCons (gName i) (gCons (gName j) gNil)) (.ref a) σ H Q :=
  ⟨a, _, rfl, sq_of h, rfl, _, _, rfl, _, _, rfl, rfl, q⟩
theorem r_unl4 {i j k l : Nat} {a : Addr} {u v w x : V} {Q : L2.St → Hp → Prop} (h : H a = some (.lst [u, v, w, x])) (q : Q ((((σ.set i (some u)).set j (some v)).set k (some w)).set l (some x)) H) : gUnl K 4 (gCons (gName i) (gCons (gName j) (gCons (gName k) (gCons (gName l) gNil)))) (.ref a) σ H Q :=
  ⟨a, _, rfl, sq_of h, rfl, _, _, rfl, _, _, rfl, _, _, rfl, _, _, rfl, rfl, q⟩
theorem cutWhile_len (f : Int × Str → Bool) (p : Pile) : (cutWhile f p).length ≤ p.length := by
  unfold cutWhile
  rw [List.length_reverse]
  exact Nat.le_trans (List.dropWhile_sublist f).length_le (by rw [List.length_reverse]; exact Nat.le_refl _)
theorem rep_sg {n : Nat} : ∀ u ∈ List.replicate n ("}" : Str), u ∈ sgW := fun u h => by
  rw [(List.mem_replicate.mp h).2]
  exact sg_cl
theorem mRest_all {b : LB} {f : List Str} {p : Pile} {c : Int} {free : Bool} (hf : ∀ u ∈ f, u ∈ sgW) : (∀ u ∈ (mRest b f p c free).1, u ∈ sgW) ∧ (mRest b f p c free).1.length ≤ f.length + p.length + 1 ∧ (mRest b f p c free).2.1.length ≤ p.length := by
  have h1 := cutWhile_len (fun x => decide (c < x.1)) p
  unfold mRest
  split
  · exact ⟨hf, by show f.length ≤ _; omega, Nat.le_refl _⟩
  · dsimp only
    have g : ∀ u ∈ f ++ List.replicate (p.length - (popTo c p).length) ("}" : Str), u ∈ sgW := fun u hu => by
      rcases List.mem_append.mp hu with z | z
      · exact hf u z
      · exact rep_sg u z
    split
    · refine ⟨fun u hu => ?_, ?_, h1⟩
      · rcases List.mem_append.mp hu with z | z
        · exact g u z
        · rw [List.mem_singleton.mp z]
          exact sg_se
      · simp
        omega
    · exact ⟨g, by simp; omega, h1⟩
theorem mHead_all (b : LB) (s : LState) (l : LLine) : (∀ u ∈ (mHead b s l).1, u ∈ sgW) ∧ (mHead b s l).1.length ≤ s.pile.length + 3 ∧ (mHead b s l).2.1.length ≤ s.pile.length + 1 := by
  unfold mHead
  dsimp only
  split
  · have := mRest_all (b := b) (f := []) (p := s.pile) (c := l.col) (free := decide (l.ws.headD "" ∈ b.frees)) (fun _ z => nomatch z)
    refine ⟨this.1, Nat.le_trans this.2.1 ?_, Nat.le_trans this.2.2 (Nat.le_succ _)⟩
    show 0 + s.pile.length + 1 ≤ _
    omega
  · split
    · refine ⟨fun u hu => ?_, ?_, ?_⟩
      · rw [List.mem_singleton.mp hu]
        exact sg_op
      · show 1 ≤ _
        omega
      · simp
    · split
      · exact ⟨(fun _ z => nomatch z), Nat.zero_le _, Nat.le_succ _⟩
      · have := mRest_all (b := b) (f := ["{", "}"]) (p := s.pile) (c := l.col) (free := decide (l.ws.headD "" ∈ b.frees)) (fun u hu => by
          rcases List.mem_cons.mp hu with rfl | hu
          · exact sg_op
          · rw [List.mem_singleton.mp hu]
            exact sg_cl)
        refine ⟨this.1, Nat.le_trans this.2.1 ?_, Nat.le_trans this.2.2 (Nat.le_succ _)⟩
        show 2 + s.pile.length + 1 ≤ _
        omega
end
section
variable {P : Program} {w : World} {K : PySem.W.Frag} {mg : Str → Option Value} {base : Heap}
/-! ### _law_line -/
def spLine : Sp := fun vs H Q _ => ∃ (N : List Addr) (B S L : Addr) (b : LB) (s : LState) (l : LLine), vs = [.ref B, .ref S, .ref L] ∧ BookAt N H B b ∧ b.Ok ∧ StateAt N H S s ∧ s.Ok b ∧ LineAt N H L l ∧ l.Ok ∧ (∀ u ∈ l.ws, u ∈ allW) ∧ l.ws.length ≤ 10 ∧ s.pile.length ≤ 10000 ∧ (∀ a ∈ N, H a ≠ none) ∧
  ∀ (tp S' r : Addr) (f : List Str) (s' : LState) (re : Str) (H' : Hp), Same H H' → H r = none → H' r = some (.lst [.ref tp, .ref S', .str re]) → H' tp = some (.tup (f.map V.str)) → (∀ u ∈ f, u ∈ sgW) → f.length ≤ 80000 → StateAt N H' S' s' → s'.Ok b →
    s'.pile.length ≤ s.pile.length + l.ws.length + 1 → Q (.ref r) H'
theorem ok_line (T : Txt K mg) : FnOk P w K mg base CX0 4 T.f_line T.fd_line ["_law_book_here", "_law_state", "_law_line_here"] spLine := by
  refine T.F_line.ok sc_line (fun vs H Q E h => ?_) (fun cdv A outer s H vs Q E hr h => ?_)
  · obtain ⟨N, B, S, L, b, s, l, rfl, _⟩ := h
    rfl
  · obtain ⟨N, B, S, L, b, s, l, rfl, hb, ho, hs, so, hl, lo, hws, hwl, hpl, hN, q⟩ := h
    refine ⟨_, (pss_cons (ps_asg (pe_call (ok_head T) (hr.mono (by decide)) (by rfl) T.g_head T.F_head.kp T.b_head .nil pass0 (pa_cons (pv 0) (pa_cons (pv 1) (pa_cons (pv 2) pa_nil)))) (pg_unl (by rfl) (pgs_cons (pg_name (i := 3) sc_line.nd rfl (.inl rfl)) (pgs_cons (pg_name (i := 4) sc_line.nd rfl (.inl rfl)) (pgs_cons (pg_name (i := 5) sc_line.nd rfl (.inl rfl)) pgs_nil)))))
      (pss_cons (ps_if (pt_cmpR op_ne (pv 5) pe_str (nomark _)) (pss_one (ps_ret (pe_lst (pa_cons (pe_tup pa_nil) (pa_cons (pv 1) (pa_cons (pv 5) pa_nil)))))) pss_nil)
      (pss_cons (ps_asg (pe_call (ok_body T) (hr.mono (by decide)) (by rfl) T.g_body T.F_body.kp T.b_body .nil pass0 (pa_cons (pv 0) (pa_cons (pv 4) (pa_cons (pe_ix (i_tup (K := K)) (pv 2) pe_int (fun _ _ => rfl)) pa_nil)))) (pg_unl (by rfl) (pgs_cons (pg_name (i := 6) sc_line.nd rfl (.inl rfl)) (pgs_cons (pg_name (i := 4) sc_line.nd rfl (.inl rfl)) (pgs_cons (pg_name (i := 5) sc_line.nd rfl (.inl rfl)) pgs_nil)))))
      (pss_cons (ps_set (i := 7) sc_line.nd rfl (.inl rfl) (pe_ifExp (pt_cmp (pc_din (hu_of hr) (pe_ix (i_tup (K := K)) (pe_ix (i_tup (K := K)) (pv 2) pe_int (fun _ _ => rfl)) (pe_un un_neg pe_int) (fun _ _ => rfl)) (pe_dget (hu_of hr) (pv 0) pe_str (fun _ _ => rfl)))) (pe_ix (i_tup (K := K)) (pe_ix (i_tup (K := K)) (pv 2) pe_int (fun _ _ => rfl)) (pe_un un_neg pe_int) (fun _ _ => rfl)) pe_str))
      (pss_one (ps_ret (pe_lst (pa_cons (pe_callTy (c_tuple (K := K)) (by rfl) T.z_tuple (by decide +kernel) (pa_cons (pe_op op_cat (pv 3) (pv 6)) pa_nil)) (pa_cons (pe_lst (pa_cons (pv 4) (pa_cons (pv 7) pa_nil))) (pa_cons (pv 5) pa_nil)))))))))), ?_⟩
    have hb0 := hb
    obtain ⟨⟨o, e, r, kvs, h1, h2, h3, h4, h5, n1, n2, n3⟩, n⟩ := hb0
    obtain ⟨⟨ta, t1, t2, k1⟩, k0⟩ := id hl
    obtain ⟨hd1, hd2, hd3⟩ := mHead_all b s l
    have hpo := mHead_ok so lo
    refine r_seq (r_asg (r_call (r_cons (r_var rfl (r_cons (r_var rfl (r_cons (r_var rfl (r_nil ?_)))))))))
    refine ⟨N, B, S, L, b, s, l, rfl, hb, ho, hs, so, hl, lo, by omega, hN, fun a1 a2 rr xs H1 s1 f1 f2 fr nn hr1 ha1 ha2 hp1 => ?_⟩
    refine r_unl3 hr1 ?_
    refine q_when (et_B (ev_neS (ev_var rfl) ev_c)) (fun hb1 H2 e2 => ?_) (fun hb1 H2 e2 => ?_)
    · walk_at "zrd"
      refine ⟨by walk_at "zsz", fun tp ft => ?_⟩
      walk_at "zrd"
      refine ⟨by walk_at "zsz", fun pr fp => ?_⟩
      have x1 := s1.trans e2
      have x2 := x1.trans (same_upd (o := .tup []) ft)
      have x3 := x2.trans (same_upd (o := .lst [.ref tp, .ref S, .str (mHead b s l).2.2]) fp)
      refine q tp S pr [] s _ _ x3 (x2.free fp) upd_same (same_upd fp _ _ upd_same) (fun _ z => nomatch z) (by decide) (hs.mono (ExtN.of_same x3)) so (by omega)
    · have x1 := s1.trans e2
      refine r_seq (r_asg (r_call (r_cons (r_var rfl (r_cons (r_var rfl (r_cons (r_op (r_var rfl (r_c ?_))))))))))
      refine r_ixT (x1 _ _ t1) rfl (r_nil ?_)
      refine ⟨N, B, a2, ta, b, (mHead b s l).2.1, xs, l.ws, rfl, hb.mono (ExtN.of_same x1), ho, e2 _ _ ha2, hp1.exx e2, hpo, x1 _ _ t2, hws, hwl, by omega, fun a ha z => hN a ha (x1.free z), fun c1 c2 cr g xs' p' re H3 s3 fc1 fc2 fcr hcr hc1 hg hgl hc2 hp3 hok3 hlen3 => ?_⟩
      refine r_unl3 hcr ?_
      dsimp only
      have x2 := x1.trans s3
      obtain ⟨wl, wr, hwe⟩ : ∃ wl wr, l.ws = wr ++ [wl] := by
        rcases List.eq_nil_or_concat l.ws with z | ⟨a, c, z⟩
        · exact absurd z lo.some
        · exact ⟨c, a, by rw [z, List.concat_eq_append]⟩
      have t2' := t2
      rw [hwe, List.map_append] at t2'
      refine q_asg (v := .str (b.waits l.ws)) ?_ fun H4 e4 => ?_
      · have hlast : ∀ {σ : L2.St}, σ[2]? = some (some (.ref L)) → Ev (tOp (rIxT K) (tOp (rIxT K) (tVar 2) (tC (.int 1))) (tUn (rU fun i => .int (-i)) (tC (.int 1)))) σ H3 (.str wl) := fun h => ev_op (ev_op (ev_var h) ev_c (rv_ixT (st_of (x2 _ _ t1)) rfl)) (ev_un ev_c ru_neg) (rv_ixT (st_of (x2 _ _ t2')) (L2.atI_last _ _))
        have hwt : b.waits l.ws = if decide (wl ∈ b.op.map (·.1)) = true then wl else ("" : Str) := by
          unfold LB.waits
          rw [hwe, List.getLastD_concat]
          by_cases hz : wl ∈ b.op.map (·.1)
          · rw [if_pos hz, if_pos (decide_eq_true hz)]
          · rw [if_neg hz, if_neg (by rw [decide_eq_false hz]; decide)]
        refine ev_if (b := decide (wl ∈ b.op.map (·.1))) (et_B (ev_is (ev_din (hlast rfl) (ev_dget (ev_var rfl) ev_c (x2 _ _ h1) bk_o) (x2 _ _ h2)) ?_)) (fun z => ?_) (fun z => ?_)
        · rcases h3.val (w := wl) with ⟨z1, z2⟩ | ⟨t, a, c, m, _, z2, _⟩
          · rw [z2, decide_eq_false z1]
            rfl
          · rw [z2, decide_eq_true (List.mem_map.mpr ⟨_, m, rfl⟩)]
            rfl
        · rw [hwt, if_pos z]
          exact hlast rfl
        · rw [hwt, if_neg (by rw [z]; decide)]
          exact ev_c
      have x3 := x2.trans e4
      have hw4 : H4 a1 = some (.lst ((mHead b s l).1.map V.str)) := e4 _ _ (s3 _ _ (e2 _ _ ha1))
      refine r_ret (r_lst (r_cons (r_cb (r_cons (r_op (r_var rfl (r_var rfl ?_)))))))
      refine r_cat hw4 (e4 _ _ hc1) (sz_of (by simp; omega)) fun p5 f5 => ?_
      refine r_nil (r_tupleL upd_same fun p6 f6 => ?_)
      walk_at "zrd"
      refine ⟨by walk_at "zsz", fun p7 f7 => ?_⟩
      walk_at "zrd"
      refine ⟨by walk_at "zsz", fun p8 f8 => ?_⟩
      have y5 := same_upd (o := .lst ((mHead b s l).1.map V.str ++ g.map V.str)) f5
      have y6 := y5.trans (same_upd (o := .tup ((mHead b s l).1.map V.str ++ g.map V.str)) f6)
      have y7 := y6.trans (same_upd (o := .lst [.ref c2, .str (b.waits l.ws)]) f7)
      have y8 := y7.trans (same_upd (o := .lst [.ref p6, .ref p7, .str re]) f8)
      have x8 := x3.trans y8
      refine q p6 p7 p8 ((mHead b s l).1 ++ g) ⟨p', b.waits l.ws⟩ re _ x8 ((x3.trans y7).free f8) upd_same ?_ ?_ (by rw [List.length_append]; omega) ?_ ?_ ?_
      · rw [List.map_append]
        exact same_upd f8 _ _ (same_upd f7 _ _ upd_same)
      · intro u hu
        rcases List.mem_append.mp hu with z | z
        · exact hd1 u z
        · exact hg u z
      · refine ⟨⟨c2, xs', same_upd f8 _ _ upd_same, y8 _ _ (e4 _ _ hc2), hp3.exx (e4.trans y8), fun z => hN _ z (x1.free fc2)⟩, fun z => hN _ z ((x3.trans y6).free f7)⟩
      · refine ⟨hok3, ?_⟩
        show b.waits l.ws = _ ∨ _
        unfold LB.waits
        split
        · rename_i hw
          exact .inr hw
        · exact .inl rfl
      · show p'.length ≤ _
        omega
end
end My

--CUT
namespace My
open PySem PySem.Spec PyProof.Rows L2 Evl
section
variable {K : PySem.W.Frag} {σ : L2.St} {H : Hp} {D : Ends}
theorem PileAt.get {N : List Addr} {H : Hp} : ∀ {xs : List V} {p : Pile} {i : Nat} {v : V}, PileAt N H xs p → xs[i]? = some v → ∃ t c w, v = .ref t ∧ p[i]? = some (c, w) ∧ t ∉ N ∧ H t = some (.tup [.int c, .str w])
  | _, _, _, _, .nil, e => by simp at e
  | _, _, 0, _, .cons n h _, e => by
    cases e
    exact ⟨_, _, _, rfl, rfl, n, h⟩
  | _, _, i + 1, _, .cons _ _ t, e => t.get (i := i) (by simpa using e)
theorem PileAt.lt {N : List Addr} {H : Hp} {xs : List V} {p : Pile} {i : Nat} (h : PileAt N H xs p) (hi : i < p.length) : ∃ t c w, xs[i]? = some (.ref t) ∧ p[i]? = some (c, w) ∧ t ∉ N ∧ H t = some (.tup [.int c, .str w]) := by
  have hx : i < xs.length := by rw [h.len]; exact hi
  obtain ⟨t, c, w, e, h2, h3, h4⟩ := h.get (List.getElem?_eq_getElem hx)
  exact ⟨t, c, w, by rw [List.getElem?_eq_getElem hx, e], h2, h3, h4⟩
def fltF (p : Pile) (g : Int → Bool) : Nat → Bool := fun i => match p[i]? with
  | some x => g x.1
  | none => false
def fltV (xs : List V) : Nat → V := fun i => xs.getD i .non
theorem pile_given {N : List Addr} {H : Hp} {xs : List V} {p : Pile} (h : PileAt N H xs p) (g : Int → Bool) : ∀ k, k ≤ p.length → ∃ q, PileAt N H (given k (fltF p g) (fltV xs)) q ∧ (∀ x ∈ q, x ∈ p ∧ g x.1 = true) ∧ q.length ≤ k
  | 0, _ => ⟨[], .nil, fun _ z => (nomatch z), Nat.le_refl _⟩
  | k + 1, hk => by
    obtain ⟨q, h1, h2, h3⟩ := pile_given h g k (by omega)
    obtain ⟨t, c, w, e1, e2, e3, e4⟩ := h.lt (i := k) (by omega)
    cases hg : g c with
    | true =>
      have hf : fltF p g k = true := by
        unfold fltF
        rw [e2]
        exact hg
      rw [given_yes hf]
      have hv : fltV xs k = .ref t := by
        unfold fltV
        rw [List.getD_eq_getElem?_getD, e1]
        rfl
      rw [hv]
      refine ⟨q ++ [(c, w)], h1.append (.cons e3 e4 .nil), fun x hx => ?_, by rw [List.length_append]; exact Nat.succ_le_succ h3⟩
      rcases List.mem_append.mp hx with z | z
      · exact h2 x z
      · rw [List.mem_singleton.mp z]
        exact ⟨List.mem_of_getElem? e2, hg⟩
    | false =>
      have hf : fltF p g k = false := by
        unfold fltF
        rw [e2]
        exact hg
      rw [given_no hf]
      exact ⟨q, h1, h2, Nat.le_succ_of_le h3⟩
theorem el_flt {N : List Addr} {a : Addr} {xs : List V} {p : Pile} {tl : TE} {tt : TT} {j : Nat} {vs : List Nat} (g : Int → Bool) (h : Ev tl σ H (.ref a)) (ha : H a = some (.lst xs)) (hp : PileAt N H xs p) (hz : p.length ≤ 40000)
    (hw : ∀ x, wipe ((wipe σ vs).set j (some x)) vs = wipe σ vs) (hj : ∀ v, ((wipe σ vs).set j (some v))[j]? = some (some v)) (ht : ∀ t c w H1, H1 t = some (.tup [.int c, .str w]) → EvT tt ((wipe σ vs).set j (some (.ref t))) H1 (g c)) :
    ∃ ys q, EvL (tLc (iList K tl) (gName j) tt (tVar j) vs) σ H ys ∧ PileAt N H ys q ∧ (∀ x ∈ q, x ∈ p ∧ g x.1 = true) ∧ q.length ≤ p.length := by
  obtain ⟨q, h1, h2, h3⟩ := pile_given hp g p.length (Nat.le_refl _)
  rw [← hp.len] at h1 h3
  refine ⟨_, q, el_lcL (fltF p g) (fltV xs) h (sq_of ha) (by rw [hp.len]; exact hz) hw (fun i x H1 e hx => ?_) (fun i x H1 e hx hf => ?_), h1, h2, by rw [← hp.len]; exact h3⟩
  · obtain ⟨t, c, w, rfl, e2, _, e4⟩ := hp.get hx
    have hf : fltF p g i = g c := by
      unfold fltF
      rw [e2]
    rw [hf]
    exact ht t c w H1 (e _ _ e4)
  · have hv : fltV xs i = x := by
      unfold fltV
      rw [List.getD_eq_getElem?_getD, hx]
      rfl
    rw [hv]
    exact ev_var (hj x)
theorem map_rep {α β : Type} (f : α → β) (xs : List α) : ∀ k : Nat, ((List.replicate k xs).flatten).map f = (List.replicate k (xs.map f)).flatten
  | 0 => rfl
  | k + 1 => by
    rw [List.replicate_succ, List.replicate_succ, List.flatten_cons, List.flatten_cons, List.map_append, map_rep f xs k]
theorem mem_rep {α : Type} {x : α} {xs : List α} : ∀ {k : Nat}, x ∈ (List.replicate k xs).flatten → x ∈ xs
  | 0, h => by simp at h
  | k + 1, h => by
    rw [List.replicate_succ, List.flatten_cons] at h
    rcases List.mem_append.mp h with z | z
    · exact z
    · exact mem_rep z
theorem eu_tup0 {ta : TA} {vs : List V} (h : EvA ta σ H vs) (hl : vs.length ≤ 1000) : EvU (tTup ta) σ H vs := eu_tup h (Nat.le_trans hl (by decide))
/-- a tuple, made now or not -/
def EvW (te : TE) (σ : L2.St) (H : Hp) (xs : List V) : Prop := ∀ H1, Ex H H1 → ∀ Q : VK, (∀ p H2, Ex H1 H2 → H2 p = some (.tup xs) → Q (.ref p) H2) → te σ H1 Q
theorem ew_rep {ta tb : TE} {xs : List V} {k : Int} (ha : EvU ta σ H xs) (hb : Ev tb σ H (.int k)) (hn : xs ≠ []) (h0 : 0 ≤ k) (h1 : k ≤ 1000) (hz : xs.length ≤ 1000) : EvW (tOp (rRepA K) ta tb) σ H (List.replicate k.toNat xs).flatten := fun H1 e Q q =>
  ha H1 e _ fun p1 H2 _ e2 hp1 => hb H2 (e.trans e2) _ fun H3 e3 => r_repA (e3 _ _ hp1) hn h0 h1 hz fun l H4 s4 hl => q l _ ((e2.trans e3).trans s4) hl
theorem ew_cat {ta tb : TE} {xs ys : List V} (ha : EvW ta σ H xs) (hb : EvW tb σ H ys) (hz : xs.length + ys.length ≤ 100000) : EvW (tOp (rCatA K) ta tb) σ H (xs ++ ys) := fun H1 e Q q =>
  ha H1 e _ fun p1 H2 e2 hp1 => hb H2 (e.trans e2) _ fun p2 H3 e3 hp2 => r_catA (e3 _ _ hp1) hp2 (sz_of hz) fun l H4 s4 hl => q l _ ((e2.trans e3).trans s4) hl
end
section
variable {P : Program} {w : World} {K : PySem.W.Frag} {mg : Str → Option Value} {base : Heap}
/-! ### _law_end -/
def spEnd : Sp := fun vs H Q _ => ∃ (N : List Addr) (B S : Addr) (b : LB) (s : LState), vs = [.ref B, .ref S] ∧ BookAt N H B b ∧ b.Ok ∧ StateAt N H S s ∧ s.Ok b ∧ s.pile.length ≤ 900 ∧
  ∀ (tp r : Addr) (f : List Str) (re : Str) (H' : Hp), Same H H' → H' r = some (.lst [.ref tp, .str re]) → H' tp = some (.tup (f.map V.str)) → (∀ u ∈ f, u ∈ sgW) → f.length ≤ 80000 → Q (.ref r) H'
theorem ok_end (T : Txt K mg) : FnOk P w K mg base CX0 3 T.f_end T.fd_end ["_law_book_here", "_law_state"] spEnd := by
  refine T.F_end.ok sc_end (fun vs H Q E h => ?_) (fun cdv A outer s H vs Q E hr h => ?_)
  · obtain ⟨N, B, S, b, s, rfl, _⟩ := h
    rfl
  · obtain ⟨N, B, S, b, s, rfl, hb, ho, hs, so, hpl, q⟩ := h
    refine ⟨_, (pss_cons (ps_asg (pv 1) (pg_unl (by rfl) (pgs_cons (pg_name (i := 2) sc_end.nd rfl (.inl rfl)) (pgs_cons (pg_name (i := 3) sc_end.nd rfl (.inl rfl)) pgs_nil))))
      (pss_cons (ps_if (PW.pt (pw_and (pt_cmpR op_ne (pv 3) pe_str (nomark _)) (pw_and1 (pt_cmpR op_eq (pe_ix (i_tup (K := K)) (pe_dget (hu_of hr) (pe_dget (hu_of hr) (pv 0) pe_str (fun _ _ => rfl)) (pv 3) (fun _ _ => rfl)) pe_int (fun _ _ => rfl)) pe_str (nomark _))))) (pss_one (ps_ret (pe_lst (pa_cons (pe_tup pa_nil) (pa_cons pe_str pa_nil))))) pss_nil)
      (pss_cons (ps_if (pt_cmpR (o_neD (K := K) hr.units) (pe_lc (own := [("_law_block", 4)]) rfl sc_end.nd (p_list (K := K) (pv 2)) (blkOk_by (own := [("_law_block", 4)]) (N := ["_law_book_here", "_law_state", "_law_pile", "_law_waiting", "_law_block"]) (sc := (defScope s_end)) (by decide +kernel)) (fun _ _ _ _ _ => (pg_name (i := 4) sc_end.nd rfl (.inl rfl))) (fun _ _ _ _ _ => (pts_one (pt_cmpR op_lt (pe_ix (i_tup (K := K)) (pv 4) pe_int (fun _ _ => rfl)) pe_int (nomark _)))) (fun _ _ _ _ _ => (pv 4))) (pe_lst pa_nil) (nomark _)) (pss_one (ps_ret (pe_lst (pa_cons (pe_tup pa_nil) (pa_cons pe_str pa_nil))))) pss_nil)
      (pss_one (ps_ret (pe_lst (pa_cons (pe_op (o_catA (K := K)) (pe_op (o_repA (K := K)) (pe_tup (pa_cons pe_str (pa_cons pe_str pa_nil))) (pe_callTy c_int1 (by rfl) T.z_int (by decide +kernel) (pa_cons (pe_cmpR op_ne (pv 3) pe_str (nomark _)) pa_nil))) (pe_op (o_repA (K := K)) (pe_tup (pa_cons pe_str pa_nil)) (pe_callB (c_len (K := K)) (by rfl) T.z_len (by decide +kernel) (pa_cons (pv 2) pa_nil)))) (pa_cons pe_str pa_nil)))))))), ?_⟩
    obtain ⟨⟨o, e, r, kvs, h1, h2, h3, h4, h5, n1, n2, n3⟩, n⟩ := hb
    obtain ⟨⟨pa, xs, s1, s2, s3, m1⟩, m0⟩ := id hs
    refine r_seq (r_asg (r_var rfl (r_unl2 s1 ?_)))
    dsimp only
    refine q_any (R := True) ?_ (fun H2 e2 => ?_) (fun _ H2 e2 => ?_)
    · by_cases hw : s.wait = ("" : Str)
      · exact ⟨false, et_and (a := false) (b := false) (et_B (ev_is (ev_neS (ev_var rfl) ev_c) (by rw [hw]; rfl))) (fun z => nomatch z), fun _ => trivial⟩
      · have hwm := so.wait.resolve_left hw
        obtain ⟨tr, da, na, _, _, hv, htr, hlk⟩ := (h3.val (w := s.wait)).resolve_left (fun z => z.1 hwm)
        exact ⟨_, et_and (et_B (ev_neS (ev_var rfl) ev_c)) (fun _ => et_B (ev_eqS (ev_op (ev_dget (ev_dget (ev_var rfl) ev_c h1 bk_o) (ev_var rfl) h2 hv) ev_c (rv_ixT (st_of htr) rfl)) ev_c)), fun _ => trivial⟩
    · walk_at "zrd"
      refine ⟨by walk_at "zsz", fun tp ft => ?_⟩
      walk_at "zrd"
      refine ⟨by walk_at "zsz", fun pr fp => ?_⟩
      have x2 := e2.trans (same_upd (o := .tup []) ft)
      have x3 := x2.trans (same_upd (o := .lst [.ref tp, .str "filled"]) fp)
      exact q tp pr [] _ _ x3 upd_same (same_upd fp _ _ upd_same) (fun _ z => nomatch z) (by decide)
    · refine q_any (R := True) ?_ (fun H2 e2 => ?_) (fun _ H2 e2 => ?_)
      · obtain ⟨ys, q1, hys, hq1, hq2, hq3⟩ := el_flt (K := K) (N := N) (a := pa) (tl := tVar 2) (tt := tTest (tOp (rI0 fun i j => V.bl (decide (i < j))) (tOp (rIxT K) (tVar 4) (tC (V.int 0))) (tC (V.int 0)))) (j := 4) (vs := [4]) (H := H2)
          (σ := [some (.ref B), some (.ref S), some (.ref pa), some (.str s.wait), none]) (fun c => decide (c < 0)) (ev_var rfl) (e2 _ _ s2) (s3.exx e2) (by omega) (fun _ => rfl) (fun _ => rfl) (fun t c w H1 h => et_test (ev_op (ev_col (ev_var rfl) h) ev_c rv_I0))
        exact ⟨_, et_test (ev_opLL (z := .bl (decide (q1 ≠ []))) hys (el_lst ea_nil (by decide)) fun x y H1 hx hy e => rv_val fun H3 e3 Q k => r_neNil (e3 _ _ hx) (hq1.exx (e.trans e3)) (e3 _ _ hy) (fun z hz => ho.lay (so.pile z (hq2 z hz).1)) k), fun _ => trivial⟩
      · walk_at "zrd"
        refine ⟨by walk_at "zsz", fun tp ft => ?_⟩
        walk_at "zrd"
        refine ⟨by walk_at "zsz", fun pr fp => ?_⟩
        have x2 := (Ex.trans (by assumption) e2).trans (same_upd (o := .tup []) ft)
        have x3 := x2.trans (same_upd (o := .lst [.ref tp, .str "open"]) fp)
        exact q tp pr [] _ _ x3 upd_same (same_upd fp _ _ upd_same) (fun _ z => nomatch z) (by decide)
      · rename_i H1 e1 _
        have e := Ex.trans e1 e2
        refine r_ret (r_lst (r_cons ?_))
        refine ew_cat (ew_rep (eu_tup0 (ea_cons ev_c (ea_cons ev_c ea_nil)) (by show 2 ≤ 1000; decide)) (ev_intB (ev_neS (ev_var rfl) ev_c)) (fun z => nomatch z) ?_ ?_ (by show 2 ≤ 1000; decide)) (ew_rep (eu_tup0 (ea_cons ev_c ea_nil) (by show 1 ≤ 1000; decide)) (ev_len (ev_var rfl) (sq_of (e _ _ s2))) (fun z => nomatch z) (Int.natCast_nonneg _) ?_ (by show 1 ≤ 1000; decide)) ?_ H2 (Ex.refl _) _ fun tp H3 e3 hp => ?_
        · split <;> decide
        · split <;> decide
        · rw [s3.len]
          omega
        · rw [PyProof.Rows.lm_len_rep_flat, PyProof.Rows.lm_len_rep_flat, s3.len]
          have : (if decide (s.wait ≠ ("" : Str)) = true then (1 : Int) else 0).toNat ≤ 1 := by split <;> decide
          have h2 : (if decide (s.wait ≠ ("" : Str)) = true then (1 : Int) else 0).toNat * [V.str "{", V.str "}"].length ≤ 1 * 2 := Nat.mul_le_mul this (Nat.le_refl _)
          have h3 : ((s.pile.length : Nat) : Int).toNat * [V.str "}"].length ≤ 900 * 1 := Nat.mul_le_mul (by omega) (Nat.le_refl _)
          omega
        walk_at "zrd"
        refine ⟨by walk_at "zsz", fun pr fp => ?_⟩
        have x3 := (e.trans e3).trans (same_upd (o := .lst [.ref tp, .str ""]) fp)
        refine q tp pr ((List.replicate (if decide (s.wait ≠ ("" : Str)) = true then (1 : Int) else 0).toNat [("{" : Str), "}"]).flatten ++ (List.replicate ((xs.length : Nat) : Int).toNat [("}" : Str)]).flatten) _ _ x3 upd_same ?_ ?_ ?_
        · rw [same_upd fp _ _ hp, List.map_append, map_rep, map_rep]
          rfl
        · intro u hu
          rcases List.mem_append.mp hu with z | z
          · have := mem_rep z
            rcases List.mem_cons.mp this with rfl | z
            · exact sg_op
            · rw [List.mem_singleton.mp z]
              exact sg_cl
          · rw [List.mem_singleton.mp (mem_rep z)]
            exact sg_cl
        · rw [List.length_append, PyProof.Rows.lm_len_rep_flat, PyProof.Rows.lm_len_rep_flat, s3.len]
          have : (if decide (s.wait ≠ ("" : Str)) = true then (1 : Int) else 0).toNat ≤ 1 := by split <;> decide
          have h2 : (if decide (s.wait ≠ ("" : Str)) = true then (1 : Int) else 0).toNat * [("{" : Str), "}"].length ≤ 1 * 2 := Nat.mul_le_mul this (Nat.le_refl _)
          have h3 : ((s.pile.length : Nat) : Int).toNat * [("}" : Str)].length ≤ 900 * 1 := Nat.mul_le_mul (by omega) (Nat.le_refl _)
          omega
end
end My

--CUT
namespace My
open PySem PySem.Spec PyProof.Rows L2 Evl
section
variable {K : PySem.W.Frag} {σ : L2.St} {H : Hp} {D : Ends}
theorem Dice.same {d : Addr} {H H' : Hp} (h : Dice H d) (e : Same H H') : Dice H' d := by
  obtain ⟨a, b, c, h0, g⟩ := h
  exact ⟨a, b, c, h0, e _ _ g⟩
def EvP (te : TE) (σ : L2.St) (H : Hp) (R : V → Hp → Prop) : Prop := ∀ H1, Ex H H1 → ∀ Q : VK, (∀ v H2, Ex H1 H2 → R v H2 → Q v H2) → te σ H1 Q
def EvAP (ta : TA) (σ : L2.St) (H : Hp) (n : Nat) (R : V → Hp → Prop) : Prop := ∀ H1, Ex H H1 → ∀ Q : List V → Hp → Prop, (∀ vs H2, Ex H1 H2 → vs.length = n → (∀ v ∈ vs, R v H2) → Q vs H2) → ta σ H1 Q
theorem ep_nil {R : V → Hp → Prop} : EvAP tNil σ H 0 R := fun H1 _ Q q => q [] H1 (Ex.refl H1) rfl (fun _ z => nomatch z)
theorem ep_cons {te : TE} {tr : TA} {n : Nat} {R : V → Hp → Prop} (m : ∀ v H1 H2, Ex H1 H2 → R v H1 → R v H2) (h : EvP te σ H R) (hr : EvAP tr σ H n R) : EvAP (tCons te tr) σ H (n + 1) R := fun H1 e Q q =>
  h H1 e _ fun v H2 e2 hv => hr H2 (e.trans e2) _ fun vs H3 e3 hl hvs => q _ H3 (e2.trans e3) (by rw [← hl]; rfl) (fun u hu => by
    cases hu with
    | head => exact m v _ _ e3 hv
    | tail _ hu => exact hvs u hu)
/-- a list of words, not empty -/
def WL (v : V) (H : Hp) : Prop := ∃ p ys, v = .ref p ∧ H p = some (.lst (ys.map V.str)) ∧ ys ≠ [] ∧ (∀ u ∈ ys, u ∈ allW) ∧ ys.length ≤ 100
theorem WL.mono (v : V) (H1 H2 : Hp) (e : Ex H1 H2) (h : WL v H1) : WL v H2 := by
  obtain ⟨p, ys, h1, h2, h3⟩ := h
  exact ⟨p, ys, h1, e _ _ h2, h3⟩
theorem ep_list {te : TE} {ys : List Str} (h : EvL te σ H (ys.map V.str)) (h0 : ys ≠ []) (hw : ∀ u ∈ ys, u ∈ allW) (hl : ys.length ≤ 100) : EvP te σ H WL := fun H1 e Q q => h H1 e _ fun p H2 _ e2 hp => q _ H2 e2 ⟨p, ys, rfl, hp, h0, hw, hl⟩
theorem ep_have {te : TE} {v : V} (h : Ev te σ H v) (hv : WL v H) : EvP te σ H WL := fun H1 e Q q => h H1 e _ fun H2 e2 => q _ H2 e2 (WL.mono v _ _ (e.trans e2) hv)
theorem WL.ne {d : Addr} {p : Addr} {ys : List Str} {H : Hp} (hp : H p = some (.lst (ys.map V.str))) (h0 : ys ≠ []) (hd : Dice H d) : p ≠ d := fun z => by
  obtain ⟨a, b, c, _, e⟩ := hd
  rw [z, e] at hp
  cases ys with
  | nil => exact h0 rfl
  | cons u r => cases hp
end
section
variable {P : Program} {w : World} {K : PySem.W.Frag} {mg : Str → Option Value} {base : Heap}
/-! ### _law_words -/
def spWords : Sp := fun vs H Q _ => ∃ (d B : Addr) (b : LB), vs = [.ref d, .ref B] ∧ Dice H d ∧ BookAt [d] H B b ∧ b.Ok ∧
  ∀ (r : Addr) (ws : List Str) (H' : Hp), H r = none → Ext d H H' → Dice H' d → H' r = some (.tup (ws.map V.str)) → ws ≠ [] → (∀ u ∈ ws, u ∈ allW) → ws.length ≤ 4 → Q (.ref r) H'
theorem ok_words (T : Txt K mg) : FnOk P w K mg base CX0 4 T.f_words T.fd_words ["_law_dice_here", "_law_book_here"] spWords := by
  refine T.F_words.ok sc_words (fun vs H Q E h => ?_) (fun cdv A outer s H vs Q E hr h => ?_)
  · obtain ⟨d, B, b, rfl, _⟩ := h
    rfl
  · obtain ⟨d, B, b, rfl, hd, hb, ho, q⟩ := h
    refine ⟨_, (pss_cons (ps_asg (pe_call (ok_roles T) (hr.mono (by decide)) (by rfl) T.g_roles T.F_roles.kp T.b_roles .nil pass0 (pa_cons (pv 1) pa_nil)) (pg_unl (by rfl) (pgs_cons (pg_name (i := 2) sc_words.nd rfl (.inl rfl)) (pgs_cons (pg_name (i := 3) sc_words.nd rfl (.inl rfl)) (pgs_cons (pg_name (i := 4) sc_words.nd rfl (.inl rfl)) (pgs_cons (pg_name (i := 5) sc_words.nd rfl (.inl rfl)) pgs_nil))))))
      (pss_cons (ps_set (i := 6) sc_words.nd rfl (.inl rfl) (pe_lst pa_nil))
      (pss_cons (ps_for PassesOwn.never rfl (pi_range1 (by rfl) T.z_range (pa_cons (pe_op op_add pe_int (pe_call (ok_roll T) (hr.mono (by decide)) (by rfl) T.g_roll T.F_roll.kp T.b_roll .nil pass0 (pa_cons (pv 0) (pa_cons pe_int pa_nil)))) pa_nil)) (pg_name (i := 7) sc_words.nd rfl (.inl rfl)) (pss_cons (ps_set (i := 8) sc_words.nd rfl (.inl rfl) (pe_lst (pa_cons (pe_lst (pa_cons pe_str pa_nil)) (pa_cons (pe_lst (pa_cons pe_str (pa_cons pe_str pa_nil))) (pa_cons (pv 2) (pa_cons (pe_lst (pa_cons pe_str (pa_cons pe_str pa_nil))) (pa_cons (pe_op op_cat (pv 3) (pe_lst (pa_cons pe_str pa_nil))) (pa_cons (pe_op op_cat (pv 4) (pe_lst (pa_cons pe_str pa_nil))) (pa_cons (pe_op op_cat (pv 5) (pe_lst (pa_cons pe_str pa_nil))) pa_nil)))))))))
      (pss_one (ps_expr (e_bm (K := K) PySem.F.plainAttrs_list PySem.F.slot_list_append PySem.F.type_list_append mt_append (pv 6) (pa_cons (pe_call (ok_pick T) (hr.mono (by decide)) (by rfl) T.g_pick T.F_pick.kp T.b_pick .nil pass0 (pa_cons (pv 0) (pa_cons (pe_call (ok_pick T) (hr.mono (by decide)) (by rfl) T.g_pick T.F_pick.kp T.b_pick .nil pass0 (pa_cons (pv 0) (pa_cons (pv 8) pa_nil))) pa_nil))) pa_nil))))))
      (pss_cons (ps_if (pt_cmpR op_eq (pe_call (ok_roll T) (hr.mono (by decide)) (by rfl) T.g_roll T.F_roll.kp T.b_roll .nil pass0 (pa_cons (pv 0) (pa_cons pe_int pa_nil))) pe_int (nomark _)) (pss_one (ps_expr (e_bm (K := K) PySem.F.plainAttrs_list PySem.F.slot_list_append PySem.F.type_list_append mt_append (pv 6) (pa_cons (pe_call (ok_pick T) (hr.mono (by decide)) (by rfl) T.g_pick T.F_pick.kp T.b_pick .nil pass0 (pa_cons (pv 0) (pa_cons (pv 2) pa_nil))) pa_nil)))) pss_nil)
      (pss_one (ps_ret (pe_callTy (c_tuple (K := K)) (by rfl) T.z_tuple (by decide +kernel) (pa_cons (pv 6) pa_nil)))))))), ?_⟩
    refine r_seq (r_asg (r_call (r_cons (r_var rfl (r_nil ?_)))))
    refine ⟨[d], B, b, rfl, hb, ho, fun a1 a2 a3 a4 r us es bs cs H1 s1 f1 f2 f3 f4 fr hr1 g1 g2 g3 g4 p1 p2 p3 p4 => ?_⟩
    refine r_unl4 hr1 ?_
    dsimp only
    have hus : ∀ u ∈ us, u ∈ allW := fun u hu => by
      obtain ⟨y, hy, e⟩ := List.mem_map.mp (p1.mem_iff.mp hu)
      rw [← e]
      exact (show ∀ w ∈ opW, w ∈ allW by decide +kernel) _ (ho.ops y hy).1
    have hes : ∀ u ∈ es, u ∈ allW := fun u hu => by
      obtain ⟨y, hy, e⟩ := List.mem_map.mp (p2.mem_iff.mp hu)
      rw [← e]
      exact (show ∀ w ∈ enW, w ∈ allW by decide +kernel) _ (ho.ens y hy).1
    have hbs : ∀ u ∈ bs, u ∈ allW := fun u hu => by
      obtain ⟨y, hy, e⟩ := List.mem_map.mp (p3.mem_iff.mp hu)
      rw [← e]
      exact (show ∀ w ∈ brW, w ∈ allW by decide +kernel) _ (ho.brs y hy).1
    have hcs : ∀ u ∈ cs, u ∈ allW := fun u hu => by
      obtain ⟨y, hy, e⟩ := List.mem_map.mp (p4.mem_iff.mp hu)
      rw [← e, (ho.brs y hy).2]
      exact (show ∀ w ∈ brW, clOf w ∈ allW by decide +kernel) _ (ho.brs y hy).1
    have l1 : us.length ≤ 4 := by
      rw [p1.length_eq, List.length_map]
      exact ho.opl
    have l2 : es.length ≤ 3 := by
      rw [p2.length_eq, List.length_map]
      exact ho.enl
    have l3 : bs.length ≤ 2 := by
      rw [p3.length_eq, List.length_map]
      exact ho.brl
    have l4 : cs.length ≤ 2 := by
      rw [p4.length_eq, List.length_map]
      exact ho.brl
    have hne : us ≠ [] := fun z => by
      rw [z] at p1
      exact ho.some (List.map_eq_nil_iff.mp (List.nil_perm.mp p1))
    have d1 := hd.same s1
    have hus0 : WL (.ref a1) H1 := ⟨a1, us, rfl, g1, hne, hus, by omega⟩
    have n1 : a1 ≠ d := WL.ne g1 hne d1
    have n2 : a2 ≠ d := Dice.ne hd f2
    have n3 : a3 ≠ d := Dice.ne hd f3
    have n4 : a4 ≠ d := Dice.ne hd f4
    walk_at "zrd"
    refine ⟨by walk_at "zsz", fun pf ff => ?_⟩
    walk_at "zrd"
    refine ⟨d, 3, rfl, d1.new ff, by decide, by decide, fun k H2 hk e2 d2 => ?_⟩
    walk_at "zrd"
    refine r_rng1j (by omega) (by omega) ?_
    have npf : pf ≠ d := d1.ne ff
    refine forB walk_range (fun i σ H' => ∃ y7 y8 f, σ = [some (.ref d), some (.ref B), some (.ref a1), some (.ref a2), some (.ref a3), some (.ref a4), some (.ref pf), y7, y8] ∧ Ext d H1 H' ∧ Dice H' d ∧ H' pf = some (.lst (f.map V.str)) ∧ (∀ u ∈ f, u ∈ allW) ∧ f.length = i)
      ⟨_, _, [], rfl, ((Ext.refl d H1).grown ff).trans e2, d2, e2 _ _ npf upd_same, fun _ z => (nomatch z), rfl⟩ (fun _ _ _ _ _ => trivial) (fun i x σ H3 H4 hi hP hy => ?_) (fun σ H3 hP => ?_)
    · obtain ⟨rfl, rfl⟩ := hy
      obtain ⟨y7, y8, f, rfl, e3, d3, w3, hf, hfl⟩ := hP
      refine r_name ?_
      refine r_seq (r_asg (r_lst ?_))
      have hA : EvAP _ _ H4 _ WL := ep_cons WL.mono (ep_list (ys := ["a"]) (el_lst (ea_cons ev_c ea_nil) (by decide)) (by decide) (by decide +kernel) (by decide))
        (ep_cons WL.mono (ep_list (ys := ["b", "x"]) (el_lst (ea_cons ev_c (ea_cons ev_c ea_nil)) (by decide)) (by decide) (by decide +kernel) (by decide))
        (ep_cons WL.mono (ep_have (ev_var (i := 2) (σ := [some (.ref d), some (.ref B), some (.ref a1), some (.ref a2), some (.ref a3), some (.ref a4), some (.ref pf), some (.int (0 + (i : Int))), y8]) rfl) (⟨a1, us, rfl, e3 _ _ n1 g1, hne, hus, by omega⟩))
        (ep_cons WL.mono (ep_list (ys := ["a", "y"]) (el_lst (ea_cons ev_c (ea_cons ev_c ea_nil)) (by decide)) (by decide) (by decide +kernel) (by decide))
        (ep_cons WL.mono (ep_list (ys := es ++ [("z" : Str)]) (by rw [List.map_append]; exact el_cat (ev_var (i := 3) rfl) (e3 _ _ n2 g2) (el_lst (ea_cons ev_c ea_nil) (by decide)) (by simp; omega)) (by simp) (fun u hu => by
          rcases List.mem_append.mp hu with z | z
          · exact hes u z
          · rw [List.mem_singleton.mp z]; decide +kernel) (by simp; omega))
        (ep_cons WL.mono (ep_list (ys := bs ++ [("a" : Str)]) (by rw [List.map_append]; exact el_cat (ev_var (i := 4) rfl) (e3 _ _ n3 g3) (el_lst (ea_cons ev_c ea_nil) (by decide)) (by simp; omega)) (by simp) (fun u hu => by
          rcases List.mem_append.mp hu with z | z
          · exact hbs u z
          · rw [List.mem_singleton.mp z]; decide +kernel) (by simp; omega))
        (ep_cons WL.mono (ep_list (ys := cs ++ [("b" : Str)]) (by rw [List.map_append]; exact el_cat (ev_var (i := 5) rfl) (e3 _ _ n4 g4) (el_lst (ea_cons ev_c ea_nil) (by decide)) (by simp; omega)) (by simp) (fun u hu => by
          rcases List.mem_append.mp hu with z | z
          · exact hcs u z
          · rw [List.mem_singleton.mp z]; decide +kernel) (by simp; omega)) ep_nil))))))
      refine hA H4 (Ex.refl _) _ fun vs H5 e5 hl hvs => ?_
      refine ⟨by rw [hl]; decide, fun ps fs => r_name ?_⟩
      have d5 : Dice H5 d := d3.same e5
      have x5 := Ex.trans e5 (Ex.new (o := .lst vs) fs)
      refine r_drop (r_bm (r_var rfl (r_tyL (x5 _ _ w3) (r_cons (r_call (r_cons (r_var rfl (r_cons (r_call (r_cons (r_var rfl (r_cons (r_var rfl (r_nil ?_))))))))))))))
      refine ⟨d, ps, vs, rfl, d5.new fs, upd_same, d5.ne fs, (fun z => by rw [z] at hl; cases hl), by rw [hl]; decide, fun v H6 hv e6 d6 => ?_⟩
      obtain ⟨p, ys, rfl, hp, hy0, hyw, hyl⟩ := hvs v hv
      have npd : p ≠ d := WL.ne hp hy0 d5
      refine r_nil ⟨d, p, ys.map V.str, rfl, d6, e6 _ _ npd (same_upd fs _ _ hp), npd, fun z => hy0 (List.map_eq_nil_iff.mp z), by rw [List.length_map]; omega, fun v H7 hv e7 d7 => ?_⟩
      obtain ⟨u, hu, rfl⟩ := List.mem_map.mp hv
      refine r_nil (r_append (e7 _ _ npf (e6 _ _ npf (x5 _ _ w3))) (sz_lt (by rw [List.length_map, hfl]; omega)) ?_)
      refine ⟨_, _, f ++ [u], rfl, ((((e3.trans (.of_same x5)).trans e6).trans e7).grown ff), d7.off npf, by rw [upd_same, List.map_append]; rfl, fun x hx => ?_, by rw [List.length_append, hfl]; rfl⟩
      rcases List.mem_append.mp hx with z | z
      · exact hf x z
      · rw [List.mem_singleton.mp z]
        exact hyw u hu
    · obtain ⟨y7, y8, f, rfl, e3, d3, w3, hf, hfl⟩ := hP
      have hfl2 : 1 ≤ f.length ∧ f.length ≤ 3 := by omega
      clear hfl
      dsimp only
      refine r_seqJ (fun σ H' => ∃ f : List Str, σ = [some (.ref d), some (.ref B), some (.ref a1), some (.ref a2), some (.ref a3), some (.ref a4), some (.ref pf), y7, y8] ∧ Ext d H1 H' ∧ Dice H' d ∧ H' pf = some (.lst (f.map V.str)) ∧ (∀ u ∈ f, u ∈ allW) ∧ 1 ≤ f.length ∧ f.length ≤ 4) (fun σ H4 hC => ?_) (fun key => ?_)
      · obtain ⟨f, rfl, e4, d4, w4, hf, hf1, hf2⟩ := hC
        refine r_ret (r_cb (r_cons (r_var rfl (r_nil (r_tupleL w4 fun p hp => ?_)))))
        have e4' : Ext d H H4 := (Ext.of_same s1).trans e4
        refine q p f _ (e4'.free_ d4 hp) (e4'.trans (.new hp)) (d4.new hp) upd_same (fun z => by rw [z] at hf1; exact absurd hf1 (by decide)) hf (by omega)
      · walk_at "zrd"
        refine ⟨d, 3, rfl, d3, by decide, by decide, fun k2 H4 hk2 e4 d4 => ?_⟩
        walk_at "zrd"
        refine ite2 (fun z => ?_) (fun z => ?_)
        · refine r_drop (r_bm (r_var rfl (r_tyL (e4 _ _ npf w3) (r_cons (r_call (r_cons (r_var rfl (r_cons (r_var rfl (r_nil ?_))))))))))
          refine ⟨d, a1, us.map V.str, rfl, d4, e4 _ _ n1 (e3 _ _ n1 g1), n1, fun z => hne (List.map_eq_nil_iff.mp z), by rw [List.length_map]; omega, fun v H5 hv e5 d5 => ?_⟩
          obtain ⟨u, hu, rfl⟩ := List.mem_map.mp hv
          refine r_nil (r_append (e5 _ _ npf (e4 _ _ npf w3)) (sz_lt (by rw [List.length_map]; omega)) ?_)
          refine key _ _ ⟨f ++ [u], rfl, (((e3.trans e4).trans e5).grown ff), d5.off npf, by rw [upd_same, List.map_append]; rfl, fun x hx => ?_, by rw [List.length_append]; omega, by rw [List.length_append]; show f.length + 1 ≤ 4; omega⟩
          rcases List.mem_append.mp hx with z | z
          · exact hf x z
          · rw [List.mem_singleton.mp z]
            exact hus u hu
        · exact key _ _ ⟨f, rfl, e3.trans e4, d4, e4 _ _ npf w3, hf, hfl2.1, by omega⟩
end
end My

--CUT
namespace My
open PySem PySem.Spec PyProof.Rows L2 Evl
section
variable {K : PySem.W.Frag} {σ : L2.St} {H : Hp} {D : Ends}
theorem ev_max0 {tb : TE} {c : Int} (h : Ev tb σ H (.int c)) : ∃ m : Int, 0 ≤ m ∧ Ev (tCB wMax2 (tCons (tC (.int 0)) (tCons tb tNil))) σ H (.int m) := ⟨if c > 0 then c else 0, by split <;> omega, fun H1 e Q q => h H1 e _ fun H2 e2 => r_max2 (q H2 e2)⟩
theorem ev_top {N : List Addr} {b : LB} {S : Addr} {s : LState} {ta : TE} (hs : Ev ta σ H (.ref S)) (h : StateAt N H S s) (ho : b.Ok) (so : s.Ok b) :
    Ev (tIf (tTest (tOp (rNeD K) (tOp (rIxL K) ta (tC (.int 0))) (tLst tNil))) (tOp (rIxT K) (tOp (rIxL K) (tOp (rIxL K) ta (tC (.int 0))) (tUn (rU fun i => .int (-i)) (tC (.int 1)))) (tC (.int 0))) (tC (.int 0))) σ H (.int (topOf s.pile)) := by
  obtain ⟨⟨pa, xs, s1, s2, s3, m1⟩, m0⟩ := h
  have h0 : Ev (tOp (rIxL K) ta (tC (.int 0))) σ H (.ref pa) := ev_op hs ev_c (rv_ixL (sq_of s1) rfl)
  have hE := ev_neNil (K := K) h0 s2 s3 (fun x hx => ho.lay (so.pile x hx))
  rcases pile_end s.pile with hp | ⟨q2, ⟨c, u⟩, hp⟩
  · rw [hp] at hE ⊢
    exact ev_if (et_test hE) (fun z => nomatch z) (fun _ => ev_c)
  · rw [hp] at hE s3 ⊢
    obtain ⟨us2, t, rfl, hp2, nt, ht⟩ := s3.last
    rw [topOf_add]
    exact ev_if (et_test hE) (fun _ => ev_col (ev_lastRef h0 s2) ht) (fun z => by simp at z)
theorem cutV3 {xs : List V} (h : xs ≠ []) : cutV xs (some (-3)) none ≠ [] := fun z => by
  have h1 : 0 < xs.length := List.length_pos_iff.mpr h
  have h2 := congrArg List.length z
  unfold cutV at h2
  have e1 : HT.sIx xs.length 0 (some (-3)) = ((-3 : Int) + xs.length).toNat := rfl
  have e2 : HT.sIx xs.length xs.length none = xs.length := rfl
  rw [e1, e2, List.length_take, List.length_drop] at h2
  simp at h2
  omega
theorem cutV_mem {xs : List V} {lo hi : Option Int} {y : V} (h : y ∈ cutV xs lo hi) : y ∈ xs := List.mem_of_mem_drop (List.mem_of_mem_take h)
def colV (p : Pile) : Nat → V := fun i => match p[i]? with
  | some x => .int x.1
  | none => .int 0
end
section
variable {P : Program} {w : World} {K : PySem.W.Frag} {mg : Str → Option Value} {base : Heap}
/-! ### _law_columns_near -/
def spCol : Sp := fun vs H Q _ => ∃ (d S : Addr) (s : LState), vs = [.ref d, .ref S] ∧ Dice H d ∧ StateAt [d] H S s ∧ s.pile.length ≤ 1000 ∧ ∀ (c : Int) (H' : Hp), 0 ≤ c → Ext d H H' → Dice H' d → Q (.int c) H'
theorem ok_columns_near (T : Txt K mg) : FnOk P w K mg base CX0 3 T.f_columns_near T.fd_columns_near ["_law_dice_here", "_law_state"] spCol := by
  refine T.F_columns_near.ok sc_columns_near (fun vs H Q E h => ?_) (fun cdv A outer s H vs Q E hr h => ?_)
  · obtain ⟨d, S, s, rfl, _⟩ := h
    rfl
  · obtain ⟨d, S, s, rfl, hd, hs, hpl, q⟩ := h
    refine ⟨_, (pss_cons (ps_set (i := 3) sc_columns_near.nd rfl (.inl rfl) (pe_op op_cat (pe_lst (pa_cons pe_int pa_nil)) (pe_lc (own := [("_law_block", 2)]) rfl sc_columns_near.nd (p_list (K := K) (pe_ix (i_list (K := K)) (pv 1) pe_int (fun _ _ => rfl))) (blkOk_by (own := [("_law_block", 2)]) (N := ["_law_dice_here", "_law_state", "_law_block", "_law_some_here", "_law_one"]) (sc := (defScope s_columns_near)) (by decide +kernel)) (fun _ _ _ _ _ => (pg_name (i := 2) sc_columns_near.nd rfl (.inl rfl))) (fun _ _ _ _ _ => (pts_one (pt_cmpR op_ge (pe_ix (i_tup (K := K)) (pv 2) pe_int (fun _ _ => rfl)) pe_int (nomark _)))) (fun _ _ _ _ _ => (pe_ix (i_tup (K := K)) (pv 2) pe_int (fun _ _ => rfl))))))
      (pss_cons (ps_set (i := 4) sc_columns_near.nd rfl (.inl rfl) (pe_call (ok_pick T) (hr.mono (by decide)) (by rfl) T.g_pick T.F_pick.kp T.b_pick .nil pass0 (pa_cons (pv 0) (pa_cons (pe_slice (s_list (K := K)) (pv 3) (po_some (pe_un un_neg pe_int)) po_none) pa_nil))))
      (pss_one (ps_ret (pe_callB (c_max2 rfl) (by rfl) T.z_max (by decide +kernel) (pa_cons pe_int (pa_cons (pe_op op_add (pv 4) (pe_call (ok_pick T) (hr.mono (by decide)) (by rfl) T.g_pick T.F_pick.kp T.b_pick .nil pass0 (pa_cons (pv 0) (pa_cons (pe_lst (pa_cons pe_int (pa_cons pe_int (pa_cons pe_int (pa_cons pe_int (pa_cons pe_int (pa_cons pe_int (pa_cons (pe_un un_neg pe_int) pa_nil)))))))) pa_nil)))) pa_nil))))))), ?_⟩
    obtain ⟨⟨pa, xs, s1, s2, s3, m1⟩, m0⟩ := hs
    refine q_asgL (el_catLL (el_lst (ea_cons ev_c ea_nil) (by decide)) (el_lcL (fltF s.pile fun c => decide (c ≥ 0)) (colV s.pile) (ev_op (ev_var rfl) ev_c (rv_ixL (sq_of s1) rfl)) (sq_of s2) (by rw [s3.len]; omega) (fun _ => rfl) (fun i x H1 e hx => ?_) (fun i x H1 e hx hf => ?_)) ?_) fun p H1 fp e1 hp => ?_
    · obtain ⟨t, c, u, rfl, e2, _, e4⟩ := s3.get hx
      have hf : fltF s.pile (fun c => decide (c ≥ 0)) i = decide (c ≥ 0) := by
        unfold fltF
        rw [e2]
      rw [hf]
      exact et_test (ev_op (ev_col (ev_var rfl) (e _ _ e4)) ev_c rv_I0)
    · obtain ⟨t, c, u, rfl, e2, _, e4⟩ := s3.get hx
      have hv : colV s.pile i = .int c := by
        unfold colV
        rw [e2]
      rw [hv]
      exact ev_col (ev_var rfl) (e _ _ e4)
    · have := given_len xs.length (fltF s.pile fun c => decide (c ≥ 0)) (colV s.pile)
      rw [s3.len] at this ⊢
      show 1 + _ ≤ _
      omega
    have hel : ∀ y ∈ V.int 0 :: given xs.length (fltF s.pile fun c => decide (c ≥ 0)) (colV s.pile), ∃ c : Int, y = .int c ∧ 0 ≤ c := by
      intro y hy
      cases hy with
      | head => exact ⟨0, rfl, Int.le_refl _⟩
      | tail _ hy =>
        unfold given at hy
        obtain ⟨i, hi, rfl⟩ := List.mem_map.mp hy
        have hf := (List.mem_filter.mp hi).2
        unfold fltF at hf
        unfold colV
        cases hp : s.pile[i]? with
        | none => exact ⟨0, rfl, Int.le_refl _⟩
        | some x =>
          rw [hp] at hf
          exact ⟨x.1, rfl, of_decide_eq_true hf⟩
    have hlen : (V.int 0 :: given xs.length (fltF s.pile fun c => decide (c ≥ 0)) (colV s.pile)).length ≤ 1001 := by
      have := given_len xs.length (fltF s.pile fun c => decide (c ≥ 0)) (colV s.pile)
      rw [s3.len] at this ⊢
      show _ + 1 ≤ _
      omega
    have hy0 : (V.int 0 :: given xs.length (fltF s.pile fun c => decide (c ≥ 0)) (colV s.pile)) ≠ [] := fun z => nomatch z
    have hp : H1 p = some (.lst (V.int 0 :: given xs.length (fltF s.pile fun c => decide (c ≥ 0)) (colV s.pile))) := hp
    generalize V.int 0 :: given xs.length (fltF s.pile fun c => decide (c ≥ 0)) (colV s.pile) = ys at hp hel hlen hy0
    have d1 := hd.same e1
    have npd := hd.ne fp
    refine r_seq (r_asg (r_call (r_cons (r_var rfl (r_cons ?_)))))
    refine el_sl (K := K) (ev_var rfl) (eo_some (ev_un ev_c ru_neg)) eo_none (sq_of hp) H1 (Ex.refl _) _ fun pl H2 fl e2 hl => ?_
    refine r_nil ⟨d, pl, _, rfl, d1.same e2, hl, d1.ne fl, cutV3 hy0, by have := cutV_length ys (some (-3)) none; omega, fun v H3 hv e3 d3 => ?_⟩
    obtain ⟨c, rfl, hc⟩ := hel v (cutV_mem hv)
    refine r_name ?_
    dsimp only
    refine r_ret (r_cb (r_cons (r_c (r_cons (r_op (r_var rfl (r_call (r_cons (r_var rfl (r_cons ?_))))))))))
    refine el_lst (ea_cons ev_c (ea_cons ev_c (ea_cons ev_c (ea_cons ev_c (ea_cons ev_c (ea_cons ev_c (ea_cons (ev_un ev_c ru_neg) ea_nil))))))) (by show 7 ≤ 100000; decide) H3 (Ex.refl _) _ fun pk H4 fk e4 hk => ?_
    refine r_nil ⟨d, pk, _, rfl, d3.same e4, hk, d3.ne fk, (fun z => nomatch z), by show 7 < 1073741824; decide, fun v H5 hv e5 d5 => ?_⟩
    obtain ⟨k, rfl⟩ : ∃ k : Int, v = .int k := by
      simp only [List.mem_cons, List.not_mem_nil, or_false] at hv
      rcases hv with h | h | h | h | h | h | h <;> exact ⟨_, h⟩
    refine r_I0 (r_nil (r_max2 ?_))
    exact q _ _ (by split <;> omega) ((((Ext.of_same (e1.trans e2)).trans e3).trans (.of_same e4)).trans e5) d5
/-! ### _law_filling -/
theorem LineAt.lst {N : List Addr} {H : Hp} {a : Addr} {zs : List V} {o : HO} (ha : H a = some (.lst zs)) {L : Addr} {l : LLine} (h : LineAt N H L l) : LineAt N (upd H a o) L l := by
  obtain ⟨⟨ta, h1, h2, n1⟩, n⟩ := h
  exact ⟨⟨ta, by rw [upd_ne (ne_obj h1 ha (fun z => nomatch z))]; exact h1, by rw [upd_ne (ne_obj h2 ha (fun z => nomatch z))]; exact h2, n1⟩, n⟩
theorem LineAt.off {N : List Addr} {H : Hp} {a : Addr} {zs : List V} (ha : H a = some (.lst zs)) {L : Addr} {l : LLine} (h : LineAt N H L l) : LineAt (a :: N) H L l := by
  obtain ⟨⟨ta, h1, h2, n1⟩, n⟩ := h
  refine ⟨⟨ta, h1, h2, fun z => ?_⟩, fun z => ?_⟩
  · cases z with
    | head => rw [h2] at ha; cases ha
    | tail _ z => exact n1 z
  · cases z with
    | head => rw [h1] at ha; cases ha
    | tail _ z => exact n z
theorem LineAt.offD {N : List Addr} {H : Hp} {a : Addr} {kvs : List (Key × V)} (ha : H a = some (.dK kvs)) {L : Addr} {l : LLine} (h : LineAt N H L l) : LineAt (a :: N) H L l := by
  obtain ⟨⟨ta, h1, h2, n1⟩, n⟩ := h
  refine ⟨⟨ta, h1, h2, fun z => ?_⟩, fun z => ?_⟩
  · cases z with
    | head => rw [h2] at ha; cases ha
    | tail _ z => exact n1 z
  · cases z with
    | head => rw [h1] at ha; cases ha
    | tail _ z => exact n z
structure LGood (l : LLine) : Prop where
  ok : l.Ok
  ws : ∀ u ∈ l.ws, u ∈ allW
  len : l.ws.length ≤ 4
theorem good_a {c : Int} (h : 0 ≤ c) : LGood ⟨c, ["a"]⟩ := ⟨⟨h, fun z => nomatch z⟩, show ∀ u ∈ [("a" : Str)], u ∈ allW by decide +kernel, by show 1 ≤ 4; decide⟩
def spFill : Sp := fun vs H Q _ => ∃ (N : List Addr) (S : Addr) (b : LB) (s : LState), vs = [.ref S] ∧ StateAt N H S s ∧ b.Ok ∧ s.Ok b ∧ (∀ a ∈ N, H a ≠ none) ∧ ∀ (L : Addr) (l : LLine) (H' : Hp), Same H H' → H L = none → LineAt N H' L l → LGood l → Q (.ref L) H'
theorem ok_filling (T : Txt K mg) : FnOk P w K mg base CX0 3 T.f_filling T.fd_filling ["_law_state"] spFill := by
  refine T.F_filling.ok sc_filling (fun vs H Q E h => ?_) (fun cdv A outer s H vs Q E hr h => ?_)
  · obtain ⟨N, S, b, s, rfl, _⟩ := h
    rfl
  · obtain ⟨N, S, b, s, rfl, hs, ho, so, hN, q⟩ := h
    refine ⟨_, (pss_cons (ps_set (i := 1) sc_filling.nd rfl (.inl rfl) (pe_ifExp (pt_cmpR (o_neD (K := K) hr.units) (pe_ix (i_list (K := K)) (pv 0) pe_int (fun _ _ => rfl)) (pe_lst pa_nil) (nomark _)) (pe_ix (i_tup (K := K)) (pe_ix (i_list (K := K)) (pe_ix (i_list (K := K)) (pv 0) pe_int (fun _ _ => rfl)) (pe_un un_neg pe_int) (fun _ _ => rfl)) pe_int (fun _ _ => rfl)) pe_int))
      (pss_one (ps_ret (pe_tup (pa_cons (pe_callB (c_max2 rfl) (by rfl) T.z_max (by decide +kernel) (pa_cons pe_int (pa_cons (pe_op op_add (pv 1) pe_int) pa_nil))) (pa_cons (pe_tup (pa_cons pe_str pa_nil)) pa_nil)))))), ?_⟩
    refine q_asg (ev_top (ev_var rfl) hs ho so) fun H1 e1 => ?_
    obtain ⟨m, hm, hE⟩ := ev_max0 (σ := [some (.ref S), some (.int (topOf s.pile))]) (H := H1) (ev_op (ta := tVar 1) (ev_var rfl) (ev_c (v := .int 1)) (rv_I0 (g := fun i j => .int (i + j))))
    refine r_ret (r_tup (r_cons ?_))
    refine hE H1 (Ex.refl _) _ fun H2 e2 => ?_
    refine r_cons ?_
    refine eu_tup0 (ea_cons ev_c ea_nil) (by show 1 ≤ 1000; decide) H2 (Ex.refl _) _ fun ta H3 fta e3 hta => ?_
    refine r_nil ⟨by walk_at "zsz", fun L fL => ?_⟩
    have x := (e1.trans e2).trans e3
    have x4 := x.trans (Ex.new (o := .tup [.int m, .ref ta]) fL)
    exact q L ⟨m, ["a"]⟩ _ x4 (fresh_back x fL) ⟨⟨ta, upd_same, Ex.new fL _ _ hta, fun z => hN _ z (fresh_back (e1.trans e2) fta)⟩, fun z => hN _ z (fresh_back x fL)⟩ (good_a hm)
/-! ### _law_good_line -/
def spGL : Sp := fun vs H Q _ => ∃ (d B S : Addr) (b : LB) (s : LState), vs = [.ref d, .ref B, .ref S] ∧ Dice H d ∧ BookAt [d] H B b ∧ b.Ok ∧ StateAt [d] H S s ∧ s.Ok b ∧ s.pile.length ≤ 1000 ∧
  ∀ (L : Addr) (l : LLine) (H' : Hp), Ext d H H' → Dice H' d → LineAt [d] H' L l → LGood l → Q (.ref L) H'
theorem Dice.some {d : Addr} {H : Hp} (h : Dice H d) : ∀ a ∈ [d], H a ≠ none := fun a ha => by
  obtain ⟨x, y, z, _, e⟩ := h
  rw [List.mem_singleton.mp ha, e]
  exact fun z => nomatch z
theorem ok_good_line (T : Txt K mg) : FnOk P w K mg base CX0 5 T.f_good_line T.fd_good_line ["_law_dice_here", "_law_book_here", "_law_state"] spGL := by
  refine T.F_good_line.ok sc_good_line (fun vs H Q E h => ?_) (fun cdv A outer s H vs Q E hr h => ?_)
  · obtain ⟨d, B, S, b, s, rfl, _⟩ := h
    rfl
  · obtain ⟨d, B, S, b, s, rfl, hd, hb, ho, hs, so, hpl, q⟩ := h
    refine ⟨_, (pss_cons (ps_for PassesOwn.never rfl (pi_range1 (by rfl) T.z_range (pa_cons pe_int pa_nil)) (pg_name (i := 3) sc_good_line.nd rfl (.inl rfl)) (pss_cons (ps_set (i := 4) sc_good_line.nd rfl (.inl rfl) (pe_tup (pa_cons (pe_call (ok_columns_near T) (hr.mono (by decide)) (by rfl) T.g_columns_near T.F_columns_near.kp T.b_columns_near .nil pass0 (pa_cons (pv 0) (pa_cons (pv 2) pa_nil))) (pa_cons (pe_call (ok_words T) (hr.mono (by decide)) (by rfl) T.g_words T.F_words.kp T.b_words .nil pass0 (pa_cons (pv 0) (pa_cons (pv 1) pa_nil))) pa_nil))))
      (pss_one (ps_if (pt_cmpR op_eq (pe_ix (i_list (K := K)) (pe_call (ok_line T) (hr.mono (by decide)) (by rfl) T.g_line T.F_line.kp T.b_line .nil pass0 (pa_cons (pv 1) (pa_cons (pv 2) (pa_cons (pv 4) pa_nil)))) pe_int (fun _ _ => rfl)) pe_str (nomark _)) (pss_one (ps_ret (pv 4))) pss_nil))))
      (pss_cons (ps_set (i := 5) sc_good_line.nd rfl (.inl rfl) (pe_ifExp (pt_cmpR (o_neD (K := K) hr.units) (pe_ix (i_list (K := K)) (pv 2) pe_int (fun _ _ => rfl)) (pe_lst pa_nil) (nomark _)) (pe_ix (i_tup (K := K)) (pe_ix (i_list (K := K)) (pe_ix (i_list (K := K)) (pv 2) pe_int (fun _ _ => rfl)) (pe_un un_neg pe_int) (fun _ _ => rfl)) pe_int (fun _ _ => rfl)) pe_int))
      (pss_one (ps_ret (pe_tup (pa_cons (pe_op op_add (pe_callB (c_max2 rfl) (by rfl) T.z_max (by decide +kernel) (pa_cons pe_int (pa_cons (pv 5) pa_nil))) (pe_callTy c_int1 (by rfl) T.z_int (by decide +kernel) (pa_cons (pe_cmpR op_ne (pe_ix (i_list (K := K)) (pv 2) pe_int (fun _ _ => rfl)) pe_str (nomark _)) pa_nil))) (pa_cons (pe_tup (pa_cons pe_str pa_nil)) pa_nil))))))), ?_⟩
    walk_at "zrd"
    refine r_rng1j (by decide) (by decide) ?_
    refine forB walk_range (fun i σ H' => ∃ y3 y4 y5, σ = [some (.ref d), some (.ref B), some (.ref S), y3, y4, y5] ∧ Ext d H H' ∧ Dice H' d) ⟨_, _, _, rfl, Ext.refl _ _, hd⟩ (fun _ _ _ _ _ => trivial) (fun i x σ H3 H4 hi hP hy => ?_) (fun σ H3 hP => ?_)
    · obtain ⟨rfl, rfl⟩ := hy
      obtain ⟨y3, y4, y5, rfl, e4, d4⟩ := hP
      have m : d ∈ [d] := .head _
      have x4 := ExtN.of_ext m e4
      refine r_name ?_
      refine r_seq (r_asg (r_tup (r_cons (r_call (r_cons (r_var rfl (r_cons (r_var rfl (r_nil ?_)))))))))
      refine ⟨d, S, s, rfl, d4, hs.mono x4, hpl, fun c H5 hc e5 d5 => ?_⟩
      refine r_cons (r_call (r_cons (r_var rfl (r_cons (r_var rfl (r_nil ?_))))))
      have x5 := x4.trans (ExtN.of_ext m e5)
      refine ⟨d, B, b, rfl, d5, hb.mono x5, ho, fun r ws H6 fr e6 d6 hr6 hw0 hws hwl => ?_⟩
      refine r_nil ⟨by walk_at "zsz", fun L fL => r_name ?_⟩
      have x6 := x5.trans (ExtN.of_ext m e6)
      have x7 := x6.trans (ExtN.of_same (same_upd (o := .tup [.int c, .ref r]) fL))
      have d7 := d6.new (o := .tup [.int c, .ref r]) fL
      have hL : LineAt [d] (upd H6 L (.tup [.int c, .ref r])) L ⟨c, ws⟩ := ⟨⟨r, upd_same, same_upd fL _ _ hr6, nin1 (Dice.ne d5 fr)⟩, nin1 (d6.ne fL)⟩
      have hG : LGood ⟨c, ws⟩ := ⟨⟨hc, hw0⟩, hws, hwl⟩
      dsimp only
      have xE : Ext d H (upd H6 L (.tup [.int c, .ref r])) := ((e4.trans e5).trans e6).trans (.new fL)
      refine r_ifs (r_B (r_op (r_op (r_call (r_cons (r_var rfl (r_cons (r_var rfl (r_cons (r_var rfl (r_nil ?_)))))))))))
      refine ⟨[d], B, S, L, b, s, ⟨c, ws⟩, rfl, hb.mono x7, ho, hs.mono x7, so, hL, hG.ok, hG.ws, by show ws.length ≤ 10; omega, by omega, d7.some, fun tp S' r8 f s' re H8 s8 f8 h8 _ _ _ _ _ _ => ?_⟩
      refine r_c (r_ixL h8 (L2.atI_nat (j := 2) rfl) (r_c (r_eq rfl ⟨_, rfl, ?_⟩)))
      refine ite2 (fun z => ?_) (fun z => ?_)
      · refine r_ret (r_var rfl ?_)
        exact q L _ _ (xE.trans (.of_same s8)) (d7.same s8) (hL.mono (ExtN.of_same s8)) hG
      · exact ⟨_, _, _, rfl, xE.trans (.of_same s8), d7.same s8⟩
    · obtain ⟨y3, y4, y5, rfl, e4, d4⟩ := hP
      have m : d ∈ [d] := .head _
      have x4 := ExtN.of_ext m e4
      dsimp only
      have hs4 := hs.mono x4
      refine q_asg (ev_top (ev_var rfl) hs4 ho so) fun H5 e5 => ?_
      obtain ⟨mm, hm, hE⟩ := ev_max0 (σ := [some (.ref d), some (.ref B), some (.ref S), y3, y4, some (.int (topOf s.pile))]) (H := H5) (ev_var (i := 5) rfl)
      have hs5 := hs4.mono (ExtN.of_same e5)
      obtain ⟨⟨pa, xs, s1, s2, s3, m1⟩, m0⟩ := hs5
      refine r_ret (r_tup (r_cons (r_op ?_)))
      refine hE H5 (Ex.refl _) _ fun H6 e6 => ?_
      refine ev_intB (ev_neS (s := s.wait) (ev_op (ev_var rfl) ev_c (rv_ixL (sq_of (e6 _ _ s1)) rfl)) ev_c) H6 (Ex.refl _) _ fun H7 e7 => ?_
      refine r_I0 (r_cons ?_)
      refine eu_tup0 (ea_cons ev_c ea_nil) (by show 1 ≤ 1000; decide) H7 (Ex.refl _) _ fun ta H8 fta e8 hta => ?_
      refine r_nil ⟨by walk_at "zsz", fun L fL => ?_⟩
      have x := ((e5.trans e6).trans e7).trans e8
      have d7 := d4.same ((e5.trans e6).trans e7)
      have d8 := d7.same e8
      refine q L ⟨_, ["a"]⟩ _ ((e4.trans (.of_same x)).trans (.new fL)) (d8.new fL) ⟨⟨ta, upd_same, Ex.new fL _ _ hta, nin1 (d7.ne fta)⟩, nin1 (d8.ne fL)⟩ (good_a (Int.add_nonneg hm ?_))
      split <;> decide
end
end My

--CUT
namespace My
open PySem PySem.Spec PyProof.Rows L2 Evl
section
inductive LinesAt (N : List Addr) (H : Hp) : List V → List LLine → Prop
  | nil : LinesAt N H [] []
  | cons {L : Addr} {l : LLine} {vs : List V} {ls : List LLine} (h : LineAt N H L l) (g : LGood l) (t : LinesAt N H vs ls) : LinesAt N H (.ref L :: vs) (l :: ls)
theorem LinesAt.mono {N : List Addr} {H H' : Hp} (x : ExtN N H H') : ∀ {vs : List V} {ls : List LLine}, LinesAt N H vs ls → LinesAt N H' vs ls
  | _, _, .nil => .nil
  | _, _, .cons h g t => .cons (h.mono x) g (t.mono x)
theorem LinesAt.lst {N : List Addr} {H : Hp} {a : Addr} {zs : List V} {o : HO} (ha : H a = some (.lst zs)) : ∀ {vs : List V} {ls : List LLine}, LinesAt N H vs ls → LinesAt N (upd H a o) vs ls
  | _, _, .nil => .nil
  | _, _, .cons h g t => .cons (h.lst ha) g (t.lst ha)
theorem LinesAt.app {N : List Addr} {H : Hp} {L : Addr} {l : LLine} (hL : LineAt N H L l) (g : LGood l) : ∀ {vs : List V} {ls : List LLine}, LinesAt N H vs ls → LinesAt N H (vs ++ [.ref L]) (ls ++ [l])
  | _, _, .nil => .cons hL g .nil
  | _, _, .cons h g' t => .cons h g' (t.app hL g)
theorem LinesAt.len {N : List Addr} {H : Hp} : ∀ {vs : List V} {ls : List LLine}, LinesAt N H vs ls → vs.length = ls.length
  | _, _, .nil => rfl
  | _, _, .cons _ _ t => congrArg Nat.succ t.len
theorem LinesAt.get {N : List Addr} {H : Hp} : ∀ {vs : List V} {ls : List LLine} {i : Nat}, LinesAt N H vs ls → i < vs.length → ∃ L l, vs[i]? = some (.ref L) ∧ LineAt N H L l ∧ LGood l
  | _, _, _, .nil, h => absurd h (Nat.not_lt_zero _)
  | _, _, 0, .cons h g _, _ => ⟨_, _, rfl, h, g⟩
  | _, _, i + 1, .cons _ _ t, h => by
    obtain ⟨L, l, e, h1, h2⟩ := t.get (i := i) (Nat.lt_of_succ_lt_succ h)
    exact ⟨L, l, by simpa using e, h1, h2⟩
theorem LineAt.sub {N N' : List Addr} {H : Hp} (s : ∀ a, a ∈ N' → a ∈ N) {L : Addr} {l : LLine} (h : LineAt N H L l) : LineAt N' H L l := by
  obtain ⟨⟨ta, h1, h2, n1⟩, n⟩ := h
  exact ⟨⟨ta, h1, h2, fun z => n1 (s _ z)⟩, fun z => n (s _ z)⟩
theorem LinesAt.sub {N N' : List Addr} {H : Hp} (s : ∀ a, a ∈ N' → a ∈ N) : ∀ {vs : List V} {ls : List LLine}, LinesAt N H vs ls → LinesAt N' H vs ls
  | _, _, .nil => .nil
  | _, _, .cons h g t => .cons (h.sub s) g (t.sub s)
theorem PileAt.sub {N N' : List Addr} {H : Hp} (s : ∀ a, a ∈ N' → a ∈ N) : ∀ {vs : List V} {p : Pile}, PileAt N H vs p → PileAt N' H vs p
  | _, _, .nil => .nil
  | _, _, .cons n e h => .cons (fun z => n (s _ z)) e (h.sub s)
theorem StateAt.sub {N N' : List Addr} {H : Hp} (sb : ∀ a, a ∈ N' → a ∈ N) {S : Addr} {s : LState} (h : StateAt N H S s) : StateAt N' H S s := by
  obtain ⟨⟨pa, xs, h1, h2, h3, n1⟩, n⟩ := h
  exact ⟨⟨pa, xs, h1, h2, h3.sub sb, fun z => n1 (sb _ z)⟩, fun z => n (sb _ z)⟩
theorem OpAt.more {N : List Addr} {H : Hp} {D : Addr} (hD : H D = none) : ∀ {kvs : List (Key × V)} {l : List (Str × Str × Str)}, OpAt N H kvs l → OpAt (D :: N) H kvs l
  | _, _, .nil => .nil
  | _, _, .cons n e h => .cons (nin_new n e hD) e (h.more hD)
theorem BookAt.more {N : List Addr} {H : Hp} {D : Addr} (hD : H D = none) {B : Addr} {b : LB} (h : BookAt N H B b) : BookAt (D :: N) H B b := by
  obtain ⟨⟨o, e, r, kvs, h1, h2, h3, h4, h5, n1, n2, n3⟩, n⟩ := h
  exact ⟨⟨o, e, r, kvs, h1, h2, h3.more hD, h4, h5, nin_new n1 h2 hD, nin_new n2 h4 hD, nin_new n3 h5 hD⟩, nin_new n h1 hD⟩
theorem LineAt.more {N : List Addr} {H : Hp} {D : Addr} (hD : H D = none) {L : Addr} {l : LLine} (h : LineAt N H L l) : LineAt (D :: N) H L l := by
  obtain ⟨⟨ta, h1, h2, n1⟩, n⟩ := h
  exact ⟨⟨ta, h1, h2, nin_new n1 h2 hD⟩, nin_new n h1 hD⟩
theorem LinesAt.more {N : List Addr} {H : Hp} {D : Addr} (hD : H D = none) : ∀ {vs : List V} {ls : List LLine}, LinesAt N H vs ls → LinesAt (D :: N) H vs ls
  | _, _, .nil => .nil
  | _, _, .cons h g t => .cons (h.more hD) g (t.more hD)
end
section
variable {P : Program} {w : World} {K : PySem.W.Frag} {mg : Str → Option Value} {base : Heap}
/-! ### _law_good_text -/
def spGT : Sp := fun vs H Q _ => ∃ (d B : Addr) (b : LB), vs = [.ref d, .ref B, .int 6] ∧ Dice H d ∧ BookAt [d] H B b ∧ b.Ok ∧
  ∀ (p : Addr) (ls : List LLine) (vs : List V) (H' : Hp), Ext d H H' → Dice H' d → p ≠ d → H' p = some (.lst vs) → LinesAt [d] H' vs ls → ls.length ≤ 150 → Q (.ref p) H'
structure TI (H : Hp) (d pl : Addr) (b : LB) (vs : List V) (ls : List LLine) (S : Addr) (s : LState) (n m : Nat) (H' : Hp) : Prop where
  lines : H' pl = some (.lst vs)
  at_ : LinesAt [pl, d] H' vs ls
  nl : ls.length ≤ n
  state : StateAt [pl, d] H' S s
  ok : s.Ok b
  np : s.pile.length ≤ m
  ext : Ext d H H'
  dice : Dice H' d
  free : H pl = none
  ne : pl ≠ d
theorem TI.wk {H : Hp} {d pl : Addr} {b : LB} {vs : List V} {ls : List LLine} {S : Addr} {s : LState} {n m n' m' : Nat} {H' : Hp} (h : TI H d pl b vs ls S s n m H') (hn : n ≤ n') (hm : m ≤ m') : TI H d pl b vs ls S s n' m' H' :=
  ⟨h.lines, h.at_, Nat.le_trans h.nl hn, h.state, h.ok, Nat.le_trans h.np hm, h.ext, h.dice, h.free, h.ne⟩
theorem TI.ex {H : Hp} {d pl : Addr} {b : LB} {vs : List V} {ls : List LLine} {S : Addr} {s : LState} {n m : Nat} {H' H2 : Hp} (h : TI H d pl b vs ls S s n m H') (e : Ex H' H2) : TI H d pl b vs ls S s n m H2 :=
  ⟨e _ _ h.lines, h.at_.mono (ExtN.of_same e), h.nl, h.state.mono (ExtN.of_same e), h.ok, h.np, h.ext.trans (.of_same e), h.dice.same e, h.free, h.ne⟩
theorem TI.ext' {H : Hp} {d pl : Addr} {b : LB} {vs : List V} {ls : List LLine} {S : Addr} {s : LState} {n m : Nat} {H' H2 : Hp} (h : TI H d pl b vs ls S s n m H') (e : Ext d H' H2) (hd : Dice H2 d) : TI H d pl b vs ls S s n m H2 :=
  have x : ExtN [pl, d] H' H2 := ExtN.of_ext (.tail _ (.head _)) e
  ⟨e _ _ h.ne h.lines, h.at_.mono x, h.nl, h.state.mono x, h.ok, h.np, h.ext.trans e, hd, h.free, h.ne⟩
/-- a line more -/
theorem TI.app {H : Hp} {d pl : Addr} {b : LB} {vs : List V} {ls : List LLine} {S : Addr} {s : LState} {n m : Nat} {H' : Hp} {L : Addr} {l : LLine} (h : TI H d pl b vs ls S s n m H') (hL : LineAt [d] H' L l) (g : LGood l) : TI H d pl b (vs ++ [.ref L]) (ls ++ [l]) S s (n + 1) m (upd H' pl (.lst (vs ++ [.ref L]))) :=
  ⟨upd_same, (h.at_.app (hL.off h.lines) g).lst h.lines, by rw [List.length_append]; exact Nat.succ_le_succ h.nl, h.state.mono ((ExtN.refl _ _).at_ (.head _)), h.ok, h.np, h.ext.grown h.free, h.dice.off h.ne, h.free, h.ne⟩
theorem TI.some {H : Hp} {d pl : Addr} {b : LB} {vs : List V} {ls : List LLine} {S : Addr} {s : LState} {n m : Nat} {H' : Hp} (h : TI H d pl b vs ls S s n m H') : ∀ a ∈ [pl, d], H' a ≠ none := fun a ha => by
  rcases List.mem_cons.mp ha with rfl | ha
  · rw [h.lines]
    exact fun z => nomatch z
  · exact h.dice.some a ha
theorem gt_step {H : Hp} {d pl B : Addr} {b : LB} {vs : List V} {ls : List LLine} {S : Addr} {s : LState} {n m : Nat} {H' : Hp} {L : Addr} {l : LLine} {σ : L2.St} {D : Ends} {E : XK} (h : TI H d pl b (vs ++ [.ref L]) ls S s n m H') (hb : BookAt [pl, d] H B b) (ho : b.Ok) (hL : LineAt [pl, d] H' L l) (g : LGood l) (hm : m ≤ 1000)
    (e1 : σ[1]? = some (some (.ref B))) (e3 : σ[3]? = some (some (.ref pl))) (e4 : σ[4]? = some (some (.ref S))) (k : ∀ S' s' H2, TI H d pl b (vs ++ [.ref L]) ls S' s' n (m + 5) H2 → D.nx (σ.set 4 (some (.ref S'))) H2) :
    tAsg (tOp (rIxL K) (tCall spLine [] E (tCons (tVar 1) (tCons (tVar 4) (tCons (tOp (rIxL K) (tVar 3) (tUn (rU fun i => V.int (-i)) (tC (V.int 1)))) tNil)))) (tC (V.int 1))) (gName 4) D σ H' := by
  refine r_asg (r_op (r_call (r_cons (r_var e1 (r_cons (r_var e4 (r_cons ?_)))))))
  refine ev_lastRef (K := K) (ev_var e3) h.lines H' (Ex.refl _) _ fun H1 x1 => ?_
  have h1 := h.ex x1
  have xb : ExtN [pl, d] H H1 := ExtN.of_ext (.tail _ (.head _)) h1.ext
  refine r_nil ⟨[pl, d], B, S, L, b, s, l, rfl, hb.mono xb, ho, h1.state, h1.ok, hL.mono (ExtN.of_same x1), g.ok, g.ws, Nat.le_trans g.len (by decide), by have := h1.np; omega, h1.some, fun tp S' r f s' re H2 s2 f2 h2 _ _ _ hs' so' hl' => ?_⟩
  refine r_c (r_ixL h2 (L2.atI_nat (j := 1) rfl) (r_name ?_))
  have h3 := h1.ex s2
  refine k S' s' H2 ⟨h3.lines, h3.at_, h3.nl, hs', so', ?_, h3.ext, h3.dice, h3.free, h3.ne⟩
  have := h1.np
  have := g.len
  omega
theorem ok_good_text (T : Txt K mg) : FnOk P w K mg base CX0 6 T.f_good_text T.fd_good_text ["_law_dice_here", "_law_book_here", "_law_size"] spGT := by
  refine T.F_good_text.ok sc_good_text (fun vs H Q E h => ?_) (fun cdv A outer s H vs Q E hr h => ?_)
  · obtain ⟨d, B, b, rfl, _⟩ := h
    rfl
  · obtain ⟨d, B, b, rfl, hd, hb, ho, q⟩ := h
    refine ⟨_, (pss_cons (ps_par (i := 3) (j := 4) rfl sc_good_text.nd rfl rfl (by decide) rfl rfl (pa_cons (pe_lst pa_nil) (pa_cons (pe_lst (pa_cons (pe_lst pa_nil) (pa_cons pe_str pa_nil))) pa_nil)) (by rfl))
      (pss_cons (ps_for PassesOwn.never rfl (pi_range1 (by rfl) T.z_range (pa_cons (pv 2) pa_nil)) (pg_name (i := 5) sc_good_text.nd rfl (.inl rfl)) (pss_one (ps_if (pt_cmpR op_lt (pe_op op_add (pe_callB (c_len (K := K)) (by rfl) T.z_len (by decide +kernel) (pa_cons (pv 3) pa_nil)) (pe_callB (c_len (K := K)) (by rfl) T.z_len (by decide +kernel) (pa_cons (pe_lc (own := [("_law_block", 6)]) rfl sc_good_text.nd (p_list (K := K) (pe_ix (i_list (K := K)) (pv 4) pe_int (fun _ _ => rfl))) (blkOk_by (own := [("_law_block", 6)]) (N := ["_law_dice_here", "_law_book_here", "_law_size", "_law_lines", "_law_state", "_law_turn", "_law_block"]) (sc := (defScope s_good_text)) (by decide +kernel)) (fun _ _ _ _ _ => (pg_name (i := 6) sc_good_text.nd rfl (.inl rfl))) (fun _ _ _ _ _ => (pts_one (pt_cmpR op_lt (pe_ix (i_tup (K := K)) (pv 6) pe_int (fun _ _ => rfl)) pe_int (nomark _)))) (fun _ _ _ _ _ => (pv 6))) pa_nil))) pe_int (nomark _)) (pss_cons (ps_expr (e_bm (K := K) PySem.F.plainAttrs_list PySem.F.slot_list_append PySem.F.type_list_append mt_append (pv 3) (pa_cons (pe_call (ok_good_line T) (hr.mono (by decide)) (by rfl) T.g_good_line T.F_good_line.kp T.b_good_line .nil pass0 (pa_cons (pv 0) (pa_cons (pv 1) (pa_cons (pv 4) pa_nil)))) pa_nil)))
      (pss_one (ps_set (i := 4) sc_good_text.nd rfl (.inl rfl) (pe_ix (i_list (K := K)) (pe_call (ok_line T) (hr.mono (by decide)) (by rfl) T.g_line T.F_line.kp T.b_line .nil pass0 (pa_cons (pv 1) (pa_cons (pv 4) (pa_cons (pe_ix (i_list (K := K)) (pv 3) (pe_un un_neg pe_int) (fun _ _ => rfl)) pa_nil)))) pe_int (fun _ _ => rfl))))) pss_nil)))
      (pss_cons (ps_if (pt_cmpR op_ne (pe_ix (i_list (K := K)) (pv 4) pe_int (fun _ _ => rfl)) pe_str (nomark _)) (pss_cons (ps_expr (e_bm (K := K) PySem.F.plainAttrs_list PySem.F.slot_list_append PySem.F.type_list_append mt_append (pv 3) (pa_cons (pe_call (ok_filling T) (hr.mono (by decide)) (by rfl) T.g_filling T.F_filling.kp T.b_filling .nil pass0 (pa_cons (pv 4) pa_nil)) pa_nil)))
      (pss_one (ps_set (i := 4) sc_good_text.nd rfl (.inl rfl) (pe_ix (i_list (K := K)) (pe_call (ok_line T) (hr.mono (by decide)) (by rfl) T.g_line T.F_line.kp T.b_line .nil pass0 (pa_cons (pv 1) (pa_cons (pv 4) (pa_cons (pe_ix (i_list (K := K)) (pv 3) (pe_un un_neg pe_int) (fun _ _ => rfl)) pa_nil)))) pe_int (fun _ _ => rfl))))) pss_nil)
      (pss_cons (ps_for PassesOwn.never rfl (p_list (K := K) (pe_revL (pe_lc (own := [("_law_block", 6)]) rfl sc_good_text.nd (p_list (K := K) (pe_ix (i_list (K := K)) (pv 4) pe_int (fun _ _ => rfl))) (blkOk_by (own := [("_law_block", 6)]) (N := ["_law_dice_here", "_law_book_here", "_law_size", "_law_lines", "_law_state", "_law_turn", "_law_block"]) (sc := (defScope s_good_text)) (by decide +kernel)) (fun _ _ _ _ _ => (pg_name (i := 6) sc_good_text.nd rfl (.inl rfl))) (fun _ _ _ _ _ => (pts_one (pt_cmpR op_lt (pe_ix (i_tup (K := K)) (pv 6) pe_int (fun _ _ => rfl)) pe_int (nomark _)))) (fun _ _ _ _ _ => (pv 6))))) (pg_name (i := 6) sc_good_text.nd rfl (.inl rfl)) (pss_one (ps_expr (e_bm (K := K) PySem.F.plainAttrs_list PySem.F.slot_list_append PySem.F.type_list_append mt_append (pv 3) (pa_cons (pe_tup (pa_cons pe_int (pa_cons (pe_tup (pa_cons (pe_dget (hu_of hr) (pe_dget (hu_of hr) (pv 1) pe_str (fun _ _ => rfl)) (pe_ix (i_tup (K := K)) (pv 6) pe_int (fun _ _ => rfl)) (fun _ _ => rfl)) pa_nil)) pa_nil))) pa_nil)))))
      (pss_one (ps_ret (pv 3))))))), ?_⟩
    walk_at "zrd"
    refine ⟨by walk_at "zsz", fun pl f0 => ?_⟩
    walk_at "zrd"
    refine ⟨by walk_at "zsz", fun e0 f1 => ?_⟩
    walk_at "zrd"
    refine ⟨by walk_at "zsz", fun S0 f2 => ?_⟩
    walk_at "zrd"
    refine r_par2 ?_
    have hI : TI H d pl b [] [] S0 ⟨[], ""⟩ 0 0 (upd (upd (upd H pl (.lst [])) e0 (.lst [])) S0 (.lst [.ref e0, .str ""])) := by
      have g1 := same_upd (o := .lst [.ref e0, .str ""]) f2 _ _ (upd_same (H := upd H pl (.lst [])) (a := e0) (o := .lst []))
      have g0 := same_upd (o := .lst [.ref e0, .str ""]) f2 _ _ (same_upd (o := .lst []) f1 _ _ (upd_same (H := H) (a := pl) (o := .lst [])))
      have npe : pl ≠ e0 := ne_of_none upd_same f1
      have npS : pl ≠ S0 := ne_of_none (same_upd (o := .lst []) f1 _ _ (upd_same (H := H) (a := pl) (o := .lst []))) f2
      have d1 := hd.new (o := .lst []) f0
      have d2 := d1.new (o := .lst []) f1
      refine ⟨g0, .nil, Nat.le_refl _, ⟨⟨e0, [], upd_same, g1, .nil, fun z => ?_⟩, fun z => ?_⟩, ⟨(fun _ z => nomatch z), .inl rfl⟩, Nat.le_refl _, (((Ext.refl d H).trans (.new f0)).trans (.new f1)).trans (.new f2), d2.new f2, f0, hd.ne f0⟩
      · rcases List.mem_cons.mp z with z | z
        · exact npe z.symm
        · exact d1.ne f1 (List.mem_singleton.mp z)
      · rcases List.mem_cons.mp z with z | z
        · exact npS z.symm
        · exact d2.ne f2 (List.mem_singleton.mp z)
    have hbN : BookAt [pl, d] H B b := hb.more f0
    generalize upd (upd (upd H pl (.lst [])) e0 (.lst [])) S0 (.lst [.ref e0, .str ""]) = H0 at hI
    clear f0 f1 f2
    walk_at "zrd"
    refine r_rng1j (by decide) (by decide) ?_
    refine forB walk_range (fun i σ H' => ∃ vs ls S s y5 y6, σ = [some (.ref d), some (.ref B), some (.int 6), some (.ref pl), some (.ref S), y5, y6] ∧ TI H d pl b vs ls S s i (5 * i) H') ⟨_, _, _, _, _, _, rfl, hI⟩ (fun _ _ _ _ _ => trivial) (fun i x σ H3 H4 hi hP hy => ?_) (fun σ H3 hP => ?_)
    · obtain ⟨rfl, rfl⟩ := hy
      obtain ⟨vs, ls, S, s, y5, y6, rfl, hI⟩ := hP
      refine r_name ?_
      dsimp only
      obtain ⟨⟨pa, xs, s1, s2, s3, m1⟩, m0⟩ := id hI.state
      have h6 : i < 6 := hi
      have hvl := hI.at_.len
      have hnl := hI.nl
      obtain ⟨ys, q1, hys, hq1, hq2, hq3⟩ := el_flt (K := K) (N := [pl, d]) (a := pa) (tl := tOp (rIxL K) (tVar 4) (tC (.int 0))) (tt := tTest (tOp (rI0 fun i j => V.bl (decide (i < j))) (tOp (rIxT K) (tVar 6) (tC (V.int 0))) (tC (V.int 0)))) (j := 6) (vs := [6]) (H := H4)
          (σ := [some (.ref d), some (.ref B), some (.int 6), some (.ref pl), some (.ref S), some (.int (0 + (i : Int))), y6]) (fun c => decide (c < 0)) (ev_op (ev_var rfl) ev_c (rv_ixL (sq_of s1) rfl)) s2 s3 (by have := hI.np; omega) (fun _ => rfl) (fun _ => rfl) (fun t c w H1 h => et_test (ev_op (ev_col (ev_var rfl) h) ev_c rv_I0))
      refine s_when (b := decide (((vs.length : Int) + (ys.length : Int)) < 24)) (et_test (ev_op (ev_op (ev_len (ev_var rfl) (sq_of hI.lines)) (ev_lenN hys) rv_I0) ev_c rv_I0)) (fun hb1 H5 e5 => ?_) (fun hb1 H5 e5 => ?_)
      · have h5 := hI.ex e5
        have xb : ExtN [pl, d] H H5 := ExtN.of_ext (.tail _ (.head _)) h5.ext
        refine r_seq (r_drop (r_bm (r_var rfl (r_tyL h5.lines (r_cons (r_call (r_cons (r_var rfl (r_cons (r_var rfl (r_cons (r_var rfl (r_nil ?_)))))))))))))
        have sb : ∀ a, a ∈ [d] → a ∈ [pl, d] := fun a ha => .tail _ ha
        refine ⟨d, B, S, b, s, rfl, h5.dice, hb.mono (ExtN.of_ext (.head _) h5.ext), ho, h5.state.sub sb, h5.ok, by have := h5.np; omega, fun L l H6 e6 d6 hL hG => ?_⟩
        have h6 := h5.ext' e6 d6
        refine r_nil (r_append h6.lines (sz_lt (by omega)) ?_)
        dsimp only
        exact gt_step (h6.app hL hG) hbN ho ((hL.off h6.lines).lst h6.lines) hG (by omega) rfl rfl rfl fun S' s' H7 h7 => ⟨_, _, _, _, _, _, rfl, h7.wk (Nat.le_refl _) (by omega)⟩
      · exact ⟨_, _, _, _, _, _, rfl, (hI.ex e5).wk (by omega) (by omega)⟩
    · obtain ⟨vs, ls, S, s, y5, y6, rfl, hI⟩ := hP
      have hI : TI H d pl b vs ls S s 6 30 H3 := hI
      dsimp only
      refine r_seqJ (fun σ H' => ∃ vs ls S s, σ = [some (.ref d), some (.ref B), some (.int 6), some (.ref pl), some (.ref S), y5, y6] ∧ TI H d pl b vs ls S s 7 35 H') (fun σ H4 hC => ?_) (fun key => ?_)
      · obtain ⟨vs, ls, S, s, rfl, hI⟩ := hC
        obtain ⟨⟨pa, xs, s1, s2, s3, m1⟩, m0⟩ := id hI.state
        obtain ⟨ys, q1, hys, hq1, hq2, hq3⟩ := el_flt (K := K) (N := [pl, d]) (a := pa) (tl := tOp (rIxL K) (tVar 4) (tC (.int 0))) (tt := tTest (tOp (rI0 fun i j => V.bl (decide (i < j))) (tOp (rIxT K) (tVar 6) (tC (V.int 0))) (tC (V.int 0)))) (j := 6) (vs := [6]) (H := H4)
          (σ := [some (.ref d), some (.ref B), some (.int 6), some (.ref pl), some (.ref S), y5, y6]) (fun c => decide (c < 0)) (ev_op (ev_var rfl) ev_c (rv_ixL (sq_of s1) rfl)) s2 s3 (by have := hI.np; omega) (fun _ => rfl) (fun _ => rfl) (fun t c w H1 h => et_test (ev_op (ev_col (ev_var rfl) h) ev_c rv_I0))
        have hz : ys.length ≤ 35 := by
          have := hI.np
          rw [hq1.len]
          omega
        have hrev : EvL (tRevL K (tLc (iList K (tOp (rIxL K) (tVar 4) (tC (.int 0)))) (gName 6) (tTest (tOp (rI0 fun i j => V.bl (decide (i < j))) (tOp (rIxT K) (tVar 6) (tC (V.int 0))) (tC (V.int 0)))) (tVar 6) [6])) [some (.ref d), some (.ref B), some (.int 6), some (.ref pl), some (.ref S), y5, y6] H4 ys.reverse :=
          fun H1 e Q' k => hys H1 e _ fun p H2 _ e2 hp => ⟨p, ys, rfl, sq_of hp, fun l hl => k l _ (fresh_back e2 hl) (e2.trans (Ex.new hl)) upd_same⟩
        refine q_forNLn hrev (fun p i σ' H' => ∃ vs ls y6, σ' = [some (.ref d), some (.ref B), some (.int 6), some (.ref pl), some (.ref S), y5, y6] ∧ TI H d pl b vs ls S s (7 + i) 35 H' ∧ H' p = some (.lst ys.reverse) ∧ p ≠ pl ∧ PileAt [pl, d] H' ys q1)
          (fun p H5 fp e5 hp => ⟨_, _, _, rfl, hI.ex e5, hp, (ne_of_none hI.lines fp).symm, hq1.exx e5⟩) (fun p i σ' H' _ hP => by obtain ⟨_, _, _, _, _, h, _⟩ := hP; exact sq_of h) (fun p i x σ' H5 hx hP => ?_) (fun p σ' H5 hP => ?_)
        · obtain ⟨vs, ls, y6, rfl, hI5, hp5, npl, hq5⟩ := hP
          have hmem : x ∈ ys := List.mem_reverse.mp (List.mem_of_getElem? hx)
          have hil : i < 35 := by
            have := (List.getElem?_eq_some_iff.mp hx).1
            rw [List.length_reverse] at this
            omega
          obtain ⟨j, hj⟩ := List.getElem?_of_mem hmem
          obtain ⟨t, c, w, rfl, hqj, nt, ht⟩ := hq5.get hj
          obtain ⟨hcw, hcn⟩ := hq2 (c, w) (List.mem_of_getElem? hqj)
          have hcn : c < 0 := of_decide_eq_true hcn
          have hwb : w ∈ b.br.map (·.1) := by
            rcases hI.ok.pile (c, w) hcw with ⟨h0, _⟩ | ⟨_, h⟩
            · exact absurd h0 (by show ¬ (0 : Int) ≤ c; omega)
            · exact h
          obtain ⟨y, hy, rfl⟩ := List.mem_map.mp hwb
          have hlk : ∃ x, b.br.lookup y.1 = some x ∧ x ∈ allW := by
            have hl := lookup_some (w := y.1) (l := b.br)
            rw [decide_eq_true hwb] at hl
            cases hlk : b.br.lookup y.1 with
            | none => rw [hlk] at hl; cases hl
            | some x =>
              have hm := ho.brs _ (lookup_mem hlk)
              refine ⟨x, rfl, ?_⟩
              have h2 : x = clOf y.1 := hm.2
              rw [h2]
              exact (show ∀ w ∈ brW, clOf w ∈ allW by decide +kernel) _ hm.1
          obtain ⟨cl, hcl, hclw⟩ := hlk
          have hb5 := hbN.mono (ExtN.of_ext (.tail _ (.head _)) hI5.ext)
          obtain ⟨⟨o, e, r, kvs, h1, h2, h3, h4, h5, n1, n2, n3⟩, n⟩ := hb5
          refine r_drop (r_bm (r_var rfl (r_tyL hI5.lines (r_cons (r_tup (r_cons (r_c (r_cons ?_))))))))
          refine eu_tup0 (ea_cons (ev_dget (ev_dget (ev_var rfl) ev_c h1 bk_r) (ev_wrd (ev_var rfl) ht) h5 (by rw [strD_val, hcl]; rfl)) ea_nil) (by show 1 ≤ 1000; decide) H5 (Ex.refl _) _ fun ta H6 fta e6 hta => ?_
          have h6 := hI5.ex e6
          refine r_nil ⟨by walk_at "zsz", fun L fL => ?_⟩
          have h7 := h6.ex (Ex.new (o := .tup [.int 0, .ref ta]) fL)
          have hL : LineAt [d] (upd H6 L (.tup [.int 0, .ref ta])) L ⟨0, [cl]⟩ := ⟨⟨ta, upd_same, Ex.new fL _ _ hta, nin1 (hI5.dice.ne fta)⟩, nin1 (h6.dice.ne fL)⟩
          have hG : LGood ⟨0, [cl]⟩ := ⟨⟨Int.le_refl _, fun z => nomatch z⟩, fun u hu => by rw [List.mem_singleton.mp hu]; exact hclw, by show 1 ≤ 4; decide⟩
          refine r_nil (r_append h7.lines (sz_lt (by have := h7.nl; have := h7.at_.len; omega)) ?_)
          refine ⟨_, _, _, rfl, (h7.app hL hG).wk (Nat.le_refl _) (Nat.le_refl _), ?_, npl, (hq5.exx (e6.trans (Ex.new fL))).lst h7.lines⟩
          rw [upd_ne npl]
          exact Ex.new fL _ _ (e6 _ _ hp5)
        · obtain ⟨vs, ls, y6, rfl, hI5, hp5, npl, hq5⟩ := hP
          refine r_ret (r_var rfl ?_)
          have := hI5.nl
          rw [List.length_reverse] at this
          exact q pl ls vs H5 hI5.ext hI5.dice hI5.ne hI5.lines (hI5.at_.sub fun a ha => .tail _ ha) (by omega)
      · refine s_when (et_test (ev_neS (s := s.wait) ?_ ev_c)) (fun hb1 H5 e5 => ?_) (fun hb1 H5 e5 => ?_)
        · obtain ⟨⟨pa, xs, s1, s2, s3, m1⟩, m0⟩ := hI.state
          exact ev_op (ev_var rfl) ev_c (rv_ixL (sq_of s1) rfl)
        · have h5 := hI.ex e5
          refine r_seq (r_drop (r_bm (r_var rfl (r_tyL h5.lines (r_cons (r_call (r_cons (r_var rfl (r_nil ?_)))))))))
          refine ⟨[pl, d], S, b, s, rfl, h5.state, ho, h5.ok, h5.some, fun L l H6 e6 f6 hL hG => ?_⟩
          have h6 := h5.ex e6
          refine r_nil (r_append h6.lines (sz_lt (by have := h5.nl; have := h5.at_.len; omega)) ?_)
          dsimp only
          exact gt_step (h6.app (hL.sub fun a ha => .tail _ ha) hG) hbN ho (hL.lst h6.lines) hG (by omega) rfl rfl rfl fun S' s' H7 h7 => key _ _ ⟨_, _, _, _, rfl, h7⟩
        · exact key _ _ ⟨_, _, _, _, rfl, (hI.ex e5).wk (by omega) (by omega)⟩
end
end My

--CUT
namespace My
open PySem PySem.Spec PyProof.Rows L2 Evl
section
/-- tuples of signs -/
def PartsAt (H : Hp) (vs : List V) : Prop := ∀ v ∈ vs, ∃ (t : Addr) (f : List Str), v = .ref t ∧ H t = some (.tup (f.map V.str)) ∧ (∀ u ∈ f, u ∈ sgW) ∧ f.length ≤ 80000
theorem PartsAt.mono {H H' : Hp} {vs : List V} (h : PartsAt H vs) (e : ∀ t f, H t = some (.tup f) → H' t = some (.tup f)) : PartsAt H' vs := fun v hv => by
  obtain ⟨t, f, h1, h2, h3⟩ := h v hv
  exact ⟨t, f, h1, e _ _ h2, h3⟩
theorem PartsAt.app {H : Hp} {vs : List V} {t : Addr} {f : List Str} (h : PartsAt H vs) (ht : H t = some (.tup (f.map V.str))) (hf : ∀ u ∈ f, u ∈ sgW) (hl : f.length ≤ 80000) : PartsAt H (vs ++ [.ref t]) := fun v hv => by
  rcases List.mem_append.mp hv with z | z
  · exact h v z
  · exact ⟨t, f, List.mem_singleton.mp z, ht, hf, hl⟩
def rdD (pp ps : Addr) (x : V) : List (Key × V) := [(Sum.inr "parts", .ref pp), (Sum.inr "states", .ref ps), (Sum.inr "fault", x)]
theorem rd_p {pp ps : Addr} {x : V} : valV (rdD pp ps x) (Sum.inr "parts") = some (.ref pp) := by rfl
theorem rd_s {pp ps : Addr} {x : V} : valV (rdD pp ps x) (Sum.inr "states") = some (.ref ps) := by rfl
theorem rd_put {pp ps : Addr} {x y : V} : putK (rdD pp ps x) (Sum.inr "fault") y = rdD pp ps y := by rfl
theorem rd_merge {pp ps : Addr} {x : V} : mergeK [] (rdD pp ps x) = rdD pp ps x := by rfl
structure RI (H : Hp) (N : List Addr) (b : LB) (r pp ps : Addr) (x : V) (vs us : List V) (S : Addr) (s : LState) (n k m : Nat) (H' : Hp) : Prop where
  fD : H' r = some (.dK (rdD pp ps x))
  fP : H' pp = some (.lst vs)
  fQ : H' ps = some (.lst (us ++ [.ref S]))
  parts : PartsAt H' vs
  state : StateAt (pp :: ps :: N) H' S s
  ok : s.Ok b
  np : s.pile.length ≤ m
  nv : vs.length ≤ n
  nu : us.length ≤ k
  same : Same H H'
  fr : H r = none
  fp : H pp = none
  fs : H ps = none
  nps : pp ≠ ps
  npr : pp ≠ r
  nsr : ps ≠ r
theorem RI.ex {H : Hp} {N : List Addr} {b : LB} {r pp ps : Addr} {x : V} {vs us : List V} {S : Addr} {s : LState} {n k m : Nat} {H' H2 : Hp} (h : RI H N b r pp ps x vs us S s n k m H') (e : Ex H' H2) : RI H N b r pp ps x vs us S s n k m H2 :=
  ⟨e _ _ h.fD, e _ _ h.fP, e _ _ h.fQ, h.parts.mono fun t f g => e _ _ g, h.state.mono (ExtN.of_same e), h.ok, h.np, h.nv, h.nu, h.same.trans e, h.fr, h.fp, h.fs, h.nps, h.npr, h.nsr⟩
theorem RI.appP {H : Hp} {N : List Addr} {b : LB} {r pp ps : Addr} {x : V} {vs us : List V} {S : Addr} {s : LState} {n k m : Nat} {H' : Hp} {t : Addr} {f : List Str} (h : RI H N b r pp ps x vs us S s n k m H') (ht : H' t = some (.tup (f.map V.str))) (hf : ∀ u ∈ f, u ∈ sgW) (hl : f.length ≤ 80000) :
    RI H N b r pp ps x (vs ++ [.ref t]) us S s (n + 1) k m (upd H' pp (.lst (vs ++ [.ref t]))) :=
  ⟨by rw [upd_ne h.npr.symm]; exact h.fD, upd_same, by rw [upd_ne h.nps.symm]; exact h.fQ, (h.parts.app ht hf hl).mono fun t f g => by rw [upd_ne (ne_obj g h.fP (fun z => nomatch z))]; exact g,
    h.state.mono ((ExtN.refl _ _).at_ (.head _)), h.ok, h.np, by rw [List.length_append]; exact Nat.succ_le_succ h.nv, h.nu, Ex.mut h.same h.fp, h.fr, h.fp, h.fs, h.nps, h.npr, h.nsr⟩
theorem RI.appS {H : Hp} {N : List Addr} {b : LB} {r pp ps : Addr} {x : V} {vs us : List V} {S S' : Addr} {s s' : LState} {n k m m' : Nat} {H' : Hp} (h : RI H N b r pp ps x vs us S s n k m H') (hs : StateAt (pp :: ps :: N) H' S' s') (so : s'.Ok b) (hm : s'.pile.length ≤ m') :
    RI H N b r pp ps x vs (us ++ [.ref S]) S' s' n (k + 1) m' (upd H' ps (.lst (us ++ [.ref S] ++ [.ref S']))) :=
  ⟨by rw [upd_ne h.nsr.symm]; exact h.fD, by rw [upd_ne h.nps]; exact h.fP, upd_same, h.parts.mono fun t f g => by rw [upd_ne (ne_obj g h.fQ (fun z => nomatch z))]; exact g,
    hs.mono ((ExtN.refl _ _).at_ (.tail _ (.head _))), so, hm, h.nv, by rw [List.length_append]; exact Nat.succ_le_succ h.nu, Ex.mut h.same h.fs, h.fr, h.fp, h.fs, h.nps, h.npr, h.nsr⟩
theorem RI.some {H : Hp} {N : List Addr} {b : LB} {r pp ps : Addr} {x : V} {vs us : List V} {S : Addr} {s : LState} {n k m : Nat} {H' : Hp} (h : RI H N b r pp ps x vs us S s n k m H') (hN : ∀ a ∈ N, H a ≠ none) : ∀ a ∈ pp :: ps :: N, H' a ≠ none := fun a ha => by
  rcases List.mem_cons.mp ha with rfl | ha
  · rw [h.fP]
    exact fun z => nomatch z
  · rcases List.mem_cons.mp ha with rfl | ha
    · rw [h.fQ]
      exact fun z => nomatch z
    · exact fun z => hN a ha (fresh_back h.same z)
end
section
variable {P : Program} {w : World} {K : PySem.W.Frag} {mg : Str → Option Value} {base : Heap}
/-! ### _law_read -/
def spRead : Sp := fun vs H Q _ => ∃ (N : List Addr) (B p : Addr) (b : LB) (vs' : List V) (ls : List LLine), vs = [.ref B, .ref p] ∧ BookAt N H B b ∧ b.Ok ∧ H p = some (.lst vs') ∧ LinesAt N H vs' ls ∧ ls.length ≤ 150 ∧ (∀ a ∈ N, H a ≠ none) ∧
  ∀ (r pp ps : Addr) (x : V) (us : List V) (H' : Hp), Same H H' → H' r = some (.dK (rdD pp ps x)) → H' pp = some (.lst us) → PartsAt H' us → Q (.ref r) H'
theorem ok_read (T : Txt K mg) : FnOk P w K mg base CX0 5 T.f_read T.fd_read ["_law_book_here", "_law_lines"] spRead := by
  refine T.F_read.ok sc_read (fun vs H Q E h => ?_) (fun cdv A outer s H vs Q E hr h => ?_)
  · obtain ⟨N, B, p, b, vs', ls, rfl, _⟩ := h
    rfl
  · obtain ⟨N, B, p, b, vs', ls, rfl, hb, ho, hp, hls, hll, hN, q⟩ := h
    refine ⟨_, (pss_cons (ps_set (i := 2) sc_read.nd rfl (.inl rfl) (pe_disp (pps_cons pe_str (pe_lst pa_nil) (pps_cons pe_str (pe_lst (pa_cons (pe_lst (pa_cons (pe_lst pa_nil) (pa_cons pe_str pa_nil))) pa_nil)) (pps_cons pe_str pe_non pps_nil))) (by rfl) (by rfl) (fun z => by cases z) (by decide)))
      (pss_cons (ps_for PassesOwn.never rfl (pi_range1 (by rfl) T.z_range (pa_cons (pe_callB (c_len (K := K)) (by rfl) T.z_len (by decide +kernel) (pa_cons (pv 1) pa_nil)) pa_nil)) (pg_name (i := 3) sc_read.nd rfl (.inl rfl)) (pss_cons (ps_asg (pe_call (ok_line T) (hr.mono (by decide)) (by rfl) T.g_line T.F_line.kp T.b_line .nil pass0 (pa_cons (pv 0) (pa_cons (pe_ix (i_list (K := K)) (pe_dget (hu_of hr) (pv 2) pe_str (fun _ _ => rfl)) (pe_un un_neg pe_int) (fun _ _ => rfl)) (pa_cons (pe_ix (i_list (K := K)) (pv 1) (pv 3) (fun _ _ => rfl)) pa_nil)))) (pg_unl (by rfl) (pgs_cons (pg_name (i := 4) sc_read.nd rfl (.inl rfl)) (pgs_cons (pg_name (i := 5) sc_read.nd rfl (.inl rfl)) (pgs_cons (pg_name (i := 6) sc_read.nd rfl (.inl rfl)) pgs_nil)))))
      (pss_cons (ps_if (pt_cmpR op_ne (pv 6) pe_str (nomark _)) (pss_cons (ps_dput (hu_of hr) (pv 2) pe_str (pe_tup (pa_cons (pv 3) (pa_cons (pv 6) pa_nil))) rfl)
      (pss_one (ps_ret (pv 2)))) pss_nil)
      (pss_cons (ps_expr (e_bm (K := K) PySem.F.plainAttrs_list PySem.F.slot_list_append PySem.F.type_list_append mt_append (pe_dget (hu_of hr) (pv 2) pe_str (fun _ _ => rfl)) (pa_cons (pv 4) pa_nil)))
      (pss_one (ps_expr (e_bm (K := K) PySem.F.plainAttrs_list PySem.F.slot_list_append PySem.F.type_list_append mt_append (pe_dget (hu_of hr) (pv 2) pe_str (fun _ _ => rfl)) (pa_cons (pv 5) pa_nil))))))))
      (pss_cons (ps_asg (pe_call (ok_end T) (hr.mono (by decide)) (by rfl) T.g_end T.F_end.kp T.b_end .nil pass0 (pa_cons (pv 0) (pa_cons (pe_ix (i_list (K := K)) (pe_dget (hu_of hr) (pv 2) pe_str (fun _ _ => rfl)) (pe_un un_neg pe_int) (fun _ _ => rfl)) pa_nil))) (pg_unl (by rfl) (pgs_cons (pg_name (i := 4) sc_read.nd rfl (.inl rfl)) (pgs_cons (pg_name (i := 6) sc_read.nd rfl (.inl rfl)) pgs_nil))))
      (pss_cons (ps_if (pt_cmpR op_ne (pv 6) pe_str (nomark _)) (pss_one (ps_dput (hu_of hr) (pv 2) pe_str (pe_tup (pa_cons (pe_callB (c_len (K := K)) (by rfl) T.z_len (by decide +kernel) (pa_cons (pv 1) pa_nil)) (pa_cons (pv 6) pa_nil))) rfl)) (pss_one (ps_expr (e_bm (K := K) PySem.F.plainAttrs_list PySem.F.slot_list_append PySem.F.type_list_append mt_append (pe_dget (hu_of hr) (pv 2) pe_str (fun _ _ => rfl)) (pa_cons (pv 4) pa_nil)))))
      (pss_one (ps_ret (pv 2))))))), ?_⟩
    refine r_seq (r_asg ?_)
    refine r_disp (fun r fr => ?_)
    walk_at "zrd"
    refine ⟨by walk_at "zsz", fun pp fp => ?_⟩
    walk_at "zrd"
    refine ⟨by walk_at "zsz", fun e0 fe => ?_⟩
    walk_at "zrd"
    refine ⟨by walk_at "zsz", fun S0 fS => ?_⟩
    walk_at "zrd"
    refine ⟨by walk_at "zsz", fun ps fs => ?_⟩
    walk_at "zrd"
    have x1 : Ex H (upd H r (.dK [])) := Ex.new fr
    have x2 := Ex.new (o := .lst []) fp
    have x3 := Ex.new (o := .lst []) fe
    have x4 := Ex.new (o := .lst [.ref e0, .str ""]) fS
    have x5 := Ex.new (o := .lst [.ref S0]) fs
    have r1 : (upd H r (.dK [])) r = some (.dK []) := upd_same
    have p2 := upd_same (H := upd H r (.dK [])) (a := pp) (o := .lst [])
    have e3 := upd_same (H := upd (upd H r (.dK [])) pp (.lst [])) (a := e0) (o := .lst [])
    have s4 := upd_same (H := upd (upd (upd H r (.dK [])) pp (.lst [])) e0 (.lst [])) (a := S0) (o := .lst [.ref e0, .str ""])
    have s5 := upd_same (H := upd (upd (upd (upd H r (.dK [])) pp (.lst [])) e0 (.lst [])) S0 (.lst [.ref e0, .str ""])) (a := ps) (o := .lst [.ref S0])
    refine ⟨x5 _ _ (x4 _ _ (x3 _ _ (x2 _ _ r1))), rdD pp ps .non, rfl, by show 3 ≤ 15; decide, ?_⟩
    rw [rd_merge]
    have hI : RI H N b r pp ps .non [] [] S0 ⟨[], ""⟩ 0 0 0 (upd (upd (upd (upd (upd (upd H r (.dK [])) pp (.lst [])) e0 (.lst [])) S0 (.lst [.ref e0, .str ""])) ps (.lst [.ref S0])) r (.dK (rdD pp ps .non))) := by
      have npr : pp ≠ r := (ne_of_none r1 fp).symm
      have ner : e0 ≠ r := (ne_of_none (x2 _ _ r1) fe).symm
      have nSr : S0 ≠ r := (ne_of_none (x3 _ _ (x2 _ _ r1)) fS).symm
      have nsr : ps ≠ r := (ne_of_none (x4 _ _ (x3 _ _ (x2 _ _ r1))) fs).symm
      have npe : pp ≠ e0 := ne_of_none p2 fe
      have npS : pp ≠ S0 := ne_of_none (x3 _ _ p2) fS
      have nps : pp ≠ ps := ne_of_none (x4 _ _ (x3 _ _ p2)) fs
      have nes : e0 ≠ ps := ne_of_none (x4 _ _ e3) fs
      have nSs : S0 ≠ ps := ne_of_none s4 fs
      have fpH := fresh_back x1 fp
      have feH := fresh_back (x1.trans x2) fe
      have fSH := fresh_back ((x1.trans x2).trans x3) fS
      refine ⟨upd_same, by rw [upd_ne npr]; exact x5 _ _ (x4 _ _ (x3 _ _ p2)), by rw [upd_ne nsr]; exact s5, fun _ z => (nomatch z), ⟨⟨e0, [], by rw [upd_ne nSr]; exact x5 _ _ s4, by rw [upd_ne ner]; exact x5 _ _ (x4 _ _ e3), .nil, fun z => ?_⟩, fun z => ?_⟩,
        ⟨(fun _ z => nomatch z), .inl rfl⟩, Nat.le_refl _, Nat.le_refl _, Nat.le_refl _, Ex.mut ((((x1.trans x2).trans x3).trans x4).trans x5) fr, fr, fpH, fresh_back (((x1.trans x2).trans x3).trans x4) fs, nps, npr, nsr⟩
      · rcases List.mem_cons.mp z with z | z
        · exact npe z.symm
        · rcases List.mem_cons.mp z with z | z
          · exact nes z
          · exact hN _ z feH
      · rcases List.mem_cons.mp z with z | z
        · exact npS z.symm
        · rcases List.mem_cons.mp z with z | z
          · exact nSs z
          · exact hN _ z fSH
    generalize upd (upd (upd (upd (upd (upd H r (.dK [])) pp (.lst [])) e0 (.lst [])) S0 (.lst [.ref e0, .str ""])) ps (.lst [.ref S0])) r (.dK (rdD pp ps .non)) = H0 at hI
    clear x1 x2 x3 x4 x5 r1 p2 e3 s4 s5 fS fs fe fp fr
    have hvl := hls.len
    refine r_name ?_
    dsimp only
    refine q_forR1 (n := (vs'.length : Int)) (ea_cons (ev_len (ev_var rfl) (sq_of (hI.same _ _ hp))) ea_nil) (by omega) (fun i σ' H' => ∃ vs us S s y3 y4 y5 y6, σ' = [some (.ref B), some (.ref p), some (.ref r), y3, y4, y5, y6] ∧ RI H N b r pp ps .non vs us S s i i (5 * i) H')
      (fun H1 e1 => ⟨_, _, _, _, _, _, _, _, rfl, hI.ex e1⟩) (fun i σ' H' hi hP => ?_) (fun σ' H' hP => ?_)
    · obtain ⟨vs, us, S, s, y3, y4, y5, y6, rfl, hI⟩ := hP
      have hi2 : i < vs'.length := by omega
      obtain ⟨L, l, hL, hLA, hG⟩ := hls.get hi2
      refine r_seq (r_asg (r_call (r_cons (r_var rfl (r_cons ?_)))))
      refine ev_lastRef (K := K) (ev_dget (ev_var rfl) ev_c hI.fD rd_s) hI.fQ H' (Ex.refl _) _ fun H1 e1 => ?_
      have h1 := hI.ex e1
      refine r_cons (r_op (r_var rfl (r_var rfl (r_ixL (h1.same _ _ hp) (L2.atI_nat hL) (r_nil ?_)))))
      refine ⟨pp :: ps :: N, B, S, L, b, s, l, rfl, ((hb.more h1.fs).more h1.fp).mono (ExtN.of_same h1.same), ho, h1.state, h1.ok, ((hLA.more h1.fs).more h1.fp).mono (ExtN.of_same h1.same), hG.ok, hG.ws, Nat.le_trans hG.len (by decide), by have := h1.np; omega, h1.some hN, fun tp S' rr f s' re H2 s2 f2 h2 htp hf hfl hs' so' hl' => ?_⟩
      refine r_unl3 h2 ?_
      dsimp only
      have h2 := h1.ex s2
      refine q_when (et_test (ev_neS (ev_var rfl) ev_c)) (fun hb1 H3 e3 => ?_) (fun hb1 H3 e3 => ?_)
      · have h3 := h2.ex e3
        refine r_seq (r_dput (r_tup (r_cons (r_var rfl (r_cons (r_var rfl (r_nil ⟨by walk_at "zsz", fun pt ft => ?_⟩)))))))
        have h4 := h3.ex (Ex.new (o := .tup [.int (i : Int), .str re]) ft)
        refine r_var rfl (r_c (r_dputS h4.fD (by show 3 < sizeLine; decide) ?_))
        rw [rd_put]
        refine r_ret (r_var rfl ?_)
        exact q r pp ps (.ref pt) vs _ (Ex.mut h4.same h4.fr) upd_same (by rw [upd_ne h4.npr]; exact h4.fP) (h4.parts.mono fun t f g => by rw [upd_ne (ne_obj g h4.fD (fun z => nomatch z))]; exact g)
      · have h3 := h2.ex e3
        refine q_app h3.fP (ev_dget (ev_var rfl) ev_c h3.fD rd_p) (ev_var rfl) (by have := h3.nv; omega) fun H4 e4 => ?_
        have h5 := (h3.ex e4).appP (e4 _ _ (e3 _ _ htp)) hf hfl
        refine s_app h5.fQ (ev_dget (ev_var rfl) ev_c h5.fD rd_s) (ev_var rfl) (by have := h5.nu; rw [List.length_append]; show us.length + 1 < _; omega) fun H6 e6 => ?_
        have hs6 : StateAt (pp :: ps :: N) H6 S' s' := (((hs'.mono (ExtN.of_same e3)).mono (ExtN.of_same e4)).mono ((ExtN.refl _ _).at_ (.head _))).mono (ExtN.of_same e6)
        exact ⟨_, _, _, _, _, _, _, _, rfl, (h5.ex e6).appS hs6 so' (by have := hI.np; have := hG.len; omega)⟩
    · obtain ⟨vs, us, S, s, y3, y4, y5, y6, rfl, hI⟩ := hP
      have hnp := hI.np
      have hnv := hI.nv
      refine r_seq (r_asg (r_call (r_cons (r_var rfl (r_cons ?_)))))
      refine ev_lastRef (K := K) (ev_dget (ev_var rfl) ev_c hI.fD rd_s) hI.fQ H' (Ex.refl _) _ fun H1 e1 => ?_
      have h1 := hI.ex e1
      refine r_nil ⟨pp :: ps :: N, B, S, b, s, rfl, ((hb.more h1.fs).more h1.fp).mono (ExtN.of_same h1.same), ho, h1.state, h1.ok, by omega, fun tp rr f re H2 s2 h2 htp hf hfl => ?_⟩
      refine r_unl2 h2 ?_
      dsimp only
      have h2 := h1.ex s2
      refine r_seqJ (fun σ H' => ∃ x us y3 y4 y5 y6, σ = [some (.ref B), some (.ref p), some (.ref r), y3, y4, y5, y6] ∧ H' r = some (.dK (rdD pp ps x)) ∧ H' pp = some (.lst us) ∧ PartsAt H' us ∧ Same H H') (fun σ H3 hC => ?_) (fun key => ?_)
      · obtain ⟨x, us, z3, z4, z5, z6, rfl, g1, g2, g3, g4⟩ := hC
        exact r_ret (r_var rfl (q r pp ps x us H3 g4 g1 g2 g3))
      · refine s_if (et_test (ev_neS (ev_var rfl) ev_c)) (fun hb1 H3 e3 => ?_) (fun hb1 H3 e3 => ?_)
        · have h3 := h2.ex e3
          refine r_dput (r_tup (r_cons ?_))
          refine ev_len (ev_var rfl) (sq_of (h3.same _ _ hp)) H3 (Ex.refl _) _ fun H4 e4 => ?_
          have h4 := h3.ex e4
          refine r_cons (r_var rfl (r_nil ⟨by walk_at "zsz", fun pt ft => ?_⟩))
          have h5 := h4.ex (Ex.new (o := .tup [.int (vs'.length : Int), .str re]) ft)
          refine r_var rfl (r_c (r_dputS h5.fD (by show 3 < sizeLine; decide) ?_))
          rw [rd_put]
          exact key _ _ ⟨.ref pt, vs, _, _, _, _, rfl, upd_same, by rw [upd_ne h5.npr]; exact h5.fP, h5.parts.mono fun t f g => by rw [upd_ne (ne_obj g h5.fD (fun z => nomatch z))]; exact g, Ex.mut h5.same h5.fr⟩
        · have h3 := h2.ex e3
          refine s_app h3.fP (ev_dget (ev_var rfl) ev_c h3.fD rd_p) (ev_var rfl) (by omega) fun H4 e4 => ?_
          have h5 := (h3.ex e4).appP (e4 _ _ (e3 _ _ htp)) hf hfl
          exact key _ _ ⟨_, _, _, _, _, _, rfl, h5.fD, h5.fP, h5.parts, h5.same⟩
end
end My

--CUT
namespace My
open PySem PySem.Spec PyProof.Rows L2
section
variable {P : Program} {w : World} {K : PySem.W.Frag} {mg : Str → Option Value} {base : Heap}
/-! ### is_word -/
def spWord : Sp := fun vs H Q _ => ∃ v : V, vs = [v] ∧ KindV H v ∧ Q (.bl (isWV v)) H
theorem ok_is_word (T : Txt K mg) : FnOk P w K mg base CX0 1 T.f_is_word T.fd_is_word ["value"] spWord := by
  refine T.F_is_word.ok sc_is_word (fun vs H Q E h => ?_) (fun cdv A outer s H vs Q E hr h => ?_)
  · obtain ⟨v, rfl, _⟩ := h
    rfl
  · obtain ⟨v, rfl, hk, q⟩ := h
    refine ⟨_, (pss_cons (ps_if (PW.pt (pw_or (pt_not (pt_val (pe_callB (c_isi (K := K)) (by rfl) T.z_isinstance (by decide +kernel) (pa_cons (pv 0) (pa_cons (pe_bltn (v := .ty "str") (by rfl) T.z_str (by decide +kernel) rfl) pa_nil))))) (pw_or1 (pt_cmpR op_gt (pe_callB c_lenT (by rfl) T.z_len (by decide +kernel) (pa_cons (pv 0) pa_nil)) (pe_glob (v := .int (8)) rfl T.c_MAX_LETTERS ⟨_, rfl⟩) (nomark _))))) (pss_one (ps_ret pe_bl)) pss_nil)
      (pss_one (ps_ret (pe_and (e_bm0 (K := K) PySem.F.plainAttrs_str PySem.F.slot_str_isascii PySem.F.type_str_isascii c_isascii (pv 0)) (pe_and (e_bm0 (K := K) PySem.F.plainAttrs_str PySem.F.slot_str_isalpha PySem.F.type_str_isalpha c_isalpha (pv 0)) (pe_one (e_bm0 (K := K) PySem.F.plainAttrs_str PySem.F.slot_str_islower PySem.F.type_str_islower c_islower (pv 0)))))))), ?_⟩
    walk_at "zrd"
    refine hk.isi ?_
    cases hk with
    | @str s hs ha =>
      walk_at "zrd"
      refine r_lenT (Nat.le_trans hs (by decide)) ?_
      walk_at "zrd"
      have q : Q (.bl (isW s)) H := q
      refine ite2 (fun e => ?_) (fun e => ?_)
      · walk_at "zrd"
        have h8 : (8 : Int) < s.length := of_decide_eq_true e
        have : isW s = false := by
          unfold isW
          rw [show decide (s.length ≤ 8) = false from decide_eq_false (by omega), Bool.and_false, Bool.false_and]
        rw [this] at q
        exact q
      · have h8 : ¬ (8 : Int) < s.length := fun z => e (decide_eq_true z)
        have e8 : isW s = (Txt.isascii s && (Txt.isalpha s && Txt.islower s)) := by
          rw [word_signs]
          unfold isW
          rw [show decide (s.length ≤ 8) = true from decide_eq_true (by omega), Bool.and_true]
        rw [e8] at q
        walk_at "zrd"
        cases h1 : Txt.isascii s with
        | false =>
          rw [h1] at q
          exact iteF q
        | true =>
          rw [h1] at q
          walk_at "zrd"
          cases h2 : Txt.isalpha s with
          | false =>
            rw [h2] at q
            exact iteF q
          | true =>
            rw [h2] at q
            walk_at "zrd"
            exact q
    | _ =>
      walk_at "zrd"
      exact q
end
end My

namespace My
open PySem PySem.Spec PyProof.Rows L2 Evl
section
/-- a sign -/
def wrdD : PyData → Bool
  | .str s => isW s
  | _ => false
def sg3 : List PyData := [.str "{", .str "}", .str ";"]
def sgD (d : PyData) : Bool := wrdD d || sg3.any fun z => PyData.eqv z d
def sgsD : PyData → Bool
  | .tuple ds => ds.all sgD
  | _ => false
theorem Is.wrd {N : List Addr} {H : Hp} {v : V} {d : PyData} (h : Is N H v d) : isWV v = wrdD d := by
  cases h <;> rfl
def Fine (d : PyData) : Prop := d.hasDict = false ∧ SeqAt.shaped d = true
end
section
variable {P : Program} {w : World} {K : PySem.W.Frag} {mg : Str → Option Value} {base : Heap}
def spSign : Sp := fun vs H Q _ => ∃ (N : List Addr) (v : V) (d : PyData), vs = [v] ∧ Is N H v d ∧ Fine d ∧ ∀ H', Same H H' → Q (.bl (sgD d)) H'
theorem ok_is_sign (T : Txt K mg) : FnOk P w K mg base CX0 2 T.f_is_sign T.fd_is_sign ["value"] spSign := by
  refine T.F_is_sign.ok sc_is_sign (fun vs H Q E h => ?_) (fun cdv A outer s H vs Q E hr h => ?_)
  · obtain ⟨N, v, d, rfl, _⟩ := h
    rfl
  · obtain ⟨N, v, d, rfl, hd, hf, q⟩ := h
    refine ⟨_, (pss_one (ps_ret (pe_or (pe_call (ok_is_word T) (hr.mono (by decide)) (by rfl) T.g_is_word T.F_is_word.kp T.b_is_word .nil pass0 (pa_cons (pv 0) pa_nil)) (pe_one (pe_cmpR (o_inDT (K := K) (hu65 hr)) (pv 0) (pe_glob (v := .ref T.a_SIGNS) rfl T.c_SIGNS rfl) (by rfl)))))), ?_⟩
    refine r_ret (r_orV (r_call (r_cons (r_var rfl (r_nil ⟨v, rfl, hd.kind, isWV v, rfl, ?_⟩)))))
    have hq := q H (Same.refl H)
    unfold sgD at hq
    rw [hd.wrd]
    cases hw : wrdD d with
    | true =>
      rw [hw] at hq
      exact hq
    | false =>
      rw [hw] at hq
      refine iteF (r_op (r_var rfl (r_c ?_)))
      exact ⟨d, sg3, hd.dp hf.1, .tup (T.q_SIGNS _) (.cons (.str _) (.cons (.str _) (.cons (.str _) .nil))), hf.2, by decide +kernel, hq⟩
def spSigns : Sp := fun vs H Q _ => ∃ (N : List Addr) (v : V) (d : PyData), vs = [v] ∧ Is N H v d ∧ (∀ ds, d = .tuple ds → ds.length ≤ 90000 ∧ ∀ x ∈ ds, Fine x) ∧ ∀ H', Same H H' → Q (.bl (sgsD d)) H'
theorem ok_is_signs (T : Txt K mg) : FnOk P w K mg base CX0 3 T.f_is_signs T.fd_is_signs ["value"] spSigns := by
  refine T.F_is_signs.ok sc_is_signs (fun vs H Q E h => ?_) (fun cdv A outer s H vs Q E hr h => ?_)
  · obtain ⟨N, v, d, rfl, _⟩ := h
    rfl
  · obtain ⟨N, v, d, rfl, hd, hf, q⟩ := h
    refine ⟨_, (pss_one (ps_ret (pe_and (pe_callB (c_isi (K := K)) (by rfl) T.z_isinstance (by decide +kernel) (pa_cons (pv 0) (pa_cons (pe_bltn (v := .ty "tuple") (by rfl) T.z_tuple (by decide +kernel) rfl) pa_nil))) (pe_one (pe_callB (c_all (K := K) rfl) (by rfl) T.z_all (by decide +kernel) (pa_cons (pe_lc (own := [("sign", 1)]) rfl sc_is_signs.nd (p_tup (K := K) (pv 0)) (blkOk_by (own := [("sign", 1)]) (N := ["value", "sign"]) (sc := (defScope s_is_signs)) (by decide +kernel)) (fun _ _ _ _ _ => (pg_name (i := 1) sc_is_signs.nd rfl (.inl rfl))) (fun _ _ _ _ _ => pts_nil) (fun _ _ _ _ _ => (pe_call (ok_is_sign T) (hr.mono (by decide)) (by rfl) T.g_is_sign T.F_is_sign.kp T.b_is_sign .nil pass0 (pa_cons (pv 1) pa_nil)))) pa_nil)))))), ?_⟩
    walk_at "zrd"
    refine hd.isiTup ?_
    cases hd with
    | @tup a xs ds n e h =>
      obtain ⟨hl9, hfine⟩ := hf ds rfl
      have hl := h.len
      walk_at "zrd"
      intro D hD
      refine lcB (walk_tup (xs := xs)) (fun i H' => H' D = some (.lst (((ds.take i).map sgD).map V.bl)) ∧ Same H H') ⟨upd_same, same_upd hD⟩ (fun i H' _ hP => .inl (.inl (hP.2 _ _ e))) (fun i x H1 H2 hi hP hy => ?_) (fun H1 hP => ?_)
      · obtain ⟨rfl, hx⟩ := hy
        obtain ⟨hD1, s1⟩ := hP
        obtain ⟨dx, hdx, hI⟩ := h.get hx
        walk_at "zrd"
        refine ⟨rfl, ?_⟩
        walk_at "zrd"
        refine ⟨N, x, dx, rfl, hI.mono (ExtN.of_same s1), hfine dx (List.mem_of_getElem? hdx), fun H3 s3 => ⟨_, s3 _ _ hD1, ?_, ?_, fun b o hb => ?_⟩⟩
        · rw [List.length_map, List.length_map, List.length_take]
          exact sz_lt (Nat.lt_of_le_of_lt (Nat.min_le_right _ _) (by omega))
        · rw [upd_same, List.take_add_one, hdx, List.map_append, List.map_append]
          rfl
        · rw [upd_ne (ne_of_none hb hD)]
          exact s3 _ _ (s1 b o hb)
      · obtain ⟨hD1, s1⟩ := hP
        rw [List.take_of_length_le (by omega)] at hD1
        walk_at "zrd"
        refine r_all hD1 ?_
        have := q H1 s1
        have eq1 : sgsD (.tuple ds) = (ds.map sgD).all id := by
          show ds.all sgD = _
          rw [List.all_map]
          rfl
        rw [eq1] at this
        exact this
    | _ =>
      walk_at "zrd"
      exact q _ (Same.refl H)
/-! ### _law_right -/
def oddW : List PyData := [.str "", .str "A", .str ";;", .str "{}", .str " ", .none, .int 0, .bool true, .tuple [.str "a"], .list [.str "a"], .str "abcdefghi", .tuple [.str "{"], .str "\n"]
theorem odd_not : ∀ d ∈ oddW, sgD d = false := by decide +kernel
theorem odd_fine : ∀ d ∈ oddW, d.hasDict = false ∧ SeqAt.shaped d = true := by decide +kernel
def goodW : List PyData := [.str "{", .str "}", .str ";", .str "a", .str "of", .str "zzzzzzzz"]
theorem good_yes : ∀ d ∈ goodW, sgD d = true := by decide +kernel
theorem good_fine : ∀ d ∈ goodW, d.hasDict = false ∧ SeqAt.shaped d = true := by decide +kernel
theorem isS {N : List Addr} {H : Hp} (x : String) (h1 : (Str.ofString x).length ≤ 100000 := by decide +kernel) (h2 : (Str.ofString x).cps.all (fun c => decide (c < 128)) = true := by decide +kernel) : Is N H (V.str (Str.ofString x)) (.str (Str.ofString x)) := .str h1 h2
def gS : List Str := ["{", "}", ";", "a", "of", "zzzzzzzz"]
theorem gS_fine : ∀ u ∈ gS, u.length ≤ 100000 ∧ u.cps.all (fun c => decide (c < 128)) = true ∧ sgD (.str u) = true ∧ PyData.hasDict (.str u) = false ∧ SeqAt.shaped (.str u) = true := by decide +kernel
theorem gS_all {N : List Addr} {H : Hp} : ∀ {ss : List Str}, (∀ u ∈ ss, u ∈ gS) → IsAll N H (ss.map V.str) (ss.map PyData.str)
  | [], _ => .nil
  | u :: r, h => .cons (.str (gS_fine u (h u (.head _))).1 (gS_fine u (h u (.head _))).2.1) (gS_all fun x hx => h x (.tail _ hx))
theorem cutV_map (ss : List Str) (lo hi : Option Int) : ∃ us : List Str, cutV (ss.map V.str) lo hi = us.map V.str ∧ (∀ u ∈ us, u ∈ ss) ∧ us.length ≤ ss.length := by
  refine ⟨(ss.drop (HT.sIx ss.length 0 lo)).take (HT.sIx ss.length ss.length hi - HT.sIx ss.length 0 lo), ?_, fun u hu => List.mem_of_mem_drop (List.mem_of_mem_take hu), ?_⟩
  · unfold cutV
    rw [List.length_map, List.map_take, List.map_drop]
  · rw [List.length_take, List.length_drop]
    omega
theorem eu_tupleOf {σ : L2.St} {H : Hp} {te : TE} {xs : List V} (h : EvL te σ H xs) : EvU (tCB (wTupleOf K) (tCons te tNil)) σ H xs := fun H1 e Q q =>
  h H1 e _ fun p H2 _ e2 hp => r_tupleL hp fun l hl => q l _ (fresh_back e2 hl) (e2.trans (Ex.new hl)) upd_same
theorem sgs_mid {us vs : List PyData} {d : PyData} (h : sgD d = false) : sgsD (.tuple (us ++ [d] ++ vs)) = false := by
  show (us ++ [d] ++ vs).all sgD = false
  rw [List.all_append, List.all_append]
  simp [h]
def spRight : Sp := fun vs H Q _ => ∃ d : Addr, vs = [.ref d] ∧ Dice H d ∧ ∀ H', Ext d H H' → Dice H' d → Q (.bl true) H'
theorem ok_right (T : Txt K mg) : FnOk P w K mg base CX0 4 T.f_right T.fd_right ["_law_dice_here"] spRight := by
  refine T.F_right.ok sc_right (fun vs H Q E h => ?_) (fun cdv A outer s H vs Q E hr h => ?_)
  · obtain ⟨d, rfl, _⟩ := h
    rfl
  · obtain ⟨d, rfl, hd, q⟩ := h
    refine ⟨_, (pss_cons (ps_asg (pe_tup (pa_cons (pe_call (ok_pick T) (hr.mono (by decide)) (by rfl) T.g_pick T.F_pick.kp T.b_pick .nil pass0 (pa_cons (pv 0) (pa_cons (pe_lst (pa_cons pe_int (pa_cons pe_int (pa_cons pe_int (pa_cons pe_int (pa_cons pe_int pa_nil)))))) pa_nil))) (pa_cons (pe_lst (pa_cons pe_str (pa_cons pe_str (pa_cons pe_str (pa_cons pe_str (pa_cons pe_str (pa_cons pe_str pa_nil))))))) pa_nil))) (pg_tup (by rfl) (pgs_cons (pg_name (i := 1) sc_right.nd rfl (.inl rfl)) (pgs_cons (pg_name (i := 2) sc_right.nd rfl (.inr rfl)) pgs_nil))))
      (pss_cons (ps_setLc (i := 4) (own := [("_law_turn", 3)]) rfl sc_right.nd rfl rfl (sw_true rfl rfl rfl (by decide +kernel)) (pi_range1 (by rfl) T.z_range (pa_cons (pv 1) pa_nil)) (blkOk_by (own := [("_law_turn", 3)]) (N := ["_law_dice_here", "_law_size", "_law_signs", "_law_turn", "_law_some_here", "_law_odd", "_law_at", "_law_spoilt", "_law_told"]) (sc := (defScope s_right)) (by decide +kernel)) (fun _ _ _ _ _ => (pg_name (i := 3) sc_right.nd rfl (.inl rfl))) (fun _ _ _ _ _ => pts_nil) (fun _ _ _ _ _ => (pe_call (ok_pick T) (hr.mono (by decide)) (by rfl) T.g_pick T.F_pick.kp T.b_pick .nil pass0 (pa_cons (pv 0) (pa_cons (pv 2) pa_nil)))))
      (pss_cons (ps_if (pt_not (pt_val (pe_call (ok_is_signs T) (hr.mono (by decide)) (by rfl) T.g_is_signs T.F_is_signs.kp T.b_is_signs .nil pass0 (pa_cons (pe_callTy (c_tuple (K := K)) (by rfl) T.z_tuple (by decide +kernel) (pa_cons (pv 4) pa_nil)) pa_nil)))) (pss_one (ps_ret pe_bl)) pss_nil)
      (pss_cons (ps_set (i := 5) sc_right.nd rfl (.inl rfl) (pe_call (ok_pick T) (hr.mono (by decide)) (by rfl) T.g_pick T.F_pick.kp T.b_pick .nil pass0 (pa_cons (pv 0) (pa_cons (pe_lst (pa_cons pe_str (pa_cons pe_str (pa_cons pe_str (pa_cons pe_str (pa_cons pe_str (pa_cons pe_non (pa_cons pe_int (pa_cons pe_bl (pa_cons (pe_tup (pa_cons pe_str pa_nil)) (pa_cons (pe_lst (pa_cons pe_str pa_nil)) (pa_cons pe_str (pa_cons (pe_tup (pa_cons pe_str pa_nil)) (pa_cons pe_str pa_nil)))))))))))))) pa_nil))))
      (pss_cons (ps_set (i := 6) sc_right.nd rfl (.inl rfl) (pe_call (ok_roll T) (hr.mono (by decide)) (by rfl) T.g_roll T.F_roll.kp T.b_roll .nil pass0 (pa_cons (pv 0) (pa_cons (pe_op op_add (pe_callB (c_len (K := K)) (by rfl) T.z_len (by decide +kernel) (pa_cons (pv 4) pa_nil)) pe_int) pa_nil))))
      (pss_cons (ps_set (i := 7) sc_right.nd rfl (.inl rfl) (pe_callTy (c_tuple (K := K)) (by rfl) T.z_tuple (by decide +kernel) (pa_cons (pe_op op_cat (pe_op op_cat (pe_slice (s_list (K := K)) (pv 4) po_none (po_some (pv 6))) (pe_lst (pa_cons (pv 5) pa_nil))) (pe_slice (s_list (K := K)) (pv 4) (po_some (pv 6)) po_none)) pa_nil)))
      (pss_cons (ps_set (i := 8) sc_right.nd rfl (.inl rfl) (pe_call (ok_pick T) (hr.mono (by decide)) (by rfl) T.g_pick T.F_pick.kp T.b_pick .nil pass0 (pa_cons (pv 0) (pa_cons (pe_op op_cat (pe_op op_rep (pe_lst (pa_cons (pv 7) pa_nil)) pe_int) (pe_lst (pa_cons (pv 4) (pa_cons pe_non (pa_cons pe_str (pa_cons pe_str (pa_cons pe_int (pa_cons pe_dnewK (pa_cons pe_str pa_nil))))))))) pa_nil))))
      (pss_one (ps_ret (pe_cmpR op_isBl (pe_call (ok_is_signs T) (hr.mono (by decide)) (by rfl) T.g_is_signs T.F_is_signs.kp T.b_is_signs .nil pass0 (pa_cons (pv 8) pa_nil)) pe_bl (nomark _))))))))))), ?_⟩
    walk_at "zrd"
    refine ⟨by walk_at "zsz", fun p1 f1 => ?_⟩
    refine r_nil ⟨d, p1, _, rfl, hd.new f1, upd_same, hd.ne f1, (fun z => nomatch z), by show 5 < 1073741824; decide, fun v H2 hv e2 d2 => ?_⟩
    obtain ⟨n, rfl, hn0, hn⟩ : ∃ n : Int, v = .int n ∧ 0 ≤ n ∧ n ≤ 40 := by
      simp only [List.mem_cons, List.not_mem_nil, or_false] at hv
      rcases hv with h | h | h | h | h <;> exact ⟨_, h, by decide, by decide⟩
    have x2 : Ext d H H2 := (Ext.new f1).trans e2
    refine r_cons ?_
    refine el_lst (ea_cons ev_c (ea_cons ev_c (ea_cons ev_c (ea_cons ev_c (ea_cons ev_c (ea_cons ev_c ea_nil)))))) (by show 6 ≤ 100000; decide) H2 (Ex.refl _) _ fun pg H3 fg e3 hg => ?_
    have d3 := d2.same e3
    have npg := d2.ne fg
    refine r_nil ⟨by walk_at "zsz", fun pt ft => ?_⟩
    have d4 := d3.new (o := .tup [.int n, .ref pg]) ft
    have x4 : Ext d H (upd H3 pt (.tup [.int n, .ref pg])) := (x2.trans (.of_same e3)).trans (.new ft)
    have hg4 := same_upd (o := .tup [.int n, .ref pg]) ft _ _ hg
    refine ⟨pt, _, rfl, st_of upd_same, rfl, _, _, rfl, _, _, rfl, rfl, ?_⟩
    generalize upd H3 pt (.tup [.int n, .ref pg]) = H4 at d4 x4 hg4
    clear hg e3 d3 ft fg e2 d2 x2 f1
    dsimp only
    walk_at "zrd"
    refine r_rng1j (by omega) (by omega) ?_
    intro D hD
    have nD : D ≠ d := d4.ne hD
    refine lcB walk_range (fun i H' => ∃ ss : List Str, H' D = some (.lst (ss.map V.str)) ∧ (∀ u ∈ ss, u ∈ gS) ∧ ss.length = i ∧ Ext d H4 H' ∧ Dice H' d)
      ⟨[], upd_same, (fun _ z => nomatch z), rfl, .new hD, d4.new hD⟩ (fun _ _ _ _ => trivial) (fun i x H5 H6 hi hP hy => ?_) (fun H5 hP => ?_)
    · obtain ⟨rfl, rfl⟩ := hy
      obtain ⟨ss, hD5, hss, hsl, e5, d5⟩ := hP
      refine ⟨rfl, ?_⟩
      refine r_yes ?_
      refine iteT' rfl ?_
      refine r_call (r_cons (r_var rfl (r_cons (r_var rfl (r_nil ?_)))))
      refine ⟨d, pg, _, rfl, d5, e5 _ _ npg hg4, npg, (fun z => nomatch z), by show 6 < 1073741824; decide, fun v H7 hv e7 d7 => ?_⟩
      obtain ⟨u, hu, rfl⟩ := List.mem_map.mp (show v ∈ gS.map V.str from hv)
      refine ⟨ss.map V.str, e7 _ _ nD hD5, sz_lt (by rw [List.length_map]; omega), ss ++ [u], by rw [upd_same, List.map_append]; rfl, fun x hx => ?_, by rw [List.length_append, hsl]; rfl, ?_, d7.off nD⟩
      · rcases List.mem_append.mp hx with z | z
        · exact hss x z
        · rw [List.mem_singleton.mp z]
          exact hu
      · exact (e5.trans e7).grown hD
    · obtain ⟨ss, hD5, hss, hsl, e5, d5⟩ := hP
      have hsl : ss.length ≤ 40 := by omega
      have x5 : Ext d H H5 := x4.trans e5
      clear e5 x4 hg4 d4
      refine r_name ?_
      dsimp only
      refine r_seq (r_ifs (r_not (r_B (r_call (r_cons (r_cb (r_cons (r_var rfl (r_nil (r_tupleL hD5 fun pt ft => r_nil ?_))))))))))
      have hyes : sgsD (.tuple (ss.map PyData.str)) = true := List.all_eq_true.mpr fun x hx => by
        obtain ⟨u, hu, rfl⟩ := List.mem_map.mp hx
        exact (gS_fine u (hss u hu)).2.2.1
      refine ⟨[], .ref pt, .tuple (ss.map .str), rfl, .tup (fun z => nomatch z) upd_same (gS_all hss), fun ds e => ?_, fun H6 s6 => ⟨_, rfl, ?_⟩⟩
      · cases e
        refine ⟨by rw [List.length_map]; omega, fun x hx => ?_⟩
        obtain ⟨u, hu, rfl⟩ := List.mem_map.mp hx
        exact (gS_fine u (hss u hu)).2.2.2
      rw [hyes]
      refine iteF' rfl (r_next ?_)
      dsimp only
      have s6 := (same_upd (o := .tup (ss.map V.str)) ft).trans s6
      have hD6 := s6 _ _ hD5
      have d6 := d5.same s6
      have x6 := x5.trans (.of_same s6)
      clear s6 hD5 d5 x5 ft
      walk_at "zrd"
      refine ⟨by walk_at "zsz", fun q1 g1 => ?_⟩
      walk_at "zrd"
      refine ⟨by walk_at "zsz", fun q2 g2 => ?_⟩
      walk_at "zrd"
      refine ⟨by walk_at "zsz", fun q3 g3 => ?_⟩
      walk_at "zrd"
      refine ⟨by walk_at "zsz", fun ql gl => ?_⟩
      have e1 := Ex.new (o := .tup [.str "a"]) g1
      have e2 := Ex.new (o := .lst [.str "a"]) g2
      have e3 := Ex.new (o := .tup [.str "{"]) g3
      have d7 := ((d6.new (o := .tup [.str "a"]) g1).new (o := .lst [.str "a"]) g2).new (o := .tup [.str "{"]) g3
      have k1 : (upd (upd (upd H6 q1 (.tup [.str "a"])) q2 (.lst [.str "a"])) q3 (.tup [.str "{"])) q1 = some (.tup [.str "a"]) := e3 _ _ (e2 _ _ upd_same)
      have k2 : (upd (upd (upd H6 q1 (.tup [.str "a"])) q2 (.lst [.str "a"])) q3 (.tup [.str "{"])) q2 = some (.lst [.str "a"]) := e3 _ _ upd_same
      have n1 := d6.ne g1
      have n2 := (d6.new (o := .tup [.str "a"]) g1).ne g2
      have n3 := ((d6.new (o := .tup [.str "a"]) g1).new (o := .lst [.str "a"]) g2).ne g3
      have hodd : IsAll [d] (upd (upd (upd H6 q1 (.tup [.str "a"])) q2 (.lst [.str "a"])) q3 (.tup [.str "{"])) [V.str (Str.ofString ""), V.str (Str.ofString "A"), V.str (Str.ofString ";;"), V.str (Str.ofString "{}"), V.str (Str.ofString " "), .non, .int 0, .bl true, .ref q1, .ref q2, V.str (Str.ofString "abcdefghi"), .ref q3, V.str (Str.ofString "\n")] oddW :=
        .cons (isS "") (.cons (isS "A") (.cons (isS ";;") (.cons (isS "{}") (.cons (isS " ") (.cons .non (.cons (.int 0) (.cons (.bl true) (.cons (.tup (nin1 n1) k1 (.cons (isS "a") .nil)) (.cons (.lst (nin1 n2) k2 (.cons (isS "a") .nil)) (.cons (isS "abcdefghi") (.cons (.tup (nin1 n3) upd_same (.cons (isS "{") .nil)) (.cons (isS "\n") .nil))))))))))))
      have hD7 := e3 _ _ (e2 _ _ (e1 _ _ hD6))
      have x7 := x6.trans (.of_same ((e1.trans e2).trans e3))
      generalize upd (upd (upd H6 q1 (.tup [.str "a"])) q2 (.lst [.str "a"])) q3 (.tup [.str "{"]) = H7 at d7 hodd hD7 x7 gl
      clear k1 k2 e1 e2 e3 g1 g2 g3 n1 n2 n3 d6 x6 hD6
      refine r_nil ⟨d, ql, _, rfl, d7.new gl, upd_same, d7.ne gl, (fun z => nomatch z), by show 13 < 1073741824; decide, fun v H8 hv e8 d8 => ?_⟩
      obtain ⟨dd, hdd, hI⟩ := hodd.mem hv
      have hI8 : Is [d] H8 v dd := hI.mono ((ExtN.of_same (Ex.new gl)).trans (ExtN.of_ext (.head _) e8))
      have hD8 := e8 _ _ nD (same_upd gl _ _ hD7)
      have x8 := (x7.trans (.new gl)).trans e8
      clear hodd hv hI e8 gl hD7 x7 d7
      refine r_name ?_
      dsimp only
      walk_at "zrd"
      refine ⟨d, (((ss.map V.str).length : Nat) : Int) + 1, rfl, d8, by omega, by rw [List.length_map]; omega, fun k H9 hk e9 d9 => ?_⟩
      have hI9 := hI8.mono (ExtN.of_ext (.head _) e9)
      have hD9 := e9 _ _ nD hD8
      have x9 := x8.trans e9
      clear hI8 hD8 x8 e9 d8
      refine r_name ?_
      dsimp only
      have c1 := cutV_length (ss.map V.str) none (some (k : Int))
      have c2 := cutV_length (ss.map V.str) (some (k : Int)) none
      rw [List.length_map] at c1 c2
      refine q_asgU (eu_tupleOf (el_catLL (el_catLL (el_sl (K := K) (ev_var rfl) eo_none (eo_some (ev_var rfl)) (sq_of hD9)) (el_lst (ea_cons (ev_var rfl) ea_nil) (by show 1 ≤ 100000; decide)) (by show _ + 1 ≤ _; omega)) (el_sl (K := K) (ev_var rfl) (eo_some (ev_var rfl)) eo_none (sq_of hD9)) (by rw [List.length_append]; show _ + 1 + _ ≤ _; omega))) fun pz H10 fz e10 hz => ?_
      obtain ⟨us1, hu1, hm1, hl1⟩ := cutV_map ss none (some (k : Int))
      obtain ⟨us2, hu2, hm2, hl2⟩ := cutV_map ss (some (k : Int)) none
      rw [hu1, hu2] at hz
      have hS : Is [d] H10 (.ref pz) (.tuple (us1.map PyData.str ++ [dd] ++ us2.map PyData.str)) := .tup (nin1 (d9.ne fz)) hz (((gS_all fun u hu => hss u (hm1 u hu)).append (.cons (hI9.mono (ExtN.of_same e10)) .nil)).append (gS_all fun u hu => hss u (hm2 u hu)))
      have hSf : ∀ x ∈ us1.map PyData.str ++ [dd] ++ us2.map PyData.str, Fine x := fun x hx => by
        rcases List.mem_append.mp hx with z | z
        · rcases List.mem_append.mp z with z | z
          · obtain ⟨u, hu, rfl⟩ := List.mem_map.mp z
            exact (gS_fine u (hss u (hm1 u hu))).2.2.2
          · rw [List.mem_singleton.mp z]
            exact odd_fine dd hdd
        · obtain ⟨u, hu, rfl⟩ := List.mem_map.mp z
          exact (gS_fine u (hss u (hm2 u hu))).2.2.2
      have hSl : (us1.map PyData.str ++ [dd] ++ us2.map PyData.str).length ≤ 90000 := by
        rw [List.length_append, List.length_append, List.length_map, List.length_map]
        show _ + 1 + _ ≤ _
        omega
      have hSn := sgs_mid (us := us1.map PyData.str) (vs := us2.map PyData.str) (odd_not dd hdd)
      have hD10 := e10 _ _ hD9
      have d10 := d9.same e10
      have x10 := x9.trans (.of_same e10)
      generalize us1.map PyData.str ++ [dd] ++ us2.map PyData.str = ds at hS hSf hSn hSl
      clear hz hI9 hD9 x9 e10 d9 fz hu1 hu2 hm1 hm2
      refine r_seq (r_asg (r_call (r_cons (r_var rfl (r_cons (r_op ?_))))))
      refine el_rep (el_lst (ea_cons (ev_var rfl) ea_nil) (by show 1 ≤ 100000; decide)) ev_c (by decide) (by decide) (by show 1 * 6 ≤ 100000; decide) H10 (Ex.refl _) _ fun pr H11 fr e11 hr => ?_
      have d11 := d10.same e11
      walk_at "zrd"
      intro pd fd
      walk_at "zrd"
      refine ⟨by walk_at "zsz", fun pm fm => ?_⟩
      have y1 := Ex.new (o := .dK []) fd
      have y2 := Ex.new (o := .lst [.ref D, .non, .str "a", .str ";", .int 0, .ref pd, .str "{}"]) fm
      refine r_cat (y2 _ _ (y1 _ _ hr)) upd_same (by show 6 + 7 ≤ sizeLine; decide) fun pw fw => ?_
      have y3 := Ex.new (o := .lst ((List.replicate (6 : Int).toNat [V.ref pz]).flatten ++ [.ref D, .non, .str "a", .str ";", .int 0, .ref pd, .str "{}"])) fw
      have y := (y1.trans y2).trans y3
      have d12 := ((d11.new (o := .dK []) fd).new (o := .lst [.ref D, .non, .str "a", .str ";", .int 0, .ref pd, .str "{}"]) fm)
      have hall : ∀ v ∈ (List.replicate (6 : Int).toNat [V.ref pz]).flatten ++ [V.ref D, .non, .str "a", .str ";", .int 0, .ref pd, .str "{}"], ∃ dv, Is [d] (upd (upd (upd H11 pd (.dK [])) pm (.lst [.ref D, .non, .str "a", .str ";", .int 0, .ref pd, .str "{}"])) pw (.lst ((List.replicate (6 : Int).toNat [V.ref pz]).flatten ++ [.ref D, .non, .str "a", .str ";", .int 0, .ref pd, .str "{}"]))) v dv ∧ sgsD dv = false ∧ (∀ ds, dv = .tuple ds → ds.length ≤ 90000 ∧ ∀ x ∈ ds, Fine x) := fun v hv => by
        rcases List.mem_append.mp hv with z | z
        · rw [List.mem_singleton.mp (mem_rep z)]
          exact ⟨_, hS.mono (ExtN.of_same (e11.trans y)), hSn, fun ds' e => by cases e; exact ⟨hSl, hSf⟩⟩
        · simp only [List.mem_cons, List.not_mem_nil, or_false] at z
          rcases z with rfl | rfl | rfl | rfl | rfl | rfl | rfl
          · exact ⟨_, .lst (nin1 nD) (y _ _ (e11 _ _ hD10)) (gS_all hss), rfl, fun _ z => nomatch z⟩
          · exact ⟨_, .non, rfl, fun _ z => nomatch z⟩
          · exact ⟨_, isS "a", rfl, fun _ z => nomatch z⟩
          · exact ⟨_, isS ";", rfl, fun _ z => nomatch z⟩
          · exact ⟨_, .int 0, rfl, fun _ z => nomatch z⟩
          · exact ⟨_, .dct (nin1 (d11.ne fd)) (y3 _ _ (y2 _ _ upd_same)), rfl, fun _ z => nomatch z⟩
          · exact ⟨_, isS "{}", rfl, fun _ z => nomatch z⟩
      refine r_nil ⟨d, pw, _, rfl, d12.new fw, upd_same, d12.ne fw, (fun z => nomatch z), by show 13 < 1073741824; decide, fun v2 H12 hv2 e12 d13 => ?_⟩
      obtain ⟨dv, hIv, hnv, hfv⟩ := hall v2 hv2
      refine r_name ?_
      dsimp only
      refine r_ret (r_op (r_call (r_cons (r_var rfl (r_nil ?_)))))
      refine ⟨[d], v2, dv, rfl, hIv.mono (ExtN.of_ext (.head _) e12), hfv, fun H13 s13 => r_c ⟨_, _, rfl, rfl, ?_⟩⟩
      rw [hnv]
      exact q _ (((x10.trans (.of_same (e11.trans y))).trans e12).trans (.of_same s13)) (d13.same s13)
end
end My

--CUT
namespace My
open PySem PySem.Spec PyProof.Rows L2 Evl
section
variable {P : Program} {w : World} {K : PySem.W.Frag} {mg : Str → Option Value} {base : Heap}
theorem sgW_fine : ∀ u ∈ sgW, u.length ≤ 100000 ∧ u.cps.all (fun c => decide (c < 128)) = true ∧ sgD (.str u) = true ∧ PyData.hasDict (.str u) = false ∧ SeqAt.shaped (.str u) = true := by decide +kernel
theorem sgW_all {N : List Addr} {H : Hp} : ∀ {ss : List Str}, (∀ u ∈ ss, u ∈ sgW) → IsAll N H (ss.map V.str) (ss.map PyData.str)
  | [], _ => .nil
  | u :: r, h => .cons (.str (sgW_fine u (h u (.head _))).1 (sgW_fine u (h u (.head _))).2.1) (sgW_all fun x hx => h x (.tail _ hx))
theorem sgW_yes {f : List Str} (h : ∀ u ∈ f, u ∈ sgW) : sgsD (.tuple (f.map PyData.str)) = true := List.all_eq_true.mpr fun x hx => by
  obtain ⟨u, hu, rfl⟩ := List.mem_map.mp hx
  exact (sgW_fine u (h u hu)).2.2.1
theorem sgW_fin {f : List Str} (h : ∀ u ∈ f, u ∈ sgW) (hl : f.length ≤ 80000) : ∀ ds, PyData.tuple (f.map PyData.str) = .tuple ds → ds.length ≤ 90000 ∧ ∀ x ∈ ds, Fine x := fun ds e => by
  cases e
  refine ⟨by rw [List.length_map]; omega, fun x hx => ?_⟩
  obtain ⟨u, hu, rfl⟩ := List.mem_map.mp hx
  exact (sgW_fine u (h u hu)).2.2.2
/-! ### the law -/
def four : List PyData := [.tuple [.str "{", .str "a", .str "}"], .tuple [], .list [.str "a"], .tuple [.str "a", .int 1]]
theorem four_are : (four.map sgsD).map V.bl = [V.bl true, V.bl true, V.bl false, V.bl false] := by decide +kernel
def kidsD : PyData → List PyData
  | .tuple ds => ds
  | _ => []
theorem four_fine : ∀ d ∈ four, (kidsD d).length ≤ 90000 ∧ ∀ x ∈ kidsD d, (x.hasDict = false ∧ SeqAt.shaped x = true) := by decide +kernel
theorem four_fin {d : PyData} (h : d ∈ four) : ∀ ds, d = .tuple ds → ds.length ≤ 90000 ∧ ∀ x ∈ ds, Fine x := fun ds e => by
  have := four_fine d h
  rw [e] at this
  exact this
def spLaw (K : PySem.W.Frag) : Sp := fun vs H Q _ => ∃ (a : Addr) (ns : List Int), vs = [.ref a] ∧ SqL K H a (ns.map V.int) ∧ ns.length ≤ 63 ∧ ∀ H', Q (.bl true) H'
theorem ok_law (T : Txt K mg) {f : Addr} {fd : FuncData} (F : Fun K "law" "law" s_law f fd) : FnOk P w K mg base CX0 7 f fd ["_law_script"] (spLaw K) := by
  refine F.ok sc_law (fun vs H Q E h => ?_) (fun cdv A outer s H vs Q E hr h => ?_)
  · obtain ⟨a, ns, rfl, _⟩ := h
    rfl
  · obtain ⟨a, ns, rfl, hS, hlen, q⟩ := h
    refine ⟨_, (pss_cons (ps_for PassesOwn.never rfl (pi_range1 (by rfl) T.z_range (pa_cons (pe_callB (c_max2 rfl) (by rfl) T.z_max (by decide +kernel) (pa_cons pe_int (pa_cons (pe_callB (c_min2 rfl) (by rfl) T.z_min (by decide +kernel) (pa_cons pe_int (pa_cons (pe_callB (c_len (K := K)) (by rfl) T.z_len (by decide +kernel) (pa_cons (pv 0) pa_nil)) pa_nil))) pa_nil))) pa_nil)) (pg_name (i := 1) sc_law.nd rfl (.inl rfl)) (pss_cons (ps_set (i := 2) sc_law.nd rfl (.inl rfl) (pe_call (ok_dice T) (hr.mono (by decide)) (by rfl) T.g_dice T.F_dice.kp T.b_dice .nil pass0 (pa_cons (pv 0) (pa_cons (pv 1) pa_nil))))
      (pss_cons (ps_for PassesOwn.never rfl (pi_range1 (by rfl) T.z_range (pa_cons pe_int pa_nil)) (pg_name (i := 3) sc_law.nd rfl (.inl rfl)) (pss_one (ps_if (pt_not (pt_val (pe_call (ok_right T) (hr.mono (by decide)) (by rfl) T.g_right T.F_right.kp T.b_right .nil pass0 (pa_cons (pv 2) pa_nil)))) (pss_one (ps_ret pe_bl)) pss_nil)))
      (pss_cons (ps_set (i := 4) sc_law.nd rfl (.inl rfl) (pe_call (ok_book T) (hr.mono (by decide)) (by rfl) T.g_book T.F_book.kp T.b_book .nil pass0 (pa_cons (pv 2) pa_nil)))
      (pss_one (ps_for PassesOwn.never rfl (p_list (K := K) (pe_dget (hu_of hr) (pe_call (ok_read T) (hr.mono (by decide)) (by rfl) T.g_read T.F_read.kp T.b_read .nil pass0 (pa_cons (pv 4) (pa_cons (pe_call (ok_good_text T) (hr.mono (by decide)) (by rfl) T.g_good_text T.F_good_text.kp T.b_good_text .nil pass0 (pa_cons (pv 2) (pa_cons (pv 4) (pa_cons pe_int pa_nil)))) pa_nil))) pe_str (fun _ _ => rfl))) (pg_name (i := 5) sc_law.nd rfl (.inl rfl)) (pss_one (ps_if (pt_not (pt_val (pe_call (ok_is_signs T) (hr.mono (by decide)) (by rfl) T.g_is_signs T.F_is_signs.kp T.b_is_signs .nil pass0 (pa_cons (pv 5) pa_nil)))) (pss_one (ps_ret pe_bl)) pss_nil))))))))
      (pss_one (ps_ret (pe_cmpR (o_eqD (K := K) hr.units) (pe_lc (own := [("_law_one", 6)]) rfl sc_law.nd (p_list (K := K) (pe_lst (pa_cons (pe_tup (pa_cons pe_str (pa_cons pe_str (pa_cons pe_str pa_nil)))) (pa_cons (pe_tup pa_nil) (pa_cons (pe_lst (pa_cons pe_str pa_nil)) (pa_cons (pe_tup (pa_cons pe_str (pa_cons pe_int pa_nil))) pa_nil)))))) (blkOk_by (own := [("_law_one", 6)]) (N := ["_law_script", "_law_spot", "_law_dice_here", "_law_turn", "_law_book_here", "_law_part", "_law_one"]) (sc := (defScope s_law)) (by decide +kernel)) (fun _ _ _ _ _ => (pg_name (i := 6) sc_law.nd rfl (.inl rfl))) (fun _ _ _ _ _ => pts_nil) (fun _ _ _ _ _ => (pe_call (ok_is_signs T) (hr.mono (by decide)) (by rfl) T.g_is_signs T.F_is_signs.kp T.b_is_signs .nil pass0 (pa_cons (pv 6) pa_nil)))) (pe_lst (pa_cons pe_bl (pa_cons pe_bl (pa_cons pe_bl (pa_cons pe_bl pa_nil))))) (nomark _))))), ?_⟩
    walk_at "zrd"
    refine ⟨a, _, rfl, .inl hS, ?_⟩
    walk_at "zrd"
    obtain ⟨m, em, hm⟩ := turns_ok (ns.map V.int).length
    rw [em]
    refine r_rng1j (by omega) (by omega) ?_
    refine forB walk_range (fun i σ H' => ∃ y1 y2 y3 y4 y5 y6, σ = [some (.ref a), y1, y2, y3, y4, y5, y6] ∧ Same H H') ⟨_, _, _, _, _, _, rfl, Same.refl H⟩ (fun _ _ _ _ _ => trivial) (fun i x σ H1 H2 hi hP hy => ?_) (fun σ H1 hP => ?_)
    · obtain ⟨rfl, rfl⟩ := hy
      obtain ⟨y1, y2, y3, y4, y5, y6, rfl, s1⟩ := hP
      walk_at "zrd"
      refine ⟨a, ns, i, by show [V.ref a, V.int (0 + (i : Int))] = _; rw [Int.zero_add], s1.seq hS, fun d H3 hd s3 d3 => ?_⟩
      have hd0 : H d = none := s1.free hd
      walk_at "zrd"
      refine r_rng1j (by decide) (by decide) ?_
      refine forB walk_range (fun j σ H' => ∃ y3 y4 y5 y6, σ = [some (.ref a), some (.int (0 + (i : Int))), some (.ref d), y3, y4, y5, y6] ∧ Same H H' ∧ Dice H' d) ⟨_, _, _, _, rfl, s1.trans s3, d3⟩ (fun _ _ _ _ _ => trivial) (fun j x σ H4 H5 hj hP hy => ?_) (fun σ H4 hP => ?_)
      · obtain ⟨rfl, rfl⟩ := hy
        obtain ⟨z3, z4, z5, z6, rfl, s4, d4⟩ := hP
        walk_at "zrd"
        refine ⟨d, rfl, d4, fun H6 e6 d6 => ?_⟩
        walk_at "zrd"
        exact ⟨_, _, _, _, rfl, e6.same s4 hd0, d6⟩
      · obtain ⟨z3, z4, z5, z6, rfl, s4, d4⟩ := hP
        dsimp only
        refine r_seq (r_asg (r_call (r_cons (r_var rfl (r_nil ?_)))))
        refine ⟨d, rfl, d4, fun B b H5 ho hb e5 d5 => ?_⟩
        refine r_name ?_
        dsimp only
        refine r_for (r_iList (r_dget (r_call (r_cons (r_var rfl (r_cons (r_call (r_cons ?_))))))))
        refine r_var rfl (r_cons (r_var rfl (r_cons (r_c (r_nil ?_)))))
        refine ⟨d, B, b, rfl, d5, hb, ho, fun p ls vs H6 e6 d6 np hp hls hll => ?_⟩
        refine r_nil ?_
        refine ⟨[d], B, p, b, vs, ls, rfl, hb.mono (ExtN.of_ext (.head _) e6), ho, hp, hls, hll, d6.some, fun r pp ps x us H7 s7 hr7 hpp hparts => ?_⟩
        refine r_c (r_dgetS hr7 rd_p ⟨pp, rfl, ⟨us, sq_of hpp⟩, ?_⟩)
        have x7 : Same H H7 := (e6.same (e5.same s4 hd0) hd0).trans s7
        refine forB (walk_list (xs := us)) (fun j σ H' => ∃ y3 y4 y5 y6, σ = [some (.ref a), some (.int (0 + (i : Int))), some (.ref d), y3, y4, y5, y6] ∧ Same H7 H') ⟨_, _, _, _, rfl, Same.refl _⟩ (fun _ _ _ _ hP => by obtain ⟨_, _, _, _, _, z⟩ := hP; exact sq_of (z _ _ hpp)) (fun j x σ H8 H9 hj hP hy => ?_) (fun σ H8 hP => ?_)
        · obtain ⟨rfl, hx⟩ := hy
          obtain ⟨z3, z4, z5, z6, rfl, s8⟩ := hP
          obtain ⟨t, f, rfl, ht, hf, hfl⟩ := hparts x (List.mem_of_getElem? hx)
          refine r_name ?_
          refine r_ifs (r_not (r_B (r_call (r_cons (r_var rfl (r_nil ?_))))))
          refine ⟨[], .ref t, .tuple (f.map .str), rfl, .tup (fun z => nomatch z) (s8 _ _ ht) (sgW_all hf), sgW_fin hf hfl, fun H10 s10 => ⟨_, rfl, ?_⟩⟩
          rw [sgW_yes hf]
          exact iteF' rfl (r_next ⟨_, _, _, _, rfl, s8.trans s10⟩)
        · obtain ⟨z3, z4, z5, z6, rfl, s8⟩ := hP
          exact ⟨_, _, _, _, _, _, rfl, x7.trans s8⟩
    · obtain ⟨y1, y2, y3, y4, y5, y6, rfl, s1⟩ := hP
      walk_at "zrd"
      refine ⟨by walk_at "zsz", fun v1 g1 => ?_⟩
      walk_at "zrd"
      refine ⟨by walk_at "zsz", fun v2 g2 => ?_⟩
      walk_at "zrd"
      refine ⟨by walk_at "zsz", fun v3 g3 => ?_⟩
      walk_at "zrd"
      refine ⟨by walk_at "zsz", fun v4 g4 => ?_⟩
      walk_at "zrd"
      refine ⟨by walk_at "zsz", fun l g5 => ?_⟩
      walk_at "zrd"
      have nn : ∀ p : Addr, p ∉ ([] : List Addr) := fun _ z => nomatch z
      intro D hD
      have nlD : l ≠ D := ne_of_none upd_same hD
      have hall := IsAll.more hD (show IsAll [] _ [V.ref v1, V.ref v2, V.ref v3, V.ref v4] four from
          .cons (.tup (nn _) (by walk_at "zget") (.cons (isS "{") (.cons (isS "a") (.cons (isS "}") .nil))))
          (.cons (.tup (nn _) (by walk_at "zget") .nil)
          (.cons (.lst (nn _) (by walk_at "zget") (.cons (isS "a") .nil))
          (.cons (.tup (nn _) (by walk_at "zget") (.cons (isS "a") (.cons (.int _) .nil))) .nil))))
      refine lcB (walk_list (xs := [V.ref v1, V.ref v2, V.ref v3, V.ref v4])) (fun i H' => H' D = some (.lst (((four.take i).map sgsD).map V.bl)) ∧ H' l = some (.lst [V.ref v1, V.ref v2, V.ref v3, V.ref v4]) ∧ IsAll [D] H' [V.ref v1, V.ref v2, V.ref v3, V.ref v4] four)
        ⟨upd_same, by rw [upd_ne nlD]; exact upd_same, hall.mono (ExtN.of_same (same_upd hD))⟩ (fun _ _ _ h => .inl (.inl h.2.1)) (fun i x H3 H4 hi hP hy => ?_) (fun H3 hP => ?_)
      · obtain ⟨rfl, hx⟩ := hy
        obtain ⟨h1, h2, h3⟩ := hP
        obtain ⟨dx, hdx, hI⟩ := h3.get hx
        walk_at "zrd"
        refine ⟨rfl, ?_⟩
        walk_at "zrd"
        refine ⟨_, x, dx, rfl, hI, four_fin (List.mem_of_getElem? hdx), fun H5 s5 => ⟨_, s5 _ _ h1, ?_, ?_, ?_, ?_⟩⟩
        · rw [List.length_map, List.length_map, List.length_take]
          exact sz_lt (Nat.lt_of_le_of_lt (Nat.min_le_right _ _) (by decide))
        · rw [upd_same, List.take_add_one, hdx, List.map_append, List.map_append]
          rfl
        · rw [upd_ne nlD]
          exact s5 _ _ h2
        · exact h3.mono ((ExtN.of_same s5).at_ (List.Mem.head _))
      · obtain ⟨h1, h2, h3⟩ := hP
        rw [show (four.take [V.ref v1, V.ref v2, V.ref v3, V.ref v4].length) = four from rfl, four_are] at h1
        walk_at "zrd"
        refine ⟨by walk_at "zsz", fun p hp => ?_⟩
        have hDp : D ≠ p := ne_of_none h1 hp
        refine ⟨.list [.bool true, .bool true, .bool false, .bool false], .list [.bool true, .bool true, .bool false, .bool false],
          .lst (.inl (.inl (by rw [upd_ne hDp]; exact h1))) (.cons (.bl _) (.cons (.bl _) (.cons (.bl _) (.cons (.bl _) .nil)))),
          .lst (.inl (.inl upd_same)) (.cons (.bl _) (.cons (.bl _) (.cons (.bl _) (.cons (.bl _) .nil)))), rfl, rfl, ?_⟩
        exact q _
end
end My
--CUT
namespace My
open PySem PySem.Spec PyProof.Rows L2
theorem all_mk {l : PySem.W.OpenLaw} {w : World} {K : PySem.W.Frag} {h : Heap} {mg : Str → Option Value} {fa : Addr} (X : K.In h) (G : h.Ns mainGlobals mg) (hfa : mg "law" = some (.ref fa))
    {f_is_word : Addr} {od_is_word an_is_word : Option Addr} {sl_is_word : Array (Option Value)} {oc_is_word kV_is_word dc_is_word pm_is_word cd_is_word ct_is_word : Value}
    (a_is_word : PySem.W.nsIn K mainGlobals "is_word" = some (some (.ref f_is_word))) (l_is_word : K.lookup f_is_word = some ⟨oc_is_word, od_is_word, .func (PySem.W.fnOf "is_word" "is_word" (defArgs s_is_word) (defBody s_is_word) (defScope s_is_word) .none kV_is_word dc_is_word pm_is_word an_is_word cd_is_word ct_is_word), sl_is_word⟩) (c_is_word : PySem.W.codeIn K cd_is_word "is_word" = true) (k_is_word : PySem.W.keepIn K (.ref f_is_word) = true)
    {f_is_sign : Addr} {od_is_sign an_is_sign : Option Addr} {sl_is_sign : Array (Option Value)} {oc_is_sign kV_is_sign dc_is_sign pm_is_sign cd_is_sign ct_is_sign : Value}
    (a_is_sign : PySem.W.nsIn K mainGlobals "is_sign" = some (some (.ref f_is_sign))) (l_is_sign : K.lookup f_is_sign = some ⟨oc_is_sign, od_is_sign, .func (PySem.W.fnOf "is_sign" "is_sign" (defArgs s_is_sign) (defBody s_is_sign) (defScope s_is_sign) .none kV_is_sign dc_is_sign pm_is_sign an_is_sign cd_is_sign ct_is_sign), sl_is_sign⟩) (c_is_sign : PySem.W.codeIn K cd_is_sign "is_sign" = true) (k_is_sign : PySem.W.keepIn K (.ref f_is_sign) = true)
    {f_is_signs : Addr} {od_is_signs an_is_signs : Option Addr} {sl_is_signs : Array (Option Value)} {oc_is_signs kV_is_signs dc_is_signs pm_is_signs cd_is_signs ct_is_signs : Value}
    (a_is_signs : PySem.W.nsIn K mainGlobals "is_signs" = some (some (.ref f_is_signs))) (l_is_signs : K.lookup f_is_signs = some ⟨oc_is_signs, od_is_signs, .func (PySem.W.fnOf "is_signs" "is_signs" (defArgs s_is_signs) (defBody s_is_signs) (defScope s_is_signs) .none kV_is_signs dc_is_signs pm_is_signs an_is_signs cd_is_signs ct_is_signs), sl_is_signs⟩) (c_is_signs : PySem.W.codeIn K cd_is_signs "is_signs" = true) (k_is_signs : PySem.W.keepIn K (.ref f_is_signs) = true)
    {f_dice : Addr} {od_dice an_dice : Option Addr} {sl_dice : Array (Option Value)} {oc_dice kV_dice dc_dice pm_dice cd_dice ct_dice : Value}
    (a_dice : PySem.W.nsIn K mainGlobals "_law_dice" = some (some (.ref f_dice))) (l_dice : K.lookup f_dice = some ⟨oc_dice, od_dice, .func (PySem.W.fnOf "_law_dice" "_law_dice" (defArgs s_dice) (defBody s_dice) (defScope s_dice) .none kV_dice dc_dice pm_dice an_dice cd_dice ct_dice), sl_dice⟩) (c_dice : PySem.W.codeIn K cd_dice "_law_dice" = true) (k_dice : PySem.W.keepIn K (.ref f_dice) = true)
    {f_roll : Addr} {od_roll an_roll : Option Addr} {sl_roll : Array (Option Value)} {oc_roll kV_roll dc_roll pm_roll cd_roll ct_roll : Value}
    (a_roll : PySem.W.nsIn K mainGlobals "_law_roll" = some (some (.ref f_roll))) (l_roll : K.lookup f_roll = some ⟨oc_roll, od_roll, .func (PySem.W.fnOf "_law_roll" "_law_roll" (defArgs s_roll) (defBody s_roll) (defScope s_roll) .none kV_roll dc_roll pm_roll an_roll cd_roll ct_roll), sl_roll⟩) (c_roll : PySem.W.codeIn K cd_roll "_law_roll" = true) (k_roll : PySem.W.keepIn K (.ref f_roll) = true)
    {f_pick : Addr} {od_pick an_pick : Option Addr} {sl_pick : Array (Option Value)} {oc_pick kV_pick dc_pick pm_pick cd_pick ct_pick : Value}
    (a_pick : PySem.W.nsIn K mainGlobals "_law_pick" = some (some (.ref f_pick))) (l_pick : K.lookup f_pick = some ⟨oc_pick, od_pick, .func (PySem.W.fnOf "_law_pick" "_law_pick" (defArgs s_pick) (defBody s_pick) (defScope s_pick) .none kV_pick dc_pick pm_pick an_pick cd_pick ct_pick), sl_pick⟩) (c_pick : PySem.W.codeIn K cd_pick "_law_pick" = true) (k_pick : PySem.W.keepIn K (.ref f_pick) = true)
    {f_some : Addr} {od_some an_some : Option Addr} {sl_some : Array (Option Value)} {oc_some kV_some dc_some pm_some cd_some ct_some : Value}
    (a_some : PySem.W.nsIn K mainGlobals "_law_some" = some (some (.ref f_some))) (l_some : K.lookup f_some = some ⟨oc_some, od_some, .func (PySem.W.fnOf "_law_some" "_law_some" (defArgs s_some) (defBody s_some) (defScope s_some) .none kV_some dc_some pm_some an_some cd_some ct_some), sl_some⟩) (c_some : PySem.W.codeIn K cd_some "_law_some" = true) (k_some : PySem.W.keepIn K (.ref f_some) = true)
    {f_book : Addr} {od_book an_book : Option Addr} {sl_book : Array (Option Value)} {oc_book kV_book dc_book pm_book cd_book ct_book : Value}
    (a_book : PySem.W.nsIn K mainGlobals "_law_book" = some (some (.ref f_book))) (l_book : K.lookup f_book = some ⟨oc_book, od_book, .func (PySem.W.fnOf "_law_book" "_law_book" (defArgs s_book) (defBody s_book) (defScope s_book) .none kV_book dc_book pm_book an_book cd_book ct_book), sl_book⟩) (c_book : PySem.W.codeIn K cd_book "_law_book" = true) (k_book : PySem.W.keepIn K (.ref f_book) = true)
    {f_roles : Addr} {od_roles an_roles : Option Addr} {sl_roles : Array (Option Value)} {oc_roles kV_roles dc_roles pm_roles cd_roles ct_roles : Value}
    (a_roles : PySem.W.nsIn K mainGlobals "_law_roles" = some (some (.ref f_roles))) (l_roles : K.lookup f_roles = some ⟨oc_roles, od_roles, .func (PySem.W.fnOf "_law_roles" "_law_roles" (defArgs s_roles) (defBody s_roles) (defScope s_roles) .none kV_roles dc_roles pm_roles an_roles cd_roles ct_roles), sl_roles⟩) (c_roles : PySem.W.codeIn K cd_roles "_law_roles" = true) (k_roles : PySem.W.keepIn K (.ref f_roles) = true)
    {f_words : Addr} {od_words an_words : Option Addr} {sl_words : Array (Option Value)} {oc_words kV_words dc_words pm_words cd_words ct_words : Value}
    (a_words : PySem.W.nsIn K mainGlobals "_law_words" = some (some (.ref f_words))) (l_words : K.lookup f_words = some ⟨oc_words, od_words, .func (PySem.W.fnOf "_law_words" "_law_words" (defArgs s_words) (defBody s_words) (defScope s_words) .none kV_words dc_words pm_words an_words cd_words ct_words), sl_words⟩) (c_words : PySem.W.codeIn K cd_words "_law_words" = true) (k_words : PySem.W.keepIn K (.ref f_words) = true)
    {f_head : Addr} {od_head an_head : Option Addr} {sl_head : Array (Option Value)} {oc_head kV_head dc_head pm_head cd_head ct_head : Value}
    (a_head : PySem.W.nsIn K mainGlobals "_law_head" = some (some (.ref f_head))) (l_head : K.lookup f_head = some ⟨oc_head, od_head, .func (PySem.W.fnOf "_law_head" "_law_head" (defArgs s_head) (defBody s_head) (defScope s_head) .none kV_head dc_head pm_head an_head cd_head ct_head), sl_head⟩) (c_head : PySem.W.codeIn K cd_head "_law_head" = true) (k_head : PySem.W.keepIn K (.ref f_head) = true)
    {f_body : Addr} {od_body an_body : Option Addr} {sl_body : Array (Option Value)} {oc_body kV_body dc_body pm_body cd_body ct_body : Value}
    (a_body : PySem.W.nsIn K mainGlobals "_law_body" = some (some (.ref f_body))) (l_body : K.lookup f_body = some ⟨oc_body, od_body, .func (PySem.W.fnOf "_law_body" "_law_body" (defArgs s_body) (defBody s_body) (defScope s_body) .none kV_body dc_body pm_body an_body cd_body ct_body), sl_body⟩) (c_body : PySem.W.codeIn K cd_body "_law_body" = true) (k_body : PySem.W.keepIn K (.ref f_body) = true)
    {f_line : Addr} {od_line an_line : Option Addr} {sl_line : Array (Option Value)} {oc_line kV_line dc_line pm_line cd_line ct_line : Value}
    (a_line : PySem.W.nsIn K mainGlobals "_law_line" = some (some (.ref f_line))) (l_line : K.lookup f_line = some ⟨oc_line, od_line, .func (PySem.W.fnOf "_law_line" "_law_line" (defArgs s_line) (defBody s_line) (defScope s_line) .none kV_line dc_line pm_line an_line cd_line ct_line), sl_line⟩) (c_line : PySem.W.codeIn K cd_line "_law_line" = true) (k_line : PySem.W.keepIn K (.ref f_line) = true)
    {f_end : Addr} {od_end an_end : Option Addr} {sl_end : Array (Option Value)} {oc_end kV_end dc_end pm_end cd_end ct_end : Value}
    (a_end : PySem.W.nsIn K mainGlobals "_law_end" = some (some (.ref f_end))) (l_end : K.lookup f_end = some ⟨oc_end, od_end, .func (PySem.W.fnOf "_law_end" "_law_end" (defArgs s_end) (defBody s_end) (defScope s_end) .none kV_end dc_end pm_end an_end cd_end ct_end), sl_end⟩) (c_end : PySem.W.codeIn K cd_end "_law_end" = true) (k_end : PySem.W.keepIn K (.ref f_end) = true)
    {f_read : Addr} {od_read an_read : Option Addr} {sl_read : Array (Option Value)} {oc_read kV_read dc_read pm_read cd_read ct_read : Value}
    (a_read : PySem.W.nsIn K mainGlobals "_law_read" = some (some (.ref f_read))) (l_read : K.lookup f_read = some ⟨oc_read, od_read, .func (PySem.W.fnOf "_law_read" "_law_read" (defArgs s_read) (defBody s_read) (defScope s_read) .none kV_read dc_read pm_read an_read cd_read ct_read), sl_read⟩) (c_read : PySem.W.codeIn K cd_read "_law_read" = true) (k_read : PySem.W.keepIn K (.ref f_read) = true)
    {f_columns_near : Addr} {od_columns_near an_columns_near : Option Addr} {sl_columns_near : Array (Option Value)} {oc_columns_near kV_columns_near dc_columns_near pm_columns_near cd_columns_near ct_columns_near : Value}
    (a_columns_near : PySem.W.nsIn K mainGlobals "_law_columns_near" = some (some (.ref f_columns_near))) (l_columns_near : K.lookup f_columns_near = some ⟨oc_columns_near, od_columns_near, .func (PySem.W.fnOf "_law_columns_near" "_law_columns_near" (defArgs s_columns_near) (defBody s_columns_near) (defScope s_columns_near) .none kV_columns_near dc_columns_near pm_columns_near an_columns_near cd_columns_near ct_columns_near), sl_columns_near⟩) (c_columns_near : PySem.W.codeIn K cd_columns_near "_law_columns_near" = true) (k_columns_near : PySem.W.keepIn K (.ref f_columns_near) = true)
    {f_good_line : Addr} {od_good_line an_good_line : Option Addr} {sl_good_line : Array (Option Value)} {oc_good_line kV_good_line dc_good_line pm_good_line cd_good_line ct_good_line : Value}
    (a_good_line : PySem.W.nsIn K mainGlobals "_law_good_line" = some (some (.ref f_good_line))) (l_good_line : K.lookup f_good_line = some ⟨oc_good_line, od_good_line, .func (PySem.W.fnOf "_law_good_line" "_law_good_line" (defArgs s_good_line) (defBody s_good_line) (defScope s_good_line) .none kV_good_line dc_good_line pm_good_line an_good_line cd_good_line ct_good_line), sl_good_line⟩) (c_good_line : PySem.W.codeIn K cd_good_line "_law_good_line" = true) (k_good_line : PySem.W.keepIn K (.ref f_good_line) = true)
    {f_good_text : Addr} {od_good_text an_good_text : Option Addr} {sl_good_text : Array (Option Value)} {oc_good_text kV_good_text dc_good_text pm_good_text cd_good_text ct_good_text : Value}
    (a_good_text : PySem.W.nsIn K mainGlobals "_law_good_text" = some (some (.ref f_good_text))) (l_good_text : K.lookup f_good_text = some ⟨oc_good_text, od_good_text, .func (PySem.W.fnOf "_law_good_text" "_law_good_text" (defArgs s_good_text) (defBody s_good_text) (defScope s_good_text) .none kV_good_text dc_good_text pm_good_text an_good_text cd_good_text ct_good_text), sl_good_text⟩) (c_good_text : PySem.W.codeIn K cd_good_text "_law_good_text" = true) (k_good_text : PySem.W.keepIn K (.ref f_good_text) = true)
    {f_filling : Addr} {od_filling an_filling : Option Addr} {sl_filling : Array (Option Value)} {oc_filling kV_filling dc_filling pm_filling cd_filling ct_filling : Value}
    (a_filling : PySem.W.nsIn K mainGlobals "_law_filling" = some (some (.ref f_filling))) (l_filling : K.lookup f_filling = some ⟨oc_filling, od_filling, .func (PySem.W.fnOf "_law_filling" "_law_filling" (defArgs s_filling) (defBody s_filling) (defScope s_filling) .none kV_filling dc_filling pm_filling an_filling cd_filling ct_filling), sl_filling⟩) (c_filling : PySem.W.codeIn K cd_filling "_law_filling" = true) (k_filling : PySem.W.keepIn K (.ref f_filling) = true)
    {f_right : Addr} {od_right an_right : Option Addr} {sl_right : Array (Option Value)} {oc_right kV_right dc_right pm_right cd_right ct_right : Value}
    (a_right : PySem.W.nsIn K mainGlobals "_law_right" = some (some (.ref f_right))) (l_right : K.lookup f_right = some ⟨oc_right, od_right, .func (PySem.W.fnOf "_law_right" "_law_right" (defArgs s_right) (defBody s_right) (defScope s_right) .none kV_right dc_right pm_right an_right cd_right ct_right), sl_right⟩) (c_right : PySem.W.codeIn K cd_right "_law_right" = true) (k_right : PySem.W.keepIn K (.ref f_right) = true)
    {f_law : Addr} {od_law an_law : Option Addr} {sl_law : Array (Option Value)} {oc_law kV_law dc_law pm_law cd_law ct_law : Value}
    (a_law : PySem.W.nsIn K mainGlobals "law" = some (some (.ref f_law))) (l_law : K.lookup f_law = some ⟨oc_law, od_law, .func (PySem.W.fnOf "law" "law" (defArgs s_law) (defBody s_law) (defScope s_law) .none kV_law dc_law pm_law an_law cd_law ct_law), sl_law⟩) (c_law : PySem.W.codeIn K cd_law "law" = true) (k_law : PySem.W.keepIn K (.ref f_law) = true)
    {t_MAX_LETTERS : Tok} (m_MAX_LETTERS : PySem.W.nsIn K mainGlobals "MAX_LETTERS" = some (some (.int (8) t_MAX_LETTERS)))
    {ad_SIGNS : Addr} {dd_SIGNS : Option Addr} {n_SIGNS : Nat} {sd_SIGNS : Array (Option Value)} {tk0_SIGNS tk1_SIGNS tk2_SIGNS : Tok} (m_SIGNS : PySem.W.nsIn K mainGlobals "SIGNS" = some (some (.ref ad_SIGNS))) (ml_SIGNS : K.lookup ad_SIGNS = some ⟨.type "tuple", dd_SIGNS, .seq #[.str "{" tk0_SIGNS, .str "}" tk1_SIGNS, .str ";" tk2_SIGNS] n_SIGNS, sd_SIGNS⟩)
    (z_isinstance : PySem.W.nsIn K mainGlobals "isinstance" = some none)
    (z_str : PySem.W.nsIn K mainGlobals "str" = some none)
    (z_len : PySem.W.nsIn K mainGlobals "len" = some none)
    (z_tuple : PySem.W.nsIn K mainGlobals "tuple" = some none)
    (z_all : PySem.W.nsIn K mainGlobals "all" = some none)
    (z_int : PySem.W.nsIn K mainGlobals "int" = some none)
    (z_abs : PySem.W.nsIn K mainGlobals "abs" = some none)
    (z_max : PySem.W.nsIn K mainGlobals "max" = some none)
    (z_list : PySem.W.nsIn K mainGlobals "list" = some none)
    (z_range : PySem.W.nsIn K mainGlobals "range" = some none)
    (z_min : PySem.W.nsIn K mainGlobals "min" = some none)
    (z_sorted : PySem.W.nsIn K mainGlobals "sorted" = some none) :
    ∃ fd : FuncData, (∀ (s : Shared) (v : Value), BindsTo s fd ⟨[v], []⟩ [("_law_script", v)]) ∧ ∀ base : Heap, K.In base → base.Ns mainGlobals mg → FnOk l.prog w K mg base CX0 7 fa fd ["_law_script"] (spLaw K) := by
  have e := hfa.symm.trans (PySem.W.mg_of X G a_law)
  cases e
  let T : Txt K mg := {
    f_is_word := f_is_word, fd_is_word := _, F_is_word := fun_mk (st := s_is_word) l_is_word c_is_word k_is_word, g_is_word := PySem.W.mg_of X G a_is_word, b_is_word := (fun_mk (st := s_is_word) l_is_word c_is_word k_is_word).binds (ps := ["value"]) (fun _ _ _ _ _ _ us hl => match us, hl with | [_], _ => rfl),
    f_is_sign := f_is_sign, fd_is_sign := _, F_is_sign := fun_mk (st := s_is_sign) l_is_sign c_is_sign k_is_sign, g_is_sign := PySem.W.mg_of X G a_is_sign, b_is_sign := (fun_mk (st := s_is_sign) l_is_sign c_is_sign k_is_sign).binds (ps := ["value"]) (fun _ _ _ _ _ _ us hl => match us, hl with | [_], _ => rfl),
    f_is_signs := f_is_signs, fd_is_signs := _, F_is_signs := fun_mk (st := s_is_signs) l_is_signs c_is_signs k_is_signs, g_is_signs := PySem.W.mg_of X G a_is_signs, b_is_signs := (fun_mk (st := s_is_signs) l_is_signs c_is_signs k_is_signs).binds (ps := ["value"]) (fun _ _ _ _ _ _ us hl => match us, hl with | [_], _ => rfl),
    f_dice := f_dice, fd_dice := _, F_dice := fun_mk (st := s_dice) l_dice c_dice k_dice, g_dice := PySem.W.mg_of X G a_dice, b_dice := (fun_mk (st := s_dice) l_dice c_dice k_dice).binds (ps := ["_law_script", "_law_spot"]) (fun _ _ _ _ _ _ us hl => match us, hl with | [_, _], _ => rfl),
    f_roll := f_roll, fd_roll := _, F_roll := fun_mk (st := s_roll) l_roll c_roll k_roll, g_roll := PySem.W.mg_of X G a_roll, b_roll := (fun_mk (st := s_roll) l_roll c_roll k_roll).binds (ps := ["_law_dice_here", "_law_total"]) (fun _ _ _ _ _ _ us hl => match us, hl with | [_, _], _ => rfl),
    f_pick := f_pick, fd_pick := _, F_pick := fun_mk (st := s_pick) l_pick c_pick k_pick, g_pick := PySem.W.mg_of X G a_pick, b_pick := (fun_mk (st := s_pick) l_pick c_pick k_pick).binds (ps := ["_law_dice_here", "_law_items"]) (fun _ _ _ _ _ _ us hl => match us, hl with | [_, _], _ => rfl),
    f_some := f_some, fd_some := _, F_some := fun_mk (st := s_some) l_some c_some k_some, g_some := PySem.W.mg_of X G a_some, b_some := (fun_mk (st := s_some) l_some c_some k_some).binds (ps := ["_law_dice_here", "_law_items", "_law_size"]) (fun _ _ _ _ _ _ us hl => match us, hl with | [_, _, _], _ => rfl),
    f_book := f_book, fd_book := _, F_book := fun_mk (st := s_book) l_book c_book k_book, g_book := PySem.W.mg_of X G a_book, b_book := (fun_mk (st := s_book) l_book c_book k_book).binds (ps := ["_law_dice_here"]) (fun _ _ _ _ _ _ us hl => match us, hl with | [_], _ => rfl),
    f_roles := f_roles, fd_roles := _, F_roles := fun_mk (st := s_roles) l_roles c_roles k_roles, g_roles := PySem.W.mg_of X G a_roles, b_roles := (fun_mk (st := s_roles) l_roles c_roles k_roles).binds (ps := ["_law_book_here"]) (fun _ _ _ _ _ _ us hl => match us, hl with | [_], _ => rfl),
    f_words := f_words, fd_words := _, F_words := fun_mk (st := s_words) l_words c_words k_words, g_words := PySem.W.mg_of X G a_words, b_words := (fun_mk (st := s_words) l_words c_words k_words).binds (ps := ["_law_dice_here", "_law_book_here"]) (fun _ _ _ _ _ _ us hl => match us, hl with | [_, _], _ => rfl),
    f_head := f_head, fd_head := _, F_head := fun_mk (st := s_head) l_head c_head k_head, g_head := PySem.W.mg_of X G a_head, b_head := (fun_mk (st := s_head) l_head c_head k_head).binds (ps := ["_law_book_here", "_law_state", "_law_line_here"]) (fun _ _ _ _ _ _ us hl => match us, hl with | [_, _, _], _ => rfl),
    f_body := f_body, fd_body := _, F_body := fun_mk (st := s_body) l_body c_body k_body, g_body := PySem.W.mg_of X G a_body, b_body := (fun_mk (st := s_body) l_body c_body k_body).binds (ps := ["_law_book_here", "_law_pile", "_law_words_here"]) (fun _ _ _ _ _ _ us hl => match us, hl with | [_, _, _], _ => rfl),
    f_line := f_line, fd_line := _, F_line := fun_mk (st := s_line) l_line c_line k_line, g_line := PySem.W.mg_of X G a_line, b_line := (fun_mk (st := s_line) l_line c_line k_line).binds (ps := ["_law_book_here", "_law_state", "_law_line_here"]) (fun _ _ _ _ _ _ us hl => match us, hl with | [_, _, _], _ => rfl),
    f_end := f_end, fd_end := _, F_end := fun_mk (st := s_end) l_end c_end k_end, g_end := PySem.W.mg_of X G a_end, b_end := (fun_mk (st := s_end) l_end c_end k_end).binds (ps := ["_law_book_here", "_law_state"]) (fun _ _ _ _ _ _ us hl => match us, hl with | [_, _], _ => rfl),
    f_read := f_read, fd_read := _, F_read := fun_mk (st := s_read) l_read c_read k_read, g_read := PySem.W.mg_of X G a_read, b_read := (fun_mk (st := s_read) l_read c_read k_read).binds (ps := ["_law_book_here", "_law_lines"]) (fun _ _ _ _ _ _ us hl => match us, hl with | [_, _], _ => rfl),
    f_columns_near := f_columns_near, fd_columns_near := _, F_columns_near := fun_mk (st := s_columns_near) l_columns_near c_columns_near k_columns_near, g_columns_near := PySem.W.mg_of X G a_columns_near, b_columns_near := (fun_mk (st := s_columns_near) l_columns_near c_columns_near k_columns_near).binds (ps := ["_law_dice_here", "_law_state"]) (fun _ _ _ _ _ _ us hl => match us, hl with | [_, _], _ => rfl),
    f_good_line := f_good_line, fd_good_line := _, F_good_line := fun_mk (st := s_good_line) l_good_line c_good_line k_good_line, g_good_line := PySem.W.mg_of X G a_good_line, b_good_line := (fun_mk (st := s_good_line) l_good_line c_good_line k_good_line).binds (ps := ["_law_dice_here", "_law_book_here", "_law_state"]) (fun _ _ _ _ _ _ us hl => match us, hl with | [_, _, _], _ => rfl),
    f_good_text := f_good_text, fd_good_text := _, F_good_text := fun_mk (st := s_good_text) l_good_text c_good_text k_good_text, g_good_text := PySem.W.mg_of X G a_good_text, b_good_text := (fun_mk (st := s_good_text) l_good_text c_good_text k_good_text).binds (ps := ["_law_dice_here", "_law_book_here", "_law_size"]) (fun _ _ _ _ _ _ us hl => match us, hl with | [_, _, _], _ => rfl),
    f_filling := f_filling, fd_filling := _, F_filling := fun_mk (st := s_filling) l_filling c_filling k_filling, g_filling := PySem.W.mg_of X G a_filling, b_filling := (fun_mk (st := s_filling) l_filling c_filling k_filling).binds (ps := ["_law_state"]) (fun _ _ _ _ _ _ us hl => match us, hl with | [_], _ => rfl),
    f_right := f_right, fd_right := _, F_right := fun_mk (st := s_right) l_right c_right k_right, g_right := PySem.W.mg_of X G a_right, b_right := (fun_mk (st := s_right) l_right c_right k_right).binds (ps := ["_law_dice_here"]) (fun _ _ _ _ _ _ us hl => match us, hl with | [_], _ => rfl),
    t_MAX_LETTERS := t_MAX_LETTERS, c_MAX_LETTERS := PySem.W.mg_of X G m_MAX_LETTERS,
    a_SIGNS := ad_SIGNS, c_SIGNS := PySem.W.mg_of X G m_SIGNS, q_SIGNS := fun H => .inr ⟨_, _, _, ml_SIGNS, rfl, rfl, Nat.le_trans (m := 100000) (Nat.le_of_ble_eq_true rfl) (by decide), (.cons ⟨_, rfl⟩ (.cons ⟨_, rfl⟩ (.cons ⟨_, rfl⟩ .nil)))⟩,
    z_isinstance := PySem.W.mg_none_of X G z_isinstance,
    z_str := PySem.W.mg_none_of X G z_str,
    z_len := PySem.W.mg_none_of X G z_len,
    z_tuple := PySem.W.mg_none_of X G z_tuple,
    z_all := PySem.W.mg_none_of X G z_all,
    z_int := PySem.W.mg_none_of X G z_int,
    z_abs := PySem.W.mg_none_of X G z_abs,
    z_max := PySem.W.mg_none_of X G z_max,
    z_list := PySem.W.mg_none_of X G z_list,
    z_range := PySem.W.mg_none_of X G z_range,
    z_min := PySem.W.mg_none_of X G z_min,
    z_sorted := PySem.W.mg_none_of X G z_sorted }
  exact ⟨_, fun s v => .of_eq rfl, fun base _ _ => ok_law T (fun_mk (st := s_law) l_law c_law k_law)⟩
end My
open PySem PySem.W PyProof.Rows
set_option maxHeartbeats 0 in
theorem PySem.Challenge.cw_offside_k04_signs_judged_holds : PySem.Challenge.rw_offside_k04_signs_judged.Holds := by
  w_on; o_law; k_head; (case hw => w_witness2)
  k_fill
  refine L2.walk_of (l := PySem.Challenge.rw_offside_k04_signs_judged) (n := 63) (k := 7) (x := "_law_script") (CX := fun _ => L2.CX0) (sp := fun w => My.spLaw _) rfl (by decide) rfl ⟨rfl, by decide, by decide⟩ (fun w h Y => PySem.W.kIn_of Y) ?F (fun _ _ a ns hl _ hS => ⟨a, ns, rfl, hS, hl, fun _ => rfl⟩) (fun _ _ _ _ _ h => h)
  case F =>
    intro w mg fa h KX G hmg
    refine' My.all_mk KX G hmg ?a_is_word ?l_is_word ?c_is_word ?k_is_word ?a_is_sign ?l_is_sign ?c_is_sign ?k_is_sign ?a_is_signs ?l_is_signs ?c_is_signs ?k_is_signs ?a_dice ?l_dice ?c_dice ?k_dice ?a_roll ?l_roll ?c_roll ?k_roll ?a_pick ?l_pick ?c_pick ?k_pick ?a_some ?l_some ?c_some ?k_some ?a_book ?l_book ?c_book ?k_book ?a_roles ?l_roles ?c_roles ?k_roles ?a_words ?l_words ?c_words ?k_words ?a_head ?l_head ?c_head ?k_head ?a_body ?l_body ?c_body ?k_body ?a_line ?l_line ?c_line ?k_line ?a_end ?l_end ?c_end ?k_end ?a_read ?l_read ?c_read ?k_read ?a_columns_near ?l_columns_near ?c_columns_near ?k_columns_near ?a_good_line ?l_good_line ?c_good_line ?k_good_line ?a_good_text ?l_good_text ?c_good_text ?k_good_text ?a_filling ?l_filling ?c_filling ?k_filling ?a_right ?l_right ?c_right ?k_right ?a_law ?l_law ?c_law ?k_law ?m_MAX_LETTERS ?m_SIGNS ?ml_SIGNS ?z_isinstance ?z_str ?z_len ?z_tuple ?z_all ?z_int ?z_abs ?z_max ?z_list ?z_range ?z_min ?z_sorted
    (case a_is_word => k_is); (case l_is_word => k_is); (case c_is_word => k_is); (case k_is_word => k_is); (case a_is_sign => k_is); (case l_is_sign => k_is); (case c_is_sign => k_is); (case k_is_sign => k_is); (case a_is_signs => k_is); (case l_is_signs => k_is); (case c_is_signs => k_is); (case k_is_signs => k_is); (case a_dice => k_is); (case l_dice => k_is); (case c_dice => k_is); (case k_dice => k_is); (case a_roll => k_is); (case l_roll => k_is); (case c_roll => k_is); (case k_roll => k_is); (case a_pick => k_is); (case l_pick => k_is); (case c_pick => k_is); (case k_pick => k_is); (case a_some => k_is); (case l_some => k_is); (case c_some => k_is); (case k_some => k_is); (case a_book => k_is); (case l_book => k_is); (case c_book => k_is); (case k_book => k_is); (case a_roles => k_is); (case l_roles => k_is); (case c_roles => k_is); (case k_roles => k_is); (case a_words => k_is); (case l_words => k_is); (case c_words => k_is); (case k_words => k_is); (case a_head => k_is); (case l_head => k_is); (case c_head => k_is); (case k_head => k_is); (case a_body => k_is); (case l_body => k_is); (case c_body => k_is); (case k_body => k_is); (case a_line => k_is); (case l_line => k_is); (case c_line => k_is); (case k_line => k_is); (case a_end => k_is); (case l_end => k_is); (case c_end => k_is); (case k_end => k_is); (case a_read => k_is); (case l_read => k_is); (case c_read => k_is); (case k_read => k_is); (case a_columns_near => k_is); (case l_columns_near => k_is); (case c_columns_near => k_is); (case k_columns_near => k_is); (case a_good_line => k_is); (case l_good_line => k_is); (case c_good_line => k_is); (case k_good_line => k_is); (case a_good_text => k_is); (case l_good_text => k_is); (case c_good_text => k_is); (case k_good_text => k_is); (case a_filling => k_is); (case l_filling => k_is); (case c_filling => k_is); (case k_filling => k_is); (case a_right => k_is); (case l_right => k_is); (case c_right => k_is); (case k_right => k_is); (case a_law => k_is); (case l_law => k_is); (case c_law => k_is); (case k_law => k_is); (case m_MAX_LETTERS => k_is); (case m_SIGNS => k_is); (case ml_SIGNS => k_is); (case z_isinstance => k_is); (case z_str => k_is); (case z_len => k_is); (case z_tuple => k_is); (case z_all => k_is); (case z_int => k_is); (case z_abs => k_is); (case z_max => k_is); (case z_list => k_is); (case z_range => k_is); (case z_min => k_is); (case z_sorted => k_is)

