import PyProof.Rows.All
import HandS.Base
import HandS.Call
import HandS.List
import HandS.Comp
import HandS.Ends
import HandS.Words
import HandS.WordsList
import HandS.Text
import HandS.StrMore
import HandS.Iter
import HandS.Walk
import HandS.IsInst
import HandS.Conv
import HandS.Dict
import HandS.NoneIn
import HandS.More
import HandS.Deep
import HandS.TupMul
import PyProof.ReprRoads
import PyProof.ReprReads
import PySem.Challenge.RW_offside_k03_lines_judged
set_option Elab.async false
set_option linter.all false
set_option maxRecDepth 100000
set_option maxHeartbeats 4000000
--HEADEND
namespace My
open PySem PySem.Spec PyProof.Rows L2
/-! ### rules that the layer lacks, and its own with their readings named -/
/-- the one-sign texts of a list of signs -/
def sg (cs : List Nat) : List V := cs.map fun c => .str ⟨#[c]⟩
section
variable {X : Cx}
def wListS : List V → Hp → VK → Prop := fun xs H Q => ∃ z : Str, xs = [.str z] ∧ z.length ≤ sizeLine ∧ ∀ l, H l = none → Q (.ref l) (upd H l (.lst (sg z.cps.toList)))
theorem c_listS (hc : X.calm = true) : CallR X (.type "list") wListS := by
  intro pins s σ H xs us Q I r h
  obtain ⟨z, rfl, hz, q⟩ := h
  obtain ⟨u, rfl, t, rfl⟩ := vals1 r
  refine call_list_str (I.ok.hd hc) z t (fun h' tk acc' c' hkeep hS hacc => ?_) hz
  refine ⟨.ref s.heap.objs.size, upd H s.heap.objs.size (.lst (sg z.cps.toList)), I.laid hkeep (Nat.le_refl _) (show ObjOk X.prog X.w _ _ _ (.lst (sg z.cps.toList)) from ⟨?_, acc'.toList, c', ?_, ?_⟩), rfl, q _ (I.hok.fresh (Nat.le_refl _))⟩
  · unfold sg
    rw [List.length_map, Array.length_toList]
    exact hz
  · refine vals_of_at (by unfold sg; rw [List.length_map, Array.length_toList, Array.length_toList, hacc.1]) fun j x w h1 h2 => ?_
    obtain ⟨c, u, hc1, e⟩ := hacc.2 j w (by rw [← Array.getElem?_toList]; exact h2)
    unfold sg at h1
    rw [List.getElem?_map, Array.getElem?_toList, hc1] at h1
    cases h1
    exact ⟨u, e⟩
  · rw [Array.toArray_toList]
    exact hS
theorem op_powW : OpR X (binaryOp .Pow) (rI (fun i j => 0 ≤ j ∧ (Builtin.Int.intBits i : Int) * j ≤ 2 ^ 27) fun i j => .int (i ^ j.toNat)) := opI fun _ _ _ _ _ _ _ hc q => pow_int hc.1 hc.2 q
def wReprB : List V → Hp → VK → Prop := fun xs H Q => ∃ b, xs = [.bl b] ∧ Q (.str (if b then "True" else "False")) H
theorem call_repr_bl : CallR X (.builtin "repr") wReprB := by
  intro pins s σ H xs us Q I r h
  obtain ⟨b, rfl, q⟩ := h
  obtain ⟨u, rfl, rx⟩ := vals1 r
  cases rx
  exact PySem.P.repr_of_bool ⟨.str _, H, I.tok _, ⟨_, rfl⟩, q⟩
def wInt1 : List V → Hp → VK → Prop := fun xs H Q => (∃ i, xs = [.int i] ∧ Q (.int i) H) ∨ ∃ k, xs = [.bl k] ∧ Q (.int (if k then 1 else 0)) H
theorem c_int1 : CallR X (.type "int") wInt1 := call_int1
def wAbs : List V → Hp → VK → Prop := fun xs H Q => ∃ i, xs = [.int i] ∧ Q (.int (if i < 0 then -i else i)) H
theorem c_abs : CallR X (.builtin "abs") wAbs := call_abs
def wMax2 : List V → Hp → VK → Prop := fun xs H Q => ∃ i j, xs = [.int i, .int j] ∧ Q (.int (if j > i then j else i)) H
theorem c_max2 (hc : X.calm = true) : CallR X (.builtin "max") wMax2 := call_max2 hc
def wMin2 : List V → Hp → VK → Prop := fun xs H Q => ∃ i j, xs = [.int i, .int j] ∧ Q (.int (if j < i then j else i)) H
theorem c_min2 (hc : X.calm = true) : CallR X (.builtin "min") wMin2 := call_min2 hc
def wLenS (K : PySem.W.Frag) : List V → Hp → VK → Prop := fun xs H Q => ∃ p ys, xs = [.ref p] ∧ (SqL K H p ys ∨ SqT K H p ys) ∧ Q (.int (ys.length : Int)) H
theorem c_len {K : PySem.W.Frag} (hK : X.K = K := by rfl) : CallR X (.builtin "len") (wLenS K) := by
  subst hK
  exact call_len_seq
def wLenT : List V → Hp → VK → Prop := fun xs H Q => ∃ z, xs = [.str z] ∧ z.length ≤ sizeLine ∧ Q (.int (z.length : Int)) H
theorem c_lenT : CallR X (.builtin "len") wLenT := call_len_str
def wListOf (K : PySem.W.Frag) : List V → Hp → VK → Prop := fun xs H Q => ∃ p ys, xs = [.ref p] ∧ (SqL K H p ys ∨ SqT K H p ys) ∧ ∀ l, H l = none → Q (.ref l) (upd H l (.lst ys))
theorem c_list {K : PySem.W.Frag} (hK : X.K = K := by rfl) : CallR X (.type "list") (wListOf K) := by
  subst hK
  exact call_list_of
def wTupleOf (K : PySem.W.Frag) : List V → Hp → VK → Prop := fun xs H Q => ∃ p ys, xs = [.ref p] ∧ ((SqL K H p ys ∧ ∀ l, H l = none → Q (.ref l) (upd H l (.tup ys))) ∨ (SqT K H p ys ∧ Q (.ref p) H))
theorem c_tuple {K : PySem.W.Frag} (hK : X.K = K := by rfl) : CallR X (.type "tuple") (wTupleOf K) := by
  subst hK
  exact call_tuple_of
def wStrB (f : Str → Bool) : V → List V → Hp → VK → Prop := fun x xs H Q => ∃ a, x = .str a ∧ xs = [] ∧ True ∧ Q (.bl (f a)) H
theorem c_isascii : MtR X "str.isascii" (wStrB Txt.isascii) := mt_isascii
theorem c_isalpha : MtR X "str.isalpha" (wStrB Txt.isalpha) := mt_isalpha
theorem c_islower : MtR X "str.islower" (wStrB Txt.islower) := mt_islower
def wAddS : R2 := fun x y H Q => ∃ i j, x = .str i ∧ y = .str j ∧ i.length + j.length ≤ sizeLine ∧ Q (.str (i ++ j)) H
theorem o_adds : OpR X (binaryOp .Add) wAddS := op_add_str
def wNotInC : R2 := fun x y H Q => ∃ (c : Nat) (z : Str), x = .str ⟨#[c]⟩ ∧ y = .str z ∧ Q (.bl (!decide (c ∈ z.cps.toList))) H
theorem o_notInC : OpR X (compareOp .NotIn) wNotInC := op_notIn_sign
def wJoin (K : PySem.W.Frag) : V → List V → Hp → VK → Prop := fun x xs H Q => ∃ a p, ∃ ys : List Str, x = .str a ∧ xs = [.ref p] ∧ (SqL K H p (ys.map V.str) ∨ SqT K H p (ys.map V.str)) ∧
    (ys.map (·.length)).sum + ys.length * a.length ≤ 16777216 ∧ Q (.str (Txt.join a ys)) H
def wInsert : V → List V → Hp → VK → Prop := fun x vs H Q => ∃ (l : Addr) (xs : List V) (i : Int) (y : V), x = .ref l ∧ vs = [.int i, y] ∧ H l = some (.lst xs) ∧ xs.length < sizeLine ∧ 0 ≤ i ∧ i < 2 ^ 63 ∧
    Q .non (upd H l (.lst (xs.take i.toNat ++ [y] ++ xs.drop i.toNat)))
theorem c_insert : MtR X "list.insert" wInsert := mt_insert
theorem c_join {K : PySem.W.Frag} (hK : X.K = K := by rfl) : MtR X "str.join" (wJoin K) := by
  subst hK
  exact mt_join
theorem c_isi {K : PySem.W.Frag} (hK : X.K = K := by rfl) : CallR X (.builtin "isinstance") (rIsi K) := by
  subst hK
  exact call_isi
theorem o_eqD {K : PySem.W.Frag} (hu : X.A.units + 64 < cLine) (hK : X.K = K := by rfl) : OpR X (compareOp .Eq) (rEqD K) := by
  subst hK
  exact op_eqD hu
theorem o_neD {K : PySem.W.Frag} (hu : X.A.units + 64 < cLine) (hK : X.K = K := by rfl) : OpR X (compareOp .NotEq) (rNeD K) := by
  subst hK
  exact op_neD hu
theorem o_inD {K : PySem.W.Frag} (hu : X.A.units + 65 < cLine) (hK : X.K = K := by rfl) : OpR X (compareOp .In) (rInD K) := by
  subst hK
  exact op_inD hu
theorem o_notInD {K : PySem.W.Frag} (hu : X.A.units + 65 < cLine) (hK : X.K = K := by rfl) : OpR X (compareOp .NotIn) (rNotInD K) := by
  subst hK
  exact op_notInD hu
theorem hu65 {k : Nat} {A : Around} (hr : Room k A) : A.units + 65 < cLine := by
  have := hr.un
  omega
theorem o_inL {K : PySem.W.Frag} (hK : X.K = K := by rfl) : OpR X (compareOp .In) (rIn K false) := by
  subst hK
  exact op_in_seq
theorem o_notInL {K : PySem.W.Frag} (hK : X.K = K := by rfl) : OpR X (compareOp .NotIn) (rIn K true) := by
  subst hK
  exact op_notIn_seq
theorem i_list {K : PySem.W.Frag} (hK : X.K = K := by rfl) : IxR X (rIxL K) := by
  subst hK
  exact ix_list
theorem i_tup {K : PySem.W.Frag} (hK : X.K = K := by rfl) : IxR X (rIxT K) := by
  subst hK
  exact ix_tup
theorem s_list {K : PySem.W.Frag} (hK : X.K = K := by rfl) : SlR X (rSlL K) := by
  subst hK
  exact sl_list
theorem p_list {K : PySem.W.Frag} {tg l : Expr} {tl : TE} (hl : PE X l tl) (hK : X.K = K := by rfl) : PI X tg l (iList K tl) := by
  subst hK
  exact pi_list hl
theorem p_tup {K : PySem.W.Frag} {tg l : Expr} {tl : TE} (hl : PE X l tl) (hK : X.K = K := by rfl) : PI X tg l (iTup K tl) := by
  subst hK
  exact pi_tup hl
theorem c_all {K : PySem.W.Frag} (hc : X.calm = true) (hK : X.K = K := by rfl) : CallR X (.builtin "all") (rAll K) := by
  subst hK
  exact cr_all hc
theorem e_bm0 {K : PySem.W.Frag} {T id : String} {name : Str} {r : V → List V → Hp → VK → Prop} {o : Expr} {to : TE} {apos cpos : Pos} (pa : PlainAttrs T) (slot : Slot T name id) (hty : typeOf (.builtin id) = pure (.type "method_descriptor")) (hm : MtR X id r) (ho : PE X o to) (hK : X.K = K := by rfl)
    (hbase : attributeBase o name X.env (eval o X.env) = eval o X.env := by rfl) (hline : (apos.endLine == cpos.line) = true := by rfl) : PE X (.Call (.Attribute o name apos) [] [] cpos) (tBM0 K T r to) := by
  subst hK
  exact pe_bm0 pa slot hty hm ho hbase hline
theorem e_bm {K : PySem.W.Frag} {T id : String} {name : Str} {r : V → List V → Hp → VK → Prop} {o e : Expr} {es : List Expr} {to : TE} {t : TA} {apos cpos : Pos} (pa : PlainAttrs T) (slot : Slot T name id) (hty : typeOf (.builtin id) = pure (.type "method_descriptor")) (hm : MtR X id r) (ho : PE X o to) (ha : PA X (e :: es) t) (hK : X.K = K := by rfl)
    (hbase : attributeBase o name X.env (eval o X.env) = eval o X.env := by rfl)
    (hfew : ((backTo cpos (starEach (e :: es) X.env)).all (fun x => !x.1) && (backToKw cpos (keywordEach [] X.env)).all (fun x => x.1.isSome)
      && decide ((e :: es).length + ([] : List Keyword).length + (if ([] : List Keyword).isEmpty then 0 else 1) < 30)) = true := by rfl)
    (hline : (apos.endLine == cpos.line) = true := by rfl) (hs : starEach (e :: es) X.env = (false, eval e X.env) :: starEach es X.env := by rfl) (hplain : (backTo cpos (starEach es X.env)).any (·.1) = false := by rfl) :
    PE X (.Call (.Attribute o name apos) (e :: es) [] cpos) (tBM K T r to t) := by
  subst hK
  exact pe_bm pa slot hty hm ho ha hbase hfew hline hs hplain
end
/-! ### steps of a reading -/
section
variable {K : PySem.W.Frag} {σ : L2.St} {H : Hp} {D : Ends}
theorem r_var {i : Nat} {v : V} {Q : VK} (h : σ[i]? = some (some v)) (q : Q v H) : tVar i σ H Q := ⟨v, h, q⟩
theorem r_c {v : V} {Q : VK} (q : Q v H) : tC v σ H Q := q
theorem r_op {r : R2} {ta tb : TE} {Q : VK} (q : ta σ H fun x H1 => tb σ H1 fun y H2 => r x y H2 Q) : tOp r ta tb σ H Q := q
theorem r_un {r : V → Hp → VK → Prop} {ta : TE} {Q : VK} (q : ta σ H fun x H1 => r x H1 Q) : tUn r ta σ H Q := q
theorem r_I0 {g : Int → Int → V} {i j : Int} {Q : VK} (q : Q (g i j) H) : rI0 g (.int i) (.int j) H Q := ⟨i, j, rfl, rfl, q⟩
theorem r_I {C : Int → Int → Prop} {g : Int → Int → V} {i j : Int} {Q : VK} (hc : C i j) (q : Q (g i j) H) : rI C g (.int i) (.int j) H Q := ⟨i, j, rfl, rfl, hc, q⟩
theorem r_U {g : Int → V} {i : Int} {Q : VK} (q : Q (g i) H) : rU g (.int i) H Q := ⟨i, rfl, q⟩
theorem r_eq {x y : V} {Q : VK} (hs : scal x y = true) (q : Q (.bl (decide (x = y))) H) : rEq x y H Q := ⟨hs, q⟩
theorem r_ne {x y : V} {Q : VK} (hs : scal x y = true) (q : Q (.bl (!decide (x = y))) H) : rNe x y H Q := ⟨hs, q⟩
theorem r_nil {Q : List V → Hp → Prop} (q : Q [] H) : tNil σ H Q := q
theorem r_cons {ta : TE} {tr : TA} {Q : List V → Hp → Prop} (q : ta σ H fun x H1 => tr σ H1 fun xs H2 => Q (x :: xs) H2) : tCons ta tr σ H Q := q
theorem r_cb {r : List V → Hp → VK → Prop} {t : TA} {Q : VK} (q : t σ H fun vs H1 => r vs H1 Q) : tCB r t σ H Q := q
theorem r_call {sp : Sp} {dvs : List V} {E : XK} {t : TA} {Q : VK} (q : t σ H fun vs H1 => sp (vs ++ dvs) H1 Q E) : tCall sp dvs E t σ H Q := q
theorem r_tup {t : TA} {Q : VK} (q : t σ H fun xs H1 => xs.length ≤ sizeLine ∧ ∀ p, H1 p = none → Q (.ref p) (upd H1 p (.tup xs))) : tTup t σ H Q := q
theorem r_lst {t : TA} {Q : VK} (q : t σ H fun xs H1 => xs.length ≤ sizeLine ∧ ∀ p, H1 p = none → Q (.ref p) (upd H1 p (.lst xs))) : tLst t σ H Q := q
theorem r_seq {t u : TS} (q : t { D with nx := u D } σ H) : tSeq t u D σ H := q
theorem r_next (q : D.nx σ H) : tNext D σ H := q
theorem r_asg {te : TE} {g : TG} (q : te σ H fun x H1 => g x σ H1 D.nx) : tAsg te g D σ H := q
theorem r_name {i : Nat} {x : V} {k : L2.St → Hp → Prop} (q : k (σ.set i (some x)) H) : gName i x σ H k := q
theorem r_sub {to ti : TE} {t : TSet} {v : V} {k : L2.St → Hp → Prop} (q : to σ H fun o H1 => ti σ H1 fun i H2 => t o i v H2 fun H3 => k σ H3) : gSub to ti t v σ H k := q
theorem r_setL {p : Addr} {xs : List V} {i : Int} {j : Nat} {v : V} {k : Hp → Prop} (h : H p = some (.lst xs)) (hi : ixN xs.length i = some j) (q : k (upd H p (.lst (xs.set j v)))) : rSetL (.ref p) (.int i) v H k := ⟨p, xs, i, j, rfl, rfl, h, hi, q⟩
theorem r_ifs {c : TT} {t u : TS} (q : c σ H fun b H1 => if b = true then t D σ H1 else u D σ H1) : tIfS c t u D σ H := q
theorem r_ret {te : TE} (q : te σ H D.rt) : tRet te D σ H := q
theorem r_drop {te : TE} (q : te σ H fun _ H1 => D.nx σ H1) : tDrop te D σ H := q
theorem r_test {t : TE} {Q : Bool → Hp → Prop} (q : t σ H fun x H' => ∃ k, x = .bl k ∧ Q k H') : tTest t σ H Q := q
theorem r_B {t : TE} {Q : Bool → Hp → Prop} (q : t σ H fun x H' => ∃ k, x = .bl k ∧ Q k H') : tB t σ H Q := q
theorem r_not {t : TT} {Q : Bool → Hp → Prop} (q : t σ H fun c H1 => Q (!c) H1) : tNot t σ H Q := q
theorem r_and {t u : TT} {Q : Bool → Hp → Prop} (q : t σ H fun c H1 => if c = true then u σ H1 Q else Q false H1) : tAnd t u σ H Q := q
theorem r_or {t u : TT} {Q : Bool → Hp → Prop} (q : t σ H fun c H1 => if c = true then Q true H1 else u σ H1 Q) : tOr t u σ H Q := q
theorem r_notV {ta : TE} {Q : VK} (q : ta σ H fun x H1 => ∃ c, x = .bl c ∧ Q (.bl (!c)) H1) : tNotV ta σ H Q := q
theorem r_andV {ta tb : TE} {Q : VK} (q : ta σ H fun x H1 => ∃ c, x = .bl c ∧ if c = true then tb σ H1 Q else Q (.bl false) H1) : tAndV ta tb σ H Q := q
theorem r_orV {ta tb : TE} {Q : VK} (q : ta σ H fun x H1 => ∃ c, x = .bl c ∧ if c = true then Q (.bl true) H1 else tb σ H1 Q) : tOrV ta tb σ H Q := q
theorem r_if {t : TT} {ta tb : TE} {Q : VK} (q : t σ H fun c H1 => if c = true then ta σ H1 Q else tb σ H1 Q) : tIf t ta tb σ H Q := q
theorem r_chain {r r' : R2} {ta tb tc : TE} {Q : VK} (q : ta σ H fun x H1 => tb σ H1 fun y H2 => r x y H2 fun z H3 => ∃ k, z = .bl k ∧ (if k = true then tc σ H3 fun w' H4 => r' y w' H4 Q else Q (.bl false) H3)) : tChain r r' ta tb tc σ H Q := q
theorem r_bl {b : Bool} {P : Bool → Prop} (q : P b) : ∃ k, V.bl b = V.bl k ∧ P k := ⟨b, rfl, q⟩
theorem r_ixL {p : Addr} {xs : List V} {i : Int} {v : V} {Q : VK} (h : H p = some (.lst xs)) (ha : atI xs i = some v) (q : Q v H) : rIxL K (.ref p) (.int i) H Q := ⟨p, xs, i, v, rfl, rfl, .inl (.inl h), ha, q⟩
theorem r_ixT {p : Addr} {xs : List V} {i : Int} {v : V} {Q : VK} (h : H p = some (.tup xs)) (ha : atI xs i = some v) (q : Q v H) : rIxT K (.ref p) (.int i) H Q := ⟨p, xs, i, v, rfl, rfl, .inl (.inl h), ha, q⟩
theorem r_int1 {i : Int} {Q : VK} (q : Q (.int i) H) : wInt1 [.int i] H Q := .inl ⟨i, rfl, q⟩
theorem r_int1b {b : Bool} {Q : VK} (q : Q (.int (if b then 1 else 0)) H) : wInt1 [.bl b] H Q := .inr ⟨b, rfl, q⟩
theorem r_abs {i : Int} {Q : VK} (q : Q (.int (if i < 0 then -i else i)) H) : wAbs [.int i] H Q := ⟨i, rfl, q⟩
theorem r_max2 {i j : Int} {Q : VK} (q : Q (.int (if j > i then j else i)) H) : wMax2 [.int i, .int j] H Q := ⟨i, j, rfl, q⟩
theorem r_min2 {i j : Int} {Q : VK} (q : Q (.int (if j < i then j else i)) H) : wMin2 [.int i, .int j] H Q := ⟨i, j, rfl, q⟩
theorem r_lenL {p : Addr} {ys : List V} {Q : VK} (h : H p = some (.lst ys)) (q : Q (.int (ys.length : Int)) H) : wLenS K [.ref p] H Q := ⟨p, ys, rfl, .inl (.inl (.inl h)), q⟩
theorem r_lenTp {p : Addr} {ys : List V} {Q : VK} (h : H p = some (.tup ys)) (q : Q (.int (ys.length : Int)) H) : wLenS K [.ref p] H Q := ⟨p, ys, rfl, .inr (.inl (.inl h)), q⟩
theorem r_lenT {z : Str} {Q : VK} (h : z.length ≤ sizeLine) (q : Q (.int (z.length : Int)) H) : wLenT [.str z] H Q := ⟨z, rfl, h, q⟩
theorem r_listL {p : Addr} {ys : List V} {Q : VK} (h : H p = some (.lst ys)) (q : ∀ l, H l = none → Q (.ref l) (upd H l (.lst ys))) : wListOf K [.ref p] H Q := ⟨p, ys, rfl, .inl (.inl (.inl h)), q⟩
theorem r_listS {z : Str} {Q : VK} (h : z.length ≤ sizeLine) (q : ∀ l, H l = none → Q (.ref l) (upd H l (.lst (sg z.cps.toList)))) : wListS [.str z] H Q := ⟨z, rfl, h, q⟩
theorem r_tupleL {p : Addr} {ys : List V} {Q : VK} (h : H p = some (.lst ys)) (q : ∀ l, H l = none → Q (.ref l) (upd H l (.tup ys))) : wTupleOf K [.ref p] H Q := ⟨p, ys, rfl, .inl ⟨.inl (.inl h), q⟩⟩
theorem r_reprB {b : Bool} {Q : VK} (q : Q (.str (if b then "True" else "False")) H) : wReprB [.bl b] H Q := ⟨b, rfl, q⟩
theorem r_bm {T : String} {r : V → List V → Hp → VK → Prop} {to : TE} {t : TA} {Q : VK} (q : to σ H fun x H1 => tyV K T x H1 ∧ t σ H1 fun xs H2 => r x xs H2 Q) : tBM K T r to t σ H Q := q
theorem r_bm0 {T : String} {r : V → List V → Hp → VK → Prop} {to : TE} {Q : VK} (q : to σ H fun x H1 => tyV K T x H1 ∧ r x [] H1 Q) : tBM0 K T r to σ H Q := q
theorem r_tyL {p : Addr} {xs : List V} {P : Prop} (h : H p = some (.lst xs)) (q : P) : tyV K "list" (.ref p) H ∧ P := ⟨.inl ⟨rfl, _, .inl (.inl h)⟩, q⟩
theorem r_tyS {z : Str} {P : Prop} (q : P) : tyV K "str" (.str z) H ∧ P := ⟨rfl, q⟩
theorem r_strB {f : Str → Bool} {a : Str} {Q : VK} (q : Q (.bl (f a)) H) : wStrB f (.str a) [] H Q := ⟨a, rfl, rfl, trivial, q⟩
theorem r_addS {i j : Str} {Q : VK} (h : i.length + j.length ≤ sizeLine) (q : Q (.str (i ++ j)) H) : wAddS (.str i) (.str j) H Q := ⟨i, j, rfl, rfl, h, q⟩
theorem r_notInC {c : Nat} {z : Str} {Q : VK} (q : Q (.bl (!decide (c ∈ z.cps.toList))) H) : wNotInC (.str ⟨#[c]⟩) (.str z) H Q := ⟨c, z, rfl, rfl, q⟩
theorem r_append {l : Addr} {xs : List V} {y : V} {Q : VK} (h : H l = some (.lst xs)) (hz : xs.length < sizeLine) (q : Q .non (upd H l (.lst (xs ++ [y])))) : rAppend (.ref l) [y] H Q := ⟨l, xs, y, rfl, rfl, h, hz, q⟩
theorem r_dnew {Q : VK} (q : ∀ p, H p = none → Q (.ref p) (upd H p (.dK []))) : tDNewK σ H Q := q
theorem r_cat {l b : Addr} {xs zs : List V} {Q : VK} (h : H l = some (.lst xs)) (h' : H b = some (.lst zs)) (hz : xs.length + zs.length ≤ sizeLine) (q : ∀ p, H p = none → Q (.ref p) (upd H p (.lst (xs ++ zs)))) : rCat (.ref l) (.ref b) H Q := ⟨l, b, xs, zs, rfl, rfl, h, h', hz, q⟩
theorem r_joinL {a : Str} {p : Addr} {ys : List Str} {Q : VK} (h : H p = some (.lst (ys.map V.str))) (hz : (ys.map (·.length)).sum + ys.length * a.length ≤ 16777216) (q : Q (.str (Txt.join a ys)) H) : wJoin K (.str a) [.ref p] H Q := ⟨a, p, ys, rfl, rfl, .inl (.inl (.inl h)), hz, q⟩
theorem r_rep {l : Addr} {xs : List V} {k : Int} {Q : VK} (h : H l = some (.lst xs)) (h0 : 0 ≤ k) (h1 : k < 1000) (hz : xs.length * k.toNat ≤ sizeLine) (q : ∀ p, H p = none → Q (.ref p) (upd H p (.lst (List.replicate k.toNat xs).flatten))) : rRep (.ref l) (.int k) H Q :=
  ⟨l, k, xs, rfl, rfl, h, by omega, by omega, hz, q⟩
theorem r_insert {l : Addr} {xs : List V} {i : Nat} {y : V} {Q : VK} (h : H l = some (.lst xs)) (hz : xs.length < sizeLine) (hi : i < 1000000) (q : Q .non (upd H l (.lst (xs.take i ++ [y] ++ xs.drop i)))) : wInsert (.ref l) [.int (i : Int), y] H Q :=
  ⟨l, xs, i, y, rfl, rfl, h, hz, Int.natCast_nonneg i, by omega, q⟩
/-- two ways that meet: what holds where they meet gives what follows -/
theorem r_seqJ {t u : TS} (C : L2.St → Hp → Prop) (tail : ∀ σ H, C σ H → u D σ H) (q : (∀ σ H, C σ H → u D σ H) → t { D with nx := u D } σ H) : tSeq t u D σ H := q tail
theorem r_popAt {l : Addr} {xs : List V} {k : Nat} {y : V} {Q : VK} (h : H l = some (.lst xs)) (hz : k < 9223372036854775808) (hy : xs[k]? = some y) (q : Q y (upd H l (.lst (xs.eraseIdx k)))) : rPopAt (.ref l) [.int (k : Int)] H Q := by
  have hk : k < xs.length := (List.getElem?_eq_some_iff.mp hy).1
  have hx : ixN xs.length (k : Int) = some k := by
    unfold ixN
    rw [if_pos (Int.natCast_nonneg k), if_pos (by omega)]
    rfl
  exact ⟨l, xs, k, k, y, rfl, rfl, h, by omega, by omega, (ixN_seq hx).1, hy, q⟩
theorem r_rng1 {ta : TA} {R : It → Hp → Prop} (q : ta σ H fun vs H1 => ∃ j : Int, vs = [.int j] ∧ -(2 ^ 62) ≤ j ∧ j < 2 ^ 62 ∧ R (Itr 0 j.toNat) H1) : iRng1 ta σ H R := q
theorem r_rng1j {j : Int} {P : Int → Prop} (h1 : -(2 ^ 62) ≤ j) (h2 : j < 2 ^ 62) (q : P j) : ∃ j' : Int, [V.int j] = [V.int j'] ∧ -(2 ^ 62) ≤ j' ∧ j' < 2 ^ 62 ∧ P j' := ⟨j, rfl, h1, h2, q⟩
theorem r_iList {tl : TE} {R : It → Hp → Prop} (q : tl σ H fun x H1 => ∃ a, x = .ref a ∧ (∃ xs, SqL K H1 a xs) ∧ R (Itl K a) H1) : iList K tl σ H R := q
theorem r_iListj {a : Addr} {xs : List V} {P : Addr → Prop} (h : H a = some (.lst xs)) (q : P a) : ∃ a', V.ref a = .ref a' ∧ (∃ xs, SqL K H a' xs) ∧ P a' := ⟨a, rfl, ⟨xs, .inl (.inl h)⟩, q⟩
theorem r_iTup {tl : TE} {R : It → Hp → Prop} (q : tl σ H fun x H1 => ∃ a, x = .ref a ∧ (∃ xs, SqT K H1 a xs) ∧ R (Itt K a) H1) : iTup K tl σ H R := q
theorem r_iTupj {a : Addr} {xs : List V} {P : Addr → Prop} (h : H a = some (.tup xs)) (q : P a) : ∃ a', V.ref a = .ref a' ∧ (∃ xs, SqT K H a' xs) ∧ P a' := ⟨a, rfl, ⟨xs, .inl (.inl h)⟩, q⟩
theorem r_all {p : Addr} {bs : List Bool} {Q : VK} (h : H p = some (.lst (bs.map V.bl))) (q : Q (.bl (bs.all id)) H) : rAll K [.ref p] H Q := ⟨p, bs, rfl, .inl (.inl h), q⟩
theorem r_iStr {te : TE} {R : It → Hp → Prop} (q : te σ H fun v H1 => ∃ x, v = .str x ∧ R (Its x) H1) : iStr te σ H R := q
theorem r_iStrj {z : Str} {P : Str → Prop} (q : P z) : ∃ x, V.str z = .str x ∧ P x := ⟨z, rfl, q⟩
def LcB (J : It) (g : TG) (tt : TT) (te : TE) (vs : List Nat) (σ : L2.St) (H1 : Hp) (D : Addr) (Q : VK) : Prop := ∃ W : Nat → Nat → Hp → Prop, (∃ m, W 0 m (upd H1 D (.lst []))) ∧ ∀ i m H, W i m H →
  (J.stop i H ∧ Q (.ref D) H) ∨ (J.go i H ∧ ∃ Nx : Hp → Prop, (∀ H', Nx H' → ∃ m', m' < m ∧ W (i + 1) m' H') ∧ ∀ x H', J.yld i H x H' → g x (wipe σ vs) H' fun σ2 H2 => wipe σ2 vs = wipe σ vs ∧ tt σ2 H2 fun b H3 =>
    if b = true then te σ2 H3 fun y H4 => ∃ acc, H4 D = some (.lst acc) ∧ acc.length < sizeLine ∧ Nx (upd H4 D (.lst (acc ++ [y]))) else Nx H3)
theorem r_lc {wi : TI} {g : TG} {tt : TT} {te : TE} {vs : List Nat} {Q : VK} (q : wi σ H fun J H1 => ∀ D, H1 D = none → LcB J g tt te vs σ H1 D Q) : tLc wi g tt te vs σ H Q := q
def ForB (J : It) (g : TG) (tb : TS) (D : Ends) (σ : L2.St) (H1 : Hp) : Prop := ∃ W : Nat → Nat → L2.St → Hp → Prop, (∃ m, W 0 m σ H1) ∧ ∀ i m σ H, W i m σ H →
  (J.stop i H ∧ D.nx σ H) ∨ (J.go i H ∧ ∃ N : L2.St → Hp → Prop, (∀ σ' H', N σ' H' → ∃ m', m' < m ∧ W (i + 1) m' σ' H') ∧ ∀ x H', J.yld i H x H' → g x σ H' fun σ2 H2 => tb { D with nx := N, ct := N, bk := D.nx } σ2 H2)
theorem r_for {wi : TI} {g : TG} {tb : TS} (q : wi σ H fun J H1 => ForB J g tb D σ H1) : tFor wi g tb D σ H := q
theorem r_yes {Q : Bool → Hp → Prop} (q : Q true H) : tYes σ H Q := q
/-- a comprehension over a walk; Pv by the turn and the heap -/
theorem lcB {J : It} {n : Nat} {G : Hp → Prop} {Y : Nat → Hp → V → Hp → Prop} (w : Walk J n G Y) {g : TG} {tt : TT} {te : TE} {vs : List Nat} {H1 : Hp} {D : Addr} {Q : VK} (Pv : Nat → Hp → Prop) (h0 : Pv 0 (upd H1 D (.lst []))) (hG : ∀ i H, i ≤ n → Pv i H → G H)
    (hs : ∀ i x H H', i < n → Pv i H → Y i H x H' → g x (wipe σ vs) H' fun σ2 H2 => wipe σ2 vs = wipe σ vs ∧ tt σ2 H2 fun b H3 =>
      if b = true then te σ2 H3 fun y H4 => ∃ acc, H4 D = some (.lst acc) ∧ acc.length < sizeLine ∧ Pv (i + 1) (upd H4 D (.lst (acc ++ [y]))) else Pv (i + 1) H3) (hd : ∀ H, Pv n H → Q (.ref D) H) : LcB J g tt te vs σ H1 D Q := lc_it w (Qd := fun H => Q (.ref D) H) Pv h0 hG hs hd
theorem forB {J : It} {n : Nat} {G : Hp → Prop} {Y : Nat → Hp → V → Hp → Prop} (w : Walk J n G Y) {g : TG} {tb : TS} (Pv : Nat → L2.St → Hp → Prop) (h0 : Pv 0 σ H) (hG : ∀ i σ H, i ≤ n → Pv i σ H → G H)
    (hs : ∀ i x σ H H', i < n → Pv i σ H → Y i H x H' → g x σ H' fun σ2 H2 => tb { D with nx := Pv (i + 1), ct := Pv (i + 1), bk := D.nx } σ2 H2) (hd : ∀ σ H, Pv n σ H → D.nx σ H) : ForB J g tb D σ H := for_it w Pv h0 hG hs hd
end
theorem nx_pos {a n : Int} (h : 1 ≤ n) (h0 : 0 ≤ a) : (a % n).toNat < n ∧ ((a % n).toNat : Int) = a % n := by
  have h1 := Int.emod_nonneg a (show n ≠ 0 by omega)
  have h2 := Int.emod_lt_of_pos a (show 0 < n by omega)
  omega
theorem get_cons_erase {α : Type} : ∀ {l : List α} {i : Nat} (h : i < l.length), (l[i] :: l.eraseIdx i).Perm l
  | [], _, h => absurd h (Nat.not_lt_zero _)
  | x :: r, 0, _ => .refl _
  | x :: r, i + 1, h => by
    have hi : i < r.length := Nat.lt_of_succ_lt_succ h
    have ih := get_cons_erase (l := r) (i := i) hi
    show (r[i] :: x :: r.eraseIdx i).Perm (x :: r)
    exact (List.Perm.swap x r[i] _).trans (ih.cons x)
theorem iteF' {b : Bool} {A B : Prop} (h : b = false) (q : B) : if b = true then A else B := by
  subst h
  exact iteF q
theorem iteT' {b : Bool} {A B : Prop} (h : b = true) (q : A) : if b = true then A else B := by
  subst h
  exact iteT q
theorem sz_of {n : Nat} (h : n ≤ 100000) : n ≤ sizeLine := Nat.le_trans h (by decide)
theorem sz_lt {n : Nat} (h : n < 100000) : n < sizeLine := Nat.lt_of_lt_of_le h (by decide)
/-- the text of some signs -/
abbrev ofC (cs : List Nat) : Str := ⟨cs.toArray⟩
theorem ofC_len (cs : List Nat) : (ofC cs).length = cs.length := rfl
theorem joinL_nil : ∀ cs : List Nat, TL.joinL [] (cs.map fun c => [c]) = cs
  | [] => rfl
  | [_] => rfl
  | c :: e :: r => by
    have ih := joinL_nil (e :: r)
    show [c] ++ ([] ++ TL.joinL [] ((e :: r).map fun c => [c])) = c :: e :: r
    rw [ih]
    rfl
theorem join_one (cs : List Nat) : Txt.join (Str.ofString "") (cs.map fun c => (⟨#[c]⟩ : Str)) = ofC cs := by
  refine TL.ext_tl ?_
  unfold Txt.join
  rw [StrLaws.glued_eq_join, TL.tl_join]
  rw [List.map_map]
  exact joinL_nil cs
theorem sum_one (cs : List Nat) : ((cs.map fun c => (⟨#[c]⟩ : Str)).map (·.length)).sum = cs.length := by
  rw [List.map_map]
  induction cs with
  | nil => rfl
  | cons c r ih =>
    rw [List.map_cons, List.sum_cons, ih, List.length_cons]
    show 1 + r.length = r.length + 1
    omega
/-! ### the draws -/
/-- a list of three ints, the first not below nought -/
def Dice (H : Hp) (d : Addr) : Prop := ∃ a b c : Int, 0 ≤ a ∧ H d = some (.lst [.int a, .int b, .int c])
/-- what stood, stands, but for what is at d -/
def Ext (d : Addr) (H H' : Hp) : Prop := ∀ b o, b ≠ d → H b = some o → H' b = some o
theorem Ext.refl (d : Addr) (H : Hp) : Ext d H H := fun _ _ _ h => h
theorem Ext.trans {d : Addr} {H H1 H2 : Hp} (a : Ext d H H1) (b : Ext d H1 H2) : Ext d H H2 := fun c o n h => b c o n (a c o n h)
theorem Ext.at_ {d : Addr} {H H' : Hp} {o : HO} (e : Ext d H H') : Ext d H (upd H' d o) := fun b u n h => by
  rw [upd_ne n]
  exact e b u n h
theorem Ext.new {d p : Addr} {H : Hp} {o : HO} (n : H p = none) : Ext d H (upd H p o) := fun b u _ h => by
  rw [upd_ne (ne_of_none h n)]
  exact h
theorem same_upd {H : Hp} {p : Addr} {o : HO} (h : H p = none) : Same H (upd H p o) := fun b x e => by
  rw [upd_ne (ne_of_none e h)]
  exact e
theorem ne_any {H : Hp} {a b : Addr} (h : ∃ o, H a = some o) (h' : H b = Option.none) : a ≠ b := by
  obtain ⟨o, h⟩ := h
  exact ne_of_none h h'
theorem there_here {H : Hp} {p : Addr} {o : HO} : ∃ u, upd H p o p = some u := ⟨o, upd_same⟩
theorem there_old {H : Hp} {p a : Addr} {o : HO} (n : H p = Option.none) (h : ∃ u, H a = some u) : ∃ u, upd H p o a = some u := by
  obtain ⟨u, h⟩ := h
  exact ⟨u, by rw [upd_ne (ne_of_none h n)]; exact h⟩
theorem Ext.same {d : Addr} {H H1 H2 : Hp} (s : Same H H1) (e : Ext d H1 H2) (n : H d = Option.none) : Same H H2 := fun b o h => e b o (ne_of_none h n) (s b o h)
theorem Ext.of_same {d : Addr} {H H' : Hp} (s : Same H H') : Ext d H H' := fun b o _ h => s b o h
theorem Dice.mk3 {d : Addr} {H : Hp} {a b c : Int} (h : 0 ≤ a) : Dice (upd H d (.lst [.int a, .int b, .int c])) d := ⟨a, b, c, h, upd_same⟩
theorem Dice.new {d p : Addr} {H : Hp} {o : HO} (h : Dice H d) (n : H p = none) : Dice (upd H p o) d := by
  obtain ⟨a, b, c, h0, e⟩ := h
  exact ⟨a, b, c, h0, by rw [upd_ne (ne_of_none e n)]; exact e⟩
theorem Dice.off {d p : Addr} {H : Hp} {o : HO} (h : Dice H d) (n : p ≠ d) : Dice (upd H p o) d := by
  obtain ⟨a, b, c, h0, e⟩ := h
  exact ⟨a, b, c, h0, by rw [upd_ne n.symm]; exact e⟩
theorem Dice.ne {d p : Addr} {H : Hp} (h : Dice H d) (n : H p = none) : p ≠ d := by
  obtain ⟨a, b, c, h0, e⟩ := h
  exact (ne_of_none e n).symm
theorem Ext.free_ {d p : Addr} {H H' : Hp} (e : Ext d H H') (hd : Dice H' d) (n : H' p = none) : H p = none := by
  cases q : H p with
  | none => rfl
  | some o =>
    have z := e p o (hd.ne n) q
    rw [n] at z
    cases z
/-- a list that was made and is filled on: upd at a place that was free -/
theorem Ext.grown {d p : Addr} {H H' : Hp} {o : HO} (e : Ext d H H') (n : H p = none) : Ext d H (upd H' p o) := fun b u nb h => by
  rw [upd_ne (ne_of_none h n)]
  exact e b u nb h
end My

--MACROS
local macro_rules | `(tactic| walk_at "zsame") => `(tactic| first
  | assumption
  | exact L2.Same.refl _
  | (refine L2.Same.trans ?_ (My.same_upd (by assumption)); walk_at "zsame"))
local macro_rules | `(tactic| walk_at "zget") => `(tactic| first
  | assumption
  | exact L2.upd_same
  | (refine My.same_upd (by assumption) _ _ ?_; walk_at "zget"))
local macro_rules | `(tactic| walk_at "zgetx") => `(tactic| first
  | exact ⟨_, by assumption⟩
  | exact My.there_here
  | (refine My.there_old (by assumption) ?_; walk_at "zgetx"))
local macro_rules | `(tactic| walk_at "zdice") => `(tactic| first
  | assumption
  | (refine My.Dice.new ?_ (by assumption); walk_at "zdice"))
local macro_rules | `(tactic| walk_at "zext") => `(tactic| first
  | assumption
  | exact My.Ext.refl _ _
  | (refine My.Ext.trans ?_ (My.Ext.new (by assumption)); walk_at "zext"))
local macro_rules | `(tactic| walk_at "zsz") => `(tactic| exact Nat.le_trans (m := 100000) (Nat.le_of_ble_eq_true rfl) (by decide))
local macro_rules | `(tactic| walk_at "zcond") => `(tactic| first
  | (show (0 : Int) < _; omega)
  | (show (0 : Int) < _; decide +kernel)
  | (refine And.intro ?_ ?_ <;> omega)
  | (refine Or.inl (And.intro ?_ ?_) <;> omega)
  | (refine Or.inr (And.intro ?_ ?_) <;> omega)
  | (refine And.intro ?_ ?_ <;> decide +kernel))
local macro_rules | `(tactic| walk_at "zhp") => `(tactic| first
  | assumption
  | exact L2.upd_same
  | (rw [L2.upd_ne (by assumption)]; walk_at "zhp")
  | (rw [L2.upd_ne (Ne.symm (by assumption))]; walk_at "zhp"))
local macro_rules | `(tactic| walk_at "zrd") => `(tactic| repeat (first
  | with_reducible refine My.r_seq ?_
  | with_reducible refine My.r_op ?_
  | with_reducible refine My.r_var rfl ?_
  | with_reducible refine My.r_c ?_
  | with_reducible refine My.r_cons ?_
  | with_reducible refine My.r_nil ?_
  | with_reducible refine My.r_asg ?_
  | with_reducible refine My.r_name ?_
  | with_reducible refine My.r_cb ?_
  | with_reducible refine My.r_call ?_
  | with_reducible refine My.r_I0 ?_
  | ((with_reducible refine My.r_I ?hcond ?_); (case hcond => walk_at "zcond"))
  | with_reducible refine My.r_int1 ?_
  | with_reducible refine My.r_int1b ?_
  | with_reducible refine My.r_abs ?_
  | with_reducible refine My.r_max2 ?_
  | with_reducible refine My.r_min2 ?_
  | with_reducible refine My.r_reprB ?_
  | with_reducible refine My.r_ifs ?_
  | with_reducible refine My.r_ret ?_
  | with_reducible refine My.r_next ?_
  | with_reducible refine My.r_test ?_
  | with_reducible refine My.r_B ?_
  | with_reducible refine My.r_bl ?_
  | with_reducible refine My.r_un ?_
  | with_reducible refine My.r_U ?_
  | with_reducible refine My.r_eq rfl ?_
  | with_reducible refine My.r_ne rfl ?_
  | with_reducible refine My.r_lenL (by walk_at "zhp") ?_
  | with_reducible refine My.r_lenTp (by walk_at "zhp") ?_
  | with_reducible refine My.r_listL (by walk_at "zhp") ?_
  | with_reducible refine My.r_tupleL (by walk_at "zhp") ?_
  | with_reducible refine My.r_ixL (by walk_at "zhp") rfl ?_
  | with_reducible refine My.r_sub ?_
  | with_reducible refine My.r_setL (by walk_at "zhp") rfl ?_
  | with_reducible refine My.r_bm ?_
  | with_reducible refine My.r_bm0 ?_
  | with_reducible refine My.r_tyL (by walk_at "zhp") ?_
  | with_reducible refine My.r_tyS ?_
  | with_reducible refine My.r_strB ?_
  | with_reducible refine My.r_notInC ?_
  | with_reducible refine My.r_rng1 ?_
  | with_reducible refine My.r_iList ?_
  | with_reducible refine My.r_iListj (by walk_at "zhp") ?_
  | with_reducible refine My.r_iTup ?_
  | with_reducible refine My.r_iTupj (by walk_at "zhp") ?_
  | with_reducible refine My.r_iStr ?_
  | with_reducible refine My.r_iStrj ?_
  | with_reducible refine My.r_dnew ?_
  | with_reducible refine My.r_not ?_
  | with_reducible refine My.r_and ?_
  | with_reducible refine My.r_or ?_
  | with_reducible refine My.r_notV ?_
  | with_reducible refine My.r_andV ?_
  | with_reducible refine My.r_orV ?_
  | with_reducible refine My.r_if ?_
  | with_reducible refine My.r_chain ?_
  | with_reducible refine My.r_lc ?_
  | with_reducible refine My.r_for ?_
  | with_reducible refine My.r_yes ?_
  | with_reducible refine My.r_tup ?_
  | with_reducible refine My.r_lst ?_
  | with_reducible refine My.r_drop ?_
  | with_reducible refine L2.iteF ?_
  | with_reducible refine L2.iteT ?_
  | refine My.iteF' rfl ?_
  | refine My.iteT' rfl ?_))

--ENDMACROS
namespace My
theorem turns_ok (n : Nat) : ∃ m : Nat, (if (if (n : Int) < 8 then (n : Int) else 8) > 1 then (if (n : Int) < 8 then (n : Int) else 8) else 1) = (m : Int) ∧ m ≤ 8 := by
  by_cases h : (n : Int) < 8
  · rw [if_pos h]
    by_cases h2 : (n : Int) > 1
    · rw [if_pos h2]
      exact ⟨n, rfl, by omega⟩
    · rw [if_neg h2]
      exact ⟨1, rfl, by omega⟩
  · rw [if_neg h]
    exact ⟨8, rfl, by omega⟩
end My

namespace My
open PySem PySem.Spec PyProof.Rows L2
/-- kinds of values whose type is known -/
inductive KindV (H : Hp) : V → Prop where
  | str {s : Str} (h : s.length ≤ 100000) (ha : s.cps.all (fun c => decide (c < 128)) = true) : KindV H (.str s)
  | non : KindV H .non
  | bl (b : Bool) : KindV H (.bl b)
  | int (i : Int) : KindV H (.int i)
  | tup {a : Addr} {xs : List V} (e : H a = some (.tup xs)) : KindV H (.ref a)
  | lst {a : Addr} {xs : List V} (e : H a = some (.lst xs)) : KindV H (.ref a)
  | dK {a : Addr} {kvs : List (Key × V)} (e : H a = some (.dK kvs)) : KindV H (.ref a)
def isStrV : V → Bool
  | .str _ => true
  | _ => false
theorem KindV.isi {K : PySem.W.Frag} {H : Hp} {v : V} {Q : VK} (h : KindV H v) (q : Q (.bl (isStrV v)) H) : rIsi K [v, .ty "str"] H Q := by
  cases h with
  | str h ha => exact ⟨_, _, .type "str", .type "str", true, rfl, .ty _, .base (.str _), kit_ty (by decide +kernel), q⟩
  | non => exact ⟨_, _, .type "NoneType", .type "str", false, rfl, .ty _, .base .non, kit_ty (by decide +kernel), q⟩
  | bl b => exact ⟨_, _, .type "bool", .type "str", false, rfl, .ty _, .base (.bl _), kit_ty (by decide +kernel), q⟩
  | int i => exact ⟨_, _, .type "int", .type "str", false, rfl, .ty _, .base (.int _), kit_ty (by decide +kernel), q⟩
  | tup e => exact ⟨_, _, .type "tuple", .type "str", false, rfl, .ty _, .base (.tup e), kit_ty (by decide +kernel), q⟩
  | lst e => exact ⟨_, _, .type "list", .type "str", false, rfl, .ty _, .base (.lst e), kit_ty (by decide +kernel), q⟩
  | dK e => exact ⟨_, _, .type "dict", .type "str", false, rfl, .ty _, .base (.dK e), kit_ty (by decide +kernel), q⟩
theorem KindV.mono {d : Addr} {H H' : Hp} {v : V} (e : Ext d H H') (n : ∀ a, v = .ref a → a ≠ d) (h : KindV H v) : KindV H' v := by
  cases h with
  | str h ha => exact .str h ha
  | non => exact .non
  | bl b => exact .bl b
  | int i => exact .int i
  | tup h => exact .tup (e _ _ (n _ rfl) h)
  | lst h => exact .lst (e _ _ (n _ rfl) h)
  | dK h => exact .dK (e _ _ (n _ rfl) h)
/-- .. and it is not the dice -/
def KD (d : Addr) (H : Hp) (v : V) : Prop := KindV H v ∧ ∀ a, v = .ref a → a ≠ d
theorem KD.mono {d : Addr} {H H' : Hp} {v : V} (e : Ext d H H') (h : KD d H v) : KD d H' v := ⟨h.1.mono e h.2, h.2⟩
theorem KD.flat {d : Addr} {H : Hp} {v : V} (h : KindV H v) (n : ∀ a, v ≠ .ref a) : KD d H v := ⟨h, fun a e => absurd e (n a)⟩
theorem KD.at_ {d : Addr} {H : Hp} {a : Addr} (h : KindV H (.ref a)) (n : a ≠ d) : KD d H (.ref a) := ⟨h, fun b e => by cases e; exact n⟩
theorem KindV.isiT {K : PySem.W.Frag} {H : Hp} {v : V} {Q : VK} (T : String) (f : V → Bool) (h : KindV H v) (hs : ∀ s, kitB "str" T = some (f (.str s))) (hn : kitB "NoneType" T = some (f .non)) (hb : ∀ b, kitB "bool" T = some (f (.bl b)))
    (hi : ∀ i, kitB "int" T = some (f (.int i))) (ht : ∀ a xs, H a = some (.tup xs) → kitB "tuple" T = some (f (.ref a))) (hl : ∀ a xs, H a = some (.lst xs) → kitB "list" T = some (f (.ref a))) (hd : ∀ a kvs, H a = some (.dK kvs) → kitB "dict" T = some (f (.ref a)))
    (q : Q (.bl (f v)) H) : rIsi K [v, .ty T] H Q := by
  cases h with
  | str h ha => exact ⟨_, _, .type "str", .type T, _, rfl, .ty _, .base (.str _), kit_ty (hs _), q⟩
  | non => exact ⟨_, _, .type "NoneType", .type T, _, rfl, .ty _, .base .non, kit_ty hn, q⟩
  | bl b => exact ⟨_, _, .type "bool", .type T, _, rfl, .ty _, .base (.bl _), kit_ty (hb _), q⟩
  | int i => exact ⟨_, _, .type "int", .type T, _, rfl, .ty _, .base (.int _), kit_ty (hi _), q⟩
  | tup e => exact ⟨_, _, .type "tuple", .type T, _, rfl, .ty _, .base (.tup e), kit_ty (ht _ _ e), q⟩
  | lst e => exact ⟨_, _, .type "list", .type T, _, rfl, .ty _, .base (.lst e), kit_ty (hl _ _ e), q⟩
  | dK e => exact ⟨_, _, .type "dict", .type T, _, rfl, .ty _, .base (.dK e), kit_ty (hd _ _ e), q⟩
def isIntishV : V → Bool
  | .int _ => true
  | .bl _ => true
  | _ => false
def isBoolV : V → Bool
  | .bl _ => true
  | _ => false
theorem KindV.isiInt {K : PySem.W.Frag} {H : Hp} {v : V} {Q : VK} (h : KindV H v) (q : Q (.bl (isIntishV v)) H) : rIsi K [v, .ty "int"] H Q :=
  h.isiT "int" isIntishV (fun _ => by show _ = some false; decide +kernel) (by show _ = some false; decide +kernel) (fun _ => by show _ = some true; decide +kernel) (fun _ => by show _ = some true; decide +kernel) (fun _ _ _ => by show _ = some false; decide +kernel) (fun _ _ _ => by show _ = some false; decide +kernel) (fun _ _ _ => by show _ = some false; decide +kernel) q
theorem KindV.isiBool {K : PySem.W.Frag} {H : Hp} {v : V} {Q : VK} (h : KindV H v) (q : Q (.bl (isBoolV v)) H) : rIsi K [v, .ty "bool"] H Q :=
  h.isiT "bool" isBoolV (fun _ => by show _ = some false; decide +kernel) (by show _ = some false; decide +kernel) (fun _ => by show _ = some true; decide +kernel) (fun _ => by show _ = some false; decide +kernel) (fun _ _ _ => by show _ = some false; decide +kernel) (fun _ _ _ => by show _ = some false; decide +kernel) (fun _ _ _ => by show _ = some false; decide +kernel) q
end My

namespace My
open PySem PySem.Spec PyProof.Rows L2
/-! ### words -/
def goodC (c : Nat) : Bool := decide (97 ≤ c) && decide (c ≤ 122)
/-- a word: one to eight letters a to z -/
def isW (s : Str) : Bool := decide (0 < s.length) && decide (s.length ≤ 8) && s.cps.all goodC
def isWV : V → Bool
  | .str s => isW s
  | _ => false
theorem ascii_alpha : ∀ c : Nat, c < 128 → Unicode.isAlpha c = ((decide (65 ≤ c) && decide (c ≤ 90)) || goodC c) := by decide +kernel
theorem ascii_lower : ∀ c : Nat, c < 128 → Unicode.isLower c = goodC c := by decide +kernel
theorem ascii_upper : ∀ c : Nat, c < 128 → (Unicode.isUpper c || Unicode.isTitle c) = (decide (65 ≤ c) && decide (c ≤ 90)) := by decide +kernel
theorem word_signs (s : Str) : (Txt.isascii s && (Txt.isalpha s && Txt.islower s)) = (decide (0 < s.length) && s.cps.all goodC) := by
  obtain ⟨cs⟩ := s
  rw [Bool.eq_iff_iff]
  simp only [Txt.isascii, Txt.isalpha, Txt.islower, Str.length, Bool.and_eq_true, Array.all_eq_true_iff_forall_mem, Array.any_eq_true, decide_eq_true_eq, Bool.not_eq_true', gt_iff_lt]
  constructor
  · rintro ⟨h1, ⟨h2, h3⟩, h4, h5⟩
    refine ⟨decide_eq_true h2, fun c hc => ?_⟩
    have a := h3 c hc
    have b := h1 c hc
    rw [ascii_alpha c b] at a
    have d : (Unicode.isUpper c || Unicode.isTitle c) = false := by
      have := Array.any_eq_false.mp h5
      obtain ⟨i, hi, e⟩ := Array.mem_iff_getElem.mp hc
      rw [← e]
      simpa using this i hi
    rw [ascii_upper c b] at d
    rw [d, Bool.false_or] at a
    exact a
  · rintro ⟨h1', h2⟩
    have h1 : 0 < cs.size := of_decide_eq_true h1'
    have hb : ∀ c ∈ cs, c < 128 := fun c hc => by
      have := h2 c hc
      unfold goodC at this
      simp only [Bool.and_eq_true, decide_eq_true_eq] at this
      omega
    refine ⟨hb, ⟨h1, fun c hc => ?_⟩, ⟨0, h1, ?_⟩, ?_⟩
    · rw [ascii_alpha c (hb c hc), h2 c hc, Bool.or_true]
    · have hm : cs[0] ∈ cs := Array.getElem_mem h1
      rw [ascii_lower _ (hb _ hm)]
      exact h2 _ hm
    · refine Array.any_eq_false.mpr fun i hi => ?_
      have hm : cs[i] ∈ cs := Array.getElem_mem hi
      have g := h2 _ hm
      rw [ascii_upper _ (hb _ hm)]
      unfold goodC at g
      simp only [Bool.and_eq_true, decide_eq_true_eq] at g ⊢
      omega
def dsg (cs : List Nat) : List PyData := cs.map fun c => .str ⟨#[c]⟩
theorem dp_sg {K : PySem.W.Frag} {H : Hp} : ∀ cs : List Nat, DpAll K H (sg cs) (dsg cs)
  | [] => .nil
  | c :: r => .cons (.str _) (dp_sg r)
theorem sg_lay : ∀ cs : List Nat, (∀ c ∈ cs, c < 128) → PyData.canLayAll0 (dsg cs) = true
  | [], _ => rfl
  | c :: r, h => by
    have ih := sg_lay r fun x hx => h x (List.mem_cons_of_mem _ hx)
    have hc := h c List.mem_cons_self
    show (PyData.strOk ⟨#[c]⟩ && PyData.canLayAll0 (dsg r)) = true
    rw [ih, Bool.and_true]
    unfold PyData.strOk
    simp
    omega
theorem sg_depth : ∀ cs : List Nat, PyData.depthAll (dsg cs) = 0
  | [] => rfl
  | c :: r => by
    show max 0 (PyData.depthAll (dsg r)) = 0
    rw [sg_depth r]
    rfl
theorem sg_shaped {cs : List Nat} (h : ∀ c ∈ cs, c < 128) : SeqAt.shaped (.list (dsg cs)) = true := by
  show (PyData.canLayAll0 (dsg cs) && decide (PyData.depthAll (dsg cs) + 1 ≤ 64)) = true
  rw [sg_lay cs h, sg_depth]
  rfl
theorem sg_nil : ∀ cs : List Nat, PyData.eqv (.list (dsg cs)) (.list []) = cs.isEmpty
  | [] => rfl
  | _ :: _ => rfl
end My

namespace My
open PySem PySem.Spec PyProof.Rows L2
/-! ### integers and columns -/
def big60 : Int := 10 ^ 60
def isIntV : V → Bool
  | .int i => decide ((if i < 0 then -i else i) < 10 ^ 60)
  | _ => false
def isColV : V → Bool
  | .int i => decide (0 ≤ i) && decide (i ≤ 199)
  | _ => false
theorem isInt_small {i : Int} (h0 : -200 ≤ i) (h1 : i ≤ 1000) : isIntV (.int i) = true := by
  refine decide_eq_true ?_
  by_cases h : i < 0
  · rw [if_pos h]; omega
  · rw [if_neg h]; omega
theorem isInt_of {i : Int} (h0 : -(10 ^ 60) < i) (h1 : i < 10 ^ 60) : isIntV (.int i) = true := by
  refine decide_eq_true ?_
  by_cases h : i < 0
  · rw [if_pos h]; omega
  · rw [if_neg h]; omega
theorem isInt_not {i : Int} (h : i ≤ -(10 ^ 60) ∨ 10 ^ 60 ≤ i) : isIntV (.int i) = false := by
  refine decide_eq_false ?_
  by_cases h2 : i < 0
  · rw [if_pos h2]; omega
  · rw [if_neg h2]; omega
theorem isCol_of {i : Int} (h0 : 0 ≤ i) (h1 : i ≤ 199) : isColV (.int i) = true := by
  show (decide (0 ≤ i) && decide (i ≤ 199)) = true
  rw [decide_eq_true h0, decide_eq_true h1]
  rfl
theorem isCol_not {i : Int} (h : i < 0 ∨ 199 < i) : isColV (.int i) = false := by
  show (decide (0 ≤ i) && decide (i ≤ 199)) = false
  rcases h with h | h
  · rw [decide_eq_false (by omega), Bool.false_and]
  · rw [decide_eq_false (show ¬ i ≤ 199 by omega), Bool.and_false]
end My

--CUT
namespace My
open PySem PySem.Spec PyProof.Rows L2
/-! ### data as it lies in the heap; nothing of it is at N -/
mutual
inductive Is (N : List Addr) (H : Hp) : V → PyData → Prop
  | non : Is N H .non .none
  | bl (b : Bool) : Is N H (.bl b) (.bool b)
  | int (i : Int) : Is N H (.int i) (.int i)
  | str {s : Str} (h : s.length ≤ 100000) (ha : s.cps.all (fun c => decide (c < 128)) = true) : Is N H (.str s) (.str s)
  | lst {a : Addr} {xs : List V} {ds : List PyData} (n : a ∉ N) (e : H a = some (.lst xs)) (h : IsAll N H xs ds) : Is N H (.ref a) (.list ds)
  | tup {a : Addr} {xs : List V} {ds : List PyData} (n : a ∉ N) (e : H a = some (.tup xs)) (h : IsAll N H xs ds) : Is N H (.ref a) (.tuple ds)
  | dct {a : Addr} (n : a ∉ N) (e : H a = some (.dK [])) : Is N H (.ref a) (.dict [])
inductive IsAll (N : List Addr) (H : Hp) : List V → List PyData → Prop
  | nil : IsAll N H [] []
  | cons {v : V} {vs : List V} {d : PyData} {ds : List PyData} (h : Is N H v d) (t : IsAll N H vs ds) : IsAll N H (v :: vs) (d :: ds)
end
def ExtN (N : List Addr) (H H' : Hp) : Prop := ∀ b o, b ∉ N → H b = some o → H' b = some o
theorem ExtN.refl (N : List Addr) (H : Hp) : ExtN N H H := fun _ _ _ h => h
theorem ExtN.of_ext {d : Addr} {N : List Addr} {H H' : Hp} (hd : d ∈ N) (e : Ext d H H') : ExtN N H H' := fun b o n h => e b o (fun z => n (z ▸ hd)) h
theorem ExtN.of_same {N : List Addr} {H H' : Hp} (e : Same H H') : ExtN N H H' := fun b o _ h => e b o h
theorem ExtN.trans {N : List Addr} {H H1 H2 : Hp} (a : ExtN N H H1) (b : ExtN N H1 H2) : ExtN N H H2 := fun c o n h => b c o n (a c o n h)
mutual
theorem Is.mono {N : List Addr} {H H' : Hp} (e : ExtN N H H') : ∀ {v : V} {d : PyData}, Is N H v d → Is N H' v d
  | _, _, .non => .non
  | _, _, .bl b => .bl b
  | _, _, .int i => .int i
  | _, _, .str h ha => .str h ha
  | _, _, .lst n h t => .lst n (e _ _ n h) (IsAll.mono e t)
  | _, _, .tup n h t => .tup n (e _ _ n h) (IsAll.mono e t)
  | _, _, .dct n h => .dct n (e _ _ n h)
theorem IsAll.mono {N : List Addr} {H H' : Hp} (e : ExtN N H H') : ∀ {vs : List V} {ds : List PyData}, IsAll N H vs ds → IsAll N H' vs ds
  | _, _, .nil => .nil
  | _, _, .cons h t => .cons (Is.mono e h) (IsAll.mono e t)
end
theorem Is.kind {N : List Addr} {H : Hp} {v : V} {d : PyData} (h : Is N H v d) : KindV H v := by
  cases h with
  | non => exact .non
  | bl b => exact .bl b
  | int i => exact .int i
  | str h ha => exact .str h ha
  | lst n e t => exact .lst e
  | tup n e t => exact .tup e
  | dct n e => exact .dK e
mutual
theorem Is.dp {K : PySem.W.Frag} {N : List Addr} {H : Hp} : ∀ {v : V} {d : PyData}, Is N H v d → d.hasDict = false → Dp K H v d
  | _, _, .non, _ => .non
  | _, _, .bl b, _ => .bl b
  | _, _, .int i, _ => .int i
  | _, _, .str h ha, _ => .str _
  | _, _, .lst n h t, q => .lst (.inl (.inl h)) (IsAll.dp t q)
  | _, _, .tup n h t, q => .tup (.inl (.inl h)) (IsAll.dp t q)
  | _, _, .dct n h, q => nomatch q
theorem IsAll.dp {K : PySem.W.Frag} {N : List Addr} {H : Hp} : ∀ {vs : List V} {ds : List PyData}, IsAll N H vs ds → PyData.hasDictAll ds = false → DpAll K H vs ds
  | _, _, .nil, _ => .nil
  | _, _, .cons h t, q => by
    have q2 := Bool.or_eq_false_iff.mp q
    exact .cons (Is.dp h q2.1) (IsAll.dp t q2.2)
end
theorem IsAll.len {N : List Addr} {H : Hp} : ∀ {vs : List V} {ds : List PyData}, IsAll N H vs ds → vs.length = ds.length
  | _, _, .nil => rfl
  | _, _, .cons _ t => congrArg Nat.succ t.len
theorem IsAll.get {N : List Addr} {H : Hp} : ∀ {vs : List V} {ds : List PyData} {i : Nat} {v : V}, IsAll N H vs ds → vs[i]? = some v → ∃ d, ds[i]? = some d ∧ Is N H v d
  | _, _, _, _, .nil, e => by simp at e
  | _, _, 0, _, .cons h _, e => by
    cases e
    exact ⟨_, rfl, h⟩
  | _, _, i + 1, _, .cons _ t, e => t.get (i := i) (by simpa using e)
theorem IsAll.append {N : List Addr} {H : Hp} : ∀ {vs us : List V} {ds es : List PyData}, IsAll N H vs ds → IsAll N H us es → IsAll N H (vs ++ us) (ds ++ es)
  | _, _, _, _, .nil, b => b
  | _, _, _, _, .cons h t, b => .cons h (t.append b)
theorem IsAll.take {N : List Addr} {H : Hp} : ∀ {vs : List V} {ds : List PyData} (k : Nat), IsAll N H vs ds → IsAll N H (vs.take k) (ds.take k)
  | _, _, 0, _ => .nil
  | _, _, _ + 1, .nil => .nil
  | _, _, k + 1, .cons h t => .cons h (t.take k)
theorem IsAll.drop {N : List Addr} {H : Hp} : ∀ {vs : List V} {ds : List PyData} (k : Nat), IsAll N H vs ds → IsAll N H (vs.drop k) (ds.drop k)
  | _, _, 0, h => h
  | _, _, _ + 1, .nil => .nil
  | _, _, k + 1, .cons _ t => t.drop k
theorem IsAll.mem {N : List Addr} {H : Hp} : ∀ {vs : List V} {ds : List PyData} {v : V}, IsAll N H vs ds → v ∈ vs → ∃ d, d ∈ ds ∧ Is N H v d
  | _, _, _, .cons h t, e => by
    cases e with
    | head => exact ⟨_, .head _, h⟩
    | tail _ e =>
      obtain ⟨d, m, i⟩ := t.mem e
      exact ⟨d, .tail _ m, i⟩
def tupD : PyData → Bool
  | .tuple _ => true
  | _ => false
def boolD : PyData → Bool
  | .bool _ => true
  | _ => false
theorem Is.isiTup {K : PySem.W.Frag} {N : List Addr} {H : Hp} {v : V} {d : PyData} {Q : VK} (h : Is N H v d) (q : Q (.bl (tupD d)) H) : rIsi K [v, .ty "tuple"] H Q := by
  cases h with
  | non => exact ⟨_, _, .type "NoneType", .type "tuple", false, rfl, .ty _, .base .non, kit_ty (by decide +kernel), q⟩
  | bl b => exact ⟨_, _, .type "bool", .type "tuple", false, rfl, .ty _, .base (.bl _), kit_ty (by decide +kernel), q⟩
  | int i => exact ⟨_, _, .type "int", .type "tuple", false, rfl, .ty _, .base (.int _), kit_ty (by decide +kernel), q⟩
  | str h ha => exact ⟨_, _, .type "str", .type "tuple", false, rfl, .ty _, .base (.str _), kit_ty (by decide +kernel), q⟩
  | lst n e t => exact ⟨_, _, .type "list", .type "tuple", false, rfl, .ty _, .base (.lst e), kit_ty (by decide +kernel), q⟩
  | tup n e t => exact ⟨_, _, .type "tuple", .type "tuple", true, rfl, .ty _, .base (.tup e), kit_ty (by decide +kernel), q⟩
  | dct n e => exact ⟨_, _, .type "dict", .type "tuple", false, rfl, .ty _, .base (.dK e), kit_ty (by decide +kernel), q⟩
theorem Is.isiBool {K : PySem.W.Frag} {N : List Addr} {H : Hp} {v : V} {d : PyData} {Q : VK} (h : Is N H v d) (q : Q (.bl (boolD d)) H) : rIsi K [v, .ty "bool"] H Q := by
  have e : boolD d = isBoolV v := by cases h <;> rfl
  rw [e] at q
  exact h.kind.isiBool q
mutual
theorem Is.sub {N N' : List Addr} {H : Hp} (s : ∀ a, a ∈ N' → a ∈ N) : ∀ {v : V} {d : PyData}, Is N H v d → Is N' H v d
  | _, _, .non => .non
  | _, _, .bl b => .bl b
  | _, _, .int i => .int i
  | _, _, .str h ha => .str h ha
  | _, _, .lst n h t => .lst (fun z => n (s _ z)) h (IsAll.sub s t)
  | _, _, .tup n h t => .tup (fun z => n (s _ z)) h (IsAll.sub s t)
  | _, _, .dct n h => .dct (fun z => n (s _ z)) h
theorem IsAll.sub {N N' : List Addr} {H : Hp} (s : ∀ a, a ∈ N' → a ∈ N) : ∀ {vs : List V} {ds : List PyData}, IsAll N H vs ds → IsAll N' H vs ds
  | _, _, .nil => .nil
  | _, _, .cons h t => .cons (Is.sub s h) (IsAll.sub s t)
end
/-- a new address may be left out, too -/
theorem nin_new {N : List Addr} {H : Hp} {a D : Addr} {o : HO} (n : a ∉ N) (h : H a = some o) (hD : H D = none) : a ∉ D :: N := fun z => by
  cases z with
  | head => rw [hD] at h; cases h
  | tail _ z => exact n z
mutual
theorem Is.more {N : List Addr} {H : Hp} {D : Addr} (hD : H D = none) : ∀ {v : V} {d : PyData}, Is N H v d → Is (D :: N) H v d
  | _, _, .non => .non
  | _, _, .bl b => .bl b
  | _, _, .int i => .int i
  | _, _, .str h ha => .str h ha
  | _, _, .lst n h t => .lst (nin_new n h hD) h (IsAll.more hD t)
  | _, _, .tup n h t => .tup (nin_new n h hD) h (IsAll.more hD t)
  | _, _, .dct n h => .dct (nin_new n h hD) h
theorem IsAll.more {N : List Addr} {H : Hp} {D : Addr} (hD : H D = none) : ∀ {vs : List V} {ds : List PyData}, IsAll N H vs ds → IsAll (D :: N) H vs ds
  | _, _, .nil => .nil
  | _, _, .cons h t => .cons (Is.more hD h) (IsAll.more hD t)
end
theorem ExtN.at_ {N : List Addr} {H H' : Hp} {p : Addr} {o : HO} (hp : p ∈ N) (e : ExtN N H H') : ExtN N H (upd H' p o) := fun b u n h => by
  have nb : b ≠ p := fun z => n (by rw [z]; exact hp)
  rw [upd_ne nb]
  exact e b u n h
theorem nin1 {a d : Addr} (h : a ≠ d) : a ∉ [d] := fun z => h (List.mem_singleton.mp z)
end My

namespace My
open PySem PySem.Spec PyProof.Rows L2
/-! ### words, columns, lines as data -/
def wordD : PyData → Bool
  | .str s => isW s
  | _ => false
def colD : PyData → Bool
  | .int i => decide (0 ≤ i) && decide (i ≤ 199)
  | _ => false
def wordsD : PyData → Bool
  | .tuple ds => decide (1 ≤ ds.length) && decide (ds.length ≤ 6) && ds.all wordD
  | _ => false
def lineD : PyData → Bool
  | .tuple [c, t] => colD c && wordsD t
  | _ => false
theorem Is.word {N : List Addr} {H : Hp} {v : V} {d : PyData} (h : Is N H v d) : isWV v = wordD d := by cases h <;> rfl
theorem Is.col {N : List Addr} {H : Hp} {v : V} {d : PyData} (h : Is N H v d) : isColV v = colD d := by cases h <;> rfl
theorem line_len {ds : List PyData} (h : ds.length ≠ 2) : lineD (.tuple ds) = false := by
  match ds, h with
  | [], _ => rfl
  | [_], _ => rfl
  | [_, _], h => exact absurd rfl h
  | _ :: _ :: _ :: _, _ => rfl
end My

namespace My
open PySem PySem.Spec PyProof.Rows L2
/-! ### what is drawn for lines -/
def words5 : List PyData := [.str (Str.ofString "a"), .str (Str.ofString "of"), .str (Str.ofString "in"), .str (Str.ofString "zzzzzzzz"), .str (Str.ofString "lp")]
def odds8 : List PyData := [.str (Str.ofString ""), .str (Str.ofString "A"), .str (Str.ofString ";"), .str (Str.ofString "{"), .none, .int 0, .tuple [.str (Str.ofString "a")], .str (Str.ofString "abcdefghi")]
def cols5 : List PyData := [.int 0, .int 1, .int 7, .int 198, .int 199]
def cols12 : List PyData := [.int 0, .int 1, .int 7, .int 198, .int 199, .int 200, .int (-1), .none, .str (Str.ofString "0"), .bool true, .tuple [.int 0], .int (10 ^ Int.toNat 20)]
def okD (d : PyData) : Bool := words5.any fun z => PyData.eqv z d
def wfitD : PyData → Bool
  | .tuple ds => decide (1 ≤ ds.length) && decide (ds.length ≤ 6) && ds.all okD
  | _ => false
def fitsD (c t : PyData) : Bool := (cols5.any fun z => PyData.eqv z c) && !boolD c && wfitD t
def items13 : List PyData := words5 ++ odds8
theorem item_facts : (items13.all fun d => (wordD d == okD d) && SeqAt.shaped d && decide (d.depth ≤ 3) && !d.hasDict) = true := by decide +kernel
theorem item_ok {d : PyData} (h : d ∈ items13) : wordD d = okD d ∧ SeqAt.shaped d = true ∧ d.depth ≤ 3 ∧ d.hasDict = false := by
  have := List.all_eq_true.mp item_facts d h
  simp only [Bool.and_eq_true, beq_iff_eq, decide_eq_true_eq, Bool.not_eq_true'] at this
  exact ⟨this.1.1.1, this.1.1.2, this.1.2, this.2⟩
theorem col_facts : (cols12.all fun d => (colD d == ((cols5.any fun z => PyData.eqv z d) && !boolD d)) && SeqAt.shaped d && !d.hasDict) = true := by decide +kernel
theorem col_ok {d : PyData} (h : d ∈ cols12) : colD d = ((cols5.any fun z => PyData.eqv z d) && !boolD d) ∧ SeqAt.shaped d = true ∧ d.hasDict = false := by
  have := List.all_eq_true.mp col_facts d h
  simp only [Bool.and_eq_true, beq_iff_eq, Bool.not_eq_true'] at this
  exact ⟨this.1.1, this.1.2, this.2⟩
theorem word_facts : (words5.all fun d => !colD d && !wordsD d) = true := by decide +kernel
theorem word_ok {d : PyData} (h : d ∈ words5) : colD d = false ∧ wordsD d = false := by
  have := List.all_eq_true.mp word_facts d h
  simp only [Bool.and_eq_true, Bool.not_eq_true'] at this
  exact this
theorem items_lay : ∀ {ds : List PyData}, (∀ d ∈ ds, d ∈ items13) → PyData.canLayAll0 ds = true ∧ PyData.depthAll ds ≤ 3 ∧ PyData.hasDictAll ds = false
  | [], _ => ⟨rfl, Nat.zero_le _, rfl⟩
  | d :: r, h => by
    obtain ⟨h1, h2, h3⟩ := items_lay (ds := r) fun x hx => h x (List.mem_cons_of_mem _ hx)
    obtain ⟨_, a, b, c⟩ := item_ok (h d (.head _))
    refine ⟨?_, ?_, ?_⟩
    · show (d.canLay0 && PyData.canLayAll0 r) = true
      rw [h1, SeqAt.canLay_of_shaped a]
      rfl
    · show max d.depth (PyData.depthAll r) ≤ 3
      omega
    · show (d.hasDict || PyData.hasDictAll r) = false
      rw [h3, c]
      rfl
theorem items_shaped {ds : List PyData} (h : ∀ d ∈ ds, d ∈ items13) : SeqAt.shaped (.list ds) = true := by
  obtain ⟨h1, h2, _⟩ := items_lay h
  show (PyData.canLayAll0 ds && decide (PyData.depthAll ds + 1 ≤ 64)) = true
  rw [h1, decide_eq_true (by omega)]
  rfl
theorem eqv_nil : ∀ ds : List PyData, PyData.eqv (.list ds) (.list []) = ds.isEmpty
  | [] => rfl
  | _ :: _ => rfl
/-- words, with one odd item at most -/
def One (ds : List PyData) : Prop := (∀ d ∈ ds, d ∈ items13) ∧ ds.length ≤ 9 ∧ ∀ x y, ds = [x, y] → x ∈ words5 ∨ y ∈ words5
theorem One.words {ds : List PyData} (h : ∀ d ∈ ds, d ∈ words5) (hl : ds.length ≤ 9) : One ds :=
  ⟨fun d hd => List.mem_append_left _ (h d hd), hl, fun x y e => .inl (h x (by rw [e]; exact .head _))⟩
theorem One.put {ds : List PyData} {o : PyData} (k : Nat) (h : ∀ d ∈ ds, d ∈ words5) (hl : ds.length ≤ 8) (ho : o ∈ odds8) : One (ds.take k ++ [o] ++ ds.drop k) := by
  refine ⟨fun d hd => ?_, ?_, fun x y e => ?_⟩
  · rcases List.mem_append.mp hd with hd | hd
    · rcases List.mem_append.mp hd with hd | hd
      · exact List.mem_append_left _ (h d (List.mem_of_mem_take hd))
      · rw [List.mem_singleton.mp hd]
        exact List.mem_append_right _ ho
    · exact List.mem_append_left _ (h d (List.mem_of_mem_drop hd))
  · rw [List.length_append, List.length_append, List.length_take, List.length_drop]
    show min k ds.length + 1 + (ds.length - k) ≤ 9
    omega
  · have hlen := congrArg List.length e
    rw [List.length_append, List.length_append, List.length_take, List.length_drop] at hlen
    have h1 : ds.length = 1 := by
      have : min k ds.length + 1 + (ds.length - k) = 2 := hlen
      omega
    match ds, h1 with
    | [w], _ =>
      match k with
      | 0 =>
        cases e
        exact .inr (h _ (.head _))
      | k + 1 =>
        have e2 : [w, o] = [x, y] := by simpa using e
        cases e2
        exact .inl (h _ (.head _))
/-- what may stand for the words of a line -/
inductive Told : PyData → Prop
  | tup {ds : List PyData} (h : One ds) : Told (.tuple ds)
  | lst {ds : List PyData} (h : One ds) : Told (.list ds)
  | str : Told (.str (Str.ofString "a"))
  | non : Told .none
  | dct : Told (.dict [])
theorem line_fits {c t : PyData} (hc : c ∈ cols12) (ht : Told t) : lineD (.tuple [c, t]) = fitsD c t := by
  show (colD c && wordsD t) = _
  rw [(col_ok hc).1]
  unfold fitsD
  cases ht with
  | tup h =>
    congr 1
    show (decide _ && decide _ && List.all _ wordD) = (decide _ && decide _ && List.all _ okD)
    congr 1
    rw [Bool.eq_iff_iff, List.all_eq_true, List.all_eq_true]
    constructor
    · intro a d hd
      rw [← (item_ok (h.1 d hd)).1]
      exact a d hd
    · intro a d hd
      rw [(item_ok (h.1 d hd)).1]
      exact a d hd
  | lst h => rfl
  | str => rfl
  | non => rfl
  | dct => rfl
theorem told_col {t : PyData} (ht : Told t) : colD t = false := by cases ht <;> rfl
theorem told_line {t : PyData} (ht : Told t) : lineD t = false := by
  cases ht with
  | @tup ds h =>
    match ds, h with
    | [], _ => rfl
    | [_], _ => rfl
    | _ :: _ :: _ :: _, _ => rfl
    | [x, y], h =>
      show (colD x && wordsD y) = false
      rcases h.2.2 x y rfl with z | z
      · rw [(word_ok z).1]
        rfl
      · rw [(word_ok z).2, Bool.and_false]
  | lst h => rfl
  | str => rfl
  | non => rfl
  | dct => rfl
end My

--CUT
namespace My
open PySem PySem.Spec PyProof.Rows L2
def topS (i : Nat) : Stmt := PySem.Challenge.pw_offside_k03_lines_judged.main.body.getD i (.Pass ⟨0, 0, 0, 0⟩)
abbrev s_is_integer : Stmt := topS 4
abbrev s_is_word : Stmt := topS 5
abbrev s_is_column : Stmt := topS 6
abbrev s_is_words_of_line : Stmt := topS 7
abbrev s_is_line : Stmt := topS 8
abbrev s_dice : Stmt := topS 10
abbrev s_roll : Stmt := topS 11
abbrev s_pick : Stmt := topS 12
abbrev s_fits : Stmt := topS 13
abbrev s_right : Stmt := topS 14
abbrev s_law : Stmt := topS 15
theorem sc_is_integer : FnScope ["value"] ["value"] (defScope s_is_integer) := ⟨rfl, rfl, rfl, by decide +kernel, rfl, by decide +kernel, by decide +kernel⟩
theorem sc_is_word : FnScope ["value"] ["value"] (defScope s_is_word) := ⟨rfl, rfl, rfl, by decide +kernel, rfl, by decide +kernel, by decide +kernel⟩
theorem sc_is_column : FnScope ["value"] ["value"] (defScope s_is_column) := ⟨rfl, rfl, rfl, by decide +kernel, rfl, by decide +kernel, by decide +kernel⟩
theorem sc_is_words_of_line : FnScope ["value", "word"] ["value"] (defScope s_is_words_of_line) := ⟨rfl, rfl, rfl, by decide +kernel, rfl, by decide +kernel, by decide +kernel⟩
theorem sc_is_line : FnScope ["value"] ["value"] (defScope s_is_line) := ⟨rfl, rfl, rfl, by decide +kernel, rfl, by decide +kernel, by decide +kernel⟩
theorem sc_dice : FnScope ["_law_script", "_law_spot", "_law_cell", "_law_great", "_law_blend"] ["_law_script", "_law_spot"] (defScope s_dice) := ⟨rfl, rfl, rfl, by decide +kernel, rfl, by decide +kernel, by decide +kernel⟩
theorem sc_roll : FnScope ["_law_dice_here", "_law_total", "_law_found", "_law_one", "_law_two"] ["_law_dice_here", "_law_total"] (defScope s_roll) := ⟨rfl, rfl, rfl, by decide +kernel, rfl, by decide +kernel, by decide +kernel⟩
theorem sc_pick : FnScope ["_law_dice_here", "_law_items"] ["_law_dice_here", "_law_items"] (defScope s_pick) := ⟨rfl, rfl, rfl, by decide +kernel, rfl, by decide +kernel, by decide +kernel⟩
theorem sc_fits : FnScope ["_law_column", "_law_words", "_law_one"] ["_law_column", "_law_words"] (defScope s_fits) := ⟨rfl, rfl, rfl, by decide +kernel, rfl, by decide +kernel, by decide +kernel⟩
theorem sc_right : FnScope ["_law_dice_here", "_law_column", "_law_turn", "_law_words", "_law_odd", "_law_told", "_law_due"] ["_law_dice_here"] (defScope s_right) := ⟨rfl, rfl, rfl, by decide +kernel, rfl, by decide +kernel, by decide +kernel⟩
theorem sc_law : FnScope ["_law_script", "_law_spot", "_law_dice_here", "_law_turn", "_law_some", "_law_one", "_law_told"] ["_law_script"] (defScope s_law) := ⟨rfl, rfl, rfl, by decide +kernel, rfl, by decide +kernel, by decide +kernel⟩
structure Txt (K : PySem.W.Frag) (mg : Str → Option Value) where
  f_is_integer : Addr
  fd_is_integer : FuncData
  F_is_integer : Fun K "is_integer" "is_integer" s_is_integer f_is_integer fd_is_integer
  g_is_integer : mg "is_integer" = some (.ref f_is_integer)
  b_is_integer : Binds K fd_is_integer ["value"] []
  f_is_word : Addr
  fd_is_word : FuncData
  F_is_word : Fun K "is_word" "is_word" s_is_word f_is_word fd_is_word
  g_is_word : mg "is_word" = some (.ref f_is_word)
  b_is_word : Binds K fd_is_word ["value"] []
  f_is_column : Addr
  fd_is_column : FuncData
  F_is_column : Fun K "is_column" "is_column" s_is_column f_is_column fd_is_column
  g_is_column : mg "is_column" = some (.ref f_is_column)
  b_is_column : Binds K fd_is_column ["value"] []
  f_is_words_of_line : Addr
  fd_is_words_of_line : FuncData
  F_is_words_of_line : Fun K "is_words_of_line" "is_words_of_line" s_is_words_of_line f_is_words_of_line fd_is_words_of_line
  g_is_words_of_line : mg "is_words_of_line" = some (.ref f_is_words_of_line)
  b_is_words_of_line : Binds K fd_is_words_of_line ["value"] []
  f_is_line : Addr
  fd_is_line : FuncData
  F_is_line : Fun K "is_line" "is_line" s_is_line f_is_line fd_is_line
  g_is_line : mg "is_line" = some (.ref f_is_line)
  b_is_line : Binds K fd_is_line ["value"] []
  f_dice : Addr
  fd_dice : FuncData
  F_dice : Fun K "_law_dice" "_law_dice" s_dice f_dice fd_dice
  g_dice : mg "_law_dice" = some (.ref f_dice)
  b_dice : Binds K fd_dice ["_law_script", "_law_spot"] []
  f_roll : Addr
  fd_roll : FuncData
  F_roll : Fun K "_law_roll" "_law_roll" s_roll f_roll fd_roll
  g_roll : mg "_law_roll" = some (.ref f_roll)
  b_roll : Binds K fd_roll ["_law_dice_here", "_law_total"] []
  f_pick : Addr
  fd_pick : FuncData
  F_pick : Fun K "_law_pick" "_law_pick" s_pick f_pick fd_pick
  g_pick : mg "_law_pick" = some (.ref f_pick)
  b_pick : Binds K fd_pick ["_law_dice_here", "_law_items"] []
  f_fits : Addr
  fd_fits : FuncData
  F_fits : Fun K "_law_fits" "_law_fits" s_fits f_fits fd_fits
  g_fits : mg "_law_fits" = some (.ref f_fits)
  b_fits : Binds K fd_fits ["_law_column", "_law_words"] []
  f_right : Addr
  fd_right : FuncData
  F_right : Fun K "_law_right" "_law_right" s_right f_right fd_right
  g_right : mg "_law_right" = some (.ref f_right)
  b_right : Binds K fd_right ["_law_dice_here"] []
  t_MAX_LETTERS : Tok
  c_MAX_LETTERS : mg "MAX_LETTERS" = some (.int (8) t_MAX_LETTERS)
  t_MAX_COLUMN : Tok
  c_MAX_COLUMN : mg "MAX_COLUMN" = some (.int (199) t_MAX_COLUMN)
  t_MAX_WORDS : Tok
  c_MAX_WORDS : mg "MAX_WORDS" = some (.int (6) t_MAX_WORDS)
  z_isinstance : mg "isinstance" = none
  z_int : mg "int" = none
  z_bool : mg "bool" = none
  z_abs : mg "abs" = none
  z_str : mg "str" = none
  z_len : mg "len" = none
  z_tuple : mg "tuple" = none
  z_all : mg "all" = none
  z_max : mg "max" = none
  z_range : mg "range" = none
  z_repr : mg "repr" = none
  z_min : mg "min" = none
end My
namespace My
open PySem PySem.Spec PyProof.Rows L2
section
variable {P : Program} {w : World} {K : PySem.W.Frag} {mg : Str → Option Value} {base : Heap}
/-! ### _law_dice -/
def spDice (K : PySem.W.Frag) : Sp := fun vs H Q _ => ∃ (a : Addr) (ns : List Int) (k : Nat), vs = [.ref a, .int k] ∧ SqL K H a (ns.map V.int) ∧ ∀ (d : Addr) (H' : Hp), H d = none → Same H H' → Dice H' d → Q (.ref d) H'
theorem ok_dice (T : Txt K mg) : FnOk P w K mg base CX0 1 T.f_dice T.fd_dice ["_law_script", "_law_spot"] (spDice K) := by
  refine T.F_dice.ok sc_dice (fun vs H Q E h => ?_) (fun cdv A outer s H vs Q E hr h => ?_)
  · obtain ⟨a, ns, k, rfl, _⟩ := h
    rfl
  · obtain ⟨a, ns, k, rfl, hs, q⟩ := h
    refine ⟨_, (pss_cons (ps_set (i := 2) sc_dice.nd rfl (.inl rfl) (pe_op op_add (pe_op op_mul pe_int (pv 1)) pe_int))
      (pss_cons (ps_if (pt_cmpR op_lt (pv 1) (pe_callB (c_len (K := K)) (by rfl) T.z_len (by decide +kernel) (pa_cons (pv 0) pa_nil)) (nomark _)) (pss_one (ps_set (i := 2) sc_dice.nd rfl (.inl rfl) (pe_ix (i_list (K := K)) (pv 0) (pv 1) (fun _ _ => rfl)))) pss_nil)
      (pss_cons (ps_set (i := 3) sc_dice.nd rfl (.inl rfl) (pe_op op_mod (pe_callTy c_int1 (by rfl) T.z_int (by decide +kernel) (pa_cons (pe_callB c_abs (by rfl) T.z_abs (by decide +kernel) (pa_cons (pv 2) pa_nil)) pa_nil)) (pe_op op_powW (pe_op op_powW pe_int pe_int) pe_int)))
      (pss_cons (ps_set (i := 4) sc_dice.nd rfl (.inl rfl) (pe_op op_add (pe_op op_add (pe_op op_add (pe_op op_mul (pe_op op_mod (pe_callTy c_int1 (by rfl) T.z_int (by decide +kernel) (pa_cons (pv 3) pa_nil)) pe_int) pe_int) (pe_op op_mul pe_int (pv 1))) (pe_op op_mul pe_int (pe_callTy c_int1 (by rfl) T.z_int (by decide +kernel) (pa_cons (pe_cmpR op_lt (pv 2) pe_int (nomark _)) pa_nil)))) pe_int))
      (pss_one (ps_ret (pe_lst (pa_cons (pe_callB (c_max2 rfl) (by rfl) T.z_max (by decide +kernel) (pa_cons pe_int (pa_cons (pe_op op_sub (pv 3) (pe_op op_powW pe_int pe_int)) pa_nil))) (pa_cons (pe_op op_mod (pe_callTy c_int1 (by rfl) T.z_int (by decide +kernel) (pa_cons (pv 4) pa_nil)) pe_int) (pa_cons pe_int pa_nil)))))))))), ?_⟩
    walk_at "zrd"
    refine ⟨a, _, rfl, .inl hs, ?_⟩
    walk_at "zrd"
    have fin : ∀ (x y z : Int) (p : Addr), 0 ≤ x → H p = none → Q (.ref p) (upd H p (.lst [.int x, .int y, .int z])) := fun x y z p h0 hp =>
      q p _ hp (fun b o e => by rw [upd_ne (ne_of_none e hp)]; exact e) (Dice.mk3 h0)
    have tail : ∀ (g : Int), 0 ≤ (if g > 0 then g else 0) := fun g => by
      by_cases h : g > 0
      · rw [if_pos h]; omega
      · rw [if_neg h]; omega
    refine ite2 (fun e => ?_) (fun e => ?_)
    · have hk : k < ns.length := by
        have e1 := of_decide_eq_true e
        rw [List.length_map] at e1
        omega
      walk_at "zrd"
      refine ⟨a, _, (k : Int), .int ns[k], rfl, rfl, hs, atI_nat ?_, ?_⟩
      · rw [List.getElem?_map, List.getElem?_eq_getElem hk]
        rfl
      walk_at "zrd"
      exact ⟨by show 3 ≤ sizeLine; decide, fun p hp => fin _ _ _ p (tail _) hp⟩
    · walk_at "zrd"
      exact ⟨by show 3 ≤ sizeLine; decide, fun p hp => fin _ _ _ p (tail _) hp⟩
/-! ### _law_roll -/
def spRoll : Sp := fun vs H Q _ => ∃ (d : Addr) (n : Int), vs = [.ref d, .int n] ∧ Dice H d ∧ 1 ≤ n ∧ n < 1073741824 ∧ ∀ (r : Nat) (H' : Hp), (r : Int) < n → Ext d H H' → Dice H' d → Q (.int r) H'
theorem ok_roll (T : Txt K mg) : FnOk P w K mg base CX0 1 T.f_roll T.fd_roll ["_law_dice_here", "_law_total"] spRoll := by
  refine T.F_roll.ok sc_roll (fun vs H Q E h => ?_) (fun cdv A outer s H vs Q E hr h => ?_)
  · obtain ⟨d, n, rfl, _⟩ := h
    rfl
  · obtain ⟨d, n, rfl, ⟨a, b, c, h0, hd⟩, h1, h2, q⟩ := h
    refine ⟨_, (pss_cons (ps_if (pt_cmpR op_gt (pe_ix (i_list (K := K)) (pv 0) pe_int (fun _ _ => rfl)) pe_int (nomark _)) (pss_cons (ps_set (i := 2) sc_roll.nd rfl (.inl rfl) (pe_op op_mod (pe_callTy c_int1 (by rfl) T.z_int (by decide +kernel) (pa_cons (pe_ix (i_list (K := K)) (pv 0) pe_int (fun _ _ => rfl)) pa_nil)) (pv 1)))
      (pss_cons (ps_asg (pe_op op_fdiv (pe_ix (i_list (K := K)) (pv 0) pe_int (fun _ _ => rfl)) (pv 1)) (pg_sub (pv 0) pe_int set_list))
      (pss_one (ps_ret (pv 2))))) pss_nil)
      (pss_cons (ps_asg (pe_op op_add (pe_ix (i_list (K := K)) (pv 0) pe_int (fun _ _ => rfl)) pe_int) (pg_sub (pv 0) pe_int set_list))
      (pss_cons (ps_set (i := 3) sc_roll.nd rfl (.inl rfl) (pe_op op_mod (pe_callTy c_int1 (by rfl) T.z_int (by decide +kernel) (pa_cons (pe_op op_add (pe_ix (i_list (K := K)) (pv 0) pe_int (fun _ _ => rfl)) (pe_op op_mul pe_int (pe_ix (i_list (K := K)) (pv 0) pe_int (fun _ _ => rfl)))) pa_nil)) pe_int))
      (pss_cons (ps_set (i := 4) sc_roll.nd rfl (.inl rfl) (pe_op op_add (pe_op op_mul (pe_op op_mod (pe_callTy c_int1 (by rfl) T.z_int (by decide +kernel) (pa_cons (pe_op op_mul (pv 3) (pv 3)) pa_nil)) pe_int) (pv 3)) (pe_op op_mul pe_int (pe_ix (i_list (K := K)) (pv 0) pe_int (fun _ _ => rfl)))))
      (pss_cons (ps_set (i := 4) sc_roll.nd rfl (.inl rfl) (pe_op op_mod (pe_callTy c_int1 (by rfl) T.z_int (by decide +kernel) (pa_cons (pv 4) pa_nil)) pe_int))
      (pss_one (ps_ret (pe_op op_mod (pe_callTy c_int1 (by rfl) T.z_int (by decide +kernel) (pa_cons (pe_op op_fdiv (pv 4) pe_int) pa_nil)) (pv 1))))))))), ?_⟩
    walk_at "zrd"
    refine ite2 (fun e => ?_) (fun e => ?_)
    · walk_at "zrd"
      obtain ⟨h3, h4⟩ := nx_pos h1 h0
      have q' := q (a % n).toNat (upd H d (.lst [.int (a / n), .int b, .int c])) h3 (Ext.refl d H).at_ (Dice.mk3 (Int.ediv_nonneg h0 (by omega)))
      rw [h4] at q'
      exact q'
    · walk_at "zrd"
      have key : ∀ z : Int, 0 ≤ z → Q (.int (z % n)) (upd H d (.lst [.int a, .int b, .int (c + 1)])) := fun z hz => by
        obtain ⟨h3, h4⟩ := nx_pos h1 hz
        have q' := q (z % n).toNat (upd H d (.lst [.int a, .int b, .int (c + 1)])) h3 (Ext.refl d H).at_ (Dice.mk3 h0)
        rw [h4] at q'
        exact q'
      exact key _ (Int.ediv_nonneg (Int.emod_nonneg _ (by decide)) (by decide))
/-! ### _law_pick -/
def spPick : Sp := fun vs H Q _ => ∃ (d l : Addr) (xs : List V), vs = [.ref d, .ref l] ∧ Dice H d ∧ H l = some (.lst xs) ∧ l ≠ d ∧ xs ≠ [] ∧ xs.length < 1073741824 ∧ ∀ (v : V) (H' : Hp), v ∈ xs → Ext d H H' → Dice H' d → Q v H'
theorem ok_pick (T : Txt K mg) : FnOk P w K mg base CX0 2 T.f_pick T.fd_pick ["_law_dice_here", "_law_items"] spPick := by
  refine T.F_pick.ok sc_pick (fun vs H Q E h => ?_) (fun cdv A outer s H vs Q E hr h => ?_)
  · obtain ⟨d, l, xs, rfl, _⟩ := h
    rfl
  · obtain ⟨d, l, xs, rfl, hd, hl, hne, h1, h2, q⟩ := h
    have h0 : 1 ≤ xs.length := List.length_pos_iff.mpr h1
    refine ⟨_, (pss_one (ps_ret (pe_ix (i_list (K := K)) (pv 1) (pe_call (ok_roll T) (hr.mono (by decide)) (by rfl) T.g_roll T.F_roll.kp T.b_roll .nil pass0 (pa_cons (pv 0) (pa_cons (pe_callB (c_len (K := K)) (by rfl) T.z_len (by decide +kernel) (pa_cons (pv 1) pa_nil)) pa_nil))) (fun _ _ => rfl)))), ?_⟩
    walk_at "zrd"
    refine ⟨d, (xs.length : Int), rfl, hd, by omega, by omega, fun r H1 hr1 e1 d1 => ?_⟩
    have hl1 : H1 l = some (.lst xs) := e1 _ _ hne hl
    have hr2 : r < xs.length := by omega
    refine ⟨l, xs, r, xs[r], rfl, rfl, .inl (.inl hl1), atI_nat (List.getElem?_eq_getElem hr2), ?_⟩
    exact q _ H1 (List.getElem_mem hr2) e1 d1
end
end My

--CUT
namespace My
open PySem PySem.Spec PyProof.Rows L2
section
variable {P : Program} {w : World} {K : PySem.W.Frag} {mg : Str → Option Value} {base : Heap}
/-! ### is_word -/
def spWord : Sp := fun vs H Q _ => ∃ v : V, vs = [v] ∧ KindV H v ∧ Q (.bl (isWV v)) H
theorem ok_is_word (T : Txt K mg) : FnOk P w K mg base CX0 1 T.f_is_word T.fd_is_word ["value"] spWord := by
  refine T.F_is_word.ok sc_is_word (fun vs H Q E h => ?_) (fun cdv A outer s H vs Q E hr h => ?_)
  · obtain ⟨v, rfl, _⟩ := h
    rfl
  · obtain ⟨v, rfl, hk, q⟩ := h
    refine ⟨_, (pss_cons (ps_if (PW.pt (pw_or (pt_not (pt_val (pe_callB (c_isi (K := K)) (by rfl) T.z_isinstance (by decide +kernel) (pa_cons (pv 0) (pa_cons (pe_bltn (v := .ty "str") (by rfl) T.z_str (by decide +kernel) rfl) pa_nil))))) (pw_or1 (pt_cmpR op_gt (pe_callB c_lenT (by rfl) T.z_len (by decide +kernel) (pa_cons (pv 0) pa_nil)) (pe_glob (v := .int (8)) rfl T.c_MAX_LETTERS ⟨_, rfl⟩) (nomark _))))) (pss_one (ps_ret pe_bl)) pss_nil)
      (pss_one (ps_ret (pe_and (e_bm0 (K := K) PySem.F.plainAttrs_str PySem.F.slot_str_isascii PySem.F.type_str_isascii c_isascii (pv 0)) (pe_and (e_bm0 (K := K) PySem.F.plainAttrs_str PySem.F.slot_str_isalpha PySem.F.type_str_isalpha c_isalpha (pv 0)) (pe_one (e_bm0 (K := K) PySem.F.plainAttrs_str PySem.F.slot_str_islower PySem.F.type_str_islower c_islower (pv 0)))))))), ?_⟩
    walk_at "zrd"
    refine hk.isi ?_
    cases hk with
    | @str s hs ha =>
      walk_at "zrd"
      refine r_lenT (Nat.le_trans hs (by decide)) ?_
      walk_at "zrd"
      have q : Q (.bl (isW s)) H := q
      refine ite2 (fun e => ?_) (fun e => ?_)
      · walk_at "zrd"
        have h8 : (8 : Int) < s.length := of_decide_eq_true e
        have : isW s = false := by
          unfold isW
          rw [show decide (s.length ≤ 8) = false from decide_eq_false (by omega), Bool.and_false, Bool.false_and]
        rw [this] at q
        exact q
      · have h8 : ¬ (8 : Int) < s.length := fun z => e (decide_eq_true z)
        have e8 : isW s = (Txt.isascii s && (Txt.isalpha s && Txt.islower s)) := by
          rw [word_signs]
          unfold isW
          rw [show decide (s.length ≤ 8) = true from decide_eq_true (by omega), Bool.and_true]
        rw [e8] at q
        walk_at "zrd"
        cases h1 : Txt.isascii s with
        | false =>
          rw [h1] at q
          exact iteF q
        | true =>
          rw [h1] at q
          walk_at "zrd"
          cases h2 : Txt.isalpha s with
          | false =>
            rw [h2] at q
            exact iteF q
          | true =>
            rw [h2] at q
            walk_at "zrd"
            exact q
    | _ =>
      walk_at "zrd"
      exact q
end
end My

namespace My
open PySem PySem.Spec PyProof.Rows L2
section
variable {P : Program} {w : World} {K : PySem.W.Frag} {mg : Str → Option Value} {base : Heap}
/-! ### is_integer, is_column -/
def spIs (f : V → Bool) : Sp := fun vs H Q _ => ∃ v : V, vs = [v] ∧ KindV H v ∧ Q (.bl (f v)) H
theorem ok_is_integer (T : Txt K mg) : FnOk P w K mg base CX0 1 T.f_is_integer T.fd_is_integer ["value"] (spIs isIntV) := by
  refine T.F_is_integer.ok sc_is_integer (fun vs H Q E h => ?_) (fun cdv A outer s H vs Q E hr h => ?_)
  · obtain ⟨v, rfl, _⟩ := h
    rfl
  · obtain ⟨v, rfl, hk, q⟩ := h
    refine ⟨_, (pss_cons (ps_if (PW.pt (pw_or (pt_not (pt_val (pe_callB (c_isi (K := K)) (by rfl) T.z_isinstance (by decide +kernel) (pa_cons (pv 0) (pa_cons (pe_bltn (v := .ty "int") (by rfl) T.z_int (by decide +kernel) rfl) pa_nil))))) (pw_or1 (pt_val (pe_callB (c_isi (K := K)) (by rfl) T.z_isinstance (by decide +kernel) (pa_cons (pv 0) (pa_cons (pe_bltn (v := .ty "bool") (by rfl) T.z_bool (by decide +kernel) rfl) pa_nil))))))) (pss_one (ps_ret pe_bl)) pss_nil)
      (pss_one (ps_ret (pe_cmpR op_lt (pe_callB c_abs (by rfl) T.z_abs (by decide +kernel) (pa_cons (pv 0) pa_nil)) (pe_op op_powW pe_int pe_int) (nomark _))))), ?_⟩
    walk_at "zrd"
    refine hk.isiInt ?_
    cases v with
    | int i =>
      walk_at "zrd"
      refine hk.isiBool ?_
      walk_at "zrd"
      exact q
    | bl b =>
      walk_at "zrd"
      refine hk.isiBool ?_
      walk_at "zrd"
      exact q
    | _ =>
      walk_at "zrd"
      exact q
theorem ok_is_column (T : Txt K mg) : FnOk P w K mg base CX0 2 T.f_is_column T.fd_is_column ["value"] (spIs isColV) := by
  refine T.F_is_column.ok sc_is_column (fun vs H Q E h => ?_) (fun cdv A outer s H vs Q E hr h => ?_)
  · obtain ⟨v, rfl, _⟩ := h
    rfl
  · obtain ⟨v, rfl, hk, q⟩ := h
    refine ⟨_, (pss_one (ps_ret (pe_and (pe_call (ok_is_integer T) (hr.mono (by decide)) (by rfl) T.g_is_integer T.F_is_integer.kp T.b_is_integer .nil pass0 (pa_cons (pv 0) pa_nil)) (pe_one (pe_chain op_le op_le pe_int (pv 0) (pe_glob (v := .int (199)) rfl T.c_MAX_COLUMN ⟨_, rfl⟩)))))), ?_⟩
    walk_at "zrd"
    refine ⟨v, rfl, hk, ?_⟩
    cases v with
    | int i =>
      walk_at "zrd"
      refine ite2 (fun e => ?_) (fun e => ?_)
      · walk_at "zrd"
        refine ite2 (fun e2 => ?_) (fun e2 => ?_)
        · walk_at "zrd"
          have q2 : Q (.bl (decide (0 ≤ i) && decide (i ≤ 199))) H := q
          rw [e2, Bool.true_and] at q2
          exact q2
        · walk_at "zrd"
          have q2 : Q (.bl (decide (0 ≤ i) && decide (i ≤ 199))) H := q
          rw [Bool.eq_false_iff.mpr e2, Bool.false_and] at q2
          exact q2
      · have h1 : ¬ ((if i < 0 then -i else i) < 10 ^ 60) := fun z => e (decide_eq_true z)
        have h2 : isColV (.int i) = false := isCol_not (by
          by_cases h : i < 0
          · exact .inl h
          · rw [if_neg h] at h1
            right
            omega)
        rw [h2] at q
        exact q
    | _ =>
      walk_at "zrd"
      exact q
end
end My

--CUT
namespace My
open PySem PySem.Spec PyProof.Rows L2
section
variable {P : Program} {w : World} {K : PySem.W.Frag} {mg : Str → Option Value} {base : Heap}
/-! ### the words of a line; lines -/
def spD (f : PyData → Bool) : Sp := fun vs H Q _ => ∃ (N : List Addr) (v : V) (d : PyData), vs = [v] ∧ Is N H v d ∧ ∀ H', Same H H' → Q (.bl (f d)) H'
theorem ok_is_words_of_line (T : Txt K mg) : FnOk P w K mg base CX0 2 T.f_is_words_of_line T.fd_is_words_of_line ["value"] (spD wordsD) := by
  refine T.F_is_words_of_line.ok sc_is_words_of_line (fun vs H Q E h => ?_) (fun cdv A outer s H vs Q E hr h => ?_)
  · obtain ⟨N, v, d, rfl, _⟩ := h
    rfl
  · obtain ⟨N, v, d, rfl, hd, q⟩ := h
    refine ⟨_, (pss_cons (ps_if (PW.pt (pw_or (pt_not (pt_val (pe_callB (c_isi (K := K)) (by rfl) T.z_isinstance (by decide +kernel) (pa_cons (pv 0) (pa_cons (pe_bltn (v := .ty "tuple") (by rfl) T.z_tuple (by decide +kernel) rfl) pa_nil))))) (pw_or1 (pt_not (pt_chain op_le op_le pe_int (pe_callB (c_len (K := K)) (by rfl) T.z_len (by decide +kernel) (pa_cons (pv 0) pa_nil)) (pe_glob (v := .int (6)) rfl T.c_MAX_WORDS ⟨_, rfl⟩)))))) (pss_one (ps_ret pe_bl)) pss_nil)
      (pss_one (ps_ret (pe_callB (c_all (K := K) rfl) (by rfl) T.z_all (by decide +kernel) (pa_cons (pe_lc (own := [("word", 1)]) rfl sc_is_words_of_line.nd (p_tup (K := K) (pv 0)) (blkOk_by (own := [("word", 1)]) (N := ["value", "word"]) (sc := (defScope s_is_words_of_line)) (by decide +kernel)) (fun _ _ _ _ _ => (pg_name (i := 1) sc_is_words_of_line.nd rfl (.inl rfl))) (fun _ _ _ _ _ => pts_nil) (fun _ _ _ _ _ => (pe_call (ok_is_word T) (hr.mono (by decide)) (by rfl) T.g_is_word T.F_is_word.kp T.b_is_word .nil pass0 (pa_cons (pv 1) pa_nil)))) pa_nil))))), ?_⟩
    walk_at "zrd"
    refine hd.isiTup ?_
    cases hd with
    | @tup a xs ds n e h =>
      walk_at "zrd"
      have hl := h.len
      have fals : ∀ H', Same H H' → ¬ (1 ≤ ds.length ∧ ds.length ≤ 6) → Q (.bl false) H' := fun H' sm z => by
        have e0 : wordsD (.tuple ds) = false := by
          show (decide (1 ≤ ds.length) && decide (ds.length ≤ 6) && ds.all wordD) = false
          rw [← Bool.decide_and, decide_eq_false z]
          rfl
        have := q H' sm
        rw [e0] at this
        exact this
      refine ite2 (fun e1 => ?_) (fun e1 => ?_)
      · have h1 := of_decide_eq_true e1
        walk_at "zrd"
        refine ite2 (fun e2 => ?_) (fun e2 => ?_)
        · have h2 : ¬ (xs.length : Int) ≤ 6 := fun z => by
            rw [decide_eq_true z] at e2
            cases e2
          walk_at "zrd"
          exact fals H (Same.refl H) (by omega)
        · have h2 : (xs.length : Int) ≤ 6 := Classical.byContradiction fun z => e2 (by rw [decide_eq_false z]; rfl)
          walk_at "zrd"
          intro D hD
          refine lcB (walk_tup (xs := xs)) (fun i H' => H' D = some (.lst (((ds.take i).map wordD).map V.bl)) ∧ Same H H') ⟨upd_same, same_upd hD⟩ (fun i H' _ hP => .inl (.inl (hP.2 _ _ e))) (fun i x H1 H2 hi hP hy => ?_) (fun H1 hP => ?_)
          · obtain ⟨rfl, hx⟩ := hy
            obtain ⟨hD1, s1⟩ := hP
            obtain ⟨dx, hdx, hI⟩ := h.get hx
            walk_at "zrd"
            refine ⟨rfl, ?_⟩
            walk_at "zrd"
            refine ⟨x, rfl, (hI.mono (ExtN.of_same s1)).kind, _, hD1, ?_, ?_, fun b o hb => ?_⟩
            · rw [List.length_map, List.length_map, List.length_take]
              exact sz_lt (Nat.lt_of_le_of_lt (Nat.min_le_right _ _) (by omega))
            · rw [upd_same, List.take_add_one, hdx, List.map_append, List.map_append, hI.word]
              rfl
            · rw [upd_ne (ne_of_none hb hD)]
              exact s1 b o hb
          · obtain ⟨hD1, s1⟩ := hP
            rw [List.take_of_length_le (by omega)] at hD1
            walk_at "zrd"
            refine r_all hD1 ?_
            have eq1 : wordsD (.tuple ds) = (ds.map wordD).all id := by
              show (decide (1 ≤ ds.length) && decide (ds.length ≤ 6) && ds.all wordD) = _
              rw [decide_eq_true (by omega), decide_eq_true (by omega), List.all_map]
              rfl
            have := q H1 s1
            rw [eq1] at this
            exact this
      · have h1 : ¬ (1 : Int) ≤ xs.length := fun z => e1 (decide_eq_true z)
        walk_at "zrd"
        exact fals H (Same.refl H) (by omega)
    | _ =>
      walk_at "zrd"
      exact q _ (Same.refl H)
theorem ok_is_line (T : Txt K mg) : FnOk P w K mg base CX0 3 T.f_is_line T.fd_is_line ["value"] (spD lineD) := by
  refine T.F_is_line.ok sc_is_line (fun vs H Q E h => ?_) (fun cdv A outer s H vs Q E hr h => ?_)
  · obtain ⟨N, v, d, rfl, _⟩ := h
    rfl
  · obtain ⟨N, v, d, rfl, hd, q⟩ := h
    refine ⟨_, (pss_cons (ps_if (PW.pt (pw_or (pt_not (pt_val (pe_callB (c_isi (K := K)) (by rfl) T.z_isinstance (by decide +kernel) (pa_cons (pv 0) (pa_cons (pe_bltn (v := .ty "tuple") (by rfl) T.z_tuple (by decide +kernel) rfl) pa_nil))))) (pw_or1 (pt_cmpR op_ne (pe_callB (c_len (K := K)) (by rfl) T.z_len (by decide +kernel) (pa_cons (pv 0) pa_nil)) pe_int (nomark _))))) (pss_one (ps_ret pe_bl)) pss_nil)
      (pss_one (ps_ret (pe_and (pe_call (ok_is_column T) (hr.mono (by decide)) (by rfl) T.g_is_column T.F_is_column.kp T.b_is_column .nil pass0 (pa_cons (pe_ix (i_tup (K := K)) (pv 0) pe_int (fun _ _ => rfl)) pa_nil)) (pe_one (pe_call (ok_is_words_of_line T) (hr.mono (by decide)) (by rfl) T.g_is_words_of_line T.F_is_words_of_line.kp T.b_is_words_of_line .nil pass0 (pa_cons (pe_ix (i_tup (K := K)) (pv 0) pe_int (fun _ _ => rfl)) pa_nil))))))), ?_⟩
    walk_at "zrd"
    refine hd.isiTup ?_
    cases hd with
    | @tup a xs ds n e h =>
      have hl := h.len
      walk_at "zrd"
      refine ite2 (fun e1 => ?_) (fun e1 => ?_)
      · have h1 : ds.length ≠ 2 := fun z => by
          rw [show (xs.length : Int) = 2 by omega, decide_eq_true rfl] at e1
          cases e1
        walk_at "zrd"
        have := q H (Same.refl H)
        rw [line_len h1] at this
        exact this
      · have h1 : xs.length = 2 := Classical.byContradiction fun z => e1 (by rw [decide_eq_false (fun w => z (by have := V.int.inj w; omega))]; rfl)
        match xs, ds, h, h1 with
        | [x, y], [c, t], .cons hc (.cons ht .nil), _ =>
          walk_at "zrd"
          refine r_ixT e rfl ?_
          walk_at "zrd"
          refine ⟨x, rfl, hc.kind, ?_⟩
          rw [hc.col]
          walk_at "zrd"
          have q2 : ∀ H', Same H H' → Q (.bl (colD c && wordsD t)) H' := q
          cases hcd : colD c with
          | true =>
            rw [hcd] at q2
            walk_at "zrd"
            refine r_ixT e rfl ?_
            walk_at "zrd"
            exact ⟨N, y, t, rfl, ht, fun H' sm => q2 H' sm⟩
          | false =>
            rw [hcd] at q2
            walk_at "zrd"
            exact q2 H (Same.refl H)
    | _ =>
      walk_at "zrd"
      exact q _ (Same.refl H)
end
end My

--CUT
namespace My
open PySem PySem.Spec PyProof.Rows L2
section
variable {P : Program} {w : World} {K : PySem.W.Frag} {mg : Str → Option Value} {base : Heap}
/-! ### the law's own look at lines -/
def spFits : Sp := fun vs H Q _ => ∃ (N : List Addr) (c t : V) (cd td : PyData), vs = [c, t] ∧ Is N H c cd ∧ Is N H t td ∧ cd ∈ cols12 ∧ Told td ∧ ∀ H', Same H H' → Q (.bl (fitsD cd td)) H'
theorem dp_words5 {K : PySem.W.Frag} {H : Hp} {p : Addr} (h : H p = some (.lst [V.str (Str.ofString "a"), V.str (Str.ofString "of"), V.str (Str.ofString "in"), V.str (Str.ofString "zzzzzzzz"), V.str (Str.ofString "lp")])) : Dp K H (.ref p) (.list words5) :=
  .lst (.inl (.inl h)) (.cons (.str _) (.cons (.str _) (.cons (.str _) (.cons (.str _) (.cons (.str _) .nil)))))
theorem dp_cols5 {K : PySem.W.Frag} {H : Hp} {p : Addr} (h : H p = some (.lst [V.int 0, V.int 1, V.int 7, V.int 198, V.int 199])) : Dp K H (.ref p) (.list cols5) :=
  .lst (.inl (.inl h)) (.cons (.int _) (.cons (.int _) (.cons (.int _) (.cons (.int _) (.cons (.int _) .nil)))))
theorem ok_fits (T : Txt K mg) : FnOk P w K mg base CX0 1 T.f_fits T.fd_fits ["_law_column", "_law_words"] spFits := by
  refine T.F_fits.ok sc_fits (fun vs H Q E h => ?_) (fun cdv A outer s H vs Q E hr h => ?_)
  · obtain ⟨N, c, t, cd, td, rfl, _⟩ := h
    rfl
  · obtain ⟨N, c, t, cd, td, rfl, hc, ht, hcm, htd, q⟩ := h
    obtain ⟨_, hcs, hcn⟩ := col_ok hcm
    refine ⟨_, (pss_cons (ps_if (PW.pt (pw_or (pt_cmpR (o_notInD (K := K) (hu65 hr)) (pv 0) (pe_lst (pa_cons pe_int (pa_cons pe_int (pa_cons pe_int (pa_cons pe_int (pa_cons pe_int pa_nil)))))) (by rfl)) (pw_or (pt_val (pe_callB (c_isi (K := K)) (by rfl) T.z_isinstance (by decide +kernel) (pa_cons (pv 0) (pa_cons (pe_bltn (v := .ty "bool") (by rfl) T.z_bool (by decide +kernel) rfl) pa_nil)))) (pw_or1 (pt_not (pt_val (pe_callB (c_isi (K := K)) (by rfl) T.z_isinstance (by decide +kernel) (pa_cons (pv 1) (pa_cons (pe_bltn (v := .ty "tuple") (by rfl) T.z_tuple (by decide +kernel) rfl) pa_nil))))))))) (pss_one (ps_ret pe_bl)) pss_nil)
      (pss_one (ps_ret (pe_and (pe_chain op_le op_le pe_int (pe_callB (c_len (K := K)) (by rfl) T.z_len (by decide +kernel) (pa_cons (pv 1) pa_nil)) pe_int) (pe_one (pe_cmpR (o_eqD (K := K) hr.units) (pe_lc (own := [("_law_one", 2)]) rfl sc_fits.nd (p_tup (K := K) (pv 1)) (blkOk_by (own := [("_law_one", 2)]) (N := ["_law_column", "_law_words", "_law_one"]) (sc := (defScope s_fits)) (by decide +kernel)) (fun _ _ _ _ _ => (pg_name (i := 2) sc_fits.nd rfl (.inl rfl))) (fun _ _ _ _ _ => (pts_one (pt_cmpR (o_notInD (K := K) (hu65 hr)) (pv 2) (pe_lst (pa_cons pe_str (pa_cons pe_str (pa_cons pe_str (pa_cons pe_str (pa_cons pe_str pa_nil)))))) (by rfl)))) (fun _ _ _ _ _ => (pv 2))) (pe_lst pa_nil) (nomark _))))))), ?_⟩
    walk_at "zrd"
    refine ⟨by walk_at "zsz", fun p hp => ?_⟩
    have s1 := same_upd (o := .lst [V.int 0, V.int 1, V.int 7, V.int 198, V.int 199]) hp
    walk_at "zrd"
    refine ⟨cd, cols5, (hc.mono (ExtN.of_same s1)).dp hcn, dp_cols5 upd_same, hcs, by decide +kernel, ?_⟩
    walk_at "zrd"
    have q2 : ∀ H', Same H H' → Q (.bl ((cols5.any fun z => PyData.eqv z cd) && !boolD cd && wfitD td)) H' := q
    generalize (cols5.any fun z => PyData.eqv z cd) = b1 at q2
    cases b1 with
    | false =>
      walk_at "zrd"
      exact q2 _ s1
    | true =>
      walk_at "zrd"
      refine (hc.mono (ExtN.of_same s1)).isiBool ?_
      generalize boolD cd = b2 at q2
      cases b2 with
      | true =>
        walk_at "zrd"
        exact q2 _ s1
      | false =>
        walk_at "zrd"
        refine (ht.mono (ExtN.of_same s1)).isiTup ?_
        cases htd with
        | @tup ds h1 =>
          cases ht with
          | @tup a xs ds n e h =>
          have hl := h.len
          have e' := s1 _ _ e
          have fals : ∀ H', Same H H' → ¬ (1 ≤ ds.length ∧ ds.length ≤ 6) → Q (.bl false) H' := fun H' sm z => by
            have e0 : wfitD (.tuple ds) = false := by
              show (decide (1 ≤ ds.length) && decide (ds.length ≤ 6) && ds.all okD) = false
              rw [← Bool.decide_and, decide_eq_false z]
              rfl
            have := q2 H' sm
            rw [e0] at this
            exact this
          walk_at "zrd"
          refine ite2 (fun e1 => ?_) (fun e1 => ?_)
          · have g1 := of_decide_eq_true e1
            walk_at "zrd"
            refine ite2 (fun e2 => ?_) (fun e2 => ?_)
            · have g2 := of_decide_eq_true e2
              walk_at "zrd"
              intro D hD
              have hD0 : H D = none := s1.free hD
              have l5 : ∀ d ∈ ds, d ∈ items13 := h1.1
              refine lcB (walk_tup (xs := xs)) (fun i H' => ∃ acc accd, H' D = some (.lst acc) ∧ IsAll N H acc accd ∧ accd = (ds.take i).filter (fun d => !okD d) ∧ Same H H') ⟨[], [], upd_same, .nil, rfl, s1.trans (same_upd hD)⟩ (fun i H' _ hP => .inl (.inl ?_)) (fun i x H1 H2 hi hP hy => ?_) (fun H1 hP => ?_)
              · obtain ⟨_, _, _, _, _, sm⟩ := hP
                exact sm _ _ e
              · obtain ⟨rfl, hx⟩ := hy
                obtain ⟨acc, accd, hD1, hA, rfl, s2⟩ := hP
                obtain ⟨dx, hdx, hI⟩ := h.get hx
                have hdm := l5 dx (List.mem_of_getElem? hdx)
                walk_at "zrd"
                refine ⟨rfl, ?_⟩
                walk_at "zrd"
                refine ⟨by walk_at "zsz", fun p2 hp2 => ?_⟩
                have s3 := s2.trans (same_upd (o := .lst [V.str (Str.ofString "a"), V.str (Str.ofString "of"), V.str (Str.ofString "in"), V.str (Str.ofString "zzzzzzzz"), V.str (Str.ofString "lp")]) hp2)
                have hDp : D ≠ p2 := ne_of_none hD1 hp2
                refine ⟨dx, words5, (hI.mono (ExtN.of_same s3)).dp (item_ok hdm).2.2.2, dp_words5 upd_same, (item_ok hdm).2.1, by decide +kernel, ?_⟩
                walk_at "zrd"
                have step : (ds.take (i + 1)).filter (fun d => !okD d) = (ds.take i).filter (fun d => !okD d) ++ (if (!okD dx) = true then [dx] else []) := by
                  rw [List.take_add_one, hdx, List.filter_append]
                  have e4 : List.filter (fun d => !okD d) (some dx).toList = (if (!okD dx) = true then [dx] else []) := by
                    show List.filter (fun d => !okD d) [dx] = _
                    rw [List.filter_cons]
                    rfl
                  rw [e4]
                have hal : acc.length ≤ 6 := by
                  rw [hA.len]
                  refine Nat.le_trans (List.length_filter_le _ _) ?_
                  rw [List.length_take]
                  omega
                refine ite2 (fun e3 => ?_) (fun e3 => ?_)
                · have e3' : (!okD dx) = true := e3
                  rw [if_pos e3'] at step
                  walk_at "zrd"
                  refine ⟨acc, by rw [upd_ne hDp]; exact hD1, sz_lt (by omega), acc ++ [x], _, upd_same, hA.append (.cons hI .nil), step.symm, fun b o hb => ?_⟩
                  rw [upd_ne (ne_of_none hb hD0)]
                  exact s3 b o hb
                · have e3' : ¬ (!okD dx) = true := e3
                  rw [if_neg e3', List.append_nil] at step
                  exact ⟨acc, _, by rw [upd_ne hDp]; exact hD1, hA, step.symm, s3⟩
              · obtain ⟨acc, accd, hD1, hA, rfl, s2⟩ := hP
                rw [List.take_of_length_le (by omega)] at hA
                walk_at "zrd"
                refine ⟨by walk_at "zsz", fun p3 hp3 => ?_⟩
                have s4 := s2.trans (same_upd (o := .lst []) hp3)
                have hDp : D ≠ p3 := ne_of_none hD1 hp3
                have sub : ∀ d ∈ ds.filter (fun d => !okD d), d ∈ items13 := fun d hd => l5 d (List.mem_filter.mp hd).1
                refine ⟨.list (ds.filter (fun d => !okD d)), .list [], .lst (.inl (.inl (by rw [upd_ne hDp]; exact hD1))) (IsAll.dp (hA.mono (ExtN.of_same s4)) (items_lay sub).2.2), .lst (.inl (.inl upd_same)) .nil, items_shaped sub, rfl, ?_⟩
                rw [eqv_nil]
                have e5 : wfitD (.tuple ds) = (ds.filter (fun d => !okD d)).isEmpty := by
                  show (decide (1 ≤ ds.length) && decide (ds.length ≤ 6) && ds.all okD) = _
                  rw [decide_eq_true (by omega), decide_eq_true (by omega), Bool.true_and, Bool.true_and, Bool.eq_iff_iff, List.isEmpty_iff, List.filter_eq_nil_iff, List.all_eq_true]
                  simp
                have := q2 _ s4
                rw [e5] at this
                exact this
            · have g2 : ¬ (xs.length : Int) ≤ 6 := fun z => e2 (decide_eq_true z)
              exact fals _ s1 (by omega)
          · have g1 : ¬ (1 : Int) ≤ xs.length := fun z => e1 (decide_eq_true z)
            walk_at "zrd"
            exact fals _ s1 (by omega)
        | _ =>
          walk_at "zrd"
          exact q2 _ s1
end
end My

--CUT
namespace My
open PySem PySem.Spec PyProof.Rows L2
section
variable {P : Program} {w : World} {K : PySem.W.Frag} {mg : Str → Option Value} {base : Heap}
/-! ### one turn of the law -/
def spRight : Sp := fun vs H Q _ => ∃ d : Addr, vs = [.ref d] ∧ Dice H d ∧ ∀ H', Ext d H H' → Dice H' d → Q (.bl true) H'
theorem ok_right (T : Txt K mg) : FnOk P w K mg base CX0 4 T.f_right T.fd_right ["_law_dice_here"] spRight := by
  refine T.F_right.ok sc_right (fun vs H Q E h => ?_) (fun cdv A outer s H vs Q E hr h => ?_)
  · obtain ⟨d, rfl, _⟩ := h
    rfl
  · obtain ⟨d, rfl, hd, q⟩ := h
    refine ⟨_, (pss_cons (ps_set (i := 1) sc_right.nd rfl (.inl rfl) (pe_call (ok_pick T) (hr.mono (by decide)) (by rfl) T.g_pick T.F_pick.kp T.b_pick .nil pass0 (pa_cons (pv 0) (pa_cons (pe_lst (pa_cons pe_int (pa_cons pe_int (pa_cons pe_int (pa_cons pe_int (pa_cons pe_int (pa_cons pe_int (pa_cons (pe_un un_neg pe_int) (pa_cons pe_non (pa_cons pe_str (pa_cons pe_bl (pa_cons (pe_tup (pa_cons pe_int pa_nil)) (pa_cons (pe_op op_powW pe_int pe_int) pa_nil))))))))))))) pa_nil))))
      (pss_cons (ps_setLc (i := 3) (own := [("_law_turn", 2)]) rfl sc_right.nd rfl rfl (sw_true rfl rfl rfl (by decide +kernel)) (pi_range1 (by rfl) T.z_range (pa_cons (pe_call (ok_roll T) (hr.mono (by decide)) (by rfl) T.g_roll T.F_roll.kp T.b_roll .nil pass0 (pa_cons (pv 0) (pa_cons pe_int pa_nil))) pa_nil)) (blkOk_by (own := [("_law_turn", 2)]) (N := ["_law_dice_here", "_law_column", "_law_turn", "_law_words", "_law_odd", "_law_told", "_law_due"]) (sc := (defScope s_right)) (by decide +kernel)) (fun _ _ _ _ _ => (pg_name (i := 2) sc_right.nd rfl (.inl rfl))) (fun _ _ _ _ _ => pts_nil) (fun _ _ _ _ _ => (pe_call (ok_pick T) (hr.mono (by decide)) (by rfl) T.g_pick T.F_pick.kp T.b_pick .nil pass0 (pa_cons (pv 0) (pa_cons (pe_lst (pa_cons pe_str (pa_cons pe_str (pa_cons pe_str (pa_cons pe_str (pa_cons pe_str pa_nil)))))) pa_nil)))))
      (pss_cons (ps_if (pt_cmpR op_eq (pe_call (ok_roll T) (hr.mono (by decide)) (by rfl) T.g_roll T.F_roll.kp T.b_roll .nil pass0 (pa_cons (pv 0) (pa_cons pe_int pa_nil))) pe_int (nomark _)) (pss_cons (ps_set (i := 4) sc_right.nd rfl (.inl rfl) (pe_call (ok_pick T) (hr.mono (by decide)) (by rfl) T.g_pick T.F_pick.kp T.b_pick .nil pass0 (pa_cons (pv 0) (pa_cons (pe_lst (pa_cons pe_str (pa_cons pe_str (pa_cons pe_str (pa_cons pe_str (pa_cons pe_non (pa_cons pe_int (pa_cons (pe_tup (pa_cons pe_str pa_nil)) (pa_cons pe_str pa_nil))))))))) pa_nil))))
      (pss_one (ps_expr (e_bm (K := K) PySem.F.plainAttrs_list PySem.F.slot_list_insert PySem.F.type_list_insert c_insert (pv 3) (pa_cons (pe_call (ok_roll T) (hr.mono (by decide)) (by rfl) T.g_roll T.F_roll.kp T.b_roll .nil pass0 (pa_cons (pv 0) (pa_cons (pe_op op_add (pe_callB (c_len (K := K)) (by rfl) T.z_len (by decide +kernel) (pa_cons (pv 3) pa_nil)) pe_int) pa_nil))) (pa_cons (pv 4) pa_nil)))))) pss_nil)
      (pss_cons (ps_set (i := 5) sc_right.nd rfl (.inl rfl) (pe_call (ok_pick T) (hr.mono (by decide)) (by rfl) T.g_pick T.F_pick.kp T.b_pick .nil pass0 (pa_cons (pv 0) (pa_cons (pe_op op_cat (pe_op op_rep (pe_lst (pa_cons (pe_callTy (c_tuple (K := K)) (by rfl) T.z_tuple (by decide +kernel) (pa_cons (pv 3) pa_nil)) pa_nil)) pe_int) (pe_lst (pa_cons (pv 3) (pa_cons pe_str (pa_cons pe_non (pa_cons pe_dnewK pa_nil)))))) pa_nil))))
      (pss_cons (ps_set (i := 6) sc_right.nd rfl (.inl rfl) (pe_call (ok_fits T) (hr.mono (by decide)) (by rfl) T.g_fits T.F_fits.kp T.b_fits .nil pass0 (pa_cons (pv 1) (pa_cons (pv 5) pa_nil))))
      (pss_cons (ps_if (pt_cmpR op_ne (pe_callB call_repr_bl (by rfl) T.z_repr (by decide +kernel) (pa_cons (pe_call (ok_is_line T) (hr.mono (by decide)) (by rfl) T.g_is_line T.F_is_line.kp T.b_is_line .nil pass0 (pa_cons (pe_tup (pa_cons (pv 1) (pa_cons (pv 5) pa_nil))) pa_nil)) pa_nil)) (pe_callB call_repr_bl (by rfl) T.z_repr (by decide +kernel) (pa_cons (pv 6) pa_nil)) (nomark _)) (pss_one (ps_ret pe_bl)) pss_nil)
      (pss_cons (ps_set (i := 4) sc_right.nd rfl (.inl rfl) (pe_lst (pa_cons (pe_lst (pa_cons (pv 1) (pa_cons (pv 5) pa_nil))) (pa_cons (pe_tup (pa_cons (pv 1) pa_nil)) (pa_cons (pe_tup (pa_cons (pv 1) (pa_cons (pv 5) (pa_cons (pe_tup pa_nil) pa_nil)))) (pa_cons (pe_tup (pa_cons (pv 5) (pa_cons (pv 1) pa_nil))) (pa_cons pe_non (pa_cons pe_int (pa_cons pe_str (pa_cons (pe_tup pa_nil) (pa_cons pe_dnewK (pa_cons (pe_tup (pa_cons (pe_tup (pa_cons (pv 1) (pa_cons (pv 5) pa_nil))) pa_nil)) (pa_cons (pv 5) pa_nil)))))))))))))
      (pss_one (ps_ret (pe_not (pe_call (ok_is_line T) (hr.mono (by decide)) (by rfl) T.g_is_line T.F_is_line.kp T.b_is_line .nil pass0 (pa_cons (pe_call (ok_pick T) (hr.mono (by decide)) (by rfl) T.g_pick T.F_pick.kp T.b_pick .nil pass0 (pa_cons (pv 0) (pa_cons (pv 4) pa_nil))) pa_nil)))))))))))), ?_⟩
    walk_at "zrd"
    refine ⟨by walk_at "zsz", fun p1 hp1 => ?_⟩
    walk_at "zrd"
    refine ⟨by walk_at "zsz", fun p2 hp2 => ?_⟩
    walk_at "zrd"
    refine ⟨d, p2, _, rfl, by walk_at "zdice", upd_same, Dice.ne (by walk_at "zdice") hp2, by simp, by show 12 < 1073741824; decide, fun c H1 hc e1 d1 => ?_⟩
    have e01 : Ext d H H1 := Ext.trans (by walk_at "zext") e1
    obtain ⟨cd, hcm, hcI⟩ : ∃ cd, cd ∈ cols12 ∧ Is [d] H1 c cd := by
      have hall : IsAll [d] (upd (upd H p1 (.tup [.int 0])) p2 (.lst [V.int 0, V.int 1, V.int 7, V.int 198, V.int 199, V.int 200, V.int (-1), V.non, V.str (Str.ofString "0"), V.bl true, V.ref p1, V.int (10 ^ Int.toNat 20)]))
          [V.int 0, V.int 1, V.int 7, V.int 198, V.int 199, V.int 200, V.int (-1), V.non, V.str (Str.ofString "0"), V.bl true, V.ref p1, V.int (10 ^ Int.toNat 20)] cols12 :=
        .cons (.int _) (.cons (.int _) (.cons (.int _) (.cons (.int _) (.cons (.int _) (.cons (.int _) (.cons (.int _) (.cons .non (.cons (.str (by decide +kernel) (by decide +kernel)) (.cons (.bl _) (.cons (.tup (nin1 (hd.ne hp1)) (by walk_at "zget") (.cons (.int _) .nil)) (.cons (.int _) .nil)))))))))))
      obtain ⟨cd, hm, hI⟩ := hall.mem hc
      exact ⟨cd, hm, hI.mono (ExtN.of_ext (List.Mem.head _) e1)⟩
    clear hc e1 hp1 hp2
    walk_at "zrd"
    refine ⟨d, 9, rfl, d1, by decide, by decide, fun r H2 hr2 e2 d2 => ?_⟩
    have e02 : Ext d H H2 := e01.trans e2
    have hcI2 := hcI.mono (ExtN.of_ext (List.Mem.head _) e2)
    refine r_rng1j (by omega) (by omega) ?_
    intro D hD
    have hDd : D ≠ d := d2.ne hD
    have hD0 : H D = none := e02.free_ d2 hD
    have mD : D ∈ [D, d] := List.Mem.head _
    have md : d ∈ [D, d] := List.Mem.tail _ (List.Mem.head _)
    refine lcB walk_range (fun i H' => ∃ ws its, H' D = some (.lst ws) ∧ IsAll [D, d] H' ws its ∧ (∀ t ∈ its, t ∈ words5) ∧ its.length = i ∧ Dice H' d ∧ Ext d H H' ∧ Is [D, d] H' c cd)
      ⟨[], [], upd_same, .nil, (fun _ h => nomatch h), rfl, d2.new hD, e02.trans (Ext.new hD), (hcI2.more hD).mono (ExtN.of_same (same_upd hD))⟩ (fun _ _ _ _ => trivial) (fun i x H3 H4 hi hP hy => ?_) (fun H3 hP => ?_)
    · obtain ⟨rfl, rfl⟩ := hy
      obtain ⟨ws, its, hD3, hA3, hw3, hl3, d3, e3, hc3⟩ := hP
      walk_at "zrd"
      refine ⟨rfl, ?_⟩
      walk_at "zrd"
      refine ⟨by walk_at "zsz", fun p hp => ?_⟩
      walk_at "zrd"
      refine ⟨d, p, _, rfl, d3.new hp, upd_same, d3.ne hp, by simp, by show 5 < 1073741824; decide, fun v H5 hv e5 d5 => ?_⟩
      obtain ⟨t, htm, htI⟩ : ∃ t, t ∈ words5 ∧ Is [D, d] (upd H5 D (.lst (ws ++ [v]))) v t := by
        have hall : IsAll [D, d] (upd H5 D (.lst (ws ++ [v]))) [V.str (Str.ofString "a"), V.str (Str.ofString "of"), V.str (Str.ofString "in"), V.str (Str.ofString "zzzzzzzz"), V.str (Str.ofString "lp")] words5 :=
          .cons (.str (by decide +kernel) (by decide +kernel)) (.cons (.str (by decide +kernel) (by decide +kernel)) (.cons (.str (by decide +kernel) (by decide +kernel)) (.cons (.str (by decide +kernel) (by decide +kernel)) (.cons (.str (by decide +kernel) (by decide +kernel)) .nil))))
        exact hall.mem hv
      have nDp : D ≠ p := ne_of_none hD3 hp
      have eN : ExtN [D, d] H4 (upd H5 D (.lst (ws ++ [v]))) := ((ExtN.of_same (same_upd hp)).trans (ExtN.of_ext md e5)).at_ mD
      refine ⟨ws, e5 _ _ hDd (by rw [upd_ne nDp]; exact hD3), sz_lt (by rw [hA3.len, hl3]; omega), ws ++ [v], its ++ [t], upd_same, (hA3.mono eN).append (.cons htI .nil), ?_, by rw [List.length_append, hl3]; rfl, d5.off hDd, ((e3.trans (Ext.new hp)).trans e5).grown hD0, hc3.mono eN⟩
      intro z hz
      rcases List.mem_append.mp hz with h | h
      · exact hw3 z h
      · rw [List.mem_singleton.mp h]
        exact htm
    · obtain ⟨ws, its, hD3, hA3, hw3, hl3, d3, e3, hc3⟩ := hP
      with_reducible refine r_name ?_
      with_reducible refine r_seqJ (fun σ H' => ∃ y2 y4 y5 y6 ws its, σ = [some (.ref d), some c, y2, some (.ref D), y4, y5, y6] ∧ H' D = some (.lst ws) ∧ IsAll [D, d] H' ws its ∧ One its ∧ Dice H' d ∧ Ext d H H' ∧ Is [D, d] H' c cd) ?_ (fun tail => ?_)
      · clear hD3 hA3 hw3 hl3 d3 e3 hc3 ws its
        rintro σ H3 ⟨y2, y4, y5, y6, ws, its, rfl, hD3, hA3, hOne, d3, e3, hc3⟩
        walk_at "zrd"
        intro t1 ht1
        have nD1 : D ≠ t1 := ne_of_none hD3 ht1
        walk_at "zrd"
        refine ⟨by walk_at "zsz", fun l1 hl1 => ?_⟩
        walk_at "zrd"
        refine r_rep (by walk_at "zget") (by decide) (by decide) (by walk_at "zsz") fun l2 hl2 => ?_
        walk_at "zrd"
        intro q1 hq1
        walk_at "zrd"
        refine ⟨by walk_at "zsz", fun l3 hl3 => ?_⟩
        refine r_cat (by walk_at "zget") (by walk_at "zget") (by walk_at "zsz") fun l4 hl4 => ?_
        walk_at "zrd"
        refine ⟨d, l4, _, rfl, by walk_at "zdice", upd_same, Dice.ne (by walk_at "zdice") hl4, (fun z => by cases z), by show 10 < 1073741824; decide, fun t H5 ht e5 d5 => ?_⟩
        have hlw : ws.length ≤ 9 := by
          rw [hA3.len]
          exact hOne.2.1
        have sN : ∀ a, a ∈ [d] → a ∈ [D, d] := fun a h => List.Mem.tail _ h
        have gA := hA3.sub sN
        have gc := hc3.sub sN
        have eA : ExtN [d] H3 H5 := ExtN.trans (ExtN.of_same (by walk_at "zsame")) (ExtN.of_ext (List.Mem.head _) e5)
        have gD : H5 D = some (.lst ws) := e5 _ _ hDd (by walk_at "zget")
        have gt1 : H5 t1 = some (.tup ws) := e5 _ _ (Dice.ne (by walk_at "zdice") ht1) (by walk_at "zget")
        have gq1 : H5 q1 = some (.dK []) := e5 _ _ (Dice.ne (by walk_at "zdice") hq1) (by walk_at "zget")
        have nt1 : t1 ≠ d := Dice.ne (by walk_at "zdice") ht1
        have nq1 : q1 ≠ d := Dice.ne (by walk_at "zdice") hq1
        have eX : Ext d H H5 := Ext.trans (Ext.trans e3 (by walk_at "zext")) e5
        have gA5 := gA.mono eA
        have gc5 := gc.mono eA
        obtain ⟨td, hTd, gt⟩ : ∃ td, Told td ∧ Is [d] H5 t td := by
          have hv : t ∈ [V.ref t1, V.ref t1, V.ref t1, V.ref t1, V.ref t1, V.ref t1, V.ref D, V.str (Str.ofString "a"), V.non, V.ref q1] := ht
          simp only [List.mem_cons, List.not_mem_nil, or_false] at hv
          rcases hv with rfl | rfl | rfl | rfl | rfl | rfl | rfl | rfl | rfl | rfl
          · exact ⟨_, .tup hOne, .tup (nin1 nt1) gt1 gA5⟩
          · exact ⟨_, .tup hOne, .tup (nin1 nt1) gt1 gA5⟩
          · exact ⟨_, .tup hOne, .tup (nin1 nt1) gt1 gA5⟩
          · exact ⟨_, .tup hOne, .tup (nin1 nt1) gt1 gA5⟩
          · exact ⟨_, .tup hOne, .tup (nin1 nt1) gt1 gA5⟩
          · exact ⟨_, .tup hOne, .tup (nin1 nt1) gt1 gA5⟩
          · exact ⟨_, .lst hOne, .lst (nin1 hDd) gD gA5⟩
          · exact ⟨_, .str, .str (by decide +kernel) (by decide +kernel)⟩
          · exact ⟨_, .non, .non⟩
          · exact ⟨_, .dct, .dct (nin1 nq1) gq1⟩
        clear gD gt1 gq1 gA5 ht e5 hA3 gA gc hD3 hc3 hOne hlw eA
        walk_at "zrd"
        refine ⟨[d], c, t, cd, td, rfl, gc5, gt, hcm, hTd, fun H6 s6 => ?_⟩
        have gc6 := gc5.mono (ExtN.of_same s6)
        have gt6 := gt.mono (ExtN.of_same s6)
        have d6 : Dice H6 d := by
          obtain ⟨x1, x2, x3, h0, e⟩ := d5
          exact ⟨x1, x2, x3, h0, s6 _ _ e⟩
        have eX6 : Ext d H H6 := eX.trans (Ext.of_same s6)
        walk_at "zrd"
        refine ⟨by walk_at "zsz", fun u1 hu1 => ?_⟩
        walk_at "zrd"
        refine ⟨[d], .ref u1, .tuple [cd, td], rfl, .tup (nin1 (d6.ne hu1)) upd_same (.cons (gc6.mono (ExtN.of_same (by walk_at "zsame"))) (.cons (gt6.mono (ExtN.of_same (by walk_at "zsame"))) .nil)), fun H7 s7 => ?_⟩
        have s67 : Same H6 H7 := (same_upd hu1).trans s7
        have d7 : Dice H7 d := by
          obtain ⟨x1, x2, x3, h0, e⟩ := d6
          exact ⟨x1, x2, x3, h0, s67 _ _ e⟩
        have gc7 := gc6.mono (ExtN.of_same s67)
        have gt7 := gt6.mono (ExtN.of_same s67)
        have eX7 : Ext d H H7 := eX6.trans (Ext.of_same s67)
        rw [line_fits hcm hTd]
        walk_at "zrd"
        refine iteF' (by rw [decide_eq_true rfl]; rfl) ?_
        walk_at "zrd"
        refine ⟨by walk_at "zsz", fun a1 g1 => ?_⟩
        walk_at "zrd"
        refine ⟨by walk_at "zsz", fun a2 g2 => ?_⟩
        walk_at "zrd"
        refine ⟨by walk_at "zsz", fun a3 g3 => ?_⟩
        walk_at "zrd"
        refine ⟨by walk_at "zsz", fun a4 g4 => ?_⟩
        walk_at "zrd"
        refine ⟨by walk_at "zsz", fun a5 g5 => ?_⟩
        walk_at "zrd"
        refine ⟨by walk_at "zsz", fun a6 g6 => ?_⟩
        walk_at "zrd"
        intro a7 g7
        walk_at "zrd"
        refine ⟨by walk_at "zsz", fun a8 g8 => ?_⟩
        walk_at "zrd"
        refine ⟨by walk_at "zsz", fun a9 g9 => ?_⟩
        walk_at "zrd"
        refine ⟨by walk_at "zsz", fun l5 gl5 => ?_⟩
        walk_at "zrd"
        refine ⟨d, l5, _, rfl, by walk_at "zdice", upd_same, Dice.ne (by walk_at "zdice") gl5, by simp, by show 11 < 1073741824; decide, fun v H8 hv e8 d8 => ?_⟩
        have eX8 : Ext d H H8 := Ext.trans (Ext.trans eX7 (by walk_at "zext")) e8
        have eN8 : ExtN [d] H7 H8 := ExtN.trans (ExtN.of_same (by walk_at "zsame")) (ExtN.of_ext (List.Mem.head _) e8)
        have gc8 := gc7.mono eN8
        have gt8 := gt7.mono eN8
        obtain ⟨dv, hdv, gv⟩ : ∃ dv, lineD dv = false ∧ Is [d] H8 v dv := by
          simp only [List.mem_cons, List.not_mem_nil, or_false] at hv
          rcases hv with rfl | rfl | rfl | rfl | rfl | rfl | rfl | rfl | rfl | rfl | rfl
          · exact ⟨.list [cd, td], rfl, .lst (nin1 (Dice.ne (by walk_at "zdice") g1)) (e8 _ _ (Dice.ne (by walk_at "zdice") g1) (by walk_at "zget")) (.cons gc8 (.cons gt8 .nil))⟩
          · exact ⟨.tuple [cd], rfl, .tup (nin1 (Dice.ne (by walk_at "zdice") g2)) (e8 _ _ (Dice.ne (by walk_at "zdice") g2) (by walk_at "zget")) (.cons gc8 .nil)⟩
          · exact ⟨.tuple [cd, td, .tuple []], rfl, .tup (nin1 (Dice.ne (by walk_at "zdice") g4)) (e8 _ _ (Dice.ne (by walk_at "zdice") g4) (by walk_at "zget")) (.cons gc8 (.cons gt8 (.cons (.tup (nin1 (Dice.ne (by walk_at "zdice") g3)) (e8 _ _ (Dice.ne (by walk_at "zdice") g3) (by walk_at "zget")) .nil) .nil)))⟩
          · exact ⟨.tuple [td, cd], (by show (colD td && wordsD cd) = false; rw [told_col hTd]; rfl), .tup (nin1 (Dice.ne (by walk_at "zdice") g5)) (e8 _ _ (Dice.ne (by walk_at "zdice") g5) (by walk_at "zget")) (.cons gt8 (.cons gc8 .nil))⟩
          · exact ⟨.none, rfl, .non⟩
          · exact ⟨.int 0, rfl, .int 0⟩
          · exact ⟨.str (Str.ofString "a"), rfl, .str (by decide +kernel) (by decide +kernel)⟩
          · exact ⟨.tuple [], rfl, .tup (nin1 (Dice.ne (by walk_at "zdice") g6)) (e8 _ _ (Dice.ne (by walk_at "zdice") g6) (by walk_at "zget")) .nil⟩
          · exact ⟨.dict [], rfl, .dct (nin1 (Dice.ne (by walk_at "zdice") g7)) (e8 _ _ (Dice.ne (by walk_at "zdice") g7) (by walk_at "zget"))⟩
          · exact ⟨.tuple [.tuple [cd, td]], rfl, .tup (nin1 (Dice.ne (by walk_at "zdice") g9)) (e8 _ _ (Dice.ne (by walk_at "zdice") g9) (by walk_at "zget")) (.cons (.tup (nin1 (Dice.ne (by walk_at "zdice") g8)) (e8 _ _ (Dice.ne (by walk_at "zdice") g8) (by walk_at "zget")) (.cons gc8 (.cons gt8 .nil))) .nil)⟩
          · exact ⟨td, told_line hTd, gt8⟩
        walk_at "zrd"
        refine ⟨[d], v, dv, rfl, gv, fun H9 s9 => ?_⟩
        rw [hdv]
        walk_at "zrd"
        obtain ⟨x1, x2, x3, h0, e⟩ := d8
        exact q H9 (eX8.trans (Ext.of_same s9)) ⟨x1, x2, x3, h0, s9 _ _ e⟩
      · walk_at "zrd"
        refine ⟨d, 3, rfl, d3, by decide, by decide, fun k H5 hk e5 d5 => ?_⟩
        have hD5 := e5 _ _ hDd hD3
        have hA5 := hA3.mono (ExtN.of_ext md e5)
        have hc5 := hc3.mono (ExtN.of_ext md e5)
        walk_at "zrd"
        refine ite2 (fun e => ?_) (fun e => ?_)
        · walk_at "zrd"
          refine ⟨by walk_at "zsz", fun p3 hp3 => ?_⟩
          walk_at "zrd"
          refine ⟨by walk_at "zsz", fun p4 hp4 => ?_⟩
          walk_at "zrd"
          have n3 : D ≠ p3 := ne_of_none hD5 hp3
          refine ⟨d, p4, _, rfl, by walk_at "zdice", upd_same, Dice.ne (by walk_at "zdice") hp4, by simp, by show 8 < 1073741824; decide, fun v H6 hv e6 d6 => ?_⟩
          obtain ⟨o, hom, hoI⟩ : ∃ o, o ∈ odds8 ∧ Is [D, d] H6 v o := by
            have hall : IsAll [D, d] (upd (upd H5 p3 (.tup [V.str (Str.ofString "a")])) p4 (.lst [V.str (Str.ofString ""), V.str (Str.ofString "A"), V.str (Str.ofString ";"), V.str (Str.ofString "{"), V.non, V.int 0, V.ref p3, V.str (Str.ofString "abcdefghi")]))
                [V.str (Str.ofString ""), V.str (Str.ofString "A"), V.str (Str.ofString ";"), V.str (Str.ofString "{"), V.non, V.int 0, V.ref p3, V.str (Str.ofString "abcdefghi")] odds8 :=
              .cons (.str (by decide +kernel) (by decide +kernel)) (.cons (.str (by decide +kernel) (by decide +kernel)) (.cons (.str (by decide +kernel) (by decide +kernel)) (.cons (.str (by decide +kernel) (by decide +kernel)) (.cons .non (.cons (.int _)
                (.cons (.tup (fun z => by cases z with | head => exact n3 rfl | tail _ z => exact d5.ne hp3 (List.mem_singleton.mp z)) (by walk_at "zget") (.cons (.str (by decide +kernel) (by decide +kernel)) .nil)) (.cons (.str (by decide +kernel) (by decide +kernel)) .nil)))))))
            obtain ⟨o, hm, hI⟩ := hall.mem hv
            exact ⟨o, hm, hI.mono (ExtN.of_ext md e6)⟩
          have eN6 : ExtN [D, d] H5 H6 := (ExtN.of_same (by walk_at "zsame")).trans (ExtN.of_ext md e6)
          have e06 : Ext d H H6 := Ext.trans (Ext.trans (e3.trans e5) (by walk_at "zext")) e6
          have hD6 : H6 D = some (.lst ws) := e6 _ _ hDd (by walk_at "zget")
          have hA6 := hA5.mono eN6
          have hc6 := hc5.mono eN6
          walk_at "zrd"
          refine ⟨d, (ws.length : Int) + 1, rfl, d6, by omega, by rw [hA6.len, hl3]; omega, fun j H7 hj e7 d7 => ?_⟩
          have hD7 := e7 _ _ hDd hD6
          have hj2 : j < ws.length + 1 := by omega
          have hw8 : ws.length ≤ 8 := by rw [hA6.len, hl3]; omega
          walk_at "zrd"
          refine r_insert hD7 (sz_lt (by omega)) (by omega) ?_
          have eN7 : ExtN [D, d] H6 (upd H7 D (.lst (ws.take j ++ [v] ++ ws.drop j))) := (ExtN.of_ext md e7).at_ mD
          have hA7 := hA6.mono eN7
          exact tail _ _ ⟨_, _, _, _, _, _, rfl, upd_same, ((hA7.take j).append (.cons (hoI.mono eN7) .nil)).append (hA7.drop j), One.put j hw3 (by omega) hom, d7.off hDd, (e06.trans e7).grown hD0, hc6.mono eN7⟩
        · exact tail _ _ ⟨_, _, _, _, _, _, rfl, hD5, hA5, One.words hw3 (by omega), d5, e3.trans e5, hc5⟩
end
end My

--CUT
namespace My
open PySem PySem.Spec PyProof.Rows L2
section
variable {P : Program} {w : World} {K : PySem.W.Frag} {mg : Str → Option Value} {base : Heap}
theorem o_repT {X : Cx} {K : PySem.W.Frag} (hK : X.K = K := by rfl) : OpR X (binaryOp .Mult) (rRepT K) := by
  subst hK
  exact op_repT
theorem r_repT {K : PySem.W.Frag} {H : Hp} {l : Addr} {xs : List V} {k : Int} {Q : VK} (h : H l = some (.tup xs)) (h0 : xs ≠ []) (h1 : 2 ≤ k) (h2 : k ≤ 1000) (h3 : xs.length ≤ 1000) (q : ∀ p, H p = none → Q (.ref p) (upd H p (.tup (List.replicate k.toNat xs).flatten))) : rRepT K (.ref l) (.int k) H Q :=
  ⟨l, k, xs, rfl, rfl, .inl (.inl h), h0, h1, h2, h3, q⟩
/-! ### the law -/
def sD (x : String) : PyData := .str (Str.ofString x)
def six : List PyData := [.tuple [.int 4, .tuple [sD "a", sD "of"]], .tuple [.int 4, .tuple []], .tuple [.int 200, .tuple [sD "a"]], .tuple [.int 0, .tuple [sD "a", sD "a", sD "a", sD "a", sD "a", sD "a"]],
  .tuple [.int 0, .tuple [sD "a", sD "a", sD "a", sD "a", sD "a", sD "a", sD "a"]], .tuple [.int 0, sD "a"]]
theorem six_lines : (six.map lineD).map V.bl = [V.bl true, V.bl false, V.bl false, V.bl true, V.bl false, V.bl false] := by decide +kernel
def spLaw (K : PySem.W.Frag) : Sp := fun vs H Q _ => ∃ (a : Addr) (ns : List Int), vs = [.ref a] ∧ SqL K H a (ns.map V.int) ∧ ns.length ≤ 63 ∧ ∀ H', Q (.bl true) H'
theorem isA {N : List Addr} {H : Hp} : Is N H (V.str (Str.ofString "a")) (sD "a") := .str (by decide +kernel) (by decide +kernel)
theorem ok_law (T : Txt K mg) {f : Addr} {fd : FuncData} (F : Fun K "law" "law" s_law f fd) : FnOk P w K mg base CX0 5 f fd ["_law_script"] (spLaw K) := by
  refine F.ok sc_law (fun vs H Q E h => ?_) (fun cdv A outer s H vs Q E hr h => ?_)
  · obtain ⟨a, ns, rfl, _⟩ := h
    rfl
  · obtain ⟨a, ns, rfl, hS, hlen, q⟩ := h
    refine ⟨_, (pss_cons (ps_for PassesOwn.never rfl (pi_range1 (by rfl) T.z_range (pa_cons (pe_callB (c_max2 rfl) (by rfl) T.z_max (by decide +kernel) (pa_cons pe_int (pa_cons (pe_callB (c_min2 rfl) (by rfl) T.z_min (by decide +kernel) (pa_cons pe_int (pa_cons (pe_callB (c_len (K := K)) (by rfl) T.z_len (by decide +kernel) (pa_cons (pv 0) pa_nil)) pa_nil))) pa_nil))) pa_nil)) (pg_name (i := 1) sc_law.nd rfl (.inl rfl)) (pss_cons (ps_set (i := 2) sc_law.nd rfl (.inl rfl) (pe_call (ok_dice T) (hr.mono (by decide)) (by rfl) T.g_dice T.F_dice.kp T.b_dice .nil pass0 (pa_cons (pv 0) (pa_cons (pv 1) pa_nil))))
      (pss_one (ps_for PassesOwn.never rfl (pi_range1 (by rfl) T.z_range (pa_cons pe_int pa_nil)) (pg_name (i := 3) sc_law.nd rfl (.inl rfl)) (pss_one (ps_if (pt_not (pt_val (pe_call (ok_right T) (hr.mono (by decide)) (by rfl) T.g_right T.F_right.kp T.b_right .nil pass0 (pa_cons (pv 2) pa_nil)))) (pss_one (ps_ret pe_bl)) pss_nil))))))
      (pss_cons (ps_set (i := 4) sc_law.nd rfl (.inl rfl) (pe_lst (pa_cons (pe_tup (pa_cons pe_int (pa_cons (pe_tup (pa_cons pe_str (pa_cons pe_str pa_nil))) pa_nil))) (pa_cons (pe_tup (pa_cons pe_int (pa_cons (pe_tup pa_nil) pa_nil))) (pa_cons (pe_tup (pa_cons pe_int (pa_cons (pe_tup (pa_cons pe_str pa_nil)) pa_nil))) (pa_cons (pe_tup (pa_cons pe_int (pa_cons (pe_op op_repT (pe_tup (pa_cons pe_str pa_nil)) pe_int) pa_nil))) (pa_cons (pe_tup (pa_cons pe_int (pa_cons (pe_op op_repT (pe_tup (pa_cons pe_str pa_nil)) pe_int) pa_nil))) (pa_cons (pe_tup (pa_cons pe_int (pa_cons pe_str pa_nil))) pa_nil))))))))
      (pss_cons (ps_setLc (i := 6) (own := [("_law_one", 5)]) rfl sc_law.nd rfl rfl (sw_true rfl rfl rfl (by decide +kernel)) (p_list (K := K) (pv 4)) (blkOk_by (own := [("_law_one", 5)]) (N := ["_law_script", "_law_spot", "_law_dice_here", "_law_turn", "_law_some", "_law_one", "_law_told"]) (sc := (defScope s_law)) (by decide +kernel)) (fun _ _ _ _ _ => (pg_name (i := 5) sc_law.nd rfl (.inl rfl))) (fun _ _ _ _ _ => pts_nil) (fun _ _ _ _ _ => (pe_call (ok_is_line T) (hr.mono (by decide)) (by rfl) T.g_is_line T.F_is_line.kp T.b_is_line .nil pass0 (pa_cons (pv 5) pa_nil))))
      (pss_one (ps_ret (pe_cmpR (o_eqD (K := K) hr.units) (pv 6) (pe_lst (pa_cons pe_bl (pa_cons pe_bl (pa_cons pe_bl (pa_cons pe_bl (pa_cons pe_bl (pa_cons pe_bl pa_nil))))))) (nomark _))))))), ?_⟩
    walk_at "zrd"
    refine ⟨a, _, rfl, .inl hS, ?_⟩
    walk_at "zrd"
    obtain ⟨m, em, hm⟩ := turns_ok (ns.map V.int).length
    rw [em]
    refine r_rng1j (by omega) (by omega) ?_
    refine forB walk_range (fun i σ H' => ∃ y1 y2 y3 y4 y5 y6, σ = [some (.ref a), y1, y2, y3, y4, y5, y6] ∧ Same H H') ⟨_, _, _, _, _, _, rfl, Same.refl H⟩ (fun _ _ _ _ _ => trivial) (fun i x σ H1 H2 hi hP hy => ?_) (fun σ H1 hP => ?_)
    · obtain ⟨rfl, rfl⟩ := hy
      obtain ⟨y1, y2, y3, y4, y5, y6, rfl, s1⟩ := hP
      walk_at "zrd"
      refine ⟨a, ns, i, by show [V.ref a, V.int (0 + (i : Int))] = _; rw [Int.zero_add], s1.seq hS, fun d H3 hd s3 d3 => ?_⟩
      have hd0 : H d = none := s1.free hd
      walk_at "zrd"
      refine r_rng1j (by decide) (by decide) ?_
      refine forB walk_range (fun j σ H' => ∃ y3 y4 y5 y6, σ = [some (.ref a), some (.int (0 + (i : Int))), some (.ref d), y3, y4, y5, y6] ∧ Same H H' ∧ Dice H' d) ⟨_, _, _, _, rfl, s1.trans s3, d3⟩ (fun _ _ _ _ _ => trivial) (fun j x σ H4 H5 hj hP hy => ?_) (fun σ H4 hP => ?_)
      · obtain ⟨rfl, rfl⟩ := hy
        obtain ⟨z3, z4, z5, z6, rfl, s4, d4⟩ := hP
        walk_at "zrd"
        refine ⟨d, rfl, d4, fun H6 e6 d6 => ?_⟩
        walk_at "zrd"
        exact ⟨_, _, _, _, rfl, e6.same s4 hd0, d6⟩
      · obtain ⟨z3, z4, z5, z6, rfl, s4, d4⟩ := hP
        exact ⟨_, _, _, _, _, _, rfl, s4⟩
    · obtain ⟨y1, y2, y3, y4, y5, y6, rfl, s1⟩ := hP
      walk_at "zrd"
      refine ⟨by walk_at "zsz", fun x1 g1 => ?_⟩
      walk_at "zrd"
      refine ⟨by walk_at "zsz", fun v1 g2 => ?_⟩
      walk_at "zrd"
      refine ⟨by walk_at "zsz", fun x2 g3 => ?_⟩
      walk_at "zrd"
      refine ⟨by walk_at "zsz", fun v2 g4 => ?_⟩
      walk_at "zrd"
      refine ⟨by walk_at "zsz", fun x3 g5 => ?_⟩
      walk_at "zrd"
      refine ⟨by walk_at "zsz", fun v3 g6 => ?_⟩
      walk_at "zrd"
      refine ⟨by walk_at "zsz", fun x4 g7 => ?_⟩
      walk_at "zrd"
      refine r_repT (by walk_at "zget") (by simp) (by decide) (by decide) (by decide) fun x5 g8 => ?_
      walk_at "zrd"
      refine ⟨by walk_at "zsz", fun v4 g9 => ?_⟩
      walk_at "zrd"
      refine ⟨by walk_at "zsz", fun x6 g10 => ?_⟩
      walk_at "zrd"
      refine r_repT (by walk_at "zget") (by simp) (by decide) (by decide) (by decide) fun x7 g11 => ?_
      walk_at "zrd"
      refine ⟨by walk_at "zsz", fun v5 g12 => ?_⟩
      walk_at "zrd"
      refine ⟨by walk_at "zsz", fun v6 g13 => ?_⟩
      walk_at "zrd"
      refine ⟨by walk_at "zsz", fun l g14 => ?_⟩
      walk_at "zrd"
      have nn : ∀ p : Addr, p ∉ ([] : List Addr) := fun _ z => nomatch z
      intro D hD
      have nlD : l ≠ D := ne_of_none upd_same hD
      have hall := IsAll.more hD (show IsAll [] _ [V.ref v1, V.ref v2, V.ref v3, V.ref v4, V.ref v5, V.ref v6] six from
          .cons (.tup (nn _) (by walk_at "zget") (.cons (.int _) (.cons (.tup (nn _) (by walk_at "zget") (.cons isA (.cons (.str (by decide +kernel) (by decide +kernel)) .nil))) .nil)))
          (.cons (.tup (nn _) (by walk_at "zget") (.cons (.int _) (.cons (.tup (nn _) (by walk_at "zget") .nil) .nil)))
          (.cons (.tup (nn _) (by walk_at "zget") (.cons (.int _) (.cons (.tup (nn _) (by walk_at "zget") (.cons isA .nil)) .nil)))
          (.cons (.tup (nn _) (by walk_at "zget") (.cons (.int _) (.cons (.tup (nn _) (by walk_at "zget") (.cons isA (.cons isA (.cons isA (.cons isA (.cons isA (.cons isA .nil))))))) .nil)))
          (.cons (.tup (nn _) (by walk_at "zget") (.cons (.int _) (.cons (.tup (nn _) (by walk_at "zget") (.cons isA (.cons isA (.cons isA (.cons isA (.cons isA (.cons isA (.cons isA .nil)))))))) .nil)))
          (.cons (.tup (nn _) (by walk_at "zget") (.cons (.int _) (.cons isA .nil))) .nil))))))
      refine lcB (walk_list (xs := [V.ref v1, V.ref v2, V.ref v3, V.ref v4, V.ref v5, V.ref v6])) (fun i H' => H' D = some (.lst (((six.take i).map lineD).map V.bl)) ∧ H' l = some (.lst [V.ref v1, V.ref v2, V.ref v3, V.ref v4, V.ref v5, V.ref v6]) ∧ IsAll [D] H' [V.ref v1, V.ref v2, V.ref v3, V.ref v4, V.ref v5, V.ref v6] six)
        ⟨upd_same, by rw [upd_ne nlD]; exact upd_same, hall.mono (ExtN.of_same (same_upd hD))⟩ (fun _ _ _ h => .inl (.inl h.2.1)) (fun i x H3 H4 hi hP hy => ?_) (fun H3 hP => ?_)
      · obtain ⟨rfl, hx⟩ := hy
        obtain ⟨h1, h2, h3⟩ := hP
        obtain ⟨dx, hdx, hI⟩ := h3.get hx
        walk_at "zrd"
        refine ⟨rfl, ?_⟩
        walk_at "zrd"
        refine ⟨_, x, dx, rfl, hI, fun H5 s5 => ⟨_, s5 _ _ h1, ?_, ?_, ?_, ?_⟩⟩
        · rw [List.length_map, List.length_map, List.length_take]
          exact sz_lt (Nat.lt_of_le_of_lt (Nat.min_le_right _ _) (by decide))
        · rw [upd_same, List.take_add_one, hdx, List.map_append, List.map_append]
          rfl
        · rw [upd_ne nlD]
          exact s5 _ _ h2
        · exact h3.mono ((ExtN.of_same s5).at_ (List.Mem.head _))
      · obtain ⟨h1, h2, h3⟩ := hP
        rw [show (six.take [V.ref v1, V.ref v2, V.ref v3, V.ref v4, V.ref v5, V.ref v6].length) = six from rfl, six_lines] at h1
        walk_at "zrd"
        refine ⟨by walk_at "zsz", fun p hp => ?_⟩
        have hDp : D ≠ p := ne_of_none h1 hp
        refine ⟨.list [.bool true, .bool false, .bool false, .bool true, .bool false, .bool false], .list [.bool true, .bool false, .bool false, .bool true, .bool false, .bool false],
          .lst (.inl (.inl (by rw [upd_ne hDp]; exact h1))) (.cons (.bl _) (.cons (.bl _) (.cons (.bl _) (.cons (.bl _) (.cons (.bl _) (.cons (.bl _) .nil)))))),
          .lst (.inl (.inl upd_same)) (.cons (.bl _) (.cons (.bl _) (.cons (.bl _) (.cons (.bl _) (.cons (.bl _) (.cons (.bl _) .nil)))))), rfl, rfl, ?_⟩
        exact q _
end
end My
--CUT
namespace My
open PySem PySem.Spec PyProof.Rows L2
theorem all_mk {l : PySem.W.OpenLaw} {w : World} {K : PySem.W.Frag} {h : Heap} {mg : Str → Option Value} {fa : Addr} (X : K.In h) (G : h.Ns mainGlobals mg) (hfa : mg "law" = some (.ref fa))
    {f_is_integer : Addr} {od_is_integer an_is_integer : Option Addr} {sl_is_integer : Array (Option Value)} {oc_is_integer kV_is_integer dc_is_integer pm_is_integer cd_is_integer ct_is_integer : Value}
    (a_is_integer : PySem.W.nsIn K mainGlobals "is_integer" = some (some (.ref f_is_integer))) (l_is_integer : K.lookup f_is_integer = some ⟨oc_is_integer, od_is_integer, .func (PySem.W.fnOf "is_integer" "is_integer" (defArgs s_is_integer) (defBody s_is_integer) (defScope s_is_integer) .none kV_is_integer dc_is_integer pm_is_integer an_is_integer cd_is_integer ct_is_integer), sl_is_integer⟩) (c_is_integer : PySem.W.codeIn K cd_is_integer "is_integer" = true) (k_is_integer : PySem.W.keepIn K (.ref f_is_integer) = true)
    {f_is_word : Addr} {od_is_word an_is_word : Option Addr} {sl_is_word : Array (Option Value)} {oc_is_word kV_is_word dc_is_word pm_is_word cd_is_word ct_is_word : Value}
    (a_is_word : PySem.W.nsIn K mainGlobals "is_word" = some (some (.ref f_is_word))) (l_is_word : K.lookup f_is_word = some ⟨oc_is_word, od_is_word, .func (PySem.W.fnOf "is_word" "is_word" (defArgs s_is_word) (defBody s_is_word) (defScope s_is_word) .none kV_is_word dc_is_word pm_is_word an_is_word cd_is_word ct_is_word), sl_is_word⟩) (c_is_word : PySem.W.codeIn K cd_is_word "is_word" = true) (k_is_word : PySem.W.keepIn K (.ref f_is_word) = true)
    {f_is_column : Addr} {od_is_column an_is_column : Option Addr} {sl_is_column : Array (Option Value)} {oc_is_column kV_is_column dc_is_column pm_is_column cd_is_column ct_is_column : Value}
    (a_is_column : PySem.W.nsIn K mainGlobals "is_column" = some (some (.ref f_is_column))) (l_is_column : K.lookup f_is_column = some ⟨oc_is_column, od_is_column, .func (PySem.W.fnOf "is_column" "is_column" (defArgs s_is_column) (defBody s_is_column) (defScope s_is_column) .none kV_is_column dc_is_column pm_is_column an_is_column cd_is_column ct_is_column), sl_is_column⟩) (c_is_column : PySem.W.codeIn K cd_is_column "is_column" = true) (k_is_column : PySem.W.keepIn K (.ref f_is_column) = true)
    {f_is_words_of_line : Addr} {od_is_words_of_line an_is_words_of_line : Option Addr} {sl_is_words_of_line : Array (Option Value)} {oc_is_words_of_line kV_is_words_of_line dc_is_words_of_line pm_is_words_of_line cd_is_words_of_line ct_is_words_of_line : Value}
    (a_is_words_of_line : PySem.W.nsIn K mainGlobals "is_words_of_line" = some (some (.ref f_is_words_of_line))) (l_is_words_of_line : K.lookup f_is_words_of_line = some ⟨oc_is_words_of_line, od_is_words_of_line, .func (PySem.W.fnOf "is_words_of_line" "is_words_of_line" (defArgs s_is_words_of_line) (defBody s_is_words_of_line) (defScope s_is_words_of_line) .none kV_is_words_of_line dc_is_words_of_line pm_is_words_of_line an_is_words_of_line cd_is_words_of_line ct_is_words_of_line), sl_is_words_of_line⟩) (c_is_words_of_line : PySem.W.codeIn K cd_is_words_of_line "is_words_of_line" = true) (k_is_words_of_line : PySem.W.keepIn K (.ref f_is_words_of_line) = true)
    {f_is_line : Addr} {od_is_line an_is_line : Option Addr} {sl_is_line : Array (Option Value)} {oc_is_line kV_is_line dc_is_line pm_is_line cd_is_line ct_is_line : Value}
    (a_is_line : PySem.W.nsIn K mainGlobals "is_line" = some (some (.ref f_is_line))) (l_is_line : K.lookup f_is_line = some ⟨oc_is_line, od_is_line, .func (PySem.W.fnOf "is_line" "is_line" (defArgs s_is_line) (defBody s_is_line) (defScope s_is_line) .none kV_is_line dc_is_line pm_is_line an_is_line cd_is_line ct_is_line), sl_is_line⟩) (c_is_line : PySem.W.codeIn K cd_is_line "is_line" = true) (k_is_line : PySem.W.keepIn K (.ref f_is_line) = true)
    {f_dice : Addr} {od_dice an_dice : Option Addr} {sl_dice : Array (Option Value)} {oc_dice kV_dice dc_dice pm_dice cd_dice ct_dice : Value}
    (a_dice : PySem.W.nsIn K mainGlobals "_law_dice" = some (some (.ref f_dice))) (l_dice : K.lookup f_dice = some ⟨oc_dice, od_dice, .func (PySem.W.fnOf "_law_dice" "_law_dice" (defArgs s_dice) (defBody s_dice) (defScope s_dice) .none kV_dice dc_dice pm_dice an_dice cd_dice ct_dice), sl_dice⟩) (c_dice : PySem.W.codeIn K cd_dice "_law_dice" = true) (k_dice : PySem.W.keepIn K (.ref f_dice) = true)
    {f_roll : Addr} {od_roll an_roll : Option Addr} {sl_roll : Array (Option Value)} {oc_roll kV_roll dc_roll pm_roll cd_roll ct_roll : Value}
    (a_roll : PySem.W.nsIn K mainGlobals "_law_roll" = some (some (.ref f_roll))) (l_roll : K.lookup f_roll = some ⟨oc_roll, od_roll, .func (PySem.W.fnOf "_law_roll" "_law_roll" (defArgs s_roll) (defBody s_roll) (defScope s_roll) .none kV_roll dc_roll pm_roll an_roll cd_roll ct_roll), sl_roll⟩) (c_roll : PySem.W.codeIn K cd_roll "_law_roll" = true) (k_roll : PySem.W.keepIn K (.ref f_roll) = true)
    {f_pick : Addr} {od_pick an_pick : Option Addr} {sl_pick : Array (Option Value)} {oc_pick kV_pick dc_pick pm_pick cd_pick ct_pick : Value}
    (a_pick : PySem.W.nsIn K mainGlobals "_law_pick" = some (some (.ref f_pick))) (l_pick : K.lookup f_pick = some ⟨oc_pick, od_pick, .func (PySem.W.fnOf "_law_pick" "_law_pick" (defArgs s_pick) (defBody s_pick) (defScope s_pick) .none kV_pick dc_pick pm_pick an_pick cd_pick ct_pick), sl_pick⟩) (c_pick : PySem.W.codeIn K cd_pick "_law_pick" = true) (k_pick : PySem.W.keepIn K (.ref f_pick) = true)
    {f_fits : Addr} {od_fits an_fits : Option Addr} {sl_fits : Array (Option Value)} {oc_fits kV_fits dc_fits pm_fits cd_fits ct_fits : Value}
    (a_fits : PySem.W.nsIn K mainGlobals "_law_fits" = some (some (.ref f_fits))) (l_fits : K.lookup f_fits = some ⟨oc_fits, od_fits, .func (PySem.W.fnOf "_law_fits" "_law_fits" (defArgs s_fits) (defBody s_fits) (defScope s_fits) .none kV_fits dc_fits pm_fits an_fits cd_fits ct_fits), sl_fits⟩) (c_fits : PySem.W.codeIn K cd_fits "_law_fits" = true) (k_fits : PySem.W.keepIn K (.ref f_fits) = true)
    {f_right : Addr} {od_right an_right : Option Addr} {sl_right : Array (Option Value)} {oc_right kV_right dc_right pm_right cd_right ct_right : Value}
    (a_right : PySem.W.nsIn K mainGlobals "_law_right" = some (some (.ref f_right))) (l_right : K.lookup f_right = some ⟨oc_right, od_right, .func (PySem.W.fnOf "_law_right" "_law_right" (defArgs s_right) (defBody s_right) (defScope s_right) .none kV_right dc_right pm_right an_right cd_right ct_right), sl_right⟩) (c_right : PySem.W.codeIn K cd_right "_law_right" = true) (k_right : PySem.W.keepIn K (.ref f_right) = true)
    {f_law : Addr} {od_law an_law : Option Addr} {sl_law : Array (Option Value)} {oc_law kV_law dc_law pm_law cd_law ct_law : Value}
    (a_law : PySem.W.nsIn K mainGlobals "law" = some (some (.ref f_law))) (l_law : K.lookup f_law = some ⟨oc_law, od_law, .func (PySem.W.fnOf "law" "law" (defArgs s_law) (defBody s_law) (defScope s_law) .none kV_law dc_law pm_law an_law cd_law ct_law), sl_law⟩) (c_law : PySem.W.codeIn K cd_law "law" = true) (k_law : PySem.W.keepIn K (.ref f_law) = true)
    {t_MAX_LETTERS : Tok} (m_MAX_LETTERS : PySem.W.nsIn K mainGlobals "MAX_LETTERS" = some (some (.int (8) t_MAX_LETTERS)))
    {t_MAX_COLUMN : Tok} (m_MAX_COLUMN : PySem.W.nsIn K mainGlobals "MAX_COLUMN" = some (some (.int (199) t_MAX_COLUMN)))
    {t_MAX_WORDS : Tok} (m_MAX_WORDS : PySem.W.nsIn K mainGlobals "MAX_WORDS" = some (some (.int (6) t_MAX_WORDS)))
    (z_isinstance : PySem.W.nsIn K mainGlobals "isinstance" = some none)
    (z_int : PySem.W.nsIn K mainGlobals "int" = some none)
    (z_bool : PySem.W.nsIn K mainGlobals "bool" = some none)
    (z_abs : PySem.W.nsIn K mainGlobals "abs" = some none)
    (z_str : PySem.W.nsIn K mainGlobals "str" = some none)
    (z_len : PySem.W.nsIn K mainGlobals "len" = some none)
    (z_tuple : PySem.W.nsIn K mainGlobals "tuple" = some none)
    (z_all : PySem.W.nsIn K mainGlobals "all" = some none)
    (z_max : PySem.W.nsIn K mainGlobals "max" = some none)
    (z_range : PySem.W.nsIn K mainGlobals "range" = some none)
    (z_repr : PySem.W.nsIn K mainGlobals "repr" = some none)
    (z_min : PySem.W.nsIn K mainGlobals "min" = some none) :
    ∃ fd : FuncData, (∀ (s : Shared) (v : Value), BindsTo s fd ⟨[v], []⟩ [("_law_script", v)]) ∧ ∀ base : Heap, K.In base → base.Ns mainGlobals mg → FnOk l.prog w K mg base CX0 5 fa fd ["_law_script"] (spLaw K) := by
  have e := hfa.symm.trans (PySem.W.mg_of X G a_law)
  cases e
  let T : Txt K mg := {
    f_is_integer := f_is_integer, fd_is_integer := _, F_is_integer := fun_mk (st := s_is_integer) l_is_integer c_is_integer k_is_integer, g_is_integer := PySem.W.mg_of X G a_is_integer, b_is_integer := (fun_mk (st := s_is_integer) l_is_integer c_is_integer k_is_integer).binds (ps := ["value"]) (fun _ _ _ _ _ _ us hl => match us, hl with | [_], _ => rfl),
    f_is_word := f_is_word, fd_is_word := _, F_is_word := fun_mk (st := s_is_word) l_is_word c_is_word k_is_word, g_is_word := PySem.W.mg_of X G a_is_word, b_is_word := (fun_mk (st := s_is_word) l_is_word c_is_word k_is_word).binds (ps := ["value"]) (fun _ _ _ _ _ _ us hl => match us, hl with | [_], _ => rfl),
    f_is_column := f_is_column, fd_is_column := _, F_is_column := fun_mk (st := s_is_column) l_is_column c_is_column k_is_column, g_is_column := PySem.W.mg_of X G a_is_column, b_is_column := (fun_mk (st := s_is_column) l_is_column c_is_column k_is_column).binds (ps := ["value"]) (fun _ _ _ _ _ _ us hl => match us, hl with | [_], _ => rfl),
    f_is_words_of_line := f_is_words_of_line, fd_is_words_of_line := _, F_is_words_of_line := fun_mk (st := s_is_words_of_line) l_is_words_of_line c_is_words_of_line k_is_words_of_line, g_is_words_of_line := PySem.W.mg_of X G a_is_words_of_line, b_is_words_of_line := (fun_mk (st := s_is_words_of_line) l_is_words_of_line c_is_words_of_line k_is_words_of_line).binds (ps := ["value"]) (fun _ _ _ _ _ _ us hl => match us, hl with | [_], _ => rfl),
    f_is_line := f_is_line, fd_is_line := _, F_is_line := fun_mk (st := s_is_line) l_is_line c_is_line k_is_line, g_is_line := PySem.W.mg_of X G a_is_line, b_is_line := (fun_mk (st := s_is_line) l_is_line c_is_line k_is_line).binds (ps := ["value"]) (fun _ _ _ _ _ _ us hl => match us, hl with | [_], _ => rfl),
    f_dice := f_dice, fd_dice := _, F_dice := fun_mk (st := s_dice) l_dice c_dice k_dice, g_dice := PySem.W.mg_of X G a_dice, b_dice := (fun_mk (st := s_dice) l_dice c_dice k_dice).binds (ps := ["_law_script", "_law_spot"]) (fun _ _ _ _ _ _ us hl => match us, hl with | [_, _], _ => rfl),
    f_roll := f_roll, fd_roll := _, F_roll := fun_mk (st := s_roll) l_roll c_roll k_roll, g_roll := PySem.W.mg_of X G a_roll, b_roll := (fun_mk (st := s_roll) l_roll c_roll k_roll).binds (ps := ["_law_dice_here", "_law_total"]) (fun _ _ _ _ _ _ us hl => match us, hl with | [_, _], _ => rfl),
    f_pick := f_pick, fd_pick := _, F_pick := fun_mk (st := s_pick) l_pick c_pick k_pick, g_pick := PySem.W.mg_of X G a_pick, b_pick := (fun_mk (st := s_pick) l_pick c_pick k_pick).binds (ps := ["_law_dice_here", "_law_items"]) (fun _ _ _ _ _ _ us hl => match us, hl with | [_, _], _ => rfl),
    f_fits := f_fits, fd_fits := _, F_fits := fun_mk (st := s_fits) l_fits c_fits k_fits, g_fits := PySem.W.mg_of X G a_fits, b_fits := (fun_mk (st := s_fits) l_fits c_fits k_fits).binds (ps := ["_law_column", "_law_words"]) (fun _ _ _ _ _ _ us hl => match us, hl with | [_, _], _ => rfl),
    f_right := f_right, fd_right := _, F_right := fun_mk (st := s_right) l_right c_right k_right, g_right := PySem.W.mg_of X G a_right, b_right := (fun_mk (st := s_right) l_right c_right k_right).binds (ps := ["_law_dice_here"]) (fun _ _ _ _ _ _ us hl => match us, hl with | [_], _ => rfl),
    t_MAX_LETTERS := t_MAX_LETTERS, c_MAX_LETTERS := PySem.W.mg_of X G m_MAX_LETTERS,
    t_MAX_COLUMN := t_MAX_COLUMN, c_MAX_COLUMN := PySem.W.mg_of X G m_MAX_COLUMN,
    t_MAX_WORDS := t_MAX_WORDS, c_MAX_WORDS := PySem.W.mg_of X G m_MAX_WORDS,
    z_isinstance := PySem.W.mg_none_of X G z_isinstance,
    z_int := PySem.W.mg_none_of X G z_int,
    z_bool := PySem.W.mg_none_of X G z_bool,
    z_abs := PySem.W.mg_none_of X G z_abs,
    z_str := PySem.W.mg_none_of X G z_str,
    z_len := PySem.W.mg_none_of X G z_len,
    z_tuple := PySem.W.mg_none_of X G z_tuple,
    z_all := PySem.W.mg_none_of X G z_all,
    z_max := PySem.W.mg_none_of X G z_max,
    z_range := PySem.W.mg_none_of X G z_range,
    z_repr := PySem.W.mg_none_of X G z_repr,
    z_min := PySem.W.mg_none_of X G z_min }
  exact ⟨_, fun s v => .of_eq rfl, fun base _ _ => ok_law T (fun_mk (st := s_law) l_law c_law k_law)⟩
end My
open PySem PySem.W PyProof.Rows
set_option maxHeartbeats 0 in
theorem PySem.Challenge.cw_offside_k03_lines_judged_holds : PySem.Challenge.rw_offside_k03_lines_judged.Holds := by
  w_on; o_law; k_head; (case hw => w_witness2)
  k_fill
  refine L2.walk_of (l := PySem.Challenge.rw_offside_k03_lines_judged) (n := 63) (k := 5) (x := "_law_script") (CX := fun _ => L2.CX0) (sp := fun w => My.spLaw _) rfl (by decide) rfl ⟨rfl, by decide, by decide⟩ (fun w h Y => PySem.W.kIn_of Y) ?F (fun _ _ a ns hl _ hS => ⟨a, ns, rfl, hS, hl, fun _ => rfl⟩) (fun _ _ _ _ _ h => h)
  case F =>
    intro w mg fa h KX G hmg
    refine' My.all_mk KX G hmg ?a_is_integer ?l_is_integer ?c_is_integer ?k_is_integer ?a_is_word ?l_is_word ?c_is_word ?k_is_word ?a_is_column ?l_is_column ?c_is_column ?k_is_column ?a_is_words_of_line ?l_is_words_of_line ?c_is_words_of_line ?k_is_words_of_line ?a_is_line ?l_is_line ?c_is_line ?k_is_line ?a_dice ?l_dice ?c_dice ?k_dice ?a_roll ?l_roll ?c_roll ?k_roll ?a_pick ?l_pick ?c_pick ?k_pick ?a_fits ?l_fits ?c_fits ?k_fits ?a_right ?l_right ?c_right ?k_right ?a_law ?l_law ?c_law ?k_law ?m_MAX_LETTERS ?m_MAX_COLUMN ?m_MAX_WORDS ?z_isinstance ?z_int ?z_bool ?z_abs ?z_str ?z_len ?z_tuple ?z_all ?z_max ?z_range ?z_repr ?z_min
    (case a_is_integer => k_is); (case l_is_integer => k_is); (case c_is_integer => k_is); (case k_is_integer => k_is); (case a_is_word => k_is); (case l_is_word => k_is); (case c_is_word => k_is); (case k_is_word => k_is); (case a_is_column => k_is); (case l_is_column => k_is); (case c_is_column => k_is); (case k_is_column => k_is); (case a_is_words_of_line => k_is); (case l_is_words_of_line => k_is); (case c_is_words_of_line => k_is); (case k_is_words_of_line => k_is); (case a_is_line => k_is); (case l_is_line => k_is); (case c_is_line => k_is); (case k_is_line => k_is); (case a_dice => k_is); (case l_dice => k_is); (case c_dice => k_is); (case k_dice => k_is); (case a_roll => k_is); (case l_roll => k_is); (case c_roll => k_is); (case k_roll => k_is); (case a_pick => k_is); (case l_pick => k_is); (case c_pick => k_is); (case k_pick => k_is); (case a_fits => k_is); (case l_fits => k_is); (case c_fits => k_is); (case k_fits => k_is); (case a_right => k_is); (case l_right => k_is); (case c_right => k_is); (case k_right => k_is); (case a_law => k_is); (case l_law => k_is); (case c_law => k_is); (case k_law => k_is); (case m_MAX_LETTERS => k_is); (case m_MAX_COLUMN => k_is); (case m_MAX_WORDS => k_is); (case z_isinstance => k_is); (case z_int => k_is); (case z_bool => k_is); (case z_abs => k_is); (case z_str => k_is); (case z_len => k_is); (case z_tuple => k_is); (case z_all => k_is); (case z_max => k_is); (case z_range => k_is); (case z_repr => k_is); (case z_min => k_is)

