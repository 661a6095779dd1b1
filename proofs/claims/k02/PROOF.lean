import PyProof.Rows.All
import Wide.All
import OpenK.AllK
import Wide.FinOn
import HandS.ForMost
import HandS.IsInst
import HandS.Steps
import HandS.Evl
import HandS.Walk
import HandS.Conv
import HandS.WordsDict
import KE.KDictZip
import HandS.Exc
import HandS.ExcOwn
import HandS.WordsExc
import HandS.TryOnly
import HandS.Style
import HandS.RevRange
import HandS.Zip
import KE.OsArith
import PyProof.ZipIter
import PyProof.EnumIter
import HandS.Iter
import HandS.Hot
import HandS.HotCalls
import HandS.Call
import HandS.Comp
import HandS.ExcCtx
import HandS.SuiteRaise
import HandS.ExcIs
import HandS.Codes
import HandS.NoneIn
import HandS.Strs
import HandS.DictTup
import HandS.Wide
import PySem.Challenge.RW_rotward_k02_operations_and_errors
set_option Elab.async false
set_option linter.all false
set_option maxRecDepth 100000
set_option maxHeartbeats 4000000
namespace R
open PySem PySem.Spec L2

/-! ### rules that the layer lacks -/
section
variable {X : Cx}
/-- xs[i] read for an operation in place -/
theorem get_list : PGet X (rIxL X.K) := by
  intro pins s σ H o i ov iv Q I ro ri h
  obtain ⟨p, xs, k, z, rfl, rfl, hq, he, q⟩ := h
  cases ro
  obtain ⟨t, rfl⟩ := ri
  obtain ⟨us, vs, pl, hz⟩ := I.list hq
  obtain ⟨j, g1, g2, g3, g4, g5⟩ := atI_get he
  obtain ⟨u, eu, ru⟩ := vs.get g2
  have ln := vs.length
  have l63 := line63
  have dn : EP X pins σ Q u s := ⟨z, H, I, ru, q⟩
  rcases Int.lt_or_le k 0 with k0 | k0
  · rw [seqIndex_neg k0 g4] at g1
    have g1' := Option.some.inj g1
    refine wpAny_getItem_list_neg pl.isList k0 ?_ (by omega) ?_ dn
    · rw [List.size_toArray] <;> omega
    · rw [List.size_toArray, ← ln, g1']
      simpa using eu
  · rw [seqIndex_of k0 g5] at g1
    have g1' := Option.some.inj g1
    refine wpAny_getItem_list pl.isList k0 (by omega) ?_ dn
    rw [g1']
    simpa using eu
theorem pe_globC {x : Str} {i : Int} {pos : Pos} (hg : Gl X x) (h : ∃ t, X.mg x = some (.int i t)) (hd : (x == ("__debug__" : Str)) = false := by decide) : PE X (.Name x pos) (tC (.int i)) := by
  obtain ⟨t, h⟩ := h
  exact pe_glob hg h ⟨t, rfl⟩ hd
end

theorem pe_ty {X : Cx} {x : Str} {n : String} {pos : Pos} (hg : Gl X x) (hm : X.mg x = none) (hv : bootBuiltins x = some (.type n)) (hn : x ≠ "__name__" := by decide) (hd : (x == ("__debug__" : Str)) = false := by decide) : PE X (.Name x pos) (tC (.ty n)) := pe_bltn hg hm hv rfl hn hd
/-! ### a def that may be called -/
def Cal (P : Program) (w : World) (K : PySem.W.Frag) (mg : Str → Option Value) (base : Heap) (k : Nat) (x : Str) (ps : List Str) (sp : Sp) : Prop :=
  ∃ (f : Addr) (fd : FuncData), FnOk P w K mg base CX0 k f fd ps sp ∧ mg x = some (.ref f) ∧ PySem.W.keepIn K (.ref f) = true ∧ Binds K fd ps []
section
variable {P : Program} {w : World} {K : PySem.W.Frag} {mg : Str → Option Value} {base : Heap} {k : Nat} {x : Str} {ps : List Str} {sp : Sp}
theorem Cal.mk' {q : Str} {st : Stmt} {f : Addr} {fd : FuncData} (F : Fun K x q st f fd) (g : mg x = some (.ref f)) (b : Binds K fd ps []) (G : FnOk P w K mg base CX0 k f fd ps sp) : Cal P w K mg base k x ps sp := ⟨f, fd, G, g, F.kp, b⟩
theorem Cal.imp {sp' : Sp} (c : Cal P w K mg base k x ps sp) (h : ∀ vs H Q E, sp' vs H Q E → sp vs H Q E) : Cal P w K mg base k x ps sp' := by
  obtain ⟨f, fd, G, g, kp, b⟩ := c
  exact ⟨f, fd, G.imp h, g, kp, b⟩
theorem Cal.mono {j : Nat} (c : Cal P w K mg base k x ps sp) (h : k ≤ j) : Cal P w K mg base j x ps sp := by
  obtain ⟨f, fd, G, g, kp, b⟩ := c
  exact ⟨f, fd, G.mono h, g, kp, b⟩
end
section
variable {X : Cx} {k : Nat} {x : Str} {ps : List Str} {sp : Sp} {t : TA} {e : Expr} {es : List Expr} {p pos : Pos}
/-- the value of a call -/
def tCal (sp : Sp) (t : TA) : TE := fun σ H Q => t σ H fun vs H1 => sp vs H1 Q E0
theorem tCall_nil (sp : Sp) (t : TA) : tCall sp [] E0 t = tCal sp t := by
  funext σ H Q
  show (t σ H fun vs H1 => sp (vs ++ []) H1 Q E0) = (t σ H fun vs H1 => sp vs H1 Q E0)
  simp only [List.append_nil]
theorem pe_cal (c : Cal X.prog X.w X.K X.mg X.base k x ps sp) (hr : Room k X.A) (hg : Gl X x) (ha : PA X (e :: es) t)
    (hdb : (x == ("__debug__" : Str)) = false := by decide) (he : starEach (e :: es) X.env = (false, eval e X.env) :: starEach es X.env := by rfl) (hpl : (backTo pos (starEach es X.env)).any (·.1) = false := by rfl) :
    PE X (.Call (.Name x p) (e :: es) [] pos) (tCal sp t) := by
  obtain ⟨f, fd, G, g, kp, b⟩ := c
  have h := pe_call (p := p) (pos := pos) G hr hg g kp b .nil pass0 ha hdb he hpl
  rw [tCall_nil] at h
  exact h
theorem pe_cal0 (c : Cal X.prog X.w X.K X.mg X.base k x ps sp) (hr : Room k X.A) (hg : Gl X x) (hdb : (x == ("__debug__" : Str)) = false := by decide) : PE X (.Call (.Name x p) [] [] pos) (tCal sp tNil) := by
  obtain ⟨f, fd, G, g, kp, b⟩ := c
  have h := pe_call0 (p := p) (pos := pos) G hr hg g kp b .nil pass0 hdb
  rw [tCall_nil] at h
  exact h
end

/-! ### rules over what is tracked: their readings open by simp alone -/
section
variable {X : Cx} {e a b : Expr}
theorem PE.imp {t t' : TE} (h : PE X e t) (i : ∀ σ H Q, t' σ H Q → t σ H Q) : PE X e t' := ⟨fun pins s σ H Q I q => h.run pins s σ H Q I (i σ H Q q)⟩
theorem PT.imp {t t' : TT} (h : PT X e t) (i : ∀ σ H Q, t' σ H Q → t σ H Q) : PT X e t' := ⟨fun pins s σ H Q I q => h.run pins s σ H Q I (i σ H Q q)⟩
theorem PS.imp {st : Stmt} {t t' : TS} (h : PS X st t) (i : ∀ D σ H, t' D σ H → t D σ H) : PS X st t' := ⟨fun pins s σ H D I q => h.run pins s σ H D I (i D σ H q)⟩
theorem CallR.imp {f : Value} {r r' : List V → Hp → VK → Prop} (h : CallR X f r) (i : ∀ xs H Q, r' xs H Q → r xs H Q) : CallR X f r' := fun pins s σ H xs us Q I rv q => h pins s σ H xs us Q I rv (i xs H Q q)
theorem IxR.imp {r r' : R2} (h : IxR X r) (i : ∀ x y H Q, r' x y H Q → r x y H Q) : IxR X r' := fun value slice pins s σ H x y v u Q I rx ry q hs => h value slice pins s σ H x y v u Q I rx ry (i x y H Q q) hs
theorem SqL.tr {K : PySem.W.Frag} {H : Hp} {p : Addr} {xs : List V} (h : H p = some (.lst xs)) : SqL K H p xs := .inl (.inl h)
theorem SqT.tr {K : PySem.W.Frag} {H : Hp} {p : Addr} {xs : List V} (h : H p = some (.tup xs)) : SqT K H p xs := .inl (.inl h)

/-- xs[i], a tracked list | tuple -/
def kIxL : R2 := fun x y H Q => ∃ p i xs v, x = .ref p ∧ y = .int i ∧ H p = some (.lst xs) ∧ atI xs i = some v ∧ Q v H
def kIxT : R2 := fun x y H Q => ∃ p i xs v, x = .ref p ∧ y = .int i ∧ H p = some (.tup xs) ∧ atI xs i = some v ∧ Q v H
theorem ix_l : IxR X kIxL := IxR.imp ix_list fun _ _ _ _ ⟨p, i, xs, v, e1, e2, h, ha, q⟩ => ⟨p, xs, i, v, e1, e2, SqL.tr h, ha, q⟩
theorem ix_t : IxR X kIxT := IxR.imp ix_tup fun _ _ _ _ ⟨p, i, xs, v, e1, e2, h, ha, q⟩ => ⟨p, xs, i, v, e1, e2, SqT.tr h, ha, q⟩
theorem get_l : PGet X kIxL := fun pins s σ H o i ov iv Q I ro ri ⟨p, i', xs, v, e1, e2, h, ha, q⟩ => get_list pins s σ H o i ov iv Q I ro ri ⟨p, xs, i', v, e1, e2, SqL.tr h, ha, q⟩
/-- len -/
def kLenL : List V → Hp → VK → Prop := fun vs H Q => ∃ p xs, vs = [.ref p] ∧ H p = some (.lst xs) ∧ Q (.int xs.length) H
def kLenT : List V → Hp → VK → Prop := fun vs H Q => ∃ p xs, vs = [.ref p] ∧ H p = some (.tup xs) ∧ Q (.int xs.length) H
theorem len_l : CallR X (.builtin "len") kLenL := CallR.imp call_len_seq fun _ _ _ ⟨p, xs, e, h, q⟩ => ⟨p, xs, e, .inl (SqL.tr h), q⟩
theorem len_t : CallR X (.builtin "len") kLenT := CallR.imp call_len_seq fun _ _ _ ⟨p, xs, e, h, q⟩ => ⟨p, xs, e, .inr (SqT.tr h), q⟩
/-- list or tuple -/
def kIxS : R2 := fun x y H Q => ∃ p i xs v, x = .ref p ∧ y = .int i ∧ (H p = some (.lst xs) ∨ H p = some (.tup xs)) ∧ atI xs i = some v ∧ Q v H
theorem ix_s : IxR X kIxS := IxR.imp ix_seq fun _ _ _ _ ⟨p, i, xs, v, e1, e2, h, ha, q⟩ => h.elim (fun h => .inl ⟨p, xs, i, v, e1, e2, SqL.tr h, ha, q⟩) fun h => .inr (.inl ⟨p, xs, i, v, e1, e2, SqT.tr h, ha, q⟩)
def kLenS : List V → Hp → VK → Prop := fun vs H Q => ∃ p xs, vs = [.ref p] ∧ (H p = some (.lst xs) ∨ H p = some (.tup xs)) ∧ Q (.int xs.length) H
theorem len_s : CallR X (.builtin "len") kLenS := CallR.imp call_len_seq fun _ _ _ ⟨p, xs, e, h, q⟩ => ⟨p, xs, e, h.elim (fun h => .inl (SqL.tr h)) (fun h => .inr (SqT.tr h)), q⟩
/-- int(i) -/
def kInt : List V → Hp → VK → Prop := fun vs H Q => ∃ i, vs = [.int i] ∧ Q (.int i) H
theorem int_i : CallR X (.type "int") kInt := CallR.imp call_int1 fun _ _ _ ⟨i, e, q⟩ => .inl ⟨i, e, q⟩
/-- list(xs): a new one -/
def kListL : List V → Hp → VK → Prop := fun vs H Q => ∃ p xs, vs = [.ref p] ∧ H p = some (.lst xs) ∧ ∀ l, H l = none → Q (.ref l) (upd H l (.lst xs))
theorem list_l : CallR X (.type "list") kListL := CallR.imp call_list_of fun _ _ _ ⟨p, xs, e, h, q⟩ => ⟨p, xs, e, .inl (SqL.tr h), q⟩
def kListT : List V → Hp → VK → Prop := fun vs H Q => ∃ p xs, vs = [.ref p] ∧ H p = some (.tup xs) ∧ ∀ l, H l = none → Q (.ref l) (upd H l (.lst xs))
theorem list_t : CallR X (.type "list") kListT := CallR.imp call_list_of fun _ _ _ ⟨p, xs, e, h, q⟩ => ⟨p, xs, e, .inr (SqT.tr h), q⟩
def kTupL : List V → Hp → VK → Prop := fun vs H Q => ∃ p xs, vs = [.ref p] ∧ H p = some (.lst xs) ∧ ∀ l, H l = none → Q (.ref l) (upd H l (.tup xs))
theorem tup_l : CallR X (.type "tuple") kTupL := CallR.imp call_tuple_of fun _ _ _ ⟨p, xs, e, h, q⟩ => ⟨p, xs, e, .inl ⟨SqL.tr h, q⟩⟩
/-- isinstance(x, T), T built in -/
def tyN (H : Hp) : V → Option String
  | .non => some "NoneType"
  | .bl _ => some "bool"
  | .int _ => some "int"
  | .str _ => some "str"
  | .ref a => match H a with
    | some (.lst _) => some "list"
    | some (.tup _) => some "tuple"
    | some (.dK _) => some "dict"
    | some (.dT _) => some "dict"
    | _ => none
  | _ => none
theorem tyN_of {K : PySem.W.Frag} {H : Hp} {x : V} {n : String} (h : tyN H x = some n) : TyX K H x (.type n) := by
  cases x with
  | non => cases h; exact .base .non
  | bl b => cases h; exact .base (.bl b)
  | int i => cases h; exact .base (.int i)
  | str z => cases h; exact .base (.str z)
  | byt b => cases h
  | flt b => cases h
  | ty b => cases h
  | ref a =>
    have h' : (match H a with
      | some (.lst _) => some "list"
      | some (.tup _) => some "tuple"
      | some (.dK _) => some "dict"
      | some (.dT _) => some "dict"
      | _ => none) = some n := h
    cases e : H a with
    | none => rw [e] at h'; cases h'
    | some o =>
      rw [e] at h'
      cases o with
      | lst xs => cases h'; exact .base (.lst e)
      | tup xs => cases h'; exact .base (.tup e)
      | dK xs => cases h'; exact .base (.dK e)
      | dT xs => cases h'; exact .base (.dT e)
      | _ => cases h'
theorem tyN_lst {H : Hp} {a : Addr} {xs : List V} (h : H a = some (.lst xs)) : tyN H (.ref a) = some "list" := by
  show (match H a with
      | some (.lst _) => some "list"
      | some (.tup _) => some "tuple"
      | some (.dK _) => some "dict"
      | some (.dT _) => some "dict"
      | _ => none) = some "list"
  rw [h]
theorem tyN_tup {H : Hp} {a : Addr} {xs : List V} (h : H a = some (.tup xs)) : tyN H (.ref a) = some "tuple" := by
  show (match H a with
      | some (.lst _) => some "list"
      | some (.tup _) => some "tuple"
      | some (.dK _) => some "dict"
      | some (.dT _) => some "dict"
      | _ => none) = some "tuple"
  rw [h]
theorem tyN_int {H : Hp} {i : Int} : tyN H (.int i) = some "int" := rfl
theorem tyN_bl {H : Hp} {i : Bool} : tyN H (.bl i) = some "bool" := rfl
theorem tyN_non {H : Hp} : tyN H .non = some "NoneType" := rfl
theorem tyN_str {H : Hp} {i : Str} : tyN H (.str i) = some "str" := rfl
def kIsi : List V → Hp → VK → Prop := fun vs H Q => ∃ x c n b, vs = [x, .ty c] ∧ tyN H x = some n ∧ kitB n c = some b ∧ Q (.bl b) H
theorem isi_b : CallR X (.builtin "isinstance") kIsi := CallR.imp call_isi fun _ _ _ ⟨x, c, n, b, e, h, k, q⟩ => ⟨x, .ty c, .type n, .type c, b, e, .ty c, tyN_of h, kit_ty k, q⟩
theorem kb_NoneType_bool : kitB "NoneType" "bool" = some false := by decide +kernel
theorem kb_NoneType_int : kitB "NoneType" "int" = some false := by decide +kernel
theorem kb_NoneType_str : kitB "NoneType" "str" = some false := by decide +kernel
theorem kb_NoneType_tuple : kitB "NoneType" "tuple" = some false := by decide +kernel
theorem kb_NoneType_list : kitB "NoneType" "list" = some false := by decide +kernel
theorem kb_bool_bool : kitB "bool" "bool" = some true := by decide +kernel
theorem kb_bool_int : kitB "bool" "int" = some true := by decide +kernel
theorem kb_bool_str : kitB "bool" "str" = some false := by decide +kernel
theorem kb_bool_tuple : kitB "bool" "tuple" = some false := by decide +kernel
theorem kb_bool_list : kitB "bool" "list" = some false := by decide +kernel
theorem kb_int_bool : kitB "int" "bool" = some false := by decide +kernel
theorem kb_int_int : kitB "int" "int" = some true := by decide +kernel
theorem kb_int_str : kitB "int" "str" = some false := by decide +kernel
theorem kb_int_tuple : kitB "int" "tuple" = some false := by decide +kernel
theorem kb_int_list : kitB "int" "list" = some false := by decide +kernel
theorem kb_str_bool : kitB "str" "bool" = some false := by decide +kernel
theorem kb_str_int : kitB "str" "int" = some false := by decide +kernel
theorem kb_str_str : kitB "str" "str" = some true := by decide +kernel
theorem kb_str_tuple : kitB "str" "tuple" = some false := by decide +kernel
theorem kb_str_list : kitB "str" "list" = some false := by decide +kernel
theorem kb_tuple_bool : kitB "tuple" "bool" = some false := by decide +kernel
theorem kb_tuple_int : kitB "tuple" "int" = some false := by decide +kernel
theorem kb_tuple_str : kitB "tuple" "str" = some false := by decide +kernel
theorem kb_tuple_tuple : kitB "tuple" "tuple" = some true := by decide +kernel
theorem kb_tuple_list : kitB "tuple" "list" = some false := by decide +kernel
theorem kb_list_bool : kitB "list" "bool" = some false := by decide +kernel
theorem kb_list_int : kitB "list" "int" = some false := by decide +kernel
theorem kb_list_str : kitB "list" "str" = some false := by decide +kernel
theorem kb_list_tuple : kitB "list" "tuple" = some false := by decide +kernel
theorem kb_list_list : kitB "list" "list" = some true := by decide +kernel
theorem op_isNV : OpR X (compareOp .Is) (fun x y H Q => y = .non ∧ Q (.bl (decide (x = .non))) H) := fun pins s σ H x y v u Q I rx ry ⟨e, q⟩ => op_isN pins s σ H x y v u Q I rx ry ⟨e, q⟩
/-- o.m(..), o a tracked list -/
def kBM (r : V → List V → Hp → VK → Prop) (to : TE) (t : TA) : TE := fun σ H Q => to σ H fun x H1 => ∃ p xs, x = .ref p ∧ H1 p = some (.lst xs) ∧ t σ H1 fun ys H2 => r x ys H2 Q
def kBM0 (r : V → List V → Hp → VK → Prop) (to : TE) : TE := fun σ H Q => to σ H fun x H1 => ∃ p xs, x = .ref p ∧ H1 p = some (.lst xs) ∧ r x [] H1 Q
theorem pe_bmL {o e : Expr} {es : List Expr} {to : TE} {t : TA} {name : Str} {apos cpos : Pos} {id : String} {r : V → List V → Hp → VK → Prop}
    (slot : Slot "list" name id) (hty : typeOf (.builtin id) = pure (.type "method_descriptor")) (hm : MtR X id r) (ho : PE X o to) (ha : PA X (e :: es) t)
    (hbase : attributeBase o name X.env (eval o X.env) = eval o X.env := by rfl)
    (hfew : ((backTo cpos (starEach (e :: es) X.env)).all (fun x => !x.1) && (backToKw cpos (keywordEach [] X.env)).all (fun x => x.1.isSome)
      && decide ((e :: es).length + ([] : List Keyword).length + (if ([] : List Keyword).isEmpty then 0 else 1) < 30)) = true := by rfl)
    (hline : (apos.endLine == cpos.line) = true := by rfl) (hs : starEach (e :: es) X.env = (false, eval e X.env) :: starEach es X.env := by rfl) (hplain : (backTo cpos (starEach es X.env)).any (·.1) = false := by rfl) :
    PE X (.Call (.Attribute o name apos) (e :: es) [] cpos) (tBM X.K "list" r to t) := pe_bm PySem.F.plainAttrs_list slot hty hm ho ha hbase hfew hline hs hplain
/-- o is a name (or anything whose value's reading is monotone) -/
def Mono (t : TE) : Prop := ∀ σ H (Q Q' : VK), (∀ v H', Q v H' → Q' v H') → t σ H Q → t σ H Q'
theorem mono_var {i : Nat} : Mono (tVar i) := fun _ _ _ _ m ⟨v, e, q⟩ => ⟨v, e, m _ _ q⟩
/-- x.append(..) and the like, x a local name -/
def kMt (r : V → List V → Hp → VK → Prop) (i : Nat) (t : TA) : TE := fun σ H Q => ∃ p xs, σ[i]? = some (some (V.ref p)) ∧ H p = some (.lst xs) ∧ t σ H fun ys H2 => r (V.ref p) ys H2 Q
def kMt0 (r : V → List V → Hp → VK → Prop) (i : Nat) : TE := fun σ H Q => ∃ p xs, σ[i]? = some (some (V.ref p)) ∧ H p = some (.lst xs) ∧ r (V.ref p) [] H Q
theorem pe_mt {i : Nat} {o e : Expr} {es : List Expr} {t : TA} {name : Str} {apos cpos : Pos} {id : String} {r : V → List V → Hp → VK → Prop}
    (slot : Slot "list" name id) (hty : typeOf (.builtin id) = pure (.type "method_descriptor")) (hm : MtR X id r) (ho : PE X o (tVar i)) (ha : PA X (e :: es) t)
    (hbase : attributeBase o name X.env (eval o X.env) = eval o X.env := by rfl)
    (hfew : ((backTo cpos (starEach (e :: es) X.env)).all (fun x => !x.1) && (backToKw cpos (keywordEach [] X.env)).all (fun x => x.1.isSome)
      && decide ((e :: es).length + ([] : List Keyword).length + (if ([] : List Keyword).isEmpty then 0 else 1) < 30)) = true := by rfl)
    (hline : (apos.endLine == cpos.line) = true := by rfl) (hs : starEach (e :: es) X.env = (false, eval e X.env) :: starEach es X.env := by rfl) (hplain : (backTo cpos (starEach es X.env)).any (·.1) = false := by rfl) :
    PE X (.Call (.Attribute o name apos) (e :: es) [] cpos) (kMt r i t) := PE.imp (pe_bm PySem.F.plainAttrs_list slot hty hm ho ha hbase hfew hline hs hplain) fun _ _ _ ⟨p, xs, e, h, q⟩ => ⟨.ref p, e, .inl ⟨rfl, xs, SqL.tr h⟩, q⟩
theorem pe_mt0 {i : Nat} {o : Expr} {name : Str} {apos cpos : Pos} {id : String} {r : V → List V → Hp → VK → Prop}
    (slot : Slot "list" name id) (hty : typeOf (.builtin id) = pure (.type "method_descriptor")) (hm : MtR X id r) (ho : PE X o (tVar i))
    (hbase : attributeBase o name X.env (eval o X.env) = eval o X.env := by rfl) (hline : (apos.endLine == cpos.line) = true := by rfl) : PE X (.Call (.Attribute o name apos) [] [] cpos) (kMt0 r i) :=
  PE.imp (pe_bm0 PySem.F.plainAttrs_list slot hty hm ho hbase hline) fun _ _ _ ⟨p, xs, e, h, q⟩ => ⟨.ref p, e, .inl ⟨rfl, xs, SqL.tr h⟩, q⟩
end
/-! ### for loops over tracked things -/
section
variable {X : Cx}
/-- what is wanted may be weakened -/
def tMo (t : TE) : TE := fun σ H Q => ∃ A : VK, t σ H A ∧ ∀ v H', A v H' → Q v H'
theorem pe_mo {e : Expr} {t : TE} (h : PE X e t) : PE X e (tMo t) := ⟨fun pins s σ H Q I ⟨A, q, m⟩ => thn (h.run pins s σ H A I q) fun _ _ ⟨v, H', I', r, z⟩ => ⟨v, H', I', r, m v H' z⟩⟩
def kIterL (K : PySem.W.Frag) (tl : TE) : TI := fun σ H R => tl σ H fun x H1 => ∃ a xs, x = .ref a ∧ H1 a = some (.lst xs) ∧ R (Itl K a) H1
def kIterT (K : PySem.W.Frag) (tl : TE) : TI := fun σ H R => tl σ H fun x H1 => ∃ a xs, x = .ref a ∧ H1 a = some (.tup xs) ∧ R (Itt K a) H1
theorem pi_l {tg l : Expr} {tl : TE} (hl : PE X l tl) : PI X tg l (kIterL X.K tl) := ⟨fun pins s σ H R I q => (pi_list (pe_mo hl)).run pins s σ H R I ⟨_, q, fun _ _ ⟨a, xs, e, h, z⟩ => ⟨a, e, ⟨xs, SqL.tr h⟩, z⟩⟩⟩
theorem pi_t {tg l : Expr} {tl : TE} (hl : PE X l tl) : PI X tg l (kIterT X.K tl) := ⟨fun pins s σ H R I q => (pi_tup (pe_mo hl)).run pins s σ H R I ⟨_, q, fun _ _ ⟨a, xs, e, h, z⟩ => ⟨a, e, ⟨xs, SqT.tr h⟩, z⟩⟩⟩
def tForJ (J : It) (g : TG) (tb : TS) (D : Ends) (σ : St) (H : Hp) : Prop := ∃ W : Nat → Nat → St → Hp → Prop, (∃ m, W 0 m σ H) ∧ ∀ i m σ H, W i m σ H →
  (J.stop i H ∧ D.nx σ H) ∨ (J.go i H ∧ ∃ N : St → Hp → Prop, (∀ σ' H', N σ' H' → ∃ m', m' < m ∧ W (i + 1) m' σ' H') ∧ ∀ x H', J.yld i H x H' → g x σ H' fun σ2 H2 => tb { D with nx := N, ct := N, bk := D.nx } σ2 H2)
theorem forJ_range {lo : Int} {m : Nat} {g : TG} {tb : TS} {n b c : St → Hp → Prop} {r : VK} {σ : L2.St} {H : Hp} (Pv : Nat → St → Hp → Prop) (h0 : Pv 0 σ H)
    (hs : ∀ i σ H, i < m → Pv i σ H → g (.int (lo + i)) σ H fun σ2 H2 => tb ⟨Pv (i + 1), r, n, Pv (i + 1)⟩ σ2 H2) (hd : ∀ σ H, Pv m σ H → n σ H) : tForJ (Itr lo m) g tb ⟨n, r, b, c⟩ σ H := for_range Pv h0 hs hd
theorem forJ_range0 {m : Nat} {g : TG} {tb : TS} {n b c : St → Hp → Prop} {r : VK} {σ : L2.St} {H : Hp} (Pv : Nat → St → Hp → Prop) (h0 : Pv 0 σ H)
    (hs : ∀ i σ H, i < m → Pv i σ H → g (.int (i : Int)) σ H fun σ2 H2 => tb ⟨Pv (i + 1), r, n, Pv (i + 1)⟩ σ2 H2) (hd : ∀ σ H, Pv m σ H → n σ H) : tForJ (Itr 0 m) g tb ⟨n, r, b, c⟩ σ H := for_range Pv h0 (fun i σ H h p => by
      rw [Int.zero_add]
      exact hs i σ H h p) hd
theorem forJ_list {K : PySem.W.Frag} {a : Addr} (xs : List V) {g : TG} {tb : TS} {n b c : St → Hp → Prop} {r : VK} {σ : L2.St} {H : Hp} (Pv : Nat → St → Hp → Prop) (h0 : Pv 0 σ H) (hl : ∀ i σ H, i ≤ xs.length → Pv i σ H → H a = some (.lst xs))
    (hs : ∀ i x σ H, xs[i]? = some x → Pv i σ H → g x σ H fun σ2 H2 => tb ⟨Pv (i + 1), r, n, Pv (i + 1)⟩ σ2 H2) (hd : ∀ σ H, Pv xs.length σ H → n σ H) : tForJ (Itl K a) g tb ⟨n, r, b, c⟩ σ H :=
  for_list Pv h0 (fun i σ H h p => SqL.tr (hl i σ H h p)) hs hd
theorem forJ_tup {K : PySem.W.Frag} {a : Addr} (xs : List V) {g : TG} {tb : TS} {n b c : St → Hp → Prop} {r : VK} {σ : L2.St} {H : Hp} (Pv : Nat → St → Hp → Prop) (h0 : Pv 0 σ H) (hl : ∀ i σ H, i ≤ xs.length → Pv i σ H → H a = some (.tup xs))
    (hs : ∀ i x σ H, xs[i]? = some x → Pv i σ H → g x σ H fun σ2 H2 => tb ⟨Pv (i + 1), r, n, Pv (i + 1)⟩ σ2 H2) (hd : ∀ σ H, Pv xs.length σ H → n σ H) : tForJ (Itt K a) g tb ⟨n, r, b, c⟩ σ H :=
  for_tup Pv h0 (fun i σ H h p => SqT.tr (hl i σ H h p)) hs hd
end
/-! ### places of lists -/
theorem ixN_natL (n i : Nat) : ixN n (i : Int) = if i < n then some i else none := by
  unfold ixN
  by_cases h : i < n
  · rw [if_pos (by omega), if_pos (by omega), if_pos h]
    simp
  · rw [if_pos (by omega), if_neg (by omega), if_neg h]
theorem atI_natL {α : Type} (xs : List α) (i : Nat) : atI xs (i : Int) = xs[i]? := by
  unfold atI
  rw [ixN_natL]
  by_cases h : i < xs.length
  · rw [if_pos h]
    rfl
  · rw [if_neg h]
    exact (List.getElem?_eq_none (by omega)).symm
theorem atI_map {ns : List Int} {i : Int} (h0 : 0 ≤ i) (h : i < ns.length) : ∃ x, atI (ns.map V.int) i = some (.int x) := by
  refine ⟨ns[i.toNat]'(by omega), ?_⟩
  obtain ⟨k, rfl⟩ : ∃ k : Nat, i = (k : Int) := ⟨i.toNat, by omega⟩
  rw [atI_natL, List.getElem?_map, List.getElem?_eq_getElem (by omega)]
  simp
theorem atI_m1 {α : Type} (xs : List α) : atI xs (-1) = xs.getLast? := by
  unfold atI ixN
  rw [List.getLast?_eq_getElem?, if_neg (by decide)]
  by_cases h : xs = []
  · subst h; rfl
  · have : 0 < xs.length := by cases xs with | nil => exact absurd rfl h | cons _ _ => simp
    rw [if_pos (by omega)]
    show xs[(-1 + (xs.length : Int)).toNat]? = _
    rw [show (-1 + (xs.length : Int)).toNat = xs.length - 1 by omega]
theorem atI_0 {α : Type} (xs : List α) : atI xs 0 = xs[0]? := atI_natL xs 0
theorem ixN_0 (n : Nat) : ixN n 0 = if 0 < n then some 0 else none := ixN_natL n 0
theorem atI_1 {α : Type} (xs : List α) : atI xs 1 = xs[1]? := atI_natL xs 1
theorem ixN_1 (n : Nat) : ixN n 1 = if 1 < n then some 1 else none := ixN_natL n 1
theorem atI_2 {α : Type} (xs : List α) : atI xs 2 = xs[2]? := atI_natL xs 2
theorem ixN_2 (n : Nat) : ixN n 2 = if 2 < n then some 2 else none := ixN_natL n 2
theorem atI_3 {α : Type} (xs : List α) : atI xs 3 = xs[3]? := atI_natL xs 3
theorem ixN_3 (n : Nat) : ixN n 3 = if 3 < n then some 3 else none := ixN_natL n 3
theorem atI_4 {α : Type} (xs : List α) : atI xs 4 = xs[4]? := atI_natL xs 4
theorem ixN_4 (n : Nat) : ixN n 4 = if 4 < n then some 4 else none := ixN_natL n 4
theorem atI_5 {α : Type} (xs : List α) : atI xs 5 = xs[5]? := atI_natL xs 5
theorem ixN_5 (n : Nat) : ixN n 5 = if 5 < n then some 5 else none := ixN_natL n 5
theorem atI_6 {α : Type} (xs : List α) : atI xs 6 = xs[6]? := atI_natL xs 6
theorem ixN_6 (n : Nat) : ixN n 6 = if 6 < n then some 6 else none := ixN_natL n 6
theorem atI_7 {α : Type} (xs : List α) : atI xs 7 = xs[7]? := atI_natL xs 7
theorem ixN_7 (n : Nat) : ixN n 7 = if 7 < n then some 7 else none := ixN_natL n 7
theorem atI_8 {α : Type} (xs : List α) : atI xs 8 = xs[8]? := atI_natL xs 8
theorem ixN_8 (n : Nat) : ixN n 8 = if 8 < n then some 8 else none := ixN_natL n 8
theorem atI_9 {α : Type} (xs : List α) : atI xs 9 = xs[9]? := atI_natL xs 9
theorem ixN_9 (n : Nat) : ixN n 9 = if 9 < n then some 9 else none := ixN_natL n 9
theorem atI_10 {α : Type} (xs : List α) : atI xs 10 = xs[10]? := atI_natL xs 10
theorem ixN_10 (n : Nat) : ixN n 10 = if 10 < n then some 10 else none := ixN_natL n 10
theorem atI_11 {α : Type} (xs : List α) : atI xs 11 = xs[11]? := atI_natL xs 11
theorem ixN_11 (n : Nat) : ixN n 11 = if 11 < n then some 11 else none := ixN_natL n 11
theorem atI_12 {α : Type} (xs : List α) : atI xs 12 = xs[12]? := atI_natL xs 12
theorem ixN_12 (n : Nat) : ixN n 12 = if 12 < n then some 12 else none := ixN_natL n 12

/-! ### readings step by step, from the root -/
theorem upd_id {H : Hp} {a : Addr} {o : HO} (h : H a = some o) : upd H a o = H := by
  funext b
  unfold upd
  split
  · next e => rw [e, h]
  · rfl
theorem exAt {H H' : Hp} (e : Evl.Ex H H') {a : Addr} {o : HO} (h : H a = some o) : H' a = some o := e a o h
theorem ne_fresh {H : Hp} {a b : Addr} {o : HO} (h' : H b = none) (h : H a = some o) : a ≠ b := ne_of_none h h'
inductive SetAt : L2.St → Nat → V → L2.St → Prop
  | zero {x : Option V} {σ : L2.St} {v : V} : SetAt (x :: σ) 0 v (some v :: σ)
  | succ {x : Option V} {σ σ' : L2.St} {i : Nat} {v : V} (h : SetAt σ i v σ') : SetAt (x :: σ) (i + 1) v (x :: σ')
theorem SetAt.eq {σ σ' : L2.St} {i : Nat} {v : V} (h : SetAt σ i v σ') : σ.set i (some v) = σ' := by
  induction h with
  | zero => rfl
  | succ _ ih => rw [List.set_cons_succ, ih]
inductive StartAt : List Str → List V → L2.St → Prop
  | nil : StartAt [] [] []
  | pad {n : Str} {N : List Str} {σ : L2.St} (h : StartAt N [] σ) : StartAt (n :: N) [] (none :: σ)
  | val {n : Str} {N : List Str} {v : V} {vs : List V} {σ : L2.St} (h : StartAt N vs σ) : StartAt (n :: N) (v :: vs) (some v :: σ)
theorem StartAt.eq {N : List Str} {vs : List V} {σ : L2.St} (h : StartAt N vs σ) : L2.start N vs = σ := by
  induction h with
  | nil => rfl
  | pad _ ih =>
    rw [← ih]
    unfold L2.start
    simp [List.replicate_succ]
  | val _ ih =>
    rw [← ih]
    unfold L2.start
    simp
theorem iBody {N : List Str} {vs : List V} {σ : L2.St} {t : TS} {D : Ends} {H : Hp} (h : StartAt N vs σ) (q : t D σ H) : t D (L2.start N vs) H := by
  rw [h.eq]
  exact q
section
variable {K : PySem.W.Frag} {σ σ' : L2.St} {H : Hp} {Q : VK} {ta tb te td : TE} {tt tu : TT} {n b c : St → Hp → Prop} {r : VK} {ts us : TS} {x y v : V} {i j : Int} {tA tR : TA} {QB : Bool → Hp → Prop} {QA : List V → Hp → Prop} {f : Int → Int → V} {R : It → Hp → Prop}
theorem iSeq (q : ts ⟨us ⟨n, r, b, c⟩, r, b, c⟩ σ H) : tSeq ts us ⟨n, r, b, c⟩ σ H := q
theorem iCut (Mid : L2.St → Hp → Prop) (q1 : ts ⟨Mid, r, b, c⟩ σ H) (q2 : ∀ σ' H', Mid σ' H' → us ⟨n, r, b, c⟩ σ' H') : Evl.tCut ts us ⟨n, r, b, c⟩ σ H := ⟨Mid, q1, q2⟩
theorem iNext (q : n σ H) : tNext ⟨n, r, b, c⟩ σ H := q
theorem iBreak (q : b σ H) : tBreak ⟨n, r, b, c⟩ σ H := q
theorem iCont (q : c σ H) : tCont ⟨n, r, b, c⟩ σ H := q
theorem iAsg {g : TG} (q : te σ H fun x H1 => g x σ H1 n) : tAsg te g ⟨n, r, b, c⟩ σ H := q
theorem iName {i : Nat} {QS : St → Hp → Prop} (h : SetAt σ i v σ') (q : QS σ' H) : gName i v σ H QS := by
  show QS (σ.set i (some v)) H
  rw [h.eq]
  exact q
theorem iDrop (q : te σ H fun _ H1 => n σ H1) : tDrop te ⟨n, r, b, c⟩ σ H := q
theorem iRet (q : te σ H r) : tRet te ⟨n, r, b, c⟩ σ H := q
theorem iRetN (q : r .non H) : tRetN ⟨n, r, b, c⟩ σ H := q
theorem iIfS (q : tt σ H fun k H1 => if k = true then ts ⟨n, r, b, c⟩ σ H1 else us ⟨n, r, b, c⟩ σ H1) : tIfS tt ts us ⟨n, r, b, c⟩ σ H := q
theorem iAug {i : Nat} {ti : TIp} (h : σ[i]? = some (some x)) (q : te σ H fun y H1 => ti x y H1 fun z H2 => ∃ σ', SetAt σ i z σ' ∧ n σ' H2) (m : ∀ y H1 (A B : VK), (∀ z H2, A z H2 → B z H2) → ti x y H1 A → ti x y H1 B) (mt : ∀ (A B : VK), (∀ z H2, A z H2 → B z H2) → te σ H A → te σ H B) : tAug i te ti ⟨n, r, b, c⟩ σ H :=
  ⟨x, h, mt _ _ (fun y H1 q1 => m y H1 _ _ (fun z H2 ⟨σ', e, q2⟩ => by
    show n (σ.set i (some z)) H2
    rw [e.eq]
    exact q2) q1) q⟩
/-- x += e, ints -/
theorem iAugI {i : Nat} {f : Int → Int → Int} {a : Int} (h : σ[i]? = some (some (.int a))) (q : te σ H fun y H1 => ∃ d, y = .int d ∧ n (σ.set i (some (.int (f a d)))) H1) (mt : ∀ (A B : VK), (∀ z H2, A z H2 → B z H2) → te σ H A → te σ H B) : tAug i te (ipI f) ⟨n, r, b, c⟩ σ H :=
  ⟨_, h, mt _ _ (fun y H1 ⟨d, e, q1⟩ => ⟨a, d, rfl, e, q1⟩) q⟩
def kAug (i : Nat) (f : Int → Int → Int) (a : Int) (σ : St) (n : St → Hp → Prop) : VK := fun y H1 => ∃ d, y = .int d ∧ n (σ.set i (some (.int (f a d)))) H1
theorem iAugK {i : Nat} {f : Int → Int → Int} {a : Int} (h : σ[i]? = some (some (.int a))) (q : te σ H fun y H1 => (ipI f) (.int a) y H1 fun z H2 => gName i z σ H2 n) : tAug i te (ipI f) ⟨n, r, b, c⟩ σ H := ⟨_, h, q⟩
theorem iIpI {f : Int → Int → Int} (q : Q (.int (f i j)) H) : ipI f (.int i) (.int j) H Q := ⟨i, j, rfl, rfl, q⟩
theorem iAugS {to ti te : TE} {tget : V → V → Hp → VK → Prop} {tip : TIp} {tset : TSet} (q : to σ H fun o H1 => ti σ H1 fun i H2 => tget o i H2 fun x H3 => te σ H3 fun y H4 => tip x y H4 fun z H5 => tset o i z H5 fun H6 => n σ H6) : tAugS to ti te tget tip tset ⟨n, r, b, c⟩ σ H := q
theorem iFor {wi : TI} {g : TG} (q : wi σ H fun J H1 => tForJ J g ts ⟨n, r, b, c⟩ σ H1) : tFor wi g ts ⟨n, r, b, c⟩ σ H := q
/-- targets -/
theorem iSub {to ti : TE} {t : TSet} {QS : St → Hp → Prop} (q : to σ H fun o H1 => ti σ H1 fun i H2 => t o i v H2 fun H3 => QS σ H3) : gSub to ti t v σ H QS := q
theorem iSetL {p : Addr} {xs : List V} {k : Nat} {QH : Hp → Prop} (h : H p = some (.lst xs)) (hi : ixN xs.length i = some k) (q : QH (upd H p (.lst (xs.set k v)))) : rSetL (.ref p) (.int i) v H QH := ⟨p, xs, i, k, rfl, rfl, h, hi, q⟩
/-- expressions -/
theorem iVar {i : Nat} (h : σ[i]? = some (some v)) (q : Q v H) : tVar i σ H Q := ⟨v, h, q⟩
theorem iC (q : Q v H) : tC v σ H Q := q
theorem iOp {rr : R2} (q : ta σ H fun x H1 => tb σ H1 fun y H2 => rr x y H2 Q) : tOp rr ta tb σ H Q := q
theorem iUn {rr : V → Hp → VK → Prop} (q : ta σ H fun x H1 => rr x H1 Q) : tUn rr ta σ H Q := q
theorem iI0 (q : Q (f i j) H) : rI0 f (.int i) (.int j) H Q := ⟨i, j, rfl, rfl, q⟩
theorem iI {C : Int → Int → Prop} (q : Q (f i j) H) (hc : C i j) : rI C f (.int i) (.int j) H Q := ⟨i, j, rfl, rfl, hc, q⟩
theorem iU {g : Int → V} (q : Q (g i) H) : rU g (.int i) H Q := ⟨i, rfl, q⟩
theorem dec_int (i j : Int) : decide (V.int i = V.int j) = decide (i = j) := by
  by_cases h : i = j
  · subst h; rw [decide_eq_true rfl, decide_eq_true rfl]
  · rw [decide_eq_false h, decide_eq_false (fun z => h (V.int.inj z))]
theorem dec_bl (i j : Bool) : decide (V.bl i = V.bl j) = decide (i = j) := by cases i <;> cases j <;> rfl
theorem dec_str (i j : Str) : decide (V.str i = V.str j) = decide (i = j) := by
  by_cases h : i = j
  · subst h; rw [decide_eq_true rfl, decide_eq_true rfl]
  · rw [decide_eq_false h, decide_eq_false (fun z => h (V.str.inj z))]
theorem iEqI (q : Q (.bl (decide (i = j))) H) : rEq (.int i) (.int j) H Q := ⟨rfl, by rw [dec_int]; exact q⟩
theorem iNeI (q : Q (.bl (!decide (i = j))) H) : rNe (.int i) (.int j) H Q := ⟨rfl, by rw [dec_int]; exact q⟩
theorem iEqB {k l : Bool} (q : Q (.bl (decide (k = l))) H) : rEq (.bl k) (.bl l) H Q := ⟨rfl, by rw [dec_bl]; exact q⟩
theorem iNeB {k l : Bool} (q : Q (.bl (!decide (k = l))) H) : rNe (.bl k) (.bl l) H Q := ⟨rfl, by rw [dec_bl]; exact q⟩
theorem iEqS {k l : Str} (q : Q (.bl (decide (k = l))) H) : rEq (.str k) (.str l) H Q := ⟨rfl, by rw [dec_str]; exact q⟩
theorem iNeS {k l : Str} (q : Q (.bl (!decide (k = l))) H) : rNe (.str k) (.str l) H Q := ⟨rfl, by rw [dec_str]; exact q⟩
theorem iIsN (q : Q (.bl (decide (x = .non))) H) : rIsN x .non H Q := ⟨rfl, q⟩
theorem iNotN (q : Q (.bl (!decide (x = .non))) H) : rNotN x .non H Q := ⟨rfl, q⟩
def kBl (QB : Bool → Hp → Prop) : VK := fun x H => ∃ k, x = .bl k ∧ QB k H
theorem iBl {k : Bool} (q : QB k H) : kBl QB (.bl k) H := ⟨k, rfl, q⟩
theorem iTest (q : te σ H (kBl QB)) : tTest te σ H QB := q
theorem iB (q : te σ H (kBl QB)) : tB te σ H QB := q
theorem iAnd (q : tt σ H fun k H1 => if k = true then tu σ H1 QB else QB false H1) : tAnd tt tu σ H QB := q
theorem iOr (q : tt σ H fun k H1 => if k = true then QB true H1 else tu σ H1 QB) : tOr tt tu σ H QB := q
theorem iNot (q : tt σ H fun k H1 => QB (!k) H1) : tNot tt σ H QB := q
theorem iAndV (q : ta σ H (kBl fun k H1 => if k = true then tb σ H1 Q else Q (.bl false) H1)) : tAndV ta tb σ H Q := q
theorem iOrV (q : ta σ H (kBl fun k H1 => if k = true then Q (.bl true) H1 else tb σ H1 Q)) : tOrV ta tb σ H Q := q
theorem iNotV (q : ta σ H (kBl fun k H1 => Q (.bl (!k)) H1)) : tNotV ta σ H Q := q
theorem iIf (q : tt σ H fun k H1 => if k = true then ta σ H1 Q else tb σ H1 Q) : tIf tt ta tb σ H Q := q
theorem iChain {rr rr' : R2} (q : ta σ H fun x H1 => tb σ H1 fun y H2 => rr x y H2 (kBl fun k H3 => if k = true then te σ H3 fun w' H4 => rr' y w' H4 Q else Q (.bl false) H3)) : tChain rr rr' ta tb te σ H Q :=
  q
theorem iCons (q : ta σ H fun x H1 => tR σ H1 fun xs H2 => QA (x :: xs) H2) : tCons ta tR σ H QA := q
theorem iNil (q : QA [] H) : tNil σ H QA := q
theorem iCB {rr : List V → Hp → VK → Prop} (q : tA σ H fun vs H1 => rr vs H1 Q) : tCB rr tA σ H Q := q
theorem iCal {sp : Sp} (q : tA σ H fun vs H1 => sp vs H1 Q E0) : tCal sp tA σ H Q := q
def kNewL (Q : VK) : List V → Hp → Prop := fun xs H1 => xs.length ≤ sizeLine ∧ ∀ p, H1 p = none → Q (.ref p) (upd H1 p (.lst xs))
def kNewT (Q : VK) : List V → Hp → Prop := fun xs H1 => xs.length ≤ sizeLine ∧ ∀ p, H1 p = none → Q (.ref p) (upd H1 p (.tup xs))
theorem iNewL {xs : List V} (h : xs.length ≤ 100000) (q : ∀ p, H p = none → Q (.ref p) (upd H p (.lst xs))) : kNewL Q xs H := ⟨Evl.sz_of h, q⟩
theorem iNewT {xs : List V} (h : xs.length ≤ 100000) (q : ∀ p, H p = none → Q (.ref p) (upd H p (.tup xs))) : kNewT Q xs H := ⟨Evl.sz_of h, q⟩
theorem iApp {p : Addr} {xs : List V} (h : H p = some (.lst xs)) (hz : xs.length < 100000) (q : Q .non (upd H p (.lst (xs ++ [v])))) : rAppend (.ref p) [v] H Q := ⟨p, xs, v, rfl, rfl, h, Evl.sz_lt hz, q⟩
theorem iLst (q : tA σ H (kNewL Q)) : tLst tA σ H Q := q
theorem iTup (q : tA σ H (kNewT Q)) : tTup tA σ H Q := q
theorem iIxL {p : Addr} {xs : List V} (h : H p = some (.lst xs)) (ha : atI xs i = some v) (q : Q v H) : kIxL (.ref p) (.int i) H Q := ⟨p, i, xs, v, rfl, rfl, h, ha, q⟩
theorem iIxT {p : Addr} {xs : List V} (h : H p = some (.tup xs)) (ha : atI xs i = some v) (q : Q v H) : kIxT (.ref p) (.int i) H Q := ⟨p, i, xs, v, rfl, rfl, h, ha, q⟩
theorem iLenL {p : Addr} {xs : List V} (h : H p = some (.lst xs)) (q : Q (.int xs.length) H) : kLenL [.ref p] H Q := ⟨p, xs, rfl, h, q⟩
theorem iLenT {p : Addr} {xs : List V} (h : H p = some (.tup xs)) (q : Q (.int xs.length) H) : kLenT [.ref p] H Q := ⟨p, xs, rfl, h, q⟩
theorem iIxS {p : Addr} {xs : List V} (h : H p = some (.lst xs) ∨ H p = some (.tup xs)) (ha : atI xs i = some v) (q : Q v H) : kIxS (.ref p) (.int i) H Q := ⟨p, i, xs, v, rfl, rfl, h, ha, q⟩
theorem iLenS {p : Addr} {xs : List V} (h : H p = some (.lst xs) ∨ H p = some (.tup xs)) (q : Q (.int xs.length) H) : kLenS [.ref p] H Q := ⟨p, xs, rfl, h, q⟩
theorem iInt (q : Q (.int i) H) : kInt [.int i] H Q := ⟨i, rfl, q⟩
theorem iIsi {cn tn : String} {k : Bool} (h : tyN H x = some tn) (e : kitB tn cn = some k) (q : Q (.bl k) H) : kIsi [x, .ty cn] H Q := ⟨x, cn, tn, k, rfl, h, e, q⟩
theorem iMt {rr : V → List V → Hp → VK → Prop} {i : Nat} {p : Addr} {xs : List V} (e : σ[i]? = some (some (V.ref p))) (h : H p = some (.lst xs)) (q : tA σ H fun ys H2 => rr (V.ref p) ys H2 Q) : kMt rr i tA σ H Q := ⟨p, xs, e, h, q⟩
theorem iAppend {p : Addr} {xs : List V} (h : H p = some (.lst xs)) (hz : xs.length < sizeLine) (q : Q .non (upd H p (.lst (xs ++ [v])))) : rAppend (.ref p) [v] H Q := ⟨p, xs, v, rfl, rfl, h, hz, q⟩
/-- loops' sources -/
def kRng (R : It → Hp → Prop) : List V → Hp → Prop := fun vs H1 => ∃ j : Int, vs = [.int j] ∧ -(2 ^ 62) ≤ j ∧ j < 2 ^ 62 ∧ R (Itr 0 j.toNat) H1
theorem iRng (q : tA σ H (kRng R)) : iRng1 tA σ H R := q
theorem iRngI (h1 : -(2 ^ 62) ≤ i) (h2 : i < 2 ^ 62) (q : R (Itr 0 i.toNat) H) : kRng R [.int i] H := ⟨i, rfl, h1, h2, q⟩
def kItL (K : PySem.W.Frag) (R : It → Hp → Prop) : VK := fun x H1 => ∃ a xs, x = .ref a ∧ H1 a = some (.lst xs) ∧ R (Itl K a) H1
theorem iIterL (q : ta σ H (kItL K R)) : kIterL K ta σ H R := q
theorem iItL {p : Addr} {xs : List V} (h : H p = some (.lst xs)) (q : R (Itl K p) H) : kItL K R (.ref p) H := ⟨p, xs, rfl, h, q⟩
theorem ifT {A B : Prop} {k : Bool} (h : k = true) (q : A) : if k = true then A else B := by rw [if_pos h]; exact q
theorem ifF {A B : Prop} {k : Bool} (h : k = false) (q : B) : if k = true then A else B := by rw [if_neg (by rw [h]; decide)]; exact q
theorem ifD {A B p : Prop} [Decidable p] (h1 : p → A) (h2 : ¬ p → B) : if decide p = true then A else B := by
  by_cases h : p
  · rw [if_pos (decide_eq_true h)]; exact h1 h
  · rw [if_neg (by rw [decide_eq_false h]; decide)]; exact h2 h
theorem ifND {A B p : Prop} [Decidable p] (h1 : ¬ p → A) (h2 : p → B) : if (!decide p) = true then A else B := by
  by_cases h : p
  · rw [decide_eq_true h]; exact h2 h
  · rw [decide_eq_false h]; exact h1 h
theorem iI0n {a d : Nat} {g : Nat → Nat → Nat} {f : Int → Int → V} (e : f (a : Int) (d : Int) = .int ((g a d : Nat) : Int)) (q : Q (.int ((g a d : Nat) : Int)) H) : rI0 f (.int (a : Int)) (.int (d : Int)) H Q := ⟨_, _, rfl, rfl, by rw [e]; exact q⟩
theorem ifNDr {α : Type} {A B : Prop} {a : α} {d : Decidable (a = a)} (q : B) : if (!decide (a = a)) = true then A else B := by rw [decide_eq_true rfl]; exact q
theorem ifDr {α : Type} {A B : Prop} {a : α} {d : Decidable (a = a)} (q : A) : if decide (a = a) = true then A else B := by rw [decide_eq_true rfl]; exact q
theorem ifNp {A B p : Prop} {d : Decidable p} (h : p) (q : B) : if (!decide p) = true then A else B := by rw [decide_eq_true h]; exact q
theorem ifNn {A B p : Prop} {d : Decidable p} (h : ¬ p) (q : A) : if (!decide p) = true then A else B := by rw [decide_eq_false h]; exact q
theorem iTruI {QB : Bool → Prop} (q : QB (i != 0)) : ∃ k, TruV K (.int i) H k ∧ QB k := ⟨_, rfl, q⟩
theorem vInt (e : j = i) (q : Q (.int i) H) : Q (.int j) H := by rw [e]; exact q
end
end R
set_option Elab.async false
set_option linter.all false
set_option maxRecDepth 100000
set_option maxHeartbeats 4000000
namespace R
open PySem PySem.Spec L2
/-! ### dict(enumerate(xs)) -/
/-- the pairs of dict(enumerate(xs)) -/
def enumFrom (n : Nat) : List V → List (Key × V)
  | [] => []
  | x :: xs => (.inl (n : Int), x) :: enumFrom (n + 1) xs
def enumVal (n : Nat) : List Value → List (Key × Value)
  | [] => []
  | x :: xs => (.inl (n : Int), x) :: enumVal (n + 1) xs
theorem enum_KV : ∀ {xs : List V} {us : List Value} (n : Nat), Vals xs us → KV (enumFrom n xs) (enumVal n us)
  | _, _, _, .nil => .nil
  | _, _, n, .cons r t => .cons ⟨rfl, r⟩ (enum_KV (n + 1) t)
theorem enumVal_get : ∀ (us : List Value) (n i : Nat) (u : Value), us[i]? = some u → (enumVal n us)[i]? = some (.inl ((n + i : Nat) : Int), u)
  | [], _, _, _, h => by simp at h
  | x :: us, n, 0, u, h => by
    simp at h
    subst h
    rfl
  | x :: us, n, i + 1, u, h => by
    have e := enumVal_get us (n + 1) i u (by simpa using h)
    rw [show n + 1 + i = n + (i + 1) by omega] at e
    simpa [enumVal] using e
theorem enumVal_len : ∀ (us : List Value) (n : Nat), (enumVal n us).length = us.length
  | [], _ => rfl
  | x :: us, n => by simp [enumVal, enumVal_len us (n + 1)]
theorem enumFrom_len : ∀ (us : List V) (n : Nat), (enumFrom n us).length = us.length
  | [], _ => rfl
  | x :: us, n => by simp [enumFrom, enumFrom_len us (n + 1)]
def kDE (ta : TA) : TE := fun σ H Q => ta σ H fun vs H1 => ∃ a xs, vs = [.ref a] ∧ H1 a = some (.lst xs) ∧ ∀ d, H1 d = none → Q (.ref d) (upd H1 d (.dK (mergeK [] (enumFrom 0 xs))))
section
variable {X : Cx}
theorem pe_dictEnum {e : Expr} {ta : TA} {p p2 pos pos2 : Pos} (hc : X.calm = true) (hg : Gl X "dict") (hm : X.mg "dict" = none) (hg2 : Gl X "enumerate") (hm2 : X.mg "enumerate" = none) (ha : PA X [e] ta) (hs : starEach [e] X.env = [(false, eval e X.env)] := by rfl)
    (hs2 : starEach [Expr.Call (.Name "enumerate" p2) [e] [] pos2] X.env = [(false, eval (.Call (.Name "enumerate" p2) [e] [] pos2) X.env)] := by rfl) :
    PE X (.Call (.Name "dict" p) [.Call (.Name "enumerate" p2) [e] [] pos2] [] pos) (kDE ta) := by
  refine ⟨fun pins s σ H Q I h => ?_⟩
  refine wpAny_Call_Name_kw (ld_blt I hg hm PyProof.Rows.boot_dict ?_ (by decide) (by decide))
  refine PyProof.Rows.callWith_type1 ?_ hs2 rfl
  rw [hs2]
  refine Calls.spliced_cons ?_
  show wpAny _ _ (eval (.Call (.Name "enumerate" p2) [e] [] pos2) X.env) _ _ _
  refine PyProof.Rows.Call_ (ld_blt I hg2 hm2 PyProof.Rows.boot_enumerate (PyProof.Rows.callWith_type1 (thn (ha.run pos2 pins s σ H _ I h) fun us s1 ⟨vs, H1, I1, r1, q1⟩ => ?_) hs rfl))
  obtain ⟨a, xs, rfl, hq, q⟩ := q1
  cases r1 with
  | cons r rr =>
    cases rr
    cases r
    obtain ⟨its, rv, pl, hz⟩ := I1.list (SqL.tr hq)
    obtain ⟨o, no, ho, oc, od, odat⟩ := pl
    have isl : s1.heap.IsList a its.toArray := ⟨o, ho, oc, no, odat⟩
    have la : a < s1.heap.objs.size := Heap.lt_size ho
    refine call_enumerate_list isl fun h' he hit hsz hk => ?_
    refine Calls.spliced_nil ?_
    have ln := rv.length
    refine call_dict_pairs (knd := mixKind X.prog X.w) (kvs := enumVal 0 its) (PairArg.enumerate (s1.heap.objs.size + 1) s1.heap.objs.size a (Nat.succ_ne_self _) (Nat.ne_of_lt (Nat.lt_succ_of_lt la)) (Nat.ne_of_lt la) its.toArray) (I1.ok.hd hc) ⟨⟨.none, he⟩, hit, isl.at fun b hb => hk _ b hb⟩ ⟨?_, ?_⟩ ?_ fun h'' tk hd' hk' => ?_
    · rw [enumVal_len, List.size_toArray]
    · intro i key v hi
      obtain ⟨⟨t, rfl⟩, hv⟩ := hi
      refine ⟨.inl (i : Int), ?_, keyIs_int _ t⟩
      have e := enumVal_get its 0 i v (by simpa using hv)
      rw [Nat.zero_add] at e
      exact e
    · rw [List.size_toArray, ← ln]
      exact hz
    · have hlt : s1.heap.objs.size ≤ h'.objs.size := by omega
      have big := I1.big
      have hm : (h'.objs.size == sysModules) = false := beq_eq_false_iff_ne.mpr (Nat.ne_of_gt (Nat.lt_of_lt_of_le big hlt))
      have hln : (mergeK [] (enumFrom 0 xs)).length ≤ sizeLine := by
        refine Nat.le_trans (length_mergeK _ []) ?_
        rw [List.length_nil, Nat.zero_add, enumFrom_len]
        exact hz
      have keep : ∀ b u, s1.heap.get? b = some u → h''.get? b = some u := fun b u hb => by
        have hb' := Heap.lt_size hb
        refine hk' b u ?_ (hk b u hb)
        simp only [List.mem_cons, List.not_mem_nil, or_false, not_or]
        exact ⟨Nat.ne_of_lt (Nat.lt_succ_of_lt hb'), Nat.ne_of_lt hb'⟩
      refine ⟨.ref h'.objs.size, upd H1 h'.objs.size (.dK (mergeK [] (enumFrom 0 xs))), ?_, rfl, q _ (I1.hok.fresh hlt)⟩
      exact I1.laid (t' := tk) keep hlt (show ObjOk X.prog X.w _ _ _ (.dK _) from ⟨hln, hm, merged [] (enumVal 0 its), KV.merge (enum_KV 0 rv) .nil, hd'⟩)
end
def kDEv (Q : VK) : List V → Hp → Prop := fun vs H1 => ∃ a xs, vs = [.ref a] ∧ H1 a = some (.lst xs) ∧ ∀ d, H1 d = none → Q (.ref d) (upd H1 d (.dK (mergeK [] (enumFrom 0 xs))))
theorem iDEa {ta : TA} {σ : L2.St} {H : Hp} {Q : VK} (q : ta σ H (kDEv Q)) : kDE ta σ H Q := q
theorem iDE {H : Hp} {Q : VK} {a : Addr} {xs : List V} (h : H a = some (.lst xs)) (q : ∀ d, H d = none → Q (.ref d) (upd H d (.dK (mergeK [] (enumFrom 0 xs))))) : kDEv Q [V.ref a] H := ⟨a, xs, rfl, h, q⟩
/-! ### comprehensions -/
def tLcJ (J : It) (g : TG) (tt : TT) (te : TE) (vs : List Nat) (σ : L2.St) (H1 : Hp) (Q : VK) : Prop := ∀ D, H1 D = none → ∃ W : Nat → Nat → Hp → Prop, (∃ m, W 0 m (upd H1 D (.lst []))) ∧ ∀ i m H, W i m H →
  (J.stop i H ∧ Q (.ref D) H) ∨ (J.go i H ∧ ∃ Nx : Hp → Prop, (∀ H', Nx H' → ∃ m', m' < m ∧ W (i + 1) m' H') ∧ ∀ x H', J.yld i H x H' → g x (wipe σ vs) H' fun σ2 H2 => wipe σ2 vs = wipe σ vs ∧ tt σ2 H2 fun b H3 =>
    if b = true then te σ2 H3 fun y H4 => ∃ acc, H4 D = some (.lst acc) ∧ acc.length < sizeLine ∧ Nx (upd H4 D (.lst (acc ++ [y]))) else Nx H3)
inductive NoneAt : L2.St → Nat → L2.St → Prop
  | zero {x : Option V} {σ : L2.St} : NoneAt (x :: σ) 0 (none :: σ)
  | succ {x : Option V} {σ σ' : L2.St} {i : Nat} (h : NoneAt σ i σ') : NoneAt (x :: σ) (i + 1) (x :: σ')
theorem NoneAt.eq {σ σ' : L2.St} {i : Nat} (h : NoneAt σ i σ') : σ.set i none = σ' := by
  induction h with
  | zero => rfl
  | succ _ ih => rw [List.set_cons_succ, ih]
inductive Wip : L2.St → List Nat → L2.St → Prop
  | nil {σ : L2.St} : Wip σ [] σ
  | cons {σ σ1 σ2 : L2.St} {v : Nat} {vs : List Nat} (h : Wip σ vs σ1) (k : NoneAt σ1 v σ2) : Wip σ (v :: vs) σ2
theorem Wip.eq {σ σ' : L2.St} {vs : List Nat} (h : Wip σ vs σ') : wipe σ vs = σ' := by
  induction h with
  | nil => rfl
  | cons _ k ih =>
    unfold wipe
    rw [ih, k.eq]
/-- what a turn is to reach: the new list at D with at most so many items, and the word -/
def LcW (D : Addr) (i : Nat) (Pv : Nat → List V → Hp → Prop) (H : Hp) : Prop := ∃ acc, H D = some (.lst acc) ∧ acc.length ≤ i ∧ Pv i acc H
def kLcE (D : Addr) (i : Nat) (Pv : Nat → List V → Hp → Prop) : VK := fun y H4 => ∃ acc, H4 D = some (.lst acc) ∧ acc.length < sizeLine ∧ LcW D (i + 1) Pv (upd H4 D (.lst (acc ++ [y])))
def kLc (vs : List Nat) (σ' : L2.St) (tt : TT) (te : TE) (D : Addr) (i : Nat) (Pv : Nat → List V → Hp → Prop) : L2.St → Hp → Prop := fun σ2 H2 => wipe σ2 vs = σ' ∧ tt σ2 H2 fun b H3 => if b = true then te σ2 H3 (kLcE D i Pv) else LcW D (i + 1) Pv H3
theorem iLcB {vs : List Nat} {σ' σ2 : L2.St} {tt : TT} {te : TE} {D : Addr} {i : Nat} {Pv : Nat → List V → Hp → Prop} {H2 : Hp} (h : wipe σ2 vs = σ') (q : tt σ2 H2 fun b H3 => if b = true then te σ2 H3 (kLcE D i Pv) else LcW D (i + 1) Pv H3) : kLc vs σ' tt te D i Pv σ2 H2 := ⟨h, q⟩
theorem iLcE {D : Addr} {i : Nat} {Pv : Nat → List V → Hp → Prop} {H : Hp} {y : V} {acc : List V} (h : H D = some (.lst acc)) (hl : acc.length ≤ i) (hi : i < 100000) (q : Pv (i + 1) (acc ++ [y]) (upd H D (.lst (acc ++ [y])))) : kLcE D i Pv y H :=
  ⟨acc, h, Evl.sz_lt (by omega), acc ++ [y], upd_same, by rw [List.length_append, List.length_singleton]; omega, q⟩
theorem iLcN {D : Addr} {i : Nat} {Pv : Nat → List V → Hp → Prop} {H : Hp} {acc : List V} (h : H D = some (.lst acc)) (hl : acc.length ≤ i) (q : Pv (i + 1) acc H) : LcW D (i + 1) Pv H := ⟨acc, h, by omega, q⟩
theorem iYes {σ : L2.St} {H : Hp} {QB : Bool → Hp → Prop} (q : QB true H) : tYes σ H QB := q
theorem iLc {wi : TI} {g : TG} {tt : TT} {te : TE} {vs : List Nat} {σ : L2.St} {H : Hp} {Q : VK} (q : wi σ H fun J H1 => tLcJ J g tt te vs σ H1 Q) : tLc wi g tt te vs σ H Q := q
/-- a comprehension over what is walked in n turns -/
theorem lcJ {J : It} {n : Nat} {G : Hp → Prop} {Y : Nat → Hp → V → Hp → Prop} (w : Walk J n G Y) {g : TG} {tt : TT} {te : TE} {vs : List Nat} {σ σ' : L2.St} {H1 : Hp} {Q : VK} (hw : Wip σ vs σ') (Pv : Addr → Nat → List V → Hp → Prop)
    (h0 : ∀ D, H1 D = none → Pv D 0 [] (upd H1 D (.lst []))) (hG : ∀ D i acc H, H1 D = none → H D = some (.lst acc) → Pv D i acc H → G H)
    (hs : ∀ D i acc x H H', H1 D = none → i < n → H D = some (.lst acc) → acc.length ≤ i → Pv D i acc H → Y i H x H' → g x σ' H' (kLc vs σ' tt te D i (Pv D)))
    (hd : ∀ D acc H, H1 D = none → H D = some (.lst acc) → acc.length ≤ n → Pv D n acc H → Q (.ref D) H) : tLcJ J g tt te vs σ H1 Q := by
  intro D hD
  have hb := lc_it w (g := g) (tt := tt) (te := te) (vs := vs) (σ := σ) (H1 := H1) (D := D) (Qd := Q (.ref D)) (fun i H => LcW D i (Pv D) H) ⟨[], upd_same, Nat.le_refl _, h0 D hD⟩ (fun i H _ ⟨acc, e, _, p⟩ => hG D i acc H hD e p)
    (fun i x H H' hi ⟨acc, e, l, p⟩ y => by
      rw [hw.eq]
      exact hs D i acc x H H' hD hi e l p y) (fun H ⟨acc, e, l, p⟩ => hd D acc H hD e l p)
  exact hb
section
variable {K : PySem.W.Frag} {g : TG} {tt : TT} {te : TE} {vs : List Nat} {σ σ' : L2.St} {H1 : Hp} {Q : VK}
theorem lc_r {lo : Int} {n : Nat} (hw : Wip σ vs σ') (Pv : Addr → Nat → List V → Hp → Prop) (h0 : ∀ D, H1 D = none → Pv D 0 [] (upd H1 D (.lst [])))
    (hs : ∀ D i acc H, H1 D = none → i < n → H D = some (.lst acc) → acc.length ≤ i → Pv D i acc H → g (.int (lo + (i : Int))) σ' H (kLc vs σ' tt te D i (Pv D)))
    (hd : ∀ D acc H, H1 D = none → H D = some (.lst acc) → acc.length ≤ n → Pv D n acc H → Q (.ref D) H) : tLcJ (Itr lo n) g tt te vs σ H1 Q :=
  lcJ walk_range hw Pv h0 (fun _ _ _ _ _ _ _ => trivial) (fun D i acc x H H' a b c d e ⟨y1, y2⟩ => by rw [y1, y2]; exact hs D i acc H a b c d e) hd
theorem lc_r0 {n : Nat} (hw : Wip σ vs σ') (Pv : Addr → Nat → List V → Hp → Prop) (h0 : ∀ D, H1 D = none → Pv D 0 [] (upd H1 D (.lst [])))
    (hs : ∀ D i acc H, H1 D = none → i < n → H D = some (.lst acc) → acc.length ≤ i → Pv D i acc H → g (.int (i : Int)) σ' H (kLc vs σ' tt te D i (Pv D)))
    (hd : ∀ D acc H, H1 D = none → H D = some (.lst acc) → acc.length ≤ n → Pv D n acc H → Q (.ref D) H) : tLcJ (Itr 0 n) g tt te vs σ H1 Q :=
  lc_r hw Pv h0 (fun D i acc H a b c d e => by rw [Int.zero_add]; exact hs D i acc H a b c d e) hd
theorem lc_l {a : Addr} (xs : List V) (hw : Wip σ vs σ') (Pv : Addr → Nat → List V → Hp → Prop) (h0 : ∀ D, H1 D = none → Pv D 0 [] (upd H1 D (.lst []))) (hl : ∀ D i acc H, H1 D = none → H D = some (.lst acc) → Pv D i acc H → H a = some (.lst xs))
    (hs : ∀ D i acc x H, H1 D = none → xs[i]? = some x → H D = some (.lst acc) → acc.length ≤ i → Pv D i acc H → g x σ' H (kLc vs σ' tt te D i (Pv D)))
    (hd : ∀ D acc H, H1 D = none → H D = some (.lst acc) → acc.length ≤ xs.length → Pv D xs.length acc H → Q (.ref D) H) : tLcJ (Itl K a) g tt te vs σ H1 Q :=
  lcJ walk_list hw Pv h0 (fun D i acc H h e p => SqL.tr (hl D i acc H h e p)) (fun D i acc x H H' a b c d e ⟨y1, y2⟩ => by rw [y1]; exact hs D i acc x H a y2 c d e) hd
theorem lc_z {a b : Addr} (xs ys : List V) (he : xs.length = ys.length) (hw : Wip σ vs σ') (Pv : Addr → Nat → List V → Hp → Prop) (h0 : ∀ D, H1 D = none → Pv D 0 [] (upd H1 D (.lst [])))
    (hl : ∀ D i acc H, H1 D = none → H D = some (.lst acc) → Pv D i acc H → H a = some (.lst xs) ∧ H b = some (.lst ys))
    (hs : ∀ D i acc x y T H, H1 D = none → xs[i]? = some x → ys[i]? = some y → H D = some (.lst acc) → acc.length ≤ i → Pv D i acc H → H T = none → g (.ref T) σ' (upd H T (.tup [x, y])) (kLc vs σ' tt te D i (Pv D)))
    (hd : ∀ D acc H, H1 D = none → H D = some (.lst acc) → acc.length ≤ xs.length → Pv D xs.length acc H → Q (.ref D) H) : tLcJ (Itz K a b) g tt te vs σ H1 Q :=
  lcJ (walk_zip (xs := xs) (ys := ys) (n := xs.length) (by omega)) hw Pv h0 (fun D i acc H h e p => ⟨SqL.tr (hl D i acc H h e p).1, SqL.tr (hl D i acc H h e p).2⟩)
    (fun D i acc x H H' a b c d e ⟨T, u, v, y1, y2, y3, y4, y5⟩ => by rw [y1, y3]; exact hs D i acc u v T H a y4 y5 c d e y2) hd
end
/-! ### x in xs, tracked -/
theorem OpR.imp {X : Cx} {f : Value → Value → Sem Value} {r r' : R2} (h : OpR X f r) (i : ∀ x y H Q, r' x y H Q → r x y H Q) : OpR X f r' := fun pins s σ H x y v u Q I rx ry q => h pins s σ H x y v u Q I rx ry (i x y H Q q)
def kIn (neg : Bool) : R2 := fun x y H Q => ∃ p xs, y = .ref p ∧ (H p = some (.lst xs) ∨ H p = some (.tup xs)) ∧ flatV x = true ∧ xs.all flatV = true ∧ Q (.bl (if neg then !inV x xs else inV x xs)) H
theorem op_inS {X : Cx} : OpR X (compareOp .In) (kIn false) := OpR.imp op_in_seq fun _ _ _ _ ⟨p, xs, e, h, f, g, q⟩ => ⟨p, xs, e, h.elim (fun h => .inl (SqL.tr h)) (fun h => .inr (SqT.tr h)), f, g, q⟩
theorem op_ninS {X : Cx} : OpR X (compareOp .NotIn) (kIn true) := OpR.imp op_notIn_seq fun _ _ _ _ ⟨p, xs, e, h, f, g, q⟩ => ⟨p, xs, e, h.elim (fun h => .inl (SqL.tr h)) (fun h => .inr (SqT.tr h)), f, g, q⟩
/-! ### dicts, lists made anew, tuples taken apart -/
section
variable {K : PySem.W.Frag} {σ σ' : L2.St} {H : Hp} {Q : VK} {ta tb td ty tv : TE} {n b c : L2.St → Hp → Prop} {r : VK} {x y v : V} {i j : Int} {tA : TA} {R : It → Hp → Prop} {QB : Bool → Hp → Prop}
def kDG (Q : VK) (x y : V) (H : Hp) : Prop := ∃ a v, x = .ref a ∧ DGet H a y (some v) ∧ Q v H
theorem iDGet (q : td σ H fun x H1 => ty σ H1 fun y H2 => kDG Q x y H2) : tDGet td ty σ H Q := q
theorem iDGi {a : Addr} {kvs : List (Key × V)} (h : H a = some (.dK kvs)) (e : valV kvs (.inl i : Key) = some v) (q : Q v H) : kDG Q (.ref a) (.int i) H := ⟨a, v, rfl, e ▸ DGet.k (k := Sum.inl i) h, q⟩
theorem iDGs {a : Addr} {kvs : List (Key × V)} {z : Str} (h : H a = some (.dK kvs)) (e : valV kvs (.inr z : Key) = some v) (q : Q v H) : kDG Q (.ref a) (.str z) H := ⟨a, v, rfl, e ▸ DGet.k (k := Sum.inr z) h, q⟩
def kDI (Q : VK) (y x : V) (H : Hp) : Prop := ∃ a o, x = .ref a ∧ DGet H a y o ∧ Q (.bl o.isSome) H
theorem iDIn (q : ty σ H fun y H1 => td σ H1 fun x H2 => kDI Q y x H2) : tDIn ty td σ H Q := q
theorem iDIi {a : Addr} {kvs : List (Key × V)} (h : H a = some (.dK kvs)) (q : Q (.bl (valV kvs (.inl i : Key)).isSome) H) : kDI Q (.int i) (.ref a) H := ⟨a, _, rfl, DGet.k (k := Sum.inl i) h, q⟩
def kDN (Q : VK) (y x : V) (H : Hp) : Prop := ∃ a o, x = .ref a ∧ DGet H a y o ∧ Q (.bl (!o.isSome)) H
theorem iDNotIn (q : ty σ H fun y H1 => td σ H1 fun x H2 => kDN Q y x H2) : tDNotIn ty td σ H Q := q
theorem iDNi {a : Addr} {kvs : List (Key × V)} (h : H a = some (.dK kvs)) (q : Q (.bl (!(valV kvs (.inl i : Key)).isSome)) H) : kDN Q (.int i) (.ref a) H := ⟨a, _, rfl, DGet.k (k := Sum.inl i) h, q⟩
def kDP (n : L2.St → Hp → Prop) (σ : L2.St) (v x y : V) (H : Hp) : Prop := ∃ a H4, x = .ref a ∧ DPut H a y v H4 ∧ n σ H4
theorem iDPut (q : tv σ H fun v H1 => td σ H1 fun x H2 => ty σ H2 fun y H3 => kDP n σ v x y H3) : sDPut td ty tv ⟨n, r, b, c⟩ σ H := q
theorem iDPi {a : Addr} {kvs : List (Key × V)} (h : H a = some (.dK kvs)) (hl : kvs.length < 100000) (q : n σ (upd H a (.dK (putK kvs (.inl i) v)))) : kDP n σ v (.ref a) (.int i) H := ⟨a, _, rfl, DPut.k (k := Sum.inl i) h (Evl.sz_lt hl), q⟩
theorem iDNew {Q : VK} (q : ∀ d, H d = none → Q (.ref d) (upd H d (.dK []))) : tDNewK σ H Q := q
theorem iListD {a : Addr} {kvs : List (Key × V)} (h : H a = some (.dK kvs)) (q : ∀ p, H p = none → Q (.ref p) (upd H p (.lst (kvs.map fun kv => kV kv.1)))) : rListD [.ref a] H Q := ⟨a, kvs, rfl, h, q⟩
theorem iListL {p : Addr} {xs : List V} (h : H p = some (.lst xs)) (q : ∀ l, H l = none → Q (.ref l) (upd H l (.lst xs))) : kListL [.ref p] H Q := ⟨p, xs, rfl, h, q⟩
theorem iTupL {p : Addr} {xs : List V} (h : H p = some (.lst xs)) (q : ∀ l, H l = none → Q (.ref l) (upd H l (.tup xs))) : kTupL [.ref p] H Q := ⟨p, xs, rfl, h, q⟩
theorem iSorted {a : Addr} {ns : List Int} (h : H a = some (.lst (ns.map V.int))) (hl : ns.length < 64) (q : ∀ (ns' : List Int) (p : Addr), ns'.Perm ns → ns'.Pairwise (· ≤ ·) → H p = none → Q (.ref p) (upd H p (.lst (ns'.map V.int)))) : rSorted K [.ref a] H Q := ⟨a, ns, rfl, SqL.tr h, hl, q⟩
theorem iCat {l m : Addr} {xs ys : List V} (h : H l = some (.lst xs)) (h2 : H m = some (.lst ys)) (hz : xs.length + ys.length ≤ 100000) (q : ∀ p, H p = none → Q (.ref p) (upd H p (.lst (xs ++ ys)))) : rCat (.ref l) (.ref m) H Q := ⟨l, m, xs, ys, rfl, rfl, h, h2, Evl.sz_of hz, q⟩
theorem iRngB (h1 : -(2 ^ 62) ≤ i) (h2 : i < 2 ^ 62) (h3 : -(2 ^ 62) ≤ j) (h4 : j < 2 ^ 62) (q : R (Itr i (j - i).toNat) H) : ∃ i' j' : Int, [V.int i, V.int j] = [V.int i', V.int j'] ∧ (-(2 ^ 62) ≤ i' ∧ i' < 2 ^ 62 ∧ -(2 ^ 62) ≤ j' ∧ j' < 2 ^ 62) ∧ R (Itr i' (j' - i').toNat) H := ⟨i, j, rfl, ⟨h1, h2, h3, h4⟩, q⟩
def kRng2 (R : It → Hp → Prop) : List V → Hp → Prop := fun vs H1 => ∃ i j : Int, vs = [.int i, .int j] ∧ (-(2 ^ 62) ≤ i ∧ i < 2 ^ 62 ∧ -(2 ^ 62) ≤ j ∧ j < 2 ^ 62) ∧ R (Itr i (j - i).toNat) H1
theorem iRng2 (q : tA σ H (kRng2 R)) : iRng2 tA σ H R := q
theorem iRng2I (h1 : -(2 ^ 62) ≤ i) (h2 : i < 2 ^ 62) (h3 : -(2 ^ 62) ≤ j) (h4 : j < 2 ^ 62) (q : R (Itr i (j - i).toNat) H) : kRng2 R [.int i, .int j] H := ⟨i, j, rfl, ⟨h1, h2, h3, h4⟩, q⟩
/-- zip of two tracked lists -/
def kZ (K : PySem.W.Frag) (R : It → Hp → Prop) : List V → Hp → Prop := fun vs H1 => ∃ a b xs ys, vs = [.ref a, .ref b] ∧ SqL K H1 a xs ∧ SqL K H1 b ys ∧ R (Itz K a b) H1
theorem iZipK (q : tA σ H (kZ K R)) : iZip K tA σ H R := q
theorem iZL {p m : Addr} {xs ys : List V} (h : H p = some (.lst xs)) (h2 : H m = some (.lst ys)) (q : R (Itz K p m) H) : kZ K R [.ref p, .ref m] H := ⟨p, m, xs, ys, rfl, SqL.tr h, SqL.tr h2, q⟩
/-- targets of several names -/
theorem iGTup {k : Nat} {t : TGs} {a : Addr} {xs : List V} {QS : L2.St → Hp → Prop} (h : H a = some (.tup xs)) (hl : xs.length = k) (q : t xs σ H QS) : gTup K k t (.ref a) σ H QS := ⟨a, xs, rfl, SqT.tr h, hl, q⟩
theorem iGCons {t : TG} {u : TGs} {vs : List V} {QS : L2.St → Hp → Prop} (q : t v σ H fun σ' H' => u vs σ' H' QS) : gCons t u (v :: vs) σ H QS := ⟨v, vs, rfl, q⟩
theorem iGNil {QS : L2.St → Hp → Prop} (q : QS σ H) : gNil [] σ H QS := ⟨rfl, q⟩
/-- [x, ..] * n -/
theorem iRep {l : Addr} {xs : List V} (h : H l = some (.lst xs)) (h0 : 0 ≤ i) (h1 : i < 100000) (hz : xs.length * i.toNat ≤ 100000) (q : ∀ p, H p = none → Q (.ref p) (upd H p (.lst (List.replicate i.toNat xs).flatten))) : rRep (.ref l) (.int i) H Q :=
  ⟨l, i, xs, rfl, rfl, h, by omega, by omega, Evl.sz_of hz, q⟩
end
end R
set_option Elab.async false
set_option linter.all false
set_option maxRecDepth 100000
set_option maxHeartbeats 4000000
namespace R
open PySem PySem.Spec L2
open Evl (Ex)
/-! ### defs that may raise, methods -/
def CalX (P : Program) (w : World) (K : PySem.W.Frag) (mg : Str → Option Value) (base : Heap) (k : Nat) (x : Str) (ps : List Str) (sp : Sp) : Prop :=
  ∃ (f : Addr) (fd : FuncData), FnOk P w K mg base (L2.CX P w) k f fd ps sp ∧ mg x = some (.ref f) ∧ PySem.W.keepIn K (.ref f) = true ∧ Binds K fd ps []
def MetX (P : Program) (w : World) (K : PySem.W.Frag) (mg : Str → Option Value) (base : Heap) (k : Nat) (C : Addr) (m : Str) (ps : List Str) (sp : Sp) : Prop :=
  ∃ (f : Addr) (fd : FuncData), FnOk P w K mg base (L2.CX P w) k f fd ps sp ∧ Cls K C ∧ Meth K C m f ∧ Binds K fd ps []
def MakX (P : Program) (w : World) (K : PySem.W.Frag) (mg : Str → Option Value) (base : Heap) (k : Nat) (C : Addr) (x : Str) (ps : List Str) (sp : Sp) : Prop :=
  ∃ (f : Addr) (fd : FuncData), FnOk P w K mg base (L2.CX P w) k f fd ps sp ∧ Mk K C f ∧ mg x = some (.ref C) ∧ Binds K fd ps []
theorem FnOk.toX {P : Program} {w : World} {K : PySem.W.Frag} {mg : Str → Option Value} {base : Heap} {k : Nat} {f : Addr} {fd : FuncData} {ps : List Str} {sp : Sp} (F : FnOk P w K mg base CX0 k f fd ps sp) : FnOk P w K mg base (L2.CX P w) k f fd ps sp :=
  ⟨F.len, fun A outer s H args us vs Q E hr he hb hv hs => codeAny_mono (F.run A outer s H args us vs Q E hr he hb hv hs) fun r s' h => by
    cases r with
    | error e => exact (show False from h).elim
    | ok fl => cases fl <;> exact h⟩
section
variable {X : Cx} {k : Nat} {x m : Str} {C : Addr} {ps : List Str} {sp : Sp} {t : TA} {te : TE} {o e : Expr} {es : List Expr} {p pos apos : Pos} {E : L2.St → XK} {E1 : XK}
/-- nothing is raised -/
theorem xp0 : ∀ σ, PassesAt (L2.CX X.prog X.w) X σ E0 := fun σ pins H s e s' I c => passL pins σ H s e s' I c
/-- what is raised goes out -/
theorem xpX (tk : Takes X (fun cls d _ H => E1 cls d H)) : ∀ σ, PassesAt (L2.CX X.prog X.w) X σ E1 := fun σ pins H s e s' I c => passes_call tk (fun _ _ _ _ h => h) pins σ H s e s' I c
theorem pe_calE (c : CalX X.prog X.w X.K X.mg X.base k x ps sp) (hr : Room k X.A) (hg : Gl X x) (hx : ∀ σ, PassesAt (L2.CX X.prog X.w) X σ (E σ)) (ha : PA X (e :: es) t)
    (hdb : (x == ("__debug__" : Str)) = false := by decide) (he : starEach (e :: es) X.env = (false, eval e X.env) :: starEach es X.env := by rfl) (hpl : (backTo pos (starEach es X.env)).any (·.1) = false := by rfl) :
    PE X (.Call (.Name x p) (e :: es) [] pos) (tCallS sp E t) := by
  obtain ⟨f, fd, G, g, kp, b⟩ := c
  exact pe_callS (p := p) (pos := pos) G hr hg g kp b hx ha hdb he hpl
/-- o.m(..) of an instance of the class at C -/
def kMet (C : Addr) (m : Str) (sp : Sp) (E : L2.St → XK) (t : TA) (σ : L2.St) (Q : VK) : VK := fun x H1 => ∃ a dx fs, x = .ref a ∧ H1 a = some (.ins C dx fs) ∧ fs.lookup m = none ∧ t σ H1 fun vs H2 => sp (x :: vs) H2 Q (E σ)
def tMet (C : Addr) (m : Str) (sp : Sp) (E : L2.St → XK) (te : TE) (t : TA) : TE := fun σ H Q => te σ H (kMet C m sp E t σ Q)
theorem pe_metE {pl : Sem Bool} (c : MetX X.prog X.w X.K X.mg X.base k C m ps sp) (hr : Room k X.A) (hx : ∀ σ, PassesAt (L2.CX X.prog X.w) X σ (E σ)) (ho : PE X o te) (ha : PA X (e :: es) t)
    (hst : starEach (e :: es) X.env = (false, eval e X.env) :: starEach es X.env := by rfl) (hpl : (backTo pos (starEach es X.env)).any (·.1) = false := by rfl)
    (ht : eval (.Call (.Attribute o m apos) (e :: es) [] pos) X.env = (do let ov ← eval o X.env; standAt apos.atName; let (f, first) ← holding [ov] (getMethod ov m pl); callWith pos f first (backTo pos (starEach (e :: es) X.env)) (backToKw pos (keywordEach [] X.env))) := by rfl) :
    PE X (.Call (.Attribute o m apos) (e :: es) [] pos) (tMet C m sp E te t) := by
  obtain ⟨f, fd, G, c, hm, b⟩ := c
  refine ⟨fun pins s σ H Q I h => ?_⟩
  refine PySem.W.methodCall_KW (pl := pl) (thn (ho.run pins s σ H _ I h) fun u s1 hh => ?_) ht
  obtain ⟨x, H1, I1, rx, a, dx, fs, ex, ea, l, q⟩ := hh
  subst ex
  cases (show u = Value.ref a from rx)
  refine getmeth_ok I1 ea c hm l (PySem.W.callWith_K (first := [.ref a]) (h₀ := X.base) I1.ok.mod.kin hm.kp ?_ hst hpl)
  exact thn (ha.run pos pins s1 σ H1 _ I1 q) fun us s2 hh => by
    obtain ⟨vs, H2, I2, r, q2⟩ := hh
    exact ⟨I2.kIn, run_fnS (us := .ref a :: us) (vs := .ref a :: vs) G hr b (hx σ) I2 (.cons rfl r) q2⟩
theorem pe_metE0 {pl : Sem Bool} (c : MetX X.prog X.w X.K X.mg X.base k C m ps sp) (hr : Room k X.A) (hx : ∀ σ, PassesAt (L2.CX X.prog X.w) X σ (E σ)) (ho : PE X o te)
    (ht : eval (.Call (.Attribute o m apos) [] [] pos) X.env = (do let ov ← eval o X.env; standAt apos.atName; let (f, first) ← holding [ov] (getMethod ov m pl); callWith pos f first (backTo pos (starEach [] X.env)) (backToKw pos (keywordEach [] X.env))) := by rfl) :
    PE X (.Call (.Attribute o m apos) [] [] pos) (tMet C m sp E te tNil) := by
  obtain ⟨f, fd, G, c, hm, b⟩ := c
  refine ⟨fun pins s σ H Q I h => ?_⟩
  refine PySem.W.methodCall_KW (pl := pl) (thn (ho.run pins s σ H _ I h) fun u s1 hh => ?_) ht
  obtain ⟨x, H1, I1, rx, a, dx, fs, ex, ea, l, q⟩ := hh
  subst ex
  cases (show u = Value.ref a from rx)
  exact getmeth_ok I1 ea c hm l (PySem.W.callWith_K0 (first := [.ref a]) I1.kIn hm.kp (run_fnS (us := [.ref a]) (vs := [.ref a]) G hr b (hx σ) I1 (.cons rfl .nil) q))
/-- C(..), which raises nothing here -/
def kMak (C : Addr) (sp : Sp) (Q : VK) : List V → Hp → Prop := fun vs H1 => ∀ x dx, H1 x = none → H1 dx = none → dx ≠ x → sp (.ref x :: vs) (upd (upd H1 dx (.own x)) x (.ins C dx [])) (fun v H2 => v = .non ∧ Q (.ref x) H2) E0
def tMak (C : Addr) (sp : Sp) (t : TA) : TE := fun σ H Q => t σ H (kMak C sp Q)
theorem pe_makE (c : MakX X.prog X.w X.K X.mg X.base k C x ps sp) (hr : Room (k + 1) X.A) (hg : Gl X x) (ha : PA X (e :: es) t) (hdb : (x == ("__debug__" : Str)) = false := by decide)
    (he : starEach (e :: es) X.env = (false, eval e X.env) :: starEach es X.env := by rfl) (hpl : (backTo pos (starEach es X.env)).any (·.1) = false := by rfl) : PE X (.Call (.Name x p) (e :: es) [] pos) (tMak C sp t) := by
  obtain ⟨f, fd, G, M, g, b⟩ := c
  have h := pe_make (p := p) (pos := pos) M G hr hg g b .nil passL ha hdb he hpl
  unfold tMake at h
  simp only [List.append_nil] at h
  exact h
theorem pe_makE0 (c : MakX X.prog X.w X.K X.mg X.base k C x ps sp) (hr : Room (k + 1) X.A) (hg : Gl X x) (hdb : (x == ("__debug__" : Str)) = false := by decide) : PE X (.Call (.Name x p) [] [] pos) (tMak C sp tNil) := by
  obtain ⟨f, fd, G, M, g, b⟩ := c
  have h := pe_make0 (p := p) (pos := pos) M G hr hg g b .nil passL hdb
  unfold tMake at h
  simp only [List.append_nil] at h
  exact h
/-- an exception class of the program, without a def -/
structure ExT (K : PySem.W.Frag) (mg : Str → Option Value) (x : Str) (C : Addr) : Prop where
  g : mg x = some (.ref C)
  x : PySem.W.excIn K C [.type "ValueError", .type "Exception", .type "BaseException", .type "object"] "ValueError.__new__" = true
  k : PySem.W.keepIn K (.ref C) = true
  b : PySem.W.subIn K (.ref C) (.type "BaseException") = some true
  t : PySem.W.typeIn K (.ref C) = some (.type "type")
  i : PySem.W.isClsIn K C = true
  s : PySem.W.subIn K (.ref C) (.ref C) = some true
def tRai (C : Addr) (W : WX) : TS := fun _ σ H => W (.ref C) none σ H
theorem iRai {C : Addr} {W : WX} {D : Ends} {σ : L2.St} {H : Hp} (q : W (.ref C) none σ H) : tRai C W D σ H := q
theorem ps_rai {ms : Str} {jj : Nat} {p2 pos2 : Pos} {W : WX} (T : ExT X.K X.mg x C) (tk : Takes X W) (hc : X.calm = true := by rfl) (hg : Gl X x := by rfl) (hdb : (x == ("__debug__" : Str)) = false := by decide) :
    PS X (.Raise (some (.Call (.Name x p) [.Constant (.str ms) jj p2] [] pos)) none pos2) (tRai C W) :=
  ps_raise hc tk (pmk_own PySem.F.excBase_ValueError T.x T.g T.k (raises_own T.b T.t) hg hdb)
/-- o.append(..), o any expression of a tracked list -/
theorem pe_bmE {name : Str} {id : String} {cpos : Pos} {r : V → List V → Hp → VK → Prop}
    (slot : Slot "list" name id) (hty : typeOf (.builtin id) = pure (.type "method_descriptor")) (hm : MtR X id r) (ho : PE X o te) (ha : PA X (e :: es) t)
    (hbase : attributeBase o name X.env (eval o X.env) = eval o X.env := by rfl)
    (hfew : ((backTo cpos (starEach (e :: es) X.env)).all (fun x => !x.1) && (backToKw cpos (keywordEach [] X.env)).all (fun x => x.1.isSome)
      && decide ((e :: es).length + ([] : List Keyword).length + (if ([] : List Keyword).isEmpty then 0 else 1) < 30)) = true := by rfl)
    (hline : (apos.endLine == cpos.line) = true := by rfl) (hs : starEach (e :: es) X.env = (false, eval e X.env) :: starEach es X.env := by rfl) (hplain : (backTo cpos (starEach es X.env)).any (·.1) = false := by rfl) :
    PE X (.Call (.Attribute o name apos) (e :: es) [] cpos) (kBM r te t) :=
  PE.imp (pe_bmL slot hty hm (pe_mo ho) ha hbase hfew hline hs hplain) fun σ H Q h => ⟨_, h, fun v H' ⟨p, xs, ev, hp, q⟩ => by
    subst ev
    exact ⟨.inl ⟨rfl, xs, SqL.tr hp⟩, q⟩⟩
end
/-! ### readings -/
inductive SetV : List V → Nat → V → List V → Prop
  | zero {x : V} {σ : List V} {v : V} : SetV (x :: σ) 0 v (v :: σ)
  | succ {x : V} {σ σ' : List V} {i : Nat} {v : V} (h : SetV σ i v σ') : SetV (x :: σ) (i + 1) v (x :: σ')
theorem SetV.eq {σ σ' : List V} {i : Nat} {v : V} (h : SetV σ i v σ') : σ.set i v = σ' := by
  induction h with
  | zero => rfl
  | succ _ ih => rw [List.set_cons_succ, ih]
theorem zip_lookup : ∀ {N : List Str} {vs : List V} {i : Nat} {f : Str} {v : V}, N.Nodup → N[i]? = some f → vs[i]? = some v → (N.zip vs).lookup f = some v
  | [], _, _, _, _, _, h, _ => by simp at h
  | n :: N, [], i, _, _, _, _, h => by simp at h
  | n :: N, u :: vs, 0, f, v, _, h, k => by
    cases h
    cases k
    show List.lookup n ((n, u) :: N.zip vs) = some u
    simp only [List.lookup, beq_self_eq_true]
  | n :: N, u :: vs, i + 1, f, v, nd, h, k => by
    have h' : N[i]? = some f := h
    have nf : (f == n) = false := by
      have := (List.nodup_cons.mp nd).1
      exact beq_eq_false_iff_ne.mpr fun e => this (e ▸ List.mem_of_getElem? h')
    show List.lookup f ((n, u) :: N.zip vs) = some v
    simp only [List.lookup, nf]
    exact zip_lookup (List.nodup_cons.mp nd).2 h' k
theorem zip_none : ∀ {N : List Str} {vs : List V} {f : Str}, N.contains f = false → (N.zip vs).lookup f = none
  | [], _, _, _ => rfl
  | n :: N, [], _, _ => rfl
  | n :: N, u :: vs, f, h => by
    rw [List.contains_cons, Bool.or_eq_false_iff] at h
    show List.lookup f ((n, u) :: N.zip vs) = none
    simp only [List.lookup, h.1]
    exact zip_none h.2
theorem zip_put : ∀ {N : List Str} {vs : List V} {i : Nat} {f : Str} {v : V}, N.Nodup → N[i]? = some f → i < vs.length → putF f v (N.zip vs) = N.zip (vs.set i v)
  | [], _, _, _, _, _, h, _ => by simp at h
  | n :: N, [], i, _, _, _, _, h => by simp at h
  | n :: N, u :: vs, 0, f, v, _, h, k => by
    cases h
    show (if n = n then _ else _) = _
    rw [if_pos rfl]
    rfl
  | n :: N, u :: vs, i + 1, f, v, nd, h, k => by
    have h' : N[i]? = some f := h
    have nf : ¬ n = f := fun e => (List.nodup_cons.mp nd).1 (e ▸ List.mem_of_getElem? h')
    show (if n = f then _ else (n, u) :: putF f v (N.zip vs)) = (n, u) :: N.zip (vs.set i v)
    rw [if_neg nf, zip_put (List.nodup_cons.mp nd).2 h' (Nat.lt_of_succ_lt_succ k)]
/-- the first stores, in __init__ -/
theorem zip_new : ∀ {N : List Str} {vs : List V} {f : Str} {v : V}, N.Nodup → N[vs.length]? = some f → putF f v (N.zip vs) = N.zip (vs ++ [v])
  | [], _, _, _, _, h => by simp at h
  | n :: N, [], f, v, _, h => by
    cases h
    simp [putF]
  | n :: N, u :: vs, f, v, nd, h => by
    have h' : N[vs.length]? = some f := h
    have nf : ¬ n = f := fun e => (List.nodup_cons.mp nd).1 (e ▸ List.mem_of_getElem? h')
    show (if n = f then _ else (n, u) :: putF f v (N.zip vs)) = (n, u) :: N.zip (vs ++ [v])
    rw [if_neg nf, zip_new (List.nodup_cons.mp nd).2 h']
section
variable {K : PySem.W.Frag} {σ σ' : L2.St} {H : Hp} {Q : VK} {ta tb te td ty tv : TE} {n b c : L2.St → Hp → Prop} {r : VK} {x y v : V} {i j : Int} {tA : TA} {R : It → Hp → Prop} {QB : Bool → Hp → Prop} {f m : Str} {C dx a : Addr} {N : List Str} {vs vs' : List V} {s : Nat} {sp : Sp} {E : L2.St → XK}
theorem iCalE (q : tA σ H fun vs H1 => sp vs H1 Q (E σ)) : tCallS sp E tA σ H Q := q
theorem iMet (q : te σ H (kMet C m sp E tA σ Q)) : tMet C m sp E te tA σ H Q := q
theorem iMetI {fs : List (Str × V)} (h : H a = some (.ins C dx fs)) (hn : fs.lookup m = none) (q : tA σ H fun vs H2 => sp (.ref a :: vs) H2 Q (E σ)) : kMet C m sp E tA σ Q (.ref a) H := ⟨a, dx, fs, rfl, h, hn, q⟩
theorem iMak (q : tA σ H (kMak C sp Q)) : tMak C sp tA σ H Q := q
def kFld (K : PySem.W.Frag) (f : Str) (Q : VK) : VK := fun x H1 => ∃ a C dx fs v, x = .ref a ∧ H1 a = some (.ins C dx fs) ∧ Cls K C ∧ NoAttr K C f ∧ fs.lookup f = some v ∧ Q v H1
theorem iFld (q : ta σ H (kFld K f Q)) : tFld K ta f σ H Q := q
theorem iFldI (cl : Cls K C) (na : NoAttr K C f) (nd : N.Nodup) (hf : N[s]? = some f) (h : H a = some (.ins C dx (N.zip vs))) (hv : vs[s]? = some v) (q : Q v H) : kFld K f Q (.ref a) H := ⟨a, C, dx, _, v, rfl, h, cl, na, zip_lookup nd hf hv, q⟩
def kSto (K : PySem.W.Frag) (f : Str) (n : L2.St → Hp → Prop) (σ : L2.St) (y : V) : VK := fun x H2 => ∃ a C dx fs, x = .ref a ∧ H2 a = some (.ins C dx fs) ∧ Cls K C ∧ NoAttr K C f ∧ fs.length < 1000 ∧ n σ (upd H2 a (.ins C dx (putF f y fs)))
theorem iSto (q : tv σ H fun y H1 => ta σ H1 (kSto K f n σ y)) : sFld K ta tv f ⟨n, r, b, c⟩ σ H := q
theorem zip_len {N : List Str} {vs : List V} (h : N.length < 1000) : (N.zip vs).length < 1000 := by rw [List.length_zip]; omega
theorem iStoI (cl : Cls K C) (na : NoAttr K C f) (nd : N.Nodup) (hN : N.length < 1000) (hf : N[s]? = some f) (h : H a = some (.ins C dx (N.zip vs))) (hv : SetV vs s y vs') (q : n σ (upd H a (.ins C dx (N.zip vs')))) : kSto K f n σ y (.ref a) H := by
  have hl : s < vs.length := by
    have := hv
    clear q h hf
    induction this with
    | zero => simp
    | succ _ ih => simpa using ih (by assumption)
  exact ⟨a, C, dx, _, rfl, h, cl, na, zip_len hN, by rw [zip_put nd hf hl, hv.eq]; exact q⟩
theorem iStoN (cl : Cls K C) (na : NoAttr K C f) (nd : N.Nodup) (hN : N.length < 1000) (hf : N[s]? = some f) (h : H a = some (.ins C dx (N.zip vs))) (hl : vs.length = s) (q : n σ (upd H a (.ins C dx (N.zip (vs ++ [y]))))) : kSto K f n σ y (.ref a) H :=
  ⟨a, C, dx, _, rfl, h, cl, na, zip_len hN, by subst hl; rw [zip_new nd hf]; exact q⟩
def kAugF (K : PySem.W.Frag) (f : Str) (rd : V → V → Hp → VK → Prop) (tv : TE) (n : L2.St → Hp → Prop) (σ : L2.St) : VK := fun x H1 => ∃ a C dx fs v, x = .ref a ∧ H1 a = some (.ins C dx fs) ∧ Cls K C ∧ NoAttr K C f ∧ fs.lookup f = some v ∧
  tv σ H1 fun y H2 => rd v y H2 fun z H3 => ∃ dx' fs', H3 a = some (.ins C dx' fs') ∧ fs'.length < 1000 ∧ n σ (upd H3 a (.ins C dx' (putF f z fs')))
theorem iAugF {rd : V → V → Hp → VK → Prop} (q : ta σ H (kAugF K f rd tv n σ)) : sFldAug K ta tv rd f ⟨n, r, b, c⟩ σ H := q
/-- self.f += 1, an int -/
theorem iAugFI {rd : V → V → Hp → VK → Prop} {vs' : V → List V} (cl : Cls K C) (na : NoAttr K C f) (nd : N.Nodup) (hN : N.length < 1000) (hf : N[s]? = some f) (h : H a = some (.ins C dx (N.zip vs))) (hv : vs[s]? = some v) (q : rd v (.int j) H fun z H3 => ∃ dx' fs', H3 a = some (.ins C dx' fs') ∧ fs'.length < 1000 ∧ n σ (upd H3 a (.ins C dx' (putF f z fs')))) : kAugF K f rd (tC (.int j)) n σ (.ref a) H :=
  ⟨a, C, dx, _, v, rfl, h, cl, na, zip_lookup nd hf hv, q⟩
theorem iAugP {k : Int} (cl : Cls K C) (na : NoAttr K C f) (nd : N.Nodup) (hN : N.length < 1000) (hf : N[s]? = some f) (h : H a = some (.ins C dx (N.zip vs))) (hv : vs[s]? = some (.int k)) (hs : SetV vs s (.int (k + j)) vs') (q : n σ (upd H a (.ins C dx (N.zip vs')))) : kAugF K f L2.rAdd (tC (.int j)) n σ (.ref a) H := by
  have hl : s < vs.length := (List.getElem?_eq_some_iff.mp hv).1
  exact ⟨a, C, dx, _, _, rfl, h, cl, na, zip_lookup nd hf hv, k, j, rfl, rfl, dx, _, h, zip_len hN, by rw [zip_put nd hf hl, hs.eq]; exact q⟩
theorem iAugM {k : Int} (cl : Cls K C) (na : NoAttr K C f) (nd : N.Nodup) (hN : N.length < 1000) (hf : N[s]? = some f) (h : H a = some (.ins C dx (N.zip vs))) (hv : vs[s]? = some (.int k)) (hs : SetV vs s (.int (k - j)) vs') (q : n σ (upd H a (.ins C dx (N.zip vs')))) : kAugF K f L2.rSub (tC (.int j)) n σ (.ref a) H := by
  have hl : s < vs.length := (List.getElem?_eq_some_iff.mp hv).1
  exact ⟨a, C, dx, _, _, rfl, h, cl, na, zip_lookup nd hf hv, k, j, rfl, rfl, dx, _, h, zip_len hN, by rw [zip_put nd hf hl, hs.eq]; exact q⟩
/-- o.append(..) -/
def kBMv (rr : V → List V → Hp → VK → Prop) (tA : TA) (σ : L2.St) (Q : VK) : VK := fun x H1 => ∃ p xs, x = .ref p ∧ H1 p = some (.lst xs) ∧ tA σ H1 fun ys H2 => rr x ys H2 Q
theorem iBM {rr : V → List V → Hp → VK → Prop} (q : te σ H (kBMv rr tA σ Q)) : kBM rr te tA σ H Q := q
theorem iBMv {rr : V → List V → Hp → VK → Prop} {p : Addr} {xs : List V} (h : H p = some (.lst xs)) (q : tA σ H fun ys H2 => rr (.ref p) ys H2 Q) : kBMv rr tA σ Q (.ref p) H := ⟨p, xs, rfl, h, q⟩
/-- reversed(xs) -/
def kRev (K : PySem.W.Frag) (R : It → Hp → Prop) : List V → Hp → Prop := fun vs H1 => ∃ (a : Addr) (xs : List V), vs = [.ref a] ∧ SqL K H1 a xs ∧ R (Itv K a xs.length) H1
theorem iRev1 (q : tA σ H (kRev K R)) : iRev K tA σ H R := q
theorem iRevI {p : Addr} {xs : List V} (h : H p = some (.lst xs)) (q : R (Itv K p xs.length) H) : kRev K R [.ref p] H := ⟨p, xs, rfl, SqL.tr h, q⟩
/-- a text's key -/
theorem iDIs {a : Addr} {kvs : List (Key × V)} {z : Str} (h : H a = some (.dK kvs)) (q : Q (.bl (valV kvs (.inr z : Key)).isSome) H) : kDI Q (.str z) (.ref a) H := ⟨a, _, rfl, DGet.k (k := Sum.inr z) h, q⟩
theorem iDPs {a : Addr} {kvs : List (Key × V)} {z : Str} (h : H a = some (.dK kvs)) (hl : kvs.length < 100000) (q : n σ (upd H a (.dK (putK kvs (.inr z) v)))) : kDP n σ v (.ref a) (.str z) H := ⟨a, _, rfl, DPut.k (k := Sum.inr z) h (Evl.sz_lt hl), q⟩
/-- None == 0 -/
theorem iEqZ {i : Int} (e : scal V.non (V.int i) = true) (q : Q (.bl false) H) : rEq .non (.int i) H Q := ⟨e, by rw [decide_eq_false (by intro z; cases z)]; exact q⟩
theorem iCut2 {ts us : TS} (Mid : L2.St → Hp → Prop) (q1 : ts ⟨Mid, r, b, c⟩ σ H) (q2 : ∀ σ' H', Mid σ' H' → us ⟨n, r, b, c⟩ σ' H') : Evl.tCut ts us ⟨n, r, b, c⟩ σ H := ⟨Mid, q1, q2⟩
theorem mergeK_nodup : ∀ (more kvs : List (Key × V)), ((kvs ++ more).map (·.1)).Nodup → mergeK kvs more = kvs ++ more
  | [], kvs, _ => by rw [List.append_nil]; rfl
  | kv :: more, kvs, h => by
    have e : putK kvs kv.1 kv.2 = kvs ++ [kv] := by
      unfold putK
      rw [if_neg]
      intro z
      obtain ⟨x, hx, hd⟩ := List.any_eq_true.mp z
      have hd := of_decide_eq_true hd
      rw [List.map_append, List.nodup_append] at h
      exact h.2.2 x.1 (List.mem_map.mpr ⟨x, hx, rfl⟩) kv.1 (by simp) hd
    show mergeK (putK kvs kv.1 kv.2) more = _
    rw [e, mergeK_nodup more (kvs ++ [kv]) (by rw [List.append_assoc]; exact h), List.append_assoc]
    rfl
/-- {k: v, ..} -/
def kDisp (Q : VK) (p : Addr) : List (V × V) → Hp → Prop := fun ps H2 => H2 p = some (.dK []) ∧ ∃ kvs : List (Key × V), ps = kvs.map (fun kv => (kV kv.1, kv.2)) ∧ kvs.length ≤ 15 ∧ Q (.ref p) (upd H2 p (.dK (mergeK [] kvs)))
theorem iDisp {trs : List (TE × TE)} (q : ∀ p, H p = none → tPairs trs σ (upd H p (.dK [])) (kDisp Q p)) : tDisp trs σ H Q := q
theorem iDspI {p : Addr} (kvs : List (Key × V)) (h : H p = some (.dK [])) (hl : kvs.length ≤ 15) (q : Q (.ref p) (upd H p (.dK (mergeK [] kvs)))) : kDisp Q p (kvs.map fun kv => (kV kv.1, kv.2)) H := ⟨h, kvs, rfl, hl, q⟩
theorem iPr {tk tv : TE} {rs : List (TE × TE)} {QP : List (V × V) → Hp → Prop} (q : tk σ H fun x H1 => tv σ H1 fun y H2 => tPairs rs σ H2 fun ps H3 => QP ((x, y) :: ps) H3) : tPairs ((tk, tv) :: rs) σ H QP := q
theorem iPn {QP : List (V × V) → Hp → Prop} (q : QP [] H) : tPairs [] σ H QP := q
/-- the handler that catches -/
theorem ExT.ex {mg : Str → Option Value} {z : Str} (T : ExT K mg z C) : PySem.W.exmOne K (.ref C) (.ref C) = some true := by
  have h2 : (PySem.W.clsIn K C).isSome = true := T.i
  simp [PySem.W.exmOne, PySem.W.kitCls, T.b, T.t, T.s, h2]
theorem iOnly {mg : Str → Option Value} {z : Str} {tsu : Addr → Value → Option Addr → TS} {Wout : WX} {D : Ends} (T : ExT K mg z C) (q : ∀ a, H a = none → tsu a (.ref C) none D σ H) : wOnly K (.ref C) tsu Wout D (.ref C) none σ H := ⟨true, T.ex, fun _ => q, fun z => nomatch z⟩
/-- int(b) -/
def kIntB : List V → Hp → VK → Prop := fun vs H Q => ∃ k, vs = [.bl k] ∧ Q (.int (if k then 1 else 0)) H
theorem int_b {X : Cx} : CallR X (.type "int") kIntB := CallR.imp call_int1 fun _ _ _ ⟨k, e, q⟩ => .inr ⟨k, e, q⟩
theorem iIntB {k : Bool} (q : Q (.int (if k then 1 else 0)) H) : kIntB [.bl k] H Q := ⟨k, rfl, q⟩
theorem iIsB {k l : Bool} (q : Q (.bl (decide (k = l))) H) : rIsB (.bl k) (.bl l) H Q := ⟨k, l, rfl, rfl, q⟩
theorem iNotBl {k l : Bool} (q : Q (.bl (!decide (k = l))) H) : rNotB (.bl k) (.bl l) H Q := ⟨k, l, rfl, rfl, q⟩
/-- d.get(i) -/
def kDG1 (Q : VK) (y : V) (a : Addr) : Hp → Prop := fun H2 => ∃ o, DGet H2 a y o ∧ Q (o.getD .non) H2
def kDG0 (ty : TE) (σ : L2.St) (Q : VK) : VK := fun x H1 => ∃ a, x = .ref a ∧ IsD H1 a ∧ ty σ H1 fun y H2 => kDG1 Q y a H2
theorem iDGet1 (q : td σ H (kDG0 ty σ Q)) : tDGet1 td ty σ H Q := q
theorem iDG0 {a : Addr} {kvs : List (Key × V)} (h : H a = some (.dK kvs)) (q : ty σ H fun y H2 => kDG1 Q y a H2) : kDG0 ty σ Q (.ref a) H := ⟨a, rfl, .inl ⟨kvs, .inl h⟩, q⟩
theorem iDG1 {a : Addr} {kvs : List (Key × V)} {i : Int} (h : H a = some (.dK kvs)) (q : Q ((valV kvs (.inl i : Key)).getD .non) H) : kDG1 Q (.int i) a H := ⟨_, DGet.k (k := Sum.inl i) h, q⟩
/-- truth -/
def kTru (K : PySem.W.Frag) (QB : Bool → Hp → Prop) : VK := fun x H' => ∃ k, TruV K x H' k ∧ QB k H'
theorem iTru (q : ta σ H (kTru K QB)) : (fun σ H QB => ta σ H fun x H' => ∃ k, TruV K x H' k ∧ QB k H') σ H QB := q
end
/-- a loop over what is walked in n turns -/
theorem forJ {J : It} {k : Nat} {G : Hp → Prop} {Y : Nat → Hp → V → Hp → Prop} (w : Walk J k G Y) {g : TG} {tb : TS} {n b c : L2.St → Hp → Prop} {r : VK} {σ : L2.St} {H : Hp} (Pv : Nat → L2.St → Hp → Prop) (h0 : Pv 0 σ H) (hG : ∀ i σ H, i ≤ k → Pv i σ H → G H)
    (hs : ∀ i x σ H H', i < k → Pv i σ H → Y i H x H' → g x σ H' fun σ2 H2 => tb ⟨Pv (i + 1), r, n, Pv (i + 1)⟩ σ2 H2) (hd : ∀ σ H, Pv k σ H → n σ H) : tForJ J g tb ⟨n, r, b, c⟩ σ H := for_it w Pv h0 hG hs hd
/-! ### layouts: mutable objects at addresses that are told apart -/
structure Lay {ι : Type} (H : Hp) (dom : ι → Prop) (L : ι → Addr) (S : ι → HO) : Prop where
  at_ : ∀ x, dom x → H (L x) = some (S x)
  inj : ∀ x y, dom x → dom y → L x = L y → x = y
open Classical in
noncomputable def chg {ι α : Type} (f : ι → α) (x : ι) (v : α) : ι → α := fun y => if y = x then v else f y
theorem chg_same {ι α : Type} {f : ι → α} {x : ι} {v : α} : chg f x v x = v := if_pos rfl
theorem chg_ne {ι α : Type} {f : ι → α} {x y : ι} {v : α} (h : y ≠ x) : chg f x v y = f y := if_neg h
namespace Lay
variable {ι : Type} {H H' : Hp} {dom : ι → Prop} {L : ι → Addr} {S S' : ι → HO}
theorem ne (Y : Lay H dom L S) {x y : ι} (hx : dom x) (hy : dom y) (h : x ≠ y) : L x ≠ L y := fun e => h (Y.inj x y hx hy e)
theorem ex (Y : Lay H dom L S) (e : Ex H H') : Lay H' dom L S := ⟨fun x hx => e _ _ (Y.at_ x hx), Y.inj⟩
theorem cong (Y : Lay H dom L S) (h : ∀ x, dom x → S x = S' x) : Lay H dom L S' := ⟨fun x hx => (Y.at_ x hx).trans (congrArg some (h x hx)), Y.inj⟩
theorem set (Y : Lay H dom L S) {x : ι} {o : HO} (hx : dom x) : Lay (upd H (L x) o) dom L (chg S x o) := ⟨fun y hy => by
  by_cases e : y = x
  · subst e; rw [upd_same, chg_same]
  · rw [upd_ne (Y.ne hy hx e), chg_ne e]; exact Y.at_ y hy, Y.inj⟩
/-- a new object takes a place -/
theorem mov (Y : Lay H dom L S) {x : ι} {p : Addr} {o : HO} (hp : ∀ y, dom y → L y ≠ p) (hpo : H p = some o) : Lay H dom (chg L x p) (chg S x o) := by
  refine ⟨fun y hy => ?_, fun y z hy hz e => ?_⟩
  · by_cases e : y = x
    · subst e; rw [chg_same, chg_same]; exact hpo
    · rw [chg_ne e, chg_ne e]; exact Y.at_ y hy
  · by_cases e1 : y = x
    · by_cases e2 : z = x
      · rw [e1, e2]
      · rw [e1, chg_same, chg_ne e2] at e
        exact absurd e.symm (hp z hz)
    · by_cases e2 : z = x
      · rw [e2, chg_same, chg_ne e1] at e
        exact absurd e (hp y hy)
      · rw [chg_ne e1, chg_ne e2] at e
        exact Y.inj y z hy hz e
end Lay
/-- a layout, what is frozen, and the rest -/
structure Own {ι : Type} (H F Rs : Hp) (dom : ι → Prop) (L : ι → Addr) (S : ι → HO) : Prop where
  lay : Lay H dom L S
  f : Ex F H
  r : Ex Rs H
  nf : ∀ x, dom x → F (L x) = none
  nr : ∀ x, dom x → Rs (L x) = none
  fr : ∀ p, Rs p ≠ none → F p = none
namespace Own
variable {ι : Type} {H H' F Rs : Hp} {dom : ι → Prop} {L : ι → Addr} {S S' : ι → HO} {p : Addr} {o o' : HO} {x : ι}
theorem free (Y : Own H F Rs dom L S) (h : H p = none) : F p = none ∧ Rs p = none ∧ ∀ y, dom y → L y ≠ p := ⟨Evl.fresh_back Y.f h, Evl.fresh_back Y.r h, fun y hy => ne_of_none (Y.lay.at_ y hy) h⟩
theorem ex (Y : Own H F Rs dom L S) (e : Ex H H') : Own H' F Rs dom L S := ⟨Y.lay.ex e, Y.f.trans e, Y.r.trans e, Y.nf, Y.nr, Y.fr⟩
theorem new (Y : Own H F Rs dom L S) (h : H p = none) : Own (upd H p o) F Rs dom L S := Y.ex (Evl.Ex.new h)
theorem cong (Y : Own H F Rs dom L S) (h : ∀ x, dom x → S x = S' x) : Own H F Rs dom L S' := ⟨Y.lay.cong h, Y.f, Y.r, Y.nf, Y.nr, Y.fr⟩
theorem set (Y : Own H F Rs dom L S) (hx : dom x) : Own (upd H (L x) o) F Rs dom L (chg S x o) := ⟨Y.lay.set hx, Y.f.mut (Y.nf x hx), Y.r.mut (Y.nr x hx), Y.nf, Y.nr, Y.fr⟩
/-- an object that no part knows -/
theorem alt (Y : Own H F Rs dom L S) (h1 : F p = none) (h2 : Rs p = none) (h3 : ∀ y, dom y → L y ≠ p) : Own (upd H p o) F Rs dom L S :=
  ⟨⟨fun y hy => (upd_ne (h3 y hy)).trans (Y.lay.at_ y hy), Y.lay.inj⟩, Y.f.mut h1, Y.r.mut h2, Y.nf, Y.nr, Y.fr⟩
theorem mov (Y : Own H F Rs dom L S) (h1 : F p = none) (h2 : Rs p = none) (h3 : ∀ y, dom y → L y ≠ p) (hp : H p = some o) : Own H F Rs dom (chg L x p) (chg S x o) :=
  ⟨Y.lay.mov h3 hp, Y.f, Y.r, fun y hy => by
    by_cases e : y = x
    · subst e; rw [chg_same]; exact h1
    · rw [chg_ne e]; exact Y.nf y hy, fun y hy => by
    by_cases e : y = x
    · subst e; rw [chg_same]; exact h2
    · rw [chg_ne e]; exact Y.nr y hy, Y.fr⟩
/-- the rest's objects change -/
theorem put (Y : Own H F Rs dom L S) (h : Rs p = some o) : Own (upd H p o') F (upd Rs p o') dom L S := by
  have hf := Y.fr p (by rw [h]; intro z; cases z)
  have hl : ∀ y, dom y → L y ≠ p := fun y hy e => by have := Y.nr y hy; rw [e, h] at this; cases this
  refine ⟨⟨fun y hy => (upd_ne (hl y hy)).trans (Y.lay.at_ y hy), Y.lay.inj⟩, Y.f.mut hf, fun q u hq => ?_, Y.nf, fun y hy => (upd_ne (hl y hy)).trans (Y.nr y hy), fun q hq => ?_⟩
  · by_cases e : q = p
    · subst e; rw [upd_same] at hq ⊢; exact hq
    · rw [upd_ne e] at hq ⊢; exact Y.r q u hq
  · by_cases e : q = p
    · subst e; exact hf
    · rw [upd_ne e] at hq; exact Y.fr q hq
/-- what is new joins the rest -/
theorem join (Y : Own H F Rs dom L S) (h1 : F p = none) (h3 : ∀ y, dom y → L y ≠ p) (hp : H p = some o) : Own H F (upd Rs p o) dom L S := ⟨Y.lay, Y.f, fun q u hq => by
    by_cases e : q = p
    · subst e; rw [upd_same] at hq; rw [hp]; exact hq
    · rw [upd_ne e] at hq; exact Y.r q u hq, Y.nf, fun y hy => (upd_ne (h3 y hy)).trans (Y.nr y hy), fun q hq => by
    by_cases e : q = p
    · subst e; exact h1
    · rw [upd_ne e] at hq; exact Y.fr q hq⟩
/-- what is new is frozen -/
theorem ice (Y : Own H F Rs dom L S) (h2 : Rs p = none) (h3 : ∀ y, dom y → L y ≠ p) (hp : H p = some o) : Own H (upd F p o) Rs dom L S := ⟨Y.lay, fun q u hq => by
    by_cases e : q = p
    · subst e; rw [upd_same] at hq; rw [hp]; exact hq
    · rw [upd_ne e] at hq; exact Y.f q u hq, Y.r, fun y hy => (upd_ne (h3 y hy)).trans (Y.nf y hy), Y.nr, fun q hq => by
    by_cases e : q = p
    · subst e; exact absurd h2 hq
    · rw [upd_ne e]; exact Y.fr q hq⟩
theorem weak {Rs' : Hp} (Y : Own H F Rs dom L S) (e : Ex Rs' Rs) : Own H F Rs' dom L S := ⟨Y.lay, Y.f, e.trans Y.r, Y.nf, fun y hy => Evl.fresh_back e (Y.nr y hy), fun p hp => Y.fr p fun z => hp (Evl.fresh_back e z)⟩
theorem newR (Y : Own H F Rs dom L S) (h : H p = none) : Own (upd H p o) F (upd Rs p o) dom L S := (Y.new h).join (Y.free h).1 (Y.free h).2.2 upd_same
theorem newF (Y : Own H F Rs dom L S) (h : H p = none) : Own (upd H p o) (upd F p o) Rs dom L S := (Y.new h).ice (Y.free h).2.1 (Y.free h).2.2 upd_same
end Own
theorem ex_new {F : Hp} {p : Addr} {o : HO} (h : F p = none) : Ex F (upd F p o) := Evl.Ex.new h
end R
set_option Elab.async false
set_option linter.all false
set_option maxRecDepth 100000
set_option maxHeartbeats 4000000
namespace R
open PySem PySem.Spec L2
open Evl (Ex)
/-! ### heaps that grow -/
theorem Ex.rfl' (H : Hp) : Ex H H := fun _ _ h => h
/-- the heap without one address -/
def mk (D : Addr) (H : Hp) : Hp := fun p => if p = D then none else H p
theorem mk_at {D p : Addr} {H : Hp} (h : p ≠ D) : mk D H p = H p := if_neg h
theorem mk_ex (D : Addr) (H : Hp) : Ex (mk D H) H := fun p o h => by
  by_cases e : p = D
  · unfold mk at h; rw [if_pos e] at h; cases h
  · rw [mk_at e] at h; exact h
theorem mk_mono {D : Addr} {H H' : Hp} (e : Ex H H') : Ex (mk D H) (mk D H') := fun p o h => by
  by_cases q : p = D
  · unfold mk at h; rw [if_pos q] at h; cases h
  · rw [mk_at q] at h ⊢; exact e p o h
theorem mk_upd {D : Addr} {H : Hp} {o : HO} : mk D (upd H D o) = mk D H := by
  funext p
  by_cases q : p = D
  · unfold mk; rw [if_pos q, if_pos q]
  · rw [mk_at q, mk_at q, upd_ne q]
theorem ex_mk {D : Addr} {H H' : Hp} (h : H D = none) (e : Ex H H') : Ex H (mk D H') := fun p o q => by
  rw [mk_at (ne_of_none q h)]
  exact e p o q
theorem ex_upd {D : Addr} {H H' : Hp} {o : HO} (h : H D = none) (e : Ex H H') : Ex H (upd H' D o) := fun p u q => by
  rw [upd_ne (ne_of_none q h)]
  exact e p u q
theorem Ex.new {H : Hp} {p : Addr} {o : HO} (h : H p = none) : Ex H (upd H p o) := ex_upd h (Ex.rfl' _)
/-- all but a stay -/
def ExB (a : Addr) (H H' : Hp) : Prop := ∀ p o, p ≠ a → H p = some o → H' p = some o
theorem ExB.of {a : Addr} {H H' : Hp} (e : Ex H H') : ExB a H H' := fun p o _ h => e p o h
theorem ExB.trans {a : Addr} {H H1 H2 : Hp} (x : ExB a H H1) (y : ExB a H1 H2) : ExB a H H2 := fun p o n h => y p o n (x p o n h)
/-- what is told of a new list -/
def NewL (H : Hp) (Q : VK) (xs : List V) : Prop := ∀ p H', H p = none → Ex H H' → H' p = some (.lst xs) → Q (.ref p) H'
/-! ### comprehensions whose items are reckoned, the heap growing -/
def PvF (H1 : Hp) (f : Nat → V) (D : Addr) (i : Nat) (acc : List V) (H : Hp) : Prop := Ex H1 H ∧ acc = (List.range i).map f
theorem iLcF {H1 H : Hp} {f : Nat → V} {D : Addr} {i : Nat} {y : V} (hD : H1 D = none) (hi : i < 100000) (e : Ex H1 H) (h : H D = some (.lst ((List.range i).map f))) (q : y = f i) : kLcE D i (PvF H1 f D) y H :=
  iLcE h (by rw [List.length_map, List.length_range]; exact Nat.le_refl _) hi ⟨ex_upd hD e, by rw [List.range_succ, List.map_append, q]; rfl⟩
section
variable {K : PySem.W.Frag} {g : TG} {tt : TT} {te : TE} {vs : List Nat} {σ σ' : L2.St} {H1 : Hp} {Q : VK}
theorem lcF_l {a : Addr} (xs : List V) (f : Nat → V) (hw : Wip σ vs σ') (h : H1 a = some (.lst xs)) (hs : ∀ D i x H, H1 D = none → xs[i]? = some x → H D = some (.lst ((List.range i).map f)) → Ex H1 H → g x σ' H (kLc vs σ' tt te D i (PvF H1 f D)))
    (hd : ∀ D H, H1 D = none → Ex H1 H → H D = some (.lst ((List.range xs.length).map f)) → Q (.ref D) H) : tLcJ (Itl K a) g tt te vs σ H1 Q :=
  lc_l xs hw (PvF H1 f) (fun D hD => ⟨ex_upd hD (Ex.rfl' _), rfl⟩) (fun D i acc H hD _ p => p.1 _ _ h) (fun D i acc x H hD hx e l p => by
    obtain ⟨p1, rfl⟩ := p
    exact hs D i x H hD hx e p1) (fun D acc H hD e l p => by
    obtain ⟨p1, rfl⟩ := p
    exact hd D H hD p1 e)
theorem lcF_r0 {n : Nat} (f : Nat → V) (hw : Wip σ vs σ') (hs : ∀ D i H, H1 D = none → i < n → H D = some (.lst ((List.range i).map f)) → Ex H1 H → g (.int (i : Int)) σ' H (kLc vs σ' tt te D i (PvF H1 f D)))
    (hd : ∀ D H, H1 D = none → Ex H1 H → H D = some (.lst ((List.range n).map f)) → Q (.ref D) H) : tLcJ (Itr 0 n) g tt te vs σ H1 Q :=
  lc_r0 hw (PvF H1 f) (fun D hD => ⟨ex_upd hD (Ex.rfl' _), rfl⟩) (fun D i acc H hD hx e l p => by
    obtain ⟨p1, rfl⟩ := p
    exact hs D i H hD hx e p1) (fun D acc H hD e l p => by
    obtain ⟨p1, rfl⟩ := p
    exact hd D H hD p1 e)
theorem lcF_z {a b : Addr} (xs ys : List V) (f : Nat → V) (he : xs.length = ys.length) (hw : Wip σ vs σ') (h : H1 a = some (.lst xs)) (h2 : H1 b = some (.lst ys))
    (hs : ∀ D i x y T H, H1 D = none → xs[i]? = some x → ys[i]? = some y → H D = some (.lst ((List.range i).map f)) → Ex H1 H → H T = none → g (.ref T) σ' (upd H T (.tup [x, y])) (kLc vs σ' tt te D i (PvF H1 f D)))
    (hd : ∀ D H, H1 D = none → Ex H1 H → H D = some (.lst ((List.range xs.length).map f)) → Q (.ref D) H) : tLcJ (Itz K a b) g tt te vs σ H1 Q :=
  lc_z xs ys he hw (PvF H1 f) (fun D hD => ⟨ex_upd hD (Ex.rfl' _), rfl⟩) (fun D i acc H hD _ p => ⟨p.1 _ _ h, p.1 _ _ h2⟩) (fun D i acc x y T H hD hx hy e l p hT => by
    obtain ⟨p1, rfl⟩ := p
    exact hs D i x y T H hD hx hy e p1 hT) (fun D acc H hD e l p => by
    obtain ⟨p1, rfl⟩ := p
    exact hd D H hD p1 e)
end
/-- items that are told by a word R of the list so far, which growing keeps -/
def PvR (H1 : Hp) (R : Nat → List V → Hp → Prop) (D : Addr) (i : Nat) (acc : List V) (H : Hp) : Prop := Ex H1 H ∧ R i acc (mk D H)
theorem iLcR {H1 H : Hp} {R : Nat → List V → Hp → Prop} {D : Addr} {i : Nat} {y : V} {acc : List V} (hD : H1 D = none) (hi : i < 100000) (hl : acc.length ≤ i) (e : Ex H1 H) (h : H D = some (.lst acc)) (q : R (i + 1) (acc ++ [y]) (mk D H)) : kLcE D i (PvR H1 R D) y H :=
  iLcE h hl hi ⟨ex_upd hD e, by rw [mk_upd]; exact q⟩
section
variable {K : PySem.W.Frag} {g : TG} {tt : TT} {te : TE} {vs : List Nat} {σ σ' : L2.St} {H1 : Hp} {Q : VK}
theorem lcR_r {lo : Int} {n : Nat} (R : Nat → List V → Hp → Prop) (hw : Wip σ vs σ') (m : ∀ i acc H H', Ex H H' → R i acc H → R i acc H') (h0 : R 0 [] H1)
    (hs : ∀ D i acc H, H1 D = none → i < n → H D = some (.lst acc) → acc.length ≤ i → Ex H1 H → R i acc (mk D H) → g (.int (lo + (i : Int))) σ' H (kLc vs σ' tt te D i (PvR H1 R D)))
    (hd : ∀ D acc H, H1 D = none → Ex H1 H → H D = some (.lst acc) → R n acc H → Q (.ref D) H) : tLcJ (Itr lo n) g tt te vs σ H1 Q :=
  lc_r hw (PvR H1 R) (fun D hD => ⟨ex_upd hD (Ex.rfl' _), by rw [mk_upd]; exact m _ _ _ _ (ex_mk hD (Ex.rfl' _)) h0⟩) (fun D i acc H hD hx e l p => hs D i acc H hD hx e l p.1 p.2) (fun D acc H hD e l p => hd D acc H hD p.1 e (m _ _ _ _ (mk_ex D H) p.2))
theorem lcR_r0 {n : Nat} (R : Nat → List V → Hp → Prop) (hw : Wip σ vs σ') (m : ∀ i acc H H', Ex H H' → R i acc H → R i acc H') (h0 : R 0 [] H1)
    (hs : ∀ D i acc H, H1 D = none → i < n → H D = some (.lst acc) → acc.length ≤ i → Ex H1 H → R i acc (mk D H) → g (.int (i : Int)) σ' H (kLc vs σ' tt te D i (PvR H1 R D)))
    (hd : ∀ D acc H, H1 D = none → Ex H1 H → H D = some (.lst acc) → R n acc H → Q (.ref D) H) : tLcJ (Itr 0 n) g tt te vs σ H1 Q :=
  lcR_r R hw m h0 (fun D i acc H a b c d e f => by rw [Int.zero_add]; exact hs D i acc H a b c d e f) hd
theorem lcR_l {a : Addr} (xs : List V) (R : Nat → List V → Hp → Prop) (hw : Wip σ vs σ') (h : H1 a = some (.lst xs)) (m : ∀ i acc H H', Ex H H' → R i acc H → R i acc H') (h0 : R 0 [] H1)
    (hs : ∀ D i acc x H, H1 D = none → xs[i]? = some x → H D = some (.lst acc) → acc.length ≤ i → Ex H1 H → R i acc (mk D H) → g x σ' H (kLc vs σ' tt te D i (PvR H1 R D)))
    (hd : ∀ D acc H, H1 D = none → Ex H1 H → H D = some (.lst acc) → R xs.length acc H → Q (.ref D) H) : tLcJ (Itl K a) g tt te vs σ H1 Q :=
  lc_l xs hw (PvR H1 R) (fun D hD => ⟨ex_upd hD (Ex.rfl' _), by rw [mk_upd]; exact m _ _ _ _ (ex_mk hD (Ex.rfl' _)) h0⟩) (fun D i acc H hD _ p => p.1 _ _ h) (fun D i acc x H hD hx e l p => hs D i acc x H hD hx e l p.1 p.2) (fun D acc H hD e l p => hd D acc H hD p.1 e (m _ _ _ _ (mk_ex D H) p.2))
end
theorem exb_mk' {a : Addr} {H H' : Hp} (e : ExB a H H') : Ex (mk a H) (mk a H') := fun p o h => by
  by_cases q : p = a
  · unfold mk at h; rw [if_pos q] at h; cases h
  · rw [mk_at q] at h ⊢; exact e p o q h
/-! ### == of lists of ints -/
theorem dp_ints {K : PySem.W.Frag} {H : Hp} : ∀ ns : List Int, DpAll K H (ns.map V.int) (ns.map PyData.int)
  | [] => .nil
  | n :: ns => .cons (.int n) (dp_ints ns)
theorem dp_lst {K : PySem.W.Frag} {H : Hp} {a : Addr} {ns : List Int} (h : H a = some (.lst (ns.map V.int))) : Dp K H (.ref a) (.list (ns.map PyData.int)) := .lst (SqL.tr h) (dp_ints ns)
theorem lay_ints : ∀ ns : List Int, PyData.canLayAll0 (ns.map PyData.int) = true
  | [] => by rw [List.map_nil, PyData.canLayAll0]
  | n :: ns => by rw [List.map_cons, PyData.canLayAll0, PyData.canLay0, lay_ints ns]; rfl
theorem depth_ints : ∀ ns : List Int, PyData.depthAll (ns.map PyData.int) ≤ 5
  | [] => by rw [List.map_nil, PyData.depthAll]; omega
  | n :: ns => by
    have := depth_ints ns
    rw [List.map_cons, PyData.depthAll]
    simp only [PyData.depth]
    omega
theorem shaped_ints (ns : List Int) : SeqAt.shaped (.list (ns.map PyData.int)) = true := by
  have := depth_ints ns
  unfold SeqAt.shaped
  rw [PyData.canLay0, lay_ints, decide_eq_true (by rw [PyData.depth]; omega)]
  rfl
theorem shaped_non : SeqAt.shaped .none = true := by
  unfold SeqAt.shaped
  rw [PyData.canLay0, decide_eq_true (by simp [PyData.depth])]
  rfl
theorem eqvAll_ints : ∀ ns ms : List Int, PyData.eqvAll (ns.map PyData.int) (ms.map PyData.int) = decide (ns = ms)
  | [], [] => by simp [PyData.eqvAll]
  | [], m :: ms => by simp [PyData.eqvAll]
  | n :: ns, [] => by simp [PyData.eqvAll]
  | n :: ns, m :: ms => by
    rw [List.map_cons, List.map_cons, PyData.eqvAll, eqvAll_ints ns ms, PyData.eqv]
    by_cases h : n = m
    · subst h; simp
    · have : (n == m) = false := beq_eq_false_iff_ne.mpr h
      simp [this, h]
theorem eqv_ints (ns ms : List Int) : PyData.eqv (.list (ns.map PyData.int)) (.list (ms.map PyData.int)) = decide (ns = ms) := by rw [PyData.eqv, eqvAll_ints]
end R
set_option Elab.async false
set_option linter.all false
set_option maxRecDepth 100000
set_option maxHeartbeats 4000000
namespace R
open PySem PySem.Spec L2
open Evl (Ex)
/-! ### data of any depth at a value -/
mutual
inductive At (H : Hp) : V → PyData → Prop
  | non : At H .non .none
  | bl (b : Bool) : At H (.bl b) (.bool b)
  | int (i : Int) : At H (.int i) (.int i)
  | str (x : Str) (ok : PyData.canLay0 (.str x) = true) : At H (.str x) (.str x)
  | lst {a : Addr} {xs : List V} {ds : List PyData} (h : H a = some (.lst xs)) (q : AtAll H xs ds) : At H (.ref a) (.list ds)
  | tup {a : Addr} {xs : List V} {ds : List PyData} (h : H a = some (.tup xs)) (q : AtAll H xs ds) : At H (.ref a) (.tuple ds)
inductive AtAll (H : Hp) : List V → List PyData → Prop
  | nil : AtAll H [] []
  | cons {v : V} {vs : List V} {d : PyData} {ds : List PyData} (h : At H v d) (t : AtAll H vs ds) : AtAll H (v :: vs) (d :: ds)
end
mutual
theorem At.ex {H H' : Hp} (e : Ex H H') : ∀ (d : PyData) {v : V}, At H v d → At H' v d
  | .none, _, h => by cases h; exact .non
  | .bool b, _, h => by cases h; exact .bl b
  | .int i, _, h => by cases h; exact .int i
  | .str x, _, h => by cases h with | str _ ok => exact .str x ok
  | .list ds, _, h => by cases h with | lst h q => exact .lst (e _ _ h) (AtAll.ex e ds q)
  | .tuple ds, _, h => by cases h with | tup h q => exact .tup (e _ _ h) (AtAll.ex e ds q)
  | .dict _, _, h => by cases h
theorem AtAll.ex {H H' : Hp} (e : Ex H H') : ∀ (ds : List PyData) {vs : List V}, AtAll H vs ds → AtAll H' vs ds
  | [], _, h => by cases h; exact .nil
  | d :: ds, _, h => by cases h with | cons h t => exact .cons (At.ex e d h) (AtAll.ex e ds t)
end
mutual
theorem At.dp {K : PySem.W.Frag} {H : Hp} : ∀ (d : PyData) {v : V}, At H v d → Dp K H v d
  | .none, _, h => by cases h; exact .non
  | .bool b, _, h => by cases h; exact .bl b
  | .int i, _, h => by cases h; exact .int i
  | .str x, _, h => by cases h with | str _ ok => exact .str x
  | .list ds, _, h => by cases h with | lst h q => exact .lst (SqL.tr h) (AtAll.dp ds q)
  | .tuple ds, _, h => by cases h with | tup h q => exact .tup (SqT.tr h) (AtAll.dp ds q)
  | .dict _, _, h => by cases h
theorem AtAll.dp {K : PySem.W.Frag} {H : Hp} : ∀ (ds : List PyData) {vs : List V}, AtAll H vs ds → DpAll K H vs ds
  | [], _, h => by cases h; exact .nil
  | d :: ds, _, h => by cases h with | cons h t => exact .cons (At.dp d h) (AtAll.dp ds t)
end
mutual
theorem At.lay {H : Hp} : ∀ (d : PyData) {v : V}, At H v d → PyData.canLay0 d = true
  | .none, _, h => by simp only [PyData.canLay0]
  | .bool b, _, h => by simp only [PyData.canLay0]
  | .int i, _, h => by simp only [PyData.canLay0]
  | .str x, _, h => by cases h with | str _ ok => exact ok
  | .list ds, _, h => by
    cases h with | lst h q => simp only [PyData.canLay0]; exact AtAll.lay ds q
  | .tuple ds, _, h => by
    cases h with | tup h q => simp only [PyData.canLay0]; exact AtAll.lay ds q
  | .dict _, _, h => by cases h
theorem AtAll.lay {H : Hp} : ∀ (ds : List PyData) {vs : List V}, AtAll H vs ds → PyData.canLayAll0 ds = true
  | [], _, h => by simp only [PyData.canLayAll0]
  | d :: ds, _, h => by
    cases h with | cons h t => simp only [PyData.canLayAll0, At.lay d h, AtAll.lay ds t, Bool.and_self]
end
mutual
theorem At.eqv {H : Hp} : ∀ (d : PyData) {v : V}, At H v d → PyData.eqv d d = true
  | .none, _, h => by simp only [PyData.eqv]
  | .bool b, _, h => by simp only [PyData.eqv, beq_self_eq_true]
  | .int i, _, h => by simp only [PyData.eqv, beq_self_eq_true]
  | .str x, _, h => by simp only [PyData.eqv, beq_self_eq_true]
  | .list ds, _, h => by
    cases h with | lst h q => simp only [PyData.eqv]; exact AtAll.eqv ds q
  | .tuple ds, _, h => by
    cases h with | tup h q => simp only [PyData.eqv]; exact AtAll.eqv ds q
  | .dict _, _, h => by cases h
theorem AtAll.eqv {H : Hp} : ∀ (ds : List PyData) {vs : List V}, AtAll H vs ds → PyData.eqvAll ds ds = true
  | [], _, h => by simp only [PyData.eqvAll]
  | d :: ds, _, h => by
    cases h with | cons h t => simp only [PyData.eqvAll, At.eqv d h, AtAll.eqv ds t, Bool.and_self]
end
theorem AtAll.length {H : Hp} : ∀ {ds : List PyData} {vs : List V}, AtAll H vs ds → vs.length = ds.length
  | _, _, .nil => rfl
  | _, _, .cons _ t => by rw [List.length_cons, List.length_cons, AtAll.length t]
theorem AtAll.get {H : Hp} : ∀ {ds : List PyData} {vs : List V} {i : Nat} {d : PyData}, AtAll H vs ds → ds[i]? = some d → ∃ v, vs[i]? = some v ∧ At H v d
  | _, _, i, _, .nil, e => by simp at e
  | _, _, 0, _, .cons h t, e => by
    simp at e; subst e
    exact ⟨_, rfl, h⟩
  | _, _, i + 1, _, .cons h t, e => by
    obtain ⟨v, h1, h2⟩ := AtAll.get t (show _ = some _ from by simpa using e)
    exact ⟨v, by simpa using h1, h2⟩
theorem AtAll.getV {H : Hp} {ds : List PyData} {vs : List V} {i : Nat} {v : V} (h : AtAll H vs ds) (e : vs[i]? = some v) : ∃ d, ds[i]? = some d ∧ At H v d := by
  have hi := (List.getElem?_eq_some_iff.mp e).1
  have hl := h.length
  have hd : ds[i]? = some (ds[i]'(by omega)) := List.getElem?_eq_getElem (by omega)
  obtain ⟨v', h1, h2⟩ := h.get hd
  rw [h1] at e
  cases e
  exact ⟨_, hd, h2⟩
theorem AtAll.append {H : Hp} : ∀ {ds es : List PyData} {vs us : List V}, AtAll H vs ds → AtAll H us es → AtAll H (vs ++ us) (ds ++ es)
  | _, _, _, _, .nil, q => q
  | _, _, _, _, .cons h t, q => .cons h (AtAll.append t q)
theorem AtAll.one {H : Hp} {v : V} {d : PyData} (h : At H v d) : AtAll H [v] [d] := .cons h .nil
theorem AtAll.drop {H : Hp} : ∀ (n : Nat) {ds : List PyData} {vs : List V}, AtAll H vs ds → AtAll H (vs.drop n) (ds.drop n)
  | 0, _, _, h => by simpa using h
  | n + 1, _, _, .nil => by simpa using AtAll.nil
  | n + 1, _, _, .cons _ t => by simpa using AtAll.drop n t
theorem AtAll.take {H : Hp} : ∀ (n : Nat) {ds : List PyData} {vs : List V}, AtAll H vs ds → AtAll H (vs.take n) (ds.take n)
  | 0, _, _, h => by simpa using AtAll.nil
  | n + 1, _, _, .nil => by simpa using AtAll.nil
  | n + 1, _, _, .cons h t => by simpa using AtAll.cons h (AtAll.take n t)
/-! ### what is new; what is left without some addresses -/
def dif (H H' : Hp) : Hp := fun p => match H p with
  | none => H' p
  | some _ => none
theorem dif_of {H H' : Hp} {p : Addr} {o : HO} (h : H p = none) (h' : H' p = some o) : dif H H' p = some o := by
  unfold dif
  rw [h]
  exact h'
theorem dif_to {H H' : Hp} {p : Addr} {o : HO} (h : dif H H' p = some o) : H p = none ∧ H' p = some o := by
  unfold dif at h
  cases e : H p with
  | none => rw [e] at h; exact ⟨rfl, h⟩
  | some u => rw [e] at h; cases h
theorem dif_ex {H H' : Hp} : Ex (dif H H') H' := fun p o h => (dif_to h).2
theorem dif_mono {H H' H'' : Hp} (e : Ex H' H'') : Ex (dif H H') (dif H H'') := fun p o h => dif_of (dif_to h).1 (e _ _ (dif_to h).2)
theorem back_none {H H' : Hp} {p : Addr} (e : Ex H H') (h : H' p = none) : H p = none := by
  cases z : H p with
  | none => rfl
  | some o => rw [e _ _ z] at h; cases h
theorem dif_back {H H1 H' : Hp} (e : Ex H H1) : Ex (dif H1 H') (dif H H') := fun p o h => dif_of (back_none e (dif_to h).1) (dif_to h).2
def mks (A : List Addr) (H : Hp) : Hp := fun p => if p ∈ A then none else H p
theorem mks_at {A : List Addr} {H : Hp} {p : Addr} (h : p ∉ A) : mks A H p = H p := if_neg h
theorem mks_in {A : List Addr} {H : Hp} {p : Addr} (h : p ∈ A) : mks A H p = none := if_pos h
theorem mks_to {A : List Addr} {H : Hp} {p : Addr} {o : HO} (h : mks A H p = some o) : p ∉ A ∧ H p = some o := by
  by_cases q : p ∈ A
  · rw [mks_in q] at h; cases h
  · rw [mks_at q] at h; exact ⟨q, h⟩
theorem mks_ex {A : List Addr} {H : Hp} : Ex (mks A H) H := fun p o h => (mks_to h).2
theorem mks_mono {A : List Addr} {H H' : Hp} (e : Ex H H') : Ex (mks A H) (mks A H') := fun p o h => by
  rw [mks_at (mks_to h).1]
  exact e _ _ (mks_to h).2
theorem mks_upd {A : List Addr} {H : Hp} {p : Addr} {o : HO} (h : p ∈ A) : mks A (upd H p o) = mks A H := by
  funext q
  by_cases z : q ∈ A
  · rw [mks_in z, mks_in z]
  · rw [mks_at z, mks_at z, upd_ne (fun e => z (by rw [e]; exact h))]
/-- what is new is apart from what was there -/
theorem dif_mks {A : List Addr} {H H' : Hp} (h : ∀ a ∈ A, H a ≠ none) : Ex (dif H H') (mks A H') := fun p o q => by
  rw [mks_at fun z => h p z (dif_to q).1]
  exact (dif_to q).2
theorem ex_mks {A : List Addr} {H H' : Hp} (h : ∀ a ∈ A, H a = none) (e : Ex H H') : Ex H (mks A H') := fun p o q => by
  rw [mks_at fun z => by rw [h p z] at q; cases q]
  exact e _ _ q
theorem mks_none {A : List Addr} {H H' : Hp} {p : Addr} (h : mks A H p = none) (hA : p ∉ A) : H p = none := by rwa [mks_at hA] at h
/-- new data: all of it is new -/
def NewD (H : Hp) (Q : VK) (d : PyData) : Prop := ∀ v H', Ex H H' → At (dif H H') v d → Q v H'
theorem At.nw {H H' : Hp} {v : V} {d : PyData} (h : At (dif H H') v d) : At H' v d := h.ex dif_ex
/-! ### bytes -/
def nL (ns : List Nat) : List V := ns.map fun n : Nat => V.int (n : Int)
def nD (ns : List Nat) : PyData := .list (ns.map fun n : Nat => PyData.int (n : Int))
theorem nL_len (ns : List Nat) : (nL ns).length = ns.length := List.length_map ..
theorem nL_app (ns ms : List Nat) : nL (ns ++ ms) = nL ns ++ nL ms := List.map_append
theorem nL_atAll {H : Hp} : ∀ ns : List Nat, AtAll H (nL ns) (ns.map fun n : Nat => PyData.int (n : Int))
  | [] => .nil
  | n :: ns => .cons (.int n) (nL_atAll ns)
theorem nL_at {H : Hp} {p : Addr} {ns : List Nat} (h : H p = some (.lst (nL ns))) : At H (.ref p) (nD ns) := .lst h (nL_atAll ns)
theorem nL_inj : ∀ {vs : List V} {H : Hp} {ns : List Nat}, AtAll H vs (ns.map fun n : Nat => PyData.int (n : Int)) → vs = nL ns
  | _, _, [], h => by cases h; rfl
  | _, _, n :: ns, h => by
    cases h with
    | cons h t =>
      cases h
      rw [nL_inj t]
      rfl
theorem At.nL {H : Hp} {v : V} {ns : List Nat} (h : At H v (nD ns)) : ∃ p, v = .ref p ∧ H p = some (.lst (nL ns)) := by
  cases h with | lst h q => exact ⟨_, rfl, nL_inj q ▸ h⟩
theorem nL_get {ns : List Nat} {i : Nat} {v : V} (h : (nL ns)[i]? = some v) : ∃ n, ns[i]? = some n ∧ v = .int (n : Int) := by
  unfold nL at h
  rw [List.getElem?_map] at h
  cases e : ns[i]? with
  | none => rw [e] at h; cases h
  | some b => rw [e] at h; exact ⟨b, rfl, (Option.some.inj h).symm⟩
theorem nL_at_some {ns : List Nat} {i n : Nat} (h : ns[i]? = some n) : (nL ns)[i]? = some (.int (n : Int)) := by
  unfold nL
  rw [List.getElem?_map, h]
  rfl
theorem nL_take (k : Nat) (ns : List Nat) : (nL ns).take k = nL (ns.take k) := by unfold nL; rw [List.map_take]
theorem nL_drop (k : Nat) (ns : List Nat) : (nL ns).drop k = nL (ns.drop k) := by unfold nL; rw [List.map_drop]
theorem nL_rep (k n : Nat) : (List.replicate k [V.int (n : Int)]).flatten = nL (List.replicate k n) := by
  induction k with
  | zero => rfl
  | succ k ih => rw [List.replicate_succ, List.flatten_cons, ih, List.replicate_succ]; rfl
/-- lists of lists of bytes -/
def sD (S : List (List Nat)) : PyData := .list (S.map nD)
theorem At.sec {H : Hp} {v : V} {S : List (List Nat)} (h : At H v (sD S)) : ∃ p vs, v = .ref p ∧ H p = some (.lst vs) ∧ AtAll H vs (S.map nD) := by
  cases h with | lst h q => exact ⟨_, _, rfl, h, q⟩
theorem AtAll.secs {H : Hp} {vs : List V} {S : List (List Nat)} (h : AtAll H vs (S.map nD)) : vs.length = S.length := by rw [h.length, List.length_map]
theorem AtAll.sec {H : Hp} {vs : List V} {S : List (List Nat)} (h : AtAll H vs (S.map nD)) {i : Nat} {ns : List Nat} (e : S[i]? = some ns) : ∃ p, vs[i]? = some (.ref p) ∧ H p = some (.lst (R.nL ns)) := by
  obtain ⟨v, h1, h2⟩ := h.get (i := i) (d := nD ns) (by rw [List.getElem?_map, e]; rfl)
  obtain ⟨p, rfl, h3⟩ := h2.nL
  exact ⟨p, h1, h3⟩
theorem AtAll.secV {H : Hp} {vs : List V} {S : List (List Nat)} (h : AtAll H vs (S.map nD)) {i : Nat} {v : V} (e : vs[i]? = some v) : ∃ ns p, S[i]? = some ns ∧ v = .ref p ∧ H p = some (.lst (R.nL ns)) := by
  obtain ⟨d, h1, h2⟩ := h.getV e
  rw [List.getElem?_map] at h1
  cases e2 : S[i]? with
  | none => rw [e2] at h1; cases h1
  | some ns =>
    rw [e2] at h1
    cases h1
    obtain ⟨p, rfl, h3⟩ := h2.nL
    exact ⟨ns, p, rfl, rfl, h3⟩
/-! ### == -/
/-- at most so deep -/
def Dep (n : Nat) (d : PyData) : Prop := PyData.depth d ≤ n
theorem Dep.non {n : Nat} : Dep n .none := by simp [Dep, PyData.depth]
theorem Dep.int {n : Nat} {i : Int} : Dep n (.int i) := by simp [Dep, PyData.depth]
theorem Dep.str {n : Nat} {i : Str} : Dep n (.str i) := by simp [Dep, PyData.depth]
theorem Dep.bl {n : Nat} {i : Bool} : Dep n (.bool i) := by simp [Dep, PyData.depth]
theorem depAll {n : Nat} : ∀ {ds : List PyData}, (∀ d ∈ ds, Dep n d) → PyData.depthAll ds ≤ n
  | [], _ => by simp [PyData.depthAll]
  | d :: ds, h => by
    have h1 := h d (List.mem_cons_self ..)
    have h2 := depAll fun e he => h e (List.mem_cons_of_mem _ he)
    unfold Dep at h1
    rw [PyData.depthAll]
    omega
theorem Dep.list {n : Nat} {ds : List PyData} (h : ∀ d ∈ ds, Dep n d) : Dep (n + 1) (.list ds) := by
  have := depAll h
  unfold Dep
  rw [PyData.depth]
  omega
theorem Dep.tuple {n : Nat} {ds : List PyData} (h : ∀ d ∈ ds, Dep n d) : Dep (n + 1) (.tuple ds) := by
  have := depAll h
  unfold Dep
  rw [PyData.depth]
  omega
theorem Dep.nD {n : Nat} {ns : List Nat} : Dep (n + 1) (nD ns) := Dep.list fun d hd => by
  obtain ⟨m, _, rfl⟩ := List.mem_map.mp hd
  exact Dep.int
theorem Dep.sD {n : Nat} {S : List (List Nat)} : Dep (n + 2) (sD S) := Dep.list fun d hd => by
  obtain ⟨m, _, rfl⟩ := List.mem_map.mp hd
  exact Dep.nD
theorem At.shaped {H : Hp} {v : V} {d : PyData} (h : At H v d) (hd : Dep 64 d) : SeqAt.shaped d = true := by
  unfold SeqAt.shaped
  rw [h.lay, decide_eq_true (show d.depth ≤ 64 from hd)]
  rfl
section
variable {K : PySem.W.Frag} {σ : L2.St} {H : Hp} {Q : VK} {x y : V} {d e : PyData}
theorem iEqAt (h1 : At H x d) (h2 : At H y d) (hd : Dep 64 d) (q : Q (.bl true) H) : rEqD K x y H Q := ⟨d, d, h1.dp, h2.dp, h1.shaped hd, h1.shaped hd, by rw [h1.eqv]; exact q⟩
theorem iNeAt (h1 : At H x d) (h2 : At H y d) (hd : Dep 64 d) (q : Q (.bl false) H) : rNeD K x y H Q := ⟨d, d, h1.dp, h2.dp, h1.shaped hd, h1.shaped hd, by rw [h1.eqv]; exact q⟩
theorem iEqAtD (h1 : At H x d) (h2 : At H y e) (hd : Dep 64 d) (he : Dep 64 e) (q : Q (.bl (PyData.eqv d e)) H) : rEqD K x y H Q := ⟨d, e, h1.dp, h2.dp, h1.shaped hd, h2.shaped he, q⟩
theorem iNeAtD (h1 : At H x d) (h2 : At H y e) (hd : Dep 64 d) (he : Dep 64 e) (q : Q (.bl (!PyData.eqv d e)) H) : rNeD K x y H Q := ⟨d, e, h1.dp, h2.dp, h1.shaped hd, h2.shaped he, q⟩
theorem eqv_nD (ns ms : List Nat) : PyData.eqv (nD ns) (nD ms) = decide (ns = ms) := by
  have a : (ns.map fun n : Nat => PyData.int (n : Int)) = (ns.map (fun n : Nat => (n : Int))).map PyData.int := by rw [List.map_map]; rfl
  have b : (ms.map fun n : Nat => PyData.int (n : Int)) = (ms.map (fun n : Nat => (n : Int))).map PyData.int := by rw [List.map_map]; rfl
  unfold nD
  rw [a, b, eqv_ints]
  by_cases h : ns = ms
  · subst h; rw [decide_eq_true rfl, decide_eq_true rfl]
  · rw [decide_eq_false h, decide_eq_false fun z => h (List.map_inj_right (fun a b hab => by omega) |>.mp z)]
theorem iNeN {p m : Addr} {ns ms : List Nat} (h1 : H p = some (.lst (nL ns))) (h2 : H m = some (.lst (nL ms))) (q : Q (.bl (!decide (ns = ms))) H) : rNeD K (.ref p) (.ref m) H Q :=
  iNeAtD (nL_at h1) (nL_at h2) Dep.nD Dep.nD (by rw [eqv_nD]; exact q)
theorem iEqN {p m : Addr} {ns ms : List Nat} (h1 : H p = some (.lst (nL ns))) (h2 : H m = some (.lst (nL ms))) (q : Q (.bl (decide (ns = ms))) H) : rEqD K (.ref p) (.ref m) H Q :=
  iEqAtD (nL_at h1) (nL_at h2) Dep.nD Dep.nD (by rw [eqv_nD]; exact q)
/-! ### slices -/
def kPart (Q : Option Int → Hp → Prop) : VK := fun x H1 => ∃ i, x = .int i ∧ Q (some i) H1
theorem iPart {te : TE} {QO : Option Int → Hp → Prop} (q : te σ H (kPart QO)) : tPart te σ H QO := q
theorem iPartI {i : Int} {QO : Option Int → Hp → Prop} (q : QO (some i) H) : kPart QO (.int i) H := ⟨i, rfl, q⟩
theorem iNoPart {QO : Option Int → Hp → Prop} (q : QO none H) : tNoPart σ H QO := q
theorem iSl {r : V → Option Int → Option Int → Hp → VK → Prop} {te : TE} {tl th : TO} (q : te σ H fun x H1 => tl σ H1 fun l H2 => th σ H2 fun u H3 => r x l u H3 Q) : tSl r te tl th σ H Q := q
/-- xs[i:j], tracked -/
def kSlL : V → Option Int → Option Int → Hp → VK → Prop := fun x lo hi H Q => ∃ a xs, x = .ref a ∧ H a = some (.lst xs) ∧ ∀ p, H p = none → Q (.ref p) (upd H p (.lst (cutV xs lo hi)))
theorem sl_l {X : Cx} : SlR X kSlL := fun pins s σ H x v vl vu lo hi sl Q I rx hs pl pu h => by
  obtain ⟨a, xs, e, hx, q⟩ := h
  exact sl_list pins s σ H x v vl vu lo hi sl Q I rx hs pl pu ⟨a, xs, e, SqL.tr hx, q⟩
theorem iSlL {a : Addr} {xs : List V} {lo hi : Option Int} (h : H a = some (.lst xs)) (q : ∀ p, H p = none → Q (.ref p) (upd H p (.lst (cutV xs lo hi)))) : kSlL (.ref a) lo hi H Q := ⟨a, xs, rfl, h, q⟩
theorem cut_to (xs : List V) (k : Nat) : cutV xs none (some (k : Int)) = xs.take k := by
  unfold cutV
  rw [HT.sIx_none, HT.sIx_nat, List.drop_zero, Nat.sub_zero]
  rcases Nat.le_total k xs.length with h | h
  · rw [Nat.min_eq_left h]
  · rw [Nat.min_eq_right h, List.take_of_length_le (Nat.le_refl _), List.take_of_length_le h]
theorem cut_from (xs : List V) (k : Nat) : cutV xs (some (k : Int)) none = xs.drop k := by
  unfold cutV
  rw [HT.sIx_none, HT.sIx_nat]
  rcases Nat.le_total k xs.length with h | h
  · rw [Nat.min_eq_left h, List.take_of_length_le (by rw [List.length_drop]; omega)]
  · rw [Nat.min_eq_right h, List.drop_length, List.drop_eq_nil_of_le h]
    simp
theorem cut_ft (xs : List V) (i j : Nat) : cutV xs (some (i : Int)) (some (j : Int)) = (xs.take j).drop i := by
  unfold cutV
  rw [HT.sIx_nat, HT.sIx_nat, List.drop_take]
  rcases Nat.le_total i xs.length with h | h
  · rw [Nat.min_eq_left h]
    rcases Nat.le_total j xs.length with h2 | h2
    · rw [Nat.min_eq_left h2]
    · rw [Nat.min_eq_right h2, List.take_of_length_le (by rw [List.length_drop]; omega), List.take_of_length_le (by rw [List.length_drop]; omega)]
  · rw [Nat.min_eq_right h, List.drop_length, List.drop_eq_nil_of_le h]
    simp
/-! ### list.extend, reversed ranges, ranges with a step -/
theorem iExt {p m : Addr} {xs ys : List V} (h : H p = some (.lst xs)) (h2 : H m = some (.lst ys)) (hz : xs.length + ys.length ≤ 100000) (q : Q .non (upd H p (.lst (xs ++ ys)))) : rExtend (.ref p) [.ref m] H Q := ⟨p, m, xs, ys, rfl, rfl, h, h2, Evl.sz_of hz, q⟩
def kRv (R : It → Hp → Prop) : VK := fun x H1 => ∃ n, x = .int n ∧ (-(2 ^ 62) ≤ (0:Int) ∧ (0:Int) < 2 ^ 62 ∧ -(2 ^ 62) ≤ n ∧ n < 2 ^ 62 ∧ R (Itc (0 + (((n - 0).toNat : Nat) : Int) - 1) (-1) (n - 0).toNat) H1)
theorem iRv {ta : TE} {R : It → Hp → Prop} (q : ta σ H (kRv R)) : iRevR (tRg1 ta) σ H R := q
theorem iRvI {R : It → Hp → Prop} {n : Nat} (h : n < 1000000) (q : R (Itc ((n : Int) - 1) (-1) n) H) : kRv R (.int (n : Int)) H := by
  refine ⟨n, rfl, by decide, by decide, by omega, by omega, ?_⟩
  have e1 : ((n : Int) - 0).toNat = n := by omega
  rw [e1, show (0 : Int) + (n : Int) - 1 = (n : Int) - 1 by omega]
  exact q
theorem rgUp32 {b : Nat} (hb : b < 1000000) : RgC (0 : Int) (b : Int) (32 : Int) ((b + 31) / 32) := by
  refine ⟨by decide, by decide, ?_, ?_⟩
  · unfold Builtin.Range.small Builtin.Range.rangeFitsLong Builtin.Range.rangeSize
    rw [if_pos (show (32 : Int) > 0 by decide)]
    by_cases h : (0 : Int) < (b : Int)
    · rw [if_pos h]
      simp only [Bool.and_eq_true, decide_eq_true_eq, Bool.or_eq_true]
      refine ⟨⟨⟨⟨by decide, by omega⟩, by decide⟩, by omega⟩, .inr ?_⟩
      rw [if_pos (by decide)]
      simp only [Bool.and_eq_true, decide_eq_true_eq]
      omega
    · rw [if_neg h]
      simp only [Bool.and_eq_true, decide_eq_true_eq, Bool.or_eq_true]
      exact ⟨⟨⟨⟨by decide, by omega⟩, by decide⟩, by decide⟩, .inl (by decide)⟩
  · unfold Builtin.Range.rangeSize
    rw [if_pos (by decide)]
    by_cases h : (0 : Int) < (b : Int)
    · rw [if_pos h]; omega
    · rw [if_neg h]; omega
def kRg3 (R : It → Hp → Prop) : List V → Hp → Prop := fun vs H1 => ∃ (i j c : Int) (n : Nat), vs = [.int i, .int j, .int c] ∧ RgC i j c n ∧ R (Itc i c n) H1
theorem iRg3 {ta : TA} {R : It → Hp → Prop} (q : ta σ H (kRg3 R)) : iRng3 ta σ H R := q
theorem iRg3I {R : It → Hp → Prop} {i j c : Int} {n : Nat} (h : RgC i j c n) (q : R (Itc i c n) H) : kRg3 R [.int i, .int j, .int c] H := ⟨i, j, c, n, rfl, h, q⟩
end
section
variable {K : PySem.W.Frag} {g : TG} {tt : TT} {te : TE} {vs : List Nat} {σ σ' : L2.St} {H1 : Hp} {Q : VK}
theorem lcF_rc {lo c : Int} {n : Nat} (f : Nat → V) (hw : Wip σ vs σ') (hs : ∀ D i H, H1 D = none → i < n → H D = some (.lst ((List.range i).map f)) → Ex H1 H → g (.int (lo + (i : Int) * c)) σ' H (kLc vs σ' tt te D i (PvF H1 f D)))
    (hd : ∀ D H, H1 D = none → Ex H1 H → H D = some (.lst ((List.range n).map f)) → Q (.ref D) H) : tLcJ (Itc lo c n) g tt te vs σ H1 Q :=
  lcJ walk_rangeC hw (PvF H1 f) (fun D hD => ⟨ex_upd hD (Ex.rfl' _), rfl⟩) (fun _ _ _ _ _ _ _ => trivial) (fun D i acc x H H' hD hi e l p y => by
    obtain ⟨y1, y2⟩ := y
    obtain ⟨p1, rfl⟩ := p
    rw [y1, y2]
    exact hs D i H hD hi e p1) (fun D acc H hD e l p => by
    obtain ⟨p1, rfl⟩ := p
    exact hd D H hD p1 e)
theorem lcR_rc {lo c : Int} {n : Nat} (R : Nat → List V → Hp → Prop) (hw : Wip σ vs σ') (m : ∀ i acc H H', Ex H H' → R i acc H → R i acc H') (h0 : R 0 [] H1)
    (hs : ∀ D i acc H, H1 D = none → i < n → H D = some (.lst acc) → acc.length ≤ i → Ex H1 H → R i acc (mk D H) → g (.int (lo + (i : Int) * c)) σ' H (kLc vs σ' tt te D i (PvR H1 R D)))
    (hd : ∀ D acc H, H1 D = none → Ex H1 H → H D = some (.lst acc) → R n acc H → Q (.ref D) H) : tLcJ (Itc lo c n) g tt te vs σ H1 Q :=
  lcJ walk_rangeC hw (PvR H1 R) (fun D hD => ⟨ex_upd hD (Ex.rfl' _), by rw [mk_upd]; exact m _ _ _ _ (ex_mk hD (Ex.rfl' _)) h0⟩) (fun _ _ _ _ _ _ _ => trivial) (fun D i acc x H H' hD hi e l p y => by
    obtain ⟨y1, y2⟩ := y
    rw [y1, y2]
    exact hs D i acc H hD hi e l p.1 p.2) (fun D acc H hD e l p => hd D acc H hD p.1 e (m _ _ _ _ (mk_ex D H) p.2))
end
def kZA (K : PySem.W.Frag) (R : It → Hp → Prop) : List V → Hp → Prop := fun vs H1 => ∃ a b xs ys, vs = [.ref a, .ref b] ∧ ((SqL K H1 a xs ∧ SqL K H1 b ys ∧ R (Itz K a b) H1) ∨ (SqT K H1 a xs ∧ SqT K H1 b ys ∧ R (RZ.ItzT K a b) H1))
theorem iZA {K : PySem.W.Frag} {tA : TA} {σ : L2.St} {H : Hp} {R : It → Hp → Prop} (q : tA σ H (kZA K R)) : RZ.iZipA K tA σ H R := q
theorem iZAT {K : PySem.W.Frag} {a b : Addr} {xs ys : List V} {H : Hp} {R : It → Hp → Prop} (h : SqT K H a xs) (h2 : SqT K H b ys) (q : R (RZ.ItzT K a b) H) : kZA K R [.ref a, .ref b] H := ⟨a, b, xs, ys, rfl, .inr ⟨h, h2, q⟩⟩
theorem forJ_zT {K : PySem.W.Frag} {a b : Addr} {xs ys : List V} {g : TG} {tb : TS} {n bk c : L2.St → Hp → Prop} {r : VK} {σ : L2.St} {H : Hp} (hl : xs.length = ys.length) (Pv : Nat → L2.St → Hp → Prop) (h0 : Pv 0 σ H) (hq : ∀ i σ H, Pv i σ H → SqT K H a xs ∧ SqT K H b ys)
    (hs : ∀ (i : Nat) (x y : V) (T : Addr) (σ : L2.St) (H : Hp), xs[i]? = some x → ys[i]? = some y → Pv i σ H → H T = none → g (.ref T) σ (upd H T (.tup [x, y])) fun σ2 H2 => tb ⟨Pv (i + 1), r, n, Pv (i + 1)⟩ σ2 H2) (hd : ∀ σ H, Pv xs.length σ H → n σ H) : tForJ (RZ.ItzT K a b) g tb ⟨n, r, bk, c⟩ σ H :=
  RZ.for_zipT hl Pv h0 hq hs hd
theorem forJ_tW {K : PySem.W.Frag} {a : Addr} {xs : List V} {g : TG} {tb : TS} {n bk c : L2.St → Hp → Prop} {r : VK} {σ : L2.St} {H : Hp} (ha : ∀ H : Hp, SqT K H a xs) (Pv : Nat → L2.St → Hp → Prop) (h0 : Pv 0 σ H)
    (hs : ∀ i x σ H, xs[i]? = some x → Pv i σ H → g x σ H fun σ2 H2 => tb ⟨Pv (i + 1), r, n, Pv (i + 1)⟩ σ2 H2) (hd : ∀ σ H, Pv xs.length σ H → n σ H) : tForJ (Itt K a) g tb ⟨n, r, bk, c⟩ σ H :=
  for_tup Pv h0 (fun i σ H h p => ha H) hs hd
/-! ### joined lists of bytes; two names at once -/
theorem iCatN {a b : Addr} {xs ys : List Nat} {H : Hp} {Q : VK} (h : H a = some (.lst (nL xs))) (h2 : H b = some (.lst (nL ys))) (hz : xs.length + ys.length ≤ 100000) (q : ∀ p, H p = none → Q (.ref p) (upd H p (.lst (nL (xs ++ ys))))) : rCat (.ref a) (.ref b) H Q :=
  iCat h h2 (by rw [nL_len, nL_len]; exact hz) fun p hp => by rw [← nL_app]; exact q p hp
def kPar (i j : Nat) (n : L2.St → Hp → Prop) (σ : L2.St) : List V → Hp → Prop := fun vs H1 => ∃ a b, vs = [a, b] ∧ n ((σ.set i (some a)).set j (some b)) H1
theorem iPar {i j : Nat} {ta : TA} {n b c : L2.St → Hp → Prop} {r : VK} {σ : L2.St} {H : Hp} (q : ta σ H (kPar i j n σ)) : tPar i j ta ⟨n, r, b, c⟩ σ H := q
theorem iParI {i j : Nat} {n : L2.St → Hp → Prop} {σ σ1 σ2 : L2.St} {H : Hp} {a b : V} (h1 : SetAt σ i a σ1) (h2 : SetAt σ1 j b σ2) (q : n σ2 H) : kPar i j n σ [a, b] H := ⟨a, b, rfl, by rw [h1.eq, h2.eq]; exact q⟩
/-! ### tuples and texts walked -/
def kItT (K : PySem.W.Frag) (R : It → Hp → Prop) : VK := fun x H1 => ∃ a xs, x = .ref a ∧ H1 a = some (.tup xs) ∧ R (Itt K a) H1
theorem iIterT {K : PySem.W.Frag} {ta : TE} {σ : L2.St} {H : Hp} {R : It → Hp → Prop} (q : ta σ H (kItT K R)) : kIterT K ta σ H R := q
theorem iItT {K : PySem.W.Frag} {p : Addr} {xs : List V} {H : Hp} {R : It → Hp → Prop} (h : H p = some (.tup xs)) (q : R (Itt K p) H) : kItT K R (.ref p) H := ⟨p, xs, rfl, h, q⟩
def kItS (R : It → Hp → Prop) : VK := fun v H1 => ∃ x, v = .str x ∧ R (Its x) H1
theorem iIterS {te : TE} {σ : L2.St} {H : Hp} {R : It → Hp → Prop} (q : te σ H (kItS R)) : iStr te σ H R := q
theorem iItS {z : Str} {H : Hp} {R : It → Hp → Prop} (q : R (Its z) H) : kItS R (.str z) H := ⟨z, rfl, q⟩
/-! ### comprehensions whose items are new data -/
theorem lcRw {J : It} {n : Nat} {G : Hp → Prop} {Y : Nat → Hp → V → Hp → Prop} (w : Walk J n G Y) {g : TG} {tt : TT} {te : TE} {vs : List Nat} {σ σ' : L2.St} {H1 : Hp} {Q : VK} (R : Nat → List V → Hp → Prop) (hw : Wip σ vs σ') (hG : ∀ H, Ex H1 H → G H)
    (m : ∀ i acc H H', Ex H H' → R i acc H → R i acc H') (h0 : R 0 [] H1)
    (hs : ∀ D i acc x H H', H1 D = none → i < n → H D = some (.lst acc) → acc.length ≤ i → Ex H1 H → R i acc (mk D H) → Y i H x H' → g x σ' H' (kLc vs σ' tt te D i (PvR H1 R D)))
    (hd : ∀ D acc H, H1 D = none → Ex H1 H → H D = some (.lst acc) → R n acc H → Q (.ref D) H) : tLcJ J g tt te vs σ H1 Q :=
  lcJ w hw (PvR H1 R) (fun D hD => ⟨ex_upd hD (Ex.rfl' _), by rw [mk_upd]; exact m _ _ _ _ (ex_mk hD (Ex.rfl' _)) h0⟩) (fun D i acc H hD _ p => hG H p.1) (fun D i acc x H H' hD hi e l p y => hs D i acc x H H' hD hi e l p.1 p.2 y) (fun D acc H hD e l p => hd D acc H hD p.1 e (m _ _ _ _ (mk_ex D H) p.2))
def DR (H1 : Hp) (f : Nat → PyData) (i : Nat) (acc : List V) (H : Hp) : Prop := AtAll (dif H1 H) acc ((List.range i).map f)
theorem DR.mono {H1 : Hp} {f : Nat → PyData} (i : Nat) (acc : List V) (H H' : Hp) (e : Ex H H') (h : DR H1 f i acc H) : DR H1 f i acc H' := AtAll.ex (dif_mono e) _ h
theorem dif_mkD {H1 H H' : Hp} {D : Addr} (e : Ex H1 H) (h : H D ≠ none) : Ex (dif H H') (dif H1 (mk D H')) := fun p o q => by
  obtain ⟨h1, h2⟩ := dif_to q
  refine dif_of (back_none e h1) ?_
  rw [mk_at (fun z : p = D => h (by rw [← z]; exact h1))]
  exact h2
theorem iLcD {H1 H H' : Hp} {f : Nat → PyData} {D : Addr} {i : Nat} {y : V} {acc : List V} (hD : H1 D = none) (hi : i < 100000) (hl : acc.length ≤ i) (e1 : Ex H1 H) (hacc : H D = some (.lst acc)) (r : DR H1 f i acc (mk D H)) (e2 : Ex H H') (q : At (dif H H') y (f i)) :
    kLcE D i (PvR H1 (DR H1 f) D) y H' := by
  refine iLcR hD hi hl (e1.trans e2) (e2 _ _ hacc) ?_
  show AtAll _ _ _
  rw [List.range_succ, List.map_append, List.map_singleton]
  refine (AtAll.ex (dif_mono (mk_mono e2)) _ r).append (.one (q.ex (dif_mkD e1 fun z => ?_)))
  rw [hacc] at z
  cases z
theorem lcD_end {H H1 H2 : Hp} {f : Nat → PyData} {D : Addr} {acc : List V} {n : Nat} (e0 : Ex H H1) (hD : H1 D = none) (hacc : H2 D = some (.lst acc)) (r : DR H1 f n acc H2) : At (dif H H2) (.ref D) (.list ((List.range n).map f)) :=
  .lst (dif_of (back_none e0 hD) hacc) (AtAll.ex (dif_back e0) _ r)
theorem map_range_get {α β : Type} (xs : List α) (f : α → β) (g : Nat → β) (h : ∀ i x, xs[i]? = some x → g i = f x) : (List.range xs.length).map g = xs.map f := by
  refine List.ext_getElem? fun i => ?_
  rw [List.getElem?_map, List.getElem?_map]
  rcases Nat.lt_or_ge i xs.length with hi | hi
  · rw [List.getElem?_range hi, List.getElem?_eq_getElem hi]
    exact congrArg some (h i _ (List.getElem?_eq_getElem hi))
  · rw [List.getElem?_eq_none (by simpa using hi), List.getElem?_eq_none (by omega)]
    rfl
/-! ### constants of the module that are tuples -/
def WTup (K : PySem.W.Frag) (mg : Str → Option Value) (x : Str) (xs : List V) : Prop := ∃ a, mg x = some (.ref a) ∧ ∀ H : Hp, SqT K H a xs
def tW (K : PySem.W.Frag) (xs : List V) : TE := fun σ H Q => ∀ a, (∀ H : Hp, SqT K H a xs) → Q (.ref a) H
theorem pe_globW {X : Cx} {x : Str} {xs : List V} {pos : Pos} (hg : Gl X x) (h : WTup X.K X.mg x xs) (hd : (x == ("__debug__" : Str)) = false := by decide) : PE X (.Name x pos) (tW X.K xs) := by
  obtain ⟨a, h, hs⟩ := h
  exact PE.imp (pe_glob (v := V.ref a) hg h rfl hd) fun σ H Q q => q a hs
theorem WTup.mk' {K : PySem.W.Frag} {mg : Str → Option Value} {x : Str} {xs : List V} {a : Addr} {od : Option Addr} {its : Array Value} {n : Nat} {sl : Array (Option Value)} (h : mg x = some (.ref a)) (l : K.lookup a = some ⟨.type "tuple", od, .seq its n, sl⟩) (hz : its.size ≤ 1000) (v : Vals xs its.toList) : WTup K mg x xs :=
  ⟨a, h, fun H => .inr ⟨_, its, n, l, rfl, rfl, Evl.sz_of (by omega), v⟩⟩
theorem iW {K : PySem.W.Frag} {xs : List V} {σ : L2.St} {H : Hp} {Q : VK} (q : ∀ a, (∀ H : Hp, SqT K H a xs) → Q (.ref a) H) : tW K xs σ H Q := q
end R
set_option Elab.async false
set_option linter.all false
set_option maxRecDepth 100000
set_option maxHeartbeats 4000000
namespace R
open PySem PySem.Spec L2
open Evl (Ex)
/-! ### disks, plainly -/
abbrev Sec := List V
structure DK where
  n : Nat
  m : Nat
  k : Nat
  s : Nat
  there : Nat → Bool
  media : Nat → Nat → Option Sec
  wait : Nat → List (Nat × Sec)
  on : Bool
  left : Option Nat
  fails : Nat
  reads : Nat
  writes : Nat
  syncs : Nat
  inuse : Bool
  formatted : Bool
  scrub : Int
def step (f : Nat → Option Sec) (z : (Nat × Sec) × Bool) : Nat → Option Sec := if z.2 = true then (fun j => if j = z.1.1 then some z.1.2 else f j) else f
def layW (f : Nat → Option Sec) (ws : List (Nat × Sec)) (ks : List Bool) : Nat → Option Sec := (ws.zip ks).foldl step f
def lastW (ws : List (Nat × Sec)) (j : Nat) : Option Sec := (ws.reverse.find? fun w => w.1 == j).map (·.2)
namespace DK
def cell (D : DK) (d j : Nat) : Option Sec := (lastW (D.wait d) j).or (D.media d j)
def settle (D : DK) (d : Nat) (ks : List Bool) : DK := { D with media := fun e => if e = d then layW (D.media d) (D.wait d) ks else D.media e, wait := fun e => if e = d then [] else D.wait e }
def settles (D : DK) (K : Nat → List Bool) (i : Nat) : DK := { D with media := fun e => if e < i then layW (D.media e) (D.wait e) (K e) else D.media e, wait := fun e => if e < i then [] else D.wait e }
def fail (D : DK) : DK := { D with on := false, left := none, fails := D.fails + 1, inuse := false }
def tick (D : DK) : DK := { D with left := D.left.map (· - 1) }
def write (D : DK) (d j : Nat) (x : Sec) : DK := if D.there d = true then { D.tick with writes := D.writes + 1, wait := fun e => if e = d then D.wait e ++ [(j, x)] else D.wait e } else D.tick
def sync (D : DK) : DK := ({ D.tick with syncs := D.syncs + 1 } : DK).settles (fun d => List.replicate (D.wait d).length true) D.n
def rot (D : DK) (d j : Nat) (x : Sec) : DK := if D.there d = true then { D with media := fun e i => if e = d ∧ i = j then some x else D.media e i } else D
def bad (D : DK) (d j : Nat) : DK := { D with media := fun e i => if e = d ∧ i = j then none else D.media e i }
def empty (D : DK) (d : Nat) : DK := { D with media := fun e i => if e = d then none else D.media e i, wait := fun e => if e = d then [] else D.wait e }
def away (D : DK) (d : Nat) : DK := { D.empty d with there := fun e => if e = d then false else D.there e }
def blank (D : DK) (d : Nat) : DK := { D.empty d with there := fun e => if e = d then true else D.there e }
def ask (D : DK) (d : Nat) : DK := if D.there d = true then { D with reads := D.reads + 1 } else D
def power (D : DK) (K : Nat → List Bool) : DK := { (if D.on = true then D.fail else D).settles K D.n with on := true }
def new (n m k s : Nat) : DK := ⟨n, m, k, s, fun _ => true, fun _ _ => none, fun _ => [], true, none, 0, 0, 0, 0, false, false, 0⟩
end DK
theorem layW_nil {f : Nat → Option Sec} {ks : List Bool} : layW f [] ks = f := rfl
theorem lastW_nil {j : Nat} : lastW [] j = none := rfl
theorem lastW_snoc {ws : List (Nat × Sec)} {w : Nat × Sec} {j : Nat} : lastW (ws ++ [w]) j = if w.1 = j then some w.2 else lastW ws j := by
  unfold lastW
  rw [List.reverse_append, List.reverse_singleton, List.singleton_append, List.find?_cons]
  by_cases h : w.1 = j
  · simp [h]
  · have : (w.1 == j) = false := beq_eq_false_iff_ne.mpr h
    simp only [this, if_neg h]
theorem settles_succ {D : DK} {K : Nat → List Bool} {i : Nat} : (D.settles K i).settle i (K i) = D.settles K (i + 1) := by
  unfold DK.settles DK.settle
  simp only [Nat.lt_irrefl, if_false, DK.mk.injEq, true_and, and_true]
  refine ⟨?_, ?_⟩
  · funext e
    by_cases h : e = i
    · subst h; simp
    · have : (e < i + 1) ↔ e < i := by omega
      simp [h, this]
  · funext e
    by_cases h : e = i
    · subst h; simp
    · have : (e < i + 1) ↔ e < i := by omega
      simp [h, this]
theorem settles_zero {D : DK} {K : Nat → List Bool} : D.settles K 0 = D := by
  unfold DK.settles
  simp
/-! ### where they stand -/
inductive DL where
  | obj | there | media | wait | med (d : Nat) | wai (d : Nat)
def dom (n : Nat) : DL → Prop
  | .med d => d < n
  | .wai d => d < n
  | _ => True
def NMD : List Str := ["in_use", "formatted", "scrub_place", "_sizes", "_there", "_media", "_waiting", "_on", "_left", "_failures", "_reads", "_writes", "_syncs"]
def leftV : Option Nat → V
  | none => .non
  | some i => .int (i : Nat)
def flds (szs : Addr) (L : DL → Addr) (D : DK) : List V := [.bl D.inuse, .bl D.formatted, .int D.scrub, .ref szs, .ref (L .there), .ref (L .media), .ref (L .wait), .bl D.on, leftV D.left, .int (D.fails : Nat), .int (D.reads : Nat), .int (D.writes : Nat), .int (D.syncs : Nat)]
def theL (D : DK) : List V := (List.range D.n).map fun d => V.bl (D.there d)
def medL (L : DL → Addr) (n : Nat) : List V := (List.range n).map fun d => V.ref (L (.med d))
def waiL (L : DL → Addr) (n : Nat) : List V := (List.range n).map fun d => V.ref (L (.wai d))
def SD (C dx szs : Addr) (L : DL → Addr) (D : DK) (cm cw : Nat → List V) : DL → HO
  | .obj => .ins C dx (NMD.zip (flds szs L D))
  | .there => .lst (theL D)
  | .media => .lst (medL L D.n)
  | .wait => .lst (waiL L D.n)
  | .med d => .lst (cm d)
  | .wai d => .lst (cw d)
def CellRep (F : Hp) (v : V) : Option Sec → Prop
  | none => v = .non
  | some xs => ∃ p, v = .ref p ∧ F p = some (.lst xs)
structure MedRep (F : Hp) (m : Nat) (vs : List V) (f : Nat → Option Sec) : Prop where
  len : vs.length = m
  at_ : ∀ (j : Nat) (v : V), vs[j]? = some v → CellRep F v (f j)
structure WaiRep (F : Hp) (m : Nat) (vs : List V) (ws : List (Nat × Sec)) : Prop where
  len : vs.length = ws.length
  at_ : ∀ (i : Nat) (v : V) (w : Nat × Sec), vs[i]? = some v → ws[i]? = some w → w.1 < m ∧ ∃ (t p : Addr), v = .ref t ∧ F t = some (.tup [.int (w.1 : Nat), .ref p]) ∧ F p = some (.lst w.2)
structure DRep (C dx szs : Addr) (H F Rs : Hp) (L : DL → Addr) (D : DK) (cm cw : Nat → List V) : Prop where
  own : Own H F Rs (dom D.n) L (SD C dx szs L D cm cw)
  sz : F szs = some (.tup [.int (D.n : Nat), .int (D.m : Nat), .int (D.k : Nat), .int (D.s : Nat)])
  n8 : D.n ≤ 8
  m2 : D.m ≤ 200
  med : ∀ d, d < D.n → MedRep F D.m (cm d) (D.media d)
  wai : ∀ d, d < D.n → WaiRep F D.m (cw d) (D.wait d)
def DAt (C : Addr) (H F Rs : Hp) (L : DL → Addr) (D : DK) : Prop := ∃ dx szs cm cw, DRep C dx szs H F Rs L D cm cw
theorem CellRep.ex {F F' : Hp} {v : V} {o : Option Sec} (e : Ex F F') (h : CellRep F v o) : CellRep F' v o := by
  cases o with
  | none => exact h
  | some xs =>
    obtain ⟨p, rfl, h⟩ := h
    exact ⟨p, rfl, e _ _ h⟩
theorem MedRep.ex {F F' : Hp} {m : Nat} {vs : List V} {f : Nat → Option Sec} (e : Ex F F') (h : MedRep F m vs f) : MedRep F' m vs f := ⟨h.len, fun j v hv => (h.at_ j v hv).ex e⟩
theorem WaiRep.ex {F F' : Hp} {m : Nat} {vs : List V} {ws : List (Nat × Sec)} (e : Ex F F') (h : WaiRep F m vs ws) : WaiRep F' m vs ws := ⟨h.len, fun i v w hv hw => by
  obtain ⟨l, t, p, rfl, h1, h2⟩ := h.at_ i v w hv hw
  exact ⟨l, t, p, rfl, e _ _ h1, e _ _ h2⟩⟩
theorem WaiRep.nil {F : Hp} {m : Nat} : WaiRep F m [] [] := ⟨rfl, fun i v w h => by simp at h⟩
theorem WaiRep.snoc {F : Hp} {m : Nat} {vs : List V} {ws : List (Nat × Sec)} {t p : Addr} {j : Nat} {x : Sec} (h : WaiRep F m vs ws) (hj : j < m) (ht : F t = some (.tup [.int (j : Nat), .ref p])) (hp : F p = some (.lst x)) : WaiRep F m (vs ++ [.ref t]) (ws ++ [(j, x)]) := by
  refine ⟨by rw [List.length_append, List.length_append, h.len]; rfl, fun i v w hv hw => ?_⟩
  rw [List.getElem?_append] at hv hw
  by_cases hi : i < vs.length
  · rw [if_pos hi] at hv
    rw [if_pos (by rw [← h.len]; exact hi)] at hw
    exact h.at_ i v w hv hw
  · rw [if_neg hi] at hv
    rw [if_neg (by rw [← h.len]; exact hi), ← h.len] at hw
    cases e : i - vs.length with
    | zero =>
      rw [e] at hv hw
      cases hv
      cases hw
      exact ⟨hj, t, p, rfl, ht, hp⟩
    | succ z => rw [e] at hv; simp at hv
theorem MedRep.set {F : Hp} {m : Nat} {vs : List V} {f g : Nat → Option Sec} {j : Nat} {v : V} (h : MedRep F m vs f) (hv : CellRep F v (g j)) (hg : ∀ i, i ≠ j → g i = f i) : MedRep F m (vs.set j v) g := by
  refine ⟨by rw [List.length_set]; exact h.len, fun i u hu => ?_⟩
  rw [List.getElem?_set] at hu
  by_cases e : j = i
  · subst e
    rw [if_pos rfl] at hu
    split at hu
    · cases hu; exact hv
    · cases hu
  · rw [if_neg e] at hu
    rw [hg i (Ne.symm e)]
    exact h.at_ i u hu
theorem MedRep.blank {F : Hp} {m : Nat} {f : Nat → Option Sec} (hf : ∀ j, f j = none) : MedRep F m (List.replicate m .non) f := ⟨List.length_replicate, fun j v hv => by
  rw [hf j]
  rw [List.getElem?_replicate] at hv
  split at hv
  · cases hv; rfl
  · cases hv⟩
theorem theL_get {D : DK} {d : Nat} (h : d < D.n) : (theL D)[d]? = some (.bl (D.there d)) := by unfold theL; rw [List.getElem?_map, List.getElem?_range h]; rfl
theorem medL_get {L : DL → Addr} {n d : Nat} (h : d < n) : (medL L n)[d]? = some (.ref (L (.med d))) := by unfold medL; rw [List.getElem?_map, List.getElem?_range h]; rfl
theorem waiL_get {L : DL → Addr} {n d : Nat} (h : d < n) : (waiL L n)[d]? = some (.ref (L (.wai d))) := by unfold waiL; rw [List.getElem?_map, List.getElem?_range h]; rfl
theorem theL_len {D : DK} : (theL D).length = D.n := by unfold theL; rw [List.length_map, List.length_range]
theorem medL_len {L : DL → Addr} {n : Nat} : (medL L n).length = n := by unfold medL; rw [List.length_map, List.length_range]
theorem waiL_len {L : DL → Addr} {n : Nat} : (waiL L n).length = n := by unfold waiL; rw [List.length_map, List.length_range]
theorem map_set_range {n d : Nat} {f : Nat → V} {v : V} : ((List.range n).map f).set d v = (List.range n).map fun e => if e = d then v else f e := by
  refine List.ext_getElem? fun i => ?_
  rw [List.getElem?_set, List.length_map, List.length_range, List.getElem?_map, List.getElem?_map]
  by_cases hi : i < n
  · rw [List.getElem?_range hi]
    by_cases e : d = i
    · subst e; rw [if_pos rfl, if_pos hi]; simp
    · rw [if_neg e]; simp [Ne.symm e]
  · rw [List.getElem?_eq_none (by rw [List.length_range]; omega)]
    by_cases e : d = i
    · subst e; rw [if_pos rfl, if_neg hi]; rfl
    · rw [if_neg e]; rfl
namespace DRep
variable {C dx szs : Addr} {H H' F F' Rs Rs' : Hp} {L : DL → Addr} {D D' : DK} {cm cw : Nat → List V} {d j : Nat}
theorem at_ (h : DRep C dx szs H F Rs L D cm cw) : DAt C H F Rs L D := ⟨dx, szs, cm, cw, h⟩
theorem hO (h : DRep C dx szs H F Rs L D cm cw) : H (L .obj) = some (.ins C dx (NMD.zip (flds szs L D))) := h.own.lay.at_ .obj trivial
theorem hT (h : DRep C dx szs H F Rs L D cm cw) : H (L .there) = some (.lst (theL D)) := h.own.lay.at_ .there trivial
theorem hM (h : DRep C dx szs H F Rs L D cm cw) : H (L .media) = some (.lst (medL L D.n)) := h.own.lay.at_ .media trivial
theorem hW (h : DRep C dx szs H F Rs L D cm cw) : H (L .wait) = some (.lst (waiL L D.n)) := h.own.lay.at_ .wait trivial
theorem hm (h : DRep C dx szs H F Rs L D cm cw) (hd : d < D.n) : H (L (.med d)) = some (.lst (cm d)) := h.own.lay.at_ (.med d) hd
theorem hw (h : DRep C dx szs H F Rs L D cm cw) (hd : d < D.n) : H (L (.wai d)) = some (.lst (cw d)) := h.own.lay.at_ (.wai d) hd
theorem hs (h : DRep C dx szs H F Rs L D cm cw) : H szs = some (.tup [.int (D.n : Nat), .int (D.m : Nat), .int (D.k : Nat), .int (D.s : Nat)]) := h.own.f _ _ h.sz
theorem ne (h : DRep C dx szs H F Rs L D cm cw) {x y : DL} (hx : dom D.n x) (hy : dom D.n y) (e : x ≠ y) : L x ≠ L y := h.own.lay.ne hx hy e
theorem ex (h : DRep C dx szs H F Rs L D cm cw) (e : Ex H H') : DRep C dx szs H' F Rs L D cm cw := { h with own := h.own.ex e }
theorem new {p : Addr} {o : HO} (h : DRep C dx szs H F Rs L D cm cw) (e : H p = none) : DRep C dx szs (upd H p o) F Rs L D cm cw := h.ex (Evl.Ex.new e)
theorem weak (h : DRep C dx szs H F Rs L D cm cw) (e : Ex Rs' Rs) : DRep C dx szs H F Rs' L D cm cw := { h with own := h.own.weak e }
theorem newR {p : Addr} {o : HO} (h : DRep C dx szs H F Rs L D cm cw) (e : H p = none) : DRep C dx szs (upd H p o) F (upd Rs p o) L D cm cw := { h with own := h.own.newR e }
theorem put {p : Addr} {o o' : HO} (h : DRep C dx szs H F Rs L D cm cw) (e : Rs p = some o) : DRep C dx szs (upd H p o') F (upd Rs p o') L D cm cw := { h with own := h.own.put e }
theorem ice {p : Addr} {o : HO} (h : DRep C dx szs H F Rs L D cm cw) (h2 : Rs p = none) (h3 : ∀ y, dom D.n y → L y ≠ p) (h1 : F p = none) (hp : H p = some o) : DRep C dx szs H (upd F p o) Rs L D cm cw :=
  ⟨h.own.ice h2 h3 hp, (ex_new h1) _ _ h.sz, h.n8, h.m2, fun d hd => (h.med d hd).ex (ex_new h1), fun d hd => (h.wai d hd).ex (ex_new h1)⟩
theorem newF {p : Addr} {o : HO} (h : DRep C dx szs H F Rs L D cm cw) (e : H p = none) : DRep C dx szs (upd H p o) (upd F p o) Rs L D cm cw :=
  (h.new e).ice (h.own.free e).2.1 (h.own.free e).2.2 (h.own.free e).1 upd_same
/-- numbers and switches -/
theorem fields (h : DRep C dx szs H F Rs L D cm cw) (e1 : D'.n = D.n) (e2 : D'.m = D.m) (e3 : D'.k = D.k) (e4 : D'.s = D.s) (e5 : D'.there = D.there) (e6 : D'.media = D.media) (e7 : D'.wait = D.wait) :
    DRep C dx szs (upd H (L .obj) (.ins C dx (NMD.zip (flds szs L D')))) F Rs L D' cm cw := by
  refine ⟨?_, ?_, ?_, ?_, ?_, ?_⟩
  · rw [e1]
    refine (h.own.set (x := DL.obj) trivial).cong fun x hx => ?_
    cases x with
    | obj => exact chg_same
    | there => rw [chg_ne (by intro z; cases z)]; show HO.lst (theL D) = HO.lst (theL D'); unfold theL; rw [e1, e5]
    | media => rw [chg_ne (by intro z; cases z)]; show HO.lst (medL L D.n) = HO.lst (medL L D'.n); rw [e1]
    | wait => rw [chg_ne (by intro z; cases z)]; show HO.lst (waiL L D.n) = HO.lst (waiL L D'.n); rw [e1]
    | med d => rw [chg_ne (by intro z; cases z)]; rfl
    | wai d => rw [chg_ne (by intro z; cases z)]; rfl
  · rw [e1, e2, e3, e4]; exact h.sz
  · rw [e1]; exact h.n8
  · rw [e2]; exact h.m2
  · rw [e1, e2, e6]; exact h.med
  · rw [e1, e2, e7]; exact h.wai
/-- a disk comes or goes -/
theorem setThere {b : Bool} (h : DRep C dx szs H F Rs L D cm cw) (hd : d < D.n) : DRep C dx szs (upd H (L .there) (.lst ((theL D).set d (.bl b)))) F Rs L { D with there := fun e => if e = d then b else D.there e } cm cw := by
  refine ⟨?_, h.sz, h.n8, h.m2, h.med, h.wai⟩
  refine (h.own.set (x := DL.there) trivial).cong fun x hx => ?_
  cases x with
  | there =>
    rw [chg_same]
    show HO.lst _ = HO.lst _
    unfold theL
    rw [map_set_range]
    congr 2
    funext e
    by_cases z : e = d <;> simp [z]
  | obj => rw [chg_ne (by intro z; cases z)]; rfl
  | media => rw [chg_ne (by intro z; cases z)]; rfl
  | wait => rw [chg_ne (by intro z; cases z)]; rfl
  | med d => rw [chg_ne (by intro z; cases z)]; rfl
  | wai d => rw [chg_ne (by intro z; cases z)]; rfl
/-- a sector of a medium -/
theorem setMed {v : V} {f : Nat → Nat → Option Sec} (h : DRep C dx szs H F Rs L D cm cw) (hd : d < D.n) (hv : CellRep F v (f d j)) (hf : ∀ i, i ≠ j → f d i = D.media d i) (hg : ∀ e, e ≠ d → f e = D.media e) :
    DRep C dx szs (upd H (L (.med d)) (.lst ((cm d).set j v))) F Rs L { D with media := f } (fun e => if e = d then (cm d).set j v else cm e) cw := by
  refine ⟨?_, h.sz, h.n8, h.m2, fun e he => ?_, h.wai⟩
  · refine (h.own.set (x := DL.med d) hd).cong fun x hx => ?_
    cases x with
    | med e =>
      by_cases z : e = d
      · subst z; rw [chg_same]; show _ = HO.lst (if e = e then _ else _); rw [if_pos rfl]
      · rw [chg_ne (by intro y; cases y; exact z rfl)]; show HO.lst (cm e) = HO.lst (if e = d then _ else _); rw [if_neg z]
    | there => rw [chg_ne (by intro z; cases z)]; rfl
    | obj => rw [chg_ne (by intro z; cases z)]; rfl
    | media => rw [chg_ne (by intro z; cases z)]; rfl
    | wait => rw [chg_ne (by intro z; cases z)]; rfl
    | wai d => rw [chg_ne (by intro z; cases z)]; rfl
  · show MedRep F D.m (if e = d then _ else _) (f e)
    by_cases z : e = d
    · subst z; rw [if_pos rfl]; exact (h.med e hd).set hv hf
    · rw [if_neg z, hg e z]; exact h.med e he
/-- nothing waits any more -/
theorem newWait {p : Addr} (h : DRep C dx szs H F Rs L D cm cw) (hd : d < D.n) (hp : H p = none) :
    DRep C dx szs (upd (upd H p (.lst [])) (L .wait) (.lst ((waiL L D.n).set d (.ref p)))) F Rs (chg L (.wai d) p) { D with wait := fun e => if e = d then [] else D.wait e } cm (fun e => if e = d then [] else cw e) := by
  have fr := h.own.free hp
  refine ⟨?_, h.sz, h.n8, h.m2, h.med, fun e he => ?_⟩
  · refine (((h.own.new hp (o := .lst [])).set (x := DL.wait) (o := .lst ((waiL L D.n).set d (.ref p))) trivial).mov (x := DL.wai d) (p := p) (o := .lst []) fr.1 fr.2.1 fr.2.2 ((upd_ne (fr.2.2 .wait trivial).symm).trans upd_same)).cong fun x hx => ?_
    have c0 : ∀ y : DL, y ≠ .wai d → chg L (.wai d) p y = L y := fun y hy => chg_ne hy
    cases x with
    | wai e =>
      by_cases z : e = d
      · subst z; rw [chg_same]; show _ = HO.lst (if e = e then _ else _); rw [if_pos rfl]
      · rw [chg_ne (by intro y; cases y; exact z rfl), chg_ne (by intro y; cases y)]; show HO.lst (cw e) = HO.lst (if e = d then _ else _); rw [if_neg z]
    | wait =>
      rw [chg_ne (by intro y; cases y), chg_same]
      show HO.lst _ = HO.lst _
      unfold waiL
      rw [map_set_range]
      congr 2
      funext e
      by_cases z : e = d
      · subst z; rw [if_pos rfl, chg_same]
      · rw [if_neg z, chg_ne (by intro y; cases y; exact z rfl)]
    | obj =>
      rw [chg_ne (by intro y; cases y), chg_ne (by intro y; cases y)]
      show HO.ins C dx (NMD.zip (flds szs L D)) = HO.ins C dx (NMD.zip (flds szs (chg L (.wai d) p) _))
      unfold flds
      rw [c0 .there (by intro y; cases y), c0 .media (by intro y; cases y), c0 .wait (by intro y; cases y)]
    | there => rw [chg_ne (by intro y; cases y), chg_ne (by intro y; cases y)]; rfl
    | media =>
      rw [chg_ne (by intro y; cases y), chg_ne (by intro y; cases y)]
      show HO.lst (medL L D.n) = HO.lst (medL (chg L (.wai d) p) D.n)
      unfold medL
      congr 2
      funext e
      rw [c0 (.med e) (by intro y; cases y)]
    | med e => rw [chg_ne (by intro y; cases y), chg_ne (by intro y; cases y)]; rfl
  · show WaiRep F D.m (if e = d then [] else cw e) (if e = d then [] else D.wait e)
    by_cases z : e = d
    · rw [if_pos z, if_pos z]; exact .nil
    · rw [if_neg z, if_neg z]; exact h.wai e he
/-- a blank medium -/
theorem newMed {p : Addr} (h : DRep C dx szs H F Rs L D cm cw) (hd : d < D.n) (hp : H p = none) :
    DRep C dx szs (upd (upd H p (.lst (List.replicate D.m .non))) (L .media) (.lst ((medL L D.n).set d (.ref p)))) F Rs (chg L (.med d) p) { D with media := fun e i => if e = d then none else D.media e i } (fun e => if e = d then List.replicate D.m .non else cm e) cw := by
  have fr := h.own.free hp
  refine ⟨?_, h.sz, h.n8, h.m2, fun e he => ?_, h.wai⟩
  · refine (((h.own.new hp (o := .lst (List.replicate D.m .non))).set (x := DL.media) (o := .lst ((medL L D.n).set d (.ref p))) trivial).mov (x := DL.med d) (p := p) (o := .lst (List.replicate D.m .non)) fr.1 fr.2.1 fr.2.2 ((upd_ne (fr.2.2 .media trivial).symm).trans upd_same)).cong fun x hx => ?_
    have c0 : ∀ y : DL, y ≠ .med d → chg L (.med d) p y = L y := fun y hy => chg_ne hy
    cases x with
    | med e =>
      by_cases z : e = d
      · subst z; rw [chg_same]; show _ = HO.lst (if e = e then _ else _); rw [if_pos rfl]
      · rw [chg_ne (by intro y; cases y; exact z rfl), chg_ne (by intro y; cases y)]; show HO.lst (cm e) = HO.lst (if e = d then _ else _); rw [if_neg z]
    | media =>
      rw [chg_ne (by intro y; cases y), chg_same]
      show HO.lst _ = HO.lst _
      unfold medL
      rw [map_set_range]
      congr 2
      funext e
      by_cases z : e = d
      · subst z; rw [if_pos rfl, chg_same]
      · rw [if_neg z, chg_ne (by intro y; cases y; exact z rfl)]
    | obj =>
      rw [chg_ne (by intro y; cases y), chg_ne (by intro y; cases y)]
      show HO.ins C dx (NMD.zip (flds szs L D)) = HO.ins C dx (NMD.zip (flds szs (chg L (.med d) p) _))
      unfold flds
      rw [c0 .there (by intro y; cases y), c0 .media (by intro y; cases y), c0 .wait (by intro y; cases y)]
    | there => rw [chg_ne (by intro y; cases y), chg_ne (by intro y; cases y)]; rfl
    | wait =>
      rw [chg_ne (by intro y; cases y), chg_ne (by intro y; cases y)]
      show HO.lst (waiL L D.n) = HO.lst (waiL (chg L (.med d) p) D.n)
      unfold waiL
      congr 2
      funext e
      rw [c0 (.wai e) (by intro y; cases y)]
    | wai e => rw [chg_ne (by intro y; cases y), chg_ne (by intro y; cases y)]; rfl
  · show MedRep F D.m (if e = d then _ else cm e) (fun i => if e = d then none else D.media e i)
    by_cases z : e = d
    · rw [if_pos z]; exact MedRep.blank fun j => by rw [if_pos z]
    · rw [if_neg z, show (fun i => if e = d then none else D.media e i) = D.media e from funext fun i => if_neg z]; exact h.med e he
/-- a write waits -/
theorem addWait {t p : Addr} {x : Sec} (h : DRep C dx szs H F Rs L D cm cw) (hd : d < D.n) (hj : j < D.m) (ht : F t = some (.tup [.int (j : Nat), .ref p])) (hp : F p = some (.lst x)) :
    DRep C dx szs (upd H (L (.wai d)) (.lst (cw d ++ [.ref t]))) F Rs L { D with wait := fun e => if e = d then D.wait e ++ [(j, x)] else D.wait e } cm (fun e => if e = d then cw e ++ [.ref t] else cw e) := by
  refine ⟨?_, h.sz, h.n8, h.m2, h.med, fun e he => ?_⟩
  · refine (h.own.set (x := DL.wai d) hd).cong fun x hx => ?_
    cases x with
    | wai e =>
      by_cases z : e = d
      · subst z; rw [chg_same]; show _ = HO.lst (if e = e then _ else _); rw [if_pos rfl]
      · rw [chg_ne (by intro y; cases y; exact z rfl)]; show HO.lst (cw e) = HO.lst (if e = d then _ else _); rw [if_neg z]
    | there => rw [chg_ne (by intro z; cases z)]; rfl
    | obj => rw [chg_ne (by intro z; cases z)]; rfl
    | media => rw [chg_ne (by intro z; cases z)]; rfl
    | wait => rw [chg_ne (by intro z; cases z)]; rfl
    | med d => rw [chg_ne (by intro z; cases z)]; rfl
  · show WaiRep F D.m (if e = d then _ else cw e) (if e = d then _ else D.wait e)
    by_cases z : e = d
    · subst z; rw [if_pos rfl, if_pos rfl]; exact (h.wai e hd).snoc hj ht hp
    · rw [if_neg z, if_neg z]; exact h.wai e he
end DRep
end R
set_option Elab.async false
set_option linter.all false
set_option maxRecDepth 100000
set_option maxHeartbeats 4000000
namespace R
open PySem PySem.Spec PyProof.Rows L2 L2H HotX
/-! ### iterators that end while an exception is handled -/
section
variable {prog : Program} {w : World} {A : Around} {E : Value → Shared → Prop} {s : Shared}
/-- what is handled stays so where other objects change -/
theorem hotAt_kept {A : Around} {x1 : Addr} {h h' : Heap} (hot : HotAt A x1 h) (k : ∀ o, h.get? x1 = some o → h'.get? x1 = some o) : HotAt A x1 h' := by
  obtain ⟨g, o, vs, e, d, c⟩ := hot
  exact ⟨g, o, vs, k o e, d, c⟩
/-- what is handled is no list's iterator -/
theorem hotAt_ne {A : Around} {x1 it l : Addr} {i : Nat} {h : Heap} (hot : HotAt A x1 h) (hit : h.IsListIter it l i) : x1 ≠ it := by
  rintro rfl
  obtain ⟨g, o, vs, e, d, c⟩ := hot
  obtain ⟨o', e', _, d'⟩ := hit
  rw [e] at e'
  cases e'
  rw [d] at d'
  have dd : vs = #[.ref l, .int i 0] := by injection d'
  rw [dd] at c
  simp at c
/-- StopIteration, made and raised there -/
theorem stop_hot {α : Type} {x1 : Addr} {Q : α → Shared → Prop} (hot : HotAt A x1 s.heap)
    (hE : ∀ h' e, (∀ b o, s.heap.get? b = some o → h'.get? b = some o) → (∃ o, h'.get? e = some o ∧ o.cls = .type "StopIteration") → E (.ref e) { s with heap := h' }) :
    wpAny (model prog w) A ((do let e ← newExc (.type "StopIteration") []; raiseNew e) : Sem α) Q E s := by
  obtain ⟨hh, o1, vs1, h1, d1, c1⟩ := hot
  refine wpAny_bind ?_
  (simp only [newExc, newTuple]; refine wpAny_bind (wpAny_newObj_type ?_ (by size_fits)))
  (refine wpAny_bind (m := firstArgMember _ _) (wpAny_of_eq (a := Value.none) (by first | rfl | (simp only [firstArgMember]; rfl)) ?_); refine wpAny_newObj_type ?_ (by size_fits))
  have k1 : ∀ b o, s.heap.get? b = some o → ∀ p q, ((s.heap.push p).push q).get? b = some o := fun b o e p q => Heap.get?_push_of_some _ (Heap.get?_push_of_some _ e)
  refine raiseNew_hot (x1 := x1) ⟨hh, o1, vs1, k1 _ _ h1 _ _, d1, c1⟩ (Nat.ne_of_lt (Heap.lt_size (Heap.get?_push_of_some _ h1))) (Heap.get?_push_size _ rfl) rfl (by first | (simp; done) | (simp; omega) | (simp only [Array.size_append]; simp; omega)) ?_
  refine hE _ _ (fun b o e => ?_) ⟨_, Heap.get?_update_self _ (Heap.get?_push_size _ rfl) rfl, rfl⟩
  rw [Heap.get?_update_other _ _ (Nat.ne_of_gt (Heap.lt_size (Heap.get?_push_of_some _ e)))]
  exact k1 b o e _ _
/-- a list's iterator at its end: __next__ there -/
theorem lnext_hot {it l x1 : Addr} {i : Nat} {items : Array Value} {Q : Value → Shared → Prop} (hot : HotAt A x1 s.heap) (hit : s.heap.IsListIter it l i) (hl : s.heap.IsList l items) (hx : items[i]? = none)
    (hE : ∀ h' e, (∀ b o, b ≠ it → s.heap.get? b = some o → h'.get? b = some o) → (∃ o, h'.get? e = some o ∧ o.cls = .type "StopIteration") → E (.ref e) { s with heap := h' }) :
    wpAny (model prog w) A (call (.builtin "list_iterator.__next__") [.ref it]) Q E s := by
  have ne := hotAt_ne hot hit
  obtain ⟨o, ho, hc, hd⟩ := id hit
  obtain ⟨ol, hol, _, nl, hdl⟩ := hl
  refine wpAny_call_entry slot_listiter_next hit.typeIs entry_listiter_next ?_ (args_listiter_next _)
  (show wpAny _ _ (field (.ref it) 0 >>= _) _ _ s; refine wpAny_bind (wpAny_field ho hd (x := .ref l) rfl ?_))
  (show wpAny _ _ (if (Value.ref l == Value.none) = true then _ else _) _ _ s; rw [if_neg (show ¬ ((Value.ref l == Value.none) = true) from Bool.false_ne_true)])
  (show wpAny _ _ (field (.ref it) 1 >>= _) _ _ s; refine wpAny_bind (wpAny_field ho hd (x := .int i 0) rfl ?_))
  (show wpAny _ _ (seqItems? (.ref l) >>= _) _ _ s; refine wpAny_bind (wpAny_seqItems hol hdl ?_))
  (simp only [Int.toNat_natCast, hx]; refine wpAny_bind (wpAny_rule (wpAny_bind (wpAny_setField ho hd (by simp) ?_))))
  have k0 : ∀ b u, b ≠ it → s.heap.get? b = some u → (s.heap.update it (Obj.mapFields (·.setIfInBounds 0 .none))).get? b = some u := fun b u hb e => (Heap.get?_update_other _ _ (Ne.symm hb)).trans e
  refine stop_hot (A := A.in1) (x1 := x1) (hotAt_kept (A := A.in1) hot fun u e => k0 x1 u ne e) fun h' e kp he => ?_
  exact hE h' e (fun b u hb g => kp b u (k0 b u hb g)) he
theorem pyNext_list_end_hot {it l x1 : Addr} {i : Nat} {items : Array Value} {Q : Option Value → Shared → Prop} (hot : HotAt A x1 s.heap) (hit : s.heap.IsListIter it l i) (hl : s.heap.IsList l items) (hx : items[i]? = none)
    (hQ : ∀ h', (∀ b o, b ≠ it → s.heap.get? b = some o → h'.get? b = some o) → Q none { s with heap := h' }) : wpAny (model prog w) A (pyNext (.ref it)) Q E s := by
  unfold pyNext
  refine wpAny_bind (wpAny_attempt (wpAny_callSpecial?_slot (name := Str.ofString "__next__") hit.typeIs slot_listiter_next (lnext_hot hot hit hl hx fun h' e kp he => ?_)))
  obtain ⟨o, ho, hc⟩ := he
  exact wpAny_bind (wpAny_isInstance (T := "StopIteration") (b := true) ⟨o, ho, hc⟩ isSubtype_stop (wpAny_pure (hQ _ kp)))
theorem nextOf_list_end_hot {it l x1 : Addr} {i : Nat} {items : Array Value} {Q : Value → Shared → Prop} (hot : HotAt A x1 s.heap) (hit : s.heap.IsListIter it l i) (hl : s.heap.IsList l items) (hx : items[i]? = none)
    (hE : ∀ h' e, (∀ b o, b ≠ it → s.heap.get? b = some o → h'.get? b = some o) → (∃ o, h'.get? e = some o ∧ o.cls = .type "StopIteration") → E (.ref e) { s with heap := h' }) :
    wpAny (model prog w) A (Builtin.SmallTypes.nextOf (.ref it)) Q E s := by
  unfold Builtin.SmallTypes.nextOf
  exact wpAny_bind (wpAny_callSpecial?_slot (name := Str.ofString "__next__") hit.typeIs slot_listiter_next (lnext_hot hot hit hl hx hE))
/-- a zip of two lists at its end -/
theorem pyNext_zip_end_hot {z TI TO i1 i2 l1 l2 x1 : Addr} {k1 k2 : Nat} {xs ys : Array Value} {a b : Value} {Q : Option Value → Shared → Prop} (hot : HotAt A x1 s.heap) (D : ZipApart z TI TO i1 i2 l1 l2)
    (nz : x1 ≠ z) (nT : x1 ≠ TO) (hz : IsZip s.heap z TI TO .none) (hTI : IsPair s.heap TI (.ref i1) (.ref i2)) (hTO : IsPair s.heap TO a b)
    (h1 : s.heap.IsListIter i1 l1 k1) (h2 : s.heap.IsListIter i2 l2 k2) (hl1 : s.heap.IsList l1 xs) (hl2 : s.heap.IsList l2 ys) (hend : xs[k1]? = none ∨ ys[k2]? = none)
    (hQ : ∀ h', (∀ c o, c ≠ z → c ≠ TO → c ≠ i1 → c ≠ i2 → s.heap.get? c = some o → h'.get? c = some o) → Q none { s with heap := h' }) : wpAny (model prog w) A (pyNext (.ref z)) Q E s := by
  have n1 := hotAt_ne hot h1
  have n2 := hotAt_ne hot h2
  have hT : s.TypeIs (.ref z) "zip" := ⟨_, hz, rfl⟩
  unfold pyNext
  refine wpAny_bind (wpAny_attempt (wpAny_callSpecial?_slot (name := Str.ofString "__next__") hT PySem.F.slot_zip_next (wpAny_call_entry PySem.F.slot_zip_next hT PySem.F.entry_zip_next ?_ (PySem.F.args_zip_next_1 _))))
  have fin : ∀ (h' : Heap) (e : Addr), (∀ c o, c ≠ z → c ≠ TO → c ≠ i1 → c ≠ i2 → s.heap.get? c = some o → h'.get? c = some o) → (∃ o, h'.get? e = some o ∧ o.cls = .type "StopIteration") →
      wpAny (model prog w) A (isInstance (.ref e) (.type "StopIteration") >>= fun b => if b = true then pure none else throw (.ref e)) Q E { s with heap := h' } := fun h' e kp he => by
    obtain ⟨o, ho, hc⟩ := he
    exact wpAny_bind (wpAny_isInstance (T := "StopIteration") (b := true) ⟨o, ho, hc⟩ isSubtype_stop (wpAny_pure (hQ _ kp)))
  (show wpAny _ _ (field (.ref z) 2 >>= _) _ _ _; refine wpAny_bind (wpAny_field hz rfl (x := .bool false) rfl ?_))
  (show wpAny _ _ (field (.ref z) 3 >>= _) _ _ _; refine wpAny_bind (wpAny_field hz rfl (x := .ref TI) rfl (wpAny_bind (wpAny_seqItems hTI rfl ?_))))
  (show wpAny _ _ (Builtin.SmallTypes.ownedTupleIsFree (.ref z) >>= _) _ _ _; refine wpAny_bind ?_; unfold Builtin.SmallTypes.ownedTupleIsFree)
  (refine wpAny_bind (wpAny_field hz rfl (x := .none) rfl (wpAny_pure ?_)); simp only [if_true]; refine wpAny_bind (wpAny_rule (wpAny_bind (wpAny_field hz rfl (x := .ref TO) rfl ?_))))
  refine wpAny_bind (wpAny_setField_rec hz (by simp) fun g1 z1 s1 => ?_)
  replace z1 : IsZip g1 z TI TO .ellipsis := z1
  (refine wpAny_bind ?_; simp only [List.zipIdx_cons, List.zipIdx_nil, List.forIn_cons, List.forIn_nil]; refine wpAny_bind (wpAny_bind (wpAny_onRaise ?_)))
  (show wpAny _ _ (Builtin.SmallTypes.nextOf (.ref i1) >>= _) _ _ _; cases hx : xs[k1]?)
  case none =>
    refine wpAny_bind (nextOf_list_end_hot (A := A.in1) (hotAt_kept (A := A.in1) hot fun o e => s1.extBut _ _ nz e) (h1.extBut s1.extBut D.i1z) (hl1.extBut s1.extBut D.l1z) hx fun g2 e s2 he => ?_)
    obtain ⟨oe, hoe, hce⟩ := he
    have z2 : IsZip g2 z TI TO .ellipsis := s2 _ _ D.i1z.symm z1
    have hez : e ≠ z := fun x => by subst x; rw [z2] at hoe; cases hoe; simp at hce
    exact wpAny_setField_rec z2 (by simp) fun g3 _ s3 => fin g3 e (fun c o c1 _ c3 _ x => s3.extBut _ _ c1 (s2 _ _ c3 (s1.extBut _ _ c1 x))) ⟨oe, s3.extBut _ _ hez hoe, hce⟩
  case some x =>
    have hy : ys[k2]? = none := by rcases hend with h | h; rw [hx] at h; cases h; exact h
    refine wpAny_bind (wpAny_nextOf_list_item (h1.extBut s1.extBut D.i1z) (hl1.extBut s1.extBut D.l1z) hx fun g2 i1' s2 => wpAny_pure ?_)
    have t2 : IsPair g2 TO a b := s2.extBut _ _ D.TOi1 (s1.extBut _ _ D.TOz hTO)
    refine wpAny_bind (wpAny_seqItems t2 rfl (wpAny_bind (wpAny_updateSeq_pair t2 fun g3 t3 s3 => ?_)))
    (refine wpAny_bind (wpAny_letGo (wpAny_pure ?_)); refine wpAny_bind (wpAny_bind (wpAny_onRaise ?_)))
    show wpAny _ _ (Builtin.SmallTypes.nextOf (.ref i2) >>= _) _ _ { s with heap := g3 }
    have kx : ∀ o, s.heap.get? x1 = some o → g3.get? x1 = some o := fun o e => s3.extBut _ _ nT (s2.extBut _ _ n1 (s1.extBut _ _ nz e))
    refine wpAny_bind (nextOf_list_end_hot (A := A.in1) (hotAt_kept (A := A.in1) hot kx) (((h2.extBut s1.extBut D.i2z).extBut s2.extBut D.i12.symm).extBut s3.extBut D.TOi2.symm) (((hl2.extBut s1.extBut D.l2z).extBut s2.extBut D.l2i1).extBut s3.extBut D.l2TO) hy fun g4 e s4 he => ?_)
    obtain ⟨oe, hoe, hce⟩ := he
    have z4 : IsZip g4 z TI TO .ellipsis := s4 _ _ D.i2z.symm (s3.extBut _ _ D.TOz.symm (s2.extBut _ _ D.i1z.symm z1))
    have hez : e ≠ z := fun x => by subst x; rw [z4] at hoe; cases hoe; simp at hce
    exact wpAny_setField_rec z4 (by simp) fun g5 _ s5 => fin g5 e (fun c o c1 c2 c3 c4 x => s5.extBut _ _ c1 (s4 _ _ c4 (s3.extBut _ _ c2 (s2.extBut _ _ c3 (s1.extBut _ _ c1 x))))) ⟨oe, s5.extBut _ _ hez hoe, hce⟩
end
/-! ### walks there -/
theorem hot_of {X : Cx} {pins : List (Addr × Obj)} {σ : L2.St} {H : Hp} {s : Shared} (c : HotC X) (I : Inv X pins σ H s) : ∃ x1, HotAt X.A x1 s.heap ∧ ∀ b, FpOk X pins H b → x1 ≠ b := by
  obtain ⟨p, ⟨hh, v1, e1, c1⟩, hp⟩ := c
  exact ⟨p.1, ⟨hh, p.2, v1, (I.pin p (List.mem_append_left _ hp)).1, e1, c1⟩, fun b f => f.2.2.2.2.2 p (List.mem_append_left _ hp)⟩
theorem turn_listH {P : Program} {w : World} {K : PySem.W.Frag} {tg : Expr} (a it : Addr) : TurnH P w K tg (Itl K a) [it] it (fun i h => h.IsListIter it a i) where
  mem := List.mem_singleton.mpr rfl
  obj := fun i h st b hb => by
    obtain rfl : b = it := List.mem_singleton.mp hb
    obtain ⟨o, e, _, d⟩ := st
    exact ⟨o, e, fun v z => nomatch (d.symm.trans z)⟩
  keep := fun i h h' st k => st.at fun o e => k it (List.mem_singleton.mpr rfl) o e
  item := by
    rintro X rfl rfl rfl hc i pins s σ H E I hf st ⟨xs, x, hq, hx⟩
    obtain ⟨its, rv, p, hz⟩ := I.list hq
    obtain ⟨u, hu, ru⟩ := rv.get hx
    have f := hf it (List.mem_singleton.mpr rfl)
    refine wpAny_pyNext_list_item st p.isList (x := u) (by simpa using hu) fun h' st' sb => ?_
    obtain ⟨o, e, c, d⟩ := id st'
    have J : Inv X pins σ H { s with heap := h' } := I.turned (t' := s.toks) (fun b o hb e => (sb.2 b hb).trans e) f.1 f.2.1 f.2.2.2.1 f.2.2.2.2.1 f.2.2.2.2.2
    exact ⟨u, rfl, go_of (s := { s with heap := h' }) e c d (by decide) ⟨x, H, J, ru, ⟨rfl, fun ys hy => (I.list_inj hy hq) ▸ hx⟩, st', fun b hb => (hf b hb).1⟩⟩
  done := by
    rintro X rfl rfl rfl hc i pins s σ H E I hf st ⟨xs, hq, hx⟩
    obtain ⟨its, rv, p, hz⟩ := I.list hq
    have f := hf it (List.mem_singleton.mpr rfl)
    have l := rv.length
    obtain ⟨x1, hot, nx⟩ := hot_of hc I
    exact pyNext_list_end_hot hot st p.isList (by simp; omega) fun h' eb => ⟨rfl, I.turned (t' := s.toks) (fun b o hb e => eb b o hb e) f.1 f.2.1 f.2.2.2.1 f.2.2.2.2.1 f.2.2.2.2.2⟩
  self := fun _ _ _ _ _ st h => wpAny_pyIter_listiter st h
/-- for x in xs -/
theorem pi_listH {X : Cx} {tg l : Expr} {tl : TE} (hl : PE X l tl) : PIH X tg l (iList X.K tl) := by
  refine ⟨fun pins s σ H R I h => thn (hl.run pins s σ H _ I h) fun v s1 ⟨x, H1, I1, r1, q1⟩ => ?_⟩
  obtain ⟨a, rfl, ⟨xs, hq⟩, q⟩ := q1
  cases r1
  obtain ⟨its, rv, p, hz⟩ := I1.list hq
  refine wpAny_pyIter_list p.isList ⟨s1.heap.objs.size, [s1.heap.objs.size], _, _, H1, rfl, I1.kept (t' := s1.toks) fun b o e => Heap.get?_push_of_some _ e, turn_listH a _, ⟨_, Heap.get?_push_size _ rfl, rfl, rfl⟩, fun b hb => ?_, q⟩
  obtain rfl : b = s1.heap.objs.size := List.mem_singleton.mp hb
  exact I1.fpOk (Nat.le_refl _) (I1.hok.fresh (Nat.le_refl _))
/-- five cells -/
theorem five {c z t o i j : Addr} (h : c ∈ [z, t, o, i, j]) : c = z ∨ c = t ∨ c = o ∨ c = i ∨ c = j := by simpa using h
theorem off5 {c z t o i j : Addr} (h : c ∉ [z, t, o, i, j]) : c ≠ z ∧ c ≠ t ∧ c ≠ o ∧ c ≠ i ∧ c ≠ j := by simpa using h
theorem turn_zipH {P : Program} {w : World} {K : PySem.W.Frag} {elts : List Expr} {kk : Nat} {tpos : Pos} {a b z TI TO i1 i2 : Addr} (D : ZipApart z TI TO i1 i2 a b) :
    TurnH P w K (.Tuple elts kk tpos) (Itz K a b) [z, TI, TO, i1, i2] z (fun i h => IsZip h z TI TO .none ∧ IsPair h TI (.ref i1) (.ref i2) ∧ (∃ x y, IsPair h TO x y) ∧ h.IsListIter i1 a i ∧ h.IsListIter i2 b i) where
  mem := List.mem_cons_self
  obj := fun i h st c hc => by
    obtain ⟨g1, g2, ⟨x, y, g3⟩, ⟨o1, g4, _, d1⟩, ⟨o2, g5, _, d2⟩⟩ := st
    rcases five hc with rfl | rfl | rfl | rfl | rfl
    · exact ⟨_, g1, fun _ q => nomatch q⟩
    · exact ⟨_, g2, fun _ q => nomatch q⟩
    · exact ⟨_, g3, fun _ q => nomatch q⟩
    · exact ⟨o1, g4, fun _ q => nomatch (d1.symm.trans q)⟩
    · exact ⟨o2, g5, fun _ q => nomatch (d2.symm.trans q)⟩
  keep := fun i h h' ⟨g1, g2, ⟨x, y, g3⟩, g4, g5⟩ k =>
    ⟨k z (by simp) _ g1, k TI (by simp) _ g2, ⟨x, y, k TO (by simp) _ g3⟩, g4.at fun o q => k i1 (by simp) o q, g5.at fun o q => k i2 (by simp) o q⟩
  item := by
    rintro X rfl rfl rfl hc i pins s σ H E I hf ⟨g1, g2, ⟨x0, y0, g3⟩, g4, g5⟩ ⟨xs, ys, x, y, hqx, hqy, hx, hy⟩
    obtain ⟨its, rv, p, _⟩ := I.list hqx
    obtain ⟨jts, rv2, p2, _⟩ := I.list hqy
    obtain ⟨u, hu, ru⟩ := rv.get hx
    obtain ⟨v, hv, r2⟩ := rv2.get hy
    have hzl : z < s.heap.objs.size := Heap.lt_size g1
    refine wpAny_pyNext_zip_item D g1 g2 g3 g4 g5 p.isList p2.isList (x := u) (y := v) (by simpa using hu) (by simpa using hv) fun h' q1 q2 q3 q4 hT hsz hk => ⟨_, rfl, wpAny_letOwnedTupleGo_zip (s := { s with heap := h' }) q1 fun h2 z2 sb => ?_⟩
    have pairT : h2.get? s.heap.objs.size = some { cls := .type "tuple", data := .seq #[u, v] } := (sb.2 _ (Nat.ne_of_gt hzl)).trans hT
    have J : Inv X pins σ (upd H s.heap.objs.size (.tup [x, y])) { s with heap := h2 } := I.turnedNew (t' := s.toks) (ch := [z, TI, TO, i1, i2]) (fun c o hb q => by
      obtain ⟨n1, n2, n3, n4, n5⟩ := off5 hb
      exact (sb.2 c n1).trans (hk c o n1 n3 n4 n5 q)) hf (Nat.le_refl _) ⟨show 2 ≤ sizeLine by decide, [u, v], .cons ru (.cons r2 .nil), ⟨_, pairT, rfl, _, rfl⟩⟩
    refine ⟨.ref s.heap.objs.size, _, J, rfl, ⟨_, x, y, rfl, I.hok.fresh (Nat.le_refl _), rfl, fun l hl => (I.list_inj hl hqx) ▸ hx, fun l hl => (I.list_inj hl hqy) ▸ hy⟩,
      ⟨z2, (sb.2 _ D.TIz).trans (hk _ _ D.TIz D.TITO D.TIi1 D.TIi2 g2), ⟨u, v, (sb.2 _ D.TOz).trans q2⟩, q3.at fun o q => (sb.2 _ D.i1z).trans q, q4.at fun o q => (sb.2 _ D.i2z).trans q⟩, fun c hm => ?_⟩
    have low : c < s.heap.objs.size := by
      rcases five hm with rfl | rfl | rfl | rfl | rfl
      · exact hzl
      · exact Heap.lt_size g2
      · exact Heap.lt_size g3
      · exact let ⟨_, e, _⟩ := g4; Heap.lt_size e
      · exact let ⟨_, e, _⟩ := g5; Heap.lt_size e
    exact (upd_ne (Nat.ne_of_lt low)).trans (hf c hm).1
  done := by
    rintro X rfl rfl rfl hc i pins s σ H E I hf ⟨g1, g2, ⟨x0, y0, g3⟩, g4, g5⟩ ⟨xs, ys, hqx, hqy, hend⟩
    obtain ⟨its, rv, p, _⟩ := I.list hqx
    obtain ⟨jts, rv2, p2, _⟩ := I.list hqy
    have m1 := rv.length
    have m2 := rv2.length
    obtain ⟨x1, hot, nx⟩ := hot_of hc I
    have over : its.toArray[i]? = none ∨ jts.toArray[i]? = none := hend.imp (fun q => by simp; omega) fun q => by simp; omega
    exact pyNext_zip_end_hot hot D (nx z (hf z (by simp))) (nx TO (hf TO (by simp))) g1 g2 g3 g4 g5 p.isList p2.isList over fun h' hk => ⟨rfl, I.turnedL (t' := s.toks) (ch := [z, TI, TO, i1, i2]) (fun c o hb q => by
      obtain ⟨n1, n2, n3, n4, n5⟩ := off5 hb
      exact hk c o n1 n3 n4 n5 q) hf⟩
  self := fun A i s Q E st h => wpAny_pyIter_zip st.1 h
/-- for x, y in zip(xs, ys) -/
theorem pi_zipH {X : Cx} {e e2 : Expr} {ta : TA} {p pos tpos : Pos} {elts : List Expr} {kk : Nat} (hg : Gl X "zip") (hm : X.mg "zip" = none) (ha : PA X [e, e2] ta)
    (hs : starEach [e, e2] X.env = (false, eval e X.env) :: starEach [e2] X.env := by rfl) (hpl : (backTo pos (starEach [e2] X.env)).any (·.1) = false := by rfl) : PIH X (.Tuple elts kk tpos) (.Call (.Name "zip" p) [e, e2] [] pos) (iZip X.K ta) := by
  refine ⟨fun pins s σ H R I h => Call_ (ld_blt I hg hm PyProof.Rows.boot_zip (PyProof.Rows.callWith_type1 (thn (ha.run pos pins s σ H _ I h) fun us s1 hq => ?_) hs hpl))⟩
  obtain ⟨vs, H1, I1, r1, a, b, xs, ys, rfl, hqx, hqy, q⟩ := hq
  obtain ⟨u1, u2, rfl, ra, rb⟩ := vals2 r1
  obtain rfl : u1 = Value.ref a := ra
  obtain rfl : u2 = Value.ref b := rb
  obtain ⟨its, rv, p1, _⟩ := I1.list hqx
  obtain ⟨jts, rv2, p2, _⟩ := I1.list hqy
  refine call_zip_2 p1.isList p2.isList fun h' g1 g2 g3 g4 g5 hsz hk => wpAny_pyIter_zip g1 ?_
  refine ⟨s1.heap.objs.size + 4, [s1.heap.objs.size + 4, s1.heap.objs.size + 2, s1.heap.objs.size + 3, s1.heap.objs.size, s1.heap.objs.size + 1], _, _, H1, rfl, I1.kept (t' := s1.toks) hk,
    turn_zipH (PySem.W.ktu_apart s1.heap.objs.size a b p1.lt p2.lt), ⟨g1, g2, ⟨_, _, g3⟩, g4, g5⟩, fun c hm => ?_, q⟩
  have low : s1.heap.objs.size ≤ c := by
    rcases five hm with rfl | rfl | rfl | rfl | rfl <;> omega
  exact I1.fpOk low (I1.hok.fresh low)
end R
set_option Elab.async false
set_option linter.all false
set_option maxRecDepth 100000
set_option maxHeartbeats 4000000
namespace R
open PySem PySem.Spec L2 L2H PyProof.Rows
open Evl (Ex)
/-! ### defs whose exceptions have no context (what an except suite must know to raise again) -/
def CalN (P : Program) (w : World) (K : PySem.W.Frag) (mg : Str → Option Value) (base : Heap) (k : Nat) (x : Str) (ps : List Str) (sp : Sp) : Prop :=
  ∃ (f : Addr) (fd : FuncData), FnOk P w K mg base (L2N.CX P w) k f fd ps sp ∧ mg x = some (.ref f) ∧ PySem.W.keepIn K (.ref f) = true ∧ Binds K fd ps []
def MetN (P : Program) (w : World) (K : PySem.W.Frag) (mg : Str → Option Value) (base : Heap) (k : Nat) (C : Addr) (m : Str) (ps : List Str) (sp : Sp) : Prop :=
  ∃ (f : Addr) (fd : FuncData), FnOk P w K mg base (L2N.CX P w) k f fd ps sp ∧ Cls K C ∧ Meth K C m f ∧ Binds K fd ps []
section
variable {P : Program} {w : World} {K : PySem.W.Frag} {mg : Str → Option Value} {base : Heap} {k : Nat} {f : Addr} {fd : FuncData} {ps : List Str} {sp : Sp}
theorem FnOk.toN (F : FnOk P w K mg base CX0 k f fd ps sp) : FnOk P w K mg base (L2N.CX P w) k f fd ps sp :=
  ⟨F.len, fun A outer s H args us vs Q E hr he hb hv hs => codeAny_mono (F.run A outer s H args us vs Q E hr he hb hv hs) fun r s' h => by
    rcases r with e | (_ | _ | _ | _)
    · exact (show False from h).elim
    all_goals exact h⟩
theorem okN {x qual : Str} {st : Stmt} {N : List Str} (F : Fun K x qual st f fd) (S : FnScope N ps (defScope st)) (len : ∀ vs H Q E, sp vs H Q E → vs.length = ps.length)
    (body : ∀ (cdv : Value) (A : Around) (outer : List Env) (s : Shared) (H : Hp) (vs : List V) (Q : VK) (E : XK), Room k (A.deeper (envOfC qual (defScope st) s.heap.objs.size f cdv)) → sp vs H Q E →
      ∃ t, PSs (cxOf (L2N.CX P w) P w K mg base N qual (defScope st) f cdv A outer s H E) (defBody st) t ∧ t { nx := fun _ H' => Q .non H', rt := Q } (start N vs) H) : FnOk P w K mg base (L2N.CX P w) (k + 1) f fd ps sp := by
  obtain ⟨oc, od, kV, doc, pm, an, cdv, ct, osl, rfl, lk, hcd⟩ := F.ex
  exact fn_of lk hcd S len fun A outer s H vs Q E hr hsp => body cdv A outer s H vs Q E hr hsp
theorem okH {x qual : Str} {st : Stmt} {N : List Str} (F : Fun K x qual st f fd) (S : FnScope N ps (defScope st)) (len : ∀ vs H Q E, sp vs H Q E → vs.length = ps.length)
    (body : ∀ (cdv : Value) (A : Around) (outer : List Env) (s : Shared) (H : Hp) (vs : List V) (Q : VK) (E : XK) (pe : Addr × Obj), Hot1 A pe → RoomH k (A.deeper (envOfC qual (defScope st) s.heap.objs.size f cdv)) → sp vs H Q E →
      ∃ t, PSs (cxH (L2.CX P w) P w K mg base N qual (defScope st) f cdv A outer s H E pe) (defBody st) t ∧ t { nx := fun _ H' => Q .non H', rt := Q } (start N vs) H) : FnH P w K mg base (L2.CX P w) (k + 1) f fd ps sp := by
  obtain ⟨oc, od, kV, doc, pm, an, cdv, ct, osl, rfl, lk, hcd⟩ := F.ex
  exact fn_ofH lk hcd S len fun A outer s H vs Q E pe hot hr hsp => body cdv A outer s H vs Q E pe hot hr hsp
end
section
variable {X : Cx} {k : Nat} {x m : Str} {C : Addr} {ps : List Str} {sp : Sp} {t : TA} {te : TE} {o e : Expr} {es : List Expr} {p pos apos : Pos} {E : L2.St → XK} {E1 : XK}
theorem xpN0 : ∀ σ, PassesAt (L2N.CX X.prog X.w) X σ E0 := fun σ pins H s e s' I c => by
  obtain ⟨_, _, _, _, _, _, _, _, _, _, _, _, z⟩ := c
  exact z.elim
theorem xpN (tk : L2N.Takes X (fun cls d _ H => E1 cls d H)) : ∀ σ, PassesAt (L2N.CX X.prog X.w) X σ E1 := fun σ pins H s e s' I c => L2N.passes_call tk (fun _ _ _ _ h => h) pins σ H s e s' I c
theorem pe_calN (c : CalN X.prog X.w X.K X.mg X.base k x ps sp) (hr : Room k X.A) (hg : Gl X x) (hx : ∀ σ, PassesAt (L2N.CX X.prog X.w) X σ (E σ)) (ha : PA X (e :: es) t)
    (hdb : (x == ("__debug__" : Str)) = false := by decide) (he : starEach (e :: es) X.env = (false, eval e X.env) :: starEach es X.env := by rfl) (hpl : (backTo pos (starEach es X.env)).any (·.1) = false := by rfl) :
    PE X (.Call (.Name x p) (e :: es) [] pos) (tCallS sp E t) := by
  obtain ⟨f, fd, G, g, kp, b⟩ := c
  exact pe_callS (p := p) (pos := pos) G hr hg g kp b hx ha hdb he hpl
theorem pe_metN {pl : Sem Bool} (c : MetN X.prog X.w X.K X.mg X.base k C m ps sp) (hr : Room k X.A) (hx : ∀ σ, PassesAt (L2N.CX X.prog X.w) X σ (E σ)) (ho : PE X o te) (ha : PA X (e :: es) t)
    (hst : starEach (e :: es) X.env = (false, eval e X.env) :: starEach es X.env := by rfl) (hpl : (backTo pos (starEach es X.env)).any (·.1) = false := by rfl)
    (ht : eval (.Call (.Attribute o m apos) (e :: es) [] pos) X.env = (do let ov ← eval o X.env; standAt apos.atName; let (f, first) ← holding [ov] (getMethod ov m pl); callWith pos f first (backTo pos (starEach (e :: es) X.env)) (backToKw pos (keywordEach [] X.env))) := by rfl) :
    PE X (.Call (.Attribute o m apos) (e :: es) [] pos) (tMet C m sp E te t) := by
  obtain ⟨f, fd, G, c, hm, b⟩ := c
  refine ⟨fun pins s σ H Q I h => ?_⟩
  refine PySem.W.methodCall_KW (pl := pl) (thn (ho.run pins s σ H _ I h) fun u s1 hh => ?_) ht
  obtain ⟨x, H1, I1, rx, a, dx, fs, ex, ea, l, q⟩ := hh
  subst ex
  cases (show u = Value.ref a from rx)
  refine getmeth_ok I1 ea c hm l (PySem.W.callWith_K (first := [.ref a]) (h₀ := X.base) I1.ok.mod.kin hm.kp ?_ hst hpl)
  exact thn (ha.run pos pins s1 σ H1 _ I1 q) fun us s2 hh => by
    obtain ⟨vs, H2, I2, r, q2⟩ := hh
    exact ⟨I2.kIn, run_fnS (us := .ref a :: us) (vs := .ref a :: vs) G hr b (hx σ) I2 (.cons rfl r) q2⟩
theorem pe_metN0 {pl : Sem Bool} (c : MetN X.prog X.w X.K X.mg X.base k C m ps sp) (hr : Room k X.A) (hx : ∀ σ, PassesAt (L2N.CX X.prog X.w) X σ (E σ)) (ho : PE X o te)
    (ht : eval (.Call (.Attribute o m apos) [] [] pos) X.env = (do let ov ← eval o X.env; standAt apos.atName; let (f, first) ← holding [ov] (getMethod ov m pl); callWith pos f first (backTo pos (starEach [] X.env)) (backToKw pos (keywordEach [] X.env))) := by rfl) :
    PE X (.Call (.Attribute o m apos) [] [] pos) (tMet C m sp E te tNil) := by
  obtain ⟨f, fd, G, c, hm, b⟩ := c
  refine ⟨fun pins s σ H Q I h => ?_⟩
  refine PySem.W.methodCall_KW (pl := pl) (thn (ho.run pins s σ H _ I h) fun u s1 hh => ?_) ht
  obtain ⟨x, H1, I1, rx, a, dx, fs, ex, ea, l, q⟩ := hh
  subst ex
  cases (show u = Value.ref a from rx)
  exact getmeth_ok I1 ea c hm l (PySem.W.callWith_K0 (first := [.ref a]) I1.kIn hm.kp (run_fnS (us := [.ref a]) (vs := [.ref a]) G hr b (hx σ) I1 (.cons rfl .nil) q))
theorem ps_raiN {ms : Str} {jj : Nat} {p2 pos2 : Pos} {W : WX} (T : ExT X.K X.mg x C) (tk : L2N.Takes X W) (hc : X.calm = true := by rfl) (hg : Gl X x := by rfl) (hdb : (x == ("__debug__" : Str)) = false := by decide) :
    PS X (.Raise (some (.Call (.Name x p) [.Constant (.str ms) jj p2] [] pos)) none pos2) (tRai C W) :=
  L2N.ps_raise hc tk (L2N.pmk_own PySem.F.excBase_ValueError T.x T.g T.k (raises_own T.b T.t) hg hdb)
/-- C(..) which may raise, within a try -/
def kMakS (C : Addr) (sp : Sp) (E : XK) (Q : VK) : List V → Hp → Prop := fun vs H1 => ∀ x dx, H1 x = none → H1 dx = none → dx ≠ x → sp (.ref x :: vs) (upd (upd H1 dx (.own x)) x (.ins C dx [])) (fun v H2 => v = .non ∧ Q (.ref x) H2) E
def tMakS (C : Addr) (sp : Sp) (E : L2.St → XK) (t : TA) : TE := fun σ H Q => t σ H (kMakS C sp (E σ) Q)
theorem iMakS {H : Hp} {σ : L2.St} {Q : VK} (q : t σ H (kMakS C sp (E σ) Q)) : tMakS C sp E t σ H Q := q
theorem pe_makS (c : MakX X.prog X.w X.K X.mg X.base k C x ps sp) (hr : Room (k + 1) X.A) (hg : Gl X x) (hx : ∀ σ, PassesAt (L2.CX X.prog X.w) X σ (E σ)) (ha : PA X (e :: es) t) (hdb : (x == ("__debug__" : Str)) = false := by decide)
    (he : starEach (e :: es) X.env = (false, eval e X.env) :: starEach es X.env := by rfl) (hpl : (backTo pos (starEach es X.env)).any (·.1) = false := by rfl) : PE X (.Call (.Name x p) (e :: es) [] pos) (tMakS C sp E t) := by
  obtain ⟨f, fd, G, M, g, b⟩ := c
  refine ⟨fun pins s0 σ H Q I h => wpAny_Call_Name_kw (ld_glob I hg g ?_ hdb)⟩
  refine PySem.W.callWith_K (h₀ := X.base) I.ok.mod.kin M.kp (thn (ha.run pos pins s0 σ H _ I h) fun us s hh => ?_) he hpl
  obtain ⟨vs, H1, J, r, q⟩ := hh
  refine ⟨J.kIn, ?_⟩
  have want := q (s.heap.objs.size + 1) s.heap.objs.size (J.hok.fresh (Nat.le_succ _)) (J.hok.fresh (Nat.le_refl _)) (Nat.ne_of_lt (Nat.lt_succ_self _))
  have J2 := Inv.made (C := C) J
  have rr : Vals (V.ref (s.heap.objs.size + 1) :: vs) (Value.ref (s.heap.objs.size + 1) :: us) := .cons rfl r
  have len : (Value.ref (s.heap.objs.size + 1) :: us ++ ([] : List Value)).length = ps.length := by
    have z := rr.length
    rw [G.len _ _ _ _ want] at z
    rw [List.append_nil]
    exact z.symm
  have bb := b _ (Value.ref (s.heap.objs.size + 1) :: us) J2.kIn len
  rw [List.append_nil] at bb
  refine wpAny_call (make_map (f := f) J.kIn M.makes M.init (beq_iff_eq.mp M.fn) (codeAny_mono (G.run _ X.stack _ _ ⟨Value.ref (s.heap.objs.size + 1) :: us, []⟩ (Value.ref (s.heap.objs.size + 1) :: us) _ _ (E σ) (hr.make C us []) (J2.env0.make C us []) bb rr want) fun r s' z => ?_))
  rcases r with e | (_ | _ | _ | u)
  · exact hx σ pins _ _ e s' J2 z
  · exact False.elim z
  · exact False.elim z
  · exact False.elim z
  · obtain ⟨v, H', I3, rv, ev, q3⟩ := J2.after z
    subst ev
    exact ⟨rv, V.ref (s.heap.objs.size + 1), H', I3, rfl, q3⟩
end
/-! ### where an exception is handled -/
def CalH (P : Program) (w : World) (K : PySem.W.Frag) (mg : Str → Option Value) (base : Heap) (k : Nat) (x : Str) (ps : List Str) (sp : Sp) : Prop :=
  ∃ (f : Addr) (fd : FuncData), FnH P w K mg base (L2.CX P w) k f fd ps sp ∧ mg x = some (.ref f) ∧ PySem.W.keepIn K (.ref f) = true ∧ Binds K fd ps []
def MetH (P : Program) (w : World) (K : PySem.W.Frag) (mg : Str → Option Value) (base : Heap) (k : Nat) (C : Addr) (m : Str) (ps : List Str) (sp : Sp) : Prop :=
  ∃ (f : Addr) (fd : FuncData), FnH P w K mg base (L2.CX P w) k f fd ps sp ∧ Cls K C ∧ Meth K C m f ∧ Binds K fd ps []
theorem roomMark {k : Nat} {A : Around} {v : Option Value} (r : RoomH k A) : RoomH k (A.mark v) := ⟨r.dp, r.un⟩
theorem hotTr {X : Cx} {pn : List (Addr × Obj)} {xe : Value → Shared → Prop} (c : HotC X) (h : ∀ q ∈ X.pn, q ∈ pn) : HotC (X.tr pn xe) := by
  obtain ⟨p, h1, h2⟩ := c
  exact ⟨p, h1, h p h2⟩
section
variable {X : Cx} {k : Nat} {x m : Str} {C : Addr} {ps : List Str} {sp : Sp} {t : TA} {te : TE} {o e : Expr} {es : List Expr} {p pos apos : Pos} {E : L2.St → XK}
theorem pe_calH (c : CalH X.prog X.w X.K X.mg X.base k x ps sp) (hr : RoomH k X.A) (hc : HotC X) (hg : Gl X x) (hx : ∀ σ, PassesAt (L2.CX X.prog X.w) X σ (E σ)) (ha : PA X (e :: es) t)
    (hdb : (x == ("__debug__" : Str)) = false := by decide) (he : starEach (e :: es) X.env = (false, eval e X.env) :: starEach es X.env := by rfl) (hpl : (backTo pos (starEach es X.env)).any (·.1) = false := by rfl) :
    PE X (.Call (.Name x p) (e :: es) [] pos) (tCallS sp E t) := by
  obtain ⟨f, fd, G, g, kp, b⟩ := c
  exact pe_callH (q := p) (pos := pos) G hr hc hg g kp b hx ha hdb he hpl
theorem pe_metH {pl : Sem Bool} (c : MetH X.prog X.w X.K X.mg X.base k C m ps sp) (hr : RoomH k X.A) (hc : HotC X) (hx : ∀ σ, PassesAt (L2.CX X.prog X.w) X σ (E σ)) (ho : PE X o te) (ha : PA X (e :: es) t)
    (hst : starEach (e :: es) X.env = (false, eval e X.env) :: starEach es X.env := by rfl) (hpl : (backTo pos (starEach es X.env)).any (·.1) = false := by rfl)
    (ht : eval (.Call (.Attribute o m apos) (e :: es) [] pos) X.env = (do let ov ← eval o X.env; standAt apos.atName; let (f, first) ← holding [ov] (getMethod ov m pl); callWith pos f first (backTo pos (starEach (e :: es) X.env)) (backToKw pos (keywordEach [] X.env))) := by rfl) :
    PE X (.Call (.Attribute o m apos) (e :: es) [] pos) (tMet C m sp E te t) := by
  obtain ⟨f, fd, G, c, hm, b⟩ := c
  exact pe_methH (pl := pl) ho c hm G hr hc b hx ha hst hpl ht
theorem pe_metH0 {pl : Sem Bool} (c : MetH X.prog X.w X.K X.mg X.base k C m ps sp) (hr : RoomH k X.A) (hc : HotC X) (hx : ∀ σ, PassesAt (L2.CX X.prog X.w) X σ (E σ)) (ho : PE X o te)
    (ht : eval (.Call (.Attribute o m apos) [] [] pos) X.env = (do let ov ← eval o X.env; standAt apos.atName; let (f, first) ← holding [ov] (getMethod ov m pl); callWith pos f first (backTo pos (starEach [] X.env)) (backToKw pos (keywordEach [] X.env))) := by rfl) :
    PE X (.Call (.Attribute o m apos) [] [] pos) (tMet C m sp E te tNil) := by
  obtain ⟨f, fd, G, c, hm, b⟩ := c
  refine ⟨fun pins s σ H Q I h => ?_⟩
  refine PySem.W.methodCall_KW (pl := pl) (thn (ho.run pins s σ H _ I h) fun u s1 hh => ?_) ht
  obtain ⟨x, H1, I1, rx, a, dx, fs, ex, ea, l, q⟩ := hh
  subst ex
  cases (show u = Value.ref a from rx)
  exact getmeth_ok I1 ea c hm l (PySem.W.callWith_K0 (first := [.ref a]) I1.kIn hm.kp (run_fnH (us := [.ref a]) (vs := [.ref a]) G hr hc b (hx σ) I1 (.cons rfl .nil) q))
theorem ps_raiH {ms : Str} {jj : Nat} {p2 pos2 : Pos} {W : WX} (T : ExT X.K X.mg x C) (hc : HotC X) (tk : L2.Takes X W) (hg : Gl X x := by rfl) (hdb : (x == ("__debug__" : Str)) = false := by decide) :
    PS X (.Raise (some (.Call (.Name x p) [.Constant (.str ms) jj p2] [] pos)) none pos2) (tRai C W) :=
  ps_raiseH hc tk (L2N.pmk_own PySem.F.excBase_ValueError T.x T.g T.k (raises_own T.b T.t) hg hdb)
end
/-! ### a list comprehension there -/
abbrev bh (X : Cx) (t : Shared) (G : Hp) (sc : Scope) (ce : Env) (fp : List Addr) : Cx := { X.blk t G sc ce fp with pn := X.pn }
theorem invBh {X : Cx} {pins : List (Addr × Obj)} {σ : L2.St} {G : Hp} {t s' : Shared} {sc : Scope} {ce : Env} {fp : List Addr} {u : L2.St} (I : Inv X pins σ G t) (J : Inv (X.blk t G sc ce fp) [] u G s') (hl : ce.locals = t.heap.objs.size) (k : ∀ b o, t.heap.get? b = some o → s'.heap.get? b = some o) : Inv (bh X t G sc ce fp) [] u G s' :=
  ⟨⟨J.ok.mod, J.ok.kind, J.ok.glob, J.ok.blt, J.ok.above, J.ok.inj, J.ok.has, J.ok.cab, J.ok.hd, J.ok.frames, J.ok.stk, J.ok.exf, J.ok.bs, J.ok.bsz, J.ok.noex, J.ok.exfs, J.ok.funs, J.ok.frf⟩, J.os, J.bare, J.base, J.loc, J.cell, J.free, J.freeC, fun p hp => by
    rw [List.append_nil] at hp
    obtain ⟨h1, h2, h3, h4, h5⟩ := I.pin p (List.mem_append_left _ hp)
    refine ⟨k _ _ h1, h2, fun z => ?_, fun z => ?_, h5⟩
    · have := Heap.lt_size h1
      rw [z] at this
      exact absurd (show t.heap.objs.size < t.heap.objs.size from Nat.lt_of_le_of_lt (Nat.le_of_eq hl.symm) this) (Nat.lt_irrefl _)
    · exact (List.mem_cons.mp (I.stkSub p.1 z)).elim h3 h4, J.hok, J.len⟩
theorem pe_lcH {X : Cx} {elt tg src : Expr} {conds : List Expr} {sc : Scope} {mine : List (Str × Nat)} {pos : Pos} {wi : TI} {g : TG} {tt : TT} {te : TE} (hot : HotC X) (nd : X.N.Nodup) (hi : PIH X tg src wi) (ok : BlkOk X.N X.env.scope sc mine)
    (hg : ∀ (t : Shared) (G : Hp) (C : Addr) (cl : List (Str × Addr)) (fp : List Addr), PG (bh X t G sc (compEnvC sc cl C X.env) fp) tg g)
    (ht : ∀ (t : Shared) (G : Hp) (C : Addr) (cl : List (Str × Addr)) (fp : List Addr), PTs (bh X t G sc (compEnvC sc cl C X.env) fp) conds tt)
    (he : ∀ (t : Shared) (G : Hp) (C : Addr) (cl : List (Str × Addr)) (fp : List Addr), HotC (bh X t G sc (compEnvC sc cl C X.env) fp) → PE (bh X t G sc (compEnvC sc cl C X.env) fp) elt te)
    (hfs : ∀ x, foldedSetIterable src X.env x = pure x := by intro _; rfl) : PE X (.ListComp elt [⟨tg, src, conds, 0⟩] sc pos) (tLc wi g tt te (mine.map (·.2))) := by
  refine ⟨fun pins s0 σ H Q I h => ?_⟩
  rw [eval_ListComp]
  have caught : ∀ y ∈ sc.names, y.2 = .free → ∃ c, X.env.cells.lookup y.1 = some c := fun y hy e => (ok.free y hy e).elim (fun k => I.ok.has _ (.inl k)) fun k => I.ok.has _ (.inr k)
  refine wpAny_comprehension_free (use := none) rfl hfs (closure_ok caught) ok.kind (fun y hy e => by rw [ok.uniq y hy, e]) (thn (hi.run pins s0 σ H _ I h) fun xv s1 hx => thn hx fun itv s2 h2 => ?_)
  obtain ⟨it, fp, tn, J, H2, rfl, I2, T, st2, f2, q⟩ := h2
  refine wpAny_newObj_type (newEnv_comp ?_) (by show 0 ≤ sizeLine; decide)
  generalize eD : s2.heap.objs.size = D
  have freeD : H2 D = none := I2.hok.fresh (Nat.le_of_eq eD)
  obtain ⟨W, ⟨m0, w0⟩, turn⟩ := q D freeD
  generalize e3 : ({ s2 with heap := s2.heap.push { cls := .type "list", data := .seq ([] : List Value).toArray } } : Shared) = t
  have ht3 : t.heap = s2.heap.push { cls := .type "list", data := .seq ([] : List Value).toArray } := by rw [← e3]
  have I3 : Inv X pins σ (upd H2 D (.lst [])) t := by
    rw [← e3]
    refine I2.laid (t' := s2.toks) (fun b o z => Heap.get?_push_of_some _ z) (Nat.le_of_eq eD) ⟨Nat.zero_le _, [], 0, .nil, ?_⟩
    rw [← eD]
    exact Heap.get?_push_size _ rfl
  have f3 : ∀ b ∈ fp, FpOk X pins (upd H2 D (.lst [])) b ∧ b < t.heap.objs.size := fun b hb => by
    obtain ⟨ob, g0, _⟩ := T.obj _ _ st2 b hb
    have lt := Heap.lt_size g0
    refine ⟨⟨(upd_ne (by rw [← eD]; exact Nat.ne_of_lt lt)).trans (f2 b hb).1, (f2 b hb).2⟩, ?_⟩
    rw [ht3, Heap.size_push]
    exact Nat.lt_succ_of_lt lt
  have st3 : tn 0 t.heap := T.keep _ _ _ st2 fun b _ o z => by
    rw [ht3]
    exact Heap.get?_push_of_some _ z
  have I4 := block_start I3 ok nd f3
  generalize eG : upd H2 D (.lst []) = G at I3 I4 w0 f3
  show codeAny _ _ (.compStart _ 0 (.ref it) (.ref D) (compEnvC sc (cellsFrom (t.heap.objs.size + 1) sc.names (cloFrom X.env.cells sc.names [])) t.heap.objs.size X.env)) (compPost _ X.A X.xe none _ (.ref D) t.heap.objs.size) { t with heap := pushCells (t.heap.push { cls := .type "dict", data := .dict #[] }) sc.names }
  have bg := hg t G t.heap.objs.size (cellsFrom (t.heap.objs.size + 1) sc.names (cloFrom X.env.cells sc.names [])) fp
  have bt := ht t G t.heap.objs.size (cellsFrom (t.heap.objs.size + 1) sc.names (cloFrom X.env.cells sc.names [])) fp
  have be := he t G t.heap.objs.size (cellsFrom (t.heap.objs.size + 1) sc.names (cloFrom X.env.cells sc.names [])) fp hot
  have ecl : (compEnvC sc (cellsFrom (t.heap.objs.size + 1) sc.names (cloFrom X.env.cells sc.names [])) t.heap.objs.size X.env).locals = t.heap.objs.size := rfl
  generalize compEnvC sc (cellsFrom (t.heap.objs.size + 1) sc.names (cloFrom X.env.cells sc.names [])) t.heap.objs.size X.env = ce at I4 bg bt be ecl ⊢
  have hotB : HotC (bh X t G sc ce fp) := hot
  have keep4 : ∀ b o, t.heap.get? b = some o → (pushCells (t.heap.push { cls := .type "dict", data := .dict #[] }) sc.names).get? b = some o := fun b o z => pushCells_keeps _ _ _ _ (Heap.get?_push_of_some _ z)
  have I4 := invBh I3 I4 ecl keep4
  generalize e4 : ({ t with heap := pushCells (t.heap.push { cls := .type "dict", data := .dict #[] }) sc.names } : Shared) = s4 at I4 ⊢
  have st4 : tn 0 s4.heap := T.keep _ _ _ st3 fun b _ o z => by
    rw [← e4]
    exact keep4 b o z
  have here : ∀ {σ' : L2.St} {H' : Hp} {s' : Shared}, Inv (bh X t G sc ce fp) [] σ' H' s' → (∀ b ∈ fp, H' b = none) → ∀ b ∈ fp, FpOk (bh X t G sc ce fp) [] H' b := fun {σ' H' s'} I' hn b hb =>
    ⟨hn b hb, (I'.ok.exf b hb).1, I'.ok.exfs b hb, .inl hb, fun x c e => (I'.ok.exf b hb).2 x c e, fun p hp => (f3 b hb).1.2.2.2.2.2 p (by rw [List.append_nil] at hp; exact List.mem_append_left _ hp)⟩
  have loop : codeAny (model X.prog X.w) X.A (.compLoop (.ListComp elt [⟨tg, src, conds, 0⟩] sc pos) 0 (.ref it) (.ref D) ce) (compPost (model X.prog X.w) X.A X.xe none (EP X pins σ Q) (.ref D) t.heap.objs.size) s4 := by
    refine compLoop_any (fun n s' => ∃ i H', Inv (bh X t G sc ce fp) [] (wipe σ (mine.map (·.2))) H' s' ∧ tn i s'.heap ∧ (∀ b ∈ fp, H' b = none) ∧ W i n H') ?_ m0 ⟨0, G, I4, st4, fun b hb => (f3 b hb).1.1, w0⟩
    rintro n s5 ⟨i, H5, I5, st5, n5, w5⟩
    rcases turn i n H5 w5 with ⟨stop, fin⟩ | ⟨go, Nx, hNx, step⟩
    · refine thnF (T.done (bh X t G sc ce fp) rfl rfl rfl hotB i [] s5 _ H5 (fun _ _ => False) I5 (here I5 n5) st5 stop) fun r s6 ⟨hr, I6⟩ => ?_
      subst hr
      have I7 : Inv X pins σ H5 s6 := I3.call' (ch := fp) I6.os I6.base I6.hok I6.bare fun b hb => have z := (f3 b hb).1
        ⟨z.2.2.2.1, z.2.1, z.2.2.2.2.1, z.2.2.2.2.2⟩
      have free6 : H5 ce.locals = none := I6.free
      obtain ⟨m, ns6, _⟩ := I6.loc
      have ns6 : s6.heap.Ns ce.locals m := ns6
      rw [ecl] at ns6 free6
      refine ⟨m, ns6, fun h' same => ?_⟩
      obtain ⟨_, f1', _, f3', f4', f5'⟩ := I3.fpOk (b := t.heap.objs.size) (Nat.le_refl _) free6
      exact ⟨.ref D, H5, I7.turned (t' := s6.toks) (fun b o hb z => (same.2 b hb).trans z) free6 f1' f3' f4' f5', rfl, fin⟩
    · refine thnF (T.item (bh X t G sc ce fp) rfl rfl rfl hotB i [] s5 _ H5 (fun _ _ => False) I5 (here I5 n5) st5 go) fun r s6 ⟨u, hr, h6⟩ => ?_
      subst hr
      refine thnF h6 fun _ s7 ⟨x, H7, I7, r7, y7, st7, n7⟩ => ?_
      have I7' := I7.pinned (here I7 n7) (T.obj _ _ st7)
      refine thnF (bg.run _ s7 _ H7 x u _ I7' r7 (step x H7 y7)) fun _ s8 ⟨σ8, H8, I8, hw8, q8⟩ => ?_
      refine thnF (bt.run _ s8 σ8 H8 _ I8 q8) fun b s9 ⟨H9, I9, q9⟩ => ?_
      have done : ∀ {s' : Shared} {H' : Hp}, Inv (bh X t G sc ce fp) ([] ++ pinsAt fp s7.heap) σ8 H' s' → Nx H' → ∃ m, m < n ∧ ∃ i H', Inv (bh X t G sc ce fp) [] (wipe σ (mine.map (·.2))) H' s' ∧ tn i s'.heap ∧ (∀ b ∈ fp, H' b = none) ∧ W i m H' := fun {s' H'} I' nx => by
        obtain ⟨m', hm, w'⟩ := hNx H' nx
        have at7 : ∀ b ∈ fp, ∀ o, s7.heap.get? b = some o → s'.heap.get? b = some o ∧ H' b = none := fun b hb o z =>
          have y := I'.pin (b, o) (List.mem_append_right _ (List.mem_append_right _ (mem_pinsAt hb z)))
          ⟨y.1, y.2.1⟩
        refine ⟨m', hm, i + 1, H', (I'.unpinned (pins := [])).weak (by rw [← hw8, wipe_length]) (fun j v z => ?_), T.keep _ _ _ st7 fun b hb o z => (at7 b hb o z).1, fun b hb => ?_, w'⟩
        · rw [← hw8] at z
          exact (wipe_some z).1
        · obtain ⟨o, z, _⟩ := T.obj _ _ st7 b hb
          exact (at7 b hb o z).2
      cases b with
      | false =>
        simp only [Bool.false_eq_true, if_false] at q9 ⊢
        exact done I9 q9
      | true =>
        simp only [if_true] at q9 ⊢
        refine thnF (be.run _ s9 σ8 H9 _ I9 q9) fun z s10 ⟨yv, H10, I10, r10, acc, hD10, hz10, nx⟩ => ?_
        exact app_ok (X := bh X t G sc ce fp) I10 hD10 hz10 r10 fun s11 I11 => done I11 nx
  exact codeAny_compStart_list loop (T.self X.A 0 _ _ _ st4 loop)
end R
set_option Elab.async false
set_option linter.all false
set_option maxRecDepth 100000
set_option maxHeartbeats 4000000
namespace R
open PySem PySem.Spec PyProof.Rows L2 L2H HotX
/-! ### a tuple's parts, taken where an exception is handled -/
section
variable {prog : Program} {w : World} {A : Around} {E : Value → Shared → Prop} {s : Shared}
theorem hotAt_neT {x1 it t : Addr} {i : Nat} {h : Heap} (hot : HotAt A x1 h) (hit : IsTupIter h it t i) : x1 ≠ it := by
  rintro rfl
  obtain ⟨g, o, vs, e, d, c⟩ := hot
  obtain ⟨o', e', _, d'⟩ := hit
  rw [e] at e'
  cases e'
  rw [d] at d'
  have dd : vs = #[.ref t, .int i 0] := by injection d'
  rw [dd] at c
  simp at c
theorem tnext_hot {it t x1 : Addr} {i : Nat} {items : Array Value} {Q : Value → Shared → Prop} (hot : HotAt A x1 s.heap) (hit : IsTupIter s.heap it t i) (hl : IsTup s.heap t items) (hx : items[i]? = none)
    (hE : ∀ h' e, (∀ b o, b ≠ it → s.heap.get? b = some o → h'.get? b = some o) → (∃ o, h'.get? e = some o ∧ o.cls = .type "StopIteration") → E (.ref e) { s with heap := h' }) :
    wpAny (model prog w) A (call (.builtin "tuple_iterator.__next__") [.ref it]) Q E s := by
  have ne := hotAt_neT hot hit
  obtain ⟨o, ho, hc, hd⟩ := id hit
  obtain ⟨ol, hol, _, nl, hdl⟩ := hl
  refine wpAny_call_entry slot_tupleiter_next hit.typeIs entry_tupleiter_next ?_ (args_tupleiter_next _)
  (show wpAny _ _ (field (.ref it) 0 >>= _) _ _ s; refine wpAny_bind (wpAny_field ho hd (x := .ref t) rfl ?_))
  (show wpAny _ _ (if (Value.ref t == Value.none) = true then _ else _) _ _ s; rw [if_neg (show ¬ ((Value.ref t == Value.none) = true) from Bool.false_ne_true)])
  (show wpAny _ _ (field (.ref it) 1 >>= _) _ _ s; refine wpAny_bind (wpAny_field ho hd (x := .int i 0) rfl ?_))
  (show wpAny _ _ (seqItems? (.ref t) >>= _) _ _ s; refine wpAny_bind (wpAny_seqItems hol hdl ?_))
  (simp only [Int.toNat_natCast, hx]; refine wpAny_bind (wpAny_rule (wpAny_bind (wpAny_setField ho hd (by simp) ?_))))
  have k0 : ∀ b u, b ≠ it → s.heap.get? b = some u → (s.heap.update it (Obj.mapFields (·.setIfInBounds 0 .none))).get? b = some u := fun b u hb e => (Heap.get?_update_other _ _ (Ne.symm hb)).trans e
  refine stop_hot (A := A.in1) (x1 := x1) (hotAt_kept (A := A.in1) hot fun u e => k0 x1 u ne e) fun h' e kp he => ?_
  exact hE h' e (fun b u hb g => kp b u (k0 b u hb g)) he
theorem pyNext_tuple_end_hot {it t x1 : Addr} {i : Nat} {items : Array Value} {Q : Option Value → Shared → Prop} (hot : HotAt A x1 s.heap) (hit : IsTupIter s.heap it t i) (hl : IsTup s.heap t items) (hx : items[i]? = none)
    (hQ : ∀ h', (∀ b o, b ≠ it → s.heap.get? b = some o → h'.get? b = some o) → Q none { s with heap := h' }) : wpAny (model prog w) A (pyNext (.ref it)) Q E s := by
  unfold pyNext
  refine wpAny_bind (wpAny_attempt (wpAny_callSpecial?_slot (name := Str.ofString "__next__") hit.typeIs slot_tupleiter_next (tnext_hot hot hit hl hx fun h' e kp he => ?_)))
  obtain ⟨o, ho, hc⟩ := he
  exact wpAny_bind (wpAny_isInstance (T := "StopIteration") (b := true) ⟨o, ho, hc⟩ isSubtype_stop (wpAny_pure (hQ _ kp)))
theorem unpack_tuple_hot {t x1 : Addr} {items : Array Value} {tgs : List (Bool × (Value → Sem Unit))} {Q : Unit → Shared → Prop} (hot : HotAt A x1 s.heap) (ht : IsTup s.heap t items) (hn : tgs.length = items.size) (hst : tgs.findIdx? (·.1) = none)
    (h : ∀ h', (∀ b o, b ≠ s.heap.objs.size → s.heap.get? b = some o → h'.get? b = some o) → wpAny (model prog w) A (assignInOrder (tgs.map (·.2)) items.toList) Q E { s with heap := h' }) : wpAny (model prog w) A (unpack (.ref t) tgs) Q E s := by
  have hlt : t ≠ s.heap.objs.size := by obtain ⟨o, ho, _⟩ := ht; exact Nat.ne_of_lt (Heap.lt_size ho)
  have hx1 : x1 ≠ s.heap.objs.size := by obtain ⟨_, o, _, ho, _⟩ := hot; exact Nat.ne_of_lt (Heap.lt_size ho)
  unfold unpack
  rw [hn, hst]
  refine wpAny_bind (wpAny_holding (wpAny_bind ?_))
  unfold notIterableAtAll
  refine wpAny_bind (wpAny_specialOf ht.typeIs slot_tuple_iter.lookup (wpAny_pure ?_))
  (simp only [Bool.false_eq_true, if_false]; refine wpAny_bind (wpAny_holding (iter_tuple ht ?_)))
  refine wpAny_bind (wpAny_holding (draw_tuple hlt items.size 0 _ _ ⟨_, Heap.get?_push_size _ rfl, rfl, rfl⟩ (ht.push _) (by omega) fun g1 it1 sb1 => ?_))
  have all : List.take items.size (List.drop 0 items.toList) = items.toList := by rw [List.drop_zero]; exact List.take_of_length_le (by simp)
  rw [all, if_neg (by simp)]
  have t1 : IsTup g1 t items := (ht.push _).extBut sb1.extBut hlt
  refine wpAny_bind (wpAny_holding (pyNext_tuple_end_hot (hotAt_kept hot fun o e => sb1.extBut _ _ hx1 (Heap.get?_push_of_some _ e)) it1 t1 (by simp) fun g2 e2 => ?_))
  (simp only [Option.isSome_none, Bool.false_eq_true, if_false]; exact wpAny_pure (h g2 fun b o hb e => e2 b o hb (sb1.extBut b o hb (Heap.get?_push_of_some _ e))))
end
/-- (a, b, ..) = a tuple, there -/
theorem pg_tupH {X : Cx} {es : List Expr} {k : Nat} {t : TGs} {n : Nat} {pos : Pos} (hc : HotC X) (h : PGs X es t) (hn : (assignEach es X.env).length = n := by rfl) (hst : (assignEach es X.env).findIdx? (·.1) = none := by rfl) : PG X (.Tuple es k pos) (gTup X.K n t) := by
  refine ⟨fun pins s σ H v u Q I r hw => ?_⟩
  obtain ⟨a, xs, e1, hq, hl, hw⟩ := hw
  subst e1
  cases r
  obtain ⟨its, rv, ht, hz⟩ := I.tuple hq
  obtain ⟨x1, hot, nx⟩ := hot_of hc I
  rw [assign_Tuple]
  refine wpAny_bind (wpAny_standAt (unpack_tuple_hot hot ht (by simp [hn, ← hl, rv.length]) hst fun h' hx => ?_))
  have I1 : Inv X pins σ H { s with heap := h' } := I.kept (t' := s.toks) fun b o e => hx b o (Nat.ne_of_lt (Heap.lt_size e)) e
  exact h.run pins _ σ H xs _ Q I1 (by simpa using rv) hw
end R
set_option Elab.async false
set_option linter.all false
set_option maxRecDepth 100000
set_option maxHeartbeats 4000000
namespace R
open PySem PySem.Spec L2
/-- what the classes of a caught error and of the clause must say -/
structure ErrH (K : PySem.W.Frag) (CD CR : Addr) : Prop where
  c : ExcC K CD
  x : PySem.W.exmOne K (.ref CD) (.ref CR) = some true
  s : PySem.W.kitOne K (.ref CD) (.ref CD) = some true
  v : PySem.W.kitOne K (.ref CD) (.type "ValueError") = some true
/-- isinstance(e, c), e the exception that the suite holds, whatever its class -/
def kIsX (K : PySem.W.Frag) (cls : Value) (d : Option Addr) (a : Addr) : List V → Hp → VK → Prop := fun xs H Q => ∃ D, cls = .ref D ∧ d = none ∧ ExcC K D ∧ rIsE K D a xs H Q
theorem cr_isX {X : Cx} {a : Addr} {oe : Obj} {pn : List (Addr × Obj)} {cls : Value} {d : Option Addr} (hz : Zc cls d oe) (hf : ∃ vs, oe.data = .fields vs) : CallR (X.suite a ((a, oe) :: pn)) (.builtin "isinstance") (kIsX X.K cls d a) := by
  intro pins s σ H xs us Q I r h
  obtain ⟨D, rfl, rfl, C, h⟩ := h
  exact call_isE C hz hf pins s σ H xs us Q I r h
theorem iIsX {K : PySem.W.Frag} {D a : Addr} {c : V} {cv : Value} {H : Hp} {Q : VK} (C : ExcC K D) (hc : ∀ u, RelV c u → u = cv) (hk : PySem.W.kitOne K (.ref D) cv = some true) (q : Q (.bl true) H) : kIsX K (.ref D) none a [.ref a, c] H Q := ⟨D, rfl, rfl, C, c, cv, true, rfl, hc, hk, q⟩
/-- isinstance(o, C) -/
def kIsC (C : Addr) : List V → Hp → VK → Prop := fun xs H Q => ∃ a dx fs, xs = [.ref a, .ref C] ∧ H a = some (.ins C dx fs) ∧ Q (.bl true) H
theorem cr_isC {X : Cx} {K : PySem.W.Frag} {C : Addr} (hK : X.K = K) (c : C8.InsC K C) : CallR X (.builtin "isinstance") (kIsC C) := by subst hK; exact C8.call_isC c
theorem iIsC {C a dx : Addr} {fs : List (Str × V)} {H : Hp} {Q : VK} (h : H a = some (.ins C dx fs)) (q : Q (.bl true) H) : kIsC C [.ref a, .ref C] H Q := ⟨a, dx, fs, rfl, h, q⟩
end R
set_option Elab.async false
set_option linter.all false
set_option maxRecDepth 100000
set_option maxHeartbeats 4000000
namespace R
open PySem PySem.Spec L2
open Evl (Ex)
def topS (i : Nat) : Stmt := PySem.Challenge.pw_rotward_k02_operations_and_errors.main.body.getD i (.Pass ⟨0, 0, 0, 0⟩)
abbrev s_Disks_is_there : Stmt := inClass (topS 8) 5
theorem sc_Disks_is_there : FnScope ["self", "disk"] ["self", "disk"] (defScope s_Disks_is_there) := ⟨rfl, rfl, rfl, by decide +kernel, rfl, by decide +kernel, by decide +kernel⟩
abbrev s_Disks_cell : Stmt := inClass (topS 8) 6
theorem sc_Disks_cell : FnScope ["self", "disk", "sector", "at", "data", "content"] ["self", "disk", "sector"] (defScope s_Disks_cell) := ⟨rfl, rfl, rfl, by decide +kernel, rfl, by decide +kernel, by decide +kernel⟩
abbrev s_Disks__fail : Stmt := inClass (topS 8) 18
theorem sc_Disks__fail : FnScope ["self"] ["self"] (defScope s_Disks__fail) := ⟨rfl, rfl, rfl, by decide +kernel, rfl, by decide +kernel, by decide +kernel⟩
abbrev s_Disks_ask : Stmt := inClass (topS 8) 8
theorem sc_Disks_ask : FnScope ["self", "disk", "sector"] ["self", "disk", "sector"] (defScope s_Disks_ask) := ⟨rfl, rfl, rfl, by decide +kernel, rfl, by decide +kernel, by decide +kernel⟩
abbrev s_Disks__settle : Stmt := inClass (topS 8) 19
theorem sc_Disks__settle : FnScope ["self", "disk", "kept", "medium", "sector", "data", "arrives"] ["self", "disk", "kept"] (defScope s_Disks__settle) := ⟨rfl, rfl, rfl, by decide +kernel, rfl, by decide +kernel, by decide +kernel⟩
abbrev s_Disks__empty : Stmt := inClass (topS 8) 20
theorem sc_Disks__empty : FnScope ["self", "disk"] ["self", "disk"] (defScope s_Disks__empty) := ⟨rfl, rfl, rfl, by decide +kernel, rfl, by decide +kernel, by decide +kernel⟩
abbrev s_Disks_away : Stmt := inClass (topS 8) 13
theorem sc_Disks_away : FnScope ["self", "disk"] ["self", "disk"] (defScope s_Disks_away) := ⟨rfl, rfl, rfl, by decide +kernel, rfl, by decide +kernel, by decide +kernel⟩
abbrev s_Disks_power : Stmt := inClass (topS 8) 16
theorem sc_Disks_power : FnScope ["self", "kept", "disk"] ["self", "kept"] (defScope s_Disks_power) := ⟨rfl, rfl, rfl, by decide +kernel, rfl, by decide +kernel, by decide +kernel⟩
abbrev s_is_number : Stmt := topS 6
theorem sc_is_number : FnScope ["value", "low", "high"] ["value", "low", "high"] (defScope s_is_number) := ⟨rfl, rfl, rfl, by decide +kernel, rfl, by decide +kernel, by decide +kernel⟩
abbrev s_check_sizes : Stmt := topS 7
theorem sc_check_sizes : FnScope ["disks", "sectors", "carrying", "depth"] ["disks", "sectors", "carrying", "depth"] (defScope s_check_sizes) := ⟨rfl, rfl, rfl, by decide +kernel, rfl, by decide +kernel, by decide +kernel⟩
abbrev s_Disks___init__ : Stmt := inClass (topS 8) 0
theorem sc_Disks___init__ : FnScope ["self", "disks", "sectors", "carrying", "depth", "_"] ["self", "disks", "sectors", "carrying", "depth"] (defScope s_Disks___init__) := ⟨rfl, rfl, rfl, by decide +kernel, rfl, by decide +kernel, by decide +kernel⟩
abbrev s_Disks_is_on : Stmt := inClass (topS 8) 3
theorem sc_Disks_is_on : FnScope ["self"] ["self"] (defScope s_Disks_is_on) := ⟨rfl, rfl, rfl, by decide +kernel, rfl, by decide +kernel, by decide +kernel⟩
abbrev s_Disks_losses : Stmt := inClass (topS 8) 4
theorem sc_Disks_losses : FnScope ["self"] ["self"] (defScope s_Disks_losses) := ⟨rfl, rfl, rfl, by decide +kernel, rfl, by decide +kernel, by decide +kernel⟩
abbrev s_Disks_counts : Stmt := inClass (topS 8) 2
theorem sc_Disks_counts : FnScope ["self"] ["self"] (defScope s_Disks_counts) := ⟨rfl, rfl, rfl, by decide +kernel, rfl, by decide +kernel, by decide +kernel⟩
structure Mg (mg : Str → Option Value) : Prop where
  n_bool : mg "bool" = none
  n_int : mg "int" = none
  n_isinstance : mg "isinstance" = none
  n_len : mg "len" = none
  n_list : mg "list" = none
  n_min : mg "min" = none
  n_range : mg "range" = none
  n_reversed : mg "reversed" = none
  n_tuple : mg "tuple" = none
  n_zip : mg "zip" = none
structure Tx_Disks (K : PySem.W.Frag) (C : Addr) : Prop where
  cl : Cls K C
  n_in_use : NoAttr K C "in_use"
  n_formatted : NoAttr K C "formatted"
  n_scrub_place : NoAttr K C "scrub_place"
  n__sizes : NoAttr K C "_sizes"
  n__there : NoAttr K C "_there"
  n__media : NoAttr K C "_media"
  n__waiting : NoAttr K C "_waiting"
  n__on : NoAttr K C "_on"
  n__left : NoAttr K C "_left"
  n__failures : NoAttr K C "_failures"
  n__reads : NoAttr K C "_reads"
  n__writes : NoAttr K C "_writes"
  n__syncs : NoAttr K C "_syncs"
abbrev NM_Disks : List Str := NMD
theorem nd_Disks : NM_Disks.Nodup := by decide +kernel
section
variable {K : PySem.W.Frag} {σ : L2.St} {H : Hp} {Q : VK} {n : L2.St → Hp → Prop} {x y v : V} {j k : Int} {C dx a : Addr} {vs vs' : List V} {sp : Sp} {E : L2.St → XK} {tA : TA}
theorem iF_Disks_in_use (T : Tx_Disks K C) (h : H a = some (.ins C dx (NM_Disks.zip vs))) (hv : vs[0]? = some v) (q : Q v H) : kFld K "in_use" Q (.ref a) H := iFldI T.cl T.n_in_use nd_Disks (s := 0) rfl h hv q
theorem iS_Disks_in_use (T : Tx_Disks K C) (h : H a = some (.ins C dx (NM_Disks.zip vs))) (hv : SetV vs 0 y vs') (q : n σ (upd H a (.ins C dx (NM_Disks.zip vs')))) : kSto K "in_use" n σ y (.ref a) H := iStoI T.cl T.n_in_use nd_Disks (by decide) (s := 0) rfl h hv q
theorem iN_Disks_in_use (T : Tx_Disks K C) (h : H a = some (.ins C dx (NM_Disks.zip vs))) (hl : vs.length = 0) (q : n σ (upd H a (.ins C dx (NM_Disks.zip (vs ++ [y]))))) : kSto K "in_use" n σ y (.ref a) H := iStoN T.cl T.n_in_use nd_Disks (by decide) (s := 0) rfl h hl q
theorem iF_Disks_formatted (T : Tx_Disks K C) (h : H a = some (.ins C dx (NM_Disks.zip vs))) (hv : vs[1]? = some v) (q : Q v H) : kFld K "formatted" Q (.ref a) H := iFldI T.cl T.n_formatted nd_Disks (s := 1) rfl h hv q
theorem iS_Disks_formatted (T : Tx_Disks K C) (h : H a = some (.ins C dx (NM_Disks.zip vs))) (hv : SetV vs 1 y vs') (q : n σ (upd H a (.ins C dx (NM_Disks.zip vs')))) : kSto K "formatted" n σ y (.ref a) H := iStoI T.cl T.n_formatted nd_Disks (by decide) (s := 1) rfl h hv q
theorem iN_Disks_formatted (T : Tx_Disks K C) (h : H a = some (.ins C dx (NM_Disks.zip vs))) (hl : vs.length = 1) (q : n σ (upd H a (.ins C dx (NM_Disks.zip (vs ++ [y]))))) : kSto K "formatted" n σ y (.ref a) H := iStoN T.cl T.n_formatted nd_Disks (by decide) (s := 1) rfl h hl q
theorem iF_Disks_scrub_place (T : Tx_Disks K C) (h : H a = some (.ins C dx (NM_Disks.zip vs))) (hv : vs[2]? = some v) (q : Q v H) : kFld K "scrub_place" Q (.ref a) H := iFldI T.cl T.n_scrub_place nd_Disks (s := 2) rfl h hv q
theorem iS_Disks_scrub_place (T : Tx_Disks K C) (h : H a = some (.ins C dx (NM_Disks.zip vs))) (hv : SetV vs 2 y vs') (q : n σ (upd H a (.ins C dx (NM_Disks.zip vs')))) : kSto K "scrub_place" n σ y (.ref a) H := iStoI T.cl T.n_scrub_place nd_Disks (by decide) (s := 2) rfl h hv q
theorem iN_Disks_scrub_place (T : Tx_Disks K C) (h : H a = some (.ins C dx (NM_Disks.zip vs))) (hl : vs.length = 2) (q : n σ (upd H a (.ins C dx (NM_Disks.zip (vs ++ [y]))))) : kSto K "scrub_place" n σ y (.ref a) H := iStoN T.cl T.n_scrub_place nd_Disks (by decide) (s := 2) rfl h hl q
theorem iF_Disks__sizes (T : Tx_Disks K C) (h : H a = some (.ins C dx (NM_Disks.zip vs))) (hv : vs[3]? = some v) (q : Q v H) : kFld K "_sizes" Q (.ref a) H := iFldI T.cl T.n__sizes nd_Disks (s := 3) rfl h hv q
theorem iS_Disks__sizes (T : Tx_Disks K C) (h : H a = some (.ins C dx (NM_Disks.zip vs))) (hv : SetV vs 3 y vs') (q : n σ (upd H a (.ins C dx (NM_Disks.zip vs')))) : kSto K "_sizes" n σ y (.ref a) H := iStoI T.cl T.n__sizes nd_Disks (by decide) (s := 3) rfl h hv q
theorem iN_Disks__sizes (T : Tx_Disks K C) (h : H a = some (.ins C dx (NM_Disks.zip vs))) (hl : vs.length = 3) (q : n σ (upd H a (.ins C dx (NM_Disks.zip (vs ++ [y]))))) : kSto K "_sizes" n σ y (.ref a) H := iStoN T.cl T.n__sizes nd_Disks (by decide) (s := 3) rfl h hl q
theorem iF_Disks__there (T : Tx_Disks K C) (h : H a = some (.ins C dx (NM_Disks.zip vs))) (hv : vs[4]? = some v) (q : Q v H) : kFld K "_there" Q (.ref a) H := iFldI T.cl T.n__there nd_Disks (s := 4) rfl h hv q
theorem iS_Disks__there (T : Tx_Disks K C) (h : H a = some (.ins C dx (NM_Disks.zip vs))) (hv : SetV vs 4 y vs') (q : n σ (upd H a (.ins C dx (NM_Disks.zip vs')))) : kSto K "_there" n σ y (.ref a) H := iStoI T.cl T.n__there nd_Disks (by decide) (s := 4) rfl h hv q
theorem iN_Disks__there (T : Tx_Disks K C) (h : H a = some (.ins C dx (NM_Disks.zip vs))) (hl : vs.length = 4) (q : n σ (upd H a (.ins C dx (NM_Disks.zip (vs ++ [y]))))) : kSto K "_there" n σ y (.ref a) H := iStoN T.cl T.n__there nd_Disks (by decide) (s := 4) rfl h hl q
theorem iF_Disks__media (T : Tx_Disks K C) (h : H a = some (.ins C dx (NM_Disks.zip vs))) (hv : vs[5]? = some v) (q : Q v H) : kFld K "_media" Q (.ref a) H := iFldI T.cl T.n__media nd_Disks (s := 5) rfl h hv q
theorem iS_Disks__media (T : Tx_Disks K C) (h : H a = some (.ins C dx (NM_Disks.zip vs))) (hv : SetV vs 5 y vs') (q : n σ (upd H a (.ins C dx (NM_Disks.zip vs')))) : kSto K "_media" n σ y (.ref a) H := iStoI T.cl T.n__media nd_Disks (by decide) (s := 5) rfl h hv q
theorem iN_Disks__media (T : Tx_Disks K C) (h : H a = some (.ins C dx (NM_Disks.zip vs))) (hl : vs.length = 5) (q : n σ (upd H a (.ins C dx (NM_Disks.zip (vs ++ [y]))))) : kSto K "_media" n σ y (.ref a) H := iStoN T.cl T.n__media nd_Disks (by decide) (s := 5) rfl h hl q
theorem iF_Disks__waiting (T : Tx_Disks K C) (h : H a = some (.ins C dx (NM_Disks.zip vs))) (hv : vs[6]? = some v) (q : Q v H) : kFld K "_waiting" Q (.ref a) H := iFldI T.cl T.n__waiting nd_Disks (s := 6) rfl h hv q
theorem iS_Disks__waiting (T : Tx_Disks K C) (h : H a = some (.ins C dx (NM_Disks.zip vs))) (hv : SetV vs 6 y vs') (q : n σ (upd H a (.ins C dx (NM_Disks.zip vs')))) : kSto K "_waiting" n σ y (.ref a) H := iStoI T.cl T.n__waiting nd_Disks (by decide) (s := 6) rfl h hv q
theorem iN_Disks__waiting (T : Tx_Disks K C) (h : H a = some (.ins C dx (NM_Disks.zip vs))) (hl : vs.length = 6) (q : n σ (upd H a (.ins C dx (NM_Disks.zip (vs ++ [y]))))) : kSto K "_waiting" n σ y (.ref a) H := iStoN T.cl T.n__waiting nd_Disks (by decide) (s := 6) rfl h hl q
theorem iF_Disks__on (T : Tx_Disks K C) (h : H a = some (.ins C dx (NM_Disks.zip vs))) (hv : vs[7]? = some v) (q : Q v H) : kFld K "_on" Q (.ref a) H := iFldI T.cl T.n__on nd_Disks (s := 7) rfl h hv q
theorem iS_Disks__on (T : Tx_Disks K C) (h : H a = some (.ins C dx (NM_Disks.zip vs))) (hv : SetV vs 7 y vs') (q : n σ (upd H a (.ins C dx (NM_Disks.zip vs')))) : kSto K "_on" n σ y (.ref a) H := iStoI T.cl T.n__on nd_Disks (by decide) (s := 7) rfl h hv q
theorem iN_Disks__on (T : Tx_Disks K C) (h : H a = some (.ins C dx (NM_Disks.zip vs))) (hl : vs.length = 7) (q : n σ (upd H a (.ins C dx (NM_Disks.zip (vs ++ [y]))))) : kSto K "_on" n σ y (.ref a) H := iStoN T.cl T.n__on nd_Disks (by decide) (s := 7) rfl h hl q
theorem iF_Disks__left (T : Tx_Disks K C) (h : H a = some (.ins C dx (NM_Disks.zip vs))) (hv : vs[8]? = some v) (q : Q v H) : kFld K "_left" Q (.ref a) H := iFldI T.cl T.n__left nd_Disks (s := 8) rfl h hv q
theorem iS_Disks__left (T : Tx_Disks K C) (h : H a = some (.ins C dx (NM_Disks.zip vs))) (hv : SetV vs 8 y vs') (q : n σ (upd H a (.ins C dx (NM_Disks.zip vs')))) : kSto K "_left" n σ y (.ref a) H := iStoI T.cl T.n__left nd_Disks (by decide) (s := 8) rfl h hv q
theorem iN_Disks__left (T : Tx_Disks K C) (h : H a = some (.ins C dx (NM_Disks.zip vs))) (hl : vs.length = 8) (q : n σ (upd H a (.ins C dx (NM_Disks.zip (vs ++ [y]))))) : kSto K "_left" n σ y (.ref a) H := iStoN T.cl T.n__left nd_Disks (by decide) (s := 8) rfl h hl q
theorem iM_Disks__left (T : Tx_Disks K C) (h : H a = some (.ins C dx (NM_Disks.zip vs))) (hv : vs[8]? = some (.int k)) (hs : SetV vs 8 (.int (k - j)) vs') (q : n σ (upd H a (.ins C dx (NM_Disks.zip vs')))) : kAugF K "_left" L2.rSub (tC (.int j)) n σ (.ref a) H := iAugM T.cl T.n__left nd_Disks (by decide) (s := 8) rfl h hv hs q
theorem iF_Disks__failures (T : Tx_Disks K C) (h : H a = some (.ins C dx (NM_Disks.zip vs))) (hv : vs[9]? = some v) (q : Q v H) : kFld K "_failures" Q (.ref a) H := iFldI T.cl T.n__failures nd_Disks (s := 9) rfl h hv q
theorem iS_Disks__failures (T : Tx_Disks K C) (h : H a = some (.ins C dx (NM_Disks.zip vs))) (hv : SetV vs 9 y vs') (q : n σ (upd H a (.ins C dx (NM_Disks.zip vs')))) : kSto K "_failures" n σ y (.ref a) H := iStoI T.cl T.n__failures nd_Disks (by decide) (s := 9) rfl h hv q
theorem iN_Disks__failures (T : Tx_Disks K C) (h : H a = some (.ins C dx (NM_Disks.zip vs))) (hl : vs.length = 9) (q : n σ (upd H a (.ins C dx (NM_Disks.zip (vs ++ [y]))))) : kSto K "_failures" n σ y (.ref a) H := iStoN T.cl T.n__failures nd_Disks (by decide) (s := 9) rfl h hl q
theorem iP_Disks__failures (T : Tx_Disks K C) (h : H a = some (.ins C dx (NM_Disks.zip vs))) (hv : vs[9]? = some (.int k)) (hs : SetV vs 9 (.int (k + j)) vs') (q : n σ (upd H a (.ins C dx (NM_Disks.zip vs')))) : kAugF K "_failures" L2.rAdd (tC (.int j)) n σ (.ref a) H := iAugP T.cl T.n__failures nd_Disks (by decide) (s := 9) rfl h hv hs q
theorem iF_Disks__reads (T : Tx_Disks K C) (h : H a = some (.ins C dx (NM_Disks.zip vs))) (hv : vs[10]? = some v) (q : Q v H) : kFld K "_reads" Q (.ref a) H := iFldI T.cl T.n__reads nd_Disks (s := 10) rfl h hv q
theorem iS_Disks__reads (T : Tx_Disks K C) (h : H a = some (.ins C dx (NM_Disks.zip vs))) (hv : SetV vs 10 y vs') (q : n σ (upd H a (.ins C dx (NM_Disks.zip vs')))) : kSto K "_reads" n σ y (.ref a) H := iStoI T.cl T.n__reads nd_Disks (by decide) (s := 10) rfl h hv q
theorem iN_Disks__reads (T : Tx_Disks K C) (h : H a = some (.ins C dx (NM_Disks.zip vs))) (hl : vs.length = 10) (q : n σ (upd H a (.ins C dx (NM_Disks.zip (vs ++ [y]))))) : kSto K "_reads" n σ y (.ref a) H := iStoN T.cl T.n__reads nd_Disks (by decide) (s := 10) rfl h hl q
theorem iP_Disks__reads (T : Tx_Disks K C) (h : H a = some (.ins C dx (NM_Disks.zip vs))) (hv : vs[10]? = some (.int k)) (hs : SetV vs 10 (.int (k + j)) vs') (q : n σ (upd H a (.ins C dx (NM_Disks.zip vs')))) : kAugF K "_reads" L2.rAdd (tC (.int j)) n σ (.ref a) H := iAugP T.cl T.n__reads nd_Disks (by decide) (s := 10) rfl h hv hs q
theorem iF_Disks__writes (T : Tx_Disks K C) (h : H a = some (.ins C dx (NM_Disks.zip vs))) (hv : vs[11]? = some v) (q : Q v H) : kFld K "_writes" Q (.ref a) H := iFldI T.cl T.n__writes nd_Disks (s := 11) rfl h hv q
theorem iS_Disks__writes (T : Tx_Disks K C) (h : H a = some (.ins C dx (NM_Disks.zip vs))) (hv : SetV vs 11 y vs') (q : n σ (upd H a (.ins C dx (NM_Disks.zip vs')))) : kSto K "_writes" n σ y (.ref a) H := iStoI T.cl T.n__writes nd_Disks (by decide) (s := 11) rfl h hv q
theorem iN_Disks__writes (T : Tx_Disks K C) (h : H a = some (.ins C dx (NM_Disks.zip vs))) (hl : vs.length = 11) (q : n σ (upd H a (.ins C dx (NM_Disks.zip (vs ++ [y]))))) : kSto K "_writes" n σ y (.ref a) H := iStoN T.cl T.n__writes nd_Disks (by decide) (s := 11) rfl h hl q
theorem iP_Disks__writes (T : Tx_Disks K C) (h : H a = some (.ins C dx (NM_Disks.zip vs))) (hv : vs[11]? = some (.int k)) (hs : SetV vs 11 (.int (k + j)) vs') (q : n σ (upd H a (.ins C dx (NM_Disks.zip vs')))) : kAugF K "_writes" L2.rAdd (tC (.int j)) n σ (.ref a) H := iAugP T.cl T.n__writes nd_Disks (by decide) (s := 11) rfl h hv hs q
theorem iF_Disks__syncs (T : Tx_Disks K C) (h : H a = some (.ins C dx (NM_Disks.zip vs))) (hv : vs[12]? = some v) (q : Q v H) : kFld K "_syncs" Q (.ref a) H := iFldI T.cl T.n__syncs nd_Disks (s := 12) rfl h hv q
theorem iS_Disks__syncs (T : Tx_Disks K C) (h : H a = some (.ins C dx (NM_Disks.zip vs))) (hv : SetV vs 12 y vs') (q : n σ (upd H a (.ins C dx (NM_Disks.zip vs')))) : kSto K "_syncs" n σ y (.ref a) H := iStoI T.cl T.n__syncs nd_Disks (by decide) (s := 12) rfl h hv q
theorem iN_Disks__syncs (T : Tx_Disks K C) (h : H a = some (.ins C dx (NM_Disks.zip vs))) (hl : vs.length = 12) (q : n σ (upd H a (.ins C dx (NM_Disks.zip (vs ++ [y]))))) : kSto K "_syncs" n σ y (.ref a) H := iStoN T.cl T.n__syncs nd_Disks (by decide) (s := 12) rfl h hl q
theorem iP_Disks__syncs (T : Tx_Disks K C) (h : H a = some (.ins C dx (NM_Disks.zip vs))) (hv : vs[12]? = some (.int k)) (hs : SetV vs 12 (.int (k + j)) vs') (q : n σ (upd H a (.ins C dx (NM_Disks.zip vs')))) : kAugF K "_syncs" L2.rAdd (tC (.int j)) n σ (.ref a) H := iAugP T.cl T.n__syncs nd_Disks (by decide) (s := 12) rfl h hv hs q
theorem iMe_Disks_sizes (h : H a = some (.ins C dx (NM_Disks.zip vs))) (q : tA σ H fun vs H2 => sp (.ref a :: vs) H2 Q (E σ)) : kMet C "sizes" sp E tA σ Q (.ref a) H := iMetI h (zip_none (by decide +kernel)) q
theorem iMe_Disks_counts (h : H a = some (.ins C dx (NM_Disks.zip vs))) (q : tA σ H fun vs H2 => sp (.ref a :: vs) H2 Q (E σ)) : kMet C "counts" sp E tA σ Q (.ref a) H := iMetI h (zip_none (by decide +kernel)) q
theorem iMe_Disks_is_on (h : H a = some (.ins C dx (NM_Disks.zip vs))) (q : tA σ H fun vs H2 => sp (.ref a :: vs) H2 Q (E σ)) : kMet C "is_on" sp E tA σ Q (.ref a) H := iMetI h (zip_none (by decide +kernel)) q
theorem iMe_Disks_losses (h : H a = some (.ins C dx (NM_Disks.zip vs))) (q : tA σ H fun vs H2 => sp (.ref a :: vs) H2 Q (E σ)) : kMet C "losses" sp E tA σ Q (.ref a) H := iMetI h (zip_none (by decide +kernel)) q
theorem iMe_Disks_is_there (h : H a = some (.ins C dx (NM_Disks.zip vs))) (q : tA σ H fun vs H2 => sp (.ref a :: vs) H2 Q (E σ)) : kMet C "is_there" sp E tA σ Q (.ref a) H := iMetI h (zip_none (by decide +kernel)) q
theorem iMe_Disks_cell (h : H a = some (.ins C dx (NM_Disks.zip vs))) (q : tA σ H fun vs H2 => sp (.ref a :: vs) H2 Q (E σ)) : kMet C "cell" sp E tA σ Q (.ref a) H := iMetI h (zip_none (by decide +kernel)) q
theorem iMe_Disks_pending (h : H a = some (.ins C dx (NM_Disks.zip vs))) (q : tA σ H fun vs H2 => sp (.ref a :: vs) H2 Q (E σ)) : kMet C "pending" sp E tA σ Q (.ref a) H := iMetI h (zip_none (by decide +kernel)) q
theorem iMe_Disks_ask (h : H a = some (.ins C dx (NM_Disks.zip vs))) (q : tA σ H fun vs H2 => sp (.ref a :: vs) H2 Q (E σ)) : kMet C "ask" sp E tA σ Q (.ref a) H := iMetI h (zip_none (by decide +kernel)) q
theorem iMe_Disks_write (h : H a = some (.ins C dx (NM_Disks.zip vs))) (q : tA σ H fun vs H2 => sp (.ref a :: vs) H2 Q (E σ)) : kMet C "write" sp E tA σ Q (.ref a) H := iMetI h (zip_none (by decide +kernel)) q
theorem iMe_Disks_sync (h : H a = some (.ins C dx (NM_Disks.zip vs))) (q : tA σ H fun vs H2 => sp (.ref a :: vs) H2 Q (E σ)) : kMet C "sync" sp E tA σ Q (.ref a) H := iMetI h (zip_none (by decide +kernel)) q
theorem iMe_Disks_rot (h : H a = some (.ins C dx (NM_Disks.zip vs))) (q : tA σ H fun vs H2 => sp (.ref a :: vs) H2 Q (E σ)) : kMet C "rot" sp E tA σ Q (.ref a) H := iMetI h (zip_none (by decide +kernel)) q
theorem iMe_Disks_bad (h : H a = some (.ins C dx (NM_Disks.zip vs))) (q : tA σ H fun vs H2 => sp (.ref a :: vs) H2 Q (E σ)) : kMet C "bad" sp E tA σ Q (.ref a) H := iMetI h (zip_none (by decide +kernel)) q
theorem iMe_Disks_away (h : H a = some (.ins C dx (NM_Disks.zip vs))) (q : tA σ H fun vs H2 => sp (.ref a :: vs) H2 Q (E σ)) : kMet C "away" sp E tA σ Q (.ref a) H := iMetI h (zip_none (by decide +kernel)) q
theorem iMe_Disks_blank (h : H a = some (.ins C dx (NM_Disks.zip vs))) (q : tA σ H fun vs H2 => sp (.ref a :: vs) H2 Q (E σ)) : kMet C "blank" sp E tA σ Q (.ref a) H := iMetI h (zip_none (by decide +kernel)) q
theorem iMe_Disks_fail_after (h : H a = some (.ins C dx (NM_Disks.zip vs))) (q : tA σ H fun vs H2 => sp (.ref a :: vs) H2 Q (E σ)) : kMet C "fail_after" sp E tA σ Q (.ref a) H := iMetI h (zip_none (by decide +kernel)) q
theorem iMe_Disks_power (h : H a = some (.ins C dx (NM_Disks.zip vs))) (q : tA σ H fun vs H2 => sp (.ref a :: vs) H2 Q (E σ)) : kMet C "power" sp E tA σ Q (.ref a) H := iMetI h (zip_none (by decide +kernel)) q
theorem iMe_Disks__operate (h : H a = some (.ins C dx (NM_Disks.zip vs))) (q : tA σ H fun vs H2 => sp (.ref a :: vs) H2 Q (E σ)) : kMet C "_operate" sp E tA σ Q (.ref a) H := iMetI h (zip_none (by decide +kernel)) q
theorem iMe_Disks__fail (h : H a = some (.ins C dx (NM_Disks.zip vs))) (q : tA σ H fun vs H2 => sp (.ref a :: vs) H2 Q (E σ)) : kMet C "_fail" sp E tA σ Q (.ref a) H := iMetI h (zip_none (by decide +kernel)) q
theorem iMe_Disks__settle (h : H a = some (.ins C dx (NM_Disks.zip vs))) (q : tA σ H fun vs H2 => sp (.ref a :: vs) H2 Q (E σ)) : kMet C "_settle" sp E tA σ Q (.ref a) H := iMetI h (zip_none (by decide +kernel)) q
theorem iMe_Disks__empty (h : H a = some (.ins C dx (NM_Disks.zip vs))) (q : tA σ H fun vs H2 => sp (.ref a :: vs) H2 Q (E σ)) : kMet C "_empty" sp E tA σ Q (.ref a) H := iMetI h (zip_none (by decide +kernel)) q
end
local macro_rules | `(tactic| walk_at "ne") => `(tactic| (apply Ne.symm; apply ne_fresh; (· assumption); (· walk_at "look")))
local macro_rules | `(tactic| walk_at "ne") => `(tactic| (apply ne_fresh; (· assumption); (· walk_at "look")))
local macro_rules | `(tactic| walk_at "ne") => `(tactic| (apply Ne.symm; assumption))
local macro_rules | `(tactic| walk_at "ne") => `(tactic| assumption)
local macro_rules | `(tactic| walk_at "look") => `(tactic| (refine exAt (by assumption) ?_; walk_at "look"))
local macro_rules | `(tactic| walk_at "look") => `(tactic| (refine (upd_ne ?_).trans ?_; (· walk_at "ne"); (· walk_at "look")))
local macro_rules | `(tactic| walk_at "look") => `(tactic| exact upd_same)
local macro_rules | `(tactic| walk_at "look") => `(tactic| assumption)
local macro_rules | `(tactic| walk_at "side") => `(tactic| (exact ⟨by decide, by decide, by decide⟩))
local macro_rules | `(tactic| walk_at "side") => `(tactic| (exact ⟨by omega, by omega⟩))
local macro_rules | `(tactic| walk_at "side") => `(tactic| (show (0:Int) ≤ _; omega))
local macro_rules | `(tactic| walk_at "side") => `(tactic| (show (0:Int) < _; omega))
local macro_rules | `(tactic| walk_at "side") => `(tactic| (exact Or.inr ⟨by omega, by omega⟩))
local macro_rules | `(tactic| walk_at "side") => `(tactic| (exact Or.inl ⟨by omega, by omega⟩))
local macro_rules | `(tactic| walk_at "step") => `(tactic| ((with_reducible apply iZL); (· walk_at "look"); (· walk_at "look")))
local macro_rules | `(tactic| walk_at "step") => `(tactic| ((with_reducible apply iItL); (· walk_at "look")))
local macro_rules | `(tactic| walk_at "step") => `(tactic| ((with_reducible apply iRng2I); (· omega); (· omega); (· omega); (· omega)))
local macro_rules | `(tactic| walk_at "step") => `(tactic| ((with_reducible apply iDNi); (· walk_at "look")))
local macro_rules | `(tactic| walk_at "step") => `(tactic| ((with_reducible apply iDIi); (· walk_at "look")))
local macro_rules | `(tactic| walk_at "step") => `(tactic| ((with_reducible apply iGTup); (· walk_at "look"); (· rfl)))
local macro_rules | `(tactic| walk_at "step") => `(tactic| ((with_reducible apply iLcB); (· rfl)))
local macro_rules | `(tactic| walk_at "step") => `(tactic| ((with_reducible apply ifNn); (· omega)))
local macro_rules | `(tactic| walk_at "step") => `(tactic| ((with_reducible apply ifNp); (· omega)))
local macro_rules | `(tactic| walk_at "step") => `(tactic| ((with_reducible apply ifF); (· apply decide_eq_false; omega)))
local macro_rules | `(tactic| walk_at "step") => `(tactic| ((with_reducible apply ifT); (· apply decide_eq_true; omega)))
local macro_rules | `(tactic| walk_at "step") => `(tactic| ((with_reducible apply ifF); (· rfl)))
local macro_rules | `(tactic| walk_at "step") => `(tactic| ((with_reducible apply ifT); (· rfl)))
local macro_rules | `(tactic| walk_at "step") => `(tactic| ((with_reducible apply iLenS); (· first | exact Or.inl (by walk_at "look") | exact Or.inr (by walk_at "look"))))
local macro_rules | `(tactic| walk_at "step") => `(tactic| ((with_reducible apply iLenT); (· walk_at "look")))
local macro_rules | `(tactic| walk_at "step") => `(tactic| ((with_reducible apply iIsi); (· first | exact tyN_int | exact tyN_bl | exact tyN_non | exact tyN_str | exact tyN_lst (by walk_at "look") | exact tyN_tup (by walk_at "look")); (· (first | exact kb_NoneType_bool | exact kb_NoneType_int | exact kb_NoneType_str | exact kb_NoneType_tuple | exact kb_NoneType_list | exact kb_bool_bool | exact kb_bool_int | exact kb_bool_str | exact kb_bool_tuple | exact kb_bool_list | exact kb_int_bool | exact kb_int_int | exact kb_int_str | exact kb_int_tuple | exact kb_int_list | exact kb_str_bool | exact kb_str_int | exact kb_str_str | exact kb_str_tuple | exact kb_str_list | exact kb_tuple_bool | exact kb_tuple_int | exact kb_tuple_str | exact kb_tuple_tuple | exact kb_tuple_list | exact kb_list_bool | exact kb_list_int | exact kb_list_str | exact kb_list_tuple | exact kb_list_list))))
local macro_rules | `(tactic| walk_at "step") => `(tactic| ((with_reducible apply iIxT); (· walk_at "look"); (· rfl)))
local macro_rules | `(tactic| walk_at "step") => `(tactic| ((with_reducible apply iSetL); (· walk_at "look"); (· rfl)))
local macro_rules | `(tactic| walk_at "step") => `(tactic| ((with_reducible apply iLenL); (· walk_at "look")))
local macro_rules | `(tactic| walk_at "step") => `(tactic| ((with_reducible apply iIxL); (· walk_at "look"); (· rfl)))
local macro_rules | `(tactic| walk_at "step") => `(tactic| ((with_reducible apply iI); rotate_left; (· (first | (exact Or.inl ⟨by omega, by omega⟩) | (exact Or.inr ⟨by omega, by omega⟩) | (show (0:Int) < _; omega) | (show (0:Int) ≤ _; omega) | (exact ⟨by omega, by omega⟩) | (exact ⟨by decide, by decide, by decide⟩)))))
local macro_rules | `(tactic| walk_at "step") => `(tactic| ((with_reducible apply iAugK); (· rfl)))
local macro_rules | `(tactic| walk_at "step") => `(tactic| ((with_reducible apply iRngI); (· first | decide | omega); (· first | decide | omega)))
local macro_rules | `(tactic| walk_at "step") => `(tactic| (with_reducible refine iDEa ?_))
local macro_rules | `(tactic| walk_at "step") => `(tactic| (with_reducible refine iGNil ?_))
local macro_rules | `(tactic| walk_at "step") => `(tactic| (with_reducible refine iGCons ?_))
local macro_rules | `(tactic| walk_at "step") => `(tactic| (with_reducible refine iZipK ?_))
local macro_rules | `(tactic| walk_at "step") => `(tactic| (with_reducible refine iRng2 ?_))
local macro_rules | `(tactic| walk_at "step") => `(tactic| (with_reducible refine iDPut ?_))
local macro_rules | `(tactic| walk_at "step") => `(tactic| (with_reducible refine iDNotIn ?_))
local macro_rules | `(tactic| walk_at "step") => `(tactic| (with_reducible refine iDIn ?_))
local macro_rules | `(tactic| walk_at "step") => `(tactic| (with_reducible refine iDGet ?_))
local macro_rules | `(tactic| walk_at "step") => `(tactic| (with_reducible refine iYes ?_))
local macro_rules | `(tactic| walk_at "step") => `(tactic| (with_reducible refine iLc ?_))
local macro_rules | `(tactic| walk_at "step") => `(tactic| (with_reducible refine iNeS ?_))
local macro_rules | `(tactic| walk_at "step") => `(tactic| (with_reducible refine iEqS ?_))
local macro_rules | `(tactic| walk_at "step") => `(tactic| (with_reducible refine iNeB ?_))
local macro_rules | `(tactic| walk_at "step") => `(tactic| (with_reducible refine iEqB ?_))
local macro_rules | `(tactic| walk_at "step") => `(tactic| (with_reducible refine iCont ?_))
local macro_rules | `(tactic| walk_at "step") => `(tactic| (with_reducible refine iBreak ?_))
local macro_rules | `(tactic| walk_at "step") => `(tactic| (with_reducible refine iIterL ?_))
local macro_rules | `(tactic| walk_at "step") => `(tactic| (with_reducible refine iTup ?_))
local macro_rules | `(tactic| walk_at "step") => `(tactic| (with_reducible refine iLst ?_))
local macro_rules | `(tactic| walk_at "step") => `(tactic| (with_reducible refine iSub ?_))
local macro_rules | `(tactic| walk_at "step") => `(tactic| (with_reducible refine iIpI ?_))
local macro_rules | `(tactic| walk_at "step") => `(tactic| (with_reducible refine iAugS ?_))
local macro_rules | `(tactic| walk_at "step") => `(tactic| (with_reducible refine iNotV ?_))
local macro_rules | `(tactic| walk_at "step") => `(tactic| (with_reducible refine iOrV ?_))
local macro_rules | `(tactic| walk_at "step") => `(tactic| (with_reducible refine iAndV ?_))
local macro_rules | `(tactic| walk_at "step") => `(tactic| (with_reducible refine iDGet1 ?_))
local macro_rules | `(tactic| walk_at "step") => `(tactic| (with_reducible refine iNotBl ?_))
local macro_rules | `(tactic| walk_at "step") => `(tactic| (with_reducible refine iIsB ?_))
local macro_rules | `(tactic| walk_at "step") => `(tactic| (with_reducible refine iIntB ?_))
local macro_rules | `(tactic| walk_at "step") => `(tactic| (with_reducible refine iPn ?_))
local macro_rules | `(tactic| walk_at "step") => `(tactic| (with_reducible refine iPr ?_))
local macro_rules | `(tactic| walk_at "step") => `(tactic| (with_reducible refine iRai ?_))
local macro_rules | `(tactic| walk_at "step") => `(tactic| (with_reducible refine iRev1 ?_))
local macro_rules | `(tactic| walk_at "step") => `(tactic| (with_reducible refine iBM ?_))
local macro_rules | `(tactic| walk_at "step") => `(tactic| (with_reducible refine iAugF ?_))
local macro_rules | `(tactic| walk_at "step") => `(tactic| (with_reducible refine iSto ?_))
local macro_rules | `(tactic| walk_at "step") => `(tactic| (with_reducible refine iFld ?_))
local macro_rules | `(tactic| walk_at "step") => `(tactic| (with_reducible refine iMakS ?_))
local macro_rules | `(tactic| walk_at "step") => `(tactic| (with_reducible refine iMak ?_))
local macro_rules | `(tactic| walk_at "step") => `(tactic| (with_reducible refine iMet ?_))
local macro_rules | `(tactic| walk_at "step") => `(tactic| (with_reducible refine iCalE ?_))
local macro_rules | `(tactic| walk_at "step") => `(tactic| (with_reducible refine ifDr ?_))
local macro_rules | `(tactic| walk_at "step") => `(tactic| (with_reducible refine ifNDr ?_))
local macro_rules | `(tactic| walk_at "step") => `(tactic| (with_reducible refine iTruI ?_))
local macro_rules | `(tactic| walk_at "step") => `(tactic| (with_reducible refine iNotN ?_))
local macro_rules | `(tactic| walk_at "step") => `(tactic| (with_reducible refine iIsN ?_))
local macro_rules | `(tactic| walk_at "step") => `(tactic| (with_reducible refine iRetN ?_))
local macro_rules | `(tactic| walk_at "step") => `(tactic| (with_reducible refine iU ?_))
local macro_rules | `(tactic| walk_at "step") => `(tactic| (with_reducible refine iUn ?_))
local macro_rules | `(tactic| walk_at "step") => `(tactic| (with_reducible refine iChain ?_))
local macro_rules | `(tactic| walk_at "step") => `(tactic| (with_reducible refine iIf ?_))
local macro_rules | `(tactic| walk_at "step") => `(tactic| (with_reducible refine iB ?_))
local macro_rules | `(tactic| walk_at "step") => `(tactic| (with_reducible refine iNot ?_))
local macro_rules | `(tactic| walk_at "step") => `(tactic| (with_reducible refine iOr ?_))
local macro_rules | `(tactic| walk_at "step") => `(tactic| (with_reducible refine iAnd ?_))
local macro_rules | `(tactic| walk_at "step") => `(tactic| (with_reducible refine iCal ?_))
local macro_rules | `(tactic| walk_at "step") => `(tactic| (with_reducible refine iRng ?_))
local macro_rules | `(tactic| walk_at "step") => `(tactic| (with_reducible refine iFor ?_))
local macro_rules | `(tactic| walk_at "step") => `(tactic| (with_reducible refine iInt ?_))
local macro_rules | `(tactic| walk_at "step") => `(tactic| (with_reducible refine iNeI ?_))
local macro_rules | `(tactic| walk_at "step") => `(tactic| (with_reducible refine iEqI ?_))
local macro_rules | `(tactic| walk_at "step") => `(tactic| (with_reducible refine iDrop ?_))
local macro_rules | `(tactic| walk_at "step") => `(tactic| (with_reducible refine iNext ?_))
local macro_rules | `(tactic| walk_at "step") => `(tactic| (with_reducible refine iRet ?_))
local macro_rules | `(tactic| walk_at "step") => `(tactic| (with_reducible refine iBl ?_))
local macro_rules | `(tactic| walk_at "step") => `(tactic| (with_reducible refine iTest ?_))
local macro_rules | `(tactic| walk_at "step") => `(tactic| (with_reducible refine iIfS ?_))
local macro_rules | `(tactic| walk_at "step") => `(tactic| (with_reducible refine iCB ?_))
local macro_rules | `(tactic| walk_at "step") => `(tactic| (with_reducible refine iNil ?_))
local macro_rules | `(tactic| walk_at "step") => `(tactic| (with_reducible refine iCons ?_))
local macro_rules | `(tactic| walk_at "step") => `(tactic| (with_reducible refine iI0 ?_))
local macro_rules | `(tactic| walk_at "step") => `(tactic| (with_reducible refine iOp ?_))
local macro_rules | `(tactic| walk_at "step") => `(tactic| (with_reducible refine iC ?_))
local macro_rules | `(tactic| walk_at "step") => `(tactic| ((with_reducible apply iVar); (· rfl)))
local macro_rules | `(tactic| walk_at "step") => `(tactic| ((with_reducible apply iName); (· repeat constructor)))
local macro_rules | `(tactic| walk_at "step") => `(tactic| (with_reducible refine iAsg ?_))
local macro_rules | `(tactic| walk_at "step") => `(tactic| (with_reducible refine iSeq ?_))
local macro_rules | `(tactic| walk_at "step") => `(tactic| ((with_reducible apply iMe_Disks__empty); (· walk_at "look")))
local macro_rules | `(tactic| walk_at "step") => `(tactic| ((with_reducible apply iMe_Disks__settle); (· walk_at "look")))
local macro_rules | `(tactic| walk_at "step") => `(tactic| ((with_reducible apply iMe_Disks__fail); (· walk_at "look")))
local macro_rules | `(tactic| walk_at "step") => `(tactic| ((with_reducible apply iMe_Disks__operate); (· walk_at "look")))
local macro_rules | `(tactic| walk_at "step") => `(tactic| ((with_reducible apply iMe_Disks_power); (· walk_at "look")))
local macro_rules | `(tactic| walk_at "step") => `(tactic| ((with_reducible apply iMe_Disks_fail_after); (· walk_at "look")))
local macro_rules | `(tactic| walk_at "step") => `(tactic| ((with_reducible apply iMe_Disks_blank); (· walk_at "look")))
local macro_rules | `(tactic| walk_at "step") => `(tactic| ((with_reducible apply iMe_Disks_away); (· walk_at "look")))
local macro_rules | `(tactic| walk_at "step") => `(tactic| ((with_reducible apply iMe_Disks_bad); (· walk_at "look")))
local macro_rules | `(tactic| walk_at "step") => `(tactic| ((with_reducible apply iMe_Disks_rot); (· walk_at "look")))
local macro_rules | `(tactic| walk_at "step") => `(tactic| ((with_reducible apply iMe_Disks_sync); (· walk_at "look")))
local macro_rules | `(tactic| walk_at "step") => `(tactic| ((with_reducible apply iMe_Disks_write); (· walk_at "look")))
local macro_rules | `(tactic| walk_at "step") => `(tactic| ((with_reducible apply iMe_Disks_ask); (· walk_at "look")))
local macro_rules | `(tactic| walk_at "step") => `(tactic| ((with_reducible apply iMe_Disks_pending); (· walk_at "look")))
local macro_rules | `(tactic| walk_at "step") => `(tactic| ((with_reducible apply iMe_Disks_cell); (· walk_at "look")))
local macro_rules | `(tactic| walk_at "step") => `(tactic| ((with_reducible apply iMe_Disks_is_there); (· walk_at "look")))
local macro_rules | `(tactic| walk_at "step") => `(tactic| ((with_reducible apply iMe_Disks_losses); (· walk_at "look")))
local macro_rules | `(tactic| walk_at "step") => `(tactic| ((with_reducible apply iMe_Disks_is_on); (· walk_at "look")))
local macro_rules | `(tactic| walk_at "step") => `(tactic| ((with_reducible apply iMe_Disks_counts); (· walk_at "look")))
local macro_rules | `(tactic| walk_at "step") => `(tactic| ((with_reducible apply iMe_Disks_sizes); (· walk_at "look")))
local macro_rules | `(tactic| walk_at "step") => `(tactic| ((with_reducible apply iP_Disks__syncs); (· assumption); (· walk_at "look"); (· rfl); (· repeat constructor)))
local macro_rules | `(tactic| walk_at "step") => `(tactic| ((with_reducible apply iN_Disks__syncs); (· assumption); (· walk_at "look"); (· rfl)))
local macro_rules | `(tactic| walk_at "step") => `(tactic| ((with_reducible apply iS_Disks__syncs); (· assumption); (· walk_at "look"); (· repeat constructor)))
local macro_rules | `(tactic| walk_at "step") => `(tactic| ((with_reducible apply iF_Disks__syncs); (· assumption); (· walk_at "look"); (· rfl)))
local macro_rules | `(tactic| walk_at "step") => `(tactic| ((with_reducible apply iP_Disks__writes); (· assumption); (· walk_at "look"); (· rfl); (· repeat constructor)))
local macro_rules | `(tactic| walk_at "step") => `(tactic| ((with_reducible apply iN_Disks__writes); (· assumption); (· walk_at "look"); (· rfl)))
local macro_rules | `(tactic| walk_at "step") => `(tactic| ((with_reducible apply iS_Disks__writes); (· assumption); (· walk_at "look"); (· repeat constructor)))
local macro_rules | `(tactic| walk_at "step") => `(tactic| ((with_reducible apply iF_Disks__writes); (· assumption); (· walk_at "look"); (· rfl)))
local macro_rules | `(tactic| walk_at "step") => `(tactic| ((with_reducible apply iP_Disks__reads); (· assumption); (· walk_at "look"); (· rfl); (· repeat constructor)))
local macro_rules | `(tactic| walk_at "step") => `(tactic| ((with_reducible apply iN_Disks__reads); (· assumption); (· walk_at "look"); (· rfl)))
local macro_rules | `(tactic| walk_at "step") => `(tactic| ((with_reducible apply iS_Disks__reads); (· assumption); (· walk_at "look"); (· repeat constructor)))
local macro_rules | `(tactic| walk_at "step") => `(tactic| ((with_reducible apply iF_Disks__reads); (· assumption); (· walk_at "look"); (· rfl)))
local macro_rules | `(tactic| walk_at "step") => `(tactic| ((with_reducible apply iP_Disks__failures); (· assumption); (· walk_at "look"); (· rfl); (· repeat constructor)))
local macro_rules | `(tactic| walk_at "step") => `(tactic| ((with_reducible apply iN_Disks__failures); (· assumption); (· walk_at "look"); (· rfl)))
local macro_rules | `(tactic| walk_at "step") => `(tactic| ((with_reducible apply iS_Disks__failures); (· assumption); (· walk_at "look"); (· repeat constructor)))
local macro_rules | `(tactic| walk_at "step") => `(tactic| ((with_reducible apply iF_Disks__failures); (· assumption); (· walk_at "look"); (· rfl)))
local macro_rules | `(tactic| walk_at "step") => `(tactic| ((with_reducible apply iM_Disks__left); (· assumption); (· walk_at "look"); (· rfl); (· repeat constructor)))
local macro_rules | `(tactic| walk_at "step") => `(tactic| ((with_reducible apply iN_Disks__left); (· assumption); (· walk_at "look"); (· rfl)))
local macro_rules | `(tactic| walk_at "step") => `(tactic| ((with_reducible apply iS_Disks__left); (· assumption); (· walk_at "look"); (· repeat constructor)))
local macro_rules | `(tactic| walk_at "step") => `(tactic| ((with_reducible apply iF_Disks__left); (· assumption); (· walk_at "look"); (· rfl)))
local macro_rules | `(tactic| walk_at "step") => `(tactic| ((with_reducible apply iN_Disks__on); (· assumption); (· walk_at "look"); (· rfl)))
local macro_rules | `(tactic| walk_at "step") => `(tactic| ((with_reducible apply iS_Disks__on); (· assumption); (· walk_at "look"); (· repeat constructor)))
local macro_rules | `(tactic| walk_at "step") => `(tactic| ((with_reducible apply iF_Disks__on); (· assumption); (· walk_at "look"); (· rfl)))
local macro_rules | `(tactic| walk_at "step") => `(tactic| ((with_reducible apply iN_Disks__waiting); (· assumption); (· walk_at "look"); (· rfl)))
local macro_rules | `(tactic| walk_at "step") => `(tactic| ((with_reducible apply iS_Disks__waiting); (· assumption); (· walk_at "look"); (· repeat constructor)))
local macro_rules | `(tactic| walk_at "step") => `(tactic| ((with_reducible apply iF_Disks__waiting); (· assumption); (· walk_at "look"); (· rfl)))
local macro_rules | `(tactic| walk_at "step") => `(tactic| ((with_reducible apply iN_Disks__media); (· assumption); (· walk_at "look"); (· rfl)))
local macro_rules | `(tactic| walk_at "step") => `(tactic| ((with_reducible apply iS_Disks__media); (· assumption); (· walk_at "look"); (· repeat constructor)))
local macro_rules | `(tactic| walk_at "step") => `(tactic| ((with_reducible apply iF_Disks__media); (· assumption); (· walk_at "look"); (· rfl)))
local macro_rules | `(tactic| walk_at "step") => `(tactic| ((with_reducible apply iN_Disks__there); (· assumption); (· walk_at "look"); (· rfl)))
local macro_rules | `(tactic| walk_at "step") => `(tactic| ((with_reducible apply iS_Disks__there); (· assumption); (· walk_at "look"); (· repeat constructor)))
local macro_rules | `(tactic| walk_at "step") => `(tactic| ((with_reducible apply iF_Disks__there); (· assumption); (· walk_at "look"); (· rfl)))
local macro_rules | `(tactic| walk_at "step") => `(tactic| ((with_reducible apply iN_Disks__sizes); (· assumption); (· walk_at "look"); (· rfl)))
local macro_rules | `(tactic| walk_at "step") => `(tactic| ((with_reducible apply iS_Disks__sizes); (· assumption); (· walk_at "look"); (· repeat constructor)))
local macro_rules | `(tactic| walk_at "step") => `(tactic| ((with_reducible apply iF_Disks__sizes); (· assumption); (· walk_at "look"); (· rfl)))
local macro_rules | `(tactic| walk_at "step") => `(tactic| ((with_reducible apply iN_Disks_scrub_place); (· assumption); (· walk_at "look"); (· rfl)))
local macro_rules | `(tactic| walk_at "step") => `(tactic| ((with_reducible apply iS_Disks_scrub_place); (· assumption); (· walk_at "look"); (· repeat constructor)))
local macro_rules | `(tactic| walk_at "step") => `(tactic| ((with_reducible apply iF_Disks_scrub_place); (· assumption); (· walk_at "look"); (· rfl)))
local macro_rules | `(tactic| walk_at "step") => `(tactic| ((with_reducible apply iN_Disks_formatted); (· assumption); (· walk_at "look"); (· rfl)))
local macro_rules | `(tactic| walk_at "step") => `(tactic| ((with_reducible apply iS_Disks_formatted); (· assumption); (· walk_at "look"); (· repeat constructor)))
local macro_rules | `(tactic| walk_at "step") => `(tactic| ((with_reducible apply iF_Disks_formatted); (· assumption); (· walk_at "look"); (· rfl)))
local macro_rules | `(tactic| walk_at "step") => `(tactic| ((with_reducible apply iN_Disks_in_use); (· assumption); (· walk_at "look"); (· rfl)))
local macro_rules | `(tactic| walk_at "step") => `(tactic| ((with_reducible apply iS_Disks_in_use); (· assumption); (· walk_at "look"); (· repeat constructor)))
local macro_rules | `(tactic| walk_at "step") => `(tactic| ((with_reducible apply iF_Disks_in_use); (· assumption); (· walk_at "look"); (· rfl)))
local macro_rules | `(tactic| walk_at "go") => `(tactic| (repeat walk_at "step"))
section
variable {P : Program} {w : World} {K : PySem.W.Frag} {mg : Str → Option Value} {base : Heap}
/-! ### Disks: what only looks -/
def sp_is_there (C : Addr) : Sp := fun vs H Q _ => ∃ (F Rs : Hp) (L : DL → Addr) (D : DK) (d : Nat), vs = [.ref (L .obj), .int d] ∧ DAt C H F Rs L D ∧ d < D.n ∧ Q (.bl (D.there d)) H
theorem ok_is_there {C : Addr} (T : Tx_Disks K C) {f : Addr} {fd : FuncData} (F : Fun K "is_there" "Disks.is_there" s_Disks_is_there f fd) : FnOk P w K mg base CX0 1 f fd ["self", "disk"] (sp_is_there C) := by
  refine F.ok sc_Disks_is_there (fun vs H Q E h => ?_) (fun cdv A outer s H vs Q E hr h => ?_)
  · obtain ⟨F, Rs, L, D, d, rfl, _⟩ := h; rfl
  · obtain ⟨F, Rs, L, D, d, rfl, ⟨dx, szs, cm, cw, h⟩, hd, q⟩ := h
    have hO := h.hO
    have hT := h.hT
    refine ⟨_, (pss_one (ps_ret (pe_ix ix_l (pe_fld (pv 0) rfl) (pv 1) (fun _ _ => rfl)))), ?_⟩
    refine iBody (by repeat constructor) ?_
    walk_at "go"
    refine iIxL hT ((atI_natL _ _).trans (theL_get hd)) ?_
    walk_at "go"
    exact q
/-- a new list of the content, or None -/
def NewCell (H H' : Hp) (v : V) : Option Sec → Prop
  | none => v = .non
  | some xs => ∃ p, H p = none ∧ v = .ref p ∧ H' p = some (.lst xs)
def sp_cell (C : Addr) : Sp := fun vs H Q _ => ∃ (F Rs : Hp) (L : DL → Addr) (D : DK) (d j : Nat), vs = [.ref (L .obj), .int d, .int j] ∧ DAt C H F Rs L D ∧ d < D.n ∧ j < D.m ∧ ∀ v H', Ex H H' → NewCell H H' v (D.cell d j) → Q v H'
theorem lastW_rev {ws : List (Nat × Sec)} {j i : Nat} (h : ∀ e < i, ∀ w : Nat × Sec, ws[ws.length - 1 - e]? = some w → e < ws.length → w.1 ≠ j) (hi : i ≤ ws.length) : lastW ws j = lastW (ws.take (ws.length - i)) j := by
  induction i with
  | zero => rw [Nat.sub_zero, List.take_length]
  | succ i ih =>
    rw [ih (fun e he => h e (by omega)) (by omega)]
    have hl : ws.length - (i + 1) < ws.length := by omega
    have e1 : ws.length - i = (ws.length - (i + 1)) + 1 := by omega
    rw [e1, List.take_succ, List.getElem?_eq_getElem hl]
    show lastW (ws.take _ ++ [ws[ws.length - (i + 1)]]) j = _
    rw [lastW_snoc, if_neg]
    refine h i (by omega) _ ?_ (by omega)
    rw [show ws.length - 1 - i = ws.length - (i + 1) by omega]
    exact List.getElem?_eq_getElem hl
theorem ok_cell {C : Addr} (M : Mg mg) (T : Tx_Disks K C) {f : Addr} {fd : FuncData} (F : Fun K "cell" "Disks.cell" s_Disks_cell f fd) : FnOk P w K mg base CX0 1 f fd ["self", "disk", "sector"] (sp_cell C) := by
  refine F.ok sc_Disks_cell (fun vs H Q E h => ?_) (fun cdv A outer s H vs Q E hr h => ?_)
  · obtain ⟨F, Rs, L, D, d, j, rfl, _⟩ := h; rfl
  · obtain ⟨F, Rs, L, D, d, j, rfl, ⟨dx, szs, cm, cw, h⟩, hd, hj, q⟩ := h
    have hO := h.hO
    have hW := h.hW
    have hM := h.hM
    have hw := h.hw hd
    have hm := h.hm hd
    have rw := h.wai d hd
    have rm := h.med d hd
    refine ⟨_, (pss_cons (ps_for PassesOwn.never rfl (pi_reversed (by rfl) M.n_reversed (pa_cons (pe_ix ix_l (pe_fld (pv 0) rfl) (pv 1) (fun _ _ => rfl)) pa_nil)) (pg_tup (by rfl) (pgs_cons (pg_name (i := 3) sc_Disks_cell.nd rfl (Or.inl rfl)) (pgs_cons (pg_name (i := 4) sc_Disks_cell.nd rfl (Or.inl rfl)) pgs_nil))) (pss_one (ps_if (pt_cmpR op_eq (pv 3) (pv 2) (nomark _)) (pss_one (ps_ret (pe_callTy list_l (by rfl) M.n_list (by decide +kernel) (pa_cons (pv 4) pa_nil)))) pss_nil))) (pss_cons (ps_set (i := 5) sc_Disks_cell.nd rfl (Or.inl rfl) (pe_ix ix_l (pe_ix ix_l (pe_fld (pv 0) rfl) (pv 1) (fun _ _ => rfl)) (pv 2) (fun _ _ => rfl))) (pss_cons (ps_if (pt_cmpR op_isN1 (pv 5) pe_non (nomark _)) (pss_one (ps_ret pe_non)) pss_nil) (pss_one (ps_ret (pe_callTy list_l (by rfl) M.n_list (by decide +kernel) (pa_cons (pv 5) pa_nil))))))), ?_⟩
    refine iBody (by repeat constructor) ?_
    walk_at "go"
    refine iIxL hW ((atI_natL _ _).trans (waiL_get hd)) ?_
    walk_at "go"
    refine iRevI hw ?_
    refine forJ (walk_rev (xs := cw d)) (fun i σ' H' => (∃ x y z, σ' = [some (.ref (L .obj)), some (.int d), some (.int j), x, y, z]) ∧ H' = H ∧ ∀ e < i, ∀ w : Nat × Sec, (D.wait d)[(D.wait d).length - 1 - e]? = some w → e < (D.wait d).length → w.1 ≠ j) ⟨⟨_, _, _, rfl⟩, rfl, fun e he => absurd he (Nat.not_lt_zero e)⟩ (fun i σ' H' hi hp => by rw [hp.2.1]; exact SqL.tr hw) (fun i x σ' H' H'' hi hp hy => ?_) (fun σ' H' hp => ?_)
    · obtain ⟨⟨x1, x2, x3, rfl⟩, rfl, hn⟩ := hp
      obtain ⟨rfl, hx⟩ := hy
      have hl := rw.len
      obtain ⟨ww, hww⟩ : ∃ ww, (D.wait d)[(D.wait d).length - 1 - i]? = some ww := ⟨_, List.getElem?_eq_getElem (by omega)⟩
      obtain ⟨_, t, p, rfl, ht, hp⟩ := rw.at_ _ _ _ hx (by rw [hl]; exact hww)
      have ht' := h.own.f _ _ ht
      have hp' := h.own.f _ _ hp
      walk_at "go"
      refine ifD (fun he => ?_) (fun he => ?_)
      · walk_at "go"
        refine iListL hp' fun l hl' => ?_
        refine q _ _ (Evl.Ex.new hl') ?_
        have e1 : D.cell d j = some ww.2 := by
          unfold DK.cell
          rw [lastW_rev hn (by omega)]
          have hlt : (D.wait d).length - 1 - i < (D.wait d).length := by omega
          rw [show (D.wait d).length - i = ((D.wait d).length - 1 - i) + 1 by omega, List.take_succ, hww]
          show (lastW (List.take _ _ ++ [ww]) j).or _ = _
          rw [lastW_snoc, if_pos (by omega)]
          rfl
        rw [e1]
        exact ⟨l, hl', rfl, upd_same⟩
      · walk_at "go"
        refine ⟨⟨_, _, _, rfl⟩, rfl, fun e hlt w hw1 hw2 => ?_⟩
        by_cases z : e = i
        · subst z
          rw [hww] at hw1
          cases hw1
          omega
        · exact hn e (by omega) w hw1 hw2
    · obtain ⟨⟨x1, x2, x3, rfl⟩, rfl, hn⟩ := hp
      have e0 : D.cell d j = D.media d j := by
        unfold DK.cell
        rw [lastW_rev hn (by rw [rw.len]; exact Nat.le_refl _), rw.len, Nat.sub_self]
        rfl
      obtain ⟨v, hv⟩ : ∃ v, (cm d)[j]? = some v := ⟨_, List.getElem?_eq_getElem (by rw [rm.len]; exact hj)⟩
      have hc := rm.at_ j v hv
      walk_at "go"
      refine iIxL hM ((atI_natL _ _).trans (medL_get hd)) ?_
      walk_at "go"
      refine iIxL hm ((atI_natL _ _).trans hv) ?_
      walk_at "go"
      cases em : D.media d j with
      | none =>
        rw [em] at hc e0
        cases (show v = V.non from hc)
        walk_at "go"
        refine q _ _ (Ex.refl _) ?_
        rw [e0]
        exact rfl
      | some xs =>
        rw [em] at hc e0
        obtain ⟨p, rfl, hp⟩ := hc
        have hp' := h.own.f _ _ hp
        walk_at "go"
        refine iListL hp' fun l hl' => ?_
        refine q _ _ (Evl.Ex.new hl') ?_
        rw [e0]
        exact ⟨l, hl', rfl, upd_same⟩

/-! ### Disks: what changes them -/
def sp_fail (C : Addr) : Sp := fun vs H Q _ => ∃ (F Rs : Hp) (L : DL → Addr) (D : DK), vs = [.ref (L .obj)] ∧ DAt C H F Rs L D ∧ ∀ H', DAt C H' F Rs L D.fail → Q .non H'
theorem ok_fail {C : Addr} (M : Mg mg) (T : Tx_Disks K C) {f : Addr} {fd : FuncData} (F : Fun K "_fail" "Disks._fail" s_Disks__fail f fd) : FnOk P w K mg base CX0 1 f fd ["self"] (sp_fail C) := by
  refine F.ok sc_Disks__fail (fun vs H Q E h => ?_) (fun cdv A outer s H vs Q E hr h => ?_)
  · obtain ⟨F, Rs, L, D, rfl, _⟩ := h; rfl
  · obtain ⟨F, Rs, L, D, rfl, ⟨dx, szs, cm, cw, h⟩, q⟩ := h
    have hO := h.hO
    refine ⟨_, (pss_cons (ps_fld (pv 0) pe_bl rfl) (pss_cons (ps_fld (pv 0) pe_non rfl) (pss_cons (ps_fldaug (pv 0) pe_int in_add) (pss_one (ps_fld (pv 0) pe_bl rfl))))), ?_⟩
    refine iBody (by repeat constructor) ?_
    walk_at "go"
    rw [upd_upd, upd_upd, upd_upd]
    exact q _ (h.fields (D' := D.fail) rfl rfl rfl rfl rfl rfl rfl).at_
def sp_operate (C CP : Addr) : Sp := fun vs H Q E => ∃ (F Rs : Hp) (L : DL → Addr) (D : DK), vs = [.ref (L .obj)] ∧ DAt C H F Rs L D ∧ (D.on = false → E (.ref CP) none H) ∧ (D.on = true → D.left = some 0 → ∀ H', DAt C H' F Rs L D.fail → E (.ref CP) none H') ∧
  (D.on = true → D.left ≠ some 0 → ∀ H', DAt C H' F Rs L D.tick → Q .non H')
theorem j_operate {C CP : Addr} {H F Rs : Hp} {L : DL → Addr} {D : DK} {Q : VK} {E : XK} (D0 : DAt C H F Rs L D) (q1 : D.on = false → E (.ref CP) none H) (q2 : D.on = true → D.left = some 0 → ∀ H', DAt C H' F Rs L D.fail → E (.ref CP) none H') (q3 : D.on = true → D.left ≠ some 0 → ∀ H', DAt C H' F Rs L D.tick → Q .non H') :
    sp_operate C CP [.ref (L .obj)] H Q E := ⟨F, Rs, L, D, rfl, D0, q1, q2, q3⟩
def sp_ask (C : Addr) : Sp := fun vs H Q _ => ∃ (F Rs : Hp) (L : DL → Addr) (D : DK) (d j : Nat), vs = [.ref (L .obj), .int d, .int j] ∧ DAt C H F Rs L D ∧ d < D.n ∧ j < D.m ∧ ∀ v H1 H', DAt C H1 F Rs L (D.ask d) → Ex H1 H' → NewCell H1 H' v (D.cell d j) → Q v H'
theorem ok_ask {C : Addr} (M : Mg mg) (T : Tx_Disks K C) {f : Addr} {fd : FuncData} (F : Fun K "ask" "Disks.ask" s_Disks_ask f fd) (c_Disks_cell : MetX P w K mg base 1 C "cell" ["self", "disk", "sector"] (sp_cell C)) : FnOk P w K mg base CX0 2 f fd ["self", "disk", "sector"] (sp_ask C) := by
  refine F.ok sc_Disks_ask (fun vs H Q E h => ?_) (fun cdv A outer s H vs Q E hr h => ?_)
  · obtain ⟨F, Rs, L, D, d, j, rfl, _⟩ := h; rfl
  · obtain ⟨F, Rs, L, D, d, j, rfl, D0, hd, hj, q⟩ := h
    have D1 := D0
    obtain ⟨dx, szs, cm, cw, h⟩ := D0
    have hO := h.hO
    have hT := h.hT
    refine ⟨_, (pss_cons (ps_if (pt_val (pe_ix ix_l (pe_fld (pv 0) rfl) (pv 1) (fun _ _ => rfl))) (pss_one (ps_fldaug (pv 0) pe_int in_add)) pss_nil) (pss_one (ps_ret (pe_metE c_Disks_cell (hr.mono (by omega)) xp0 (pv 0) (pa_cons (pv 1) (pa_cons (pv 2) pa_nil)))))), ?_⟩
    refine iBody (by repeat constructor) ?_
    walk_at "go"
    refine iIxL hT ((atI_natL _ _).trans (theL_get hd)) ?_
    walk_at "go"
    have e : D.ask d = if D.there d = true then { D with reads := D.reads + 1 } else D := rfl
    cases et : D.there d with
    | true =>
      walk_at "go"
      have D2 := (h.fields (D' := D.ask d) (by rw [e, et]; rfl) (by rw [e, et]; rfl) (by rw [e, et]; rfl) (by rw [e, et]; rfl) (by rw [e, et]; rfl) (by rw [e, et]; rfl) (by rw [e, et]; rfl)).at_
      have e2 : flds szs L (D.ask d) = [.bl D.inuse, .bl D.formatted, .int D.scrub, .ref szs, .ref (L .there), .ref (L .media), .ref (L .wait), .bl D.on, leftV D.left, .int (D.fails : Nat), .int ((D.reads : Int) + 1), .int (D.writes : Nat), .int (D.syncs : Nat)] := by rw [e, et]; rfl
      rw [e2] at D2
      have e3 : D.ask d = { D with reads := D.reads + 1 } := by rw [e, et]; rfl
      refine ⟨F, Rs, L, D.ask d, d, j, rfl, D2, by rw [e3]; exact hd, by rw [e3]; exact hj, fun v H' x n => ?_⟩
      walk_at "go"
      exact q _ _ _ D2 x (by rw [e3] at n; exact n)
    | false =>
      walk_at "go"
      have e3 : D.ask d = D := by rw [e, et]; rfl
      refine ⟨F, Rs, L, D, d, j, rfl, D1, hd, hj, fun v H' x n => ?_⟩
      walk_at "go"
      exact q _ _ _ (by rw [e3]; exact D1) x n
def sp_write (C CP : Addr) : Sp := fun vs H Q E => ∃ (F Rs : Hp) (L : DL → Addr) (D : DK) (d j : Nat) (p : Addr) (x : Sec), vs = [.ref (L .obj), .int d, .int j, .ref p] ∧ DAt C H F Rs L D ∧ d < D.n ∧ j < D.m ∧ Rs p = some (.lst x) ∧ (D.wait d).length < 90000 ∧
  (D.on = false → E (.ref CP) none H) ∧ (D.on = true → D.left = some 0 → ∀ H', DAt C H' F Rs L D.fail → E (.ref CP) none H') ∧
  (D.on = true → D.left ≠ some 0 → ∀ H' F', Ex F F' → DAt C H' F' Rs L (D.write d j x) → Q .non H')
theorem layW_take {f : Nat → Option Sec} {ws : List (Nat × Sec)} {ks : List Bool} {i : Nat} {z : Nat × Sec} {b : Bool} (h1 : ws[i]? = some z) (h2 : ks[i]? = some b) : layW f (ws.take (i + 1)) (ks.take (i + 1)) = step (layW f (ws.take i) (ks.take i)) (z, b) := by
  have a1 : i < ws.length := (List.getElem?_eq_some_iff.mp h1).1
  have a2 : i < ks.length := (List.getElem?_eq_some_iff.mp h2).1
  unfold layW
  rw [List.take_succ, List.take_succ, h1, h2]
  show List.foldl step f ((ws.take i ++ [z]).zip (ks.take i ++ [b])) = _
  rw [List.zip_append (by rw [List.length_take, List.length_take]; omega), List.foldl_append]
  rfl
theorem layW_all {f : Nat → Option Sec} {ws : List (Nat × Sec)} {ks : List Bool} {i : Nat} (h : i = min ws.length ks.length) : layW f (ws.take i) (ks.take i) = layW f ws ks := by
  unfold layW
  congr 1
  subst h
  rw [List.zip_eq_zipWith, List.zip_eq_zipWith, ← List.take_zipWith, List.take_of_length_le (by rw [List.length_zipWith]; exact Nat.le_refl _)]
def sp_settle (C : Addr) : Sp := fun vs H Q _ => ∃ (F Rs : Hp) (L : DL → Addr) (D : DK) (d : Nat) (p : Addr) (ks : List Bool), vs = [.ref (L .obj), .int d, .ref p] ∧ DAt C H F Rs L D ∧ d < D.n ∧ Rs p = some (.lst (ks.map V.bl)) ∧
  ∀ H' L', L' .obj = L .obj → DAt C H' F Rs L' (D.settle d ks) → Q .non H'
theorem ok_settle {C : Addr} (M : Mg mg) (T : Tx_Disks K C) {f : Addr} {fd : FuncData} (F : Fun K "_settle" "Disks._settle" s_Disks__settle f fd) : FnOk P w K mg base CX0 1 f fd ["self", "disk", "kept"] (sp_settle C) := by
  refine F.ok sc_Disks__settle (fun vs H Q E h => ?_) (fun cdv A outer s H vs Q E hr h => ?_)
  · obtain ⟨F, Rs, L, D, d, p, ks, rfl, _⟩ := h; rfl
  · obtain ⟨F, Rs, L, D, d, p, ks, rfl, ⟨dx, szs, cm, cw, h⟩, hd, hp, q⟩ := h
    have hO := h.hO
    have hW := h.hW
    have hM := h.hM
    have hw := h.hw hd
    have hpH := h.own.r _ _ hp
    have rw' := h.wai d hd
    refine ⟨_, (pss_cons (ps_set (i := 3) sc_Disks__settle.nd rfl (Or.inl rfl) (pe_ix ix_l (pe_fld (pv 0) rfl) (pv 1) (fun _ _ => rfl))) (pss_cons (ps_for PassesOwn.never rfl (pi_zip (by rfl) M.n_zip (pa_cons (pe_ix ix_l (pe_fld (pv 0) rfl) (pv 1) (fun _ _ => rfl)) (pa_cons (pv 2) pa_nil))) (pg_tup (by rfl) (pgs_cons (pg_tup (by rfl) (pgs_cons (pg_name (i := 4) sc_Disks__settle.nd rfl (Or.inl rfl)) (pgs_cons (pg_name (i := 5) sc_Disks__settle.nd rfl (Or.inl rfl)) pgs_nil))) (pgs_cons (pg_name (i := 6) sc_Disks__settle.nd rfl (Or.inl rfl)) pgs_nil))) (pss_one (ps_if (pt_val (pv 6)) (pss_one (ps_asg (pv 5) (pg_sub (pv 3) (pv 4) set_list))) pss_nil))) (pss_one (ps_asg (pe_lst pa_nil) (pg_sub (pe_fld (pv 0) rfl) (pv 1) set_list))))), ?_⟩
    refine iBody (by repeat constructor) ?_
    walk_at "go"
    refine iIxL hM ((atI_natL _ _).trans (medL_get hd)) ?_
    walk_at "go"
    refine iIxL hW ((atI_natL _ _).trans (waiL_get hd)) ?_
    walk_at "go"
    refine forJ (walk_zip (xs := cw d) (ys := ks.map V.bl) rfl) (fun i σ' H' => (∃ x y z, σ' = [some (.ref (L .obj)), some (.int d), some (.ref p), some (.ref (L (.med d))), x, y, z]) ∧
      ∃ cm', DRep C dx szs H' F Rs L { D with media := fun e => if e = d then layW (D.media d) ((D.wait d).take i) (ks.take i) else D.media e } cm' cw) ?_ (fun i σ' H' hi hp' => ?_) (fun i x σ' H' H'' hi hp' hy => ?_) (fun σ' H' hp' => ?_)
    · refine ⟨⟨_, _, _, rfl⟩, cm, ?_⟩
      have e : (fun e => if e = d then layW (D.media d) ((D.wait d).take 0) (ks.take 0) else D.media e) = D.media := by
        funext e
        by_cases z : e = d
        · subst z; rw [if_pos rfl]; rfl
        · rw [if_neg z]
      rw [e]
      exact h
    · obtain ⟨_, cm', h'⟩ := hp'
      exact ⟨SqL.tr (h'.hw (d := d) hd), SqL.tr (h'.own.r _ _ hp)⟩
    · obtain ⟨⟨x1, x2, x3, rfl⟩, cm', h'⟩ := hp'
      obtain ⟨t, u, v, rfl, ht, rfl, hu, hv⟩ := hy
      obtain ⟨z, hz⟩ : ∃ z, (D.wait d)[i]? = some z := ⟨_, List.getElem?_eq_getElem (by have := (List.getElem?_eq_some_iff.mp hu).1; rw [← rw'.len]; exact this)⟩
      obtain ⟨hj, t2, p2, rfl, ht2, hp2⟩ := rw'.at_ _ _ _ hu hz
      have hv : (ks.map V.bl)[i]? = some v := hv
      rw [List.getElem?_map] at hv
      obtain ⟨b, hb, rfl⟩ : ∃ b, ks[i]? = some b ∧ v = V.bl b := by
        cases e : ks[i]? with
        | none => rw [e] at hv; cases hv
        | some b => rw [e] at hv; cases hv; exact ⟨b, rfl, rfl⟩
      have h2 := h'.new (o := .tup [.ref t2, .bl b]) ht
      have ht2' := h2.own.f _ _ ht2
      have hm2 := h2.hm (d := d) hd
      have l2 := (h2.med d hd).len
      walk_at "go"
      cases b with
      | true =>
        walk_at "go"
        refine iSetL hm2 (k := z.1) (by rw [ixN_natL, l2]; exact if_pos hj) ?_
        refine ⟨⟨_, _, _, rfl⟩, _, h2.setMed (d := d) (j := z.1) (v := .ref p2) (f := fun e => if e = d then layW (D.media d) ((D.wait d).take (i + 1)) (ks.take (i + 1)) else D.media e) hd ?_ (fun k hk => ?_) fun e he => ?_⟩
        · rw [if_pos rfl, layW_take hz hb]
          unfold step
          rw [if_pos rfl, if_pos rfl]
          exact ⟨p2, rfl, hp2⟩
        · show (if d = d then layW (D.media d) ((D.wait d).take (i + 1)) (ks.take (i + 1)) else D.media d) k = (if d = d then layW (D.media d) ((D.wait d).take i) (ks.take i) else D.media d) k
          rw [if_pos rfl, if_pos rfl, layW_take hz hb]
          unfold step
          rw [if_pos rfl, if_neg hk]
        · show (if e = d then _ else _) = (if e = d then _ else _)
          rw [if_neg he, if_neg he]
      | false =>
        walk_at "go"
        refine ⟨⟨_, _, _, rfl⟩, cm', ?_⟩
        have e : (fun e => if e = d then layW (D.media d) ((D.wait d).take (i + 1)) (ks.take (i + 1)) else D.media e) = (fun e => if e = d then layW (D.media d) ((D.wait d).take i) (ks.take i) else D.media e) := by
          funext e
          by_cases y : e = d
          · rw [if_pos y, if_pos y, layW_take hz hb]; rfl
          · rw [if_neg y, if_neg y]
        rw [e]
        exact h2
    · obtain ⟨⟨x1, x2, x3, rfl⟩, cm', h'⟩ := hp'
      rw [layW_all (by rw [List.length_map, rw'.len])] at h'
      have hO := h'.hO
      have hW := h'.hW
      walk_at "go"
      refine iNewL (by simp) fun t ht => ?_
      have h3 := h'.newWait (d := d) hd ht
      have fr := h'.own.free ht
      have n1 : L .obj ≠ t := fr.2.2 _ trivial
      have n2 : L .wait ≠ t := fr.2.2 _ trivial
      walk_at "go"
      refine iSetL ((upd_ne n2).trans hW) (k := d) (by rw [ixN_natL, waiL_len]; exact if_pos hd) ?_
      exact q _ _ (chg_ne (by intro z; cases z)) h3.at_
theorem j_settle {C : Addr} {H F Rs : Hp} {L : DL → Addr} {D : DK} {d : Nat} {p : Addr} {ks : List Bool} {Q : VK} {E : XK} (D0 : DAt C H F Rs L D) (hd : d < D.n) (hp : Rs p = some (.lst (ks.map V.bl))) (q : ∀ H' L', L' .obj = L .obj → DAt C H' F Rs L' (D.settle d ks) → Q .non H') :
    sp_settle C [.ref (L .obj), .int d, .ref p] H Q E := ⟨F, Rs, L, D, d, p, ks, rfl, D0, hd, hp, q⟩
theorem DAt.obj {C : Addr} {H F Rs : Hp} {L : DL → Addr} {D : DK} (h : DAt C H F Rs L D) : ∃ dx szs, H (L .obj) = some (.ins C dx (NMD.zip (flds szs L D))) ∧ H szs = some (.tup [.int (D.n : Nat), .int (D.m : Nat), .int (D.k : Nat), .int (D.s : Nat)]) := by
  obtain ⟨dx, szs, cm, cw, h⟩ := h
  exact ⟨dx, szs, h.hO, h.hs⟩
theorem DAt.ex {C : Addr} {H H' F Rs : Hp} {L : DL → Addr} {D : DK} (h : DAt C H F Rs L D) (e : Ex H H') : DAt C H' F Rs L D := by
  obtain ⟨dx, szs, cm, cw, h⟩ := h
  exact (h.ex e).at_
theorem DAt.weak {C : Addr} {H F Rs Rs' : Hp} {L : DL → Addr} {D : DK} (h : DAt C H F Rs L D) (e : Ex Rs' Rs) : DAt C H F Rs' L D := by
  obtain ⟨dx, szs, cm, cw, h⟩ := h
  exact (h.weak e).at_
theorem DAt.newR {C : Addr} {H F Rs : Hp} {L : DL → Addr} {D : DK} {p : Addr} {o : HO} (h : DAt C H F Rs L D) (e : H p = none) : DAt C (upd H p o) F (upd Rs p o) L D := by
  obtain ⟨dx, szs, cm, cw, h⟩ := h
  exact (h.newR e).at_
theorem DAt.put {C : Addr} {H F Rs : Hp} {L : DL → Addr} {D : DK} {p : Addr} {o o' : HO} (h : DAt C H F Rs L D) (e : Rs p = some o) : DAt C (upd H p o') F (upd Rs p o') L D := by
  obtain ⟨dx, szs, cm, cw, h⟩ := h
  exact (h.put e).at_
theorem DAt.newF {C : Addr} {H F Rs : Hp} {L : DL → Addr} {D : DK} {p : Addr} {o : HO} (h : DAt C H F Rs L D) (e : H p = none) : DAt C (upd H p o) (upd F p o) Rs L D := by
  obtain ⟨dx, szs, cm, cw, h⟩ := h
  exact (h.newF e).at_
theorem DAt.rs {C : Addr} {H F Rs : Hp} {L : DL → Addr} {D : DK} (h : DAt C H F Rs L D) : Ex Rs H := by
  obtain ⟨dx, szs, cm, cw, h⟩ := h
  exact h.own.r
theorem DAt.fs {C : Addr} {H F Rs : Hp} {L : DL → Addr} {D : DK} (h : DAt C H F Rs L D) : Ex F H := by
  obtain ⟨dx, szs, cm, cw, h⟩ := h
  exact h.own.f
def sp_sync (C CP : Addr) : Sp := fun vs H Q E => ∃ (F Rs : Hp) (L : DL → Addr) (D : DK), vs = [.ref (L .obj)] ∧ DAt C H F Rs L D ∧ (∀ d, d < D.n → (D.wait d).length < 90000) ∧
  (D.on = false → E (.ref CP) none H) ∧ (D.on = true → D.left = some 0 → ∀ H', DAt C H' F Rs L D.fail → E (.ref CP) none H') ∧
  (D.on = true → D.left ≠ some 0 → ∀ H' L', L' .obj = L .obj → DAt C H' F Rs L' D.sync → Q .non H')
theorem rep_true {n : Nat} : (List.replicate n [V.bl true]).flatten = (List.replicate n true).map V.bl := by
  induction n with
  | zero => rfl
  | succ n ih => rw [List.replicate_succ, List.flatten_cons, ih, List.replicate_succ]; rfl
def sp_empty (C : Addr) : Sp := fun vs H Q _ => ∃ (F Rs : Hp) (L : DL → Addr) (D : DK) (d : Nat), vs = [.ref (L .obj), .int d] ∧ DAt C H F Rs L D ∧ d < D.n ∧ ∀ H' L', L' .obj = L .obj → DAt C H' F Rs L' (D.empty d) → Q .non H'
theorem rep_none {n : Nat} : (List.replicate n [V.non]).flatten = List.replicate n V.non := by
  induction n with
  | zero => rfl
  | succ n ih => rw [List.replicate_succ, List.flatten_cons, ih, List.replicate_succ]; rfl
theorem ok_empty {C : Addr} (M : Mg mg) (T : Tx_Disks K C) {f : Addr} {fd : FuncData} (F : Fun K "_empty" "Disks._empty" s_Disks__empty f fd) : FnOk P w K mg base CX0 1 f fd ["self", "disk"] (sp_empty C) := by
  refine F.ok sc_Disks__empty (fun vs H Q E h => ?_) (fun cdv A outer s H vs Q E hr h => ?_)
  · obtain ⟨F, Rs, L, D, d, rfl, _⟩ := h; rfl
  · obtain ⟨F, Rs, L, D, d, rfl, ⟨dx, szs, cm, cw, h⟩, hd, q⟩ := h
    have hO := h.hO
    have hM := h.hM
    have hm := h.hm hd
    have lm := (h.med d hd).len
    have m2 := h.m2
    refine ⟨_, (pss_cons (ps_asg (pe_op op_rep (pe_lst (pa_cons pe_non pa_nil)) (pe_callB len_l (by rfl) M.n_len PySem.boot_len (pa_cons (pe_ix ix_l (pe_fld (pv 0) rfl) (pv 1) (fun _ _ => rfl)) pa_nil))) (pg_sub (pe_fld (pv 0) rfl) (pv 1) set_list)) (pss_one (ps_asg (pe_lst pa_nil) (pg_sub (pe_fld (pv 0) rfl) (pv 1) set_list)))), ?_⟩
    refine iBody (by repeat constructor) ?_
    walk_at "go"
    refine iNewL (by simp) fun l hl => ?_
    have n0 : L .obj ≠ l := (h.own.free hl).2.2 _ trivial
    have n1 : L .media ≠ l := (h.own.free hl).2.2 _ trivial
    have n2 : L (.med d) ≠ l := (h.own.free hl).2.2 _ hd
    walk_at "go"
    refine iIxL ((upd_ne n1).trans hM) ((atI_natL _ _).trans (medL_get hd)) ?_
    walk_at "go"
    rw [lm]
    refine iRep upd_same (by omega) (by omega) (by simp; omega) fun u hu => ?_
    rw [Int.toNat_natCast, rep_none]
    have h1 := h.new (o := .lst [.non]) hl
    have fr := h1.own.free hu
    have n3 : L .obj ≠ u := fr.2.2 _ trivial
    have n4 : L .media ≠ u := fr.2.2 _ trivial
    have h2 := h1.newMed (d := d) hd hu
    walk_at "go"
    refine iSetL ((upd_ne n4).trans ((upd_ne n1).trans hM)) (k := d) (by rw [ixN_natL, medL_len]; exact if_pos hd) ?_
    walk_at "go"
    generalize upd (upd (upd H l _) u _) (L .media) _ = H2 at h2 ⊢
    have o2 : chg L (.med d) u .obj = L .obj := chg_ne (by intro z; cases z)
    have w2 : chg L (.med d) u .wait = L .wait := chg_ne (by intro z; cases z)
    have hO := h2.hO
    have hW := h2.hW
    rw [o2] at hO
    walk_at "go"
    refine iNewL (by simp) fun t ht => ?_
    have fr2 := h2.own.free ht
    have n5 : L .obj ≠ t := o2 ▸ fr2.2.2 _ trivial
    have n6 : L .wait ≠ t := w2 ▸ fr2.2.2 _ trivial
    have h3 := h2.newWait (d := d) hd ht
    walk_at "go"
    refine iSetL ((upd_ne (fr2.2.2 .wait trivial)).trans hW) (k := d) (by rw [ixN_natL, waiL_len]; exact if_pos hd) ?_
    exact q _ _ ((chg_ne (by intro z; cases z)).trans o2) h3.at_
theorem j_empty {C : Addr} {H F Rs : Hp} {L : DL → Addr} {D : DK} {d : Nat} {Q : VK} {E : XK} (D0 : DAt C H F Rs L D) (hd : d < D.n) (q : ∀ H' L', L' .obj = L .obj → DAt C H' F Rs L' (D.empty d) → Q .non H') :
    sp_empty C [.ref (L .obj), .int d] H Q E := ⟨F, Rs, L, D, d, rfl, D0, hd, q⟩
def sp_away (C : Addr) : Sp := fun vs H Q _ => ∃ (F Rs : Hp) (L : DL → Addr) (D : DK) (d : Nat), vs = [.ref (L .obj), .int d] ∧ DAt C H F Rs L D ∧ d < D.n ∧ ∀ H' L', L' .obj = L .obj → DAt C H' F Rs L' (D.away d) → Q .non H'
theorem ok_away {C : Addr} (M : Mg mg) (T : Tx_Disks K C) {f : Addr} {fd : FuncData} (F : Fun K "away" "Disks.away" s_Disks_away f fd) (c_Disks__empty : MetX P w K mg base 1 C "_empty" ["self", "disk"] (sp_empty C)) : FnOk P w K mg base CX0 2 f fd ["self", "disk"] (sp_away C) := by
  refine F.ok sc_Disks_away (fun vs H Q E h => ?_) (fun cdv A outer s H vs Q E hr h => ?_)
  · obtain ⟨F, Rs, L, D, d, rfl, _⟩ := h; rfl
  · obtain ⟨F, Rs, L, D, d, rfl, ⟨dx, szs, cm, cw, h⟩, hd, q⟩ := h
    have hO := h.hO
    have hT := h.hT
    have h2 := h.setThere (d := d) (b := false) hd
    refine ⟨_, (pss_cons (ps_asg pe_bl (pg_sub (pe_fld (pv 0) rfl) (pv 1) set_list)) (pss_one (ps_expr (pe_metE c_Disks__empty (hr.mono (by omega)) xp0 (pv 0) (pa_cons (pv 1) pa_nil))))), ?_⟩
    refine iBody (by repeat constructor) ?_
    walk_at "go"
    refine iSetL hT (k := d) (by rw [ixN_natL, theL_len]; exact if_pos hd) ?_
    walk_at "go"
    have hO := h2.hO
    generalize upd H (L .there) _ = H2 at h2 hO ⊢
    walk_at "go"
    refine j_empty h2.at_ hd fun H' L' e D3 => ?_
    walk_at "go"
    exact q _ _ e D3
/-- a list of lists of booleans -/
def Kept (R : Hp) (p : Addr) (ks : List (List Bool)) : Prop := ∃ xs : List V, R p = some (.lst xs) ∧ xs.length = ks.length ∧ ∀ (i : Nat) (v : V) (k : List Bool), xs[i]? = some v → ks[i]? = some k → ∃ q : Addr, v = .ref q ∧ R q = some (.lst (k.map V.bl))
def sp_power (C : Addr) : Sp := fun vs H Q _ => ∃ (F Rs : Hp) (L : DL → Addr) (D : DK) (p : Addr) (ks : List (List Bool)), vs = [.ref (L .obj), .ref p] ∧ DAt C H F Rs L D ∧ Kept Rs p ks ∧ ∀ H' L', L' .obj = L .obj → DAt C H' F Rs L' (D.power fun d => ks.getD d []) → Q .non H'
theorem ok_power {C : Addr} (M : Mg mg) (T : Tx_Disks K C) {f : Addr} {fd : FuncData} (F : Fun K "power" "Disks.power" s_Disks_power f fd) (c_Disks__fail : MetX P w K mg base 1 C "_fail" ["self"] (sp_fail C)) (c_Disks__settle : MetX P w K mg base 1 C "_settle" ["self", "disk", "kept"] (sp_settle C)) : FnOk P w K mg base CX0 2 f fd ["self", "kept"] (sp_power C) := by
  refine F.ok sc_Disks_power (fun vs H Q E h => ?_) (fun cdv A outer s H vs Q E hr h => ?_)
  · obtain ⟨F, Rs, L, D, p, ks, rfl, _⟩ := h; rfl
  · obtain ⟨F, Rs, L, D, p, ks, rfl, D0, ⟨xs, hxs, lxs, hk⟩, q⟩ := h
    obtain ⟨dx, szs, hO, -⟩ := D0.obj
    have n8 : D.n ≤ 8 := by obtain ⟨_, _, _, _, h⟩ := D0; exact h.n8
    refine ⟨_, (Evl.pss_cut (ps_if (pt_val (pe_fld (pv 0) rfl)) (pss_one (ps_expr (pe_metE0 c_Disks__fail (hr.mono (by omega)) xp0 (pv 0)))) pss_nil) (pss_cons (ps_for PassesOwn.never rfl (pi_range1 (by rfl) M.n_range (pa_cons (pe_ix ix_t (pe_fld (pv 0) rfl) pe_int (fun _ _ => rfl)) pa_nil)) (pg_name (i := 2) sc_Disks_power.nd rfl (Or.inl rfl)) (pss_one (ps_expr (pe_metE c_Disks__settle (hr.mono (by omega)) xp0 (pv 0) (pa_cons (pv 2) (pa_cons (pe_ifExp (pt_cmpR op_lt (pv 2) (pe_callB len_l (by rfl) M.n_len PySem.boot_len (pa_cons (pv 1) pa_nil)) (nomark _)) (pe_ix ix_l (pv 1) (pv 2) (fun _ _ => rfl)) (pe_lst pa_nil)) pa_nil)))))) (pss_one (ps_fld (pv 0) pe_bl rfl)))), ?_⟩
    refine iBody (by repeat constructor) ?_
    refine iCut2 (fun σ H1 => σ = [some (.ref (L .obj)), some (.ref p), none] ∧ DAt C H1 F Rs L (if D.on = true then D.fail else D)) ?_ ?_
    · walk_at "go"
      cases eo : D.on with
      | false =>
        walk_at "go"
        exact ⟨rfl, D0⟩
      | true =>
        walk_at "go"
        refine ⟨F, Rs, L, D, rfl, D0, fun H' D1 => ?_⟩
        walk_at "go"
        exact ⟨rfl, D1⟩
    · rintro σ H1 ⟨rfl, D1⟩
      have e1 : (if D.on = true then D.fail else D).n = D.n := by split <;> rfl
      have e2 : D.power (fun d => ks.getD d []) = { (if D.on = true then D.fail else D).settles (fun d => ks.getD d []) D.n with on := true } := rfl
      rw [e2] at q
      generalize (if D.on = true then D.fail else D) = D' at D1 q e1
      clear hO
      obtain ⟨dx, szs, hO, hs⟩ := D1.obj
      have n8' : D'.n ≤ 8 := by rw [e1]; exact n8
      walk_at "go"
      refine forJ_range0 (fun i σ' H' => (∃ x, σ' = [some (.ref (L .obj)), some (.ref p), x]) ∧ ∃ L', L' .obj = L .obj ∧ DAt C H' F Rs L' (D'.settles (fun d => ks.getD d []) i)) ⟨⟨_, rfl⟩, L, rfl, settles_zero.symm ▸ D1⟩ (fun i σ' H' hi hp => ?_) (fun σ' H' hp => ?_)
      · rw [Int.toNat_natCast] at hi
        obtain ⟨⟨x1, rfl⟩, L', eL, D4⟩ := hp
        rw [← eL]
        obtain ⟨dx, szs, hO, -⟩ := D4.obj
        have hx := D4.rs _ _ hxs
        walk_at "go"
        rw [lxs]
        refine ifD (fun hl => ?_) (fun hl => ?_)
        · have hl' : i < ks.length := by omega
          obtain ⟨v, hv⟩ : ∃ v, xs[i]? = some v := ⟨_, List.getElem?_eq_getElem (by omega)⟩
          obtain ⟨k, hk'⟩ : ∃ k, ks[i]? = some k := ⟨_, List.getElem?_eq_getElem hl'⟩
          obtain ⟨r, rfl, hr'⟩ := hk i v k hv hk'
          walk_at "go"
          refine iIxL hx ((atI_natL _ _).trans hv) ?_
          walk_at "go"
          refine j_settle D4 hi hr' fun H6 L6 e6 D7 => ?_
          have ek : k = ks.getD i [] := by rw [List.getD_eq_getElem?_getD, hk']; rfl
          rw [ek, settles_succ] at D7
          walk_at "go"
          exact ⟨⟨_, rfl⟩, L6, e6.trans rfl, D7⟩
        · walk_at "go"
          refine iNewL (by simp) fun t ht => ?_
          walk_at "go"
          have D6 := D4.newR (o := .lst (([] : List Bool).map V.bl)) ht
          refine j_settle D6 hi upd_same fun H6 L6 e6 D7 => ?_
          have ek : ([] : List Bool) = ks.getD i [] := by rw [List.getD_eq_getElem?_getD, List.getElem?_eq_none (by omega)]; rfl
          have e9 : (D'.settles (fun d => ks.getD d []) i).settle i [] = D'.settles (fun d => ks.getD d []) (i + 1) := (congrArg _ ek).trans settles_succ
          rw [e9] at D7
          walk_at "go"
          refine ⟨⟨_, rfl⟩, L6, e6.trans rfl, D7.weak (Evl.Ex.new (Evl.fresh_back D4.rs ht))⟩
      · obtain ⟨⟨x1, rfl⟩, L', eL, D4⟩ := hp
        rw [Int.toNat_natCast] at D4
        rw [← eL]
        obtain ⟨dx, szs, cm, cw, h4⟩ := D4
        have hO := h4.hO
        walk_at "go"
        have h5 := h4.fields (D' := { (D'.settles (fun d => ks.getD d []) D'.n) with on := true }) rfl rfl rfl rfl rfl rfl rfl
        rw [← e1] at q
        exact q _ _ eL h5.at_

/-! ### Disks: sizes, new ones -/
def Sc : V → Prop
  | .non => True
  | .bl _ => True
  | .int _ => True
  | .str _ => True
  | _ => False
def numIn (v : V) (lo hi : Int) : Bool := match v with
  | .int i => decide (lo ≤ i) && decide (i ≤ hi)
  | _ => false
def okS (d m k s : V) : Bool := numIn d 4 8 && numIn m 48 200 && (match d with | .int n => numIn k 1 n && numIn s 1 n && (match k, s with | .int a, .int b => decide (a + b ≤ n) | _, _ => false) | _ => false)
def sp_is_number : Sp := fun vs H Q _ => ∃ (v : V) (lo hi : Int), vs = [v, .int lo, .int hi] ∧ Sc v ∧ Q (.bl (numIn v lo hi)) H
theorem ok_is_number (M : Mg mg) {f : Addr} {fd : FuncData} (F : Fun K "is_number" "is_number" s_is_number f fd) : FnOk P w K mg base CX0 1 f fd ["value", "low", "high"] sp_is_number := by
  refine F.ok sc_is_number (fun vs H Q E h => ?_) (fun cdv A outer s H vs Q E hr h => ?_)
  · obtain ⟨v, lo, hi, rfl, _⟩ := h; rfl
  · obtain ⟨v, lo, hi, rfl, hv, q⟩ := h
    refine ⟨_, (pss_cons (ps_if (PW.pt (pw_or (pt_val (pe_callB isi_b (by rfl) M.n_isinstance (by decide +kernel) (pa_cons (pv 0) (pa_cons (pe_ty (n := "bool") (by rfl) M.n_bool (by decide +kernel)) pa_nil)))) (pw_or1 (pt_not (pt_val (pe_callB isi_b (by rfl) M.n_isinstance (by decide +kernel) (pa_cons (pv 0) (pa_cons (pe_ty (n := "int") (by rfl) M.n_int (by decide +kernel)) pa_nil)))))))) (pss_one (ps_ret pe_bl)) pss_nil) (pss_one (ps_ret (pe_chain op_le op_le (pv 1) (pv 0) (pv 2))))), ?_⟩
    refine iBody (by repeat constructor) ?_
    cases v with
    | non =>
      walk_at "go"
      exact q
    | bl b =>
      walk_at "go"
      exact q
    | str z =>
      walk_at "go"
      exact q
    | int i =>
      have q : Q (.bl (decide (lo ≤ i) && decide (i ≤ hi))) H := q
      walk_at "go"
      refine ifD (fun e => ?_) (fun e => ?_)
      · walk_at "go"
        rw [decide_eq_true e, Bool.true_and] at q
        exact q
      · walk_at "go"
        rw [decide_eq_false e, Bool.false_and] at q
        exact q
    | ref a => exact hv.elim
    | byt b => exact hv.elim
    | flt b => exact hv.elim
    | ty b => exact hv.elim
theorem j_is_number {v : V} {lo hi : Int} {H : Hp} {Q : VK} {E : XK} (hv : Sc v) (q : Q (.bl (numIn v lo hi)) H) : sp_is_number [v, .int lo, .int hi] H Q E := ⟨v, lo, hi, rfl, hv, q⟩
def sp_check_sizes (CI : Addr) : Sp := fun vs H Q E => ∃ (d m k s : V), vs = [d, m, k, s] ∧ Sc d ∧ Sc m ∧ Sc k ∧ Sc s ∧ (okS d m k s = true → Q .non H) ∧ (okS d m k s = false → E (.ref CI) none H)
theorem numIn_int {v : V} {lo hi : Int} (h : numIn v lo hi = true) : ∃ i, v = .int i ∧ lo ≤ i ∧ i ≤ hi := by
  cases v with
  | int i =>
    have h : (decide (lo ≤ i) && decide (i ≤ hi)) = true := h
    rw [Bool.and_eq_true, decide_eq_true_eq, decide_eq_true_eq] at h
    exact ⟨i, rfl, h⟩
  | _ => cases h
theorem ok_check_sizes {CI : Addr} (M : Mg mg) (e_InvalidArgument : ExT K mg "InvalidArgument" CI) {f : Addr} {fd : FuncData} (F : Fun K "check_sizes" "check_sizes" s_check_sizes f fd) (c_is_number : Cal P w K mg base 1 "is_number" ["value", "low", "high"] sp_is_number) : FnOk P w K mg base (L2.CX P w) 2 f fd ["disks", "sectors", "carrying", "depth"] (sp_check_sizes CI) := by
  refine F.okX sc_check_sizes (fun vs H Q E h => ?_) (fun cdv A outer s' H vs Q E hr h => ?_)
  · obtain ⟨d, m, k, s, rfl, _⟩ := h; rfl
  · obtain ⟨d, m, k, s, rfl, hd, hm, hk, hs, q1, q2⟩ := h
    unfold okS at q1 q2
    refine ⟨_, (pss_cons (ps_if (pt_not (pt_val (pe_cal c_is_number (hr.mono (by omega)) (by rfl) (pa_cons (pv 0) (pa_cons pe_int (pa_cons pe_int pa_nil)))))) (pss_one (ps_rai e_InvalidArgument (takes_of rfl rfl rfl rfl))) pss_nil) (pss_cons (ps_if (pt_not (pt_val (pe_cal c_is_number (hr.mono (by omega)) (by rfl) (pa_cons (pv 1) (pa_cons pe_int (pa_cons pe_int pa_nil)))))) (pss_one (ps_rai e_InvalidArgument (takes_of rfl rfl rfl rfl))) pss_nil) (pss_cons (ps_if (PW.pt (pw_or (pt_not (pt_val (pe_cal c_is_number (hr.mono (by omega)) (by rfl) (pa_cons (pv 2) (pa_cons pe_int (pa_cons (pv 0) pa_nil)))))) (pw_or1 (pt_not (pt_val (pe_cal c_is_number (hr.mono (by omega)) (by rfl) (pa_cons (pv 3) (pa_cons pe_int (pa_cons (pv 0) pa_nil))))))))) (pss_one (ps_rai e_InvalidArgument (takes_of rfl rfl rfl rfl))) pss_nil) (pss_one (ps_if (pt_cmpR op_gt (pe_op op_add (pv 2) (pv 3)) (pv 0) (nomark _)) (pss_one (ps_rai e_InvalidArgument (takes_of rfl rfl rfl rfl))) pss_nil))))), ?_⟩
    refine iBody (by repeat constructor) ?_
    walk_at "go"
    refine j_is_number hd ?_
    cases n1 : numIn d 4 8 with
    | false =>
      rw [n1] at q2
      walk_at "go"
      exact q2 rfl
    | true =>
      rw [n1] at q1 q2
      obtain ⟨n, rfl, -, -⟩ := numIn_int n1
      walk_at "go"
      refine j_is_number hm ?_
      cases n2 : numIn m 48 200 with
      | false =>
        rw [n2] at q2
        walk_at "go"
        exact q2 rfl
      | true =>
        rw [n2] at q1 q2
        walk_at "go"
        refine j_is_number hk ?_
        cases n3 : numIn k 1 n with
        | false =>
          walk_at "go"
          exact q2 (by show (true && true && (numIn k 1 n && _ && _)) = false; rw [n3]; rfl)
        | true =>
          obtain ⟨k, rfl, -, -⟩ := numIn_int n3
          walk_at "go"
          refine j_is_number hs ?_
          cases n4 : numIn s 1 n with
          | false =>
            walk_at "go"
            exact q2 (by show (true && true && (numIn _ 1 n && numIn s 1 n && _)) = false; rw [n3, n4]; rfl)
          | true =>
            obtain ⟨s, rfl, -, -⟩ := numIn_int n4
            walk_at "go"
            refine ifD (fun e => ?_) (fun e => ?_)
            · walk_at "go"
              exact q2 (by show (true && true && (numIn _ 1 n && numIn _ 1 n && decide (k + s ≤ n))) = false; rw [n3, n4, decide_eq_false (by omega)]; rfl)
            · walk_at "go"
              exact q1 (by show (true && true && (numIn _ 1 n && numIn _ 1 n && decide (k + s ≤ n))) = true; rw [n3, n4, decide_eq_true (by omega)]; rfl)
/-! ### lists of new lists -/
def PvN (H1 : Hp) (c : List V) (D : Addr) (i : Nat) (acc : List V) (H : Hp) : Prop := Ex H1 H ∧ ∃ ps : List Addr, acc = ps.map V.ref ∧ ps.length = i ∧ ps.Nodup ∧ ∀ p ∈ ps, p ≠ D ∧ H1 p = none ∧ H p = some (.lst c)
theorem pvN0 {H1 : Hp} {c : List V} {D : Addr} (hD : H1 D = none) : PvN H1 c D 0 [] (upd H1 D (.lst [])) := ⟨Evl.Ex.new hD, [], rfl, rfl, List.nodup_nil, fun p h => by cases h⟩
theorem iLcNew {H1 Hs H : Hp} {c acc : List V} {D p : Addr} {i : Nat} (hD : H1 D = none) (hi : i < 100000) (hacc : Hs D = some (.lst acc)) (hP : PvN H1 c D i acc Hs) (hp : Hs p = none) (e : Ex Hs H) (h : H p = some (.lst c)) : kLcE D i (PvN H1 c D) (.ref p) H := by
  obtain ⟨x, ps, rfl, lp, nd, al⟩ := hP
  have nDp : D ≠ p := ne_of_none hacc hp
  refine iLcE (e _ _ hacc) (by rw [List.length_map]; omega) hi ⟨Evl.Ex.mut (x.trans e) hD, ps ++ [p], by rw [List.map_append]; rfl, by rw [List.length_append, lp]; rfl, ?_, fun q hq => ?_⟩
  · refine List.nodup_append.mpr ⟨nd, by simp, fun a ha b hb => ?_⟩
    rw [List.mem_singleton] at hb
    subst hb
    exact ne_of_none (al a ha).2.2 hp
  · rcases List.mem_append.mp hq with hq | hq
    · obtain ⟨a1, a2, a3⟩ := al q hq
      exact ⟨a1, a2, (upd_ne a1).trans (e _ _ a3)⟩
    · rw [List.mem_singleton] at hq
      subst hq
      exact ⟨nDp.symm, Evl.fresh_back x hp, (upd_ne nDp.symm).trans h⟩

def Fr1 (o : Addr) (H H' : Hp) : Prop := ∀ p u, p ≠ o → H p = some u → H' p = some u
theorem Fr1.refl {o : Addr} {H : Hp} : Fr1 o H H := fun _ _ _ h => h
theorem Fr1.set {o : Addr} {H H' : Hp} {u : HO} (x : Fr1 o H H') : Fr1 o H (upd H' o u) := fun p v n h => (upd_ne n).trans (x p v n h)
theorem Fr1.ex {o : Addr} {H H' H2 : Hp} (x : Fr1 o H H') (e : Ex H' H2) : Fr1 o H H2 := fun p v n h => e _ _ (x p v n h)
theorem Fr1.fr {o p : Addr} {H H' : Hp} (x : Fr1 o H H') (n : p ≠ o) (h : H' p = none) : H p = none := by
  cases z : H p with
  | none => rfl
  | some u => rw [x p u n z] at h; cases h
theorem nodup_get {ps : List Addr} (h : ps.Nodup) {i j : Nat} (hi : i < ps.length) (hj : j < ps.length) (e : ps.getD i 0 = ps.getD j 0) : i = j := by
  rw [List.getD_eq_getElem?_getD, List.getD_eq_getElem?_getD, List.getElem?_eq_getElem hi, List.getElem?_eq_getElem hj] at e
  exact (List.getElem_inj h).mp e
theorem getD_mem {ps : List Addr} {i : Nat} (hi : i < ps.length) : ps.getD i 0 ∈ ps := by
  rw [List.getD_eq_getElem?_getD, List.getElem?_eq_getElem hi]
  exact List.getElem_mem hi
theorem map_ref {ps : List Addr} : ps.map V.ref = (List.range ps.length).map fun d => V.ref (ps.getD d 0) := by
  refine List.ext_getElem? fun i => ?_
  rw [List.getElem?_map, List.getElem?_map]
  by_cases hi : i < ps.length
  · rw [List.getElem?_range hi, List.getElem?_eq_getElem hi]
    show some (V.ref ps[i]) = some (V.ref (ps.getD i 0))
    rw [List.getD_eq_getElem?_getD, List.getElem?_eq_getElem hi]
    rfl
  · rw [List.getElem?_eq_none (by omega), List.getElem?_eq_none (by rw [List.length_range]; omega)]
    rfl
/-- the first layout -/
def LN (o t m w : Addr) (ps qs : List Addr) : DL → Addr
  | .obj => o
  | .there => t
  | .media => m
  | .wait => w
  | .med d => ps.getD d 0
  | .wai d => qs.getD d 0
def sp_init (C CI : Addr) : Sp := fun vs H Q _ => ∃ (F Rs : Hp) (o dx : Addr) (n m k s : Nat), vs = [.ref o, .int n, .int m, .int k, .int s] ∧ 4 ≤ n ∧ n ≤ 8 ∧ 48 ≤ m ∧ m ≤ 200 ∧ 1 ≤ k ∧ 1 ≤ s ∧ k + s ≤ n ∧ H o = some (.ins C dx []) ∧ Ex F H ∧ Ex Rs H ∧ F o = none ∧ Rs o = none ∧ (∀ p, Rs p ≠ none → F p = none) ∧
  ∀ H' F' L, L .obj = o → Ex F F' → DAt C H' F' Rs L (DK.new n m k s) → Q .non H'
theorem ok_init {C CI : Addr} (M : Mg mg) (T : Tx_Disks K C) {f : Addr} {fd : FuncData} (F : Fun K "__init__" "Disks.__init__" s_Disks___init__ f fd) (c_check_sizes : CalX P w K mg base 2 "check_sizes" ["disks", "sectors", "carrying", "depth"] (sp_check_sizes CI)) : FnOk P w K mg base (L2.CX P w) 3 f fd ["self", "disks", "sectors", "carrying", "depth"] (sp_init C CI) := by
  refine F.okX sc_Disks___init__ (fun vs H Q E h => ?_) (fun cdv A outer s H vs Q E hr h => ?_)
  · obtain ⟨F, Rs, o, dx, n, m, k, s, rfl, _⟩ := h; rfl
  · obtain ⟨F, Rs, o, dx, n, m, k, s, rfl, n4, n8, m48, m200, k1, s1, ks, ho, eF, eR, nF, nR, fr, q⟩ := h
    have h0 : H o = some (.ins C dx (NMD.zip [])) := ho
    refine ⟨_, (pss_cons (ps_expr (pe_calE c_check_sizes (hr.mono (by omega)) (by rfl) (xpX (takes_of rfl rfl rfl rfl)) (pa_cons (pv 1) (pa_cons (pv 2) (pa_cons (pv 3) (pa_cons (pv 4) pa_nil)))))) (pss_cons (ps_fld (pv 0) pe_bl rfl) (pss_cons (ps_fld (pv 0) pe_bl rfl) (pss_cons (ps_fld (pv 0) pe_int rfl) (pss_cons (ps_fld (pv 0) (pe_tup (pa_cons (pv 1) (pa_cons (pv 2) (pa_cons (pv 3) (pa_cons (pv 4) pa_nil))))) rfl) (pss_cons (ps_fld (pv 0) (pe_op op_rep (pe_lst (pa_cons pe_bl pa_nil)) (pv 1)) rfl) (pss_cons (ps_fld (pv 0) (pe_lc (own := [("_", 5)]) (g := (gName 5)) (tt := tYes) (by rfl) sc_Disks___init__.nd (pi_range1 (by rfl) M.n_range (pa_cons (pv 1) pa_nil)) (blkOk_by (own := [("_", 5)]) (N := ["self", "disks", "sectors", "carrying", "depth", "_"]) (sc := defScope s_Disks___init__) (by decide +kernel)) (fun _ _ _ _ _ => (pg_name (i := 5) sc_Disks___init__.nd rfl (Or.inl rfl))) (fun _ _ _ _ _ => pts_nil) (fun _ _ _ _ _ => (pe_op op_rep (pe_lst (pa_cons pe_non pa_nil)) (pv 2)))) rfl) (pss_cons (ps_fld (pv 0) (pe_lc (own := [("_", 5)]) (g := (gName 5)) (tt := tYes) (by rfl) sc_Disks___init__.nd (pi_range1 (by rfl) M.n_range (pa_cons (pv 1) pa_nil)) (blkOk_by (own := [("_", 5)]) (N := ["self", "disks", "sectors", "carrying", "depth", "_"]) (sc := defScope s_Disks___init__) (by decide +kernel)) (fun _ _ _ _ _ => (pg_name (i := 5) sc_Disks___init__.nd rfl (Or.inl rfl))) (fun _ _ _ _ _ => pts_nil) (fun _ _ _ _ _ => (pe_lst pa_nil))) rfl) (pss_cons (ps_fld (pv 0) pe_bl rfl) (pss_cons (ps_fld (pv 0) pe_non rfl) (pss_cons (ps_fld (pv 0) pe_int rfl) (pss_cons (ps_fld (pv 0) pe_int rfl) (pss_cons (ps_fld (pv 0) pe_int rfl) (pss_one (ps_fld (pv 0) pe_int rfl))))))))))))))), ?_⟩
    refine iBody (by repeat constructor) ?_
    walk_at "go"
    refine ⟨_, _, _, _, rfl, trivial, trivial, trivial, trivial, fun _ => ?_, fun z => ?_⟩
    · walk_at "go"
      refine iNewT (by simp) fun pz hz => ?_
      walk_at "go"
      rw [upd_upd, upd_upd] at hz ⊢
      rw [show ([] ++ [V.bl false] ++ [V.bl false] ++ [V.int 0] : List V) = [V.bl false, V.bl false, V.int 0] from rfl] at hz ⊢
      have a1 : (upd H o (.ins C dx (NMD.zip [V.bl false, V.bl false, V.int 0]))) o = some (.ins C dx (NMD.zip [V.bl false, V.bl false, V.int 0])) := upd_same
      have x1 : Fr1 o H (upd H o (.ins C dx (NMD.zip [V.bl false, V.bl false, V.int 0]))) := Fr1.refl.set
      generalize upd H o (.ins C dx (NMD.zip [V.bl false, V.bl false, V.int 0])) = H1 at hz a1 x1 ⊢
      have oz : o ≠ pz := ne_of_none a1 hz
      refine iNewL (by simp) fun l1 hl1 => ?_
      have ol1 : o ≠ l1 := ne_of_none upd_same hl1
      walk_at "go"
      refine iRep upd_same (by omega) (by omega) (by simp; omega) fun pt ht => ?_
      rw [Int.toNat_natCast, rep_true]
      have ot : o ≠ pt := ne_of_none ((upd_ne ol1).trans upd_same) ht
      walk_at "go"
      have x2 : Fr1 o H (upd (upd (upd (upd (upd H1 pz (.tup [.int n, .int m, .int k, .int s])) o (.ins C dx (NMD.zip ([V.bl false, V.bl false, V.int 0] ++ [V.ref pz])))) l1 (.lst [.bl true])) pt (.lst ((List.replicate n true).map V.bl))) o (.ins C dx (NMD.zip ([V.bl false, V.bl false, V.int 0] ++ [V.ref pz] ++ [V.ref pt])))) :=
        (((((x1.ex (Evl.Ex.new hz)).set).ex (Evl.Ex.new hl1)).ex (Evl.Ex.new ht))).set
      have a2 : (upd (upd (upd (upd (upd H1 pz (.tup [.int n, .int m, .int k, .int s])) o (.ins C dx (NMD.zip ([V.bl false, V.bl false, V.int 0] ++ [V.ref pz])))) l1 (.lst [.bl true])) pt (.lst ((List.replicate n true).map V.bl))) o (.ins C dx (NMD.zip ([V.bl false, V.bl false, V.int 0] ++ [V.ref pz] ++ [V.ref pt])))) o = some (.ins C dx (NMD.zip ([V.bl false, V.bl false, V.int 0] ++ [V.ref pz] ++ [V.ref pt]))) := upd_same
      have pzl1 : pz ≠ l1 := ne_of_none ((upd_ne oz.symm).trans upd_same) hl1
      have pzt : pz ≠ pt := ne_of_none ((upd_ne pzl1).trans ((upd_ne oz.symm).trans upd_same)) ht
      have z2 : (upd (upd (upd (upd (upd H1 pz (.tup [.int n, .int m, .int k, .int s])) o (.ins C dx (NMD.zip ([V.bl false, V.bl false, V.int 0] ++ [V.ref pz])))) l1 (.lst [.bl true])) pt (.lst ((List.replicate n true).map V.bl))) o (.ins C dx (NMD.zip ([V.bl false, V.bl false, V.int 0] ++ [V.ref pz] ++ [V.ref pt])))) pz = some (.tup [.int n, .int m, .int k, .int s]) := (upd_ne oz.symm).trans ((upd_ne pzt).trans ((upd_ne pzl1).trans ((upd_ne oz.symm).trans upd_same)))
      have t2 : (upd (upd (upd (upd (upd H1 pz (.tup [.int n, .int m, .int k, .int s])) o (.ins C dx (NMD.zip ([V.bl false, V.bl false, V.int 0] ++ [V.ref pz])))) l1 (.lst [.bl true])) pt (.lst ((List.replicate n true).map V.bl))) o (.ins C dx (NMD.zip ([V.bl false, V.bl false, V.int 0] ++ [V.ref pz] ++ [V.ref pt])))) pt = some (.lst ((List.replicate n true).map V.bl)) := (upd_ne ot.symm).trans upd_same
      have hzH : H pz = none := x1.fr oz.symm hz
      have htH : H pt = none := (((x1.ex (Evl.Ex.new hz)).set).ex (Evl.Ex.new hl1)).fr ot.symm ht
      generalize (upd (upd (upd (upd (upd H1 pz (.tup [.int n, .int m, .int k, .int s])) o (.ins C dx (NMD.zip ([V.bl false, V.bl false, V.int 0] ++ [V.ref pz])))) l1 (.lst [.bl true])) pt (.lst ((List.replicate n true).map V.bl))) o (.ins C dx (NMD.zip ([V.bl false, V.bl false, V.int 0] ++ [V.ref pz] ++ [V.ref pt])))) = H2 at x2 a2 z2 t2 ⊢
      clear hz ht hl1 x1 a1
      refine lc_r0 (by repeat constructor) (fun D => PvN H2 (List.replicate m .non) D) (fun D hD => pvN0 hD) (fun D i acc H' hD hi hacc hl hp => ?_) (fun pm acc H3 hD hacc hl hp => ?_)
      · rw [Int.toNat_natCast] at hi
        walk_at "go"
        refine iNewL (by simp) fun l2 hl2 => ?_
        walk_at "go"
        refine iRep upd_same (by omega) (by omega) (by simp; omega) fun u hu => ?_
        rw [Int.toNat_natCast, rep_none]
        refine iLcNew hD (by omega) hacc hp (Evl.fresh_back (Evl.Ex.new hl2) hu) ((Evl.Ex.new hl2).trans (Evl.Ex.new hu)) upd_same
      · rw [Int.toNat_natCast] at hp hl
        obtain ⟨x3, ps, rfl, lp, ndp, alp⟩ := hp
        have a3 := x3 _ _ a2
        have z3 := x3 _ _ z2
        have t3 := x3 _ _ t2
        have om : o ≠ pm := ne_of_none a2 hD
        have zm : pz ≠ pm := ne_of_none z2 hD
        have tm : pt ≠ pm := ne_of_none t2 hD
        have hmH : H pm = none := x2.fr om.symm hD
        walk_at "go"
        have x4 : Fr1 o H (upd H3 o (.ins C dx (NMD.zip ([V.bl false, V.bl false, V.int 0] ++ [V.ref pz] ++ [V.ref pt] ++ [V.ref pm])))) := (x2.ex x3).set
        have a4 : (upd H3 o (.ins C dx (NMD.zip ([V.bl false, V.bl false, V.int 0] ++ [V.ref pz] ++ [V.ref pt] ++ [V.ref pm])))) o = some (.ins C dx (NMD.zip ([V.bl false, V.bl false, V.int 0] ++ [V.ref pz] ++ [V.ref pt] ++ [V.ref pm]))) := upd_same
        have z4 := (upd_ne (o := .ins C dx (NMD.zip ([V.bl false, V.bl false, V.int 0] ++ [V.ref pz] ++ [V.ref pt] ++ [V.ref pm]))) oz.symm).trans z3
        have t4 := (upd_ne (o := .ins C dx (NMD.zip ([V.bl false, V.bl false, V.int 0] ++ [V.ref pz] ++ [V.ref pt] ++ [V.ref pm]))) ot.symm).trans t3
        have m4 := (upd_ne (o := .ins C dx (NMD.zip ([V.bl false, V.bl false, V.int 0] ++ [V.ref pz] ++ [V.ref pt] ++ [V.ref pm]))) om.symm).trans hacc
        have p4 : ∀ p ∈ ps, p ≠ o ∧ p ≠ pz ∧ p ≠ pt ∧ p ≠ pm ∧ H p = none ∧ (upd H3 o (.ins C dx (NMD.zip ([V.bl false, V.bl false, V.int 0] ++ [V.ref pz] ++ [V.ref pt] ++ [V.ref pm])))) p = some (.lst (List.replicate m .non)) := fun p hp => by
          obtain ⟨b1, b2, b3⟩ := alp p hp
          have c1 : p ≠ o := (ne_of_none a2 b2).symm
          exact ⟨c1, (ne_of_none z2 b2).symm, (ne_of_none t2 b2).symm, b1, x2.fr c1 b2, (upd_ne c1).trans b3⟩
        generalize upd H3 o (.ins C dx (NMD.zip ([V.bl false, V.bl false, V.int 0] ++ [V.ref pz] ++ [V.ref pt] ++ [V.ref pm]))) = H4 at x4 a4 z4 t4 m4 p4 ⊢
        clear x3 a3 z3 t3 hacc alp hD a2 z2 t2
        refine lc_r0 (by repeat constructor) (fun D => PvN H4 [] D) (fun D hD => pvN0 hD) (fun D i acc H' hD hi hacc hl hp => ?_) (fun pw acc H5 hD hacc hl hp => ?_)
        · rw [Int.toNat_natCast] at hi
          walk_at "go"
          refine iNewL (by simp) fun u hu => ?_
          exact iLcNew hD (by omega) hacc hp hu (Evl.Ex.new hu) upd_same
        · rw [Int.toNat_natCast] at hp hl
          obtain ⟨x5, qs, rfl, lq, ndq, alq⟩ := hp
          have a5 := x5 _ _ a4
          have z5 := x5 _ _ z4
          have t5 := x5 _ _ t4
          have m5 := x5 _ _ m4
          have ow : o ≠ pw := ne_of_none a4 hD
          have zw : pz ≠ pw := ne_of_none z4 hD
          have tw : pt ≠ pw := ne_of_none t4 hD
          have mw : pm ≠ pw := ne_of_none m4 hD
          walk_at "go"
          rw [upd_upd, upd_upd, upd_upd, upd_upd, upd_upd, upd_upd]
          have hwH : H pw = none := x4.fr ow.symm hD
          have L0 : ∀ d, d < n → (ps.getD d 0) ∈ ps := fun d hd => getD_mem (by omega)
          have L1 : ∀ d, d < n → (qs.getD d 0) ∈ qs := fun d hd => getD_mem (by omega)
          have q5 : ∀ p ∈ qs, p ≠ o ∧ p ≠ pz ∧ p ≠ pt ∧ p ≠ pm ∧ p ≠ pw ∧ H p = none ∧ (∀ u ∈ ps, u ≠ p) ∧ H5 p = some (.lst []) := fun p hp => by
            obtain ⟨b1, b2, b3⟩ := alq p hp
            have c1 : p ≠ o := (ne_of_none a4 b2).symm
            exact ⟨c1, (ne_of_none z4 b2).symm, (ne_of_none t4 b2).symm, (ne_of_none m4 b2).symm, b1, x4.fr c1 b2, fun u hu => ne_of_none (p4 u hu).2.2.2.2.2 b2, b3⟩
          have p5 : ∀ p ∈ ps, p ≠ pw ∧ H5 p = some (.lst (List.replicate m .non)) := fun p hp => ⟨ne_of_none (p4 p hp).2.2.2.2.2 hD, x5 _ _ (p4 p hp).2.2.2.2.2⟩
          have gone : ∀ p, H p = none → F p = none ∧ Rs p = none := fun p hp => ⟨Evl.fresh_back eF hp, Evl.fresh_back eR hp⟩
          have x6 : Fr1 o H (upd H5 o (.ins C dx (NMD.zip (flds pz (LN o pt pm pw ps qs) (DK.new n m k s))))) := (x4.ex x5).set
          refine q (upd H5 o (.ins C dx (NMD.zip (flds pz (LN o pt pm pw ps qs) (DK.new n m k s))))) (upd F pz (.tup [.int n, .int m, .int k, .int s])) (LN o pt pm pw ps qs) rfl (ex_new (gone _ hzH).1) ⟨dx, pz, fun _ => List.replicate m .non, fun _ => [], ?_, upd_same, n8, m200, fun d _ => MedRep.blank fun _ => rfl, fun d _ => WaiRep.nil⟩
          have hdom : ∀ x, dom n x → LN o pt pm pw ps qs x = o ∨ (LN o pt pm pw ps qs x ≠ o ∧ LN o pt pm pw ps qs x ≠ pz ∧ H (LN o pt pm pw ps qs x) = none) := fun x hx => by
            cases x with
            | obj => exact .inl rfl
            | there => exact .inr ⟨ot.symm, pzt.symm, htH⟩
            | media => exact .inr ⟨om.symm, zm.symm, hmH⟩
            | wait => exact .inr ⟨ow.symm, zw.symm, hwH⟩
            | med d => have b := p4 _ (L0 d hx); exact .inr ⟨b.1, b.2.1, b.2.2.2.2.1⟩
            | wai d => have b := q5 _ (L1 d hx); exact .inr ⟨b.1, b.2.1, b.2.2.2.2.2.1⟩
          refine ⟨⟨fun x hx => ?_, fun x y hx hy e => ?_⟩, fun p u hp => ?_, fun p u hp => x6 p u (fun z => by subst z; rw [nR] at hp; cases hp) (eR _ _ hp), fun x hx => ?_, fun x hx => ?_, fun p hp => ?_⟩
          · cases x with
            | obj => exact upd_same
            | there =>
              refine (upd_ne ot.symm).trans (t5.trans ?_)
              show some (HO.lst _) = some (HO.lst (theL (DK.new n m k s)))
              unfold theL
              congr 2
              refine List.ext_getElem? fun i => ?_
              rw [List.getElem?_map, List.getElem?_map, List.getElem?_replicate]
              show _ = Option.map _ ((List.range n)[i]?)
              by_cases hi : i < n
              · rw [if_pos hi, List.getElem?_range hi]; rfl
              · rw [if_neg hi, List.getElem?_eq_none (by rw [List.length_range]; omega)]; rfl
            | media =>
              refine (upd_ne om.symm).trans (m5.trans ?_)
              show some (HO.lst _) = some (HO.lst (medL (LN o pt pm pw ps qs) n))
              rw [map_ref, lp]
              rfl
            | wait =>
              refine (upd_ne ow.symm).trans (hacc.trans ?_)
              show some (HO.lst _) = some (HO.lst (waiL (LN o pt pm pw ps qs) n))
              rw [map_ref, lq]
              rfl
            | med d => exact (upd_ne (p4 _ (L0 d hx)).1).trans (p5 _ (L0 d hx)).2
            | wai d => exact (upd_ne (q5 _ (L1 d hx)).1).trans (q5 _ (L1 d hx)).2.2.2.2.2.2.2
          · cases x with
            | obj => cases y with
              | obj => rfl
              | there => exact absurd e ot
              | media => exact absurd e om
              | wait => exact absurd e ow
              | med d => exact absurd e.symm (p4 _ (L0 d hy)).1
              | wai d => exact absurd e.symm (q5 _ (L1 d hy)).1
            | there => cases y with
              | obj => exact absurd e.symm ot
              | there => rfl
              | media => exact absurd e tm
              | wait => exact absurd e tw
              | med d => exact absurd e.symm (p4 _ (L0 d hy)).2.2.1
              | wai d => exact absurd e.symm (q5 _ (L1 d hy)).2.2.1
            | media => cases y with
              | obj => exact absurd e.symm om
              | there => exact absurd e.symm tm
              | media => rfl
              | wait => exact absurd e mw
              | med d => exact absurd e.symm (p4 _ (L0 d hy)).2.2.2.1
              | wai d => exact absurd e.symm (q5 _ (L1 d hy)).2.2.2.1
            | wait => cases y with
              | obj => exact absurd e.symm ow
              | there => exact absurd e.symm tw
              | media => exact absurd e.symm mw
              | wait => rfl
              | med d => exact absurd e.symm (p5 _ (L0 d hy)).1
              | wai d => exact absurd e.symm (q5 _ (L1 d hy)).2.2.2.2.1
            | med d => cases y with
              | obj => exact absurd e (p4 _ (L0 d hx)).1
              | there => exact absurd e (p4 _ (L0 d hx)).2.2.1
              | media => exact absurd e (p4 _ (L0 d hx)).2.2.2.1
              | wait => exact absurd e (p5 _ (L0 d hx)).1
              | med d' => rw [nodup_get ndp (lp.symm ▸ hx) (lp.symm ▸ hy) e]
              | wai d' => exact absurd e ((q5 _ (L1 d' hy)).2.2.2.2.2.2.1 _ (L0 d hx))
            | wai d => cases y with
              | obj => exact absurd e (q5 _ (L1 d hx)).1
              | there => exact absurd e (q5 _ (L1 d hx)).2.2.1
              | media => exact absurd e (q5 _ (L1 d hx)).2.2.2.1
              | wait => exact absurd e (q5 _ (L1 d hx)).2.2.2.2.1
              | med d' => exact absurd e.symm ((q5 _ (L1 d hx)).2.2.2.2.2.2.1 _ (L0 d' hy))
              | wai d' => rw [nodup_get ndq (lq.symm ▸ hx) (lq.symm ▸ hy) e]
          · by_cases z : p = pz
            · subst z
              rw [upd_same] at hp
              rw [upd_ne oz.symm, z5]
              exact hp
            · rw [upd_ne z] at hp
              exact x6 p u (fun y => by subst y; rw [nF] at hp; cases hp) (eF _ _ hp)
          · rcases hdom x hx with b | ⟨b1, b2, b3⟩
            · rw [b, upd_ne oz, nF]
            · rw [upd_ne b2]; exact (gone _ b3).1
          · rcases hdom x hx with b | ⟨b1, b2, b3⟩
            · rw [b, nR]
            · exact (gone _ b3).2
          · by_cases z : p = pz
            · subst z
              exact absurd (gone _ hzH).2 hp
            · rw [upd_ne z]; exact fr p hp
    · exfalso
      have : okS (.int n) (.int m) (.int k) (.int s) = true := by
        show (((decide ((4 : Int) ≤ n) && decide ((n : Int) ≤ 8)) && (decide ((48 : Int) ≤ m) && decide ((m : Int) ≤ 200))) && (((decide ((1 : Int) ≤ k) && decide ((k : Int) ≤ n)) && (decide ((1 : Int) ≤ s) && decide ((s : Int) ≤ n))) && decide ((k : Int) + s ≤ n))) = true
        simp only [Bool.and_eq_true, decide_eq_true_eq]
        omega
      rw [this] at z
      cases z

/-! ### Disks: what is told of them, and the failure that is set -/
def sp_is_on (C : Addr) : Sp := fun vs H Q _ => ∃ (F Rs : Hp) (L : DL → Addr) (D : DK), vs = [.ref (L .obj)] ∧ DAt C H F Rs L D ∧ Q (.bl D.on) H
theorem ok_is_on {C : Addr} (M : Mg mg) (T : Tx_Disks K C) {f : Addr} {fd : FuncData} (F : Fun K "is_on" "Disks.is_on" s_Disks_is_on f fd) : FnOk P w K mg base CX0 1 f fd ["self"] (sp_is_on C) := by
  refine F.ok sc_Disks_is_on (fun vs H Q E h => ?_) (fun cdv A outer s H vs Q E hr h => ?_)
  · obtain ⟨F, Rs, L, D, rfl, _⟩ := h; rfl
  · obtain ⟨F, Rs, L, D, rfl, D0, q⟩ := h
    obtain ⟨dx, szs, hO, -⟩ := D0.obj
    refine ⟨_, (pss_one (ps_ret (pe_fld (pv 0) rfl))), ?_⟩
    refine iBody (by repeat constructor) ?_
    walk_at "go"
    exact q
def sp_losses (C : Addr) : Sp := fun vs H Q _ => ∃ (F Rs : Hp) (L : DL → Addr) (D : DK), vs = [.ref (L .obj)] ∧ DAt C H F Rs L D ∧ Q (.int (D.fails : Nat)) H
theorem ok_losses {C : Addr} (M : Mg mg) (T : Tx_Disks K C) {f : Addr} {fd : FuncData} (F : Fun K "losses" "Disks.losses" s_Disks_losses f fd) : FnOk P w K mg base CX0 1 f fd ["self"] (sp_losses C) := by
  refine F.ok sc_Disks_losses (fun vs H Q E h => ?_) (fun cdv A outer s H vs Q E hr h => ?_)
  · obtain ⟨F, Rs, L, D, rfl, _⟩ := h; rfl
  · obtain ⟨F, Rs, L, D, rfl, D0, q⟩ := h
    obtain ⟨dx, szs, hO, -⟩ := D0.obj
    refine ⟨_, (pss_one (ps_ret (pe_fld (pv 0) rfl))), ?_⟩
    refine iBody (by repeat constructor) ?_
    walk_at "go"
    exact q
def sp_counts (C : Addr) : Sp := fun vs H Q _ => ∃ (F Rs : Hp) (L : DL → Addr) (D : DK), vs = [.ref (L .obj)] ∧ DAt C H F Rs L D ∧ ∀ p, H p = none → Q (.ref p) (upd H p (.tup [.int (D.reads : Nat), .int (D.writes : Nat), .int (D.syncs : Nat)]))
theorem ok_counts {C : Addr} (M : Mg mg) (T : Tx_Disks K C) {f : Addr} {fd : FuncData} (F : Fun K "counts" "Disks.counts" s_Disks_counts f fd) : FnOk P w K mg base CX0 1 f fd ["self"] (sp_counts C) := by
  refine F.ok sc_Disks_counts (fun vs H Q E h => ?_) (fun cdv A outer s H vs Q E hr h => ?_)
  · obtain ⟨F, Rs, L, D, rfl, _⟩ := h; rfl
  · obtain ⟨F, Rs, L, D, rfl, D0, q⟩ := h
    obtain ⟨dx, szs, hO, -⟩ := D0.obj
    refine ⟨_, (pss_one (ps_ret (pe_tup (pa_cons (pe_fld (pv 0) rfl) (pa_cons (pe_fld (pv 0) rfl) (pa_cons (pe_fld (pv 0) rfl) pa_nil)))))), ?_⟩
    refine iBody (by repeat constructor) ?_
    walk_at "go"
    refine iNewT (by simp) fun p hp => ?_
    exact q p hp
def sp_fail_after (C CP : Addr) : Sp := fun vs H Q E => ∃ (F Rs : Hp) (L : DL → Addr) (D : DK) (k : Nat), vs = [.ref (L .obj), .int k] ∧ DAt C H F Rs L D ∧ (D.on = false → E (.ref CP) none H) ∧ (D.on = true → ∀ H', DAt C H' F Rs L { D with left := some k } → Q .non H')
end
end R
set_option Elab.async false
set_option linter.all false
set_option maxRecDepth 100000
set_option maxHeartbeats 4000000
namespace R
open PySem PySem.Spec L2 L2H
open Evl (Ex)
abbrev s_Disks__operate : Stmt := inClass (topS 8) 17
theorem sc_Disks__operate : FnScope ["self"] ["self"] (defScope s_Disks__operate) := ⟨rfl, rfl, rfl, by decide +kernel, rfl, by decide +kernel, by decide +kernel⟩
abbrev s_Disks_write : Stmt := inClass (topS 8) 9
theorem sc_Disks_write : FnScope ["self", "disk", "sector", "data"] ["self", "disk", "sector", "data"] (defScope s_Disks_write) := ⟨rfl, rfl, rfl, by decide +kernel, rfl, by decide +kernel, by decide +kernel⟩
abbrev s_Disks_sync : Stmt := inClass (topS 8) 10
theorem sc_Disks_sync : FnScope ["self", "disk"] ["self"] (defScope s_Disks_sync) := ⟨rfl, rfl, rfl, by decide +kernel, rfl, by decide +kernel, by decide +kernel⟩
abbrev s_Disks_fail_after : Stmt := inClass (topS 8) 15
theorem sc_Disks_fail_after : FnScope ["self", "operations"] ["self", "operations"] (defScope s_Disks_fail_after) := ⟨rfl, rfl, rfl, by decide +kernel, rfl, by decide +kernel, by decide +kernel⟩
local macro_rules | `(tactic| walk_at "ne") => `(tactic| (apply Ne.symm; apply ne_fresh; (· assumption); (· walk_at "look")))
local macro_rules | `(tactic| walk_at "ne") => `(tactic| (apply ne_fresh; (· assumption); (· walk_at "look")))
local macro_rules | `(tactic| walk_at "ne") => `(tactic| (apply Ne.symm; assumption))
local macro_rules | `(tactic| walk_at "ne") => `(tactic| assumption)
local macro_rules | `(tactic| walk_at "look") => `(tactic| (refine exAt (by assumption) ?_; walk_at "look"))
local macro_rules | `(tactic| walk_at "look") => `(tactic| (refine (upd_ne ?_).trans ?_; (· walk_at "ne"); (· walk_at "look")))
local macro_rules | `(tactic| walk_at "look") => `(tactic| exact upd_same)
local macro_rules | `(tactic| walk_at "look") => `(tactic| assumption)
local macro_rules | `(tactic| walk_at "side") => `(tactic| (exact ⟨by decide, by decide, by decide⟩))
local macro_rules | `(tactic| walk_at "side") => `(tactic| (exact ⟨by omega, by omega⟩))
local macro_rules | `(tactic| walk_at "side") => `(tactic| (show (0:Int) ≤ _; omega))
local macro_rules | `(tactic| walk_at "side") => `(tactic| (show (0:Int) < _; omega))
local macro_rules | `(tactic| walk_at "side") => `(tactic| (exact Or.inr ⟨by omega, by omega⟩))
local macro_rules | `(tactic| walk_at "side") => `(tactic| (exact Or.inl ⟨by omega, by omega⟩))
local macro_rules | `(tactic| walk_at "step") => `(tactic| ((with_reducible apply iZL); (· walk_at "look"); (· walk_at "look")))
local macro_rules | `(tactic| walk_at "step") => `(tactic| ((with_reducible apply iItL); (· walk_at "look")))
local macro_rules | `(tactic| walk_at "step") => `(tactic| ((with_reducible apply iRng2I); (· omega); (· omega); (· omega); (· omega)))
local macro_rules | `(tactic| walk_at "step") => `(tactic| ((with_reducible apply iDNi); (· walk_at "look")))
local macro_rules | `(tactic| walk_at "step") => `(tactic| ((with_reducible apply iDIi); (· walk_at "look")))
local macro_rules | `(tactic| walk_at "step") => `(tactic| ((with_reducible apply iGTup); (· walk_at "look"); (· rfl)))
local macro_rules | `(tactic| walk_at "step") => `(tactic| ((with_reducible apply iLcB); (· rfl)))
local macro_rules | `(tactic| walk_at "step") => `(tactic| ((with_reducible apply ifNn); (· omega)))
local macro_rules | `(tactic| walk_at "step") => `(tactic| ((with_reducible apply ifNp); (· omega)))
local macro_rules | `(tactic| walk_at "step") => `(tactic| ((with_reducible apply ifF); (· apply decide_eq_false; omega)))
local macro_rules | `(tactic| walk_at "step") => `(tactic| ((with_reducible apply ifT); (· apply decide_eq_true; omega)))
local macro_rules | `(tactic| walk_at "step") => `(tactic| ((with_reducible apply ifF); (· rfl)))
local macro_rules | `(tactic| walk_at "step") => `(tactic| ((with_reducible apply ifT); (· rfl)))
local macro_rules | `(tactic| walk_at "step") => `(tactic| ((with_reducible apply iLenS); (· first | exact Or.inl (by walk_at "look") | exact Or.inr (by walk_at "look"))))
local macro_rules | `(tactic| walk_at "step") => `(tactic| ((with_reducible apply iLenT); (· walk_at "look")))
local macro_rules | `(tactic| walk_at "step") => `(tactic| ((with_reducible apply iIsi); (· first | exact tyN_int | exact tyN_bl | exact tyN_non | exact tyN_str | exact tyN_lst (by walk_at "look") | exact tyN_tup (by walk_at "look")); (· (first | exact kb_NoneType_bool | exact kb_NoneType_int | exact kb_NoneType_str | exact kb_NoneType_tuple | exact kb_NoneType_list | exact kb_bool_bool | exact kb_bool_int | exact kb_bool_str | exact kb_bool_tuple | exact kb_bool_list | exact kb_int_bool | exact kb_int_int | exact kb_int_str | exact kb_int_tuple | exact kb_int_list | exact kb_str_bool | exact kb_str_int | exact kb_str_str | exact kb_str_tuple | exact kb_str_list | exact kb_tuple_bool | exact kb_tuple_int | exact kb_tuple_str | exact kb_tuple_tuple | exact kb_tuple_list | exact kb_list_bool | exact kb_list_int | exact kb_list_str | exact kb_list_tuple | exact kb_list_list))))
local macro_rules | `(tactic| walk_at "step") => `(tactic| ((with_reducible apply iIxT); (· walk_at "look"); (· rfl)))
local macro_rules | `(tactic| walk_at "step") => `(tactic| ((with_reducible apply iSetL); (· walk_at "look"); (· rfl)))
local macro_rules | `(tactic| walk_at "step") => `(tactic| ((with_reducible apply iLenL); (· walk_at "look")))
local macro_rules | `(tactic| walk_at "step") => `(tactic| ((with_reducible apply iIxL); (· walk_at "look"); (· rfl)))
local macro_rules | `(tactic| walk_at "step") => `(tactic| ((with_reducible apply iI); rotate_left; (· (first | (exact Or.inl ⟨by omega, by omega⟩) | (exact Or.inr ⟨by omega, by omega⟩) | (show (0:Int) < _; omega) | (show (0:Int) ≤ _; omega) | (exact ⟨by omega, by omega⟩) | (exact ⟨by decide, by decide, by decide⟩)))))
local macro_rules | `(tactic| walk_at "step") => `(tactic| ((with_reducible apply iAugK); (· rfl)))
local macro_rules | `(tactic| walk_at "step") => `(tactic| ((with_reducible apply iRngI); (· first | decide | omega); (· first | decide | omega)))
local macro_rules | `(tactic| walk_at "step") => `(tactic| (with_reducible refine iDEa ?_))
local macro_rules | `(tactic| walk_at "step") => `(tactic| (with_reducible refine iGNil ?_))
local macro_rules | `(tactic| walk_at "step") => `(tactic| (with_reducible refine iGCons ?_))
local macro_rules | `(tactic| walk_at "step") => `(tactic| (with_reducible refine iZipK ?_))
local macro_rules | `(tactic| walk_at "step") => `(tactic| (with_reducible refine iRng2 ?_))
local macro_rules | `(tactic| walk_at "step") => `(tactic| (with_reducible refine iDPut ?_))
local macro_rules | `(tactic| walk_at "step") => `(tactic| (with_reducible refine iDNotIn ?_))
local macro_rules | `(tactic| walk_at "step") => `(tactic| (with_reducible refine iDIn ?_))
local macro_rules | `(tactic| walk_at "step") => `(tactic| (with_reducible refine iDGet ?_))
local macro_rules | `(tactic| walk_at "step") => `(tactic| (with_reducible refine iYes ?_))
local macro_rules | `(tactic| walk_at "step") => `(tactic| (with_reducible refine iLc ?_))
local macro_rules | `(tactic| walk_at "step") => `(tactic| (with_reducible refine iNeS ?_))
local macro_rules | `(tactic| walk_at "step") => `(tactic| (with_reducible refine iEqS ?_))
local macro_rules | `(tactic| walk_at "step") => `(tactic| (with_reducible refine iNeB ?_))
local macro_rules | `(tactic| walk_at "step") => `(tactic| (with_reducible refine iEqB ?_))
local macro_rules | `(tactic| walk_at "step") => `(tactic| (with_reducible refine iCont ?_))
local macro_rules | `(tactic| walk_at "step") => `(tactic| (with_reducible refine iBreak ?_))
local macro_rules | `(tactic| walk_at "step") => `(tactic| (with_reducible refine iIterL ?_))
local macro_rules | `(tactic| walk_at "step") => `(tactic| (with_reducible refine iTup ?_))
local macro_rules | `(tactic| walk_at "step") => `(tactic| (with_reducible refine iLst ?_))
local macro_rules | `(tactic| walk_at "step") => `(tactic| (with_reducible refine iSub ?_))
local macro_rules | `(tactic| walk_at "step") => `(tactic| (with_reducible refine iIpI ?_))
local macro_rules | `(tactic| walk_at "step") => `(tactic| (with_reducible refine iAugS ?_))
local macro_rules | `(tactic| walk_at "step") => `(tactic| (with_reducible refine iNotV ?_))
local macro_rules | `(tactic| walk_at "step") => `(tactic| (with_reducible refine iOrV ?_))
local macro_rules | `(tactic| walk_at "step") => `(tactic| (with_reducible refine iAndV ?_))
local macro_rules | `(tactic| walk_at "step") => `(tactic| (with_reducible refine iDGet1 ?_))
local macro_rules | `(tactic| walk_at "step") => `(tactic| (with_reducible refine iNotBl ?_))
local macro_rules | `(tactic| walk_at "step") => `(tactic| (with_reducible refine iIsB ?_))
local macro_rules | `(tactic| walk_at "step") => `(tactic| (with_reducible refine iIntB ?_))
local macro_rules | `(tactic| walk_at "step") => `(tactic| (with_reducible refine iPn ?_))
local macro_rules | `(tactic| walk_at "step") => `(tactic| (with_reducible refine iPr ?_))
local macro_rules | `(tactic| walk_at "step") => `(tactic| (with_reducible refine iRai ?_))
local macro_rules | `(tactic| walk_at "step") => `(tactic| (with_reducible refine iRev1 ?_))
local macro_rules | `(tactic| walk_at "step") => `(tactic| (with_reducible refine iBM ?_))
local macro_rules | `(tactic| walk_at "step") => `(tactic| (with_reducible refine iAugF ?_))
local macro_rules | `(tactic| walk_at "step") => `(tactic| (with_reducible refine iSto ?_))
local macro_rules | `(tactic| walk_at "step") => `(tactic| (with_reducible refine iFld ?_))
local macro_rules | `(tactic| walk_at "step") => `(tactic| (with_reducible refine iMakS ?_))
local macro_rules | `(tactic| walk_at "step") => `(tactic| (with_reducible refine iMak ?_))
local macro_rules | `(tactic| walk_at "step") => `(tactic| (with_reducible refine iMet ?_))
local macro_rules | `(tactic| walk_at "step") => `(tactic| (with_reducible refine iCalE ?_))
local macro_rules | `(tactic| walk_at "step") => `(tactic| (with_reducible refine ifDr ?_))
local macro_rules | `(tactic| walk_at "step") => `(tactic| (with_reducible refine ifNDr ?_))
local macro_rules | `(tactic| walk_at "step") => `(tactic| (with_reducible refine iTruI ?_))
local macro_rules | `(tactic| walk_at "step") => `(tactic| (with_reducible refine iNotN ?_))
local macro_rules | `(tactic| walk_at "step") => `(tactic| (with_reducible refine iIsN ?_))
local macro_rules | `(tactic| walk_at "step") => `(tactic| (with_reducible refine iRetN ?_))
local macro_rules | `(tactic| walk_at "step") => `(tactic| (with_reducible refine iU ?_))
local macro_rules | `(tactic| walk_at "step") => `(tactic| (with_reducible refine iUn ?_))
local macro_rules | `(tactic| walk_at "step") => `(tactic| (with_reducible refine iChain ?_))
local macro_rules | `(tactic| walk_at "step") => `(tactic| (with_reducible refine iIf ?_))
local macro_rules | `(tactic| walk_at "step") => `(tactic| (with_reducible refine iB ?_))
local macro_rules | `(tactic| walk_at "step") => `(tactic| (with_reducible refine iNot ?_))
local macro_rules | `(tactic| walk_at "step") => `(tactic| (with_reducible refine iOr ?_))
local macro_rules | `(tactic| walk_at "step") => `(tactic| (with_reducible refine iAnd ?_))
local macro_rules | `(tactic| walk_at "step") => `(tactic| (with_reducible refine iCal ?_))
local macro_rules | `(tactic| walk_at "step") => `(tactic| (with_reducible refine iRng ?_))
local macro_rules | `(tactic| walk_at "step") => `(tactic| (with_reducible refine iFor ?_))
local macro_rules | `(tactic| walk_at "step") => `(tactic| (with_reducible refine iInt ?_))
local macro_rules | `(tactic| walk_at "step") => `(tactic| (with_reducible refine iNeI ?_))
local macro_rules | `(tactic| walk_at "step") => `(tactic| (with_reducible refine iEqI ?_))
local macro_rules | `(tactic| walk_at "step") => `(tactic| (with_reducible refine iDrop ?_))
local macro_rules | `(tactic| walk_at "step") => `(tactic| (with_reducible refine iNext ?_))
local macro_rules | `(tactic| walk_at "step") => `(tactic| (with_reducible refine iRet ?_))
local macro_rules | `(tactic| walk_at "step") => `(tactic| (with_reducible refine iBl ?_))
local macro_rules | `(tactic| walk_at "step") => `(tactic| (with_reducible refine iTest ?_))
local macro_rules | `(tactic| walk_at "step") => `(tactic| (with_reducible refine iIfS ?_))
local macro_rules | `(tactic| walk_at "step") => `(tactic| (with_reducible refine iCB ?_))
local macro_rules | `(tactic| walk_at "step") => `(tactic| (with_reducible refine iNil ?_))
local macro_rules | `(tactic| walk_at "step") => `(tactic| (with_reducible refine iCons ?_))
local macro_rules | `(tactic| walk_at "step") => `(tactic| (with_reducible refine iI0 ?_))
local macro_rules | `(tactic| walk_at "step") => `(tactic| (with_reducible refine iOp ?_))
local macro_rules | `(tactic| walk_at "step") => `(tactic| (with_reducible refine iC ?_))
local macro_rules | `(tactic| walk_at "step") => `(tactic| ((with_reducible apply iVar); (· rfl)))
local macro_rules | `(tactic| walk_at "step") => `(tactic| ((with_reducible apply iName); (· repeat constructor)))
local macro_rules | `(tactic| walk_at "step") => `(tactic| (with_reducible refine iAsg ?_))
local macro_rules | `(tactic| walk_at "step") => `(tactic| (with_reducible refine iSeq ?_))
local macro_rules | `(tactic| walk_at "step") => `(tactic| ((with_reducible apply iMe_Disks__empty); (· walk_at "look")))
local macro_rules | `(tactic| walk_at "step") => `(tactic| ((with_reducible apply iMe_Disks__settle); (· walk_at "look")))
local macro_rules | `(tactic| walk_at "step") => `(tactic| ((with_reducible apply iMe_Disks__fail); (· walk_at "look")))
local macro_rules | `(tactic| walk_at "step") => `(tactic| ((with_reducible apply iMe_Disks__operate); (· walk_at "look")))
local macro_rules | `(tactic| walk_at "step") => `(tactic| ((with_reducible apply iMe_Disks_power); (· walk_at "look")))
local macro_rules | `(tactic| walk_at "step") => `(tactic| ((with_reducible apply iMe_Disks_fail_after); (· walk_at "look")))
local macro_rules | `(tactic| walk_at "step") => `(tactic| ((with_reducible apply iMe_Disks_blank); (· walk_at "look")))
local macro_rules | `(tactic| walk_at "step") => `(tactic| ((with_reducible apply iMe_Disks_away); (· walk_at "look")))
local macro_rules | `(tactic| walk_at "step") => `(tactic| ((with_reducible apply iMe_Disks_bad); (· walk_at "look")))
local macro_rules | `(tactic| walk_at "step") => `(tactic| ((with_reducible apply iMe_Disks_rot); (· walk_at "look")))
local macro_rules | `(tactic| walk_at "step") => `(tactic| ((with_reducible apply iMe_Disks_sync); (· walk_at "look")))
local macro_rules | `(tactic| walk_at "step") => `(tactic| ((with_reducible apply iMe_Disks_write); (· walk_at "look")))
local macro_rules | `(tactic| walk_at "step") => `(tactic| ((with_reducible apply iMe_Disks_ask); (· walk_at "look")))
local macro_rules | `(tactic| walk_at "step") => `(tactic| ((with_reducible apply iMe_Disks_pending); (· walk_at "look")))
local macro_rules | `(tactic| walk_at "step") => `(tactic| ((with_reducible apply iMe_Disks_cell); (· walk_at "look")))
local macro_rules | `(tactic| walk_at "step") => `(tactic| ((with_reducible apply iMe_Disks_is_there); (· walk_at "look")))
local macro_rules | `(tactic| walk_at "step") => `(tactic| ((with_reducible apply iMe_Disks_losses); (· walk_at "look")))
local macro_rules | `(tactic| walk_at "step") => `(tactic| ((with_reducible apply iMe_Disks_is_on); (· walk_at "look")))
local macro_rules | `(tactic| walk_at "step") => `(tactic| ((with_reducible apply iMe_Disks_counts); (· walk_at "look")))
local macro_rules | `(tactic| walk_at "step") => `(tactic| ((with_reducible apply iMe_Disks_sizes); (· walk_at "look")))
local macro_rules | `(tactic| walk_at "step") => `(tactic| ((with_reducible apply iP_Disks__syncs); (· assumption); (· walk_at "look"); (· rfl); (· repeat constructor)))
local macro_rules | `(tactic| walk_at "step") => `(tactic| ((with_reducible apply iN_Disks__syncs); (· assumption); (· walk_at "look"); (· rfl)))
local macro_rules | `(tactic| walk_at "step") => `(tactic| ((with_reducible apply iS_Disks__syncs); (· assumption); (· walk_at "look"); (· repeat constructor)))
local macro_rules | `(tactic| walk_at "step") => `(tactic| ((with_reducible apply iF_Disks__syncs); (· assumption); (· walk_at "look"); (· rfl)))
local macro_rules | `(tactic| walk_at "step") => `(tactic| ((with_reducible apply iP_Disks__writes); (· assumption); (· walk_at "look"); (· rfl); (· repeat constructor)))
local macro_rules | `(tactic| walk_at "step") => `(tactic| ((with_reducible apply iN_Disks__writes); (· assumption); (· walk_at "look"); (· rfl)))
local macro_rules | `(tactic| walk_at "step") => `(tactic| ((with_reducible apply iS_Disks__writes); (· assumption); (· walk_at "look"); (· repeat constructor)))
local macro_rules | `(tactic| walk_at "step") => `(tactic| ((with_reducible apply iF_Disks__writes); (· assumption); (· walk_at "look"); (· rfl)))
local macro_rules | `(tactic| walk_at "step") => `(tactic| ((with_reducible apply iP_Disks__reads); (· assumption); (· walk_at "look"); (· rfl); (· repeat constructor)))
local macro_rules | `(tactic| walk_at "step") => `(tactic| ((with_reducible apply iN_Disks__reads); (· assumption); (· walk_at "look"); (· rfl)))
local macro_rules | `(tactic| walk_at "step") => `(tactic| ((with_reducible apply iS_Disks__reads); (· assumption); (· walk_at "look"); (· repeat constructor)))
local macro_rules | `(tactic| walk_at "step") => `(tactic| ((with_reducible apply iF_Disks__reads); (· assumption); (· walk_at "look"); (· rfl)))
local macro_rules | `(tactic| walk_at "step") => `(tactic| ((with_reducible apply iP_Disks__failures); (· assumption); (· walk_at "look"); (· rfl); (· repeat constructor)))
local macro_rules | `(tactic| walk_at "step") => `(tactic| ((with_reducible apply iN_Disks__failures); (· assumption); (· walk_at "look"); (· rfl)))
local macro_rules | `(tactic| walk_at "step") => `(tactic| ((with_reducible apply iS_Disks__failures); (· assumption); (· walk_at "look"); (· repeat constructor)))
local macro_rules | `(tactic| walk_at "step") => `(tactic| ((with_reducible apply iF_Disks__failures); (· assumption); (· walk_at "look"); (· rfl)))
local macro_rules | `(tactic| walk_at "step") => `(tactic| ((with_reducible apply iM_Disks__left); (· assumption); (· walk_at "look"); (· rfl); (· repeat constructor)))
local macro_rules | `(tactic| walk_at "step") => `(tactic| ((with_reducible apply iN_Disks__left); (· assumption); (· walk_at "look"); (· rfl)))
local macro_rules | `(tactic| walk_at "step") => `(tactic| ((with_reducible apply iS_Disks__left); (· assumption); (· walk_at "look"); (· repeat constructor)))
local macro_rules | `(tactic| walk_at "step") => `(tactic| ((with_reducible apply iF_Disks__left); (· assumption); (· walk_at "look"); (· rfl)))
local macro_rules | `(tactic| walk_at "step") => `(tactic| ((with_reducible apply iN_Disks__on); (· assumption); (· walk_at "look"); (· rfl)))
local macro_rules | `(tactic| walk_at "step") => `(tactic| ((with_reducible apply iS_Disks__on); (· assumption); (· walk_at "look"); (· repeat constructor)))
local macro_rules | `(tactic| walk_at "step") => `(tactic| ((with_reducible apply iF_Disks__on); (· assumption); (· walk_at "look"); (· rfl)))
local macro_rules | `(tactic| walk_at "step") => `(tactic| ((with_reducible apply iN_Disks__waiting); (· assumption); (· walk_at "look"); (· rfl)))
local macro_rules | `(tactic| walk_at "step") => `(tactic| ((with_reducible apply iS_Disks__waiting); (· assumption); (· walk_at "look"); (· repeat constructor)))
local macro_rules | `(tactic| walk_at "step") => `(tactic| ((with_reducible apply iF_Disks__waiting); (· assumption); (· walk_at "look"); (· rfl)))
local macro_rules | `(tactic| walk_at "step") => `(tactic| ((with_reducible apply iN_Disks__media); (· assumption); (· walk_at "look"); (· rfl)))
local macro_rules | `(tactic| walk_at "step") => `(tactic| ((with_reducible apply iS_Disks__media); (· assumption); (· walk_at "look"); (· repeat constructor)))
local macro_rules | `(tactic| walk_at "step") => `(tactic| ((with_reducible apply iF_Disks__media); (· assumption); (· walk_at "look"); (· rfl)))
local macro_rules | `(tactic| walk_at "step") => `(tactic| ((with_reducible apply iN_Disks__there); (· assumption); (· walk_at "look"); (· rfl)))
local macro_rules | `(tactic| walk_at "step") => `(tactic| ((with_reducible apply iS_Disks__there); (· assumption); (· walk_at "look"); (· repeat constructor)))
local macro_rules | `(tactic| walk_at "step") => `(tactic| ((with_reducible apply iF_Disks__there); (· assumption); (· walk_at "look"); (· rfl)))
local macro_rules | `(tactic| walk_at "step") => `(tactic| ((with_reducible apply iN_Disks__sizes); (· assumption); (· walk_at "look"); (· rfl)))
local macro_rules | `(tactic| walk_at "step") => `(tactic| ((with_reducible apply iS_Disks__sizes); (· assumption); (· walk_at "look"); (· repeat constructor)))
local macro_rules | `(tactic| walk_at "step") => `(tactic| ((with_reducible apply iF_Disks__sizes); (· assumption); (· walk_at "look"); (· rfl)))
local macro_rules | `(tactic| walk_at "step") => `(tactic| ((with_reducible apply iN_Disks_scrub_place); (· assumption); (· walk_at "look"); (· rfl)))
local macro_rules | `(tactic| walk_at "step") => `(tactic| ((with_reducible apply iS_Disks_scrub_place); (· assumption); (· walk_at "look"); (· repeat constructor)))
local macro_rules | `(tactic| walk_at "step") => `(tactic| ((with_reducible apply iF_Disks_scrub_place); (· assumption); (· walk_at "look"); (· rfl)))
local macro_rules | `(tactic| walk_at "step") => `(tactic| ((with_reducible apply iN_Disks_formatted); (· assumption); (· walk_at "look"); (· rfl)))
local macro_rules | `(tactic| walk_at "step") => `(tactic| ((with_reducible apply iS_Disks_formatted); (· assumption); (· walk_at "look"); (· repeat constructor)))
local macro_rules | `(tactic| walk_at "step") => `(tactic| ((with_reducible apply iF_Disks_formatted); (· assumption); (· walk_at "look"); (· rfl)))
local macro_rules | `(tactic| walk_at "step") => `(tactic| ((with_reducible apply iN_Disks_in_use); (· assumption); (· walk_at "look"); (· rfl)))
local macro_rules | `(tactic| walk_at "step") => `(tactic| ((with_reducible apply iS_Disks_in_use); (· assumption); (· walk_at "look"); (· repeat constructor)))
local macro_rules | `(tactic| walk_at "step") => `(tactic| ((with_reducible apply iF_Disks_in_use); (· assumption); (· walk_at "look"); (· rfl)))
local macro_rules | `(tactic| walk_at "go") => `(tactic| (repeat walk_at "step"))
section
variable {P : Program} {w : World} {K : PySem.W.Frag} {mg : Str → Option Value} {base : Heap}
theorem ok_operate {C CP : Addr} (M : Mg mg) (T : Tx_Disks K C) (e_PowerOff : ExT K mg "PowerOff" CP) {f : Addr} {fd : FuncData} (F : Fun K "_operate" "Disks._operate" s_Disks__operate f fd) (c_Disks__fail : MetN P w K mg base 1 C "_fail" ["self"] (sp_fail C)) : FnOk P w K mg base (L2N.CX P w) 2 f fd ["self"] (sp_operate C CP) := by
  refine okN F sc_Disks__operate (fun vs H Q E h => ?_) (fun cdv A outer s H vs Q E hr h => ?_)
  · obtain ⟨F, Rs, L, D, rfl, _⟩ := h; rfl
  · obtain ⟨F, Rs, L, D, rfl, D0, q1, q2, q3⟩ := h
    have D1 := D0
    obtain ⟨dx, szs, cm, cw, h⟩ := D0
    have hO := h.hO
    refine ⟨_, (pss_cons (ps_if (pt_not (pt_val (pe_fld (pv 0) rfl))) (pss_one (ps_raiN e_PowerOff (L2N.takes_of rfl rfl rfl rfl))) pss_nil) (pss_cons (ps_if (pt_cmpR op_eq (pe_fld (pv 0) rfl) pe_int (nomark _)) (pss_cons (ps_expr (pe_metN0 c_Disks__fail (hr.mono (by omega)) (xpN (L2N.takes_of rfl rfl rfl rfl)) (pv 0))) (pss_one (ps_raiN e_PowerOff (L2N.takes_of rfl rfl rfl rfl)))) pss_nil) (pss_one (ps_if (pt_cmpR op_notN1 (pe_fld (pv 0) rfl) pe_non (nomark _)) (pss_one (ps_fldaug (pv 0) pe_int in_sub)) pss_nil)))), ?_⟩
    refine iBody (by repeat constructor) ?_
    walk_at "go"
    cases eo : D.on with
    | false =>
      walk_at "go"
      exact q1 eo
    | true =>
      walk_at "go"
      have hO : H (L DL.obj) = some (HO.ins C dx (NMD.zip [.bl D.inuse, .bl D.formatted, .int D.scrub, .ref szs, .ref (L .there), .ref (L .media), .ref (L .wait), .bl D.on, leftV D.left, .int (D.fails : Nat), .int (D.reads : Nat), .int (D.writes : Nat), .int (D.syncs : Nat)])) := hO
      cases el : D.left with
      | none =>
        rw [el] at hO
        have hO : H (L DL.obj) = some (HO.ins C dx (NMD.zip [.bl D.inuse, .bl D.formatted, .int D.scrub, .ref szs, .ref (L .there), .ref (L .media), .ref (L .wait), .bl D.on, .non, .int (D.fails : Nat), .int (D.reads : Nat), .int (D.writes : Nat), .int (D.syncs : Nat)])) := hO
        refine iEqZ rfl ?_
        walk_at "go"
        have e : D.tick = D := by cases D; simp only at el; subst el; rfl
        exact q3 eo (by rw [el]; intro z; cases z) _ (e.symm ▸ D1)
      | some i =>
        rw [el] at hO
        have hO : H (L DL.obj) = some (HO.ins C dx (NMD.zip [.bl D.inuse, .bl D.formatted, .int D.scrub, .ref szs, .ref (L .there), .ref (L .media), .ref (L .wait), .bl D.on, .int (i : Nat), .int (D.fails : Nat), .int (D.reads : Nat), .int (D.writes : Nat), .int (D.syncs : Nat)])) := hO
        show rEq (.int (i : Nat)) _ _ _
        walk_at "go"
        refine ifD (fun e => ?_) (fun e => ?_)
        · walk_at "go"
          refine ⟨F, Rs, L, D, rfl, D1, fun H' D2 => ?_⟩
          walk_at "go"
          exact q2 eo (by rw [el, show i = 0 by omega]) _ D2
        · walk_at "go"
          have D2 := h.fields (D' := D.tick) rfl rfl rfl rfl rfl rfl rfl
          have e1 : (V.int ((i : Nat) - 1 : Int)) = leftV D.tick.left := by
            show _ = leftV (D.left.map (· - 1))
            rw [el]
            show V.int _ = V.int ((i - 1 : Nat) : Int)
            congr 1
            omega
          rw [e1]
          exact q3 eo (by rw [el]; intro z; cases z; omega) _ D2.at_
theorem ok_write {C CP : Addr} (M : Mg mg) (T : Tx_Disks K C) {f : Addr} {fd : FuncData} (F : Fun K "write" "Disks.write" s_Disks_write f fd) (c_Disks__operate : MetN P w K mg base 2 C "_operate" ["self"] (sp_operate C CP)) : FnOk P w K mg base (L2N.CX P w) 3 f fd ["self", "disk", "sector", "data"] (sp_write C CP) := by
  refine okN F sc_Disks_write (fun vs H Q E h => ?_) (fun cdv A outer s H vs Q E hr h => ?_)
  · obtain ⟨F, Rs, L, D, d, j, p, x, rfl, _⟩ := h; rfl
  · obtain ⟨F, Rs, L, D, d, j, p, x, rfl, D0, hd, hj, hp, hz, q1, q2, q3⟩ := h
    have hO : ∃ dx szs, H (L .obj) = some (.ins C dx (NMD.zip (flds szs L D))) := by
      obtain ⟨dx, szs, cm, cw, h⟩ := D0
      exact ⟨dx, szs, h.hO⟩
    obtain ⟨dx, szs, hO⟩ := hO
    refine ⟨_, (pss_cons (ps_expr (pe_metN0 c_Disks__operate (hr.mono (by omega)) (xpN (L2N.takes_of rfl rfl rfl rfl)) (pv 0))) (pss_one (ps_if (pt_val (pe_ix ix_l (pe_fld (pv 0) rfl) (pv 1) (fun _ _ => rfl))) (pss_cons (ps_fldaug (pv 0) pe_int in_add) (pss_one (ps_expr (pe_bmE PySem.F.slot_list_append PySem.F.type_list_append mt_append (pe_ix ix_l (pe_fld (pv 0) rfl) (pv 1) (fun _ _ => rfl)) (pa_cons (pe_tup (pa_cons (pv 2) (pa_cons (pe_callTy list_l (by rfl) M.n_list (by decide +kernel) (pa_cons (pv 3) pa_nil)) pa_nil))) pa_nil))))) pss_nil))), ?_⟩
    refine iBody (by repeat constructor) ?_
    walk_at "go"
    refine j_operate D0 q1 q2 fun on1 l1 H1 D1 => ?_
    clear hO
    have e : D.write d j x = if D.there d = true then { D.tick with writes := D.writes + 1, wait := fun e => if e = d then D.wait e ++ [(j, x)] else D.wait e } else D.tick := rfl
    have D2 := D1
    obtain ⟨dx, szs, cm, cw, h⟩ := D1
    have hO := h.hO
    have hT := h.hT
    have et' : D.tick.there d = D.there d := rfl
    walk_at "go"
    refine iIxL hT ((atI_natL _ _).trans (theL_get hd)) ?_
    rw [et']
    walk_at "go"
    cases et : D.there d with
    | false =>
      walk_at "go"
      exact q3 on1 l1 _ F (Ex.refl _) (by rw [e, et]; exact D2)
    | true =>
      walk_at "go"
      have h3 := h.fields (D' := { D.tick with writes := D.writes + 1 }) rfl rfl rfl rfl rfl rfl rfl
      have e2 : flds szs L { D.tick with writes := D.writes + 1 } = [.bl D.inuse, .bl D.formatted, .int D.scrub, .ref szs, .ref (L .there), .ref (L .media), .ref (L .wait), .bl D.on, leftV D.tick.left, .int (D.fails : Nat), .int (D.reads : Nat), .int ((D.writes : Int) + 1), .int (D.syncs : Nat)] := rfl
      rw [e2] at h3
      have hO3 := h3.hO
      have hW3 := h3.hW
      have hw3 := h3.hw (d := d) hd
      have hp3 := h3.own.r _ _ hp
      have hl3 := (h3.wai d hd).len
      generalize hH3 : upd H1 (L DL.obj) _ = H3 at hO3 hW3 hw3 hp3 h3
      rw [show (upd H1 (L DL.obj) (HO.ins C dx (List.zip NMD [V.bl D.tick.inuse, V.bl D.tick.formatted, V.int D.tick.scrub, V.ref szs, V.ref (L DL.there), V.ref (L DL.media), V.ref (L DL.wait), V.bl D.tick.on, leftV D.tick.left, V.int (D.tick.fails : Nat), V.int (D.tick.reads : Nat), V.int ((D.tick.writes : Nat) + 1), V.int (D.tick.syncs : Nat)]))) = H3 from hH3]
      walk_at "go"
      refine iIxL hW3 ((atI_natL _ _).trans (waiL_get hd)) ?_
      refine iBMv hw3 ?_
      walk_at "go"
      refine iListL hp3 fun l hl => ?_
      walk_at "go"
      refine iNewT (by simp) fun t ht => ?_
      have h4 := (h3.newF hl).newF (o := .tup [.int (j : Nat), .ref l]) ht
      have nlt : t ≠ l := fun z => by rw [z, upd_same] at ht; cases ht
      walk_at "go"
      refine iApp (h4.hw (d := d) hd) (by rw [hl3]; have : (D.wait d).length < 90000 := hz; show (D.wait d).length < 100000; omega) ?_
      walk_at "go"
      have h5 := h4.addWait (d := d) (j := j) (x := x) hd hj upd_same ((upd_ne nlt.symm).trans upd_same)
      refine q3 on1 l1 _ _ ?_ (by rw [e, et]; exact h5.at_)
      have f1 := (h3.own.free hl).1
      have f2 := ((h3.newF hl (o := .lst x)).own.free ht).1
      exact (ex_new f1).trans (ex_new f2)

theorem ok_sync {C CP : Addr} (M : Mg mg) (T : Tx_Disks K C) {f : Addr} {fd : FuncData} (F : Fun K "sync" "Disks.sync" s_Disks_sync f fd) (c_Disks__operate : MetN P w K mg base 2 C "_operate" ["self"] (sp_operate C CP)) (c_Disks__settle : MetN P w K mg base 1 C "_settle" ["self", "disk", "kept"] (sp_settle C)) : FnOk P w K mg base (L2N.CX P w) 3 f fd ["self"] (sp_sync C CP) := by
  refine okN F sc_Disks_sync (fun vs H Q E h => ?_) (fun cdv A outer s H vs Q E hr h => ?_)
  · obtain ⟨F, Rs, L, D, rfl, _⟩ := h; rfl
  · obtain ⟨F, Rs, L, D, rfl, D0, hz, q1, q2, q3⟩ := h
    obtain ⟨dx, szs, hO, -⟩ := D0.obj
    refine ⟨_, (pss_cons (ps_expr (pe_metN0 c_Disks__operate (hr.mono (by omega)) (xpN (L2N.takes_of rfl rfl rfl rfl)) (pv 0))) (pss_cons (ps_fldaug (pv 0) pe_int in_add) (pss_one (ps_for (passes_of rfl) rfl (pi_range1 (by rfl) M.n_range (pa_cons (pe_ix ix_t (pe_fld (pv 0) rfl) pe_int (fun _ _ => rfl)) pa_nil)) (pg_name (i := 1) sc_Disks_sync.nd rfl (Or.inl rfl)) (pss_one (ps_expr (pe_metN c_Disks__settle (hr.mono (by omega)) (xpN (L2N.takes_of rfl rfl rfl rfl)) (pv 0) (pa_cons (pv 1) (pa_cons (pe_op op_rep (pe_lst (pa_cons pe_bl pa_nil)) (pe_callB len_l (by rfl) M.n_len PySem.boot_len (pa_cons (pe_ix ix_l (pe_fld (pv 0) rfl) (pv 1) (fun _ _ => rfl)) pa_nil))) pa_nil))))))))), ?_⟩
    refine iBody (by repeat constructor) ?_
    walk_at "go"
    refine j_operate D0 q1 q2 fun on1 l1 H1 D1 => ?_
    clear hO
    have q4 := q3 on1 l1
    obtain ⟨dx, szs, cm, cw, h⟩ := D1
    have hO := h.hO
    walk_at "go"
    have h3 := h.fields (D' := { D.tick with syncs := D.syncs + 1 }) rfl rfl rfl rfl rfl rfl rfl
    have e2 : flds szs L { D.tick with syncs := D.syncs + 1 } = [.bl D.inuse, .bl D.formatted, .int D.scrub, .ref szs, .ref (L .there), .ref (L .media), .ref (L .wait), .bl D.on, leftV D.tick.left, .int (D.fails : Nat), .int (D.reads : Nat), .int (D.writes : Nat), .int ((D.syncs : Nat) + 1)] := rfl
    rw [e2] at h3
    rw [show (upd H1 (L DL.obj) (HO.ins C dx (List.zip NMD [V.bl D.tick.inuse, V.bl D.tick.formatted, V.int D.tick.scrub, V.ref szs, V.ref (L DL.there), V.ref (L DL.media), V.ref (L DL.wait), V.bl D.tick.on, leftV D.tick.left, V.int (D.tick.fails : Nat), V.int (D.tick.reads : Nat), V.int (D.tick.writes : Nat), V.int ((D.tick.syncs : Nat) + 1)]))) = upd H1 (L DL.obj) (HO.ins C dx (List.zip NMD [.bl D.inuse, .bl D.formatted, .int D.scrub, .ref szs, .ref (L .there), .ref (L .media), .ref (L .wait), .bl D.on, leftV D.tick.left, .int (D.fails : Nat), .int (D.reads : Nat), .int (D.writes : Nat), .int ((D.syncs : Nat) + 1)])) from rfl]
    generalize upd H1 (L DL.obj) _ = H3 at h3 ⊢
    have hO := h3.hO
    have hs := h3.hs
    have n8 := h3.n8
    walk_at "go"
    refine forJ_range0 (fun i σ' H' => (∃ x, σ' = [some (.ref (L .obj)), x]) ∧ ∃ L', L' .obj = L .obj ∧ DAt C H' F Rs L' (({ D.tick with syncs := D.syncs + 1 } : DK).settles (fun d => List.replicate (D.wait d).length true) i)) ⟨⟨_, rfl⟩, L, rfl, settles_zero.symm ▸ h3.at_⟩ (fun i σ' H' hi hp => ?_) (fun σ' H' hp => ?_)
    · rw [Int.toNat_natCast] at hi
      obtain ⟨⟨x1, rfl⟩, L', eL, D4⟩ := hp
      have D5 := D4
      obtain ⟨dx, szs, cm, cw, h4⟩ := D4
      rw [← eL]
      have hO := h4.hO
      have hW := h4.hW
      have hw := h4.hw (d := i) hi
      have lw := (h4.wai i hi).len
      have ew : (({ D.tick with syncs := D.syncs + 1 } : DK).settles (fun d => List.replicate (D.wait d).length true) i).wait i = D.wait i := by
        show (if i < i then [] else D.wait i) = D.wait i
        rw [if_neg (Nat.lt_irrefl i)]
      rw [ew] at lw
      have hzi := hz i hi
      walk_at "go"
      refine iNewL (by simp) fun t ht => ?_
      have n1 : L' .obj ≠ t := (h4.own.free ht).2.2 _ trivial
      have n2 : L' .wait ≠ t := (h4.own.free ht).2.2 _ trivial
      have n3 : L' (.wai i) ≠ t := (h4.own.free ht).2.2 _ hi
      walk_at "go"
      refine iIxL ((upd_ne n2).trans hW) ((atI_natL _ _).trans (waiL_get hi)) ?_
      walk_at "go"
      rw [lw]
      refine iRep upd_same (by omega) (by omega) (by simp; omega) fun u hu => ?_
      rw [Int.toNat_natCast, rep_true]
      walk_at "go"
      have D6 := (D5.ex (Evl.Ex.new ht)).newR (o := .lst ((List.replicate (D.wait i).length true).map V.bl)) hu
      refine j_settle D6 hi upd_same fun H6 L6 e6 D7 => ?_
      rw [settles_succ] at D7
      walk_at "go"
      refine ⟨⟨_, rfl⟩, L6, e6.trans rfl, D7.weak ?_⟩
      refine Evl.Ex.new ?_
      exact Evl.fresh_back (D5.ex (Evl.Ex.new ht)).rs hu
    · obtain ⟨⟨x1, rfl⟩, L', eL, D4⟩ := hp
      rw [Int.toNat_natCast] at D4
      walk_at "go"
      exact q4 _ _ eL D4

theorem ok_fail_after {C CP : Addr} (M : Mg mg) (T : Tx_Disks K C) (e_PowerOff : ExT K mg "PowerOff" CP) {f : Addr} {fd : FuncData} (F : Fun K "fail_after" "Disks.fail_after" s_Disks_fail_after f fd) : FnOk P w K mg base (L2N.CX P w) 1 f fd ["self", "operations"] (sp_fail_after C CP) := by
  refine okN F sc_Disks_fail_after (fun vs H Q E h => ?_) (fun cdv A outer s H vs Q E hr h => ?_)
  · obtain ⟨F, Rs, L, D, k, rfl, _⟩ := h; rfl
  · obtain ⟨F, Rs, L, D, k, rfl, ⟨dx, szs, cm, cw, h⟩, q1, q2⟩ := h
    have hO := h.hO
    refine ⟨_, (pss_cons (ps_if (pt_not (pt_val (pe_fld (pv 0) rfl))) (pss_one (ps_raiN e_PowerOff (L2N.takes_of rfl rfl rfl rfl))) pss_nil) (pss_one (ps_fld (pv 0) (pv 1) rfl))), ?_⟩
    refine iBody (by repeat constructor) ?_
    walk_at "go"
    cases eo : D.on with
    | false =>
      walk_at "go"
      exact q1 eo
    | true =>
      walk_at "go"
      have h2 := h.fields (D' := { D with left := some k }) rfl rfl rfl rfl rfl rfl rfl
      exact q2 eo _ h2.at_

end
end R
set_option Elab.async false
set_option linter.all false
set_option maxRecDepth 100000
set_option maxHeartbeats 4000000
namespace R
open PySem PySem.Spec L2 L2H
open Evl (Ex)
local macro_rules | `(tactic| walk_at "ne") => `(tactic| (apply Ne.symm; apply ne_fresh; (· assumption); (· walk_at "look")))
local macro_rules | `(tactic| walk_at "ne") => `(tactic| (apply ne_fresh; (· assumption); (· walk_at "look")))
local macro_rules | `(tactic| walk_at "ne") => `(tactic| (apply Ne.symm; assumption))
local macro_rules | `(tactic| walk_at "ne") => `(tactic| assumption)
local macro_rules | `(tactic| walk_at "look") => `(tactic| (refine exAt (by assumption) ?_; walk_at "look"))
local macro_rules | `(tactic| walk_at "look") => `(tactic| (refine (upd_ne ?_).trans ?_; (· walk_at "ne"); (· walk_at "look")))
local macro_rules | `(tactic| walk_at "look") => `(tactic| exact upd_same)
local macro_rules | `(tactic| walk_at "look") => `(tactic| assumption)
local macro_rules | `(tactic| walk_at "side") => `(tactic| (exact ⟨by decide, by decide, by decide⟩))
local macro_rules | `(tactic| walk_at "side") => `(tactic| (exact ⟨by omega, by omega⟩))
local macro_rules | `(tactic| walk_at "side") => `(tactic| (show (0:Int) ≤ _; omega))
local macro_rules | `(tactic| walk_at "side") => `(tactic| (show (0:Int) < _; omega))
local macro_rules | `(tactic| walk_at "side") => `(tactic| (exact Or.inr ⟨by omega, by omega⟩))
local macro_rules | `(tactic| walk_at "side") => `(tactic| (exact Or.inl ⟨by omega, by omega⟩))
local macro_rules | `(tactic| walk_at "step") => `(tactic| ((with_reducible apply iZL); (· walk_at "look"); (· walk_at "look")))
local macro_rules | `(tactic| walk_at "step") => `(tactic| ((with_reducible apply iItL); (· walk_at "look")))
local macro_rules | `(tactic| walk_at "step") => `(tactic| ((with_reducible apply iRng2I); (· omega); (· omega); (· omega); (· omega)))
local macro_rules | `(tactic| walk_at "step") => `(tactic| ((with_reducible apply iDNi); (· walk_at "look")))
local macro_rules | `(tactic| walk_at "step") => `(tactic| ((with_reducible apply iDIi); (· walk_at "look")))
local macro_rules | `(tactic| walk_at "step") => `(tactic| ((with_reducible apply iGTup); (· walk_at "look"); (· rfl)))
local macro_rules | `(tactic| walk_at "step") => `(tactic| ((with_reducible apply iLcB); (· rfl)))
local macro_rules | `(tactic| walk_at "step") => `(tactic| ((with_reducible apply ifNn); (· omega)))
local macro_rules | `(tactic| walk_at "step") => `(tactic| ((with_reducible apply ifNp); (· omega)))
local macro_rules | `(tactic| walk_at "step") => `(tactic| ((with_reducible apply ifF); (· apply decide_eq_false; omega)))
local macro_rules | `(tactic| walk_at "step") => `(tactic| ((with_reducible apply ifT); (· apply decide_eq_true; omega)))
local macro_rules | `(tactic| walk_at "step") => `(tactic| ((with_reducible apply ifF); (· rfl)))
local macro_rules | `(tactic| walk_at "step") => `(tactic| ((with_reducible apply ifT); (· rfl)))
local macro_rules | `(tactic| walk_at "step") => `(tactic| ((with_reducible apply iLenS); (· first | exact Or.inl (by walk_at "look") | exact Or.inr (by walk_at "look"))))
local macro_rules | `(tactic| walk_at "step") => `(tactic| ((with_reducible apply iLenT); (· walk_at "look")))
local macro_rules | `(tactic| walk_at "step") => `(tactic| ((with_reducible apply iIsi); (· first | exact tyN_int | exact tyN_bl | exact tyN_non | exact tyN_str | exact tyN_lst (by walk_at "look") | exact tyN_tup (by walk_at "look")); (· (first | exact kb_NoneType_bool | exact kb_NoneType_int | exact kb_NoneType_str | exact kb_NoneType_tuple | exact kb_NoneType_list | exact kb_bool_bool | exact kb_bool_int | exact kb_bool_str | exact kb_bool_tuple | exact kb_bool_list | exact kb_int_bool | exact kb_int_int | exact kb_int_str | exact kb_int_tuple | exact kb_int_list | exact kb_str_bool | exact kb_str_int | exact kb_str_str | exact kb_str_tuple | exact kb_str_list | exact kb_tuple_bool | exact kb_tuple_int | exact kb_tuple_str | exact kb_tuple_tuple | exact kb_tuple_list | exact kb_list_bool | exact kb_list_int | exact kb_list_str | exact kb_list_tuple | exact kb_list_list))))
local macro_rules | `(tactic| walk_at "step") => `(tactic| ((with_reducible apply iIxT); (· walk_at "look"); (· rfl)))
local macro_rules | `(tactic| walk_at "step") => `(tactic| ((with_reducible apply iSetL); (· walk_at "look"); (· rfl)))
local macro_rules | `(tactic| walk_at "step") => `(tactic| ((with_reducible apply iLenL); (· walk_at "look")))
local macro_rules | `(tactic| walk_at "step") => `(tactic| ((with_reducible apply iIxL); (· walk_at "look"); (· rfl)))
local macro_rules | `(tactic| walk_at "step") => `(tactic| ((with_reducible apply iI); rotate_left; (· (first | (exact Or.inl ⟨by omega, by omega⟩) | (exact Or.inr ⟨by omega, by omega⟩) | (show (0:Int) < _; omega) | (show (0:Int) ≤ _; omega) | (exact ⟨by omega, by omega⟩) | (exact ⟨by decide, by decide, by decide⟩)))))
local macro_rules | `(tactic| walk_at "step") => `(tactic| ((with_reducible apply iAugK); (· rfl)))
local macro_rules | `(tactic| walk_at "step") => `(tactic| ((with_reducible apply iRngI); (· first | decide | omega); (· first | decide | omega)))
local macro_rules | `(tactic| walk_at "step") => `(tactic| (with_reducible refine iDEa ?_))
local macro_rules | `(tactic| walk_at "step") => `(tactic| (with_reducible refine iGNil ?_))
local macro_rules | `(tactic| walk_at "step") => `(tactic| (with_reducible refine iGCons ?_))
local macro_rules | `(tactic| walk_at "step") => `(tactic| (with_reducible refine iZipK ?_))
local macro_rules | `(tactic| walk_at "step") => `(tactic| (with_reducible refine iRng2 ?_))
local macro_rules | `(tactic| walk_at "step") => `(tactic| (with_reducible refine iDPut ?_))
local macro_rules | `(tactic| walk_at "step") => `(tactic| (with_reducible refine iDNotIn ?_))
local macro_rules | `(tactic| walk_at "step") => `(tactic| (with_reducible refine iDIn ?_))
local macro_rules | `(tactic| walk_at "step") => `(tactic| (with_reducible refine iDGet ?_))
local macro_rules | `(tactic| walk_at "step") => `(tactic| (with_reducible refine iYes ?_))
local macro_rules | `(tactic| walk_at "step") => `(tactic| (with_reducible refine iLc ?_))
local macro_rules | `(tactic| walk_at "step") => `(tactic| (with_reducible refine iNeS ?_))
local macro_rules | `(tactic| walk_at "step") => `(tactic| (with_reducible refine iEqS ?_))
local macro_rules | `(tactic| walk_at "step") => `(tactic| (with_reducible refine iNeB ?_))
local macro_rules | `(tactic| walk_at "step") => `(tactic| (with_reducible refine iEqB ?_))
local macro_rules | `(tactic| walk_at "step") => `(tactic| (with_reducible refine iCont ?_))
local macro_rules | `(tactic| walk_at "step") => `(tactic| (with_reducible refine iBreak ?_))
local macro_rules | `(tactic| walk_at "step") => `(tactic| (with_reducible refine iIterL ?_))
local macro_rules | `(tactic| walk_at "step") => `(tactic| (with_reducible refine iTup ?_))
local macro_rules | `(tactic| walk_at "step") => `(tactic| (with_reducible refine iLst ?_))
local macro_rules | `(tactic| walk_at "step") => `(tactic| (with_reducible refine iSub ?_))
local macro_rules | `(tactic| walk_at "step") => `(tactic| (with_reducible refine iIpI ?_))
local macro_rules | `(tactic| walk_at "step") => `(tactic| (with_reducible refine iAugS ?_))
local macro_rules | `(tactic| walk_at "step") => `(tactic| (with_reducible refine iNotV ?_))
local macro_rules | `(tactic| walk_at "step") => `(tactic| (with_reducible refine iOrV ?_))
local macro_rules | `(tactic| walk_at "step") => `(tactic| (with_reducible refine iAndV ?_))
local macro_rules | `(tactic| walk_at "step") => `(tactic| (with_reducible refine iDGet1 ?_))
local macro_rules | `(tactic| walk_at "step") => `(tactic| (with_reducible refine iNotBl ?_))
local macro_rules | `(tactic| walk_at "step") => `(tactic| (with_reducible refine iIsB ?_))
local macro_rules | `(tactic| walk_at "step") => `(tactic| (with_reducible refine iIntB ?_))
local macro_rules | `(tactic| walk_at "step") => `(tactic| (with_reducible refine iPn ?_))
local macro_rules | `(tactic| walk_at "step") => `(tactic| (with_reducible refine iPr ?_))
local macro_rules | `(tactic| walk_at "step") => `(tactic| (with_reducible refine iRai ?_))
local macro_rules | `(tactic| walk_at "step") => `(tactic| (with_reducible refine iRev1 ?_))
local macro_rules | `(tactic| walk_at "step") => `(tactic| (with_reducible refine iBM ?_))
local macro_rules | `(tactic| walk_at "step") => `(tactic| (with_reducible refine iAugF ?_))
local macro_rules | `(tactic| walk_at "step") => `(tactic| (with_reducible refine iSto ?_))
local macro_rules | `(tactic| walk_at "step") => `(tactic| (with_reducible refine iFld ?_))
local macro_rules | `(tactic| walk_at "step") => `(tactic| (with_reducible refine iMakS ?_))
local macro_rules | `(tactic| walk_at "step") => `(tactic| (with_reducible refine iMak ?_))
local macro_rules | `(tactic| walk_at "step") => `(tactic| (with_reducible refine iMet ?_))
local macro_rules | `(tactic| walk_at "step") => `(tactic| (with_reducible refine iCalE ?_))
local macro_rules | `(tactic| walk_at "step") => `(tactic| (with_reducible refine ifDr ?_))
local macro_rules | `(tactic| walk_at "step") => `(tactic| (with_reducible refine ifNDr ?_))
local macro_rules | `(tactic| walk_at "step") => `(tactic| (with_reducible refine iTruI ?_))
local macro_rules | `(tactic| walk_at "step") => `(tactic| (with_reducible refine iNotN ?_))
local macro_rules | `(tactic| walk_at "step") => `(tactic| (with_reducible refine iIsN ?_))
local macro_rules | `(tactic| walk_at "step") => `(tactic| (with_reducible refine iRetN ?_))
local macro_rules | `(tactic| walk_at "step") => `(tactic| (with_reducible refine iU ?_))
local macro_rules | `(tactic| walk_at "step") => `(tactic| (with_reducible refine iUn ?_))
local macro_rules | `(tactic| walk_at "step") => `(tactic| (with_reducible refine iChain ?_))
local macro_rules | `(tactic| walk_at "step") => `(tactic| (with_reducible refine iIf ?_))
local macro_rules | `(tactic| walk_at "step") => `(tactic| (with_reducible refine iB ?_))
local macro_rules | `(tactic| walk_at "step") => `(tactic| (with_reducible refine iNot ?_))
local macro_rules | `(tactic| walk_at "step") => `(tactic| (with_reducible refine iOr ?_))
local macro_rules | `(tactic| walk_at "step") => `(tactic| (with_reducible refine iAnd ?_))
local macro_rules | `(tactic| walk_at "step") => `(tactic| (with_reducible refine iCal ?_))
local macro_rules | `(tactic| walk_at "step") => `(tactic| (with_reducible refine iRng ?_))
local macro_rules | `(tactic| walk_at "step") => `(tactic| (with_reducible refine iFor ?_))
local macro_rules | `(tactic| walk_at "step") => `(tactic| (with_reducible refine iInt ?_))
local macro_rules | `(tactic| walk_at "step") => `(tactic| (with_reducible refine iNeI ?_))
local macro_rules | `(tactic| walk_at "step") => `(tactic| (with_reducible refine iEqI ?_))
local macro_rules | `(tactic| walk_at "step") => `(tactic| (with_reducible refine iDrop ?_))
local macro_rules | `(tactic| walk_at "step") => `(tactic| (with_reducible refine iNext ?_))
local macro_rules | `(tactic| walk_at "step") => `(tactic| (with_reducible refine iRet ?_))
local macro_rules | `(tactic| walk_at "step") => `(tactic| (with_reducible refine iBl ?_))
local macro_rules | `(tactic| walk_at "step") => `(tactic| (with_reducible refine iTest ?_))
local macro_rules | `(tactic| walk_at "step") => `(tactic| (with_reducible refine iIfS ?_))
local macro_rules | `(tactic| walk_at "step") => `(tactic| (with_reducible refine iCB ?_))
local macro_rules | `(tactic| walk_at "step") => `(tactic| (with_reducible refine iNil ?_))
local macro_rules | `(tactic| walk_at "step") => `(tactic| (with_reducible refine iCons ?_))
local macro_rules | `(tactic| walk_at "step") => `(tactic| (with_reducible refine iI0 ?_))
local macro_rules | `(tactic| walk_at "step") => `(tactic| (with_reducible refine iOp ?_))
local macro_rules | `(tactic| walk_at "step") => `(tactic| (with_reducible refine iC ?_))
local macro_rules | `(tactic| walk_at "step") => `(tactic| ((with_reducible apply iVar); (· rfl)))
local macro_rules | `(tactic| walk_at "step") => `(tactic| ((with_reducible apply iName); (· repeat constructor)))
local macro_rules | `(tactic| walk_at "step") => `(tactic| (with_reducible refine iAsg ?_))
local macro_rules | `(tactic| walk_at "step") => `(tactic| (with_reducible refine iSeq ?_))
local macro_rules | `(tactic| walk_at "step") => `(tactic| ((with_reducible apply iMe_Disks__empty); (· walk_at "look")))
local macro_rules | `(tactic| walk_at "step") => `(tactic| ((with_reducible apply iMe_Disks__settle); (· walk_at "look")))
local macro_rules | `(tactic| walk_at "step") => `(tactic| ((with_reducible apply iMe_Disks__fail); (· walk_at "look")))
local macro_rules | `(tactic| walk_at "step") => `(tactic| ((with_reducible apply iMe_Disks__operate); (· walk_at "look")))
local macro_rules | `(tactic| walk_at "step") => `(tactic| ((with_reducible apply iMe_Disks_power); (· walk_at "look")))
local macro_rules | `(tactic| walk_at "step") => `(tactic| ((with_reducible apply iMe_Disks_fail_after); (· walk_at "look")))
local macro_rules | `(tactic| walk_at "step") => `(tactic| ((with_reducible apply iMe_Disks_blank); (· walk_at "look")))
local macro_rules | `(tactic| walk_at "step") => `(tactic| ((with_reducible apply iMe_Disks_away); (· walk_at "look")))
local macro_rules | `(tactic| walk_at "step") => `(tactic| ((with_reducible apply iMe_Disks_bad); (· walk_at "look")))
local macro_rules | `(tactic| walk_at "step") => `(tactic| ((with_reducible apply iMe_Disks_rot); (· walk_at "look")))
local macro_rules | `(tactic| walk_at "step") => `(tactic| ((with_reducible apply iMe_Disks_sync); (· walk_at "look")))
local macro_rules | `(tactic| walk_at "step") => `(tactic| ((with_reducible apply iMe_Disks_write); (· walk_at "look")))
local macro_rules | `(tactic| walk_at "step") => `(tactic| ((with_reducible apply iMe_Disks_ask); (· walk_at "look")))
local macro_rules | `(tactic| walk_at "step") => `(tactic| ((with_reducible apply iMe_Disks_pending); (· walk_at "look")))
local macro_rules | `(tactic| walk_at "step") => `(tactic| ((with_reducible apply iMe_Disks_cell); (· walk_at "look")))
local macro_rules | `(tactic| walk_at "step") => `(tactic| ((with_reducible apply iMe_Disks_is_there); (· walk_at "look")))
local macro_rules | `(tactic| walk_at "step") => `(tactic| ((with_reducible apply iMe_Disks_losses); (· walk_at "look")))
local macro_rules | `(tactic| walk_at "step") => `(tactic| ((with_reducible apply iMe_Disks_is_on); (· walk_at "look")))
local macro_rules | `(tactic| walk_at "step") => `(tactic| ((with_reducible apply iMe_Disks_counts); (· walk_at "look")))
local macro_rules | `(tactic| walk_at "step") => `(tactic| ((with_reducible apply iMe_Disks_sizes); (· walk_at "look")))
local macro_rules | `(tactic| walk_at "step") => `(tactic| ((with_reducible apply iP_Disks__syncs); (· assumption); (· walk_at "look"); (· rfl); (· repeat constructor)))
local macro_rules | `(tactic| walk_at "step") => `(tactic| ((with_reducible apply iN_Disks__syncs); (· assumption); (· walk_at "look"); (· rfl)))
local macro_rules | `(tactic| walk_at "step") => `(tactic| ((with_reducible apply iS_Disks__syncs); (· assumption); (· walk_at "look"); (· repeat constructor)))
local macro_rules | `(tactic| walk_at "step") => `(tactic| ((with_reducible apply iF_Disks__syncs); (· assumption); (· walk_at "look"); (· rfl)))
local macro_rules | `(tactic| walk_at "step") => `(tactic| ((with_reducible apply iP_Disks__writes); (· assumption); (· walk_at "look"); (· rfl); (· repeat constructor)))
local macro_rules | `(tactic| walk_at "step") => `(tactic| ((with_reducible apply iN_Disks__writes); (· assumption); (· walk_at "look"); (· rfl)))
local macro_rules | `(tactic| walk_at "step") => `(tactic| ((with_reducible apply iS_Disks__writes); (· assumption); (· walk_at "look"); (· repeat constructor)))
local macro_rules | `(tactic| walk_at "step") => `(tactic| ((with_reducible apply iF_Disks__writes); (· assumption); (· walk_at "look"); (· rfl)))
local macro_rules | `(tactic| walk_at "step") => `(tactic| ((with_reducible apply iP_Disks__reads); (· assumption); (· walk_at "look"); (· rfl); (· repeat constructor)))
local macro_rules | `(tactic| walk_at "step") => `(tactic| ((with_reducible apply iN_Disks__reads); (· assumption); (· walk_at "look"); (· rfl)))
local macro_rules | `(tactic| walk_at "step") => `(tactic| ((with_reducible apply iS_Disks__reads); (· assumption); (· walk_at "look"); (· repeat constructor)))
local macro_rules | `(tactic| walk_at "step") => `(tactic| ((with_reducible apply iF_Disks__reads); (· assumption); (· walk_at "look"); (· rfl)))
local macro_rules | `(tactic| walk_at "step") => `(tactic| ((with_reducible apply iP_Disks__failures); (· assumption); (· walk_at "look"); (· rfl); (· repeat constructor)))
local macro_rules | `(tactic| walk_at "step") => `(tactic| ((with_reducible apply iN_Disks__failures); (· assumption); (· walk_at "look"); (· rfl)))
local macro_rules | `(tactic| walk_at "step") => `(tactic| ((with_reducible apply iS_Disks__failures); (· assumption); (· walk_at "look"); (· repeat constructor)))
local macro_rules | `(tactic| walk_at "step") => `(tactic| ((with_reducible apply iF_Disks__failures); (· assumption); (· walk_at "look"); (· rfl)))
local macro_rules | `(tactic| walk_at "step") => `(tactic| ((with_reducible apply iM_Disks__left); (· assumption); (· walk_at "look"); (· rfl); (· repeat constructor)))
local macro_rules | `(tactic| walk_at "step") => `(tactic| ((with_reducible apply iN_Disks__left); (· assumption); (· walk_at "look"); (· rfl)))
local macro_rules | `(tactic| walk_at "step") => `(tactic| ((with_reducible apply iS_Disks__left); (· assumption); (· walk_at "look"); (· repeat constructor)))
local macro_rules | `(tactic| walk_at "step") => `(tactic| ((with_reducible apply iF_Disks__left); (· assumption); (· walk_at "look"); (· rfl)))
local macro_rules | `(tactic| walk_at "step") => `(tactic| ((with_reducible apply iN_Disks__on); (· assumption); (· walk_at "look"); (· rfl)))
local macro_rules | `(tactic| walk_at "step") => `(tactic| ((with_reducible apply iS_Disks__on); (· assumption); (· walk_at "look"); (· repeat constructor)))
local macro_rules | `(tactic| walk_at "step") => `(tactic| ((with_reducible apply iF_Disks__on); (· assumption); (· walk_at "look"); (· rfl)))
local macro_rules | `(tactic| walk_at "step") => `(tactic| ((with_reducible apply iN_Disks__waiting); (· assumption); (· walk_at "look"); (· rfl)))
local macro_rules | `(tactic| walk_at "step") => `(tactic| ((with_reducible apply iS_Disks__waiting); (· assumption); (· walk_at "look"); (· repeat constructor)))
local macro_rules | `(tactic| walk_at "step") => `(tactic| ((with_reducible apply iF_Disks__waiting); (· assumption); (· walk_at "look"); (· rfl)))
local macro_rules | `(tactic| walk_at "step") => `(tactic| ((with_reducible apply iN_Disks__media); (· assumption); (· walk_at "look"); (· rfl)))
local macro_rules | `(tactic| walk_at "step") => `(tactic| ((with_reducible apply iS_Disks__media); (· assumption); (· walk_at "look"); (· repeat constructor)))
local macro_rules | `(tactic| walk_at "step") => `(tactic| ((with_reducible apply iF_Disks__media); (· assumption); (· walk_at "look"); (· rfl)))
local macro_rules | `(tactic| walk_at "step") => `(tactic| ((with_reducible apply iN_Disks__there); (· assumption); (· walk_at "look"); (· rfl)))
local macro_rules | `(tactic| walk_at "step") => `(tactic| ((with_reducible apply iS_Disks__there); (· assumption); (· walk_at "look"); (· repeat constructor)))
local macro_rules | `(tactic| walk_at "step") => `(tactic| ((with_reducible apply iF_Disks__there); (· assumption); (· walk_at "look"); (· rfl)))
local macro_rules | `(tactic| walk_at "step") => `(tactic| ((with_reducible apply iN_Disks__sizes); (· assumption); (· walk_at "look"); (· rfl)))
local macro_rules | `(tactic| walk_at "step") => `(tactic| ((with_reducible apply iS_Disks__sizes); (· assumption); (· walk_at "look"); (· repeat constructor)))
local macro_rules | `(tactic| walk_at "step") => `(tactic| ((with_reducible apply iF_Disks__sizes); (· assumption); (· walk_at "look"); (· rfl)))
local macro_rules | `(tactic| walk_at "step") => `(tactic| ((with_reducible apply iN_Disks_scrub_place); (· assumption); (· walk_at "look"); (· rfl)))
local macro_rules | `(tactic| walk_at "step") => `(tactic| ((with_reducible apply iS_Disks_scrub_place); (· assumption); (· walk_at "look"); (· repeat constructor)))
local macro_rules | `(tactic| walk_at "step") => `(tactic| ((with_reducible apply iF_Disks_scrub_place); (· assumption); (· walk_at "look"); (· rfl)))
local macro_rules | `(tactic| walk_at "step") => `(tactic| ((with_reducible apply iN_Disks_formatted); (· assumption); (· walk_at "look"); (· rfl)))
local macro_rules | `(tactic| walk_at "step") => `(tactic| ((with_reducible apply iS_Disks_formatted); (· assumption); (· walk_at "look"); (· repeat constructor)))
local macro_rules | `(tactic| walk_at "step") => `(tactic| ((with_reducible apply iF_Disks_formatted); (· assumption); (· walk_at "look"); (· rfl)))
local macro_rules | `(tactic| walk_at "step") => `(tactic| ((with_reducible apply iN_Disks_in_use); (· assumption); (· walk_at "look"); (· rfl)))
local macro_rules | `(tactic| walk_at "step") => `(tactic| ((with_reducible apply iS_Disks_in_use); (· assumption); (· walk_at "look"); (· repeat constructor)))
local macro_rules | `(tactic| walk_at "step") => `(tactic| ((with_reducible apply iF_Disks_in_use); (· assumption); (· walk_at "look"); (· rfl)))
local macro_rules | `(tactic| walk_at "go") => `(tactic| (repeat walk_at "step"))
section
variable {P : Program} {w : World} {K : PySem.W.Frag} {mg : Str → Option Value} {base : Heap}
theorem okH_is_on {C : Addr} (M : Mg mg) (T : Tx_Disks K C) {f : Addr} {fd : FuncData} (F : Fun K "is_on" "Disks.is_on" s_Disks_is_on f fd) : FnH P w K mg base (L2.CX P w) 1 f fd ["self"] (sp_is_on C) := by
  refine okH F sc_Disks_is_on (fun vs H Q E h => ?_) (fun cdv A outer s H vs Q E pe hot hr h => ?_)
  · obtain ⟨F, Rs, L, D, rfl, _⟩ := h; rfl
  · obtain ⟨F, Rs, L, D, rfl, D0, q⟩ := h
    obtain ⟨dx, szs, hO, -⟩ := D0.obj
    refine ⟨_, (pss_one (ps_ret (pe_fld (pv 0) rfl))), ?_⟩
    refine iBody (by repeat constructor) ?_
    walk_at "go"
    exact q
theorem okH_losses {C : Addr} (M : Mg mg) (T : Tx_Disks K C) {f : Addr} {fd : FuncData} (F : Fun K "losses" "Disks.losses" s_Disks_losses f fd) : FnH P w K mg base (L2.CX P w) 1 f fd ["self"] (sp_losses C) := by
  refine okH F sc_Disks_losses (fun vs H Q E h => ?_) (fun cdv A outer s H vs Q E pe hot hr h => ?_)
  · obtain ⟨F, Rs, L, D, rfl, _⟩ := h; rfl
  · obtain ⟨F, Rs, L, D, rfl, D0, q⟩ := h
    obtain ⟨dx, szs, hO, -⟩ := D0.obj
    refine ⟨_, (pss_one (ps_ret (pe_fld (pv 0) rfl))), ?_⟩
    refine iBody (by repeat constructor) ?_
    walk_at "go"
    exact q
theorem okH_counts {C : Addr} (M : Mg mg) (T : Tx_Disks K C) {f : Addr} {fd : FuncData} (F : Fun K "counts" "Disks.counts" s_Disks_counts f fd) : FnH P w K mg base (L2.CX P w) 1 f fd ["self"] (sp_counts C) := by
  refine okH F sc_Disks_counts (fun vs H Q E h => ?_) (fun cdv A outer s H vs Q E pe hot hr h => ?_)
  · obtain ⟨F, Rs, L, D, rfl, _⟩ := h; rfl
  · obtain ⟨F, Rs, L, D, rfl, D0, q⟩ := h
    obtain ⟨dx, szs, hO, -⟩ := D0.obj
    refine ⟨_, (pss_one (ps_ret (pe_tup (pa_cons (pe_fld (pv 0) rfl) (pa_cons (pe_fld (pv 0) rfl) (pa_cons (pe_fld (pv 0) rfl) pa_nil)))))), ?_⟩
    refine iBody (by repeat constructor) ?_
    walk_at "go"
    refine iNewT (by simp) fun p hp => ?_
    exact q p hp
theorem okH_fail {C : Addr} (M : Mg mg) (T : Tx_Disks K C) {f : Addr} {fd : FuncData} (F : Fun K "_fail" "Disks._fail" s_Disks__fail f fd) : FnH P w K mg base (L2.CX P w) 1 f fd ["self"] (sp_fail C) := by
  refine okH F sc_Disks__fail (fun vs H Q E h => ?_) (fun cdv A outer s H vs Q E pe hot hr h => ?_)
  · obtain ⟨F, Rs, L, D, rfl, _⟩ := h; rfl
  · obtain ⟨F, Rs, L, D, rfl, ⟨dx, szs, cm, cw, h⟩, q⟩ := h
    have hO := h.hO
    refine ⟨_, (pss_cons (ps_fld (pv 0) pe_bl rfl) (pss_cons (ps_fld (pv 0) pe_non rfl) (pss_cons (ps_fldaug (pv 0) pe_int in_add) (pss_one (ps_fld (pv 0) pe_bl rfl))))), ?_⟩
    refine iBody (by repeat constructor) ?_
    walk_at "go"
    rw [upd_upd, upd_upd, upd_upd]
    exact q _ (h.fields (D' := D.fail) rfl rfl rfl rfl rfl rfl rfl).at_
theorem okH_operate {C CP : Addr} (M : Mg mg) (T : Tx_Disks K C) (e_PowerOff : ExT K mg "PowerOff" CP) {f : Addr} {fd : FuncData} (F : Fun K "_operate" "Disks._operate" s_Disks__operate f fd) (c_Disks__fail : MetH P w K mg base 1 C "_fail" ["self"] (sp_fail C)) : FnH P w K mg base (L2.CX P w) 2 f fd ["self"] (sp_operate C CP) := by
  refine okH F sc_Disks__operate (fun vs H Q E h => ?_) (fun cdv A outer s H vs Q E pe hot hr h => ?_)
  · obtain ⟨F, Rs, L, D, rfl, _⟩ := h; rfl
  · obtain ⟨F, Rs, L, D, rfl, D0, q1, q2, q3⟩ := h
    have D1 := D0
    obtain ⟨dx, szs, cm, cw, h⟩ := D0
    have hO := h.hO
    refine ⟨_, (pss_cons (ps_if (pt_not (pt_val (pe_fld (pv 0) rfl))) (pss_one (ps_raiH e_PowerOff ⟨pe, hot, List.mem_singleton.mpr rfl⟩ (takes_of rfl rfl rfl rfl))) pss_nil) (pss_cons (ps_if (pt_cmpR op_eq (pe_fld (pv 0) rfl) pe_int (nomark _)) (pss_cons (ps_expr (pe_metH0 c_Disks__fail (hr.mono (by omega)) ⟨pe, hot, List.mem_singleton.mpr rfl⟩ (xpX (takes_of rfl rfl rfl rfl)) (pv 0))) (pss_one (ps_raiH e_PowerOff ⟨pe, hot, List.mem_singleton.mpr rfl⟩ (takes_of rfl rfl rfl rfl)))) pss_nil) (pss_one (ps_if (pt_cmpR op_notN1 (pe_fld (pv 0) rfl) pe_non (nomark _)) (pss_one (ps_fldaug (pv 0) pe_int in_sub)) pss_nil)))), ?_⟩
    refine iBody (by repeat constructor) ?_
    walk_at "go"
    cases eo : D.on with
    | false =>
      walk_at "go"
      exact q1 eo
    | true =>
      walk_at "go"
      have hO : H (L DL.obj) = some (HO.ins C dx (NMD.zip [.bl D.inuse, .bl D.formatted, .int D.scrub, .ref szs, .ref (L .there), .ref (L .media), .ref (L .wait), .bl D.on, leftV D.left, .int (D.fails : Nat), .int (D.reads : Nat), .int (D.writes : Nat), .int (D.syncs : Nat)])) := hO
      cases el : D.left with
      | none =>
        rw [el] at hO
        have hO : H (L DL.obj) = some (HO.ins C dx (NMD.zip [.bl D.inuse, .bl D.formatted, .int D.scrub, .ref szs, .ref (L .there), .ref (L .media), .ref (L .wait), .bl D.on, .non, .int (D.fails : Nat), .int (D.reads : Nat), .int (D.writes : Nat), .int (D.syncs : Nat)])) := hO
        refine iEqZ rfl ?_
        walk_at "go"
        have e : D.tick = D := by cases D; simp only at el; subst el; rfl
        exact q3 eo (by rw [el]; intro z; cases z) _ (e.symm ▸ D1)
      | some i =>
        rw [el] at hO
        have hO : H (L DL.obj) = some (HO.ins C dx (NMD.zip [.bl D.inuse, .bl D.formatted, .int D.scrub, .ref szs, .ref (L .there), .ref (L .media), .ref (L .wait), .bl D.on, .int (i : Nat), .int (D.fails : Nat), .int (D.reads : Nat), .int (D.writes : Nat), .int (D.syncs : Nat)])) := hO
        show rEq (.int (i : Nat)) _ _ _
        walk_at "go"
        refine ifD (fun e => ?_) (fun e => ?_)
        · walk_at "go"
          refine ⟨F, Rs, L, D, rfl, D1, fun H' D2 => ?_⟩
          walk_at "go"
          exact q2 eo (by rw [el, show i = 0 by omega]) _ D2
        · walk_at "go"
          have D2 := h.fields (D' := D.tick) rfl rfl rfl rfl rfl rfl rfl
          have e1 : (V.int ((i : Nat) - 1 : Int)) = leftV D.tick.left := by
            show _ = leftV (D.left.map (· - 1))
            rw [el]
            show V.int _ = V.int ((i - 1 : Nat) : Int)
            congr 1
            omega
          rw [e1]
          exact q3 eo (by rw [el]; intro z; cases z; omega) _ D2.at_
theorem okH_write {C CP : Addr} (M : Mg mg) (T : Tx_Disks K C) {f : Addr} {fd : FuncData} (F : Fun K "write" "Disks.write" s_Disks_write f fd) (c_Disks__operate : MetH P w K mg base 2 C "_operate" ["self"] (sp_operate C CP)) : FnH P w K mg base (L2.CX P w) 3 f fd ["self", "disk", "sector", "data"] (sp_write C CP) := by
  refine okH F sc_Disks_write (fun vs H Q E h => ?_) (fun cdv A outer s H vs Q E pe hot hr h => ?_)
  · obtain ⟨F, Rs, L, D, d, j, p, x, rfl, _⟩ := h; rfl
  · obtain ⟨F, Rs, L, D, d, j, p, x, rfl, D0, hd, hj, hp, hz, q1, q2, q3⟩ := h
    have hO : ∃ dx szs, H (L .obj) = some (.ins C dx (NMD.zip (flds szs L D))) := by
      obtain ⟨dx, szs, cm, cw, h⟩ := D0
      exact ⟨dx, szs, h.hO⟩
    obtain ⟨dx, szs, hO⟩ := hO
    refine ⟨_, (pss_cons (ps_expr (pe_metH0 c_Disks__operate (hr.mono (by omega)) ⟨pe, hot, List.mem_singleton.mpr rfl⟩ (xpX (takes_of rfl rfl rfl rfl)) (pv 0))) (pss_one (ps_if (pt_val (pe_ix ix_l (pe_fld (pv 0) rfl) (pv 1) (fun _ _ => rfl))) (pss_cons (ps_fldaug (pv 0) pe_int in_add) (pss_one (ps_expr (pe_bmE PySem.F.slot_list_append PySem.F.type_list_append mt_append (pe_ix ix_l (pe_fld (pv 0) rfl) (pv 1) (fun _ _ => rfl)) (pa_cons (pe_tup (pa_cons (pv 2) (pa_cons (pe_callTy list_l (by rfl) M.n_list (by decide +kernel) (pa_cons (pv 3) pa_nil)) pa_nil))) pa_nil))))) pss_nil))), ?_⟩
    refine iBody (by repeat constructor) ?_
    walk_at "go"
    refine j_operate D0 q1 q2 fun on1 l1 H1 D1 => ?_
    clear hO
    have e : D.write d j x = if D.there d = true then { D.tick with writes := D.writes + 1, wait := fun e => if e = d then D.wait e ++ [(j, x)] else D.wait e } else D.tick := rfl
    have D2 := D1
    obtain ⟨dx, szs, cm, cw, h⟩ := D1
    have hO := h.hO
    have hT := h.hT
    have et' : D.tick.there d = D.there d := rfl
    walk_at "go"
    refine iIxL hT ((atI_natL _ _).trans (theL_get hd)) ?_
    rw [et']
    walk_at "go"
    cases et : D.there d with
    | false =>
      walk_at "go"
      exact q3 on1 l1 _ F (Ex.refl _) (by rw [e, et]; exact D2)
    | true =>
      walk_at "go"
      have h3 := h.fields (D' := { D.tick with writes := D.writes + 1 }) rfl rfl rfl rfl rfl rfl rfl
      have e2 : flds szs L { D.tick with writes := D.writes + 1 } = [.bl D.inuse, .bl D.formatted, .int D.scrub, .ref szs, .ref (L .there), .ref (L .media), .ref (L .wait), .bl D.on, leftV D.tick.left, .int (D.fails : Nat), .int (D.reads : Nat), .int ((D.writes : Int) + 1), .int (D.syncs : Nat)] := rfl
      rw [e2] at h3
      have hO3 := h3.hO
      have hW3 := h3.hW
      have hw3 := h3.hw (d := d) hd
      have hp3 := h3.own.r _ _ hp
      have hl3 := (h3.wai d hd).len
      generalize hH3 : upd H1 (L DL.obj) _ = H3 at hO3 hW3 hw3 hp3 h3
      rw [show (upd H1 (L DL.obj) (HO.ins C dx (List.zip NMD [V.bl D.tick.inuse, V.bl D.tick.formatted, V.int D.tick.scrub, V.ref szs, V.ref (L DL.there), V.ref (L DL.media), V.ref (L DL.wait), V.bl D.tick.on, leftV D.tick.left, V.int (D.tick.fails : Nat), V.int (D.tick.reads : Nat), V.int ((D.tick.writes : Nat) + 1), V.int (D.tick.syncs : Nat)]))) = H3 from hH3]
      walk_at "go"
      refine iIxL hW3 ((atI_natL _ _).trans (waiL_get hd)) ?_
      refine iBMv hw3 ?_
      walk_at "go"
      refine iListL hp3 fun l hl => ?_
      walk_at "go"
      refine iNewT (by simp) fun t ht => ?_
      have h4 := (h3.newF hl).newF (o := .tup [.int (j : Nat), .ref l]) ht
      have nlt : t ≠ l := fun z => by rw [z, upd_same] at ht; cases ht
      walk_at "go"
      refine iApp (h4.hw (d := d) hd) (by rw [hl3]; have : (D.wait d).length < 90000 := hz; show (D.wait d).length < 100000; omega) ?_
      walk_at "go"
      have h5 := h4.addWait (d := d) (j := j) (x := x) hd hj upd_same ((upd_ne nlt.symm).trans upd_same)
      refine q3 on1 l1 _ _ ?_ (by rw [e, et]; exact h5.at_)
      have f1 := (h3.own.free hl).1
      have f2 := ((h3.newF hl (o := .lst x)).own.free ht).1
      exact (ex_new f1).trans (ex_new f2)

theorem okH_settle {C : Addr} (M : Mg mg) (T : Tx_Disks K C) {f : Addr} {fd : FuncData} (F : Fun K "_settle" "Disks._settle" s_Disks__settle f fd) : FnH P w K mg base (L2.CX P w) 1 f fd ["self", "disk", "kept"] (sp_settle C) := by
  refine okH F sc_Disks__settle (fun vs H Q E h => ?_) (fun cdv A outer s H vs Q E pe hot hr h => ?_)
  · obtain ⟨F, Rs, L, D, d, p, ks, rfl, _⟩ := h; rfl
  · obtain ⟨F, Rs, L, D, d, p, ks, rfl, ⟨dx, szs, cm, cw, h⟩, hd, hp, q⟩ := h
    have hO := h.hO
    have hW := h.hW
    have hM := h.hM
    have hw := h.hw hd
    have hpH := h.own.r _ _ hp
    have rw' := h.wai d hd
    refine ⟨_, (pss_cons (ps_set (i := 3) sc_Disks__settle.nd rfl (Or.inl rfl) (pe_ix ix_l (pe_fld (pv 0) rfl) (pv 1) (fun _ _ => rfl))) (pss_cons (ps_forH (passes_of rfl) ⟨pe, hot, List.mem_singleton.mpr rfl⟩ (pi_zipH (by rfl) M.n_zip (pa_cons (pe_ix ix_l (pe_fld (pv 0) rfl) (pv 1) (fun _ _ => rfl)) (pa_cons (pv 2) pa_nil))) (pg_tupH ⟨pe, hot, List.mem_singleton.mpr rfl⟩ (pgs_cons (pg_tupH ⟨pe, hot, List.mem_singleton.mpr rfl⟩ (pgs_cons (pg_name (i := 4) sc_Disks__settle.nd rfl (Or.inl rfl)) (pgs_cons (pg_name (i := 5) sc_Disks__settle.nd rfl (Or.inl rfl)) pgs_nil))) (pgs_cons (pg_name (i := 6) sc_Disks__settle.nd rfl (Or.inl rfl)) pgs_nil))) (pss_one (ps_if (pt_val (pv 6)) (pss_one (ps_asg (pv 5) (pg_sub (pv 3) (pv 4) set_list))) pss_nil))) (pss_one (ps_asg (pe_lst pa_nil) (pg_sub (pe_fld (pv 0) rfl) (pv 1) set_list))))), ?_⟩
    refine iBody (by repeat constructor) ?_
    walk_at "go"
    refine iIxL hM ((atI_natL _ _).trans (medL_get hd)) ?_
    walk_at "go"
    refine iIxL hW ((atI_natL _ _).trans (waiL_get hd)) ?_
    walk_at "go"
    refine forJ (walk_zip (xs := cw d) (ys := ks.map V.bl) rfl) (fun i σ' H' => (∃ x y z, σ' = [some (.ref (L .obj)), some (.int d), some (.ref p), some (.ref (L (.med d))), x, y, z]) ∧
      ∃ cm', DRep C dx szs H' F Rs L { D with media := fun e => if e = d then layW (D.media d) ((D.wait d).take i) (ks.take i) else D.media e } cm' cw) ?_ (fun i σ' H' hi hp' => ?_) (fun i x σ' H' H'' hi hp' hy => ?_) (fun σ' H' hp' => ?_)
    · refine ⟨⟨_, _, _, rfl⟩, cm, ?_⟩
      have e : (fun e => if e = d then layW (D.media d) ((D.wait d).take 0) (ks.take 0) else D.media e) = D.media := by
        funext e
        by_cases z : e = d
        · subst z; rw [if_pos rfl]; rfl
        · rw [if_neg z]
      rw [e]
      exact h
    · obtain ⟨_, cm', h'⟩ := hp'
      exact ⟨SqL.tr (h'.hw (d := d) hd), SqL.tr (h'.own.r _ _ hp)⟩
    · obtain ⟨⟨x1, x2, x3, rfl⟩, cm', h'⟩ := hp'
      obtain ⟨t, u, v, rfl, ht, rfl, hu, hv⟩ := hy
      obtain ⟨z, hz⟩ : ∃ z, (D.wait d)[i]? = some z := ⟨_, List.getElem?_eq_getElem (by have := (List.getElem?_eq_some_iff.mp hu).1; rw [← rw'.len]; exact this)⟩
      obtain ⟨hj, t2, p2, rfl, ht2, hp2⟩ := rw'.at_ _ _ _ hu hz
      have hv : (ks.map V.bl)[i]? = some v := hv
      rw [List.getElem?_map] at hv
      obtain ⟨b, hb, rfl⟩ : ∃ b, ks[i]? = some b ∧ v = V.bl b := by
        cases e : ks[i]? with
        | none => rw [e] at hv; cases hv
        | some b => rw [e] at hv; cases hv; exact ⟨b, rfl, rfl⟩
      have h2 := h'.new (o := .tup [.ref t2, .bl b]) ht
      have ht2' := h2.own.f _ _ ht2
      have hm2 := h2.hm (d := d) hd
      have l2 := (h2.med d hd).len
      walk_at "go"
      cases b with
      | true =>
        walk_at "go"
        refine iSetL hm2 (k := z.1) (by rw [ixN_natL, l2]; exact if_pos hj) ?_
        refine ⟨⟨_, _, _, rfl⟩, _, h2.setMed (d := d) (j := z.1) (v := .ref p2) (f := fun e => if e = d then layW (D.media d) ((D.wait d).take (i + 1)) (ks.take (i + 1)) else D.media e) hd ?_ (fun k hk => ?_) fun e he => ?_⟩
        · rw [if_pos rfl, layW_take hz hb]
          unfold step
          rw [if_pos rfl, if_pos rfl]
          exact ⟨p2, rfl, hp2⟩
        · show (if d = d then layW (D.media d) ((D.wait d).take (i + 1)) (ks.take (i + 1)) else D.media d) k = (if d = d then layW (D.media d) ((D.wait d).take i) (ks.take i) else D.media d) k
          rw [if_pos rfl, if_pos rfl, layW_take hz hb]
          unfold step
          rw [if_pos rfl, if_neg hk]
        · show (if e = d then _ else _) = (if e = d then _ else _)
          rw [if_neg he, if_neg he]
      | false =>
        walk_at "go"
        refine ⟨⟨_, _, _, rfl⟩, cm', ?_⟩
        have e : (fun e => if e = d then layW (D.media d) ((D.wait d).take (i + 1)) (ks.take (i + 1)) else D.media e) = (fun e => if e = d then layW (D.media d) ((D.wait d).take i) (ks.take i) else D.media e) := by
          funext e
          by_cases y : e = d
          · rw [if_pos y, if_pos y, layW_take hz hb]; rfl
          · rw [if_neg y, if_neg y]
        rw [e]
        exact h2
    · obtain ⟨⟨x1, x2, x3, rfl⟩, cm', h'⟩ := hp'
      rw [layW_all (by rw [List.length_map, rw'.len])] at h'
      have hO := h'.hO
      have hW := h'.hW
      walk_at "go"
      refine iNewL (by simp) fun t ht => ?_
      have h3 := h'.newWait (d := d) hd ht
      have fr := h'.own.free ht
      have n1 : L .obj ≠ t := fr.2.2 _ trivial
      have n2 : L .wait ≠ t := fr.2.2 _ trivial
      walk_at "go"
      refine iSetL ((upd_ne n2).trans hW) (k := d) (by rw [ixN_natL, waiL_len]; exact if_pos hd) ?_
      exact q _ _ (chg_ne (by intro z; cases z)) h3.at_
theorem okH_sync {C CP : Addr} (M : Mg mg) (T : Tx_Disks K C) {f : Addr} {fd : FuncData} (F : Fun K "sync" "Disks.sync" s_Disks_sync f fd) (c_Disks__operate : MetH P w K mg base 2 C "_operate" ["self"] (sp_operate C CP)) (c_Disks__settle : MetH P w K mg base 1 C "_settle" ["self", "disk", "kept"] (sp_settle C)) : FnH P w K mg base (L2.CX P w) 3 f fd ["self"] (sp_sync C CP) := by
  refine okH F sc_Disks_sync (fun vs H Q E h => ?_) (fun cdv A outer s H vs Q E pe hot hr h => ?_)
  · obtain ⟨F, Rs, L, D, rfl, _⟩ := h; rfl
  · obtain ⟨F, Rs, L, D, rfl, D0, hz, q1, q2, q3⟩ := h
    obtain ⟨dx, szs, hO, -⟩ := D0.obj
    refine ⟨_, (pss_cons (ps_expr (pe_metH0 c_Disks__operate (hr.mono (by omega)) ⟨pe, hot, List.mem_singleton.mpr rfl⟩ (xpX (takes_of rfl rfl rfl rfl)) (pv 0))) (pss_cons (ps_fldaug (pv 0) pe_int in_add) (pss_one (ps_forH (passes_of rfl) ⟨pe, hot, List.mem_singleton.mpr rfl⟩ (pi_range1H (by rfl) M.n_range (pa_cons (pe_ix ix_t (pe_fld (pv 0) rfl) pe_int (fun _ _ => rfl)) pa_nil)) (pg_name (i := 1) sc_Disks_sync.nd rfl (Or.inl rfl)) (pss_one (ps_expr (pe_metH c_Disks__settle (hr.mono (by omega)) ⟨pe, hot, List.mem_singleton.mpr rfl⟩ (xpX (takes_of rfl rfl rfl rfl)) (pv 0) (pa_cons (pv 1) (pa_cons (pe_op op_rep (pe_lst (pa_cons pe_bl pa_nil)) (pe_callB len_l (by rfl) M.n_len PySem.boot_len (pa_cons (pe_ix ix_l (pe_fld (pv 0) rfl) (pv 1) (fun _ _ => rfl)) pa_nil))) pa_nil))))))))), ?_⟩
    refine iBody (by repeat constructor) ?_
    walk_at "go"
    refine j_operate D0 q1 q2 fun on1 l1 H1 D1 => ?_
    clear hO
    have q4 := q3 on1 l1
    obtain ⟨dx, szs, cm, cw, h⟩ := D1
    have hO := h.hO
    walk_at "go"
    have h3 := h.fields (D' := { D.tick with syncs := D.syncs + 1 }) rfl rfl rfl rfl rfl rfl rfl
    have e2 : flds szs L { D.tick with syncs := D.syncs + 1 } = [.bl D.inuse, .bl D.formatted, .int D.scrub, .ref szs, .ref (L .there), .ref (L .media), .ref (L .wait), .bl D.on, leftV D.tick.left, .int (D.fails : Nat), .int (D.reads : Nat), .int (D.writes : Nat), .int ((D.syncs : Nat) + 1)] := rfl
    rw [e2] at h3
    rw [show (upd H1 (L DL.obj) (HO.ins C dx (List.zip NMD [V.bl D.tick.inuse, V.bl D.tick.formatted, V.int D.tick.scrub, V.ref szs, V.ref (L DL.there), V.ref (L DL.media), V.ref (L DL.wait), V.bl D.tick.on, leftV D.tick.left, V.int (D.tick.fails : Nat), V.int (D.tick.reads : Nat), V.int (D.tick.writes : Nat), V.int ((D.tick.syncs : Nat) + 1)]))) = upd H1 (L DL.obj) (HO.ins C dx (List.zip NMD [.bl D.inuse, .bl D.formatted, .int D.scrub, .ref szs, .ref (L .there), .ref (L .media), .ref (L .wait), .bl D.on, leftV D.tick.left, .int (D.fails : Nat), .int (D.reads : Nat), .int (D.writes : Nat), .int ((D.syncs : Nat) + 1)])) from rfl]
    generalize upd H1 (L DL.obj) _ = H3 at h3 ⊢
    have hO := h3.hO
    have hs := h3.hs
    have n8 := h3.n8
    walk_at "go"
    refine forJ_range0 (fun i σ' H' => (∃ x, σ' = [some (.ref (L .obj)), x]) ∧ ∃ L', L' .obj = L .obj ∧ DAt C H' F Rs L' (({ D.tick with syncs := D.syncs + 1 } : DK).settles (fun d => List.replicate (D.wait d).length true) i)) ⟨⟨_, rfl⟩, L, rfl, settles_zero.symm ▸ h3.at_⟩ (fun i σ' H' hi hp => ?_) (fun σ' H' hp => ?_)
    · rw [Int.toNat_natCast] at hi
      obtain ⟨⟨x1, rfl⟩, L', eL, D4⟩ := hp
      have D5 := D4
      obtain ⟨dx, szs, cm, cw, h4⟩ := D4
      rw [← eL]
      have hO := h4.hO
      have hW := h4.hW
      have hw := h4.hw (d := i) hi
      have lw := (h4.wai i hi).len
      have ew : (({ D.tick with syncs := D.syncs + 1 } : DK).settles (fun d => List.replicate (D.wait d).length true) i).wait i = D.wait i := by
        show (if i < i then [] else D.wait i) = D.wait i
        rw [if_neg (Nat.lt_irrefl i)]
      rw [ew] at lw
      have hzi := hz i hi
      walk_at "go"
      refine iNewL (by simp) fun t ht => ?_
      have n1 : L' .obj ≠ t := (h4.own.free ht).2.2 _ trivial
      have n2 : L' .wait ≠ t := (h4.own.free ht).2.2 _ trivial
      have n3 : L' (.wai i) ≠ t := (h4.own.free ht).2.2 _ hi
      walk_at "go"
      refine iIxL ((upd_ne n2).trans hW) ((atI_natL _ _).trans (waiL_get hi)) ?_
      walk_at "go"
      rw [lw]
      refine iRep upd_same (by omega) (by omega) (by simp; omega) fun u hu => ?_
      rw [Int.toNat_natCast, rep_true]
      walk_at "go"
      have D6 := (D5.ex (Evl.Ex.new ht)).newR (o := .lst ((List.replicate (D.wait i).length true).map V.bl)) hu
      refine j_settle D6 hi upd_same fun H6 L6 e6 D7 => ?_
      rw [settles_succ] at D7
      walk_at "go"
      refine ⟨⟨_, rfl⟩, L6, e6.trans rfl, D7.weak ?_⟩
      refine Evl.Ex.new ?_
      exact Evl.fresh_back (D5.ex (Evl.Ex.new ht)).rs hu
    · obtain ⟨⟨x1, rfl⟩, L', eL, D4⟩ := hp
      rw [Int.toNat_natCast] at D4
      walk_at "go"
      exact q4 _ _ eL D4

theorem okH_power {C : Addr} (M : Mg mg) (T : Tx_Disks K C) {f : Addr} {fd : FuncData} (F : Fun K "power" "Disks.power" s_Disks_power f fd) (c_Disks__fail : MetH P w K mg base 1 C "_fail" ["self"] (sp_fail C)) (c_Disks__settle : MetH P w K mg base 1 C "_settle" ["self", "disk", "kept"] (sp_settle C)) : FnH P w K mg base (L2.CX P w) 2 f fd ["self", "kept"] (sp_power C) := by
  refine okH F sc_Disks_power (fun vs H Q E h => ?_) (fun cdv A outer s H vs Q E pe hot hr h => ?_)
  · obtain ⟨F, Rs, L, D, p, ks, rfl, _⟩ := h; rfl
  · obtain ⟨F, Rs, L, D, p, ks, rfl, D0, ⟨xs, hxs, lxs, hk⟩, q⟩ := h
    obtain ⟨dx, szs, hO, -⟩ := D0.obj
    have n8 : D.n ≤ 8 := by obtain ⟨_, _, _, _, h⟩ := D0; exact h.n8
    refine ⟨_, (Evl.pss_cut (ps_if (pt_val (pe_fld (pv 0) rfl)) (pss_one (ps_expr (pe_metH0 c_Disks__fail (hr.mono (by omega)) ⟨pe, hot, List.mem_singleton.mpr rfl⟩ xp0 (pv 0)))) pss_nil) (pss_cons (ps_forH (passes_of rfl) ⟨pe, hot, List.mem_singleton.mpr rfl⟩ (pi_range1H (by rfl) M.n_range (pa_cons (pe_ix ix_t (pe_fld (pv 0) rfl) pe_int (fun _ _ => rfl)) pa_nil)) (pg_name (i := 2) sc_Disks_power.nd rfl (Or.inl rfl)) (pss_one (ps_expr (pe_metH c_Disks__settle (hr.mono (by omega)) ⟨pe, hot, List.mem_singleton.mpr rfl⟩ xp0 (pv 0) (pa_cons (pv 2) (pa_cons (pe_ifExp (pt_cmpR op_lt (pv 2) (pe_callB len_l (by rfl) M.n_len PySem.boot_len (pa_cons (pv 1) pa_nil)) (nomark _)) (pe_ix ix_l (pv 1) (pv 2) (fun _ _ => rfl)) (pe_lst pa_nil)) pa_nil)))))) (pss_one (ps_fld (pv 0) pe_bl rfl)))), ?_⟩
    refine iBody (by repeat constructor) ?_
    refine iCut2 (fun σ H1 => σ = [some (.ref (L .obj)), some (.ref p), none] ∧ DAt C H1 F Rs L (if D.on = true then D.fail else D)) ?_ ?_
    · walk_at "go"
      cases eo : D.on with
      | false =>
        walk_at "go"
        exact ⟨rfl, D0⟩
      | true =>
        walk_at "go"
        refine ⟨F, Rs, L, D, rfl, D0, fun H' D1 => ?_⟩
        walk_at "go"
        exact ⟨rfl, D1⟩
    · rintro σ H1 ⟨rfl, D1⟩
      have e1 : (if D.on = true then D.fail else D).n = D.n := by split <;> rfl
      have e2 : D.power (fun d => ks.getD d []) = { (if D.on = true then D.fail else D).settles (fun d => ks.getD d []) D.n with on := true } := rfl
      rw [e2] at q
      generalize (if D.on = true then D.fail else D) = D' at D1 q e1
      clear hO
      obtain ⟨dx, szs, hO, hs⟩ := D1.obj
      have n8' : D'.n ≤ 8 := by rw [e1]; exact n8
      walk_at "go"
      refine forJ_range0 (fun i σ' H' => (∃ x, σ' = [some (.ref (L .obj)), some (.ref p), x]) ∧ ∃ L', L' .obj = L .obj ∧ DAt C H' F Rs L' (D'.settles (fun d => ks.getD d []) i)) ⟨⟨_, rfl⟩, L, rfl, settles_zero.symm ▸ D1⟩ (fun i σ' H' hi hp => ?_) (fun σ' H' hp => ?_)
      · rw [Int.toNat_natCast] at hi
        obtain ⟨⟨x1, rfl⟩, L', eL, D4⟩ := hp
        rw [← eL]
        obtain ⟨dx, szs, hO, -⟩ := D4.obj
        have hx := D4.rs _ _ hxs
        walk_at "go"
        rw [lxs]
        refine ifD (fun hl => ?_) (fun hl => ?_)
        · have hl' : i < ks.length := by omega
          obtain ⟨v, hv⟩ : ∃ v, xs[i]? = some v := ⟨_, List.getElem?_eq_getElem (by omega)⟩
          obtain ⟨k, hk'⟩ : ∃ k, ks[i]? = some k := ⟨_, List.getElem?_eq_getElem hl'⟩
          obtain ⟨r, rfl, hr'⟩ := hk i v k hv hk'
          walk_at "go"
          refine iIxL hx ((atI_natL _ _).trans hv) ?_
          walk_at "go"
          refine j_settle D4 hi hr' fun H6 L6 e6 D7 => ?_
          have ek : k = ks.getD i [] := by rw [List.getD_eq_getElem?_getD, hk']; rfl
          rw [ek, settles_succ] at D7
          walk_at "go"
          exact ⟨⟨_, rfl⟩, L6, e6.trans rfl, D7⟩
        · walk_at "go"
          refine iNewL (by simp) fun t ht => ?_
          walk_at "go"
          have D6 := D4.newR (o := .lst (([] : List Bool).map V.bl)) ht
          refine j_settle D6 hi upd_same fun H6 L6 e6 D7 => ?_
          have ek : ([] : List Bool) = ks.getD i [] := by rw [List.getD_eq_getElem?_getD, List.getElem?_eq_none (by omega)]; rfl
          have e9 : (D'.settles (fun d => ks.getD d []) i).settle i [] = D'.settles (fun d => ks.getD d []) (i + 1) := (congrArg _ ek).trans settles_succ
          rw [e9] at D7
          walk_at "go"
          refine ⟨⟨_, rfl⟩, L6, e6.trans rfl, D7.weak (Evl.Ex.new (Evl.fresh_back D4.rs ht))⟩
      · obtain ⟨⟨x1, rfl⟩, L', eL, D4⟩ := hp
        rw [Int.toNat_natCast] at D4
        rw [← eL]
        obtain ⟨dx, szs, cm, cw, h4⟩ := D4
        have hO := h4.hO
        walk_at "go"
        have h5 := h4.fields (D' := { (D'.settles (fun d => ks.getD d []) D'.n) with on := true }) rfl rfl rfl rfl rfl rfl rfl
        rw [← e1] at q
        exact q _ _ eL h5.at_

theorem okH_fail_after {C CP : Addr} (M : Mg mg) (T : Tx_Disks K C) (e_PowerOff : ExT K mg "PowerOff" CP) {f : Addr} {fd : FuncData} (F : Fun K "fail_after" "Disks.fail_after" s_Disks_fail_after f fd) : FnH P w K mg base (L2.CX P w) 1 f fd ["self", "operations"] (sp_fail_after C CP) := by
  refine okH F sc_Disks_fail_after (fun vs H Q E h => ?_) (fun cdv A outer s H vs Q E pe hot hr h => ?_)
  · obtain ⟨F, Rs, L, D, k, rfl, _⟩ := h; rfl
  · obtain ⟨F, Rs, L, D, k, rfl, ⟨dx, szs, cm, cw, h⟩, q1, q2⟩ := h
    have hO := h.hO
    refine ⟨_, (pss_cons (ps_if (pt_not (pt_val (pe_fld (pv 0) rfl))) (pss_one (ps_raiH e_PowerOff ⟨pe, hot, List.mem_singleton.mpr rfl⟩ (takes_of rfl rfl rfl rfl))) pss_nil) (pss_one (ps_fld (pv 0) (pv 1) rfl))), ?_⟩
    refine iBody (by repeat constructor) ?_
    walk_at "go"
    cases eo : D.on with
    | false =>
      walk_at "go"
      exact q1 eo
    | true =>
      walk_at "go"
      have h2 := h.fields (D' := { D with left := some k }) rfl rfl rfl rfl rfl rfl rfl
      exact q2 eo _ h2.at_

end
end R
set_option Elab.async false
set_option linter.all false
set_option maxRecDepth 100000
set_option maxHeartbeats 4000000
namespace R
open PySem PySem.Spec L2 L2H
open Evl (Ex)
abbrev s__law_draw : Stmt := topS 10
theorem sc__law_draw : FnScope ["script", "k", "cell", "turn", "step"] ["script", "k"] (defScope s__law_draw) := ⟨rfl, rfl, rfl, by decide +kernel, rfl, by decide +kernel, by decide +kernel⟩
abbrev s_Disks_sizes : Stmt := inClass (topS 8) 1
theorem sc_Disks_sizes : FnScope ["self"] ["self"] (defScope s_Disks_sizes) := ⟨rfl, rfl, rfl, by decide +kernel, rfl, by decide +kernel, by decide +kernel⟩
local macro_rules | `(tactic| walk_at "ne") => `(tactic| (apply Ne.symm; apply ne_fresh; (· assumption); (· walk_at "look")))
local macro_rules | `(tactic| walk_at "ne") => `(tactic| (apply ne_fresh; (· assumption); (· walk_at "look")))
local macro_rules | `(tactic| walk_at "ne") => `(tactic| (apply Ne.symm; assumption))
local macro_rules | `(tactic| walk_at "ne") => `(tactic| assumption)
local macro_rules | `(tactic| walk_at "look") => `(tactic| (refine exAt (by assumption) ?_; walk_at "look"))
local macro_rules | `(tactic| walk_at "look") => `(tactic| (refine (upd_ne ?_).trans ?_; (· walk_at "ne"); (· walk_at "look")))
local macro_rules | `(tactic| walk_at "look") => `(tactic| exact upd_same)
local macro_rules | `(tactic| walk_at "look") => `(tactic| assumption)
local macro_rules | `(tactic| walk_at "side") => `(tactic| (exact ⟨by decide, by decide, by decide⟩))
local macro_rules | `(tactic| walk_at "side") => `(tactic| (exact ⟨by omega, by omega⟩))
local macro_rules | `(tactic| walk_at "side") => `(tactic| (show (0:Int) ≤ _; omega))
local macro_rules | `(tactic| walk_at "side") => `(tactic| (show (0:Int) < _; omega))
local macro_rules | `(tactic| walk_at "side") => `(tactic| (exact Or.inr ⟨by omega, by omega⟩))
local macro_rules | `(tactic| walk_at "side") => `(tactic| (exact Or.inl ⟨by omega, by omega⟩))
local macro_rules | `(tactic| walk_at "step") => `(tactic| ((with_reducible apply iZL); (· walk_at "look"); (· walk_at "look")))
local macro_rules | `(tactic| walk_at "step") => `(tactic| ((with_reducible apply iItL); (· walk_at "look")))
local macro_rules | `(tactic| walk_at "step") => `(tactic| ((with_reducible apply iRng2I); (· omega); (· omega); (· omega); (· omega)))
local macro_rules | `(tactic| walk_at "step") => `(tactic| ((with_reducible apply iDNi); (· walk_at "look")))
local macro_rules | `(tactic| walk_at "step") => `(tactic| ((with_reducible apply iDIi); (· walk_at "look")))
local macro_rules | `(tactic| walk_at "step") => `(tactic| ((with_reducible apply iGTup); (· walk_at "look"); (· rfl)))
local macro_rules | `(tactic| walk_at "step") => `(tactic| ((with_reducible apply iLcB); (· rfl)))
local macro_rules | `(tactic| walk_at "step") => `(tactic| ((with_reducible apply ifNn); (· omega)))
local macro_rules | `(tactic| walk_at "step") => `(tactic| ((with_reducible apply ifNp); (· omega)))
local macro_rules | `(tactic| walk_at "step") => `(tactic| ((with_reducible apply ifF); (· apply decide_eq_false; omega)))
local macro_rules | `(tactic| walk_at "step") => `(tactic| ((with_reducible apply ifT); (· apply decide_eq_true; omega)))
local macro_rules | `(tactic| walk_at "step") => `(tactic| ((with_reducible apply ifF); (· rfl)))
local macro_rules | `(tactic| walk_at "step") => `(tactic| ((with_reducible apply ifT); (· rfl)))
local macro_rules | `(tactic| walk_at "step") => `(tactic| ((with_reducible apply iLenS); (· first | exact Or.inl (by walk_at "look") | exact Or.inr (by walk_at "look"))))
local macro_rules | `(tactic| walk_at "step") => `(tactic| ((with_reducible apply iLenT); (· walk_at "look")))
local macro_rules | `(tactic| walk_at "step") => `(tactic| ((with_reducible apply iIsi); (· first | exact tyN_int | exact tyN_bl | exact tyN_non | exact tyN_str | exact tyN_lst (by walk_at "look") | exact tyN_tup (by walk_at "look")); (· (first | exact kb_NoneType_bool | exact kb_NoneType_int | exact kb_NoneType_str | exact kb_NoneType_tuple | exact kb_NoneType_list | exact kb_bool_bool | exact kb_bool_int | exact kb_bool_str | exact kb_bool_tuple | exact kb_bool_list | exact kb_int_bool | exact kb_int_int | exact kb_int_str | exact kb_int_tuple | exact kb_int_list | exact kb_str_bool | exact kb_str_int | exact kb_str_str | exact kb_str_tuple | exact kb_str_list | exact kb_tuple_bool | exact kb_tuple_int | exact kb_tuple_str | exact kb_tuple_tuple | exact kb_tuple_list | exact kb_list_bool | exact kb_list_int | exact kb_list_str | exact kb_list_tuple | exact kb_list_list))))
local macro_rules | `(tactic| walk_at "step") => `(tactic| ((with_reducible apply iIxT); (· walk_at "look"); (· rfl)))
local macro_rules | `(tactic| walk_at "step") => `(tactic| ((with_reducible apply iSetL); (· walk_at "look"); (· rfl)))
local macro_rules | `(tactic| walk_at "step") => `(tactic| ((with_reducible apply iLenL); (· walk_at "look")))
local macro_rules | `(tactic| walk_at "step") => `(tactic| ((with_reducible apply iIxL); (· walk_at "look"); (· rfl)))
local macro_rules | `(tactic| walk_at "step") => `(tactic| ((with_reducible apply iI); rotate_left; (· (first | (exact Or.inl ⟨by omega, by omega⟩) | (exact Or.inr ⟨by omega, by omega⟩) | (show (0:Int) < _; omega) | (show (0:Int) ≤ _; omega) | (exact ⟨by omega, by omega⟩) | (exact ⟨by decide, by decide, by decide⟩)))))
local macro_rules | `(tactic| walk_at "step") => `(tactic| ((with_reducible apply iAugK); (· rfl)))
local macro_rules | `(tactic| walk_at "step") => `(tactic| ((with_reducible apply iRngI); (· first | decide | omega); (· first | decide | omega)))
local macro_rules | `(tactic| walk_at "step") => `(tactic| (with_reducible refine iDEa ?_))
local macro_rules | `(tactic| walk_at "step") => `(tactic| (with_reducible refine iGNil ?_))
local macro_rules | `(tactic| walk_at "step") => `(tactic| (with_reducible refine iGCons ?_))
local macro_rules | `(tactic| walk_at "step") => `(tactic| (with_reducible refine iZipK ?_))
local macro_rules | `(tactic| walk_at "step") => `(tactic| (with_reducible refine iRng2 ?_))
local macro_rules | `(tactic| walk_at "step") => `(tactic| (with_reducible refine iDPut ?_))
local macro_rules | `(tactic| walk_at "step") => `(tactic| (with_reducible refine iDNotIn ?_))
local macro_rules | `(tactic| walk_at "step") => `(tactic| (with_reducible refine iDIn ?_))
local macro_rules | `(tactic| walk_at "step") => `(tactic| (with_reducible refine iDGet ?_))
local macro_rules | `(tactic| walk_at "step") => `(tactic| (with_reducible refine iYes ?_))
local macro_rules | `(tactic| walk_at "step") => `(tactic| (with_reducible refine iLc ?_))
local macro_rules | `(tactic| walk_at "step") => `(tactic| (with_reducible refine iNeS ?_))
local macro_rules | `(tactic| walk_at "step") => `(tactic| (with_reducible refine iEqS ?_))
local macro_rules | `(tactic| walk_at "step") => `(tactic| (with_reducible refine iNeB ?_))
local macro_rules | `(tactic| walk_at "step") => `(tactic| (with_reducible refine iEqB ?_))
local macro_rules | `(tactic| walk_at "step") => `(tactic| (with_reducible refine iCont ?_))
local macro_rules | `(tactic| walk_at "step") => `(tactic| (with_reducible refine iBreak ?_))
local macro_rules | `(tactic| walk_at "step") => `(tactic| (with_reducible refine iIterL ?_))
local macro_rules | `(tactic| walk_at "step") => `(tactic| (with_reducible refine iTup ?_))
local macro_rules | `(tactic| walk_at "step") => `(tactic| (with_reducible refine iLst ?_))
local macro_rules | `(tactic| walk_at "step") => `(tactic| (with_reducible refine iSub ?_))
local macro_rules | `(tactic| walk_at "step") => `(tactic| (with_reducible refine iIpI ?_))
local macro_rules | `(tactic| walk_at "step") => `(tactic| (with_reducible refine iAugS ?_))
local macro_rules | `(tactic| walk_at "step") => `(tactic| (with_reducible refine iNotV ?_))
local macro_rules | `(tactic| walk_at "step") => `(tactic| (with_reducible refine iOrV ?_))
local macro_rules | `(tactic| walk_at "step") => `(tactic| (with_reducible refine iAndV ?_))
local macro_rules | `(tactic| walk_at "step") => `(tactic| (with_reducible refine iDGet1 ?_))
local macro_rules | `(tactic| walk_at "step") => `(tactic| (with_reducible refine iNotBl ?_))
local macro_rules | `(tactic| walk_at "step") => `(tactic| (with_reducible refine iIsB ?_))
local macro_rules | `(tactic| walk_at "step") => `(tactic| (with_reducible refine iIntB ?_))
local macro_rules | `(tactic| walk_at "step") => `(tactic| (with_reducible refine iPn ?_))
local macro_rules | `(tactic| walk_at "step") => `(tactic| (with_reducible refine iPr ?_))
local macro_rules | `(tactic| walk_at "step") => `(tactic| (with_reducible refine iRai ?_))
local macro_rules | `(tactic| walk_at "step") => `(tactic| (with_reducible refine iRev1 ?_))
local macro_rules | `(tactic| walk_at "step") => `(tactic| (with_reducible refine iBM ?_))
local macro_rules | `(tactic| walk_at "step") => `(tactic| (with_reducible refine iAugF ?_))
local macro_rules | `(tactic| walk_at "step") => `(tactic| (with_reducible refine iSto ?_))
local macro_rules | `(tactic| walk_at "step") => `(tactic| (with_reducible refine iFld ?_))
local macro_rules | `(tactic| walk_at "step") => `(tactic| (with_reducible refine iMakS ?_))
local macro_rules | `(tactic| walk_at "step") => `(tactic| (with_reducible refine iMak ?_))
local macro_rules | `(tactic| walk_at "step") => `(tactic| (with_reducible refine iMet ?_))
local macro_rules | `(tactic| walk_at "step") => `(tactic| (with_reducible refine iCalE ?_))
local macro_rules | `(tactic| walk_at "step") => `(tactic| (with_reducible refine ifDr ?_))
local macro_rules | `(tactic| walk_at "step") => `(tactic| (with_reducible refine ifNDr ?_))
local macro_rules | `(tactic| walk_at "step") => `(tactic| (with_reducible refine iTruI ?_))
local macro_rules | `(tactic| walk_at "step") => `(tactic| (with_reducible refine iNotN ?_))
local macro_rules | `(tactic| walk_at "step") => `(tactic| (with_reducible refine iIsN ?_))
local macro_rules | `(tactic| walk_at "step") => `(tactic| (with_reducible refine iRetN ?_))
local macro_rules | `(tactic| walk_at "step") => `(tactic| (with_reducible refine iU ?_))
local macro_rules | `(tactic| walk_at "step") => `(tactic| (with_reducible refine iUn ?_))
local macro_rules | `(tactic| walk_at "step") => `(tactic| (with_reducible refine iChain ?_))
local macro_rules | `(tactic| walk_at "step") => `(tactic| (with_reducible refine iIf ?_))
local macro_rules | `(tactic| walk_at "step") => `(tactic| (with_reducible refine iB ?_))
local macro_rules | `(tactic| walk_at "step") => `(tactic| (with_reducible refine iNot ?_))
local macro_rules | `(tactic| walk_at "step") => `(tactic| (with_reducible refine iOr ?_))
local macro_rules | `(tactic| walk_at "step") => `(tactic| (with_reducible refine iAnd ?_))
local macro_rules | `(tactic| walk_at "step") => `(tactic| (with_reducible refine iCal ?_))
local macro_rules | `(tactic| walk_at "step") => `(tactic| (with_reducible refine iRng ?_))
local macro_rules | `(tactic| walk_at "step") => `(tactic| (with_reducible refine iFor ?_))
local macro_rules | `(tactic| walk_at "step") => `(tactic| (with_reducible refine iInt ?_))
local macro_rules | `(tactic| walk_at "step") => `(tactic| (with_reducible refine iNeI ?_))
local macro_rules | `(tactic| walk_at "step") => `(tactic| (with_reducible refine iEqI ?_))
local macro_rules | `(tactic| walk_at "step") => `(tactic| (with_reducible refine iDrop ?_))
local macro_rules | `(tactic| walk_at "step") => `(tactic| (with_reducible refine iNext ?_))
local macro_rules | `(tactic| walk_at "step") => `(tactic| (with_reducible refine iRet ?_))
local macro_rules | `(tactic| walk_at "step") => `(tactic| (with_reducible refine iBl ?_))
local macro_rules | `(tactic| walk_at "step") => `(tactic| (with_reducible refine iTest ?_))
local macro_rules | `(tactic| walk_at "step") => `(tactic| (with_reducible refine iIfS ?_))
local macro_rules | `(tactic| walk_at "step") => `(tactic| (with_reducible refine iCB ?_))
local macro_rules | `(tactic| walk_at "step") => `(tactic| (with_reducible refine iNil ?_))
local macro_rules | `(tactic| walk_at "step") => `(tactic| (with_reducible refine iCons ?_))
local macro_rules | `(tactic| walk_at "step") => `(tactic| (with_reducible refine iI0 ?_))
local macro_rules | `(tactic| walk_at "step") => `(tactic| (with_reducible refine iOp ?_))
local macro_rules | `(tactic| walk_at "step") => `(tactic| (with_reducible refine iC ?_))
local macro_rules | `(tactic| walk_at "step") => `(tactic| ((with_reducible apply iVar); (· rfl)))
local macro_rules | `(tactic| walk_at "step") => `(tactic| ((with_reducible apply iName); (· repeat constructor)))
local macro_rules | `(tactic| walk_at "step") => `(tactic| (with_reducible refine iAsg ?_))
local macro_rules | `(tactic| walk_at "step") => `(tactic| (with_reducible refine iSeq ?_))
local macro_rules | `(tactic| walk_at "step") => `(tactic| ((with_reducible apply iMe_Disks__empty); (· walk_at "look")))
local macro_rules | `(tactic| walk_at "step") => `(tactic| ((with_reducible apply iMe_Disks__settle); (· walk_at "look")))
local macro_rules | `(tactic| walk_at "step") => `(tactic| ((with_reducible apply iMe_Disks__fail); (· walk_at "look")))
local macro_rules | `(tactic| walk_at "step") => `(tactic| ((with_reducible apply iMe_Disks__operate); (· walk_at "look")))
local macro_rules | `(tactic| walk_at "step") => `(tactic| ((with_reducible apply iMe_Disks_power); (· walk_at "look")))
local macro_rules | `(tactic| walk_at "step") => `(tactic| ((with_reducible apply iMe_Disks_fail_after); (· walk_at "look")))
local macro_rules | `(tactic| walk_at "step") => `(tactic| ((with_reducible apply iMe_Disks_blank); (· walk_at "look")))
local macro_rules | `(tactic| walk_at "step") => `(tactic| ((with_reducible apply iMe_Disks_away); (· walk_at "look")))
local macro_rules | `(tactic| walk_at "step") => `(tactic| ((with_reducible apply iMe_Disks_bad); (· walk_at "look")))
local macro_rules | `(tactic| walk_at "step") => `(tactic| ((with_reducible apply iMe_Disks_rot); (· walk_at "look")))
local macro_rules | `(tactic| walk_at "step") => `(tactic| ((with_reducible apply iMe_Disks_sync); (· walk_at "look")))
local macro_rules | `(tactic| walk_at "step") => `(tactic| ((with_reducible apply iMe_Disks_write); (· walk_at "look")))
local macro_rules | `(tactic| walk_at "step") => `(tactic| ((with_reducible apply iMe_Disks_ask); (· walk_at "look")))
local macro_rules | `(tactic| walk_at "step") => `(tactic| ((with_reducible apply iMe_Disks_pending); (· walk_at "look")))
local macro_rules | `(tactic| walk_at "step") => `(tactic| ((with_reducible apply iMe_Disks_cell); (· walk_at "look")))
local macro_rules | `(tactic| walk_at "step") => `(tactic| ((with_reducible apply iMe_Disks_is_there); (· walk_at "look")))
local macro_rules | `(tactic| walk_at "step") => `(tactic| ((with_reducible apply iMe_Disks_losses); (· walk_at "look")))
local macro_rules | `(tactic| walk_at "step") => `(tactic| ((with_reducible apply iMe_Disks_is_on); (· walk_at "look")))
local macro_rules | `(tactic| walk_at "step") => `(tactic| ((with_reducible apply iMe_Disks_counts); (· walk_at "look")))
local macro_rules | `(tactic| walk_at "step") => `(tactic| ((with_reducible apply iMe_Disks_sizes); (· walk_at "look")))
local macro_rules | `(tactic| walk_at "step") => `(tactic| ((with_reducible apply iP_Disks__syncs); (· assumption); (· walk_at "look"); (· rfl); (· repeat constructor)))
local macro_rules | `(tactic| walk_at "step") => `(tactic| ((with_reducible apply iN_Disks__syncs); (· assumption); (· walk_at "look"); (· rfl)))
local macro_rules | `(tactic| walk_at "step") => `(tactic| ((with_reducible apply iS_Disks__syncs); (· assumption); (· walk_at "look"); (· repeat constructor)))
local macro_rules | `(tactic| walk_at "step") => `(tactic| ((with_reducible apply iF_Disks__syncs); (· assumption); (· walk_at "look"); (· rfl)))
local macro_rules | `(tactic| walk_at "step") => `(tactic| ((with_reducible apply iP_Disks__writes); (· assumption); (· walk_at "look"); (· rfl); (· repeat constructor)))
local macro_rules | `(tactic| walk_at "step") => `(tactic| ((with_reducible apply iN_Disks__writes); (· assumption); (· walk_at "look"); (· rfl)))
local macro_rules | `(tactic| walk_at "step") => `(tactic| ((with_reducible apply iS_Disks__writes); (· assumption); (· walk_at "look"); (· repeat constructor)))
local macro_rules | `(tactic| walk_at "step") => `(tactic| ((with_reducible apply iF_Disks__writes); (· assumption); (· walk_at "look"); (· rfl)))
local macro_rules | `(tactic| walk_at "step") => `(tactic| ((with_reducible apply iP_Disks__reads); (· assumption); (· walk_at "look"); (· rfl); (· repeat constructor)))
local macro_rules | `(tactic| walk_at "step") => `(tactic| ((with_reducible apply iN_Disks__reads); (· assumption); (· walk_at "look"); (· rfl)))
local macro_rules | `(tactic| walk_at "step") => `(tactic| ((with_reducible apply iS_Disks__reads); (· assumption); (· walk_at "look"); (· repeat constructor)))
local macro_rules | `(tactic| walk_at "step") => `(tactic| ((with_reducible apply iF_Disks__reads); (· assumption); (· walk_at "look"); (· rfl)))
local macro_rules | `(tactic| walk_at "step") => `(tactic| ((with_reducible apply iP_Disks__failures); (· assumption); (· walk_at "look"); (· rfl); (· repeat constructor)))
local macro_rules | `(tactic| walk_at "step") => `(tactic| ((with_reducible apply iN_Disks__failures); (· assumption); (· walk_at "look"); (· rfl)))
local macro_rules | `(tactic| walk_at "step") => `(tactic| ((with_reducible apply iS_Disks__failures); (· assumption); (· walk_at "look"); (· repeat constructor)))
local macro_rules | `(tactic| walk_at "step") => `(tactic| ((with_reducible apply iF_Disks__failures); (· assumption); (· walk_at "look"); (· rfl)))
local macro_rules | `(tactic| walk_at "step") => `(tactic| ((with_reducible apply iM_Disks__left); (· assumption); (· walk_at "look"); (· rfl); (· repeat constructor)))
local macro_rules | `(tactic| walk_at "step") => `(tactic| ((with_reducible apply iN_Disks__left); (· assumption); (· walk_at "look"); (· rfl)))
local macro_rules | `(tactic| walk_at "step") => `(tactic| ((with_reducible apply iS_Disks__left); (· assumption); (· walk_at "look"); (· repeat constructor)))
local macro_rules | `(tactic| walk_at "step") => `(tactic| ((with_reducible apply iF_Disks__left); (· assumption); (· walk_at "look"); (· rfl)))
local macro_rules | `(tactic| walk_at "step") => `(tactic| ((with_reducible apply iN_Disks__on); (· assumption); (· walk_at "look"); (· rfl)))
local macro_rules | `(tactic| walk_at "step") => `(tactic| ((with_reducible apply iS_Disks__on); (· assumption); (· walk_at "look"); (· repeat constructor)))
local macro_rules | `(tactic| walk_at "step") => `(tactic| ((with_reducible apply iF_Disks__on); (· assumption); (· walk_at "look"); (· rfl)))
local macro_rules | `(tactic| walk_at "step") => `(tactic| ((with_reducible apply iN_Disks__waiting); (· assumption); (· walk_at "look"); (· rfl)))
local macro_rules | `(tactic| walk_at "step") => `(tactic| ((with_reducible apply iS_Disks__waiting); (· assumption); (· walk_at "look"); (· repeat constructor)))
local macro_rules | `(tactic| walk_at "step") => `(tactic| ((with_reducible apply iF_Disks__waiting); (· assumption); (· walk_at "look"); (· rfl)))
local macro_rules | `(tactic| walk_at "step") => `(tactic| ((with_reducible apply iN_Disks__media); (· assumption); (· walk_at "look"); (· rfl)))
local macro_rules | `(tactic| walk_at "step") => `(tactic| ((with_reducible apply iS_Disks__media); (· assumption); (· walk_at "look"); (· repeat constructor)))
local macro_rules | `(tactic| walk_at "step") => `(tactic| ((with_reducible apply iF_Disks__media); (· assumption); (· walk_at "look"); (· rfl)))
local macro_rules | `(tactic| walk_at "step") => `(tactic| ((with_reducible apply iN_Disks__there); (· assumption); (· walk_at "look"); (· rfl)))
local macro_rules | `(tactic| walk_at "step") => `(tactic| ((with_reducible apply iS_Disks__there); (· assumption); (· walk_at "look"); (· repeat constructor)))
local macro_rules | `(tactic| walk_at "step") => `(tactic| ((with_reducible apply iF_Disks__there); (· assumption); (· walk_at "look"); (· rfl)))
local macro_rules | `(tactic| walk_at "step") => `(tactic| ((with_reducible apply iN_Disks__sizes); (· assumption); (· walk_at "look"); (· rfl)))
local macro_rules | `(tactic| walk_at "step") => `(tactic| ((with_reducible apply iS_Disks__sizes); (· assumption); (· walk_at "look"); (· repeat constructor)))
local macro_rules | `(tactic| walk_at "step") => `(tactic| ((with_reducible apply iF_Disks__sizes); (· assumption); (· walk_at "look"); (· rfl)))
local macro_rules | `(tactic| walk_at "step") => `(tactic| ((with_reducible apply iN_Disks_scrub_place); (· assumption); (· walk_at "look"); (· rfl)))
local macro_rules | `(tactic| walk_at "step") => `(tactic| ((with_reducible apply iS_Disks_scrub_place); (· assumption); (· walk_at "look"); (· repeat constructor)))
local macro_rules | `(tactic| walk_at "step") => `(tactic| ((with_reducible apply iF_Disks_scrub_place); (· assumption); (· walk_at "look"); (· rfl)))
local macro_rules | `(tactic| walk_at "step") => `(tactic| ((with_reducible apply iN_Disks_formatted); (· assumption); (· walk_at "look"); (· rfl)))
local macro_rules | `(tactic| walk_at "step") => `(tactic| ((with_reducible apply iS_Disks_formatted); (· assumption); (· walk_at "look"); (· repeat constructor)))
local macro_rules | `(tactic| walk_at "step") => `(tactic| ((with_reducible apply iF_Disks_formatted); (· assumption); (· walk_at "look"); (· rfl)))
local macro_rules | `(tactic| walk_at "step") => `(tactic| ((with_reducible apply iN_Disks_in_use); (· assumption); (· walk_at "look"); (· rfl)))
local macro_rules | `(tactic| walk_at "step") => `(tactic| ((with_reducible apply iS_Disks_in_use); (· assumption); (· walk_at "look"); (· repeat constructor)))
local macro_rules | `(tactic| walk_at "step") => `(tactic| ((with_reducible apply iF_Disks_in_use); (· assumption); (· walk_at "look"); (· rfl)))
local macro_rules | `(tactic| walk_at "go") => `(tactic| (repeat walk_at "step"))
section
variable {P : Program} {w : World} {K : PySem.W.Frag} {mg : Str → Option Value} {base : Heap}
/-! ### the law's draws and sectors -/
def sp_draw (K : PySem.W.Frag) : Sp := fun vs H Q _ => ∃ (a : Addr) (ns : List Int) (k : Nat), vs = [.ref a, .int k] ∧ SqL K H a (ns.map V.int) ∧ ns.length ≤ 63 ∧ k ≤ 100 ∧ ∀ v : Nat, v < 2147483647 → Q (.int v) H
theorem ok_draw (M : Mg mg) {f : Addr} {fd : FuncData} (F : Fun K "_law_draw" "_law_draw" s__law_draw f fd) : FnOk P w K mg base CX0 1 f fd ["script", "k"] (sp_draw K) := by
  refine F.ok sc__law_draw (fun vs H Q E h => ?_) (fun cdv A outer s H vs Q E hr h => ?_)
  · obtain ⟨a, ns, k, rfl, _⟩ := h; rfl
  · obtain ⟨a, ns, k, rfl, hS, hn, hk, q⟩ := h
    have fin : ∀ v : Int, 0 ≤ v → v < 2147483647 → Q (.int v) H := fun v h1 h2 => by
      have := q v.toNat (by omega)
      rwa [show ((v.toNat : Nat) : Int) = v by omega] at this
    refine ⟨_, (pss_cons (ps_if (pt_not (pt_truth (pv 0) (by intro _; rfl))) (pss_one (ps_ret (pe_op op_mod (pe_op op_mul (pv 1) pe_int) pe_int))) pss_nil) (pss_cons (ps_set (i := 2) sc__law_draw.nd rfl (Or.inl rfl) (pe_callTy int_i (by rfl) M.n_int (by decide +kernel) (pa_cons (pe_ix ix_list (pv 0) (pe_op op_mod (pv 1) (pe_callB call_len_seq (by rfl) M.n_len PySem.boot_len (pa_cons (pv 0) pa_nil))) (fun _ _ => rfl)) pa_nil))) (pss_cons (ps_set (i := 3) sc__law_draw.nd rfl (Or.inl rfl) (pe_op op_fdiv (pv 1) (pe_callB call_len_seq (by rfl) M.n_len PySem.boot_len (pa_cons (pv 0) pa_nil)))) (pss_cons (ps_if (pt_cmpR op_ge (pv 2) pe_int (nomark _)) (pss_cons (ps_for PassesOwn.never rfl (pi_range1 (by rfl) M.n_range (pa_cons (pe_callB (call_min2 rfl) (by rfl) M.n_min (by decide +kernel) (pa_cons (pv 3) (pa_cons pe_int pa_nil))) pa_nil)) (pg_name (i := 4) sc__law_draw.nd rfl (Or.inl rfl)) (pss_one (ps_set (i := 2) sc__law_draw.nd rfl (Or.inl rfl) (pe_op op_fdiv (pv 2) pe_int)))) (pss_one (ps_ret (pe_op op_mod (pv 2) pe_int)))) pss_nil) (pss_one (ps_ret (pe_op op_mod (pe_op op_mul (pe_op op_mod (pe_op op_add (pe_op op_add (pe_op op_mul (pv 2) pe_int) (pe_op op_mul (pv 1) pe_int)) pe_int) pe_int) pe_int) pe_int))))))), ?_⟩
    refine iBody (by repeat constructor) ?_
    walk_at "go"
    refine ⟨_, .inl ⟨_, hS, rfl⟩, ?_⟩
    cases ns with
    | nil =>
      walk_at "go"
      exact fin _ (by omega) (by omega)
    | cons n0 ns' =>
      have hl : (((n0 :: ns').map V.int).length : Int) = ((n0 :: ns').length : Int) := by rw [List.length_map]
      have hp : 1 ≤ (n0 :: ns').length := by simp
      generalize (n0 :: ns') = ns at hS hn hl hp ⊢
      walk_at "go"
      refine ifF (by cases ns with | nil => simp at hp | cons _ _ => rfl) ?_
      walk_at "go"
      refine ⟨a, _, rfl, .inl hS, ?_⟩
      rw [hl]
      walk_at "go"
      have m0 := Int.emod_nonneg (k : Int) (show (ns.length : Int) ≠ 0 by omega)
      have m1 := Int.emod_lt_of_pos (k : Int) (show (0 : Int) < ns.length by omega)
      obtain ⟨c, hc⟩ := atI_map (ns := ns) m0 m1
      refine ⟨a, _, _, _, rfl, rfl, hS, hc, ?_⟩
      walk_at "go"
      refine ⟨a, _, rfl, .inl hS, ?_⟩
      rw [hl]
      walk_at "go"
      have t0 : 0 ≤ (k : Int) / (ns.length : Int) := Int.ediv_nonneg (by omega) (by omega)
      have t1 : (k : Int) / (ns.length : Int) ≤ k := Int.ediv_le_self _ (by omega)
      generalize (k : Int) / (ns.length : Int) = turn at t0 t1 ⊢
      refine ifD (fun h3 => ?_) (fun h3 => ?_)
      · walk_at "go"
        refine ⟨_, _, rfl, ?_⟩
        have hm : (if (60 : Int) < turn then 60 else turn) ≤ 60 ∧ 0 ≤ (if (60 : Int) < turn then 60 else turn) := by split <;> omega
        generalize (if (60 : Int) < turn then 60 else turn) = cnt at hm ⊢
        walk_at "go"
        refine forJ_range0 (fun i σ' H' => (∃ x y, σ' = [some (.ref a), some (.int k), some (.int x), some (.int turn), y]) ∧ H' = H) ⟨⟨_, _, rfl⟩, rfl⟩ (fun i σ' H' hi hp => ?_) (fun σ' H' hp => ?_)
        · obtain ⟨⟨x, y, rfl⟩, rfl⟩ := hp
          walk_at "go"
          exact ⟨⟨_, _, rfl⟩, rfl⟩
        · obtain ⟨⟨x, y, rfl⟩, rfl⟩ := hp
          walk_at "go"
          exact fin _ (Int.emod_nonneg _ (by omega)) (Int.lt_trans (Int.emod_lt_of_pos _ (by omega)) (by omega))
      · walk_at "go"
        exact fin _ (Int.emod_nonneg _ (by omega)) (Int.lt_trans (Int.emod_lt_of_pos _ (by omega)) (by omega))
theorem j_draw {a : Addr} {ns : List Int} {k : Nat} {H : Hp} {Q : VK} {E : XK} (hS : SqL K H a (ns.map V.int)) (hn : ns.length ≤ 63) (hk : k ≤ 100) (q : ∀ v : Nat, v < 2147483647 → Q (.int v) H) : sp_draw K [.ref a, .int k] H Q E := ⟨a, ns, k, rfl, hS, hn, hk, q⟩
/-! ### what is told of new disks, and of none -/
theorem ints_at {H : Hp} : ∀ xs : List Int, AtAll H (xs.map V.int) (xs.map PyData.int)
  | [] => .nil
  | i :: xs => .cons (.int i) (ints_at xs)
theorem iNeTI {K : PySem.W.Frag} {H : Hp} {Q : VK} {p m : Addr} (xs : List Int) (h1 : H p = some (.tup (xs.map V.int))) (h2 : H m = some (.tup (xs.map V.int))) (q : Q (.bl false) H) : rNeD K (.ref p) (.ref m) H Q :=
  iNeAt (d := .tuple (xs.map PyData.int)) (.tup h1 (ints_at xs)) (.tup h2 (ints_at xs)) (Dep.tuple fun d hd => by
    obtain ⟨m, _, rfl⟩ := List.mem_map.mp hd
    exact Dep.int) q
def sp_sizes (C : Addr) : Sp := fun vs H Q _ => ∃ (F Rs : Hp) (L : DL → Addr) (D : DK), vs = [.ref (L .obj)] ∧ DAt C H F Rs L D ∧ ∀ p, H p = some (.tup [.int (D.n : Nat), .int (D.m : Nat), .int (D.k : Nat), .int (D.s : Nat)]) → Q (.ref p) H
theorem ok_sizes {C : Addr} (M : Mg mg) (T : Tx_Disks K C) {f : Addr} {fd : FuncData} (F : Fun K "sizes" "Disks.sizes" s_Disks_sizes f fd) : FnOk P w K mg base CX0 1 f fd ["self"] (sp_sizes C) := by
  refine F.ok sc_Disks_sizes (fun vs H Q E h => ?_) (fun cdv A outer s H vs Q E hr h => ?_)
  · obtain ⟨F, Rs, L, D, rfl, _⟩ := h; rfl
  · obtain ⟨F, Rs, L, D, rfl, D0, q⟩ := h
    obtain ⟨dx, szs, hO, hs⟩ := D0.obj
    refine ⟨_, (pss_one (ps_ret (pe_fld (pv 0) rfl))), ?_⟩
    refine iBody (by repeat constructor) ?_
    walk_at "go"
    exact q _ hs
def sp_initE (C CI : Addr) : Sp := fun vs H _ E => ∃ (o dx : Addr) (d m k s : V), vs = [.ref o, d, m, k, s] ∧ Sc d ∧ Sc m ∧ Sc k ∧ Sc s ∧ okS d m k s = false ∧ H o = some (.ins C dx []) ∧ E (.ref CI) none H
theorem ok_initE {C CI : Addr} (M : Mg mg) (T : Tx_Disks K C) {f : Addr} {fd : FuncData} (F : Fun K "__init__" "Disks.__init__" s_Disks___init__ f fd) (c_check_sizes : CalX P w K mg base 2 "check_sizes" ["disks", "sectors", "carrying", "depth"] (sp_check_sizes CI)) : FnOk P w K mg base (L2.CX P w) 3 f fd ["self", "disks", "sectors", "carrying", "depth"] (sp_initE C CI) := by
  refine F.okX sc_Disks___init__ (fun vs H Q E h => ?_) (fun cdv A outer s' H vs Q E hr h => ?_)
  · obtain ⟨o, dx, d, m, k, s, rfl, _⟩ := h; rfl
  · obtain ⟨o, dx, d, m, k, s, rfl, hd, hm, hk, hs, bad, ho, q⟩ := h
    have h0 : H o = some (.ins C dx (NMD.zip [])) := ho
    refine ⟨_, (pss_cons (ps_expr (pe_calE c_check_sizes (hr.mono (by omega)) (by rfl) (xpX (takes_of rfl rfl rfl rfl)) (pa_cons (pv 1) (pa_cons (pv 2) (pa_cons (pv 3) (pa_cons (pv 4) pa_nil)))))) (pss_cons (ps_fld (pv 0) pe_bl rfl) (pss_cons (ps_fld (pv 0) pe_bl rfl) (pss_cons (ps_fld (pv 0) pe_int rfl) (pss_cons (ps_fld (pv 0) (pe_tup (pa_cons (pv 1) (pa_cons (pv 2) (pa_cons (pv 3) (pa_cons (pv 4) pa_nil))))) rfl) (pss_cons (ps_fld (pv 0) (pe_op op_rep (pe_lst (pa_cons pe_bl pa_nil)) (pv 1)) rfl) (pss_cons (ps_fld (pv 0) (pe_lc (own := [("_", 5)]) (g := (gName 5)) (tt := tYes) (by rfl) sc_Disks___init__.nd (pi_range1 (by rfl) M.n_range (pa_cons (pv 1) pa_nil)) (blkOk_by (own := [("_", 5)]) (N := ["self", "disks", "sectors", "carrying", "depth", "_"]) (sc := defScope s_Disks___init__) (by decide +kernel)) (fun _ _ _ _ _ => (pg_name (i := 5) sc_Disks___init__.nd rfl (Or.inl rfl))) (fun _ _ _ _ _ => pts_nil) (fun _ _ _ _ _ => (pe_op op_rep (pe_lst (pa_cons pe_non pa_nil)) (pv 2)))) rfl) (pss_cons (ps_fld (pv 0) (pe_lc (own := [("_", 5)]) (g := (gName 5)) (tt := tYes) (by rfl) sc_Disks___init__.nd (pi_range1 (by rfl) M.n_range (pa_cons (pv 1) pa_nil)) (blkOk_by (own := [("_", 5)]) (N := ["self", "disks", "sectors", "carrying", "depth", "_"]) (sc := defScope s_Disks___init__) (by decide +kernel)) (fun _ _ _ _ _ => (pg_name (i := 5) sc_Disks___init__.nd rfl (Or.inl rfl))) (fun _ _ _ _ _ => pts_nil) (fun _ _ _ _ _ => (pe_lst pa_nil))) rfl) (pss_cons (ps_fld (pv 0) pe_bl rfl) (pss_cons (ps_fld (pv 0) pe_non rfl) (pss_cons (ps_fld (pv 0) pe_int rfl) (pss_cons (ps_fld (pv 0) pe_int rfl) (pss_cons (ps_fld (pv 0) pe_int rfl) (pss_one (ps_fld (pv 0) pe_int rfl))))))))))))))), ?_⟩
    refine iBody (by repeat constructor) ?_
    walk_at "go"
    exact ⟨_, _, _, _, rfl, hd, hm, hk, hs, fun z => absurd z (by rw [bad]; decide), fun _ => q⟩
section
variable {C CI CP : Addr} {H F Rs : Hp} {L : DL → Addr} {D : DK} {Q : VK} {E : XK} {d j : Nat}
theorem j_sizes (h : DAt C H F Rs L D) (q : ∀ p, H p = some (.tup [.int (D.n : Nat), .int (D.m : Nat), .int (D.k : Nat), .int (D.s : Nat)]) → Q (.ref p) H) : sp_sizes C [.ref (L .obj)] H Q E := ⟨F, Rs, L, D, rfl, h, q⟩
theorem j_counts (h : DAt C H F Rs L D) (q : ∀ p, H p = none → Q (.ref p) (upd H p (.tup [.int (D.reads : Nat), .int (D.writes : Nat), .int (D.syncs : Nat)]))) : sp_counts C [.ref (L .obj)] H Q E := ⟨F, Rs, L, D, rfl, h, q⟩
theorem j_losses (h : DAt C H F Rs L D) (q : Q (.int (D.fails : Nat)) H) : sp_losses C [.ref (L .obj)] H Q E := ⟨F, Rs, L, D, rfl, h, q⟩
theorem j_is_on (h : DAt C H F Rs L D) (q : Q (.bl D.on) H) : sp_is_on C [.ref (L .obj)] H Q E := ⟨F, Rs, L, D, rfl, h, q⟩
theorem j_is_there (h : DAt C H F Rs L D) (hd : d < D.n) (q : Q (.bl (D.there d)) H) : sp_is_there C [.ref (L .obj), .int d] H Q E := ⟨F, Rs, L, D, d, rfl, h, hd, q⟩
theorem j_ask (h : DAt C H F Rs L D) (hd : d < D.n) (hj : j < D.m) (q : ∀ v H1 H', DAt C H1 F Rs L (D.ask d) → Ex H1 H' → NewCell H1 H' v (D.cell d j) → Q v H') : sp_ask C [.ref (L .obj), .int d, .int j] H Q E := ⟨F, Rs, L, D, d, j, rfl, h, hd, hj, q⟩
theorem j_init {o dx : Addr} {n m k s : Nat} (n4 : 4 ≤ n) (n8 : n ≤ 8) (m4 : 48 ≤ m) (m2 : m ≤ 200) (k1 : 1 ≤ k) (s1 : 1 ≤ s) (ks : k + s ≤ n) (ho : H o = some (.ins C dx []))
    (eR : Ex Rs H) (nR : Rs o = none) (q : ∀ H' F' L, L .obj = o → DAt C H' F' Rs L (DK.new n m k s) → Q .non H') : sp_init C CI [.ref o, .int n, .int m, .int k, .int s] H Q E :=
  ⟨fun _ => none, Rs, o, dx, n, m, k, s, rfl, n4, n8, m4, m2, k1, s1, ks, ho, (fun _ _ z => by cases z), eR, rfl, nR, fun _ _ => rfl, fun H' F' L a _ c => q H' F' L a c⟩
end
end
end R
set_option Elab.async false
set_option linter.all false
set_option maxRecDepth 100000
set_option maxHeartbeats 4000000
namespace R
open PySem PySem.Spec L2 L2H
open Evl (Ex)
abbrev s__law_wrong : Stmt := topS 11
theorem sc__law_wrong : FnScope ["number", "wrong", "disks", "sectors", "carrying", "depth", "error", "sizes"] ["number"] (defScope s__law_wrong) := ⟨rfl, rfl, rfl, by decide +kernel, rfl, by decide +kernel, by decide +kernel⟩
local macro_rules | `(tactic| walk_at "ne") => `(tactic| (apply Ne.symm; apply ne_fresh; (· assumption); (· walk_at "look")))
local macro_rules | `(tactic| walk_at "ne") => `(tactic| (apply ne_fresh; (· assumption); (· walk_at "look")))
local macro_rules | `(tactic| walk_at "ne") => `(tactic| (apply Ne.symm; assumption))
local macro_rules | `(tactic| walk_at "ne") => `(tactic| assumption)
local macro_rules | `(tactic| walk_at "look") => `(tactic| (refine exAt (by assumption) ?_; walk_at "look"))
local macro_rules | `(tactic| walk_at "look") => `(tactic| (refine (upd_ne ?_).trans ?_; (· walk_at "ne"); (· walk_at "look")))
local macro_rules | `(tactic| walk_at "look") => `(tactic| exact upd_same)
local macro_rules | `(tactic| walk_at "look") => `(tactic| assumption)
local macro_rules | `(tactic| walk_at "side") => `(tactic| (exact ⟨by decide, by decide, by decide⟩))
local macro_rules | `(tactic| walk_at "side") => `(tactic| (exact ⟨by omega, by omega⟩))
local macro_rules | `(tactic| walk_at "side") => `(tactic| (show (0:Int) ≤ _; omega))
local macro_rules | `(tactic| walk_at "side") => `(tactic| (show (0:Int) < _; omega))
local macro_rules | `(tactic| walk_at "side") => `(tactic| (exact Or.inr ⟨by omega, by omega⟩))
local macro_rules | `(tactic| walk_at "side") => `(tactic| (exact Or.inl ⟨by omega, by omega⟩))
local macro_rules | `(tactic| walk_at "step") => `(tactic| ((with_reducible apply iZL); (· walk_at "look"); (· walk_at "look")))
local macro_rules | `(tactic| walk_at "step") => `(tactic| ((with_reducible apply iItL); (· walk_at "look")))
local macro_rules | `(tactic| walk_at "step") => `(tactic| ((with_reducible apply iRng2I); (· omega); (· omega); (· omega); (· omega)))
local macro_rules | `(tactic| walk_at "step") => `(tactic| ((with_reducible apply iDNi); (· walk_at "look")))
local macro_rules | `(tactic| walk_at "step") => `(tactic| ((with_reducible apply iDIi); (· walk_at "look")))
local macro_rules | `(tactic| walk_at "step") => `(tactic| ((with_reducible apply iGTup); (· walk_at "look"); (· rfl)))
local macro_rules | `(tactic| walk_at "step") => `(tactic| ((with_reducible apply iLcB); (· rfl)))
local macro_rules | `(tactic| walk_at "step") => `(tactic| ((with_reducible apply ifNn); (· omega)))
local macro_rules | `(tactic| walk_at "step") => `(tactic| ((with_reducible apply ifNp); (· omega)))
local macro_rules | `(tactic| walk_at "step") => `(tactic| ((with_reducible apply ifF); (· apply decide_eq_false; omega)))
local macro_rules | `(tactic| walk_at "step") => `(tactic| ((with_reducible apply ifT); (· apply decide_eq_true; omega)))
local macro_rules | `(tactic| walk_at "step") => `(tactic| ((with_reducible apply ifF); (· rfl)))
local macro_rules | `(tactic| walk_at "step") => `(tactic| ((with_reducible apply ifT); (· rfl)))
local macro_rules | `(tactic| walk_at "step") => `(tactic| ((with_reducible apply iLenS); (· first | exact Or.inl (by walk_at "look") | exact Or.inr (by walk_at "look"))))
local macro_rules | `(tactic| walk_at "step") => `(tactic| ((with_reducible apply iLenT); (· walk_at "look")))
local macro_rules | `(tactic| walk_at "step") => `(tactic| ((with_reducible apply iIsi); (· first | exact tyN_int | exact tyN_bl | exact tyN_non | exact tyN_str | exact tyN_lst (by walk_at "look") | exact tyN_tup (by walk_at "look")); (· (first | exact kb_NoneType_bool | exact kb_NoneType_int | exact kb_NoneType_str | exact kb_NoneType_tuple | exact kb_NoneType_list | exact kb_bool_bool | exact kb_bool_int | exact kb_bool_str | exact kb_bool_tuple | exact kb_bool_list | exact kb_int_bool | exact kb_int_int | exact kb_int_str | exact kb_int_tuple | exact kb_int_list | exact kb_str_bool | exact kb_str_int | exact kb_str_str | exact kb_str_tuple | exact kb_str_list | exact kb_tuple_bool | exact kb_tuple_int | exact kb_tuple_str | exact kb_tuple_tuple | exact kb_tuple_list | exact kb_list_bool | exact kb_list_int | exact kb_list_str | exact kb_list_tuple | exact kb_list_list))))
local macro_rules | `(tactic| walk_at "step") => `(tactic| ((with_reducible apply iIxT); (· walk_at "look"); (· rfl)))
local macro_rules | `(tactic| walk_at "step") => `(tactic| ((with_reducible apply iSetL); (· walk_at "look"); (· rfl)))
local macro_rules | `(tactic| walk_at "step") => `(tactic| ((with_reducible apply iLenL); (· walk_at "look")))
local macro_rules | `(tactic| walk_at "step") => `(tactic| ((with_reducible apply iIxL); (· walk_at "look"); (· rfl)))
local macro_rules | `(tactic| walk_at "step") => `(tactic| ((with_reducible apply iI); rotate_left; (· (first | (exact Or.inl ⟨by omega, by omega⟩) | (exact Or.inr ⟨by omega, by omega⟩) | (show (0:Int) < _; omega) | (show (0:Int) ≤ _; omega) | (exact ⟨by omega, by omega⟩) | (exact ⟨by decide, by decide, by decide⟩)))))
local macro_rules | `(tactic| walk_at "step") => `(tactic| ((with_reducible apply iAugK); (· rfl)))
local macro_rules | `(tactic| walk_at "step") => `(tactic| ((with_reducible apply iRngI); (· first | decide | omega); (· first | decide | omega)))
local macro_rules | `(tactic| walk_at "step") => `(tactic| (with_reducible refine iDEa ?_))
local macro_rules | `(tactic| walk_at "step") => `(tactic| (with_reducible refine iGNil ?_))
local macro_rules | `(tactic| walk_at "step") => `(tactic| (with_reducible refine iGCons ?_))
local macro_rules | `(tactic| walk_at "step") => `(tactic| (with_reducible refine iZipK ?_))
local macro_rules | `(tactic| walk_at "step") => `(tactic| (with_reducible refine iRng2 ?_))
local macro_rules | `(tactic| walk_at "step") => `(tactic| (with_reducible refine iDPut ?_))
local macro_rules | `(tactic| walk_at "step") => `(tactic| (with_reducible refine iDNotIn ?_))
local macro_rules | `(tactic| walk_at "step") => `(tactic| (with_reducible refine iDIn ?_))
local macro_rules | `(tactic| walk_at "step") => `(tactic| (with_reducible refine iDGet ?_))
local macro_rules | `(tactic| walk_at "step") => `(tactic| (with_reducible refine iYes ?_))
local macro_rules | `(tactic| walk_at "step") => `(tactic| (with_reducible refine iLc ?_))
local macro_rules | `(tactic| walk_at "step") => `(tactic| (with_reducible refine iNeS ?_))
local macro_rules | `(tactic| walk_at "step") => `(tactic| (with_reducible refine iEqS ?_))
local macro_rules | `(tactic| walk_at "step") => `(tactic| (with_reducible refine iNeB ?_))
local macro_rules | `(tactic| walk_at "step") => `(tactic| (with_reducible refine iEqB ?_))
local macro_rules | `(tactic| walk_at "step") => `(tactic| (with_reducible refine iCont ?_))
local macro_rules | `(tactic| walk_at "step") => `(tactic| (with_reducible refine iBreak ?_))
local macro_rules | `(tactic| walk_at "step") => `(tactic| (with_reducible refine iIterL ?_))
local macro_rules | `(tactic| walk_at "step") => `(tactic| (with_reducible refine iTup ?_))
local macro_rules | `(tactic| walk_at "step") => `(tactic| (with_reducible refine iLst ?_))
local macro_rules | `(tactic| walk_at "step") => `(tactic| (with_reducible refine iSub ?_))
local macro_rules | `(tactic| walk_at "step") => `(tactic| (with_reducible refine iIpI ?_))
local macro_rules | `(tactic| walk_at "step") => `(tactic| (with_reducible refine iAugS ?_))
local macro_rules | `(tactic| walk_at "step") => `(tactic| (with_reducible refine iNotV ?_))
local macro_rules | `(tactic| walk_at "step") => `(tactic| (with_reducible refine iOrV ?_))
local macro_rules | `(tactic| walk_at "step") => `(tactic| (with_reducible refine iAndV ?_))
local macro_rules | `(tactic| walk_at "step") => `(tactic| (with_reducible refine iDGet1 ?_))
local macro_rules | `(tactic| walk_at "step") => `(tactic| (with_reducible refine iNotBl ?_))
local macro_rules | `(tactic| walk_at "step") => `(tactic| (with_reducible refine iIsB ?_))
local macro_rules | `(tactic| walk_at "step") => `(tactic| (with_reducible refine iIntB ?_))
local macro_rules | `(tactic| walk_at "step") => `(tactic| (with_reducible refine iPn ?_))
local macro_rules | `(tactic| walk_at "step") => `(tactic| (with_reducible refine iPr ?_))
local macro_rules | `(tactic| walk_at "step") => `(tactic| (with_reducible refine iRai ?_))
local macro_rules | `(tactic| walk_at "step") => `(tactic| (with_reducible refine iRev1 ?_))
local macro_rules | `(tactic| walk_at "step") => `(tactic| (with_reducible refine iBM ?_))
local macro_rules | `(tactic| walk_at "step") => `(tactic| (with_reducible refine iAugF ?_))
local macro_rules | `(tactic| walk_at "step") => `(tactic| (with_reducible refine iSto ?_))
local macro_rules | `(tactic| walk_at "step") => `(tactic| (with_reducible refine iFld ?_))
local macro_rules | `(tactic| walk_at "step") => `(tactic| (with_reducible refine iMakS ?_))
local macro_rules | `(tactic| walk_at "step") => `(tactic| (with_reducible refine iMak ?_))
local macro_rules | `(tactic| walk_at "step") => `(tactic| (with_reducible refine iMet ?_))
local macro_rules | `(tactic| walk_at "step") => `(tactic| (with_reducible refine iCalE ?_))
local macro_rules | `(tactic| walk_at "step") => `(tactic| (with_reducible refine ifDr ?_))
local macro_rules | `(tactic| walk_at "step") => `(tactic| (with_reducible refine ifNDr ?_))
local macro_rules | `(tactic| walk_at "step") => `(tactic| (with_reducible refine iTruI ?_))
local macro_rules | `(tactic| walk_at "step") => `(tactic| (with_reducible refine iNotN ?_))
local macro_rules | `(tactic| walk_at "step") => `(tactic| (with_reducible refine iIsN ?_))
local macro_rules | `(tactic| walk_at "step") => `(tactic| (with_reducible refine iRetN ?_))
local macro_rules | `(tactic| walk_at "step") => `(tactic| (with_reducible refine iU ?_))
local macro_rules | `(tactic| walk_at "step") => `(tactic| (with_reducible refine iUn ?_))
local macro_rules | `(tactic| walk_at "step") => `(tactic| (with_reducible refine iChain ?_))
local macro_rules | `(tactic| walk_at "step") => `(tactic| (with_reducible refine iIf ?_))
local macro_rules | `(tactic| walk_at "step") => `(tactic| (with_reducible refine iB ?_))
local macro_rules | `(tactic| walk_at "step") => `(tactic| (with_reducible refine iNot ?_))
local macro_rules | `(tactic| walk_at "step") => `(tactic| (with_reducible refine iOr ?_))
local macro_rules | `(tactic| walk_at "step") => `(tactic| (with_reducible refine iAnd ?_))
local macro_rules | `(tactic| walk_at "step") => `(tactic| (with_reducible refine iCal ?_))
local macro_rules | `(tactic| walk_at "step") => `(tactic| (with_reducible refine iRng ?_))
local macro_rules | `(tactic| walk_at "step") => `(tactic| (with_reducible refine iFor ?_))
local macro_rules | `(tactic| walk_at "step") => `(tactic| (with_reducible refine iInt ?_))
local macro_rules | `(tactic| walk_at "step") => `(tactic| (with_reducible refine iNeI ?_))
local macro_rules | `(tactic| walk_at "step") => `(tactic| (with_reducible refine iEqI ?_))
local macro_rules | `(tactic| walk_at "step") => `(tactic| (with_reducible refine iDrop ?_))
local macro_rules | `(tactic| walk_at "step") => `(tactic| (with_reducible refine iNext ?_))
local macro_rules | `(tactic| walk_at "step") => `(tactic| (with_reducible refine iRet ?_))
local macro_rules | `(tactic| walk_at "step") => `(tactic| (with_reducible refine iBl ?_))
local macro_rules | `(tactic| walk_at "step") => `(tactic| (with_reducible refine iTest ?_))
local macro_rules | `(tactic| walk_at "step") => `(tactic| (with_reducible refine iIfS ?_))
local macro_rules | `(tactic| walk_at "step") => `(tactic| (with_reducible refine iCB ?_))
local macro_rules | `(tactic| walk_at "step") => `(tactic| (with_reducible refine iNil ?_))
local macro_rules | `(tactic| walk_at "step") => `(tactic| (with_reducible refine iCons ?_))
local macro_rules | `(tactic| walk_at "step") => `(tactic| (with_reducible refine iI0 ?_))
local macro_rules | `(tactic| walk_at "step") => `(tactic| (with_reducible refine iOp ?_))
local macro_rules | `(tactic| walk_at "step") => `(tactic| (with_reducible refine iC ?_))
local macro_rules | `(tactic| walk_at "step") => `(tactic| ((with_reducible apply iVar); (· rfl)))
local macro_rules | `(tactic| walk_at "step") => `(tactic| ((with_reducible apply iName); (· repeat constructor)))
local macro_rules | `(tactic| walk_at "step") => `(tactic| (with_reducible refine iAsg ?_))
local macro_rules | `(tactic| walk_at "step") => `(tactic| (with_reducible refine iSeq ?_))
local macro_rules | `(tactic| walk_at "step") => `(tactic| ((with_reducible apply iMe_Disks__empty); (· walk_at "look")))
local macro_rules | `(tactic| walk_at "step") => `(tactic| ((with_reducible apply iMe_Disks__settle); (· walk_at "look")))
local macro_rules | `(tactic| walk_at "step") => `(tactic| ((with_reducible apply iMe_Disks__fail); (· walk_at "look")))
local macro_rules | `(tactic| walk_at "step") => `(tactic| ((with_reducible apply iMe_Disks__operate); (· walk_at "look")))
local macro_rules | `(tactic| walk_at "step") => `(tactic| ((with_reducible apply iMe_Disks_power); (· walk_at "look")))
local macro_rules | `(tactic| walk_at "step") => `(tactic| ((with_reducible apply iMe_Disks_fail_after); (· walk_at "look")))
local macro_rules | `(tactic| walk_at "step") => `(tactic| ((with_reducible apply iMe_Disks_blank); (· walk_at "look")))
local macro_rules | `(tactic| walk_at "step") => `(tactic| ((with_reducible apply iMe_Disks_away); (· walk_at "look")))
local macro_rules | `(tactic| walk_at "step") => `(tactic| ((with_reducible apply iMe_Disks_bad); (· walk_at "look")))
local macro_rules | `(tactic| walk_at "step") => `(tactic| ((with_reducible apply iMe_Disks_rot); (· walk_at "look")))
local macro_rules | `(tactic| walk_at "step") => `(tactic| ((with_reducible apply iMe_Disks_sync); (· walk_at "look")))
local macro_rules | `(tactic| walk_at "step") => `(tactic| ((with_reducible apply iMe_Disks_write); (· walk_at "look")))
local macro_rules | `(tactic| walk_at "step") => `(tactic| ((with_reducible apply iMe_Disks_ask); (· walk_at "look")))
local macro_rules | `(tactic| walk_at "step") => `(tactic| ((with_reducible apply iMe_Disks_pending); (· walk_at "look")))
local macro_rules | `(tactic| walk_at "step") => `(tactic| ((with_reducible apply iMe_Disks_cell); (· walk_at "look")))
local macro_rules | `(tactic| walk_at "step") => `(tactic| ((with_reducible apply iMe_Disks_is_there); (· walk_at "look")))
local macro_rules | `(tactic| walk_at "step") => `(tactic| ((with_reducible apply iMe_Disks_losses); (· walk_at "look")))
local macro_rules | `(tactic| walk_at "step") => `(tactic| ((with_reducible apply iMe_Disks_is_on); (· walk_at "look")))
local macro_rules | `(tactic| walk_at "step") => `(tactic| ((with_reducible apply iMe_Disks_counts); (· walk_at "look")))
local macro_rules | `(tactic| walk_at "step") => `(tactic| ((with_reducible apply iMe_Disks_sizes); (· walk_at "look")))
local macro_rules | `(tactic| walk_at "step") => `(tactic| ((with_reducible apply iP_Disks__syncs); (· assumption); (· walk_at "look"); (· rfl); (· repeat constructor)))
local macro_rules | `(tactic| walk_at "step") => `(tactic| ((with_reducible apply iN_Disks__syncs); (· assumption); (· walk_at "look"); (· rfl)))
local macro_rules | `(tactic| walk_at "step") => `(tactic| ((with_reducible apply iS_Disks__syncs); (· assumption); (· walk_at "look"); (· repeat constructor)))
local macro_rules | `(tactic| walk_at "step") => `(tactic| ((with_reducible apply iF_Disks__syncs); (· assumption); (· walk_at "look"); (· rfl)))
local macro_rules | `(tactic| walk_at "step") => `(tactic| ((with_reducible apply iP_Disks__writes); (· assumption); (· walk_at "look"); (· rfl); (· repeat constructor)))
local macro_rules | `(tactic| walk_at "step") => `(tactic| ((with_reducible apply iN_Disks__writes); (· assumption); (· walk_at "look"); (· rfl)))
local macro_rules | `(tactic| walk_at "step") => `(tactic| ((with_reducible apply iS_Disks__writes); (· assumption); (· walk_at "look"); (· repeat constructor)))
local macro_rules | `(tactic| walk_at "step") => `(tactic| ((with_reducible apply iF_Disks__writes); (· assumption); (· walk_at "look"); (· rfl)))
local macro_rules | `(tactic| walk_at "step") => `(tactic| ((with_reducible apply iP_Disks__reads); (· assumption); (· walk_at "look"); (· rfl); (· repeat constructor)))
local macro_rules | `(tactic| walk_at "step") => `(tactic| ((with_reducible apply iN_Disks__reads); (· assumption); (· walk_at "look"); (· rfl)))
local macro_rules | `(tactic| walk_at "step") => `(tactic| ((with_reducible apply iS_Disks__reads); (· assumption); (· walk_at "look"); (· repeat constructor)))
local macro_rules | `(tactic| walk_at "step") => `(tactic| ((with_reducible apply iF_Disks__reads); (· assumption); (· walk_at "look"); (· rfl)))
local macro_rules | `(tactic| walk_at "step") => `(tactic| ((with_reducible apply iP_Disks__failures); (· assumption); (· walk_at "look"); (· rfl); (· repeat constructor)))
local macro_rules | `(tactic| walk_at "step") => `(tactic| ((with_reducible apply iN_Disks__failures); (· assumption); (· walk_at "look"); (· rfl)))
local macro_rules | `(tactic| walk_at "step") => `(tactic| ((with_reducible apply iS_Disks__failures); (· assumption); (· walk_at "look"); (· repeat constructor)))
local macro_rules | `(tactic| walk_at "step") => `(tactic| ((with_reducible apply iF_Disks__failures); (· assumption); (· walk_at "look"); (· rfl)))
local macro_rules | `(tactic| walk_at "step") => `(tactic| ((with_reducible apply iM_Disks__left); (· assumption); (· walk_at "look"); (· rfl); (· repeat constructor)))
local macro_rules | `(tactic| walk_at "step") => `(tactic| ((with_reducible apply iN_Disks__left); (· assumption); (· walk_at "look"); (· rfl)))
local macro_rules | `(tactic| walk_at "step") => `(tactic| ((with_reducible apply iS_Disks__left); (· assumption); (· walk_at "look"); (· repeat constructor)))
local macro_rules | `(tactic| walk_at "step") => `(tactic| ((with_reducible apply iF_Disks__left); (· assumption); (· walk_at "look"); (· rfl)))
local macro_rules | `(tactic| walk_at "step") => `(tactic| ((with_reducible apply iN_Disks__on); (· assumption); (· walk_at "look"); (· rfl)))
local macro_rules | `(tactic| walk_at "step") => `(tactic| ((with_reducible apply iS_Disks__on); (· assumption); (· walk_at "look"); (· repeat constructor)))
local macro_rules | `(tactic| walk_at "step") => `(tactic| ((with_reducible apply iF_Disks__on); (· assumption); (· walk_at "look"); (· rfl)))
local macro_rules | `(tactic| walk_at "step") => `(tactic| ((with_reducible apply iN_Disks__waiting); (· assumption); (· walk_at "look"); (· rfl)))
local macro_rules | `(tactic| walk_at "step") => `(tactic| ((with_reducible apply iS_Disks__waiting); (· assumption); (· walk_at "look"); (· repeat constructor)))
local macro_rules | `(tactic| walk_at "step") => `(tactic| ((with_reducible apply iF_Disks__waiting); (· assumption); (· walk_at "look"); (· rfl)))
local macro_rules | `(tactic| walk_at "step") => `(tactic| ((with_reducible apply iN_Disks__media); (· assumption); (· walk_at "look"); (· rfl)))
local macro_rules | `(tactic| walk_at "step") => `(tactic| ((with_reducible apply iS_Disks__media); (· assumption); (· walk_at "look"); (· repeat constructor)))
local macro_rules | `(tactic| walk_at "step") => `(tactic| ((with_reducible apply iF_Disks__media); (· assumption); (· walk_at "look"); (· rfl)))
local macro_rules | `(tactic| walk_at "step") => `(tactic| ((with_reducible apply iN_Disks__there); (· assumption); (· walk_at "look"); (· rfl)))
local macro_rules | `(tactic| walk_at "step") => `(tactic| ((with_reducible apply iS_Disks__there); (· assumption); (· walk_at "look"); (· repeat constructor)))
local macro_rules | `(tactic| walk_at "step") => `(tactic| ((with_reducible apply iF_Disks__there); (· assumption); (· walk_at "look"); (· rfl)))
local macro_rules | `(tactic| walk_at "step") => `(tactic| ((with_reducible apply iN_Disks__sizes); (· assumption); (· walk_at "look"); (· rfl)))
local macro_rules | `(tactic| walk_at "step") => `(tactic| ((with_reducible apply iS_Disks__sizes); (· assumption); (· walk_at "look"); (· repeat constructor)))
local macro_rules | `(tactic| walk_at "step") => `(tactic| ((with_reducible apply iF_Disks__sizes); (· assumption); (· walk_at "look"); (· rfl)))
local macro_rules | `(tactic| walk_at "step") => `(tactic| ((with_reducible apply iN_Disks_scrub_place); (· assumption); (· walk_at "look"); (· rfl)))
local macro_rules | `(tactic| walk_at "step") => `(tactic| ((with_reducible apply iS_Disks_scrub_place); (· assumption); (· walk_at "look"); (· repeat constructor)))
local macro_rules | `(tactic| walk_at "step") => `(tactic| ((with_reducible apply iF_Disks_scrub_place); (· assumption); (· walk_at "look"); (· rfl)))
local macro_rules | `(tactic| walk_at "step") => `(tactic| ((with_reducible apply iN_Disks_formatted); (· assumption); (· walk_at "look"); (· rfl)))
local macro_rules | `(tactic| walk_at "step") => `(tactic| ((with_reducible apply iS_Disks_formatted); (· assumption); (· walk_at "look"); (· repeat constructor)))
local macro_rules | `(tactic| walk_at "step") => `(tactic| ((with_reducible apply iF_Disks_formatted); (· assumption); (· walk_at "look"); (· rfl)))
local macro_rules | `(tactic| walk_at "step") => `(tactic| ((with_reducible apply iN_Disks_in_use); (· assumption); (· walk_at "look"); (· rfl)))
local macro_rules | `(tactic| walk_at "step") => `(tactic| ((with_reducible apply iS_Disks_in_use); (· assumption); (· walk_at "look"); (· repeat constructor)))
local macro_rules | `(tactic| walk_at "step") => `(tactic| ((with_reducible apply iF_Disks_in_use); (· assumption); (· walk_at "look"); (· rfl)))
local macro_rules | `(tactic| walk_at "go") => `(tactic| (repeat walk_at "step"))
section
variable {P : Program} {w : World} {K : PySem.W.Frag} {mg : Str → Option Value} {base : Heap}
/-! ### wrong sizes, right sizes -/
def Bad4 (H : Hp) (v : V) : Prop := ∃ (p : Addr) (a b c d : V), v = .ref p ∧ H p = some (.tup [a, b, c, d]) ∧ Sc a ∧ Sc b ∧ Sc c ∧ Sc d ∧ okS a b c d = false
theorem Bad4.ex {H H' : Hp} {v : V} (h : Bad4 H v) (e : Ex H H') : Bad4 H' v := by
  obtain ⟨p, a, b, c, d, rfl, h, r⟩ := h
  exact ⟨p, a, b, c, d, rfl, e _ _ h, r⟩
theorem Bad4.new {H : Hp} {p : Addr} {a b c d : V} (ha : Sc a) (hb : Sc b) (hc : Sc c) (hd : Sc d) (h : okS a b c d = false) : Bad4 (upd H p (.tup [a, b, c, d])) (.ref p) := ⟨p, a, b, c, d, rfl, upd_same, ha, hb, hc, hd, h⟩
def AllBad (H : Hp) (vs : List V) : Prop := ∀ v ∈ vs, Bad4 H v
theorem AllBad.nil {H : Hp} : AllBad H [] := fun _ h => nomatch h
theorem AllBad.ex {H H' : Hp} {vs : List V} (h : AllBad H vs) (e : Ex H H') : AllBad H' vs := fun v hv => (h v hv).ex e
theorem AllBad.snoc {H : Hp} {vs : List V} {p : Addr} {a b c d : V} (h : AllBad H vs) (hp : H p = none) (ha : Sc a) (hb : Sc b) (hc : Sc c) (hd : Sc d) (ho : okS a b c d = false) : AllBad (upd H p (.tup [a, b, c, d])) (vs ++ [.ref p]) := fun v hv => by
  rcases List.mem_append.mp hv with z | z
  · exact (h v z).ex (Ex.new hp)
  · rw [List.mem_singleton] at z
    subst z
    exact Bad4.new ha hb hc hd ho
theorem AllBad.new {H : Hp} {vs : List V} {p : Addr} {o : HO} (h : AllBad H vs) (hp : H p = none) : AllBad (upd H p o) vs := h.ex (Ex.new hp)
theorem AllBad.app {H : Hp} {vs ws : List V} (h : AllBad H vs) (h2 : AllBad H ws) : AllBad H (vs ++ ws) := fun v hv => (List.mem_append.mp hv).elim (h v) (h2 v)
theorem okS_d {x : Int} {m k s : V} (h : x < 4 ∨ 8 < x) : okS (.int x) m k s = false := by
  have z : numIn (.int x) 4 8 = false := by
    show (decide ((4 : Int) ≤ x) && decide (x ≤ 8)) = false
    rcases h with h | h
    · rw [decide_eq_false (by omega), Bool.false_and]
    · rw [decide_eq_false (p := x ≤ 8) (by omega), Bool.and_false]
  unfold okS
  rw [z, Bool.false_and, Bool.false_and]
theorem okS_m {x d : Int} {k s : V} (h : 200 < x) : okS (.int d) (.int x) k s = false := by
  have z : numIn (.int x) 48 200 = false := by
    show (decide ((48 : Int) ≤ x) && decide (x ≤ 200)) = false
    rw [decide_eq_false (p := x ≤ 200) (by omega), Bool.and_false]
  unfold okS
  rw [z, Bool.and_false, Bool.false_and]
theorem iNewTB {H : Hp} {Q : VK} {vs : List V} {a b c d : V} (h : AllBad H vs) (ha : Sc a) (hb : Sc b) (hc : Sc c) (hd : Sc d) (ho : okS a b c d = false) (q : ∀ p H', Ex H H' → AllBad H' (vs ++ [.ref p]) → Q (.ref p) H') : kNewT Q [a, b, c, d] H :=
  iNewT (by simp) fun p hp => q p _ (Ex.new hp) (h.snoc hp ha hb hc hd ho)
theorem iNewLB {H : Hp} {Q : VK} {xs : List V} (hl : xs.length ≤ 100000) (q : ∀ p H', Ex H H' → H' p = some (.lst xs) → Q (.ref p) H') : kNewL Q xs H := iNewL hl fun p hp => q p _ (Ex.new hp) upd_same
theorem iCatB {H : Hp} {Q : VK} {l m : Addr} {xs ys : List V} (h : H l = some (.lst xs)) (h2 : H m = some (.lst ys)) (hz : xs.length + ys.length ≤ 100000) (q : ∀ p H', Ex H H' → H' p = some (.lst (xs ++ ys)) → Q (.ref p) H') : rCat (.ref l) (.ref m) H Q := iCat h h2 hz fun p hp => q p _ (Ex.new hp) upd_same
theorem iNewTG {H : Hp} {Q : VK} {xs : List V} (hl : xs.length ≤ 100000) (q : ∀ p H', Ex H H' → H' p = some (.tup xs) → Q (.ref p) H') : kNewT Q xs H := iNewT hl fun p hp => q p _ (Ex.new hp) upd_same
def Good4 (H : Hp) (v : V) : Prop := ∃ (p : Addr) (n m k s : Nat), v = .ref p ∧ H p = some (.tup [.int (n : Nat), .int (m : Nat), .int (k : Nat), .int (s : Nat)]) ∧ 4 ≤ n ∧ n ≤ 8 ∧ 48 ≤ m ∧ m ≤ 200 ∧ 1 ≤ k ∧ 1 ≤ s ∧ k + s ≤ n
def sp_wrong : Sp := fun vs H Q _ => ∃ n : Nat, vs = [.int n] ∧ n < 100 ∧ ∀ H', Ex H H' → Q (.bl true) H'
theorem ok_wrong {C CI CR : Addr} (M : Mg mg) (T : Tx_Disks K C) (e_InvalidArgument : ExT K mg "InvalidArgument" CI) (e_RotError : ExT K mg "RotError" CR) (hE : ErrH K CI CR) (hKR : PySem.W.kitOne K (.ref CI) (.ref CR) = some true) (g_VE : mg "ValueError" = none) {f : Addr} {fd : FuncData} (F : Fun K "_law_wrong" "_law_wrong" s__law_wrong f fd) (cE_Disks : MakX P w K mg base 3 C "Disks" ["self", "disks", "sectors", "carrying", "depth"] (sp_initE C CI)) (c_Disks : MakX P w K mg base 3 C "Disks" ["self", "disks", "sectors", "carrying", "depth"] (sp_init C CI))
    (c_Disks_sizes : MetX P w K mg base 1 C "sizes" ["self"] (sp_sizes C)) (c_Disks_counts : MetX P w K mg base 1 C "counts" ["self"] (sp_counts C)) : FnOk P w K mg base CX0 5 f fd ["number"] sp_wrong := by
  refine F.ok sc__law_wrong (fun vs H Q E h => ?_) (fun cdv A outer s H vs Q E hr h => ?_)
  · obtain ⟨n, rfl, _⟩ := h; rfl
  · obtain ⟨n, rfl, hn, q⟩ := h
    refine ⟨_, (pss_cons (ps_set (i := 1) sc__law_wrong.nd rfl (Or.inl rfl) (pe_lst (pa_cons (pe_tup (pa_cons pe_int (pa_cons pe_int (pa_cons pe_int (pa_cons pe_int pa_nil))))) (pa_cons (pe_tup (pa_cons (pe_op op_add pe_int (pe_op op_mod (pv 0) pe_int)) (pa_cons pe_int (pa_cons pe_int (pa_cons pe_int pa_nil))))) (pa_cons (pe_tup (pa_cons pe_int (pa_cons pe_int (pa_cons pe_int (pa_cons pe_int pa_nil))))) (pa_cons (pe_tup (pa_cons pe_int (pa_cons (pe_op op_add pe_int (pv 0)) (pa_cons pe_int (pa_cons pe_int pa_nil))))) (pa_cons (pe_tup (pa_cons pe_int (pa_cons pe_int (pa_cons pe_int (pa_cons pe_int pa_nil))))) pa_nil))))))) (pss_cons (ps_set (i := 1) sc__law_wrong.nd rfl (Or.inl rfl) (pe_op op_cat (pv 1) (pe_lst (pa_cons (pe_tup (pa_cons pe_int (pa_cons pe_int (pa_cons pe_int (pa_cons pe_int pa_nil))))) (pa_cons (pe_tup (pa_cons pe_int (pa_cons pe_int (pa_cons pe_int (pa_cons pe_int pa_nil))))) (pa_cons (pe_tup (pa_cons pe_int (pa_cons pe_int (pa_cons pe_int (pa_cons pe_int pa_nil))))) (pa_cons (pe_tup (pa_cons pe_bl (pa_cons pe_int (pa_cons pe_int (pa_cons pe_int pa_nil))))) (pa_cons (pe_tup (pa_cons pe_int (pa_cons pe_str (pa_cons pe_int (pa_cons pe_int pa_nil))))) (pa_cons (pe_tup (pa_cons pe_int (pa_cons pe_int (pa_cons pe_non (pa_cons pe_int pa_nil))))) pa_nil))))))))) (pss_cons (ps_set (i := 1) sc__law_wrong.nd rfl (Or.inl rfl) (pe_op op_cat (pv 1) (pe_lst (pa_cons (pe_tup (pa_cons pe_int (pa_cons pe_int (pa_cons pe_bl (pa_cons pe_int pa_nil))))) (pa_cons (pe_tup (pa_cons pe_int (pa_cons pe_int (pa_cons pe_int (pa_cons pe_bl pa_nil))))) (pa_cons (pe_tup (pa_cons pe_int (pa_cons pe_int (pa_cons (pe_un un_neg pe_int) (pa_cons pe_int pa_nil))))) pa_nil)))))) (pss_cons (ps_for PassesOwn.never rfl (pi_l (pv 1)) (pg_tup (by rfl) (pgs_cons (pg_name (i := 2) sc__law_wrong.nd rfl (Or.inl rfl)) (pgs_cons (pg_name (i := 3) sc__law_wrong.nd rfl (Or.inl rfl)) (pgs_cons (pg_name (i := 4) sc__law_wrong.nd rfl (Or.inl rfl)) (pgs_cons (pg_name (i := 5) sc__law_wrong.nd rfl (Or.inl rfl)) pgs_nil))))) (pss_one (ps_try_as (i := 6) rfl rfl sc__law_wrong.nd rfl rfl ⟨rfl, by decide, .inl e_InvalidArgument.g⟩ takes0 (fun W pn xe tk po => (pss_cons (ps_expr (pe_makS cE_Disks (hr.mono (by omega)) (by rfl) (fun σ => passAt tk σ) (pa_cons (pv 2) (pa_cons (pv 3) (pa_cons (pv 4) (pa_cons (pv 5) pa_nil)))))) (pss_one (ps_ret pe_bl)))) (fun a oe cls d pn hz hf => (pss_one (ps_if (PW.pt (pw_or (pt_not (pt_val (pe_callB (cr_isX hz hf) (by rfl) M.n_isinstance (by decide +kernel) (pa_cons (pv 6) (pa_cons (pe_glob (v := V.ref CR) (by rfl) e_RotError.g rfl) pa_nil))))) (pw_or1 (pt_not (pt_val (pe_callB (cr_isX hz hf) (by rfl) M.n_isinstance (by decide +kernel) (pa_cons (pv 6) (pa_cons (pe_ty (n := "ValueError") (by rfl) g_VE (by decide +kernel)) pa_nil)))))))) (pss_one (ps_ret pe_bl)) pss_nil)))))) (pss_cons (ps_for PassesOwn.never rfl (pi_l (pe_lst (pa_cons (pe_tup (pa_cons pe_int (pa_cons pe_int (pa_cons pe_int (pa_cons pe_int pa_nil))))) (pa_cons (pe_tup (pa_cons pe_int (pa_cons pe_int (pa_cons pe_int (pa_cons pe_int pa_nil))))) (pa_cons (pe_tup (pa_cons pe_int (pa_cons pe_int (pa_cons pe_int (pa_cons pe_int pa_nil))))) (pa_cons (pe_tup (pa_cons pe_int (pa_cons pe_int (pa_cons pe_int (pa_cons pe_int pa_nil))))) pa_nil)))))) (pg_name (i := 7) sc__law_wrong.nd rfl (Or.inl rfl)) (pss_cons (ps_set (i := 2) sc__law_wrong.nd rfl (Or.inl rfl) (pe_makE c_Disks (hr.mono (by omega)) (by rfl) (pa_cons (pe_ix ix_t (pv 7) pe_int (fun _ _ => rfl)) (pa_cons (pe_ix ix_t (pv 7) pe_int (fun _ _ => rfl)) (pa_cons (pe_ix ix_t (pv 7) pe_int (fun _ _ => rfl)) (pa_cons (pe_ix ix_t (pv 7) pe_int (fun _ _ => rfl)) pa_nil)))))) (pss_one (ps_if (PW.pt (pw_or (pt_cmpR (op_neD hr.units) (pe_metE0 c_Disks_sizes (hr.mono (by omega)) xp0 (pv 2)) (pv 7) (nomark _)) (pw_or (pt_cmpR (op_neD hr.units) (pe_metE0 c_Disks_counts (hr.mono (by omega)) xp0 (pv 2)) (pe_tup (pa_cons pe_int (pa_cons pe_int (pa_cons pe_int pa_nil)))) (nomark _)) (pw_or1 (pt_cmpR op_ne (pe_fld (pv 2) rfl) pe_int (nomark _)))))) (pss_one (ps_ret pe_bl)) pss_nil)))) (pss_one (ps_ret pe_bl))))))), ?_⟩
    refine iBody (by repeat constructor) ?_
    walk_at "go"
    have e0 : Ex H H := Ex.refl H
    have b0 : AllBad H [] := AllBad.nil
    refine iNewTB b0 trivial trivial trivial trivial rfl fun p1 H1 f1 b1 => ?_
    have e1 := e0.trans f1
    walk_at "go"
    refine iNewTB b1 trivial trivial trivial trivial (okS_d (Or.inr (by omega))) fun p2 H2 f2 b2 => ?_
    have e2 := e1.trans f2
    walk_at "go"
    refine iNewTB b2 trivial trivial trivial trivial rfl fun p3 H3 f3 b3 => ?_
    have e3 := e2.trans f3
    walk_at "go"
    refine iNewTB b3 trivial trivial trivial trivial (okS_m (by omega)) fun p4 H4 f4 b4 => ?_
    have e4 := e3.trans f4
    walk_at "go"
    refine iNewTB b4 trivial trivial trivial trivial rfl fun p5 H5 f5 b5 => ?_
    have e5 := e4.trans f5
    walk_at "go"
    refine iNewLB (by simp) fun l1 H6 f6 al1 => ?_
    have e6 := e5.trans f6
    have b6 := b5.ex f6
    walk_at "go"
    refine iNewTB b6 trivial trivial trivial trivial rfl fun p7 H7 f7 b7 => ?_
    have al1 := f7 _ _ al1
    have e7 := e6.trans f7
    walk_at "go"
    refine iNewTB b7 trivial trivial trivial trivial rfl fun p8 H8 f8 b8 => ?_
    have al1 := f8 _ _ al1
    have e8 := e7.trans f8
    walk_at "go"
    refine iNewTB b8 trivial trivial trivial trivial rfl fun p9 H9 f9 b9 => ?_
    have al1 := f9 _ _ al1
    have e9 := e8.trans f9
    walk_at "go"
    refine iNewTB b9 trivial trivial trivial trivial rfl fun p10 H10 f10 b10 => ?_
    have al1 := f10 _ _ al1
    have e10 := e9.trans f10
    walk_at "go"
    refine iNewTB b10 trivial trivial trivial trivial rfl fun p11 H11 f11 b11 => ?_
    have al1 := f11 _ _ al1
    have e11 := e10.trans f11
    walk_at "go"
    refine iNewTB b11 trivial trivial trivial trivial rfl fun p12 H12 f12 b12 => ?_
    have al1 := f12 _ _ al1
    have e12 := e11.trans f12
    walk_at "go"
    refine iNewLB (by simp) fun l2 H13 f13 al2 => ?_
    have al1 := f13 _ _ al1
    have e13 := e12.trans f13
    have b13 := b12.ex f13
    walk_at "go"
    refine iCatB al1 al2 (by simp) fun l3 H14 f14 al3 => ?_
    have al1 := f14 _ _ al1
    have al2 := f14 _ _ al2
    have e14 := e13.trans f14
    have b14 := b13.ex f14
    walk_at "go"
    refine iNewTB b14 trivial trivial trivial trivial rfl fun p15 H15 f15 b15 => ?_
    have al1 := f15 _ _ al1
    have al2 := f15 _ _ al2
    have al3 := f15 _ _ al3
    have e15 := e14.trans f15
    walk_at "go"
    refine iNewTB b15 trivial trivial trivial trivial rfl fun p16 H16 f16 b16 => ?_
    have al1 := f16 _ _ al1
    have al2 := f16 _ _ al2
    have al3 := f16 _ _ al3
    have e16 := e15.trans f16
    walk_at "go"
    refine iNewTB b16 trivial trivial trivial trivial rfl fun p17 H17 f17 b17 => ?_
    have al1 := f17 _ _ al1
    have al2 := f17 _ _ al2
    have al3 := f17 _ _ al3
    have e17 := e16.trans f17
    walk_at "go"
    refine iNewLB (by simp) fun l4 H18 f18 al4 => ?_
    have al1 := f18 _ _ al1
    have al2 := f18 _ _ al2
    have al3 := f18 _ _ al3
    have e18 := e17.trans f18
    have b18 := b17.ex f18
    walk_at "go"
    refine iCatB al3 al4 (by simp) fun l5 H19 f19 al5 => ?_
    have al1 := f19 _ _ al1
    have al2 := f19 _ _ al2
    have al3 := f19 _ _ al3
    have al4 := f19 _ _ al4
    have e19 := e18.trans f19
    have b19 := b18.ex f19
    walk_at "go"
    have al5 : H19 l5 = some (.lst [V.ref p1, V.ref p2, V.ref p3, V.ref p4, V.ref p5, V.ref p7, V.ref p8, V.ref p9, V.ref p10, V.ref p11, V.ref p12, V.ref p15, V.ref p16, V.ref p17]) := al5
    have bad : AllBad H19 [.ref p1, .ref p2, .ref p3, .ref p4, .ref p5, .ref p7, .ref p8, .ref p9, .ref p10, .ref p11, .ref p12, .ref p15, .ref p16, .ref p17] := b19
    have lenb : [V.ref p1, V.ref p2, V.ref p3, V.ref p4, V.ref p5, V.ref p7, V.ref p8, V.ref p9, V.ref p10, V.ref p11, V.ref p12, V.ref p15, V.ref p16, V.ref p17].length = 14 := rfl
    generalize [V.ref p1, V.ref p2, V.ref p3, V.ref p4, V.ref p5, V.ref p7, V.ref p8, V.ref p9, V.ref p10, V.ref p11, V.ref p12, V.ref p15, V.ref p16, V.ref p17] = bvs at bad al5 lenb
    have e0 := e19
    clear b0 b1 b2 b3 b4 b5 b6 b7 b8 b9 b10 b11 b12 b13 b14 b15 b16 b17 b18 b19

    refine forJ_list bvs (fun i σ' H' => (∃ x1 x2 x3 x4, σ' = [some (.int n), some (.ref l5), x1, x2, x3, x4, none, none]) ∧ Ex H19 H') ⟨⟨_, _, _, _, rfl⟩, Ex.refl _⟩ (fun i σ' H' _ h => h.2 _ _ al5) (fun i x σ' H' hx h => ?_) (fun σ' H' h => ?_)
    · obtain ⟨⟨x1, x2, x3, x4, rfl⟩, eJ⟩ := h
      obtain ⟨p, a, b, c, d, rfl, hp, ha, hb, hc, hd, ho⟩ := (bad x (List.mem_of_getElem? hx)).ex eJ
      walk_at "go"
      intro y dy hy hdy nyd
      refine ⟨y, dy, a, b, c, d, rfl, ha, hb, hc, hd, ho, upd_same, ?_⟩
      have e2 : Ex H' (upd (upd H' dy (.own y)) y (.ins C dy [])) := fun u o hu => (upd_ne (ne_of_none hu hy)).trans ((upd_ne (ne_of_none hu hdy)).trans hu)
      refine ⟨true, e_InvalidArgument.ex, fun _ er her => ?_, fun z => nomatch z⟩
      walk_at "go"
      refine iIsX (c := V.ref CR) (cv := Value.ref CR) hE.c (fun u r => r) hKR ?_
      walk_at "go"
      refine iIsX (c := V.ty "ValueError") (cv := Value.type "ValueError") hE.c (fun u r => r) hE.v ?_
      walk_at "go"
      exact ⟨⟨_, _, _, _, rfl⟩, eJ.trans e2⟩
    · obtain ⟨⟨x1, x2, x3, x4, rfl⟩, eJ⟩ := h
      walk_at "go"
      refine iNewTG (by simp) fun q1 J1 g1 h1 => ?_
      walk_at "go"
      refine iNewTG (by simp) fun q2 J2 g2 h2 => ?_
      walk_at "go"
      refine iNewTG (by simp) fun q3 J3 g3 h3 => ?_
      walk_at "go"
      refine iNewTG (by simp) fun q4 J4 g4 h4 => ?_
      walk_at "go"
      refine iNewLB (by simp) fun l6 J5 g5 al6 => ?_
      have good : ∀ v ∈ [V.ref q1, .ref q2, .ref q3, .ref q4], Good4 J5 v := fun v hv => by
        simp only [List.mem_cons, List.not_mem_nil, or_false] at hv
        rcases hv with rfl | rfl | rfl | rfl
        · exact ⟨q1, 4, 48, 1, 1, rfl, g5 _ _ (g4 _ _ (g3 _ _ (g2 _ _ h1))), by decide⟩
        · exact ⟨q2, 8, 200, 7, 1, rfl, g5 _ _ (g4 _ _ (g3 _ _ h2)), by decide⟩
        · exact ⟨q3, 8, 60, 4, 4, rfl, g5 _ _ (g4 _ _ h3), by decide⟩
        · exact ⟨q4, 5, 100, 1, 4, rfl, g5 _ _ h4, by decide⟩
      have e5 : Ex H J5 := e0.trans (eJ.trans (g1.trans (g2.trans (g3.trans (g4.trans g5)))))
      generalize [V.ref q1, V.ref q2, V.ref q3, V.ref q4] = gvs at good al6
      walk_at "go"
      refine forJ_list gvs (fun i σ' H2 => (∃ y1 y5, σ' = [some (.int n), some (.ref l5), y1, x2, x3, x4, none, y5]) ∧ Ex J5 H2) ⟨⟨_, _, rfl⟩, Ex.refl _⟩ (fun i σ' H2 _ h => h.2 _ _ al6) (fun i x σ' H2 hx h => ?_) (fun σ' H2 h => ?_)
      · obtain ⟨⟨y1, y5, rfl⟩, eK⟩ := h
        obtain ⟨p, n', m, k, s', rfl, hp, n4, n8, m4, m2, k1, s1, ks⟩ := good x (List.mem_of_getElem? hx)
        have hp := eK _ _ hp
        walk_at "go"
        intro y dy hy hdy nyd
        have e2 : Ex H2 (upd (upd H2 dy (.own y)) y (.ins C dy [])) := fun u o hu => (upd_ne (ne_of_none hu hy)).trans ((upd_ne (ne_of_none hu hdy)).trans hu)
        refine j_init n4 n8 m4 m2 k1 s1 ks upd_same e2 hy fun H3 F3 L eL D0 => ⟨rfl, ?_⟩
        subst eL
        obtain ⟨dx, szs, hO, -⟩ := D0.obj
        have hp3 := D0.rs _ _ hp
        have eK3 := eK.trans D0.rs
        walk_at "go"
        refine j_sizes D0 fun pz hz => ?_
        walk_at "go"
        refine iNeTI [(n' : Int), (m : Int), (k : Int), (s' : Int)] hz hp3 ?_
        walk_at "go"
        refine j_counts D0 fun pc hpc => ?_
        walk_at "go"
        refine iNewT (by simp) fun pt hpt => ?_
        refine iNeTI [(0 : Int), 0, 0] ((upd_ne (ne_of_none upd_same hpt)).trans upd_same) upd_same ?_
        have hO := (upd_ne (o := .tup [.int 0, .int 0, .int 0]) (ne_of_none ((upd_ne (ne_of_none hO hpc)).trans hO) hpt)).trans ((upd_ne (o := .tup [.int ((DK.new n' m k s').reads : Nat), .int ((DK.new n' m k s').writes : Nat), .int ((DK.new n' m k s').syncs : Nat)]) (ne_of_none hO hpc)).trans hO)
        have eF := eK3.trans ((Ex.new (o := .tup [.int ((DK.new n' m k s').reads : Nat), .int ((DK.new n' m k s').writes : Nat), .int ((DK.new n' m k s').syncs : Nat)]) hpc).trans (Ex.new (o := .tup [.int 0, .int 0, .int 0]) hpt))
        generalize upd (upd H3 pc _) pt _ = H4 at hO eF ⊢
        walk_at "go"
        exact ⟨⟨_, _, rfl⟩, eF⟩
      · obtain ⟨⟨y1, y5, rfl⟩, eK⟩ := h
        walk_at "go"
        exact q _ (e5.trans eK)
end
end R
set_option Elab.async false
set_option linter.all false
set_option maxRecDepth 100000
set_option maxHeartbeats 4000000
namespace R
open PySem PySem.Spec L2 L2H
open Evl (Ex)
abbrev s__law_one : Stmt := topS 13
theorem sc__law_one : FnScope ["disks", "counts", "number", "disk", "k"] ["disks", "counts", "number"] (defScope s__law_one) := ⟨rfl, rfl, rfl, by decide +kernel, rfl, by decide +kernel, by decide +kernel⟩
abbrev s__law_dark : Stmt := topS 12
theorem sc__law_dark : FnScope ["disks", "told", "kind", "error", "k"] ["disks"] (defScope s__law_dark) := ⟨rfl, rfl, rfl, by decide +kernel, rfl, by decide +kernel, by decide +kernel⟩
local macro_rules | `(tactic| walk_at "ne") => `(tactic| (apply Ne.symm; apply ne_fresh; (· assumption); (· walk_at "look")))
local macro_rules | `(tactic| walk_at "ne") => `(tactic| (apply ne_fresh; (· assumption); (· walk_at "look")))
local macro_rules | `(tactic| walk_at "ne") => `(tactic| (apply Ne.symm; assumption))
local macro_rules | `(tactic| walk_at "ne") => `(tactic| assumption)
local macro_rules | `(tactic| walk_at "look") => `(tactic| (refine exAt (by assumption) ?_; walk_at "look"))
local macro_rules | `(tactic| walk_at "look") => `(tactic| (refine (upd_ne ?_).trans ?_; (· walk_at "ne"); (· walk_at "look")))
local macro_rules | `(tactic| walk_at "look") => `(tactic| exact upd_same)
local macro_rules | `(tactic| walk_at "look") => `(tactic| assumption)
local macro_rules | `(tactic| walk_at "side") => `(tactic| (exact ⟨by decide, by decide, by decide⟩))
local macro_rules | `(tactic| walk_at "side") => `(tactic| (exact ⟨by omega, by omega⟩))
local macro_rules | `(tactic| walk_at "side") => `(tactic| (show (0:Int) ≤ _; omega))
local macro_rules | `(tactic| walk_at "side") => `(tactic| (show (0:Int) < _; omega))
local macro_rules | `(tactic| walk_at "side") => `(tactic| (exact Or.inr ⟨by omega, by omega⟩))
local macro_rules | `(tactic| walk_at "side") => `(tactic| (exact Or.inl ⟨by omega, by omega⟩))
local macro_rules | `(tactic| walk_at "step") => `(tactic| ((with_reducible apply iZL); (· walk_at "look"); (· walk_at "look")))
local macro_rules | `(tactic| walk_at "step") => `(tactic| ((with_reducible apply iItL); (· walk_at "look")))
local macro_rules | `(tactic| walk_at "step") => `(tactic| ((with_reducible apply iRng2I); (· omega); (· omega); (· omega); (· omega)))
local macro_rules | `(tactic| walk_at "step") => `(tactic| ((with_reducible apply iDNi); (· walk_at "look")))
local macro_rules | `(tactic| walk_at "step") => `(tactic| ((with_reducible apply iDIi); (· walk_at "look")))
local macro_rules | `(tactic| walk_at "step") => `(tactic| ((with_reducible apply iGTup); (· walk_at "look"); (· rfl)))
local macro_rules | `(tactic| walk_at "step") => `(tactic| ((with_reducible apply iLcB); (· rfl)))
local macro_rules | `(tactic| walk_at "step") => `(tactic| ((with_reducible apply ifNn); (· omega)))
local macro_rules | `(tactic| walk_at "step") => `(tactic| ((with_reducible apply ifNp); (· omega)))
local macro_rules | `(tactic| walk_at "step") => `(tactic| ((with_reducible apply ifF); (· apply decide_eq_false; omega)))
local macro_rules | `(tactic| walk_at "step") => `(tactic| ((with_reducible apply ifT); (· apply decide_eq_true; omega)))
local macro_rules | `(tactic| walk_at "step") => `(tactic| ((with_reducible apply ifF); (· rfl)))
local macro_rules | `(tactic| walk_at "step") => `(tactic| ((with_reducible apply ifT); (· rfl)))
local macro_rules | `(tactic| walk_at "step") => `(tactic| ((with_reducible apply iLenS); (· first | exact Or.inl (by walk_at "look") | exact Or.inr (by walk_at "look"))))
local macro_rules | `(tactic| walk_at "step") => `(tactic| ((with_reducible apply iLenT); (· walk_at "look")))
local macro_rules | `(tactic| walk_at "step") => `(tactic| ((with_reducible apply iIsi); (· first | exact tyN_int | exact tyN_bl | exact tyN_non | exact tyN_str | exact tyN_lst (by walk_at "look") | exact tyN_tup (by walk_at "look")); (· (first | exact kb_NoneType_bool | exact kb_NoneType_int | exact kb_NoneType_str | exact kb_NoneType_tuple | exact kb_NoneType_list | exact kb_bool_bool | exact kb_bool_int | exact kb_bool_str | exact kb_bool_tuple | exact kb_bool_list | exact kb_int_bool | exact kb_int_int | exact kb_int_str | exact kb_int_tuple | exact kb_int_list | exact kb_str_bool | exact kb_str_int | exact kb_str_str | exact kb_str_tuple | exact kb_str_list | exact kb_tuple_bool | exact kb_tuple_int | exact kb_tuple_str | exact kb_tuple_tuple | exact kb_tuple_list | exact kb_list_bool | exact kb_list_int | exact kb_list_str | exact kb_list_tuple | exact kb_list_list))))
local macro_rules | `(tactic| walk_at "step") => `(tactic| ((with_reducible apply iIxT); (· walk_at "look"); (· rfl)))
local macro_rules | `(tactic| walk_at "step") => `(tactic| ((with_reducible apply iSetL); (· walk_at "look"); (· rfl)))
local macro_rules | `(tactic| walk_at "step") => `(tactic| ((with_reducible apply iLenL); (· walk_at "look")))
local macro_rules | `(tactic| walk_at "step") => `(tactic| ((with_reducible apply iIxL); (· walk_at "look"); (· rfl)))
local macro_rules | `(tactic| walk_at "step") => `(tactic| ((with_reducible apply iI); rotate_left; (· (first | (exact Or.inl ⟨by omega, by omega⟩) | (exact Or.inr ⟨by omega, by omega⟩) | (show (0:Int) < _; omega) | (show (0:Int) ≤ _; omega) | (exact ⟨by omega, by omega⟩) | (exact ⟨by decide, by decide, by decide⟩)))))
local macro_rules | `(tactic| walk_at "step") => `(tactic| ((with_reducible apply iAugK); (· rfl)))
local macro_rules | `(tactic| walk_at "step") => `(tactic| ((with_reducible apply iRngI); (· first | decide | omega); (· first | decide | omega)))
local macro_rules | `(tactic| walk_at "step") => `(tactic| (with_reducible refine iDEa ?_))
local macro_rules | `(tactic| walk_at "step") => `(tactic| (with_reducible refine iGNil ?_))
local macro_rules | `(tactic| walk_at "step") => `(tactic| (with_reducible refine iGCons ?_))
local macro_rules | `(tactic| walk_at "step") => `(tactic| (with_reducible refine iZipK ?_))
local macro_rules | `(tactic| walk_at "step") => `(tactic| (with_reducible refine iRng2 ?_))
local macro_rules | `(tactic| walk_at "step") => `(tactic| (with_reducible refine iDPut ?_))
local macro_rules | `(tactic| walk_at "step") => `(tactic| (with_reducible refine iDNotIn ?_))
local macro_rules | `(tactic| walk_at "step") => `(tactic| (with_reducible refine iDIn ?_))
local macro_rules | `(tactic| walk_at "step") => `(tactic| (with_reducible refine iDGet ?_))
local macro_rules | `(tactic| walk_at "step") => `(tactic| (with_reducible refine iYes ?_))
local macro_rules | `(tactic| walk_at "step") => `(tactic| (with_reducible refine iLc ?_))
local macro_rules | `(tactic| walk_at "step") => `(tactic| (with_reducible refine iNeS ?_))
local macro_rules | `(tactic| walk_at "step") => `(tactic| (with_reducible refine iEqS ?_))
local macro_rules | `(tactic| walk_at "step") => `(tactic| (with_reducible refine iNeB ?_))
local macro_rules | `(tactic| walk_at "step") => `(tactic| (with_reducible refine iEqB ?_))
local macro_rules | `(tactic| walk_at "step") => `(tactic| (with_reducible refine iCont ?_))
local macro_rules | `(tactic| walk_at "step") => `(tactic| (with_reducible refine iBreak ?_))
local macro_rules | `(tactic| walk_at "step") => `(tactic| (with_reducible refine iIterL ?_))
local macro_rules | `(tactic| walk_at "step") => `(tactic| (with_reducible refine iTup ?_))
local macro_rules | `(tactic| walk_at "step") => `(tactic| (with_reducible refine iLst ?_))
local macro_rules | `(tactic| walk_at "step") => `(tactic| (with_reducible refine iSub ?_))
local macro_rules | `(tactic| walk_at "step") => `(tactic| (with_reducible refine iIpI ?_))
local macro_rules | `(tactic| walk_at "step") => `(tactic| (with_reducible refine iAugS ?_))
local macro_rules | `(tactic| walk_at "step") => `(tactic| (with_reducible refine iNotV ?_))
local macro_rules | `(tactic| walk_at "step") => `(tactic| (with_reducible refine iOrV ?_))
local macro_rules | `(tactic| walk_at "step") => `(tactic| (with_reducible refine iAndV ?_))
local macro_rules | `(tactic| walk_at "step") => `(tactic| (with_reducible refine iDGet1 ?_))
local macro_rules | `(tactic| walk_at "step") => `(tactic| (with_reducible refine iNotBl ?_))
local macro_rules | `(tactic| walk_at "step") => `(tactic| (with_reducible refine iIsB ?_))
local macro_rules | `(tactic| walk_at "step") => `(tactic| (with_reducible refine iIntB ?_))
local macro_rules | `(tactic| walk_at "step") => `(tactic| (with_reducible refine iPn ?_))
local macro_rules | `(tactic| walk_at "step") => `(tactic| (with_reducible refine iPr ?_))
local macro_rules | `(tactic| walk_at "step") => `(tactic| (with_reducible refine iRai ?_))
local macro_rules | `(tactic| walk_at "step") => `(tactic| (with_reducible refine iRev1 ?_))
local macro_rules | `(tactic| walk_at "step") => `(tactic| (with_reducible refine iBM ?_))
local macro_rules | `(tactic| walk_at "step") => `(tactic| (with_reducible refine iAugF ?_))
local macro_rules | `(tactic| walk_at "step") => `(tactic| (with_reducible refine iSto ?_))
local macro_rules | `(tactic| walk_at "step") => `(tactic| (with_reducible refine iFld ?_))
local macro_rules | `(tactic| walk_at "step") => `(tactic| (with_reducible refine iMakS ?_))
local macro_rules | `(tactic| walk_at "step") => `(tactic| (with_reducible refine iMak ?_))
local macro_rules | `(tactic| walk_at "step") => `(tactic| (with_reducible refine iMet ?_))
local macro_rules | `(tactic| walk_at "step") => `(tactic| (with_reducible refine iCalE ?_))
local macro_rules | `(tactic| walk_at "step") => `(tactic| (with_reducible refine ifDr ?_))
local macro_rules | `(tactic| walk_at "step") => `(tactic| (with_reducible refine ifNDr ?_))
local macro_rules | `(tactic| walk_at "step") => `(tactic| (with_reducible refine iTruI ?_))
local macro_rules | `(tactic| walk_at "step") => `(tactic| (with_reducible refine iNotN ?_))
local macro_rules | `(tactic| walk_at "step") => `(tactic| (with_reducible refine iIsN ?_))
local macro_rules | `(tactic| walk_at "step") => `(tactic| (with_reducible refine iRetN ?_))
local macro_rules | `(tactic| walk_at "step") => `(tactic| (with_reducible refine iU ?_))
local macro_rules | `(tactic| walk_at "step") => `(tactic| (with_reducible refine iUn ?_))
local macro_rules | `(tactic| walk_at "step") => `(tactic| (with_reducible refine iChain ?_))
local macro_rules | `(tactic| walk_at "step") => `(tactic| (with_reducible refine iIf ?_))
local macro_rules | `(tactic| walk_at "step") => `(tactic| (with_reducible refine iB ?_))
local macro_rules | `(tactic| walk_at "step") => `(tactic| (with_reducible refine iNot ?_))
local macro_rules | `(tactic| walk_at "step") => `(tactic| (with_reducible refine iOr ?_))
local macro_rules | `(tactic| walk_at "step") => `(tactic| (with_reducible refine iAnd ?_))
local macro_rules | `(tactic| walk_at "step") => `(tactic| (with_reducible refine iCal ?_))
local macro_rules | `(tactic| walk_at "step") => `(tactic| (with_reducible refine iRng ?_))
local macro_rules | `(tactic| walk_at "step") => `(tactic| (with_reducible refine iFor ?_))
local macro_rules | `(tactic| walk_at "step") => `(tactic| (with_reducible refine iInt ?_))
local macro_rules | `(tactic| walk_at "step") => `(tactic| (with_reducible refine iNeI ?_))
local macro_rules | `(tactic| walk_at "step") => `(tactic| (with_reducible refine iEqI ?_))
local macro_rules | `(tactic| walk_at "step") => `(tactic| (with_reducible refine iDrop ?_))
local macro_rules | `(tactic| walk_at "step") => `(tactic| (with_reducible refine iNext ?_))
local macro_rules | `(tactic| walk_at "step") => `(tactic| (with_reducible refine iRet ?_))
local macro_rules | `(tactic| walk_at "step") => `(tactic| (with_reducible refine iBl ?_))
local macro_rules | `(tactic| walk_at "step") => `(tactic| (with_reducible refine iTest ?_))
local macro_rules | `(tactic| walk_at "step") => `(tactic| (with_reducible refine iIfS ?_))
local macro_rules | `(tactic| walk_at "step") => `(tactic| (with_reducible refine iCB ?_))
local macro_rules | `(tactic| walk_at "step") => `(tactic| (with_reducible refine iNil ?_))
local macro_rules | `(tactic| walk_at "step") => `(tactic| (with_reducible refine iCons ?_))
local macro_rules | `(tactic| walk_at "step") => `(tactic| (with_reducible refine iI0 ?_))
local macro_rules | `(tactic| walk_at "step") => `(tactic| (with_reducible refine iOp ?_))
local macro_rules | `(tactic| walk_at "step") => `(tactic| (with_reducible refine iC ?_))
local macro_rules | `(tactic| walk_at "step") => `(tactic| ((with_reducible apply iVar); (· rfl)))
local macro_rules | `(tactic| walk_at "step") => `(tactic| ((with_reducible apply iName); (· repeat constructor)))
local macro_rules | `(tactic| walk_at "step") => `(tactic| (with_reducible refine iAsg ?_))
local macro_rules | `(tactic| walk_at "step") => `(tactic| (with_reducible refine iSeq ?_))
local macro_rules | `(tactic| walk_at "step") => `(tactic| ((with_reducible apply iMe_Disks__empty); (· walk_at "look")))
local macro_rules | `(tactic| walk_at "step") => `(tactic| ((with_reducible apply iMe_Disks__settle); (· walk_at "look")))
local macro_rules | `(tactic| walk_at "step") => `(tactic| ((with_reducible apply iMe_Disks__fail); (· walk_at "look")))
local macro_rules | `(tactic| walk_at "step") => `(tactic| ((with_reducible apply iMe_Disks__operate); (· walk_at "look")))
local macro_rules | `(tactic| walk_at "step") => `(tactic| ((with_reducible apply iMe_Disks_power); (· walk_at "look")))
local macro_rules | `(tactic| walk_at "step") => `(tactic| ((with_reducible apply iMe_Disks_fail_after); (· walk_at "look")))
local macro_rules | `(tactic| walk_at "step") => `(tactic| ((with_reducible apply iMe_Disks_blank); (· walk_at "look")))
local macro_rules | `(tactic| walk_at "step") => `(tactic| ((with_reducible apply iMe_Disks_away); (· walk_at "look")))
local macro_rules | `(tactic| walk_at "step") => `(tactic| ((with_reducible apply iMe_Disks_bad); (· walk_at "look")))
local macro_rules | `(tactic| walk_at "step") => `(tactic| ((with_reducible apply iMe_Disks_rot); (· walk_at "look")))
local macro_rules | `(tactic| walk_at "step") => `(tactic| ((with_reducible apply iMe_Disks_sync); (· walk_at "look")))
local macro_rules | `(tactic| walk_at "step") => `(tactic| ((with_reducible apply iMe_Disks_write); (· walk_at "look")))
local macro_rules | `(tactic| walk_at "step") => `(tactic| ((with_reducible apply iMe_Disks_ask); (· walk_at "look")))
local macro_rules | `(tactic| walk_at "step") => `(tactic| ((with_reducible apply iMe_Disks_pending); (· walk_at "look")))
local macro_rules | `(tactic| walk_at "step") => `(tactic| ((with_reducible apply iMe_Disks_cell); (· walk_at "look")))
local macro_rules | `(tactic| walk_at "step") => `(tactic| ((with_reducible apply iMe_Disks_is_there); (· walk_at "look")))
local macro_rules | `(tactic| walk_at "step") => `(tactic| ((with_reducible apply iMe_Disks_losses); (· walk_at "look")))
local macro_rules | `(tactic| walk_at "step") => `(tactic| ((with_reducible apply iMe_Disks_is_on); (· walk_at "look")))
local macro_rules | `(tactic| walk_at "step") => `(tactic| ((with_reducible apply iMe_Disks_counts); (· walk_at "look")))
local macro_rules | `(tactic| walk_at "step") => `(tactic| ((with_reducible apply iMe_Disks_sizes); (· walk_at "look")))
local macro_rules | `(tactic| walk_at "step") => `(tactic| ((with_reducible apply iP_Disks__syncs); (· assumption); (· walk_at "look"); (· rfl); (· repeat constructor)))
local macro_rules | `(tactic| walk_at "step") => `(tactic| ((with_reducible apply iN_Disks__syncs); (· assumption); (· walk_at "look"); (· rfl)))
local macro_rules | `(tactic| walk_at "step") => `(tactic| ((with_reducible apply iS_Disks__syncs); (· assumption); (· walk_at "look"); (· repeat constructor)))
local macro_rules | `(tactic| walk_at "step") => `(tactic| ((with_reducible apply iF_Disks__syncs); (· assumption); (· walk_at "look"); (· rfl)))
local macro_rules | `(tactic| walk_at "step") => `(tactic| ((with_reducible apply iP_Disks__writes); (· assumption); (· walk_at "look"); (· rfl); (· repeat constructor)))
local macro_rules | `(tactic| walk_at "step") => `(tactic| ((with_reducible apply iN_Disks__writes); (· assumption); (· walk_at "look"); (· rfl)))
local macro_rules | `(tactic| walk_at "step") => `(tactic| ((with_reducible apply iS_Disks__writes); (· assumption); (· walk_at "look"); (· repeat constructor)))
local macro_rules | `(tactic| walk_at "step") => `(tactic| ((with_reducible apply iF_Disks__writes); (· assumption); (· walk_at "look"); (· rfl)))
local macro_rules | `(tactic| walk_at "step") => `(tactic| ((with_reducible apply iP_Disks__reads); (· assumption); (· walk_at "look"); (· rfl); (· repeat constructor)))
local macro_rules | `(tactic| walk_at "step") => `(tactic| ((with_reducible apply iN_Disks__reads); (· assumption); (· walk_at "look"); (· rfl)))
local macro_rules | `(tactic| walk_at "step") => `(tactic| ((with_reducible apply iS_Disks__reads); (· assumption); (· walk_at "look"); (· repeat constructor)))
local macro_rules | `(tactic| walk_at "step") => `(tactic| ((with_reducible apply iF_Disks__reads); (· assumption); (· walk_at "look"); (· rfl)))
local macro_rules | `(tactic| walk_at "step") => `(tactic| ((with_reducible apply iP_Disks__failures); (· assumption); (· walk_at "look"); (· rfl); (· repeat constructor)))
local macro_rules | `(tactic| walk_at "step") => `(tactic| ((with_reducible apply iN_Disks__failures); (· assumption); (· walk_at "look"); (· rfl)))
local macro_rules | `(tactic| walk_at "step") => `(tactic| ((with_reducible apply iS_Disks__failures); (· assumption); (· walk_at "look"); (· repeat constructor)))
local macro_rules | `(tactic| walk_at "step") => `(tactic| ((with_reducible apply iF_Disks__failures); (· assumption); (· walk_at "look"); (· rfl)))
local macro_rules | `(tactic| walk_at "step") => `(tactic| ((with_reducible apply iM_Disks__left); (· assumption); (· walk_at "look"); (· rfl); (· repeat constructor)))
local macro_rules | `(tactic| walk_at "step") => `(tactic| ((with_reducible apply iN_Disks__left); (· assumption); (· walk_at "look"); (· rfl)))
local macro_rules | `(tactic| walk_at "step") => `(tactic| ((with_reducible apply iS_Disks__left); (· assumption); (· walk_at "look"); (· repeat constructor)))
local macro_rules | `(tactic| walk_at "step") => `(tactic| ((with_reducible apply iF_Disks__left); (· assumption); (· walk_at "look"); (· rfl)))
local macro_rules | `(tactic| walk_at "step") => `(tactic| ((with_reducible apply iN_Disks__on); (· assumption); (· walk_at "look"); (· rfl)))
local macro_rules | `(tactic| walk_at "step") => `(tactic| ((with_reducible apply iS_Disks__on); (· assumption); (· walk_at "look"); (· repeat constructor)))
local macro_rules | `(tactic| walk_at "step") => `(tactic| ((with_reducible apply iF_Disks__on); (· assumption); (· walk_at "look"); (· rfl)))
local macro_rules | `(tactic| walk_at "step") => `(tactic| ((with_reducible apply iN_Disks__waiting); (· assumption); (· walk_at "look"); (· rfl)))
local macro_rules | `(tactic| walk_at "step") => `(tactic| ((with_reducible apply iS_Disks__waiting); (· assumption); (· walk_at "look"); (· repeat constructor)))
local macro_rules | `(tactic| walk_at "step") => `(tactic| ((with_reducible apply iF_Disks__waiting); (· assumption); (· walk_at "look"); (· rfl)))
local macro_rules | `(tactic| walk_at "step") => `(tactic| ((with_reducible apply iN_Disks__media); (· assumption); (· walk_at "look"); (· rfl)))
local macro_rules | `(tactic| walk_at "step") => `(tactic| ((with_reducible apply iS_Disks__media); (· assumption); (· walk_at "look"); (· repeat constructor)))
local macro_rules | `(tactic| walk_at "step") => `(tactic| ((with_reducible apply iF_Disks__media); (· assumption); (· walk_at "look"); (· rfl)))
local macro_rules | `(tactic| walk_at "step") => `(tactic| ((with_reducible apply iN_Disks__there); (· assumption); (· walk_at "look"); (· rfl)))
local macro_rules | `(tactic| walk_at "step") => `(tactic| ((with_reducible apply iS_Disks__there); (· assumption); (· walk_at "look"); (· repeat constructor)))
local macro_rules | `(tactic| walk_at "step") => `(tactic| ((with_reducible apply iF_Disks__there); (· assumption); (· walk_at "look"); (· rfl)))
local macro_rules | `(tactic| walk_at "step") => `(tactic| ((with_reducible apply iN_Disks__sizes); (· assumption); (· walk_at "look"); (· rfl)))
local macro_rules | `(tactic| walk_at "step") => `(tactic| ((with_reducible apply iS_Disks__sizes); (· assumption); (· walk_at "look"); (· repeat constructor)))
local macro_rules | `(tactic| walk_at "step") => `(tactic| ((with_reducible apply iF_Disks__sizes); (· assumption); (· walk_at "look"); (· rfl)))
local macro_rules | `(tactic| walk_at "step") => `(tactic| ((with_reducible apply iN_Disks_scrub_place); (· assumption); (· walk_at "look"); (· rfl)))
local macro_rules | `(tactic| walk_at "step") => `(tactic| ((with_reducible apply iS_Disks_scrub_place); (· assumption); (· walk_at "look"); (· repeat constructor)))
local macro_rules | `(tactic| walk_at "step") => `(tactic| ((with_reducible apply iF_Disks_scrub_place); (· assumption); (· walk_at "look"); (· rfl)))
local macro_rules | `(tactic| walk_at "step") => `(tactic| ((with_reducible apply iN_Disks_formatted); (· assumption); (· walk_at "look"); (· rfl)))
local macro_rules | `(tactic| walk_at "step") => `(tactic| ((with_reducible apply iS_Disks_formatted); (· assumption); (· walk_at "look"); (· repeat constructor)))
local macro_rules | `(tactic| walk_at "step") => `(tactic| ((with_reducible apply iF_Disks_formatted); (· assumption); (· walk_at "look"); (· rfl)))
local macro_rules | `(tactic| walk_at "step") => `(tactic| ((with_reducible apply iN_Disks_in_use); (· assumption); (· walk_at "look"); (· rfl)))
local macro_rules | `(tactic| walk_at "step") => `(tactic| ((with_reducible apply iS_Disks_in_use); (· assumption); (· walk_at "look"); (· repeat constructor)))
local macro_rules | `(tactic| walk_at "step") => `(tactic| ((with_reducible apply iF_Disks_in_use); (· assumption); (· walk_at "look"); (· rfl)))
local macro_rules | `(tactic| walk_at "go") => `(tactic| (repeat walk_at "step"))
section
variable {P : Program} {w : World} {K : PySem.W.Frag} {mg : Str → Option Value} {base : Heap}
/-! ### one deed -/
def only (sc : Addr) (H : Hp) : Hp := fun p => if p = sc then H sc else none
theorem only_ex {sc : Addr} {H : Hp} : Ex (only sc H) H := fun p o h => by
  unfold only at h
  split at h
  · rename_i e; subst e; exact h
  · cases h
theorem only_seq {sc : Addr} {H : Hp} {xs : List V} (h : SqL K H sc xs) : SqL K (only sc H) sc xs := by
  have e : only sc H sc = H sc := if_pos rfl
  rcases h with (h | ⟨o, h⟩) | h
  · exact .inl (.inl (e.trans h))
  · exact .inl (.inr ⟨o, e.trans h⟩)
  · exact .inr h
theorem only_none {sc p : Addr} {H : Hp} (h : H p = none) : only sc H p = none := by
  unfold only
  split
  · rename_i e; subst e; exact h
  · rfl
theorem DAt.join {C p : Addr} {H H' F Rs : Hp} {L : DL → Addr} {D : DK} {o : HO} (h : DAt C H F Rs L D) (x : Ex H H') (e : H p = none) (e' : H' p = some o) : DAt C H' F (upd Rs p o) L D := by
  obtain ⟨dx, szs, cm, cw, d⟩ := h
  have fr := d.own.free e
  have d' := d.ex x
  exact ({ d' with own := d'.own.join fr.1 fr.2.2 e' } : DRep C dx szs H' F (upd Rs p o) L D cm cw).at_
/-- what the law keeps of its disks -/
structure One (D : DK) (lf b : Nat) : Prop where
  n : D.n = 4
  m : D.m = 48
  on : D.on = true
  left : D.left = some lf
  fails : D.fails = 0
  few : ∀ d, (D.wait d).length ≤ b
def cnt (D : DK) : List V := [.int (D.reads : Nat), .int (D.writes : Nat), .int (D.syncs : Nat)]
theorem One.sync {D : DK} {lf b : Nat} (h : One D (lf + 1) b) : One D.sync lf (b + 1) := by
  refine ⟨h.n, h.m, h.on, ?_, h.fails, fun d => ?_⟩
  · show D.left.map (· - 1) = some lf
    rw [h.left]; rfl
  · show (if d < D.n then [] else D.wait d : List (Nat × Sec)).length ≤ b + 1
    have := h.few d
    split
    · exact Nat.zero_le _
    · omega
theorem cnt_sync {D : DK} : cnt D.sync = [.int (D.reads : Nat), .int (D.writes : Nat), .int ((D.syncs : Nat) + 1)] := rfl
theorem One.ask {D : DK} {lf b d : Nat} (h : One D lf b) : One (D.ask d) lf (b + 1) := by
  unfold DK.ask
  split
  · exact ⟨h.n, h.m, h.on, h.left, h.fails, fun d => Nat.le_succ_of_le (h.few d)⟩
  · exact ⟨h.n, h.m, h.on, h.left, h.fails, fun d => Nat.le_succ_of_le (h.few d)⟩
theorem cnt_ask {D : DK} {d : Nat} : cnt (D.ask d) = [.int ((D.reads : Nat) + (if D.there d = true then 1 else 0 : Int)), .int (D.writes : Nat), .int (D.syncs : Nat)] := by
  unfold DK.ask
  split
  · rfl
  · show cnt D = _
    unfold cnt
    rw [Int.add_zero]
theorem One.write {D : DK} {lf b d j : Nat} {x : Sec} (h : One D (lf + 1) b) : One (D.write d j x) lf (b + 1) := by
  have hl : D.tick.left = some lf := by
    show D.left.map (· - 1) = some lf
    rw [h.left]; rfl
  unfold DK.write
  split
  · refine ⟨h.n, h.m, h.on, hl, h.fails, fun e => ?_⟩
    show (if e = d then D.wait e ++ [(j, x)] else D.wait e).length ≤ b + 1
    have := h.few e
    split
    · rw [List.length_append]; exact Nat.succ_le_succ this
    · omega
  · exact ⟨h.n, h.m, h.on, hl, h.fails, fun d => Nat.le_succ_of_le (h.few d)⟩
theorem cnt_write {D : DK} {d j : Nat} {x : Sec} : cnt (D.write d j x) = [.int (D.reads : Nat), .int ((D.writes : Nat) + (if D.there d = true then 1 else 0 : Int)), .int (D.syncs : Nat)] := by
  unfold DK.write
  split
  · rfl
  · show cnt D = _
    unfold cnt
    rw [Int.add_zero]
def sp_one (C CP : Addr) : Sp := fun vs H Q E => ∃ (F Rs : Hp) (L : DL → Addr) (D : DK) (pc : Addr) (v lf b : Nat), vs = [.ref (L .obj), .ref pc, .int v] ∧ DAt C H F Rs L D ∧ Rs pc = some (.lst (cnt D)) ∧ One D lf b ∧ b ≤ 80000 ∧
  (lf = 0 → ∀ H', DAt C H' F Rs L D.fail → E (.ref CP) none H') ∧
  ∀ (t lf' : Nat) (D' : DK) H' F' L', lf = lf' + t → L' .obj = L .obj → Ex F F' → DAt C H' F' (upd Rs pc (.lst (cnt D'))) L' D' → One D' lf' (b + 1) → Q (.int t) H'
theorem ok_one {C CP : Addr} (M : Mg mg) (T : Tx_Disks K C) {f : Addr} {fd : FuncData} (F : Fun K "_law_one" "_law_one" s__law_one f fd) (c_Disks_sync : MetN P w K mg base 3 C "sync" ["self"] (sp_sync C CP)) (c_Disks_write : MetN P w K mg base 3 C "write" ["self", "disk", "sector", "data"] (sp_write C CP))
    (c_Disks_is_there : MetN P w K mg base 1 C "is_there" ["self", "disk"] (sp_is_there C)) (c_Disks_ask : MetN P w K mg base 2 C "ask" ["self", "disk", "sector"] (sp_ask C)) : FnOk P w K mg base (L2N.CX P w) 4 f fd ["disks", "counts", "number"] (sp_one C CP) := by
  refine okN F sc__law_one (fun vs H Q E h => ?_) (fun cdv A outer s H vs Q E hr h => ?_)
  · obtain ⟨F, Rs, L, D, pc, v, lf, b, rfl, _⟩ := h; rfl
  · obtain ⟨F, Rs, L, D, pc, v, lf, b, rfl, D0, hpR, one, hb, qE, q⟩ := h
    obtain ⟨dx, szs, hO, -⟩ := D0.obj
    have hpc : H pc = some (.lst [.int (D.reads : Nat), .int (D.writes : Nat), .int (D.syncs : Nat)]) := D0.rs _ _ hpR
    refine ⟨_, (pss_cons (ps_set (i := 3) sc__law_one.nd rfl (Or.inl rfl) (pe_op op_mod (pe_op op_fdiv (pv 2) pe_int) pe_int)) (pss_cons (ps_if (pt_cmpR op_eq (pe_op op_mod (pv 2) pe_int) pe_int (nomark _)) (pss_cons (ps_expr (pe_metN0 c_Disks_sync (hr.mono (by omega)) (xpN (L2N.takes_of rfl rfl rfl rfl)) (pv 0))) (pss_one (ps_augS (pv 1) pe_int get_l pe_int ip_add set_list))) (pss_one (ps_if (pt_cmpR op_eq (pe_op op_mod (pv 2) pe_int) pe_int (nomark _)) (pss_cons (ps_augS (pv 1) pe_int get_l (pe_callTy int_b (by rfl) M.n_int (by decide +kernel) (pa_cons (pe_metN c_Disks_is_there (hr.mono (by omega)) (xpN (L2N.takes_of rfl rfl rfl rfl)) (pv 0) (pa_cons (pv 3) pa_nil)) pa_nil)) ip_add set_list) (pss_cons (ps_expr (pe_metN c_Disks_ask (hr.mono (by omega)) (xpN (L2N.takes_of rfl rfl rfl rfl)) (pv 0) (pa_cons (pv 3) (pa_cons (pe_op op_mod (pe_op op_fdiv (pv 2) pe_int) pe_int) pa_nil)))) (pss_one (ps_ret pe_int)))) (pss_cons (ps_expr (pe_metN c_Disks_write (hr.mono (by omega)) (xpN (L2N.takes_of rfl rfl rfl rfl)) (pv 0) (pa_cons (pv 3) (pa_cons (pe_op op_mod (pe_op op_fdiv (pv 2) pe_int) pe_int) (pa_cons (pe_lc (own := [("k", 4)]) (g := (gName 4)) (tt := tYes) (by rfl) sc__law_one.nd (pi_range1 (by rfl) M.n_range (pa_cons pe_int pa_nil)) (blkOk_by (own := [("k", 4)]) (N := ["disks", "counts", "number", "disk", "k"]) (sc := defScope s__law_one) (by decide +kernel)) (fun _ _ _ _ _ => (pg_name (i := 4) sc__law_one.nd rfl (Or.inl rfl))) (fun _ _ _ _ _ => pts_nil) (fun _ _ _ _ _ => (pe_op op_mod (pv 2) pe_int))) pa_nil))))) (pss_one (ps_augS (pv 1) pe_int get_l (pe_callTy int_b (by rfl) M.n_int (by decide +kernel) (pa_cons (pe_metN c_Disks_is_there (hr.mono (by omega)) (xpN (L2N.takes_of rfl rfl rfl rfl)) (pv 0) (pa_cons (pv 3) pa_nil)) pa_nil)) ip_add set_list)))))) (pss_one (ps_ret pe_int)))), ?_⟩
    refine iBody (by repeat constructor) ?_
    walk_at "go"
    obtain ⟨d, hd, ed⟩ : ∃ d : Nat, d < 4 ∧ ((v : Int) / 5 % 4) = ((d : Nat) : Int) := ⟨v / 5 % 4, by omega, by omega⟩
    rw [ed]
    obtain ⟨j, hj, ej⟩ : ∃ j : Nat, j < 9 ∧ ((v : Int) / 20 % 9) = ((j : Nat) : Int) := ⟨v / 20 % 9, by omega, by omega⟩
    have hdD : d < D.n := by rw [one.n]; exact hd
    have hjD : j < D.m := by rw [one.m]; omega
    refine ifD (fun e => ?_) (fun e => ?_)
    · walk_at "go"
      refine ⟨F, Rs, L, D, rfl, D0, fun d _ => by have := one.few d; omega, fun on => absurd on (by rw [one.on]; decide), fun _ lf0 H' D1 => ?_, fun _ lfn H' L' eL D1 => ?_⟩
      · walk_at "go"
        exact qE (by rw [one.left] at lf0; cases lf0; rfl) _ D1
      · obtain ⟨lf', rfl⟩ : ∃ lf', lf = lf' + 1 := by
          cases lf with
          | zero => exact absurd one.left lfn
          | succ n => exact ⟨n, rfl⟩
        have hpc := D1.rs _ _ (show Rs pc = some (.lst [.int (D.reads : Nat), .int (D.writes : Nat), .int (D.syncs : Nat)]) from hpR)
        walk_at "go"
        exact q 1 lf' D.sync _ F L' rfl eL (Ex.refl _) (by rw [cnt_sync]; exact D1.put hpR) one.sync
    · walk_at "go"
      refine ifD (fun e1 => ?_) (fun e1 => ?_)
      · walk_at "go"
        refine j_is_there D0 hdD ?_
        walk_at "go"
        have D1 := D0.put (o' := .lst [.int ((D.reads : Nat) + (if D.there d = true then 1 else 0 : Int)), .int (D.writes : Nat), .int (D.syncs : Nat)]) hpR
        obtain ⟨dx1, szs1, hO, -⟩ := D1.obj
        walk_at "go"
        rw [ej]
        refine j_ask D1 hdD hjD fun u H1 H2 D2 e2 _ => ?_
        walk_at "go"
        exact q 0 lf (D.ask d) _ F L rfl rfl (Ex.refl _) (by rw [cnt_ask]; exact D2.ex e2) one.ask
      · walk_at "go"
        refine lcF_r0 (fun _ => V.int ((v : Int) % 256)) (by repeat constructor) (fun D' i' H' hD' hi' hacc' ex' => ?_) (fun p H2 hp e2 hacc => ?_)
        · walk_at "go"
          exact iLcF hD' (by omega) ex' hacc' rfl
        · walk_at "go"
          rw [ej]
          have D1 := D0.join e2 hp hacc
          have hpRs : Rs p = none := Evl.fresh_back D0.rs hp
          refine ⟨F, _, L, D, d, j, p, _, rfl, D1, hdD, hjD, upd_same, by have := one.few d; omega, fun on => absurd on (by rw [one.on]; decide), fun _ lf0 H' D2 => ?_, fun _ lfn H' F' eF D2 => ?_⟩
          · walk_at "go"
            exact qE (by rw [one.left] at lf0; cases lf0; rfl) _ (D2.weak (Evl.Ex.new hpRs))
          · obtain ⟨lf', rfl⟩ : ∃ lf', lf = lf' + 1 := by
              cases lf with
              | zero => exact absurd one.left lfn
              | succ n => exact ⟨n, rfl⟩
            have D3 := D2.weak (Evl.Ex.new hpRs)
            have hpc := D3.rs _ _ (show Rs pc = some (.lst [.int (D.reads : Nat), .int (D.writes : Nat), .int (D.syncs : Nat)]) from hpR)
            obtain ⟨dx3, szs3, hO, -⟩ := D3.obj
            walk_at "go"
            refine j_is_there D3 (by show d < (D.write d j _).n; rw [(one.write (d := d) (j := j)).n]; exact hd) ?_
            have et : ∀ x, (D.write d j x).there d = D.there d := fun x => by unfold DK.write; split <;> rfl
            rw [et]
            walk_at "go"
            exact q 1 lf' (D.write d j _) _ F' L rfl rfl eF (by rw [cnt_write]; exact D3.put hpR) one.write
/-! ### while power is off -/
def sp_dark (C : Addr) : Sp := fun vs H Q _ => ∃ (F Rs : Hp) (L : DL → Addr) (D : DK), vs = [.ref (L .obj)] ∧ DAt C H F Rs L D ∧ D.on = false ∧ D.n = 4 ∧ D.m = 48 ∧ (∀ d, (D.wait d).length < 90000) ∧ ∀ H', DAt C H' F Rs L D → Q (.bl true) H'
theorem okH_dark {C CP CR : Addr} (M : Mg mg) (T : Tx_Disks K C) (e_PowerOff : ExT K mg "PowerOff" CP) (e_RotError : ExT K mg "RotError" CR) (hE : ErrH K CP CR) (hKR : PySem.W.kitOne K (.ref CP) (.ref CR) = some true) {f : Addr} {fd : FuncData} (F : Fun K "_law_dark" "_law_dark" s__law_dark f fd)
    (c_Disks_write : MetH P w K mg base 3 C "write" ["self", "disk", "sector", "data"] (sp_write C CP)) (c_Disks_sync : MetH P w K mg base 3 C "sync" ["self"] (sp_sync C CP)) (c_Disks_fail_after : MetH P w K mg base 1 C "fail_after" ["self", "operations"] (sp_fail_after C CP)) (c_Disks_is_on : MetH P w K mg base 1 C "is_on" ["self"] (sp_is_on C)) : FnH P w K mg base (L2.CX P w) 4 f fd ["disks"] (sp_dark C) := by
  refine okH F sc__law_dark (fun vs H Q E h => ?_) (fun cdv A outer s H vs Q E pe hot hr h => ?_)
  · obtain ⟨F, Rs, L, D, rfl, _⟩ := h; rfl
  · obtain ⟨F, Rs, L, D, rfl, D0, off, n4, m48, few, q⟩ := h
    refine ⟨_, (pss_cons (ps_set (i := 1) sc__law_dark.nd rfl (Or.inl rfl) pe_int) (pss_cons (ps_forH (passes_of rfl) ⟨pe, hot, List.mem_singleton.mpr rfl⟩ (pi_range1H (by rfl) M.n_range (pa_cons pe_int pa_nil)) (pg_name (i := 2) sc__law_dark.nd rfl (Or.inl rfl)) (pss_one (ps_try_asH (i := 3) rfl rfl sc__law_dark.nd rfl rfl ⟨rfl, by decide, .inl e_PowerOff.g⟩ (takes_of rfl rfl rfl rfl) (fun W pn xe hq tk po => (pss_one (ps_if (pt_cmpR op_eq (pv 2) pe_int (nomark _)) (pss_one (ps_expr (pe_metH c_Disks_write (hr.mono (by omega)) (hotTr ⟨pe, hot, List.mem_singleton.mpr rfl⟩ hq) (fun σ => passAt tk σ) (pv 0) (pa_cons pe_int (pa_cons pe_int (pa_cons (pe_lcH (mine := [("k", 4)]) (g := (gName 4)) (tt := tYes) (hotTr ⟨pe, hot, List.mem_singleton.mpr rfl⟩ hq) sc__law_dark.nd (pi_range1H (by rfl) M.n_range (pa_cons pe_int pa_nil)) (blkOk_by (own := [("k", 4)]) (N := ["disks", "told", "kind", "error", "k"]) (sc := defScope s__law_dark) (by decide +kernel)) (fun _ _ _ _ _ => (pg_name (i := 4) sc__law_dark.nd rfl (Or.inl rfl))) (fun _ _ _ _ _ => pts_nil) (fun _ _ _ _ _ _ => pe_int)) pa_nil)))))) (pss_one (ps_if (pt_cmpR op_eq (pv 2) pe_int (nomark _)) (pss_one (ps_expr (pe_metH0 c_Disks_sync (hr.mono (by omega)) (hotTr ⟨pe, hot, List.mem_singleton.mpr rfl⟩ hq) (fun σ => passAt tk σ) (pv 0)))) (pss_one (ps_expr (pe_metH c_Disks_fail_after (hr.mono (by omega)) (hotTr ⟨pe, hot, List.mem_singleton.mpr rfl⟩ hq) (fun σ => passAt tk σ) (pv 0) (pa_cons pe_int pa_nil))))))))) (fun a oe cls d pn hz hf => (pss_one (ps_aug (i := 1) sc__law_dark.nd rfl (Or.inl rfl) (pe_callTy int_b (by rfl) M.n_int (by decide +kernel) (pa_cons (pe_callB (cr_isX hz hf) (by rfl) M.n_isinstance (by decide +kernel) (pa_cons (pv 3) (pa_cons (pe_glob (v := V.ref CR) (by rfl) e_RotError.g rfl) pa_nil))) pa_nil)) ip_add)))))) (pss_one (ps_ret (pe_and (pe_cmpR op_eq (pv 1) pe_int (nomark _)) (pe_one (pe_not (pe_metH0 c_Disks_is_on (hr.mono (by omega)) ⟨pe, hot, List.mem_singleton.mpr rfl⟩ (xpX (takes_of rfl rfl rfl rfl)) (pv 0))))))))), ?_⟩
    refine iBody (by repeat constructor) ?_
    walk_at "go"
    refine forJ_range0 (fun i σ' H' => (∃ x, σ' = [some (.ref (L .obj)), some (.int (i : Nat)), x, none, none]) ∧ DAt C H' F Rs L D) ⟨⟨_, rfl⟩, D0⟩ (fun i σ' H' hi h => ?_) (fun σ' H' h => ?_)
    · have hi : i < 3 := hi
      obtain ⟨⟨x, rfl⟩, D1⟩ := h
      obtain ⟨dx, szs, hO, -⟩ := D1.obj
      walk_at "go"
      refine ifD (fun k0 => ?_) (fun k0 => ?_)
      · walk_at "go"
        refine lcF_r0 (fun _ => V.int 0) (by repeat constructor) (fun D' i' H2 hD' hi' hacc' ex' => ?_) (fun p H2 hp e2 hacc => ?_)
        · walk_at "go"
          exact iLcF hD' (by omega) ex' hacc' rfl
        · walk_at "go"
          have D2 := D1.join e2 hp hacc
          have hpRs : Rs p = none := Evl.fresh_back D1.rs hp
          refine ⟨F, _, L, D, 0, 0, p, _, rfl, D2, by omega, by omega, upd_same, few 0, fun _ => ?_, fun on => absurd on (by rw [off]; decide), fun on => absurd on (by rw [off]; decide)⟩
          refine ⟨true, e_PowerOff.ex, fun _ er her => ?_, fun z => nomatch z⟩
          walk_at "go"
          refine iIsX (c := V.ref CR) (cv := Value.ref CR) hE.c (fun u r => r) hKR ?_
          walk_at "go"
          exact ⟨⟨_, rfl⟩, D2.weak (Evl.Ex.new hpRs)⟩
      · walk_at "go"
        refine ifD (fun k1 => ?_) (fun k1 => ?_)
        · walk_at "go"
          refine ⟨F, Rs, L, D, rfl, D1, fun d _ => few d, fun _ => ?_, fun on => absurd on (by rw [off]; decide), fun on => absurd on (by rw [off]; decide)⟩
          refine ⟨true, e_PowerOff.ex, fun _ er her => ?_, fun z => nomatch z⟩
          walk_at "go"
          refine iIsX (c := V.ref CR) (cv := Value.ref CR) hE.c (fun u r => r) hKR ?_
          walk_at "go"
          exact ⟨⟨_, rfl⟩, D1⟩
        · walk_at "go"
          refine ⟨F, Rs, L, D, 5, rfl, D1, fun _ => ?_, fun on => absurd on (by rw [off]; decide)⟩
          refine ⟨true, e_PowerOff.ex, fun _ er her => ?_, fun z => nomatch z⟩
          walk_at "go"
          refine iIsX (c := V.ref CR) (cv := Value.ref CR) hE.c (fun u r => r) hKR ?_
          walk_at "go"
          exact ⟨⟨_, rfl⟩, D1⟩
    · obtain ⟨⟨x, rfl⟩, D1⟩ := h
      obtain ⟨dx, szs, hO, -⟩ := D1.obj
      walk_at "go"
      refine j_is_on D1 ?_
      rw [off]
      walk_at "go"
      exact q _ D1
end
end R
set_option Elab.async false
set_option linter.all false
set_option maxRecDepth 100000
set_option maxHeartbeats 4000000
namespace R
open PySem PySem.Spec L2 L2H
open Evl (Ex)
abbrev s_law : Stmt := topS 14
theorem sc_law : FnScope ["script", "disks", "left", "counts", "k", "number"] ["script"] (defScope s_law) := ⟨rfl, rfl, rfl, by decide +kernel, rfl, by decide +kernel, by decide +kernel⟩
local macro_rules | `(tactic| walk_at "ne") => `(tactic| (apply Ne.symm; apply ne_fresh; (· assumption); (· walk_at "look")))
local macro_rules | `(tactic| walk_at "ne") => `(tactic| (apply ne_fresh; (· assumption); (· walk_at "look")))
local macro_rules | `(tactic| walk_at "ne") => `(tactic| (apply Ne.symm; assumption))
local macro_rules | `(tactic| walk_at "ne") => `(tactic| assumption)
local macro_rules | `(tactic| walk_at "look") => `(tactic| (refine exAt (by assumption) ?_; walk_at "look"))
local macro_rules | `(tactic| walk_at "look") => `(tactic| (refine (upd_ne ?_).trans ?_; (· walk_at "ne"); (· walk_at "look")))
local macro_rules | `(tactic| walk_at "look") => `(tactic| exact upd_same)
local macro_rules | `(tactic| walk_at "look") => `(tactic| assumption)
local macro_rules | `(tactic| walk_at "side") => `(tactic| (exact ⟨by decide, by decide, by decide⟩))
local macro_rules | `(tactic| walk_at "side") => `(tactic| (exact ⟨by omega, by omega⟩))
local macro_rules | `(tactic| walk_at "side") => `(tactic| (show (0:Int) ≤ _; omega))
local macro_rules | `(tactic| walk_at "side") => `(tactic| (show (0:Int) < _; omega))
local macro_rules | `(tactic| walk_at "side") => `(tactic| (exact Or.inr ⟨by omega, by omega⟩))
local macro_rules | `(tactic| walk_at "side") => `(tactic| (exact Or.inl ⟨by omega, by omega⟩))
local macro_rules | `(tactic| walk_at "step") => `(tactic| ((with_reducible apply iZL); (· walk_at "look"); (· walk_at "look")))
local macro_rules | `(tactic| walk_at "step") => `(tactic| ((with_reducible apply iItL); (· walk_at "look")))
local macro_rules | `(tactic| walk_at "step") => `(tactic| ((with_reducible apply iRng2I); (· omega); (· omega); (· omega); (· omega)))
local macro_rules | `(tactic| walk_at "step") => `(tactic| ((with_reducible apply iDNi); (· walk_at "look")))
local macro_rules | `(tactic| walk_at "step") => `(tactic| ((with_reducible apply iDIi); (· walk_at "look")))
local macro_rules | `(tactic| walk_at "step") => `(tactic| ((with_reducible apply iGTup); (· walk_at "look"); (· rfl)))
local macro_rules | `(tactic| walk_at "step") => `(tactic| ((with_reducible apply iLcB); (· rfl)))
local macro_rules | `(tactic| walk_at "step") => `(tactic| ((with_reducible apply ifNn); (· omega)))
local macro_rules | `(tactic| walk_at "step") => `(tactic| ((with_reducible apply ifNp); (· omega)))
local macro_rules | `(tactic| walk_at "step") => `(tactic| ((with_reducible apply ifF); (· apply decide_eq_false; omega)))
local macro_rules | `(tactic| walk_at "step") => `(tactic| ((with_reducible apply ifT); (· apply decide_eq_true; omega)))
local macro_rules | `(tactic| walk_at "step") => `(tactic| ((with_reducible apply ifF); (· rfl)))
local macro_rules | `(tactic| walk_at "step") => `(tactic| ((with_reducible apply ifT); (· rfl)))
local macro_rules | `(tactic| walk_at "step") => `(tactic| ((with_reducible apply iLenS); (· first | exact Or.inl (by walk_at "look") | exact Or.inr (by walk_at "look"))))
local macro_rules | `(tactic| walk_at "step") => `(tactic| ((with_reducible apply iLenT); (· walk_at "look")))
local macro_rules | `(tactic| walk_at "step") => `(tactic| ((with_reducible apply iIsi); (· first | exact tyN_int | exact tyN_bl | exact tyN_non | exact tyN_str | exact tyN_lst (by walk_at "look") | exact tyN_tup (by walk_at "look")); (· (first | exact kb_NoneType_bool | exact kb_NoneType_int | exact kb_NoneType_str | exact kb_NoneType_tuple | exact kb_NoneType_list | exact kb_bool_bool | exact kb_bool_int | exact kb_bool_str | exact kb_bool_tuple | exact kb_bool_list | exact kb_int_bool | exact kb_int_int | exact kb_int_str | exact kb_int_tuple | exact kb_int_list | exact kb_str_bool | exact kb_str_int | exact kb_str_str | exact kb_str_tuple | exact kb_str_list | exact kb_tuple_bool | exact kb_tuple_int | exact kb_tuple_str | exact kb_tuple_tuple | exact kb_tuple_list | exact kb_list_bool | exact kb_list_int | exact kb_list_str | exact kb_list_tuple | exact kb_list_list))))
local macro_rules | `(tactic| walk_at "step") => `(tactic| ((with_reducible apply iIxT); (· walk_at "look"); (· rfl)))
local macro_rules | `(tactic| walk_at "step") => `(tactic| ((with_reducible apply iSetL); (· walk_at "look"); (· rfl)))
local macro_rules | `(tactic| walk_at "step") => `(tactic| ((with_reducible apply iLenL); (· walk_at "look")))
local macro_rules | `(tactic| walk_at "step") => `(tactic| ((with_reducible apply iIxL); (· walk_at "look"); (· rfl)))
local macro_rules | `(tactic| walk_at "step") => `(tactic| ((with_reducible apply iI); rotate_left; (· (first | (exact Or.inl ⟨by omega, by omega⟩) | (exact Or.inr ⟨by omega, by omega⟩) | (show (0:Int) < _; omega) | (show (0:Int) ≤ _; omega) | (exact ⟨by omega, by omega⟩) | (exact ⟨by decide, by decide, by decide⟩)))))
local macro_rules | `(tactic| walk_at "step") => `(tactic| ((with_reducible apply iAugK); (· rfl)))
local macro_rules | `(tactic| walk_at "step") => `(tactic| ((with_reducible apply iRngI); (· first | decide | omega); (· first | decide | omega)))
local macro_rules | `(tactic| walk_at "step") => `(tactic| (with_reducible refine iDEa ?_))
local macro_rules | `(tactic| walk_at "step") => `(tactic| (with_reducible refine iGNil ?_))
local macro_rules | `(tactic| walk_at "step") => `(tactic| (with_reducible refine iGCons ?_))
local macro_rules | `(tactic| walk_at "step") => `(tactic| (with_reducible refine iZipK ?_))
local macro_rules | `(tactic| walk_at "step") => `(tactic| (with_reducible refine iRng2 ?_))
local macro_rules | `(tactic| walk_at "step") => `(tactic| (with_reducible refine iDPut ?_))
local macro_rules | `(tactic| walk_at "step") => `(tactic| (with_reducible refine iDNotIn ?_))
local macro_rules | `(tactic| walk_at "step") => `(tactic| (with_reducible refine iDIn ?_))
local macro_rules | `(tactic| walk_at "step") => `(tactic| (with_reducible refine iDGet ?_))
local macro_rules | `(tactic| walk_at "step") => `(tactic| (with_reducible refine iYes ?_))
local macro_rules | `(tactic| walk_at "step") => `(tactic| (with_reducible refine iLc ?_))
local macro_rules | `(tactic| walk_at "step") => `(tactic| (with_reducible refine iNeS ?_))
local macro_rules | `(tactic| walk_at "step") => `(tactic| (with_reducible refine iEqS ?_))
local macro_rules | `(tactic| walk_at "step") => `(tactic| (with_reducible refine iNeB ?_))
local macro_rules | `(tactic| walk_at "step") => `(tactic| (with_reducible refine iEqB ?_))
local macro_rules | `(tactic| walk_at "step") => `(tactic| (with_reducible refine iCont ?_))
local macro_rules | `(tactic| walk_at "step") => `(tactic| (with_reducible refine iBreak ?_))
local macro_rules | `(tactic| walk_at "step") => `(tactic| (with_reducible refine iIterL ?_))
local macro_rules | `(tactic| walk_at "step") => `(tactic| (with_reducible refine iTup ?_))
local macro_rules | `(tactic| walk_at "step") => `(tactic| (with_reducible refine iLst ?_))
local macro_rules | `(tactic| walk_at "step") => `(tactic| (with_reducible refine iSub ?_))
local macro_rules | `(tactic| walk_at "step") => `(tactic| (with_reducible refine iIpI ?_))
local macro_rules | `(tactic| walk_at "step") => `(tactic| (with_reducible refine iAugS ?_))
local macro_rules | `(tactic| walk_at "step") => `(tactic| (with_reducible refine iNotV ?_))
local macro_rules | `(tactic| walk_at "step") => `(tactic| (with_reducible refine iOrV ?_))
local macro_rules | `(tactic| walk_at "step") => `(tactic| (with_reducible refine iAndV ?_))
local macro_rules | `(tactic| walk_at "step") => `(tactic| (with_reducible refine iDGet1 ?_))
local macro_rules | `(tactic| walk_at "step") => `(tactic| (with_reducible refine iNotBl ?_))
local macro_rules | `(tactic| walk_at "step") => `(tactic| (with_reducible refine iIsB ?_))
local macro_rules | `(tactic| walk_at "step") => `(tactic| (with_reducible refine iIntB ?_))
local macro_rules | `(tactic| walk_at "step") => `(tactic| (with_reducible refine iPn ?_))
local macro_rules | `(tactic| walk_at "step") => `(tactic| (with_reducible refine iPr ?_))
local macro_rules | `(tactic| walk_at "step") => `(tactic| (with_reducible refine iRai ?_))
local macro_rules | `(tactic| walk_at "step") => `(tactic| (with_reducible refine iRev1 ?_))
local macro_rules | `(tactic| walk_at "step") => `(tactic| (with_reducible refine iBM ?_))
local macro_rules | `(tactic| walk_at "step") => `(tactic| (with_reducible refine iAugF ?_))
local macro_rules | `(tactic| walk_at "step") => `(tactic| (with_reducible refine iSto ?_))
local macro_rules | `(tactic| walk_at "step") => `(tactic| (with_reducible refine iFld ?_))
local macro_rules | `(tactic| walk_at "step") => `(tactic| (with_reducible refine iMakS ?_))
local macro_rules | `(tactic| walk_at "step") => `(tactic| (with_reducible refine iMak ?_))
local macro_rules | `(tactic| walk_at "step") => `(tactic| (with_reducible refine iMet ?_))
local macro_rules | `(tactic| walk_at "step") => `(tactic| (with_reducible refine iCalE ?_))
local macro_rules | `(tactic| walk_at "step") => `(tactic| (with_reducible refine ifDr ?_))
local macro_rules | `(tactic| walk_at "step") => `(tactic| (with_reducible refine ifNDr ?_))
local macro_rules | `(tactic| walk_at "step") => `(tactic| (with_reducible refine iTruI ?_))
local macro_rules | `(tactic| walk_at "step") => `(tactic| (with_reducible refine iNotN ?_))
local macro_rules | `(tactic| walk_at "step") => `(tactic| (with_reducible refine iIsN ?_))
local macro_rules | `(tactic| walk_at "step") => `(tactic| (with_reducible refine iRetN ?_))
local macro_rules | `(tactic| walk_at "step") => `(tactic| (with_reducible refine iU ?_))
local macro_rules | `(tactic| walk_at "step") => `(tactic| (with_reducible refine iUn ?_))
local macro_rules | `(tactic| walk_at "step") => `(tactic| (with_reducible refine iChain ?_))
local macro_rules | `(tactic| walk_at "step") => `(tactic| (with_reducible refine iIf ?_))
local macro_rules | `(tactic| walk_at "step") => `(tactic| (with_reducible refine iB ?_))
local macro_rules | `(tactic| walk_at "step") => `(tactic| (with_reducible refine iNot ?_))
local macro_rules | `(tactic| walk_at "step") => `(tactic| (with_reducible refine iOr ?_))
local macro_rules | `(tactic| walk_at "step") => `(tactic| (with_reducible refine iAnd ?_))
local macro_rules | `(tactic| walk_at "step") => `(tactic| (with_reducible refine iCal ?_))
local macro_rules | `(tactic| walk_at "step") => `(tactic| (with_reducible refine iRng ?_))
local macro_rules | `(tactic| walk_at "step") => `(tactic| (with_reducible refine iFor ?_))
local macro_rules | `(tactic| walk_at "step") => `(tactic| (with_reducible refine iInt ?_))
local macro_rules | `(tactic| walk_at "step") => `(tactic| (with_reducible refine iNeI ?_))
local macro_rules | `(tactic| walk_at "step") => `(tactic| (with_reducible refine iEqI ?_))
local macro_rules | `(tactic| walk_at "step") => `(tactic| (with_reducible refine iDrop ?_))
local macro_rules | `(tactic| walk_at "step") => `(tactic| (with_reducible refine iNext ?_))
local macro_rules | `(tactic| walk_at "step") => `(tactic| (with_reducible refine iRet ?_))
local macro_rules | `(tactic| walk_at "step") => `(tactic| (with_reducible refine iBl ?_))
local macro_rules | `(tactic| walk_at "step") => `(tactic| (with_reducible refine iTest ?_))
local macro_rules | `(tactic| walk_at "step") => `(tactic| (with_reducible refine iIfS ?_))
local macro_rules | `(tactic| walk_at "step") => `(tactic| (with_reducible refine iCB ?_))
local macro_rules | `(tactic| walk_at "step") => `(tactic| (with_reducible refine iNil ?_))
local macro_rules | `(tactic| walk_at "step") => `(tactic| (with_reducible refine iCons ?_))
local macro_rules | `(tactic| walk_at "step") => `(tactic| (with_reducible refine iI0 ?_))
local macro_rules | `(tactic| walk_at "step") => `(tactic| (with_reducible refine iOp ?_))
local macro_rules | `(tactic| walk_at "step") => `(tactic| (with_reducible refine iC ?_))
local macro_rules | `(tactic| walk_at "step") => `(tactic| ((with_reducible apply iVar); (· rfl)))
local macro_rules | `(tactic| walk_at "step") => `(tactic| ((with_reducible apply iName); (· repeat constructor)))
local macro_rules | `(tactic| walk_at "step") => `(tactic| (with_reducible refine iAsg ?_))
local macro_rules | `(tactic| walk_at "step") => `(tactic| (with_reducible refine iSeq ?_))
local macro_rules | `(tactic| walk_at "step") => `(tactic| ((with_reducible apply iMe_Disks__empty); (· walk_at "look")))
local macro_rules | `(tactic| walk_at "step") => `(tactic| ((with_reducible apply iMe_Disks__settle); (· walk_at "look")))
local macro_rules | `(tactic| walk_at "step") => `(tactic| ((with_reducible apply iMe_Disks__fail); (· walk_at "look")))
local macro_rules | `(tactic| walk_at "step") => `(tactic| ((with_reducible apply iMe_Disks__operate); (· walk_at "look")))
local macro_rules | `(tactic| walk_at "step") => `(tactic| ((with_reducible apply iMe_Disks_power); (· walk_at "look")))
local macro_rules | `(tactic| walk_at "step") => `(tactic| ((with_reducible apply iMe_Disks_fail_after); (· walk_at "look")))
local macro_rules | `(tactic| walk_at "step") => `(tactic| ((with_reducible apply iMe_Disks_blank); (· walk_at "look")))
local macro_rules | `(tactic| walk_at "step") => `(tactic| ((with_reducible apply iMe_Disks_away); (· walk_at "look")))
local macro_rules | `(tactic| walk_at "step") => `(tactic| ((with_reducible apply iMe_Disks_bad); (· walk_at "look")))
local macro_rules | `(tactic| walk_at "step") => `(tactic| ((with_reducible apply iMe_Disks_rot); (· walk_at "look")))
local macro_rules | `(tactic| walk_at "step") => `(tactic| ((with_reducible apply iMe_Disks_sync); (· walk_at "look")))
local macro_rules | `(tactic| walk_at "step") => `(tactic| ((with_reducible apply iMe_Disks_write); (· walk_at "look")))
local macro_rules | `(tactic| walk_at "step") => `(tactic| ((with_reducible apply iMe_Disks_ask); (· walk_at "look")))
local macro_rules | `(tactic| walk_at "step") => `(tactic| ((with_reducible apply iMe_Disks_pending); (· walk_at "look")))
local macro_rules | `(tactic| walk_at "step") => `(tactic| ((with_reducible apply iMe_Disks_cell); (· walk_at "look")))
local macro_rules | `(tactic| walk_at "step") => `(tactic| ((with_reducible apply iMe_Disks_is_there); (· walk_at "look")))
local macro_rules | `(tactic| walk_at "step") => `(tactic| ((with_reducible apply iMe_Disks_losses); (· walk_at "look")))
local macro_rules | `(tactic| walk_at "step") => `(tactic| ((with_reducible apply iMe_Disks_is_on); (· walk_at "look")))
local macro_rules | `(tactic| walk_at "step") => `(tactic| ((with_reducible apply iMe_Disks_counts); (· walk_at "look")))
local macro_rules | `(tactic| walk_at "step") => `(tactic| ((with_reducible apply iMe_Disks_sizes); (· walk_at "look")))
local macro_rules | `(tactic| walk_at "step") => `(tactic| ((with_reducible apply iP_Disks__syncs); (· assumption); (· walk_at "look"); (· rfl); (· repeat constructor)))
local macro_rules | `(tactic| walk_at "step") => `(tactic| ((with_reducible apply iN_Disks__syncs); (· assumption); (· walk_at "look"); (· rfl)))
local macro_rules | `(tactic| walk_at "step") => `(tactic| ((with_reducible apply iS_Disks__syncs); (· assumption); (· walk_at "look"); (· repeat constructor)))
local macro_rules | `(tactic| walk_at "step") => `(tactic| ((with_reducible apply iF_Disks__syncs); (· assumption); (· walk_at "look"); (· rfl)))
local macro_rules | `(tactic| walk_at "step") => `(tactic| ((with_reducible apply iP_Disks__writes); (· assumption); (· walk_at "look"); (· rfl); (· repeat constructor)))
local macro_rules | `(tactic| walk_at "step") => `(tactic| ((with_reducible apply iN_Disks__writes); (· assumption); (· walk_at "look"); (· rfl)))
local macro_rules | `(tactic| walk_at "step") => `(tactic| ((with_reducible apply iS_Disks__writes); (· assumption); (· walk_at "look"); (· repeat constructor)))
local macro_rules | `(tactic| walk_at "step") => `(tactic| ((with_reducible apply iF_Disks__writes); (· assumption); (· walk_at "look"); (· rfl)))
local macro_rules | `(tactic| walk_at "step") => `(tactic| ((with_reducible apply iP_Disks__reads); (· assumption); (· walk_at "look"); (· rfl); (· repeat constructor)))
local macro_rules | `(tactic| walk_at "step") => `(tactic| ((with_reducible apply iN_Disks__reads); (· assumption); (· walk_at "look"); (· rfl)))
local macro_rules | `(tactic| walk_at "step") => `(tactic| ((with_reducible apply iS_Disks__reads); (· assumption); (· walk_at "look"); (· repeat constructor)))
local macro_rules | `(tactic| walk_at "step") => `(tactic| ((with_reducible apply iF_Disks__reads); (· assumption); (· walk_at "look"); (· rfl)))
local macro_rules | `(tactic| walk_at "step") => `(tactic| ((with_reducible apply iP_Disks__failures); (· assumption); (· walk_at "look"); (· rfl); (· repeat constructor)))
local macro_rules | `(tactic| walk_at "step") => `(tactic| ((with_reducible apply iN_Disks__failures); (· assumption); (· walk_at "look"); (· rfl)))
local macro_rules | `(tactic| walk_at "step") => `(tactic| ((with_reducible apply iS_Disks__failures); (· assumption); (· walk_at "look"); (· repeat constructor)))
local macro_rules | `(tactic| walk_at "step") => `(tactic| ((with_reducible apply iF_Disks__failures); (· assumption); (· walk_at "look"); (· rfl)))
local macro_rules | `(tactic| walk_at "step") => `(tactic| ((with_reducible apply iM_Disks__left); (· assumption); (· walk_at "look"); (· rfl); (· repeat constructor)))
local macro_rules | `(tactic| walk_at "step") => `(tactic| ((with_reducible apply iN_Disks__left); (· assumption); (· walk_at "look"); (· rfl)))
local macro_rules | `(tactic| walk_at "step") => `(tactic| ((with_reducible apply iS_Disks__left); (· assumption); (· walk_at "look"); (· repeat constructor)))
local macro_rules | `(tactic| walk_at "step") => `(tactic| ((with_reducible apply iF_Disks__left); (· assumption); (· walk_at "look"); (· rfl)))
local macro_rules | `(tactic| walk_at "step") => `(tactic| ((with_reducible apply iN_Disks__on); (· assumption); (· walk_at "look"); (· rfl)))
local macro_rules | `(tactic| walk_at "step") => `(tactic| ((with_reducible apply iS_Disks__on); (· assumption); (· walk_at "look"); (· repeat constructor)))
local macro_rules | `(tactic| walk_at "step") => `(tactic| ((with_reducible apply iF_Disks__on); (· assumption); (· walk_at "look"); (· rfl)))
local macro_rules | `(tactic| walk_at "step") => `(tactic| ((with_reducible apply iN_Disks__waiting); (· assumption); (· walk_at "look"); (· rfl)))
local macro_rules | `(tactic| walk_at "step") => `(tactic| ((with_reducible apply iS_Disks__waiting); (· assumption); (· walk_at "look"); (· repeat constructor)))
local macro_rules | `(tactic| walk_at "step") => `(tactic| ((with_reducible apply iF_Disks__waiting); (· assumption); (· walk_at "look"); (· rfl)))
local macro_rules | `(tactic| walk_at "step") => `(tactic| ((with_reducible apply iN_Disks__media); (· assumption); (· walk_at "look"); (· rfl)))
local macro_rules | `(tactic| walk_at "step") => `(tactic| ((with_reducible apply iS_Disks__media); (· assumption); (· walk_at "look"); (· repeat constructor)))
local macro_rules | `(tactic| walk_at "step") => `(tactic| ((with_reducible apply iF_Disks__media); (· assumption); (· walk_at "look"); (· rfl)))
local macro_rules | `(tactic| walk_at "step") => `(tactic| ((with_reducible apply iN_Disks__there); (· assumption); (· walk_at "look"); (· rfl)))
local macro_rules | `(tactic| walk_at "step") => `(tactic| ((with_reducible apply iS_Disks__there); (· assumption); (· walk_at "look"); (· repeat constructor)))
local macro_rules | `(tactic| walk_at "step") => `(tactic| ((with_reducible apply iF_Disks__there); (· assumption); (· walk_at "look"); (· rfl)))
local macro_rules | `(tactic| walk_at "step") => `(tactic| ((with_reducible apply iN_Disks__sizes); (· assumption); (· walk_at "look"); (· rfl)))
local macro_rules | `(tactic| walk_at "step") => `(tactic| ((with_reducible apply iS_Disks__sizes); (· assumption); (· walk_at "look"); (· repeat constructor)))
local macro_rules | `(tactic| walk_at "step") => `(tactic| ((with_reducible apply iF_Disks__sizes); (· assumption); (· walk_at "look"); (· rfl)))
local macro_rules | `(tactic| walk_at "step") => `(tactic| ((with_reducible apply iN_Disks_scrub_place); (· assumption); (· walk_at "look"); (· rfl)))
local macro_rules | `(tactic| walk_at "step") => `(tactic| ((with_reducible apply iS_Disks_scrub_place); (· assumption); (· walk_at "look"); (· repeat constructor)))
local macro_rules | `(tactic| walk_at "step") => `(tactic| ((with_reducible apply iF_Disks_scrub_place); (· assumption); (· walk_at "look"); (· rfl)))
local macro_rules | `(tactic| walk_at "step") => `(tactic| ((with_reducible apply iN_Disks_formatted); (· assumption); (· walk_at "look"); (· rfl)))
local macro_rules | `(tactic| walk_at "step") => `(tactic| ((with_reducible apply iS_Disks_formatted); (· assumption); (· walk_at "look"); (· repeat constructor)))
local macro_rules | `(tactic| walk_at "step") => `(tactic| ((with_reducible apply iF_Disks_formatted); (· assumption); (· walk_at "look"); (· rfl)))
local macro_rules | `(tactic| walk_at "step") => `(tactic| ((with_reducible apply iN_Disks_in_use); (· assumption); (· walk_at "look"); (· rfl)))
local macro_rules | `(tactic| walk_at "step") => `(tactic| ((with_reducible apply iS_Disks_in_use); (· assumption); (· walk_at "look"); (· repeat constructor)))
local macro_rules | `(tactic| walk_at "step") => `(tactic| ((with_reducible apply iF_Disks_in_use); (· assumption); (· walk_at "look"); (· rfl)))
local macro_rules | `(tactic| walk_at "go") => `(tactic| (repeat walk_at "step"))
section
variable {P : Program} {w : World} {K : PySem.W.Frag} {mg : Str → Option Value} {base : Heap}
/-! ### the law -/
def sp_law (K : PySem.W.Frag) : Sp := fun vs H Q _ => ∃ (a : Addr) (ns : List Int), vs = [.ref a] ∧ SqL K H a (ns.map V.int) ∧ ns.length ≤ 63 ∧ ∀ H', Q (.bl true) H'
theorem iEqTI {K : PySem.W.Frag} {H : Hp} {Q : VK} {p m : Addr} (xs : List Int) (h1 : H p = some (.tup (xs.map V.int))) (h2 : H m = some (.tup (xs.map V.int))) (q : Q (.bl true) H) : rEqD K (.ref p) (.ref m) H Q :=
  iEqAt (d := .tuple (xs.map PyData.int)) (.tup h1 (ints_at xs)) (.tup h2 (ints_at xs)) (Dep.tuple fun d hd => by
    obtain ⟨m, _, rfl⟩ := List.mem_map.mp hd
    exact Dep.int) q
theorem op_eqDK {X : Cx} {K : PySem.W.Frag} (hK : X.K = K) (hu : X.A.units + 64 < cLine) : OpR X (compareOp .Eq) (rEqD K) := by subst hK; exact op_eqD hu
theorem op_neDK {X : Cx} {K : PySem.W.Frag} (hK : X.K = K) (hu : X.A.units + 64 < cLine) : OpR X (compareOp .NotEq) (rNeD K) := by subst hK; exact op_neD hu
/-- counts told twice -/
theorem iNeC {K : PySem.W.Frag} {H : Hp} {Q : VK} {p m : Addr} (D : DK) (h1 : H p = some (.tup (cnt D))) (h2 : H m = some (.tup (cnt D))) (q : Q (.bl false) H) : rNeD K (.ref p) (.ref m) H Q := iNeTI [(D.reads : Int), (D.writes : Int), (D.syncs : Int)] h1 h2 q
theorem iEqC {K : PySem.W.Frag} {H : Hp} {Q : VK} {p m : Addr} (D : DK) (h1 : H p = some (.tup (cnt D))) (h2 : H m = some (.tup (cnt D))) (q : Q (.bl true) H) : rEqD K (.ref p) (.ref m) H Q := iEqTI [(D.reads : Int), (D.writes : Int), (D.syncs : Int)] h1 h2 q
theorem cntC {C : Addr} {H F Rs : Hp} {L : DL → Addr} {D : DK} {Q : VK} {E : XK} (h : DAt C H F Rs L D) (q : ∀ p, H p = none → Q (.ref p) (upd H p (.tup (cnt D)))) : sp_counts C [.ref (L .obj)] H Q E := ⟨F, Rs, L, D, rfl, h, q⟩
theorem power_on {D : DK} {f : Nat → List Bool} (on : D.on = true) : (D.power f).on = true ∧ (D.power f).fails = D.fails + 1 ∧ cnt (D.power f) = cnt D := by
  unfold DK.power
  rw [if_pos on]
  exact ⟨rfl, rfl, rfl⟩
theorem power_off {D : DK} {f : Nat → List Bool} (on : D.on = false) : (D.power f).on = true ∧ (D.power f).fails = D.fails ∧ cnt (D.power f) = cnt D := by
  unfold DK.power
  rw [if_neg (by rw [on]; decide)]
  exact ⟨rfl, rfl, rfl⟩
theorem ok_law {C CI CP : Addr} (M : Mg mg) (T : Tx_Disks K C) (e_PowerOff : ExT K mg "PowerOff" CP) {f : Addr} {fd : FuncData} (F : Fun K "law" "law" s_law f fd) (c__law_draw : Cal P w K mg base 1 "_law_draw" ["script", "k"] (sp_draw K)) (c__law_wrong : Cal P w K mg base 5 "_law_wrong" ["number"] sp_wrong)
    (c_Disks : MakX P w K mg base 3 C "Disks" ["self", "disks", "sectors", "carrying", "depth"] (sp_init C CI)) (c_Disks_away : MetN P w K mg base 2 C "away" ["self", "disk"] (sp_away C)) (c_Disks_fail_after : MetN P w K mg base 1 C "fail_after" ["self", "operations"] (sp_fail_after C CP))
    (c__law_one : CalN P w K mg base 4 "_law_one" ["disks", "counts", "number"] (sp_one C CP)) (c_Disks_losses : MetN P w K mg base 1 C "losses" ["self"] (sp_losses C)) (c_Disks_counts : MetN P w K mg base 1 C "counts" ["self"] (sp_counts C)) (c_Disks_is_on : MetN P w K mg base 1 C "is_on" ["self"] (sp_is_on C)) (c_Disks_power : MetN P w K mg base 2 C "power" ["self", "kept"] (sp_power C))
    (h_Disks_losses : MetH P w K mg base 1 C "losses" ["self"] (sp_losses C)) (h_Disks_counts : MetH P w K mg base 1 C "counts" ["self"] (sp_counts C)) (h_Disks_is_on : MetH P w K mg base 1 C "is_on" ["self"] (sp_is_on C)) (h_Disks_power : MetH P w K mg base 2 C "power" ["self", "kept"] (sp_power C)) (h__law_dark : CalH P w K mg base 4 "_law_dark" ["disks"] (sp_dark C)) : FnOk P w K mg base CX0 6 f fd ["script"] (sp_law K) := by
  refine F.ok sc_law (fun vs H Q E h => ?_) (fun cdv A outer s H vs Q E hr h => ?_)
  · obtain ⟨a, ns, rfl, _⟩ := h; rfl
  · obtain ⟨sc, ns, rfl, hS, hn, q⟩ := h
    refine ⟨_, (pss_cons (ps_if (pt_not (pt_val (pe_cal c__law_wrong (hr.mono (by omega)) (by rfl) (pa_cons (pe_op op_mod (pe_cal c__law_draw (hr.mono (by omega)) (by rfl) (pa_cons (pv 0) (pa_cons pe_int pa_nil))) pe_int) pa_nil)))) (pss_one (ps_ret pe_bl)) pss_nil) (pss_cons (ps_set (i := 1) sc_law.nd rfl (Or.inl rfl) (pe_makE c_Disks (hr.mono (by omega)) (by rfl) (pa_cons pe_int (pa_cons pe_int (pa_cons pe_int (pa_cons pe_int pa_nil)))))) (pss_cons (ps_expr (pe_metN c_Disks_away (hr.mono (by omega)) xpN0 (pv 1) (pa_cons (pe_op op_mod (pe_cal c__law_draw (hr.mono (by omega)) (by rfl) (pa_cons (pv 0) (pa_cons pe_int pa_nil))) pe_int) pa_nil))) (pss_cons (ps_set (i := 2) sc_law.nd rfl (Or.inl rfl) (pe_op op_mod (pe_cal c__law_draw (hr.mono (by omega)) (by rfl) (pa_cons (pv 0) (pa_cons pe_int pa_nil))) pe_int)) (pss_cons (ps_expr (pe_metN c_Disks_fail_after (hr.mono (by omega)) xpN0 (pv 1) (pa_cons pe_int pa_nil))) (pss_cons (ps_expr (pe_metN c_Disks_fail_after (hr.mono (by omega)) xpN0 (pv 1) (pa_cons (pv 2) pa_nil))) (pss_cons (ps_set (i := 3) sc_law.nd rfl (Or.inl rfl) (pe_lst (pa_cons pe_int (pa_cons pe_int (pa_cons pe_int pa_nil))))) (pss_cons (ps_for PassesOwn.never rfl (pi_range1 (by rfl) M.n_range (pa_cons (pe_op op_add pe_int (pe_callB (call_min2 rfl) (by rfl) M.n_min (by decide +kernel) (pa_cons pe_int (pa_cons (pe_callB call_len_seq (by rfl) M.n_len PySem.boot_len (pa_cons (pv 0) pa_nil)) pa_nil)))) pa_nil)) (pg_name (i := 4) sc_law.nd rfl (Or.inl rfl)) (pss_cons (ps_set (i := 5) sc_law.nd rfl (Or.inl rfl) (pe_cal c__law_draw (hr.mono (by omega)) (by rfl) (pa_cons (pv 0) (pa_cons (pv 4) pa_nil)))) (pss_cons (ps_try_onlyX rfl rfl ⟨rfl, by decide, .inl e_PowerOff.g⟩ (fun _ => PassesOwnAt.never) takes0 (fun W pn xe tk tk2 po => (pss_cons (ps_set (i := 2) sc_law.nd rfl (Or.inl rfl) (pe_op op_sub (pv 2) (pe_calN c__law_one (hr.mono (by omega)) (by rfl) (fun σ => L2N.passAt tk σ) (pa_cons (pv 1) (pa_cons (pv 3) (pa_cons (pv 5) pa_nil)))))) (pss_one (ps_if (PW.pt (pw_or (pt_cmpR op_lt (pv 2) pe_int (nomark _)) (pw_or1 (pt_cmpR op_ne (pe_metN0 c_Disks_losses (hr.mono (by omega)) (fun σ => L2N.passAt tk σ) (pv 1)) pe_int (nomark _))))) (pss_one (ps_ret pe_bl)) pss_nil)))) (fun a oe cls d pn hz hf tkS hcS => (pss_cons (ps_if (PW.pt (pw_or (pt_cmpR op_ne (pv 2) pe_int (nomark _)) (pw_or (pt_cmpR op_ne (pe_metH0 h_Disks_losses (roomMark (roomH_of (hr.mono (by omega)))) hcS xp0 (pv 1)) pe_int (nomark _)) (pw_or (pt_not (pt_val (pe_calH h__law_dark (roomMark (roomH_of (hr.mono (by omega)))) hcS (by rfl) xp0 (pa_cons (pv 1) pa_nil)))) (pw_or1 (pt_cmpR (op_neDK (K := K) rfl hr.units) (pe_metH0 h_Disks_counts (roomMark (roomH_of (hr.mono (by omega)))) hcS xp0 (pv 1)) (pe_callTy tup_l (by rfl) M.n_tuple (by decide +kernel) (pa_cons (pv 3) pa_nil)) (nomark _))))))) (pss_one (ps_ret pe_bl)) pss_nil) (pss_cons (ps_expr (pe_metH h_Disks_power (roomMark (roomH_of (hr.mono (by omega)))) hcS xp0 (pv 1) (pa_cons (pe_lst pa_nil) pa_nil))) (pss_one (ps_ret (pe_and (pe_metH0 h_Disks_is_on (roomMark (roomH_of (hr.mono (by omega)))) hcS xp0 (pv 1)) (pe_and (pe_cmpR op_eq (pe_metH0 h_Disks_losses (roomMark (roomH_of (hr.mono (by omega)))) hcS xp0 (pv 1)) pe_int (nomark _)) (pe_one (pe_cmpR (op_eqDK (K := K) rfl hr.units) (pe_metH0 h_Disks_counts (roomMark (roomH_of (hr.mono (by omega)))) hcS xp0 (pv 1)) (pe_callTy tup_l (by rfl) M.n_tuple (by decide +kernel) (pa_cons (pv 3) pa_nil)) (nomark _))))))))))) (pss_one (ps_if (pt_cmpR (op_neD hr.units) (pe_metN0 c_Disks_counts (hr.mono (by omega)) xpN0 (pv 1)) (pe_callTy tup_l (by rfl) M.n_tuple (by decide +kernel) (pa_cons (pv 3) pa_nil)) (nomark _)) (pss_one (ps_ret pe_bl)) pss_nil))))) (pss_cons (ps_expr (pe_metN c_Disks_power (hr.mono (by omega)) xpN0 (pv 1) (pa_cons (pe_lst pa_nil) pa_nil))) (pss_one (ps_ret (pe_and (pe_metN0 c_Disks_is_on (hr.mono (by omega)) xpN0 (pv 1)) (pe_and (pe_cmpR op_eq (pe_metN0 c_Disks_losses (hr.mono (by omega)) xpN0 (pv 1)) pe_int (nomark _)) (pe_one (pe_cmpR (op_eqD hr.units) (pe_metN0 c_Disks_counts (hr.mono (by omega)) xpN0 (pv 1)) (pe_callTy tup_l (by rfl) M.n_tuple (by decide +kernel) (pa_cons (pv 3) pa_nil)) (nomark _)))))))))))))))), ?_⟩
    refine iBody (by repeat constructor) ?_
    walk_at "go"
    refine j_draw (k := 0) hS hn (by omega) fun v0 hv0 => ?_
    walk_at "go"
    obtain ⟨c0, hc0, ec0⟩ : ∃ c : Nat, c < 100 ∧ ((v0 : Int) % 100) = ((c : Nat) : Int) := ⟨v0 % 100, by omega, by omega⟩
    rw [ec0]
    refine ⟨c0, rfl, hc0, fun Hw ew => ?_⟩
    have hS := Evl.ex_l ew hS
    clear ew
    walk_at "go"
    intro o dx no ndx nox
    have hoo : (upd (upd Hw dx (.own o)) o (.ins C dx [])) o = some (.ins C dx []) := upd_same
    have eF0 : Ex (only sc Hw) (upd (upd Hw dx (.own o)) o (.ins C dx [])) := only_ex.trans ((Evl.Ex.new ndx).trans (Evl.Ex.new (by rw [upd_ne nox.symm]; exact no)))
    have eN : Ex (fun _ => none) (upd (upd Hw dx (.own o)) o (.ins C dx [])) := fun _ _ h => by cases h
    have hseq := only_seq (K := K) hS
    have nF0 : only sc Hw o = none := only_none no
    generalize only sc Hw = F0 at eF0 hseq nF0
    generalize upd (upd Hw dx (.own o)) o (.ins C dx []) = H0 at hoo eF0 eN ⊢
    refine ⟨F0, fun _ => none, o, dx, 4, 48, 2, 1, rfl, by omega, by omega, by omega, by omega, by omega, by omega, by omega, hoo, eF0, eN, nF0, rfl, fun p hp => absurd rfl hp, fun H1 F1 L eL e1 D1 => ⟨rfl, ?_⟩⟩
    rw [← eL]
    obtain ⟨dx1, szs1, hO, -⟩ := D1.obj
    have hS1 := Evl.ex_l (e1.trans D1.fs) hseq
    walk_at "go"
    refine j_draw (k := 1) hS1 hn (by omega) fun v1 hv1 => ?_
    walk_at "go"
    obtain ⟨c1, hc1, ec1⟩ : ∃ c : Nat, c < 4 ∧ ((v1 : Int) % 4) = ((c : Nat) : Int) := ⟨v1 % 4, by omega, by omega⟩
    rw [ec1]
    refine ⟨F1, _, L, _, c1, rfl, D1, hc1, fun H2 L2 eL2 D2 => ?_⟩
    rw [← eL2]
    clear hO hS1
    obtain ⟨dx2, szs2, hO, -⟩ := D2.obj
    have hS2 := Evl.ex_l (e1.trans D2.fs) hseq
    walk_at "go"
    refine j_draw (k := 2) hS2 hn (by omega) fun v2 hv2 => ?_
    walk_at "go"
    obtain ⟨c2, hc2, ec2⟩ : ∃ c : Nat, c < 13 ∧ ((v2 : Int) % 13) = ((c : Nat) : Int) := ⟨v2 % 13, by omega, by omega⟩
    rw [ec2]
    walk_at "go"
    refine ⟨F1, _, L2, _, 90, rfl, D2, (fun off => by cases off), fun _ H3 D3 => ?_⟩
    clear hO hS2
    obtain ⟨dx3, szs3, hO, -⟩ := D3.obj
    walk_at "go"
    refine ⟨F1, _, L2, _, c2, rfl, D3, (fun off => by cases off), fun _ H4 D4 => ?_⟩
    walk_at "go"
    refine iNewL (by simp) fun pc hpc => ?_
    have D5 := D4.newR (o := .lst [.int 0, .int 0, .int 0]) hpc
    have one0 : One ({ ({ (DK.new 4 48 2 1).away c1 with left := some 90 } : DK) with left := some c2 } : DK) c2 0 := ⟨rfl, rfl, rfl, rfl, rfl, fun d => by
      show (if d = c1 then [] else [] : List (Nat × Sec)).length ≤ 0
      split <;> exact Nat.le_refl _⟩
    have cn0 : cnt ({ ({ (DK.new 4 48 2 1).away c1 with left := some 90 } : DK) with left := some c2 } : DK) = [.int 0, .int 0, .int 0] := rfl
    generalize upd H4 pc _ = H5 at D5 ⊢
    rw [← cn0] at D5
    generalize ({ ({ (DK.new 4 48 2 1).away c1 with left := some 90 } : DK) with left := some c2 } : DK) = D at D5 one0
    have hS5 := Evl.ex_l (e1.trans D5.fs) hseq
    walk_at "go"
    refine ⟨sc, _, rfl, .inl hS5, ?_⟩
    rw [List.length_map]
    walk_at "go"
    refine ⟨_, _, rfl, ?_⟩
    have hcnt : (if (ns.length : Int) < 30 then (ns.length : Int) else 30) ≤ 30 ∧ 0 ≤ (if (ns.length : Int) < 30 then (ns.length : Int) else 30) := by split <;> omega
    generalize (if (ns.length : Int) < 30 then (ns.length : Int) else 30) = cn at hcnt ⊢
    walk_at "go"
    refine forJ_range0 (fun i σ' H' => (∃ x4 x5 lf, σ' = [some (.ref sc), some (.ref (L2 .obj)), some (.int ((lf : Nat) : Int)), some (.ref pc), x4, x5] ∧ ∃ F' L' D', Ex F0 F' ∧ L' .obj = L2 .obj ∧ DAt C H' F' (upd (fun _ => none) pc (.lst (cnt D'))) L' D' ∧ One D' lf i)) ⟨_, _, c2, rfl, F1, L2, D, e1, rfl, D5, one0⟩ (fun i σ' H' hi hp' => ?_) (fun σ' H' hp' => ?_)
    · obtain ⟨x4, x5, lf, rfl, F', L', D', ef, el, D6, one⟩ := hp'
      walk_at "go"
      refine j_draw (Evl.ex_l (ef.trans D6.fs) hseq) hn (by omega) fun v hv => ?_
      walk_at "go"
      rw [← el]
      refine ⟨F', _, L', D', pc, v, lf, i, rfl, D6, upd_same, one, by omega, fun lf0 H7 D7 => ?_, fun t lf' D8 H8 F8 L8 elf el8 ef8 D9 one9 => ?_⟩
      · refine iOnly e_PowerOff fun ex hex => ?_
        subst lf0
        obtain ⟨dx7, szs7, hO, -⟩ := D7.obj
        have hpc7 : H7 pc = some (.lst (cnt D')) := D7.rs _ _ upd_same
        walk_at "go"
        refine j_losses D7 ?_
        rw [show D'.fail.fails = 1 by show D'.fails + 1 = 1; rw [one.fails]]
        walk_at "go"
        refine ⟨F', _, L', _, rfl, D7, rfl, one.n, one.m, fun d => by have := one.few d; show (D'.wait d).length < 90000; omega, fun H8 D8 => ?_⟩
        clear hO hpc7
        obtain ⟨dx8, szs8, hO, -⟩ := D8.obj
        have hpc8 : H8 pc = some (.lst (cnt D')) := D8.rs _ _ upd_same
        walk_at "go"
        refine cntC D8 fun ta hta => ?_
        have a1 := (Evl.Ex.new (o := .tup (cnt D'.fail)) hta) _ _ hpc8
        walk_at "go"
        refine iTupL a1 fun tb htb => ?_
        refine iNeC D' ((upd_ne (ne_of_none upd_same htb)).trans upd_same) upd_same ?_
        have D9 := (D8.ex (Evl.Ex.new (o := .tup (cnt D'.fail)) hta)).ex (Evl.Ex.new (o := .tup (cnt D')) htb)
        generalize upd (upd H8 ta _) tb _ = H9 at D9 ⊢
        clear hO a1
        obtain ⟨dx9, szs9, hO, -⟩ := D9.obj
        walk_at "go"
        refine iNewL (by simp) fun pk hpk => ?_
        have DA := D9.newR (o := .lst []) hpk
        refine ⟨_, _, L', _, pk, [], rfl, DA, ⟨[], upd_same, rfl, fun i v k hv => by simp at hv⟩, fun HB LB eLB DB => ?_⟩
        obtain ⟨on, fl, cq⟩ := power_off (D := D'.fail) (f := fun d => ([] : List (List Bool)).getD d []) rfl
        have hpcB : HB pc = some (.lst (cnt D')) := DB.rs _ _ ((upd_ne (ne_of_none (D9.rs _ _ upd_same) hpk)).trans upd_same)
        have cq : cnt (D'.fail.power fun d => ([] : List (List Bool)).getD d []) = cnt D' := cq
        have fl : (D'.fail.power fun d => ([] : List (List Bool)).getD d []).fails = 1 := fl.trans (by show D'.fails + 1 = 1; rw [one.fails])
        generalize (D'.fail.power fun d => ([] : List (List Bool)).getD d []) = DP at DB on fl cq
        rw [← eLB]
        clear hO
        obtain ⟨dxB, szsB, hO, -⟩ := DB.obj
        walk_at "go"
        refine j_is_on DB ?_
        rw [on]
        walk_at "go"
        refine j_losses DB ?_
        rw [fl]
        walk_at "go"
        refine cntC DB fun tc htc => ?_
        rw [cq]
        have a2 := (Evl.Ex.new (o := .tup (cnt D')) htc) _ _ hpcB
        walk_at "go"
        refine iTupL a2 fun td htd => ?_
        refine iEqC D' ((upd_ne (ne_of_none upd_same htd)).trans upd_same) upd_same ?_
        walk_at "go"
        exact q _
      · rw [upd_upd] at D9
        rw [← el8]
        obtain ⟨dx9, szs9, hO, -⟩ := D9.obj
        have hpc9 := D9.rs _ _ upd_same
        walk_at "go"
        rw [show (lf : Int) - (t : Int) = ((lf' : Nat) : Int) by omega]
        walk_at "go"
        refine j_losses D9 ?_
        rw [show D8.fails = 0 from one9.fails]
        walk_at "go"
        refine cntC D9 fun ta hta => ?_
        have a1 := (Evl.Ex.new (o := .tup (cnt D8)) hta) _ _ hpc9
        walk_at "go"
        refine iTupL a1 fun tb htb => ?_
        refine iNeC D8 ((upd_ne (ne_of_none upd_same htb)).trans upd_same) upd_same ?_
        have DA := (D9.ex (Evl.Ex.new (o := .tup (cnt D8)) hta)).ex (Evl.Ex.new (o := .tup (cnt D8)) htb)
        walk_at "go"
        exact ⟨_, _, lf', rfl, F8, L8, D8, ef.trans ef8, rfl, DA, one9⟩
    · obtain ⟨x4, x5, lf, rfl, F', L', D', ef, el, D6, one⟩ := hp'
      rw [← el]
      obtain ⟨dx6, szs6, hO, -⟩ := D6.obj
      walk_at "go"
      refine iNewL (by simp) fun pk hpk => ?_
      have DA := D6.newR (o := .lst []) hpk
      refine ⟨_, _, L', _, pk, [], rfl, DA, ⟨[], upd_same, rfl, fun i v k hv => by simp at hv⟩, fun HB LB eLB DB => ?_⟩
      obtain ⟨on, fl, cq⟩ := power_on (D := D') (f := fun d => ([] : List (List Bool)).getD d []) one.on
      have hpcB : HB pc = some (.lst (cnt D')) := DB.rs _ _ ((upd_ne (ne_of_none (D6.rs _ _ upd_same) hpk)).trans upd_same)
      rw [one.fails] at fl
      generalize (D'.power fun d => ([] : List (List Bool)).getD d []) = DP at DB on fl cq
      rw [← eLB]
      clear hO
      obtain ⟨dxB, szsB, hO, -⟩ := DB.obj
      walk_at "go"
      refine j_is_on DB ?_
      rw [on]
      walk_at "go"
      refine j_losses DB ?_
      rw [fl]
      walk_at "go"
      refine cntC DB fun tc htc => ?_
      rw [cq]
      have a2 := (Evl.Ex.new (o := .tup (cnt D')) htc) _ _ hpcB
      walk_at "go"
      refine iTupL a2 fun td htd => ?_
      refine iEqC D' ((upd_ne (ne_of_none upd_same htd)).trans upd_same) upd_same ?_
      walk_at "go"
      exact q _
end
end R
set_option Elab.async false
set_option linter.all false
set_option maxRecDepth 100000
set_option maxHeartbeats 4000000
namespace R
open PySem PySem.Spec L2 L2H
open Evl (Ex)

local macro_rules | `(tactic| walk_at "ne") => `(tactic| (apply Ne.symm; apply ne_fresh; (· assumption); (· walk_at "look")))
local macro_rules | `(tactic| walk_at "ne") => `(tactic| (apply ne_fresh; (· assumption); (· walk_at "look")))
local macro_rules | `(tactic| walk_at "ne") => `(tactic| (apply Ne.symm; assumption))
local macro_rules | `(tactic| walk_at "ne") => `(tactic| assumption)
local macro_rules | `(tactic| walk_at "look") => `(tactic| (refine exAt (by assumption) ?_; walk_at "look"))
local macro_rules | `(tactic| walk_at "look") => `(tactic| (refine (upd_ne ?_).trans ?_; (· walk_at "ne"); (· walk_at "look")))
local macro_rules | `(tactic| walk_at "look") => `(tactic| exact upd_same)
local macro_rules | `(tactic| walk_at "look") => `(tactic| assumption)
local macro_rules | `(tactic| walk_at "side") => `(tactic| (exact ⟨by decide, by decide, by decide⟩))
local macro_rules | `(tactic| walk_at "side") => `(tactic| (exact ⟨by omega, by omega⟩))
local macro_rules | `(tactic| walk_at "side") => `(tactic| (show (0:Int) ≤ _; omega))
local macro_rules | `(tactic| walk_at "side") => `(tactic| (show (0:Int) < _; omega))
local macro_rules | `(tactic| walk_at "side") => `(tactic| (exact Or.inr ⟨by omega, by omega⟩))
local macro_rules | `(tactic| walk_at "side") => `(tactic| (exact Or.inl ⟨by omega, by omega⟩))
local macro_rules | `(tactic| walk_at "step") => `(tactic| ((with_reducible apply iZL); (· walk_at "look"); (· walk_at "look")))
local macro_rules | `(tactic| walk_at "step") => `(tactic| ((with_reducible apply iItL); (· walk_at "look")))
local macro_rules | `(tactic| walk_at "step") => `(tactic| ((with_reducible apply iRng2I); (· omega); (· omega); (· omega); (· omega)))
local macro_rules | `(tactic| walk_at "step") => `(tactic| ((with_reducible apply iDNi); (· walk_at "look")))
local macro_rules | `(tactic| walk_at "step") => `(tactic| ((with_reducible apply iDIi); (· walk_at "look")))
local macro_rules | `(tactic| walk_at "step") => `(tactic| ((with_reducible apply iGTup); (· walk_at "look"); (· rfl)))
local macro_rules | `(tactic| walk_at "step") => `(tactic| ((with_reducible apply iLcB); (· rfl)))
local macro_rules | `(tactic| walk_at "step") => `(tactic| ((with_reducible apply ifNn); (· omega)))
local macro_rules | `(tactic| walk_at "step") => `(tactic| ((with_reducible apply ifNp); (· omega)))
local macro_rules | `(tactic| walk_at "step") => `(tactic| ((with_reducible apply ifF); (· apply decide_eq_false; omega)))
local macro_rules | `(tactic| walk_at "step") => `(tactic| ((with_reducible apply ifT); (· apply decide_eq_true; omega)))
local macro_rules | `(tactic| walk_at "step") => `(tactic| ((with_reducible apply ifF); (· rfl)))
local macro_rules | `(tactic| walk_at "step") => `(tactic| ((with_reducible apply ifT); (· rfl)))
local macro_rules | `(tactic| walk_at "step") => `(tactic| ((with_reducible apply iLenS); (· first | exact Or.inl (by walk_at "look") | exact Or.inr (by walk_at "look"))))
local macro_rules | `(tactic| walk_at "step") => `(tactic| ((with_reducible apply iLenT); (· walk_at "look")))
local macro_rules | `(tactic| walk_at "step") => `(tactic| ((with_reducible apply iIsi); (· first | exact tyN_int | exact tyN_bl | exact tyN_non | exact tyN_str | exact tyN_lst (by walk_at "look") | exact tyN_tup (by walk_at "look")); (· (first | exact kb_NoneType_bool | exact kb_NoneType_int | exact kb_NoneType_str | exact kb_NoneType_tuple | exact kb_NoneType_list | exact kb_bool_bool | exact kb_bool_int | exact kb_bool_str | exact kb_bool_tuple | exact kb_bool_list | exact kb_int_bool | exact kb_int_int | exact kb_int_str | exact kb_int_tuple | exact kb_int_list | exact kb_str_bool | exact kb_str_int | exact kb_str_str | exact kb_str_tuple | exact kb_str_list | exact kb_tuple_bool | exact kb_tuple_int | exact kb_tuple_str | exact kb_tuple_tuple | exact kb_tuple_list | exact kb_list_bool | exact kb_list_int | exact kb_list_str | exact kb_list_tuple | exact kb_list_list))))
local macro_rules | `(tactic| walk_at "step") => `(tactic| ((with_reducible apply iIxT); (· walk_at "look"); (· rfl)))
local macro_rules | `(tactic| walk_at "step") => `(tactic| ((with_reducible apply iSetL); (· walk_at "look"); (· rfl)))
local macro_rules | `(tactic| walk_at "step") => `(tactic| ((with_reducible apply iLenL); (· walk_at "look")))
local macro_rules | `(tactic| walk_at "step") => `(tactic| ((with_reducible apply iIxL); (· walk_at "look"); (· rfl)))
local macro_rules | `(tactic| walk_at "step") => `(tactic| ((with_reducible apply iI); rotate_left; (· (first | (exact Or.inl ⟨by omega, by omega⟩) | (exact Or.inr ⟨by omega, by omega⟩) | (show (0:Int) < _; omega) | (show (0:Int) ≤ _; omega) | (exact ⟨by omega, by omega⟩) | (exact ⟨by decide, by decide, by decide⟩)))))
local macro_rules | `(tactic| walk_at "step") => `(tactic| ((with_reducible apply iAugK); (· rfl)))
local macro_rules | `(tactic| walk_at "step") => `(tactic| ((with_reducible apply iRngI); (· first | decide | omega); (· first | decide | omega)))
local macro_rules | `(tactic| walk_at "step") => `(tactic| (with_reducible refine iDEa ?_))
local macro_rules | `(tactic| walk_at "step") => `(tactic| (with_reducible refine iGNil ?_))
local macro_rules | `(tactic| walk_at "step") => `(tactic| (with_reducible refine iGCons ?_))
local macro_rules | `(tactic| walk_at "step") => `(tactic| (with_reducible refine iZipK ?_))
local macro_rules | `(tactic| walk_at "step") => `(tactic| (with_reducible refine iRng2 ?_))
local macro_rules | `(tactic| walk_at "step") => `(tactic| (with_reducible refine iDPut ?_))
local macro_rules | `(tactic| walk_at "step") => `(tactic| (with_reducible refine iDNotIn ?_))
local macro_rules | `(tactic| walk_at "step") => `(tactic| (with_reducible refine iDIn ?_))
local macro_rules | `(tactic| walk_at "step") => `(tactic| (with_reducible refine iDGet ?_))
local macro_rules | `(tactic| walk_at "step") => `(tactic| (with_reducible refine iYes ?_))
local macro_rules | `(tactic| walk_at "step") => `(tactic| (with_reducible refine iLc ?_))
local macro_rules | `(tactic| walk_at "step") => `(tactic| (with_reducible refine iNeS ?_))
local macro_rules | `(tactic| walk_at "step") => `(tactic| (with_reducible refine iEqS ?_))
local macro_rules | `(tactic| walk_at "step") => `(tactic| (with_reducible refine iNeB ?_))
local macro_rules | `(tactic| walk_at "step") => `(tactic| (with_reducible refine iEqB ?_))
local macro_rules | `(tactic| walk_at "step") => `(tactic| (with_reducible refine iCont ?_))
local macro_rules | `(tactic| walk_at "step") => `(tactic| (with_reducible refine iBreak ?_))
local macro_rules | `(tactic| walk_at "step") => `(tactic| (with_reducible refine iIterL ?_))
local macro_rules | `(tactic| walk_at "step") => `(tactic| (with_reducible refine iTup ?_))
local macro_rules | `(tactic| walk_at "step") => `(tactic| (with_reducible refine iLst ?_))
local macro_rules | `(tactic| walk_at "step") => `(tactic| (with_reducible refine iSub ?_))
local macro_rules | `(tactic| walk_at "step") => `(tactic| (with_reducible refine iIpI ?_))
local macro_rules | `(tactic| walk_at "step") => `(tactic| (with_reducible refine iAugS ?_))
local macro_rules | `(tactic| walk_at "step") => `(tactic| (with_reducible refine iNotV ?_))
local macro_rules | `(tactic| walk_at "step") => `(tactic| (with_reducible refine iOrV ?_))
local macro_rules | `(tactic| walk_at "step") => `(tactic| (with_reducible refine iAndV ?_))
local macro_rules | `(tactic| walk_at "step") => `(tactic| (with_reducible refine iDGet1 ?_))
local macro_rules | `(tactic| walk_at "step") => `(tactic| (with_reducible refine iNotBl ?_))
local macro_rules | `(tactic| walk_at "step") => `(tactic| (with_reducible refine iIsB ?_))
local macro_rules | `(tactic| walk_at "step") => `(tactic| (with_reducible refine iIntB ?_))
local macro_rules | `(tactic| walk_at "step") => `(tactic| (with_reducible refine iPn ?_))
local macro_rules | `(tactic| walk_at "step") => `(tactic| (with_reducible refine iPr ?_))
local macro_rules | `(tactic| walk_at "step") => `(tactic| (with_reducible refine iRai ?_))
local macro_rules | `(tactic| walk_at "step") => `(tactic| (with_reducible refine iRev1 ?_))
local macro_rules | `(tactic| walk_at "step") => `(tactic| (with_reducible refine iBM ?_))
local macro_rules | `(tactic| walk_at "step") => `(tactic| (with_reducible refine iAugF ?_))
local macro_rules | `(tactic| walk_at "step") => `(tactic| (with_reducible refine iSto ?_))
local macro_rules | `(tactic| walk_at "step") => `(tactic| (with_reducible refine iFld ?_))
local macro_rules | `(tactic| walk_at "step") => `(tactic| (with_reducible refine iMakS ?_))
local macro_rules | `(tactic| walk_at "step") => `(tactic| (with_reducible refine iMak ?_))
local macro_rules | `(tactic| walk_at "step") => `(tactic| (with_reducible refine iMet ?_))
local macro_rules | `(tactic| walk_at "step") => `(tactic| (with_reducible refine iCalE ?_))
local macro_rules | `(tactic| walk_at "step") => `(tactic| (with_reducible refine ifDr ?_))
local macro_rules | `(tactic| walk_at "step") => `(tactic| (with_reducible refine ifNDr ?_))
local macro_rules | `(tactic| walk_at "step") => `(tactic| (with_reducible refine iTruI ?_))
local macro_rules | `(tactic| walk_at "step") => `(tactic| (with_reducible refine iNotN ?_))
local macro_rules | `(tactic| walk_at "step") => `(tactic| (with_reducible refine iIsN ?_))
local macro_rules | `(tactic| walk_at "step") => `(tactic| (with_reducible refine iRetN ?_))
local macro_rules | `(tactic| walk_at "step") => `(tactic| (with_reducible refine iU ?_))
local macro_rules | `(tactic| walk_at "step") => `(tactic| (with_reducible refine iUn ?_))
local macro_rules | `(tactic| walk_at "step") => `(tactic| (with_reducible refine iChain ?_))
local macro_rules | `(tactic| walk_at "step") => `(tactic| (with_reducible refine iIf ?_))
local macro_rules | `(tactic| walk_at "step") => `(tactic| (with_reducible refine iB ?_))
local macro_rules | `(tactic| walk_at "step") => `(tactic| (with_reducible refine iNot ?_))
local macro_rules | `(tactic| walk_at "step") => `(tactic| (with_reducible refine iOr ?_))
local macro_rules | `(tactic| walk_at "step") => `(tactic| (with_reducible refine iAnd ?_))
local macro_rules | `(tactic| walk_at "step") => `(tactic| (with_reducible refine iCal ?_))
local macro_rules | `(tactic| walk_at "step") => `(tactic| (with_reducible refine iRng ?_))
local macro_rules | `(tactic| walk_at "step") => `(tactic| (with_reducible refine iFor ?_))
local macro_rules | `(tactic| walk_at "step") => `(tactic| (with_reducible refine iInt ?_))
local macro_rules | `(tactic| walk_at "step") => `(tactic| (with_reducible refine iNeI ?_))
local macro_rules | `(tactic| walk_at "step") => `(tactic| (with_reducible refine iEqI ?_))
local macro_rules | `(tactic| walk_at "step") => `(tactic| (with_reducible refine iDrop ?_))
local macro_rules | `(tactic| walk_at "step") => `(tactic| (with_reducible refine iNext ?_))
local macro_rules | `(tactic| walk_at "step") => `(tactic| (with_reducible refine iRet ?_))
local macro_rules | `(tactic| walk_at "step") => `(tactic| (with_reducible refine iBl ?_))
local macro_rules | `(tactic| walk_at "step") => `(tactic| (with_reducible refine iTest ?_))
local macro_rules | `(tactic| walk_at "step") => `(tactic| (with_reducible refine iIfS ?_))
local macro_rules | `(tactic| walk_at "step") => `(tactic| (with_reducible refine iCB ?_))
local macro_rules | `(tactic| walk_at "step") => `(tactic| (with_reducible refine iNil ?_))
local macro_rules | `(tactic| walk_at "step") => `(tactic| (with_reducible refine iCons ?_))
local macro_rules | `(tactic| walk_at "step") => `(tactic| (with_reducible refine iI0 ?_))
local macro_rules | `(tactic| walk_at "step") => `(tactic| (with_reducible refine iOp ?_))
local macro_rules | `(tactic| walk_at "step") => `(tactic| (with_reducible refine iC ?_))
local macro_rules | `(tactic| walk_at "step") => `(tactic| ((with_reducible apply iVar); (· rfl)))
local macro_rules | `(tactic| walk_at "step") => `(tactic| ((with_reducible apply iName); (· repeat constructor)))
local macro_rules | `(tactic| walk_at "step") => `(tactic| (with_reducible refine iAsg ?_))
local macro_rules | `(tactic| walk_at "step") => `(tactic| (with_reducible refine iSeq ?_))
local macro_rules | `(tactic| walk_at "step") => `(tactic| ((with_reducible apply iMe_Disks__empty); (· walk_at "look")))
local macro_rules | `(tactic| walk_at "step") => `(tactic| ((with_reducible apply iMe_Disks__settle); (· walk_at "look")))
local macro_rules | `(tactic| walk_at "step") => `(tactic| ((with_reducible apply iMe_Disks__fail); (· walk_at "look")))
local macro_rules | `(tactic| walk_at "step") => `(tactic| ((with_reducible apply iMe_Disks__operate); (· walk_at "look")))
local macro_rules | `(tactic| walk_at "step") => `(tactic| ((with_reducible apply iMe_Disks_power); (· walk_at "look")))
local macro_rules | `(tactic| walk_at "step") => `(tactic| ((with_reducible apply iMe_Disks_fail_after); (· walk_at "look")))
local macro_rules | `(tactic| walk_at "step") => `(tactic| ((with_reducible apply iMe_Disks_blank); (· walk_at "look")))
local macro_rules | `(tactic| walk_at "step") => `(tactic| ((with_reducible apply iMe_Disks_away); (· walk_at "look")))
local macro_rules | `(tactic| walk_at "step") => `(tactic| ((with_reducible apply iMe_Disks_bad); (· walk_at "look")))
local macro_rules | `(tactic| walk_at "step") => `(tactic| ((with_reducible apply iMe_Disks_rot); (· walk_at "look")))
local macro_rules | `(tactic| walk_at "step") => `(tactic| ((with_reducible apply iMe_Disks_sync); (· walk_at "look")))
local macro_rules | `(tactic| walk_at "step") => `(tactic| ((with_reducible apply iMe_Disks_write); (· walk_at "look")))
local macro_rules | `(tactic| walk_at "step") => `(tactic| ((with_reducible apply iMe_Disks_ask); (· walk_at "look")))
local macro_rules | `(tactic| walk_at "step") => `(tactic| ((with_reducible apply iMe_Disks_pending); (· walk_at "look")))
local macro_rules | `(tactic| walk_at "step") => `(tactic| ((with_reducible apply iMe_Disks_cell); (· walk_at "look")))
local macro_rules | `(tactic| walk_at "step") => `(tactic| ((with_reducible apply iMe_Disks_is_there); (· walk_at "look")))
local macro_rules | `(tactic| walk_at "step") => `(tactic| ((with_reducible apply iMe_Disks_losses); (· walk_at "look")))
local macro_rules | `(tactic| walk_at "step") => `(tactic| ((with_reducible apply iMe_Disks_is_on); (· walk_at "look")))
local macro_rules | `(tactic| walk_at "step") => `(tactic| ((with_reducible apply iMe_Disks_counts); (· walk_at "look")))
local macro_rules | `(tactic| walk_at "step") => `(tactic| ((with_reducible apply iMe_Disks_sizes); (· walk_at "look")))
local macro_rules | `(tactic| walk_at "step") => `(tactic| ((with_reducible apply iP_Disks__syncs); (· assumption); (· walk_at "look"); (· rfl); (· repeat constructor)))
local macro_rules | `(tactic| walk_at "step") => `(tactic| ((with_reducible apply iN_Disks__syncs); (· assumption); (· walk_at "look"); (· rfl)))
local macro_rules | `(tactic| walk_at "step") => `(tactic| ((with_reducible apply iS_Disks__syncs); (· assumption); (· walk_at "look"); (· repeat constructor)))
local macro_rules | `(tactic| walk_at "step") => `(tactic| ((with_reducible apply iF_Disks__syncs); (· assumption); (· walk_at "look"); (· rfl)))
local macro_rules | `(tactic| walk_at "step") => `(tactic| ((with_reducible apply iP_Disks__writes); (· assumption); (· walk_at "look"); (· rfl); (· repeat constructor)))
local macro_rules | `(tactic| walk_at "step") => `(tactic| ((with_reducible apply iN_Disks__writes); (· assumption); (· walk_at "look"); (· rfl)))
local macro_rules | `(tactic| walk_at "step") => `(tactic| ((with_reducible apply iS_Disks__writes); (· assumption); (· walk_at "look"); (· repeat constructor)))
local macro_rules | `(tactic| walk_at "step") => `(tactic| ((with_reducible apply iF_Disks__writes); (· assumption); (· walk_at "look"); (· rfl)))
local macro_rules | `(tactic| walk_at "step") => `(tactic| ((with_reducible apply iP_Disks__reads); (· assumption); (· walk_at "look"); (· rfl); (· repeat constructor)))
local macro_rules | `(tactic| walk_at "step") => `(tactic| ((with_reducible apply iN_Disks__reads); (· assumption); (· walk_at "look"); (· rfl)))
local macro_rules | `(tactic| walk_at "step") => `(tactic| ((with_reducible apply iS_Disks__reads); (· assumption); (· walk_at "look"); (· repeat constructor)))
local macro_rules | `(tactic| walk_at "step") => `(tactic| ((with_reducible apply iF_Disks__reads); (· assumption); (· walk_at "look"); (· rfl)))
local macro_rules | `(tactic| walk_at "step") => `(tactic| ((with_reducible apply iP_Disks__failures); (· assumption); (· walk_at "look"); (· rfl); (· repeat constructor)))
local macro_rules | `(tactic| walk_at "step") => `(tactic| ((with_reducible apply iN_Disks__failures); (· assumption); (· walk_at "look"); (· rfl)))
local macro_rules | `(tactic| walk_at "step") => `(tactic| ((with_reducible apply iS_Disks__failures); (· assumption); (· walk_at "look"); (· repeat constructor)))
local macro_rules | `(tactic| walk_at "step") => `(tactic| ((with_reducible apply iF_Disks__failures); (· assumption); (· walk_at "look"); (· rfl)))
local macro_rules | `(tactic| walk_at "step") => `(tactic| ((with_reducible apply iM_Disks__left); (· assumption); (· walk_at "look"); (· rfl); (· repeat constructor)))
local macro_rules | `(tactic| walk_at "step") => `(tactic| ((with_reducible apply iN_Disks__left); (· assumption); (· walk_at "look"); (· rfl)))
local macro_rules | `(tactic| walk_at "step") => `(tactic| ((with_reducible apply iS_Disks__left); (· assumption); (· walk_at "look"); (· repeat constructor)))
local macro_rules | `(tactic| walk_at "step") => `(tactic| ((with_reducible apply iF_Disks__left); (· assumption); (· walk_at "look"); (· rfl)))
local macro_rules | `(tactic| walk_at "step") => `(tactic| ((with_reducible apply iN_Disks__on); (· assumption); (· walk_at "look"); (· rfl)))
local macro_rules | `(tactic| walk_at "step") => `(tactic| ((with_reducible apply iS_Disks__on); (· assumption); (· walk_at "look"); (· repeat constructor)))
local macro_rules | `(tactic| walk_at "step") => `(tactic| ((with_reducible apply iF_Disks__on); (· assumption); (· walk_at "look"); (· rfl)))
local macro_rules | `(tactic| walk_at "step") => `(tactic| ((with_reducible apply iN_Disks__waiting); (· assumption); (· walk_at "look"); (· rfl)))
local macro_rules | `(tactic| walk_at "step") => `(tactic| ((with_reducible apply iS_Disks__waiting); (· assumption); (· walk_at "look"); (· repeat constructor)))
local macro_rules | `(tactic| walk_at "step") => `(tactic| ((with_reducible apply iF_Disks__waiting); (· assumption); (· walk_at "look"); (· rfl)))
local macro_rules | `(tactic| walk_at "step") => `(tactic| ((with_reducible apply iN_Disks__media); (· assumption); (· walk_at "look"); (· rfl)))
local macro_rules | `(tactic| walk_at "step") => `(tactic| ((with_reducible apply iS_Disks__media); (· assumption); (· walk_at "look"); (· repeat constructor)))
local macro_rules | `(tactic| walk_at "step") => `(tactic| ((with_reducible apply iF_Disks__media); (· assumption); (· walk_at "look"); (· rfl)))
local macro_rules | `(tactic| walk_at "step") => `(tactic| ((with_reducible apply iN_Disks__there); (· assumption); (· walk_at "look"); (· rfl)))
local macro_rules | `(tactic| walk_at "step") => `(tactic| ((with_reducible apply iS_Disks__there); (· assumption); (· walk_at "look"); (· repeat constructor)))
local macro_rules | `(tactic| walk_at "step") => `(tactic| ((with_reducible apply iF_Disks__there); (· assumption); (· walk_at "look"); (· rfl)))
local macro_rules | `(tactic| walk_at "step") => `(tactic| ((with_reducible apply iN_Disks__sizes); (· assumption); (· walk_at "look"); (· rfl)))
local macro_rules | `(tactic| walk_at "step") => `(tactic| ((with_reducible apply iS_Disks__sizes); (· assumption); (· walk_at "look"); (· repeat constructor)))
local macro_rules | `(tactic| walk_at "step") => `(tactic| ((with_reducible apply iF_Disks__sizes); (· assumption); (· walk_at "look"); (· rfl)))
local macro_rules | `(tactic| walk_at "step") => `(tactic| ((with_reducible apply iN_Disks_scrub_place); (· assumption); (· walk_at "look"); (· rfl)))
local macro_rules | `(tactic| walk_at "step") => `(tactic| ((with_reducible apply iS_Disks_scrub_place); (· assumption); (· walk_at "look"); (· repeat constructor)))
local macro_rules | `(tactic| walk_at "step") => `(tactic| ((with_reducible apply iF_Disks_scrub_place); (· assumption); (· walk_at "look"); (· rfl)))
local macro_rules | `(tactic| walk_at "step") => `(tactic| ((with_reducible apply iN_Disks_formatted); (· assumption); (· walk_at "look"); (· rfl)))
local macro_rules | `(tactic| walk_at "step") => `(tactic| ((with_reducible apply iS_Disks_formatted); (· assumption); (· walk_at "look"); (· repeat constructor)))
local macro_rules | `(tactic| walk_at "step") => `(tactic| ((with_reducible apply iF_Disks_formatted); (· assumption); (· walk_at "look"); (· rfl)))
local macro_rules | `(tactic| walk_at "step") => `(tactic| ((with_reducible apply iN_Disks_in_use); (· assumption); (· walk_at "look"); (· rfl)))
local macro_rules | `(tactic| walk_at "step") => `(tactic| ((with_reducible apply iS_Disks_in_use); (· assumption); (· walk_at "look"); (· repeat constructor)))
local macro_rules | `(tactic| walk_at "step") => `(tactic| ((with_reducible apply iF_Disks_in_use); (· assumption); (· walk_at "look"); (· rfl)))
local macro_rules | `(tactic| walk_at "go") => `(tactic| (repeat walk_at "step"))
section
variable {P : Program} {w : World} {K : PySem.W.Frag} {mg : Str → Option Value} {base : Heap}
theorem kit_self {C : Addr} : PySem.W.kitOne K (.ref C) (.ref C) = some true := if_pos (beq_self_eq_true _)
theorem kit_ve {C : Addr} (h : PySem.W.subIn K (.ref C) (.type "ValueError") = some true) : PySem.W.kitOne K (.ref C) (.type "ValueError") = some true := by
  have e : (Value.ref C == Value.type "ValueError") = false := beq_eq_false_iff_ne.mpr fun z => by cases z
  have m : PySem.W.kitMeta "ValueError" = true := by decide +kernel
  simp [PySem.W.kitOne, PySem.W.kitCls, e, m, h]
theorem exm_two {CD CR : Addr} {z : Str} (T : ExT K mg z CR) (h : PySem.W.subIn K (.ref CD) (.ref CR) = some true) : PySem.W.exmOne K (.ref CD) (.ref CR) = some true := by
  have h2 : (PySem.W.clsIn K CR).isSome = true := T.i
  simp [PySem.W.exmOne, PySem.W.kitCls, T.b, T.t, h, h2]
theorem kit_two {CD CR : Addr} {z : Str} (T : ExT K mg z CR) (h : PySem.W.subIn K (.ref CD) (.ref CR) = some true) : PySem.W.kitOne K (.ref CD) (.ref CR) = some true := by
  have h2 : (PySem.W.clsIn K CR).isSome = true := T.i
  unfold PySem.W.kitOne
  split
  · rfl
  · simp [PySem.W.kitCls, T.b, T.t, h, h2]
end
theorem all_mk {l : PySem.W.OpenLaw} {w : World} {K : PySem.W.Frag} {h : Heap} {mg : Str → Option Value} {fa : Addr} (X : K.In h) (G : h.Ns mainGlobals mg) (hfa : mg "law" = some (.ref fa))
    {f1 f2 f3 f4 f5 f6 f7 f8 f9 f10 f11 f12 f13 f14 f15 f16 f17 f18 f19 f20 f21 f22 f23 f24 : Addr} {od1 od2 od3 od4 od5 od6 od7 od8 od9 od10 od11 od12 od13 od14 od15 od16 od17 od18 od19 od20 od21 od22 od23 od24 an1 an2 an3 an4 an5 an6 an7 an8 an9 an10 an11 an12 an13 an14 an15 an16 an17 an18 an19 an20 an21 an22 an23 an24 : Option Addr} {sl1 sl2 sl3 sl4 sl5 sl6 sl7 sl8 sl9 sl10 sl11 sl12 sl13 sl14 sl15 sl16 sl17 sl18 sl19 sl20 sl21 sl22 sl23 sl24 : Array (Option Value)} {oc1 oc2 oc3 oc4 oc5 oc6 oc7 oc8 oc9 oc10 oc11 oc12 oc13 oc14 oc15 oc16 oc17 oc18 oc19 oc20 oc21 oc22 oc23 oc24 kV1 kV2 kV3 kV4 kV5 kV6 kV7 kV8 kV9 kV10 kV11 kV12 kV13 kV14 kV15 kV16 kV17 kV18 kV19 kV20 kV21 kV22 kV23 kV24 dc1 dc2 dc3 dc4 dc5 dc6 dc7 dc8 dc9 dc10 dc11 dc12 dc13 dc14 dc15 dc16 dc17 dc18 dc19 dc20 dc21 dc22 dc23 dc24 pm1 pm2 pm3 pm4 pm5 pm6 pm7 pm8 pm9 pm10 pm11 pm12 pm13 pm14 pm15 pm16 pm17 pm18 pm19 pm20 pm21 pm22 pm23 pm24 cd1 cd2 cd3 cd4 cd5 cd6 cd7 cd8 cd9 cd10 cd11 cd12 cd13 cd14 cd15 cd16 cd17 cd18 cd19 cd20 cd21 cd22 cd23 cd24 ct1 ct2 ct3 ct4 ct5 ct6 ct7 ct8 ct9 ct10 ct11 ct12 ct13 ct14 ct15 ct16 ct17 ct18 ct19 ct20 ct21 ct22 ct23 ct24 : Value} {C_Disks : Addr} {C_InvalidArgument : Addr} {C_PowerOff : Addr} {C_RotError : Addr}
    (a1 : PySem.W.nsIn K mainGlobals "is_number" = some (some (.ref f1)))
    (l1 : K.lookup f1 = some ⟨oc1, od1, .func (PySem.W.fnOf "is_number" "is_number" (defArgs s_is_number) (defBody s_is_number) (defScope s_is_number) .none kV1 dc1 pm1 an1 cd1 ct1), sl1⟩) (c1 : PySem.W.codeIn K cd1 "is_number" = true) (k1 : PySem.W.keepIn K (.ref f1) = true)
    (a2 : PySem.W.nsIn K mainGlobals "check_sizes" = some (some (.ref f2)))
    (l2 : K.lookup f2 = some ⟨oc2, od2, .func (PySem.W.fnOf "check_sizes" "check_sizes" (defArgs s_check_sizes) (defBody s_check_sizes) (defScope s_check_sizes) .none kV2 dc2 pm2 an2 cd2 ct2), sl2⟩) (c2 : PySem.W.codeIn K cd2 "check_sizes" = true) (k2 : PySem.W.keepIn K (.ref f2) = true)
    (a3 : PySem.W.findIn K (.ref C_Disks) "__init__" = some (some (.ref f3))) (i3 : PySem.W.isFn K (.ref f3) = true)
    (l3 : K.lookup f3 = some ⟨oc3, od3, .func (PySem.W.fnOf "__init__" "Disks.__init__" (defArgs s_Disks___init__) (defBody s_Disks___init__) (defScope s_Disks___init__) .none kV3 dc3 pm3 an3 cd3 ct3), sl3⟩) (c3 : PySem.W.codeIn K cd3 "Disks.__init__" = true) (k3 : PySem.W.keepIn K (.ref f3) = true)
    (a4 : PySem.W.findIn K (.ref C_Disks) "sizes" = some (some (.ref f4))) (i4 : PySem.W.isFn K (.ref f4) = true)
    (l4 : K.lookup f4 = some ⟨oc4, od4, .func (PySem.W.fnOf "sizes" "Disks.sizes" (defArgs s_Disks_sizes) (defBody s_Disks_sizes) (defScope s_Disks_sizes) .none kV4 dc4 pm4 an4 cd4 ct4), sl4⟩) (c4 : PySem.W.codeIn K cd4 "Disks.sizes" = true) (k4 : PySem.W.keepIn K (.ref f4) = true)
    (a5 : PySem.W.findIn K (.ref C_Disks) "counts" = some (some (.ref f5))) (i5 : PySem.W.isFn K (.ref f5) = true)
    (l5 : K.lookup f5 = some ⟨oc5, od5, .func (PySem.W.fnOf "counts" "Disks.counts" (defArgs s_Disks_counts) (defBody s_Disks_counts) (defScope s_Disks_counts) .none kV5 dc5 pm5 an5 cd5 ct5), sl5⟩) (c5 : PySem.W.codeIn K cd5 "Disks.counts" = true) (k5 : PySem.W.keepIn K (.ref f5) = true)
    (a6 : PySem.W.findIn K (.ref C_Disks) "is_on" = some (some (.ref f6))) (i6 : PySem.W.isFn K (.ref f6) = true)
    (l6 : K.lookup f6 = some ⟨oc6, od6, .func (PySem.W.fnOf "is_on" "Disks.is_on" (defArgs s_Disks_is_on) (defBody s_Disks_is_on) (defScope s_Disks_is_on) .none kV6 dc6 pm6 an6 cd6 ct6), sl6⟩) (c6 : PySem.W.codeIn K cd6 "Disks.is_on" = true) (k6 : PySem.W.keepIn K (.ref f6) = true)
    (a7 : PySem.W.findIn K (.ref C_Disks) "losses" = some (some (.ref f7))) (i7 : PySem.W.isFn K (.ref f7) = true)
    (l7 : K.lookup f7 = some ⟨oc7, od7, .func (PySem.W.fnOf "losses" "Disks.losses" (defArgs s_Disks_losses) (defBody s_Disks_losses) (defScope s_Disks_losses) .none kV7 dc7 pm7 an7 cd7 ct7), sl7⟩) (c7 : PySem.W.codeIn K cd7 "Disks.losses" = true) (k7 : PySem.W.keepIn K (.ref f7) = true)
    (a8 : PySem.W.findIn K (.ref C_Disks) "is_there" = some (some (.ref f8))) (i8 : PySem.W.isFn K (.ref f8) = true)
    (l8 : K.lookup f8 = some ⟨oc8, od8, .func (PySem.W.fnOf "is_there" "Disks.is_there" (defArgs s_Disks_is_there) (defBody s_Disks_is_there) (defScope s_Disks_is_there) .none kV8 dc8 pm8 an8 cd8 ct8), sl8⟩) (c8 : PySem.W.codeIn K cd8 "Disks.is_there" = true) (k8 : PySem.W.keepIn K (.ref f8) = true)
    (a9 : PySem.W.findIn K (.ref C_Disks) "cell" = some (some (.ref f9))) (i9 : PySem.W.isFn K (.ref f9) = true)
    (l9 : K.lookup f9 = some ⟨oc9, od9, .func (PySem.W.fnOf "cell" "Disks.cell" (defArgs s_Disks_cell) (defBody s_Disks_cell) (defScope s_Disks_cell) .none kV9 dc9 pm9 an9 cd9 ct9), sl9⟩) (c9 : PySem.W.codeIn K cd9 "Disks.cell" = true) (k9 : PySem.W.keepIn K (.ref f9) = true)
    (a10 : PySem.W.findIn K (.ref C_Disks) "ask" = some (some (.ref f10))) (i10 : PySem.W.isFn K (.ref f10) = true)
    (l10 : K.lookup f10 = some ⟨oc10, od10, .func (PySem.W.fnOf "ask" "Disks.ask" (defArgs s_Disks_ask) (defBody s_Disks_ask) (defScope s_Disks_ask) .none kV10 dc10 pm10 an10 cd10 ct10), sl10⟩) (c10 : PySem.W.codeIn K cd10 "Disks.ask" = true) (k10 : PySem.W.keepIn K (.ref f10) = true)
    (a11 : PySem.W.findIn K (.ref C_Disks) "write" = some (some (.ref f11))) (i11 : PySem.W.isFn K (.ref f11) = true)
    (l11 : K.lookup f11 = some ⟨oc11, od11, .func (PySem.W.fnOf "write" "Disks.write" (defArgs s_Disks_write) (defBody s_Disks_write) (defScope s_Disks_write) .none kV11 dc11 pm11 an11 cd11 ct11), sl11⟩) (c11 : PySem.W.codeIn K cd11 "Disks.write" = true) (k11 : PySem.W.keepIn K (.ref f11) = true)
    (a12 : PySem.W.findIn K (.ref C_Disks) "sync" = some (some (.ref f12))) (i12 : PySem.W.isFn K (.ref f12) = true)
    (l12 : K.lookup f12 = some ⟨oc12, od12, .func (PySem.W.fnOf "sync" "Disks.sync" (defArgs s_Disks_sync) (defBody s_Disks_sync) (defScope s_Disks_sync) .none kV12 dc12 pm12 an12 cd12 ct12), sl12⟩) (c12 : PySem.W.codeIn K cd12 "Disks.sync" = true) (k12 : PySem.W.keepIn K (.ref f12) = true)
    (a13 : PySem.W.findIn K (.ref C_Disks) "away" = some (some (.ref f13))) (i13 : PySem.W.isFn K (.ref f13) = true)
    (l13 : K.lookup f13 = some ⟨oc13, od13, .func (PySem.W.fnOf "away" "Disks.away" (defArgs s_Disks_away) (defBody s_Disks_away) (defScope s_Disks_away) .none kV13 dc13 pm13 an13 cd13 ct13), sl13⟩) (c13 : PySem.W.codeIn K cd13 "Disks.away" = true) (k13 : PySem.W.keepIn K (.ref f13) = true)
    (a14 : PySem.W.findIn K (.ref C_Disks) "fail_after" = some (some (.ref f14))) (i14 : PySem.W.isFn K (.ref f14) = true)
    (l14 : K.lookup f14 = some ⟨oc14, od14, .func (PySem.W.fnOf "fail_after" "Disks.fail_after" (defArgs s_Disks_fail_after) (defBody s_Disks_fail_after) (defScope s_Disks_fail_after) .none kV14 dc14 pm14 an14 cd14 ct14), sl14⟩) (c14 : PySem.W.codeIn K cd14 "Disks.fail_after" = true) (k14 : PySem.W.keepIn K (.ref f14) = true)
    (a15 : PySem.W.findIn K (.ref C_Disks) "power" = some (some (.ref f15))) (i15 : PySem.W.isFn K (.ref f15) = true)
    (l15 : K.lookup f15 = some ⟨oc15, od15, .func (PySem.W.fnOf "power" "Disks.power" (defArgs s_Disks_power) (defBody s_Disks_power) (defScope s_Disks_power) .none kV15 dc15 pm15 an15 cd15 ct15), sl15⟩) (c15 : PySem.W.codeIn K cd15 "Disks.power" = true) (k15 : PySem.W.keepIn K (.ref f15) = true)
    (a16 : PySem.W.findIn K (.ref C_Disks) "_operate" = some (some (.ref f16))) (i16 : PySem.W.isFn K (.ref f16) = true)
    (l16 : K.lookup f16 = some ⟨oc16, od16, .func (PySem.W.fnOf "_operate" "Disks._operate" (defArgs s_Disks__operate) (defBody s_Disks__operate) (defScope s_Disks__operate) .none kV16 dc16 pm16 an16 cd16 ct16), sl16⟩) (c16 : PySem.W.codeIn K cd16 "Disks._operate" = true) (k16 : PySem.W.keepIn K (.ref f16) = true)
    (a17 : PySem.W.findIn K (.ref C_Disks) "_fail" = some (some (.ref f17))) (i17 : PySem.W.isFn K (.ref f17) = true)
    (l17 : K.lookup f17 = some ⟨oc17, od17, .func (PySem.W.fnOf "_fail" "Disks._fail" (defArgs s_Disks__fail) (defBody s_Disks__fail) (defScope s_Disks__fail) .none kV17 dc17 pm17 an17 cd17 ct17), sl17⟩) (c17 : PySem.W.codeIn K cd17 "Disks._fail" = true) (k17 : PySem.W.keepIn K (.ref f17) = true)
    (a18 : PySem.W.findIn K (.ref C_Disks) "_settle" = some (some (.ref f18))) (i18 : PySem.W.isFn K (.ref f18) = true)
    (l18 : K.lookup f18 = some ⟨oc18, od18, .func (PySem.W.fnOf "_settle" "Disks._settle" (defArgs s_Disks__settle) (defBody s_Disks__settle) (defScope s_Disks__settle) .none kV18 dc18 pm18 an18 cd18 ct18), sl18⟩) (c18 : PySem.W.codeIn K cd18 "Disks._settle" = true) (k18 : PySem.W.keepIn K (.ref f18) = true)
    (a19 : PySem.W.findIn K (.ref C_Disks) "_empty" = some (some (.ref f19))) (i19 : PySem.W.isFn K (.ref f19) = true)
    (l19 : K.lookup f19 = some ⟨oc19, od19, .func (PySem.W.fnOf "_empty" "Disks._empty" (defArgs s_Disks__empty) (defBody s_Disks__empty) (defScope s_Disks__empty) .none kV19 dc19 pm19 an19 cd19 ct19), sl19⟩) (c19 : PySem.W.codeIn K cd19 "Disks._empty" = true) (k19 : PySem.W.keepIn K (.ref f19) = true)
    (a20 : PySem.W.nsIn K mainGlobals "_law_draw" = some (some (.ref f20)))
    (l20 : K.lookup f20 = some ⟨oc20, od20, .func (PySem.W.fnOf "_law_draw" "_law_draw" (defArgs s__law_draw) (defBody s__law_draw) (defScope s__law_draw) .none kV20 dc20 pm20 an20 cd20 ct20), sl20⟩) (c20 : PySem.W.codeIn K cd20 "_law_draw" = true) (k20 : PySem.W.keepIn K (.ref f20) = true)
    (a21 : PySem.W.nsIn K mainGlobals "_law_wrong" = some (some (.ref f21)))
    (l21 : K.lookup f21 = some ⟨oc21, od21, .func (PySem.W.fnOf "_law_wrong" "_law_wrong" (defArgs s__law_wrong) (defBody s__law_wrong) (defScope s__law_wrong) .none kV21 dc21 pm21 an21 cd21 ct21), sl21⟩) (c21 : PySem.W.codeIn K cd21 "_law_wrong" = true) (k21 : PySem.W.keepIn K (.ref f21) = true)
    (a22 : PySem.W.nsIn K mainGlobals "_law_dark" = some (some (.ref f22)))
    (l22 : K.lookup f22 = some ⟨oc22, od22, .func (PySem.W.fnOf "_law_dark" "_law_dark" (defArgs s__law_dark) (defBody s__law_dark) (defScope s__law_dark) .none kV22 dc22 pm22 an22 cd22 ct22), sl22⟩) (c22 : PySem.W.codeIn K cd22 "_law_dark" = true) (k22 : PySem.W.keepIn K (.ref f22) = true)
    (a23 : PySem.W.nsIn K mainGlobals "_law_one" = some (some (.ref f23)))
    (l23 : K.lookup f23 = some ⟨oc23, od23, .func (PySem.W.fnOf "_law_one" "_law_one" (defArgs s__law_one) (defBody s__law_one) (defScope s__law_one) .none kV23 dc23 pm23 an23 cd23 ct23), sl23⟩) (c23 : PySem.W.codeIn K cd23 "_law_one" = true) (k23 : PySem.W.keepIn K (.ref f23) = true)
    (a24 : PySem.W.nsIn K mainGlobals "law" = some (some (.ref f24)))
    (l24 : K.lookup f24 = some ⟨oc24, od24, .func (PySem.W.fnOf "law" "law" (defArgs s_law) (defBody s_law) (defScope s_law) .none kV24 dc24 pm24 an24 cd24 ct24), sl24⟩) (c24 : PySem.W.codeIn K cd24 "law" = true) (k24 : PySem.W.keepIn K (.ref f24) = true)
    (aC_Disks : PySem.W.nsIn K mainGlobals "Disks" = some (some (.ref C_Disks))) (pg_Disks : PySem.W.plainGet K C_Disks Str.empty = true) (hd_Disks : PySem.W.hasDictIn K C_Disks = true) (po_Disks : PySem.W.plainOver K C_Disks = true) (sa_Disks : PySem.W.findIn K (.ref C_Disks) "__setattr__" = some (some (.builtin "object.__setattr__"))) (mk_Disks : PySem.W.makesIn K C_Disks = true) (kc_Disks : PySem.W.keepIn K (.ref C_Disks) = true)
    (n_Disks_in_use : PySem.W.findIn K (.ref C_Disks) "in_use" = some none)
    (n_Disks_formatted : PySem.W.findIn K (.ref C_Disks) "formatted" = some none)
    (n_Disks_scrub_place : PySem.W.findIn K (.ref C_Disks) "scrub_place" = some none)
    (n_Disks__sizes : PySem.W.findIn K (.ref C_Disks) "_sizes" = some none)
    (n_Disks__there : PySem.W.findIn K (.ref C_Disks) "_there" = some none)
    (n_Disks__media : PySem.W.findIn K (.ref C_Disks) "_media" = some none)
    (n_Disks__waiting : PySem.W.findIn K (.ref C_Disks) "_waiting" = some none)
    (n_Disks__on : PySem.W.findIn K (.ref C_Disks) "_on" = some none)
    (n_Disks__left : PySem.W.findIn K (.ref C_Disks) "_left" = some none)
    (n_Disks__failures : PySem.W.findIn K (.ref C_Disks) "_failures" = some none)
    (n_Disks__reads : PySem.W.findIn K (.ref C_Disks) "_reads" = some none)
    (n_Disks__writes : PySem.W.findIn K (.ref C_Disks) "_writes" = some none)
    (n_Disks__syncs : PySem.W.findIn K (.ref C_Disks) "_syncs" = some none)
    (aX_InvalidArgument : PySem.W.nsIn K mainGlobals "InvalidArgument" = some (some (.ref C_InvalidArgument))) (xP_InvalidArgument : PySem.W.excIn K C_InvalidArgument [.type "ValueError", .type "Exception", .type "BaseException", .type "object"] "ValueError.__new__" = true) (kP_InvalidArgument : PySem.W.keepIn K (.ref C_InvalidArgument) = true) (bP_InvalidArgument : PySem.W.subIn K (.ref C_InvalidArgument) (.type "BaseException") = some true) (tP_InvalidArgument : PySem.W.typeIn K (.ref C_InvalidArgument) = some (.type "type")) (iP_InvalidArgument : PySem.W.isClsIn K C_InvalidArgument = true) (sP_InvalidArgument : PySem.W.subIn K (.ref C_InvalidArgument) (.ref C_InvalidArgument) = some true)
    (aX_PowerOff : PySem.W.nsIn K mainGlobals "PowerOff" = some (some (.ref C_PowerOff))) (xP_PowerOff : PySem.W.excIn K C_PowerOff [.type "ValueError", .type "Exception", .type "BaseException", .type "object"] "ValueError.__new__" = true) (kP_PowerOff : PySem.W.keepIn K (.ref C_PowerOff) = true) (bP_PowerOff : PySem.W.subIn K (.ref C_PowerOff) (.type "BaseException") = some true) (tP_PowerOff : PySem.W.typeIn K (.ref C_PowerOff) = some (.type "type")) (iP_PowerOff : PySem.W.isClsIn K C_PowerOff = true) (sP_PowerOff : PySem.W.subIn K (.ref C_PowerOff) (.ref C_PowerOff) = some true)
    (aX_RotError : PySem.W.nsIn K mainGlobals "RotError" = some (some (.ref C_RotError))) (xP_RotError : PySem.W.excIn K C_RotError [.type "ValueError", .type "Exception", .type "BaseException", .type "object"] "ValueError.__new__" = true) (kP_RotError : PySem.W.keepIn K (.ref C_RotError) = true) (bP_RotError : PySem.W.subIn K (.ref C_RotError) (.type "BaseException") = some true) (tP_RotError : PySem.W.typeIn K (.ref C_RotError) = some (.type "type")) (iP_RotError : PySem.W.isClsIn K C_RotError = true) (sP_RotError : PySem.W.subIn K (.ref C_RotError) (.ref C_RotError) = some true)
    (hcn : PySem.W.specialIn K (.builtin "object.__class__") "__get__" = some (some (.builtin "getset_descriptor.__get__")))
    (hct : PySem.W.takesIn K (.builtin "object.__class__") = some true)
    (z_ValueError : PySem.W.nsIn K mainGlobals "ValueError" = some none)
    (hgai : PySem.W.findIn K (.ref C_InvalidArgument) "__getattribute__" = some (some (.builtin "BaseException.__getattribute__")))
    (hgti : PySem.W.findIn K (.ref C_InvalidArgument) "__getattr__" = some none)
    (hhdi : PySem.W.hasDictIn K C_InvalidArgument = true)
    (hcai : PySem.W.findIn K (.ref C_InvalidArgument) "__class__" = some (some (.builtin "object.__class__")))
    (hmoi : PySem.W.mroIn K C_InvalidArgument (.type "object") = some true)
    (hsri : PySem.W.subIn K (.ref C_InvalidArgument) (.ref C_RotError) = some true)
    (hsvi : PySem.W.subIn K (.ref C_InvalidArgument) (.type "ValueError") = some true)
    (hgap : PySem.W.findIn K (.ref C_PowerOff) "__getattribute__" = some (some (.builtin "BaseException.__getattribute__")))
    (hgtp : PySem.W.findIn K (.ref C_PowerOff) "__getattr__" = some none)
    (hhdp : PySem.W.hasDictIn K C_PowerOff = true)
    (hcap : PySem.W.findIn K (.ref C_PowerOff) "__class__" = some (some (.builtin "object.__class__")))
    (hmop : PySem.W.mroIn K C_PowerOff (.type "object") = some true)
    (hsrp : PySem.W.subIn K (.ref C_PowerOff) (.ref C_RotError) = some true)
    (hsvp : PySem.W.subIn K (.ref C_PowerOff) (.type "ValueError") = some true)
    (z_bool : PySem.W.nsIn K mainGlobals "bool" = some none)
    (z_int : PySem.W.nsIn K mainGlobals "int" = some none)
    (z_isinstance : PySem.W.nsIn K mainGlobals "isinstance" = some none)
    (z_len : PySem.W.nsIn K mainGlobals "len" = some none)
    (z_list : PySem.W.nsIn K mainGlobals "list" = some none)
    (z_min : PySem.W.nsIn K mainGlobals "min" = some none)
    (z_range : PySem.W.nsIn K mainGlobals "range" = some none)
    (z_reversed : PySem.W.nsIn K mainGlobals "reversed" = some none)
    (z_tuple : PySem.W.nsIn K mainGlobals "tuple" = some none)
    (z_zip : PySem.W.nsIn K mainGlobals "zip" = some none) :
    ∃ fd : FuncData, (∀ (s : Shared) (v : Value), BindsTo s fd ⟨[v], []⟩ [("script", v)]) ∧ ∀ base : Heap, K.In base → base.Ns mainGlobals mg → FnOk l.prog w K mg base CX0 6 fa fd ["script"] (sp_law K) := by
  have e := hfa.symm.trans (PySem.W.mg_of X G a24)
  cases e
  have F_is_number := fun_mk (st := s_is_number) l1 c1 k1
  have g_is_number := PySem.W.mg_of X G a1
  have b_is_number := F_is_number.binds (ps := ["value", "low", "high"]) fun _ _ _ _ _ _ us hl => match us, hl with | [_, _, _], _ => rfl
  have F_check_sizes := fun_mk (st := s_check_sizes) l2 c2 k2
  have g_check_sizes := PySem.W.mg_of X G a2
  have b_check_sizes := F_check_sizes.binds (ps := ["disks", "sectors", "carrying", "depth"]) fun _ _ _ _ _ _ us hl => match us, hl with | [_, _, _, _], _ => rfl
  have F_Disks___init__ := fun_mk (st := s_Disks___init__) l3 c3 k3
  have b_Disks___init__ := F_Disks___init__.binds (ps := ["self", "disks", "sectors", "carrying", "depth"]) fun _ _ _ _ _ _ us hl => match us, hl with | [_, _, _, _, _], _ => rfl
  have F_Disks_sizes := fun_mk (st := s_Disks_sizes) l4 c4 k4
  have m_Disks_sizes : Meth K C_Disks "sizes" f4 := ⟨a4, i4, k4⟩
  have b_Disks_sizes := F_Disks_sizes.binds (ps := ["self"]) fun _ _ _ _ _ _ us hl => match us, hl with | [_], _ => rfl
  have F_Disks_counts := fun_mk (st := s_Disks_counts) l5 c5 k5
  have m_Disks_counts : Meth K C_Disks "counts" f5 := ⟨a5, i5, k5⟩
  have b_Disks_counts := F_Disks_counts.binds (ps := ["self"]) fun _ _ _ _ _ _ us hl => match us, hl with | [_], _ => rfl
  have F_Disks_is_on := fun_mk (st := s_Disks_is_on) l6 c6 k6
  have m_Disks_is_on : Meth K C_Disks "is_on" f6 := ⟨a6, i6, k6⟩
  have b_Disks_is_on := F_Disks_is_on.binds (ps := ["self"]) fun _ _ _ _ _ _ us hl => match us, hl with | [_], _ => rfl
  have F_Disks_losses := fun_mk (st := s_Disks_losses) l7 c7 k7
  have m_Disks_losses : Meth K C_Disks "losses" f7 := ⟨a7, i7, k7⟩
  have b_Disks_losses := F_Disks_losses.binds (ps := ["self"]) fun _ _ _ _ _ _ us hl => match us, hl with | [_], _ => rfl
  have F_Disks_is_there := fun_mk (st := s_Disks_is_there) l8 c8 k8
  have m_Disks_is_there : Meth K C_Disks "is_there" f8 := ⟨a8, i8, k8⟩
  have b_Disks_is_there := F_Disks_is_there.binds (ps := ["self", "disk"]) fun _ _ _ _ _ _ us hl => match us, hl with | [_, _], _ => rfl
  have F_Disks_cell := fun_mk (st := s_Disks_cell) l9 c9 k9
  have m_Disks_cell : Meth K C_Disks "cell" f9 := ⟨a9, i9, k9⟩
  have b_Disks_cell := F_Disks_cell.binds (ps := ["self", "disk", "sector"]) fun _ _ _ _ _ _ us hl => match us, hl with | [_, _, _], _ => rfl
  have F_Disks_ask := fun_mk (st := s_Disks_ask) l10 c10 k10
  have m_Disks_ask : Meth K C_Disks "ask" f10 := ⟨a10, i10, k10⟩
  have b_Disks_ask := F_Disks_ask.binds (ps := ["self", "disk", "sector"]) fun _ _ _ _ _ _ us hl => match us, hl with | [_, _, _], _ => rfl
  have F_Disks_write := fun_mk (st := s_Disks_write) l11 c11 k11
  have m_Disks_write : Meth K C_Disks "write" f11 := ⟨a11, i11, k11⟩
  have b_Disks_write := F_Disks_write.binds (ps := ["self", "disk", "sector", "data"]) fun _ _ _ _ _ _ us hl => match us, hl with | [_, _, _, _], _ => rfl
  have F_Disks_sync := fun_mk (st := s_Disks_sync) l12 c12 k12
  have m_Disks_sync : Meth K C_Disks "sync" f12 := ⟨a12, i12, k12⟩
  have b_Disks_sync := F_Disks_sync.binds (ps := ["self"]) fun _ _ _ _ _ _ us hl => match us, hl with | [_], _ => rfl
  have F_Disks_away := fun_mk (st := s_Disks_away) l13 c13 k13
  have m_Disks_away : Meth K C_Disks "away" f13 := ⟨a13, i13, k13⟩
  have b_Disks_away := F_Disks_away.binds (ps := ["self", "disk"]) fun _ _ _ _ _ _ us hl => match us, hl with | [_, _], _ => rfl
  have F_Disks_fail_after := fun_mk (st := s_Disks_fail_after) l14 c14 k14
  have m_Disks_fail_after : Meth K C_Disks "fail_after" f14 := ⟨a14, i14, k14⟩
  have b_Disks_fail_after := F_Disks_fail_after.binds (ps := ["self", "operations"]) fun _ _ _ _ _ _ us hl => match us, hl with | [_, _], _ => rfl
  have F_Disks_power := fun_mk (st := s_Disks_power) l15 c15 k15
  have m_Disks_power : Meth K C_Disks "power" f15 := ⟨a15, i15, k15⟩
  have b_Disks_power := F_Disks_power.binds (ps := ["self", "kept"]) fun _ _ _ _ _ _ us hl => match us, hl with | [_, _], _ => rfl
  have F_Disks__operate := fun_mk (st := s_Disks__operate) l16 c16 k16
  have m_Disks__operate : Meth K C_Disks "_operate" f16 := ⟨a16, i16, k16⟩
  have b_Disks__operate := F_Disks__operate.binds (ps := ["self"]) fun _ _ _ _ _ _ us hl => match us, hl with | [_], _ => rfl
  have F_Disks__fail := fun_mk (st := s_Disks__fail) l17 c17 k17
  have m_Disks__fail : Meth K C_Disks "_fail" f17 := ⟨a17, i17, k17⟩
  have b_Disks__fail := F_Disks__fail.binds (ps := ["self"]) fun _ _ _ _ _ _ us hl => match us, hl with | [_], _ => rfl
  have F_Disks__settle := fun_mk (st := s_Disks__settle) l18 c18 k18
  have m_Disks__settle : Meth K C_Disks "_settle" f18 := ⟨a18, i18, k18⟩
  have b_Disks__settle := F_Disks__settle.binds (ps := ["self", "disk", "kept"]) fun _ _ _ _ _ _ us hl => match us, hl with | [_, _, _], _ => rfl
  have F_Disks__empty := fun_mk (st := s_Disks__empty) l19 c19 k19
  have m_Disks__empty : Meth K C_Disks "_empty" f19 := ⟨a19, i19, k19⟩
  have b_Disks__empty := F_Disks__empty.binds (ps := ["self", "disk"]) fun _ _ _ _ _ _ us hl => match us, hl with | [_, _], _ => rfl
  have F__law_draw := fun_mk (st := s__law_draw) l20 c20 k20
  have g__law_draw := PySem.W.mg_of X G a20
  have b__law_draw := F__law_draw.binds (ps := ["script", "k"]) fun _ _ _ _ _ _ us hl => match us, hl with | [_, _], _ => rfl
  have F__law_wrong := fun_mk (st := s__law_wrong) l21 c21 k21
  have g__law_wrong := PySem.W.mg_of X G a21
  have b__law_wrong := F__law_wrong.binds (ps := ["number"]) fun _ _ _ _ _ _ us hl => match us, hl with | [_], _ => rfl
  have F__law_dark := fun_mk (st := s__law_dark) l22 c22 k22
  have g__law_dark := PySem.W.mg_of X G a22
  have b__law_dark := F__law_dark.binds (ps := ["disks"]) fun _ _ _ _ _ _ us hl => match us, hl with | [_], _ => rfl
  have F__law_one := fun_mk (st := s__law_one) l23 c23 k23
  have g__law_one := PySem.W.mg_of X G a23
  have b__law_one := F__law_one.binds (ps := ["disks", "counts", "number"]) fun _ _ _ _ _ _ us hl => match us, hl with | [_, _, _], _ => rfl
  have F_law := fun_mk (st := s_law) l24 c24 k24
  have g_law := PySem.W.mg_of X G a24
  have b_law := F_law.binds (ps := ["script"]) fun _ _ _ _ _ _ us hl => match us, hl with | [_], _ => rfl
  have T_Disks : Tx_Disks K C_Disks := ⟨⟨pg_Disks, hd_Disks, po_Disks, sa_Disks⟩, n_Disks_in_use, n_Disks_formatted, n_Disks_scrub_place, n_Disks__sizes, n_Disks__there, n_Disks__media, n_Disks__waiting, n_Disks__on, n_Disks__left, n_Disks__failures, n_Disks__reads, n_Disks__writes, n_Disks__syncs⟩
  have K_Disks : Mk K C_Disks f3 := ⟨mk_Disks, a3, i3, kc_Disks⟩
  have gC_Disks := PySem.W.mg_of X G aC_Disks
  have e_InvalidArgument : ExT K mg "InvalidArgument" C_InvalidArgument := ⟨PySem.W.mg_of X G aX_InvalidArgument, xP_InvalidArgument, kP_InvalidArgument, bP_InvalidArgument, tP_InvalidArgument, iP_InvalidArgument, sP_InvalidArgument⟩
  have e_PowerOff : ExT K mg "PowerOff" C_PowerOff := ⟨PySem.W.mg_of X G aX_PowerOff, xP_PowerOff, kP_PowerOff, bP_PowerOff, tP_PowerOff, iP_PowerOff, sP_PowerOff⟩
  have e_RotError : ExT K mg "RotError" C_RotError := ⟨PySem.W.mg_of X G aX_RotError, xP_RotError, kP_RotError, bP_RotError, tP_RotError, iP_RotError, sP_RotError⟩
  have g_VE : mg "ValueError" = none := PySem.W.mg_none_of X G z_ValueError
  have hEi : ErrH K C_InvalidArgument C_RotError := ⟨⟨hgai, hgti, bP_InvalidArgument, hhdi, hcai, hcn, hct, hmoi⟩, exm_two e_RotError hsri, kit_self, kit_ve hsvi⟩
  have hEp : ErrH K C_PowerOff C_RotError := ⟨⟨hgap, hgtp, bP_PowerOff, hhdp, hcap, hcn, hct, hmop⟩, exm_two e_RotError hsrp, kit_self, kit_ve hsvp⟩
  have M : Mg mg := ⟨PySem.W.mg_none_of X G z_bool, PySem.W.mg_none_of X G z_int, PySem.W.mg_none_of X G z_isinstance, PySem.W.mg_none_of X G z_len, PySem.W.mg_none_of X G z_list, PySem.W.mg_none_of X G z_min, PySem.W.mg_none_of X G z_range, PySem.W.mg_none_of X G z_reversed, PySem.W.mg_none_of X G z_tuple, PySem.W.mg_none_of X G z_zip⟩
  refine ⟨(PySem.W.fnOf "law" "law" (defArgs s_law) (defBody s_law) (defScope s_law) .none kV24 dc24 pm24 an24 cd24 ct24), fun s v => .of_eq rfl, fun base _ _ => ?_⟩

  have ci : Cal l.prog w K mg base 1 "is_number" ["value", "low", "high"] sp_is_number := .mk' F_is_number g_is_number b_is_number (ok_is_number M F_is_number)
  have cs : CalX l.prog w K mg base 2 "check_sizes" ["disks", "sectors", "carrying", "depth"] (sp_check_sizes C_InvalidArgument) := ⟨_, _, ok_check_sizes M e_InvalidArgument F_check_sizes ci, g_check_sizes, F_check_sizes.kp, b_check_sizes⟩
  have cD : MakX l.prog w K mg base 3 C_Disks "Disks" ["self", "disks", "sectors", "carrying", "depth"] (sp_init C_Disks C_InvalidArgument) := ⟨_, _, ok_init M T_Disks F_Disks___init__ cs, K_Disks, gC_Disks, b_Disks___init__⟩
  have cE : MakX l.prog w K mg base 3 C_Disks "Disks" ["self", "disks", "sectors", "carrying", "depth"] (sp_initE C_Disks C_InvalidArgument) := ⟨_, _, ok_initE M T_Disks F_Disks___init__ cs, K_Disks, gC_Disks, b_Disks___init__⟩
  have x_sz : MetX l.prog w K mg base 1 C_Disks "sizes" ["self"] (sp_sizes C_Disks) := ⟨_, _, R.FnOk.toX (ok_sizes M T_Disks F_Disks_sizes), T_Disks.cl, m_Disks_sizes, b_Disks_sizes⟩
  have x_co : MetX l.prog w K mg base 1 C_Disks "counts" ["self"] (sp_counts C_Disks) := ⟨_, _, R.FnOk.toX (ok_counts M T_Disks F_Disks_counts), T_Disks.cl, m_Disks_counts, b_Disks_counts⟩
  have n_co : MetN l.prog w K mg base 1 C_Disks "counts" ["self"] (sp_counts C_Disks) := ⟨_, _, R.FnOk.toN (ok_counts M T_Disks F_Disks_counts), T_Disks.cl, m_Disks_counts, b_Disks_counts⟩
  have n_on : MetN l.prog w K mg base 1 C_Disks "is_on" ["self"] (sp_is_on C_Disks) := ⟨_, _, R.FnOk.toN (ok_is_on M T_Disks F_Disks_is_on), T_Disks.cl, m_Disks_is_on, b_Disks_is_on⟩
  have n_lo : MetN l.prog w K mg base 1 C_Disks "losses" ["self"] (sp_losses C_Disks) := ⟨_, _, R.FnOk.toN (ok_losses M T_Disks F_Disks_losses), T_Disks.cl, m_Disks_losses, b_Disks_losses⟩
  have n_th : MetN l.prog w K mg base 1 C_Disks "is_there" ["self", "disk"] (sp_is_there C_Disks) := ⟨_, _, R.FnOk.toN (ok_is_there T_Disks F_Disks_is_there), T_Disks.cl, m_Disks_is_there, b_Disks_is_there⟩
  have x_ce : MetX l.prog w K mg base 1 C_Disks "cell" ["self", "disk", "sector"] (sp_cell C_Disks) := ⟨_, _, R.FnOk.toX (ok_cell M T_Disks F_Disks_cell), T_Disks.cl, m_Disks_cell, b_Disks_cell⟩
  have n_as : MetN l.prog w K mg base 2 C_Disks "ask" ["self", "disk", "sector"] (sp_ask C_Disks) := ⟨_, _, R.FnOk.toN (ok_ask M T_Disks F_Disks_ask x_ce), T_Disks.cl, m_Disks_ask, b_Disks_ask⟩
  have x_fa : MetX l.prog w K mg base 1 C_Disks "_fail" ["self"] (sp_fail C_Disks) := ⟨_, _, R.FnOk.toX (ok_fail M T_Disks F_Disks__fail), T_Disks.cl, m_Disks__fail, b_Disks__fail⟩
  have n_fa : MetN l.prog w K mg base 1 C_Disks "_fail" ["self"] (sp_fail C_Disks) := ⟨_, _, R.FnOk.toN (ok_fail M T_Disks F_Disks__fail), T_Disks.cl, m_Disks__fail, b_Disks__fail⟩
  have n_op : MetN l.prog w K mg base 2 C_Disks "_operate" ["self"] (sp_operate C_Disks C_PowerOff) := ⟨_, _, ok_operate M T_Disks e_PowerOff F_Disks__operate n_fa, T_Disks.cl, m_Disks__operate, b_Disks__operate⟩
  have n_wr : MetN l.prog w K mg base 3 C_Disks "write" ["self", "disk", "sector", "data"] (sp_write C_Disks C_PowerOff) := ⟨_, _, ok_write M T_Disks F_Disks_write n_op, T_Disks.cl, m_Disks_write, b_Disks_write⟩
  have x_se : MetX l.prog w K mg base 1 C_Disks "_settle" ["self", "disk", "kept"] (sp_settle C_Disks) := ⟨_, _, R.FnOk.toX (ok_settle M T_Disks F_Disks__settle), T_Disks.cl, m_Disks__settle, b_Disks__settle⟩
  have n_se : MetN l.prog w K mg base 1 C_Disks "_settle" ["self", "disk", "kept"] (sp_settle C_Disks) := ⟨_, _, R.FnOk.toN (ok_settle M T_Disks F_Disks__settle), T_Disks.cl, m_Disks__settle, b_Disks__settle⟩
  have n_sy : MetN l.prog w K mg base 3 C_Disks "sync" ["self"] (sp_sync C_Disks C_PowerOff) := ⟨_, _, ok_sync M T_Disks F_Disks_sync n_op n_se, T_Disks.cl, m_Disks_sync, b_Disks_sync⟩
  have x_em : MetX l.prog w K mg base 1 C_Disks "_empty" ["self", "disk"] (sp_empty C_Disks) := ⟨_, _, R.FnOk.toX (ok_empty M T_Disks F_Disks__empty), T_Disks.cl, m_Disks__empty, b_Disks__empty⟩
  have n_aw : MetN l.prog w K mg base 2 C_Disks "away" ["self", "disk"] (sp_away C_Disks) := ⟨_, _, R.FnOk.toN (ok_away M T_Disks F_Disks_away x_em), T_Disks.cl, m_Disks_away, b_Disks_away⟩
  have n_po : MetN l.prog w K mg base 2 C_Disks "power" ["self", "kept"] (sp_power C_Disks) := ⟨_, _, R.FnOk.toN (ok_power M T_Disks F_Disks_power x_fa x_se), T_Disks.cl, m_Disks_power, b_Disks_power⟩
  have n_fl : MetN l.prog w K mg base 1 C_Disks "fail_after" ["self", "operations"] (sp_fail_after C_Disks C_PowerOff) := ⟨_, _, ok_fail_after M T_Disks e_PowerOff F_Disks_fail_after, T_Disks.cl, m_Disks_fail_after, b_Disks_fail_after⟩
  have h_co : MetH l.prog w K mg base 1 C_Disks "counts" ["self"] (sp_counts C_Disks) := ⟨_, _, okH_counts M T_Disks F_Disks_counts, T_Disks.cl, m_Disks_counts, b_Disks_counts⟩
  have h_on : MetH l.prog w K mg base 1 C_Disks "is_on" ["self"] (sp_is_on C_Disks) := ⟨_, _, okH_is_on M T_Disks F_Disks_is_on, T_Disks.cl, m_Disks_is_on, b_Disks_is_on⟩
  have h_lo : MetH l.prog w K mg base 1 C_Disks "losses" ["self"] (sp_losses C_Disks) := ⟨_, _, okH_losses M T_Disks F_Disks_losses, T_Disks.cl, m_Disks_losses, b_Disks_losses⟩
  have h_fa : MetH l.prog w K mg base 1 C_Disks "_fail" ["self"] (sp_fail C_Disks) := ⟨_, _, okH_fail M T_Disks F_Disks__fail, T_Disks.cl, m_Disks__fail, b_Disks__fail⟩
  have h_op : MetH l.prog w K mg base 2 C_Disks "_operate" ["self"] (sp_operate C_Disks C_PowerOff) := ⟨_, _, okH_operate M T_Disks e_PowerOff F_Disks__operate h_fa, T_Disks.cl, m_Disks__operate, b_Disks__operate⟩
  have h_wr : MetH l.prog w K mg base 3 C_Disks "write" ["self", "disk", "sector", "data"] (sp_write C_Disks C_PowerOff) := ⟨_, _, okH_write M T_Disks F_Disks_write h_op, T_Disks.cl, m_Disks_write, b_Disks_write⟩
  have h_se : MetH l.prog w K mg base 1 C_Disks "_settle" ["self", "disk", "kept"] (sp_settle C_Disks) := ⟨_, _, okH_settle M T_Disks F_Disks__settle, T_Disks.cl, m_Disks__settle, b_Disks__settle⟩
  have h_sy : MetH l.prog w K mg base 3 C_Disks "sync" ["self"] (sp_sync C_Disks C_PowerOff) := ⟨_, _, okH_sync M T_Disks F_Disks_sync h_op h_se, T_Disks.cl, m_Disks_sync, b_Disks_sync⟩
  have h_po : MetH l.prog w K mg base 2 C_Disks "power" ["self", "kept"] (sp_power C_Disks) := ⟨_, _, okH_power M T_Disks F_Disks_power h_fa h_se, T_Disks.cl, m_Disks_power, b_Disks_power⟩
  have h_fl : MetH l.prog w K mg base 1 C_Disks "fail_after" ["self", "operations"] (sp_fail_after C_Disks C_PowerOff) := ⟨_, _, okH_fail_after M T_Disks e_PowerOff F_Disks_fail_after, T_Disks.cl, m_Disks_fail_after, b_Disks_fail_after⟩
  have cd : Cal l.prog w K mg base 1 "_law_draw" ["script", "k"] (sp_draw K) := .mk' F__law_draw g__law_draw b__law_draw (ok_draw M F__law_draw)
  have cw : Cal l.prog w K mg base 5 "_law_wrong" ["number"] sp_wrong := .mk' F__law_wrong g__law_wrong b__law_wrong (ok_wrong M T_Disks e_InvalidArgument e_RotError hEi (kit_two e_RotError hsri) g_VE F__law_wrong cE cD x_sz x_co)
  have co : CalN l.prog w K mg base 4 "_law_one" ["disks", "counts", "number"] (sp_one C_Disks C_PowerOff) := ⟨_, _, ok_one M T_Disks F__law_one n_sy n_wr n_th n_as, g__law_one, F__law_one.kp, b__law_one⟩
  have ch : CalH l.prog w K mg base 4 "_law_dark" ["disks"] (sp_dark C_Disks) := ⟨_, _, okH_dark M T_Disks e_PowerOff e_RotError hEp (kit_two e_RotError hsrp) F__law_dark h_wr h_sy h_fl h_on, g__law_dark, F__law_dark.kp, b__law_dark⟩
  exact ok_law M T_Disks e_PowerOff F_law cd cw cD n_aw n_fl co n_lo n_co n_on n_po h_lo h_co h_on h_po ch
end R
open PySem PySem.W PyProof.Rows
set_option maxHeartbeats 0 in
theorem PySem.Challenge.cw_rotward_k02_operations_and_errors_holds : PySem.Challenge.rw_rotward_k02_operations_and_errors.Holds := by
  w_on; o_law; k_head; (case hw => w_witness2)
  k_fill
  refine L2.walk_of (l := PySem.Challenge.rw_rotward_k02_operations_and_errors) (n := 63) (k := 6) (x := "script") (CX := fun _ => L2.CX0) (sp := fun w => R.sp_law _) rfl (by decide) rfl ⟨rfl, by decide, by decide⟩ (fun w h Y => PySem.W.kIn_of Y) ?F (fun _ _ a ns hl _ hS => ⟨a, ns, rfl, hS, hl, fun _ => rfl⟩) (fun _ _ _ _ _ h => h)
  case F =>
    intro w mg fa h KX G hmg
    refine' R.all_mk KX G hmg ?a1 ?l1 ?c1 ?k1 ?a2 ?l2 ?c2 ?k2 ?a3 ?i3 ?l3 ?c3 ?k3 ?a4 ?i4 ?l4 ?c4 ?k4 ?a5 ?i5 ?l5 ?c5 ?k5 ?a6 ?i6 ?l6 ?c6 ?k6 ?a7 ?i7 ?l7 ?c7 ?k7 ?a8 ?i8 ?l8 ?c8 ?k8 ?a9 ?i9 ?l9 ?c9 ?k9 ?a10 ?i10 ?l10 ?c10 ?k10 ?a11 ?i11 ?l11 ?c11 ?k11 ?a12 ?i12 ?l12 ?c12 ?k12 ?a13 ?i13 ?l13 ?c13 ?k13 ?a14 ?i14 ?l14 ?c14 ?k14 ?a15 ?i15 ?l15 ?c15 ?k15 ?a16 ?i16 ?l16 ?c16 ?k16 ?a17 ?i17 ?l17 ?c17 ?k17 ?a18 ?i18 ?l18 ?c18 ?k18 ?a19 ?i19 ?l19 ?c19 ?k19 ?a20 ?l20 ?c20 ?k20 ?a21 ?l21 ?c21 ?k21 ?a22 ?l22 ?c22 ?k22 ?a23 ?l23 ?c23 ?k23 ?a24 ?l24 ?c24 ?k24 ?aC_Disks ?pg_Disks ?hd_Disks ?po_Disks ?sa_Disks ?mk_Disks ?kc_Disks ?n_Disks_in_use ?n_Disks_formatted ?n_Disks_scrub_place ?n_Disks__sizes ?n_Disks__there ?n_Disks__media ?n_Disks__waiting ?n_Disks__on ?n_Disks__left ?n_Disks__failures ?n_Disks__reads ?n_Disks__writes ?n_Disks__syncs ?aX_InvalidArgument ?xP_InvalidArgument ?kP_InvalidArgument ?bP_InvalidArgument ?tP_InvalidArgument ?iP_InvalidArgument ?sP_InvalidArgument ?aX_PowerOff ?xP_PowerOff ?kP_PowerOff ?bP_PowerOff ?tP_PowerOff ?iP_PowerOff ?sP_PowerOff ?aX_RotError ?xP_RotError ?kP_RotError ?bP_RotError ?tP_RotError ?iP_RotError ?sP_RotError ?hcn ?hct ?z_ValueError ?hgai ?hgti ?hhdi ?hcai ?hmoi ?hsri ?hsvi ?hgap ?hgtp ?hhdp ?hcap ?hmop ?hsrp ?hsvp ?z_bool ?z_int ?z_isinstance ?z_len ?z_list ?z_min ?z_range ?z_reversed ?z_tuple ?z_zip
    (first | (case aC_Disks => k_is) | exact bad_aC_Disks); (first | (case aX_InvalidArgument => k_is) | exact bad_aX_InvalidArgument); (first | (case aX_PowerOff => k_is) | exact bad_aX_PowerOff); (first | (case aX_RotError => k_is) | exact bad_aX_RotError); (first | (case a1 => k_is) | exact bad_a1); (first | (case l1 => k_is) | exact bad_l1); (first | (case c1 => k_is) | exact bad_c1); (first | (case k1 => k_is) | exact bad_k1); (first | (case a2 => k_is) | exact bad_a2); (first | (case l2 => k_is) | exact bad_l2); (first | (case c2 => k_is) | exact bad_c2); (first | (case k2 => k_is) | exact bad_k2); (first | (case a3 => k_is) | exact bad_a3); (first | (case i3 => k_is) | exact bad_i3); (first | (case l3 => k_is) | exact bad_l3); (first | (case c3 => k_is) | exact bad_c3); (first | (case k3 => k_is) | exact bad_k3); (first | (case a4 => k_is) | exact bad_a4); (first | (case i4 => k_is) | exact bad_i4); (first | (case l4 => k_is) | exact bad_l4); (first | (case c4 => k_is) | exact bad_c4); (first | (case k4 => k_is) | exact bad_k4); (first | (case a5 => k_is) | exact bad_a5); (first | (case i5 => k_is) | exact bad_i5); (first | (case l5 => k_is) | exact bad_l5); (first | (case c5 => k_is) | exact bad_c5); (first | (case k5 => k_is) | exact bad_k5); (first | (case a6 => k_is) | exact bad_a6); (first | (case i6 => k_is) | exact bad_i6); (first | (case l6 => k_is) | exact bad_l6); (first | (case c6 => k_is) | exact bad_c6); (first | (case k6 => k_is) | exact bad_k6); (first | (case a7 => k_is) | exact bad_a7); (first | (case i7 => k_is) | exact bad_i7); (first | (case l7 => k_is) | exact bad_l7); (first | (case c7 => k_is) | exact bad_c7); (first | (case k7 => k_is) | exact bad_k7); (first | (case a8 => k_is) | exact bad_a8); (first | (case i8 => k_is) | exact bad_i8); (first | (case l8 => k_is) | exact bad_l8); (first | (case c8 => k_is) | exact bad_c8); (first | (case k8 => k_is) | exact bad_k8); (first | (case a9 => k_is) | exact bad_a9); (first | (case i9 => k_is) | exact bad_i9); (first | (case l9 => k_is) | exact bad_l9); (first | (case c9 => k_is) | exact bad_c9); (first | (case k9 => k_is) | exact bad_k9); (first | (case a10 => k_is) | exact bad_a10); (first | (case i10 => k_is) | exact bad_i10); (first | (case l10 => k_is) | exact bad_l10); (first | (case c10 => k_is) | exact bad_c10); (first | (case k10 => k_is) | exact bad_k10); (first | (case a11 => k_is) | exact bad_a11); (first | (case i11 => k_is) | exact bad_i11); (first | (case l11 => k_is) | exact bad_l11); (first | (case c11 => k_is) | exact bad_c11); (first | (case k11 => k_is) | exact bad_k11); (first | (case a12 => k_is) | exact bad_a12); (first | (case i12 => k_is) | exact bad_i12); (first | (case l12 => k_is) | exact bad_l12); (first | (case c12 => k_is) | exact bad_c12); (first | (case k12 => k_is) | exact bad_k12); (first | (case a13 => k_is) | exact bad_a13); (first | (case i13 => k_is) | exact bad_i13); (first | (case l13 => k_is) | exact bad_l13); (first | (case c13 => k_is) | exact bad_c13); (first | (case k13 => k_is) | exact bad_k13); (first | (case a14 => k_is) | exact bad_a14); (first | (case i14 => k_is) | exact bad_i14); (first | (case l14 => k_is) | exact bad_l14); (first | (case c14 => k_is) | exact bad_c14); (first | (case k14 => k_is) | exact bad_k14); (first | (case a15 => k_is) | exact bad_a15); (first | (case i15 => k_is) | exact bad_i15); (first | (case l15 => k_is) | exact bad_l15); (first | (case c15 => k_is) | exact bad_c15); (first | (case k15 => k_is) | exact bad_k15); (first | (case a16 => k_is) | exact bad_a16); (first | (case i16 => k_is) | exact bad_i16); (first | (case l16 => k_is) | exact bad_l16); (first | (case c16 => k_is) | exact bad_c16); (first | (case k16 => k_is) | exact bad_k16); (first | (case a17 => k_is) | exact bad_a17); (first | (case i17 => k_is) | exact bad_i17); (first | (case l17 => k_is) | exact bad_l17); (first | (case c17 => k_is) | exact bad_c17); (first | (case k17 => k_is) | exact bad_k17); (first | (case a18 => k_is) | exact bad_a18); (first | (case i18 => k_is) | exact bad_i18); (first | (case l18 => k_is) | exact bad_l18); (first | (case c18 => k_is) | exact bad_c18); (first | (case k18 => k_is) | exact bad_k18); (first | (case a19 => k_is) | exact bad_a19); (first | (case i19 => k_is) | exact bad_i19); (first | (case l19 => k_is) | exact bad_l19); (first | (case c19 => k_is) | exact bad_c19); (first | (case k19 => k_is) | exact bad_k19); (first | (case a20 => k_is) | exact bad_a20); (first | (case l20 => k_is) | exact bad_l20); (first | (case c20 => k_is) | exact bad_c20); (first | (case k20 => k_is) | exact bad_k20); (first | (case a21 => k_is) | exact bad_a21); (first | (case l21 => k_is) | exact bad_l21); (first | (case c21 => k_is) | exact bad_c21); (first | (case k21 => k_is) | exact bad_k21); (first | (case a22 => k_is) | exact bad_a22); (first | (case l22 => k_is) | exact bad_l22); (first | (case c22 => k_is) | exact bad_c22); (first | (case k22 => k_is) | exact bad_k22); (first | (case a23 => k_is) | exact bad_a23); (first | (case l23 => k_is) | exact bad_l23); (first | (case c23 => k_is) | exact bad_c23); (first | (case k23 => k_is) | exact bad_k23); (first | (case a24 => k_is) | exact bad_a24); (first | (case l24 => k_is) | exact bad_l24); (first | (case c24 => k_is) | exact bad_c24); (first | (case k24 => k_is) | exact bad_k24); (first | (case pg_Disks => k_is) | exact bad_pg_Disks); (first | (case hd_Disks => k_is) | exact bad_hd_Disks); (first | (case po_Disks => k_is) | exact bad_po_Disks); (first | (case sa_Disks => k_is) | exact bad_sa_Disks); (first | (case mk_Disks => k_is) | exact bad_mk_Disks); (first | (case kc_Disks => k_is) | exact bad_kc_Disks); (first | (case n_Disks_in_use => k_is) | exact bad_n_Disks_in_use); (first | (case n_Disks_formatted => k_is) | exact bad_n_Disks_formatted); (first | (case n_Disks_scrub_place => k_is) | exact bad_n_Disks_scrub_place); (first | (case n_Disks__sizes => k_is) | exact bad_n_Disks__sizes); (first | (case n_Disks__there => k_is) | exact bad_n_Disks__there); (first | (case n_Disks__media => k_is) | exact bad_n_Disks__media); (first | (case n_Disks__waiting => k_is) | exact bad_n_Disks__waiting); (first | (case n_Disks__on => k_is) | exact bad_n_Disks__on); (first | (case n_Disks__left => k_is) | exact bad_n_Disks__left); (first | (case n_Disks__failures => k_is) | exact bad_n_Disks__failures); (first | (case n_Disks__reads => k_is) | exact bad_n_Disks__reads); (first | (case n_Disks__writes => k_is) | exact bad_n_Disks__writes); (first | (case n_Disks__syncs => k_is) | exact bad_n_Disks__syncs); (first | (case xP_InvalidArgument => k_exc) | exact bad_xP_InvalidArgument); (first | (case kP_InvalidArgument => k_is) | exact bad_kP_InvalidArgument); (first | (case bP_InvalidArgument => k_is) | exact bad_bP_InvalidArgument); (first | (case tP_InvalidArgument => k_is) | exact bad_tP_InvalidArgument); (first | (case iP_InvalidArgument => k_is) | exact bad_iP_InvalidArgument); (first | (case sP_InvalidArgument => first | rfl | k_is) | exact bad_sP_InvalidArgument); (first | (case xP_PowerOff => k_exc) | exact bad_xP_PowerOff); (first | (case kP_PowerOff => k_is) | exact bad_kP_PowerOff); (first | (case bP_PowerOff => k_is) | exact bad_bP_PowerOff); (first | (case tP_PowerOff => k_is) | exact bad_tP_PowerOff); (first | (case iP_PowerOff => k_is) | exact bad_iP_PowerOff); (first | (case sP_PowerOff => first | rfl | k_is) | exact bad_sP_PowerOff); (first | (case xP_RotError => k_exc) | exact bad_xP_RotError); (first | (case kP_RotError => k_is) | exact bad_kP_RotError); (first | (case bP_RotError => k_is) | exact bad_bP_RotError); (first | (case tP_RotError => k_is) | exact bad_tP_RotError); (first | (case iP_RotError => k_is) | exact bad_iP_RotError); (first | (case sP_RotError => first | rfl | k_is) | exact bad_sP_RotError); (first | (case hcn => k_is) | exact bad_hcn); (first | (case hct => k_is) | exact bad_hct); (first | (case z_ValueError => k_is) | exact bad_z_ValueError); (first | (case hgai => k_is) | exact bad_hgai); (first | (case hgti => k_is) | exact bad_hgti); (first | (case hhdi => k_is) | exact bad_hhdi); (first | (case hcai => k_is) | exact bad_hcai); (first | (case hmoi => k_is) | exact bad_hmoi); (first | (case hsri => first | rfl | k_is) | exact bad_hsri); (first | (case hsvi => first | k_is | rfl) | exact bad_hsvi); (first | (case hgap => k_is) | exact bad_hgap); (first | (case hgtp => k_is) | exact bad_hgtp); (first | (case hhdp => k_is) | exact bad_hhdp); (first | (case hcap => k_is) | exact bad_hcap); (first | (case hmop => k_is) | exact bad_hmop); (first | (case hsrp => first | rfl | k_is) | exact bad_hsrp); (first | (case hsvp => first | k_is | rfl) | exact bad_hsvp); (first | (case z_bool => k_is) | exact bad_z_bool); (first | (case z_int => k_is) | exact bad_z_int); (first | (case z_isinstance => k_is) | exact bad_z_isinstance); (first | (case z_len => k_is) | exact bad_z_len); (first | (case z_list => k_is) | exact bad_z_list); (first | (case z_min => k_is) | exact bad_z_min); (first | (case z_range => k_is) | exact bad_z_range); (first | (case z_reversed => k_is) | exact bad_z_reversed); (first | (case z_tuple => k_is) | exact bad_z_tuple); (first | (case z_zip => k_is) | exact bad_z_zip)

