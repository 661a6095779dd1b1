import PyProof.Rows.All
import Wide.All
import OpenK.AllK
import Wide.FinOn
import HandS.ForMost
import HandS.IsInst
import HandS.Steps
import HandS.Evl
import HandS.Walk
import HandS.Conv
import HandS.WordsDict
import KE.KDictZip
import HandS.RevRange
import HandS.Zip
import HandS.TryOnly
import KE.OsArith
import HandS.Exc
import HandS.ExcOwn
import HandS.WordsExc
import HandS.Style
import PyProof.ZipIter
import PyProof.CallType
import PyProof.Walk
import PyProof.WalkLemmas
import PyProof.RulesTry
import PyProof.Rows.SortShell
import HandS.Iter
import PyProof.StrOps2
import HandS.Codes
import HandS.IntHex
import HandS.NoneIn
import KE.KeyNested
import KE.KDictKeyed
import KE.DataFind
import HandS.DictComp
import HandS.Strs
import HandS.DictTup
import HandS.ExcIs
import HandS.ExcCtx
import HandS.Wide
import PySem.Challenge.RW_rotward_k22_accepted_words
set_option Elab.async false
set_option linter.all false
set_option maxRecDepth 100000
set_option maxHeartbeats 4000000
namespace R
open PySem PySem.Spec L2

/-! ### rules that the layer lacks -/
section
variable {X : Cx}
/-- xs[i] read for an operation in place -/
theorem get_list : PGet X (rIxL X.K) := by
  intro pins s σ H o i ov iv Q I ro ri h
  obtain ⟨p, xs, k, z, rfl, rfl, hq, he, q⟩ := h
  cases ro
  obtain ⟨t, rfl⟩ := ri
  obtain ⟨us, vs, pl, hz⟩ := I.list hq
  obtain ⟨j, g1, g2, g3, g4, g5⟩ := atI_get he
  obtain ⟨u, eu, ru⟩ := vs.get g2
  have ln := vs.length
  have l63 := line63
  have dn : EP X pins σ Q u s := ⟨z, H, I, ru, q⟩
  rcases Int.lt_or_le k 0 with k0 | k0
  · rw [seqIndex_neg k0 g4] at g1
    have g1' := Option.some.inj g1
    refine wpAny_getItem_list_neg pl.isList k0 ?_ (by omega) ?_ dn
    · rw [List.size_toArray] <;> omega
    · rw [List.size_toArray, ← ln, g1']
      simpa using eu
  · rw [seqIndex_of k0 g5] at g1
    have g1' := Option.some.inj g1
    refine wpAny_getItem_list pl.isList k0 (by omega) ?_ dn
    rw [g1']
    simpa using eu
theorem pe_globC {x : Str} {i : Int} {pos : Pos} (hg : Gl X x) (h : ∃ t, X.mg x = some (.int i t)) (hd : (x == ("__debug__" : Str)) = false := by decide) : PE X (.Name x pos) (tC (.int i)) := by
  obtain ⟨t, h⟩ := h
  exact pe_glob hg h ⟨t, rfl⟩ hd
end

theorem pe_ty {X : Cx} {x : Str} {n : String} {pos : Pos} (hg : Gl X x) (hm : X.mg x = none) (hv : bootBuiltins x = some (.type n)) (hn : x ≠ "__name__" := by decide) (hd : (x == ("__debug__" : Str)) = false := by decide) : PE X (.Name x pos) (tC (.ty n)) := pe_bltn hg hm hv rfl hn hd
/-! ### a def that may be called -/
def Cal (P : Program) (w : World) (K : PySem.W.Frag) (mg : Str → Option Value) (base : Heap) (k : Nat) (x : Str) (ps : List Str) (sp : Sp) : Prop :=
  ∃ (f : Addr) (fd : FuncData), FnOk P w K mg base CX0 k f fd ps sp ∧ mg x = some (.ref f) ∧ PySem.W.keepIn K (.ref f) = true ∧ Binds K fd ps []
section
variable {P : Program} {w : World} {K : PySem.W.Frag} {mg : Str → Option Value} {base : Heap} {k : Nat} {x : Str} {ps : List Str} {sp : Sp}
theorem Cal.mk' {q : Str} {st : Stmt} {f : Addr} {fd : FuncData} (F : Fun K x q st f fd) (g : mg x = some (.ref f)) (b : Binds K fd ps []) (G : FnOk P w K mg base CX0 k f fd ps sp) : Cal P w K mg base k x ps sp := ⟨f, fd, G, g, F.kp, b⟩
theorem Cal.imp {sp' : Sp} (c : Cal P w K mg base k x ps sp) (h : ∀ vs H Q E, sp' vs H Q E → sp vs H Q E) : Cal P w K mg base k x ps sp' := by
  obtain ⟨f, fd, G, g, kp, b⟩ := c
  exact ⟨f, fd, G.imp h, g, kp, b⟩
theorem Cal.mono {j : Nat} (c : Cal P w K mg base k x ps sp) (h : k ≤ j) : Cal P w K mg base j x ps sp := by
  obtain ⟨f, fd, G, g, kp, b⟩ := c
  exact ⟨f, fd, G.mono h, g, kp, b⟩
end
section
variable {X : Cx} {k : Nat} {x : Str} {ps : List Str} {sp : Sp} {t : TA} {e : Expr} {es : List Expr} {p pos : Pos}
/-- the value of a call -/
def tCal (sp : Sp) (t : TA) : TE := fun σ H Q => t σ H fun vs H1 => sp vs H1 Q E0
theorem tCall_nil (sp : Sp) (t : TA) : tCall sp [] E0 t = tCal sp t := by
  funext σ H Q
  show (t σ H fun vs H1 => sp (vs ++ []) H1 Q E0) = (t σ H fun vs H1 => sp vs H1 Q E0)
  simp only [List.append_nil]
theorem pe_cal (c : Cal X.prog X.w X.K X.mg X.base k x ps sp) (hr : Room k X.A) (hg : Gl X x) (ha : PA X (e :: es) t)
    (hdb : (x == ("__debug__" : Str)) = false := by decide) (he : starEach (e :: es) X.env = (false, eval e X.env) :: starEach es X.env := by rfl) (hpl : (backTo pos (starEach es X.env)).any (·.1) = false := by rfl) :
    PE X (.Call (.Name x p) (e :: es) [] pos) (tCal sp t) := by
  obtain ⟨f, fd, G, g, kp, b⟩ := c
  have h := pe_call (p := p) (pos := pos) G hr hg g kp b .nil pass0 ha hdb he hpl
  rw [tCall_nil] at h
  exact h
theorem pe_cal0 (c : Cal X.prog X.w X.K X.mg X.base k x ps sp) (hr : Room k X.A) (hg : Gl X x) (hdb : (x == ("__debug__" : Str)) = false := by decide) : PE X (.Call (.Name x p) [] [] pos) (tCal sp tNil) := by
  obtain ⟨f, fd, G, g, kp, b⟩ := c
  have h := pe_call0 (p := p) (pos := pos) G hr hg g kp b .nil pass0 hdb
  rw [tCall_nil] at h
  exact h
end

/-! ### rules over what is tracked: their readings open by simp alone -/
section
variable {X : Cx} {e a b : Expr}
theorem PE.imp {t t' : TE} (h : PE X e t) (i : ∀ σ H Q, t' σ H Q → t σ H Q) : PE X e t' := ⟨fun pins s σ H Q I q => h.run pins s σ H Q I (i σ H Q q)⟩
theorem PT.imp {t t' : TT} (h : PT X e t) (i : ∀ σ H Q, t' σ H Q → t σ H Q) : PT X e t' := ⟨fun pins s σ H Q I q => h.run pins s σ H Q I (i σ H Q q)⟩
theorem PS.imp {st : Stmt} {t t' : TS} (h : PS X st t) (i : ∀ D σ H, t' D σ H → t D σ H) : PS X st t' := ⟨fun pins s σ H D I q => h.run pins s σ H D I (i D σ H q)⟩
theorem CallR.imp {f : Value} {r r' : List V → Hp → VK → Prop} (h : CallR X f r) (i : ∀ xs H Q, r' xs H Q → r xs H Q) : CallR X f r' := fun pins s σ H xs us Q I rv q => h pins s σ H xs us Q I rv (i xs H Q q)
theorem IxR.imp {r r' : R2} (h : IxR X r) (i : ∀ x y H Q, r' x y H Q → r x y H Q) : IxR X r' := fun value slice pins s σ H x y v u Q I rx ry q hs => h value slice pins s σ H x y v u Q I rx ry (i x y H Q q) hs
theorem SqL.tr {K : PySem.W.Frag} {H : Hp} {p : Addr} {xs : List V} (h : H p = some (.lst xs)) : SqL K H p xs := .inl (.inl h)
theorem SqT.tr {K : PySem.W.Frag} {H : Hp} {p : Addr} {xs : List V} (h : H p = some (.tup xs)) : SqT K H p xs := .inl (.inl h)

/-- xs[i], a tracked list | tuple -/
def kIxL : R2 := fun x y H Q => ∃ p i xs v, x = .ref p ∧ y = .int i ∧ H p = some (.lst xs) ∧ atI xs i = some v ∧ Q v H
def kIxT : R2 := fun x y H Q => ∃ p i xs v, x = .ref p ∧ y = .int i ∧ H p = some (.tup xs) ∧ atI xs i = some v ∧ Q v H
theorem ix_l : IxR X kIxL := IxR.imp ix_list fun _ _ _ _ ⟨p, i, xs, v, e1, e2, h, ha, q⟩ => ⟨p, xs, i, v, e1, e2, SqL.tr h, ha, q⟩
theorem ix_t : IxR X kIxT := IxR.imp ix_tup fun _ _ _ _ ⟨p, i, xs, v, e1, e2, h, ha, q⟩ => ⟨p, xs, i, v, e1, e2, SqT.tr h, ha, q⟩
theorem get_l : PGet X kIxL := fun pins s σ H o i ov iv Q I ro ri ⟨p, i', xs, v, e1, e2, h, ha, q⟩ => get_list pins s σ H o i ov iv Q I ro ri ⟨p, xs, i', v, e1, e2, SqL.tr h, ha, q⟩
/-- len -/
def kLenL : List V → Hp → VK → Prop := fun vs H Q => ∃ p xs, vs = [.ref p] ∧ H p = some (.lst xs) ∧ Q (.int xs.length) H
def kLenT : List V → Hp → VK → Prop := fun vs H Q => ∃ p xs, vs = [.ref p] ∧ H p = some (.tup xs) ∧ Q (.int xs.length) H
theorem len_l : CallR X (.builtin "len") kLenL := CallR.imp call_len_seq fun _ _ _ ⟨p, xs, e, h, q⟩ => ⟨p, xs, e, .inl (SqL.tr h), q⟩
theorem len_t : CallR X (.builtin "len") kLenT := CallR.imp call_len_seq fun _ _ _ ⟨p, xs, e, h, q⟩ => ⟨p, xs, e, .inr (SqT.tr h), q⟩
/-- list or tuple -/
def kIxS : R2 := fun x y H Q => ∃ p i xs v, x = .ref p ∧ y = .int i ∧ (H p = some (.lst xs) ∨ H p = some (.tup xs)) ∧ atI xs i = some v ∧ Q v H
theorem ix_s : IxR X kIxS := IxR.imp ix_seq fun _ _ _ _ ⟨p, i, xs, v, e1, e2, h, ha, q⟩ => h.elim (fun h => .inl ⟨p, xs, i, v, e1, e2, SqL.tr h, ha, q⟩) fun h => .inr (.inl ⟨p, xs, i, v, e1, e2, SqT.tr h, ha, q⟩)
def kLenS : List V → Hp → VK → Prop := fun vs H Q => ∃ p xs, vs = [.ref p] ∧ (H p = some (.lst xs) ∨ H p = some (.tup xs)) ∧ Q (.int xs.length) H
theorem len_s : CallR X (.builtin "len") kLenS := CallR.imp call_len_seq fun _ _ _ ⟨p, xs, e, h, q⟩ => ⟨p, xs, e, h.elim (fun h => .inl (SqL.tr h)) (fun h => .inr (SqT.tr h)), q⟩
/-- int(i) -/
def kInt : List V → Hp → VK → Prop := fun vs H Q => ∃ i, vs = [.int i] ∧ Q (.int i) H
theorem int_i : CallR X (.type "int") kInt := CallR.imp call_int1 fun _ _ _ ⟨i, e, q⟩ => .inl ⟨i, e, q⟩
/-- list(xs): a new one -/
def kListL : List V → Hp → VK → Prop := fun vs H Q => ∃ p xs, vs = [.ref p] ∧ H p = some (.lst xs) ∧ ∀ l, H l = none → Q (.ref l) (upd H l (.lst xs))
theorem list_l : CallR X (.type "list") kListL := CallR.imp call_list_of fun _ _ _ ⟨p, xs, e, h, q⟩ => ⟨p, xs, e, .inl (SqL.tr h), q⟩
def kListT : List V → Hp → VK → Prop := fun vs H Q => ∃ p xs, vs = [.ref p] ∧ H p = some (.tup xs) ∧ ∀ l, H l = none → Q (.ref l) (upd H l (.lst xs))
theorem list_t : CallR X (.type "list") kListT := CallR.imp call_list_of fun _ _ _ ⟨p, xs, e, h, q⟩ => ⟨p, xs, e, .inr (SqT.tr h), q⟩
def kTupL : List V → Hp → VK → Prop := fun vs H Q => ∃ p xs, vs = [.ref p] ∧ H p = some (.lst xs) ∧ ∀ l, H l = none → Q (.ref l) (upd H l (.tup xs))
theorem tup_l : CallR X (.type "tuple") kTupL := CallR.imp call_tuple_of fun _ _ _ ⟨p, xs, e, h, q⟩ => ⟨p, xs, e, .inl ⟨SqL.tr h, q⟩⟩
/-- isinstance(x, T), T built in -/
def tyN (H : Hp) : V → Option String
  | .non => some "NoneType"
  | .bl _ => some "bool"
  | .int _ => some "int"
  | .str _ => some "str"
  | .ref a => match H a with
    | some (.lst _) => some "list"
    | some (.tup _) => some "tuple"
    | some (.dK _) => some "dict"
    | some (.dT _) => some "dict"
    | _ => none
  | _ => none
theorem tyN_of {K : PySem.W.Frag} {H : Hp} {x : V} {n : String} (h : tyN H x = some n) : TyX K H x (.type n) := by
  cases x with
  | non => cases h; exact .base .non
  | bl b => cases h; exact .base (.bl b)
  | int i => cases h; exact .base (.int i)
  | str z => cases h; exact .base (.str z)
  | byt b => cases h
  | flt b => cases h
  | ty b => cases h
  | ref a =>
    have h' : (match H a with
      | some (.lst _) => some "list"
      | some (.tup _) => some "tuple"
      | some (.dK _) => some "dict"
      | some (.dT _) => some "dict"
      | _ => none) = some n := h
    cases e : H a with
    | none => rw [e] at h'; cases h'
    | some o =>
      rw [e] at h'
      cases o with
      | lst xs => cases h'; exact .base (.lst e)
      | tup xs => cases h'; exact .base (.tup e)
      | dK xs => cases h'; exact .base (.dK e)
      | dT xs => cases h'; exact .base (.dT e)
      | _ => cases h'
theorem tyN_lst {H : Hp} {a : Addr} {xs : List V} (h : H a = some (.lst xs)) : tyN H (.ref a) = some "list" := by
  show (match H a with
      | some (.lst _) => some "list"
      | some (.tup _) => some "tuple"
      | some (.dK _) => some "dict"
      | some (.dT _) => some "dict"
      | _ => none) = some "list"
  rw [h]
theorem tyN_tup {H : Hp} {a : Addr} {xs : List V} (h : H a = some (.tup xs)) : tyN H (.ref a) = some "tuple" := by
  show (match H a with
      | some (.lst _) => some "list"
      | some (.tup _) => some "tuple"
      | some (.dK _) => some "dict"
      | some (.dT _) => some "dict"
      | _ => none) = some "tuple"
  rw [h]
theorem tyN_int {H : Hp} {i : Int} : tyN H (.int i) = some "int" := rfl
theorem tyN_bl {H : Hp} {i : Bool} : tyN H (.bl i) = some "bool" := rfl
theorem tyN_non {H : Hp} : tyN H .non = some "NoneType" := rfl
theorem tyN_str {H : Hp} {i : Str} : tyN H (.str i) = some "str" := rfl
def kIsi : List V → Hp → VK → Prop := fun vs H Q => ∃ x c n b, vs = [x, .ty c] ∧ tyN H x = some n ∧ kitB n c = some b ∧ Q (.bl b) H
theorem isi_b : CallR X (.builtin "isinstance") kIsi := CallR.imp call_isi fun _ _ _ ⟨x, c, n, b, e, h, k, q⟩ => ⟨x, .ty c, .type n, .type c, b, e, .ty c, tyN_of h, kit_ty k, q⟩
theorem kb_NoneType_bool : kitB "NoneType" "bool" = some false := by decide +kernel
theorem kb_NoneType_int : kitB "NoneType" "int" = some false := by decide +kernel
theorem kb_NoneType_str : kitB "NoneType" "str" = some false := by decide +kernel
theorem kb_NoneType_tuple : kitB "NoneType" "tuple" = some false := by decide +kernel
theorem kb_NoneType_list : kitB "NoneType" "list" = some false := by decide +kernel
theorem kb_bool_bool : kitB "bool" "bool" = some true := by decide +kernel
theorem kb_bool_int : kitB "bool" "int" = some true := by decide +kernel
theorem kb_bool_str : kitB "bool" "str" = some false := by decide +kernel
theorem kb_bool_tuple : kitB "bool" "tuple" = some false := by decide +kernel
theorem kb_bool_list : kitB "bool" "list" = some false := by decide +kernel
theorem kb_int_bool : kitB "int" "bool" = some false := by decide +kernel
theorem kb_int_int : kitB "int" "int" = some true := by decide +kernel
theorem kb_int_str : kitB "int" "str" = some false := by decide +kernel
theorem kb_int_tuple : kitB "int" "tuple" = some false := by decide +kernel
theorem kb_int_list : kitB "int" "list" = some false := by decide +kernel
theorem kb_str_bool : kitB "str" "bool" = some false := by decide +kernel
theorem kb_str_int : kitB "str" "int" = some false := by decide +kernel
theorem kb_str_str : kitB "str" "str" = some true := by decide +kernel
theorem kb_str_tuple : kitB "str" "tuple" = some false := by decide +kernel
theorem kb_str_list : kitB "str" "list" = some false := by decide +kernel
theorem kb_tuple_bool : kitB "tuple" "bool" = some false := by decide +kernel
theorem kb_tuple_int : kitB "tuple" "int" = some false := by decide +kernel
theorem kb_tuple_str : kitB "tuple" "str" = some false := by decide +kernel
theorem kb_tuple_tuple : kitB "tuple" "tuple" = some true := by decide +kernel
theorem kb_tuple_list : kitB "tuple" "list" = some false := by decide +kernel
theorem kb_list_bool : kitB "list" "bool" = some false := by decide +kernel
theorem kb_list_int : kitB "list" "int" = some false := by decide +kernel
theorem kb_list_str : kitB "list" "str" = some false := by decide +kernel
theorem kb_list_tuple : kitB "list" "tuple" = some false := by decide +kernel
theorem kb_list_list : kitB "list" "list" = some true := by decide +kernel
theorem op_isNV : OpR X (compareOp .Is) (fun x y H Q => y = .non ∧ Q (.bl (decide (x = .non))) H) := fun pins s σ H x y v u Q I rx ry ⟨e, q⟩ => op_isN pins s σ H x y v u Q I rx ry ⟨e, q⟩
/-- o.m(..), o a tracked list -/
def kBM (r : V → List V → Hp → VK → Prop) (to : TE) (t : TA) : TE := fun σ H Q => to σ H fun x H1 => ∃ p xs, x = .ref p ∧ H1 p = some (.lst xs) ∧ t σ H1 fun ys H2 => r x ys H2 Q
def kBM0 (r : V → List V → Hp → VK → Prop) (to : TE) : TE := fun σ H Q => to σ H fun x H1 => ∃ p xs, x = .ref p ∧ H1 p = some (.lst xs) ∧ r x [] H1 Q
theorem pe_bmL {o e : Expr} {es : List Expr} {to : TE} {t : TA} {name : Str} {apos cpos : Pos} {id : String} {r : V → List V → Hp → VK → Prop}
    (slot : Slot "list" name id) (hty : typeOf (.builtin id) = pure (.type "method_descriptor")) (hm : MtR X id r) (ho : PE X o to) (ha : PA X (e :: es) t)
    (hbase : attributeBase o name X.env (eval o X.env) = eval o X.env := by rfl)
    (hfew : ((backTo cpos (starEach (e :: es) X.env)).all (fun x => !x.1) && (backToKw cpos (keywordEach [] X.env)).all (fun x => x.1.isSome)
      && decide ((e :: es).length + ([] : List Keyword).length + (if ([] : List Keyword).isEmpty then 0 else 1) < 30)) = true := by rfl)
    (hline : (apos.endLine == cpos.line) = true := by rfl) (hs : starEach (e :: es) X.env = (false, eval e X.env) :: starEach es X.env := by rfl) (hplain : (backTo cpos (starEach es X.env)).any (·.1) = false := by rfl) :
    PE X (.Call (.Attribute o name apos) (e :: es) [] cpos) (tBM X.K "list" r to t) := pe_bm PySem.F.plainAttrs_list slot hty hm ho ha hbase hfew hline hs hplain
/-- o is a name (or anything whose value's reading is monotone) -/
def Mono (t : TE) : Prop := ∀ σ H (Q Q' : VK), (∀ v H', Q v H' → Q' v H') → t σ H Q → t σ H Q'
theorem mono_var {i : Nat} : Mono (tVar i) := fun _ _ _ _ m ⟨v, e, q⟩ => ⟨v, e, m _ _ q⟩
/-- x.append(..) and the like, x a local name -/
def kMt (r : V → List V → Hp → VK → Prop) (i : Nat) (t : TA) : TE := fun σ H Q => ∃ p xs, σ[i]? = some (some (V.ref p)) ∧ H p = some (.lst xs) ∧ t σ H fun ys H2 => r (V.ref p) ys H2 Q
def kMt0 (r : V → List V → Hp → VK → Prop) (i : Nat) : TE := fun σ H Q => ∃ p xs, σ[i]? = some (some (V.ref p)) ∧ H p = some (.lst xs) ∧ r (V.ref p) [] H Q
theorem pe_mt {i : Nat} {o e : Expr} {es : List Expr} {t : TA} {name : Str} {apos cpos : Pos} {id : String} {r : V → List V → Hp → VK → Prop}
    (slot : Slot "list" name id) (hty : typeOf (.builtin id) = pure (.type "method_descriptor")) (hm : MtR X id r) (ho : PE X o (tVar i)) (ha : PA X (e :: es) t)
    (hbase : attributeBase o name X.env (eval o X.env) = eval o X.env := by rfl)
    (hfew : ((backTo cpos (starEach (e :: es) X.env)).all (fun x => !x.1) && (backToKw cpos (keywordEach [] X.env)).all (fun x => x.1.isSome)
      && decide ((e :: es).length + ([] : List Keyword).length + (if ([] : List Keyword).isEmpty then 0 else 1) < 30)) = true := by rfl)
    (hline : (apos.endLine == cpos.line) = true := by rfl) (hs : starEach (e :: es) X.env = (false, eval e X.env) :: starEach es X.env := by rfl) (hplain : (backTo cpos (starEach es X.env)).any (·.1) = false := by rfl) :
    PE X (.Call (.Attribute o name apos) (e :: es) [] cpos) (kMt r i t) := PE.imp (pe_bm PySem.F.plainAttrs_list slot hty hm ho ha hbase hfew hline hs hplain) fun _ _ _ ⟨p, xs, e, h, q⟩ => ⟨.ref p, e, .inl ⟨rfl, xs, SqL.tr h⟩, q⟩
theorem pe_mt0 {i : Nat} {o : Expr} {name : Str} {apos cpos : Pos} {id : String} {r : V → List V → Hp → VK → Prop}
    (slot : Slot "list" name id) (hty : typeOf (.builtin id) = pure (.type "method_descriptor")) (hm : MtR X id r) (ho : PE X o (tVar i))
    (hbase : attributeBase o name X.env (eval o X.env) = eval o X.env := by rfl) (hline : (apos.endLine == cpos.line) = true := by rfl) : PE X (.Call (.Attribute o name apos) [] [] cpos) (kMt0 r i) :=
  PE.imp (pe_bm0 PySem.F.plainAttrs_list slot hty hm ho hbase hline) fun _ _ _ ⟨p, xs, e, h, q⟩ => ⟨.ref p, e, .inl ⟨rfl, xs, SqL.tr h⟩, q⟩
end
/-! ### for loops over tracked things -/
section
variable {X : Cx}
/-- what is wanted may be weakened -/
def tMo (t : TE) : TE := fun σ H Q => ∃ A : VK, t σ H A ∧ ∀ v H', A v H' → Q v H'
theorem pe_mo {e : Expr} {t : TE} (h : PE X e t) : PE X e (tMo t) := ⟨fun pins s σ H Q I ⟨A, q, m⟩ => thn (h.run pins s σ H A I q) fun _ _ ⟨v, H', I', r, z⟩ => ⟨v, H', I', r, m v H' z⟩⟩
def kIterL (K : PySem.W.Frag) (tl : TE) : TI := fun σ H R => tl σ H fun x H1 => ∃ a xs, x = .ref a ∧ H1 a = some (.lst xs) ∧ R (Itl K a) H1
def kIterT (K : PySem.W.Frag) (tl : TE) : TI := fun σ H R => tl σ H fun x H1 => ∃ a xs, x = .ref a ∧ H1 a = some (.tup xs) ∧ R (Itt K a) H1
theorem pi_l {tg l : Expr} {tl : TE} (hl : PE X l tl) : PI X tg l (kIterL X.K tl) := ⟨fun pins s σ H R I q => (pi_list (pe_mo hl)).run pins s σ H R I ⟨_, q, fun _ _ ⟨a, xs, e, h, z⟩ => ⟨a, e, ⟨xs, SqL.tr h⟩, z⟩⟩⟩
theorem pi_t {tg l : Expr} {tl : TE} (hl : PE X l tl) : PI X tg l (kIterT X.K tl) := ⟨fun pins s σ H R I q => (pi_tup (pe_mo hl)).run pins s σ H R I ⟨_, q, fun _ _ ⟨a, xs, e, h, z⟩ => ⟨a, e, ⟨xs, SqT.tr h⟩, z⟩⟩⟩
def tForJ (J : It) (g : TG) (tb : TS) (D : Ends) (σ : St) (H : Hp) : Prop := ∃ W : Nat → Nat → St → Hp → Prop, (∃ m, W 0 m σ H) ∧ ∀ i m σ H, W i m σ H →
  (J.stop i H ∧ D.nx σ H) ∨ (J.go i H ∧ ∃ N : St → Hp → Prop, (∀ σ' H', N σ' H' → ∃ m', m' < m ∧ W (i + 1) m' σ' H') ∧ ∀ x H', J.yld i H x H' → g x σ H' fun σ2 H2 => tb { D with nx := N, ct := N, bk := D.nx } σ2 H2)
theorem forJ_range {lo : Int} {m : Nat} {g : TG} {tb : TS} {n b c : St → Hp → Prop} {r : VK} {σ : L2.St} {H : Hp} (Pv : Nat → St → Hp → Prop) (h0 : Pv 0 σ H)
    (hs : ∀ i σ H, i < m → Pv i σ H → g (.int (lo + i)) σ H fun σ2 H2 => tb ⟨Pv (i + 1), r, n, Pv (i + 1)⟩ σ2 H2) (hd : ∀ σ H, Pv m σ H → n σ H) : tForJ (Itr lo m) g tb ⟨n, r, b, c⟩ σ H := for_range Pv h0 hs hd
theorem forJ_range0 {m : Nat} {g : TG} {tb : TS} {n b c : St → Hp → Prop} {r : VK} {σ : L2.St} {H : Hp} (Pv : Nat → St → Hp → Prop) (h0 : Pv 0 σ H)
    (hs : ∀ i σ H, i < m → Pv i σ H → g (.int (i : Int)) σ H fun σ2 H2 => tb ⟨Pv (i + 1), r, n, Pv (i + 1)⟩ σ2 H2) (hd : ∀ σ H, Pv m σ H → n σ H) : tForJ (Itr 0 m) g tb ⟨n, r, b, c⟩ σ H := for_range Pv h0 (fun i σ H h p => by
      rw [Int.zero_add]
      exact hs i σ H h p) hd
theorem forJ_list {K : PySem.W.Frag} {a : Addr} (xs : List V) {g : TG} {tb : TS} {n b c : St → Hp → Prop} {r : VK} {σ : L2.St} {H : Hp} (Pv : Nat → St → Hp → Prop) (h0 : Pv 0 σ H) (hl : ∀ i σ H, i ≤ xs.length → Pv i σ H → H a = some (.lst xs))
    (hs : ∀ i x σ H, xs[i]? = some x → Pv i σ H → g x σ H fun σ2 H2 => tb ⟨Pv (i + 1), r, n, Pv (i + 1)⟩ σ2 H2) (hd : ∀ σ H, Pv xs.length σ H → n σ H) : tForJ (Itl K a) g tb ⟨n, r, b, c⟩ σ H :=
  for_list Pv h0 (fun i σ H h p => SqL.tr (hl i σ H h p)) hs hd
theorem forJ_tup {K : PySem.W.Frag} {a : Addr} (xs : List V) {g : TG} {tb : TS} {n b c : St → Hp → Prop} {r : VK} {σ : L2.St} {H : Hp} (Pv : Nat → St → Hp → Prop) (h0 : Pv 0 σ H) (hl : ∀ i σ H, i ≤ xs.length → Pv i σ H → H a = some (.tup xs))
    (hs : ∀ i x σ H, xs[i]? = some x → Pv i σ H → g x σ H fun σ2 H2 => tb ⟨Pv (i + 1), r, n, Pv (i + 1)⟩ σ2 H2) (hd : ∀ σ H, Pv xs.length σ H → n σ H) : tForJ (Itt K a) g tb ⟨n, r, b, c⟩ σ H :=
  for_tup Pv h0 (fun i σ H h p => SqT.tr (hl i σ H h p)) hs hd
end
/-! ### places of lists -/
theorem ixN_natL (n i : Nat) : ixN n (i : Int) = if i < n then some i else none := by
  unfold ixN
  by_cases h : i < n
  · rw [if_pos (by omega), if_pos (by omega), if_pos h]
    simp
  · rw [if_pos (by omega), if_neg (by omega), if_neg h]
theorem atI_natL {α : Type} (xs : List α) (i : Nat) : atI xs (i : Int) = xs[i]? := by
  unfold atI
  rw [ixN_natL]
  by_cases h : i < xs.length
  · rw [if_pos h]
    rfl
  · rw [if_neg h]
    exact (List.getElem?_eq_none (by omega)).symm
theorem atI_map {ns : List Int} {i : Int} (h0 : 0 ≤ i) (h : i < ns.length) : ∃ x, atI (ns.map V.int) i = some (.int x) := by
  refine ⟨ns[i.toNat]'(by omega), ?_⟩
  obtain ⟨k, rfl⟩ : ∃ k : Nat, i = (k : Int) := ⟨i.toNat, by omega⟩
  rw [atI_natL, List.getElem?_map, List.getElem?_eq_getElem (by omega)]
  simp
theorem atI_m1 {α : Type} (xs : List α) : atI xs (-1) = xs.getLast? := by
  unfold atI ixN
  rw [List.getLast?_eq_getElem?, if_neg (by decide)]
  by_cases h : xs = []
  · subst h; rfl
  · have : 0 < xs.length := by cases xs with | nil => exact absurd rfl h | cons _ _ => simp
    rw [if_pos (by omega)]
    show xs[(-1 + (xs.length : Int)).toNat]? = _
    rw [show (-1 + (xs.length : Int)).toNat = xs.length - 1 by omega]
theorem atI_0 {α : Type} (xs : List α) : atI xs 0 = xs[0]? := atI_natL xs 0
theorem ixN_0 (n : Nat) : ixN n 0 = if 0 < n then some 0 else none := ixN_natL n 0
theorem atI_1 {α : Type} (xs : List α) : atI xs 1 = xs[1]? := atI_natL xs 1
theorem ixN_1 (n : Nat) : ixN n 1 = if 1 < n then some 1 else none := ixN_natL n 1
theorem atI_2 {α : Type} (xs : List α) : atI xs 2 = xs[2]? := atI_natL xs 2
theorem ixN_2 (n : Nat) : ixN n 2 = if 2 < n then some 2 else none := ixN_natL n 2
theorem atI_3 {α : Type} (xs : List α) : atI xs 3 = xs[3]? := atI_natL xs 3
theorem ixN_3 (n : Nat) : ixN n 3 = if 3 < n then some 3 else none := ixN_natL n 3
theorem atI_4 {α : Type} (xs : List α) : atI xs 4 = xs[4]? := atI_natL xs 4
theorem ixN_4 (n : Nat) : ixN n 4 = if 4 < n then some 4 else none := ixN_natL n 4
theorem atI_5 {α : Type} (xs : List α) : atI xs 5 = xs[5]? := atI_natL xs 5
theorem ixN_5 (n : Nat) : ixN n 5 = if 5 < n then some 5 else none := ixN_natL n 5
theorem atI_6 {α : Type} (xs : List α) : atI xs 6 = xs[6]? := atI_natL xs 6
theorem ixN_6 (n : Nat) : ixN n 6 = if 6 < n then some 6 else none := ixN_natL n 6
theorem atI_7 {α : Type} (xs : List α) : atI xs 7 = xs[7]? := atI_natL xs 7
theorem ixN_7 (n : Nat) : ixN n 7 = if 7 < n then some 7 else none := ixN_natL n 7
theorem atI_8 {α : Type} (xs : List α) : atI xs 8 = xs[8]? := atI_natL xs 8
theorem ixN_8 (n : Nat) : ixN n 8 = if 8 < n then some 8 else none := ixN_natL n 8
theorem atI_9 {α : Type} (xs : List α) : atI xs 9 = xs[9]? := atI_natL xs 9
theorem ixN_9 (n : Nat) : ixN n 9 = if 9 < n then some 9 else none := ixN_natL n 9
theorem atI_10 {α : Type} (xs : List α) : atI xs 10 = xs[10]? := atI_natL xs 10
theorem ixN_10 (n : Nat) : ixN n 10 = if 10 < n then some 10 else none := ixN_natL n 10
theorem atI_11 {α : Type} (xs : List α) : atI xs 11 = xs[11]? := atI_natL xs 11
theorem ixN_11 (n : Nat) : ixN n 11 = if 11 < n then some 11 else none := ixN_natL n 11
theorem atI_12 {α : Type} (xs : List α) : atI xs 12 = xs[12]? := atI_natL xs 12
theorem ixN_12 (n : Nat) : ixN n 12 = if 12 < n then some 12 else none := ixN_natL n 12

/-! ### readings step by step, from the root -/
theorem upd_id {H : Hp} {a : Addr} {o : HO} (h : H a = some o) : upd H a o = H := by
  funext b
  unfold upd
  split
  · next e => rw [e, h]
  · rfl
theorem exAt {H H' : Hp} (e : Evl.Ex H H') {a : Addr} {o : HO} (h : H a = some o) : H' a = some o := e a o h
theorem ne_fresh {H : Hp} {a b : Addr} {o : HO} (h' : H b = none) (h : H a = some o) : a ≠ b := ne_of_none h h'
inductive SetAt : L2.St → Nat → V → L2.St → Prop
  | zero {x : Option V} {σ : L2.St} {v : V} : SetAt (x :: σ) 0 v (some v :: σ)
  | succ {x : Option V} {σ σ' : L2.St} {i : Nat} {v : V} (h : SetAt σ i v σ') : SetAt (x :: σ) (i + 1) v (x :: σ')
theorem SetAt.eq {σ σ' : L2.St} {i : Nat} {v : V} (h : SetAt σ i v σ') : σ.set i (some v) = σ' := by
  induction h with
  | zero => rfl
  | succ _ ih => rw [List.set_cons_succ, ih]
inductive StartAt : List Str → List V → L2.St → Prop
  | nil : StartAt [] [] []
  | pad {n : Str} {N : List Str} {σ : L2.St} (h : StartAt N [] σ) : StartAt (n :: N) [] (none :: σ)
  | val {n : Str} {N : List Str} {v : V} {vs : List V} {σ : L2.St} (h : StartAt N vs σ) : StartAt (n :: N) (v :: vs) (some v :: σ)
theorem StartAt.eq {N : List Str} {vs : List V} {σ : L2.St} (h : StartAt N vs σ) : L2.start N vs = σ := by
  induction h with
  | nil => rfl
  | pad _ ih =>
    rw [← ih]
    unfold L2.start
    simp [List.replicate_succ]
  | val _ ih =>
    rw [← ih]
    unfold L2.start
    simp
theorem iBody {N : List Str} {vs : List V} {σ : L2.St} {t : TS} {D : Ends} {H : Hp} (h : StartAt N vs σ) (q : t D σ H) : t D (L2.start N vs) H := by
  rw [h.eq]
  exact q
section
variable {K : PySem.W.Frag} {σ σ' : L2.St} {H : Hp} {Q : VK} {ta tb te td : TE} {tt tu : TT} {n b c : St → Hp → Prop} {r : VK} {ts us : TS} {x y v : V} {i j : Int} {tA tR : TA} {QB : Bool → Hp → Prop} {QA : List V → Hp → Prop} {f : Int → Int → V} {R : It → Hp → Prop}
theorem iSeq (q : ts ⟨us ⟨n, r, b, c⟩, r, b, c⟩ σ H) : tSeq ts us ⟨n, r, b, c⟩ σ H := q
theorem iCut (Mid : L2.St → Hp → Prop) (q1 : ts ⟨Mid, r, b, c⟩ σ H) (q2 : ∀ σ' H', Mid σ' H' → us ⟨n, r, b, c⟩ σ' H') : Evl.tCut ts us ⟨n, r, b, c⟩ σ H := ⟨Mid, q1, q2⟩
theorem iNext (q : n σ H) : tNext ⟨n, r, b, c⟩ σ H := q
theorem iBreak (q : b σ H) : tBreak ⟨n, r, b, c⟩ σ H := q
theorem iCont (q : c σ H) : tCont ⟨n, r, b, c⟩ σ H := q
theorem iAsg {g : TG} (q : te σ H fun x H1 => g x σ H1 n) : tAsg te g ⟨n, r, b, c⟩ σ H := q
theorem iName {i : Nat} {QS : St → Hp → Prop} (h : SetAt σ i v σ') (q : QS σ' H) : gName i v σ H QS := by
  show QS (σ.set i (some v)) H
  rw [h.eq]
  exact q
theorem iDrop (q : te σ H fun _ H1 => n σ H1) : tDrop te ⟨n, r, b, c⟩ σ H := q
theorem iRet (q : te σ H r) : tRet te ⟨n, r, b, c⟩ σ H := q
theorem iRetN (q : r .non H) : tRetN ⟨n, r, b, c⟩ σ H := q
theorem iIfS (q : tt σ H fun k H1 => if k = true then ts ⟨n, r, b, c⟩ σ H1 else us ⟨n, r, b, c⟩ σ H1) : tIfS tt ts us ⟨n, r, b, c⟩ σ H := q
theorem iAug {i : Nat} {ti : TIp} (h : σ[i]? = some (some x)) (q : te σ H fun y H1 => ti x y H1 fun z H2 => ∃ σ', SetAt σ i z σ' ∧ n σ' H2) (m : ∀ y H1 (A B : VK), (∀ z H2, A z H2 → B z H2) → ti x y H1 A → ti x y H1 B) (mt : ∀ (A B : VK), (∀ z H2, A z H2 → B z H2) → te σ H A → te σ H B) : tAug i te ti ⟨n, r, b, c⟩ σ H :=
  ⟨x, h, mt _ _ (fun y H1 q1 => m y H1 _ _ (fun z H2 ⟨σ', e, q2⟩ => by
    show n (σ.set i (some z)) H2
    rw [e.eq]
    exact q2) q1) q⟩
/-- x += e, ints -/
theorem iAugI {i : Nat} {f : Int → Int → Int} {a : Int} (h : σ[i]? = some (some (.int a))) (q : te σ H fun y H1 => ∃ d, y = .int d ∧ n (σ.set i (some (.int (f a d)))) H1) (mt : ∀ (A B : VK), (∀ z H2, A z H2 → B z H2) → te σ H A → te σ H B) : tAug i te (ipI f) ⟨n, r, b, c⟩ σ H :=
  ⟨_, h, mt _ _ (fun y H1 ⟨d, e, q1⟩ => ⟨a, d, rfl, e, q1⟩) q⟩
def kAug (i : Nat) (f : Int → Int → Int) (a : Int) (σ : St) (n : St → Hp → Prop) : VK := fun y H1 => ∃ d, y = .int d ∧ n (σ.set i (some (.int (f a d)))) H1
theorem iAugK {i : Nat} {f : Int → Int → Int} {a : Int} (h : σ[i]? = some (some (.int a))) (q : te σ H fun y H1 => (ipI f) (.int a) y H1 fun z H2 => gName i z σ H2 n) : tAug i te (ipI f) ⟨n, r, b, c⟩ σ H := ⟨_, h, q⟩
theorem iIpI {f : Int → Int → Int} (q : Q (.int (f i j)) H) : ipI f (.int i) (.int j) H Q := ⟨i, j, rfl, rfl, q⟩
theorem iAugS {to ti te : TE} {tget : V → V → Hp → VK → Prop} {tip : TIp} {tset : TSet} (q : to σ H fun o H1 => ti σ H1 fun i H2 => tget o i H2 fun x H3 => te σ H3 fun y H4 => tip x y H4 fun z H5 => tset o i z H5 fun H6 => n σ H6) : tAugS to ti te tget tip tset ⟨n, r, b, c⟩ σ H := q
theorem iFor {wi : TI} {g : TG} (q : wi σ H fun J H1 => tForJ J g ts ⟨n, r, b, c⟩ σ H1) : tFor wi g ts ⟨n, r, b, c⟩ σ H := q
/-- targets -/
theorem iSub {to ti : TE} {t : TSet} {QS : St → Hp → Prop} (q : to σ H fun o H1 => ti σ H1 fun i H2 => t o i v H2 fun H3 => QS σ H3) : gSub to ti t v σ H QS := q
theorem iSetL {p : Addr} {xs : List V} {k : Nat} {QH : Hp → Prop} (h : H p = some (.lst xs)) (hi : ixN xs.length i = some k) (q : QH (upd H p (.lst (xs.set k v)))) : rSetL (.ref p) (.int i) v H QH := ⟨p, xs, i, k, rfl, rfl, h, hi, q⟩
/-- expressions -/
theorem iVar {i : Nat} (h : σ[i]? = some (some v)) (q : Q v H) : tVar i σ H Q := ⟨v, h, q⟩
theorem iC (q : Q v H) : tC v σ H Q := q
theorem iOp {rr : R2} (q : ta σ H fun x H1 => tb σ H1 fun y H2 => rr x y H2 Q) : tOp rr ta tb σ H Q := q
theorem iUn {rr : V → Hp → VK → Prop} (q : ta σ H fun x H1 => rr x H1 Q) : tUn rr ta σ H Q := q
theorem iI0 (q : Q (f i j) H) : rI0 f (.int i) (.int j) H Q := ⟨i, j, rfl, rfl, q⟩
theorem iI {C : Int → Int → Prop} (q : Q (f i j) H) (hc : C i j) : rI C f (.int i) (.int j) H Q := ⟨i, j, rfl, rfl, hc, q⟩
theorem iU {g : Int → V} (q : Q (g i) H) : rU g (.int i) H Q := ⟨i, rfl, q⟩
theorem dec_int (i j : Int) : decide (V.int i = V.int j) = decide (i = j) := by
  by_cases h : i = j
  · subst h; rw [decide_eq_true rfl, decide_eq_true rfl]
  · rw [decide_eq_false h, decide_eq_false (fun z => h (V.int.inj z))]
theorem dec_bl (i j : Bool) : decide (V.bl i = V.bl j) = decide (i = j) := by cases i <;> cases j <;> rfl
theorem dec_str (i j : Str) : decide (V.str i = V.str j) = decide (i = j) := by
  by_cases h : i = j
  · subst h; rw [decide_eq_true rfl, decide_eq_true rfl]
  · rw [decide_eq_false h, decide_eq_false (fun z => h (V.str.inj z))]
theorem iEqI (q : Q (.bl (decide (i = j))) H) : rEq (.int i) (.int j) H Q := ⟨rfl, by rw [dec_int]; exact q⟩
theorem iNeI (q : Q (.bl (!decide (i = j))) H) : rNe (.int i) (.int j) H Q := ⟨rfl, by rw [dec_int]; exact q⟩
theorem iEqB {k l : Bool} (q : Q (.bl (decide (k = l))) H) : rEq (.bl k) (.bl l) H Q := ⟨rfl, by rw [dec_bl]; exact q⟩
theorem iNeB {k l : Bool} (q : Q (.bl (!decide (k = l))) H) : rNe (.bl k) (.bl l) H Q := ⟨rfl, by rw [dec_bl]; exact q⟩
theorem iEqS {k l : Str} (q : Q (.bl (decide (k = l))) H) : rEq (.str k) (.str l) H Q := ⟨rfl, by rw [dec_str]; exact q⟩
theorem iNeS {k l : Str} (q : Q (.bl (!decide (k = l))) H) : rNe (.str k) (.str l) H Q := ⟨rfl, by rw [dec_str]; exact q⟩
theorem iIsN (q : Q (.bl (decide (x = .non))) H) : rIsN x .non H Q := ⟨rfl, q⟩
theorem iNotN (q : Q (.bl (!decide (x = .non))) H) : rNotN x .non H Q := ⟨rfl, q⟩
def kBl (QB : Bool → Hp → Prop) : VK := fun x H => ∃ k, x = .bl k ∧ QB k H
theorem iBl {k : Bool} (q : QB k H) : kBl QB (.bl k) H := ⟨k, rfl, q⟩
theorem iTest (q : te σ H (kBl QB)) : tTest te σ H QB := q
theorem iB (q : te σ H (kBl QB)) : tB te σ H QB := q
theorem iAnd (q : tt σ H fun k H1 => if k = true then tu σ H1 QB else QB false H1) : tAnd tt tu σ H QB := q
theorem iOr (q : tt σ H fun k H1 => if k = true then QB true H1 else tu σ H1 QB) : tOr tt tu σ H QB := q
theorem iNot (q : tt σ H fun k H1 => QB (!k) H1) : tNot tt σ H QB := q
theorem iAndV (q : ta σ H (kBl fun k H1 => if k = true then tb σ H1 Q else Q (.bl false) H1)) : tAndV ta tb σ H Q := q
theorem iOrV (q : ta σ H (kBl fun k H1 => if k = true then Q (.bl true) H1 else tb σ H1 Q)) : tOrV ta tb σ H Q := q
theorem iNotV (q : ta σ H (kBl fun k H1 => Q (.bl (!k)) H1)) : tNotV ta σ H Q := q
theorem iIf (q : tt σ H fun k H1 => if k = true then ta σ H1 Q else tb σ H1 Q) : tIf tt ta tb σ H Q := q
theorem iChain {rr rr' : R2} (q : ta σ H fun x H1 => tb σ H1 fun y H2 => rr x y H2 (kBl fun k H3 => if k = true then te σ H3 fun w' H4 => rr' y w' H4 Q else Q (.bl false) H3)) : tChain rr rr' ta tb te σ H Q :=
  q
theorem iCons (q : ta σ H fun x H1 => tR σ H1 fun xs H2 => QA (x :: xs) H2) : tCons ta tR σ H QA := q
theorem iNil (q : QA [] H) : tNil σ H QA := q
theorem iCB {rr : List V → Hp → VK → Prop} (q : tA σ H fun vs H1 => rr vs H1 Q) : tCB rr tA σ H Q := q
theorem iCal {sp : Sp} (q : tA σ H fun vs H1 => sp vs H1 Q E0) : tCal sp tA σ H Q := q
def kNewL (Q : VK) : List V → Hp → Prop := fun xs H1 => xs.length ≤ sizeLine ∧ ∀ p, H1 p = none → Q (.ref p) (upd H1 p (.lst xs))
def kNewT (Q : VK) : List V → Hp → Prop := fun xs H1 => xs.length ≤ sizeLine ∧ ∀ p, H1 p = none → Q (.ref p) (upd H1 p (.tup xs))
theorem iNewL {xs : List V} (h : xs.length ≤ 100000) (q : ∀ p, H p = none → Q (.ref p) (upd H p (.lst xs))) : kNewL Q xs H := ⟨Evl.sz_of h, q⟩
theorem iNewT {xs : List V} (h : xs.length ≤ 100000) (q : ∀ p, H p = none → Q (.ref p) (upd H p (.tup xs))) : kNewT Q xs H := ⟨Evl.sz_of h, q⟩
theorem iApp {p : Addr} {xs : List V} (h : H p = some (.lst xs)) (hz : xs.length < 100000) (q : Q .non (upd H p (.lst (xs ++ [v])))) : rAppend (.ref p) [v] H Q := ⟨p, xs, v, rfl, rfl, h, Evl.sz_lt hz, q⟩
theorem iLst (q : tA σ H (kNewL Q)) : tLst tA σ H Q := q
theorem iTup (q : tA σ H (kNewT Q)) : tTup tA σ H Q := q
theorem iIxL {p : Addr} {xs : List V} (h : H p = some (.lst xs)) (ha : atI xs i = some v) (q : Q v H) : kIxL (.ref p) (.int i) H Q := ⟨p, i, xs, v, rfl, rfl, h, ha, q⟩
theorem iIxT {p : Addr} {xs : List V} (h : H p = some (.tup xs)) (ha : atI xs i = some v) (q : Q v H) : kIxT (.ref p) (.int i) H Q := ⟨p, i, xs, v, rfl, rfl, h, ha, q⟩
theorem iLenL {p : Addr} {xs : List V} (h : H p = some (.lst xs)) (q : Q (.int xs.length) H) : kLenL [.ref p] H Q := ⟨p, xs, rfl, h, q⟩
theorem iLenT {p : Addr} {xs : List V} (h : H p = some (.tup xs)) (q : Q (.int xs.length) H) : kLenT [.ref p] H Q := ⟨p, xs, rfl, h, q⟩
theorem iIxS {p : Addr} {xs : List V} (h : H p = some (.lst xs) ∨ H p = some (.tup xs)) (ha : atI xs i = some v) (q : Q v H) : kIxS (.ref p) (.int i) H Q := ⟨p, i, xs, v, rfl, rfl, h, ha, q⟩
theorem iLenS {p : Addr} {xs : List V} (h : H p = some (.lst xs) ∨ H p = some (.tup xs)) (q : Q (.int xs.length) H) : kLenS [.ref p] H Q := ⟨p, xs, rfl, h, q⟩
theorem iInt (q : Q (.int i) H) : kInt [.int i] H Q := ⟨i, rfl, q⟩
theorem iIsi {cn tn : String} {k : Bool} (h : tyN H x = some tn) (e : kitB tn cn = some k) (q : Q (.bl k) H) : kIsi [x, .ty cn] H Q := ⟨x, cn, tn, k, rfl, h, e, q⟩
theorem iMt {rr : V → List V → Hp → VK → Prop} {i : Nat} {p : Addr} {xs : List V} (e : σ[i]? = some (some (V.ref p))) (h : H p = some (.lst xs)) (q : tA σ H fun ys H2 => rr (V.ref p) ys H2 Q) : kMt rr i tA σ H Q := ⟨p, xs, e, h, q⟩
theorem iAppend {p : Addr} {xs : List V} (h : H p = some (.lst xs)) (hz : xs.length < sizeLine) (q : Q .non (upd H p (.lst (xs ++ [v])))) : rAppend (.ref p) [v] H Q := ⟨p, xs, v, rfl, rfl, h, hz, q⟩
/-- loops' sources -/
def kRng (R : It → Hp → Prop) : List V → Hp → Prop := fun vs H1 => ∃ j : Int, vs = [.int j] ∧ -(2 ^ 62) ≤ j ∧ j < 2 ^ 62 ∧ R (Itr 0 j.toNat) H1
theorem iRng (q : tA σ H (kRng R)) : iRng1 tA σ H R := q
theorem iRngI (h1 : -(2 ^ 62) ≤ i) (h2 : i < 2 ^ 62) (q : R (Itr 0 i.toNat) H) : kRng R [.int i] H := ⟨i, rfl, h1, h2, q⟩
def kItL (K : PySem.W.Frag) (R : It → Hp → Prop) : VK := fun x H1 => ∃ a xs, x = .ref a ∧ H1 a = some (.lst xs) ∧ R (Itl K a) H1
theorem iIterL (q : ta σ H (kItL K R)) : kIterL K ta σ H R := q
theorem iItL {p : Addr} {xs : List V} (h : H p = some (.lst xs)) (q : R (Itl K p) H) : kItL K R (.ref p) H := ⟨p, xs, rfl, h, q⟩
theorem ifT {A B : Prop} {k : Bool} (h : k = true) (q : A) : if k = true then A else B := by rw [if_pos h]; exact q
theorem ifF {A B : Prop} {k : Bool} (h : k = false) (q : B) : if k = true then A else B := by rw [if_neg (by rw [h]; decide)]; exact q
theorem ifD {A B p : Prop} [Decidable p] (h1 : p → A) (h2 : ¬ p → B) : if decide p = true then A else B := by
  by_cases h : p
  · rw [if_pos (decide_eq_true h)]; exact h1 h
  · rw [if_neg (by rw [decide_eq_false h]; decide)]; exact h2 h
theorem ifND {A B p : Prop} [Decidable p] (h1 : ¬ p → A) (h2 : p → B) : if (!decide p) = true then A else B := by
  by_cases h : p
  · rw [decide_eq_true h]; exact h2 h
  · rw [decide_eq_false h]; exact h1 h
theorem iI0n {a d : Nat} {g : Nat → Nat → Nat} {f : Int → Int → V} (e : f (a : Int) (d : Int) = .int ((g a d : Nat) : Int)) (q : Q (.int ((g a d : Nat) : Int)) H) : rI0 f (.int (a : Int)) (.int (d : Int)) H Q := ⟨_, _, rfl, rfl, by rw [e]; exact q⟩
theorem ifNDr {α : Type} {A B : Prop} {a : α} {d : Decidable (a = a)} (q : B) : if (!decide (a = a)) = true then A else B := by rw [decide_eq_true rfl]; exact q
theorem ifDr {α : Type} {A B : Prop} {a : α} {d : Decidable (a = a)} (q : A) : if decide (a = a) = true then A else B := by rw [decide_eq_true rfl]; exact q
theorem ifNp {A B p : Prop} {d : Decidable p} (h : p) (q : B) : if (!decide p) = true then A else B := by rw [decide_eq_true h]; exact q
theorem ifNn {A B p : Prop} {d : Decidable p} (h : ¬ p) (q : A) : if (!decide p) = true then A else B := by rw [decide_eq_false h]; exact q
theorem iTruI {QB : Bool → Prop} (q : QB (i != 0)) : ∃ k, TruV K (.int i) H k ∧ QB k := ⟨_, rfl, q⟩
theorem vInt (e : j = i) (q : Q (.int i) H) : Q (.int j) H := by rw [e]; exact q
end
end R
set_option Elab.async false
set_option linter.all false
set_option maxRecDepth 100000
set_option maxHeartbeats 4000000
namespace R
open PySem PySem.Spec L2
/-! ### dict(enumerate(xs)) -/
/-- the pairs of dict(enumerate(xs)) -/
def enumFrom (n : Nat) : List V → List (Key × V)
  | [] => []
  | x :: xs => (.inl (n : Int), x) :: enumFrom (n + 1) xs
def enumVal (n : Nat) : List Value → List (Key × Value)
  | [] => []
  | x :: xs => (.inl (n : Int), x) :: enumVal (n + 1) xs
theorem enum_KV : ∀ {xs : List V} {us : List Value} (n : Nat), Vals xs us → KV (enumFrom n xs) (enumVal n us)
  | _, _, _, .nil => .nil
  | _, _, n, .cons r t => .cons ⟨rfl, r⟩ (enum_KV (n + 1) t)
theorem enumVal_get : ∀ (us : List Value) (n i : Nat) (u : Value), us[i]? = some u → (enumVal n us)[i]? = some (.inl ((n + i : Nat) : Int), u)
  | [], _, _, _, h => by simp at h
  | x :: us, n, 0, u, h => by
    simp at h
    subst h
    rfl
  | x :: us, n, i + 1, u, h => by
    have e := enumVal_get us (n + 1) i u (by simpa using h)
    rw [show n + 1 + i = n + (i + 1) by omega] at e
    simpa [enumVal] using e
theorem enumVal_len : ∀ (us : List Value) (n : Nat), (enumVal n us).length = us.length
  | [], _ => rfl
  | x :: us, n => by simp [enumVal, enumVal_len us (n + 1)]
theorem enumFrom_len : ∀ (us : List V) (n : Nat), (enumFrom n us).length = us.length
  | [], _ => rfl
  | x :: us, n => by simp [enumFrom, enumFrom_len us (n + 1)]
def kDE (ta : TA) : TE := fun σ H Q => ta σ H fun vs H1 => ∃ a xs, vs = [.ref a] ∧ H1 a = some (.lst xs) ∧ ∀ d, H1 d = none → Q (.ref d) (upd H1 d (.dK (mergeK [] (enumFrom 0 xs))))
section
variable {X : Cx}
theorem pe_dictEnum {e : Expr} {ta : TA} {p p2 pos pos2 : Pos} (hc : X.calm = true) (hg : Gl X "dict") (hm : X.mg "dict" = none) (hg2 : Gl X "enumerate") (hm2 : X.mg "enumerate" = none) (ha : PA X [e] ta) (hs : starEach [e] X.env = [(false, eval e X.env)] := by rfl)
    (hs2 : starEach [Expr.Call (.Name "enumerate" p2) [e] [] pos2] X.env = [(false, eval (.Call (.Name "enumerate" p2) [e] [] pos2) X.env)] := by rfl) :
    PE X (.Call (.Name "dict" p) [.Call (.Name "enumerate" p2) [e] [] pos2] [] pos) (kDE ta) := by
  refine ⟨fun pins s σ H Q I h => ?_⟩
  refine wpAny_Call_Name_kw (ld_blt I hg hm PyProof.Rows.boot_dict ?_ (by decide) (by decide))
  refine PyProof.Rows.callWith_type1 ?_ hs2 rfl
  rw [hs2]
  refine Calls.spliced_cons ?_
  show wpAny _ _ (eval (.Call (.Name "enumerate" p2) [e] [] pos2) X.env) _ _ _
  refine PyProof.Rows.Call_ (ld_blt I hg2 hm2 PyProof.Rows.boot_enumerate (PyProof.Rows.callWith_type1 (thn (ha.run pos2 pins s σ H _ I h) fun us s1 ⟨vs, H1, I1, r1, q1⟩ => ?_) hs rfl))
  obtain ⟨a, xs, rfl, hq, q⟩ := q1
  cases r1 with
  | cons r rr =>
    cases rr
    cases r
    obtain ⟨its, rv, pl, hz⟩ := I1.list (SqL.tr hq)
    obtain ⟨o, no, ho, oc, od, odat⟩ := pl
    have isl : s1.heap.IsList a its.toArray := ⟨o, ho, oc, no, odat⟩
    have la : a < s1.heap.objs.size := Heap.lt_size ho
    refine call_enumerate_list isl fun h' he hit hsz hk => ?_
    refine Calls.spliced_nil ?_
    have ln := rv.length
    refine call_dict_pairs (knd := mixKind X.prog X.w) (kvs := enumVal 0 its) (PairArg.enumerate (s1.heap.objs.size + 1) s1.heap.objs.size a (Nat.succ_ne_self _) (Nat.ne_of_lt (Nat.lt_succ_of_lt la)) (Nat.ne_of_lt la) its.toArray) (I1.ok.hd hc) ⟨⟨.none, he⟩, hit, isl.at fun b hb => hk _ b hb⟩ ⟨?_, ?_⟩ ?_ fun h'' tk hd' hk' => ?_
    · rw [enumVal_len, List.size_toArray]
    · intro i key v hi
      obtain ⟨⟨t, rfl⟩, hv⟩ := hi
      refine ⟨.inl (i : Int), ?_, keyIs_int _ t⟩
      have e := enumVal_get its 0 i v (by simpa using hv)
      rw [Nat.zero_add] at e
      exact e
    · rw [List.size_toArray, ← ln]
      exact hz
    · have hlt : s1.heap.objs.size ≤ h'.objs.size := by omega
      have big := I1.big
      have hm : (h'.objs.size == sysModules) = false := beq_eq_false_iff_ne.mpr (Nat.ne_of_gt (Nat.lt_of_lt_of_le big hlt))
      have hln : (mergeK [] (enumFrom 0 xs)).length ≤ sizeLine := by
        refine Nat.le_trans (length_mergeK _ []) ?_
        rw [List.length_nil, Nat.zero_add, enumFrom_len]
        exact hz
      have keep : ∀ b u, s1.heap.get? b = some u → h''.get? b = some u := fun b u hb => by
        have hb' := Heap.lt_size hb
        refine hk' b u ?_ (hk b u hb)
        simp only [List.mem_cons, List.not_mem_nil, or_false, not_or]
        exact ⟨Nat.ne_of_lt (Nat.lt_succ_of_lt hb'), Nat.ne_of_lt hb'⟩
      refine ⟨.ref h'.objs.size, upd H1 h'.objs.size (.dK (mergeK [] (enumFrom 0 xs))), ?_, rfl, q _ (I1.hok.fresh hlt)⟩
      exact I1.laid (t' := tk) keep hlt (show ObjOk X.prog X.w _ _ _ (.dK _) from ⟨hln, hm, merged [] (enumVal 0 its), KV.merge (enum_KV 0 rv) .nil, hd'⟩)
end
def kDEv (Q : VK) : List V → Hp → Prop := fun vs H1 => ∃ a xs, vs = [.ref a] ∧ H1 a = some (.lst xs) ∧ ∀ d, H1 d = none → Q (.ref d) (upd H1 d (.dK (mergeK [] (enumFrom 0 xs))))
theorem iDEa {ta : TA} {σ : L2.St} {H : Hp} {Q : VK} (q : ta σ H (kDEv Q)) : kDE ta σ H Q := q
theorem iDE {H : Hp} {Q : VK} {a : Addr} {xs : List V} (h : H a = some (.lst xs)) (q : ∀ d, H d = none → Q (.ref d) (upd H d (.dK (mergeK [] (enumFrom 0 xs))))) : kDEv Q [V.ref a] H := ⟨a, xs, rfl, h, q⟩
/-! ### comprehensions -/
def tLcJ (J : It) (g : TG) (tt : TT) (te : TE) (vs : List Nat) (σ : L2.St) (H1 : Hp) (Q : VK) : Prop := ∀ D, H1 D = none → ∃ W : Nat → Nat → Hp → Prop, (∃ m, W 0 m (upd H1 D (.lst []))) ∧ ∀ i m H, W i m H →
  (J.stop i H ∧ Q (.ref D) H) ∨ (J.go i H ∧ ∃ Nx : Hp → Prop, (∀ H', Nx H' → ∃ m', m' < m ∧ W (i + 1) m' H') ∧ ∀ x H', J.yld i H x H' → g x (wipe σ vs) H' fun σ2 H2 => wipe σ2 vs = wipe σ vs ∧ tt σ2 H2 fun b H3 =>
    if b = true then te σ2 H3 fun y H4 => ∃ acc, H4 D = some (.lst acc) ∧ acc.length < sizeLine ∧ Nx (upd H4 D (.lst (acc ++ [y]))) else Nx H3)
inductive NoneAt : L2.St → Nat → L2.St → Prop
  | zero {x : Option V} {σ : L2.St} : NoneAt (x :: σ) 0 (none :: σ)
  | succ {x : Option V} {σ σ' : L2.St} {i : Nat} (h : NoneAt σ i σ') : NoneAt (x :: σ) (i + 1) (x :: σ')
theorem NoneAt.eq {σ σ' : L2.St} {i : Nat} (h : NoneAt σ i σ') : σ.set i none = σ' := by
  induction h with
  | zero => rfl
  | succ _ ih => rw [List.set_cons_succ, ih]
inductive Wip : L2.St → List Nat → L2.St → Prop
  | nil {σ : L2.St} : Wip σ [] σ
  | cons {σ σ1 σ2 : L2.St} {v : Nat} {vs : List Nat} (h : Wip σ vs σ1) (k : NoneAt σ1 v σ2) : Wip σ (v :: vs) σ2
theorem Wip.eq {σ σ' : L2.St} {vs : List Nat} (h : Wip σ vs σ') : wipe σ vs = σ' := by
  induction h with
  | nil => rfl
  | cons _ k ih =>
    unfold wipe
    rw [ih, k.eq]
/-- what a turn is to reach: the new list at D with at most so many items, and the word -/
def LcW (D : Addr) (i : Nat) (Pv : Nat → List V → Hp → Prop) (H : Hp) : Prop := ∃ acc, H D = some (.lst acc) ∧ acc.length ≤ i ∧ Pv i acc H
def kLcE (D : Addr) (i : Nat) (Pv : Nat → List V → Hp → Prop) : VK := fun y H4 => ∃ acc, H4 D = some (.lst acc) ∧ acc.length < sizeLine ∧ LcW D (i + 1) Pv (upd H4 D (.lst (acc ++ [y])))
def kLc (vs : List Nat) (σ' : L2.St) (tt : TT) (te : TE) (D : Addr) (i : Nat) (Pv : Nat → List V → Hp → Prop) : L2.St → Hp → Prop := fun σ2 H2 => wipe σ2 vs = σ' ∧ tt σ2 H2 fun b H3 => if b = true then te σ2 H3 (kLcE D i Pv) else LcW D (i + 1) Pv H3
theorem iLcB {vs : List Nat} {σ' σ2 : L2.St} {tt : TT} {te : TE} {D : Addr} {i : Nat} {Pv : Nat → List V → Hp → Prop} {H2 : Hp} (h : wipe σ2 vs = σ') (q : tt σ2 H2 fun b H3 => if b = true then te σ2 H3 (kLcE D i Pv) else LcW D (i + 1) Pv H3) : kLc vs σ' tt te D i Pv σ2 H2 := ⟨h, q⟩
theorem iLcE {D : Addr} {i : Nat} {Pv : Nat → List V → Hp → Prop} {H : Hp} {y : V} {acc : List V} (h : H D = some (.lst acc)) (hl : acc.length ≤ i) (hi : i < 100000) (q : Pv (i + 1) (acc ++ [y]) (upd H D (.lst (acc ++ [y])))) : kLcE D i Pv y H :=
  ⟨acc, h, Evl.sz_lt (by omega), acc ++ [y], upd_same, by rw [List.length_append, List.length_singleton]; omega, q⟩
theorem iLcN {D : Addr} {i : Nat} {Pv : Nat → List V → Hp → Prop} {H : Hp} {acc : List V} (h : H D = some (.lst acc)) (hl : acc.length ≤ i) (q : Pv (i + 1) acc H) : LcW D (i + 1) Pv H := ⟨acc, h, by omega, q⟩
theorem iYes {σ : L2.St} {H : Hp} {QB : Bool → Hp → Prop} (q : QB true H) : tYes σ H QB := q
theorem iLc {wi : TI} {g : TG} {tt : TT} {te : TE} {vs : List Nat} {σ : L2.St} {H : Hp} {Q : VK} (q : wi σ H fun J H1 => tLcJ J g tt te vs σ H1 Q) : tLc wi g tt te vs σ H Q := q
/-- a comprehension over what is walked in n turns -/
theorem lcJ {J : It} {n : Nat} {G : Hp → Prop} {Y : Nat → Hp → V → Hp → Prop} (w : Walk J n G Y) {g : TG} {tt : TT} {te : TE} {vs : List Nat} {σ σ' : L2.St} {H1 : Hp} {Q : VK} (hw : Wip σ vs σ') (Pv : Addr → Nat → List V → Hp → Prop)
    (h0 : ∀ D, H1 D = none → Pv D 0 [] (upd H1 D (.lst []))) (hG : ∀ D i acc H, H1 D = none → H D = some (.lst acc) → Pv D i acc H → G H)
    (hs : ∀ D i acc x H H', H1 D = none → i < n → H D = some (.lst acc) → acc.length ≤ i → Pv D i acc H → Y i H x H' → g x σ' H' (kLc vs σ' tt te D i (Pv D)))
    (hd : ∀ D acc H, H1 D = none → H D = some (.lst acc) → acc.length ≤ n → Pv D n acc H → Q (.ref D) H) : tLcJ J g tt te vs σ H1 Q := by
  intro D hD
  have hb := lc_it w (g := g) (tt := tt) (te := te) (vs := vs) (σ := σ) (H1 := H1) (D := D) (Qd := Q (.ref D)) (fun i H => LcW D i (Pv D) H) ⟨[], upd_same, Nat.le_refl _, h0 D hD⟩ (fun i H _ ⟨acc, e, _, p⟩ => hG D i acc H hD e p)
    (fun i x H H' hi ⟨acc, e, l, p⟩ y => by
      rw [hw.eq]
      exact hs D i acc x H H' hD hi e l p y) (fun H ⟨acc, e, l, p⟩ => hd D acc H hD e l p)
  exact hb
section
variable {K : PySem.W.Frag} {g : TG} {tt : TT} {te : TE} {vs : List Nat} {σ σ' : L2.St} {H1 : Hp} {Q : VK}
theorem lc_r {lo : Int} {n : Nat} (hw : Wip σ vs σ') (Pv : Addr → Nat → List V → Hp → Prop) (h0 : ∀ D, H1 D = none → Pv D 0 [] (upd H1 D (.lst [])))
    (hs : ∀ D i acc H, H1 D = none → i < n → H D = some (.lst acc) → acc.length ≤ i → Pv D i acc H → g (.int (lo + (i : Int))) σ' H (kLc vs σ' tt te D i (Pv D)))
    (hd : ∀ D acc H, H1 D = none → H D = some (.lst acc) → acc.length ≤ n → Pv D n acc H → Q (.ref D) H) : tLcJ (Itr lo n) g tt te vs σ H1 Q :=
  lcJ walk_range hw Pv h0 (fun _ _ _ _ _ _ _ => trivial) (fun D i acc x H H' a b c d e ⟨y1, y2⟩ => by rw [y1, y2]; exact hs D i acc H a b c d e) hd
theorem lc_r0 {n : Nat} (hw : Wip σ vs σ') (Pv : Addr → Nat → List V → Hp → Prop) (h0 : ∀ D, H1 D = none → Pv D 0 [] (upd H1 D (.lst [])))
    (hs : ∀ D i acc H, H1 D = none → i < n → H D = some (.lst acc) → acc.length ≤ i → Pv D i acc H → g (.int (i : Int)) σ' H (kLc vs σ' tt te D i (Pv D)))
    (hd : ∀ D acc H, H1 D = none → H D = some (.lst acc) → acc.length ≤ n → Pv D n acc H → Q (.ref D) H) : tLcJ (Itr 0 n) g tt te vs σ H1 Q :=
  lc_r hw Pv h0 (fun D i acc H a b c d e => by rw [Int.zero_add]; exact hs D i acc H a b c d e) hd
theorem lc_l {a : Addr} (xs : List V) (hw : Wip σ vs σ') (Pv : Addr → Nat → List V → Hp → Prop) (h0 : ∀ D, H1 D = none → Pv D 0 [] (upd H1 D (.lst []))) (hl : ∀ D i acc H, H1 D = none → H D = some (.lst acc) → Pv D i acc H → H a = some (.lst xs))
    (hs : ∀ D i acc x H, H1 D = none → xs[i]? = some x → H D = some (.lst acc) → acc.length ≤ i → Pv D i acc H → g x σ' H (kLc vs σ' tt te D i (Pv D)))
    (hd : ∀ D acc H, H1 D = none → H D = some (.lst acc) → acc.length ≤ xs.length → Pv D xs.length acc H → Q (.ref D) H) : tLcJ (Itl K a) g tt te vs σ H1 Q :=
  lcJ walk_list hw Pv h0 (fun D i acc H h e p => SqL.tr (hl D i acc H h e p)) (fun D i acc x H H' a b c d e ⟨y1, y2⟩ => by rw [y1]; exact hs D i acc x H a y2 c d e) hd
theorem lc_z {a b : Addr} (xs ys : List V) (he : xs.length = ys.length) (hw : Wip σ vs σ') (Pv : Addr → Nat → List V → Hp → Prop) (h0 : ∀ D, H1 D = none → Pv D 0 [] (upd H1 D (.lst [])))
    (hl : ∀ D i acc H, H1 D = none → H D = some (.lst acc) → Pv D i acc H → H a = some (.lst xs) ∧ H b = some (.lst ys))
    (hs : ∀ D i acc x y T H, H1 D = none → xs[i]? = some x → ys[i]? = some y → H D = some (.lst acc) → acc.length ≤ i → Pv D i acc H → H T = none → g (.ref T) σ' (upd H T (.tup [x, y])) (kLc vs σ' tt te D i (Pv D)))
    (hd : ∀ D acc H, H1 D = none → H D = some (.lst acc) → acc.length ≤ xs.length → Pv D xs.length acc H → Q (.ref D) H) : tLcJ (Itz K a b) g tt te vs σ H1 Q :=
  lcJ (walk_zip (xs := xs) (ys := ys) (n := xs.length) (by omega)) hw Pv h0 (fun D i acc H h e p => ⟨SqL.tr (hl D i acc H h e p).1, SqL.tr (hl D i acc H h e p).2⟩)
    (fun D i acc x H H' a b c d e ⟨T, u, v, y1, y2, y3, y4, y5⟩ => by rw [y1, y3]; exact hs D i acc u v T H a y4 y5 c d e y2) hd
end
/-! ### x in xs, tracked -/
theorem OpR.imp {X : Cx} {f : Value → Value → Sem Value} {r r' : R2} (h : OpR X f r) (i : ∀ x y H Q, r' x y H Q → r x y H Q) : OpR X f r' := fun pins s σ H x y v u Q I rx ry q => h pins s σ H x y v u Q I rx ry (i x y H Q q)
def kIn (neg : Bool) : R2 := fun x y H Q => ∃ p xs, y = .ref p ∧ (H p = some (.lst xs) ∨ H p = some (.tup xs)) ∧ flatV x = true ∧ xs.all flatV = true ∧ Q (.bl (if neg then !inV x xs else inV x xs)) H
theorem op_inS {X : Cx} : OpR X (compareOp .In) (kIn false) := OpR.imp op_in_seq fun _ _ _ _ ⟨p, xs, e, h, f, g, q⟩ => ⟨p, xs, e, h.elim (fun h => .inl (SqL.tr h)) (fun h => .inr (SqT.tr h)), f, g, q⟩
theorem op_ninS {X : Cx} : OpR X (compareOp .NotIn) (kIn true) := OpR.imp op_notIn_seq fun _ _ _ _ ⟨p, xs, e, h, f, g, q⟩ => ⟨p, xs, e, h.elim (fun h => .inl (SqL.tr h)) (fun h => .inr (SqT.tr h)), f, g, q⟩
/-! ### dicts, lists made anew, tuples taken apart -/
section
variable {K : PySem.W.Frag} {σ σ' : L2.St} {H : Hp} {Q : VK} {ta tb td ty tv : TE} {n b c : L2.St → Hp → Prop} {r : VK} {x y v : V} {i j : Int} {tA : TA} {R : It → Hp → Prop} {QB : Bool → Hp → Prop}
def kDG (Q : VK) (x y : V) (H : Hp) : Prop := ∃ a v, x = .ref a ∧ DGet H a y (some v) ∧ Q v H
theorem iDGet (q : td σ H fun x H1 => ty σ H1 fun y H2 => kDG Q x y H2) : tDGet td ty σ H Q := q
theorem iDGi {a : Addr} {kvs : List (Key × V)} (h : H a = some (.dK kvs)) (e : valV kvs (.inl i : Key) = some v) (q : Q v H) : kDG Q (.ref a) (.int i) H := ⟨a, v, rfl, e ▸ DGet.k (k := Sum.inl i) h, q⟩
theorem iDGs {a : Addr} {kvs : List (Key × V)} {z : Str} (h : H a = some (.dK kvs)) (e : valV kvs (.inr z : Key) = some v) (q : Q v H) : kDG Q (.ref a) (.str z) H := ⟨a, v, rfl, e ▸ DGet.k (k := Sum.inr z) h, q⟩
def kDI (Q : VK) (y x : V) (H : Hp) : Prop := ∃ a o, x = .ref a ∧ DGet H a y o ∧ Q (.bl o.isSome) H
theorem iDIn (q : ty σ H fun y H1 => td σ H1 fun x H2 => kDI Q y x H2) : tDIn ty td σ H Q := q
theorem iDIi {a : Addr} {kvs : List (Key × V)} (h : H a = some (.dK kvs)) (q : Q (.bl (valV kvs (.inl i : Key)).isSome) H) : kDI Q (.int i) (.ref a) H := ⟨a, _, rfl, DGet.k (k := Sum.inl i) h, q⟩
def kDN (Q : VK) (y x : V) (H : Hp) : Prop := ∃ a o, x = .ref a ∧ DGet H a y o ∧ Q (.bl (!o.isSome)) H
theorem iDNotIn (q : ty σ H fun y H1 => td σ H1 fun x H2 => kDN Q y x H2) : tDNotIn ty td σ H Q := q
theorem iDNi {a : Addr} {kvs : List (Key × V)} (h : H a = some (.dK kvs)) (q : Q (.bl (!(valV kvs (.inl i : Key)).isSome)) H) : kDN Q (.int i) (.ref a) H := ⟨a, _, rfl, DGet.k (k := Sum.inl i) h, q⟩
def kDP (n : L2.St → Hp → Prop) (σ : L2.St) (v x y : V) (H : Hp) : Prop := ∃ a H4, x = .ref a ∧ DPut H a y v H4 ∧ n σ H4
theorem iDPut (q : tv σ H fun v H1 => td σ H1 fun x H2 => ty σ H2 fun y H3 => kDP n σ v x y H3) : sDPut td ty tv ⟨n, r, b, c⟩ σ H := q
theorem iDPi {a : Addr} {kvs : List (Key × V)} (h : H a = some (.dK kvs)) (hl : kvs.length < 100000) (q : n σ (upd H a (.dK (putK kvs (.inl i) v)))) : kDP n σ v (.ref a) (.int i) H := ⟨a, _, rfl, DPut.k (k := Sum.inl i) h (Evl.sz_lt hl), q⟩
theorem iDNew {Q : VK} (q : ∀ d, H d = none → Q (.ref d) (upd H d (.dK []))) : tDNewK σ H Q := q
theorem iListD {a : Addr} {kvs : List (Key × V)} (h : H a = some (.dK kvs)) (q : ∀ p, H p = none → Q (.ref p) (upd H p (.lst (kvs.map fun kv => kV kv.1)))) : rListD [.ref a] H Q := ⟨a, kvs, rfl, h, q⟩
theorem iListL {p : Addr} {xs : List V} (h : H p = some (.lst xs)) (q : ∀ l, H l = none → Q (.ref l) (upd H l (.lst xs))) : kListL [.ref p] H Q := ⟨p, xs, rfl, h, q⟩
theorem iTupL {p : Addr} {xs : List V} (h : H p = some (.lst xs)) (q : ∀ l, H l = none → Q (.ref l) (upd H l (.tup xs))) : kTupL [.ref p] H Q := ⟨p, xs, rfl, h, q⟩
theorem iSorted {a : Addr} {ns : List Int} (h : H a = some (.lst (ns.map V.int))) (hl : ns.length < 64) (q : ∀ (ns' : List Int) (p : Addr), ns'.Perm ns → ns'.Pairwise (· ≤ ·) → H p = none → Q (.ref p) (upd H p (.lst (ns'.map V.int)))) : rSorted K [.ref a] H Q := ⟨a, ns, rfl, SqL.tr h, hl, q⟩
theorem iCat {l m : Addr} {xs ys : List V} (h : H l = some (.lst xs)) (h2 : H m = some (.lst ys)) (hz : xs.length + ys.length ≤ 100000) (q : ∀ p, H p = none → Q (.ref p) (upd H p (.lst (xs ++ ys)))) : rCat (.ref l) (.ref m) H Q := ⟨l, m, xs, ys, rfl, rfl, h, h2, Evl.sz_of hz, q⟩
theorem iRngB (h1 : -(2 ^ 62) ≤ i) (h2 : i < 2 ^ 62) (h3 : -(2 ^ 62) ≤ j) (h4 : j < 2 ^ 62) (q : R (Itr i (j - i).toNat) H) : ∃ i' j' : Int, [V.int i, V.int j] = [V.int i', V.int j'] ∧ (-(2 ^ 62) ≤ i' ∧ i' < 2 ^ 62 ∧ -(2 ^ 62) ≤ j' ∧ j' < 2 ^ 62) ∧ R (Itr i' (j' - i').toNat) H := ⟨i, j, rfl, ⟨h1, h2, h3, h4⟩, q⟩
def kRng2 (R : It → Hp → Prop) : List V → Hp → Prop := fun vs H1 => ∃ i j : Int, vs = [.int i, .int j] ∧ (-(2 ^ 62) ≤ i ∧ i < 2 ^ 62 ∧ -(2 ^ 62) ≤ j ∧ j < 2 ^ 62) ∧ R (Itr i (j - i).toNat) H1
theorem iRng2 (q : tA σ H (kRng2 R)) : iRng2 tA σ H R := q
theorem iRng2I (h1 : -(2 ^ 62) ≤ i) (h2 : i < 2 ^ 62) (h3 : -(2 ^ 62) ≤ j) (h4 : j < 2 ^ 62) (q : R (Itr i (j - i).toNat) H) : kRng2 R [.int i, .int j] H := ⟨i, j, rfl, ⟨h1, h2, h3, h4⟩, q⟩
/-- zip of two tracked lists -/
def kZ (K : PySem.W.Frag) (R : It → Hp → Prop) : List V → Hp → Prop := fun vs H1 => ∃ a b xs ys, vs = [.ref a, .ref b] ∧ SqL K H1 a xs ∧ SqL K H1 b ys ∧ R (Itz K a b) H1
theorem iZipK (q : tA σ H (kZ K R)) : iZip K tA σ H R := q
theorem iZL {p m : Addr} {xs ys : List V} (h : H p = some (.lst xs)) (h2 : H m = some (.lst ys)) (q : R (Itz K p m) H) : kZ K R [.ref p, .ref m] H := ⟨p, m, xs, ys, rfl, SqL.tr h, SqL.tr h2, q⟩
/-- targets of several names -/
theorem iGTup {k : Nat} {t : TGs} {a : Addr} {xs : List V} {QS : L2.St → Hp → Prop} (h : H a = some (.tup xs)) (hl : xs.length = k) (q : t xs σ H QS) : gTup K k t (.ref a) σ H QS := ⟨a, xs, rfl, SqT.tr h, hl, q⟩
theorem iGCons {t : TG} {u : TGs} {vs : List V} {QS : L2.St → Hp → Prop} (q : t v σ H fun σ' H' => u vs σ' H' QS) : gCons t u (v :: vs) σ H QS := ⟨v, vs, rfl, q⟩
theorem iGNil {QS : L2.St → Hp → Prop} (q : QS σ H) : gNil [] σ H QS := ⟨rfl, q⟩
/-- [x, ..] * n -/
theorem iRep {l : Addr} {xs : List V} (h : H l = some (.lst xs)) (h0 : 0 ≤ i) (h1 : i < 100000) (hz : xs.length * i.toNat ≤ 100000) (q : ∀ p, H p = none → Q (.ref p) (upd H p (.lst (List.replicate i.toNat xs).flatten))) : rRep (.ref l) (.int i) H Q :=
  ⟨l, i, xs, rfl, rfl, h, by omega, by omega, Evl.sz_of hz, q⟩
end
end R
set_option Elab.async false
set_option linter.all false
set_option maxRecDepth 100000
set_option maxHeartbeats 4000000
namespace R
open PySem PySem.Spec L2
open Evl (Ex)
/-! ### heaps that grow -/
theorem Ex.rfl' (H : Hp) : Ex H H := fun _ _ h => h
/-- the heap without one address -/
def mk (D : Addr) (H : Hp) : Hp := fun p => if p = D then none else H p
theorem mk_at {D p : Addr} {H : Hp} (h : p ≠ D) : mk D H p = H p := if_neg h
theorem mk_ex (D : Addr) (H : Hp) : Ex (mk D H) H := fun p o h => by
  by_cases e : p = D
  · unfold mk at h; rw [if_pos e] at h; cases h
  · rw [mk_at e] at h; exact h
theorem mk_mono {D : Addr} {H H' : Hp} (e : Ex H H') : Ex (mk D H) (mk D H') := fun p o h => by
  by_cases q : p = D
  · unfold mk at h; rw [if_pos q] at h; cases h
  · rw [mk_at q] at h ⊢; exact e p o h
theorem mk_upd {D : Addr} {H : Hp} {o : HO} : mk D (upd H D o) = mk D H := by
  funext p
  by_cases q : p = D
  · unfold mk; rw [if_pos q, if_pos q]
  · rw [mk_at q, mk_at q, upd_ne q]
theorem ex_mk {D : Addr} {H H' : Hp} (h : H D = none) (e : Ex H H') : Ex H (mk D H') := fun p o q => by
  rw [mk_at (ne_of_none q h)]
  exact e p o q
theorem ex_upd {D : Addr} {H H' : Hp} {o : HO} (h : H D = none) (e : Ex H H') : Ex H (upd H' D o) := fun p u q => by
  rw [upd_ne (ne_of_none q h)]
  exact e p u q
theorem Ex.new {H : Hp} {p : Addr} {o : HO} (h : H p = none) : Ex H (upd H p o) := ex_upd h (Ex.rfl' _)
/-- all but a stay -/
def ExB (a : Addr) (H H' : Hp) : Prop := ∀ p o, p ≠ a → H p = some o → H' p = some o
theorem ExB.of {a : Addr} {H H' : Hp} (e : Ex H H') : ExB a H H' := fun p o _ h => e p o h
theorem ExB.trans {a : Addr} {H H1 H2 : Hp} (x : ExB a H H1) (y : ExB a H1 H2) : ExB a H H2 := fun p o n h => y p o n (x p o n h)
/-- what is told of a new list -/
def NewL (H : Hp) (Q : VK) (xs : List V) : Prop := ∀ p H', H p = none → Ex H H' → H' p = some (.lst xs) → Q (.ref p) H'
/-! ### comprehensions whose items are reckoned, the heap growing -/
def PvF (H1 : Hp) (f : Nat → V) (D : Addr) (i : Nat) (acc : List V) (H : Hp) : Prop := Ex H1 H ∧ acc = (List.range i).map f
theorem iLcF {H1 H : Hp} {f : Nat → V} {D : Addr} {i : Nat} {y : V} (hD : H1 D = none) (hi : i < 100000) (e : Ex H1 H) (h : H D = some (.lst ((List.range i).map f))) (q : y = f i) : kLcE D i (PvF H1 f D) y H :=
  iLcE h (by rw [List.length_map, List.length_range]; exact Nat.le_refl _) hi ⟨ex_upd hD e, by rw [List.range_succ, List.map_append, q]; rfl⟩
section
variable {K : PySem.W.Frag} {g : TG} {tt : TT} {te : TE} {vs : List Nat} {σ σ' : L2.St} {H1 : Hp} {Q : VK}
theorem lcF_l {a : Addr} (xs : List V) (f : Nat → V) (hw : Wip σ vs σ') (h : H1 a = some (.lst xs)) (hs : ∀ D i x H, H1 D = none → xs[i]? = some x → H D = some (.lst ((List.range i).map f)) → Ex H1 H → g x σ' H (kLc vs σ' tt te D i (PvF H1 f D)))
    (hd : ∀ D H, H1 D = none → Ex H1 H → H D = some (.lst ((List.range xs.length).map f)) → Q (.ref D) H) : tLcJ (Itl K a) g tt te vs σ H1 Q :=
  lc_l xs hw (PvF H1 f) (fun D hD => ⟨ex_upd hD (Ex.rfl' _), rfl⟩) (fun D i acc H hD _ p => p.1 _ _ h) (fun D i acc x H hD hx e l p => by
    obtain ⟨p1, rfl⟩ := p
    exact hs D i x H hD hx e p1) (fun D acc H hD e l p => by
    obtain ⟨p1, rfl⟩ := p
    exact hd D H hD p1 e)
theorem lcF_r0 {n : Nat} (f : Nat → V) (hw : Wip σ vs σ') (hs : ∀ D i H, H1 D = none → i < n → H D = some (.lst ((List.range i).map f)) → Ex H1 H → g (.int (i : Int)) σ' H (kLc vs σ' tt te D i (PvF H1 f D)))
    (hd : ∀ D H, H1 D = none → Ex H1 H → H D = some (.lst ((List.range n).map f)) → Q (.ref D) H) : tLcJ (Itr 0 n) g tt te vs σ H1 Q :=
  lc_r0 hw (PvF H1 f) (fun D hD => ⟨ex_upd hD (Ex.rfl' _), rfl⟩) (fun D i acc H hD hx e l p => by
    obtain ⟨p1, rfl⟩ := p
    exact hs D i H hD hx e p1) (fun D acc H hD e l p => by
    obtain ⟨p1, rfl⟩ := p
    exact hd D H hD p1 e)
theorem lcF_z {a b : Addr} (xs ys : List V) (f : Nat → V) (he : xs.length = ys.length) (hw : Wip σ vs σ') (h : H1 a = some (.lst xs)) (h2 : H1 b = some (.lst ys))
    (hs : ∀ D i x y T H, H1 D = none → xs[i]? = some x → ys[i]? = some y → H D = some (.lst ((List.range i).map f)) → Ex H1 H → H T = none → g (.ref T) σ' (upd H T (.tup [x, y])) (kLc vs σ' tt te D i (PvF H1 f D)))
    (hd : ∀ D H, H1 D = none → Ex H1 H → H D = some (.lst ((List.range xs.length).map f)) → Q (.ref D) H) : tLcJ (Itz K a b) g tt te vs σ H1 Q :=
  lc_z xs ys he hw (PvF H1 f) (fun D hD => ⟨ex_upd hD (Ex.rfl' _), rfl⟩) (fun D i acc H hD _ p => ⟨p.1 _ _ h, p.1 _ _ h2⟩) (fun D i acc x y T H hD hx hy e l p hT => by
    obtain ⟨p1, rfl⟩ := p
    exact hs D i x y T H hD hx hy e p1 hT) (fun D acc H hD e l p => by
    obtain ⟨p1, rfl⟩ := p
    exact hd D H hD p1 e)
end
/-- items that are told by a word R of the list so far, which growing keeps -/
def PvR (H1 : Hp) (R : Nat → List V → Hp → Prop) (D : Addr) (i : Nat) (acc : List V) (H : Hp) : Prop := Ex H1 H ∧ R i acc (mk D H)
theorem iLcR {H1 H : Hp} {R : Nat → List V → Hp → Prop} {D : Addr} {i : Nat} {y : V} {acc : List V} (hD : H1 D = none) (hi : i < 100000) (hl : acc.length ≤ i) (e : Ex H1 H) (h : H D = some (.lst acc)) (q : R (i + 1) (acc ++ [y]) (mk D H)) : kLcE D i (PvR H1 R D) y H :=
  iLcE h hl hi ⟨ex_upd hD e, by rw [mk_upd]; exact q⟩
section
variable {K : PySem.W.Frag} {g : TG} {tt : TT} {te : TE} {vs : List Nat} {σ σ' : L2.St} {H1 : Hp} {Q : VK}
theorem lcR_r {lo : Int} {n : Nat} (R : Nat → List V → Hp → Prop) (hw : Wip σ vs σ') (m : ∀ i acc H H', Ex H H' → R i acc H → R i acc H') (h0 : R 0 [] H1)
    (hs : ∀ D i acc H, H1 D = none → i < n → H D = some (.lst acc) → acc.length ≤ i → Ex H1 H → R i acc (mk D H) → g (.int (lo + (i : Int))) σ' H (kLc vs σ' tt te D i (PvR H1 R D)))
    (hd : ∀ D acc H, H1 D = none → Ex H1 H → H D = some (.lst acc) → R n acc H → Q (.ref D) H) : tLcJ (Itr lo n) g tt te vs σ H1 Q :=
  lc_r hw (PvR H1 R) (fun D hD => ⟨ex_upd hD (Ex.rfl' _), by rw [mk_upd]; exact m _ _ _ _ (ex_mk hD (Ex.rfl' _)) h0⟩) (fun D i acc H hD hx e l p => hs D i acc H hD hx e l p.1 p.2) (fun D acc H hD e l p => hd D acc H hD p.1 e (m _ _ _ _ (mk_ex D H) p.2))
theorem lcR_r0 {n : Nat} (R : Nat → List V → Hp → Prop) (hw : Wip σ vs σ') (m : ∀ i acc H H', Ex H H' → R i acc H → R i acc H') (h0 : R 0 [] H1)
    (hs : ∀ D i acc H, H1 D = none → i < n → H D = some (.lst acc) → acc.length ≤ i → Ex H1 H → R i acc (mk D H) → g (.int (i : Int)) σ' H (kLc vs σ' tt te D i (PvR H1 R D)))
    (hd : ∀ D acc H, H1 D = none → Ex H1 H → H D = some (.lst acc) → R n acc H → Q (.ref D) H) : tLcJ (Itr 0 n) g tt te vs σ H1 Q :=
  lcR_r R hw m h0 (fun D i acc H a b c d e f => by rw [Int.zero_add]; exact hs D i acc H a b c d e f) hd
theorem lcR_l {a : Addr} (xs : List V) (R : Nat → List V → Hp → Prop) (hw : Wip σ vs σ') (h : H1 a = some (.lst xs)) (m : ∀ i acc H H', Ex H H' → R i acc H → R i acc H') (h0 : R 0 [] H1)
    (hs : ∀ D i acc x H, H1 D = none → xs[i]? = some x → H D = some (.lst acc) → acc.length ≤ i → Ex H1 H → R i acc (mk D H) → g x σ' H (kLc vs σ' tt te D i (PvR H1 R D)))
    (hd : ∀ D acc H, H1 D = none → Ex H1 H → H D = some (.lst acc) → R xs.length acc H → Q (.ref D) H) : tLcJ (Itl K a) g tt te vs σ H1 Q :=
  lc_l xs hw (PvR H1 R) (fun D hD => ⟨ex_upd hD (Ex.rfl' _), by rw [mk_upd]; exact m _ _ _ _ (ex_mk hD (Ex.rfl' _)) h0⟩) (fun D i acc H hD _ p => p.1 _ _ h) (fun D i acc x H hD hx e l p => hs D i acc x H hD hx e l p.1 p.2) (fun D acc H hD e l p => hd D acc H hD p.1 e (m _ _ _ _ (mk_ex D H) p.2))
end
theorem exb_mk' {a : Addr} {H H' : Hp} (e : ExB a H H') : Ex (mk a H) (mk a H') := fun p o h => by
  by_cases q : p = a
  · unfold mk at h; rw [if_pos q] at h; cases h
  · rw [mk_at q] at h ⊢; exact e p o q h
/-! ### == of lists of ints -/
theorem dp_ints {K : PySem.W.Frag} {H : Hp} : ∀ ns : List Int, DpAll K H (ns.map V.int) (ns.map PyData.int)
  | [] => .nil
  | n :: ns => .cons (.int n) (dp_ints ns)
theorem dp_lst {K : PySem.W.Frag} {H : Hp} {a : Addr} {ns : List Int} (h : H a = some (.lst (ns.map V.int))) : Dp K H (.ref a) (.list (ns.map PyData.int)) := .lst (SqL.tr h) (dp_ints ns)
theorem lay_ints : ∀ ns : List Int, PyData.canLayAll0 (ns.map PyData.int) = true
  | [] => by rw [List.map_nil, PyData.canLayAll0]
  | n :: ns => by rw [List.map_cons, PyData.canLayAll0, PyData.canLay0, lay_ints ns]; rfl
theorem depth_ints : ∀ ns : List Int, PyData.depthAll (ns.map PyData.int) ≤ 5
  | [] => by rw [List.map_nil, PyData.depthAll]; omega
  | n :: ns => by
    have := depth_ints ns
    rw [List.map_cons, PyData.depthAll]
    simp only [PyData.depth]
    omega
theorem shaped_ints (ns : List Int) : SeqAt.shaped (.list (ns.map PyData.int)) = true := by
  have := depth_ints ns
  unfold SeqAt.shaped
  rw [PyData.canLay0, lay_ints, decide_eq_true (by rw [PyData.depth]; omega)]
  rfl
theorem shaped_non : SeqAt.shaped .none = true := by
  unfold SeqAt.shaped
  rw [PyData.canLay0, decide_eq_true (by simp [PyData.depth])]
  rfl
theorem eqvAll_ints : ∀ ns ms : List Int, PyData.eqvAll (ns.map PyData.int) (ms.map PyData.int) = decide (ns = ms)
  | [], [] => by simp [PyData.eqvAll]
  | [], m :: ms => by simp [PyData.eqvAll]
  | n :: ns, [] => by simp [PyData.eqvAll]
  | n :: ns, m :: ms => by
    rw [List.map_cons, List.map_cons, PyData.eqvAll, eqvAll_ints ns ms, PyData.eqv]
    by_cases h : n = m
    · subst h; simp
    · have : (n == m) = false := beq_eq_false_iff_ne.mpr h
      simp [this, h]
theorem eqv_ints (ns ms : List Int) : PyData.eqv (.list (ns.map PyData.int)) (.list (ms.map PyData.int)) = decide (ns = ms) := by rw [PyData.eqv, eqvAll_ints]
end R
set_option Elab.async false
set_option linter.all false
set_option maxRecDepth 100000
set_option maxHeartbeats 4000000
namespace R
open PySem PySem.Spec L2
open Evl (Ex)
/-! ### data of any depth at a value -/
mutual
inductive At (H : Hp) : V → PyData → Prop
  | non : At H .non .none
  | bl (b : Bool) : At H (.bl b) (.bool b)
  | int (i : Int) : At H (.int i) (.int i)
  | str (x : Str) (ok : PyData.canLay0 (.str x) = true) : At H (.str x) (.str x)
  | lst {a : Addr} {xs : List V} {ds : List PyData} (h : H a = some (.lst xs)) (q : AtAll H xs ds) : At H (.ref a) (.list ds)
  | tup {a : Addr} {xs : List V} {ds : List PyData} (h : H a = some (.tup xs)) (q : AtAll H xs ds) : At H (.ref a) (.tuple ds)
inductive AtAll (H : Hp) : List V → List PyData → Prop
  | nil : AtAll H [] []
  | cons {v : V} {vs : List V} {d : PyData} {ds : List PyData} (h : At H v d) (t : AtAll H vs ds) : AtAll H (v :: vs) (d :: ds)
end
mutual
theorem At.ex {H H' : Hp} (e : Ex H H') : ∀ (d : PyData) {v : V}, At H v d → At H' v d
  | .none, _, h => by cases h; exact .non
  | .bool b, _, h => by cases h; exact .bl b
  | .int i, _, h => by cases h; exact .int i
  | .str x, _, h => by cases h with | str _ ok => exact .str x ok
  | .list ds, _, h => by cases h with | lst h q => exact .lst (e _ _ h) (AtAll.ex e ds q)
  | .tuple ds, _, h => by cases h with | tup h q => exact .tup (e _ _ h) (AtAll.ex e ds q)
  | .dict _, _, h => by cases h
theorem AtAll.ex {H H' : Hp} (e : Ex H H') : ∀ (ds : List PyData) {vs : List V}, AtAll H vs ds → AtAll H' vs ds
  | [], _, h => by cases h; exact .nil
  | d :: ds, _, h => by cases h with | cons h t => exact .cons (At.ex e d h) (AtAll.ex e ds t)
end
mutual
theorem At.dp {K : PySem.W.Frag} {H : Hp} : ∀ (d : PyData) {v : V}, At H v d → Dp K H v d
  | .none, _, h => by cases h; exact .non
  | .bool b, _, h => by cases h; exact .bl b
  | .int i, _, h => by cases h; exact .int i
  | .str x, _, h => by cases h with | str _ ok => exact .str x
  | .list ds, _, h => by cases h with | lst h q => exact .lst (SqL.tr h) (AtAll.dp ds q)
  | .tuple ds, _, h => by cases h with | tup h q => exact .tup (SqT.tr h) (AtAll.dp ds q)
  | .dict _, _, h => by cases h
theorem AtAll.dp {K : PySem.W.Frag} {H : Hp} : ∀ (ds : List PyData) {vs : List V}, AtAll H vs ds → DpAll K H vs ds
  | [], _, h => by cases h; exact .nil
  | d :: ds, _, h => by cases h with | cons h t => exact .cons (At.dp d h) (AtAll.dp ds t)
end
mutual
theorem At.lay {H : Hp} : ∀ (d : PyData) {v : V}, At H v d → PyData.canLay0 d = true
  | .none, _, h => by simp only [PyData.canLay0]
  | .bool b, _, h => by simp only [PyData.canLay0]
  | .int i, _, h => by simp only [PyData.canLay0]
  | .str x, _, h => by cases h with | str _ ok => exact ok
  | .list ds, _, h => by
    cases h with | lst h q => simp only [PyData.canLay0]; exact AtAll.lay ds q
  | .tuple ds, _, h => by
    cases h with | tup h q => simp only [PyData.canLay0]; exact AtAll.lay ds q
  | .dict _, _, h => by cases h
theorem AtAll.lay {H : Hp} : ∀ (ds : List PyData) {vs : List V}, AtAll H vs ds → PyData.canLayAll0 ds = true
  | [], _, h => by simp only [PyData.canLayAll0]
  | d :: ds, _, h => by
    cases h with | cons h t => simp only [PyData.canLayAll0, At.lay d h, AtAll.lay ds t, Bool.and_self]
end
mutual
theorem At.eqv {H : Hp} : ∀ (d : PyData) {v : V}, At H v d → PyData.eqv d d = true
  | .none, _, h => by simp only [PyData.eqv]
  | .bool b, _, h => by simp only [PyData.eqv, beq_self_eq_true]
  | .int i, _, h => by simp only [PyData.eqv, beq_self_eq_true]
  | .str x, _, h => by simp only [PyData.eqv, beq_self_eq_true]
  | .list ds, _, h => by
    cases h with | lst h q => simp only [PyData.eqv]; exact AtAll.eqv ds q
  | .tuple ds, _, h => by
    cases h with | tup h q => simp only [PyData.eqv]; exact AtAll.eqv ds q
  | .dict _, _, h => by cases h
theorem AtAll.eqv {H : Hp} : ∀ (ds : List PyData) {vs : List V}, AtAll H vs ds → PyData.eqvAll ds ds = true
  | [], _, h => by simp only [PyData.eqvAll]
  | d :: ds, _, h => by
    cases h with | cons h t => simp only [PyData.eqvAll, At.eqv d h, AtAll.eqv ds t, Bool.and_self]
end
theorem AtAll.length {H : Hp} : ∀ {ds : List PyData} {vs : List V}, AtAll H vs ds → vs.length = ds.length
  | _, _, .nil => rfl
  | _, _, .cons _ t => by rw [List.length_cons, List.length_cons, AtAll.length t]
theorem AtAll.get {H : Hp} : ∀ {ds : List PyData} {vs : List V} {i : Nat} {d : PyData}, AtAll H vs ds → ds[i]? = some d → ∃ v, vs[i]? = some v ∧ At H v d
  | _, _, i, _, .nil, e => by simp at e
  | _, _, 0, _, .cons h t, e => by
    simp at e; subst e
    exact ⟨_, rfl, h⟩
  | _, _, i + 1, _, .cons h t, e => by
    obtain ⟨v, h1, h2⟩ := AtAll.get t (show _ = some _ from by simpa using e)
    exact ⟨v, by simpa using h1, h2⟩
theorem AtAll.getV {H : Hp} {ds : List PyData} {vs : List V} {i : Nat} {v : V} (h : AtAll H vs ds) (e : vs[i]? = some v) : ∃ d, ds[i]? = some d ∧ At H v d := by
  have hi := (List.getElem?_eq_some_iff.mp e).1
  have hl := h.length
  have hd : ds[i]? = some (ds[i]'(by omega)) := List.getElem?_eq_getElem (by omega)
  obtain ⟨v', h1, h2⟩ := h.get hd
  rw [h1] at e
  cases e
  exact ⟨_, hd, h2⟩
theorem AtAll.append {H : Hp} : ∀ {ds es : List PyData} {vs us : List V}, AtAll H vs ds → AtAll H us es → AtAll H (vs ++ us) (ds ++ es)
  | _, _, _, _, .nil, q => q
  | _, _, _, _, .cons h t, q => .cons h (AtAll.append t q)
theorem AtAll.one {H : Hp} {v : V} {d : PyData} (h : At H v d) : AtAll H [v] [d] := .cons h .nil
theorem AtAll.drop {H : Hp} : ∀ (n : Nat) {ds : List PyData} {vs : List V}, AtAll H vs ds → AtAll H (vs.drop n) (ds.drop n)
  | 0, _, _, h => by simpa using h
  | n + 1, _, _, .nil => by simpa using AtAll.nil
  | n + 1, _, _, .cons _ t => by simpa using AtAll.drop n t
theorem AtAll.take {H : Hp} : ∀ (n : Nat) {ds : List PyData} {vs : List V}, AtAll H vs ds → AtAll H (vs.take n) (ds.take n)
  | 0, _, _, h => by simpa using AtAll.nil
  | n + 1, _, _, .nil => by simpa using AtAll.nil
  | n + 1, _, _, .cons h t => by simpa using AtAll.cons h (AtAll.take n t)
/-! ### what is new; what is left without some addresses -/
def dif (H H' : Hp) : Hp := fun p => match H p with
  | none => H' p
  | some _ => none
theorem dif_of {H H' : Hp} {p : Addr} {o : HO} (h : H p = none) (h' : H' p = some o) : dif H H' p = some o := by
  unfold dif
  rw [h]
  exact h'
theorem dif_to {H H' : Hp} {p : Addr} {o : HO} (h : dif H H' p = some o) : H p = none ∧ H' p = some o := by
  unfold dif at h
  cases e : H p with
  | none => rw [e] at h; exact ⟨rfl, h⟩
  | some u => rw [e] at h; cases h
theorem dif_ex {H H' : Hp} : Ex (dif H H') H' := fun p o h => (dif_to h).2
theorem dif_mono {H H' H'' : Hp} (e : Ex H' H'') : Ex (dif H H') (dif H H'') := fun p o h => dif_of (dif_to h).1 (e _ _ (dif_to h).2)
theorem back_none {H H' : Hp} {p : Addr} (e : Ex H H') (h : H' p = none) : H p = none := by
  cases z : H p with
  | none => rfl
  | some o => rw [e _ _ z] at h; cases h
theorem dif_back {H H1 H' : Hp} (e : Ex H H1) : Ex (dif H1 H') (dif H H') := fun p o h => dif_of (back_none e (dif_to h).1) (dif_to h).2
def mks (A : List Addr) (H : Hp) : Hp := fun p => if p ∈ A then none else H p
theorem mks_at {A : List Addr} {H : Hp} {p : Addr} (h : p ∉ A) : mks A H p = H p := if_neg h
theorem mks_in {A : List Addr} {H : Hp} {p : Addr} (h : p ∈ A) : mks A H p = none := if_pos h
theorem mks_to {A : List Addr} {H : Hp} {p : Addr} {o : HO} (h : mks A H p = some o) : p ∉ A ∧ H p = some o := by
  by_cases q : p ∈ A
  · rw [mks_in q] at h; cases h
  · rw [mks_at q] at h; exact ⟨q, h⟩
theorem mks_ex {A : List Addr} {H : Hp} : Ex (mks A H) H := fun p o h => (mks_to h).2
theorem mks_mono {A : List Addr} {H H' : Hp} (e : Ex H H') : Ex (mks A H) (mks A H') := fun p o h => by
  rw [mks_at (mks_to h).1]
  exact e _ _ (mks_to h).2
theorem mks_upd {A : List Addr} {H : Hp} {p : Addr} {o : HO} (h : p ∈ A) : mks A (upd H p o) = mks A H := by
  funext q
  by_cases z : q ∈ A
  · rw [mks_in z, mks_in z]
  · rw [mks_at z, mks_at z, upd_ne (fun e => z (by rw [e]; exact h))]
/-- what is new is apart from what was there -/
theorem dif_mks {A : List Addr} {H H' : Hp} (h : ∀ a ∈ A, H a ≠ none) : Ex (dif H H') (mks A H') := fun p o q => by
  rw [mks_at fun z => h p z (dif_to q).1]
  exact (dif_to q).2
theorem ex_mks {A : List Addr} {H H' : Hp} (h : ∀ a ∈ A, H a = none) (e : Ex H H') : Ex H (mks A H') := fun p o q => by
  rw [mks_at fun z => by rw [h p z] at q; cases q]
  exact e _ _ q
theorem mks_none {A : List Addr} {H H' : Hp} {p : Addr} (h : mks A H p = none) (hA : p ∉ A) : H p = none := by rwa [mks_at hA] at h
/-- new data: all of it is new -/
def NewD (H : Hp) (Q : VK) (d : PyData) : Prop := ∀ v H', Ex H H' → At (dif H H') v d → Q v H'
theorem At.nw {H H' : Hp} {v : V} {d : PyData} (h : At (dif H H') v d) : At H' v d := h.ex dif_ex
/-! ### bytes -/
def nL (ns : List Nat) : List V := ns.map fun n : Nat => V.int (n : Int)
def nD (ns : List Nat) : PyData := .list (ns.map fun n : Nat => PyData.int (n : Int))
theorem nL_len (ns : List Nat) : (nL ns).length = ns.length := List.length_map ..
theorem nL_app (ns ms : List Nat) : nL (ns ++ ms) = nL ns ++ nL ms := List.map_append
theorem nL_atAll {H : Hp} : ∀ ns : List Nat, AtAll H (nL ns) (ns.map fun n : Nat => PyData.int (n : Int))
  | [] => .nil
  | n :: ns => .cons (.int n) (nL_atAll ns)
theorem nL_at {H : Hp} {p : Addr} {ns : List Nat} (h : H p = some (.lst (nL ns))) : At H (.ref p) (nD ns) := .lst h (nL_atAll ns)
theorem nL_inj : ∀ {vs : List V} {H : Hp} {ns : List Nat}, AtAll H vs (ns.map fun n : Nat => PyData.int (n : Int)) → vs = nL ns
  | _, _, [], h => by cases h; rfl
  | _, _, n :: ns, h => by
    cases h with
    | cons h t =>
      cases h
      rw [nL_inj t]
      rfl
theorem At.nL {H : Hp} {v : V} {ns : List Nat} (h : At H v (nD ns)) : ∃ p, v = .ref p ∧ H p = some (.lst (nL ns)) := by
  cases h with | lst h q => exact ⟨_, rfl, nL_inj q ▸ h⟩
theorem nL_get {ns : List Nat} {i : Nat} {v : V} (h : (nL ns)[i]? = some v) : ∃ n, ns[i]? = some n ∧ v = .int (n : Int) := by
  unfold nL at h
  rw [List.getElem?_map] at h
  cases e : ns[i]? with
  | none => rw [e] at h; cases h
  | some b => rw [e] at h; exact ⟨b, rfl, (Option.some.inj h).symm⟩
theorem nL_at_some {ns : List Nat} {i n : Nat} (h : ns[i]? = some n) : (nL ns)[i]? = some (.int (n : Int)) := by
  unfold nL
  rw [List.getElem?_map, h]
  rfl
theorem nL_take (k : Nat) (ns : List Nat) : (nL ns).take k = nL (ns.take k) := by unfold nL; rw [List.map_take]
theorem nL_drop (k : Nat) (ns : List Nat) : (nL ns).drop k = nL (ns.drop k) := by unfold nL; rw [List.map_drop]
theorem nL_rep (k n : Nat) : (List.replicate k [V.int (n : Int)]).flatten = nL (List.replicate k n) := by
  induction k with
  | zero => rfl
  | succ k ih => rw [List.replicate_succ, List.flatten_cons, ih, List.replicate_succ]; rfl
/-- lists of lists of bytes -/
def sD (S : List (List Nat)) : PyData := .list (S.map nD)
theorem At.sec {H : Hp} {v : V} {S : List (List Nat)} (h : At H v (sD S)) : ∃ p vs, v = .ref p ∧ H p = some (.lst vs) ∧ AtAll H vs (S.map nD) := by
  cases h with | lst h q => exact ⟨_, _, rfl, h, q⟩
theorem AtAll.secs {H : Hp} {vs : List V} {S : List (List Nat)} (h : AtAll H vs (S.map nD)) : vs.length = S.length := by rw [h.length, List.length_map]
theorem AtAll.sec {H : Hp} {vs : List V} {S : List (List Nat)} (h : AtAll H vs (S.map nD)) {i : Nat} {ns : List Nat} (e : S[i]? = some ns) : ∃ p, vs[i]? = some (.ref p) ∧ H p = some (.lst (R.nL ns)) := by
  obtain ⟨v, h1, h2⟩ := h.get (i := i) (d := nD ns) (by rw [List.getElem?_map, e]; rfl)
  obtain ⟨p, rfl, h3⟩ := h2.nL
  exact ⟨p, h1, h3⟩
theorem AtAll.secV {H : Hp} {vs : List V} {S : List (List Nat)} (h : AtAll H vs (S.map nD)) {i : Nat} {v : V} (e : vs[i]? = some v) : ∃ ns p, S[i]? = some ns ∧ v = .ref p ∧ H p = some (.lst (R.nL ns)) := by
  obtain ⟨d, h1, h2⟩ := h.getV e
  rw [List.getElem?_map] at h1
  cases e2 : S[i]? with
  | none => rw [e2] at h1; cases h1
  | some ns =>
    rw [e2] at h1
    cases h1
    obtain ⟨p, rfl, h3⟩ := h2.nL
    exact ⟨ns, p, rfl, rfl, h3⟩
/-! ### == -/
/-- at most so deep -/
def Dep (n : Nat) (d : PyData) : Prop := PyData.depth d ≤ n
theorem Dep.non {n : Nat} : Dep n .none := by simp [Dep, PyData.depth]
theorem Dep.int {n : Nat} {i : Int} : Dep n (.int i) := by simp [Dep, PyData.depth]
theorem Dep.str {n : Nat} {i : Str} : Dep n (.str i) := by simp [Dep, PyData.depth]
theorem Dep.bl {n : Nat} {i : Bool} : Dep n (.bool i) := by simp [Dep, PyData.depth]
theorem depAll {n : Nat} : ∀ {ds : List PyData}, (∀ d ∈ ds, Dep n d) → PyData.depthAll ds ≤ n
  | [], _ => by simp [PyData.depthAll]
  | d :: ds, h => by
    have h1 := h d (List.mem_cons_self ..)
    have h2 := depAll fun e he => h e (List.mem_cons_of_mem _ he)
    unfold Dep at h1
    rw [PyData.depthAll]
    omega
theorem Dep.list {n : Nat} {ds : List PyData} (h : ∀ d ∈ ds, Dep n d) : Dep (n + 1) (.list ds) := by
  have := depAll h
  unfold Dep
  rw [PyData.depth]
  omega
theorem Dep.tuple {n : Nat} {ds : List PyData} (h : ∀ d ∈ ds, Dep n d) : Dep (n + 1) (.tuple ds) := by
  have := depAll h
  unfold Dep
  rw [PyData.depth]
  omega
theorem Dep.nD {n : Nat} {ns : List Nat} : Dep (n + 1) (nD ns) := Dep.list fun d hd => by
  obtain ⟨m, _, rfl⟩ := List.mem_map.mp hd
  exact Dep.int
theorem Dep.sD {n : Nat} {S : List (List Nat)} : Dep (n + 2) (sD S) := Dep.list fun d hd => by
  obtain ⟨m, _, rfl⟩ := List.mem_map.mp hd
  exact Dep.nD
theorem At.shaped {H : Hp} {v : V} {d : PyData} (h : At H v d) (hd : Dep 64 d) : SeqAt.shaped d = true := by
  unfold SeqAt.shaped
  rw [h.lay, decide_eq_true (show d.depth ≤ 64 from hd)]
  rfl
section
variable {K : PySem.W.Frag} {σ : L2.St} {H : Hp} {Q : VK} {x y : V} {d e : PyData}
theorem iEqAt (h1 : At H x d) (h2 : At H y d) (hd : Dep 64 d) (q : Q (.bl true) H) : rEqD K x y H Q := ⟨d, d, h1.dp, h2.dp, h1.shaped hd, h1.shaped hd, by rw [h1.eqv]; exact q⟩
theorem iNeAt (h1 : At H x d) (h2 : At H y d) (hd : Dep 64 d) (q : Q (.bl false) H) : rNeD K x y H Q := ⟨d, d, h1.dp, h2.dp, h1.shaped hd, h1.shaped hd, by rw [h1.eqv]; exact q⟩
theorem iEqAtD (h1 : At H x d) (h2 : At H y e) (hd : Dep 64 d) (he : Dep 64 e) (q : Q (.bl (PyData.eqv d e)) H) : rEqD K x y H Q := ⟨d, e, h1.dp, h2.dp, h1.shaped hd, h2.shaped he, q⟩
theorem iNeAtD (h1 : At H x d) (h2 : At H y e) (hd : Dep 64 d) (he : Dep 64 e) (q : Q (.bl (!PyData.eqv d e)) H) : rNeD K x y H Q := ⟨d, e, h1.dp, h2.dp, h1.shaped hd, h2.shaped he, q⟩
theorem eqv_nD (ns ms : List Nat) : PyData.eqv (nD ns) (nD ms) = decide (ns = ms) := by
  have a : (ns.map fun n : Nat => PyData.int (n : Int)) = (ns.map (fun n : Nat => (n : Int))).map PyData.int := by rw [List.map_map]; rfl
  have b : (ms.map fun n : Nat => PyData.int (n : Int)) = (ms.map (fun n : Nat => (n : Int))).map PyData.int := by rw [List.map_map]; rfl
  unfold nD
  rw [a, b, eqv_ints]
  by_cases h : ns = ms
  · subst h; rw [decide_eq_true rfl, decide_eq_true rfl]
  · rw [decide_eq_false h, decide_eq_false fun z => h (List.map_inj_right (fun a b hab => by omega) |>.mp z)]
theorem iNeN {p m : Addr} {ns ms : List Nat} (h1 : H p = some (.lst (nL ns))) (h2 : H m = some (.lst (nL ms))) (q : Q (.bl (!decide (ns = ms))) H) : rNeD K (.ref p) (.ref m) H Q :=
  iNeAtD (nL_at h1) (nL_at h2) Dep.nD Dep.nD (by rw [eqv_nD]; exact q)
theorem iEqN {p m : Addr} {ns ms : List Nat} (h1 : H p = some (.lst (nL ns))) (h2 : H m = some (.lst (nL ms))) (q : Q (.bl (decide (ns = ms))) H) : rEqD K (.ref p) (.ref m) H Q :=
  iEqAtD (nL_at h1) (nL_at h2) Dep.nD Dep.nD (by rw [eqv_nD]; exact q)
/-! ### slices -/
def kPart (Q : Option Int → Hp → Prop) : VK := fun x H1 => ∃ i, x = .int i ∧ Q (some i) H1
theorem iPart {te : TE} {QO : Option Int → Hp → Prop} (q : te σ H (kPart QO)) : tPart te σ H QO := q
theorem iPartI {i : Int} {QO : Option Int → Hp → Prop} (q : QO (some i) H) : kPart QO (.int i) H := ⟨i, rfl, q⟩
theorem iNoPart {QO : Option Int → Hp → Prop} (q : QO none H) : tNoPart σ H QO := q
theorem iSl {r : V → Option Int → Option Int → Hp → VK → Prop} {te : TE} {tl th : TO} (q : te σ H fun x H1 => tl σ H1 fun l H2 => th σ H2 fun u H3 => r x l u H3 Q) : tSl r te tl th σ H Q := q
/-- xs[i:j], tracked -/
def kSlL : V → Option Int → Option Int → Hp → VK → Prop := fun x lo hi H Q => ∃ a xs, x = .ref a ∧ H a = some (.lst xs) ∧ ∀ p, H p = none → Q (.ref p) (upd H p (.lst (cutV xs lo hi)))
theorem sl_l {X : Cx} : SlR X kSlL := fun pins s σ H x v vl vu lo hi sl Q I rx hs pl pu h => by
  obtain ⟨a, xs, e, hx, q⟩ := h
  exact sl_list pins s σ H x v vl vu lo hi sl Q I rx hs pl pu ⟨a, xs, e, SqL.tr hx, q⟩
theorem iSlL {a : Addr} {xs : List V} {lo hi : Option Int} (h : H a = some (.lst xs)) (q : ∀ p, H p = none → Q (.ref p) (upd H p (.lst (cutV xs lo hi)))) : kSlL (.ref a) lo hi H Q := ⟨a, xs, rfl, h, q⟩
theorem cut_to (xs : List V) (k : Nat) : cutV xs none (some (k : Int)) = xs.take k := by
  unfold cutV
  rw [HT.sIx_none, HT.sIx_nat, List.drop_zero, Nat.sub_zero]
  rcases Nat.le_total k xs.length with h | h
  · rw [Nat.min_eq_left h]
  · rw [Nat.min_eq_right h, List.take_of_length_le (Nat.le_refl _), List.take_of_length_le h]
theorem cut_from (xs : List V) (k : Nat) : cutV xs (some (k : Int)) none = xs.drop k := by
  unfold cutV
  rw [HT.sIx_none, HT.sIx_nat]
  rcases Nat.le_total k xs.length with h | h
  · rw [Nat.min_eq_left h, List.take_of_length_le (by rw [List.length_drop]; omega)]
  · rw [Nat.min_eq_right h, List.drop_length, List.drop_eq_nil_of_le h]
    simp
theorem cut_ft (xs : List V) (i j : Nat) : cutV xs (some (i : Int)) (some (j : Int)) = (xs.take j).drop i := by
  unfold cutV
  rw [HT.sIx_nat, HT.sIx_nat, List.drop_take]
  rcases Nat.le_total i xs.length with h | h
  · rw [Nat.min_eq_left h]
    rcases Nat.le_total j xs.length with h2 | h2
    · rw [Nat.min_eq_left h2]
    · rw [Nat.min_eq_right h2, List.take_of_length_le (by rw [List.length_drop]; omega), List.take_of_length_le (by rw [List.length_drop]; omega)]
  · rw [Nat.min_eq_right h, List.drop_length, List.drop_eq_nil_of_le h]
    simp
/-! ### list.extend, reversed ranges, ranges with a step -/
theorem iExt {p m : Addr} {xs ys : List V} (h : H p = some (.lst xs)) (h2 : H m = some (.lst ys)) (hz : xs.length + ys.length ≤ 100000) (q : Q .non (upd H p (.lst (xs ++ ys)))) : rExtend (.ref p) [.ref m] H Q := ⟨p, m, xs, ys, rfl, rfl, h, h2, Evl.sz_of hz, q⟩
def kRv (R : It → Hp → Prop) : VK := fun x H1 => ∃ n, x = .int n ∧ (-(2 ^ 62) ≤ (0:Int) ∧ (0:Int) < 2 ^ 62 ∧ -(2 ^ 62) ≤ n ∧ n < 2 ^ 62 ∧ R (Itc (0 + (((n - 0).toNat : Nat) : Int) - 1) (-1) (n - 0).toNat) H1)
theorem iRv {ta : TE} {R : It → Hp → Prop} (q : ta σ H (kRv R)) : iRevR (tRg1 ta) σ H R := q
theorem iRvI {R : It → Hp → Prop} {n : Nat} (h : n < 1000000) (q : R (Itc ((n : Int) - 1) (-1) n) H) : kRv R (.int (n : Int)) H := by
  refine ⟨n, rfl, by decide, by decide, by omega, by omega, ?_⟩
  have e1 : ((n : Int) - 0).toNat = n := by omega
  rw [e1, show (0 : Int) + (n : Int) - 1 = (n : Int) - 1 by omega]
  exact q
theorem rgUp32 {b : Nat} (hb : b < 1000000) : RgC (0 : Int) (b : Int) (32 : Int) ((b + 31) / 32) := by
  refine ⟨by decide, by decide, ?_, ?_⟩
  · unfold Builtin.Range.small Builtin.Range.rangeFitsLong Builtin.Range.rangeSize
    rw [if_pos (show (32 : Int) > 0 by decide)]
    by_cases h : (0 : Int) < (b : Int)
    · rw [if_pos h]
      simp only [Bool.and_eq_true, decide_eq_true_eq, Bool.or_eq_true]
      refine ⟨⟨⟨⟨by decide, by omega⟩, by decide⟩, by omega⟩, .inr ?_⟩
      rw [if_pos (by decide)]
      simp only [Bool.and_eq_true, decide_eq_true_eq]
      omega
    · rw [if_neg h]
      simp only [Bool.and_eq_true, decide_eq_true_eq, Bool.or_eq_true]
      exact ⟨⟨⟨⟨by decide, by omega⟩, by decide⟩, by decide⟩, .inl (by decide)⟩
  · unfold Builtin.Range.rangeSize
    rw [if_pos (by decide)]
    by_cases h : (0 : Int) < (b : Int)
    · rw [if_pos h]; omega
    · rw [if_neg h]; omega
def kRg3 (R : It → Hp → Prop) : List V → Hp → Prop := fun vs H1 => ∃ (i j c : Int) (n : Nat), vs = [.int i, .int j, .int c] ∧ RgC i j c n ∧ R (Itc i c n) H1
theorem iRg3 {ta : TA} {R : It → Hp → Prop} (q : ta σ H (kRg3 R)) : iRng3 ta σ H R := q
theorem iRg3I {R : It → Hp → Prop} {i j c : Int} {n : Nat} (h : RgC i j c n) (q : R (Itc i c n) H) : kRg3 R [.int i, .int j, .int c] H := ⟨i, j, c, n, rfl, h, q⟩
end
section
variable {K : PySem.W.Frag} {g : TG} {tt : TT} {te : TE} {vs : List Nat} {σ σ' : L2.St} {H1 : Hp} {Q : VK}
theorem lcF_rc {lo c : Int} {n : Nat} (f : Nat → V) (hw : Wip σ vs σ') (hs : ∀ D i H, H1 D = none → i < n → H D = some (.lst ((List.range i).map f)) → Ex H1 H → g (.int (lo + (i : Int) * c)) σ' H (kLc vs σ' tt te D i (PvF H1 f D)))
    (hd : ∀ D H, H1 D = none → Ex H1 H → H D = some (.lst ((List.range n).map f)) → Q (.ref D) H) : tLcJ (Itc lo c n) g tt te vs σ H1 Q :=
  lcJ walk_rangeC hw (PvF H1 f) (fun D hD => ⟨ex_upd hD (Ex.rfl' _), rfl⟩) (fun _ _ _ _ _ _ _ => trivial) (fun D i acc x H H' hD hi e l p y => by
    obtain ⟨y1, y2⟩ := y
    obtain ⟨p1, rfl⟩ := p
    rw [y1, y2]
    exact hs D i H hD hi e p1) (fun D acc H hD e l p => by
    obtain ⟨p1, rfl⟩ := p
    exact hd D H hD p1 e)
theorem lcR_rc {lo c : Int} {n : Nat} (R : Nat → List V → Hp → Prop) (hw : Wip σ vs σ') (m : ∀ i acc H H', Ex H H' → R i acc H → R i acc H') (h0 : R 0 [] H1)
    (hs : ∀ D i acc H, H1 D = none → i < n → H D = some (.lst acc) → acc.length ≤ i → Ex H1 H → R i acc (mk D H) → g (.int (lo + (i : Int) * c)) σ' H (kLc vs σ' tt te D i (PvR H1 R D)))
    (hd : ∀ D acc H, H1 D = none → Ex H1 H → H D = some (.lst acc) → R n acc H → Q (.ref D) H) : tLcJ (Itc lo c n) g tt te vs σ H1 Q :=
  lcJ walk_rangeC hw (PvR H1 R) (fun D hD => ⟨ex_upd hD (Ex.rfl' _), by rw [mk_upd]; exact m _ _ _ _ (ex_mk hD (Ex.rfl' _)) h0⟩) (fun _ _ _ _ _ _ _ => trivial) (fun D i acc x H H' hD hi e l p y => by
    obtain ⟨y1, y2⟩ := y
    rw [y1, y2]
    exact hs D i acc H hD hi e l p.1 p.2) (fun D acc H hD e l p => hd D acc H hD p.1 e (m _ _ _ _ (mk_ex D H) p.2))
end
def kZA (K : PySem.W.Frag) (R : It → Hp → Prop) : List V → Hp → Prop := fun vs H1 => ∃ a b xs ys, vs = [.ref a, .ref b] ∧ ((SqL K H1 a xs ∧ SqL K H1 b ys ∧ R (Itz K a b) H1) ∨ (SqT K H1 a xs ∧ SqT K H1 b ys ∧ R (RZ.ItzT K a b) H1))
theorem iZA {K : PySem.W.Frag} {tA : TA} {σ : L2.St} {H : Hp} {R : It → Hp → Prop} (q : tA σ H (kZA K R)) : RZ.iZipA K tA σ H R := q
theorem iZAT {K : PySem.W.Frag} {a b : Addr} {xs ys : List V} {H : Hp} {R : It → Hp → Prop} (h : SqT K H a xs) (h2 : SqT K H b ys) (q : R (RZ.ItzT K a b) H) : kZA K R [.ref a, .ref b] H := ⟨a, b, xs, ys, rfl, .inr ⟨h, h2, q⟩⟩
theorem forJ_zT {K : PySem.W.Frag} {a b : Addr} {xs ys : List V} {g : TG} {tb : TS} {n bk c : L2.St → Hp → Prop} {r : VK} {σ : L2.St} {H : Hp} (hl : xs.length = ys.length) (Pv : Nat → L2.St → Hp → Prop) (h0 : Pv 0 σ H) (hq : ∀ i σ H, Pv i σ H → SqT K H a xs ∧ SqT K H b ys)
    (hs : ∀ (i : Nat) (x y : V) (T : Addr) (σ : L2.St) (H : Hp), xs[i]? = some x → ys[i]? = some y → Pv i σ H → H T = none → g (.ref T) σ (upd H T (.tup [x, y])) fun σ2 H2 => tb ⟨Pv (i + 1), r, n, Pv (i + 1)⟩ σ2 H2) (hd : ∀ σ H, Pv xs.length σ H → n σ H) : tForJ (RZ.ItzT K a b) g tb ⟨n, r, bk, c⟩ σ H :=
  RZ.for_zipT hl Pv h0 hq hs hd
theorem forJ_tW {K : PySem.W.Frag} {a : Addr} {xs : List V} {g : TG} {tb : TS} {n bk c : L2.St → Hp → Prop} {r : VK} {σ : L2.St} {H : Hp} (ha : ∀ H : Hp, SqT K H a xs) (Pv : Nat → L2.St → Hp → Prop) (h0 : Pv 0 σ H)
    (hs : ∀ i x σ H, xs[i]? = some x → Pv i σ H → g x σ H fun σ2 H2 => tb ⟨Pv (i + 1), r, n, Pv (i + 1)⟩ σ2 H2) (hd : ∀ σ H, Pv xs.length σ H → n σ H) : tForJ (Itt K a) g tb ⟨n, r, bk, c⟩ σ H :=
  for_tup Pv h0 (fun i σ H h p => ha H) hs hd
/-! ### joined lists of bytes; two names at once -/
theorem iCatN {a b : Addr} {xs ys : List Nat} {H : Hp} {Q : VK} (h : H a = some (.lst (nL xs))) (h2 : H b = some (.lst (nL ys))) (hz : xs.length + ys.length ≤ 100000) (q : ∀ p, H p = none → Q (.ref p) (upd H p (.lst (nL (xs ++ ys))))) : rCat (.ref a) (.ref b) H Q :=
  iCat h h2 (by rw [nL_len, nL_len]; exact hz) fun p hp => by rw [← nL_app]; exact q p hp
def kPar (i j : Nat) (n : L2.St → Hp → Prop) (σ : L2.St) : List V → Hp → Prop := fun vs H1 => ∃ a b, vs = [a, b] ∧ n ((σ.set i (some a)).set j (some b)) H1
theorem iPar {i j : Nat} {ta : TA} {n b c : L2.St → Hp → Prop} {r : VK} {σ : L2.St} {H : Hp} (q : ta σ H (kPar i j n σ)) : tPar i j ta ⟨n, r, b, c⟩ σ H := q
theorem iParI {i j : Nat} {n : L2.St → Hp → Prop} {σ σ1 σ2 : L2.St} {H : Hp} {a b : V} (h1 : SetAt σ i a σ1) (h2 : SetAt σ1 j b σ2) (q : n σ2 H) : kPar i j n σ [a, b] H := ⟨a, b, rfl, by rw [h1.eq, h2.eq]; exact q⟩
/-! ### tuples and texts walked -/
def kItT (K : PySem.W.Frag) (R : It → Hp → Prop) : VK := fun x H1 => ∃ a xs, x = .ref a ∧ H1 a = some (.tup xs) ∧ R (Itt K a) H1
theorem iIterT {K : PySem.W.Frag} {ta : TE} {σ : L2.St} {H : Hp} {R : It → Hp → Prop} (q : ta σ H (kItT K R)) : kIterT K ta σ H R := q
theorem iItT {K : PySem.W.Frag} {p : Addr} {xs : List V} {H : Hp} {R : It → Hp → Prop} (h : H p = some (.tup xs)) (q : R (Itt K p) H) : kItT K R (.ref p) H := ⟨p, xs, rfl, h, q⟩
def kItS (R : It → Hp → Prop) : VK := fun v H1 => ∃ x, v = .str x ∧ R (Its x) H1
theorem iIterS {te : TE} {σ : L2.St} {H : Hp} {R : It → Hp → Prop} (q : te σ H (kItS R)) : iStr te σ H R := q
theorem iItS {z : Str} {H : Hp} {R : It → Hp → Prop} (q : R (Its z) H) : kItS R (.str z) H := ⟨z, rfl, q⟩
/-! ### comprehensions whose items are new data -/
theorem lcRw {J : It} {n : Nat} {G : Hp → Prop} {Y : Nat → Hp → V → Hp → Prop} (w : Walk J n G Y) {g : TG} {tt : TT} {te : TE} {vs : List Nat} {σ σ' : L2.St} {H1 : Hp} {Q : VK} (R : Nat → List V → Hp → Prop) (hw : Wip σ vs σ') (hG : ∀ H, Ex H1 H → G H)
    (m : ∀ i acc H H', Ex H H' → R i acc H → R i acc H') (h0 : R 0 [] H1)
    (hs : ∀ D i acc x H H', H1 D = none → i < n → H D = some (.lst acc) → acc.length ≤ i → Ex H1 H → R i acc (mk D H) → Y i H x H' → g x σ' H' (kLc vs σ' tt te D i (PvR H1 R D)))
    (hd : ∀ D acc H, H1 D = none → Ex H1 H → H D = some (.lst acc) → R n acc H → Q (.ref D) H) : tLcJ J g tt te vs σ H1 Q :=
  lcJ w hw (PvR H1 R) (fun D hD => ⟨ex_upd hD (Ex.rfl' _), by rw [mk_upd]; exact m _ _ _ _ (ex_mk hD (Ex.rfl' _)) h0⟩) (fun D i acc H hD _ p => hG H p.1) (fun D i acc x H H' hD hi e l p y => hs D i acc x H H' hD hi e l p.1 p.2 y) (fun D acc H hD e l p => hd D acc H hD p.1 e (m _ _ _ _ (mk_ex D H) p.2))
def DR (H1 : Hp) (f : Nat → PyData) (i : Nat) (acc : List V) (H : Hp) : Prop := AtAll (dif H1 H) acc ((List.range i).map f)
theorem DR.mono {H1 : Hp} {f : Nat → PyData} (i : Nat) (acc : List V) (H H' : Hp) (e : Ex H H') (h : DR H1 f i acc H) : DR H1 f i acc H' := AtAll.ex (dif_mono e) _ h
theorem dif_mkD {H1 H H' : Hp} {D : Addr} (e : Ex H1 H) (h : H D ≠ none) : Ex (dif H H') (dif H1 (mk D H')) := fun p o q => by
  obtain ⟨h1, h2⟩ := dif_to q
  refine dif_of (back_none e h1) ?_
  rw [mk_at (fun z : p = D => h (by rw [← z]; exact h1))]
  exact h2
theorem iLcD {H1 H H' : Hp} {f : Nat → PyData} {D : Addr} {i : Nat} {y : V} {acc : List V} (hD : H1 D = none) (hi : i < 100000) (hl : acc.length ≤ i) (e1 : Ex H1 H) (hacc : H D = some (.lst acc)) (r : DR H1 f i acc (mk D H)) (e2 : Ex H H') (q : At (dif H H') y (f i)) :
    kLcE D i (PvR H1 (DR H1 f) D) y H' := by
  refine iLcR hD hi hl (e1.trans e2) (e2 _ _ hacc) ?_
  show AtAll _ _ _
  rw [List.range_succ, List.map_append, List.map_singleton]
  refine (AtAll.ex (dif_mono (mk_mono e2)) _ r).append (.one (q.ex (dif_mkD e1 fun z => ?_)))
  rw [hacc] at z
  cases z
theorem lcD_end {H H1 H2 : Hp} {f : Nat → PyData} {D : Addr} {acc : List V} {n : Nat} (e0 : Ex H H1) (hD : H1 D = none) (hacc : H2 D = some (.lst acc)) (r : DR H1 f n acc H2) : At (dif H H2) (.ref D) (.list ((List.range n).map f)) :=
  .lst (dif_of (back_none e0 hD) hacc) (AtAll.ex (dif_back e0) _ r)
theorem map_range_get {α β : Type} (xs : List α) (f : α → β) (g : Nat → β) (h : ∀ i x, xs[i]? = some x → g i = f x) : (List.range xs.length).map g = xs.map f := by
  refine List.ext_getElem? fun i => ?_
  rw [List.getElem?_map, List.getElem?_map]
  rcases Nat.lt_or_ge i xs.length with hi | hi
  · rw [List.getElem?_range hi, List.getElem?_eq_getElem hi]
    exact congrArg some (h i _ (List.getElem?_eq_getElem hi))
  · rw [List.getElem?_eq_none (by simpa using hi), List.getElem?_eq_none (by omega)]
    rfl
/-! ### constants of the module that are tuples -/
def WTup (K : PySem.W.Frag) (mg : Str → Option Value) (x : Str) (xs : List V) : Prop := ∃ a, mg x = some (.ref a) ∧ ∀ H : Hp, SqT K H a xs
def tW (K : PySem.W.Frag) (xs : List V) : TE := fun σ H Q => ∀ a, (∀ H : Hp, SqT K H a xs) → Q (.ref a) H
theorem pe_globW {X : Cx} {x : Str} {xs : List V} {pos : Pos} (hg : Gl X x) (h : WTup X.K X.mg x xs) (hd : (x == ("__debug__" : Str)) = false := by decide) : PE X (.Name x pos) (tW X.K xs) := by
  obtain ⟨a, h, hs⟩ := h
  exact PE.imp (pe_glob (v := V.ref a) hg h rfl hd) fun σ H Q q => q a hs
theorem WTup.mk' {K : PySem.W.Frag} {mg : Str → Option Value} {x : Str} {xs : List V} {a : Addr} {od : Option Addr} {its : Array Value} {n : Nat} {sl : Array (Option Value)} (h : mg x = some (.ref a)) (l : K.lookup a = some ⟨.type "tuple", od, .seq its n, sl⟩) (hz : its.size ≤ 1000) (v : Vals xs its.toList) : WTup K mg x xs :=
  ⟨a, h, fun H => .inr ⟨_, its, n, l, rfl, rfl, Evl.sz_of (by omega), v⟩⟩
theorem iW {K : PySem.W.Frag} {xs : List V} {σ : L2.St} {H : Hp} {Q : VK} (q : ∀ a, (∀ H : Hp, SqT K H a xs) → Q (.ref a) H) : tW K xs σ H Q := q
end R
set_option Elab.async false
set_option maxRecDepth 100000
set_option maxHeartbeats 4000000
namespace R
/-! ### the field, as plain functions -/
def dbl (a : Nat) : Nat := if 2 * a < 256 then 2 * a else (2 * a) ^^^ 285
def dp (a : Nat) : Nat → Nat
  | 0 => a
  | i + 1 => dbl (dp a i)
def gs (a b : Nat) : Nat → Nat
  | 0 => 0
  | i + 1 => if b / 2 ^ i % 2 = 1 then gs a b i ^^^ dp a i else gs a b i
def gm (a b : Nat) : Nat := gs a b 8
def cl (a b : Nat) : Nat → Nat
  | 0 => 0
  | i + 1 => if b / 2 ^ i % 2 = 1 then cl a b i ^^^ (2 ^ i * a) else cl a b i
def rd (t : Nat) : Nat → Nat
  | 0 => t
  | i + 1 => if 32768 / 2 ^ i ≤ rd t i then rd t i ^^^ (36480 / 2 ^ i) else rd t i
def tm (a b : Nat) : Nat := rd (cl a b 8) 8
def pw (a t : Nat) : Nat → Nat × Nat
  | 0 => (a, t)
  | i + 1 => (gm (pw a t i).1 (pw a t i).1, gm (pw a t i).2 (gm (pw a t i).1 (pw a t i).1))
def iv (a : Nat) : Nat := (pw a 1 7).2
def allLt (p : Nat → Bool) : Nat → Bool
  | 0 => true
  | n + 1 => p n && allLt p n
theorem allLt_of {p : Nat → Bool} : ∀ {n : Nat}, allLt p n = true → ∀ i, i < n → p i = true
  | 0, _, i, h => absurd h (Nat.not_lt_zero i)
  | n + 1, e, i, h => by
    have e' : (p n && allLt p n) = true := e
    rw [Bool.and_eq_true] at e'
    by_cases hi : i = n
    · rw [hi]; exact e'.1
    · exact allLt_of e'.2 i (by omega)
theorem xlt {a b : Nat} (ha : a < 256) (hb : b < 256) : a ^^^ b < 256 := Nat.xor_lt_two_pow (n := 8) ha hb
theorem dbl_lt {a : Nat} (ha : a < 256) : dbl a < 256 := by
  have h : allLt (fun a => decide (dbl a < 256)) 256 = true := by decide +kernel
  simpa using allLt_of h a ha
theorem dbl_eq {a : Nat} (ha : a < 256) : dbl a = (a <<< 1) ^^^ (285 * (a >>> 7)) := by
  have h : allLt (fun a => decide (dbl a = (a <<< 1) ^^^ (285 * (a >>> 7)))) 256 = true := by decide +kernel
  simpa using allLt_of h a ha
theorem bit7 {a : Nat} (ha : a < 256) : a >>> 7 = 0 ∨ a >>> 7 = 1 := by
  rw [Nat.shiftRight_eq_div_pow]; omega
theorem xor4 (a b c d : Nat) : (a ^^^ b) ^^^ (c ^^^ d) = (a ^^^ c) ^^^ (b ^^^ d) := by
  rw [Nat.xor_assoc, Nat.xor_assoc, ← Nat.xor_assoc b c d, Nat.xor_comm b c, Nat.xor_assoc c b d]
theorem dbl_xor {a b : Nat} (ha : a < 256) (hb : b < 256) : dbl (a ^^^ b) = dbl a ^^^ dbl b := by
  rw [dbl_eq ha, dbl_eq hb, dbl_eq (xlt ha hb), xor4, Nat.shiftLeft_xor_distrib, Nat.shiftRight_xor_distrib]
  congr 1
  rcases bit7 ha with h | h <;> rcases bit7 hb with k | k <;> rw [h, k] <;> rfl
theorem dp_lt {a : Nat} (ha : a < 256) : ∀ i, dp a i < 256
  | 0 => ha
  | i + 1 => dbl_lt (dp_lt ha i)
theorem dp_xor {a b : Nat} (ha : a < 256) (hb : b < 256) : ∀ i, dp (a ^^^ b) i = dp a i ^^^ dp b i
  | 0 => rfl
  | i + 1 => by
    show dbl (dp (a ^^^ b) i) = dbl (dp a i) ^^^ dbl (dp b i)
    rw [dp_xor ha hb i, dbl_xor (dp_lt ha i) (dp_lt hb i)]
theorem gs_lt {a : Nat} (b : Nat) (ha : a < 256) : ∀ i, gs a b i < 256
  | 0 => by show 0 < 256; decide
  | i + 1 => by
    show (if b / 2 ^ i % 2 = 1 then gs a b i ^^^ dp a i else gs a b i) < 256
    split
    · exact xlt (gs_lt b ha i) (dp_lt ha i)
    · exact gs_lt b ha i
theorem gm_lt {a : Nat} (b : Nat) (ha : a < 256) : gm a b < 256 := gs_lt b ha 8
theorem gs_xor {a b : Nat} (c : Nat) (ha : a < 256) (hb : b < 256) : ∀ i, gs (a ^^^ b) c i = gs a c i ^^^ gs b c i
  | 0 => by show 0 = 0 ^^^ 0; rfl
  | i + 1 => by
    show (if c / 2 ^ i % 2 = 1 then gs (a ^^^ b) c i ^^^ dp (a ^^^ b) i else gs (a ^^^ b) c i) = (if c / 2 ^ i % 2 = 1 then gs a c i ^^^ dp a i else gs a c i) ^^^ (if c / 2 ^ i % 2 = 1 then gs b c i ^^^ dp b i else gs b c i)
    rw [gs_xor c ha hb i, dp_xor ha hb i]
    split
    · exact xor4 _ _ _ _
    · rfl
theorem gm_xor {a b : Nat} (c : Nat) (ha : a < 256) (hb : b < 256) : gm (a ^^^ b) c = gm a c ^^^ gm b c := gs_xor c ha hb 8
theorem dp_dbl (a : Nat) : ∀ i, dp (dbl a) i = dbl (dp a i)
  | 0 => rfl
  | i + 1 => congrArg dbl (dp_dbl a i)
theorem dp_gs {a : Nat} (b : Nat) (ha : a < 256) : ∀ i, dbl (gs a b i) = gs (dbl a) b i
  | 0 => rfl
  | i + 1 => by
    show dbl (if b / 2 ^ i % 2 = 1 then gs a b i ^^^ dp a i else gs a b i) = (if b / 2 ^ i % 2 = 1 then gs (dbl a) b i ^^^ dp (dbl a) i else gs (dbl a) b i)
    split
    · rw [dbl_xor (gs_lt b ha i) (dp_lt ha i), dp_gs b ha i, dp_dbl]
    · exact dp_gs b ha i
theorem dp_gm {a : Nat} (b : Nat) (ha : a < 256) : ∀ i, dp (gm a b) i = gm (dp a i) b
  | 0 => rfl
  | i + 1 => by
    show dbl (dp (gm a b) i) = gm (dbl (dp a i)) b
    rw [dp_gm b ha i]
    exact dp_gs b (dp_lt ha i) 8
theorem gm_zero_l (b : Nat) : gm 0 b = 0 := by
  have h : ∀ i, dp 0 i = 0 := fun i => by
    induction i with
    | zero => rfl
    | succ i ih => show dbl (dp 0 i) = 0; rw [ih]; rfl
  have g : ∀ i, gs 0 b i = 0 := fun i => by
    induction i with
    | zero => rfl
    | succ i ih =>
      show (if b / 2 ^ i % 2 = 1 then gs 0 b i ^^^ dp 0 i else gs 0 b i) = 0
      rw [ih, h]
      split <;> rfl
  exact g 8
theorem gs_gm {a b : Nat} (c : Nat) (ha : a < 256) : ∀ i, gs (gm a b) c i = gm (gs a c i) b
  | 0 => (gm_zero_l b).symm
  | i + 1 => by
    show (if c / 2 ^ i % 2 = 1 then gs (gm a b) c i ^^^ dp (gm a b) i else gs (gm a b) c i) = gm (if c / 2 ^ i % 2 = 1 then gs a c i ^^^ dp a i else gs a c i) b
    rw [gs_gm c ha i, dp_gm b ha i]
    split
    · rw [gm_xor b (gs_lt c ha i) (dp_lt ha i)]
    · rfl
theorem gm_swap {a b : Nat} (c : Nat) (ha : a < 256) : gm (gm a b) c = gm (gm a c) b := gs_gm c ha 8
theorem gm_one_l {a : Nat} (ha : a < 256) : gm 1 a = a := by
  have h : allLt (fun a => Nat.beq (gm 1 a) a) 256 = true := by decide +kernel
  exact Nat.eq_of_beq_eq_true (allLt_of h a ha)
theorem gm_comm {a b : Nat} (ha : a < 256) (hb : b < 256) : gm a b = gm b a := by
  have h : gm (gm 1 a) b = gm (gm 1 b) a := gm_swap b (by decide)
  rw [gm_one_l ha, gm_one_l hb] at h
  exact h
/-! ### the law's own product is the same -/
theorem high {z m : Nat} (hz : z < 2 ^ (m + 1)) : 2 ^ m ≤ z ↔ z.testBit m = true := by
  have e : 2 ^ (m + 1) = 2 * 2 ^ m := by rw [Nat.pow_succ, Nat.mul_comm]
  constructor
  · intro h
    rw [Nat.testBit_eq_decide_div_mod_eq, decide_eq_true_eq]
    have : z / 2 ^ m = 1 := Nat.div_eq_of_lt_le (by omega) (by omega)
    rw [this]
  · exact Nat.ge_two_pow_of_testBit
def st (m c t : Nat) : Nat := if 2 ^ m ≤ t then t ^^^ c else t
theorem st_xor {m c x y : Nat} (hx : x < 2 ^ (m + 1)) (hy : y < 2 ^ (m + 1)) : st m c (x ^^^ y) = st m c x ^^^ st m c y := by
  have hz := Nat.xor_lt_two_pow hx hy
  have e : (x ^^^ y).testBit m = (x.testBit m ^^ y.testBit m) := Nat.testBit_xor ..
  unfold st
  by_cases a : 2 ^ m ≤ x <;> by_cases b : 2 ^ m ≤ y
  · have n : ¬ 2 ^ m ≤ x ^^^ y := by rw [high hz, e, (high hx).mp a, (high hy).mp b]; decide
    rw [if_pos a, if_pos b, if_neg n, xor4, Nat.xor_self, Nat.xor_zero]
  · have b' : y.testBit m = false := by rw [high hy] at b; simpa using b
    have n : 2 ^ m ≤ x ^^^ y := by rw [high hz, e, (high hx).mp a, b']; decide
    rw [if_pos a, if_neg b, if_pos n, Nat.xor_assoc, Nat.xor_assoc, Nat.xor_comm y c]
  · have a' : x.testBit m = false := by rw [high hx] at a; simpa using a
    have n : 2 ^ m ≤ x ^^^ y := by rw [high hz, e, (high hy).mp b, a']; decide
    rw [if_neg a, if_pos b, if_pos n, Nat.xor_assoc]
  · have a' : x.testBit m = false := by rw [high hx] at a; simpa using a
    have b' : y.testBit m = false := by rw [high hy] at b; simpa using b
    have n : ¬ 2 ^ m ≤ x ^^^ y := by rw [high hz, e, a', b']; decide
    rw [if_neg a, if_neg b, if_neg n]
theorem st_lt {m c t : Nat} (hc : c < 2 ^ (m + 1)) (hc' : 2 ^ m ≤ c) (ht : t < 2 ^ (m + 1)) : st m c t < 2 ^ m := by
  unfold st
  by_cases a : 2 ^ m ≤ t
  · rw [if_pos a]
    have hz := Nat.xor_lt_two_pow ht hc
    have e : (t ^^^ c).testBit m = (t.testBit m ^^ c.testBit m) := Nat.testBit_xor ..
    have n : ¬ 2 ^ m ≤ t ^^^ c := by rw [high hz, e, (high ht).mp a, (high hc).mp hc']; decide
    omega
  · rw [if_neg a]; omega
theorem tab (i : Nat) (h : i < 8) : 32768 / 2 ^ i = 2 ^ (15 - i) ∧ 36480 / 2 ^ i < 2 ^ (15 - i + 1) ∧ 2 ^ (15 - i) ≤ 36480 / 2 ^ i := by
  have t : ∀ i : Fin 8, 32768 / 2 ^ i.val = 2 ^ (15 - i.val) ∧ 36480 / 2 ^ i.val < 2 ^ (15 - i.val + 1) ∧ 2 ^ (15 - i.val) ≤ 36480 / 2 ^ i.val := by decide +kernel
  exact t ⟨i, h⟩
theorem rd_st {t i : Nat} (h : i < 8) : rd t (i + 1) = st (15 - i) (36480 / 2 ^ i) (rd t i) := by
  show (if 32768 / 2 ^ i ≤ rd t i then rd t i ^^^ (36480 / 2 ^ i) else rd t i) = _
  rw [(tab i h).1]
  rfl
theorem rd_lt {t : Nat} (ht : t < 65536) : ∀ i, i ≤ 8 → rd t i < 2 ^ (16 - i)
  | 0, _ => ht
  | i + 1, h => by
    rw [rd_st (by omega), show 16 - (i + 1) = 15 - i by omega]
    exact st_lt (tab i (by omega)).2.1 (tab i (by omega)).2.2 (by rw [show 15 - i + 1 = 16 - i by omega]; exact rd_lt ht i (by omega))
theorem rd_xor {x y : Nat} (hx : x < 65536) (hy : y < 65536) : ∀ i, i ≤ 8 → rd (x ^^^ y) i = rd x i ^^^ rd y i
  | 0, _ => rfl
  | i + 1, h => by
    rw [rd_st (by omega), rd_st (by omega), rd_st (by omega), rd_xor hx hy i (by omega)]
    refine st_xor ?_ ?_
    · rw [show 15 - i + 1 = 16 - i by omega]; exact rd_lt hx i (by omega)
    · rw [show 15 - i + 1 = 16 - i by omega]; exact rd_lt hy i (by omega)
theorem sh_lt {a i : Nat} (ha : a < 256) (hi : i < 8) : 2 ^ i * a < 65536 := by
  have h : 2 ^ i ≤ 2 ^ 7 := Nat.pow_le_pow_right (by decide) (by omega)
  have k : 2 ^ i * a ≤ 2 ^ 7 * a := Nat.mul_le_mul_right a h
  omega
theorem cl_lt {a : Nat} (b : Nat) (ha : a < 256) : ∀ i, i ≤ 8 → cl a b i < 65536
  | 0, _ => by show 0 < 65536; decide
  | i + 1, h => by
    show (if b / 2 ^ i % 2 = 1 then cl a b i ^^^ (2 ^ i * a) else cl a b i) < 65536
    split
    · exact Nat.xor_lt_two_pow (n := 16) (cl_lt b ha i (by omega)) (sh_lt ha (by omega))
    · exact cl_lt b ha i (by omega)
theorem rd_dp {a i : Nat} (ha : a < 256) (hi : i < 8) : rd (2 ^ i * a) 8 = dp a i := by
  have h : allLt (fun a => allLt (fun i => Nat.beq (rd (2 ^ i * a) 8) (dp a i)) 8) 256 = true := by decide +kernel
  exact Nat.eq_of_beq_eq_true (allLt_of (allLt_of h a ha) i hi)
theorem rd_cl {a : Nat} (b : Nat) (ha : a < 256) : ∀ i, i ≤ 8 → rd (cl a b i) 8 = gs a b i
  | 0, _ => by
    show rd 0 8 = 0
    decide +kernel
  | i + 1, h => by
    show rd (if b / 2 ^ i % 2 = 1 then cl a b i ^^^ (2 ^ i * a) else cl a b i) 8 = (if b / 2 ^ i % 2 = 1 then gs a b i ^^^ dp a i else gs a b i)
    split
    · rw [rd_xor (cl_lt b ha i (by omega)) (sh_lt ha (by omega)) 8 (by omega), rd_cl b ha i (by omega), rd_dp ha (by omega)]
    · exact rd_cl b ha i (by omega)
theorem gm_tm {a : Nat} (b : Nat) (ha : a < 256) : tm a b = gm a b := rd_cl b ha 8 (by omega)
theorem gm_two {a : Nat} (ha : a < 256) : gm a 2 = dbl a := by
  have h : allLt (fun a => Nat.beq (gm a 2) (dbl a)) 256 = true := by decide +kernel
  exact Nat.eq_of_beq_eq_true (allLt_of h a ha)
theorem gm_assoc {a b c : Nat} (ha : a < 256) (hb : b < 256) (hc : c < 256) : gm a (gm b c) = gm (gm a b) c := by
  rw [gm_comm ha (gm_lt c hb), gm_swap a hb, gm_comm hb ha]
theorem gm_xor_r {a b c : Nat} (ha : a < 256) (hb : b < 256) (hc : c < 256) : gm a (b ^^^ c) = gm a b ^^^ gm a c := by
  rw [gm_comm ha (xlt hb hc), gm_xor a hb hc, gm_comm ha hb, gm_comm ha hc]
theorem gm_one_r {a : Nat} (ha : a < 256) : gm a 1 = a := by rw [gm_comm ha (by decide), gm_one_l ha]
theorem gm_zero_r (a : Nat) : gm a 0 = 0 := by
  have h : ∀ i, (0 : Nat) / 2 ^ i % 2 = 0 := fun i => by rw [Nat.zero_div]
  have g : ∀ i, gs a 0 i = 0 := fun i => by
    induction i with
    | zero => rfl
    | succ i ih =>
      show (if 0 / 2 ^ i % 2 = 1 then gs a 0 i ^^^ dp a i else gs a 0 i) = 0
      rw [ih, h, if_neg (by decide)]
  exact g 8
theorem iv_ok {a : Nat} (ha : a < 256) (h0 : a ≠ 0) : gm a (iv a) = 1 ∧ 0 < iv a ∧ iv a < 256 := by
  have h : allLt (fun a => a == 0 || (Nat.beq (gm a (iv a)) 1 && decide (0 < iv a) && decide (iv a < 256))) 256 = true := by decide +kernel
  have k := allLt_of h a ha
  simp only [Bool.or_eq_true, beq_iff_eq, Bool.and_eq_true, decide_eq_true_eq] at k
  rcases k with k | ⟨⟨k1, k2⟩, k3⟩
  · exact absurd k h0
  · exact ⟨Nat.eq_of_beq_eq_true k1, k2, k3⟩
theorem pw_lt {a t : Nat} (ha : a < 256) (ht : t < 256) : ∀ i, (pw a t i).1 < 256 ∧ (pw a t i).2 < 256
  | 0 => ⟨ha, ht⟩
  | i + 1 => ⟨gm_lt _ (pw_lt ha ht i).1, gm_lt _ (pw_lt ha ht i).2⟩
end R
set_option Elab.async false
set_option maxRecDepth 100000
set_option maxHeartbeats 4000000
set_option linter.all false
namespace R
/-! ### the field as a type -/
structure B where
  v : Nat
  h : v < 256
theorem B.ext' : ∀ {x y : B}, x.v = y.v → x = y
  | ⟨_, _⟩, ⟨_, _⟩, rfl => rfl
instance : DecidableEq B := fun x y => if e : x.v = y.v then isTrue (B.ext' e) else isFalse fun z => e (by rw [z])
instance : Add B := ⟨fun x y => ⟨x.v ^^^ y.v, xlt x.h y.h⟩⟩
instance : Mul B := ⟨fun x y => ⟨gm x.v y.v, gm_lt y.v x.h⟩⟩
def b0 : B := ⟨0, by decide⟩
def b1 : B := ⟨1, by decide⟩
def B.inv (x : B) : B := if h : x.v = 0 then b0 else ⟨iv x.v, (iv_ok x.h h).2.2⟩
namespace B
theorem add_v (x y : B) : (x + y).v = x.v ^^^ y.v := rfl
theorem mul_v (x y : B) : (x * y).v = gm x.v y.v := rfl
theorem add_comm (x y : B) : x + y = y + x := ext' (Nat.xor_comm ..)
theorem add_assoc (x y z : B) : x + y + z = x + (y + z) := ext' (Nat.xor_assoc ..)
theorem add_self (x : B) : x + x = b0 := ext' (Nat.xor_self _)
theorem add_zero (x : B) : x + b0 = x := ext' (Nat.xor_zero _)
theorem zero_add (x : B) : b0 + x = x := ext' (Nat.zero_xor _)
theorem add_eq {x y : B} (h : x + y = b0) : x = y := by
  have e : x + y + y = b0 + y := by rw [h]
  rw [add_assoc, add_self, add_zero, zero_add] at e
  exact e
theorem add_left (x y z : B) : x + (y + z) = y + (x + z) := by rw [← add_assoc, add_comm x y, add_assoc]
theorem mul_comm (x y : B) : x * y = y * x := ext' (gm_comm x.h y.h)
theorem mul_assoc (x y z : B) : x * y * z = x * (y * z) := ext' (gm_assoc x.h y.h z.h).symm
theorem mul_left (x y z : B) : x * (y * z) = y * (x * z) := by rw [← mul_assoc, mul_comm x y, mul_assoc]
theorem add_mul (x y z : B) : (x + y) * z = x * z + y * z := ext' (gm_xor z.v x.h y.h)
theorem mul_add (x y z : B) : x * (y + z) = x * y + x * z := by rw [mul_comm, add_mul, mul_comm y, mul_comm z]
theorem mul_zero (x : B) : x * b0 = b0 := ext' (gm_zero_r x.v)
theorem zero_mul (x : B) : b0 * x = b0 := ext' (gm_zero_l x.v)
theorem one_mul (x : B) : b1 * x = x := ext' (gm_one_l x.h)
theorem mul_one (x : B) : x * b1 = x := by rw [mul_comm, one_mul]
theorem mul_inv {x : B} (h : x ≠ b0) : x * x.inv = b1 := by
  have hv : ¬ x.v = 0 := fun e => h (ext' e)
  unfold inv
  rw [dif_neg hv]
  exact ext' (iv_ok x.h hv).1
theorem one_ne : b1 ≠ b0 := fun h => by have := congrArg B.v h; exact absurd this (by decide)
theorem mul_ne {x y : B} (hx : x ≠ b0) (hy : y ≠ b0) : x * y ≠ b0 := fun h => by
  have e : x.inv * (x * y) = x.inv * b0 := by rw [h]
  rw [mul_zero, ← mul_assoc, mul_comm x.inv, mul_inv hx, one_mul] at e
  exact hy e
theorem inv_one : b1.inv = b1 := by
  have h := mul_inv one_ne
  rw [one_mul] at h
  exact h
theorem mul_eq_one {x y : B} (h : x * y = b1) : y = x.inv := by
  have hx : x ≠ b0 := fun e => by rw [e, zero_mul] at h; exact one_ne h.symm
  have e : x.inv * (x * y) = x.inv * b1 := by rw [h]
  rw [mul_one, ← mul_assoc, mul_comm x.inv, mul_inv hx, one_mul] at e
  exact e
theorem inv_ne {x : B} (h : x ≠ b0) : x.inv ≠ b0 := fun e => by
  have k := mul_inv h
  rw [e, mul_zero] at k
  exact one_ne k.symm
theorem add_ne {x y : B} (h : x ≠ y) : x + y ≠ b0 := fun e => h (add_eq e)
end B
/-! ### polynomials: functions of degree below d -/
def Pl : Nat → (B → B) → Prop
  | 0, f => ∀ x, f x = b0
  | d + 1, f => ∃ (c : B) (g : B → B), Pl d g ∧ ∀ x, f x = c + x * g x
namespace Pl
theorem congr {f g : B → B} (e : ∀ x, f x = g x) : ∀ {d : Nat}, Pl d f → Pl d g
  | 0, h => fun x => (e x).symm.trans (h x)
  | _ + 1, ⟨c, p, hp, h⟩ => ⟨c, p, hp, fun x => (e x).symm.trans (h x)⟩
theorem up {f : B → B} : ∀ {d : Nat}, Pl d f → Pl (d + 1) f
  | 0, h => ⟨b0, fun _ => b0, fun _ => rfl, fun x => by rw [h x, B.mul_zero, B.add_zero]⟩
  | _ + 1, ⟨c, p, hp, h⟩ => ⟨c, p, up hp, h⟩
theorem add {f g : B → B} : ∀ {d : Nat}, Pl d f → Pl d g → Pl d (fun x => f x + g x)
  | 0, h, k => fun x => by show f x + g x = b0; rw [h x, k x, B.add_zero]
  | _ + 1, ⟨c, p, hp, h⟩, ⟨c', p', hp', h'⟩ => ⟨c + c', fun x => p x + p' x, add hp hp', fun x => by
      show f x + g x = c + c' + x * (p x + p' x)
      rw [h x, h' x, B.mul_add, B.add_assoc, B.add_assoc, B.add_left (x * p x)]⟩
theorem smul {f : B → B} (a : B) : ∀ {d : Nat}, Pl d f → Pl d (fun x => a * f x)
  | 0, h => fun x => by show a * f x = b0; rw [h x, B.mul_zero]
  | _ + 1, ⟨c, p, hp, h⟩ => ⟨a * c, fun x => a * p x, smul a hp, fun x => by
      show a * f x = a * c + x * (a * p x)
      rw [h x, B.mul_add, B.mul_left a x]⟩
theorem lin {f : B → B} {d : Nat} (j : B) (h : Pl d f) : Pl (d + 1) (fun x => f x * (x + j)) := by
  have h1 : Pl (d + 1) (fun x => x * f x) := ⟨b0, f, h, fun x => by rw [B.zero_add]⟩
  have h2 : Pl (d + 1) (fun x => j * f x) := (smul j h).up
  exact congr (fun x => by show x * f x + j * f x = f x * (x + j); rw [B.mul_comm (f x), B.add_mul]) (h1.add h2)
/-- what f is but for its value at a -/
theorem split {f : B → B} (a : B) : ∀ {d : Nat}, Pl (d + 1) f → ∃ g, Pl d g ∧ ∀ x, f x + f a = (x + a) * g x
  | 0, ⟨c, p, hp, h⟩ => ⟨fun _ => b0, fun _ => rfl, fun x => by rw [h x, h a, hp x, hp a, B.mul_zero, B.mul_zero, B.mul_zero, B.add_self]⟩
  | d + 1, ⟨c, p, hp, h⟩ => by
    obtain ⟨q, hq, e⟩ := split a hp
    refine ⟨fun x => p x + a * q x, hp.add (smul a hq).up, fun x => ?_⟩
    show f x + f a = (x + a) * (p x + a * q x)
    have e1 : p x = p a + (x + a) * q x := by
      rw [← e x, B.add_comm (p x), ← B.add_assoc, B.add_self, B.zero_add]
    rw [h x, h a, B.mul_add, B.mul_left (x + a) a, B.add_mul x a (p x)]
    have e2 : a * p x = a * p a + a * ((x + a) * q x) := by rw [← B.mul_add, ← e1]
    rw [e2]
    rw [B.add_assoc c, B.add_left (x * p x) c, ← B.add_assoc c c, B.add_self, B.zero_add, B.add_assoc (x * p x)]
    rw [B.add_assoc (a * p a), B.add_self, B.add_zero]
theorem zero {f : B → B} : ∀ {d : Nat} {S : List B}, Pl d f → S.Nodup → d ≤ S.length → (∀ a ∈ S, f a = b0) → ∀ x, f x = b0
  | 0, _, h, _, _, _ => h
  | d + 1, [], _, _, l, _ => absurd l (by simp)
  | d + 1, a :: S, h, nd, l, r => by
    obtain ⟨g, hg, e⟩ := split a h
    have ha : f a = b0 := r a (List.mem_cons_self ..)
    have e' : ∀ x, f x = (x + a) * g x := fun x => by rw [← e x, ha, B.add_zero]
    have nd' := List.nodup_cons.mp nd
    have hz : ∀ x, g x = b0 := zero hg nd'.2 (by simpa using l) fun b hb => by
      by_cases z : g b = b0
      · exact z
      · have k := r b (List.mem_cons_of_mem _ hb)
        rw [e' b] at k
        exact absurd k (B.mul_ne (B.add_ne fun q => nd'.1 (q ▸ hb)) z)
    intro x
    rw [e' x, hz x, B.mul_zero]
end Pl
/-! ### weights -/
def above (x i : B) : List B → B → B
  | [], t => t
  | j :: L, t => above x i L (if j ≠ i then t * (x + j) else t)
def wB (x : B) (L : List B) (i : B) : B := above x i L b1 * (above i i L b1).inv
def sumB {α : Type} (f : α → B) : List α → B
  | [] => b0
  | a :: L => f a + sumB f L
theorem above_mul (x i : B) : ∀ (L : List B) (s t : B), above x i L (s * t) = s * above x i L t
  | [], _, _ => rfl
  | j :: L, s, t => by
    show above x i L (if j ≠ i then s * t * (x + j) else s * t) = s * above x i L (if j ≠ i then t * (x + j) else t)
    by_cases h : j ≠ i
    · rw [if_pos h, if_pos h, B.mul_assoc, above_mul]
    · rw [if_neg h, if_neg h, above_mul]
theorem above_ne {i : B} : ∀ (L : List B) (t : B), t ≠ b0 → above i i L t ≠ b0
  | [], _, h => h
  | j :: L, t, h => by
    show above i i L (if j ≠ i then t * (i + j) else t) ≠ b0
    by_cases k : j ≠ i
    · rw [if_pos k]; exact above_ne L _ (B.mul_ne h (B.add_ne (Ne.symm k)))
    · rw [if_neg k]; exact above_ne L _ h
theorem above_zero {x i : B} (h : x ≠ i) : ∀ (L : List B) (t : B), x ∈ L → above x i L t = b0
  | j :: L, t, hm => by
    show above x i L (if j ≠ i then t * (x + j) else t) = b0
    have zr : ∀ (M : List B), above x i M b0 = b0 := fun M => by
      have e := above_mul x i M b0 b0
      rw [B.mul_zero, B.zero_mul] at e
      exact e
    rcases List.mem_cons.mp hm with e | e
    · subst e
      rw [if_pos h, B.add_self, B.mul_zero, zr]
    · exact above_zero h L _ e
theorem wB_self {L : List B} {i : B} : wB i L i = b1 := B.mul_inv (above_ne L _ B.one_ne)
theorem wB_other {L : List B} {x i : B} (h : x ≠ i) (hx : x ∈ L) : wB x L i = b0 := by
  unfold wB
  rw [above_zero h L _ hx, B.zero_mul]
theorem above_pl {i : B} : ∀ (L : List B) (f : B → B) (d : Nat), Pl d f → Pl (d + (L.filter (fun j => decide (j ≠ i))).length) (fun x => above x i L (f x))
  | [], f, d, h => h
  | j :: L, f, d, h => by
    show Pl _ (fun x => above x i L (if j ≠ i then f x * (x + j) else f x))
    by_cases k : j ≠ i
    · have e : ((j :: L).filter (fun j => decide (j ≠ i))).length = (L.filter (fun j => decide (j ≠ i))).length + 1 := by
        rw [List.filter_cons, if_pos (decide_eq_true k)]; rfl
      rw [e, show d + ((L.filter (fun j => decide (j ≠ i))).length + 1) = (d + 1) + (L.filter (fun j => decide (j ≠ i))).length by omega]
      refine Pl.congr (fun x => ?_) (above_pl L (fun x => f x * (x + j)) (d + 1) (Pl.lin j h))
      rw [if_pos k]
    · have e : ((j :: L).filter (fun j => decide (j ≠ i))).length = (L.filter (fun j => decide (j ≠ i))).length := by
        rw [List.filter_cons, if_neg (by simpa using k)]
      rw [e]
      refine Pl.congr (fun x => ?_) (above_pl L f d h)
      rw [if_neg k]
theorem filter_len {i : B} : ∀ {L : List B}, L.Nodup → i ∈ L → (L.filter (fun j => decide (j ≠ i))).length + 1 = L.length
  | j :: L, nd, hm => by
    have nd' := List.nodup_cons.mp nd
    by_cases k : j ≠ i
    · rw [List.filter_cons, if_pos (decide_eq_true k)]
      have : i ∈ L := by rcases List.mem_cons.mp hm with e | e; exact absurd e.symm k; exact e
      show (L.filter (fun j => decide (j ≠ i))).length + 1 + 1 = L.length + 1
      rw [filter_len nd'.2 this]
    · have k' : j = i := by simpa using k
      subst k'
      rw [List.filter_cons, if_neg (by simp)]
      have : L.filter (fun x => decide (x ≠ j)) = L := List.filter_eq_self.mpr fun b hb => decide_eq_true fun e => nd'.1 (e ▸ hb)
      rw [this]; rfl
theorem wB_pl {L : List B} {i : B} (nd : L.Nodup) (hi : i ∈ L) : Pl L.length (fun x => wB x L i) := by
  have h1 : Pl 1 (fun _ => b1) := ⟨b1, fun _ => b0, fun _ => rfl, fun x => by rw [B.mul_zero, B.add_zero]⟩
  have h2 := above_pl (i := i) L (fun _ => b1) 1 h1
  rw [Nat.add_comm, filter_len nd hi] at h2
  exact Pl.congr (fun x => B.mul_comm _ _) (Pl.smul (above i i L b1).inv h2)
theorem sum_pl {α : Type} {d : Nat} {g : α → B → B} : ∀ {L : List α}, (∀ a ∈ L, Pl d (g a)) → Pl d (fun x => sumB (fun a => g a x) L)
  | [], _ => by
    have : ∀ d, Pl d (fun _ => b0) := fun d => by
      induction d with
      | zero => exact fun _ => rfl
      | succ d ih => exact ih.up
    exact this d
  | a :: L, h => Pl.add (h a (List.mem_cons_self ..)) (sum_pl fun b hb => h b (List.mem_cons_of_mem _ hb))
theorem sum_zero {α : Type} {f : α → B} : ∀ {L : List α}, (∀ a ∈ L, f a = b0) → sumB f L = b0
  | [], _ => rfl
  | a :: L, h => by
    show f a + sumB f L = b0
    rw [h a (List.mem_cons_self ..), sum_zero fun b hb => h b (List.mem_cons_of_mem _ hb), B.add_zero]
theorem sum_congr {α : Type} {f g : α → B} : ∀ {L : List α}, (∀ a ∈ L, f a = g a) → sumB f L = sumB g L
  | [], _ => rfl
  | a :: L, h => by
    show f a + sumB f L = g a + sumB g L
    rw [h a (List.mem_cons_self ..), sum_congr fun b hb => h b (List.mem_cons_of_mem _ hb)]
theorem sum_pick {f : B → B} {y : B} : ∀ {L : List B}, L.Nodup → y ∈ L → sumB (fun i => wB y L i * f i) L = f y := by
  have key : ∀ {M L : List B}, M.Nodup → (∀ b ∈ M, b ∈ L) → y ∈ L → sumB (fun i => wB y L i * f i) M = if y ∈ M then f y else b0 := by
    intro M L
    induction M with
    | nil => intro _ _ _; rfl
    | cons a M ih =>
      intro nd hs hy
      have nd' := List.nodup_cons.mp nd
      show wB y L a * f a + sumB (fun i => wB y L i * f i) M = _
      rw [ih nd'.2 (fun b hb => hs b (List.mem_cons_of_mem _ hb)) hy]
      by_cases e : y = a
      · subst e
        rw [wB_self, B.one_mul, if_neg nd'.1, if_pos (List.mem_cons_self ..), B.add_zero]
      · rw [wB_other e hy, B.zero_mul, B.zero_add]
        by_cases m : y ∈ M
        · rw [if_pos m, if_pos (List.mem_cons_of_mem _ m)]
        · rw [if_neg m, if_neg (by simp [e, m])]
  intro L nd hy
  rw [key nd (fun _ h => h) hy, if_pos hy]
/-- a polynomial is known from as many places as its degree's bound -/
theorem interp {L : List B} {f : B → B} (nd : L.Nodup) (hf : Pl L.length f) (x : B) : sumB (fun i => wB x L i * f i) L = f x := by
  have hp : Pl L.length (fun x => sumB (fun i => wB x L i * f i) L) := sum_pl fun i hi => Pl.congr (fun x => B.mul_comm _ _) (Pl.smul (f i) (wB_pl nd hi))
  have hz := Pl.zero (hp.add hf) nd (Nat.le_refl _) fun a ha => by
    show sumB (fun i => wB a L i * f i) L + f a = b0
    rw [sum_pick nd ha, B.add_self]
  exact B.add_eq (hz x)
end R
set_option Elab.async false
set_option linter.all false
set_option maxRecDepth 100000
set_option maxHeartbeats 4000000
namespace R
open PySem PySem.Spec L2
open Evl (Ex)
/-! ### bytes, sectors, words -/
def pl (n : Nat) : B := ⟨n % 256, Nat.mod_lt _ (by decide)⟩
theorem pl_v {n : Nat} (h : n < 256) : (pl n).v = n := Nat.mod_eq_of_lt h
theorem pl_inj {m n : Nat} (hm : m < 256) (hn : n < 256) (h : pl m = pl n) : m = n := by
  have := congrArg B.v h
  rw [pl_v hm, pl_v hn] at this
  exact this
theorem B.pl_eq (b : B) : pl b.v = b := B.ext' (Nat.mod_eq_of_lt b.h)
def bsV (L : List B) : List V := L.map fun b => V.int b.v
def bl (f : Nat → B) : List V := (List.range 32).map fun t => V.int (f t).v
def SecAt (H : Hp) (v : V) (f : Nat → B) : Prop := ∃ p, v = .ref p ∧ H p = some (.lst (bl f))
theorem SecAt.ex {H H' : Hp} {v : V} {f : Nat → B} (e : Ex H H') (h : SecAt H v f) : SecAt H' v f := by
  obtain ⟨p, rfl, h⟩ := h
  exact ⟨p, rfl, e _ _ h⟩
theorem bl_get (f : Nat → B) {t : Nat} (h : t < 32) : (bl f)[t]? = some (V.int (f t).v) := by
  unfold bl
  rw [List.getElem?_map, List.getElem?_range h]
  rfl
theorem bl_len (f : Nat → B) : (bl f).length = 32 := by unfold bl; rw [List.length_map, List.length_range]
theorem bl_congr {f g : Nat → B} (h : ∀ t, t < 32 → f t = g t) : bl f = bl g := by
  unfold bl
  refine List.map_congr_left fun t ht => ?_
  rw [h t (List.mem_range.mp ht)]
theorem gm_pow {a i : Nat} (ha : a < 256) (hi : i < 8) : gm a (2 ^ i) = dp a i := by
  have h : allLt (fun a => allLt (fun i => Nat.beq (gm a (2 ^ i)) (dp a i)) 8) 256 = true := by decide +kernel
  exact Nat.eq_of_beq_eq_true (allLt_of (allLt_of h a ha) i hi)
theorem pl_add {i k : Nat} (hi : i < 8) (hk : k < 2 ^ i) : pl (2 ^ i + k) = pl (2 ^ i) + pl k := by
  have h : allLt (fun i => allLt (fun k => Nat.ble (2 ^ i) k || Nat.beq ((2 ^ i + k) % 256) ((2 ^ i % 256) ^^^ (k % 256))) 128) 8 = true := by decide +kernel
  have hk2 : k < 128 := Nat.lt_of_lt_of_le hk (show 2 ^ i ≤ 2 ^ 7 from Nat.pow_le_pow_right (by decide) (by omega))
  have e := allLt_of (allLt_of h i hi) k hk2
  rw [Bool.or_eq_true] at e
  rcases e with e | e
  · exact absurd (Nat.le_of_ble_eq_true e) (by omega)
  · exact B.ext' (Nat.eq_of_beq_eq_true e)
end R
set_option Elab.async false
set_option linter.all false
set_option maxRecDepth 100000
set_option maxHeartbeats 4000000
namespace R
open PySem PySem.Spec L2
open Evl (Ex)
/-! ### defs that may raise, methods -/
def CalX (P : Program) (w : World) (K : PySem.W.Frag) (mg : Str → Option Value) (base : Heap) (k : Nat) (x : Str) (ps : List Str) (sp : Sp) : Prop :=
  ∃ (f : Addr) (fd : FuncData), FnOk P w K mg base (L2.CX P w) k f fd ps sp ∧ mg x = some (.ref f) ∧ PySem.W.keepIn K (.ref f) = true ∧ Binds K fd ps []
def MetX (P : Program) (w : World) (K : PySem.W.Frag) (mg : Str → Option Value) (base : Heap) (k : Nat) (C : Addr) (m : Str) (ps : List Str) (sp : Sp) : Prop :=
  ∃ (f : Addr) (fd : FuncData), FnOk P w K mg base (L2.CX P w) k f fd ps sp ∧ Cls K C ∧ Meth K C m f ∧ Binds K fd ps []
def MakX (P : Program) (w : World) (K : PySem.W.Frag) (mg : Str → Option Value) (base : Heap) (k : Nat) (C : Addr) (x : Str) (ps : List Str) (sp : Sp) : Prop :=
  ∃ (f : Addr) (fd : FuncData), FnOk P w K mg base (L2.CX P w) k f fd ps sp ∧ Mk K C f ∧ mg x = some (.ref C) ∧ Binds K fd ps []
theorem FnOk.toX {P : Program} {w : World} {K : PySem.W.Frag} {mg : Str → Option Value} {base : Heap} {k : Nat} {f : Addr} {fd : FuncData} {ps : List Str} {sp : Sp} (F : FnOk P w K mg base CX0 k f fd ps sp) : FnOk P w K mg base (L2.CX P w) k f fd ps sp :=
  ⟨F.len, fun A outer s H args us vs Q E hr he hb hv hs => codeAny_mono (F.run A outer s H args us vs Q E hr he hb hv hs) fun r s' h => by
    cases r with
    | error e => exact (show False from h).elim
    | ok fl => cases fl <;> exact h⟩
section
variable {X : Cx} {k : Nat} {x m : Str} {C : Addr} {ps : List Str} {sp : Sp} {t : TA} {te : TE} {o e : Expr} {es : List Expr} {p pos apos : Pos} {E : L2.St → XK} {E1 : XK}
/-- nothing is raised -/
theorem xp0 : ∀ σ, PassesAt (L2.CX X.prog X.w) X σ E0 := fun σ pins H s e s' I c => passL pins σ H s e s' I c
/-- what is raised goes out -/
theorem xpX (tk : Takes X (fun cls d _ H => E1 cls d H)) : ∀ σ, PassesAt (L2.CX X.prog X.w) X σ E1 := fun σ pins H s e s' I c => passes_call tk (fun _ _ _ _ h => h) pins σ H s e s' I c
theorem pe_calE (c : CalX X.prog X.w X.K X.mg X.base k x ps sp) (hr : Room k X.A) (hg : Gl X x) (hx : ∀ σ, PassesAt (L2.CX X.prog X.w) X σ (E σ)) (ha : PA X (e :: es) t)
    (hdb : (x == ("__debug__" : Str)) = false := by decide) (he : starEach (e :: es) X.env = (false, eval e X.env) :: starEach es X.env := by rfl) (hpl : (backTo pos (starEach es X.env)).any (·.1) = false := by rfl) :
    PE X (.Call (.Name x p) (e :: es) [] pos) (tCallS sp E t) := by
  obtain ⟨f, fd, G, g, kp, b⟩ := c
  exact pe_callS (p := p) (pos := pos) G hr hg g kp b hx ha hdb he hpl
/-- o.m(..) of an instance of the class at C -/
def kMet (C : Addr) (m : Str) (sp : Sp) (E : L2.St → XK) (t : TA) (σ : L2.St) (Q : VK) : VK := fun x H1 => ∃ a dx fs, x = .ref a ∧ H1 a = some (.ins C dx fs) ∧ fs.lookup m = none ∧ t σ H1 fun vs H2 => sp (x :: vs) H2 Q (E σ)
def tMet (C : Addr) (m : Str) (sp : Sp) (E : L2.St → XK) (te : TE) (t : TA) : TE := fun σ H Q => te σ H (kMet C m sp E t σ Q)
theorem pe_metE {pl : Sem Bool} (c : MetX X.prog X.w X.K X.mg X.base k C m ps sp) (hr : Room k X.A) (hx : ∀ σ, PassesAt (L2.CX X.prog X.w) X σ (E σ)) (ho : PE X o te) (ha : PA X (e :: es) t)
    (hst : starEach (e :: es) X.env = (false, eval e X.env) :: starEach es X.env := by rfl) (hpl : (backTo pos (starEach es X.env)).any (·.1) = false := by rfl)
    (ht : eval (.Call (.Attribute o m apos) (e :: es) [] pos) X.env = (do let ov ← eval o X.env; standAt apos.atName; let (f, first) ← holding [ov] (getMethod ov m pl); callWith pos f first (backTo pos (starEach (e :: es) X.env)) (backToKw pos (keywordEach [] X.env))) := by rfl) :
    PE X (.Call (.Attribute o m apos) (e :: es) [] pos) (tMet C m sp E te t) := by
  obtain ⟨f, fd, G, c, hm, b⟩ := c
  refine ⟨fun pins s σ H Q I h => ?_⟩
  refine PySem.W.methodCall_KW (pl := pl) (thn (ho.run pins s σ H _ I h) fun u s1 hh => ?_) ht
  obtain ⟨x, H1, I1, rx, a, dx, fs, ex, ea, l, q⟩ := hh
  subst ex
  cases (show u = Value.ref a from rx)
  refine getmeth_ok I1 ea c hm l (PySem.W.callWith_K (first := [.ref a]) (h₀ := X.base) I1.ok.mod.kin hm.kp ?_ hst hpl)
  exact thn (ha.run pos pins s1 σ H1 _ I1 q) fun us s2 hh => by
    obtain ⟨vs, H2, I2, r, q2⟩ := hh
    exact ⟨I2.kIn, run_fnS (us := .ref a :: us) (vs := .ref a :: vs) G hr b (hx σ) I2 (.cons rfl r) q2⟩
theorem pe_metE0 {pl : Sem Bool} (c : MetX X.prog X.w X.K X.mg X.base k C m ps sp) (hr : Room k X.A) (hx : ∀ σ, PassesAt (L2.CX X.prog X.w) X σ (E σ)) (ho : PE X o te)
    (ht : eval (.Call (.Attribute o m apos) [] [] pos) X.env = (do let ov ← eval o X.env; standAt apos.atName; let (f, first) ← holding [ov] (getMethod ov m pl); callWith pos f first (backTo pos (starEach [] X.env)) (backToKw pos (keywordEach [] X.env))) := by rfl) :
    PE X (.Call (.Attribute o m apos) [] [] pos) (tMet C m sp E te tNil) := by
  obtain ⟨f, fd, G, c, hm, b⟩ := c
  refine ⟨fun pins s σ H Q I h => ?_⟩
  refine PySem.W.methodCall_KW (pl := pl) (thn (ho.run pins s σ H _ I h) fun u s1 hh => ?_) ht
  obtain ⟨x, H1, I1, rx, a, dx, fs, ex, ea, l, q⟩ := hh
  subst ex
  cases (show u = Value.ref a from rx)
  exact getmeth_ok I1 ea c hm l (PySem.W.callWith_K0 (first := [.ref a]) I1.kIn hm.kp (run_fnS (us := [.ref a]) (vs := [.ref a]) G hr b (hx σ) I1 (.cons rfl .nil) q))
/-- C(..), which raises nothing here -/
def kMak (C : Addr) (sp : Sp) (Q : VK) : List V → Hp → Prop := fun vs H1 => ∀ x dx, H1 x = none → H1 dx = none → dx ≠ x → sp (.ref x :: vs) (upd (upd H1 dx (.own x)) x (.ins C dx [])) (fun v H2 => v = .non ∧ Q (.ref x) H2) E0
def tMak (C : Addr) (sp : Sp) (t : TA) : TE := fun σ H Q => t σ H (kMak C sp Q)
theorem pe_makE (c : MakX X.prog X.w X.K X.mg X.base k C x ps sp) (hr : Room (k + 1) X.A) (hg : Gl X x) (ha : PA X (e :: es) t) (hdb : (x == ("__debug__" : Str)) = false := by decide)
    (he : starEach (e :: es) X.env = (false, eval e X.env) :: starEach es X.env := by rfl) (hpl : (backTo pos (starEach es X.env)).any (·.1) = false := by rfl) : PE X (.Call (.Name x p) (e :: es) [] pos) (tMak C sp t) := by
  obtain ⟨f, fd, G, M, g, b⟩ := c
  have h := pe_make (p := p) (pos := pos) M G hr hg g b .nil passL ha hdb he hpl
  unfold tMake at h
  simp only [List.append_nil] at h
  exact h
theorem pe_makE0 (c : MakX X.prog X.w X.K X.mg X.base k C x ps sp) (hr : Room (k + 1) X.A) (hg : Gl X x) (hdb : (x == ("__debug__" : Str)) = false := by decide) : PE X (.Call (.Name x p) [] [] pos) (tMak C sp tNil) := by
  obtain ⟨f, fd, G, M, g, b⟩ := c
  have h := pe_make0 (p := p) (pos := pos) M G hr hg g b .nil passL hdb
  unfold tMake at h
  simp only [List.append_nil] at h
  exact h
/-- an exception class of the program, without a def -/
structure ExT (K : PySem.W.Frag) (mg : Str → Option Value) (x : Str) (C : Addr) : Prop where
  g : mg x = some (.ref C)
  x : PySem.W.excIn K C [.type "ValueError", .type "Exception", .type "BaseException", .type "object"] "ValueError.__new__" = true
  k : PySem.W.keepIn K (.ref C) = true
  b : PySem.W.subIn K (.ref C) (.type "BaseException") = some true
  t : PySem.W.typeIn K (.ref C) = some (.type "type")
  i : PySem.W.isClsIn K C = true
  s : PySem.W.subIn K (.ref C) (.ref C) = some true
def tRai (C : Addr) (W : WX) : TS := fun _ σ H => W (.ref C) none σ H
theorem iRai {C : Addr} {W : WX} {D : Ends} {σ : L2.St} {H : Hp} (q : W (.ref C) none σ H) : tRai C W D σ H := q
theorem ps_rai {ms : Str} {jj : Nat} {p2 pos2 : Pos} {W : WX} (T : ExT X.K X.mg x C) (tk : Takes X W) (hc : X.calm = true := by rfl) (hg : Gl X x := by rfl) (hdb : (x == ("__debug__" : Str)) = false := by decide) :
    PS X (.Raise (some (.Call (.Name x p) [.Constant (.str ms) jj p2] [] pos)) none pos2) (tRai C W) :=
  ps_raise hc tk (pmk_own PySem.F.excBase_ValueError T.x T.g T.k (raises_own T.b T.t) hg hdb)
/-- o.append(..), o any expression of a tracked list -/
theorem pe_bmE {name : Str} {id : String} {cpos : Pos} {r : V → List V → Hp → VK → Prop}
    (slot : Slot "list" name id) (hty : typeOf (.builtin id) = pure (.type "method_descriptor")) (hm : MtR X id r) (ho : PE X o te) (ha : PA X (e :: es) t)
    (hbase : attributeBase o name X.env (eval o X.env) = eval o X.env := by rfl)
    (hfew : ((backTo cpos (starEach (e :: es) X.env)).all (fun x => !x.1) && (backToKw cpos (keywordEach [] X.env)).all (fun x => x.1.isSome)
      && decide ((e :: es).length + ([] : List Keyword).length + (if ([] : List Keyword).isEmpty then 0 else 1) < 30)) = true := by rfl)
    (hline : (apos.endLine == cpos.line) = true := by rfl) (hs : starEach (e :: es) X.env = (false, eval e X.env) :: starEach es X.env := by rfl) (hplain : (backTo cpos (starEach es X.env)).any (·.1) = false := by rfl) :
    PE X (.Call (.Attribute o name apos) (e :: es) [] cpos) (kBM r te t) :=
  PE.imp (pe_bmL slot hty hm (pe_mo ho) ha hbase hfew hline hs hplain) fun σ H Q h => ⟨_, h, fun v H' ⟨p, xs, ev, hp, q⟩ => by
    subst ev
    exact ⟨.inl ⟨rfl, xs, SqL.tr hp⟩, q⟩⟩
end
/-! ### readings -/
inductive SetV : List V → Nat → V → List V → Prop
  | zero {x : V} {σ : List V} {v : V} : SetV (x :: σ) 0 v (v :: σ)
  | succ {x : V} {σ σ' : List V} {i : Nat} {v : V} (h : SetV σ i v σ') : SetV (x :: σ) (i + 1) v (x :: σ')
theorem SetV.eq {σ σ' : List V} {i : Nat} {v : V} (h : SetV σ i v σ') : σ.set i v = σ' := by
  induction h with
  | zero => rfl
  | succ _ ih => rw [List.set_cons_succ, ih]
theorem zip_lookup : ∀ {N : List Str} {vs : List V} {i : Nat} {f : Str} {v : V}, N.Nodup → N[i]? = some f → vs[i]? = some v → (N.zip vs).lookup f = some v
  | [], _, _, _, _, _, h, _ => by simp at h
  | n :: N, [], i, _, _, _, _, h => by simp at h
  | n :: N, u :: vs, 0, f, v, _, h, k => by
    cases h
    cases k
    show List.lookup n ((n, u) :: N.zip vs) = some u
    simp only [List.lookup, beq_self_eq_true]
  | n :: N, u :: vs, i + 1, f, v, nd, h, k => by
    have h' : N[i]? = some f := h
    have nf : (f == n) = false := by
      have := (List.nodup_cons.mp nd).1
      exact beq_eq_false_iff_ne.mpr fun e => this (e ▸ List.mem_of_getElem? h')
    show List.lookup f ((n, u) :: N.zip vs) = some v
    simp only [List.lookup, nf]
    exact zip_lookup (List.nodup_cons.mp nd).2 h' k
theorem zip_none : ∀ {N : List Str} {vs : List V} {f : Str}, N.contains f = false → (N.zip vs).lookup f = none
  | [], _, _, _ => rfl
  | n :: N, [], _, _ => rfl
  | n :: N, u :: vs, f, h => by
    rw [List.contains_cons, Bool.or_eq_false_iff] at h
    show List.lookup f ((n, u) :: N.zip vs) = none
    simp only [List.lookup, h.1]
    exact zip_none h.2
theorem zip_put : ∀ {N : List Str} {vs : List V} {i : Nat} {f : Str} {v : V}, N.Nodup → N[i]? = some f → i < vs.length → putF f v (N.zip vs) = N.zip (vs.set i v)
  | [], _, _, _, _, _, h, _ => by simp at h
  | n :: N, [], i, _, _, _, _, h => by simp at h
  | n :: N, u :: vs, 0, f, v, _, h, k => by
    cases h
    show (if n = n then _ else _) = _
    rw [if_pos rfl]
    rfl
  | n :: N, u :: vs, i + 1, f, v, nd, h, k => by
    have h' : N[i]? = some f := h
    have nf : ¬ n = f := fun e => (List.nodup_cons.mp nd).1 (e ▸ List.mem_of_getElem? h')
    show (if n = f then _ else (n, u) :: putF f v (N.zip vs)) = (n, u) :: N.zip (vs.set i v)
    rw [if_neg nf, zip_put (List.nodup_cons.mp nd).2 h' (Nat.lt_of_succ_lt_succ k)]
/-- the first stores, in __init__ -/
theorem zip_new : ∀ {N : List Str} {vs : List V} {f : Str} {v : V}, N.Nodup → N[vs.length]? = some f → putF f v (N.zip vs) = N.zip (vs ++ [v])
  | [], _, _, _, _, h => by simp at h
  | n :: N, [], f, v, _, h => by
    cases h
    simp [putF]
  | n :: N, u :: vs, f, v, nd, h => by
    have h' : N[vs.length]? = some f := h
    have nf : ¬ n = f := fun e => (List.nodup_cons.mp nd).1 (e ▸ List.mem_of_getElem? h')
    show (if n = f then _ else (n, u) :: putF f v (N.zip vs)) = (n, u) :: N.zip (vs ++ [v])
    rw [if_neg nf, zip_new (List.nodup_cons.mp nd).2 h']
section
variable {K : PySem.W.Frag} {σ σ' : L2.St} {H : Hp} {Q : VK} {ta tb te td ty tv : TE} {n b c : L2.St → Hp → Prop} {r : VK} {x y v : V} {i j : Int} {tA : TA} {R : It → Hp → Prop} {QB : Bool → Hp → Prop} {f m : Str} {C dx a : Addr} {N : List Str} {vs vs' : List V} {s : Nat} {sp : Sp} {E : L2.St → XK}
theorem iCalE (q : tA σ H fun vs H1 => sp vs H1 Q (E σ)) : tCallS sp E tA σ H Q := q
theorem iMet (q : te σ H (kMet C m sp E tA σ Q)) : tMet C m sp E te tA σ H Q := q
theorem iMetI {fs : List (Str × V)} (h : H a = some (.ins C dx fs)) (hn : fs.lookup m = none) (q : tA σ H fun vs H2 => sp (.ref a :: vs) H2 Q (E σ)) : kMet C m sp E tA σ Q (.ref a) H := ⟨a, dx, fs, rfl, h, hn, q⟩
theorem iMak (q : tA σ H (kMak C sp Q)) : tMak C sp tA σ H Q := q
def kFld (K : PySem.W.Frag) (f : Str) (Q : VK) : VK := fun x H1 => ∃ a C dx fs v, x = .ref a ∧ H1 a = some (.ins C dx fs) ∧ Cls K C ∧ NoAttr K C f ∧ fs.lookup f = some v ∧ Q v H1
theorem iFld (q : ta σ H (kFld K f Q)) : tFld K ta f σ H Q := q
theorem iFldI (cl : Cls K C) (na : NoAttr K C f) (nd : N.Nodup) (hf : N[s]? = some f) (h : H a = some (.ins C dx (N.zip vs))) (hv : vs[s]? = some v) (q : Q v H) : kFld K f Q (.ref a) H := ⟨a, C, dx, _, v, rfl, h, cl, na, zip_lookup nd hf hv, q⟩
def kSto (K : PySem.W.Frag) (f : Str) (n : L2.St → Hp → Prop) (σ : L2.St) (y : V) : VK := fun x H2 => ∃ a C dx fs, x = .ref a ∧ H2 a = some (.ins C dx fs) ∧ Cls K C ∧ NoAttr K C f ∧ fs.length < 1000 ∧ n σ (upd H2 a (.ins C dx (putF f y fs)))
theorem iSto (q : tv σ H fun y H1 => ta σ H1 (kSto K f n σ y)) : sFld K ta tv f ⟨n, r, b, c⟩ σ H := q
theorem zip_len {N : List Str} {vs : List V} (h : N.length < 1000) : (N.zip vs).length < 1000 := by rw [List.length_zip]; omega
theorem iStoI (cl : Cls K C) (na : NoAttr K C f) (nd : N.Nodup) (hN : N.length < 1000) (hf : N[s]? = some f) (h : H a = some (.ins C dx (N.zip vs))) (hv : SetV vs s y vs') (q : n σ (upd H a (.ins C dx (N.zip vs')))) : kSto K f n σ y (.ref a) H := by
  have hl : s < vs.length := by
    have := hv
    clear q h hf
    induction this with
    | zero => simp
    | succ _ ih => simpa using ih (by assumption)
  exact ⟨a, C, dx, _, rfl, h, cl, na, zip_len hN, by rw [zip_put nd hf hl, hv.eq]; exact q⟩
theorem iStoN (cl : Cls K C) (na : NoAttr K C f) (nd : N.Nodup) (hN : N.length < 1000) (hf : N[s]? = some f) (h : H a = some (.ins C dx (N.zip vs))) (hl : vs.length = s) (q : n σ (upd H a (.ins C dx (N.zip (vs ++ [y]))))) : kSto K f n σ y (.ref a) H :=
  ⟨a, C, dx, _, rfl, h, cl, na, zip_len hN, by subst hl; rw [zip_new nd hf]; exact q⟩
def kAugF (K : PySem.W.Frag) (f : Str) (rd : V → V → Hp → VK → Prop) (tv : TE) (n : L2.St → Hp → Prop) (σ : L2.St) : VK := fun x H1 => ∃ a C dx fs v, x = .ref a ∧ H1 a = some (.ins C dx fs) ∧ Cls K C ∧ NoAttr K C f ∧ fs.lookup f = some v ∧
  tv σ H1 fun y H2 => rd v y H2 fun z H3 => ∃ dx' fs', H3 a = some (.ins C dx' fs') ∧ fs'.length < 1000 ∧ n σ (upd H3 a (.ins C dx' (putF f z fs')))
theorem iAugF {rd : V → V → Hp → VK → Prop} (q : ta σ H (kAugF K f rd tv n σ)) : sFldAug K ta tv rd f ⟨n, r, b, c⟩ σ H := q
/-- self.f += 1, an int -/
theorem iAugFI {rd : V → V → Hp → VK → Prop} {vs' : V → List V} (cl : Cls K C) (na : NoAttr K C f) (nd : N.Nodup) (hN : N.length < 1000) (hf : N[s]? = some f) (h : H a = some (.ins C dx (N.zip vs))) (hv : vs[s]? = some v) (q : rd v (.int j) H fun z H3 => ∃ dx' fs', H3 a = some (.ins C dx' fs') ∧ fs'.length < 1000 ∧ n σ (upd H3 a (.ins C dx' (putF f z fs')))) : kAugF K f rd (tC (.int j)) n σ (.ref a) H :=
  ⟨a, C, dx, _, v, rfl, h, cl, na, zip_lookup nd hf hv, q⟩
theorem iAugP {k : Int} (cl : Cls K C) (na : NoAttr K C f) (nd : N.Nodup) (hN : N.length < 1000) (hf : N[s]? = some f) (h : H a = some (.ins C dx (N.zip vs))) (hv : vs[s]? = some (.int k)) (hs : SetV vs s (.int (k + j)) vs') (q : n σ (upd H a (.ins C dx (N.zip vs')))) : kAugF K f L2.rAdd (tC (.int j)) n σ (.ref a) H := by
  have hl : s < vs.length := (List.getElem?_eq_some_iff.mp hv).1
  exact ⟨a, C, dx, _, _, rfl, h, cl, na, zip_lookup nd hf hv, k, j, rfl, rfl, dx, _, h, zip_len hN, by rw [zip_put nd hf hl, hs.eq]; exact q⟩
theorem iAugM {k : Int} (cl : Cls K C) (na : NoAttr K C f) (nd : N.Nodup) (hN : N.length < 1000) (hf : N[s]? = some f) (h : H a = some (.ins C dx (N.zip vs))) (hv : vs[s]? = some (.int k)) (hs : SetV vs s (.int (k - j)) vs') (q : n σ (upd H a (.ins C dx (N.zip vs')))) : kAugF K f L2.rSub (tC (.int j)) n σ (.ref a) H := by
  have hl : s < vs.length := (List.getElem?_eq_some_iff.mp hv).1
  exact ⟨a, C, dx, _, _, rfl, h, cl, na, zip_lookup nd hf hv, k, j, rfl, rfl, dx, _, h, zip_len hN, by rw [zip_put nd hf hl, hs.eq]; exact q⟩
/-- o.append(..) -/
def kBMv (rr : V → List V → Hp → VK → Prop) (tA : TA) (σ : L2.St) (Q : VK) : VK := fun x H1 => ∃ p xs, x = .ref p ∧ H1 p = some (.lst xs) ∧ tA σ H1 fun ys H2 => rr x ys H2 Q
theorem iBM {rr : V → List V → Hp → VK → Prop} (q : te σ H (kBMv rr tA σ Q)) : kBM rr te tA σ H Q := q
theorem iBMv {rr : V → List V → Hp → VK → Prop} {p : Addr} {xs : List V} (h : H p = some (.lst xs)) (q : tA σ H fun ys H2 => rr (.ref p) ys H2 Q) : kBMv rr tA σ Q (.ref p) H := ⟨p, xs, rfl, h, q⟩
/-- reversed(xs) -/
def kRev (K : PySem.W.Frag) (R : It → Hp → Prop) : List V → Hp → Prop := fun vs H1 => ∃ (a : Addr) (xs : List V), vs = [.ref a] ∧ SqL K H1 a xs ∧ R (Itv K a xs.length) H1
theorem iRev1 (q : tA σ H (kRev K R)) : iRev K tA σ H R := q
theorem iRevI {p : Addr} {xs : List V} (h : H p = some (.lst xs)) (q : R (Itv K p xs.length) H) : kRev K R [.ref p] H := ⟨p, xs, rfl, SqL.tr h, q⟩
/-- a text's key -/
theorem iDIs {a : Addr} {kvs : List (Key × V)} {z : Str} (h : H a = some (.dK kvs)) (q : Q (.bl (valV kvs (.inr z : Key)).isSome) H) : kDI Q (.str z) (.ref a) H := ⟨a, _, rfl, DGet.k (k := Sum.inr z) h, q⟩
theorem iDPs {a : Addr} {kvs : List (Key × V)} {z : Str} (h : H a = some (.dK kvs)) (hl : kvs.length < 100000) (q : n σ (upd H a (.dK (putK kvs (.inr z) v)))) : kDP n σ v (.ref a) (.str z) H := ⟨a, _, rfl, DPut.k (k := Sum.inr z) h (Evl.sz_lt hl), q⟩
/-- None == 0 -/
theorem iEqZ {i : Int} (e : scal V.non (V.int i) = true) (q : Q (.bl false) H) : rEq .non (.int i) H Q := ⟨e, by rw [decide_eq_false (by intro z; cases z)]; exact q⟩
theorem iCut2 {ts us : TS} (Mid : L2.St → Hp → Prop) (q1 : ts ⟨Mid, r, b, c⟩ σ H) (q2 : ∀ σ' H', Mid σ' H' → us ⟨n, r, b, c⟩ σ' H') : Evl.tCut ts us ⟨n, r, b, c⟩ σ H := ⟨Mid, q1, q2⟩
theorem mergeK_nodup : ∀ (more kvs : List (Key × V)), ((kvs ++ more).map (·.1)).Nodup → mergeK kvs more = kvs ++ more
  | [], kvs, _ => by rw [List.append_nil]; rfl
  | kv :: more, kvs, h => by
    have e : putK kvs kv.1 kv.2 = kvs ++ [kv] := by
      unfold putK
      rw [if_neg]
      intro z
      obtain ⟨x, hx, hd⟩ := List.any_eq_true.mp z
      have hd := of_decide_eq_true hd
      rw [List.map_append, List.nodup_append] at h
      exact h.2.2 x.1 (List.mem_map.mpr ⟨x, hx, rfl⟩) kv.1 (by simp) hd
    show mergeK (putK kvs kv.1 kv.2) more = _
    rw [e, mergeK_nodup more (kvs ++ [kv]) (by rw [List.append_assoc]; exact h), List.append_assoc]
    rfl
/-- {k: v, ..} -/
def kDisp (Q : VK) (p : Addr) : List (V × V) → Hp → Prop := fun ps H2 => H2 p = some (.dK []) ∧ ∃ kvs : List (Key × V), ps = kvs.map (fun kv => (kV kv.1, kv.2)) ∧ kvs.length ≤ 15 ∧ Q (.ref p) (upd H2 p (.dK (mergeK [] kvs)))
theorem iDisp {trs : List (TE × TE)} (q : ∀ p, H p = none → tPairs trs σ (upd H p (.dK [])) (kDisp Q p)) : tDisp trs σ H Q := q
theorem iDspI {p : Addr} (kvs : List (Key × V)) (h : H p = some (.dK [])) (hl : kvs.length ≤ 15) (q : Q (.ref p) (upd H p (.dK (mergeK [] kvs)))) : kDisp Q p (kvs.map fun kv => (kV kv.1, kv.2)) H := ⟨h, kvs, rfl, hl, q⟩
theorem iPr {tk tv : TE} {rs : List (TE × TE)} {QP : List (V × V) → Hp → Prop} (q : tk σ H fun x H1 => tv σ H1 fun y H2 => tPairs rs σ H2 fun ps H3 => QP ((x, y) :: ps) H3) : tPairs ((tk, tv) :: rs) σ H QP := q
theorem iPn {QP : List (V × V) → Hp → Prop} (q : QP [] H) : tPairs [] σ H QP := q
/-- the handler that catches -/
theorem ExT.ex {mg : Str → Option Value} {z : Str} (T : ExT K mg z C) : PySem.W.exmOne K (.ref C) (.ref C) = some true := by
  have h2 : (PySem.W.clsIn K C).isSome = true := T.i
  simp [PySem.W.exmOne, PySem.W.kitCls, T.b, T.t, T.s, h2]
theorem iOnly {mg : Str → Option Value} {z : Str} {tsu : Addr → Value → Option Addr → TS} {Wout : WX} {D : Ends} (T : ExT K mg z C) (q : ∀ a, H a = none → tsu a (.ref C) none D σ H) : wOnly K (.ref C) tsu Wout D (.ref C) none σ H := ⟨true, T.ex, fun _ => q, fun z => nomatch z⟩
/-- int(b) -/
def kIntB : List V → Hp → VK → Prop := fun vs H Q => ∃ k, vs = [.bl k] ∧ Q (.int (if k then 1 else 0)) H
theorem int_b {X : Cx} : CallR X (.type "int") kIntB := CallR.imp call_int1 fun _ _ _ ⟨k, e, q⟩ => .inr ⟨k, e, q⟩
theorem iIntB {k : Bool} (q : Q (.int (if k then 1 else 0)) H) : kIntB [.bl k] H Q := ⟨k, rfl, q⟩
theorem iIsB {k l : Bool} (q : Q (.bl (decide (k = l))) H) : rIsB (.bl k) (.bl l) H Q := ⟨k, l, rfl, rfl, q⟩
theorem iNotBl {k l : Bool} (q : Q (.bl (!decide (k = l))) H) : rNotB (.bl k) (.bl l) H Q := ⟨k, l, rfl, rfl, q⟩
/-- d.get(i) -/
def kDG1 (Q : VK) (y : V) (a : Addr) : Hp → Prop := fun H2 => ∃ o, DGet H2 a y o ∧ Q (o.getD .non) H2
def kDG0 (ty : TE) (σ : L2.St) (Q : VK) : VK := fun x H1 => ∃ a, x = .ref a ∧ IsD H1 a ∧ ty σ H1 fun y H2 => kDG1 Q y a H2
theorem iDGet1 (q : td σ H (kDG0 ty σ Q)) : tDGet1 td ty σ H Q := q
theorem iDG0 {a : Addr} {kvs : List (Key × V)} (h : H a = some (.dK kvs)) (q : ty σ H fun y H2 => kDG1 Q y a H2) : kDG0 ty σ Q (.ref a) H := ⟨a, rfl, .inl ⟨kvs, .inl h⟩, q⟩
theorem iDG1 {a : Addr} {kvs : List (Key × V)} {i : Int} (h : H a = some (.dK kvs)) (q : Q ((valV kvs (.inl i : Key)).getD .non) H) : kDG1 Q (.int i) a H := ⟨_, DGet.k (k := Sum.inl i) h, q⟩
/-- truth -/
def kTru (K : PySem.W.Frag) (QB : Bool → Hp → Prop) : VK := fun x H' => ∃ k, TruV K x H' k ∧ QB k H'
theorem iTru (q : ta σ H (kTru K QB)) : (fun σ H QB => ta σ H fun x H' => ∃ k, TruV K x H' k ∧ QB k H') σ H QB := q
end
/-- a loop over what is walked in n turns -/
theorem forJ {J : It} {k : Nat} {G : Hp → Prop} {Y : Nat → Hp → V → Hp → Prop} (w : Walk J k G Y) {g : TG} {tb : TS} {n b c : L2.St → Hp → Prop} {r : VK} {σ : L2.St} {H : Hp} (Pv : Nat → L2.St → Hp → Prop) (h0 : Pv 0 σ H) (hG : ∀ i σ H, i ≤ k → Pv i σ H → G H)
    (hs : ∀ i x σ H H', i < k → Pv i σ H → Y i H x H' → g x σ H' fun σ2 H2 => tb ⟨Pv (i + 1), r, n, Pv (i + 1)⟩ σ2 H2) (hd : ∀ σ H, Pv k σ H → n σ H) : tForJ J g tb ⟨n, r, b, c⟩ σ H := for_it w Pv h0 hG hs hd
/-! ### layouts: mutable objects at addresses that are told apart -/
structure Lay {ι : Type} (H : Hp) (dom : ι → Prop) (L : ι → Addr) (S : ι → HO) : Prop where
  at_ : ∀ x, dom x → H (L x) = some (S x)
  inj : ∀ x y, dom x → dom y → L x = L y → x = y
open Classical in
noncomputable def chg {ι α : Type} (f : ι → α) (x : ι) (v : α) : ι → α := fun y => if y = x then v else f y
theorem chg_same {ι α : Type} {f : ι → α} {x : ι} {v : α} : chg f x v x = v := if_pos rfl
theorem chg_ne {ι α : Type} {f : ι → α} {x y : ι} {v : α} (h : y ≠ x) : chg f x v y = f y := if_neg h
namespace Lay
variable {ι : Type} {H H' : Hp} {dom : ι → Prop} {L : ι → Addr} {S S' : ι → HO}
theorem ne (Y : Lay H dom L S) {x y : ι} (hx : dom x) (hy : dom y) (h : x ≠ y) : L x ≠ L y := fun e => h (Y.inj x y hx hy e)
theorem ex (Y : Lay H dom L S) (e : Ex H H') : Lay H' dom L S := ⟨fun x hx => e _ _ (Y.at_ x hx), Y.inj⟩
theorem cong (Y : Lay H dom L S) (h : ∀ x, dom x → S x = S' x) : Lay H dom L S' := ⟨fun x hx => (Y.at_ x hx).trans (congrArg some (h x hx)), Y.inj⟩
theorem set (Y : Lay H dom L S) {x : ι} {o : HO} (hx : dom x) : Lay (upd H (L x) o) dom L (chg S x o) := ⟨fun y hy => by
  by_cases e : y = x
  · subst e; rw [upd_same, chg_same]
  · rw [upd_ne (Y.ne hy hx e), chg_ne e]; exact Y.at_ y hy, Y.inj⟩
/-- a new object takes a place -/
theorem mov (Y : Lay H dom L S) {x : ι} {p : Addr} {o : HO} (hp : ∀ y, dom y → L y ≠ p) (hpo : H p = some o) : Lay H dom (chg L x p) (chg S x o) := by
  refine ⟨fun y hy => ?_, fun y z hy hz e => ?_⟩
  · by_cases e : y = x
    · subst e; rw [chg_same, chg_same]; exact hpo
    · rw [chg_ne e, chg_ne e]; exact Y.at_ y hy
  · by_cases e1 : y = x
    · by_cases e2 : z = x
      · rw [e1, e2]
      · rw [e1, chg_same, chg_ne e2] at e
        exact absurd e.symm (hp z hz)
    · by_cases e2 : z = x
      · rw [e2, chg_same, chg_ne e1] at e
        exact absurd e (hp y hy)
      · rw [chg_ne e1, chg_ne e2] at e
        exact Y.inj y z hy hz e
end Lay
/-- a layout, what is frozen, and the rest -/
structure Own {ι : Type} (H F Rs : Hp) (dom : ι → Prop) (L : ι → Addr) (S : ι → HO) : Prop where
  lay : Lay H dom L S
  f : Ex F H
  r : Ex Rs H
  nf : ∀ x, dom x → F (L x) = none
  nr : ∀ x, dom x → Rs (L x) = none
  fr : ∀ p, Rs p ≠ none → F p = none
namespace Own
variable {ι : Type} {H H' F Rs : Hp} {dom : ι → Prop} {L : ι → Addr} {S S' : ι → HO} {p : Addr} {o o' : HO} {x : ι}
theorem free (Y : Own H F Rs dom L S) (h : H p = none) : F p = none ∧ Rs p = none ∧ ∀ y, dom y → L y ≠ p := ⟨Evl.fresh_back Y.f h, Evl.fresh_back Y.r h, fun y hy => ne_of_none (Y.lay.at_ y hy) h⟩
theorem ex (Y : Own H F Rs dom L S) (e : Ex H H') : Own H' F Rs dom L S := ⟨Y.lay.ex e, Y.f.trans e, Y.r.trans e, Y.nf, Y.nr, Y.fr⟩
theorem new (Y : Own H F Rs dom L S) (h : H p = none) : Own (upd H p o) F Rs dom L S := Y.ex (Evl.Ex.new h)
theorem cong (Y : Own H F Rs dom L S) (h : ∀ x, dom x → S x = S' x) : Own H F Rs dom L S' := ⟨Y.lay.cong h, Y.f, Y.r, Y.nf, Y.nr, Y.fr⟩
theorem set (Y : Own H F Rs dom L S) (hx : dom x) : Own (upd H (L x) o) F Rs dom L (chg S x o) := ⟨Y.lay.set hx, Y.f.mut (Y.nf x hx), Y.r.mut (Y.nr x hx), Y.nf, Y.nr, Y.fr⟩
/-- an object that no part knows -/
theorem alt (Y : Own H F Rs dom L S) (h1 : F p = none) (h2 : Rs p = none) (h3 : ∀ y, dom y → L y ≠ p) : Own (upd H p o) F Rs dom L S :=
  ⟨⟨fun y hy => (upd_ne (h3 y hy)).trans (Y.lay.at_ y hy), Y.lay.inj⟩, Y.f.mut h1, Y.r.mut h2, Y.nf, Y.nr, Y.fr⟩
theorem mov (Y : Own H F Rs dom L S) (h1 : F p = none) (h2 : Rs p = none) (h3 : ∀ y, dom y → L y ≠ p) (hp : H p = some o) : Own H F Rs dom (chg L x p) (chg S x o) :=
  ⟨Y.lay.mov h3 hp, Y.f, Y.r, fun y hy => by
    by_cases e : y = x
    · subst e; rw [chg_same]; exact h1
    · rw [chg_ne e]; exact Y.nf y hy, fun y hy => by
    by_cases e : y = x
    · subst e; rw [chg_same]; exact h2
    · rw [chg_ne e]; exact Y.nr y hy, Y.fr⟩
/-- the rest's objects change -/
theorem put (Y : Own H F Rs dom L S) (h : Rs p = some o) : Own (upd H p o') F (upd Rs p o') dom L S := by
  have hf := Y.fr p (by rw [h]; intro z; cases z)
  have hl : ∀ y, dom y → L y ≠ p := fun y hy e => by have := Y.nr y hy; rw [e, h] at this; cases this
  refine ⟨⟨fun y hy => (upd_ne (hl y hy)).trans (Y.lay.at_ y hy), Y.lay.inj⟩, Y.f.mut hf, fun q u hq => ?_, Y.nf, fun y hy => (upd_ne (hl y hy)).trans (Y.nr y hy), fun q hq => ?_⟩
  · by_cases e : q = p
    · subst e; rw [upd_same] at hq ⊢; exact hq
    · rw [upd_ne e] at hq ⊢; exact Y.r q u hq
  · by_cases e : q = p
    · subst e; exact hf
    · rw [upd_ne e] at hq; exact Y.fr q hq
/-- what is new joins the rest -/
theorem join (Y : Own H F Rs dom L S) (h1 : F p = none) (h3 : ∀ y, dom y → L y ≠ p) (hp : H p = some o) : Own H F (upd Rs p o) dom L S := ⟨Y.lay, Y.f, fun q u hq => by
    by_cases e : q = p
    · subst e; rw [upd_same] at hq; rw [hp]; exact hq
    · rw [upd_ne e] at hq; exact Y.r q u hq, Y.nf, fun y hy => (upd_ne (h3 y hy)).trans (Y.nr y hy), fun q hq => by
    by_cases e : q = p
    · subst e; exact h1
    · rw [upd_ne e] at hq; exact Y.fr q hq⟩
/-- what is new is frozen -/
theorem ice (Y : Own H F Rs dom L S) (h2 : Rs p = none) (h3 : ∀ y, dom y → L y ≠ p) (hp : H p = some o) : Own H (upd F p o) Rs dom L S := ⟨Y.lay, fun q u hq => by
    by_cases e : q = p
    · subst e; rw [upd_same] at hq; rw [hp]; exact hq
    · rw [upd_ne e] at hq; exact Y.f q u hq, Y.r, fun y hy => (upd_ne (h3 y hy)).trans (Y.nf y hy), Y.nr, fun q hq => by
    by_cases e : q = p
    · subst e; exact absurd h2 hq
    · rw [upd_ne e]; exact Y.fr q hq⟩
theorem weak {Rs' : Hp} (Y : Own H F Rs dom L S) (e : Ex Rs' Rs) : Own H F Rs' dom L S := ⟨Y.lay, Y.f, e.trans Y.r, Y.nf, fun y hy => Evl.fresh_back e (Y.nr y hy), fun p hp => Y.fr p fun z => hp (Evl.fresh_back e z)⟩
theorem newR (Y : Own H F Rs dom L S) (h : H p = none) : Own (upd H p o) F (upd Rs p o) dom L S := (Y.new h).join (Y.free h).1 (Y.free h).2.2 upd_same
theorem newF (Y : Own H F Rs dom L S) (h : H p = none) : Own (upd H p o) (upd F p o) Rs dom L S := (Y.new h).ice (Y.free h).2.1 (Y.free h).2.2 upd_same
end Own
theorem ex_new {F : Hp} {p : Addr} {o : HO} (h : F p = none) : Ex F (upd F p o) := Evl.Ex.new h
end R
set_option Elab.async false
set_option linter.all false
set_option maxRecDepth 100000
set_option maxHeartbeats 4000000
namespace R
open PySem PySem.Spec PyProof.Rows L2
open Evl (Ex)
/-! ### combinations: what the type is -/
theorem mro_comb : mroOf (.type "itertools.combinations") = pure [.type "itertools.combinations", .type "object"] := by rw [mroOf_type]; kernel_rfl
theorem new_comb : typeLookup (.type "itertools.combinations") "__new__" = pure (some (.builtin "itertools.combinations.__new__")) := by rw [typeLookup_type, builtinLookup_eq_fast]; kernel_rfl
theorem sub_comb : isSubtype (.type "itertools.combinations") (.type "itertools.combinations") = pure true := by rw [isSubtype_type]; kernel_rfl
theorem init_comb : Slot "itertools.combinations" "__init__" "object.__init__" := .of (owner := "object") (n := "__init__") (by rw [typeLookup_type, builtinLookup_eq_fast]; kernel_rfl) (by decide +kernel) (by decide +kernel) (by decide +kernel) (by first | exact .inl (by decide +kernel) | exact .inr (by decide +kernel)) (by rw [isSubtype_type]; kernel_rfl)
theorem called_comb : TypeCalled "itertools.combinations" "itertools.combinations.__new__" "object.__init__" := ⟨by decide +kernel, by decide +kernel, ⟨_, _, mro_comb⟩, madeBy_type mro_comb new_comb (by decide +kernel), by decide +kernel, sub_comb, init_comb⟩
theorem tcall_comb (a b : Value) : checkTypeCall "itertools.combinations" ⟨[a, b], []⟩ = pure () := by kernel_rfl
theorem ncall_comb (a b : Value) : checkBuiltinCall "itertools.combinations.__new__" ⟨[.type "itertools.combinations", a, b], []⟩ = pure () := by kernel_rfl
theorem enew_comb : entryFor table "itertools.combinations.__new__" = some Builtin.«itertools.combinations.__new__» := entryFor_of_tree (by kernel_rfl)
theorem iter_comb : Slot "itertools.combinations" "__iter__" "itertools.combinations.__iter__" := .of (owner := "itertools.combinations") (n := "__iter__") (by rw [typeLookup_type, builtinLookup_eq_fast]; kernel_rfl) (by decide +kernel) (by decide +kernel) (by decide +kernel) (by first | exact .inl (by decide +kernel) | exact .inr (by decide +kernel)) sub_comb
theorem next_comb : Slot "itertools.combinations" "__next__" "itertools.combinations.__next__" := .of (owner := "itertools.combinations") (n := "__next__") (by rw [typeLookup_type, builtinLookup_eq_fast]; kernel_rfl) (by decide +kernel) (by decide +kernel) (by decide +kernel) (by first | exact .inl (by decide +kernel) | exact .inr (by decide +kernel)) sub_comb
theorem eiter_comb : entryFor table "itertools.combinations.__iter__" = some Builtin.«dict_keyiterator.__iter__» := entryFor_alias (id' := "dict_keyiterator.__iter__") (by kernel_rfl) (by first | rfl | decide +kernel | (unfold String.splitOn; simp +decide [String.splitOnAux])) (by decide +kernel) (by kernel_rfl)
theorem enext_comb : entryFor table "itertools.combinations.__next__" = some Builtin.«itertools.combinations.__next__» := entryFor_of_tree (by kernel_rfl)
def rcomb : List Char := ['s', 'n', 'o', 'i', 't', 'a', 'n', 'i', 'b', 'm', 'o', 'c', '.', 's', 'l', 'o', 'o', 't', 'r', 'e', 't', 'i']
theorem owner_comb : Manifest.owners.lookup (String.ofList rcomb.reverse) = some Manifest.sig_itertools_combinations := by kernel_rfl
theorem aiter_comb (a : Value) : argsOk "itertools.combinations.__iter__" ⟨[a], []⟩ := by
  unfold argsOk; rw [signature?_of (id := "itertools.combinations.__iter__") (n := ['_', '_', 'r', 'e', 't', 'i', '_', '_']) (o := rcomb) (by kernel_rfl) owner_comb]; kernel_rfl
theorem anext_comb (a : Value) : argsOk "itertools.combinations.__next__" ⟨[a], []⟩ := by
  unfold argsOk; rw [signature?_of (id := "itertools.combinations.__next__") (n := ['_', '_', 't', 'x', 'e', 'n', '_', '_']) (o := rcomb) (by kernel_rfl) owner_comb]; kernel_rfl
theorem nodict_comb : typeHasDict (.type "itertools.combinations") = false := by decide +kernel
/-! ### the rows of places, in order -/
def combs : List Nat → Nat → List (List Nat)
  | _, 0 => [[]]
  | [], _ + 1 => []
  | x :: xs, k + 1 => (combs xs k).map (x :: ·) ++ combs xs (k + 1)
/-- the row behind a row -/
def nxtC (n : Nat) (ix : List Nat) : Option (List Nat) :=
  match (List.range ix.length).reverse.find? fun i => ix.getD i 0 != i + n - ix.length with
  | none => none
  | some i => some (ix.take i ++ (List.range (ix.length - i)).map (ix.getD i 0 + 1 + ·))
def nxtOk (n r : Nat) : Bool := (List.range (combs (List.range n) r).length).all fun i => match (combs (List.range n) r)[i]? with
  | some ix => decide (nxtC n ix = (combs (List.range n) r)[i + 1]?) && decide (ix.length = r) && ix.all (· < n)
  | none => false
def headOk (n r : Nat) : Bool := decide ((combs (List.range n) r).head? = some (List.range r))
theorem nxt_all : ((List.range 9).all fun n => (List.range (n + 1)).all fun r => nxtOk n r && headOk n r) = true := by decide +kernel
theorem nxt_ok {n r : Nat} (hn : n ≤ 8) (hr : r ≤ n) : nxtOk n r = true ∧ headOk n r = true := by
  have h := List.all_eq_true.mp nxt_all n (List.mem_range.mpr (by omega))
  have h2 := List.all_eq_true.mp h r (List.mem_range.mpr (by omega))
  rwa [Bool.and_eq_true] at h2
theorem combs_next {n r i : Nat} {ix : List Nat} (hn : n ≤ 8) (hr : r ≤ n) (h : (combs (List.range n) r)[i]? = some ix) : nxtC n ix = (combs (List.range n) r)[i + 1]? ∧ ix.length = r ∧ ∀ j ∈ ix, j < n := by
  have hi := (List.getElem?_eq_some_iff.mp h).1
  have z := List.all_eq_true.mp (nxt_ok hn hr).1 i (List.mem_range.mpr hi)
  rw [h] at z
  simp only [Bool.and_eq_true, decide_eq_true_eq, List.all_eq_true] at z
  exact ⟨z.1.1, z.1.2, fun j hj => z.2 j hj⟩
theorem combs_head {n r : Nat} (hn : n ≤ 8) (hr : r ≤ n) : (combs (List.range n) r)[0]? = some (List.range r) := by
  have := of_decide_eq_true (nxt_ok hn hr).2
  rw [← List.head?_eq_getElem?]
  exact this
/-- an object that hands out combinations: its pool, its state, what it gave last, the places -/
abbrev IsComb (h : Heap) (it p : Addr) (st : Int) (prev : Value) (ix : List Nat) : Prop := h.get? it = some { cls := .type "itertools.combinations", dict := none, data := .fields ([.ref p, .int st 0, prev] ++ ix.map fun i : Nat => Value.int i 0).toArray, slots := #[] }

theorem meets_comb (l : Addr) (vs : List Value) (r : Nat) (t : Tok) (hv : vs.length ≤ 8) (hr : r ≤ vs.length) :
    Meets (Builtin.«itertools.combinations.__new__» ⟨[.type "itertools.combinations", .ref l, .int (r : Int) t], []⟩)
      (fun _ R s => s.heap.IsList l vs.toArray ∧ ∀ h' it p, (∀ b o, s.heap.get? b = some o → h'.get? b = some o) → s.heap.objs.size ≤ p → s.heap.objs.size ≤ it → IsTup h' p vs.toArray → IsComb h' it p 0 .none (List.range r) → R (.ok (.ret (.ref it))) { s with heap := h' }) :=
  .of_wp fun prog w A R s h => by
    obtain ⟨hp, g, dd, tk, os⟩ := s
    obtain ⟨hl, h⟩ := h
    have hsub := sub_comb
    have hd := nodict_comb
    have hn : ¬ ((decide ((r : Int) < -(2 ^ 63 : Int)) || decide ((r : Int) ≥ (2 ^ 63 : Int))) = true) := by
      rw [decide_eq_false (by omega), decide_eq_false (by omega)]
      decide
    have en : ("itertools." ++ "combinations" : String) = "itertools.combinations" := by decide
    repeat (first
      | wp_step
      | (simp only [List.head?_cons, Option.some_or, List.getElem?_cons_succ, List.getElem?_cons_zero, List.length_cons, List.length_nil, List.forIn_nil])
      | (refine wpAny_ite_false (decide_eq_false hn) ?_))
    rw [en, hsub]
    have hn2 : ¬ ((r : Int) < 0) := by omega
    have hn3 : ¬ (Builtin.Itertools.itTooMany (r : Int) = true) := by
      show ¬ (decide ((r : Int) > 2 ^ 20) = true)
      rw [decide_eq_false (by omega)]
      decide
    repeat (first
      | (refine collect_list hl ?_ (by rw [sizeLine_eq]; omega))
      | (refine wpAny_ite_false hn2 ?_)
      | (refine wpAny_ite_false hn3 ?_)
      | wp_step
      | (simp only [List.head?_cons, Option.some_or, List.getElem?_cons_succ, List.getElem?_cons_zero, List.length_cons, List.length_nil, List.forIn_nil])
      | (refine wpAny_ite_false (decide_eq_false hn) ?_))
    have hs : ¬ (vs.toArray.size > sizeLine) := by rw [List.size_toArray, sizeLine_eq]; omega
    rw [if_neg hs]
    have h2 : ¬ (vs.length < r) := by omega
    have h3 : ¬ (([Value.ref ((hp.push (seqObj "list" #[] 0)).update hp.objs.size (Obj.mapSeq fun x => x ++ vs.toArray)).objs.size, rawInt 0, Value.none] ++ List.map (fun (i : Nat) => rawInt i) (List.range r)).toArray.size > sizeLine + 2) := by
      rw [List.size_toArray, sizeLine_eq, List.length_append, List.length_map, List.length_range]
      simp
      omega
    repeat (first
      | wp_step
      | (refine wpAny_ite_false (decide_eq_false h3) ?_)
      | (simp only [hd, Bool.not_false, if_true, Int.toNat_natCast, gt_iff_lt, h2, if_false]))
    refine ⟨_, rfl, h _ _ (((hp.push (seqObj "list" #[] 0)).update hp.objs.size (Obj.mapSeq fun x => x ++ vs.toArray)).objs.size) (fun b o q => ?_) ?_ ?_ ?_ (Heap.get?_push_size _ rfl)⟩
    · refine Heap.get?_push_of_some _ (Heap.get?_push_of_some _ ?_)
      rw [Heap.get?_update_other _ _ (Nat.ne_of_gt (Heap.lt_size q))]
      exact Heap.get?_push_of_some _ q
    · show hp.objs.size ≤ _
      rw [Heap.size_update, Heap.size_push]
      exact Nat.le_succ _
    · show hp.objs.size ≤ _
      rw [Heap.size_push, Heap.size_update, Heap.size_push]
      omega
    · exact ⟨_, Heap.get?_push_of_some _ (Heap.get?_push_size _ rfl), rfl, _, rfl⟩
end R
set_option Elab.async false
set_option linter.all false
set_option maxRecDepth 100000
set_option maxHeartbeats 4000000
namespace R
open PySem PySem.Spec PyProof.Rows L2
open Evl (Ex)
section
variable {prog : Program} {w : World} {A : Around} {E : Value → Shared → Prop} {s : Shared}
theorem call_comb {l : Addr} {vs : List Value} {r : Nat} {t : Tok} {Q : Value → Shared → Prop} (hl : s.heap.IsList l vs.toArray) (hv : vs.length ≤ 8) (hr : r ≤ vs.length)
    (h : ∀ h' it p, (∀ b o, s.heap.get? b = some o → h'.get? b = some o) → s.heap.objs.size ≤ p → s.heap.objs.size ≤ it → IsTup h' p vs.toArray → IsComb h' it p 0 .none (List.range r) → Q (.ref it) { s with heap := h' }) :
    wpAny (model prog w) A (call (.type "itertools.combinations") [.ref l, .int (r : Int) t]) Q E s := by
  refine callType_new called_comb (by decide +kernel) (tcall_comb _ _) (ncall_comb _ _) (fun obj => F.args_object_init_3 obj _ _) enew_comb (meets_comb l vs r t hv hr) ?_
  exact ⟨hl, fun h' it p k1 k2 k3 k4 k5 => show _ ∧ _ from ⟨⟨_, k5, rfl⟩, h h' it p k1 k2 k3 k4 k5⟩⟩
theorem iter_of_comb {it p : Addr} {st : Int} {prev : Value} {ix : List Nat} {Q : Value → Shared → Prop} (hit : IsComb s.heap it p st prev ix) (h : Q (.ref it) s) : wpAny (model prog w) A (pyIter (.ref it)) Q E s := by
  have hT : s.TypeIs (.ref it) "itertools.combinations" := ⟨_, hit, rfl⟩
  refine wpAny_pyIter_slot hT iter_comb (wpAny_call_entry iter_comb hT eiter_comb ?_ (aiter_comb _))
  exact wpAny_pure ⟨_, rfl, "itertools.combinations", _, hT, next_comb.lookup, h⟩
theorem ix_back (p : Addr) (st : Int) (prev : Value) (ix : List Nat) : List.map (fun x => match x with | Value.int n tok => n.toNat | x => 0) (List.drop 3 ([Value.ref p, Value.int st 0, prev] ++ List.map (fun (i : Nat) => Value.int (i : Int) 0) ix).toArray.toList) = ix := by
  show List.map _ (List.map (fun (i : Nat) => Value.int (i : Int) 0) ix) = ix
  rw [List.map_map]
  refine (List.map_congr_left fun i _ => ?_).trans (List.map_id _)
  exact Int.toNat_natCast i
theorem comb_up1 (it p : Addr) (st st' : Int) (prev : Value) (ix : List Nat) {h : Heap} (hit : IsComb h it p st prev ix) : IsComb (h.update it (Obj.mapFields fun x => x.setIfInBounds 1 (rawInt st'))) it p st' prev ix := by
  refine (Heap.get?_update_self _ hit rfl).trans ?_
  simp [Obj.mapFields, rawInt]
theorem comb_up2 (it p : Addr) (st : Int) (prev v : Value) (ix : List Nat) {h : Heap} (hit : IsComb h it p st prev ix) : IsComb (h.update it (Obj.mapFields fun x => x.setIfInBounds 2 v)) it p st v ix := by
  refine (Heap.get?_update_self _ hit rfl).trans ?_
  simp [Obj.mapFields, rawInt]
/-- the first row -/
theorem comb_first {it p : Addr} {prev : Value} {ix : List Nat} {vs : List Value} {Q : Option Value → Shared → Prop} (hit : IsComb s.heap it p 0 prev ix) (ht : IsTup s.heap p vs.toArray) (hz : ix.length ≤ 8)
    (hQ : ∀ h', IsComb h' it p 1 (.ref s.heap.objs.size) ix → h'.get? s.heap.objs.size = some { cls := .type "tuple", data := .seq (ix.map fun i => vs.toArray.getD i .none).toArray } → (∀ b o, b ≠ it → s.heap.get? b = some o → h'.get? b = some o) → Q (some (.ref s.heap.objs.size)) { s with heap := h' }) :
    wpAny (model prog w) A (pyNext (.ref it)) Q E s := by
  have hT : s.TypeIs (.ref it) "itertools.combinations" := ⟨_, hit, rfl⟩
  obtain ⟨hp, g, dd, tk, os⟩ := s
  obtain ⟨ot, hot, hct, nt, hdt⟩ := ht
  have ne : p ≠ it := by
    rintro rfl
    rw [hit] at hot
    cases hot
    simp at hct
  unfold pyNext
  refine wpAny_bind (wpAny_attempt (wpAny_callSpecial?_slot (name := Str.ofString "__next__") hT next_comb (wpAny_call_entry next_comb hT enext_comb ?_ (anext_comb _))))
  show wpAny _ _ (Builtin.«itertools.combinations.__next__» ⟨[.ref it], []⟩) _ _ _
  have hot1 : (hp.update it (Obj.mapFields fun x => x.setIfInBounds 1 (rawInt 1))).get? p = some ot := (Heap.get?_update_other _ _ (Ne.symm ne)).trans hot
  have hit1 := comb_up1 it p 0 1 prev ix hit
  repeat (first
    | wp_step
    | (refine wpAny_field hit rfl rfl ?_))
  rw [hdt]
  erw [ix_back p 0 prev ix]
  have es : (hp.update it (Obj.mapFields fun x => x.setIfInBounds 1 (rawInt 1))).objs.size = hp.objs.size := Heap.size_update ..
  have ek : ∀ b o, b ≠ it → hp.get? b = some o → (hp.update it (Obj.mapFields fun x => x.setIfInBounds 1 (rawInt 1))).get? b = some o := fun b o hb q => (Heap.get?_update_other _ _ (Ne.symm hb)).trans q
  generalize hp.update it (Obj.mapFields fun x => x.setIfInBounds 1 (rawInt 1)) = h1 at hit1 hot1 es ek ⊢
  have hs : ¬ ((List.map (fun i => vs.toArray.getD i Value.none) ix).toArray.size > sizeLine) := by rw [List.size_toArray, sizeLine_eq, List.length_map]; omega
  repeat (first
    | (refine wpAny_ite_false (decide_eq_false hs) ?_)
    | wp_step)
  refine ⟨_, rfl, wpAny_pure ?_⟩
  have hQ : ∀ h', IsComb h' it p 1 (.ref hp.objs.size) ix → h'.get? hp.objs.size = some { cls := .type "tuple", data := .seq (ix.map fun i => vs.toArray.getD i .none).toArray } → (∀ b o, b ≠ it → hp.get? b = some o → h'.get? b = some o) → Q (some (.ref hp.objs.size)) { heap := h', gens := g, drawn := dd, toks := tk, os := os } := hQ
  rw [← es] at hQ
  have nt : it ≠ h1.objs.size := Nat.ne_of_lt (Heap.lt_size hit1)
  refine hQ _ (comb_up2 it p 1 prev _ _ (Heap.get?_push_of_some _ hit1)) ?_ fun b o hb q => ?_
  · rw [Heap.get?_update_other _ _ nt]
    exact Heap.get?_push_size _ rfl
  · rw [Heap.get?_update_other _ _ (Ne.symm hb)]
    exact Heap.get?_push_of_some _ (ek b o hb q)
/-- the row behind it -/
theorem comb_up3 (it p : Addr) (st : Int) (prev : Value) (ix ix' : List Nat) {h : Heap} (hit : IsComb h it p st prev ix) : IsComb (h.update it (Obj.mapFields fun fs => fs.extract 0 3 ++ (ix'.map fun (n : Nat) => rawInt n).toArray)) it p st prev ix' := by
  refine (Heap.get?_update_self _ hit rfl).trans ?_
  simp [Obj.mapFields, rawInt]
theorem pastLine_fields {vs : Array Value} (h : vs.size ≤ 20) : (Data.fields vs).pastItsLine = none := by
  show (if vs.size > sizeLine + 3 then _ else _) = _
  rw [if_neg (by rw [sizeLine_eq]; omega)]
theorem comb_next {it p : Addr} {prev : Value} {ix ix' : List Nat} {vs : List Value} {Q : Option Value → Shared → Prop} (hit : IsComb s.heap it p 1 prev ix) (ht : IsTup s.heap p vs.toArray) (hnx : nxtC vs.length ix = some ix') (hz : ix'.length ≤ 8)
    (hQ : ∀ h', IsComb h' it p 1 (.ref s.heap.objs.size) ix' → h'.get? s.heap.objs.size = some { cls := .type "tuple", data := .seq (ix'.map fun i => vs.toArray.getD i .none).toArray } → (∀ b o, b ≠ it → s.heap.get? b = some o → h'.get? b = some o) → Q (some (.ref s.heap.objs.size)) { s with heap := h' }) :
    wpAny (model prog w) A (pyNext (.ref it)) Q E s := by
  have hT : s.TypeIs (.ref it) "itertools.combinations" := ⟨_, hit, rfl⟩
  obtain ⟨hp, g, dd, tk, os⟩ := s
  obtain ⟨ot, hot, hct, nt, hdt⟩ := ht
  have ne : p ≠ it := by
    rintro rfl
    rw [hit] at hot
    cases hot
    simp at hct
  unfold pyNext
  refine wpAny_bind (wpAny_attempt (wpAny_callSpecial?_slot (name := Str.ofString "__next__") hT next_comb (wpAny_call_entry next_comb hT enext_comb ?_ (anext_comb _))))
  show wpAny _ _ (Builtin.«itertools.combinations.__next__» ⟨[.ref it], []⟩) _ _ _
  repeat (first
    | wp_step
    | (refine wpAny_field hit rfl rfl ?_))
  rw [hdt]
  erw [ix_back p 1 prev ix]
  repeat wp_step
  split
  · rename_i nx heq
    have hh : nxtC vs.toArray.size ix = some nx := heq
    rw [List.size_toArray, hnx] at hh
    cases hh
    have hot1 : (hp.update it (Obj.mapFields fun fs => fs.extract 0 3 ++ (ix'.map fun (n : Nat) => rawInt n).toArray)).get? p = some ot := (Heap.get?_update_other _ _ (Ne.symm ne)).trans hot
    have hit1 := comb_up3 it p 1 prev ix ix' hit
    repeat (first
      | wp_step
      | (refine wpAny_field hit rfl rfl ?_))
    rw [show ({ cls := Value.type "itertools.combinations", data := Data.fields ([Value.ref p, Value.int 1 0, prev] ++ List.map (fun (i : Nat) => Value.int (i : Int) 0) ix').toArray } : Obj).data.pastItsLine = none from pastLine_fields (by rw [List.size_toArray, List.length_append, List.length_map]; simp; omega)]
    have es : (hp.update it (Obj.mapFields fun fs => fs.extract 0 3 ++ (ix'.map fun (n : Nat) => rawInt n).toArray)).objs.size = hp.objs.size := Heap.size_update ..
    have ek : ∀ b o, b ≠ it → hp.get? b = some o → (hp.update it (Obj.mapFields fun fs => fs.extract 0 3 ++ (ix'.map fun (n : Nat) => rawInt n).toArray)).get? b = some o := fun b o hb q => (Heap.get?_update_other _ _ (Ne.symm hb)).trans q
    generalize hp.update it (Obj.mapFields fun fs => fs.extract 0 3 ++ (ix'.map fun (n : Nat) => rawInt n).toArray) = h1 at hit1 hot1 es ek ⊢
    repeat (first
      | wp_step
      | (refine wpAny_field hit1 rfl rfl ?_))
    rw [hdt]
    have hs : ¬ ((List.map (fun i => vs.toArray.getD i Value.none) ix').toArray.size > sizeLine) := by rw [List.size_toArray, sizeLine_eq, List.length_map]; omega
    repeat (first
      | (refine wpAny_ite_false (decide_eq_false hs) ?_)
      | wp_step)
    refine ⟨_, rfl, wpAny_pure ?_⟩
    have hQ : ∀ h', IsComb h' it p 1 (.ref hp.objs.size) ix' → h'.get? hp.objs.size = some { cls := .type "tuple", data := .seq (ix'.map fun i => vs.toArray.getD i .none).toArray } → (∀ b o, b ≠ it → hp.get? b = some o → h'.get? b = some o) → Q (some (.ref hp.objs.size)) { heap := h', gens := g, drawn := dd, toks := tk, os := os } := hQ
    rw [← es] at hQ
    have nt : it ≠ h1.objs.size := Nat.ne_of_lt (Heap.lt_size hit1)
    refine hQ _ (comb_up2 it p 1 prev _ _ (Heap.get?_push_of_some _ hit1)) ?_ fun b o hb q => ?_
    · rw [Heap.get?_update_other _ _ nt]
      exact Heap.get?_push_size _ rfl
    · rw [Heap.get?_update_other _ _ (Ne.symm hb)]
      exact Heap.get?_push_of_some _ (ek b o hb q)
  · rename_i heq
    have hh : nxtC vs.toArray.size ix = none := heq
    rw [List.size_toArray, hnx] at hh
    cases hh
/-- no row is left -/
theorem comb_end {it p : Addr} {prev : Value} {ix : List Nat} {vs : List Value} {Q : Option Value → Shared → Prop} (hh : A.handled = none) (hit : IsComb s.heap it p 1 prev ix) (ht : IsTup s.heap p vs.toArray) (hnx : nxtC vs.length ix = none)
    (hQ : ∀ h', (∀ b o, b ≠ it → s.heap.get? b = some o → h'.get? b = some o) → Q none { s with heap := h' }) : wpAny (model prog w) A (pyNext (.ref it)) Q E s := by
  have hT : s.TypeIs (.ref it) "itertools.combinations" := ⟨_, hit, rfl⟩
  obtain ⟨hp, g, dd, tk, os⟩ := s
  obtain ⟨ot, hot, hct, nt, hdt⟩ := ht
  unfold pyNext
  refine wpAny_bind (wpAny_attempt (wpAny_callSpecial?_slot (name := Str.ofString "__next__") hT next_comb (wpAny_call_entry next_comb hT enext_comb ?_ (anext_comb _))))
  show wpAny _ _ (Builtin.«itertools.combinations.__next__» ⟨[.ref it], []⟩) _ _ _
  repeat (first
    | wp_step
    | (refine wpAny_field hit rfl rfl ?_))
  rw [hdt]
  erw [ix_back p 1 prev ix]
  repeat wp_step
  split
  · rename_i nx heq
    have hh : nxtC vs.toArray.size ix = some nx := heq
    rw [List.size_toArray, hnx] at hh
    cases hh
  · rename_i heq
    refine wpAny_bind (wpAny_setField hit rfl (by simp) ?_)
    have ek : ∀ b o, b ≠ it → hp.get? b = some o → (hp.update it (Obj.mapFields fun x => x.setIfInBounds 1 (rawInt 2))).get? b = some o := fun b o hb q => (Heap.get?_update_other _ _ (Ne.symm hb)).trans q
    generalize hp.update it (Obj.mapFields fun x => x.setIfInBounds 1 (rawInt 2)) = h1 at ek ⊢
    (show wpAny _ _ (newExc (.type "StopIteration") [] >>= _) _ _ _; refine wpAny_bind ?_)
    (simp only [newExc, newTuple]; refine wpAny_bind (wpAny_newObj_type ?_ (by size_fits)))
    (refine wpAny_bind (m := firstArgMember _ _) (wpAny_of_eq (a := Value.none) (by first | rfl | (simp only [firstArgMember]; rfl)) ?_); refine wpAny_newObj_type ?_ (by size_fits))
    (simp only [raiseNew]; refine wpAny_bind (wpAny_handled ?_); first | rw [show A.in1.handled = none from hh] | rw [hh])
    refine wpAny_bind (wpAny_pure (wpAny_throw ?_))
    refine wpAny_bind (wpAny_isInstance (T := "StopIteration") (b := true) ⟨_, Heap.get?_push_size _ rfl, rfl⟩ isSubtype_stop (wpAny_pure (hQ _ fun b o hb q => ?_)))
    exact Heap.get?_push_of_some _ (Heap.get?_push_of_some _ (ek b o hb q))
end
end R
set_option Elab.async false
set_option linter.all false
set_option maxRecDepth 100000
set_option maxHeartbeats 4000000
namespace R
open PySem PySem.Spec PyProof.Rows L2
open Evl (Ex)
/-! ### a walk over combinations -/
def rowAt (xs : List V) (ix : List Nat) : List V := ix.map fun i => xs.getD i .non
def Itc (xs : List V) (r : Nat) : It :=
  ⟨fun i _ => i < (combs (List.range xs.length) r).length, fun i H x H' => ∃ p ix, x = .ref p ∧ H p = none ∧ (combs (List.range xs.length) r)[i]? = some ix ∧ H' = upd H p (.tup (rowAt xs ix)), fun i _ => (combs (List.range xs.length) r).length ≤ i⟩
theorem vals_row {xs : List V} {us : List Value} (h : Vals xs us) : ∀ ix : List Nat, (∀ j ∈ ix, j < xs.length) → Vals (rowAt xs ix) (ix.map fun i => us.toArray.getD i .none)
  | [], _ => .nil
  | i :: ix, hx => by
    have hi := hx i List.mem_cons_self
    obtain ⟨u, hu, ru⟩ := h.get (List.getElem?_eq_getElem hi)
    have e1 : xs.getD i .non = xs[i] := by rw [List.getD_eq_getElem?_getD, List.getElem?_eq_getElem hi]; rfl
    have e2 : us.toArray.getD i .none = u := by
      have hl := (List.getElem?_eq_some_iff.mp hu)
      obtain ⟨hl, hv⟩ := hl
      simp [Array.getD, hl, hv]
    refine .cons ?_ (vals_row h ix fun j hj => hx j (List.mem_cons_of_mem _ hj))
    show RelV (xs.getD i .non) (us.toArray.getD i .none)
    rw [e1, e2]
    exact ru
/-- what the iterator's objects are ahead of row i -/
def CombAt (n r : Nat) (us : List Value) (it p : Addr) (i : Nat) (h : Heap) : Prop :=
  IsTup h p us.toArray ∧ ∃ prev, (i = 0 ∧ IsComb h it p 0 prev (List.range r)) ∨ ∃ k ix, i = k + 1 ∧ (combs (List.range n) r)[k]? = some ix ∧ IsComb h it p 1 prev ix
theorem CombAt.any {n r i : Nat} {us : List Value} {it p : Addr} {h : Heap} (c : CombAt n r us it p i h) : ∃ st prev ix, IsComb h it p st prev ix := by
  obtain ⟨_, prev, ⟨_, c⟩ | ⟨k, ix, _, _, c⟩⟩ := c
  · exact ⟨_, _, _, c⟩
  · exact ⟨_, _, _, c⟩
theorem CombAt.ne {n r i : Nat} {us : List Value} {it p : Addr} {h : Heap} (c : CombAt n r us it p i h) : p ≠ it := by
  obtain ⟨st, prev, ix, e⟩ := c.any
  obtain ⟨⟨o, ho, hc, _⟩, _⟩ := c
  rintro rfl
  rw [e] at ho
  cases ho
  simp at hc
theorem turn_comb {P : Program} {w : World} {K : PySem.W.Frag} {tg : Expr} {xs : List V} {us : List Value} {r : Nat} (it p : Addr) (rv : Vals xs us) (hn : xs.length ≤ 8) (hr : r ≤ xs.length) : Turn P w K tg (Itc xs r) [it, p] it (CombAt xs.length r us it p) where
  mem := List.mem_cons_self
  obj := fun i h st b hb => by
    obtain ⟨s, prev, ix, e⟩ := st.any
    obtain ⟨⟨o, ho, _, n, hd⟩, _⟩ := st
    rcases List.mem_cons.mp hb with rfl | hb
    · exact ⟨_, e, fun v z => by cases z⟩
    · rw [List.mem_singleton] at hb
      subst hb
      exact ⟨o, ho, fun v z => by rw [hd] at z; cases z⟩
  keep := fun i h h' st k => by
    obtain ⟨⟨o, ho, hc, n, hd⟩, prev, st⟩ := st
    refine ⟨⟨o, k p (by simp) o ho, hc, n, hd⟩, prev, ?_⟩
    rcases st with ⟨e, c⟩ | ⟨j, ix, e, hx, c⟩
    · exact .inl ⟨e, k it (by simp) _ c⟩
    · exact .inr ⟨j, ix, e, hx, k it (by simp) _ c⟩
  item := by
    rintro X rfl rfl rfl hc i pins s σ H E I hf st go
    have ne := st.ne
    have len := rv.length
    obtain ⟨ht, prev, st⟩ := st
    have fin : ∀ (ix : List Nat), (combs (List.range xs.length) r)[i]? = some ix → ∀ h', IsComb h' it p 1 (.ref s.heap.objs.size) ix → h'.get? s.heap.objs.size = some { cls := .type "tuple", data := .seq (ix.map fun i => us.toArray.getD i .none).toArray } → (∀ b o, b ≠ it → s.heap.get? b = some o → h'.get? b = some o) →
        ∃ u, some (Value.ref s.heap.objs.size) = some u ∧ wpAny (model X.prog X.w) X.A (letOwnedTupleGo tg (.ref it) u) (fun _ s2 => ∃ x H', Inv X pins σ H' s2 ∧ RelV x u ∧ (Itc xs r).yld i H x H' ∧ CombAt xs.length r us it p (i + 1) s2.heap ∧ ∀ b ∈ [it, p], H' b = none) E { s with heap := h' } := fun ix hix h' c1 t1 k1 => by
      obtain ⟨_, hl, hb⟩ := combs_next hn hr hix
      have J : Inv X pins σ (upd H s.heap.objs.size (.tup (rowAt xs ix))) { s with heap := h' } := I.turnedNew (t' := s.toks) (ch := [it, p]) (fun c o hb q => k1 c o (fun z => hb (by subst z; simp)) q) hf (Nat.le_refl _)
        ⟨by rw [PySem.sizeLine_eq]; unfold rowAt; rw [List.length_map]; omega, _, vals_row rv ix hb, ⟨_, t1, rfl, _, rfl⟩⟩
      refine ⟨_, rfl, go_of (s := { s with heap := h' }) c1 rfl rfl (by decide) ⟨.ref s.heap.objs.size, _, J, rfl, ⟨_, ix, rfl, I.hok.fresh (Nat.le_refl _), hix, rfl⟩, ⟨?_, _, .inr ⟨i, ix, rfl, hix, c1⟩⟩, fun b hb => ?_⟩⟩
      · obtain ⟨o, ho, hc, n, hd⟩ := ht
        exact ⟨o, k1 p o ne ho, hc, n, hd⟩
      · have low : b < s.heap.objs.size := by
          rcases List.mem_cons.mp hb with rfl | hb
          · rcases st with ⟨_, c⟩ | ⟨_, _, _, _, c⟩ <;> exact Heap.lt_size c
          · rw [List.mem_singleton] at hb
            subst hb
            obtain ⟨o, ho, _⟩ := ht
            exact Heap.lt_size ho
        exact (upd_ne (Nat.ne_of_lt low)).trans (hf b hb).1
    rcases st with ⟨rfl, c⟩ | ⟨j, ix, rfl, hx, c⟩
    · have hix := combs_head hn hr
      exact comb_first c ht (by rw [List.length_range]; omega) fun h' c1 t1 k1 => fin _ hix h' c1 t1 k1
    · obtain ⟨ix', hix⟩ : ∃ ix', (combs (List.range xs.length) r)[j + 1]? = some ix' := ⟨_, List.getElem?_eq_getElem go⟩
      obtain ⟨e, _, _⟩ := combs_next hn hr hx
      obtain ⟨_, hl, _⟩ := combs_next hn hr hix
      exact comb_next c ht (by rw [← len, e, hix]) (by omega) fun h' c1 t1 k1 => fin _ hix h' c1 t1 k1
  done := by
    rintro X rfl rfl rfl hc i pins s σ H E I hf st stop
    have len := rv.length
    obtain ⟨ht, prev, st⟩ := st
    rcases st with ⟨rfl, c⟩ | ⟨j, ix, rfl, hx, c⟩
    · have hix := (List.getElem?_eq_some_iff.mp (combs_head hn hr)).1
      exact absurd stop (Nat.not_le.mpr hix)
    · obtain ⟨e, _, _⟩ := combs_next hn hr hx
      refine comb_end (I.ok.hd hc) c ht (by rw [← len, e]; exact List.getElem?_eq_none stop) fun h' k1 => ⟨rfl, I.turnedL (t' := s.toks) (ch := [it, p]) (fun b o hb q => k1 b o (fun z => hb (by subst z; simp)) q) hf⟩
  self := fun A i s Q E st h => by
    obtain ⟨s, prev, ix, e⟩ := st.any
    exact iter_of_comb e h
def kComb (R : It → Hp → Prop) : List V → Hp → Prop := fun vs H1 => ∃ (a : Addr) (xs : List V) (r : Nat), vs = [.ref a, .int r] ∧ H1 a = some (.lst xs) ∧ xs.length ≤ 8 ∧ r ≤ xs.length ∧ R (Itc xs r) H1
def iComb (ta : TA) : TI := fun σ H R => ta σ H (kComb R)
theorem iCombK {ta : TA} {σ : L2.St} {H : Hp} {R : It → Hp → Prop} (q : ta σ H (kComb R)) : iComb ta σ H R := q
theorem iCombI {a : Addr} {xs : List V} {r : Nat} {H : Hp} {R : It → Hp → Prop} (h : H a = some (.lst xs)) (h8 : xs.length ≤ 8) (hr : r ≤ xs.length) (q : R (Itc xs r) H) : kComb R [.ref a, .int (r : Int)] H := ⟨a, xs, r, rfl, h, h8, hr, q⟩
/-- for some in combinations(xs, r) -/
theorem pi_comb {X : Cx} {x : Str} {e e2 tg : Expr} {ta : TA} {p pos : Pos} (hg : Gl X x) (g : X.mg x = some (.type "itertools.combinations")) (ha : PA X [e, e2] ta) (hdb : (x == ("__debug__" : Str)) = false := by decide)
    (hs : starEach [e, e2] X.env = (false, eval e X.env) :: starEach [e2] X.env := by rfl) (hpl : (backTo pos (starEach [e2] X.env)).any (·.1) = false := by rfl) : PI X tg (.Call (.Name x p) [e, e2] [] pos) (iComb ta) := by
  refine ⟨fun pins s σ H R I h => Call_ (ld_glob I hg g (PyProof.Rows.callWith_type1 (thn (ha.run pos pins s σ H _ I h) fun us s1 hq => ?_) hs hpl) hdb)⟩
  obtain ⟨vs, H1, I1, r1, a, xs, r, rfl, hqx, h8, hr, q⟩ := hq
  obtain ⟨u1, u2, rfl, ra, rb⟩ := vals2 r1
  obtain rfl : u1 = Value.ref a := ra
  obtain ⟨t, rfl⟩ := rb
  obtain ⟨its, rv, p1, _⟩ := I1.list (SqL.tr hqx)
  have len := rv.length
  refine call_comb (vs := its) p1.isList (by omega) (by omega) fun h' it pl k1 k2 k3 k4 k5 => iter_of_comb k5 ?_
  have I2 : Inv X pins σ H1 { s1 with heap := h' } := I1.kept (t' := s1.toks) k1
  refine ⟨it, [it, pl], _, _, H1, rfl, I2, turn_comb it pl rv h8 hr, ⟨k4, _, .inl ⟨rfl, k5⟩⟩, fun c hm => ?_, q⟩
  have low : s1.heap.objs.size ≤ c := by
    rcases List.mem_cons.mp hm with rfl | hm
    · exact k3
    · rw [List.mem_singleton] at hm
      subst hm
      exact k2
  exact I1.fpOk low (I1.hok.fresh low)
theorem walk_comb {xs : List V} {r : Nat} : Walk (Itc xs r) (combs (List.range xs.length) r).length (fun _ => True) (fun i H x H' => ∃ p ix, x = .ref p ∧ H p = none ∧ (combs (List.range xs.length) r)[i]? = some ix ∧ H' = upd H p (.tup (rowAt xs ix))) :=
  ⟨fun i H h _ => h, fun H _ => Nat.le_refl _, fun i H x H' h _ y => y⟩
/-- the walk, at the level of loops -/
theorem forJ_comb {xs : List V} {r : Nat} {g : TG} {tb : TS} {n b c : L2.St → Hp → Prop} {rr : VK} {σ : L2.St} {H : Hp} (Pv : Nat → L2.St → Hp → Prop) (h0 : Pv 0 σ H)
    (hs : ∀ i ix p σ H, (combs (List.range xs.length) r)[i]? = some ix → H p = none → Pv i σ H → g (.ref p) σ (upd H p (.tup (rowAt xs ix))) fun σ2 H2 => tb ⟨Pv (i + 1), rr, n, Pv (i + 1)⟩ σ2 H2) (hd : ∀ σ H, Pv (combs (List.range xs.length) r).length σ H → n σ H) : tForJ (Itc xs r) g tb ⟨n, rr, b, c⟩ σ H :=
  forJ walk_comb Pv h0 (fun _ _ _ _ _ => trivial) (fun i x σ H H' hi hp hy => by
    obtain ⟨p, ix, rfl, hp0, hix, rfl⟩ := hy
    exact hs i ix p σ H hix hp0 hp) hd
end R
set_option Elab.async false
set_option linter.all false
set_option maxRecDepth 100000
set_option maxHeartbeats 4000000
namespace R
open PySem PySem.Spec L2
/-! ### accepted words, plainly -/
theorem sumB_map {α β : Type} {f : β → B} {g : α → β} : ∀ {L : List α}, sumB f (L.map g) = sumB (fun a => f (g a)) L
  | [] => rfl
  | a :: L => by
    show f (g a) + sumB f (L.map g) = f (g a) + sumB (fun a => f (g a)) L
    rw [sumB_map]
/-- the word through the cells F at the places L -/
def codeW (F : Nat → Nat → B) (L : List Nat) (x t : Nat) : B := sumB (fun m => wB (pl x) (L.map pl) (pl m) * F m t) L
theorem map_pl_nd {L : List Nat} (nd : L.Nodup) (h : ∀ m ∈ L, m < 256) : (L.map pl).Nodup := by
  refine List.pairwise_map.mpr (List.Pairwise.imp_of_mem (fun {a b} ha hb ne e => ?_) nd)
  exact ne (pl_inj (h a ha) (h b hb) e)
theorem codeW_self {F : Nat → Nat → B} {L : List Nat} {m t : Nat} (nd : L.Nodup) (h : ∀ m ∈ L, m < 256) (hm : m ∈ L) : codeW F L m t = F m t := by
  have e : codeW F L m t = sumB (fun i => wB (pl m) (L.map pl) i * F i.v t) (L.map pl) := by
    rw [sumB_map]
    refine sum_congr fun a ha => ?_
    rw [pl_v (h a ha)]
  rw [e, sum_pick (f := fun i => F i.v t) (map_pl_nd nd h) (List.mem_map_of_mem hm)]
  show F (pl m).v t = _
  rw [pl_v (h m hm)]
/-- a word of the code: at each byte a polynomial of k parts -/
def IsW (k : Nat) (w : Nat → Nat → B) : Prop := ∀ t, ∃ f : B → B, Pl k f ∧ ∀ x, w x t = f (pl x)
theorem codeW_isW {F : Nat → Nat → B} {L : List Nat} (nd : L.Nodup) (h : ∀ m ∈ L, m < 256) : IsW L.length (codeW F L) := fun t => by
  refine ⟨fun x => sumB (fun m => wB x (L.map pl) (pl m) * F m t) L, ?_, fun x => rfl⟩
  refine sum_pl (g := fun m x => wB x (L.map pl) (pl m) * F m t) fun m hm => ?_
  have p := wB_pl (map_pl_nd nd h) (List.mem_map_of_mem (f := pl) hm)
  rw [List.length_map] at p
  exact Pl.congr (fun x => B.mul_comm _ _) (Pl.smul (F m t) p)
theorem isW_uniq {k : Nat} {w w' : Nat → Nat → B} {S : List Nat} {t : Nat} (h : IsW k w) (h' : IsW k w') (nd : S.Nodup) (hS : ∀ m ∈ S, m < 256) (hk : k ≤ S.length) (e : ∀ m ∈ S, w m t = w' m t) (x : Nat) : w x t = w' x t := by
  obtain ⟨f, pf, hf⟩ := h t
  obtain ⟨g, pg, hg⟩ := h' t
  have z := Pl.zero (pf.add pg) (map_pl_nd nd hS) (by rw [List.length_map]; exact hk) (fun b hb => by
    obtain ⟨m, hm, rfl⟩ := List.mem_map.mp hb
    show f (pl m) + g (pl m) = b0
    rw [← hf, ← hg, e m hm, B.add_self]) (pl x)
  rw [hf, hg]
  exact B.add_eq z
/-! sectors as lists of numbers -/
def secN (f : Nat → B) : List Nat := (List.range 32).map fun t => (f t).v
theorem secN_iff {f g : Nat → B} : secN f = secN g ↔ ∀ t, t < 32 → f t = g t := by
  unfold secN
  rw [List.map_inj_left]
  exact ⟨fun h t ht => B.ext' (h t (List.mem_range.mpr ht)), fun h t ht => congrArg B.v (h t (List.mem_range.mp ht))⟩
def eqS (f g : Nat → B) : Bool := decide (secN f = secN g)
theorem eqS_iff {f g : Nat → B} : eqS f g = true ↔ ∀ t, t < 32 → f t = g t := by
  unfold eqS
  rw [decide_eq_true_eq]
  exact secN_iff
/-- the places at which a word is not what is read -/
def badP (c w : Nat → Nat → B) (P : List Nat) : List Nat := P.filter fun x => !eqS (w x) (c x)
theorem count3 {α : Type} (a b : α → Bool) : ∀ P : List α, P.length ≤ (P.filter fun x => a x && b x).length + (P.filter fun x => !a x).length + (P.filter fun x => !b x).length
  | [] => by simp
  | x :: P => by
    have ih := count3 a b P
    cases ha : a x <;> cases hb : b x <;> simp [List.filter_cons, ha, hb] at ih ⊢ <;> omega
theorem count2 {α : Type} (a : α → Bool) : ∀ P : List α, P.length ≤ (P.filter fun x => a x).length + (P.filter fun x => !a x).length
  | [] => by simp
  | x :: P => by
    have ih := count2 a P
    cases ha : a x <;> simp [List.filter_cons, ha] at ih ⊢ <;> omega
theorem two_acc {c w w' : Nat → Nat → B} {P : List Nat} {k sp : Nat} (h : IsW k w) (h' : IsW k w') (nd : P.Nodup) (hP : ∀ m ∈ P, m < 256) (hk : k + 2 * sp ≤ P.length) (b : (badP c w P).length ≤ sp) (b' : (badP c w' P).length ≤ sp) : ∀ x t, t < 32 → w x t = w' x t := fun x t ht => by
  have n := count3 (fun x => eqS (w x) (c x)) (fun x => eqS (w' x) (c x)) P
  unfold badP at b b'
  refine isW_uniq (S := P.filter fun x => eqS (w x) (c x) && eqS (w' x) (c x)) h h' (List.Pairwise.filter _ nd) (fun m hm => hP m (List.mem_filter.mp hm).1) (by omega) (fun m hm => ?_) x
  have z := (List.mem_filter.mp hm).2
  rw [Bool.and_eq_true] at z
  exact (eqS_iff.mp z.1 t ht).trans (eqS_iff.mp z.2 t ht).symm
theorem bad_congr {c w w' : Nat → Nat → B} {P : List Nat} (e : ∀ x t, t < 32 → w x t = w' x t) : badP c w P = badP c w' P := by
  unfold badP
  refine List.filter_congr fun x _ => ?_
  have : secN (w x) = secN (w' x) := secN_iff.mpr (e x)
  unfold eqS
  rw [this]
/-! ### the rows of k of a list -/
theorem combs_sub : ∀ {l : List Nat} {k : Nat} {r : List Nat}, r ∈ combs l k → r.Sublist l ∧ r.length = k
  | l, 0, r, h => by
    have : combs l 0 = [[]] := by cases l <;> rfl
    rw [this, List.mem_singleton] at h
    subst h
    exact ⟨List.nil_sublist _, rfl⟩
  | [], k + 1, r, h => nomatch h
  | x :: l, k + 1, r, h => by
    rcases List.mem_append.mp (show r ∈ (combs l k).map (x :: ·) ++ combs l (k + 1) from h) with h | h
    · obtain ⟨r', hr, rfl⟩ := List.mem_map.mp h
      obtain ⟨a, b⟩ := combs_sub hr
      exact ⟨a.cons₂ x, by rw [List.length_cons, b]⟩
    · obtain ⟨a, b⟩ := combs_sub h
      exact ⟨a.cons x, b⟩
theorem combs_all : ∀ {l r : List Nat}, r.Sublist l → r ∈ combs l r.length
  | _, _, .slnil => List.mem_singleton.mpr rfl
  | x :: l, r, .cons _ h => by
    have z := combs_all h
    cases r with
    | nil => exact List.mem_singleton.mpr rfl
    | cons y r => exact List.mem_append_right _ z
  | x :: l, _ :: r, .cons₂ _ h => List.mem_append_left _ (List.mem_map.mpr ⟨r, combs_all h, rfl⟩)
/-- the law's rows: place after place -/
def subStep (k : Nat) (found : List (List Nat)) (x : Nat) : List (List Nat) := found ++ (found.filter fun r => decide (r.length < k)).map (· ++ [x])
def subs (k : Nat) (l : List Nat) : List (List Nat) := l.foldl (subStep k) [[]]
theorem subs_snoc (k : Nat) (l : List Nat) (x : Nat) : subs k (l ++ [x]) = subStep k (subs k l) x := by
  unfold subs
  rw [List.foldl_append]
  rfl
theorem sublist_snoc {r l : List Nat} {x : Nat} (h : r.Sublist (l ++ [x])) : r.Sublist l ∨ ∃ r', r = r' ++ [x] ∧ r'.Sublist l := by
  obtain ⟨a, b, rfl, ha, hb⟩ := List.sublist_append_iff.mp h
  cases b with
  | nil => exact .inl (by rw [List.append_nil]; exact ha)
  | cons y b =>
    have hl := hb.length_le
    cases b with
    | nil =>
      have : y = x := by
        have := hb.subset List.mem_cons_self
        rwa [List.mem_singleton] at this
      subst this
      exact .inr ⟨a, rfl, ha⟩
    | cons z b => simp at hl
theorem subs_rev (k : Nat) (m : List Nat) : ∀ r, r ∈ subs k m.reverse ↔ r.Sublist m.reverse ∧ r.length ≤ k := by
  induction m with
  | nil =>
    intro r
    rw [List.reverse_nil]
    show r ∈ [[]] ↔ _
    rw [List.mem_singleton, List.sublist_nil]
    exact ⟨fun h => ⟨h, by rw [h]; exact Nat.zero_le _⟩, fun h => h.1⟩
  | cons x m ih =>
    intro r
    rw [List.reverse_cons]
    generalize m.reverse = l at ih ⊢
    rw [subs_snoc]
    unfold subStep
    rw [List.mem_append, List.mem_map]
    constructor
    · rintro (h | ⟨r', h, rfl⟩)
      · obtain ⟨a, b⟩ := (ih r).mp h
        exact ⟨a.trans (List.sublist_append_left _ _), b⟩
      · obtain ⟨h1, h2⟩ := List.mem_filter.mp h
        obtain ⟨a, b⟩ := (ih r').mp h1
        have h2 := of_decide_eq_true h2
        exact ⟨List.Sublist.append a (List.Sublist.refl _), by rw [List.length_append]; exact h2⟩
    · rintro ⟨h, hl⟩
      rcases sublist_snoc h with h3 | ⟨r', rfl, h3⟩
      · exact .inl ((ih r).mpr ⟨h3, hl⟩)
      · rw [List.length_append] at hl
        exact .inr ⟨r', List.mem_filter.mpr ⟨(ih r').mpr ⟨h3, by simp at hl; omega⟩, decide_eq_true (by simp at hl; omega)⟩, rfl⟩
theorem subs_iff (k : Nat) (l : List Nat) (r : List Nat) : r ∈ subs k l ↔ r.Sublist l ∧ r.length ≤ k := by
  have h := subs_rev k l.reverse r
  rwa [List.reverse_reverse] at h
/-! ### the two searches find the same -/
theorem sub_nodup {l r : List Nat} (h : r.Sublist l) (nd : l.Nodup) : r.Nodup := List.Pairwise.sublist h nd
/-- where a word is accepted, some row of a list that is long enough makes it -/
theorem row_of {c w : Nat → Nat → B} {P : List Nat} {k sp : Nat} (hw : IsW k w) (nd : P.Nodup) (hP : ∀ m ∈ P, m < 256) (b : (badP c w P).length ≤ sp) {l : List Nat} (hl : l.Sublist P) (hk : k + sp ≤ l.length) :
    ∃ r, r.Sublist l ∧ r.length = k ∧ ∀ x t, t < 32 → codeW c r x t = w x t := by
  have n : l.length ≤ (l.filter fun x => eqS (w x) (c x)).length + (l.filter fun x => !eqS (w x) (c x)).length := count2 (fun x => eqS (w x) (c x)) l
  have n2 : (l.filter fun x => !eqS (w x) (c x)).length ≤ (badP c w P).length := (hl.filter _).length_le
  refine ⟨(l.filter fun x => eqS (w x) (c x)).take k, (List.take_sublist _ _).trans List.filter_sublist, by rw [List.length_take]; omega, fun x t ht => ?_⟩
  have hs : ((l.filter fun x => eqS (w x) (c x)).take k).Sublist P := ((List.take_sublist _ _).trans List.filter_sublist).trans hl
  have nd' := sub_nodup hs nd
  have h256 : ∀ m ∈ (l.filter fun x => eqS (w x) (c x)).take k, m < 256 := fun m hm => hP m (hs.subset hm)
  have hlen : ((l.filter fun x => eqS (w x) (c x)).take k).length = k := by rw [List.length_take]; omega
  have hc := codeW_isW (F := c) nd' h256
  rw [hlen] at hc
  refine isW_uniq hc hw nd' h256 (by omega) (fun m hm => ?_) x
  rw [codeW_self nd' h256 hm]
  exact (eqS_iff.mp (List.mem_filter.mp (List.mem_of_mem_take hm)).2 t ht).symm
/-- a search through rows: the first that is accepted -/
def firstAcc (c : Nat → Nat → B) (P : List Nat) (sp : Nat) (rows : List (List Nat)) : Option (List Nat) := rows.find? fun r => decide ((badP c (codeW c r) P).length ≤ sp)
theorem firstAcc_some {c : Nat → Nat → B} {P : List Nat} {sp : Nat} {R : List (List Nat)} {r : List Nat} (h : firstAcc c P sp R = some r) : r ∈ R ∧ (badP c (codeW c r) P).length ≤ sp := by
  have z : (R.find? fun r => decide ((badP c (codeW c r) P).length ≤ sp)) = some r := h
  have z2 := List.find?_some z
  exact ⟨List.mem_of_find?_eq_some z, of_decide_eq_true z2⟩
/-- whatever rows are searched: if each has k places of P, and all rows of k places of a long part of P are among them, what is found is the same word -/
theorem found_same {c : Nat → Nat → B} {P l1 l2 : List Nat} {k sp : Nat} {R1 R2 : List (List Nat)} (nd : P.Nodup) (hP : ∀ m ∈ P, m < 256) (hk : k + 2 * sp ≤ P.length)
    (s1 : ∀ r ∈ R1, r.Sublist P ∧ r.length = k) (s2 : ∀ r ∈ R2, r.Sublist P ∧ r.length = k) (hl1 : l1.Sublist P) (hl2 : l2.Sublist P) (h1 : k + sp ≤ l1.length) (h2 : k + sp ≤ l2.length)
    (a1 : ∀ r, r.Sublist l1 → r.length = k → r ∈ R1) (a2 : ∀ r, r.Sublist l2 → r.length = k → r ∈ R2) :
    match firstAcc c P sp R1, firstAcc c P sp R2 with
    | some r, some r' => ∀ x t, t < 32 → codeW c r x t = codeW c r' x t
    | none, none => True
    | _, _ => False := by
  have isW : ∀ r : List Nat, r.Sublist P → r.length = k → IsW k (codeW c r) := fun r hr e => by
    have z := codeW_isW (F := c) (sub_nodup hr nd) (fun m hm => hP m (hr.subset hm))
    rwa [e] at z
  have some_of : ∀ {R R' : List (List Nat)} {l : List Nat}, (∀ r ∈ R, r.Sublist P ∧ r.length = k) → l.Sublist P → k + sp ≤ l.length → (∀ r, r.Sublist l → r.length = k → r ∈ R') → firstAcc c P sp R' = none → firstAcc c P sp R = none := fun {R R' l} s hl h a hn => by
    cases e : firstAcc c P sp R with
    | none => rfl
    | some r =>
      obtain ⟨hr, hb⟩ := firstAcc_some e
      obtain ⟨z, q1, q2, q3⟩ := row_of (isW r (s r hr).1 (s r hr).2) nd hP hb hl h
      have hz := List.find?_eq_none.mp hn z (a z q1 q2)
      rw [bad_congr q3] at hz
      exact absurd (decide_eq_true hb) hz
  cases e1 : firstAcc c P sp R1 with
  | none =>
    rw [some_of s2 hl1 h1 a1 e1]
    trivial
  | some r =>
    cases e2 : firstAcc c P sp R2 with
    | none =>
      rw [some_of s1 hl2 h2 a2 e2] at e1
      cases e1
    | some r' =>
      obtain ⟨m1, b1⟩ := firstAcc_some e1
      obtain ⟨m2, b2⟩ := firstAcc_some e2
      exact two_acc (isW r (s1 r m1).1 (s1 r m1).2) (isW r' (s2 r' m2).1 (s2 r' m2).2) nd hP hk b1 b2
end R
set_option Elab.async false
set_option linter.all false
set_option maxRecDepth 100000
set_option maxHeartbeats 4000000
namespace R
/-! ### bytes packed into one number -/
def packN (l : List Nat) : Nat := l.foldl (fun t b => t * 256 + b) 0
theorem packN_snoc (l : List Nat) (b : Nat) : packN (l ++ [b]) = packN l * 256 + b := by
  unfold packN
  rw [List.foldl_append]
  rfl
theorem bit256 (a b j : Nat) (hb : b < 256) : (a * 256 + b).testBit j = if j < 8 then b.testBit j else a.testBit (j - 8) := by
  have h := Nat.testBit_two_pow_mul_add a (b := b) (i := 8) hb j
  rw [show (2 : Nat) ^ 8 * a + b = a * 256 + b by omega] at h
  exact h
theorem xor256 {a b c d : Nat} (hb : b < 256) (hd : d < 256) : (a * 256 + b) ^^^ (c * 256 + d) = (a ^^^ c) * 256 + (b ^^^ d) := by
  have hx : b ^^^ d < 256 := Nat.xor_lt_two_pow (n := 8) hb hd
  refine Nat.eq_of_testBit_eq fun j => ?_
  rw [Nat.testBit_xor, bit256 _ _ _ hb, bit256 _ _ _ hd, bit256 _ _ _ hx]
  split
  · rw [Nat.testBit_xor]
  · rw [Nat.testBit_xor]
theorem and256 {a b c d : Nat} (hb : b < 256) (hd : d < 256) : (a * 256 + b) &&& (c * 256 + d) = (a &&& c) * 256 + (b &&& d) := by
  have hx : b &&& d < 256 := Nat.lt_of_le_of_lt Nat.and_le_left hb
  refine Nat.eq_of_testBit_eq fun j => ?_
  rw [Nat.testBit_and, bit256 _ _ _ hb, bit256 _ _ _ hd, bit256 _ _ _ hx]
  split
  · rw [Nat.testBit_and]
  · rw [Nat.testBit_and]
/-- n bytes m, packed -/
def mask (m : Nat) : Nat → Nat
  | 0 => 0
  | n + 1 => mask m n * 256 + m
/-- all n bytes doubled at once -/
def dblN (n x : Nat) : Nat := ((x &&& mask 127 n) * 2) ^^^ ((x / 128 &&& mask 1 n) * 29)
theorem dbl_small {b : Nat} (hb : b < 256) : ((b &&& 127) * 2) ^^^ (b / 128 * 29) = dbl b ∧ (b &&& 127) * 2 < 256 ∧ b / 128 * 29 < 256 := by
  have h : allLt (fun b => Nat.beq (((b &&& 127) * 2) ^^^ (b / 128 * 29)) (dbl b) && Nat.ble ((b &&& 127) * 2 + 1) 256) 256 = true := by decide +kernel
  have z := allLt_of h b hb
  rw [Bool.and_eq_true] at z
  exact ⟨Nat.eq_of_beq_eq_true z.1, Nat.le_of_ble_eq_true z.2, by omega⟩
theorem and_one_mod (x : Nat) : x &&& 1 = x % 2 := by
  have := Nat.and_two_pow_sub_one_eq_mod x 1
  simpa using this
theorem dblN_step (n a : Nat) {b : Nat} (hb : b < 256) : dblN (n + 1) (a * 256 + b) = dblN n a * 256 + dbl b := by
  unfold dblN
  obtain ⟨e, l1, l2⟩ := dbl_small hb
  have h1 : (a * 256 + b) &&& mask 127 (n + 1) = (a &&& mask 127 n) * 256 + (b &&& 127) := and256 hb (by decide)
  have h2 : (a * 256 + b) / 128 &&& mask 1 (n + 1) = (a / 128 &&& mask 1 n) * 256 + b / 128 := by
    have e2 : (a * 256 + b) / 128 = (a / 128) * 256 + ((a * 2 + b / 128) % 256) := by omega
    rw [e2]
    refine (and256 (Nat.mod_lt _ (by decide)) (by decide)).trans ?_
    rw [and_one_mod]
    congr 1
    omega
  rw [h1, h2]
  have e3 : ((a &&& mask 127 n) * 256 + (b &&& 127)) * 2 = ((a &&& mask 127 n) * 2) * 256 + (b &&& 127) * 2 := by omega
  have e4 : ((a / 128 &&& mask 1 n) * 256 + b / 128) * 29 = ((a / 128 &&& mask 1 n) * 29) * 256 + b / 128 * 29 := by omega
  rw [e3, e4, xor256 l1 l2, e]
theorem dblN_pack : ∀ (l : List Nat), (∀ b ∈ l, b < 256) → dblN l.length (packN l) = packN (l.map dbl) := by
  intro l hl
  have key : ∀ m : List Nat, (∀ b ∈ m, b < 256) → dblN m.reverse.length (packN m.reverse) = packN (m.reverse.map dbl) := by
    intro m
    induction m with
    | nil => intro _; decide
    | cons b m ih =>
      intro h
      rw [List.reverse_cons, packN_snoc, List.length_append, List.map_append]
      show dblN (m.reverse.length + 1) _ = packN (m.reverse.map dbl ++ [dbl b])
      rw [dblN_step _ _ (h b List.mem_cons_self), packN_snoc, ih fun c hc => h c (List.mem_cons_of_mem _ hc)]
  have := key l.reverse (fun b hb => hl b (List.mem_reverse.mp hb))
  rwa [List.reverse_reverse] at this
theorem xor_pack {α : Type} {f g : α → Nat} (l : List α) (hf : ∀ a ∈ l, f a < 256) (hg : ∀ a ∈ l, g a < 256) : packN (l.map f) ^^^ packN (l.map g) = packN (l.map fun a => f a ^^^ g a) := by
  have key : ∀ m : List α, (∀ a ∈ m, f a < 256) → (∀ a ∈ m, g a < 256) → packN (m.reverse.map f) ^^^ packN (m.reverse.map g) = packN (m.reverse.map fun a => f a ^^^ g a) := by
    intro m
    induction m with
    | nil => intro _ _; simp [packN]
    | cons b m ih =>
      intro h1 h2
      rw [List.reverse_cons, List.map_append, List.map_append, List.map_append]
      show packN (m.reverse.map f ++ [f b]) ^^^ packN (m.reverse.map g ++ [g b]) = packN ((m.reverse.map fun a => f a ^^^ g a) ++ [f b ^^^ g b])
      rw [packN_snoc, packN_snoc, packN_snoc, xor256 (h1 b List.mem_cons_self) (h2 b List.mem_cons_self), ih (fun c hc => h1 c (List.mem_cons_of_mem _ hc)) fun c hc => h2 c (List.mem_cons_of_mem _ hc)]
  have := key l.reverse (fun b hb => hf b (List.mem_reverse.mp hb)) (fun b hb => hg b (List.mem_reverse.mp hb))
  rwa [List.reverse_reverse] at this
theorem packN_inj : ∀ {l m : List Nat}, l.length = m.length → (∀ b ∈ l, b < 256) → (∀ b ∈ m, b < 256) → packN l = packN m → l = m := by
  intro l m he hl hm h
  have key : ∀ l m : List Nat, l.length = m.length → (∀ b ∈ l, b < 256) → (∀ b ∈ m, b < 256) → packN l.reverse = packN m.reverse → l = m := by
    intro l
    induction l with
    | nil =>
      intro m he _ _ _
      cases m with
      | nil => rfl
      | cons _ _ => cases he
    | cons b l ih =>
      intro m he hl hm h
      cases m with
      | nil => cases he
      | cons c m =>
        rw [List.reverse_cons, List.reverse_cons, packN_snoc, packN_snoc] at h
        have h1 := hl b List.mem_cons_self
        have h2 := hm c List.mem_cons_self
        have e : b = c := by omega
        have e2 : packN l.reverse = packN m.reverse := by omega
        rw [e, ih m (Nat.succ.inj he) (fun x hx => hl x (List.mem_cons_of_mem _ hx)) (fun x hx => hm x (List.mem_cons_of_mem _ hx)) e2]
  have := key l.reverse m.reverse (by rw [List.length_reverse, List.length_reverse, he]) (fun b hb => hl b (List.mem_reverse.mp hb)) (fun b hb => hm b (List.mem_reverse.mp hb)) (by rw [List.reverse_reverse, List.reverse_reverse]; exact h)
  have e := congrArg List.reverse this
  rwa [List.reverse_reverse, List.reverse_reverse] at e
/-- the law's turn: total ^ number where the bit is set, the number doubled -/
def scl (n f : Nat) : Nat → Nat → Nat
  | _, 0 => 0
  | x, i + 1 => if f / 2 ^ i % 2 = 1 then scl n f x i ^^^ (Nat.repeat (dblN n) i x) else scl n f x i
theorem rep_pack {l : List Nat} (hl : ∀ b ∈ l, b < 256) : ∀ i, Nat.repeat (dblN l.length) i (packN l) = packN (l.map fun a => dp a i) ∧ ∀ b ∈ l.map (fun a => dp a i), b < 256
  | 0 => ⟨by show packN l = _; simp [dp], fun b hb => by
      obtain ⟨a, ha, rfl⟩ := List.mem_map.mp hb
      exact hl a ha⟩
  | i + 1 => by
    obtain ⟨e, h⟩ := rep_pack hl i
    have e2 := dblN_pack (l.map fun a => dp a i) h
    rw [List.length_map] at e2
    refine ⟨?_, fun b hb => ?_⟩
    · show dblN l.length (Nat.repeat (dblN l.length) i (packN l)) = _
      rw [e, e2, List.map_map]
      rfl
    · obtain ⟨a, ha, rfl⟩ := List.mem_map.mp hb
      have := h (dp a i) (List.mem_map_of_mem ha)
      have z := (dbl_small this)
      show dbl (dp a i) < 256
      rw [← z.1]
      exact Nat.xor_lt_two_pow (n := 8) z.2.1 z.2.2
theorem scl_pack {l : List Nat} (f : Nat) (hl : ∀ b ∈ l, b < 256) : ∀ i, scl l.length f (packN l) i = packN (l.map fun a => gs a f i)
  | 0 => by
    show 0 = packN (l.map fun _ => 0)
    have : ∀ m : List Nat, packN (m.map fun _ => 0) = 0 := fun m => by
      unfold packN
      induction m with
      | nil => rfl
      | cons _ m ih => exact ih
    exact (this l).symm
  | i + 1 => by
    have ih := scl_pack f hl i
    show (if f / 2 ^ i % 2 = 1 then _ else _) = packN (l.map fun a => if f / 2 ^ i % 2 = 1 then gs a f i ^^^ dp a i else gs a f i)
    split
    · obtain ⟨e, h⟩ := rep_pack hl i
      rw [ih, e, xor_pack l (fun a ha => gs_lt f (hl a ha) i) fun a ha => h _ (List.mem_map_of_mem ha)]
    · exact ih
theorem scl_gm {l : List Nat} (f : Nat) (hl : ∀ b ∈ l, b < 256) : scl l.length f (packN l) 8 = packN (l.map fun a => gm a f) := scl_pack f hl 8
end R
set_option Elab.async false
set_option linter.all false
set_option maxRecDepth 100000
set_option maxHeartbeats 4000000
namespace R
open PySem PySem.Spec L2
/-! ### a short text, many times; numbers of such texts -/
def repS (z : Str) (n : Nat) : Str := ⟨(List.replicate n z.cps).foldl (· ++ ·) #[]⟩
def rTxr : R2 := fun x y H Q => ∃ (z : Str) (n : Nat), x = .str z ∧ y = .int (n : Int) ∧ 2 ≤ n ∧ n ≤ 100 ∧ z.length = 2 ∧ (repS z n).length ≤ sizeLine ∧ Q (.str (repS z n)) H
theorem op_txr {X : Cx} : OpR X (binaryOp .Mult) rTxr := by
  intro pins s σ H x y v u Q I rx ry h
  obtain ⟨z, n, rfl, rfl, h2, h100, hz, hs, q⟩ := h
  obtain ⟨t, rfl⟩ := rx
  obtain ⟨t', rfl⟩ := ry
  have n1 : ¬ (n : Int) < 1 := by omega
  have n2 : (((n : Int) == 1 || z.length == 0)) = false := by
    rw [Bool.or_eq_false_iff]
    exact ⟨beq_eq_false_iff_ne.mpr (by omega), beq_eq_false_iff_ne.mpr (by omega)⟩
  refine P.mul_str ?_ (fun _ _ => ?_) (fun _ _ => ?_) ?_
  · rw [decide_eq_false (by omega), decide_eq_false (by omega)]; rfl
  · rw [hz]
    have : (2 ^ 63 - 1) / (n : Int) ≥ (2 ^ 63 - 1) / 100 := by
      refine Int.le_ediv_of_mul_le (by omega) ?_
      have : ((2 ^ 63 - 1) / 100 : Int) * n ≤ ((2 ^ 63 - 1) / 100 : Int) * 100 := Int.mul_le_mul_of_nonneg_left (by omega) (by decide)
      omega
    omega
  · rw [hz]
    show decide (_ > _) = false
    refine decide_eq_false ?_
    rw [PySem.sizeLine_eq]
    omega
  · rw [if_neg n1, n2]
    exact ⟨hs, .str (repS z n), H, I.tok _, ⟨_, rfl⟩, q⟩
theorem mask01 : L2.Hx.hexNum ((repS "01" 32).cps.toList) = mask 1 32 := by decide +kernel
theorem mask7f : L2.Hx.hexNum ((repS "7f" 32).cps.toList) = mask 127 32 := by decide +kernel
end R
set_option Elab.async false
set_option linter.all false
set_option maxRecDepth 100000
set_option maxHeartbeats 4000000
namespace R
open PySem PySem.Spec PyProof.Rows L2
open Evl (Ex)
/-! ### a dict whose keys are numbers and nested tuples of numbers, mixed -/
/-- the entries es have the keys ks -/
structure Keyd (w : World) (h : Heap) (es : Array DictEntry) (ks : List NestedKey) : Prop where
  size : es.size = ks.length
  at_ : ∀ (j : Nat) (k' : NestedKey), ks[j]? = some k' → ∃ e, es[j]? = some e ∧ e.hash = k'.hash w ∧ NestedIs h k' e.key ∧ k'.depth ≤ 8
  nd : ks.Nodup
section
variable {prog : Program} {w : World} {A : Around} {E : Value → Shared → Prop} {s : Shared}
theorem may_quiet {key : Value} {k : NestedKey} {stored : List Value} {Q : Bool → Shared → Prop} (hk : NestedIs s.heap k key ∧ k.depth ≤ 8) (hst : ∀ v ∈ stored, ∃ k', NestedIs s.heap k' v ∧ k'.depth ≤ 8) (q : Q false s) :
    wpAny (model prog w) A (tableMayTell key stored) Q E s := by
  unfold tableMayTell
  by_cases z : stored.isEmpty = true
  · rw [if_pos z]; exact wpAny_pure q
  · rw [if_neg z]
    refine wpAny_bind (quiet_key k key 8 s hk.1 hk.2 A E _ ?_)
    rw [if_neg (by decide)]
    refine wpAny_bind ?_
    refine wpAny_forIn_list _ (fun l b t => t = s ∧ b = (none, ()) ∧ ∀ v ∈ l, ∃ k', NestedIs s.heap k' v ∧ k'.depth ≤ 8) _ (fun x l b t h => ?_) (fun b t h => ?_) _ _ ⟨rfl, rfl, hst⟩
    · obtain ⟨rfl, rfl, m⟩ := h
      obtain ⟨k', i1, i2⟩ := m x List.mem_cons_self
      refine wpAny_bind (quiet_key k' x 8 t i1 i2 A E _ ?_)
      rw [if_neg (by decide)]
      exact wpAny_pure ⟨rfl, rfl, fun v hv => m v (List.mem_cons_of_mem _ hv)⟩
    · obtain ⟨rfl, rfl, _⟩ := h
      exact wpAny_pure q
theorem keyd_find {d : Addr} {key : Value} {k : NestedKey} {o : Obj} {es : Array DictEntry} {ep : Nat} {ks : List NestedKey} {Q : Option Nat → Shared → Prop} (hu : A.units + 8 < cLine) (hk : NestedIs s.heap k key ∧ k.depth ≤ 8)
    (hkey : (∃ i t, key = .int i t) ∨ ∃ b, key = .ref b) (ho : s.heap.get? d = some o) (hdt : o.data = .dict es ep) (K : Keyd w s.heap es ks)
    (hno : k ∉ ks → Q none s) (hyes : ∀ j : Nat, ks[j]? = some k → Q (some j) s) : wpAny (model prog w) A (dictFind d key (k.hash w)) Q E s := by
  have hsz := K.size
  have hat : ∀ j : Nat, j < es.size → ∃ k' e, ks[j]? = some k' ∧ es[j]? = some e ∧ e.hash = k'.hash w ∧ NestedIs s.heap k' e.key ∧ k'.depth ≤ 8 := fun j hj => by
    obtain ⟨k', hk'⟩ : ∃ k', ks[j]? = some k' := ⟨_, List.getElem?_eq_getElem (by omega)⟩
    obtain ⟨e, r⟩ := K.at_ j k' hk'
    exact ⟨k', e, hk', r⟩
  have hkeyHash : ∀ j : Nat, ks[j]? = some k → (es[j]?.map (·.hash) == some (k.hash w)) = true := fun j hj => by
    obtain ⟨e, e1, e2, _⟩ := K.at_ j k hj
    rw [e1]
    show (some e.hash == some (k.hash w)) = true
    rw [e2]; simp
  have uniq : ∀ i j : Nat, ks[i]? = some k → ks[j]? = some k → i = j := fun i j hi hj => (List.getElem?_inj (List.getElem?_eq_some_iff.mp hi).1 K.nd).mp (hi.trans hj.symm)
  have notIn : ∀ {n : Nat}, (∀ j, j < n → ks[j]? ≠ some k) → es.size ≤ n → k ∉ ks := fun {n} h hn hm => by
    obtain ⟨j, hj⟩ := List.mem_iff_getElem?.mp hm
    have := (List.getElem?_eq_some_iff.mp hj).1
    exact h j (by omega) hj
  -- what is asked of a place
  have eqs : ∀ {k' : NestedKey} {v : Value} {R : Bool → Shared → Prop}, NestedIs s.heap k' v → k'.depth ≤ 8 → R (decide (k' = k)) s → wpAny (model prog w) A (eqBool v key) R E s := fun {k' v R} h1 h2 r =>
    eqAt_key k' k A s v key h1 hk.1 (by have := hk.2; omega) prog w E R (by rw [← NestedKey.decide_eq]; exact r)
  unfold dictFind
  refine wpAny_holding (wpAny_bind (wpAny_dictEntries ho hdt ?_))
  -- the places of that hash, from i on
  have step : ∀ (i x : Nat) (rest : List Nat), (List.range' i (es.size - i)).filter (fun i => (es[i]?.map (·.hash)) == some (k.hash w)) = x :: rest → i ≤ x ∧ x < es.size ∧ (∀ j, i ≤ j → j < x → ks[j]? ≠ some k) ∧ rest = (List.range' (x + 1) (es.size - (x + 1))).filter (fun i => (es[i]?.map (·.hash)) == some (k.hash w)) := fun i x rest h => by
    obtain ⟨h1, h2, h3, h4, h5⟩ := filter_range'_cons _ _ _ _ _ h
    refine ⟨h1, by omega, fun j a b c => ?_, by rw [h5]; congr 2; omega⟩
    have := h4 j a b
    rw [hkeyHash j c] at this
    cases this
  have last : ∀ i : Nat, (List.range' i (es.size - i)).filter (fun i => (es[i]?.map (·.hash)) == some (k.hash w)) = [] → ∀ j, i ≤ j → ks[j]? ≠ some k := fun i h j hj c => by
    have hl := (List.getElem?_eq_some_iff.mp c).1
    have := List.filter_eq_nil_iff.mp h j (List.mem_range'_1.mpr ⟨hj, by omega⟩)
    exact this (hkeyHash j c)
  have plain : wpAny (model prog w) A (dictWalkPlain d key (k.hash w) es (placesWithHash es.size (fun i => es[i]?.map (·.hash)) (k.hash w))) Q E s := by
    unfold dictWalkPlain
    refine wpAny_bind ?_
    refine wpAny_forIn_list _ (fun l b t => t = s ∧ b = (none, ()) ∧ ∃ i, l = (List.range' i (es.size - i)).filter (fun i => (es[i]?.map (·.hash)) == some (k.hash w)) ∧ ∀ j, j < i → ks[j]? ≠ some k) _ (fun x l b t h => ?_) (fun b t h => ?_) _ _ ⟨rfl, rfl, 0, by rw [placesWithHash, List.range_eq_range', Nat.sub_zero], fun j hj => absurd hj (Nat.not_lt_zero _)⟩
    · obtain ⟨rfl, rfl, i, hl, hn⟩ := h
      obtain ⟨s1, s2, s3, s4⟩ := step i x l hl.symm
      obtain ⟨k', e, p1, p2, p3, p4, p5⟩ := hat x s2
      have below : ∀ j, j < x → ks[j]? ≠ some k := fun j hj => by
        rcases Nat.lt_or_ge j i with z | z
        · exact hn j z
        · exact s3 j z hj
      have up : k' ≠ k → ∀ j, j < x + 1 → ks[j]? ≠ some k := fun ne j hj c => by
        rcases Nat.lt_or_ge j x with z | z
        · exact below j z c
        · have : j = x := by omega
          subst this
          rw [p1] at c
          exact ne (Option.some.inj c)
      rw [p2]
      dsimp only
      by_cases hh : (e.hash == k.hash w) = true
      · rw [if_pos hh]
        refine wpAny_bind (wpAny_dictEpoch ho hdt (wpAny_bind (eqs p4 p5 (wpAny_bind (wpAny_dictEpoch ho hdt ?_)))))
        rw [if_neg (by simp)]
        by_cases ek : k' = k
        · rw [decide_eq_true ek]
          subst ek
          first | rw [if_pos rfl] | skip
          refine wpAny_bind (wpAny_rule ?_)
          exact wpAny_pure (wpAny_pure (hyes x p1))
        · rw [decide_eq_false ek]
          simp only [Bool.false_eq_true, if_false]
          refine wpAny_bind (wpAny_rule ?_)
          exact wpAny_pure ⟨rfl, rfl, x + 1, s4, up ek⟩
      · rw [if_neg hh]
        refine wpAny_pure ⟨rfl, rfl, x + 1, s4, up fun z => ?_⟩
        rw [p3, z] at hh
        simp at hh
    · obtain ⟨rfl, rfl, i, hl, hn⟩ := h
      refine wpAny_pure (hno fun hm => ?_)
      obtain ⟨j, hj⟩ := List.mem_iff_getElem?.mp hm
      rcases Nat.lt_or_ge j i with z | z
      · exact hn j z hj
      · exact last i hl.symm j z hj
  have hst : ∀ v ∈ (placesWithHash es.size (fun i => es[i]?.map (·.hash)) (k.hash w)).filterMap (fun i => es[i]?.map (·.key)), ∃ k', NestedIs s.heap k' v ∧ k'.depth ≤ 8 := fun v hv => by
    obtain ⟨i, _, hi⟩ := List.mem_filterMap.mp hv
    cases ei : es[i]? with
    | none => rw [ei] at hi; cases hi
    | some e =>
      obtain ⟨k', e', _, q2, _, q4, q5⟩ := hat i (Array.getElem?_eq_some_iff.mp ei).1
      rw [ei] at hi q2
      cases q2
      cases hi
      exact ⟨k', q4, q5⟩
  have anyNo : ∀ b : Addr, key = .ref b → ¬ (es.any fun e => e.key == Value.ref b && e.hash != k.hash w) = true := fun b hb => by
    rw [← Array.any_toList, List.any_eq_true]
    rintro ⟨e, hin, hc⟩
    obtain ⟨j, hj⟩ := List.mem_iff_getElem?.mp hin
    rw [Array.getElem?_toList] at hj
    obtain ⟨k', e', _, q2, q3, q4, q5⟩ := hat j (Array.getElem?_eq_some_iff.mp hj).1
    rw [hj] at q2
    cases q2
    rw [Bool.and_eq_true, beq_iff_eq, bne_iff_ne] at hc
    rw [hc.1, ← hb] at q4
    exact hc.2 (by rw [q3, NestedIs.inj _ _ _ q4 hk.1])
  have below : ∀ {i x : Nat} {hit : Option Nat}, (∀ j, i ≤ j → j < x → ks[j]? ≠ some k) → i ≤ x → ((hit = none ∧ ∀ j, j < i → ks[j]? ≠ some k) ∨ ∃ j, hit = some j ∧ j < i ∧ ks[j]? = some k) → ((hit = none ∧ ∀ j, j < x → ks[j]? ≠ some k) ∨ ∃ j, hit = some j ∧ j < x ∧ ks[j]? = some k) := fun {i x hit} g hx h => by
    rcases h with ⟨h0, hn⟩ | ⟨j, h1, h2, h3⟩
    · refine .inl ⟨h0, fun j hj => ?_⟩
      rcases Nat.lt_or_ge j i with z | z
      · exact hn j z
      · exact g j z hj
    · exact .inr ⟨j, h1, by omega, h3⟩
  have above : ∀ {x : Nat} {k' : NestedKey} {hit : Option Nat}, ks[x]? = some k' → k' ≠ k → ((hit = none ∧ ∀ j, j < x → ks[j]? ≠ some k) ∨ ∃ j, hit = some j ∧ j < x ∧ ks[j]? = some k) → ((hit = none ∧ ∀ j, j < x + 1 → ks[j]? ≠ some k) ∨ ∃ j, hit = some j ∧ j < x + 1 ∧ ks[j]? = some k) := fun {x k' hit} hx ne h => by
    rcases h with ⟨h0, hn⟩ | ⟨j, h1, h2, h3⟩
    · refine .inl ⟨h0, fun j hj c => ?_⟩
      rcases Nat.lt_or_ge j x with z | z
      · exact hn j z c
      · have : j = x := by omega
        subst this
        rw [hx] at c
        exact ne (Option.some.inj c)
    · exact .inr ⟨j, h1, by omega, h3⟩
  rcases hkey with ⟨i, t, rfl⟩ | ⟨b, rfl⟩ <;> dsimp only <;> refine wpAny_ite_split (fun _ => plain) (fun _ => ?_)
  case' inr => refine wpAny_ite_split (fun z => absurd z (anyNo b rfl)) (fun _ => ?_)
  all_goals
    refine wpAny_ite_split (fun _ => wpAny_bind (wpAny_pure ?_)) (fun _ => wpAny_bind (may_quiet hk hst ?_))
  all_goals
    rw [if_neg (by simp)]
    refine wpAny_bind ?_
    refine wpAny_forIn_list _ (fun l b t => t = s ∧ ∃ i hit, b = (none, hit) ∧ l = (List.range' i (es.size - i)).filter (fun i => (es[i]?.map (·.hash)) == some (k.hash w)) ∧ ((hit = none ∧ ∀ j, j < i → ks[j]? ≠ some k) ∨ ∃ j, hit = some j ∧ j < i ∧ ks[j]? = some k)) _ (fun x l b t h => ?_) (fun b t h => ?_) _ _ ⟨rfl, 0, none, rfl, by rw [placesWithHash, List.range_eq_range', Nat.sub_zero], .inl ⟨rfl, fun j hj => absurd hj (Nat.not_lt_zero _)⟩⟩
    · obtain ⟨rfl, i, hit, rfl, hl, hn⟩ := h
      obtain ⟨s1, s2, s3, s4⟩ := step i x l hl.symm
      obtain ⟨k', e, p1, p2, p3, p4, p5⟩ := hat x s2
      have hb := below s3 s1 hn
      rw [p2]
      dsimp only
      by_cases hh : (e.hash == k.hash w) = true
      · rw [if_pos hh]
        refine wpAny_bind (wpAny_dictEpoch ho hdt (wpAny_bind (eqs p4 p5 (wpAny_bind (wpAny_dictEpoch ho hdt ?_)))))
        refine wpAny_ite_split (fun z => absurd z (by simp)) (fun _ => ?_)
        by_cases ek : k' = k
        · rw [decide_eq_true ek]
          subst ek
          rcases hb with ⟨rfl, _⟩ | ⟨j, _, hj2, hj3⟩
          · refine wpAny_ite_split (fun _ => ?_) (fun z => absurd rfl z)
            refine wpAny_ite_split (fun z => absurd z (by simp)) (fun _ => ?_)
            refine wpAny_bind (wpAny_rule ?_)
            refine wpAny_ite_split (fun _ => ?_) (fun _ => ?_)
            · exact wpAny_pure (wpAny_pure (hyes x p1))
            · exact wpAny_pure ⟨rfl, x + 1, some x, rfl, s4, .inr ⟨x, rfl, Nat.lt_succ_self x, p1⟩⟩
          · exact absurd (uniq j x hj3 p1) (by omega)
        · rw [decide_eq_false ek]
          refine wpAny_ite_split (fun z => absurd z (by decide)) (fun _ => ?_)
          refine wpAny_bind (wpAny_rule ?_)
          refine wpAny_ite_split (fun z => absurd z (by simp)) (fun _ => ?_)
          exact wpAny_pure ⟨rfl, x + 1, hit, rfl, s4, above p1 ek hb⟩
      · rw [if_neg hh]
        refine wpAny_pure ⟨rfl, x + 1, hit, rfl, s4, above p1 (fun z => ?_) hb⟩
        rw [p3, z] at hh
        simp at hh
    · obtain ⟨rfl, i, hit, rfl, hl, hn⟩ := h
      rcases hn with ⟨rfl, hn⟩ | ⟨j, rfl, _, hj⟩
      · refine wpAny_pure (hno fun hm => ?_)
        obtain ⟨j, hj⟩ := List.mem_iff_getElem?.mp hm
        rcases Nat.lt_or_ge j i with z | z
        · exact hn j z hj
        · exact last i hl.symm j z hj
      · exact wpAny_pure (hyes j hj)
end
/-! ### the same, tracked -/
theorem paired_get {α β : Type} {F : α → β → Prop} : ∀ {l₁ : List α} {l₂ : List β}, Paired F l₁ l₂ → ∀ {j : Nat} {y : β}, l₂[j]? = some y → ∃ x, l₁[j]? = some x ∧ F x y
  | _, _, .nil, j, y, h => by simp at h
  | _, _, .cons (a := a) (b := b) r t, 0, y, h => by
    have e : b = y := by simpa using h
    subst e
    exact ⟨a, rfl, r⟩
  | _, _, .cons r t, j + 1, y, h => by
    obtain ⟨x, h1, h2⟩ := paired_get t (j := j) (y := y) (by simpa using h)
    exact ⟨x, by simpa using h1, h2⟩
/-- an entry: its key, what stands for the key, the value -/
abbrev WE := NestedKey × V × V
def EntR (w : World) (e : DictEntry) (x : WE) : Prop := e.hash = x.1.hash w ∧ RelV x.2.1 e.key ∧ RelV x.2.2 e.val
def WtOk (w : World) (a : Addr) (L : List WE) (h : Heap) : Prop := L.length ≤ sizeLine ∧ (a == sysModules) = false ∧ (L.map (·.1)).Nodup ∧ ∃ o es ep, h.get? a = some o ∧ o.ExactDict ∧ o.data = .dict es ep ∧ Paired (EntR w) es.toList L
def wtO (w : World) (a : Addr) (L : List WE) : HO := .ext (WtOk w a L)
/-- what stands for a key -/
inductive WK (H : Hp) : NestedKey → V → Prop
  | num (i : Int) : WK H (.num i) (.int i)
  | tup {b c : Addr} {x i : Int} {l : List Int} (hb : H b = some (.tup [.int x, .int i, .ref c])) (hc : H c = some (.tup (l.map V.int))) : WK H (.tup [.num x, .num i, .tup (l.map .num)]) (.ref b)
theorem WK.mono {H H' : Hp} (e : ∀ b xs, H b = some (.tup xs) → H' b = some (.tup xs)) {k : NestedKey} {v : V} (q : WK H k v) : WK H' k v := by
  cases q with
  | num i => exact .num i
  | tup hb hc => exact .tup (e _ _ hb) (e _ _ hc)
theorem nums_all {h : Heap} : ∀ {l : List Int} {us : List Value}, Vals (l.map V.int) us → NestedAll h (l.map .num) us
  | [], _, .nil => .nil
  | i :: l, _, .cons r t => by
    obtain ⟨t', rfl⟩ := r
    exact .cons (.int i t') (nums_all t)
theorem nums_depth : ∀ l : List Int, NestedKey.depthAll (l.map .num) = 0
  | [] => by rw [List.map_nil, NestedKey.depthAll]
  | i :: l => by rw [List.map_cons, NestedKey.depthAll, NestedKey.depth, nums_depth l]; rfl
theorem WK.is {P : Program} {w : World} {H : Hp} {h : Heap} (ok : HOk P w H h) {k : NestedKey} {v : V} {u : Value} (q : WK H k v) (r : RelV v u) : (NestedIs h k u ∧ k.depth ≤ 8) ∧ ((∃ i t, u = .int i t) ∨ ∃ b, u = .ref b) := by
  cases q with
  | num i =>
    obtain ⟨t, rfl⟩ := r
    exact ⟨⟨.int i t, by rw [NestedKey.depth]; omega⟩, .inl ⟨i, t, rfl⟩⟩
  | @tup b c x i l hb hc =>
    obtain rfl : u = .ref b := r
    obtain ⟨_, us, ru, o, ho, hcl, n, hd⟩ := (show ObjOk P w H h b (.tup [.int x, .int i, .ref c]) from ok b _ hb)
    obtain ⟨_, vs, rv, o2, ho2, hcl2, n2, hd2⟩ := (show ObjOk P w H h c (.tup (l.map V.int)) from ok c _ hc)
    refine ⟨⟨.tup ho hcl hd ?_, ?_⟩, .inr ⟨b, rfl⟩⟩
    · cases ru with
      | cons r1 ru =>
        cases ru with
        | cons r2 ru =>
          cases ru with
          | cons r3 ru =>
            cases ru
            obtain ⟨t1, rfl⟩ := r1
            obtain ⟨t2, rfl⟩ := r2
            cases r3
            exact .cons (.int _ _) (.cons (.int _ _) (.cons (.tup ho2 hcl2 hd2 (nums_all rv)) .nil))
    · simp only [NestedKey.depth, NestedKey.depthAll, nums_depth]
      omega
structure WtAt (w : World) (H : Hp) (a : Addr) (L : List WE) : Prop where
  at_ : H a = some (wtO w a L)
  keys : ∀ x ∈ L, WK H x.1 x.2.1
theorem WtAt.ex {w : World} {H H' : Hp} {a : Addr} {L : List WE} (e : Ex H H') (q : WtAt w H a L) : WtAt w H' a L := ⟨e _ _ q.at_, fun x hx => (q.keys x hx).mono fun b xs h => e _ _ h⟩
theorem keyd_of {P : Program} {w : World} {H : Hp} {h : Heap} {a : Addr} {L : List WE} (ok : HOk P w H h) (q : WtAt w H a L) :
    ∃ o es ep, h.get? a = some o ∧ o.ExactDict ∧ o.data = .dict es ep ∧ Paired (EntR w) es.toList L ∧ Keyd w h es (L.map (·.1)) ∧ L.length ≤ sizeLine ∧ (a == sysModules) = false := by
  obtain ⟨⟨z, hd, nd, o, es, ep, ho, hx, hdat, rel⟩, _⟩ := (show ObjOk P w H h a (wtO w a L) from ok a _ q.at_)
  refine ⟨o, es, ep, ho, hx, hdat, rel, ⟨?_, fun j k' hj => ?_, nd⟩, z, hd⟩
  · rw [List.length_map, ← Paired.length rel, Array.length_toList]
  · rw [List.getElem?_map] at hj
    cases e : L[j]? with
    | none => rw [e] at hj; cases hj
    | some x =>
      rw [e] at hj
      cases hj
      obtain ⟨en, hen, r⟩ := paired_get rel e
      rw [Array.getElem?_toList] at hen
      have := (q.keys x (List.mem_of_getElem? e)).is ok r.2.1
      exact ⟨en, hen, r.1, this.1.1, this.1.2⟩
def wtGet (L : List WE) (k : NestedKey) : Option V := (L.find? fun x => decide (x.1 = k)).map (·.2.2)
theorem wtGet_none {L : List WE} {k : NestedKey} (h : k ∉ L.map (·.1)) : wtGet L k = none := by
  unfold wtGet
  rw [List.find?_eq_none.mpr fun x hx => ?_]
  · rfl
  · intro z
    exact h (List.mem_map.mpr ⟨x, hx, of_decide_eq_true z⟩)
theorem wtGet_some : ∀ {L : List WE} {k : NestedKey} {j : Nat} {x : WE}, (L.map (·.1)).Nodup → L[j]? = some x → x.1 = k → wtGet L k = some x.2.2
  | [], _, _, _, _, h, _ => by simp at h
  | y :: L, k, 0, x, _, h, e => by
    have : y = x := by simpa using h
    subst this
    unfold wtGet
    rw [List.find?_cons_of_pos (by exact decide_eq_true e)]
    rfl
  | y :: L, k, j + 1, x, nd, h, e => by
    have h' : L[j]? = some x := by simpa using h
    have nd' := List.nodup_cons.mp (show (y.1 :: L.map (·.1)).Nodup from nd)
    have ih := wtGet_some nd'.2 h' e
    unfold wtGet at ih ⊢
    rw [List.find?_cons_of_neg (by
      intro z
      have z := of_decide_eq_true z
      exact nd'.1 (by rw [z, ← e]; exact List.mem_map_of_mem (List.mem_of_getElem? h')))]
    exact ih
theorem wtGet_mem {L : List WE} {k : NestedKey} {v : V} (h : wtGet L k = some v) : ∃ x ∈ L, x.1 = k ∧ x.2.2 = v := by
  unfold wtGet at h
  cases e : L.find? fun x => decide (x.1 = k) with
  | none => rw [e] at h; cases h
  | some x =>
    rw [e] at h
    cases h
    exact ⟨x, List.mem_of_find?_eq_some e, of_decide_eq_true (by simpa using List.find?_some e), rfl⟩
theorem wtGet_not {L : List WE} {k : NestedKey} (h : wtGet L k = none) : k ∉ L.map (·.1) := fun hm => by
  obtain ⟨x, hx, e⟩ := List.mem_map.mp hm
  unfold wtGet at h
  rw [Option.map_eq_none_iff, List.find?_eq_none] at h
  exact h x hx (decide_eq_true e)
theorem wtGet_snoc_other {L : List WE} {k : NestedKey} {x : WE} (h : x.1 ≠ k) : wtGet (L ++ [x]) k = wtGet L k := by
  unfold wtGet
  rw [List.find?_append]
  cases L.find? fun x => decide (x.1 = k) with
  | none => rw [List.find?_cons_of_neg (by simpa using h)]; rfl
  | some y => rfl
theorem wtGet_snoc_self {L : List WE} {k : NestedKey} {x : WE} (h : x.1 = k) (hn : wtGet L k = none) : wtGet (L ++ [x]) k = some x.2.2 := by
  unfold wtGet at hn ⊢
  rw [Option.map_eq_none_iff] at hn
  rw [List.find?_append, hn, List.find?_cons_of_pos (by simpa using h)]
  rfl
section
variable {prog : Program} {w : World} {A : Around} {E : Value → Shared → Prop} {s : Shared} {d : Addr} {key : Value} {k : NestedKey} {o : Obj} {es : Array DictEntry} {ep : Nat} {ks : List NestedKey}
theorem keyd_get {Q : Option Value → Shared → Prop} (hu : A.units + 8 < cLine) (hk : NestedIs s.heap k key ∧ k.depth ≤ 8) (hkey : (∃ i t, key = .int i t) ∨ ∃ b, key = .ref b) (ho : s.heap.get? d = some o) (hdt : o.data = .dict es ep) (K : Keyd w s.heap es ks)
    (hno : k ∉ ks → ∀ tk, Q none { s with toks := tk }) (hyes : ∀ (j : Nat) (e : DictEntry), ks[j]? = some k → es[j]? = some e → ∀ tk, Q (some e.val) { s with toks := tk }) : wpAny (model prog w) A (dictGet d key) Q E s := by
  unfold dictGet
  refine wpAny_holding (wpAny_bind (pyHash_key k key A s _ hk.1 (by have := hk.2; omega) (wpAny_bind ?_)))
  refine keyd_find (s := { s with toks := s.toks + k.draws }) hu hk hkey ho hdt K (fun h => wpAny_pure (hno h _)) fun j hj => ?_
  obtain ⟨e, he, _⟩ := K.at_ j k hj
  refine wpAny_bind (wpAny_dictEntries (s := { s with toks := s.toks + k.draws }) ho hdt ?_)
  rw [he]
  exact wpAny_pure (hyes j e hj he _)
theorem keyd_new {v : Value} {Q : Unit → Shared → Prop} (hu : A.units + 8 < cLine) (hk : NestedIs s.heap k key ∧ k.depth ≤ 8) (hkey : (∃ i t, key = .int i t) ∨ ∃ b, key = .ref b) (ho : s.heap.get? d = some o) (hdt : o.data = .dict es ep) (K : Keyd w s.heap es ks) (hn : k ∉ ks) (hz : es.size ≤ sizeLine)
    (q : ∀ tk, Q () { s with heap := s.heap.update d (Obj.mapDictKeys (·.push ⟨k.hash w, key, v⟩)), toks := tk }) : wpAny (model prog w) A (dictSet d key v) Q E s := by
  unfold dictSet
  refine wpAny_holding (wpAny_bind (pyHash_key k key A s _ hk.1 (by have := hk.2; omega) ?_))
  unfold dictSetHashed
  refine wpAny_holding (wpAny_bind (keyd_find (s := { s with toks := s.toks + k.draws }) hu hk hkey ho hdt K (fun _ => ?_) fun j hj => absurd (List.mem_of_getElem? hj) hn))
  exact wpAny_bind (wpAny_rule (wpAny_updateDictKeys (hz := hz) (s := { s with toks := s.toks + k.draws }) ho hdt (q _)))
theorem keyd_notIn {Q : Value → Shared → Prop} (hu : A.units + 9 < cLine) (hk : NestedIs s.heap k key ∧ k.depth ≤ 8) (hkey : (∃ i t, key = .int i t) ∨ ∃ b, key = .ref b) (ho : s.heap.get? d = some o) (hx : o.ExactDict) (hdt : o.data = .dict es ep) (hd : (d == sysModules) = false) (K : Keyd w s.heap es ks)
    (hno : k ∉ ks → ∀ tk, Q (.bool true) { s with toks := tk }) (hyes : k ∈ ks → ∀ tk, Q (.bool false) { s with toks := tk }) : wpAny (model prog w) A (compareOp .NotIn key (.ref d)) Q E s := by
  have hT : s.TypeIs (.ref d) "dict" := ⟨o, ho, hx.1⟩
  show wpAny _ _ (do return .bool (!(← contains (.ref d) key))) Q E s
  refine wpAny_bind ?_
  refine wpAny_contains_slot hT PySem.F.slot_dict_contains ?_
  refine wpAny_call_entry PySem.F.slot_dict_contains hT PySem.F.entry_dict_contains ?_ (PySem.F.args_dict_contains_2 _ _)
  show wpAny _ _ (dictGet d key >>= _) _ _ s
  refine wpAny_bind (keyd_get (by show A.units + 1 + 8 < cLine; omega) hk hkey ho hdt K (fun h tk => ?_) fun j e hj _ tk => ?_)
  · show wpAny _ _ (Builtin.Dict.pendingKey? d key >>= _) _ _ _
    exact wpAny_bind (wpAny_pendingKey_other hd (wpAny_pure ⟨_, rfl, wpAny_truthy_bool (wpAny_pure (hno h tk))⟩))
  · show wpAny _ _ (ret (.bool true)) _ _ _
    exact wpAny_pure ⟨_, rfl, wpAny_truthy_bool (wpAny_pure (hyes (List.mem_of_getElem? hj) tk))⟩
theorem keyd_item {Q : Value → Shared → Prop} (hu : A.units + 9 < cLine) (hk : NestedIs s.heap k key ∧ k.depth ≤ 8) (hkey : (∃ i t, key = .int i t) ∨ ∃ b, key = .ref b) (ho : s.heap.get? d = some o) (hx : o.ExactDict) (hdt : o.data = .dict es ep) (K : Keyd w s.heap es ks) (hm : k ∈ ks)
    (q : ∀ (j : Nat) (e : DictEntry), ks[j]? = some k → es[j]? = some e → ∀ tk, Q e.val { s with toks := tk }) : wpAny (model prog w) A (getItem (.ref d) key) Q E s := by
  have hT : s.TypeIs (.ref d) "dict" := ⟨o, ho, hx.1⟩
  unfold getItem
  refine wpAny_holding ?_
  refine wpAny_bind (wpAny_sequenceKey hT (by decide) ?_)
  refine wpAny_bind (wpAny_callSpecial?_slot (name := Str.ofString "__getitem__") hT PySem.F.slot_dict_getitem (wpAny_call_entry PySem.F.slot_dict_getitem hT PySem.F.entry_dict_getitem ?_ (PySem.F.args_dict_getitem_2 _ _)))
  show wpAny _ _ (dictGet d key >>= _) _ _ s
  refine wpAny_bind (keyd_get (by show A.units + 1 + 8 < cLine; omega) hk hkey ho hdt K (fun h => absurd hm h) fun j e hj he tk => ?_)
  exact wpAny_pure ⟨e.val, rfl, wpAny_pure (q j e hj he tk)⟩
theorem keyd_setItem {v : Value} {Q : Unit → Shared → Prop} (hu : A.units + 9 < cLine) (hk : NestedIs s.heap k key ∧ k.depth ≤ 8) (hkey : (∃ i t, key = .int i t) ∨ ∃ b, key = .ref b) (ho : s.heap.get? d = some o) (hx : o.ExactDict) (hdt : o.data = .dict es ep) (K : Keyd w s.heap es ks) (hn : k ∉ ks) (hz : es.size ≤ sizeLine)
    (q : ∀ tk, Q () { s with heap := s.heap.update d (Obj.mapDictKeys (·.push ⟨k.hash w, key, v⟩)), toks := tk }) : wpAny (model prog w) A (setItem (.ref d) key v) Q E s := by
  have hT : s.TypeIs (.ref d) "dict" := ⟨o, ho, hx.1⟩
  unfold setItem
  refine wpAny_holding ?_
  refine wpAny_bind (wpAny_sequenceKey hT (by decide) ?_)
  refine wpAny_bind (wpAny_callSpecial?_slot (name := Str.ofString "__setitem__") hT PySem.F.slot_dict_setitem (wpAny_call_entry PySem.F.slot_dict_setitem hT PySem.F.entry_dict_setitem ?_ (PySem.F.args_dict_setitem_3 _ _ _)))
  show wpAny _ _ (Builtin.Dict.notOrdered "__setitem__" ⟨[.ref d, key, v], []⟩ >>= _) _ _ s
  refine wpAny_bind (wpAny_notOrdered_dict hT ?_)
  show wpAny _ _ (dictSet d key v >>= _) _ _ s
  exact wpAny_bind (keyd_new (by show A.units + 1 + 8 < cLine; omega) hk hkey ho hdt K hn hz fun tk => wpAny_pure ⟨.none, rfl, wpAny_pure (q tk)⟩)
end
/-! ### the readings -/
def tWNot (w : World) (ty td : TE) : TE := fun σ H Q => ty σ H fun y H1 => td σ H1 fun x H2 => ∃ a L k, x = .ref a ∧ WtAt w H2 a L ∧ WK H2 k y ∧ Q (.bl (!(wtGet L k).isSome)) H2
def tWGet (w : World) (td ty : TE) : TE := fun σ H Q => td σ H fun x H1 => ty σ H1 fun y H2 => ∃ a L k v, x = .ref a ∧ WtAt w H2 a L ∧ WK H2 k y ∧ wtGet L k = some v ∧ Q v H2
def sWPut (w : World) (td ty tv : TE) : TS := fun D σ H => tv σ H fun v H1 => td σ H1 fun x H2 => ty σ H2 fun y H3 => ∃ a L k, x = .ref a ∧ WtAt w H3 a L ∧ WK H3 k y ∧ wtGet L k = none ∧ L.length < 100000 ∧ D.nx σ (upd H3 a (wtO w a (L ++ [(k, y, v)])))
def tWNew (w : World) : TE := fun _ H Q => ∀ p, H p = none → Q (.ref p) (upd H p (wtO w p []))
theorem wtO_stay {w : World} {a : Addr} {L : List WE} (h1 h2 : Heap) (q : WtOk w a L h1) (k : ∀ o, h1.get? a = some o → h2.get? a = some o) : WtOk w a L h2 := by
  obtain ⟨z, hd, nd, o, es, ep, ho, r⟩ := q
  exact ⟨z, hd, nd, o, es, ep, k _ ho, r⟩
theorem wtO_ok {P : Program} {w : World} {H : Hp} {h : Heap} {a : Addr} {L : List WE} (q : WtOk w a L h) : ObjOk P w H h a (wtO w a L) := by
  obtain ⟨z, hd, nd, o, es, ep, ho, r⟩ := q
  exact ⟨⟨z, hd, nd, o, es, ep, ho, r⟩, ⟨o, ho⟩, wtO_stay⟩
theorem WtAt.put {w : World} {H : Hp} {a : Addr} {L : List WE} {k : NestedKey} {y v : V} (q : WtAt w H a L) (hk : WK H k y) : WtAt w (upd H a (wtO w a (L ++ [(k, y, v)]))) a (L ++ [(k, y, v)]) := by
  have m : ∀ b xs, H b = some (.tup xs) → upd H a (wtO w a (L ++ [(k, y, v)])) b = some (.tup xs) := fun b xs h => by
    rw [upd_ne (ne_of h q.at_ (fun z => by cases z))]
    exact h
  refine ⟨upd_same, fun x hx => ?_⟩
  rcases List.mem_append.mp hx with hx | hx
  · exact (q.keys x hx).mono m
  · rw [List.mem_singleton] at hx
    subst hx
    exact hk.mono m
section
variable {X : Cx} {o i e value : Expr} {pos pos' tpos : Pos} {td ty tv : TE}
theorem pc_wnot (hu : X.A.units + 64 < cLine) (hi : PE X i ty) (ho : PE X o td) : PC X .NotIn i o (tWNot X.w ty td) := by
  refine ⟨fun pins s σ H Q I h => ?_⟩
  refine thn (hi.run pins s σ H _ I h) fun iv s1 ⟨y, H1, I1, ry, q1⟩ => thn (ho.run pins s1 σ H1 _ I1 q1) fun u s2 ⟨x, H2, I2, rx, a, L, k, ex, g, hk, q2⟩ => ?_
  subst ex
  obtain rfl : u = Value.ref a := rx
  obtain ⟨ob, es, ep, hob, hx, hdat, rel, K, z, hd⟩ := keyd_of I2.hok g
  obtain ⟨k1, k2⟩ := hk.is I2.hok ry
  refine keyd_notIn (by omega) k1 k2 hob hx hdat hd K (fun hn tk => ?_) fun hm tk => ?_
  · rw [wtGet_none hn] at q2
    exact ⟨.bl true, H2, I2.tok tk, rfl, q2⟩
  · obtain ⟨w', hw⟩ : ∃ w', wtGet L k = some w' := by
      cases e : wtGet L k with
      | none => exact absurd hm (wtGet_not e)
      | some w' => exact ⟨w', rfl⟩
    rw [hw] at q2
    exact ⟨.bl false, H2, I2.tok tk, rfl, q2⟩
theorem pe_wget (hu : X.A.units + 64 < cLine) (ho : PE X o td) (hi : PE X i ty) (hs : NoSl i) : PE X (.Subscript o i pos) (tWGet X.w td ty) := by
  refine ⟨fun pins s σ H Q I h => ?_⟩
  refine subD_of PySem.F.slot_dict_getitem.lookup hs (thn (ho.run pins s σ H _ I h) fun u s1 ⟨x, H1, I1, rx, q1⟩ => thn (hi.run pins s1 σ H1 _ I1 q1) fun iv s2 ⟨y, H2, I2, ry, a, L, k, v, ex, g, hk, hv, q2⟩ => ?_)
  subst ex
  obtain rfl : u = Value.ref a := rx
  obtain ⟨ob, es, ep, hob, hx, hdat, rel, K, z, hd⟩ := keyd_of I2.hok g
  obtain ⟨k1, k2⟩ := hk.is I2.hok ry
  obtain ⟨y1, m1, m2, _⟩ := wtGet_mem hv
  refine ⟨⟨ob, hob, hx.1⟩, keyd_item (by omega) k1 k2 hob hx hdat K (List.mem_map.mpr ⟨y1, m1, m2⟩) fun j en hj he tk => ?_⟩
  rw [List.getElem?_map] at hj
  cases ej : L[j]? with
  | none => rw [ej] at hj; cases hj
  | some x2 =>
    rw [ej] at hj
    have hj : x2.1 = k := Option.some.inj hj
    obtain ⟨en', he', r⟩ := paired_get rel ej
    rw [Array.getElem?_toList, he] at he'
    cases he'
    have := wtGet_some K.nd ej hj
    rw [hv] at this
    cases this
    exact ⟨x2.2.2, H2, I2.tok tk, r.2.2, q2⟩
theorem ps_wput (hu : X.A.units + 64 < cLine) (ho : PE X o td) (hi : PE X i ty) (hv : PE X value tv) (hs : swapsWith value (some (.Subscript o i pos')) pos.line X.env = pure false) : PS X (.Assign [.Subscript o i pos'] value pos) (sWPut X.w td ty tv) := by
  refine ⟨fun pins s σ H D I h => ?_⟩
  refine wpAny_Assign_Subscript (thn (hv.run pins s σ H _ I h) fun r s1 ⟨v, H1, I1, rv, q1⟩ => thn (ho.run pins s1 σ H1 _ I1 q1) fun u s2 ⟨x, H2, I2, rx, q2⟩ => thn (hi.run pins s2 σ H2 _ I2 q2) fun iv s3 ⟨y, H3, I3, ry, a, L, k, ex, g, hk, hn, hl, q3⟩ => ?_) hs
  subst ex
  obtain rfl : u = Value.ref a := rx
  obtain ⟨ob, es, ep, hob, hx, hdat, rel, K, z, hd⟩ := keyd_of I3.hok g
  obtain ⟨k1, k2⟩ := hk.is I3.hok ry
  have hsz : es.size = L.length := by rw [K.size, List.length_map]
  refine keyd_setItem (by omega) k1 k2 hob hx hdat K (wtGet_not hn) (by omega) fun tk => ?_
  refine ⟨σ, _, d_write (ob := wtO X.w a (L ++ [(k, y, v)])) I3 (by rw [g.at_]; exact True.intro) (Heap.SameBut.update ..) ⟨_, Heap.get?_update_self _ hob (Obj.isFreed_of_dict (Obj.data_mapDictKeys hdat _))⟩ (wtO_ok ⟨?_, hd, ?_, _, _, ep + 1, Heap.get?_update_self _ hob (Obj.isFreed_of_dict (Obj.data_mapDictKeys hdat _)), hx.mapDictKeys _, Obj.data_mapDictKeys hdat _, ?_⟩), q3⟩
  · rw [List.length_append, List.length_singleton, PySem.sizeLine_eq]; omega
  · rw [List.map_append]
    refine List.nodup_append.mpr ⟨K.nd, by simp, fun b hb c hc => ?_⟩
    rw [List.map_cons, List.map_nil, List.mem_singleton] at hc
    subst hc
    exact fun e => wtGet_not hn (e ▸ hb)
  · rw [Array.toList_push]
    exact rel.snoc ⟨rfl, ry, rv⟩
theorem pe_wnew : PE X (.Dict [] [] pos) (tWNew X.w) := ⟨fun pins s σ H Q I h =>
  wpAny_Dict_empty ⟨.ref s.heap.objs.size, _, I.laid (a := s.heap.objs.size) (o := wtO X.w s.heap.objs.size []) (t' := s.toks) (fun _ _ q => Heap.get?_push_of_some _ q) (Nat.le_refl _)
    (wtO_ok ⟨Nat.zero_le _, beq_eq_false_iff_ne.mpr (Nat.ne_of_gt I.big), List.nodup_nil, _, #[], 0, Heap.get?_push_size _ rfl, ⟨rfl, rfl, rfl⟩, rfl, .nil⟩), rfl, h _ (I.hok.fresh (Nat.le_refl _))⟩⟩
end
section
variable {w : World} {σ : L2.St} {H : Hp} {Q : VK} {ty td tv : TE} {n b c : L2.St → Hp → Prop} {r : VK} {y v : V} {a : Addr} {L : List WE} {k : NestedKey}
def kWN (w : World) (Q : VK) (y x : V) (H2 : Hp) : Prop := ∃ a L k, x = .ref a ∧ WtAt w H2 a L ∧ WK H2 k y ∧ Q (.bl (!(wtGet L k).isSome)) H2
theorem iWNot (q : ty σ H fun y H1 => td σ H1 fun x H2 => kWN w Q y x H2) : tWNot w ty td σ H Q := q
theorem iWN (g : WtAt w H a L) (hk : WK H k y) (q : Q (.bl (!(wtGet L k).isSome)) H) : kWN w Q y (.ref a) H := ⟨a, L, k, rfl, g, hk, q⟩
def kWG (w : World) (Q : VK) (x y : V) (H2 : Hp) : Prop := ∃ a L k v, x = .ref a ∧ WtAt w H2 a L ∧ WK H2 k y ∧ wtGet L k = some v ∧ Q v H2
theorem iWGet (q : td σ H fun x H1 => ty σ H1 fun y H2 => kWG w Q x y H2) : tWGet w td ty σ H Q := q
theorem iWG (g : WtAt w H a L) (hk : WK H k y) (hv : wtGet L k = some v) (q : Q v H) : kWG w Q (.ref a) y H := ⟨a, L, k, v, rfl, g, hk, hv, q⟩
def kWP (w : World) (n : L2.St → Hp → Prop) (σ : L2.St) (v x y : V) (H3 : Hp) : Prop := ∃ a L k, x = .ref a ∧ WtAt w H3 a L ∧ WK H3 k y ∧ wtGet L k = none ∧ L.length < 100000 ∧ n σ (upd H3 a (wtO w a (L ++ [(k, y, v)])))
theorem iWPut (q : tv σ H fun v H1 => td σ H1 fun x H2 => ty σ H2 fun y H3 => kWP w n σ v x y H3) : sWPut w td ty tv ⟨n, r, b, c⟩ σ H := q
theorem iWP (g : WtAt w H a L) (hk : WK H k y) (hn : wtGet L k = none) (hl : L.length < 100000) (q : n σ (upd H a (wtO w a (L ++ [(k, y, v)])))) : kWP w n σ v (.ref a) y H := ⟨a, L, k, rfl, g, hk, hn, hl, q⟩
theorem iWNew (q : ∀ p, H p = none → Q (.ref p) (upd H p (wtO w p []))) : tWNew w σ H Q := q
end
end R
set_option Elab.async false
set_option linter.all false
set_option maxRecDepth 100000
set_option maxHeartbeats 4000000
namespace R
open PySem PySem.Spec L2
/-! ### xs.count(x) of data -/
def rCntD (K : PySem.W.Frag) : V → List V → Hp → VK → Prop := fun x xs H Q => ∃ (p : Addr) (cs : List V) (ds : List PyData) (c : V) (d : PyData), x = .ref p ∧ xs = [c] ∧ H p = some (.lst cs) ∧ DpAll K H cs ds ∧ Dp K H c d ∧ PyData.plainAll ds = true ∧ d.plain = true ∧ d.depth ≤ 60 ∧ Q (.int (ds.countP fun y => PyData.eqv y d : Nat)) H
theorem mt_lcntD {X : Cx} (hu : X.A.units + 64 < cLine) : MtR X "list.count" (rCntD X.K) := by
  intro pins s σ H x xs v us Q I rx rxs h
  obtain ⟨p, cs, ds, c, d, rfl, rfl, hp, hds, hd, pl1, pl2, dep, q⟩ := h
  cases rx
  obtain ⟨u, rfl, ru⟩ := rxs.one
  obtain ⟨its, rv, pl, hlen⟩ := I.list (SqL.tr hp)
  obtain ⟨as, r1⟩ := Dp.readsAll I ds cs its hds rv
  obtain ⟨bs, r2⟩ := Dp.reads I d c u hd ru
  refine PySem.SeqAt.count_list_data (vs := its.toArray) pl.isList r1 r2 pl1 pl2 ?_ ⟨.int (ds.countP fun y => PyData.eqv y d : Nat), H, I.tok _, ⟨s.toks, rfl⟩, q⟩
  have := Nat.min_le_right (PyData.depthAll ds) d.depth
  omega
/-- o.count(e) where o is any expression -/
def kCnt (r : V → List V → Hp → VK → Prop) (to : TE) (t : TA) : TE := fun σ H Q => to σ H fun x H1 => ∃ p xs, x = .ref p ∧ H1 p = some (.lst xs) ∧ t σ H1 fun ys H2 => r x ys H2 Q
end R
set_option Elab.async false
set_option linter.all false
set_option maxRecDepth 100000
set_option maxHeartbeats 4000000
namespace R
open PySem PySem.Spec L2
/-! ### a dict comprehension over any walk -/
/-- what one turn is to reach -/
def kDcT (vs : List Nat) (σ' : L2.St) (tt : TT) (tk tv : TE) (D : Addr) (Nx : Hp → Prop) : L2.St → Hp → Prop := fun σ2 H2 => wipe σ2 vs = σ' ∧ tt σ2 H2 fun b H3 =>
  if b = true then tk σ2 H3 fun y H4 => tv σ2 H4 fun z H5 => ∃ kvs k, y = kV k ∧ H5 D = some (.dK kvs) ∧ kvs.length < sizeLine ∧ Nx (upd H5 D (.dK (putK kvs k z))) else Nx H3
theorem iDcT {vs : List Nat} {σ' σ2 : L2.St} {tt : TT} {tk tv : TE} {D : Addr} {Nx : Hp → Prop} {H2 : Hp} (h : wipe σ2 vs = σ') (q : tt σ2 H2 fun b H3 => if b = true then tk σ2 H3 fun y H4 => tv σ2 H4 fun z H5 => ∃ kvs k, y = kV k ∧ H5 D = some (.dK kvs) ∧ kvs.length < sizeLine ∧ Nx (upd H5 D (.dK (putK kvs k z))) else Nx H3) : kDcT vs σ' tt tk tv D Nx σ2 H2 := ⟨h, q⟩
def tDcJ (J : It) (g : TG) (tt : TT) (tk tv : TE) (vs : List Nat) (σ : L2.St) (H1 : Hp) (Q : VK) : Prop := ∀ D, H1 D = none → ∃ W : Nat → Nat → Hp → Prop, (∃ m, W 0 m (upd H1 D (.dK []))) ∧ ∀ i m H, W i m H →
  (J.stop i H ∧ Q (.ref D) H) ∨ (J.go i H ∧ ∃ Nx : Hp → Prop, (∀ H', Nx H' → ∃ m', m' < m ∧ W (i + 1) m' H') ∧ ∀ x H', J.yld i H x H' → g x (wipe σ vs) H' (kDcT vs (wipe σ vs) tt tk tv D Nx))
theorem iDc {wi : TI} {g : TG} {tt : TT} {tk tv : TE} {vs : List Nat} {σ : L2.St} {H : Hp} {Q : VK} (q : wi σ H fun J H1 => tDcJ J g tt tk tv vs σ H1 Q) : tDc wi g tt tk tv vs σ H Q := q
theorem dcJ {J : It} {n : Nat} {G : Hp → Prop} {Y : Nat → Hp → V → Hp → Prop} (w : Walk J n G Y) {g : TG} {tt : TT} {tk tv : TE} {vs : List Nat} {σ σ' : L2.St} {H1 : Hp} {Q : VK} (hw : Wip σ vs σ') (Pv : Addr → Nat → Hp → Prop)
    (h0 : ∀ D, H1 D = none → Pv D 0 (upd H1 D (.dK []))) (hG : ∀ D i H, H1 D = none → Pv D i H → G H) (hs : ∀ D i x H H', H1 D = none → i < n → Pv D i H → Y i H x H' → g x σ' H' (kDcT vs σ' tt tk tv D (Pv D (i + 1)))) (hd : ∀ D H, H1 D = none → Pv D n H → Q (.ref D) H) : tDcJ J g tt tk tv vs σ H1 Q := by
  intro D hD
  refine ⟨fun i m H => m = n - i ∧ i ≤ n ∧ Pv D i H, ⟨n, by simp, Nat.zero_le _, h0 D hD⟩, ?_⟩
  rintro i m H ⟨rfl, hi, p⟩
  have q := hG D i H hD p
  by_cases hlt : i < n
  · refine .inr ⟨w.goes i H hlt q, Pv D (i + 1), fun H' p' => ⟨n - (i + 1), by omega, rfl, hlt, p'⟩, fun x H' y => ?_⟩
    rw [hw.eq]
    exact hs D i x H H' hD hlt p (w.yields i H x H' hlt q y)
  · have e : i = n := by omega
    subst e
    exact .inl ⟨w.stops H q, hd D H hD p⟩
/-- == and != of data where K must not hang on the context -/
theorem op_eqDK {X : Cx} {K : PySem.W.Frag} (hK : X.K = K) (hu : X.A.units + 64 < cLine) : OpR X (compareOp .Eq) (rEqD K) := by subst hK; exact op_eqD hu
theorem op_neDK {X : Cx} {K : PySem.W.Frag} (hK : X.K = K) (hu : X.A.units + 64 < cLine) : OpR X (compareOp .NotEq) (rNeD K) := by subst hK; exact op_neD hu
end R
set_option Elab.async false
set_option linter.all false
set_option maxRecDepth 100000
set_option maxHeartbeats 4000000
namespace R
open PySem PySem.Spec L2
open Evl (Ex)
def topS (i : Nat) : Stmt := PySem.Challenge.pw_rotward_k22_accepted_words.main.body.getD i (.Pass ⟨0, 0, 0, 0⟩)
abbrev s_double : Stmt := topS 2
theorem sc_double : FnScope ["a", "twice"] ["a"] (defScope s_double) := ⟨rfl, rfl, rfl, by decide +kernel, rfl, by decide +kernel, by decide +kernel⟩
abbrev s_product : Stmt := topS 3
theorem sc_product : FnScope ["a", "b", "total", "bit"] ["a", "b"] (defScope s_product) := ⟨rfl, rfl, rfl, by decide +kernel, rfl, by decide +kernel, by decide +kernel⟩
abbrev s_inverse : Stmt := topS 5
theorem sc_inverse : FnScope ["a", "total", "_"] ["a"] (defScope s_inverse) := ⟨rfl, rfl, rfl, by decide +kernel, rfl, by decide +kernel, by decide +kernel⟩
abbrev s__law_times : Stmt := topS 18
theorem sc__law_times : FnScope ["a", "b", "total", "k", "bound", "taken"] ["a", "b"] (defScope s__law_times) := ⟨rfl, rfl, rfl, by decide +kernel, rfl, by decide +kernel, by decide +kernel⟩
abbrev s_products : Stmt := topS 4
theorem sc_products : FnScope ["a", "row", "_", "known"] ["a"] (defScope s_products) := ⟨rfl, rfl, rfl, by decide +kernel, rfl, by decide +kernel, by decide +kernel⟩
abbrev s_weight : Stmt := topS 8
theorem sc_weight : FnScope ["x", "places", "i", "above", "below", "j"] ["x", "places", "i"] (defScope s_weight) := ⟨rfl, rfl, rfl, by decide +kernel, rfl, by decide +kernel, by decide +kernel⟩
abbrev s_sector_at : Stmt := topS 9
theorem sc_sector_at : FnScope ["x", "given", "places", "total", "i", "row", "byte", "other"] ["x", "given"] (defScope s_sector_at) := ⟨rfl, rfl, rfl, by decide +kernel, rfl, by decide +kernel, by decide +kernel⟩
abbrev s_word_through : Stmt := topS 10
theorem sc_word_through : FnScope ["given", "n", "x"] ["given", "n"] (defScope s_word_through) := ⟨rfl, rfl, rfl, by decide +kernel, rfl, by decide +kernel, by decide +kernel⟩
structure Mg (mg : Str → Option Value) : Prop where
  n_all : mg "all" = none
  n_bool : mg "bool" = none
  n_int : mg "int" = none
  n_isinstance : mg "isinstance" = none
  n_len : mg "len" = none
  n_list : mg "list" = none
  n_min : mg "min" = none
  n_range : mg "range" = none
  n_sorted : mg "sorted" = none
  n_str : mg "str" = none
  n_tuple : mg "tuple" = none
  n_zip : mg "zip" = none
  c_SECTOR : ∃ t, mg "SECTOR" = some (.int 32 t)
local macro_rules | `(tactic| walk_at "ne") => `(tactic| (apply Ne.symm; apply ne_fresh; (· assumption); (· walk_at "look")))
local macro_rules | `(tactic| walk_at "ne") => `(tactic| (apply ne_fresh; (· assumption); (· walk_at "look")))
local macro_rules | `(tactic| walk_at "ne") => `(tactic| (apply Ne.symm; assumption))
local macro_rules | `(tactic| walk_at "ne") => `(tactic| assumption)
local macro_rules | `(tactic| walk_at "look") => `(tactic| (refine exAt (by assumption) ?_; walk_at "look"))
local macro_rules | `(tactic| walk_at "look") => `(tactic| (refine (upd_ne ?_).trans ?_; (· walk_at "ne"); (· walk_at "look")))
local macro_rules | `(tactic| walk_at "look") => `(tactic| exact upd_same)
local macro_rules | `(tactic| walk_at "look") => `(tactic| assumption)
local macro_rules | `(tactic| walk_at "side") => `(tactic| (exact ⟨by decide, by decide, by decide⟩))
local macro_rules | `(tactic| walk_at "side") => `(tactic| (exact ⟨by omega, by omega⟩))
local macro_rules | `(tactic| walk_at "side") => `(tactic| (show (0:Int) ≤ _; omega))
local macro_rules | `(tactic| walk_at "side") => `(tactic| (show (0:Int) < _; omega))
local macro_rules | `(tactic| walk_at "side") => `(tactic| (exact Or.inr ⟨by omega, by omega⟩))
local macro_rules | `(tactic| walk_at "side") => `(tactic| (exact Or.inl ⟨by omega, by omega⟩))
local macro_rules | `(tactic| walk_at "step") => `(tactic| ((with_reducible apply iDcT); (· rfl)))
local macro_rules | `(tactic| walk_at "step") => `(tactic| ((with_reducible apply iParI); (· repeat constructor); (· repeat constructor)))
local macro_rules | `(tactic| walk_at "step") => `(tactic| ((with_reducible apply iItT); (· walk_at "look")))
local macro_rules | `(tactic| walk_at "step") => `(tactic| ((with_reducible apply iZL); (· walk_at "look"); (· walk_at "look")))
local macro_rules | `(tactic| walk_at "step") => `(tactic| ((with_reducible apply iItL); (· walk_at "look")))
local macro_rules | `(tactic| walk_at "step") => `(tactic| ((with_reducible apply iRng2I); (· omega); (· omega); (· omega); (· omega)))
local macro_rules | `(tactic| walk_at "step") => `(tactic| ((with_reducible apply iDNi); (· walk_at "look")))
local macro_rules | `(tactic| walk_at "step") => `(tactic| ((with_reducible apply iDIi); (· walk_at "look")))
local macro_rules | `(tactic| walk_at "step") => `(tactic| ((with_reducible apply iGTup); (· walk_at "look"); (· rfl)))
local macro_rules | `(tactic| walk_at "step") => `(tactic| ((with_reducible apply iLcB); (· rfl)))
local macro_rules | `(tactic| walk_at "step") => `(tactic| ((with_reducible apply ifNn); (· omega)))
local macro_rules | `(tactic| walk_at "step") => `(tactic| ((with_reducible apply ifNp); (· omega)))
local macro_rules | `(tactic| walk_at "step") => `(tactic| ((with_reducible apply ifF); (· apply decide_eq_false; omega)))
local macro_rules | `(tactic| walk_at "step") => `(tactic| ((with_reducible apply ifT); (· apply decide_eq_true; omega)))
local macro_rules | `(tactic| walk_at "step") => `(tactic| ((with_reducible apply ifF); (· rfl)))
local macro_rules | `(tactic| walk_at "step") => `(tactic| ((with_reducible apply ifT); (· rfl)))
local macro_rules | `(tactic| walk_at "step") => `(tactic| ((with_reducible apply iLenS); (· first | exact Or.inl (by walk_at "look") | exact Or.inr (by walk_at "look"))))
local macro_rules | `(tactic| walk_at "step") => `(tactic| ((with_reducible apply iLenT); (· walk_at "look")))
local macro_rules | `(tactic| walk_at "step") => `(tactic| ((with_reducible apply iIsi); (· first | exact tyN_int | exact tyN_bl | exact tyN_non | exact tyN_str | exact tyN_lst (by walk_at "look") | exact tyN_tup (by walk_at "look")); (· (first | exact kb_NoneType_bool | exact kb_NoneType_int | exact kb_NoneType_str | exact kb_NoneType_tuple | exact kb_NoneType_list | exact kb_bool_bool | exact kb_bool_int | exact kb_bool_str | exact kb_bool_tuple | exact kb_bool_list | exact kb_int_bool | exact kb_int_int | exact kb_int_str | exact kb_int_tuple | exact kb_int_list | exact kb_str_bool | exact kb_str_int | exact kb_str_str | exact kb_str_tuple | exact kb_str_list | exact kb_tuple_bool | exact kb_tuple_int | exact kb_tuple_str | exact kb_tuple_tuple | exact kb_tuple_list | exact kb_list_bool | exact kb_list_int | exact kb_list_str | exact kb_list_tuple | exact kb_list_list))))
local macro_rules | `(tactic| walk_at "step") => `(tactic| ((with_reducible apply iIxT); (· walk_at "look"); (· rfl)))
local macro_rules | `(tactic| walk_at "step") => `(tactic| ((with_reducible apply iSetL); (· walk_at "look"); (· rfl)))
local macro_rules | `(tactic| walk_at "step") => `(tactic| ((with_reducible apply iLenL); (· walk_at "look")))
local macro_rules | `(tactic| walk_at "step") => `(tactic| ((with_reducible apply iIxL); (· walk_at "look"); (· rfl)))
local macro_rules | `(tactic| walk_at "step") => `(tactic| ((with_reducible apply iI); rotate_left; (· (first | (exact Or.inl ⟨by omega, by omega⟩) | (exact Or.inr ⟨by omega, by omega⟩) | (show (0:Int) < _; omega) | (show (0:Int) ≤ _; omega) | (exact ⟨by omega, by omega⟩) | (exact ⟨by decide, by decide, by decide⟩)))))
local macro_rules | `(tactic| walk_at "step") => `(tactic| ((with_reducible apply iAugK); (· rfl)))
local macro_rules | `(tactic| walk_at "step") => `(tactic| ((with_reducible apply iRngI); (· first | decide | omega); (· first | decide | omega)))
local macro_rules | `(tactic| walk_at "step") => `(tactic| (with_reducible refine iWPut ?_))
local macro_rules | `(tactic| walk_at "step") => `(tactic| (with_reducible refine iWGet ?_))
local macro_rules | `(tactic| walk_at "step") => `(tactic| (with_reducible refine iWNot ?_))
local macro_rules | `(tactic| walk_at "step") => `(tactic| (with_reducible refine iCombK ?_))
local macro_rules | `(tactic| walk_at "step") => `(tactic| (with_reducible refine iDc ?_))
local macro_rules | `(tactic| walk_at "step") => `(tactic| (with_reducible refine iPar ?_))
local macro_rules | `(tactic| walk_at "step") => `(tactic| (with_reducible refine iItS ?_))
local macro_rules | `(tactic| walk_at "step") => `(tactic| (with_reducible refine iIterS ?_))
local macro_rules | `(tactic| walk_at "step") => `(tactic| (with_reducible refine iIterT ?_))
local macro_rules | `(tactic| walk_at "step") => `(tactic| (with_reducible refine iZA ?_))
local macro_rules | `(tactic| walk_at "step") => `(tactic| (with_reducible refine iRg3 ?_))
local macro_rules | `(tactic| walk_at "step") => `(tactic| (with_reducible refine iRv ?_))
local macro_rules | `(tactic| walk_at "step") => `(tactic| (with_reducible refine iNoPart ?_))
local macro_rules | `(tactic| walk_at "step") => `(tactic| (with_reducible refine iPartI ?_))
local macro_rules | `(tactic| walk_at "step") => `(tactic| (with_reducible refine iPart ?_))
local macro_rules | `(tactic| walk_at "step") => `(tactic| (with_reducible refine iSl ?_))
local macro_rules | `(tactic| walk_at "step") => `(tactic| (with_reducible refine iDEa ?_))
local macro_rules | `(tactic| walk_at "step") => `(tactic| (with_reducible refine iGNil ?_))
local macro_rules | `(tactic| walk_at "step") => `(tactic| (with_reducible refine iGCons ?_))
local macro_rules | `(tactic| walk_at "step") => `(tactic| (with_reducible refine iZipK ?_))
local macro_rules | `(tactic| walk_at "step") => `(tactic| (with_reducible refine iRng2 ?_))
local macro_rules | `(tactic| walk_at "step") => `(tactic| (with_reducible refine iDPut ?_))
local macro_rules | `(tactic| walk_at "step") => `(tactic| (with_reducible refine iDNotIn ?_))
local macro_rules | `(tactic| walk_at "step") => `(tactic| (with_reducible refine iDIn ?_))
local macro_rules | `(tactic| walk_at "step") => `(tactic| (with_reducible refine iDGet ?_))
local macro_rules | `(tactic| walk_at "step") => `(tactic| (with_reducible refine iYes ?_))
local macro_rules | `(tactic| walk_at "step") => `(tactic| (with_reducible refine iLc ?_))
local macro_rules | `(tactic| walk_at "step") => `(tactic| (with_reducible refine iNeS ?_))
local macro_rules | `(tactic| walk_at "step") => `(tactic| (with_reducible refine iEqS ?_))
local macro_rules | `(tactic| walk_at "step") => `(tactic| (with_reducible refine iNeB ?_))
local macro_rules | `(tactic| walk_at "step") => `(tactic| (with_reducible refine iEqB ?_))
local macro_rules | `(tactic| walk_at "step") => `(tactic| (with_reducible refine iCont ?_))
local macro_rules | `(tactic| walk_at "step") => `(tactic| (with_reducible refine iBreak ?_))
local macro_rules | `(tactic| walk_at "step") => `(tactic| (with_reducible refine iIterL ?_))
local macro_rules | `(tactic| walk_at "step") => `(tactic| (with_reducible refine iTup ?_))
local macro_rules | `(tactic| walk_at "step") => `(tactic| (with_reducible refine iLst ?_))
local macro_rules | `(tactic| walk_at "step") => `(tactic| (with_reducible refine iSub ?_))
local macro_rules | `(tactic| walk_at "step") => `(tactic| (with_reducible refine iIpI ?_))
local macro_rules | `(tactic| walk_at "step") => `(tactic| (with_reducible refine iAugS ?_))
local macro_rules | `(tactic| walk_at "step") => `(tactic| (with_reducible refine iNotV ?_))
local macro_rules | `(tactic| walk_at "step") => `(tactic| (with_reducible refine iOrV ?_))
local macro_rules | `(tactic| walk_at "step") => `(tactic| (with_reducible refine iAndV ?_))
local macro_rules | `(tactic| walk_at "step") => `(tactic| (with_reducible refine iDGet1 ?_))
local macro_rules | `(tactic| walk_at "step") => `(tactic| (with_reducible refine iNotBl ?_))
local macro_rules | `(tactic| walk_at "step") => `(tactic| (with_reducible refine iIsB ?_))
local macro_rules | `(tactic| walk_at "step") => `(tactic| (with_reducible refine iIntB ?_))
local macro_rules | `(tactic| walk_at "step") => `(tactic| (with_reducible refine iPn ?_))
local macro_rules | `(tactic| walk_at "step") => `(tactic| (with_reducible refine iPr ?_))
local macro_rules | `(tactic| walk_at "step") => `(tactic| (with_reducible refine iRai ?_))
local macro_rules | `(tactic| walk_at "step") => `(tactic| (with_reducible refine iRev1 ?_))
local macro_rules | `(tactic| walk_at "step") => `(tactic| (with_reducible refine iBM ?_))
local macro_rules | `(tactic| walk_at "step") => `(tactic| (with_reducible refine iAugF ?_))
local macro_rules | `(tactic| walk_at "step") => `(tactic| (with_reducible refine iSto ?_))
local macro_rules | `(tactic| walk_at "step") => `(tactic| (with_reducible refine iFld ?_))
local macro_rules | `(tactic| walk_at "step") => `(tactic| (with_reducible refine iMakS ?_))
local macro_rules | `(tactic| walk_at "step") => `(tactic| (with_reducible refine iMak ?_))
local macro_rules | `(tactic| walk_at "step") => `(tactic| (with_reducible refine iMet ?_))
local macro_rules | `(tactic| walk_at "step") => `(tactic| (with_reducible refine iCalE ?_))
local macro_rules | `(tactic| walk_at "step") => `(tactic| (with_reducible refine ifDr ?_))
local macro_rules | `(tactic| walk_at "step") => `(tactic| (with_reducible refine ifNDr ?_))
local macro_rules | `(tactic| walk_at "step") => `(tactic| (with_reducible refine iTruI ?_))
local macro_rules | `(tactic| walk_at "step") => `(tactic| (with_reducible refine iNotN ?_))
local macro_rules | `(tactic| walk_at "step") => `(tactic| (with_reducible refine iIsN ?_))
local macro_rules | `(tactic| walk_at "step") => `(tactic| (with_reducible refine iRetN ?_))
local macro_rules | `(tactic| walk_at "step") => `(tactic| (with_reducible refine iU ?_))
local macro_rules | `(tactic| walk_at "step") => `(tactic| (with_reducible refine iUn ?_))
local macro_rules | `(tactic| walk_at "step") => `(tactic| (with_reducible refine iChain ?_))
local macro_rules | `(tactic| walk_at "step") => `(tactic| (with_reducible refine iIf ?_))
local macro_rules | `(tactic| walk_at "step") => `(tactic| (with_reducible refine iB ?_))
local macro_rules | `(tactic| walk_at "step") => `(tactic| (with_reducible refine iNot ?_))
local macro_rules | `(tactic| walk_at "step") => `(tactic| (with_reducible refine iOr ?_))
local macro_rules | `(tactic| walk_at "step") => `(tactic| (with_reducible refine iAnd ?_))
local macro_rules | `(tactic| walk_at "step") => `(tactic| (with_reducible refine iCal ?_))
local macro_rules | `(tactic| walk_at "step") => `(tactic| (with_reducible refine iRng ?_))
local macro_rules | `(tactic| walk_at "step") => `(tactic| (with_reducible refine iFor ?_))
local macro_rules | `(tactic| walk_at "step") => `(tactic| (with_reducible refine iInt ?_))
local macro_rules | `(tactic| walk_at "step") => `(tactic| (with_reducible refine iNeI ?_))
local macro_rules | `(tactic| walk_at "step") => `(tactic| (with_reducible refine iEqI ?_))
local macro_rules | `(tactic| walk_at "step") => `(tactic| (with_reducible refine iDrop ?_))
local macro_rules | `(tactic| walk_at "step") => `(tactic| (with_reducible refine iNext ?_))
local macro_rules | `(tactic| walk_at "step") => `(tactic| (with_reducible refine iRet ?_))
local macro_rules | `(tactic| walk_at "step") => `(tactic| (with_reducible refine iBl ?_))
local macro_rules | `(tactic| walk_at "step") => `(tactic| (with_reducible refine iTest ?_))
local macro_rules | `(tactic| walk_at "step") => `(tactic| (with_reducible refine iIfS ?_))
local macro_rules | `(tactic| walk_at "step") => `(tactic| (with_reducible refine iCB ?_))
local macro_rules | `(tactic| walk_at "step") => `(tactic| (with_reducible refine iNil ?_))
local macro_rules | `(tactic| walk_at "step") => `(tactic| (with_reducible refine iCons ?_))
local macro_rules | `(tactic| walk_at "step") => `(tactic| (with_reducible refine iI0 ?_))
local macro_rules | `(tactic| walk_at "step") => `(tactic| (with_reducible refine iOp ?_))
local macro_rules | `(tactic| walk_at "step") => `(tactic| (with_reducible refine iC ?_))
local macro_rules | `(tactic| walk_at "step") => `(tactic| ((with_reducible apply iVar); (· rfl)))
local macro_rules | `(tactic| walk_at "step") => `(tactic| ((with_reducible apply iName); (· repeat constructor)))
local macro_rules | `(tactic| walk_at "step") => `(tactic| (with_reducible refine iAsg ?_))
local macro_rules | `(tactic| walk_at "step") => `(tactic| (with_reducible refine iSeq ?_))
local macro_rules | `(tactic| walk_at "go") => `(tactic| (repeat walk_at "step"))
section
variable {P : Program} {w : World} {K : PySem.W.Frag} {mg : Str → Option Value} {base : Heap}
/-! ### bytes -/
theorem xor_nn (a b : Nat) : Builtin.bitXor (a : Int) (b : Int) = ((a ^^^ b : Nat) : Int) := by
  rw [Bits.bitXor_pp (Int.natCast_nonneg _) (Int.natCast_nonneg _)]; rfl
theorem bit_nn (b i : Nat) : Builtin.bitAnd ((b : Int) / 2 ^ (i : Int).toNat) 1 = ((b / 2 ^ i % 2 : Nat) : Int) := by
  have e : ((b : Int) / 2 ^ (i : Int).toNat) = ((b / 2 ^ i : Nat) : Int) := by
    rw [Int.toNat_natCast]; norm_cast
  rw [e]
  show Builtin.bitAnd ((b / 2 ^ i : Nat) : Int) ((1 : Nat) : Int) = _
  rw [PyProof.Rows.bitAnd_pp (Int.natCast_nonneg _) (Int.natCast_nonneg _), Int.toNat_natCast, Int.toNat_natCast, Nat.and_one_is_mod]
def sp_double : Sp := fun vs H Q _ => ∃ a : Nat, vs = [.int a] ∧ a < 256 ∧ Q (.int (dbl a : Nat)) H
theorem ok_double (M : Mg mg) {f : Addr} {fd : FuncData} (F : Fun K "double" "double" s_double f fd) : FnOk P w K mg base CX0 1 f fd ["a"] sp_double := by
  refine F.ok sc_double (fun vs H Q E h => ?_) (fun cdv A outer s H vs Q E hr h => ?_)
  · obtain ⟨a, rfl, _⟩ := h; rfl
  · obtain ⟨a, rfl, ha, q⟩ := h
    refine ⟨_, (pss_cons (ps_set (i := 1) sc_double.nd rfl (Or.inl rfl) (pe_op op_mul pe_int (pv 0))) (pss_cons (ps_if (pt_cmpR op_lt (pv 1) pe_int (nomark _)) (pss_one (ps_ret (pv 1))) pss_nil) (pss_one (ps_ret (pe_op op_xor (pv 1) pe_int))))), ?_⟩
    refine iBody (by repeat constructor) ?_
    walk_at "go"
    refine ifD (fun h => ?_) (fun h => ?_)
    · walk_at "go"
      exact vInt (by unfold dbl; rw [if_pos (by omega)]; omega) q
    · walk_at "go"
      exact vInt (by unfold dbl; rw [if_neg (by omega)]; exact xor_nn (2 * a) 285) q
def sp_product : Sp := fun vs H Q _ => ∃ a b : Nat, vs = [.int a, .int b] ∧ a < 256 ∧ Q (.int (gm a b : Nat)) H
theorem ok_product (M : Mg mg) {f : Addr} {fd : FuncData} (F : Fun K "product" "product" s_product f fd) (c_double : Cal P w K mg base 1 "double" ["a"] sp_double) : FnOk P w K mg base CX0 2 f fd ["a", "b"] sp_product := by
  refine F.ok sc_product (fun vs H Q E h => ?_) (fun cdv A outer s H vs Q E hr h => ?_)
  · obtain ⟨a, b, rfl, _⟩ := h; rfl
  · obtain ⟨a, b, rfl, ha, q⟩ := h
    refine ⟨_, (pss_cons (ps_set (i := 2) sc_product.nd rfl (Or.inl rfl) pe_int) (pss_cons (ps_for PassesOwn.never rfl (pi_range1 (by rfl) M.n_range (pa_cons pe_int pa_nil)) (pg_name (i := 3) sc_product.nd rfl (Or.inl rfl)) (pss_cons (ps_if (pt_truth (pe_op op_and (pe_op op_shr (pv 1) (pv 3)) pe_int) (by intro _; rfl)) (pss_one (ps_set (i := 2) sc_product.nd rfl (Or.inl rfl) (pe_op op_xor (pv 2) (pv 0)))) pss_nil) (pss_one (ps_set (i := 0) sc_product.nd rfl (Or.inl rfl) (pe_cal c_double (hr.mono (by omega)) (by rfl) (pa_cons (pv 0) pa_nil)))))) (pss_one (ps_ret (pv 2))))), ?_⟩
    refine iBody (by repeat constructor) ?_
    walk_at "go"
    refine forJ_range0 (fun i σ' H' => (∃ k, σ' = [some (.int (dp a i : Nat)), some (.int b), some (.int (gs a b i : Nat)), k]) ∧ H' = H) ⟨⟨_, rfl⟩, rfl⟩ (fun i σ' H' hi hp => ?_) (fun σ' H' hp => ?_)
    · obtain ⟨⟨k, rfl⟩, rfl⟩ := hp
      walk_at "go"
      rw [bit_nn]
      have fin : ∀ t : Nat, t = gs a b (i + 1) → (∃ k, [some (V.int (dbl (dp a i) : Nat)), some (.int b), some (.int t), some (V.int i)] = [some (.int (dp a (i + 1) : Nat)), some (.int b), some (.int (gs a b (i + 1) : Nat)), k]) ∧ H' = H' := fun t e => ⟨⟨some (V.int i), by rw [e]; rfl⟩, rfl⟩
      by_cases hb : b / 2 ^ i % 2 = 1
      · rw [hb]
        walk_at "go"
        refine ⟨dp a i, rfl, dp_lt ha i, ?_⟩
        walk_at "go"
        rw [xor_nn]
        exact fin _ (by show _ = (if b / 2 ^ i % 2 = 1 then gs a b i ^^^ dp a i else gs a b i); rw [if_pos hb])
      · have hb' : b / 2 ^ i % 2 = 0 := by omega
        rw [hb']
        walk_at "go"
        refine ⟨dp a i, rfl, dp_lt ha i, ?_⟩
        walk_at "go"
        exact fin _ (by show _ = (if b / 2 ^ i % 2 = 1 then gs a b i ^^^ dp a i else gs a b i); rw [if_neg hb])
    · obtain ⟨⟨k, rfl⟩, rfl⟩ := hp
      walk_at "go"
      exact q
def sp_inverse : Sp := fun vs H Q _ => ∃ a : Nat, vs = [.int a] ∧ a < 256 ∧ Q (.int (iv a : Nat)) H
theorem ok_inverse (M : Mg mg) {f : Addr} {fd : FuncData} (F : Fun K "inverse" "inverse" s_inverse f fd) (c_product : Cal P w K mg base 2 "product" ["a", "b"] sp_product) : FnOk P w K mg base CX0 3 f fd ["a"] sp_inverse := by
  refine F.ok sc_inverse (fun vs H Q E h => ?_) (fun cdv A outer s H vs Q E hr h => ?_)
  · obtain ⟨a, rfl, _⟩ := h; rfl
  · obtain ⟨a, rfl, ha, q⟩ := h
    refine ⟨_, (pss_cons (ps_set (i := 1) sc_inverse.nd rfl (Or.inl rfl) pe_int) (pss_cons (ps_for PassesOwn.never rfl (pi_range1 (by rfl) M.n_range (pa_cons pe_int pa_nil)) (pg_name (i := 2) sc_inverse.nd rfl (Or.inl rfl)) (pss_cons (ps_set (i := 0) sc_inverse.nd rfl (Or.inl rfl) (pe_cal c_product (hr.mono (by omega)) (by rfl) (pa_cons (pv 0) (pa_cons (pv 0) pa_nil)))) (pss_one (ps_set (i := 1) sc_inverse.nd rfl (Or.inl rfl) (pe_cal c_product (hr.mono (by omega)) (by rfl) (pa_cons (pv 1) (pa_cons (pv 0) pa_nil))))))) (pss_one (ps_ret (pv 1))))), ?_⟩
    refine iBody (by repeat constructor) ?_
    walk_at "go"
    refine forJ_range0 (fun i σ' H' => (∃ k, σ' = [some (.int ((pw a 1 i).1 : Nat)), some (.int ((pw a 1 i).2 : Nat)), k]) ∧ H' = H) ⟨⟨_, rfl⟩, rfl⟩ (fun i σ' H' hi hp => ?_) (fun σ' H' hp => ?_)
    · obtain ⟨⟨k, rfl⟩, rfl⟩ := hp
      have hl := pw_lt (t := 1) ha (by decide) i
      walk_at "go"
      refine ⟨_, _, rfl, hl.1, ?_⟩
      walk_at "go"
      refine ⟨_, _, rfl, hl.2, ?_⟩
      walk_at "go"
      exact ⟨⟨_, rfl⟩, rfl⟩
    · obtain ⟨⟨k, rfl⟩, rfl⟩ := hp
      walk_at "go"
      exact q
/-! ### the law's product -/
theorem half (x : Nat) : (x : Int) / 2 = ((x / 2 : Nat) : Int) := by omega
def sp__law_times : Sp := fun vs H Q _ => ∃ a b : Nat, vs = [.int a, .int b] ∧ a < 256 ∧ Q (.int (gm a b : Nat)) H
theorem ok__law_times (M : Mg mg) {f : Addr} {fd : FuncData} (F : Fun K "_law_times" "_law_times" s__law_times f fd) : FnOk P w K mg base CX0 1 f fd ["a", "b"] sp__law_times := by
  refine F.ok sc__law_times (fun vs H Q E h => ?_) (fun cdv A outer s H vs Q E hr h => ?_)
  · obtain ⟨a, b, rfl, _⟩ := h; rfl
  · obtain ⟨a, b, rfl, ha, q⟩ := h
    refine ⟨_, (pss_cons (ps_set (i := 2) sc__law_times.nd rfl (Or.inl rfl) pe_int) (pss_cons (ps_for PassesOwn.never rfl (pi_range1 (by rfl) M.n_range (pa_cons pe_int pa_nil)) (pg_name (i := 3) sc__law_times.nd rfl (Or.inl rfl)) (pss_cons (ps_if (pt_cmpR op_eq (pe_op op_mod (pe_callTy int_i (by rfl) M.n_int (by decide +kernel) (pa_cons (pv 1) pa_nil)) pe_int) pe_int (nomark _)) (pss_one (ps_set (i := 2) sc__law_times.nd rfl (Or.inl rfl) (pe_op op_xor (pv 2) (pv 0)))) pss_nil) (pss_cons (ps_set (i := 0) sc__law_times.nd rfl (Or.inl rfl) (pe_op op_mul pe_int (pv 0))) (pss_one (ps_set (i := 1) sc__law_times.nd rfl (Or.inl rfl) (pe_op op_fdiv (pv 1) pe_int)))))) (pss_cons (ps_set (i := 4) sc__law_times.nd rfl (Or.inl rfl) pe_int) (pss_cons (ps_set (i := 5) sc__law_times.nd rfl (Or.inl rfl) pe_int) (pss_cons (ps_for PassesOwn.never rfl (pi_range1 (by rfl) M.n_range (pa_cons pe_int pa_nil)) (pg_name (i := 3) sc__law_times.nd rfl (Or.inl rfl)) (pss_cons (ps_if (pt_cmpR op_ge (pv 2) (pv 4) (nomark _)) (pss_one (ps_set (i := 2) sc__law_times.nd rfl (Or.inl rfl) (pe_op op_xor (pv 2) (pv 5)))) pss_nil) (pss_cons (ps_set (i := 4) sc__law_times.nd rfl (Or.inl rfl) (pe_op op_fdiv (pv 4) pe_int)) (pss_one (ps_set (i := 5) sc__law_times.nd rfl (Or.inl rfl) (pe_op op_fdiv (pv 5) pe_int)))))) (pss_one (ps_ret (pv 2)))))))), ?_⟩
    refine iBody (by repeat constructor) ?_
    walk_at "go"
    refine forJ_range0 (fun i σ' H' => (∃ k, σ' = [some (.int (2 ^ i * a : Nat)), some (.int (b / 2 ^ i : Nat)), some (.int (cl a b i : Nat)), k, none, none]) ∧ H' = H) ⟨⟨none, by simp [cl]⟩, rfl⟩ (fun i σ' H' hi hp => ?_) (fun σ' H' hp => ?_)
    · obtain ⟨⟨k, rfl⟩, rfl⟩ := hp
      have fin : ∀ (t : Nat) (c d : Int), t = cl a b (i + 1) → c = (2 ^ (i + 1) * a : Nat) → d = (b / 2 ^ (i + 1) : Nat) → (∃ k, [some (V.int c), some (.int d), some (.int t), some (V.int i), none, none] = [some (V.int (2 ^ (i + 1) * a : Nat)), some (.int (b / 2 ^ (i + 1) : Nat)), some (.int (cl a b (i + 1) : Nat)), k, none, none]) ∧ H' = H' := fun t c d e1 e2 e3 => ⟨⟨some (V.int i), by rw [e1, e2, e3]⟩, rfl⟩
      have e2 : (2 : Int) * ((2 ^ i * a : Nat) : Int) = ((2 ^ (i + 1) * a : Nat) : Int) := by
        rw [Nat.pow_succ, Nat.mul_comm (2 ^ i) 2, Nat.mul_assoc]; push_cast; rfl
      have e3 : ((b / 2 ^ i : Nat) : Int) / 2 = ((b / 2 ^ (i + 1) : Nat) : Int) := by
        rw [half, Nat.div_div_eq_div_mul, ← Nat.pow_succ]
      walk_at "go"
      refine ifD (fun h => ?_) (fun h => ?_)
      · walk_at "go"
        rw [xor_nn]
        exact fin _ _ _ (by show _ = (if b / 2 ^ i % 2 = 1 then cl a b i ^^^ (2 ^ i * a) else cl a b i); rw [if_pos (by omega)]) e2 e3
      · walk_at "go"
        exact fin _ _ _ (by show _ = (if b / 2 ^ i % 2 = 1 then cl a b i ^^^ (2 ^ i * a) else cl a b i); rw [if_neg (by omega)]) e2 e3
    · obtain ⟨⟨k, rfl⟩, rfl⟩ := hp
      walk_at "go"
      refine forJ_range0 (fun i σ'' H'' => (∃ x y k, σ'' = [x, y, some (.int (rd (cl a b 8) i : Nat)), k, some (.int (32768 / 2 ^ i : Nat)), some (.int (36480 / 2 ^ i : Nat))]) ∧ H'' = H') ⟨⟨_, _, _, rfl⟩, rfl⟩ (fun i σ' H' hi hp => ?_) (fun σ' H' hp => ?_)
      · obtain ⟨⟨x, y, k, rfl⟩, rfl⟩ := hp
        have fin : ∀ (t : Nat) (c d : Int), t = rd (cl a b 8) (i + 1) → c = (32768 / 2 ^ (i + 1) : Nat) → d = (36480 / 2 ^ (i + 1) : Nat) → (∃ x' y' k, [x, y, some (.int t), some (V.int i), some (V.int c), some (.int d)] = [x', y', some (.int (rd (cl a b 8) (i + 1) : Nat)), k, some (V.int (32768 / 2 ^ (i + 1) : Nat)), some (.int (36480 / 2 ^ (i + 1) : Nat))]) ∧ H' = H' := fun t c d e1 e2 e3 => ⟨⟨x, y, some (V.int i), by rw [e1, e2, e3]⟩, rfl⟩
        have e2 : ((32768 / 2 ^ i : Nat) : Int) / 2 = ((32768 / 2 ^ (i + 1) : Nat) : Int) := by
          rw [half, Nat.div_div_eq_div_mul, ← Nat.pow_succ]
        have e3 : ((36480 / 2 ^ i : Nat) : Int) / 2 = ((36480 / 2 ^ (i + 1) : Nat) : Int) := by
          rw [half, Nat.div_div_eq_div_mul, ← Nat.pow_succ]
        walk_at "go"
        refine ifD (fun h => ?_) (fun h => ?_)
        · walk_at "go"
          rw [xor_nn]
          exact fin _ _ _ (by show _ = (if 32768 / 2 ^ i ≤ rd (cl a b 8) i then rd (cl a b 8) i ^^^ (36480 / 2 ^ i) else rd (cl a b 8) i); rw [if_pos (by omega)]) e2 e3
        · walk_at "go"
          exact fin _ _ _ (by show _ = (if 32768 / 2 ^ i ≤ rd (cl a b 8) i then rd (cl a b 8) i ^^^ (36480 / 2 ^ i) else rd (cl a b 8) i); rw [if_neg (by omega)]) e2 e3
      · obtain ⟨⟨x, y, k, rfl⟩, rfl⟩ := hp
        walk_at "go"
        have e : rd (cl a b 8) 8 = gm a b := gm_tm b ha
        exact vInt (by rw [show (8 : Int).toNat = 8 from rfl, e]) q
/-! ### products, weights -/
theorem xor_B (x y : B) : Builtin.bitXor (x.v : Int) (y.v : Int) = ((x + y).v : Int) := xor_nn x.v y.v
theorem j_productB {x y : B} {H : Hp} {Q : VK} {E : XK} (q : Q (.int (x * y).v) H) : sp_product [.int x.v, .int y.v] H Q E := ⟨x.v, y.v, rfl, x.h, q⟩
theorem j_double {a : Nat} {H : Hp} {Q : VK} {E : XK} (ha : a < 256) (q : Q (.int (dbl a : Nat)) H) : sp_double [.int a] H Q E := ⟨a, rfl, ha, q⟩
theorem j_inverseB {x : B} {H : Hp} {Q : VK} {E : XK} (h : x ≠ b0) (q : Q (.int x.inv.v) H) : sp_inverse [.int x.v] H Q E := by
  refine ⟨x.v, rfl, x.h, ?_⟩
  have e : x.inv.v = iv x.v := by
    have hv : ¬ x.v = 0 := fun e => h (B.ext' e)
    unfold B.inv
    rw [dif_neg hv]
  rw [← e]
  exact q
def rowV (a : B) (n : Nat) : List V := (List.range n).map fun k => V.int (a * pl k).v
def sp_products : Sp := fun vs H Q _ => ∃ a : B, vs = [.int a.v] ∧ NewL H Q (rowV a 256)
theorem ok_products (M : Mg mg) {f : Addr} {fd : FuncData} (F : Fun K "products" "products" s_products f fd) (c_double : Cal P w K mg base 1 "double" ["a"] sp_double) : FnOk P w K mg base CX0 2 f fd ["a"] sp_products := by
  refine F.ok sc_products (fun vs H Q E h => ?_) (fun cdv A outer s H vs Q E hr h => ?_)
  · obtain ⟨a, rfl, _⟩ := h; rfl
  · obtain ⟨a, rfl, q⟩ := h
    refine ⟨_, (pss_cons (ps_set (i := 1) sc_products.nd rfl (Or.inl rfl) (pe_lst (pa_cons pe_int pa_nil))) (pss_cons (ps_for PassesOwn.never rfl (pi_range1 (by rfl) M.n_range (pa_cons pe_int pa_nil)) (pg_name (i := 2) sc_products.nd rfl (Or.inl rfl)) (pss_cons (ps_set (i := 1) sc_products.nd rfl (Or.inl rfl) (pe_op op_cat (pv 1) (pe_lc (own := [("known", 3)]) (g := (gName 3)) (tt := tYes) (by rfl) sc_products.nd (pi_l (pv 1)) (blkOk_by (own := [("known", 3)]) (N := ["a", "row", "_", "known"]) (sc := defScope s_products) (by decide +kernel)) (fun _ _ _ _ _ => (pg_name (i := 3) sc_products.nd rfl (Or.inl rfl))) (fun _ _ _ _ _ => pts_nil) (fun _ _ _ _ _ => (pe_op op_xor (pv 3) (pv 0)))))) (pss_one (ps_set (i := 0) sc_products.nd rfl (Or.inr rfl) (pe_cal c_double (hr.mono (by omega)) (by rfl) (pa_cons (pv 0) pa_nil)))))) (pss_one (ps_ret (pv 1))))), ?_⟩
    refine iBody (by repeat constructor) ?_
    walk_at "go"
    refine iNewL (by simp) fun r0 hr0 => ?_
    walk_at "go"
    refine forJ_range0 (fun i σ' H' => (∃ r u, σ' = [some (.int (dp a.v i : Nat)), some (.ref r), u, none] ∧ H r = none ∧ H' r = some (.lst (rowV a (2 ^ i)))) ∧ Ex H H') ⟨⟨r0, _, rfl, hr0, ?_⟩, ex_upd hr0 (Ex.rfl' _)⟩ (fun i σ' H' hi hp => ?_) (fun σ' H' hp => ?_)
    · rw [upd_same]
      show some (HO.lst [V.int 0]) = some (.lst [V.int (a * pl 0).v])
      rw [show a * pl 0 = b0 from B.mul_zero a]; rfl
    · obtain ⟨⟨r, u, rfl, hn, hrow⟩, ex⟩ := hp
      have hd := dp_lt a.h i
      have hp' : ((a * pl (2 ^ i)).v) = dp a.v i := by
        show gm a.v (pl (2 ^ i)).v = _
        rw [pl_v (Nat.lt_of_le_of_lt (show 2 ^ i ≤ 2 ^ 7 from Nat.pow_le_pow_right (by decide) (by omega)) (by decide)), gm_pow a.h hi]
      have h2 : 2 ^ i ≤ 2 ^ 7 := Nat.pow_le_pow_right (by decide) (by omega)
      have l1 : (rowV a (2 ^ i)).length = 2 ^ i := by unfold rowV; rw [List.length_map, List.length_range]
      walk_at "go"
      refine lcF_l (rowV a (2 ^ i)) (fun k => V.int (a * pl (2 ^ i + k)).v) (by repeat constructor) hrow (fun D j x H2 hD hx hacc e2 => ?_) (fun D H2 hD e2 hacc => ?_)
      · have hj : j < 2 ^ i := by
          have := (List.getElem?_eq_some_iff.mp hx).1
          omega
        have hx' : x = V.int (a * pl j).v := by
          unfold rowV at hx
          rw [List.getElem?_map, List.getElem?_range hj] at hx
          exact (Option.some.inj hx).symm
        subst hx'
        walk_at "go"
        refine iLcF hD (by omega) e2 hacc ?_
        rw [xor_nn, pl_add hi hj, B.mul_add, B.add_v, hp', Nat.xor_comm]
      · have hrow2 := e2 _ _ hrow
        walk_at "go"
        refine iCat hrow2 hacc (by rw [List.length_map, List.length_range, l1]; omega) fun r' hr' => ?_
        walk_at "go"
        refine ⟨dp a.v i, rfl, hd, ?_⟩
        walk_at "go"
        have en : H r' = none := by
          cases z : H r' with
          | none => rfl
          | some o => rw [e2 _ _ (ex _ _ z)] at hr'; cases hr'
        refine ⟨⟨r', _, rfl, en, ?_⟩, ex_upd en (fun p o h => e2 _ _ (ex _ _ h))⟩
        rw [upd_same, l1]
        unfold rowV
        rw [Nat.pow_succ, Nat.mul_two, List.range_add, List.map_append, List.map_map]
        rfl
    · obtain ⟨⟨r, u, rfl, hn, hrow⟩, ex⟩ := hp
      walk_at "go"
      exact q r H' hn ex hrow
theorem j_products {a : B} {H : Hp} {Q : VK} {E : XK} (q : NewL H Q (rowV a 256)) : sp_products [.int a.v] H Q E := ⟨a, rfl, q⟩
theorem rowV_at (a y : B) : atI (rowV a 256) (y.v : Int) = some (V.int (a * y).v) := by
  rw [atI_natL]
  unfold rowV
  rw [List.getElem?_map, List.getElem?_range y.h]
  show some (V.int (a * pl y.v).v) = _
  rw [B.pl_eq]
theorem bsV_get {L : List B} {n : Nat} {x : V} (h : (bsV L)[n]? = some x) : ∃ b, L[n]? = some b ∧ x = .int b.v := by
  unfold bsV at h
  rw [List.getElem?_map] at h
  cases e : L[n]? with
  | none => rw [e] at h; cases h
  | some b => rw [e] at h; exact ⟨b, rfl, (Option.some.inj h).symm⟩
theorem drop_at {α : Type} {L : List α} {n : Nat} {b : α} (h : L[n]? = some b) : L.drop n = b :: L.drop (n + 1) := by
  obtain ⟨hn, rfl⟩ := List.getElem?_eq_some_iff.mp h
  exact List.drop_eq_getElem_cons hn
def sp_weight : Sp := fun vs H Q _ => ∃ (x i : B) (p : Addr) (L : List B), vs = [.int x.v, .ref p, .int i.v] ∧ H p = some (.lst (bsV L)) ∧ Q (.int (wB x L i).v) H
theorem ok_weight (M : Mg mg) {f : Addr} {fd : FuncData} (F : Fun K "weight" "weight" s_weight f fd) (c_product : Cal P w K mg base 2 "product" ["a", "b"] sp_product) (c_inverse : Cal P w K mg base 3 "inverse" ["a"] sp_inverse) : FnOk P w K mg base CX0 4 f fd ["x", "places", "i"] sp_weight := by
  refine F.ok sc_weight (fun vs H Q E h => ?_) (fun cdv A outer s H vs Q E hr h => ?_)
  · obtain ⟨x, i, p, L, rfl, _⟩ := h; rfl
  · obtain ⟨x, i, p, L, rfl, hp, q⟩ := h
    refine ⟨_, (pss_cons (ps_set (i := 3) sc_weight.nd rfl (Or.inl rfl) pe_int) (pss_cons (ps_set (i := 4) sc_weight.nd rfl (Or.inl rfl) pe_int) (pss_cons (ps_for PassesOwn.never rfl (pi_l (pv 1)) (pg_name (i := 5) sc_weight.nd rfl (Or.inl rfl)) (pss_one (ps_if (pt_cmpR op_ne (pv 5) (pv 2) (nomark _)) (pss_cons (ps_set (i := 3) sc_weight.nd rfl (Or.inl rfl) (pe_cal c_product (hr.mono (by omega)) (by rfl) (pa_cons (pv 3) (pa_cons (pe_op op_xor (pv 0) (pv 5)) pa_nil)))) (pss_one (ps_set (i := 4) sc_weight.nd rfl (Or.inl rfl) (pe_cal c_product (hr.mono (by omega)) (by rfl) (pa_cons (pv 4) (pa_cons (pe_op op_xor (pv 2) (pv 5)) pa_nil)))))) pss_nil))) (pss_one (ps_ret (pe_cal c_product (hr.mono (by omega)) (by rfl) (pa_cons (pv 3) (pa_cons (pe_cal c_inverse (hr.mono (by omega)) (by rfl) (pa_cons (pv 4) pa_nil)) pa_nil)))))))), ?_⟩
    refine iBody (by repeat constructor) ?_
    walk_at "go"
    refine forJ_list (bsV L) (fun n σ' H' => (∃ (a c : B) (u : Option V), σ' = [some (.int x.v), some (.ref p), some (.int i.v), some (.int a.v), some (.int c.v), u] ∧ above x i (L.drop n) a = above x i L b1 ∧ above i i (L.drop n) c = above i i L b1) ∧ H' = H) ⟨⟨b1, b1, none, rfl, rfl, rfl⟩, rfl⟩ (fun n σ' H' _ h => h.2 ▸ hp) (fun n v σ' H' hv h => ?_) (fun σ' H' h => ?_)
    · obtain ⟨⟨a, c, u, rfl, e1, e2⟩, rfl⟩ := h
      obtain ⟨j, hj, rfl⟩ := bsV_get hv
      rw [drop_at hj] at e1 e2
      walk_at "go"
      refine ifND (fun h => ?_) (fun h => ?_)
      · have hji : j ≠ i := fun e => h (by rw [e])
        walk_at "go"
        rw [xor_B]
        refine j_productB ?_
        walk_at "go"
        rw [xor_B]
        refine j_productB ?_
        walk_at "go"
        refine ⟨⟨_, _, _, rfl, ?_, ?_⟩, rfl⟩
        · rw [← e1]; show _ = above x i (L.drop (n + 1)) (if j ≠ i then a * (x + j) else a); rw [if_pos hji]
        · rw [← e2]; show _ = above i i (L.drop (n + 1)) (if j ≠ i then c * (i + j) else c); rw [if_pos hji]
      · have hji : j = i := B.ext' (by omega)
        walk_at "go"
        refine ⟨⟨_, _, _, rfl, ?_, ?_⟩, rfl⟩
        · rw [← e1]; show _ = above x i (L.drop (n + 1)) (if j ≠ i then a * (x + j) else a); rw [if_neg (by simpa using hji)]
        · rw [← e2]; show _ = above i i (L.drop (n + 1)) (if j ≠ i then c * (i + j) else c); rw [if_neg (by simpa using hji)]
    · obtain ⟨⟨a, c, u, rfl, e1, e2⟩, rfl⟩ := h
      have ln : (bsV L).length = L.length := List.length_map ..
      rw [ln, List.drop_length] at e1 e2
      have e1 : a = above x i L b1 := e1
      have e2 : c = above i i L b1 := e2
      have c0 : c ≠ b0 := by rw [e2]; exact above_ne L _ B.one_ne
      walk_at "go"
      refine j_inverseB c0 ?_
      walk_at "go"
      refine j_productB ?_
      rw [e1, e2]
      exact q
theorem j_weight {x i : B} {p : Addr} {L : List B} {H : Hp} {Q : VK} {E : XK} (h : H p = some (.lst (bsV L))) (q : Q (.int (wB x L i).v) H) : sp_weight [.int x.v, .ref p, .int i.v] H Q E := ⟨x, i, p, L, rfl, h, q⟩
/-! ### sectors out of given ones -/
abbrev Gv := List (B × (Nat → B))
def wordF (G : Gv) (x : B) (t : Nat) : B := sumB (fun g : B × (Nat → B) => wB x (G.map (·.1)) g.1 * g.2 t) G
def GvAt (H : Hp) : List (Key × V) → Gv → Prop := Paired fun p g => p.1 = .inl (g.1.v : Int) ∧ SecAt H p.2 g.2
theorem GvAt.ex {H H' : Hp} (e : Ex H H') : ∀ {kvs : List (Key × V)} {G : Gv}, GvAt H kvs G → GvAt H' kvs G
  | _, _, .nil => .nil
  | _, _, .cons h t => .cons ⟨h.1, h.2.ex e⟩ (GvAt.ex e t)
theorem GvAt.keys {H : Hp} : ∀ {kvs : List (Key × V)} {G : Gv}, GvAt H kvs G → kvs.map (fun kv => kV kv.1) = bsV (G.map (·.1))
  | _, _, .nil => rfl
  | _, _, .cons (a := p) (b := g) h t => by
    have ih := GvAt.keys t
    show kV p.1 :: _ = V.int g.1.v :: _
    rw [h.1]
    exact congrArg _ ih
theorem GvAt.len {H : Hp} {kvs : List (Key × V)} {G : Gv} (h : GvAt H kvs G) : kvs.length = G.length := Paired.length h
theorem GvAt.val {H : Hp} : ∀ {kvs : List (Key × V)} {G : Gv}, GvAt H kvs G → (G.map (·.1)).Nodup → ∀ {n : Nat} {g : B × (Nat → B)}, G[n]? = some g → ∃ v, valV kvs (.inl (g.1.v : Int) : Key) = some v ∧ SecAt H v g.2
  | _, _, .nil, _, n, g, e => by simp at e
  | _, _, .cons (a := p) (b := g0) h t, nd, 0, g, e => by
    simp at e
    subst e
    exact ⟨p.2, valV_pos h.1, h.2⟩
  | _, _, .cons (a := p) (b := g0) (l₂ := G) h t, nd, n + 1, g, e => by
    have e' : G[n]? = some g := by simpa using e
    have nd' := List.nodup_cons.mp (show (g0.1 :: G.map (·.1)).Nodup from nd)
    obtain ⟨v, hv, hs⟩ := GvAt.val t nd'.2 e'
    refine ⟨v, ?_, hs⟩
    rw [valV_neg, hv]
    rw [h.1]
    intro z
    have z' : ((g0.1.v : Nat) : Int) = (g.1.v : Nat) := Sum.inl.inj z
    have : g0.1 = g.1 := B.ext' (by omega)
    exact nd'.1 (this ▸ List.mem_map_of_mem (List.mem_of_getElem? e'))
theorem GvAt.none {H : Hp} : ∀ {kvs : List (Key × V)} {G : Gv}, GvAt H kvs G → ∀ {b : B}, b ∉ G.map (·.1) → valV kvs (.inl (b.v : Int) : Key) = none
  | _, _, .nil, _, _ => rfl
  | _, _, .cons (a := p) (b := g0) (l₂ := G) h t, b, hb => by
    have hb' : ¬ b = g0.1 ∧ b ∉ G.map (·.1) := by simpa using hb
    rw [valV_neg, GvAt.none t hb'.2]
    rw [h.1]
    intro z
    have z' : ((g0.1.v : Nat) : Int) = (b.v : Nat) := Sum.inl.inj z
    exact hb'.1 (B.ext' (by omega))
def sp_sector_at : Sp := fun vs H Q _ => ∃ (x : B) (d : Addr) (kvs : List (Key × V)) (G : Gv), vs = [.int x.v, .ref d] ∧ H d = some (.dK kvs) ∧ GvAt H kvs G ∧ (G.map (·.1)).Nodup ∧ NewL H Q (bl (wordF G x))
theorem ok_sector_at (M : Mg mg) {f : Addr} {fd : FuncData} (F : Fun K "sector_at" "sector_at" s_sector_at f fd) (c_products : Cal P w K mg base 2 "products" ["a"] sp_products) (c_weight : Cal P w K mg base 4 "weight" ["x", "places", "i"] sp_weight) : FnOk P w K mg base CX0 5 f fd ["x", "given"] sp_sector_at := by
  refine F.ok sc_sector_at (fun vs H Q E h => ?_) (fun cdv A outer s H vs Q E hr h => ?_)
  · obtain ⟨x, d, kvs, G, rfl, _⟩ := h; rfl
  · obtain ⟨x, d, kvs, G, rfl, hd, hG, nd, q⟩ := h
    refine ⟨_, (pss_cons (ps_set (i := 2) sc_sector_at.nd rfl (Or.inl rfl) (pe_callTy (call_list_dK rfl) (by rfl) M.n_list (by decide +kernel) (pa_cons (pv 1) pa_nil))) (pss_cons (ps_set (i := 3) sc_sector_at.nd rfl (Or.inl rfl) (pe_op op_rep (pe_lst (pa_cons pe_int pa_nil)) (pe_globC (by rfl) M.c_SECTOR))) (pss_cons (ps_for PassesOwn.never rfl (pi_l (pv 2)) (pg_name (i := 4) sc_sector_at.nd rfl (Or.inl rfl)) (pss_cons (ps_set (i := 5) sc_sector_at.nd rfl (Or.inr rfl) (pe_cal c_products (hr.mono (by omega)) (by rfl) (pa_cons (pe_cal c_weight (hr.mono (by omega)) (by rfl) (pa_cons (pv 0) (pa_cons (pv 2) (pa_cons (pv 4) pa_nil)))) pa_nil))) (pss_one (ps_setLc (i := 3) (own := [("byte", 6), ("other", 7)]) (g := (gTup K 2 (gCons (gName 6) (gCons (gName 7) gNil)))) (tt := tYes) (by rfl) sc_sector_at.nd rfl rfl (sw_true rfl rfl rfl (by decide +kernel)) (pi_zip (by rfl) M.n_zip (pa_cons (pv 3) (pa_cons (pe_dget (hu_of hr) (pv 1) (pv 4) (fun _ _ => rfl)) pa_nil))) (blkOk_by (own := [("byte", 6), ("other", 7)]) (N := ["x", "given", "places", "total", "i", "row", "byte", "other"]) (sc := defScope s_sector_at) (by decide +kernel)) (fun _ _ _ _ _ => (pg_tup (by rfl) (pgs_cons (pg_name (i := 6) sc_sector_at.nd rfl (Or.inl rfl)) (pgs_cons (pg_name (i := 7) sc_sector_at.nd rfl (Or.inl rfl)) pgs_nil)))) (fun _ _ _ _ _ => pts_nil) (fun _ _ _ _ _ => (pe_op op_xor (pv 6) (pe_ix ix_l (pv 5) (pv 7) (fun _ _ => rfl)))))))) (pss_one (ps_ret (pv 3)))))), ?_⟩
    refine iBody (by repeat constructor) ?_
    walk_at "go"
    refine iListD hd fun p hp => ?_
    rw [hG.keys]
    walk_at "go"
    refine iNewL (by simp) fun z hz => ?_
    walk_at "go"
    refine iRep upd_same (by decide) (by decide) (by decide) fun r hr' => ?_
    have e0 : Ex H (upd H p (.lst (bsV (G.map (·.1))))) := ex_upd hp (Ex.rfl' _)
    have e1 : Ex H (upd (upd H p (.lst (bsV (G.map (·.1))))) z (.lst [.int 0])) := ex_upd (by cases q : H z with | none => rfl | some o => rw [e0 _ _ q] at hz; cases hz) e0
    have hp2 : (upd (upd (upd H p (.lst (bsV (G.map (·.1))))) z (.lst [.int 0])) r (.lst (List.replicate (32 : Int).toNat [V.int 0]).flatten)) p = some (.lst (bsV (G.map (·.1)))) := by walk_at "look"
    have r0 : H r = none := by cases q : H r with | none => rfl | some o => rw [e1 _ _ q] at hr'; cases hr'
    have e2 := ex_upd (o := .lst (List.replicate (32 : Int).toNat [V.int 0]).flatten) r0 e1
    have hr2 : (upd (upd (upd H p (.lst (bsV (G.map (·.1))))) z (.lst [.int 0])) r (.lst (List.replicate (32 : Int).toNat [V.int 0]).flatten)) r = some (.lst (bl fun _ => b0)) := upd_same
    generalize upd (upd (upd H p (.lst (bsV (G.map (·.1))))) z (.lst [.int 0])) r (.lst (List.replicate (32 : Int).toNat [V.int 0]).flatten) = H1 at e2 hp2 hr2 ⊢
    walk_at "go"
    refine forJ_list (bsV (G.map (·.1))) (fun n σ' H' => (∃ (r : Addr) (a : Nat → B) (u1 u2 : Option V), σ' = [some (.int x.v), some (.ref d), some (.ref p), some (.ref r), u1, u2, none, none] ∧ H r = none ∧ H' r = some (.lst (bl a)) ∧ ∀ t, a t + sumB (fun g : B × (Nat → B) => wB x (G.map (·.1)) g.1 * g.2 t) (G.drop n) = wordF G x t) ∧ Ex H H' ∧ H' p = some (.lst (bsV (G.map (·.1))))) ⟨⟨r, fun _ => b0, none, none, rfl, r0, hr2, fun t => B.zero_add _⟩, e2, hp2⟩ (fun n σ' H' _ h => h.2.2) (fun n v σ' H' hv h => ?_) (fun σ' H' h => ?_)
    · obtain ⟨⟨r, a, u1, u2, rfl, hrn, har, sm⟩, ex, hp'⟩ := h
      obtain ⟨b, hb, rfl⟩ := bsV_get hv
      obtain ⟨g, hg, rfl⟩ : ∃ g, G[n]? = some g ∧ g.1 = b := by
        rw [List.getElem?_map] at hb
        cases e : G[n]? with
        | none => rw [e] at hb; cases hb
        | some g => rw [e] at hb; exact ⟨g, rfl, Option.some.inj hb⟩
      obtain ⟨v, hval, hsec⟩ := hG.val nd hg
      obtain ⟨sv, rfl, hsv⟩ := hsec.ex ex
      walk_at "go"
      refine j_weight hp' ?_
      walk_at "go"
      refine j_products fun row H2 hrow ex2 hrow2 => ?_
      have har2 := ex2 _ _ har
      have hsv2 := ex2 _ _ hsv
      have hd2 := ex2 _ _ (ex _ _ hd)
      walk_at "go"
      refine iDGi hd2 hval ?_
      walk_at "go"
      refine lcF_z (bl a) (bl g.2) (fun t => V.int ((a t + wB x (G.map (·.1)) g.1 * g.2 t : B)).v) (by rw [bl_len, bl_len]) (by repeat constructor) har2 hsv2 (fun D t y1 y2 T H3 hD h1 h2 hacc e3 hT => ?_) (fun D H3 hD e3 hacc => ?_)
      · have ht : t < 32 := by
          have := (List.getElem?_eq_some_iff.mp h1).1
          rw [bl_len] at this
          exact this
        rw [bl_get _ ht] at h1 h2
        cases h1
        cases h2
        have hrow3 := e3 _ _ hrow2
        have nT : row ≠ T := ne_of_none hrow3 hT
        have nD : D ≠ T := ne_of_none hacc hT
        walk_at "go"
        refine iIxL ((upd_ne nT).trans hrow3) (rowV_at _ _) ?_
        walk_at "go"
        refine iLcF hD (by omega) (fun p o h => by rw [upd_ne (ne_of_none (e3 _ _ h) hT)]; exact e3 _ _ h) ((upd_ne nD).trans hacc) ?_
        rw [xor_B]
      · have D0 : H D = none := by cases q : H D with | none => rfl | some o => rw [ex2 _ _ (ex _ _ q)] at hD; cases hD
        rw [bl_len] at hacc
        walk_at "go"
        refine ⟨⟨D, _, _, _, rfl, D0, hacc, fun t => ?_⟩, fun p o h => e3 _ _ (ex2 _ _ (ex _ _ h)), e3 _ _ (ex2 _ _ hp')⟩
        rw [← sm t, drop_at hg]
        show _ = a t + (wB x (G.map (·.1)) g.1 * g.2 t + sumB _ (G.drop (n + 1)))
        rw [B.add_assoc]
    · obtain ⟨⟨r, a, u1, u2, rfl, hrn, har, sm⟩, ex, hp'⟩ := h
      have ln : (bsV (G.map (·.1))).length = G.length := by unfold bsV; rw [List.length_map, List.length_map]
      walk_at "go"
      refine q r H' hrn ex ?_
      rw [har]
      refine congrArg (fun l => some (HO.lst l)) (bl_congr fun t _ => ?_)
      have := sm t
      rw [ln, List.drop_length] at this
      exact (B.add_zero _).symm.trans this
theorem j_sector_at {x : B} {d : Addr} {kvs : List (Key × V)} {G : Gv} {H : Hp} {Q : VK} {E : XK} (h : H d = some (.dK kvs)) (hG : GvAt H kvs G) (nd : (G.map (·.1)).Nodup) (q : NewL H Q (bl (wordF G x))) : sp_sector_at [.int x.v, .ref d] H Q E := ⟨x, d, kvs, G, rfl, h, hG, nd, q⟩
/-! ### words -/
theorem sumG_pick {y : B} {t : Nat} {g : B × (Nat → B)} {G : Gv} (nd : (G.map (·.1)).Nodup) (hg : g ∈ G) : wordF G g.1 t = g.2 t := by
  have key : ∀ {M : Gv} {L : List B}, (M.map (·.1)).Nodup → (∀ b ∈ M, b.1 ∈ L) → g.1 ∈ L → (g ∈ M → sumB (fun h : B × (Nat → B) => wB g.1 L h.1 * h.2 t) M = g.2 t) ∧ (g.1 ∉ M.map (·.1) → sumB (fun h : B × (Nat → B) => wB g.1 L h.1 * h.2 t) M = b0) := by
    intro M L
    induction M with
    | nil => exact fun _ _ _ => ⟨fun h => absurd h (by simp), fun _ => rfl⟩
    | cons a M ih =>
      intro n1 hs hy
      have n2 := List.nodup_cons.mp (show (a.1 :: M.map (·.1)).Nodup from n1)
      obtain ⟨i1, i2⟩ := ih n2.2 (fun b hb => hs b (List.mem_cons_of_mem _ hb)) hy
      refine ⟨fun hm => ?_, fun hm => ?_⟩
      · show wB g.1 L a.1 * a.2 t + sumB _ M = g.2 t
        rcases List.mem_cons.mp hm with e | e
        · subst e
          rw [wB_self, B.one_mul, i2 n2.1, B.add_zero]
        · have ne : g.1 ≠ a.1 := fun q => n2.1 (q ▸ List.mem_map_of_mem e)
          rw [wB_other ne hy, B.zero_mul, B.zero_add, i1 e]
      · have hm' : ¬ g.1 = a.1 ∧ g.1 ∉ M.map (·.1) := by simpa using hm
        show wB g.1 L a.1 * a.2 t + sumB _ M = b0
        rw [wB_other hm'.1 hy, B.zero_mul, B.zero_add, i2 hm'.2]
  exact (key nd (fun b hb => List.mem_map_of_mem hb) (List.mem_map_of_mem hg)).1 hg
theorem sumG_map {t : Nat} {f : B → B} {x : B} (L : List B) : ∀ {G : Gv}, (∀ g ∈ G, g.2 t = f g.1) → sumB (fun g : B × (Nat → B) => wB x L g.1 * g.2 t) G = sumB (fun i => wB x L i * f i) (G.map (·.1))
  | [], _ => rfl
  | g :: G, h => by
    show wB x L g.1 * g.2 t + sumB _ G = wB x L g.1 * f g.1 + sumB _ (G.map (·.1))
    rw [h g (List.mem_cons_self ..), sumG_map L fun b hb => h b (List.mem_cons_of_mem _ hb)]
theorem wordF_pl {G : Gv} (nd : (G.map (·.1)).Nodup) (t : Nat) : Pl G.length (fun x => wordF G x t) := by
  refine sum_pl fun g hg => Pl.congr (fun x => B.mul_comm _ _) (Pl.smul (g.2 t) ?_)
  have := wB_pl nd (List.mem_map_of_mem (f := (·.1)) hg)
  rw [List.length_map] at this
  exact this
/-- other places of a word tell it, too -/
theorem wordF_other {G G' : Gv} (nd : (G.map (·.1)).Nodup) (nd' : (G'.map (·.1)).Nodup) (hl : G'.length = G.length) (h : ∀ g ∈ G', ∀ t, t < 32 → g.2 t = wordF G g.1 t) (x : B) {t : Nat} (ht : t < 32) : wordF G' x t = wordF G x t := by
  have e := sumG_map (x := x) (t := t) (f := fun y => wordF G y t) (G'.map (·.1)) (G := G') fun g hg => h g hg t ht
  show sumB (fun g : B × (Nat → B) => wB x (G'.map (·.1)) g.1 * g.2 t) G' = _
  rw [e]
  refine interp nd' ?_ x
  rw [List.length_map, hl]
  exact wordF_pl nd t
def WordR (G : Gv) (i : Nat) (acc : List V) (H : Hp) : Prop := acc.length = i ∧ ∀ t v, acc[t]? = some v → SecAt H v (wordF G (pl t))
theorem WordR.mono {G : Gv} (i : Nat) (acc : List V) (H H' : Hp) (e : Ex H H') (h : WordR G i acc H) : WordR G i acc H' := ⟨h.1, fun t v q => (h.2 t v q).ex e⟩
theorem WordR.snoc {G : Gv} {i : Nat} {acc : List V} {H : Hp} {v : V} (h : WordR G i acc H) (q : SecAt H v (wordF G (pl i))) : WordR G (i + 1) (acc ++ [v]) H := by
  refine ⟨by rw [List.length_append, h.1]; rfl, fun t u e => ?_⟩
  rcases Nat.lt_or_ge t acc.length with l | l
  · rw [List.getElem?_append_left l] at e
    exact h.2 t u e
  · rw [List.getElem?_append_right l] at e
    have ht : t - acc.length = 0 := by
      have := (List.getElem?_eq_some_iff.mp e).1
      simp at this
      omega
    rw [ht] at e
    have e1 : v = u := by simpa using e
    have e2 : t = i := by have := h.1; omega
    rw [← e1, e2]
    exact q
/-- a new word of n sectors -/
def NewW (H : Hp) (Q : VK) (G : Gv) (n : Nat) : Prop := ∀ p H' acc, H p = none → Ex H H' → H' p = some (.lst acc) → WordR G n acc H' → Q (.ref p) H'
def sp_word_through : Sp := fun vs H Q _ => ∃ (d : Addr) (kvs : List (Key × V)) (G : Gv) (n : Nat), vs = [.ref d, .int n] ∧ H d = some (.dK kvs) ∧ GvAt H kvs G ∧ (G.map (·.1)).Nodup ∧ n ≤ 100 ∧ NewW H Q G n
theorem ok_word_through (M : Mg mg) {f : Addr} {fd : FuncData} (F : Fun K "word_through" "word_through" s_word_through f fd) (c_sector_at : Cal P w K mg base 5 "sector_at" ["x", "given"] sp_sector_at) : FnOk P w K mg base CX0 6 f fd ["given", "n"] sp_word_through := by
  refine F.ok sc_word_through (fun vs H Q E h => ?_) (fun cdv A outer s H vs Q E hr h => ?_)
  · obtain ⟨d, kvs, G, n, rfl, _⟩ := h; rfl
  · obtain ⟨d, kvs, G, n, rfl, hd, hG, nd, hn, q⟩ := h
    refine ⟨_, (pss_one (ps_ret (pe_lc (own := [("x", 2)]) (g := (gName 2)) (tt := tYes) (by rfl) sc_word_through.nd (pi_range1 (by rfl) M.n_range (pa_cons (pv 1) pa_nil)) (blkOk_by (own := [("x", 2)]) (N := ["given", "n", "x"]) (sc := defScope s_word_through) (by decide +kernel)) (fun _ _ _ _ _ => (pg_name (i := 2) sc_word_through.nd rfl (Or.inl rfl))) (fun _ _ _ _ _ => pts_nil) (fun _ _ _ _ _ => (pe_ifExp (pt_cmp (pc_din (hu_of hr) (pv 2) (pv 0))) (pe_callTy list_l (by rfl) M.n_list (by decide +kernel) (pa_cons (pe_dget (hu_of hr) (pv 0) (pv 2) (fun _ _ => rfl)) pa_nil)) (pe_cal c_sector_at (hr.mono (by omega)) (by rfl) (pa_cons (pv 2) (pa_cons (pv 0) pa_nil)))))))), ?_⟩
    refine iBody (by repeat constructor) ?_
    walk_at "go"
    refine lcR_r0 (WordR G) (by repeat constructor) WordR.mono ⟨rfl, fun t v e => by simp at e⟩ (fun D i acc H2 hD hi hacc hl e1 r => ?_) (fun D acc H2 hD e1 hacc r => ?_)
    · rw [Int.toNat_natCast] at hi
      have hd2 := e1 _ _ hd
      have hi2 : (pl i).v = i := pl_v (by omega)
      walk_at "go"
      have hin : (valV kvs (.inl (i : Int) : Key)).isSome = true ∨ (valV kvs (.inl (i : Int) : Key)).isSome = false := by cases (valV kvs (.inl (i : Int) : Key)).isSome <;> simp
      by_cases hk : pl i ∈ G.map (·.1)
      · obtain ⟨g, hg, hgi⟩ := List.mem_map.mp hk
        obtain ⟨m, hm⟩ := List.getElem?_of_mem hg
        obtain ⟨v, hv, sv, rfl, hsv⟩ := hG.val nd hm
        have gv : ((g.1.v : Nat) : Int) = (i : Int) := by rw [hgi, hi2]
        rw [gv] at hv
        rw [hv]
        walk_at "go"
        refine iDGi hd2 hv ?_
        walk_at "go"
        refine iListL (e1 _ _ hsv) fun l hl2 => ?_
        have nD : D ≠ l := ne_of_none hacc hl2
        refine iLcR hD (by omega) hl (ex_upd (by cases z : H l with | none => rfl | some o => rw [e1 _ _ z] at hl2; cases hl2) e1) ((upd_ne nD).trans hacc) ?_
        refine (WordR.mono _ _ _ _ (mk_mono (Ex.new (o := .lst (bl g.2)) hl2)) r).snoc ⟨l, rfl, ?_⟩
        rw [mk_at nD.symm, upd_same, ← hgi]
        exact congrArg (fun l => some (HO.lst l)) (bl_congr fun t _ => (sumG_pick (y := g.1) nd hg).symm)
      · have hv := hG.none hk
        rw [hi2] at hv
        rw [hv]
        walk_at "go"
        have e3 : (i : Int) = ((pl i).v : Nat) := by rw [hi2]
        rw [e3]
        refine j_sector_at hd2 (hG.ex e1) nd fun p H3 hp e2 h3 => ?_
        have nD : p ≠ D := (ne_of_none hacc hp).symm
        refine iLcR hD (by omega) hl (fun a o h => e2 _ _ (e1 _ _ h)) (e2 _ _ hacc) ?_
        exact (WordR.mono _ _ _ _ (mk_mono e2) r).snoc ⟨p, rfl, (mk_at nD).trans h3⟩
    · rw [Int.toNat_natCast] at r
      exact q D H2 acc hD e1 hacc r
theorem j_word_through {d : Addr} {kvs : List (Key × V)} {G : Gv} {n : Nat} {H : Hp} {Q : VK} {E : XK} (h : H d = some (.dK kvs)) (hG : GvAt H kvs G) (nd : (G.map (·.1)).Nodup) (hn : n ≤ 100) (q : NewW H Q G n) : sp_word_through [.ref d, .int n] H Q E := ⟨d, kvs, G, n, rfl, h, hG, nd, hn, q⟩
/-- the first k places -/
def gv0 (k : Nat) (S : Nat → Nat → B) : Gv := (List.range k).map fun j => (pl j, S j)
theorem gv0_keys {k : Nat} {S : Nat → Nat → B} : (gv0 k S).map (·.1) = (List.range k).map pl := by unfold gv0; rw [List.map_map]; rfl
theorem gv0_nd {k : Nat} {S : Nat → Nat → B} (h : k ≤ 100) : ((gv0 k S).map (·.1)).Nodup := by
  rw [gv0_keys]
  refine List.pairwise_map.mpr (List.Pairwise.imp_of_mem (fun {a b} ha hb ne e => ?_) List.nodup_range)
  have ha := List.mem_range.mp ha
  have hb := List.mem_range.mp hb
  exact ne (pl_inj (by omega) (by omega) e)
def SecsAt (H : Hp) (vs : List V) (S : Nat → Nat → B) : Prop := ∀ t v, vs[t]? = some v → SecAt H v (S t)
theorem SecsAt.ex {H H' : Hp} {vs : List V} {S : Nat → Nat → B} (e : Ex H H') (h : SecsAt H vs S) : SecsAt H' vs S := fun t v q => (h t v q).ex e
theorem enum_gv {H : Hp} : ∀ {vs : List V} {S : Nat → Nat → B} (n : Nat), n + vs.length ≤ 256 → (∀ t v, vs[t]? = some v → SecAt H v (S (n + t))) → GvAt H (enumFrom n vs) ((List.range vs.length).map fun j => (pl (n + j), S (n + j)))
  | [], _, _, _, _ => .nil
  | x :: vs, S, n, hn, h => by
    rw [List.length_cons, List.range_succ_eq_map, List.map_cons, List.map_map]
    have hn' : n + (vs.length + 1) ≤ 256 := hn
    refine .cons ⟨?_, h 0 x rfl⟩ ?_
    · show (Sum.inl (n : Int) : Key) = .inl ((pl (n + 0)).v : Nat)
      rw [pl_v (by omega)]; rfl
    · have ih := enum_gv (S := S) (n + 1) (by omega) (vs := vs) (fun t v e => by
        have := h (t + 1) v (by simpa using e)
        rw [show n + 1 + t = n + (t + 1) by omega]
        exact this)
      have e : ((fun j => (pl (n + j), S (n + j))) ∘ Nat.succ) = fun j => (pl (n + 1 + j), S (n + 1 + j)) := by
        funext j
        show (pl (n + (j + 1)), S (n + (j + 1))) = _
        rw [show n + (j + 1) = n + 1 + j by omega]
      rw [e]
      exact ih
theorem valV_enum {m : Int} : ∀ (vs : List V) (n : Nat), m < n → valV (enumFrom n vs) (.inl m : Key) = none
  | [], _, _ => rfl
  | x :: vs, n, h => by
    show valV ((.inl (n : Int), x) :: enumFrom (n + 1) vs) _ = _
    rw [valV_neg, valV_enum vs (n + 1) (by omega)]
    intro e
    have := Sum.inl.inj e
    omega
theorem merge_enum : ∀ (vs : List V) (n : Nat) (acc : List (Key × V)), (∀ m : Nat, n ≤ m → valV acc (.inl (m : Int) : Key) = none) → mergeK acc (enumFrom n vs) = acc ++ enumFrom n vs
  | [], _, acc, _ => by show acc = acc ++ []; simp
  | x :: vs, n, acc, h => by
    show mergeK (putK acc (.inl (n : Int)) x) (enumFrom (n + 1) vs) = acc ++ ((.inl (n : Int), x) :: enumFrom (n + 1) vs)
    rw [putK_new x (h n (Nat.le_refl _)), merge_enum vs (n + 1)]
    · simp
    · intro m hm
      rw [valV_snoc _ _ _ acc (h n (Nat.le_refl _)), if_neg, h m (by omega)]
      intro e
      have := Sum.inl.inj e
      omega
end
end R
set_option Elab.async false
set_option linter.all false
set_option maxRecDepth 100000
set_option maxHeartbeats 4000000
namespace R
open PySem PySem.Spec L2
open Evl (Ex)
abbrev s__law_next : Stmt := topS 16
theorem sc__law_next : FnScope ["state", "limit", "cell", "value"] ["state", "limit"] (defScope s__law_next) := ⟨rfl, rfl, rfl, by decide +kernel, rfl, by decide +kernel, by decide +kernel⟩
abbrev s__law_same : Stmt := topS 17
theorem sc__law_same : FnScope ["actual", "expected", "k"] ["actual", "expected"] (defScope s__law_same) := ⟨rfl, rfl, rfl, by decide +kernel, rfl, by decide +kernel, by decide +kernel⟩
abbrev s__law_sector : Stmt := topS 23
theorem sc__law_sector : FnScope ["state", "start", "step", "k"] ["state"] (defScope s__law_sector) := ⟨rfl, rfl, rfl, by decide +kernel, rfl, by decide +kernel, by decide +kernel⟩
abbrev s__law_sizes : Stmt := topS 24
theorem sc__law_sizes : FnScope ["state", "n", "k"] ["state"] (defScope s__law_sizes) := ⟨rfl, rfl, rfl, by decide +kernel, rfl, by decide +kernel, by decide +kernel⟩
abbrev s__law_inverse : Stmt := topS 19
theorem sc__law_inverse : FnScope ["a", "b"] ["a"] (defScope s__law_inverse) := ⟨rfl, rfl, rfl, by decide +kernel, rfl, by decide +kernel, by decide +kernel⟩
abbrev s__law_weight : Stmt := topS 20
theorem sc__law_weight : FnScope ["x", "places", "i", "above", "below", "j"] ["x", "places", "i"] (defScope s__law_weight) := ⟨rfl, rfl, rfl, by decide +kernel, rfl, by decide +kernel, by decide +kernel⟩
abbrev s__law_sector_at : Stmt := topS 21
theorem sc__law_sector_at : FnScope ["x", "given", "sector", "places", "i", "factor", "k"] ["x", "given"] (defScope s__law_sector_at) := ⟨rfl, rfl, rfl, by decide +kernel, rfl, by decide +kernel, by decide +kernel⟩
abbrev s__law_word : Stmt := topS 22
theorem sc__law_word : FnScope ["parts", "n", "given", "k", "x"] ["parts", "n"] (defScope s__law_word) := ⟨rfl, rfl, rfl, by decide +kernel, rfl, by decide +kernel, by decide +kernel⟩
local macro_rules | `(tactic| walk_at "ne") => `(tactic| (apply Ne.symm; apply ne_fresh; (· assumption); (· walk_at "look")))
local macro_rules | `(tactic| walk_at "ne") => `(tactic| (apply ne_fresh; (· assumption); (· walk_at "look")))
local macro_rules | `(tactic| walk_at "ne") => `(tactic| (apply Ne.symm; assumption))
local macro_rules | `(tactic| walk_at "ne") => `(tactic| assumption)
local macro_rules | `(tactic| walk_at "look") => `(tactic| (refine exAt (by assumption) ?_; walk_at "look"))
local macro_rules | `(tactic| walk_at "look") => `(tactic| (refine (upd_ne ?_).trans ?_; (· walk_at "ne"); (· walk_at "look")))
local macro_rules | `(tactic| walk_at "look") => `(tactic| exact upd_same)
local macro_rules | `(tactic| walk_at "look") => `(tactic| assumption)
local macro_rules | `(tactic| walk_at "side") => `(tactic| (exact ⟨by decide, by decide, by decide⟩))
local macro_rules | `(tactic| walk_at "side") => `(tactic| (exact ⟨by omega, by omega⟩))
local macro_rules | `(tactic| walk_at "side") => `(tactic| (show (0:Int) ≤ _; omega))
local macro_rules | `(tactic| walk_at "side") => `(tactic| (show (0:Int) < _; omega))
local macro_rules | `(tactic| walk_at "side") => `(tactic| (exact Or.inr ⟨by omega, by omega⟩))
local macro_rules | `(tactic| walk_at "side") => `(tactic| (exact Or.inl ⟨by omega, by omega⟩))
local macro_rules | `(tactic| walk_at "step") => `(tactic| ((with_reducible apply iDcT); (· rfl)))
local macro_rules | `(tactic| walk_at "step") => `(tactic| ((with_reducible apply iParI); (· repeat constructor); (· repeat constructor)))
local macro_rules | `(tactic| walk_at "step") => `(tactic| ((with_reducible apply iItT); (· walk_at "look")))
local macro_rules | `(tactic| walk_at "step") => `(tactic| ((with_reducible apply iZL); (· walk_at "look"); (· walk_at "look")))
local macro_rules | `(tactic| walk_at "step") => `(tactic| ((with_reducible apply iItL); (· walk_at "look")))
local macro_rules | `(tactic| walk_at "step") => `(tactic| ((with_reducible apply iRng2I); (· omega); (· omega); (· omega); (· omega)))
local macro_rules | `(tactic| walk_at "step") => `(tactic| ((with_reducible apply iDNi); (· walk_at "look")))
local macro_rules | `(tactic| walk_at "step") => `(tactic| ((with_reducible apply iDIi); (· walk_at "look")))
local macro_rules | `(tactic| walk_at "step") => `(tactic| ((with_reducible apply iGTup); (· walk_at "look"); (· rfl)))
local macro_rules | `(tactic| walk_at "step") => `(tactic| ((with_reducible apply iLcB); (· rfl)))
local macro_rules | `(tactic| walk_at "step") => `(tactic| ((with_reducible apply ifNn); (· omega)))
local macro_rules | `(tactic| walk_at "step") => `(tactic| ((with_reducible apply ifNp); (· omega)))
local macro_rules | `(tactic| walk_at "step") => `(tactic| ((with_reducible apply ifF); (· apply decide_eq_false; omega)))
local macro_rules | `(tactic| walk_at "step") => `(tactic| ((with_reducible apply ifT); (· apply decide_eq_true; omega)))
local macro_rules | `(tactic| walk_at "step") => `(tactic| ((with_reducible apply ifF); (· rfl)))
local macro_rules | `(tactic| walk_at "step") => `(tactic| ((with_reducible apply ifT); (· rfl)))
local macro_rules | `(tactic| walk_at "step") => `(tactic| ((with_reducible apply iLenS); (· first | exact Or.inl (by walk_at "look") | exact Or.inr (by walk_at "look"))))
local macro_rules | `(tactic| walk_at "step") => `(tactic| ((with_reducible apply iLenT); (· walk_at "look")))
local macro_rules | `(tactic| walk_at "step") => `(tactic| ((with_reducible apply iIsi); (· first | exact tyN_int | exact tyN_bl | exact tyN_non | exact tyN_str | exact tyN_lst (by walk_at "look") | exact tyN_tup (by walk_at "look")); (· (first | exact kb_NoneType_bool | exact kb_NoneType_int | exact kb_NoneType_str | exact kb_NoneType_tuple | exact kb_NoneType_list | exact kb_bool_bool | exact kb_bool_int | exact kb_bool_str | exact kb_bool_tuple | exact kb_bool_list | exact kb_int_bool | exact kb_int_int | exact kb_int_str | exact kb_int_tuple | exact kb_int_list | exact kb_str_bool | exact kb_str_int | exact kb_str_str | exact kb_str_tuple | exact kb_str_list | exact kb_tuple_bool | exact kb_tuple_int | exact kb_tuple_str | exact kb_tuple_tuple | exact kb_tuple_list | exact kb_list_bool | exact kb_list_int | exact kb_list_str | exact kb_list_tuple | exact kb_list_list))))
local macro_rules | `(tactic| walk_at "step") => `(tactic| ((with_reducible apply iIxT); (· walk_at "look"); (· rfl)))
local macro_rules | `(tactic| walk_at "step") => `(tactic| ((with_reducible apply iSetL); (· walk_at "look"); (· rfl)))
local macro_rules | `(tactic| walk_at "step") => `(tactic| ((with_reducible apply iLenL); (· walk_at "look")))
local macro_rules | `(tactic| walk_at "step") => `(tactic| ((with_reducible apply iIxL); (· walk_at "look"); (· rfl)))
local macro_rules | `(tactic| walk_at "step") => `(tactic| ((with_reducible apply iI); rotate_left; (· (first | (exact Or.inl ⟨by omega, by omega⟩) | (exact Or.inr ⟨by omega, by omega⟩) | (show (0:Int) < _; omega) | (show (0:Int) ≤ _; omega) | (exact ⟨by omega, by omega⟩) | (exact ⟨by decide, by decide, by decide⟩)))))
local macro_rules | `(tactic| walk_at "step") => `(tactic| ((with_reducible apply iAugK); (· rfl)))
local macro_rules | `(tactic| walk_at "step") => `(tactic| ((with_reducible apply iRngI); (· first | decide | omega); (· first | decide | omega)))
local macro_rules | `(tactic| walk_at "step") => `(tactic| (with_reducible refine iWPut ?_))
local macro_rules | `(tactic| walk_at "step") => `(tactic| (with_reducible refine iWGet ?_))
local macro_rules | `(tactic| walk_at "step") => `(tactic| (with_reducible refine iWNot ?_))
local macro_rules | `(tactic| walk_at "step") => `(tactic| (with_reducible refine iCombK ?_))
local macro_rules | `(tactic| walk_at "step") => `(tactic| (with_reducible refine iDc ?_))
local macro_rules | `(tactic| walk_at "step") => `(tactic| (with_reducible refine iPar ?_))
local macro_rules | `(tactic| walk_at "step") => `(tactic| (with_reducible refine iItS ?_))
local macro_rules | `(tactic| walk_at "step") => `(tactic| (with_reducible refine iIterS ?_))
local macro_rules | `(tactic| walk_at "step") => `(tactic| (with_reducible refine iIterT ?_))
local macro_rules | `(tactic| walk_at "step") => `(tactic| (with_reducible refine iZA ?_))
local macro_rules | `(tactic| walk_at "step") => `(tactic| (with_reducible refine iRg3 ?_))
local macro_rules | `(tactic| walk_at "step") => `(tactic| (with_reducible refine iRv ?_))
local macro_rules | `(tactic| walk_at "step") => `(tactic| (with_reducible refine iNoPart ?_))
local macro_rules | `(tactic| walk_at "step") => `(tactic| (with_reducible refine iPartI ?_))
local macro_rules | `(tactic| walk_at "step") => `(tactic| (with_reducible refine iPart ?_))
local macro_rules | `(tactic| walk_at "step") => `(tactic| (with_reducible refine iSl ?_))
local macro_rules | `(tactic| walk_at "step") => `(tactic| (with_reducible refine iDEa ?_))
local macro_rules | `(tactic| walk_at "step") => `(tactic| (with_reducible refine iGNil ?_))
local macro_rules | `(tactic| walk_at "step") => `(tactic| (with_reducible refine iGCons ?_))
local macro_rules | `(tactic| walk_at "step") => `(tactic| (with_reducible refine iZipK ?_))
local macro_rules | `(tactic| walk_at "step") => `(tactic| (with_reducible refine iRng2 ?_))
local macro_rules | `(tactic| walk_at "step") => `(tactic| (with_reducible refine iDPut ?_))
local macro_rules | `(tactic| walk_at "step") => `(tactic| (with_reducible refine iDNotIn ?_))
local macro_rules | `(tactic| walk_at "step") => `(tactic| (with_reducible refine iDIn ?_))
local macro_rules | `(tactic| walk_at "step") => `(tactic| (with_reducible refine iDGet ?_))
local macro_rules | `(tactic| walk_at "step") => `(tactic| (with_reducible refine iYes ?_))
local macro_rules | `(tactic| walk_at "step") => `(tactic| (with_reducible refine iLc ?_))
local macro_rules | `(tactic| walk_at "step") => `(tactic| (with_reducible refine iNeS ?_))
local macro_rules | `(tactic| walk_at "step") => `(tactic| (with_reducible refine iEqS ?_))
local macro_rules | `(tactic| walk_at "step") => `(tactic| (with_reducible refine iNeB ?_))
local macro_rules | `(tactic| walk_at "step") => `(tactic| (with_reducible refine iEqB ?_))
local macro_rules | `(tactic| walk_at "step") => `(tactic| (with_reducible refine iCont ?_))
local macro_rules | `(tactic| walk_at "step") => `(tactic| (with_reducible refine iBreak ?_))
local macro_rules | `(tactic| walk_at "step") => `(tactic| (with_reducible refine iIterL ?_))
local macro_rules | `(tactic| walk_at "step") => `(tactic| (with_reducible refine iTup ?_))
local macro_rules | `(tactic| walk_at "step") => `(tactic| (with_reducible refine iLst ?_))
local macro_rules | `(tactic| walk_at "step") => `(tactic| (with_reducible refine iSub ?_))
local macro_rules | `(tactic| walk_at "step") => `(tactic| (with_reducible refine iIpI ?_))
local macro_rules | `(tactic| walk_at "step") => `(tactic| (with_reducible refine iAugS ?_))
local macro_rules | `(tactic| walk_at "step") => `(tactic| (with_reducible refine iNotV ?_))
local macro_rules | `(tactic| walk_at "step") => `(tactic| (with_reducible refine iOrV ?_))
local macro_rules | `(tactic| walk_at "step") => `(tactic| (with_reducible refine iAndV ?_))
local macro_rules | `(tactic| walk_at "step") => `(tactic| (with_reducible refine iDGet1 ?_))
local macro_rules | `(tactic| walk_at "step") => `(tactic| (with_reducible refine iNotBl ?_))
local macro_rules | `(tactic| walk_at "step") => `(tactic| (with_reducible refine iIsB ?_))
local macro_rules | `(tactic| walk_at "step") => `(tactic| (with_reducible refine iIntB ?_))
local macro_rules | `(tactic| walk_at "step") => `(tactic| (with_reducible refine iPn ?_))
local macro_rules | `(tactic| walk_at "step") => `(tactic| (with_reducible refine iPr ?_))
local macro_rules | `(tactic| walk_at "step") => `(tactic| (with_reducible refine iRai ?_))
local macro_rules | `(tactic| walk_at "step") => `(tactic| (with_reducible refine iRev1 ?_))
local macro_rules | `(tactic| walk_at "step") => `(tactic| (with_reducible refine iBM ?_))
local macro_rules | `(tactic| walk_at "step") => `(tactic| (with_reducible refine iAugF ?_))
local macro_rules | `(tactic| walk_at "step") => `(tactic| (with_reducible refine iSto ?_))
local macro_rules | `(tactic| walk_at "step") => `(tactic| (with_reducible refine iFld ?_))
local macro_rules | `(tactic| walk_at "step") => `(tactic| (with_reducible refine iMakS ?_))
local macro_rules | `(tactic| walk_at "step") => `(tactic| (with_reducible refine iMak ?_))
local macro_rules | `(tactic| walk_at "step") => `(tactic| (with_reducible refine iMet ?_))
local macro_rules | `(tactic| walk_at "step") => `(tactic| (with_reducible refine iCalE ?_))
local macro_rules | `(tactic| walk_at "step") => `(tactic| (with_reducible refine ifDr ?_))
local macro_rules | `(tactic| walk_at "step") => `(tactic| (with_reducible refine ifNDr ?_))
local macro_rules | `(tactic| walk_at "step") => `(tactic| (with_reducible refine iTruI ?_))
local macro_rules | `(tactic| walk_at "step") => `(tactic| (with_reducible refine iNotN ?_))
local macro_rules | `(tactic| walk_at "step") => `(tactic| (with_reducible refine iIsN ?_))
local macro_rules | `(tactic| walk_at "step") => `(tactic| (with_reducible refine iRetN ?_))
local macro_rules | `(tactic| walk_at "step") => `(tactic| (with_reducible refine iU ?_))
local macro_rules | `(tactic| walk_at "step") => `(tactic| (with_reducible refine iUn ?_))
local macro_rules | `(tactic| walk_at "step") => `(tactic| (with_reducible refine iChain ?_))
local macro_rules | `(tactic| walk_at "step") => `(tactic| (with_reducible refine iIf ?_))
local macro_rules | `(tactic| walk_at "step") => `(tactic| (with_reducible refine iB ?_))
local macro_rules | `(tactic| walk_at "step") => `(tactic| (with_reducible refine iNot ?_))
local macro_rules | `(tactic| walk_at "step") => `(tactic| (with_reducible refine iOr ?_))
local macro_rules | `(tactic| walk_at "step") => `(tactic| (with_reducible refine iAnd ?_))
local macro_rules | `(tactic| walk_at "step") => `(tactic| (with_reducible refine iCal ?_))
local macro_rules | `(tactic| walk_at "step") => `(tactic| (with_reducible refine iRng ?_))
local macro_rules | `(tactic| walk_at "step") => `(tactic| (with_reducible refine iFor ?_))
local macro_rules | `(tactic| walk_at "step") => `(tactic| (with_reducible refine iInt ?_))
local macro_rules | `(tactic| walk_at "step") => `(tactic| (with_reducible refine iNeI ?_))
local macro_rules | `(tactic| walk_at "step") => `(tactic| (with_reducible refine iEqI ?_))
local macro_rules | `(tactic| walk_at "step") => `(tactic| (with_reducible refine iDrop ?_))
local macro_rules | `(tactic| walk_at "step") => `(tactic| (with_reducible refine iNext ?_))
local macro_rules | `(tactic| walk_at "step") => `(tactic| (with_reducible refine iRet ?_))
local macro_rules | `(tactic| walk_at "step") => `(tactic| (with_reducible refine iBl ?_))
local macro_rules | `(tactic| walk_at "step") => `(tactic| (with_reducible refine iTest ?_))
local macro_rules | `(tactic| walk_at "step") => `(tactic| (with_reducible refine iIfS ?_))
local macro_rules | `(tactic| walk_at "step") => `(tactic| (with_reducible refine iCB ?_))
local macro_rules | `(tactic| walk_at "step") => `(tactic| (with_reducible refine iNil ?_))
local macro_rules | `(tactic| walk_at "step") => `(tactic| (with_reducible refine iCons ?_))
local macro_rules | `(tactic| walk_at "step") => `(tactic| (with_reducible refine iI0 ?_))
local macro_rules | `(tactic| walk_at "step") => `(tactic| (with_reducible refine iOp ?_))
local macro_rules | `(tactic| walk_at "step") => `(tactic| (with_reducible refine iC ?_))
local macro_rules | `(tactic| walk_at "step") => `(tactic| ((with_reducible apply iVar); (· rfl)))
local macro_rules | `(tactic| walk_at "step") => `(tactic| ((with_reducible apply iName); (· repeat constructor)))
local macro_rules | `(tactic| walk_at "step") => `(tactic| (with_reducible refine iAsg ?_))
local macro_rules | `(tactic| walk_at "step") => `(tactic| (with_reducible refine iSeq ?_))
local macro_rules | `(tactic| walk_at "go") => `(tactic| (repeat walk_at "step"))
section
variable {P : Program} {w : World} {K : PySem.W.Frag} {mg : Str → Option Value} {base : Heap}
/-! ### the draws -/
def DrawAt (H : Hp) (a l : Addr) : Prop := ∃ (ns : List Int) (i r q : Int), H a = some (.lst [.ref l, .int i, .int r, .int q]) ∧ H l = some (.lst (ns.map V.int)) ∧ a ≠ l ∧ ns.length ≤ 63 ∧ 0 ≤ i ∧ i ≤ ns.length ∧ 0 ≤ r ∧ 0 ≤ q ∧ q < 2147483647
theorem DrawAt.to {H : Hp} {a l : Addr} {ns : List Int} {i r q : Int} (h2 : H l = some (.lst (ns.map V.int))) (ne : a ≠ l) (hl : ns.length ≤ 63) (i0 : 0 ≤ i) (i1 : i ≤ ns.length) (r0 : 0 ≤ r) (q0 : 0 ≤ q) (q1 : q < 2147483647) :
    DrawAt (upd H a (.lst [.ref l, .int i, .int r, .int q])) a l := ⟨ns, i, r, q, upd_same, (upd_ne ne.symm).trans h2, ne, hl, i0, i1, r0, q0, q1⟩
theorem DrawAt.ne {H : Hp} {a l : Addr} (D : DrawAt H a l) : a ≠ l := by
  obtain ⟨ns, i, r, q, ha, hl, ne, _⟩ := D
  exact ne
theorem DrawAt.upd {H : Hp} {a l p : Addr} {o : HO} (D : DrawAt H a l) (h1 : p ≠ a) (h2 : p ≠ l) : DrawAt (L2.upd H p o) a l := by
  obtain ⟨ns, i, r, q, ha, hl, k⟩ := D
  exact ⟨ns, i, r, q, (upd_ne h1.symm).trans ha, (upd_ne h2.symm).trans hl, k⟩
theorem DrawAt.fresh {H : Hp} {a l p : Addr} (D : DrawAt H a l) (h : H p = none) : p ≠ a ∧ p ≠ l := by
  obtain ⟨ns, i, r, q, ha, hl, k⟩ := D
  exact ⟨(ne_of_none ha h).symm, (ne_of_none hl h).symm⟩
theorem DrawAt.new {H : Hp} {a l p : Addr} {o : HO} (D : DrawAt H a l) (h : H p = none) : DrawAt (L2.upd H p o) a l := D.upd (D.fresh h).1 (D.fresh h).2
def sp__law_next : Sp := fun vs H Q _ => ∃ (a l : Addr) (lim : Int), vs = [.ref a, .int lim] ∧ DrawAt H a l ∧ 0 < lim ∧ lim < 1073741824 ∧ ∀ (v : Int) (st : HO), 0 ≤ v → v < lim → DrawAt (upd H a st) a l → Q (.int v) (upd H a st)
theorem ok__law_next (M : Mg mg) {f : Addr} {fd : FuncData} (F : Fun K "_law_next" "_law_next" s__law_next f fd) : FnOk P w K mg base CX0 1 f fd ["state", "limit"] sp__law_next := by
  refine F.ok sc__law_next (fun vs H Q E h => ?_) (fun cdv A outer s H vs Q E hr h => ?_)
  · obtain ⟨a, l, lim, rfl, _⟩ := h; rfl
  · obtain ⟨a, l, lim, rfl, D, l0, l1, q⟩ := h
    refine ⟨_, (Evl.pss_cut (ps_if (PW.pt (pw_and (pt_cmpR op_eq (pe_ix ix_l (pv 0) pe_int (fun _ _ => rfl)) pe_int (nomark _)) (pw_and1 (pt_cmpR op_lt (pe_ix ix_l (pv 0) pe_int (fun _ _ => rfl)) (pe_callB len_l (by rfl) M.n_len PySem.boot_len (pa_cons (pe_ix ix_l (pv 0) pe_int (fun _ _ => rfl)) pa_nil)) (nomark _))))) (pss_cons (ps_set (i := 2) sc__law_next.nd rfl (Or.inl rfl) (pe_ix ix_l (pe_ix ix_l (pv 0) pe_int (fun _ _ => rfl)) (pe_ix ix_l (pv 0) pe_int (fun _ _ => rfl)) (fun _ _ => rfl))) (pss_cons (ps_augS (pv 0) pe_int get_l pe_int ip_add set_list) (pss_one (ps_if (pt_cmpR op_ge (pv 2) (pe_op op_pow pe_int pe_int) (nomark _)) (pss_one (ps_asg (pv 2) (pg_sub (pv 0) pe_int set_list))) (pss_one (ps_asg (pe_op op_mod (pe_callTy int_i (by rfl) M.n_int (by decide +kernel) (pa_cons (pe_op op_add (pe_op op_add (pe_op op_mul (pe_ix ix_l (pv 0) pe_int (fun _ _ => rfl)) pe_int) (pe_op op_mod (pe_callTy int_i (by rfl) M.n_int (by decide +kernel) (pa_cons (pv 2) pa_nil)) pe_int)) pe_int) pa_nil)) pe_int) (pg_sub (pv 0) pe_int set_list))))))) pss_nil) (pss_cons (ps_if (pt_cmpR op_gt (pe_ix ix_l (pv 0) pe_int (fun _ _ => rfl)) pe_int (nomark _)) (pss_cons (ps_set (i := 3) sc__law_next.nd rfl (Or.inl rfl) (pe_op op_mod (pe_callTy int_i (by rfl) M.n_int (by decide +kernel) (pa_cons (pe_ix ix_l (pv 0) pe_int (fun _ _ => rfl)) pa_nil)) (pv 1))) (pss_cons (ps_asg (pe_op op_fdiv (pe_ix ix_l (pv 0) pe_int (fun _ _ => rfl)) (pv 1)) (pg_sub (pv 0) pe_int set_list)) (pss_one (ps_ret (pv 3))))) pss_nil) (pss_cons (ps_asg (pe_op op_mod (pe_callTy int_i (by rfl) M.n_int (by decide +kernel) (pa_cons (pe_op op_add (pe_op op_mul (pe_ix ix_l (pv 0) pe_int (fun _ _ => rfl)) pe_int) pe_int) pa_nil)) pe_int) (pg_sub (pv 0) pe_int set_list)) (pss_one (ps_ret (pe_op op_mod (pe_callTy int_i (by rfl) M.n_int (by decide +kernel) (pa_cons (pe_op op_fdiv (pe_ix ix_l (pv 0) pe_int (fun _ _ => rfl)) pe_int) pa_nil)) (pv 1))))))), ?_⟩
    refine iBody (by repeat constructor) ?_
    refine iCut (fun σ H1 => ∃ cell st, σ = [some (.ref a), some (.int lim), cell, none] ∧ H1 = upd H a st ∧ DrawAt (upd H a st) a l) ?_ ?_
    · obtain ⟨ns, i, r, q, ha, hl, ne, hn, i0, i1, r0, q0, q1⟩ := D
      walk_at "go"
      refine ifD (fun h1 => ?_) (fun h1 => ?_)
      · walk_at "go"
        refine ifD (fun h2 => ?_) (fun h2 => ?_)
        · rw [List.length_map] at h2
          walk_at "go"
          obtain ⟨x, hx⟩ := atI_map i0 h2
          refine iIxL hl hx ?_
          walk_at "go"
          refine ifD (fun h3 => ?_) (fun h3 => ?_)
          · have t18 : (10 : Int) ^ Int.toNat 18 = 1000000000000000000 := by decide
            rw [t18] at h3
            walk_at "go"
            rw [upd_upd]
            exact ⟨_, _, rfl, rfl, .to hl ne hn (by omega) (by omega) (by omega) q0 q1⟩
          · walk_at "go"
            rw [upd_upd]
            exact ⟨_, _, rfl, rfl, .to hl ne hn (by omega) (by omega) (by omega) (by omega) (by omega)⟩
        · walk_at "go"
          exact ⟨_, _, rfl, (upd_id ha).symm, (upd_id ha).symm ▸ ⟨ns, i, r, q, ha, hl, ne, hn, i0, i1, r0, q0, q1⟩⟩
      · walk_at "go"
        exact ⟨_, _, rfl, (upd_id ha).symm, (upd_id ha).symm ▸ ⟨ns, i, r, q, ha, hl, ne, hn, i0, i1, r0, q0, q1⟩⟩
    · rintro σ H1 ⟨cell, st, rfl, rfl, ns, i, r, q2, ha, hl, ne, hn, i0, i1, r0, q0, q1⟩
      walk_at "go"
      refine ifD (fun h1 => ?_) (fun h1 => ?_)
      · walk_at "go"
        rw [upd_upd]
        refine q _ _ (Int.emod_nonneg _ (by omega)) (Int.emod_lt_of_pos _ l0) ?_
        refine .to ((upd_ne ne.symm).symm.trans hl) ne hn i0 i1 (Int.ediv_nonneg (by omega) (by omega)) q0 q1
      · walk_at "go"
        rw [upd_upd]
        refine q _ _ (Int.emod_nonneg _ (by omega)) (Int.emod_lt_of_pos _ l0) ?_
        refine .to ((upd_ne ne.symm).symm.trans hl) ne hn i0 i1 (by omega) (by omega) (by omega)
theorem j_next {H : Hp} {a l : Addr} {lim : Int} {Q : VK} {E : XK} (D : DrawAt H a l) (h0 : 0 < lim) (h1 : lim < 1073741824) (q : ∀ v H', 0 ≤ v → v < lim → DrawAt H' a l → (∀ p, p ≠ a → H' p = H p) → Q (.int v) H') :
    sp__law_next [.ref a, .int lim] H Q E := ⟨a, l, lim, rfl, D, h0, h1, fun v st v0 v1 D' => q v _ v0 v1 D' fun _ hp => upd_ne hp⟩
/-! ### what is the same -/
inductive Dt where
  | non | bl (b : Bool) | int (i : Int) | str (x : Str) | lst (ds : List Dt) | tup (ds : List Dt)
def AtN : Nat → Hp → V → Dt → Prop
  | _, _, v, .non => v = .non
  | _, _, v, .bl b => v = .bl b
  | _, _, v, .int i => v = .int i
  | _, _, v, .str x => v = .str x
  | n + 1, H, v, .lst ds => ∃ (p : Addr) (xs : List V), v = .ref p ∧ H p = some (.lst xs) ∧ xs.length = ds.length ∧ xs.length ≤ 100000 ∧ ∀ (i : Nat) (x : V) (d : Dt), xs[i]? = some x → ds[i]? = some d → AtN n H x d
  | n + 1, H, v, .tup ds => ∃ (p : Addr) (xs : List V), v = .ref p ∧ H p = some (.tup xs) ∧ xs.length = ds.length ∧ xs.length ≤ 100000 ∧ ∀ (i : Nat) (x : V) (d : Dt), xs[i]? = some x → ds[i]? = some d → AtN n H x d
  | 0, _, _, .lst _ => False
  | 0, _, _, .tup _ => False
theorem AtN.non_eq {n : Nat} {H : Hp} {v : V} : AtN n H v .non = (v = .non) := by cases n <;> rfl
theorem AtN.bl_eq {n : Nat} {H : Hp} {v : V} {b : Bool} : AtN n H v (.bl b) = (v = .bl b) := by cases n <;> rfl
theorem AtN.int_eq {n : Nat} {H : Hp} {v : V} {b : Int} : AtN n H v (.int b) = (v = .int b) := by cases n <;> rfl
theorem AtN.str_eq {n : Nat} {H : Hp} {v : V} {b : Str} : AtN n H v (.str b) = (v = .str b) := by cases n <;> rfl
def sp__law_same : Nat → Sp
  | 0 => fun _ _ _ _ => False
  | n + 1 => fun vs H Q _ => ∃ (x y : V) (d : Dt), vs = [x, y] ∧ AtN n H x d ∧ AtN n H y d ∧ Q (.bl true) H
theorem ok__law_same (M : Mg mg) {f : Addr} {fd : FuncData} (F : Fun K "_law_same" "_law_same" s__law_same f fd) (g : mg "_law_same" = some (.ref f)) (bi : Binds K fd ["actual", "expected"] []) :
    ∀ n, FnOk P w K mg base CX0 n f fd ["actual", "expected"] (sp__law_same n)
  | 0 => ⟨fun _ _ _ _ h => h.elim, fun _ _ _ _ _ _ _ _ _ _ _ _ _ h => h.elim⟩
  | n + 1 => by
    have c__law_same : Cal P w K mg base n "_law_same" ["actual", "expected"] (sp__law_same n) := ⟨f, fd, ok__law_same M F g bi n, g, F.kp, bi⟩
    refine F.ok sc__law_same (fun vs H Q E h => ?_) (fun cdv A outer s H vs Q E hr h => ?_)
    · obtain ⟨x, y, d, rfl, _⟩ := h; rfl
    · obtain ⟨x, y, d, rfl, hx, hy, q⟩ := h
      refine ⟨_, (pss_cons (ps_if (pt_cmpR op_isN1 (pv 1) pe_non (nomark _)) (pss_one (ps_ret (pe_cmpR op_isN1 (pv 0) pe_non (nomark _)))) pss_nil) (pss_cons (ps_if (pt_val (pe_callB isi_b (by rfl) M.n_isinstance (by decide +kernel) (pa_cons (pv 1) (pa_cons (pe_ty (n := "bool") (by rfl) M.n_bool (by decide +kernel)) pa_nil)))) (pss_one (ps_ret (pe_and (pe_callB isi_b (by rfl) M.n_isinstance (by decide +kernel) (pa_cons (pv 0) (pa_cons (pe_ty (n := "bool") (by rfl) M.n_bool (by decide +kernel)) pa_nil))) (pe_one (pe_cmpR op_eq (pv 0) (pv 1) (nomark _)))))) pss_nil) (pss_cons (ps_if (pt_val (pe_callB isi_b (by rfl) M.n_isinstance (by decide +kernel) (pa_cons (pv 1) (pa_cons (pe_ty (n := "int") (by rfl) M.n_int (by decide +kernel)) pa_nil)))) (pss_one (ps_ret (pe_and (pe_callB isi_b (by rfl) M.n_isinstance (by decide +kernel) (pa_cons (pv 0) (pa_cons (pe_ty (n := "int") (by rfl) M.n_int (by decide +kernel)) pa_nil))) (pe_and (pe_not (pe_callB isi_b (by rfl) M.n_isinstance (by decide +kernel) (pa_cons (pv 0) (pa_cons (pe_ty (n := "bool") (by rfl) M.n_bool (by decide +kernel)) pa_nil)))) (pe_one (pe_cmpR op_eq (pv 0) (pv 1) (nomark _))))))) pss_nil) (pss_cons (ps_if (pt_val (pe_callB isi_b (by rfl) M.n_isinstance (by decide +kernel) (pa_cons (pv 1) (pa_cons (pe_ty (n := "str") (by rfl) M.n_str (by decide +kernel)) pa_nil)))) (pss_one (ps_ret (pe_and (pe_callB isi_b (by rfl) M.n_isinstance (by decide +kernel) (pa_cons (pv 0) (pa_cons (pe_ty (n := "str") (by rfl) M.n_str (by decide +kernel)) pa_nil))) (pe_one (pe_cmpR op_eq (pv 0) (pv 1) (nomark _)))))) pss_nil) (pss_cons (ps_if (PW.pt (pw_and (pt_val (pe_callB isi_b (by rfl) M.n_isinstance (by decide +kernel) (pa_cons (pv 1) (pa_cons (pe_ty (n := "tuple") (by rfl) M.n_tuple (by decide +kernel)) pa_nil)))) (pw_and1 (pt_not (pt_val (pe_callB isi_b (by rfl) M.n_isinstance (by decide +kernel) (pa_cons (pv 0) (pa_cons (pe_ty (n := "tuple") (by rfl) M.n_tuple (by decide +kernel)) pa_nil)))))))) (pss_one (ps_ret pe_bl)) pss_nil) (pss_cons (ps_if (PW.pt (pw_and (pt_val (pe_callB isi_b (by rfl) M.n_isinstance (by decide +kernel) (pa_cons (pv 1) (pa_cons (pe_ty (n := "list") (by rfl) M.n_list (by decide +kernel)) pa_nil)))) (pw_and1 (pt_not (pt_val (pe_callB isi_b (by rfl) M.n_isinstance (by decide +kernel) (pa_cons (pv 0) (pa_cons (pe_ty (n := "list") (by rfl) M.n_list (by decide +kernel)) pa_nil)))))))) (pss_one (ps_ret pe_bl)) pss_nil) (pss_cons (ps_if (pt_cmpR op_ne (pe_callB len_s (by rfl) M.n_len PySem.boot_len (pa_cons (pv 0) pa_nil)) (pe_callB len_s (by rfl) M.n_len PySem.boot_len (pa_cons (pv 1) pa_nil)) (nomark _)) (pss_one (ps_ret pe_bl)) pss_nil) (pss_cons (ps_for PassesOwn.never rfl (pi_range1 (by rfl) M.n_range (pa_cons (pe_callB len_s (by rfl) M.n_len PySem.boot_len (pa_cons (pv 1) pa_nil)) pa_nil)) (pg_name (i := 2) sc__law_same.nd rfl (Or.inl rfl)) (pss_one (ps_if (pt_not (pt_val (pe_cal c__law_same (hr.mono (by omega)) (by rfl) (pa_cons (pe_ix ix_s (pv 0) (pv 2) (fun _ _ => rfl)) (pa_cons (pe_ix ix_s (pv 1) (pv 2) (fun _ _ => rfl)) pa_nil))))) (pss_one (ps_ret pe_bl)) pss_nil))) (pss_one (ps_ret pe_bl)))))))))), ?_⟩
      refine iBody (by repeat constructor) ?_
      cases d with
      | non =>
        rw [AtN.non_eq] at hx hy
        subst hx; subst hy
        walk_at "go"
        exact q
      | bl k =>
        rw [AtN.bl_eq] at hx hy
        subst hx; subst hy
        walk_at "go"
        rw [decide_eq_true rfl]
        exact q
      | int k =>
        rw [AtN.int_eq] at hx hy
        subst hx; subst hy
        walk_at "go"
        rw [decide_eq_true rfl]
        exact q
      | str k =>
        rw [AtN.str_eq] at hx hy
        subst hx; subst hy
        walk_at "go"
        rw [decide_eq_true rfl]
        exact q
      | lst ds =>
        cases n with
        | zero => exact hx.elim
        | succ n =>
          obtain ⟨p, xs, rfl, hp, el, sl, ex⟩ := hx
          obtain ⟨p', ys, rfl, hp', el', sl', ey⟩ := hy
          walk_at "go"
          refine forJ_range0 (fun _ σ' H' => (∃ k, σ' = [some (.ref p), some (.ref p'), k]) ∧ H' = H) ⟨⟨_, rfl⟩, rfl⟩ (fun i σ' H' hi hp => ?_) (fun σ' H' hp => ?_)
          · obtain ⟨⟨k, rfl⟩, rfl⟩ := hp
            rw [Int.toNat_natCast] at hi
            walk_at "go"
            refine iIxS (.inl (by assumption)) (atI_natL xs i ▸ List.getElem?_eq_getElem (by omega)) ?_
            walk_at "go"
            refine iIxS (.inl (by assumption)) (atI_natL ys i ▸ List.getElem?_eq_getElem (by omega)) ?_
            walk_at "go"
            refine ⟨_, _, ds[i]'(by omega), rfl, ex i _ _ (List.getElem?_eq_getElem _) (List.getElem?_eq_getElem _), ey i _ _ (List.getElem?_eq_getElem _) (List.getElem?_eq_getElem _), ?_⟩
            walk_at "go"
            exact ⟨⟨_, rfl⟩, rfl⟩
          · obtain ⟨⟨k, rfl⟩, rfl⟩ := hp
            walk_at "go"
            exact q
      | tup ds =>
        cases n with
        | zero => exact hx.elim
        | succ n =>
          obtain ⟨p, xs, rfl, hp, el, sl, ex⟩ := hx
          obtain ⟨p', ys, rfl, hp', el', sl', ey⟩ := hy
          walk_at "go"
          refine forJ_range0 (fun _ σ' H' => (∃ k, σ' = [some (.ref p), some (.ref p'), k]) ∧ H' = H) ⟨⟨_, rfl⟩, rfl⟩ (fun i σ' H' hi hp => ?_) (fun σ' H' hp => ?_)
          · obtain ⟨⟨k, rfl⟩, rfl⟩ := hp
            rw [Int.toNat_natCast] at hi
            walk_at "go"
            refine iIxS (.inr (by assumption)) (atI_natL xs i ▸ List.getElem?_eq_getElem (by omega)) ?_
            walk_at "go"
            refine iIxS (.inr (by assumption)) (atI_natL ys i ▸ List.getElem?_eq_getElem (by omega)) ?_
            walk_at "go"
            refine ⟨_, _, ds[i]'(by omega), rfl, ex i _ _ (List.getElem?_eq_getElem _) (List.getElem?_eq_getElem _), ey i _ _ (List.getElem?_eq_getElem _) (List.getElem?_eq_getElem _), ?_⟩
            walk_at "go"
            exact ⟨⟨_, rfl⟩, rfl⟩
          · obtain ⟨⟨k, rfl⟩, rfl⟩ := hp
            walk_at "go"
            exact q
/-! ### drawing: sizes, sectors -/
theorem exb_mk {a : Addr} {H H' : Hp} (e : ExB a H H') : Ex (mk a H) (mk a H') := fun p o h => by
  by_cases q : p = a
  · unfold mk at h; rw [if_pos q] at h; cases h
  · rw [mk_at q] at h ⊢; exact e p o q h
theorem DrawAt.ex {H H' : Hp} {a l : Addr} (e : Ex H H') (D : DrawAt H a l) : DrawAt H' a l := by
  obtain ⟨ns, i, r, q, ha, hl, k⟩ := D
  exact ⟨ns, i, r, q, e _ _ ha, e _ _ hl, k⟩
theorem exb_fr {a : Addr} {H H' : Hp} (f : ∀ p, p ≠ a → H' p = H p) : ExB a H H' := fun p o n h => by rw [f p n]; exact h
theorem ExB.upd {a p : Addr} {H H' : Hp} {o : HO} (e : ExB a H H') (h : H p = none) : ExB a H (L2.upd H' p o) := fun q u n hq => by
  rw [upd_ne (ne_of_none hq h)]
  exact e q u n hq
theorem ExB.none {a p : Addr} {H H' : Hp} (e : ExB a H H') (n : p ≠ a) (h : H' p = none) : H p = none := by
  cases z : H p with
  | none => rfl
  | some o => rw [e p o n z] at h; cases h
theorem app2 {α : Type} {a b c d : List α} (h : a = b) (k : c = d) : a ++ c = b ++ d := by rw [h, k]
def sp__law_sector : Sp := fun vs H Q _ => ∃ (a l : Addr), vs = [.ref a] ∧ DrawAt H a l ∧ ∀ p H' f, H p = none → ExB a H H' → DrawAt H' a l → H' p = some (.lst (bl f)) → Q (.ref p) H'
theorem ok__law_sector (M : Mg mg) {f : Addr} {fd : FuncData} (F : Fun K "_law_sector" "_law_sector" s__law_sector f fd) (c__law_next : Cal P w K mg base 1 "_law_next" ["state", "limit"] sp__law_next) : FnOk P w K mg base CX0 2 f fd ["state"] sp__law_sector := by
  refine F.ok sc__law_sector (fun vs H Q E h => ?_) (fun cdv A outer s H vs Q E hr h => ?_)
  · obtain ⟨a, l, rfl, _⟩ := h; rfl
  · obtain ⟨a, l, rfl, D0, q⟩ := h
    refine ⟨_, (pss_cons (ps_set (i := 1) sc__law_sector.nd rfl (Or.inr rfl) (pe_cal c__law_next (hr.mono (by omega)) (by rfl) (pa_cons (pv 0) (pa_cons pe_int pa_nil)))) (pss_cons (ps_set (i := 2) sc__law_sector.nd rfl (Or.inr rfl) (pe_cal c__law_next (hr.mono (by omega)) (by rfl) (pa_cons (pv 0) (pa_cons pe_int pa_nil)))) (pss_one (ps_ret (pe_lc (own := [("k", 3)]) (g := (gName 3)) (tt := tYes) (by rfl) sc__law_sector.nd (pi_range1 (by rfl) M.n_range (pa_cons pe_int pa_nil)) (blkOk_by (own := [("k", 3)]) (N := ["state", "start", "step", "k"]) (sc := defScope s__law_sector) (by decide +kernel)) (fun _ _ _ _ _ => (pg_name (i := 3) sc__law_sector.nd rfl (Or.inl rfl))) (fun _ _ _ _ _ => pts_nil) (fun _ _ _ _ _ => (pe_op op_mod (pe_op op_add (pe_op op_add (pv 1) (pe_op op_mul (pv 2) (pv 3))) (pe_ix ix_l (pe_lst (pa_cons pe_int (pa_cons (pe_op op_mul (pe_op op_mul (pv 3) (pv 3)) pe_int) pa_nil))) (pe_op op_fdiv (pe_cal c__law_next (hr.mono (by omega)) (by rfl) (pa_cons (pv 0) (pa_cons pe_int pa_nil))) pe_int) (fun _ _ => rfl))) pe_int))))))), ?_⟩
    refine iBody (by repeat constructor) ?_
    walk_at "go"
    refine j_next D0 (by decide) (by decide) fun start H1 s0 s1 D1 f1 => ?_
    walk_at "go"
    refine j_next D1 (by decide) (by decide) fun step H2 t0 t1 D2 f2 => ?_
    have x2 : ExB a H H2 := (exb_fr f1).trans (exb_fr f2)
    walk_at "go"
    refine lc_r0 (by repeat constructor) (fun D i acc H' => DrawAt H' a l ∧ ExB a H H' ∧ D ≠ a ∧ D ≠ l ∧ H D = none ∧ ∃ f : Nat → B, acc = (List.range i).map fun t => V.int (f t).v) (fun D hD => ?_) (fun D i acc H3 hD hi hacc hl hp => ?_) (fun D acc H3 hD hacc hl hp => ?_)
    · have fr := D2.fresh hD
      have h0 := x2.none fr.1 hD
      exact ⟨D2.new hD, x2.upd h0, fr.1, fr.2, h0, fun _ => b0, rfl⟩
    · obtain ⟨D3, x3, n1, n2, h0, f, rfl⟩ := hp
      have hi : i < 32 := hi
      walk_at "go"
      refine iNewL (by simp) fun z hz => ?_
      have D4 := D3.new (o := .lst [.int 0, .int ((i : Int) * i * 7)]) hz
      have zf := D3.fresh hz
      have nz : D ≠ z := ne_of_none hacc hz
      walk_at "go"
      refine j_next D4 (by decide) (by decide) fun v H5 v0 v1 D5 f5 => ?_
      have hz5 : H5 z = some (.lst [.int 0, .int ((i : Int) * i * 7)]) := (f5 z zf.1).trans upd_same
      have hacc5 : H5 D = some (.lst ((List.range i).map fun t => V.int (f t).v)) := (f5 D n1).trans ((upd_ne nz).trans hacc)
      walk_at "go"
      obtain ⟨y, hy⟩ : ∃ y : Int, atI [V.int 0, .int ((i : Int) * i * 7)] (v / 3) = some (.int y) := by
        have : v / 3 = 0 ∨ v / 3 = 1 := by omega
        rcases this with e | e <;> rw [e]
        · exact ⟨0, rfl⟩
        · exact ⟨_, rfl⟩
      refine iIxL hz5 hy ?_
      walk_at "go"
      have hm0 := Int.emod_nonneg (start + step * (i : Int) + y) (show (256 : Int) ≠ 0 by decide)
      have hm1 := Int.emod_lt_of_pos (start + step * (i : Int) + y) (show (0 : Int) < 256 by decide)
      generalize (start + step * (i : Int) + y) % 256 = m at hm0 hm1 ⊢
      have z0 : H z = none := x3.none zf.1 hz
      refine iLcE hacc5 hl (by omega) ⟨D5.upd n1 n2, ?_, n1, n2, h0, fun t => if t = i then pl m.toNat else f t, ?_⟩
      · exact ((x3.upd z0).trans (exb_fr f5)).upd h0
      · rw [List.range_succ, List.map_append]
        refine app2 (List.map_congr_left fun t ht => ?_) ?_
        · have := List.mem_range.mp ht
          show _ = V.int (if t = i then pl m.toNat else f t).v
          rw [if_neg (by omega)]
        · show [V.int m] = [V.int (if i = i then pl m.toNat else f i).v]
          rw [if_pos rfl, pl_v (by omega), show ((m.toNat : Nat) : Int) = m by omega]
    · obtain ⟨D3, x3, n1, n2, h0, f, rfl⟩ := hp
      exact q D H3 f h0 x3 D3 hacc
theorem j_lsector {a l : Addr} {H : Hp} {Q : VK} {E : XK} (D : DrawAt H a l) (q : ∀ p H' f, H p = none → ExB a H H' → DrawAt H' a l → H' p = some (.lst (bl f)) → Q (.ref p) H') : sp__law_sector [.ref a] H Q E := ⟨a, l, rfl, D, q⟩
def sp__law_sizes : Sp := fun vs H Q _ => ∃ (a l : Addr), vs = [.ref a] ∧ DrawAt H a l ∧ ∀ p H' (n k s : Nat), H p = none → ExB a H H' → DrawAt H' a l → 4 ≤ n → n ≤ 8 → 1 ≤ k → 1 ≤ s → k + s ≤ n → H' p = some (.tup [.int n, .int k, .int s]) → Q (.ref p) H'
theorem ok__law_sizes (M : Mg mg) {f : Addr} {fd : FuncData} (F : Fun K "_law_sizes" "_law_sizes" s__law_sizes f fd) (c__law_next : Cal P w K mg base 1 "_law_next" ["state", "limit"] sp__law_next) : FnOk P w K mg base CX0 2 f fd ["state"] sp__law_sizes := by
  refine F.ok sc__law_sizes (fun vs H Q E h => ?_) (fun cdv A outer s H vs Q E hr h => ?_)
  · obtain ⟨a, l, rfl, _⟩ := h; rfl
  · obtain ⟨a, l, rfl, D0, q⟩ := h
    refine ⟨_, (pss_cons (ps_set (i := 1) sc__law_sizes.nd rfl (Or.inl rfl) (pe_op op_add pe_int (pe_cal c__law_next (hr.mono (by omega)) (by rfl) (pa_cons (pv 0) (pa_cons pe_int pa_nil))))) (pss_cons (ps_set (i := 2) sc__law_sizes.nd rfl (Or.inl rfl) (pe_op op_add pe_int (pe_cal c__law_next (hr.mono (by omega)) (by rfl) (pa_cons (pv 0) (pa_cons (pe_op op_sub (pv 1) pe_int) pa_nil))))) (pss_one (ps_ret (pe_tup (pa_cons (pv 1) (pa_cons (pv 2) (pa_cons (pe_op op_add pe_int (pe_cal c__law_next (hr.mono (by omega)) (by rfl) (pa_cons (pv 0) (pa_cons (pe_op op_sub (pv 1) (pv 2)) pa_nil)))) pa_nil)))))))), ?_⟩
    refine iBody (by repeat constructor) ?_
    walk_at "go"
    refine j_next D0 (by decide) (by decide) fun n H1 s0 s1 D1 f1 => ?_
    walk_at "go"
    refine j_next D1 (by omega) (by omega) fun k H2 k0 k1 D2 f2 => ?_
    walk_at "go"
    refine j_next D2 (by omega) (by omega) fun s H3 u0 u1 D3 f3 => ?_
    walk_at "go"
    refine iNewT (by simp) fun p hp => ?_
    have x3 : ExB a H H3 := ((exb_fr f1).trans (exb_fr f2)).trans (exb_fr f3)
    have fr := D3.fresh hp
    have h0 := x3.none fr.1 hp
    have := q p (upd H3 p (.tup [.int (4 + n), .int (1 + k), .int (1 + s)])) (4 + n).toNat (1 + k).toNat (1 + s).toNat h0 (x3.upd h0) (D3.new hp) (by omega) (by omega) (by omega) (by omega) (by omega) (by
      rw [upd_same, show (((4 + n).toNat : Nat) : Int) = 4 + n by omega, show (((1 + k).toNat : Nat) : Int) = 1 + k by omega, show (((1 + s).toNat : Nat) : Int) = 1 + s by omega])
    exact this
theorem j_lsizes {a l : Addr} {H : Hp} {Q : VK} {E : XK} (D : DrawAt H a l) (q : ∀ p H' (n k s : Nat), H p = none → ExB a H H' → DrawAt H' a l → 4 ≤ n → n ≤ 8 → 1 ≤ k → 1 ≤ s → k + s ≤ n → H' p = some (.tup [.int n, .int k, .int s]) → Q (.ref p) H') : sp__law_sizes [.ref a] H Q E := ⟨a, l, rfl, D, q⟩
/-! ### the law's own inverse, weight, sector, word -/
theorem j_timesB {x y : B} {H : Hp} {Q : VK} {E : XK} (q : Q (.int (x * y).v) H) : sp__law_times [.int x.v, .int y.v] H Q E := ⟨x.v, y.v, rfl, x.h, q⟩
theorem j_times {a b : Nat} {H : Hp} {Q : VK} {E : XK} (ha : a < 256) (q : Q (.int (gm a b : Nat)) H) : sp__law_times [.int a, .int b] H Q E := ⟨a, b, rfl, ha, q⟩
def hits (a : B) (n : Nat) : List Nat := (List.range n).filter fun b => decide (gm a.v b = 1)
theorem hits_0 {a : B} (h : a ≠ b0) : (hits a 256)[0]? = some a.inv.v := by
  have m : a.inv.v ∈ hits a 256 := List.mem_filter.mpr ⟨List.mem_range.mpr a.inv.h, decide_eq_true (congrArg B.v (B.mul_inv h))⟩
  cases e : hits a 256 with
  | nil => rw [e] at m; cases m
  | cons b L =>
    have hb : b ∈ hits a 256 := by rw [e]; exact List.mem_cons_self ..
    obtain ⟨h1, h2⟩ := List.mem_filter.mp hb
    have hb2 := List.mem_range.mp h1
    have h3 : a * ⟨b, hb2⟩ = b1 := B.ext' (of_decide_eq_true h2)
    have h4 := congrArg B.v (B.mul_eq_one h3)
    show some b = some a.inv.v
    rw [← h4]
def sp__law_inverse : Sp := fun vs H Q _ => ∃ a : B, vs = [.int a.v] ∧ a ≠ b0 ∧ ∀ H', Ex H H' → Q (.int a.inv.v) H'
theorem ok__law_inverse (M : Mg mg) {f : Addr} {fd : FuncData} (F : Fun K "_law_inverse" "_law_inverse" s__law_inverse f fd) (c__law_times : Cal P w K mg base 1 "_law_times" ["a", "b"] sp__law_times) : FnOk P w K mg base CX0 2 f fd ["a"] sp__law_inverse := by
  refine F.ok sc__law_inverse (fun vs H Q E h => ?_) (fun cdv A outer s H vs Q E hr h => ?_)
  · obtain ⟨a, rfl, _⟩ := h; rfl
  · obtain ⟨a, rfl, ha, q⟩ := h
    refine ⟨_, (pss_one (ps_ret (pe_ix ix_l (pe_lc (own := [("b", 1)]) (g := (gName 1)) (tt := _) (by rfl) sc__law_inverse.nd (pi_range1 (by rfl) M.n_range (pa_cons pe_int pa_nil)) (blkOk_by (own := [("b", 1)]) (N := ["a", "b"]) (sc := defScope s__law_inverse) (by decide +kernel)) (fun _ _ _ _ _ => (pg_name (i := 1) sc__law_inverse.nd rfl (Or.inl rfl))) (fun _ _ _ _ _ => (pts_one (pt_cmpR op_eq (pe_cal c__law_times (hr.mono (by omega)) (by rfl) (pa_cons (pv 0) (pa_cons (pv 1) pa_nil))) pe_int (nomark _)))) (fun _ _ _ _ _ => (pv 1))) pe_int (fun _ _ => rfl)))), ?_⟩
    refine iBody (by repeat constructor) ?_
    walk_at "go"
    refine lc_r0 (by repeat constructor) (fun D i acc H' => Ex H H' ∧ acc = (hits a i).map fun b : Nat => V.int b) (fun D hD => ⟨ex_upd hD (Ex.rfl' _), rfl⟩) (fun D i acc H2 hD hi hacc hl hp => ?_) (fun D acc H2 hD hacc hl hp => ?_)
    · obtain ⟨e1, rfl⟩ := hp
      have hs : hits a (i + 1) = hits a i ++ (if gm a.v i = 1 then [i] else []) := by
        unfold hits
        rw [List.range_succ, List.filter_append, List.filter_cons, List.filter_nil]
        by_cases h : gm a.v i = 1
        · rw [if_pos (decide_eq_true h), if_pos h]
        · rw [if_neg (by simpa using h), if_neg h]
      walk_at "go"
      refine j_times a.h ?_
      walk_at "go"
      refine ifD (fun h => ?_) (fun h => ?_)
      · have h' : gm a.v i = 1 := by omega
        walk_at "go"
        refine iLcE hacc hl (by omega) ⟨ex_upd hD e1, ?_⟩
        rw [hs, if_pos h', List.map_append]; rfl
      · have h' : ¬ gm a.v i = 1 := by omega
        refine iLcN hacc hl ⟨e1, ?_⟩
        rw [hs, if_neg h', List.append_nil]
    · obtain ⟨e1, rfl⟩ := hp
      walk_at "go"
      refine iIxL hacc (v := .int a.inv.v) ?_ ?_
      · rw [atI_0, List.getElem?_map]
        show ((hits a 256)[0]?).map _ = _
        rw [hits_0 ha]; rfl
      exact q H2 e1
theorem j_linverse {x : B} {H : Hp} {Q : VK} {E : XK} (h : x ≠ b0) (q : ∀ H', Ex H H' → Q (.int x.inv.v) H') : sp__law_inverse [.int x.v] H Q E := ⟨x, rfl, h, q⟩
def sp__law_weight : Sp := fun vs H Q _ => ∃ (x i : B) (p : Addr) (L : List B), vs = [.int x.v, .ref p, .int i.v] ∧ H p = some (.lst (bsV L)) ∧ ∀ H', Ex H H' → Q (.int (wB x L i).v) H'
theorem ok__law_weight (M : Mg mg) {f : Addr} {fd : FuncData} (F : Fun K "_law_weight" "_law_weight" s__law_weight f fd) (c__law_times : Cal P w K mg base 1 "_law_times" ["a", "b"] sp__law_times) (c__law_inverse : Cal P w K mg base 2 "_law_inverse" ["a"] sp__law_inverse) : FnOk P w K mg base CX0 3 f fd ["x", "places", "i"] sp__law_weight := by
  refine F.ok sc__law_weight (fun vs H Q E h => ?_) (fun cdv A outer s H vs Q E hr h => ?_)
  · obtain ⟨x, i, p, L, rfl, _⟩ := h; rfl
  · obtain ⟨x, i, p, L, rfl, hp, q⟩ := h
    refine ⟨_, (pss_cons (ps_set (i := 3) sc__law_weight.nd rfl (Or.inl rfl) pe_int) (pss_cons (ps_set (i := 4) sc__law_weight.nd rfl (Or.inl rfl) pe_int) (pss_cons (ps_for PassesOwn.never rfl (pi_l (pv 1)) (pg_name (i := 5) sc__law_weight.nd rfl (Or.inl rfl)) (pss_one (ps_if (pt_cmpR op_ne (pv 5) (pv 2) (nomark _)) (pss_cons (ps_set (i := 3) sc__law_weight.nd rfl (Or.inl rfl) (pe_cal c__law_times (hr.mono (by omega)) (by rfl) (pa_cons (pv 3) (pa_cons (pe_op op_xor (pv 0) (pv 5)) pa_nil)))) (pss_one (ps_set (i := 4) sc__law_weight.nd rfl (Or.inl rfl) (pe_cal c__law_times (hr.mono (by omega)) (by rfl) (pa_cons (pv 4) (pa_cons (pe_op op_xor (pv 2) (pv 5)) pa_nil)))))) pss_nil))) (pss_one (ps_ret (pe_cal c__law_times (hr.mono (by omega)) (by rfl) (pa_cons (pv 3) (pa_cons (pe_cal c__law_inverse (hr.mono (by omega)) (by rfl) (pa_cons (pv 4) pa_nil)) pa_nil)))))))), ?_⟩
    refine iBody (by repeat constructor) ?_
    walk_at "go"
    refine forJ_list (bsV L) (fun n σ' H' => (∃ (a c : B) (u : Option V), σ' = [some (.int x.v), some (.ref p), some (.int i.v), some (.int a.v), some (.int c.v), u] ∧ above x i (L.drop n) a = above x i L b1 ∧ above i i (L.drop n) c = above i i L b1) ∧ H' = H) ⟨⟨b1, b1, none, rfl, rfl, rfl⟩, rfl⟩ (fun n σ' H' _ h => h.2 ▸ hp) (fun n v σ' H' hv h => ?_) (fun σ' H' h => ?_)
    · obtain ⟨⟨a, c, u, rfl, e1, e2⟩, rfl⟩ := h
      obtain ⟨j, hj, rfl⟩ := bsV_get hv
      rw [drop_at hj] at e1 e2
      walk_at "go"
      refine ifND (fun h => ?_) (fun h => ?_)
      · have hji : j ≠ i := fun e => h (by rw [e])
        walk_at "go"
        rw [xor_B]
        refine j_timesB ?_
        walk_at "go"
        rw [xor_B]
        refine j_timesB ?_
        walk_at "go"
        refine ⟨⟨_, _, _, rfl, ?_, ?_⟩, rfl⟩
        · rw [← e1]; show _ = above x i (L.drop (n + 1)) (if j ≠ i then a * (x + j) else a); rw [if_pos hji]
        · rw [← e2]; show _ = above i i (L.drop (n + 1)) (if j ≠ i then c * (i + j) else c); rw [if_pos hji]
      · have hji : j = i := B.ext' (by omega)
        walk_at "go"
        refine ⟨⟨_, _, _, rfl, ?_, ?_⟩, rfl⟩
        · rw [← e1]; show _ = above x i (L.drop (n + 1)) (if j ≠ i then a * (x + j) else a); rw [if_neg (by simpa using hji)]
        · rw [← e2]; show _ = above i i (L.drop (n + 1)) (if j ≠ i then c * (i + j) else c); rw [if_neg (by simpa using hji)]
    · obtain ⟨⟨a, c, u, rfl, e1, e2⟩, rfl⟩ := h
      have ln : (bsV L).length = L.length := List.length_map ..
      rw [ln, List.drop_length] at e1 e2
      have e1 : a = above x i L b1 := e1
      have e2 : c = above i i L b1 := e2
      have c0 : c ≠ b0 := by rw [e2]; exact above_ne L _ B.one_ne
      walk_at "go"
      refine j_linverse c0 fun H2 ex => ?_
      walk_at "go"
      refine j_timesB ?_
      rw [e1, e2]
      exact q H2 ex
theorem j_lweight {x i : B} {p : Addr} {L : List B} {H : Hp} {Q : VK} {E : XK} (h : H p = some (.lst (bsV L))) (q : ∀ H', Ex H H' → Q (.int (wB x L i).v) H') : sp__law_weight [.int x.v, .ref p, .int i.v] H Q E := ⟨x, i, p, L, rfl, h, q⟩
theorem sorted_same {L : List B} {ns : List Int} (h1 : ns.Perm (L.map fun b => (b.v : Int))) (h2 : ns.Pairwise (· ≤ ·)) (h3 : (L.map fun b => (b.v : Int)).Pairwise (· ≤ ·)) : ns.map V.int = bsV L := by
  have e := List.Perm.eq_of_pairwise (le := fun a b : Int => decide (a ≤ b)) (l₁ := ns) (l₂ := L.map fun b => (b.v : Int)) (fun a b _ _ x y => by have x := of_decide_eq_true x; have y := of_decide_eq_true y; omega) (h2.imp fun h => decide_eq_true h) (h3.imp fun h => decide_eq_true h) h1
  rw [e]
  unfold bsV
  rw [List.map_map]
  rfl
def sp__law_sector_at : Sp := fun vs H Q _ => ∃ (x : B) (d : Addr) (kvs : List (Key × V)) (G : Gv), vs = [.int x.v, .ref d] ∧ H d = some (.dK kvs) ∧ GvAt H kvs G ∧ (G.map (·.1)).Nodup ∧ ((G.map (·.1)).map fun b => (b.v : Int)).Pairwise (· ≤ ·) ∧ G.length ≤ 60 ∧ NewL H Q (bl (wordF G x))
theorem ok__law_sector_at (M : Mg mg) {f : Addr} {fd : FuncData} (F : Fun K "_law_sector_at" "_law_sector_at" s__law_sector_at f fd) (c__law_times : Cal P w K mg base 1 "_law_times" ["a", "b"] sp__law_times) (c__law_weight : Cal P w K mg base 3 "_law_weight" ["x", "places", "i"] sp__law_weight) : FnOk P w K mg base CX0 4 f fd ["x", "given"] sp__law_sector_at := by
  refine F.ok sc__law_sector_at (fun vs H Q E h => ?_) (fun cdv A outer s H vs Q E hr h => ?_)
  · obtain ⟨x, d, kvs, G, rfl, _⟩ := h; rfl
  · obtain ⟨x, d, kvs, G, rfl, hd, hG, nd, srt, hl, q⟩ := h
    refine ⟨_, (pss_cons (ps_set (i := 2) sc__law_sector_at.nd rfl (Or.inl rfl) (pe_op op_rep (pe_lst (pa_cons pe_int pa_nil)) pe_int)) (pss_cons (ps_set (i := 3) sc__law_sector_at.nd rfl (Or.inl rfl) (pe_callB cr_sorted (by rfl) M.n_sorted (by decide +kernel) (pa_cons (pe_callTy (call_list_dK rfl) (by rfl) M.n_list (by decide +kernel) (pa_cons (pv 1) pa_nil)) pa_nil))) (pss_cons (ps_for PassesOwn.never rfl (pi_l (pv 3)) (pg_name (i := 4) sc__law_sector_at.nd rfl (Or.inl rfl)) (pss_cons (ps_set (i := 5) sc__law_sector_at.nd rfl (Or.inl rfl) (pe_cal c__law_weight (hr.mono (by omega)) (by rfl) (pa_cons (pv 0) (pa_cons (pv 3) (pa_cons (pv 4) pa_nil))))) (pss_one (ps_for PassesOwn.never rfl (pi_range1 (by rfl) M.n_range (pa_cons pe_int pa_nil)) (pg_name (i := 6) sc__law_sector_at.nd rfl (Or.inl rfl)) (pss_one (ps_asg (pe_op op_xor (pe_ix ix_l (pv 2) (pv 6) (fun _ _ => rfl)) (pe_cal c__law_times (hr.mono (by omega)) (by rfl) (pa_cons (pe_ix ix_l (pe_dget (hu_of hr) (pv 1) (pv 4) (fun _ _ => rfl)) (pv 6) (fun _ _ => rfl)) (pa_cons (pv 5) pa_nil)))) (pg_sub (pv 2) (pv 6) set_list))))))) (pss_one (ps_ret (pv 2)))))), ?_⟩
    refine iBody (by repeat constructor) ?_
    walk_at "go"
    refine iNewL (by simp) fun z hz => ?_
    walk_at "go"
    refine iRep upd_same (by decide) (by decide) (by decide) fun r hr' => ?_
    have e0 : Ex H (upd H z (.lst [V.int 0])) := Ex.new hz
    have r0 : H r = none := by cases q : H r with | none => rfl | some o => rw [e0 _ _ q] at hr'; cases hr'
    have e1 : Ex H (upd (upd H z (.lst [V.int 0])) r (.lst (List.replicate (32 : Int).toNat [V.int 0]).flatten)) := ex_upd r0 e0
    have hr1 : (upd (upd H z (.lst [V.int 0])) r (.lst (List.replicate (32 : Int).toNat [V.int 0]).flatten)) r = some (.lst (bl fun _ => b0)) := upd_same
    generalize upd (upd H z (.lst [V.int 0])) r (.lst (List.replicate (32 : Int).toNat [V.int 0]).flatten) = H1 at e1 hr1 ⊢
    walk_at "go"
    refine iListD (e1 _ _ hd) fun p1 hp1 => ?_
    rw [hG.keys]
    have ek : bsV (G.map (·.1)) = ((G.map (·.1)).map fun b => (b.v : Int)).map V.int := by simp only [bsV, List.map_map]; rfl
    walk_at "go"
    refine iSorted (ns := (G.map (·.1)).map fun b => (b.v : Int)) (by rw [ek]; exact upd_same) (by rw [List.length_map, List.length_map]; omega) fun ns p pm ps hp => ?_
    rw [sorted_same pm ps srt]
    have e2 : Ex H1 (upd H1 p1 (.lst (bsV (G.map (·.1))))) := Ex.new hp1
    have p0 : H1 p = none := by cases q : H1 p with | none => rfl | some o => rw [e2 _ _ q] at hp; cases hp
    have e3 : Ex H1 (upd (upd H1 p1 (.lst (bsV (G.map (·.1))))) p (.lst (bsV (G.map (·.1))))) := ex_upd p0 e2
    have hp3 : (upd (upd H1 p1 (.lst (bsV (G.map (·.1))))) p (.lst (bsV (G.map (·.1))))) p = some (.lst (bsV (G.map (·.1)))) := upd_same
    have hrp : r ≠ p := ne_of_none hr1 p0
    have hr3 := e3 _ _ hr1
    have e4 : Ex H (upd (upd H1 p1 (.lst (bsV (G.map (·.1))))) p (.lst (bsV (G.map (·.1))))) := fun a o h => e3 _ _ (e1 _ _ h)
    generalize upd (upd H1 p1 (.lst (bsV (G.map (·.1))))) p (.lst (bsV (G.map (·.1)))) = H2 at e4 hp3 hr3 ⊢
    walk_at "go"
    refine forJ_list (bsV (G.map (·.1))) (fun n σ' H' => (∃ (a : Nat → B) (u1 u2 u3 : Option V), σ' = [some (.int x.v), some (.ref d), some (.ref r), some (.ref p), u1, u2, u3] ∧ H' r = some (.lst (bl a)) ∧ ∀ t, a t + sumB (fun g : B × (Nat → B) => wB x (G.map (·.1)) g.1 * g.2 t) (G.drop n) = wordF G x t) ∧ Ex H H' ∧ H' p = some (.lst (bsV (G.map (·.1))))) ⟨⟨fun _ => b0, none, none, none, rfl, hr3, fun t => B.zero_add _⟩, e4, hp3⟩ (fun n σ' H' _ h => h.2.2) (fun n v σ' H' hv h => ?_) (fun σ' H' h => ?_)
    · obtain ⟨⟨a, u1, u2, u3, rfl, har, sm⟩, ex, hp'⟩ := h
      obtain ⟨b, hb, rfl⟩ := bsV_get hv
      obtain ⟨g, hg, rfl⟩ : ∃ g, G[n]? = some g ∧ g.1 = b := by
        rw [List.getElem?_map] at hb
        cases e : G[n]? with
        | none => rw [e] at hb; cases hb
        | some g => rw [e] at hb; exact ⟨g, rfl, Option.some.inj hb⟩
      obtain ⟨v, hval, sv, rfl, hsv⟩ := hG.val nd hg
      walk_at "go"
      refine j_lweight hp' fun H3 ex3 => ?_
      have har3 := ex3 _ _ har
      walk_at "go"
      refine forJ_range0 (fun k σ'' H'' => (∃ u3, σ'' = [some (.int x.v), some (.ref d), some (.ref r), some (.ref p), some (.int g.1.v), some (.int (wB x (G.map (·.1)) g.1).v), u3]) ∧ H'' r = some (.lst (bl fun t => if t < k then a t + wB x (G.map (·.1)) g.1 * g.2 t else a t)) ∧ Ex H H'' ∧ H'' p = some (.lst (bsV (G.map (·.1))))) ⟨⟨_, rfl⟩, by simpa using har3, fun a o h => ex3 _ _ (ex _ _ h), ex3 _ _ hp'⟩ (fun k σ'' H'' hk h => ?_) (fun σ'' H'' h => ?_)
      · obtain ⟨⟨u3, rfl⟩, ha2, ex4, hp4⟩ := h
        have hk : k < 32 := hk
        walk_at "go"
        refine iIxL ha2 ((atI_natL _ _).trans (bl_get _ hk)) ?_
        walk_at "go"
        refine iDGi (ex4 _ _ hd) hval ?_
        walk_at "go"
        refine iIxL (ex4 _ _ hsv) ((atI_natL _ _).trans (bl_get _ hk)) ?_
        walk_at "go"
        refine j_timesB ?_
        walk_at "go"
        rw [if_neg (Nat.lt_irrefl k), xor_B]
        refine iSetL ha2 (k := k) (by rw [ixN_natL, bl_len, if_pos hk]) ?_
        refine ⟨⟨_, rfl⟩, ?_, ex_upd r0 ex4, (upd_ne hrp.symm).trans hp4⟩
        rw [upd_same]
        refine congrArg (fun l => some (HO.lst l)) ?_
        refine List.ext_getElem? fun t => ?_
        rw [List.getElem?_set]
        by_cases ht : t < 32
        · rw [bl_get _ ht]
          by_cases e : k = t
          · subst e
            rw [if_pos rfl, if_pos (by rw [bl_len]; exact hk), bl_get _ ht, if_pos (by omega), B.mul_comm]
          · rw [if_neg e, bl_get _ ht]
            by_cases l : t < k
            · rw [if_pos l, if_pos (by omega)]
            · rw [if_neg l, if_neg (by omega)]
        · rw [if_neg (by omega), List.getElem?_eq_none (by rw [bl_len]; omega), List.getElem?_eq_none (by rw [bl_len]; omega)]
      · obtain ⟨⟨u3, rfl⟩, ha2, ex4, hp4⟩ := h
        walk_at "go"
        refine ⟨⟨fun t => a t + wB x (G.map (·.1)) g.1 * g.2 t, _, _, _, rfl, ?_, fun t => ?_⟩, ex4, hp4⟩
        · rw [ha2]
          exact congrArg (fun l => some (HO.lst l)) (bl_congr fun t ht => if_pos ht)
        · rw [← sm t, drop_at hg]
          show _ = a t + (wB x (G.map (·.1)) g.1 * g.2 t + sumB _ (G.drop (n + 1)))
          rw [B.add_assoc]
    · obtain ⟨⟨a, u1, u2, u3, rfl, har, sm⟩, ex, hp'⟩ := h
      have ln : (bsV (G.map (·.1))).length = G.length := by unfold bsV; rw [List.length_map, List.length_map]
      walk_at "go"
      refine q r H' r0 ex ?_
      rw [har]
      refine congrArg (fun l => some (HO.lst l)) (bl_congr fun t _ => ?_)
      have := sm t
      rw [ln, List.drop_length] at this
      exact (B.add_zero _).symm.trans this
theorem j_lsector_at {x : B} {d : Addr} {kvs : List (Key × V)} {G : Gv} {H : Hp} {Q : VK} {E : XK} (h : H d = some (.dK kvs)) (hG : GvAt H kvs G) (nd : (G.map (·.1)).Nodup) (srt : ((G.map (·.1)).map fun b => (b.v : Int)).Pairwise (· ≤ ·)) (hl : G.length ≤ 60) (q : NewL H Q (bl (wordF G x))) : sp__law_sector_at [.int x.v, .ref d] H Q E := ⟨x, d, kvs, G, rfl, h, hG, nd, srt, hl, q⟩
theorem enumFrom_app : ∀ (xs ys : List V) (n : Nat), enumFrom n (xs ++ ys) = enumFrom n xs ++ enumFrom (n + xs.length) ys
  | [], _, _ => rfl
  | x :: xs, ys, n => by
    show (.inl (n : Int), x) :: enumFrom (n + 1) (xs ++ ys) = _ :: (enumFrom (n + 1) xs ++ _)
    rw [enumFrom_app xs ys (n + 1), List.length_cons, show n + 1 + xs.length = n + (xs.length + 1) by omega]
theorem valV_enum_hi {m : Int} : ∀ (vs : List V) (n : Nat), (n + vs.length : Nat) ≤ m → valV (enumFrom n vs) (.inl m : Key) = none
  | [], _, _ => rfl
  | x :: vs, n, h => by
    have h : ((n + (vs.length + 1) : Nat) : Int) ≤ m := h
    show valV ((.inl (n : Int), x) :: enumFrom (n + 1) vs) _ = _
    rw [valV_neg, valV_enum_hi vs (n + 1) (by omega)]
    intro e
    have := Sum.inl.inj e
    omega
theorem WordR.more {G : Gv} {k : Nat} {us : List V} {H : Hp} {S : Nat → Nat → B} (hG : G = gv0 us.length S) (hk : us.length ≤ 100) (h : SecsAt H us S) : WordR G us.length us H := by
  refine ⟨rfl, fun t v e => ?_⟩
  have ht := (List.getElem?_eq_some_iff.mp e).1
  obtain ⟨p, rfl, hp⟩ := h t v e
  refine ⟨p, rfl, hp.trans (congrArg (fun l => some (HO.lst l)) (bl_congr fun j _ => ?_))⟩
  subst hG
  have hm : (pl t, S t) ∈ gv0 us.length S := List.mem_map.mpr ⟨t, List.mem_range.mpr ht, rfl⟩
  exact (sumG_pick (t := j) (y := pl t) (gv0_nd hk) hm).symm
def sp__law_word : Sp := fun vs H Q _ => ∃ (p : Addr) (us : List V) (S : Nat → Nat → B) (n : Nat), vs = [.ref p, .int n] ∧ H p = some (.lst us) ∧ SecsAt H us S ∧ us.length ≤ n ∧ n ≤ 60 ∧ NewW H Q (gv0 us.length S) n
theorem gv0_srt {k : Nat} {S : Nat → Nat → B} (h : k ≤ 100) : (((gv0 k S).map (·.1)).map fun b => (b.v : Int)).Pairwise (· ≤ ·) := by
  rw [gv0_keys, List.map_map]
  refine List.pairwise_map.mpr (List.Pairwise.imp_of_mem (fun {a b} ha hb l => ?_) List.pairwise_lt_range)
  have ha := List.mem_range.mp ha
  have hb := List.mem_range.mp hb
  show ((pl a).v : Int) ≤ ((pl b).v : Int)
  rw [pl_v (by omega), pl_v (by omega)]
  omega
theorem gv0_len {k : Nat} {S : Nat → Nat → B} : (gv0 k S).length = k := by unfold gv0; rw [List.length_map, List.length_range]
theorem ok__law_word (M : Mg mg) {f : Addr} {fd : FuncData} (F : Fun K "_law_word" "_law_word" s__law_word f fd) (c__law_sector_at : Cal P w K mg base 4 "_law_sector_at" ["x", "given"] sp__law_sector_at) : FnOk P w K mg base CX0 5 f fd ["parts", "n"] sp__law_word := by
  refine F.ok sc__law_word (fun vs H Q E h => ?_) (fun cdv A outer s H vs Q E hr h => ?_)
  · obtain ⟨p, us, S, n, rfl, _⟩ := h; rfl
  · obtain ⟨p, us, S, n, rfl, hp, hS, hk, hn, q⟩ := h
    refine ⟨_, (pss_cons (ps_set (i := 2) sc__law_word.nd rfl (Or.inr rfl) pe_dnewK) (pss_cons (ps_for PassesOwn.never rfl (pi_range1 (by rfl) M.n_range (pa_cons (pe_callB len_l (by rfl) M.n_len PySem.boot_len (pa_cons (pv 0) pa_nil)) pa_nil)) (pg_name (i := 3) sc__law_word.nd rfl (Or.inl rfl)) (pss_one (ps_dput (hu_of hr) (pv 2) (pv 3) (pe_ix ix_l (pv 0) (pv 3) (fun _ _ => rfl)) rfl))) (pss_one (ps_ret (pe_op op_cat (pv 0) (pe_lc (own := [("x", 4)]) (g := (gName 4)) (tt := tYes) (by rfl) sc__law_word.nd (pi_range2 (by rfl) M.n_range (pa_cons (pe_callB len_l (by rfl) M.n_len PySem.boot_len (pa_cons (pv 0) pa_nil)) (pa_cons (pv 1) pa_nil))) (blkOk_by (own := [("x", 4)]) (N := ["parts", "n", "given", "k", "x"]) (sc := defScope s__law_word) (by decide +kernel)) (fun _ _ _ _ _ => (pg_name (i := 4) sc__law_word.nd rfl (Or.inl rfl))) (fun _ _ _ _ _ => pts_nil) (fun _ _ _ _ _ => (pe_cal c__law_sector_at (hr.mono (by omega)) (by rfl) (pa_cons (pv 4) (pa_cons (pv 2) pa_nil)))))))))), ?_⟩
    refine iBody (by repeat constructor) ?_
    walk_at "go"
    refine iDNew fun d hd => ?_
    have hp1 : (upd H d (.dK [])) p = some (.lst us) := (upd_ne (ne_of_none hp hd)).trans hp
    walk_at "go"
    refine forJ_range0 (fun i σ' H' => (∃ u : Option V, σ' = [some (.ref p), some (.int n), some (.ref d), u, none]) ∧ H' d = some (.dK (enumFrom 0 (us.take i))) ∧ Ex H H') ⟨⟨none, rfl⟩, upd_same, Ex.new hd⟩ (fun i σ' H' hi h => ?_) (fun σ' H' h => ?_)
    · obtain ⟨⟨u, rfl⟩, hd2, ex⟩ := h
      rw [Int.toNat_natCast] at hi
      walk_at "go"
      refine iIxL (ex _ _ hp) ((atI_natL _ _).trans (List.getElem?_eq_getElem hi)) ?_
      walk_at "go"
      refine iDPi hd2 (by rw [enumFrom_len, List.length_take]; omega) ?_
      refine ⟨⟨_, rfl⟩, ?_, ex_upd hd ex⟩
      rw [upd_same, putK_new _ (valV_enum_hi _ 0 (by rw [List.length_take]; omega)), List.take_add_one, List.getElem?_eq_getElem hi, enumFrom_app, List.length_take]
      rw [show 0 + min i us.length = i by omega]
      rfl
    · obtain ⟨⟨u, rfl⟩, hd2, ex⟩ := h
      rw [Int.toNat_natCast, List.take_length] at hd2
      have hG : GvAt H' (enumFrom 0 us) (gv0 us.length S) := by
        have := enum_gv (H := H') (vs := us) (S := S) 0 (by omega) (fun t v e => by rw [Nat.zero_add]; exact (hS t v e).ex ex)
        simp only [Nat.zero_add] at this
        exact this
      have hp2 := ex _ _ hp
      walk_at "go"
      have hto : ((n : Int) - (us.length : Int)).toNat = n - us.length := by omega
      rw [hto]
      refine lcR_r (fun i acc H' => WordR (gv0 us.length S) (us.length + i) (us ++ acc) H') (by repeat constructor) (fun i acc H1 H2 e h => WordR.mono _ _ _ _ e h) ?_ (fun D i acc H2 hD hi hacc hl e1 r => ?_) (fun D acc H2 hD e1 hacc r => ?_)
      · rw [List.append_nil]
        exact WordR.more (k := 0) rfl (by omega) (hS.ex ex)
      · walk_at "go"
        have e3 : (us.length : Int) + (i : Int) = ((pl (us.length + i)).v : Nat) := by rw [pl_v (by omega)]; omega
        rw [e3]
        refine j_lsector_at (e1 _ _ hd2) (hG.ex e1) (gv0_nd (by omega)) (gv0_srt (by omega)) (by rw [gv0_len]; omega) fun p3 H3 hp3 e2 h3 => ?_
        have nD : p3 ≠ D := (ne_of_none hacc hp3).symm
        refine iLcR hD (by omega) hl (fun a o h => e2 _ _ (e1 _ _ h)) (e2 _ _ hacc) ?_
        rw [← List.append_assoc]
        exact (WordR.mono _ _ _ _ (mk_mono e2) r).snoc ⟨p3, rfl, (mk_at nD).trans h3⟩
      · walk_at "go"
        refine iCat (e1 _ _ hp2) hacc ?_ fun p4 hp4 => ?_
        · have := r.1
          rw [List.length_append] at this
          omega
        · have n4 : H p4 = none := by cases z : H p4 with | none => rfl | some o => rw [e1 _ _ (ex _ _ z)] at hp4; cases hp4
          have r' := WordR.mono _ _ _ _ (Ex.new (o := .lst (us ++ acc)) hp4) r
          rw [show us.length + (n - us.length) = n by omega] at r'
          exact q p4 _ (us ++ acc) n4 (ex_upd n4 fun a o h => e1 _ _ (ex _ _ h)) upd_same r'
end
end R
set_option Elab.async false
set_option linter.all false
set_option maxRecDepth 100000
set_option maxHeartbeats 4000000
namespace R
open PySem PySem.Spec L2
open Evl (Ex)
abbrev s_readable : Stmt := topS 11
theorem sc_readable : FnScope ["cells", "most", "places", "x"] ["cells", "most"] (defScope s_readable) := ⟨rfl, rfl, rfl, by decide +kernel, rfl, by decide +kernel, by decide +kernel⟩
local macro_rules | `(tactic| walk_at "ne") => `(tactic| (apply Ne.symm; apply ne_fresh; (· assumption); (· walk_at "look")))
local macro_rules | `(tactic| walk_at "ne") => `(tactic| (apply ne_fresh; (· assumption); (· walk_at "look")))
local macro_rules | `(tactic| walk_at "ne") => `(tactic| (apply Ne.symm; assumption))
local macro_rules | `(tactic| walk_at "ne") => `(tactic| assumption)
local macro_rules | `(tactic| walk_at "look") => `(tactic| (refine exAt (by assumption) ?_; walk_at "look"))
local macro_rules | `(tactic| walk_at "look") => `(tactic| (refine (upd_ne ?_).trans ?_; (· walk_at "ne"); (· walk_at "look")))
local macro_rules | `(tactic| walk_at "look") => `(tactic| exact upd_same)
local macro_rules | `(tactic| walk_at "look") => `(tactic| assumption)
local macro_rules | `(tactic| walk_at "side") => `(tactic| (exact ⟨by decide, by decide, by decide⟩))
local macro_rules | `(tactic| walk_at "side") => `(tactic| (exact ⟨by omega, by omega⟩))
local macro_rules | `(tactic| walk_at "side") => `(tactic| (show (0:Int) ≤ _; omega))
local macro_rules | `(tactic| walk_at "side") => `(tactic| (show (0:Int) < _; omega))
local macro_rules | `(tactic| walk_at "side") => `(tactic| (exact Or.inr ⟨by omega, by omega⟩))
local macro_rules | `(tactic| walk_at "side") => `(tactic| (exact Or.inl ⟨by omega, by omega⟩))
local macro_rules | `(tactic| walk_at "step") => `(tactic| ((with_reducible apply iDcT); (· rfl)))
local macro_rules | `(tactic| walk_at "step") => `(tactic| ((with_reducible apply iParI); (· repeat constructor); (· repeat constructor)))
local macro_rules | `(tactic| walk_at "step") => `(tactic| ((with_reducible apply iItT); (· walk_at "look")))
local macro_rules | `(tactic| walk_at "step") => `(tactic| ((with_reducible apply iZL); (· walk_at "look"); (· walk_at "look")))
local macro_rules | `(tactic| walk_at "step") => `(tactic| ((with_reducible apply iItL); (· walk_at "look")))
local macro_rules | `(tactic| walk_at "step") => `(tactic| ((with_reducible apply iRng2I); (· omega); (· omega); (· omega); (· omega)))
local macro_rules | `(tactic| walk_at "step") => `(tactic| ((with_reducible apply iDNi); (· walk_at "look")))
local macro_rules | `(tactic| walk_at "step") => `(tactic| ((with_reducible apply iDIi); (· walk_at "look")))
local macro_rules | `(tactic| walk_at "step") => `(tactic| ((with_reducible apply iGTup); (· walk_at "look"); (· rfl)))
local macro_rules | `(tactic| walk_at "step") => `(tactic| ((with_reducible apply iLcB); (· rfl)))
local macro_rules | `(tactic| walk_at "step") => `(tactic| ((with_reducible apply ifNn); (· omega)))
local macro_rules | `(tactic| walk_at "step") => `(tactic| ((with_reducible apply ifNp); (· omega)))
local macro_rules | `(tactic| walk_at "step") => `(tactic| ((with_reducible apply ifF); (· apply decide_eq_false; omega)))
local macro_rules | `(tactic| walk_at "step") => `(tactic| ((with_reducible apply ifT); (· apply decide_eq_true; omega)))
local macro_rules | `(tactic| walk_at "step") => `(tactic| ((with_reducible apply ifF); (· rfl)))
local macro_rules | `(tactic| walk_at "step") => `(tactic| ((with_reducible apply ifT); (· rfl)))
local macro_rules | `(tactic| walk_at "step") => `(tactic| ((with_reducible apply iLenS); (· first | exact Or.inl (by walk_at "look") | exact Or.inr (by walk_at "look"))))
local macro_rules | `(tactic| walk_at "step") => `(tactic| ((with_reducible apply iLenT); (· walk_at "look")))
local macro_rules | `(tactic| walk_at "step") => `(tactic| ((with_reducible apply iIsi); (· first | exact tyN_int | exact tyN_bl | exact tyN_non | exact tyN_str | exact tyN_lst (by walk_at "look") | exact tyN_tup (by walk_at "look")); (· (first | exact kb_NoneType_bool | exact kb_NoneType_int | exact kb_NoneType_str | exact kb_NoneType_tuple | exact kb_NoneType_list | exact kb_bool_bool | exact kb_bool_int | exact kb_bool_str | exact kb_bool_tuple | exact kb_bool_list | exact kb_int_bool | exact kb_int_int | exact kb_int_str | exact kb_int_tuple | exact kb_int_list | exact kb_str_bool | exact kb_str_int | exact kb_str_str | exact kb_str_tuple | exact kb_str_list | exact kb_tuple_bool | exact kb_tuple_int | exact kb_tuple_str | exact kb_tuple_tuple | exact kb_tuple_list | exact kb_list_bool | exact kb_list_int | exact kb_list_str | exact kb_list_tuple | exact kb_list_list))))
local macro_rules | `(tactic| walk_at "step") => `(tactic| ((with_reducible apply iIxT); (· walk_at "look"); (· rfl)))
local macro_rules | `(tactic| walk_at "step") => `(tactic| ((with_reducible apply iSetL); (· walk_at "look"); (· rfl)))
local macro_rules | `(tactic| walk_at "step") => `(tactic| ((with_reducible apply iLenL); (· walk_at "look")))
local macro_rules | `(tactic| walk_at "step") => `(tactic| ((with_reducible apply iIxL); (· walk_at "look"); (· rfl)))
local macro_rules | `(tactic| walk_at "step") => `(tactic| ((with_reducible apply iI); rotate_left; (· (first | (exact Or.inl ⟨by omega, by omega⟩) | (exact Or.inr ⟨by omega, by omega⟩) | (show (0:Int) < _; omega) | (show (0:Int) ≤ _; omega) | (exact ⟨by omega, by omega⟩) | (exact ⟨by decide, by decide, by decide⟩)))))
local macro_rules | `(tactic| walk_at "step") => `(tactic| ((with_reducible apply iAugK); (· rfl)))
local macro_rules | `(tactic| walk_at "step") => `(tactic| ((with_reducible apply iRngI); (· first | decide | omega); (· first | decide | omega)))
local macro_rules | `(tactic| walk_at "step") => `(tactic| (with_reducible refine iWPut ?_))
local macro_rules | `(tactic| walk_at "step") => `(tactic| (with_reducible refine iWGet ?_))
local macro_rules | `(tactic| walk_at "step") => `(tactic| (with_reducible refine iWNot ?_))
local macro_rules | `(tactic| walk_at "step") => `(tactic| (with_reducible refine iCombK ?_))
local macro_rules | `(tactic| walk_at "step") => `(tactic| (with_reducible refine iDc ?_))
local macro_rules | `(tactic| walk_at "step") => `(tactic| (with_reducible refine iPar ?_))
local macro_rules | `(tactic| walk_at "step") => `(tactic| (with_reducible refine iItS ?_))
local macro_rules | `(tactic| walk_at "step") => `(tactic| (with_reducible refine iIterS ?_))
local macro_rules | `(tactic| walk_at "step") => `(tactic| (with_reducible refine iIterT ?_))
local macro_rules | `(tactic| walk_at "step") => `(tactic| (with_reducible refine iZA ?_))
local macro_rules | `(tactic| walk_at "step") => `(tactic| (with_reducible refine iRg3 ?_))
local macro_rules | `(tactic| walk_at "step") => `(tactic| (with_reducible refine iRv ?_))
local macro_rules | `(tactic| walk_at "step") => `(tactic| (with_reducible refine iNoPart ?_))
local macro_rules | `(tactic| walk_at "step") => `(tactic| (with_reducible refine iPartI ?_))
local macro_rules | `(tactic| walk_at "step") => `(tactic| (with_reducible refine iPart ?_))
local macro_rules | `(tactic| walk_at "step") => `(tactic| (with_reducible refine iSl ?_))
local macro_rules | `(tactic| walk_at "step") => `(tactic| (with_reducible refine iDEa ?_))
local macro_rules | `(tactic| walk_at "step") => `(tactic| (with_reducible refine iGNil ?_))
local macro_rules | `(tactic| walk_at "step") => `(tactic| (with_reducible refine iGCons ?_))
local macro_rules | `(tactic| walk_at "step") => `(tactic| (with_reducible refine iZipK ?_))
local macro_rules | `(tactic| walk_at "step") => `(tactic| (with_reducible refine iRng2 ?_))
local macro_rules | `(tactic| walk_at "step") => `(tactic| (with_reducible refine iDPut ?_))
local macro_rules | `(tactic| walk_at "step") => `(tactic| (with_reducible refine iDNotIn ?_))
local macro_rules | `(tactic| walk_at "step") => `(tactic| (with_reducible refine iDIn ?_))
local macro_rules | `(tactic| walk_at "step") => `(tactic| (with_reducible refine iDGet ?_))
local macro_rules | `(tactic| walk_at "step") => `(tactic| (with_reducible refine iYes ?_))
local macro_rules | `(tactic| walk_at "step") => `(tactic| (with_reducible refine iLc ?_))
local macro_rules | `(tactic| walk_at "step") => `(tactic| (with_reducible refine iNeS ?_))
local macro_rules | `(tactic| walk_at "step") => `(tactic| (with_reducible refine iEqS ?_))
local macro_rules | `(tactic| walk_at "step") => `(tactic| (with_reducible refine iNeB ?_))
local macro_rules | `(tactic| walk_at "step") => `(tactic| (with_reducible refine iEqB ?_))
local macro_rules | `(tactic| walk_at "step") => `(tactic| (with_reducible refine iCont ?_))
local macro_rules | `(tactic| walk_at "step") => `(tactic| (with_reducible refine iBreak ?_))
local macro_rules | `(tactic| walk_at "step") => `(tactic| (with_reducible refine iIterL ?_))
local macro_rules | `(tactic| walk_at "step") => `(tactic| (with_reducible refine iTup ?_))
local macro_rules | `(tactic| walk_at "step") => `(tactic| (with_reducible refine iLst ?_))
local macro_rules | `(tactic| walk_at "step") => `(tactic| (with_reducible refine iSub ?_))
local macro_rules | `(tactic| walk_at "step") => `(tactic| (with_reducible refine iIpI ?_))
local macro_rules | `(tactic| walk_at "step") => `(tactic| (with_reducible refine iAugS ?_))
local macro_rules | `(tactic| walk_at "step") => `(tactic| (with_reducible refine iNotV ?_))
local macro_rules | `(tactic| walk_at "step") => `(tactic| (with_reducible refine iOrV ?_))
local macro_rules | `(tactic| walk_at "step") => `(tactic| (with_reducible refine iAndV ?_))
local macro_rules | `(tactic| walk_at "step") => `(tactic| (with_reducible refine iDGet1 ?_))
local macro_rules | `(tactic| walk_at "step") => `(tactic| (with_reducible refine iNotBl ?_))
local macro_rules | `(tactic| walk_at "step") => `(tactic| (with_reducible refine iIsB ?_))
local macro_rules | `(tactic| walk_at "step") => `(tactic| (with_reducible refine iIntB ?_))
local macro_rules | `(tactic| walk_at "step") => `(tactic| (with_reducible refine iPn ?_))
local macro_rules | `(tactic| walk_at "step") => `(tactic| (with_reducible refine iPr ?_))
local macro_rules | `(tactic| walk_at "step") => `(tactic| (with_reducible refine iRai ?_))
local macro_rules | `(tactic| walk_at "step") => `(tactic| (with_reducible refine iRev1 ?_))
local macro_rules | `(tactic| walk_at "step") => `(tactic| (with_reducible refine iBM ?_))
local macro_rules | `(tactic| walk_at "step") => `(tactic| (with_reducible refine iAugF ?_))
local macro_rules | `(tactic| walk_at "step") => `(tactic| (with_reducible refine iSto ?_))
local macro_rules | `(tactic| walk_at "step") => `(tactic| (with_reducible refine iFld ?_))
local macro_rules | `(tactic| walk_at "step") => `(tactic| (with_reducible refine iMakS ?_))
local macro_rules | `(tactic| walk_at "step") => `(tactic| (with_reducible refine iMak ?_))
local macro_rules | `(tactic| walk_at "step") => `(tactic| (with_reducible refine iMet ?_))
local macro_rules | `(tactic| walk_at "step") => `(tactic| (with_reducible refine iCalE ?_))
local macro_rules | `(tactic| walk_at "step") => `(tactic| (with_reducible refine ifDr ?_))
local macro_rules | `(tactic| walk_at "step") => `(tactic| (with_reducible refine ifNDr ?_))
local macro_rules | `(tactic| walk_at "step") => `(tactic| (with_reducible refine iTruI ?_))
local macro_rules | `(tactic| walk_at "step") => `(tactic| (with_reducible refine iNotN ?_))
local macro_rules | `(tactic| walk_at "step") => `(tactic| (with_reducible refine iIsN ?_))
local macro_rules | `(tactic| walk_at "step") => `(tactic| (with_reducible refine iRetN ?_))
local macro_rules | `(tactic| walk_at "step") => `(tactic| (with_reducible refine iU ?_))
local macro_rules | `(tactic| walk_at "step") => `(tactic| (with_reducible refine iUn ?_))
local macro_rules | `(tactic| walk_at "step") => `(tactic| (with_reducible refine iChain ?_))
local macro_rules | `(tactic| walk_at "step") => `(tactic| (with_reducible refine iIf ?_))
local macro_rules | `(tactic| walk_at "step") => `(tactic| (with_reducible refine iB ?_))
local macro_rules | `(tactic| walk_at "step") => `(tactic| (with_reducible refine iNot ?_))
local macro_rules | `(tactic| walk_at "step") => `(tactic| (with_reducible refine iOr ?_))
local macro_rules | `(tactic| walk_at "step") => `(tactic| (with_reducible refine iAnd ?_))
local macro_rules | `(tactic| walk_at "step") => `(tactic| (with_reducible refine iCal ?_))
local macro_rules | `(tactic| walk_at "step") => `(tactic| (with_reducible refine iRng ?_))
local macro_rules | `(tactic| walk_at "step") => `(tactic| (with_reducible refine iFor ?_))
local macro_rules | `(tactic| walk_at "step") => `(tactic| (with_reducible refine iInt ?_))
local macro_rules | `(tactic| walk_at "step") => `(tactic| (with_reducible refine iNeI ?_))
local macro_rules | `(tactic| walk_at "step") => `(tactic| (with_reducible refine iEqI ?_))
local macro_rules | `(tactic| walk_at "step") => `(tactic| (with_reducible refine iDrop ?_))
local macro_rules | `(tactic| walk_at "step") => `(tactic| (with_reducible refine iNext ?_))
local macro_rules | `(tactic| walk_at "step") => `(tactic| (with_reducible refine iRet ?_))
local macro_rules | `(tactic| walk_at "step") => `(tactic| (with_reducible refine iBl ?_))
local macro_rules | `(tactic| walk_at "step") => `(tactic| (with_reducible refine iTest ?_))
local macro_rules | `(tactic| walk_at "step") => `(tactic| (with_reducible refine iIfS ?_))
local macro_rules | `(tactic| walk_at "step") => `(tactic| (with_reducible refine iCB ?_))
local macro_rules | `(tactic| walk_at "step") => `(tactic| (with_reducible refine iNil ?_))
local macro_rules | `(tactic| walk_at "step") => `(tactic| (with_reducible refine iCons ?_))
local macro_rules | `(tactic| walk_at "step") => `(tactic| (with_reducible refine iI0 ?_))
local macro_rules | `(tactic| walk_at "step") => `(tactic| (with_reducible refine iOp ?_))
local macro_rules | `(tactic| walk_at "step") => `(tactic| (with_reducible refine iC ?_))
local macro_rules | `(tactic| walk_at "step") => `(tactic| ((with_reducible apply iVar); (· rfl)))
local macro_rules | `(tactic| walk_at "step") => `(tactic| ((with_reducible apply iName); (· repeat constructor)))
local macro_rules | `(tactic| walk_at "step") => `(tactic| (with_reducible refine iAsg ?_))
local macro_rules | `(tactic| walk_at "step") => `(tactic| (with_reducible refine iSeq ?_))
local macro_rules | `(tactic| walk_at "go") => `(tactic| (repeat walk_at "step"))
section
variable {P : Program} {w : World} {K : PySem.W.Frag} {mg : Str → Option Value} {base : Heap}
/-! ### places -/
def nsV (L : List Nat) : List V := L.map fun m : Nat => V.int m
theorem inV_ns (m : Nat) : ∀ L : List Nat, inV (.int m) (nsV L) = decide (m ∈ L)
  | [] => by simp [nsV, inV]
  | a :: L => by
    have ih := inV_ns m L
    unfold inV nsV at ih ⊢
    rw [List.map_cons, List.any_cons, ih]
    have e : eqV (.int a) (.int m) = decide ((a : Int) = m) := rfl
    rw [e]
    by_cases h : a = m
    · subst h; simp
    · have h1 : ¬ (a : Int) = m := by omega
      have h2 : ¬ m = a := fun q => h q.symm
      simp [h1, h2]
theorem flat_ns (L : List Nat) : (nsV L).all flatV = true := by
  unfold nsV
  rw [List.all_map]
  exact List.all_eq_true.mpr fun _ _ => rfl
theorem iNotInNs {H : Hp} {Q : VK} {p : Addr} {m : Nat} {L : List Nat} (h : H p = some (.lst (nsV L))) (q : Q (.bl (!decide (m ∈ L))) H) : kIn true (.int m) (.ref p) H Q := by
  refine ⟨p, nsV L, rfl, .inl h, rfl, flat_ns L, ?_⟩
  rw [inV_ns]
  exact q
def left (n : Nat) (L : List Nat) : List Nat := (List.range n).filter fun m => decide (m ∉ L)
theorem nodup_ne (a : Nat) : ∀ {M : List Nat}, M.Nodup → M.length ≤ (M.filter fun m => decide (m ≠ a)).length + 1
  | [], _ => by simp
  | b :: M, nd => by
    have nd' := List.nodup_cons.mp nd
    by_cases h : b ≠ a
    · have := nodup_ne a nd'.2
      rw [List.filter_cons, if_pos (decide_eq_true h), List.length_cons, List.length_cons]
      omega
    · have h : b = a := by simpa using h
      subst h
      have e : M.filter (fun m => decide (m ≠ b)) = M := List.filter_eq_self.mpr fun c hc => decide_eq_true (show c ≠ b from fun e => nd'.1 (e ▸ hc))
      rw [List.filter_cons, if_neg (by simp), e]
      simp
theorem left_len (n : Nat) : ∀ L : List Nat, n ≤ (left n L).length + L.length
  | [] => by
    have : left n [] = List.range n := List.filter_eq_self.mpr fun _ _ => by simp
    rw [this]; simp
  | a :: L => by
    have ih := left_len n L
    have e : left n (a :: L) = (left n L).filter fun m => decide (m ≠ a) := by
      unfold left
      rw [List.filter_filter]
      refine List.filter_congr fun m _ => ?_
      by_cases h1 : m = a <;> by_cases h2 : m ∈ L <;> simp [h1, h2]
    have nd : (left n L).Nodup := List.Pairwise.filter _ List.nodup_range
    have := nodup_ne a nd
    rw [e, List.length_cons]
    omega
def gvL (F : Nat → Nat → B) (L : List Nat) : Gv := L.map fun m => (pl m, F m)
theorem gvL_keys {F : Nat → Nat → B} {L : List Nat} : (gvL F L).map (·.1) = L.map pl := by unfold gvL; rw [List.map_map]; rfl
theorem gvL_nd {F : Nat → Nat → B} {L : List Nat} (nd : L.Nodup) (h : ∀ m ∈ L, m < 100) : ((gvL F L).map (·.1)).Nodup := by
  rw [gvL_keys]
  refine List.pairwise_map.mpr (List.Pairwise.imp_of_mem (fun {a b} ha hb ne e => ?_) nd)
  exact ne (pl_inj (Nat.lt_of_lt_of_le (h a ha) (by decide)) (Nat.lt_of_lt_of_le (h b hb) (by decide)) e)
theorem gvL_bs {F : Nat → Nat → B} {L : List Nat} (h : ∀ m ∈ L, m < 100) : bsV ((gvL F L).map (·.1)) = nsV L := by
  rw [gvL_keys]
  unfold bsV nsV
  rw [List.map_map]
  refine List.map_congr_left fun m hm => ?_
  show V.int ((pl m).v : Nat) = _
  rw [pl_v (Nat.lt_of_lt_of_le (h m hm) (by decide))]
theorem nsV_get {L : List Nat} {n : Nat} {x : V} (h : (nsV L)[n]? = some x) : ∃ b, L[n]? = some b ∧ x = .int (b : Nat) := by
  unfold nsV at h
  rw [List.getElem?_map] at h
  cases e : L[n]? with
  | none => rw [e] at h; cases h
  | some b => rw [e] at h; exact ⟨b, rfl, (Option.some.inj h).symm⟩
theorem GvAt.snoc {H : Hp} : ∀ {kvs : List (Key × V)} {G : Gv} {k : Key} {v : V} {g : B × (Nat → B)}, GvAt H kvs G → k = .inl (g.1.v : Int) → SecAt H v g.2 → GvAt H (kvs ++ [(k, v)]) (G ++ [g])
  | _, _, _, _, _, .nil, h1, h2 => .cons ⟨h1, h2⟩ .nil
  | _, _, _, _, _, .cons h t, h1, h2 => .cons h (GvAt.snoc t h1 h2)
/-! ### cells: what is read of them -/
def CellV (H : Hp) (v : V) : Option (Nat → B) → Prop
  | none => v = .non
  | some f => SecAt H v f
theorem CellV.ex {H H' : Hp} {v : V} {o : Option (Nat → B)} (h : CellV H v o) (e : Ex H H') : CellV H' v o := by
  cases o with
  | none => exact h
  | some f => exact SecAt.ex e h
structure CellsAt (H : Hp) (cs : List V) (c : List (Option (Nat → B))) : Prop where
  len : cs.length = c.length
  at_ : ∀ (i : Nat) (v : V), cs[i]? = some v → CellV H v (c.getD i none)
theorem CellsAt.ex {H H' : Hp} {cs : List V} {c : List (Option (Nat → B))} (h : CellsAt H cs c) (e : Ex H H') : CellsAt H' cs c := ⟨h.len, fun i v hv => (h.at_ i v hv).ex e⟩
def has (c : List (Option (Nat → B))) (x : Nat) : Bool := (c.getD x none).isSome
def rdP (c : List (Option (Nat → B))) (m i : Nat) : List Nat := ((List.range i).filter (has c)).take m
theorem take_snoc {α : Type} (l : List α) (x : α) (m : Nat) : (l ++ [x]).take m = if (l.take m).length < m then l.take m ++ [x] else l.take m := by
  rw [List.length_take]
  by_cases h : l.length < m
  · rw [if_pos (by omega), List.take_of_length_le (by rw [List.length_append]; exact h), List.take_of_length_le (by omega)]
  · rw [if_neg (by omega), List.take_append_of_le_length (by omega)]
theorem rdP_succ (c : List (Option (Nat → B))) (m i : Nat) : rdP c m (i + 1) = if has c i = true ∧ (rdP c m i).length < m then rdP c m i ++ [i] else rdP c m i := by
  unfold rdP
  rw [List.range_succ, List.filter_append]
  cases e : has c i with
  | false => simp [List.filter_cons, e]
  | true =>
    simp only [List.filter_cons, e, if_true, List.filter_nil, true_and]
    exact take_snoc _ _ _
theorem nsV_snoc (L : List Nat) (m : Nat) : nsV (L ++ [m]) = nsV L ++ [.int m] := by unfold nsV; rw [List.map_append]; rfl
theorem nsV_len (L : List Nat) : (nsV L).length = L.length := List.length_map ..
theorem rdP_le (c : List (Option (Nat → B))) (m i : Nat) : (rdP c m i).length ≤ i := by
  unfold rdP
  have h1 := (List.filter_sublist (p := has c) (l := List.range i)).length_le
  rw [List.length_range] at h1
  rw [List.length_take]
  omega
def sp_readable : Sp := fun vs H Q _ => ∃ (p : Addr) (cs : List V) (c : List (Option (Nat → B))) (m : Nat), vs = [.ref p, .int m] ∧ H p = some (.lst cs) ∧ CellsAt H cs c ∧ c.length ≤ 60 ∧ NewL H Q (nsV (rdP c m c.length))
theorem ok_readable (M : Mg mg) {f : Addr} {fd : FuncData} (F : Fun K "readable" "readable" s_readable f fd) : FnOk P w K mg base CX0 1 f fd ["cells", "most"] sp_readable := by
  refine F.ok sc_readable (fun vs H Q E h => ?_) (fun cdv A outer s H vs Q E hr h => ?_)
  · obtain ⟨p, cs, c, m, rfl, _⟩ := h; rfl
  · obtain ⟨p, cs, c, m, rfl, hp, hc, hl, q⟩ := h
    refine ⟨_, (pss_cons (ps_set (i := 2) sc_readable.nd rfl (Or.inl rfl) (pe_lst pa_nil)) (pss_cons (ps_for PassesOwn.never rfl (pi_range1 (by rfl) M.n_range (pa_cons (pe_callB len_l (by rfl) M.n_len PySem.boot_len (pa_cons (pv 0) pa_nil)) pa_nil)) (pg_name (i := 3) sc_readable.nd rfl (Or.inl rfl)) (pss_one (ps_if (PW.pt (pw_and (pt_cmpR op_lt (pe_callB len_l (by rfl) M.n_len PySem.boot_len (pa_cons (pv 2) pa_nil)) (pv 1) (nomark _)) (pw_and1 (pt_cmpR op_notN1 (pe_ix ix_l (pv 0) (pv 3) (fun _ _ => rfl)) pe_non (nomark _))))) (pss_one (ps_expr (pe_mt PySem.F.slot_list_append PySem.F.type_list_append mt_append (pv 2) (pa_cons (pv 3) pa_nil)))) pss_nil))) (pss_one (ps_ret (pv 2))))), ?_⟩
    refine iBody (by repeat constructor) ?_
    walk_at "go"
    refine iNewL (by simp) fun l hn => ?_
    have e0 : Ex H (upd H l (.lst [])) := Ex.new hn
    have hp0 := e0 _ _ hp
    have len := hc.len
    walk_at "go"
    refine forJ_range0 (fun i σ' H' => (∃ x, σ' = [some (.ref p), some (.int m), some (.ref l), x]) ∧ Ex H H' ∧ H' l = some (.lst (nsV (rdP c m i)))) ⟨⟨_, rfl⟩, e0, by rw [show nsV (rdP c m 0) = [] by simp [rdP, nsV]]; exact upd_same⟩ (fun i σ' H' hi h => ?_) (fun σ' H' h => ?_)
    · obtain ⟨⟨x, rfl⟩, e, hL⟩ := h
      have hi : i < c.length := by rw [← len]; exact hi
      have hp' := e _ _ hp
      obtain ⟨v, hv⟩ : ∃ v, cs[i]? = some v := ⟨_, List.getElem?_eq_getElem (by omega)⟩
      have hcv := (hc.at_ i v hv).ex e
      have nl := rdP_le c m i
      walk_at "go"
      rw [nsV_len]
      refine ifD (fun h1 => ?_) (fun h1 => ?_)
      · walk_at "go"
        refine iIxL hp' ((atI_natL _ _).trans hv) ?_
        cases eo : c.getD i none with
        | none =>
          rw [eo] at hcv
          cases (show v = V.non from hcv)
          walk_at "go"
          refine ⟨⟨_, rfl⟩, e, ?_⟩
          rw [rdP_succ, if_neg (by unfold has; rw [eo]; rintro ⟨z, _⟩; cases z)]
          exact hL
        | some g =>
          rw [eo] at hcv
          obtain ⟨r, rfl, hr⟩ := hcv
          walk_at "go"
          refine iMt rfl hL ?_
          walk_at "go"
          refine iApp hL (by rw [nsV_len]; omega) ?_
          walk_at "go"
          refine ⟨⟨_, rfl⟩, e.mut hn, ?_⟩
          rw [rdP_succ, if_pos ⟨by unfold has; rw [eo]; rfl, by omega⟩, nsV_snoc]
          exact upd_same
      · walk_at "go"
        refine ⟨⟨_, rfl⟩, e, ?_⟩
        rw [rdP_succ, if_neg (by rintro ⟨_, z⟩; omega)]
        exact hL
    · obtain ⟨⟨x, rfl⟩, e, hL⟩ := h
      rw [len] at hL
      walk_at "go"
      exact q l H' hn e hL
end
end R
set_option Elab.async false
set_option linter.all false
set_option maxRecDepth 100000
set_option maxHeartbeats 4000000
namespace R
open PySem PySem.Spec L2
open Evl (Ex)
abbrev s__law_packed : Stmt := topS 25
theorem sc__law_packed : FnScope ["sector", "total", "byte"] ["sector"] (defScope s__law_packed) := ⟨rfl, rfl, rfl, by decide +kernel, rfl, by decide +kernel, by decide +kernel⟩
local macro_rules | `(tactic| walk_at "ne") => `(tactic| (apply Ne.symm; apply ne_fresh; (· assumption); (· walk_at "look")))
local macro_rules | `(tactic| walk_at "ne") => `(tactic| (apply ne_fresh; (· assumption); (· walk_at "look")))
local macro_rules | `(tactic| walk_at "ne") => `(tactic| (apply Ne.symm; assumption))
local macro_rules | `(tactic| walk_at "ne") => `(tactic| assumption)
local macro_rules | `(tactic| walk_at "look") => `(tactic| (refine exAt (by assumption) ?_; walk_at "look"))
local macro_rules | `(tactic| walk_at "look") => `(tactic| (refine (upd_ne ?_).trans ?_; (· walk_at "ne"); (· walk_at "look")))
local macro_rules | `(tactic| walk_at "look") => `(tactic| exact upd_same)
local macro_rules | `(tactic| walk_at "look") => `(tactic| assumption)
local macro_rules | `(tactic| walk_at "side") => `(tactic| (exact ⟨by decide, by decide, by decide⟩))
local macro_rules | `(tactic| walk_at "side") => `(tactic| (exact ⟨by omega, by omega⟩))
local macro_rules | `(tactic| walk_at "side") => `(tactic| (show (0:Int) ≤ _; omega))
local macro_rules | `(tactic| walk_at "side") => `(tactic| (show (0:Int) < _; omega))
local macro_rules | `(tactic| walk_at "side") => `(tactic| (exact Or.inr ⟨by omega, by omega⟩))
local macro_rules | `(tactic| walk_at "side") => `(tactic| (exact Or.inl ⟨by omega, by omega⟩))
local macro_rules | `(tactic| walk_at "step") => `(tactic| ((with_reducible apply iDcT); (· rfl)))
local macro_rules | `(tactic| walk_at "step") => `(tactic| ((with_reducible apply iParI); (· repeat constructor); (· repeat constructor)))
local macro_rules | `(tactic| walk_at "step") => `(tactic| ((with_reducible apply iItT); (· walk_at "look")))
local macro_rules | `(tactic| walk_at "step") => `(tactic| ((with_reducible apply iZL); (· walk_at "look"); (· walk_at "look")))
local macro_rules | `(tactic| walk_at "step") => `(tactic| ((with_reducible apply iItL); (· walk_at "look")))
local macro_rules | `(tactic| walk_at "step") => `(tactic| ((with_reducible apply iRng2I); (· omega); (· omega); (· omega); (· omega)))
local macro_rules | `(tactic| walk_at "step") => `(tactic| ((with_reducible apply iDNi); (· walk_at "look")))
local macro_rules | `(tactic| walk_at "step") => `(tactic| ((with_reducible apply iDIi); (· walk_at "look")))
local macro_rules | `(tactic| walk_at "step") => `(tactic| ((with_reducible apply iGTup); (· walk_at "look"); (· rfl)))
local macro_rules | `(tactic| walk_at "step") => `(tactic| ((with_reducible apply iLcB); (· rfl)))
local macro_rules | `(tactic| walk_at "step") => `(tactic| ((with_reducible apply ifNn); (· omega)))
local macro_rules | `(tactic| walk_at "step") => `(tactic| ((with_reducible apply ifNp); (· omega)))
local macro_rules | `(tactic| walk_at "step") => `(tactic| ((with_reducible apply ifF); (· apply decide_eq_false; omega)))
local macro_rules | `(tactic| walk_at "step") => `(tactic| ((with_reducible apply ifT); (· apply decide_eq_true; omega)))
local macro_rules | `(tactic| walk_at "step") => `(tactic| ((with_reducible apply ifF); (· rfl)))
local macro_rules | `(tactic| walk_at "step") => `(tactic| ((with_reducible apply ifT); (· rfl)))
local macro_rules | `(tactic| walk_at "step") => `(tactic| ((with_reducible apply iLenS); (· first | exact Or.inl (by walk_at "look") | exact Or.inr (by walk_at "look"))))
local macro_rules | `(tactic| walk_at "step") => `(tactic| ((with_reducible apply iLenT); (· walk_at "look")))
local macro_rules | `(tactic| walk_at "step") => `(tactic| ((with_reducible apply iIsi); (· first | exact tyN_int | exact tyN_bl | exact tyN_non | exact tyN_str | exact tyN_lst (by walk_at "look") | exact tyN_tup (by walk_at "look")); (· (first | exact kb_NoneType_bool | exact kb_NoneType_int | exact kb_NoneType_str | exact kb_NoneType_tuple | exact kb_NoneType_list | exact kb_bool_bool | exact kb_bool_int | exact kb_bool_str | exact kb_bool_tuple | exact kb_bool_list | exact kb_int_bool | exact kb_int_int | exact kb_int_str | exact kb_int_tuple | exact kb_int_list | exact kb_str_bool | exact kb_str_int | exact kb_str_str | exact kb_str_tuple | exact kb_str_list | exact kb_tuple_bool | exact kb_tuple_int | exact kb_tuple_str | exact kb_tuple_tuple | exact kb_tuple_list | exact kb_list_bool | exact kb_list_int | exact kb_list_str | exact kb_list_tuple | exact kb_list_list))))
local macro_rules | `(tactic| walk_at "step") => `(tactic| ((with_reducible apply iIxT); (· walk_at "look"); (· rfl)))
local macro_rules | `(tactic| walk_at "step") => `(tactic| ((with_reducible apply iSetL); (· walk_at "look"); (· rfl)))
local macro_rules | `(tactic| walk_at "step") => `(tactic| ((with_reducible apply iLenL); (· walk_at "look")))
local macro_rules | `(tactic| walk_at "step") => `(tactic| ((with_reducible apply iIxL); (· walk_at "look"); (· rfl)))
local macro_rules | `(tactic| walk_at "step") => `(tactic| ((with_reducible apply iI); rotate_left; (· (first | (exact Or.inl ⟨by omega, by omega⟩) | (exact Or.inr ⟨by omega, by omega⟩) | (show (0:Int) < _; omega) | (show (0:Int) ≤ _; omega) | (exact ⟨by omega, by omega⟩) | (exact ⟨by decide, by decide, by decide⟩)))))
local macro_rules | `(tactic| walk_at "step") => `(tactic| ((with_reducible apply iAugK); (· rfl)))
local macro_rules | `(tactic| walk_at "step") => `(tactic| ((with_reducible apply iRngI); (· first | decide | omega); (· first | decide | omega)))
local macro_rules | `(tactic| walk_at "step") => `(tactic| (with_reducible refine iWPut ?_))
local macro_rules | `(tactic| walk_at "step") => `(tactic| (with_reducible refine iWGet ?_))
local macro_rules | `(tactic| walk_at "step") => `(tactic| (with_reducible refine iWNot ?_))
local macro_rules | `(tactic| walk_at "step") => `(tactic| (with_reducible refine iCombK ?_))
local macro_rules | `(tactic| walk_at "step") => `(tactic| (with_reducible refine iDc ?_))
local macro_rules | `(tactic| walk_at "step") => `(tactic| (with_reducible refine iPar ?_))
local macro_rules | `(tactic| walk_at "step") => `(tactic| (with_reducible refine iItS ?_))
local macro_rules | `(tactic| walk_at "step") => `(tactic| (with_reducible refine iIterS ?_))
local macro_rules | `(tactic| walk_at "step") => `(tactic| (with_reducible refine iIterT ?_))
local macro_rules | `(tactic| walk_at "step") => `(tactic| (with_reducible refine iZA ?_))
local macro_rules | `(tactic| walk_at "step") => `(tactic| (with_reducible refine iRg3 ?_))
local macro_rules | `(tactic| walk_at "step") => `(tactic| (with_reducible refine iRv ?_))
local macro_rules | `(tactic| walk_at "step") => `(tactic| (with_reducible refine iNoPart ?_))
local macro_rules | `(tactic| walk_at "step") => `(tactic| (with_reducible refine iPartI ?_))
local macro_rules | `(tactic| walk_at "step") => `(tactic| (with_reducible refine iPart ?_))
local macro_rules | `(tactic| walk_at "step") => `(tactic| (with_reducible refine iSl ?_))
local macro_rules | `(tactic| walk_at "step") => `(tactic| (with_reducible refine iDEa ?_))
local macro_rules | `(tactic| walk_at "step") => `(tactic| (with_reducible refine iGNil ?_))
local macro_rules | `(tactic| walk_at "step") => `(tactic| (with_reducible refine iGCons ?_))
local macro_rules | `(tactic| walk_at "step") => `(tactic| (with_reducible refine iZipK ?_))
local macro_rules | `(tactic| walk_at "step") => `(tactic| (with_reducible refine iRng2 ?_))
local macro_rules | `(tactic| walk_at "step") => `(tactic| (with_reducible refine iDPut ?_))
local macro_rules | `(tactic| walk_at "step") => `(tactic| (with_reducible refine iDNotIn ?_))
local macro_rules | `(tactic| walk_at "step") => `(tactic| (with_reducible refine iDIn ?_))
local macro_rules | `(tactic| walk_at "step") => `(tactic| (with_reducible refine iDGet ?_))
local macro_rules | `(tactic| walk_at "step") => `(tactic| (with_reducible refine iYes ?_))
local macro_rules | `(tactic| walk_at "step") => `(tactic| (with_reducible refine iLc ?_))
local macro_rules | `(tactic| walk_at "step") => `(tactic| (with_reducible refine iNeS ?_))
local macro_rules | `(tactic| walk_at "step") => `(tactic| (with_reducible refine iEqS ?_))
local macro_rules | `(tactic| walk_at "step") => `(tactic| (with_reducible refine iNeB ?_))
local macro_rules | `(tactic| walk_at "step") => `(tactic| (with_reducible refine iEqB ?_))
local macro_rules | `(tactic| walk_at "step") => `(tactic| (with_reducible refine iCont ?_))
local macro_rules | `(tactic| walk_at "step") => `(tactic| (with_reducible refine iBreak ?_))
local macro_rules | `(tactic| walk_at "step") => `(tactic| (with_reducible refine iIterL ?_))
local macro_rules | `(tactic| walk_at "step") => `(tactic| (with_reducible refine iTup ?_))
local macro_rules | `(tactic| walk_at "step") => `(tactic| (with_reducible refine iLst ?_))
local macro_rules | `(tactic| walk_at "step") => `(tactic| (with_reducible refine iSub ?_))
local macro_rules | `(tactic| walk_at "step") => `(tactic| (with_reducible refine iIpI ?_))
local macro_rules | `(tactic| walk_at "step") => `(tactic| (with_reducible refine iAugS ?_))
local macro_rules | `(tactic| walk_at "step") => `(tactic| (with_reducible refine iNotV ?_))
local macro_rules | `(tactic| walk_at "step") => `(tactic| (with_reducible refine iOrV ?_))
local macro_rules | `(tactic| walk_at "step") => `(tactic| (with_reducible refine iAndV ?_))
local macro_rules | `(tactic| walk_at "step") => `(tactic| (with_reducible refine iDGet1 ?_))
local macro_rules | `(tactic| walk_at "step") => `(tactic| (with_reducible refine iNotBl ?_))
local macro_rules | `(tactic| walk_at "step") => `(tactic| (with_reducible refine iIsB ?_))
local macro_rules | `(tactic| walk_at "step") => `(tactic| (with_reducible refine iIntB ?_))
local macro_rules | `(tactic| walk_at "step") => `(tactic| (with_reducible refine iPn ?_))
local macro_rules | `(tactic| walk_at "step") => `(tactic| (with_reducible refine iPr ?_))
local macro_rules | `(tactic| walk_at "step") => `(tactic| (with_reducible refine iRai ?_))
local macro_rules | `(tactic| walk_at "step") => `(tactic| (with_reducible refine iRev1 ?_))
local macro_rules | `(tactic| walk_at "step") => `(tactic| (with_reducible refine iBM ?_))
local macro_rules | `(tactic| walk_at "step") => `(tactic| (with_reducible refine iAugF ?_))
local macro_rules | `(tactic| walk_at "step") => `(tactic| (with_reducible refine iSto ?_))
local macro_rules | `(tactic| walk_at "step") => `(tactic| (with_reducible refine iFld ?_))
local macro_rules | `(tactic| walk_at "step") => `(tactic| (with_reducible refine iMakS ?_))
local macro_rules | `(tactic| walk_at "step") => `(tactic| (with_reducible refine iMak ?_))
local macro_rules | `(tactic| walk_at "step") => `(tactic| (with_reducible refine iMet ?_))
local macro_rules | `(tactic| walk_at "step") => `(tactic| (with_reducible refine iCalE ?_))
local macro_rules | `(tactic| walk_at "step") => `(tactic| (with_reducible refine ifDr ?_))
local macro_rules | `(tactic| walk_at "step") => `(tactic| (with_reducible refine ifNDr ?_))
local macro_rules | `(tactic| walk_at "step") => `(tactic| (with_reducible refine iTruI ?_))
local macro_rules | `(tactic| walk_at "step") => `(tactic| (with_reducible refine iNotN ?_))
local macro_rules | `(tactic| walk_at "step") => `(tactic| (with_reducible refine iIsN ?_))
local macro_rules | `(tactic| walk_at "step") => `(tactic| (with_reducible refine iRetN ?_))
local macro_rules | `(tactic| walk_at "step") => `(tactic| (with_reducible refine iU ?_))
local macro_rules | `(tactic| walk_at "step") => `(tactic| (with_reducible refine iUn ?_))
local macro_rules | `(tactic| walk_at "step") => `(tactic| (with_reducible refine iChain ?_))
local macro_rules | `(tactic| walk_at "step") => `(tactic| (with_reducible refine iIf ?_))
local macro_rules | `(tactic| walk_at "step") => `(tactic| (with_reducible refine iB ?_))
local macro_rules | `(tactic| walk_at "step") => `(tactic| (with_reducible refine iNot ?_))
local macro_rules | `(tactic| walk_at "step") => `(tactic| (with_reducible refine iOr ?_))
local macro_rules | `(tactic| walk_at "step") => `(tactic| (with_reducible refine iAnd ?_))
local macro_rules | `(tactic| walk_at "step") => `(tactic| (with_reducible refine iCal ?_))
local macro_rules | `(tactic| walk_at "step") => `(tactic| (with_reducible refine iRng ?_))
local macro_rules | `(tactic| walk_at "step") => `(tactic| (with_reducible refine iFor ?_))
local macro_rules | `(tactic| walk_at "step") => `(tactic| (with_reducible refine iInt ?_))
local macro_rules | `(tactic| walk_at "step") => `(tactic| (with_reducible refine iNeI ?_))
local macro_rules | `(tactic| walk_at "step") => `(tactic| (with_reducible refine iEqI ?_))
local macro_rules | `(tactic| walk_at "step") => `(tactic| (with_reducible refine iDrop ?_))
local macro_rules | `(tactic| walk_at "step") => `(tactic| (with_reducible refine iNext ?_))
local macro_rules | `(tactic| walk_at "step") => `(tactic| (with_reducible refine iRet ?_))
local macro_rules | `(tactic| walk_at "step") => `(tactic| (with_reducible refine iBl ?_))
local macro_rules | `(tactic| walk_at "step") => `(tactic| (with_reducible refine iTest ?_))
local macro_rules | `(tactic| walk_at "step") => `(tactic| (with_reducible refine iIfS ?_))
local macro_rules | `(tactic| walk_at "step") => `(tactic| (with_reducible refine iCB ?_))
local macro_rules | `(tactic| walk_at "step") => `(tactic| (with_reducible refine iNil ?_))
local macro_rules | `(tactic| walk_at "step") => `(tactic| (with_reducible refine iCons ?_))
local macro_rules | `(tactic| walk_at "step") => `(tactic| (with_reducible refine iI0 ?_))
local macro_rules | `(tactic| walk_at "step") => `(tactic| (with_reducible refine iOp ?_))
local macro_rules | `(tactic| walk_at "step") => `(tactic| (with_reducible refine iC ?_))
local macro_rules | `(tactic| walk_at "step") => `(tactic| ((with_reducible apply iVar); (· rfl)))
local macro_rules | `(tactic| walk_at "step") => `(tactic| ((with_reducible apply iName); (· repeat constructor)))
local macro_rules | `(tactic| walk_at "step") => `(tactic| (with_reducible refine iAsg ?_))
local macro_rules | `(tactic| walk_at "step") => `(tactic| (with_reducible refine iSeq ?_))
local macro_rules | `(tactic| walk_at "go") => `(tactic| (repeat walk_at "step"))
section
variable {P : Program} {w : World} {K : PySem.W.Frag} {mg : Str → Option Value} {base : Heap}
/-! ### the law's packed sectors -/
theorem secN_len (f : Nat → B) : (secN f).length = 32 := by unfold secN; rw [List.length_map, List.length_range]
theorem secN_lt (f : Nat → B) : ∀ b ∈ secN f, b < 256 := fun b hb => by
  obtain ⟨t, _, rfl⟩ := List.mem_map.mp hb
  exact (f t).h
theorem packN_take {l : List Nat} {i b : Nat} (h : l[i]? = some b) : packN (l.take (i + 1)) = packN (l.take i) * 256 + b := by
  rw [List.take_succ, h]
  exact packN_snoc _ _
def sp_packed : Sp := fun vs H Q _ => ∃ (p : Addr) (f : Nat → B), vs = [.ref p] ∧ H p = some (.lst (bl f)) ∧ Q (.int (packN (secN f) : Nat)) H
theorem ok_packed (M : Mg mg) {f : Addr} {fd : FuncData} (F : Fun K "_law_packed" "_law_packed" s__law_packed f fd) : FnOk P w K mg base CX0 1 f fd ["sector"] sp_packed := by
  refine F.ok sc__law_packed (fun vs H Q E h => ?_) (fun cdv A outer s H vs Q E hr h => ?_)
  · obtain ⟨p, g, rfl, _⟩ := h; rfl
  · obtain ⟨p, g, rfl, hp, q⟩ := h
    refine ⟨_, (pss_cons (ps_set (i := 1) sc__law_packed.nd rfl (Or.inl rfl) pe_int) (pss_cons (ps_for PassesOwn.never rfl (pi_l (pv 0)) (pg_name (i := 2) sc__law_packed.nd rfl (Or.inl rfl)) (pss_one (ps_set (i := 1) sc__law_packed.nd rfl (Or.inl rfl) (pe_op op_add (pe_op op_mul (pv 1) pe_int) (pv 2))))) (pss_one (ps_ret (pv 1))))), ?_⟩
    refine iBody (by repeat constructor) ?_
    walk_at "go"
    refine forJ_list (bl g) (fun i σ' H' => (∃ x, σ' = [some (.ref p), some (.int (packN ((secN g).take i) : Nat)), x]) ∧ H' = H) ⟨⟨_, rfl⟩, rfl⟩ (fun i σ' H' _ h => by rw [h.2]; exact hp) (fun i x σ' H' hx h => ?_) (fun σ' H' h => ?_)
    · obtain ⟨⟨y, rfl⟩, rfl⟩ := h
      have hi : i < 32 := by
        have := (List.getElem?_eq_some_iff.mp hx).1
        rwa [bl_len] at this
      rw [bl_get g hi] at hx
      cases hx
      have hb : (secN g)[i]? = some (g i).v := by unfold secN; rw [List.getElem?_map, List.getElem?_range hi]; rfl
      walk_at "go"
      have ee : ((packN ((secN g).take (i + 1)) : Nat) : Int) = (packN ((secN g).take i) : Nat) * 256 + ((g i).v : Nat) := by rw [packN_take hb]; omega
      rw [ee]
      exact ⟨⟨_, rfl⟩, rfl⟩
    · obtain ⟨⟨y, rfl⟩, rfl⟩ := h
      walk_at "go"
      rw [List.take_of_length_le (by rw [bl_len, secN_len]; exact Nat.le_refl _)]
      exact q
end
end R
set_option Elab.async false
set_option linter.all false
set_option maxRecDepth 100000
set_option maxHeartbeats 4000000
namespace R
open PySem PySem.Spec L2
open Evl (Ex)
abbrev s__law_subsets : Stmt := topS 28
theorem sc__law_subsets : FnScope ["places", "count", "found", "place", "chosen"] ["places", "count"] (defScope s__law_subsets) := ⟨rfl, rfl, rfl, by decide +kernel, rfl, by decide +kernel, by decide +kernel⟩
local macro_rules | `(tactic| walk_at "ne") => `(tactic| (apply Ne.symm; apply ne_fresh; (· assumption); (· walk_at "look")))
local macro_rules | `(tactic| walk_at "ne") => `(tactic| (apply ne_fresh; (· assumption); (· walk_at "look")))
local macro_rules | `(tactic| walk_at "ne") => `(tactic| (apply Ne.symm; assumption))
local macro_rules | `(tactic| walk_at "ne") => `(tactic| assumption)
local macro_rules | `(tactic| walk_at "look") => `(tactic| (refine exAt (by assumption) ?_; walk_at "look"))
local macro_rules | `(tactic| walk_at "look") => `(tactic| (refine (upd_ne ?_).trans ?_; (· walk_at "ne"); (· walk_at "look")))
local macro_rules | `(tactic| walk_at "look") => `(tactic| exact upd_same)
local macro_rules | `(tactic| walk_at "look") => `(tactic| assumption)
local macro_rules | `(tactic| walk_at "side") => `(tactic| (exact ⟨by decide, by decide, by decide⟩))
local macro_rules | `(tactic| walk_at "side") => `(tactic| (exact ⟨by omega, by omega⟩))
local macro_rules | `(tactic| walk_at "side") => `(tactic| (show (0:Int) ≤ _; omega))
local macro_rules | `(tactic| walk_at "side") => `(tactic| (show (0:Int) < _; omega))
local macro_rules | `(tactic| walk_at "side") => `(tactic| (exact Or.inr ⟨by omega, by omega⟩))
local macro_rules | `(tactic| walk_at "side") => `(tactic| (exact Or.inl ⟨by omega, by omega⟩))
local macro_rules | `(tactic| walk_at "step") => `(tactic| ((with_reducible apply iDcT); (· rfl)))
local macro_rules | `(tactic| walk_at "step") => `(tactic| ((with_reducible apply iParI); (· repeat constructor); (· repeat constructor)))
local macro_rules | `(tactic| walk_at "step") => `(tactic| ((with_reducible apply iItT); (· walk_at "look")))
local macro_rules | `(tactic| walk_at "step") => `(tactic| ((with_reducible apply iZL); (· walk_at "look"); (· walk_at "look")))
local macro_rules | `(tactic| walk_at "step") => `(tactic| ((with_reducible apply iItL); (· walk_at "look")))
local macro_rules | `(tactic| walk_at "step") => `(tactic| ((with_reducible apply iRng2I); (· omega); (· omega); (· omega); (· omega)))
local macro_rules | `(tactic| walk_at "step") => `(tactic| ((with_reducible apply iDNi); (· walk_at "look")))
local macro_rules | `(tactic| walk_at "step") => `(tactic| ((with_reducible apply iDIi); (· walk_at "look")))
local macro_rules | `(tactic| walk_at "step") => `(tactic| ((with_reducible apply iGTup); (· walk_at "look"); (· rfl)))
local macro_rules | `(tactic| walk_at "step") => `(tactic| ((with_reducible apply iLcB); (· rfl)))
local macro_rules | `(tactic| walk_at "step") => `(tactic| ((with_reducible apply ifNn); (· omega)))
local macro_rules | `(tactic| walk_at "step") => `(tactic| ((with_reducible apply ifNp); (· omega)))
local macro_rules | `(tactic| walk_at "step") => `(tactic| ((with_reducible apply ifF); (· apply decide_eq_false; omega)))
local macro_rules | `(tactic| walk_at "step") => `(tactic| ((with_reducible apply ifT); (· apply decide_eq_true; omega)))
local macro_rules | `(tactic| walk_at "step") => `(tactic| ((with_reducible apply ifF); (· rfl)))
local macro_rules | `(tactic| walk_at "step") => `(tactic| ((with_reducible apply ifT); (· rfl)))
local macro_rules | `(tactic| walk_at "step") => `(tactic| ((with_reducible apply iLenS); (· first | exact Or.inl (by walk_at "look") | exact Or.inr (by walk_at "look"))))
local macro_rules | `(tactic| walk_at "step") => `(tactic| ((with_reducible apply iLenT); (· walk_at "look")))
local macro_rules | `(tactic| walk_at "step") => `(tactic| ((with_reducible apply iIsi); (· first | exact tyN_int | exact tyN_bl | exact tyN_non | exact tyN_str | exact tyN_lst (by walk_at "look") | exact tyN_tup (by walk_at "look")); (· (first | exact kb_NoneType_bool | exact kb_NoneType_int | exact kb_NoneType_str | exact kb_NoneType_tuple | exact kb_NoneType_list | exact kb_bool_bool | exact kb_bool_int | exact kb_bool_str | exact kb_bool_tuple | exact kb_bool_list | exact kb_int_bool | exact kb_int_int | exact kb_int_str | exact kb_int_tuple | exact kb_int_list | exact kb_str_bool | exact kb_str_int | exact kb_str_str | exact kb_str_tuple | exact kb_str_list | exact kb_tuple_bool | exact kb_tuple_int | exact kb_tuple_str | exact kb_tuple_tuple | exact kb_tuple_list | exact kb_list_bool | exact kb_list_int | exact kb_list_str | exact kb_list_tuple | exact kb_list_list))))
local macro_rules | `(tactic| walk_at "step") => `(tactic| ((with_reducible apply iIxT); (· walk_at "look"); (· rfl)))
local macro_rules | `(tactic| walk_at "step") => `(tactic| ((with_reducible apply iSetL); (· walk_at "look"); (· rfl)))
local macro_rules | `(tactic| walk_at "step") => `(tactic| ((with_reducible apply iLenL); (· walk_at "look")))
local macro_rules | `(tactic| walk_at "step") => `(tactic| ((with_reducible apply iIxL); (· walk_at "look"); (· rfl)))
local macro_rules | `(tactic| walk_at "step") => `(tactic| ((with_reducible apply iI); rotate_left; (· (first | (exact Or.inl ⟨by omega, by omega⟩) | (exact Or.inr ⟨by omega, by omega⟩) | (show (0:Int) < _; omega) | (show (0:Int) ≤ _; omega) | (exact ⟨by omega, by omega⟩) | (exact ⟨by decide, by decide, by decide⟩)))))
local macro_rules | `(tactic| walk_at "step") => `(tactic| ((with_reducible apply iAugK); (· rfl)))
local macro_rules | `(tactic| walk_at "step") => `(tactic| ((with_reducible apply iRngI); (· first | decide | omega); (· first | decide | omega)))
local macro_rules | `(tactic| walk_at "step") => `(tactic| (with_reducible refine iWPut ?_))
local macro_rules | `(tactic| walk_at "step") => `(tactic| (with_reducible refine iWGet ?_))
local macro_rules | `(tactic| walk_at "step") => `(tactic| (with_reducible refine iWNot ?_))
local macro_rules | `(tactic| walk_at "step") => `(tactic| (with_reducible refine iCombK ?_))
local macro_rules | `(tactic| walk_at "step") => `(tactic| (with_reducible refine iDc ?_))
local macro_rules | `(tactic| walk_at "step") => `(tactic| (with_reducible refine iPar ?_))
local macro_rules | `(tactic| walk_at "step") => `(tactic| (with_reducible refine iItS ?_))
local macro_rules | `(tactic| walk_at "step") => `(tactic| (with_reducible refine iIterS ?_))
local macro_rules | `(tactic| walk_at "step") => `(tactic| (with_reducible refine iIterT ?_))
local macro_rules | `(tactic| walk_at "step") => `(tactic| (with_reducible refine iZA ?_))
local macro_rules | `(tactic| walk_at "step") => `(tactic| (with_reducible refine iRg3 ?_))
local macro_rules | `(tactic| walk_at "step") => `(tactic| (with_reducible refine iRv ?_))
local macro_rules | `(tactic| walk_at "step") => `(tactic| (with_reducible refine iNoPart ?_))
local macro_rules | `(tactic| walk_at "step") => `(tactic| (with_reducible refine iPartI ?_))
local macro_rules | `(tactic| walk_at "step") => `(tactic| (with_reducible refine iPart ?_))
local macro_rules | `(tactic| walk_at "step") => `(tactic| (with_reducible refine iSl ?_))
local macro_rules | `(tactic| walk_at "step") => `(tactic| (with_reducible refine iDEa ?_))
local macro_rules | `(tactic| walk_at "step") => `(tactic| (with_reducible refine iGNil ?_))
local macro_rules | `(tactic| walk_at "step") => `(tactic| (with_reducible refine iGCons ?_))
local macro_rules | `(tactic| walk_at "step") => `(tactic| (with_reducible refine iZipK ?_))
local macro_rules | `(tactic| walk_at "step") => `(tactic| (with_reducible refine iRng2 ?_))
local macro_rules | `(tactic| walk_at "step") => `(tactic| (with_reducible refine iDPut ?_))
local macro_rules | `(tactic| walk_at "step") => `(tactic| (with_reducible refine iDNotIn ?_))
local macro_rules | `(tactic| walk_at "step") => `(tactic| (with_reducible refine iDIn ?_))
local macro_rules | `(tactic| walk_at "step") => `(tactic| (with_reducible refine iDGet ?_))
local macro_rules | `(tactic| walk_at "step") => `(tactic| (with_reducible refine iYes ?_))
local macro_rules | `(tactic| walk_at "step") => `(tactic| (with_reducible refine iLc ?_))
local macro_rules | `(tactic| walk_at "step") => `(tactic| (with_reducible refine iNeS ?_))
local macro_rules | `(tactic| walk_at "step") => `(tactic| (with_reducible refine iEqS ?_))
local macro_rules | `(tactic| walk_at "step") => `(tactic| (with_reducible refine iNeB ?_))
local macro_rules | `(tactic| walk_at "step") => `(tactic| (with_reducible refine iEqB ?_))
local macro_rules | `(tactic| walk_at "step") => `(tactic| (with_reducible refine iCont ?_))
local macro_rules | `(tactic| walk_at "step") => `(tactic| (with_reducible refine iBreak ?_))
local macro_rules | `(tactic| walk_at "step") => `(tactic| (with_reducible refine iIterL ?_))
local macro_rules | `(tactic| walk_at "step") => `(tactic| (with_reducible refine iTup ?_))
local macro_rules | `(tactic| walk_at "step") => `(tactic| (with_reducible refine iLst ?_))
local macro_rules | `(tactic| walk_at "step") => `(tactic| (with_reducible refine iSub ?_))
local macro_rules | `(tactic| walk_at "step") => `(tactic| (with_reducible refine iIpI ?_))
local macro_rules | `(tactic| walk_at "step") => `(tactic| (with_reducible refine iAugS ?_))
local macro_rules | `(tactic| walk_at "step") => `(tactic| (with_reducible refine iNotV ?_))
local macro_rules | `(tactic| walk_at "step") => `(tactic| (with_reducible refine iOrV ?_))
local macro_rules | `(tactic| walk_at "step") => `(tactic| (with_reducible refine iAndV ?_))
local macro_rules | `(tactic| walk_at "step") => `(tactic| (with_reducible refine iDGet1 ?_))
local macro_rules | `(tactic| walk_at "step") => `(tactic| (with_reducible refine iNotBl ?_))
local macro_rules | `(tactic| walk_at "step") => `(tactic| (with_reducible refine iIsB ?_))
local macro_rules | `(tactic| walk_at "step") => `(tactic| (with_reducible refine iIntB ?_))
local macro_rules | `(tactic| walk_at "step") => `(tactic| (with_reducible refine iPn ?_))
local macro_rules | `(tactic| walk_at "step") => `(tactic| (with_reducible refine iPr ?_))
local macro_rules | `(tactic| walk_at "step") => `(tactic| (with_reducible refine iRai ?_))
local macro_rules | `(tactic| walk_at "step") => `(tactic| (with_reducible refine iRev1 ?_))
local macro_rules | `(tactic| walk_at "step") => `(tactic| (with_reducible refine iBM ?_))
local macro_rules | `(tactic| walk_at "step") => `(tactic| (with_reducible refine iAugF ?_))
local macro_rules | `(tactic| walk_at "step") => `(tactic| (with_reducible refine iSto ?_))
local macro_rules | `(tactic| walk_at "step") => `(tactic| (with_reducible refine iFld ?_))
local macro_rules | `(tactic| walk_at "step") => `(tactic| (with_reducible refine iMakS ?_))
local macro_rules | `(tactic| walk_at "step") => `(tactic| (with_reducible refine iMak ?_))
local macro_rules | `(tactic| walk_at "step") => `(tactic| (with_reducible refine iMet ?_))
local macro_rules | `(tactic| walk_at "step") => `(tactic| (with_reducible refine iCalE ?_))
local macro_rules | `(tactic| walk_at "step") => `(tactic| (with_reducible refine ifDr ?_))
local macro_rules | `(tactic| walk_at "step") => `(tactic| (with_reducible refine ifNDr ?_))
local macro_rules | `(tactic| walk_at "step") => `(tactic| (with_reducible refine iTruI ?_))
local macro_rules | `(tactic| walk_at "step") => `(tactic| (with_reducible refine iNotN ?_))
local macro_rules | `(tactic| walk_at "step") => `(tactic| (with_reducible refine iIsN ?_))
local macro_rules | `(tactic| walk_at "step") => `(tactic| (with_reducible refine iRetN ?_))
local macro_rules | `(tactic| walk_at "step") => `(tactic| (with_reducible refine iU ?_))
local macro_rules | `(tactic| walk_at "step") => `(tactic| (with_reducible refine iUn ?_))
local macro_rules | `(tactic| walk_at "step") => `(tactic| (with_reducible refine iChain ?_))
local macro_rules | `(tactic| walk_at "step") => `(tactic| (with_reducible refine iIf ?_))
local macro_rules | `(tactic| walk_at "step") => `(tactic| (with_reducible refine iB ?_))
local macro_rules | `(tactic| walk_at "step") => `(tactic| (with_reducible refine iNot ?_))
local macro_rules | `(tactic| walk_at "step") => `(tactic| (with_reducible refine iOr ?_))
local macro_rules | `(tactic| walk_at "step") => `(tactic| (with_reducible refine iAnd ?_))
local macro_rules | `(tactic| walk_at "step") => `(tactic| (with_reducible refine iCal ?_))
local macro_rules | `(tactic| walk_at "step") => `(tactic| (with_reducible refine iRng ?_))
local macro_rules | `(tactic| walk_at "step") => `(tactic| (with_reducible refine iFor ?_))
local macro_rules | `(tactic| walk_at "step") => `(tactic| (with_reducible refine iInt ?_))
local macro_rules | `(tactic| walk_at "step") => `(tactic| (with_reducible refine iNeI ?_))
local macro_rules | `(tactic| walk_at "step") => `(tactic| (with_reducible refine iEqI ?_))
local macro_rules | `(tactic| walk_at "step") => `(tactic| (with_reducible refine iDrop ?_))
local macro_rules | `(tactic| walk_at "step") => `(tactic| (with_reducible refine iNext ?_))
local macro_rules | `(tactic| walk_at "step") => `(tactic| (with_reducible refine iRet ?_))
local macro_rules | `(tactic| walk_at "step") => `(tactic| (with_reducible refine iBl ?_))
local macro_rules | `(tactic| walk_at "step") => `(tactic| (with_reducible refine iTest ?_))
local macro_rules | `(tactic| walk_at "step") => `(tactic| (with_reducible refine iIfS ?_))
local macro_rules | `(tactic| walk_at "step") => `(tactic| (with_reducible refine iCB ?_))
local macro_rules | `(tactic| walk_at "step") => `(tactic| (with_reducible refine iNil ?_))
local macro_rules | `(tactic| walk_at "step") => `(tactic| (with_reducible refine iCons ?_))
local macro_rules | `(tactic| walk_at "step") => `(tactic| (with_reducible refine iI0 ?_))
local macro_rules | `(tactic| walk_at "step") => `(tactic| (with_reducible refine iOp ?_))
local macro_rules | `(tactic| walk_at "step") => `(tactic| (with_reducible refine iC ?_))
local macro_rules | `(tactic| walk_at "step") => `(tactic| ((with_reducible apply iVar); (· rfl)))
local macro_rules | `(tactic| walk_at "step") => `(tactic| ((with_reducible apply iName); (· repeat constructor)))
local macro_rules | `(tactic| walk_at "step") => `(tactic| (with_reducible refine iAsg ?_))
local macro_rules | `(tactic| walk_at "step") => `(tactic| (with_reducible refine iSeq ?_))
local macro_rules | `(tactic| walk_at "go") => `(tactic| (repeat walk_at "step"))
section
variable {P : Program} {w : World} {K : PySem.W.Frag} {mg : Str → Option Value} {base : Heap}
/-! ### the law's rows of places -/
inductive RowsAt (H : Hp) : List V → List (List Nat) → Prop
  | nil : RowsAt H [] []
  | cons {p : Addr} {r : List Nat} {vs : List V} {rs : List (List Nat)} (h : H p = some (.lst (nsV r))) (t : RowsAt H vs rs) : RowsAt H (.ref p :: vs) (r :: rs)
theorem RowsAt.ex {H H' : Hp} (e : Ex H H') : ∀ {vs : List V} {rs : List (List Nat)}, RowsAt H vs rs → RowsAt H' vs rs
  | _, _, .nil => .nil
  | _, _, .cons h t => .cons (e _ _ h) (t.ex e)
theorem RowsAt.len {H : Hp} : ∀ {vs : List V} {rs : List (List Nat)}, RowsAt H vs rs → vs.length = rs.length
  | _, _, .nil => rfl
  | _, _, .cons _ t => congrArg Nat.succ t.len
theorem RowsAt.app {H : Hp} : ∀ {vs ws : List V} {rs qs : List (List Nat)}, RowsAt H vs rs → RowsAt H ws qs → RowsAt H (vs ++ ws) (rs ++ qs)
  | _, _, _, _, .nil, b => b
  | _, _, _, _, .cons h t, b => .cons h (t.app b)
theorem RowsAt.get {H : Hp} : ∀ {vs : List V} {rs : List (List Nat)}, RowsAt H vs rs → ∀ {i : Nat} {v : V}, vs[i]? = some v → ∃ p r, v = .ref p ∧ rs[i]? = some r ∧ H p = some (.lst (nsV r))
  | _, _, .nil, i, _, h => by simp at h
  | _, _, .cons (p := p) (r := r) h _, 0, _, e => by
    cases e
    exact ⟨p, r, rfl, rfl, h⟩
  | _, _, .cons _ t, i + 1, _, e => t.get (i := i) e
theorem subStep_len (k x : Nat) (fs : List (List Nat)) : (subStep k fs x).length ≤ 2 * fs.length := by
  unfold subStep
  have := (List.filter_sublist (p := fun r : List Nat => decide (r.length < k)) (l := fs)).length_le
  rw [List.length_append, List.length_map]
  omega
theorem subs_len (k : Nat) (l : List Nat) : ∀ i, i ≤ l.length → (subs k (l.take i)).length ≤ 2 ^ i
  | 0, _ => by simp [subs]
  | i + 1, h => by
    have ih := subs_len k l i (by omega)
    obtain ⟨x, hx⟩ : ∃ x, l[i]? = some x := ⟨_, List.getElem?_eq_getElem (by omega)⟩
    rw [List.take_succ, hx]
    show (subs k (l.take i ++ [x])).length ≤ _
    rw [subs_snoc, Nat.pow_succ]
    have := subStep_len k x (subs k (l.take i))
    omega
def growR (k x : Nat) (rs : List (List Nat)) (j : Nat) : List (List Nat) := ((rs.take j).filter fun r => decide (r.length < k)).map (· ++ [x])
theorem growR_succ {k x j : Nat} {rs : List (List Nat)} {r : List Nat} (h : rs[j]? = some r) : growR k x rs (j + 1) = growR k x rs j ++ (if r.length < k then [r ++ [x]] else []) := by
  unfold growR
  rw [List.take_succ, h]
  show List.map _ (List.filter _ (rs.take j ++ [r])) = _
  rw [List.filter_append, List.map_append]
  by_cases z : r.length < k
  · simp [List.filter_cons, z]
  · simp [List.filter_cons, z]
theorem growR_len (k x : Nat) (rs : List (List Nat)) (j : Nat) : (growR k x rs j).length ≤ rs.length := by
  unfold growR
  have := (List.filter_sublist (p := fun r : List Nat => decide (r.length < k)) (l := rs.take j)).length_le
  rw [List.length_take] at this
  rw [List.length_map]
  omega
def eqR (k : Nat) (rs : List (List Nat)) (j : Nat) : List (List Nat) := (rs.take j).filter fun r => decide (r.length = k)
theorem eqR_succ {k j : Nat} {rs : List (List Nat)} {r : List Nat} (h : rs[j]? = some r) : eqR k rs (j + 1) = eqR k rs j ++ (if r.length = k then [r] else []) := by
  unfold eqR
  rw [List.take_succ, h]
  show List.filter _ (rs.take j ++ [r]) = _
  rw [List.filter_append]
  by_cases z : r.length = k
  · simp [List.filter_cons, z]
  · simp [List.filter_cons, z]
def sp_subsets : Sp := fun vs H Q _ => ∃ (p : Addr) (P : List Nat) (k : Nat), vs = [.ref p, .int k] ∧ H p = some (.lst (nsV P)) ∧ P.length ≤ 8 ∧ k ≤ 8 ∧ ∀ q ws H', Ex H H' → H' q = some (.lst ws) → RowsAt H' ws ((subs k P).filter fun r => decide (r.length = k)) → Q (.ref q) H'
theorem ok_subsets (M : Mg mg) {f : Addr} {fd : FuncData} (F : Fun K "_law_subsets" "_law_subsets" s__law_subsets f fd) : FnOk P w K mg base CX0 1 f fd ["places", "count"] sp_subsets := by
  refine F.ok sc__law_subsets (fun vs H Q E h => ?_) (fun cdv A outer s H vs Q E hr h => ?_)
  · obtain ⟨p, P, k, rfl, _⟩ := h; rfl
  · obtain ⟨p, P, k, rfl, hp, h8, k8, q⟩ := h
    refine ⟨_, (pss_cons (ps_set (i := 2) sc__law_subsets.nd rfl (Or.inl rfl) (pe_lst (pa_cons (pe_lst pa_nil) pa_nil))) (pss_cons (ps_for PassesOwn.never rfl (pi_l (pv 0)) (pg_name (i := 3) sc__law_subsets.nd rfl (Or.inr rfl)) (pss_one (ps_set (i := 2) sc__law_subsets.nd rfl (Or.inl rfl) (pe_op op_cat (pv 2) (pe_lc (own := [("chosen", 4)]) (g := (gName 4)) (tt := _) (by rfl) sc__law_subsets.nd (pi_l (pv 2)) (blkOk_by (own := [("chosen", 4)]) (N := ["places", "count", "found", "place", "chosen"]) (sc := defScope s__law_subsets) (by decide +kernel)) (fun _ _ _ _ _ => (pg_name (i := 4) sc__law_subsets.nd rfl (Or.inl rfl))) (fun _ _ _ _ _ => (pts_one (pt_cmpR op_lt (pe_callB len_l (by rfl) M.n_len PySem.boot_len (pa_cons (pv 4) pa_nil)) (pv 1) (nomark _)))) (fun _ _ _ _ _ => (pe_op op_cat (pv 4) (pe_lst (pa_cons (pv 3) pa_nil))))))))) (pss_one (ps_ret (pe_lc (own := [("chosen", 4)]) (g := (gName 4)) (tt := _) (by rfl) sc__law_subsets.nd (pi_l (pv 2)) (blkOk_by (own := [("chosen", 4)]) (N := ["places", "count", "found", "place", "chosen"]) (sc := defScope s__law_subsets) (by decide +kernel)) (fun _ _ _ _ _ => (pg_name (i := 4) sc__law_subsets.nd rfl (Or.inl rfl))) (fun _ _ _ _ _ => (pts_one (pt_cmpR op_eq (pe_callB len_l (by rfl) M.n_len PySem.boot_len (pa_cons (pv 4) pa_nil)) (pv 1) (nomark _)))) (fun _ _ _ _ _ => (pv 4))))))), ?_⟩
    refine iBody (by repeat constructor) ?_
    walk_at "go"
    refine iNewL (by simp) fun l0 hn0 => ?_
    walk_at "go"
    refine iNewL (by simp) fun l1 hn1 => ?_
    have e1 : Ex H (upd (upd H l0 (.lst [])) l1 (.lst [.ref l0])) := (Ex.new hn0).trans (Ex.new hn1)
    have r1 : RowsAt (upd (upd H l0 (.lst [])) l1 (.lst [.ref l0])) [.ref l0] (subs k (P.take 0)) := .cons ((Ex.new hn1) _ _ upd_same) .nil
    have a1 : (upd (upd H l0 (.lst [])) l1 (.lst [.ref l0])) l1 = some (.lst [.ref l0]) := upd_same
    generalize upd (upd H l0 (.lst [])) l1 (.lst [.ref l0]) = H1 at e1 r1 a1 ⊢
    have hp1 := e1 _ _ hp
    walk_at "go"
    refine forJ_list (nsV P) (fun i σ' H' => (∃ a ws x, σ' = [some (.ref p), some (.int k), some (.ref a), x, none] ∧ H' a = some (.lst ws) ∧ RowsAt H' ws (subs k (P.take i))) ∧ Ex H H') ⟨⟨_, _, _, rfl, a1, r1⟩, e1⟩ (fun i σ' H' _ h => h.2 _ _ hp) (fun i x σ' H' hx h => ?_) (fun σ' H' h => ?_)
    · obtain ⟨⟨a, ws, y, rfl, ha, hR⟩, e⟩ := h
      obtain ⟨m, hm, rfl⟩ : ∃ m, P[i]? = some m ∧ x = .int (m : Nat) := by
        unfold nsV at hx
        rw [List.getElem?_map] at hx
        cases z : P[i]? with
        | none => rw [z] at hx; cases hx
        | some m => rw [z] at hx; cases hx; exact ⟨m, rfl, rfl⟩
      have hi := (List.getElem?_eq_some_iff.mp hm).1
      have sl := subs_len k P i (by omega)
      have sl2 : (2 : Nat) ^ i ≤ 2 ^ 8 := Nat.pow_le_pow_right (by decide) (by omega)
      have et : P.take (i + 1) = P.take i ++ [m] := by rw [List.take_succ, hm]; rfl
      have es : subs k (P.take (i + 1)) = subs k (P.take i) ++ growR k m (subs k (P.take i)) (subs k (P.take i)).length := by
        rw [et, subs_snoc]
        unfold subStep growR
        rw [List.take_length]
      have wl := hR.len
      generalize subs k (P.take i) = rs at hR sl es wl
      walk_at "go"
      refine lcR_l ws (fun j acc H2 => RowsAt H2 acc (growR k m rs j)) (by repeat constructor) ha (fun j acc H1 H2 e h => h.ex e) .nil (fun D j acc v H2 hD hv hacc hl e2 hA => ?_) (fun D acc H2 hD e2 hacc hA => ?_)
      · obtain ⟨pr, r, rfl, hr', hpr⟩ := hR.get hv
        have hpr2 := e2 _ _ hpr
        have rl : j < ws.length := (List.getElem?_eq_some_iff.mp hv).1
        walk_at "go"
        rw [nsV_len]
        refine ifD (fun h1 => ?_) (fun h1 => ?_)
        · walk_at "go"
          refine iNewL (by simp) fun l3 hn3 => ?_
          have n3 : pr ≠ l3 := ne_of_none hpr2 hn3
          have nD3 : D ≠ l3 := ne_of_none hacc hn3
          have rk := h1
          refine iCat ((upd_ne n3).trans hpr2) upd_same (by rw [nsV_len]; simp; omega) fun l4 hn4 => ?_
          have a4 : (upd H2 l3 (.lst [.int m])) D = some (.lst acc) := (upd_ne nD3).trans hacc
          have nD4 : D ≠ l4 := ne_of_none a4 hn4
          have e4 : Ex H2 (upd (upd H2 l3 (.lst [.int m])) l4 (.lst (nsV r ++ [.int m]))) := (Ex.new hn3).trans (Ex.new hn4)
          refine iLcR hD (by omega) hl (e2.trans e4) ((upd_ne nD4).trans a4) ?_
          show RowsAt _ _ _
          rw [growR_succ hr', if_pos (by omega)]
          refine (hA.ex (exb_mk' fun p o _ h => e4 p o h)).app (.cons ?_ .nil)
          rw [mk_at nD4.symm, nsV_snoc]
          exact upd_same
        · refine iLcN hacc hl ⟨e2, ?_⟩
          show RowsAt _ _ _
          rw [growR_succ hr', if_neg (by omega), List.append_nil]
          exact hA
      · have ha2 := e2 _ _ ha
        have al := hA.len
        have gl := growR_len k m rs ws.length
        walk_at "go"
        refine iCat ha2 hacc (by omega) fun l5 hn5 => ?_
        have e5 : Ex H2 (upd H2 l5 (.lst (ws ++ acc))) := Ex.new hn5
        rw [wl] at hA
        walk_at "go"
        refine ⟨⟨l5, ws ++ acc, _, rfl, upd_same, ?_⟩, (e.trans e2).trans e5⟩
        rw [es]
        exact (hR.ex (e2.trans e5)).app (hA.ex e5)
    · obtain ⟨⟨a, ws, y, rfl, ha, hR⟩, e⟩ := h
      rw [nsV_len] at hR
      have sl := subs_len k P P.length (Nat.le_refl _)
      have sl2 : (2 : Nat) ^ P.length ≤ 2 ^ 8 := Nat.pow_le_pow_right (by decide) (by omega)
      rw [List.take_length] at hR sl
      generalize subs k P = rs at hR sl q
      have wl := hR.len
      walk_at "go"
      refine lcR_l ws (fun j acc H2 => RowsAt H2 acc (eqR k rs j)) (by repeat constructor) ha (fun j acc H1 H2 e h => h.ex e) .nil (fun D j acc v H2 hD hv hacc hl e2 hA => ?_) (fun D acc H2 hD e2 hacc hA => ?_)
      · obtain ⟨pr, r, rfl, hr', hpr⟩ := hR.get hv
        have hpr2 := e2 _ _ hpr
        have rl : j < ws.length := (List.getElem?_eq_some_iff.mp hv).1
        have nD : D ≠ pr := fun z => by subst z; rw [hD] at hpr; cases hpr
        walk_at "go"
        rw [nsV_len]
        refine ifD (fun h1 => ?_) (fun h1 => ?_)
        · walk_at "go"
          refine iLcR hD (by omega) hl e2 hacc ?_
          show RowsAt _ _ _
          rw [eqR_succ hr', if_pos (by omega)]
          exact hA.app (.cons (by rw [mk_at nD.symm]; exact hpr2) .nil)
        · refine iLcN hacc hl ⟨e2, ?_⟩
          show RowsAt _ _ _
          rw [eqR_succ hr', if_neg (by omega), List.append_nil]
          exact hA
      · rw [wl] at hA
        unfold eqR at hA
        rw [List.take_length] at hA
        walk_at "go"
        exact q D acc H2 (e.trans e2) hacc hA
end
end R
set_option Elab.async false
set_option linter.all false
set_option maxRecDepth 100000
set_option maxHeartbeats 4000000
namespace R
open PySem PySem.Spec L2
open Evl (Ex)
abbrev s__law_doubled : Stmt := topS 26
theorem sc__law_doubled : FnScope ["number", "tops"] ["number"] (defScope s__law_doubled) := ⟨rfl, rfl, rfl, by decide +kernel, rfl, by decide +kernel, by decide +kernel⟩
local macro_rules | `(tactic| walk_at "ne") => `(tactic| (apply Ne.symm; apply ne_fresh; (· assumption); (· walk_at "look")))
local macro_rules | `(tactic| walk_at "ne") => `(tactic| (apply ne_fresh; (· assumption); (· walk_at "look")))
local macro_rules | `(tactic| walk_at "ne") => `(tactic| (apply Ne.symm; assumption))
local macro_rules | `(tactic| walk_at "ne") => `(tactic| assumption)
local macro_rules | `(tactic| walk_at "look") => `(tactic| (refine exAt (by assumption) ?_; walk_at "look"))
local macro_rules | `(tactic| walk_at "look") => `(tactic| (refine (upd_ne ?_).trans ?_; (· walk_at "ne"); (· walk_at "look")))
local macro_rules | `(tactic| walk_at "look") => `(tactic| exact upd_same)
local macro_rules | `(tactic| walk_at "look") => `(tactic| assumption)
local macro_rules | `(tactic| walk_at "side") => `(tactic| (exact ⟨by decide, by decide, by decide⟩))
local macro_rules | `(tactic| walk_at "side") => `(tactic| (exact ⟨by omega, by omega⟩))
local macro_rules | `(tactic| walk_at "side") => `(tactic| (show (0:Int) ≤ _; omega))
local macro_rules | `(tactic| walk_at "side") => `(tactic| (show (0:Int) < _; omega))
local macro_rules | `(tactic| walk_at "side") => `(tactic| (exact Or.inr ⟨by omega, by omega⟩))
local macro_rules | `(tactic| walk_at "side") => `(tactic| (exact Or.inl ⟨by omega, by omega⟩))
local macro_rules | `(tactic| walk_at "step") => `(tactic| ((with_reducible apply iDcT); (· rfl)))
local macro_rules | `(tactic| walk_at "step") => `(tactic| ((with_reducible apply iParI); (· repeat constructor); (· repeat constructor)))
local macro_rules | `(tactic| walk_at "step") => `(tactic| ((with_reducible apply iItT); (· walk_at "look")))
local macro_rules | `(tactic| walk_at "step") => `(tactic| ((with_reducible apply iZL); (· walk_at "look"); (· walk_at "look")))
local macro_rules | `(tactic| walk_at "step") => `(tactic| ((with_reducible apply iItL); (· walk_at "look")))
local macro_rules | `(tactic| walk_at "step") => `(tactic| ((with_reducible apply iRng2I); (· omega); (· omega); (· omega); (· omega)))
local macro_rules | `(tactic| walk_at "step") => `(tactic| ((with_reducible apply iDNi); (· walk_at "look")))
local macro_rules | `(tactic| walk_at "step") => `(tactic| ((with_reducible apply iDIi); (· walk_at "look")))
local macro_rules | `(tactic| walk_at "step") => `(tactic| ((with_reducible apply iGTup); (· walk_at "look"); (· rfl)))
local macro_rules | `(tactic| walk_at "step") => `(tactic| ((with_reducible apply iLcB); (· rfl)))
local macro_rules | `(tactic| walk_at "step") => `(tactic| ((with_reducible apply ifNn); (· omega)))
local macro_rules | `(tactic| walk_at "step") => `(tactic| ((with_reducible apply ifNp); (· omega)))
local macro_rules | `(tactic| walk_at "step") => `(tactic| ((with_reducible apply ifF); (· apply decide_eq_false; omega)))
local macro_rules | `(tactic| walk_at "step") => `(tactic| ((with_reducible apply ifT); (· apply decide_eq_true; omega)))
local macro_rules | `(tactic| walk_at "step") => `(tactic| ((with_reducible apply ifF); (· rfl)))
local macro_rules | `(tactic| walk_at "step") => `(tactic| ((with_reducible apply ifT); (· rfl)))
local macro_rules | `(tactic| walk_at "step") => `(tactic| ((with_reducible apply iLenS); (· first | exact Or.inl (by walk_at "look") | exact Or.inr (by walk_at "look"))))
local macro_rules | `(tactic| walk_at "step") => `(tactic| ((with_reducible apply iLenT); (· walk_at "look")))
local macro_rules | `(tactic| walk_at "step") => `(tactic| ((with_reducible apply iIsi); (· first | exact tyN_int | exact tyN_bl | exact tyN_non | exact tyN_str | exact tyN_lst (by walk_at "look") | exact tyN_tup (by walk_at "look")); (· (first | exact kb_NoneType_bool | exact kb_NoneType_int | exact kb_NoneType_str | exact kb_NoneType_tuple | exact kb_NoneType_list | exact kb_bool_bool | exact kb_bool_int | exact kb_bool_str | exact kb_bool_tuple | exact kb_bool_list | exact kb_int_bool | exact kb_int_int | exact kb_int_str | exact kb_int_tuple | exact kb_int_list | exact kb_str_bool | exact kb_str_int | exact kb_str_str | exact kb_str_tuple | exact kb_str_list | exact kb_tuple_bool | exact kb_tuple_int | exact kb_tuple_str | exact kb_tuple_tuple | exact kb_tuple_list | exact kb_list_bool | exact kb_list_int | exact kb_list_str | exact kb_list_tuple | exact kb_list_list))))
local macro_rules | `(tactic| walk_at "step") => `(tactic| ((with_reducible apply iIxT); (· walk_at "look"); (· rfl)))
local macro_rules | `(tactic| walk_at "step") => `(tactic| ((with_reducible apply iSetL); (· walk_at "look"); (· rfl)))
local macro_rules | `(tactic| walk_at "step") => `(tactic| ((with_reducible apply iLenL); (· walk_at "look")))
local macro_rules | `(tactic| walk_at "step") => `(tactic| ((with_reducible apply iIxL); (· walk_at "look"); (· rfl)))
local macro_rules | `(tactic| walk_at "step") => `(tactic| ((with_reducible apply iI); rotate_left; (· (first | (exact Or.inl ⟨by omega, by omega⟩) | (exact Or.inr ⟨by omega, by omega⟩) | (show (0:Int) < _; omega) | (show (0:Int) ≤ _; omega) | (exact ⟨by omega, by omega⟩) | (exact ⟨by decide, by decide, by decide⟩)))))
local macro_rules | `(tactic| walk_at "step") => `(tactic| ((with_reducible apply iAugK); (· rfl)))
local macro_rules | `(tactic| walk_at "step") => `(tactic| ((with_reducible apply iRngI); (· first | decide | omega); (· first | decide | omega)))
local macro_rules | `(tactic| walk_at "step") => `(tactic| (with_reducible refine iWPut ?_))
local macro_rules | `(tactic| walk_at "step") => `(tactic| (with_reducible refine iWGet ?_))
local macro_rules | `(tactic| walk_at "step") => `(tactic| (with_reducible refine iWNot ?_))
local macro_rules | `(tactic| walk_at "step") => `(tactic| (with_reducible refine iCombK ?_))
local macro_rules | `(tactic| walk_at "step") => `(tactic| (with_reducible refine iDc ?_))
local macro_rules | `(tactic| walk_at "step") => `(tactic| (with_reducible refine iPar ?_))
local macro_rules | `(tactic| walk_at "step") => `(tactic| (with_reducible refine iItS ?_))
local macro_rules | `(tactic| walk_at "step") => `(tactic| (with_reducible refine iIterS ?_))
local macro_rules | `(tactic| walk_at "step") => `(tactic| (with_reducible refine iIterT ?_))
local macro_rules | `(tactic| walk_at "step") => `(tactic| (with_reducible refine iZA ?_))
local macro_rules | `(tactic| walk_at "step") => `(tactic| (with_reducible refine iRg3 ?_))
local macro_rules | `(tactic| walk_at "step") => `(tactic| (with_reducible refine iRv ?_))
local macro_rules | `(tactic| walk_at "step") => `(tactic| (with_reducible refine iNoPart ?_))
local macro_rules | `(tactic| walk_at "step") => `(tactic| (with_reducible refine iPartI ?_))
local macro_rules | `(tactic| walk_at "step") => `(tactic| (with_reducible refine iPart ?_))
local macro_rules | `(tactic| walk_at "step") => `(tactic| (with_reducible refine iSl ?_))
local macro_rules | `(tactic| walk_at "step") => `(tactic| (with_reducible refine iDEa ?_))
local macro_rules | `(tactic| walk_at "step") => `(tactic| (with_reducible refine iGNil ?_))
local macro_rules | `(tactic| walk_at "step") => `(tactic| (with_reducible refine iGCons ?_))
local macro_rules | `(tactic| walk_at "step") => `(tactic| (with_reducible refine iZipK ?_))
local macro_rules | `(tactic| walk_at "step") => `(tactic| (with_reducible refine iRng2 ?_))
local macro_rules | `(tactic| walk_at "step") => `(tactic| (with_reducible refine iDPut ?_))
local macro_rules | `(tactic| walk_at "step") => `(tactic| (with_reducible refine iDNotIn ?_))
local macro_rules | `(tactic| walk_at "step") => `(tactic| (with_reducible refine iDIn ?_))
local macro_rules | `(tactic| walk_at "step") => `(tactic| (with_reducible refine iDGet ?_))
local macro_rules | `(tactic| walk_at "step") => `(tactic| (with_reducible refine iYes ?_))
local macro_rules | `(tactic| walk_at "step") => `(tactic| (with_reducible refine iLc ?_))
local macro_rules | `(tactic| walk_at "step") => `(tactic| (with_reducible refine iNeS ?_))
local macro_rules | `(tactic| walk_at "step") => `(tactic| (with_reducible refine iEqS ?_))
local macro_rules | `(tactic| walk_at "step") => `(tactic| (with_reducible refine iNeB ?_))
local macro_rules | `(tactic| walk_at "step") => `(tactic| (with_reducible refine iEqB ?_))
local macro_rules | `(tactic| walk_at "step") => `(tactic| (with_reducible refine iCont ?_))
local macro_rules | `(tactic| walk_at "step") => `(tactic| (with_reducible refine iBreak ?_))
local macro_rules | `(tactic| walk_at "step") => `(tactic| (with_reducible refine iIterL ?_))
local macro_rules | `(tactic| walk_at "step") => `(tactic| (with_reducible refine iTup ?_))
local macro_rules | `(tactic| walk_at "step") => `(tactic| (with_reducible refine iLst ?_))
local macro_rules | `(tactic| walk_at "step") => `(tactic| (with_reducible refine iSub ?_))
local macro_rules | `(tactic| walk_at "step") => `(tactic| (with_reducible refine iIpI ?_))
local macro_rules | `(tactic| walk_at "step") => `(tactic| (with_reducible refine iAugS ?_))
local macro_rules | `(tactic| walk_at "step") => `(tactic| (with_reducible refine iNotV ?_))
local macro_rules | `(tactic| walk_at "step") => `(tactic| (with_reducible refine iOrV ?_))
local macro_rules | `(tactic| walk_at "step") => `(tactic| (with_reducible refine iAndV ?_))
local macro_rules | `(tactic| walk_at "step") => `(tactic| (with_reducible refine iDGet1 ?_))
local macro_rules | `(tactic| walk_at "step") => `(tactic| (with_reducible refine iNotBl ?_))
local macro_rules | `(tactic| walk_at "step") => `(tactic| (with_reducible refine iIsB ?_))
local macro_rules | `(tactic| walk_at "step") => `(tactic| (with_reducible refine iIntB ?_))
local macro_rules | `(tactic| walk_at "step") => `(tactic| (with_reducible refine iPn ?_))
local macro_rules | `(tactic| walk_at "step") => `(tactic| (with_reducible refine iPr ?_))
local macro_rules | `(tactic| walk_at "step") => `(tactic| (with_reducible refine iRai ?_))
local macro_rules | `(tactic| walk_at "step") => `(tactic| (with_reducible refine iRev1 ?_))
local macro_rules | `(tactic| walk_at "step") => `(tactic| (with_reducible refine iBM ?_))
local macro_rules | `(tactic| walk_at "step") => `(tactic| (with_reducible refine iAugF ?_))
local macro_rules | `(tactic| walk_at "step") => `(tactic| (with_reducible refine iSto ?_))
local macro_rules | `(tactic| walk_at "step") => `(tactic| (with_reducible refine iFld ?_))
local macro_rules | `(tactic| walk_at "step") => `(tactic| (with_reducible refine iMakS ?_))
local macro_rules | `(tactic| walk_at "step") => `(tactic| (with_reducible refine iMak ?_))
local macro_rules | `(tactic| walk_at "step") => `(tactic| (with_reducible refine iMet ?_))
local macro_rules | `(tactic| walk_at "step") => `(tactic| (with_reducible refine iCalE ?_))
local macro_rules | `(tactic| walk_at "step") => `(tactic| (with_reducible refine ifDr ?_))
local macro_rules | `(tactic| walk_at "step") => `(tactic| (with_reducible refine ifNDr ?_))
local macro_rules | `(tactic| walk_at "step") => `(tactic| (with_reducible refine iTruI ?_))
local macro_rules | `(tactic| walk_at "step") => `(tactic| (with_reducible refine iNotN ?_))
local macro_rules | `(tactic| walk_at "step") => `(tactic| (with_reducible refine iIsN ?_))
local macro_rules | `(tactic| walk_at "step") => `(tactic| (with_reducible refine iRetN ?_))
local macro_rules | `(tactic| walk_at "step") => `(tactic| (with_reducible refine iU ?_))
local macro_rules | `(tactic| walk_at "step") => `(tactic| (with_reducible refine iUn ?_))
local macro_rules | `(tactic| walk_at "step") => `(tactic| (with_reducible refine iChain ?_))
local macro_rules | `(tactic| walk_at "step") => `(tactic| (with_reducible refine iIf ?_))
local macro_rules | `(tactic| walk_at "step") => `(tactic| (with_reducible refine iB ?_))
local macro_rules | `(tactic| walk_at "step") => `(tactic| (with_reducible refine iNot ?_))
local macro_rules | `(tactic| walk_at "step") => `(tactic| (with_reducible refine iOr ?_))
local macro_rules | `(tactic| walk_at "step") => `(tactic| (with_reducible refine iAnd ?_))
local macro_rules | `(tactic| walk_at "step") => `(tactic| (with_reducible refine iCal ?_))
local macro_rules | `(tactic| walk_at "step") => `(tactic| (with_reducible refine iRng ?_))
local macro_rules | `(tactic| walk_at "step") => `(tactic| (with_reducible refine iFor ?_))
local macro_rules | `(tactic| walk_at "step") => `(tactic| (with_reducible refine iInt ?_))
local macro_rules | `(tactic| walk_at "step") => `(tactic| (with_reducible refine iNeI ?_))
local macro_rules | `(tactic| walk_at "step") => `(tactic| (with_reducible refine iEqI ?_))
local macro_rules | `(tactic| walk_at "step") => `(tactic| (with_reducible refine iDrop ?_))
local macro_rules | `(tactic| walk_at "step") => `(tactic| (with_reducible refine iNext ?_))
local macro_rules | `(tactic| walk_at "step") => `(tactic| (with_reducible refine iRet ?_))
local macro_rules | `(tactic| walk_at "step") => `(tactic| (with_reducible refine iBl ?_))
local macro_rules | `(tactic| walk_at "step") => `(tactic| (with_reducible refine iTest ?_))
local macro_rules | `(tactic| walk_at "step") => `(tactic| (with_reducible refine iIfS ?_))
local macro_rules | `(tactic| walk_at "step") => `(tactic| (with_reducible refine iCB ?_))
local macro_rules | `(tactic| walk_at "step") => `(tactic| (with_reducible refine iNil ?_))
local macro_rules | `(tactic| walk_at "step") => `(tactic| (with_reducible refine iCons ?_))
local macro_rules | `(tactic| walk_at "step") => `(tactic| (with_reducible refine iI0 ?_))
local macro_rules | `(tactic| walk_at "step") => `(tactic| (with_reducible refine iOp ?_))
local macro_rules | `(tactic| walk_at "step") => `(tactic| (with_reducible refine iC ?_))
local macro_rules | `(tactic| walk_at "step") => `(tactic| ((with_reducible apply iVar); (· rfl)))
local macro_rules | `(tactic| walk_at "step") => `(tactic| ((with_reducible apply iName); (· repeat constructor)))
local macro_rules | `(tactic| walk_at "step") => `(tactic| (with_reducible refine iAsg ?_))
local macro_rules | `(tactic| walk_at "step") => `(tactic| (with_reducible refine iSeq ?_))
local macro_rules | `(tactic| walk_at "go") => `(tactic| (repeat walk_at "step"))
section
variable {P : Program} {w : World} {K : PySem.W.Frag} {mg : Str → Option Value} {base : Heap}
/-! ### all bytes of a packed sector doubled at once -/
theorem and_nn (a b : Nat) : Builtin.bitAnd (a : Int) (b : Int) = ((a &&& b : Nat) : Int) := by
  rw [PyProof.Rows.bitAnd_pp (Int.natCast_nonneg _) (Int.natCast_nonneg _)]; rfl
theorem iTxr {z : Str} {n : Nat} {H : Hp} {Q : VK} (h2 : 2 ≤ n) (h3 : n ≤ 100) (hz : z.length = 2) (hs : (repS z n).length ≤ sizeLine) (q : Q (.str (repS z n)) H) : rTxr (.str z) (.int n) H Q := ⟨z, n, rfl, rfl, h2, h3, hz, hs, q⟩
theorem iHexR {z : Str} {H : Hp} {Q : VK} (h1 : z.cps.toList ≠ []) (h2 : z.cps.toList.length ≤ 640) (h3 : ∀ c ∈ z.cps.toList, L2.Hx.IsHex c) (q : Q (.int ((L2.Hx.hexNum z.cps.toList : Nat) : Int)) H) : L2.rIntHex [.str z, .int 16] H Q :=
  ⟨z.cps.toList, by rw [SX.S_tl], h1, h2, h3, q⟩
theorem hex01 : ((repS "01" 32).cps.toList ≠ [] ∧ (repS "01" 32).cps.toList.length ≤ 640) ∧ ∀ c ∈ (repS "01" 32).cps.toList, L2.Hx.IsHex c := by unfold L2.Hx.IsHex; decide +kernel
theorem hex7f : ((repS "7f" 32).cps.toList ≠ [] ∧ (repS "7f" 32).cps.toList.length ≤ 640) ∧ ∀ c ∈ (repS "7f" 32).cps.toList, L2.Hx.IsHex c := by unfold L2.Hx.IsHex; decide +kernel
def sp_doubled : Sp := fun vs H Q _ => ∃ x : Nat, vs = [.int x] ∧ Q (.int (dblN 32 x : Nat)) H
theorem ok_doubled (M : Mg mg) {f : Addr} {fd : FuncData} (F : Fun K "_law_doubled" "_law_doubled" s__law_doubled f fd) : FnOk P w K mg base CX0 1 f fd ["number"] sp_doubled := by
  refine F.ok sc__law_doubled (fun vs H Q E h => ?_) (fun cdv A outer s H vs Q E hr h => ?_)
  · obtain ⟨x, rfl, _⟩ := h; rfl
  · obtain ⟨x, rfl, q⟩ := h
    refine ⟨_, (pss_cons (ps_set (i := 1) sc__law_doubled.nd rfl (Or.inl rfl) (pe_op op_and (pe_op op_fdiv (pv 0) pe_int) (pe_callTy L2.call_int_hex (by rfl) M.n_int (by decide +kernel) (pa_cons (pe_op op_txr pe_str pe_int) (pa_cons pe_int pa_nil))))) (pss_one (ps_ret (pe_op op_xor (pe_op op_mul (pe_op op_and (pv 0) (pe_callTy L2.call_int_hex (by rfl) M.n_int (by decide +kernel) (pa_cons (pe_op op_txr pe_str pe_int) (pa_cons pe_int pa_nil)))) pe_int) (pe_op op_mul (pv 1) pe_int))))), ?_⟩
    refine iBody (by repeat constructor) ?_
    walk_at "go"
    refine iTxr (n := 32) (by decide) (by decide) (by decide +kernel) (by decide +kernel) ?_
    walk_at "go"
    refine iHexR hex01.1.1 hex01.1.2 hex01.2 ?_
    rw [mask01]
    walk_at "go"
    refine iTxr (n := 32) (by decide) (by decide) (by decide +kernel) (by decide +kernel) ?_
    walk_at "go"
    refine iHexR hex7f.1.1 hex7f.1.2 hex7f.2 ?_
    rw [mask7f]
    walk_at "go"
    rw [show (x : Int) / 128 = ((x / 128 : Nat) : Int) by omega, and_nn, and_nn]
    rw [show (((x &&& mask 127 32 : Nat) : Int) * 2) = (((x &&& mask 127 32) * 2 : Nat) : Int) by omega, show (((x / 128 &&& mask 1 32 : Nat) : Int) * 29) = (((x / 128 &&& mask 1 32) * 29 : Nat) : Int) by omega, xor_nn]
    exact q
end
end R
set_option Elab.async false
set_option linter.all false
set_option maxRecDepth 100000
set_option maxHeartbeats 4000000
namespace R
open PySem PySem.Spec L2
open Evl (Ex)
abbrev s__law_scaled : Stmt := topS 27
theorem sc__law_scaled : FnScope ["number", "factor", "total", "k"] ["number", "factor"] (defScope s__law_scaled) := ⟨rfl, rfl, rfl, by decide +kernel, rfl, by decide +kernel, by decide +kernel⟩
local macro_rules | `(tactic| walk_at "ne") => `(tactic| (apply Ne.symm; apply ne_fresh; (· assumption); (· walk_at "look")))
local macro_rules | `(tactic| walk_at "ne") => `(tactic| (apply ne_fresh; (· assumption); (· walk_at "look")))
local macro_rules | `(tactic| walk_at "ne") => `(tactic| (apply Ne.symm; assumption))
local macro_rules | `(tactic| walk_at "ne") => `(tactic| assumption)
local macro_rules | `(tactic| walk_at "look") => `(tactic| (refine exAt (by assumption) ?_; walk_at "look"))
local macro_rules | `(tactic| walk_at "look") => `(tactic| (refine (upd_ne ?_).trans ?_; (· walk_at "ne"); (· walk_at "look")))
local macro_rules | `(tactic| walk_at "look") => `(tactic| exact upd_same)
local macro_rules | `(tactic| walk_at "look") => `(tactic| assumption)
local macro_rules | `(tactic| walk_at "side") => `(tactic| (exact ⟨by decide, by decide, by decide⟩))
local macro_rules | `(tactic| walk_at "side") => `(tactic| (exact ⟨by omega, by omega⟩))
local macro_rules | `(tactic| walk_at "side") => `(tactic| (show (0:Int) ≤ _; omega))
local macro_rules | `(tactic| walk_at "side") => `(tactic| (show (0:Int) < _; omega))
local macro_rules | `(tactic| walk_at "side") => `(tactic| (exact Or.inr ⟨by omega, by omega⟩))
local macro_rules | `(tactic| walk_at "side") => `(tactic| (exact Or.inl ⟨by omega, by omega⟩))
local macro_rules | `(tactic| walk_at "step") => `(tactic| ((with_reducible apply iDcT); (· rfl)))
local macro_rules | `(tactic| walk_at "step") => `(tactic| ((with_reducible apply iParI); (· repeat constructor); (· repeat constructor)))
local macro_rules | `(tactic| walk_at "step") => `(tactic| ((with_reducible apply iItT); (· walk_at "look")))
local macro_rules | `(tactic| walk_at "step") => `(tactic| ((with_reducible apply iZL); (· walk_at "look"); (· walk_at "look")))
local macro_rules | `(tactic| walk_at "step") => `(tactic| ((with_reducible apply iItL); (· walk_at "look")))
local macro_rules | `(tactic| walk_at "step") => `(tactic| ((with_reducible apply iRng2I); (· omega); (· omega); (· omega); (· omega)))
local macro_rules | `(tactic| walk_at "step") => `(tactic| ((with_reducible apply iDNi); (· walk_at "look")))
local macro_rules | `(tactic| walk_at "step") => `(tactic| ((with_reducible apply iDIi); (· walk_at "look")))
local macro_rules | `(tactic| walk_at "step") => `(tactic| ((with_reducible apply iGTup); (· walk_at "look"); (· rfl)))
local macro_rules | `(tactic| walk_at "step") => `(tactic| ((with_reducible apply iLcB); (· rfl)))
local macro_rules | `(tactic| walk_at "step") => `(tactic| ((with_reducible apply ifNn); (· omega)))
local macro_rules | `(tactic| walk_at "step") => `(tactic| ((with_reducible apply ifNp); (· omega)))
local macro_rules | `(tactic| walk_at "step") => `(tactic| ((with_reducible apply ifF); (· apply decide_eq_false; omega)))
local macro_rules | `(tactic| walk_at "step") => `(tactic| ((with_reducible apply ifT); (· apply decide_eq_true; omega)))
local macro_rules | `(tactic| walk_at "step") => `(tactic| ((with_reducible apply ifF); (· rfl)))
local macro_rules | `(tactic| walk_at "step") => `(tactic| ((with_reducible apply ifT); (· rfl)))
local macro_rules | `(tactic| walk_at "step") => `(tactic| ((with_reducible apply iLenS); (· first | exact Or.inl (by walk_at "look") | exact Or.inr (by walk_at "look"))))
local macro_rules | `(tactic| walk_at "step") => `(tactic| ((with_reducible apply iLenT); (· walk_at "look")))
local macro_rules | `(tactic| walk_at "step") => `(tactic| ((with_reducible apply iIsi); (· first | exact tyN_int | exact tyN_bl | exact tyN_non | exact tyN_str | exact tyN_lst (by walk_at "look") | exact tyN_tup (by walk_at "look")); (· (first | exact kb_NoneType_bool | exact kb_NoneType_int | exact kb_NoneType_str | exact kb_NoneType_tuple | exact kb_NoneType_list | exact kb_bool_bool | exact kb_bool_int | exact kb_bool_str | exact kb_bool_tuple | exact kb_bool_list | exact kb_int_bool | exact kb_int_int | exact kb_int_str | exact kb_int_tuple | exact kb_int_list | exact kb_str_bool | exact kb_str_int | exact kb_str_str | exact kb_str_tuple | exact kb_str_list | exact kb_tuple_bool | exact kb_tuple_int | exact kb_tuple_str | exact kb_tuple_tuple | exact kb_tuple_list | exact kb_list_bool | exact kb_list_int | exact kb_list_str | exact kb_list_tuple | exact kb_list_list))))
local macro_rules | `(tactic| walk_at "step") => `(tactic| ((with_reducible apply iIxT); (· walk_at "look"); (· rfl)))
local macro_rules | `(tactic| walk_at "step") => `(tactic| ((with_reducible apply iSetL); (· walk_at "look"); (· rfl)))
local macro_rules | `(tactic| walk_at "step") => `(tactic| ((with_reducible apply iLenL); (· walk_at "look")))
local macro_rules | `(tactic| walk_at "step") => `(tactic| ((with_reducible apply iIxL); (· walk_at "look"); (· rfl)))
local macro_rules | `(tactic| walk_at "step") => `(tactic| ((with_reducible apply iI); rotate_left; (· (first | (exact Or.inl ⟨by omega, by omega⟩) | (exact Or.inr ⟨by omega, by omega⟩) | (show (0:Int) < _; omega) | (show (0:Int) ≤ _; omega) | (exact ⟨by omega, by omega⟩) | (exact ⟨by decide, by decide, by decide⟩)))))
local macro_rules | `(tactic| walk_at "step") => `(tactic| ((with_reducible apply iAugK); (· rfl)))
local macro_rules | `(tactic| walk_at "step") => `(tactic| ((with_reducible apply iRngI); (· first | decide | omega); (· first | decide | omega)))
local macro_rules | `(tactic| walk_at "step") => `(tactic| (with_reducible refine iWPut ?_))
local macro_rules | `(tactic| walk_at "step") => `(tactic| (with_reducible refine iWGet ?_))
local macro_rules | `(tactic| walk_at "step") => `(tactic| (with_reducible refine iWNot ?_))
local macro_rules | `(tactic| walk_at "step") => `(tactic| (with_reducible refine iCombK ?_))
local macro_rules | `(tactic| walk_at "step") => `(tactic| (with_reducible refine iDc ?_))
local macro_rules | `(tactic| walk_at "step") => `(tactic| (with_reducible refine iPar ?_))
local macro_rules | `(tactic| walk_at "step") => `(tactic| (with_reducible refine iItS ?_))
local macro_rules | `(tactic| walk_at "step") => `(tactic| (with_reducible refine iIterS ?_))
local macro_rules | `(tactic| walk_at "step") => `(tactic| (with_reducible refine iIterT ?_))
local macro_rules | `(tactic| walk_at "step") => `(tactic| (with_reducible refine iZA ?_))
local macro_rules | `(tactic| walk_at "step") => `(tactic| (with_reducible refine iRg3 ?_))
local macro_rules | `(tactic| walk_at "step") => `(tactic| (with_reducible refine iRv ?_))
local macro_rules | `(tactic| walk_at "step") => `(tactic| (with_reducible refine iNoPart ?_))
local macro_rules | `(tactic| walk_at "step") => `(tactic| (with_reducible refine iPartI ?_))
local macro_rules | `(tactic| walk_at "step") => `(tactic| (with_reducible refine iPart ?_))
local macro_rules | `(tactic| walk_at "step") => `(tactic| (with_reducible refine iSl ?_))
local macro_rules | `(tactic| walk_at "step") => `(tactic| (with_reducible refine iDEa ?_))
local macro_rules | `(tactic| walk_at "step") => `(tactic| (with_reducible refine iGNil ?_))
local macro_rules | `(tactic| walk_at "step") => `(tactic| (with_reducible refine iGCons ?_))
local macro_rules | `(tactic| walk_at "step") => `(tactic| (with_reducible refine iZipK ?_))
local macro_rules | `(tactic| walk_at "step") => `(tactic| (with_reducible refine iRng2 ?_))
local macro_rules | `(tactic| walk_at "step") => `(tactic| (with_reducible refine iDPut ?_))
local macro_rules | `(tactic| walk_at "step") => `(tactic| (with_reducible refine iDNotIn ?_))
local macro_rules | `(tactic| walk_at "step") => `(tactic| (with_reducible refine iDIn ?_))
local macro_rules | `(tactic| walk_at "step") => `(tactic| (with_reducible refine iDGet ?_))
local macro_rules | `(tactic| walk_at "step") => `(tactic| (with_reducible refine iYes ?_))
local macro_rules | `(tactic| walk_at "step") => `(tactic| (with_reducible refine iLc ?_))
local macro_rules | `(tactic| walk_at "step") => `(tactic| (with_reducible refine iNeS ?_))
local macro_rules | `(tactic| walk_at "step") => `(tactic| (with_reducible refine iEqS ?_))
local macro_rules | `(tactic| walk_at "step") => `(tactic| (with_reducible refine iNeB ?_))
local macro_rules | `(tactic| walk_at "step") => `(tactic| (with_reducible refine iEqB ?_))
local macro_rules | `(tactic| walk_at "step") => `(tactic| (with_reducible refine iCont ?_))
local macro_rules | `(tactic| walk_at "step") => `(tactic| (with_reducible refine iBreak ?_))
local macro_rules | `(tactic| walk_at "step") => `(tactic| (with_reducible refine iIterL ?_))
local macro_rules | `(tactic| walk_at "step") => `(tactic| (with_reducible refine iTup ?_))
local macro_rules | `(tactic| walk_at "step") => `(tactic| (with_reducible refine iLst ?_))
local macro_rules | `(tactic| walk_at "step") => `(tactic| (with_reducible refine iSub ?_))
local macro_rules | `(tactic| walk_at "step") => `(tactic| (with_reducible refine iIpI ?_))
local macro_rules | `(tactic| walk_at "step") => `(tactic| (with_reducible refine iAugS ?_))
local macro_rules | `(tactic| walk_at "step") => `(tactic| (with_reducible refine iNotV ?_))
local macro_rules | `(tactic| walk_at "step") => `(tactic| (with_reducible refine iOrV ?_))
local macro_rules | `(tactic| walk_at "step") => `(tactic| (with_reducible refine iAndV ?_))
local macro_rules | `(tactic| walk_at "step") => `(tactic| (with_reducible refine iDGet1 ?_))
local macro_rules | `(tactic| walk_at "step") => `(tactic| (with_reducible refine iNotBl ?_))
local macro_rules | `(tactic| walk_at "step") => `(tactic| (with_reducible refine iIsB ?_))
local macro_rules | `(tactic| walk_at "step") => `(tactic| (with_reducible refine iIntB ?_))
local macro_rules | `(tactic| walk_at "step") => `(tactic| (with_reducible refine iPn ?_))
local macro_rules | `(tactic| walk_at "step") => `(tactic| (with_reducible refine iPr ?_))
local macro_rules | `(tactic| walk_at "step") => `(tactic| (with_reducible refine iRai ?_))
local macro_rules | `(tactic| walk_at "step") => `(tactic| (with_reducible refine iRev1 ?_))
local macro_rules | `(tactic| walk_at "step") => `(tactic| (with_reducible refine iBM ?_))
local macro_rules | `(tactic| walk_at "step") => `(tactic| (with_reducible refine iAugF ?_))
local macro_rules | `(tactic| walk_at "step") => `(tactic| (with_reducible refine iSto ?_))
local macro_rules | `(tactic| walk_at "step") => `(tactic| (with_reducible refine iFld ?_))
local macro_rules | `(tactic| walk_at "step") => `(tactic| (with_reducible refine iMakS ?_))
local macro_rules | `(tactic| walk_at "step") => `(tactic| (with_reducible refine iMak ?_))
local macro_rules | `(tactic| walk_at "step") => `(tactic| (with_reducible refine iMet ?_))
local macro_rules | `(tactic| walk_at "step") => `(tactic| (with_reducible refine iCalE ?_))
local macro_rules | `(tactic| walk_at "step") => `(tactic| (with_reducible refine ifDr ?_))
local macro_rules | `(tactic| walk_at "step") => `(tactic| (with_reducible refine ifNDr ?_))
local macro_rules | `(tactic| walk_at "step") => `(tactic| (with_reducible refine iTruI ?_))
local macro_rules | `(tactic| walk_at "step") => `(tactic| (with_reducible refine iNotN ?_))
local macro_rules | `(tactic| walk_at "step") => `(tactic| (with_reducible refine iIsN ?_))
local macro_rules | `(tactic| walk_at "step") => `(tactic| (with_reducible refine iRetN ?_))
local macro_rules | `(tactic| walk_at "step") => `(tactic| (with_reducible refine iU ?_))
local macro_rules | `(tactic| walk_at "step") => `(tactic| (with_reducible refine iUn ?_))
local macro_rules | `(tactic| walk_at "step") => `(tactic| (with_reducible refine iChain ?_))
local macro_rules | `(tactic| walk_at "step") => `(tactic| (with_reducible refine iIf ?_))
local macro_rules | `(tactic| walk_at "step") => `(tactic| (with_reducible refine iB ?_))
local macro_rules | `(tactic| walk_at "step") => `(tactic| (with_reducible refine iNot ?_))
local macro_rules | `(tactic| walk_at "step") => `(tactic| (with_reducible refine iOr ?_))
local macro_rules | `(tactic| walk_at "step") => `(tactic| (with_reducible refine iAnd ?_))
local macro_rules | `(tactic| walk_at "step") => `(tactic| (with_reducible refine iCal ?_))
local macro_rules | `(tactic| walk_at "step") => `(tactic| (with_reducible refine iRng ?_))
local macro_rules | `(tactic| walk_at "step") => `(tactic| (with_reducible refine iFor ?_))
local macro_rules | `(tactic| walk_at "step") => `(tactic| (with_reducible refine iInt ?_))
local macro_rules | `(tactic| walk_at "step") => `(tactic| (with_reducible refine iNeI ?_))
local macro_rules | `(tactic| walk_at "step") => `(tactic| (with_reducible refine iEqI ?_))
local macro_rules | `(tactic| walk_at "step") => `(tactic| (with_reducible refine iDrop ?_))
local macro_rules | `(tactic| walk_at "step") => `(tactic| (with_reducible refine iNext ?_))
local macro_rules | `(tactic| walk_at "step") => `(tactic| (with_reducible refine iRet ?_))
local macro_rules | `(tactic| walk_at "step") => `(tactic| (with_reducible refine iBl ?_))
local macro_rules | `(tactic| walk_at "step") => `(tactic| (with_reducible refine iTest ?_))
local macro_rules | `(tactic| walk_at "step") => `(tactic| (with_reducible refine iIfS ?_))
local macro_rules | `(tactic| walk_at "step") => `(tactic| (with_reducible refine iCB ?_))
local macro_rules | `(tactic| walk_at "step") => `(tactic| (with_reducible refine iNil ?_))
local macro_rules | `(tactic| walk_at "step") => `(tactic| (with_reducible refine iCons ?_))
local macro_rules | `(tactic| walk_at "step") => `(tactic| (with_reducible refine iI0 ?_))
local macro_rules | `(tactic| walk_at "step") => `(tactic| (with_reducible refine iOp ?_))
local macro_rules | `(tactic| walk_at "step") => `(tactic| (with_reducible refine iC ?_))
local macro_rules | `(tactic| walk_at "step") => `(tactic| ((with_reducible apply iVar); (· rfl)))
local macro_rules | `(tactic| walk_at "step") => `(tactic| ((with_reducible apply iName); (· repeat constructor)))
local macro_rules | `(tactic| walk_at "step") => `(tactic| (with_reducible refine iAsg ?_))
local macro_rules | `(tactic| walk_at "step") => `(tactic| (with_reducible refine iSeq ?_))
local macro_rules | `(tactic| walk_at "go") => `(tactic| (repeat walk_at "step"))
section
variable {P : Program} {w : World} {K : PySem.W.Frag} {mg : Str → Option Value} {base : Heap}
theorem j_doubled {x : Nat} {H : Hp} {Q : VK} {E : XK} (q : Q (.int (dblN 32 x : Nat)) H) : sp_doubled [.int x] H Q E := ⟨x, rfl, q⟩
def sp_scaled : Sp := fun vs H Q _ => ∃ x f : Nat, vs = [.int x, .int f] ∧ Q (.int (scl 32 f x 8 : Nat)) H
theorem ok_scaled (M : Mg mg) {f : Addr} {fd : FuncData} (F : Fun K "_law_scaled" "_law_scaled" s__law_scaled f fd) (c__law_doubled : Cal P w K mg base 1 "_law_doubled" ["number"] sp_doubled) : FnOk P w K mg base CX0 2 f fd ["number", "factor"] sp_scaled := by
  refine F.ok sc__law_scaled (fun vs H Q E h => ?_) (fun cdv A outer s H vs Q E hr h => ?_)
  · obtain ⟨x, g, rfl, _⟩ := h; rfl
  · obtain ⟨x, g, rfl, q⟩ := h
    refine ⟨_, (pss_cons (ps_set (i := 2) sc__law_scaled.nd rfl (Or.inl rfl) pe_int) (pss_cons (ps_for PassesOwn.never rfl (pi_range1 (by rfl) M.n_range (pa_cons pe_int pa_nil)) (pg_name (i := 3) sc__law_scaled.nd rfl (Or.inl rfl)) (pss_cons (ps_if (pt_cmpR op_eq (pe_op op_mod (pe_callTy int_i (by rfl) M.n_int (by decide +kernel) (pa_cons (pv 1) pa_nil)) pe_int) pe_int (nomark _)) (pss_one (ps_set (i := 2) sc__law_scaled.nd rfl (Or.inl rfl) (pe_op op_xor (pv 2) (pv 0)))) pss_nil) (pss_cons (ps_set (i := 1) sc__law_scaled.nd rfl (Or.inl rfl) (pe_op op_fdiv (pv 1) pe_int)) (pss_one (ps_set (i := 0) sc__law_scaled.nd rfl (Or.inl rfl) (pe_cal c__law_doubled (hr.mono (by omega)) (by rfl) (pa_cons (pv 0) pa_nil))))))) (pss_one (ps_ret (pv 2))))), ?_⟩
    refine iBody (by repeat constructor) ?_
    walk_at "go"
    refine forJ_range0 (fun i σ' H' => (∃ z, σ' = [some (.int ((Nat.repeat (dblN 32) i x : Nat) : Int)), some (.int ((g / 2 ^ i : Nat) : Int)), some (.int ((scl 32 g x i : Nat) : Int)), z]) ∧ H' = H) ⟨⟨_, by simp [Nat.repeat, scl]; rfl⟩, rfl⟩ (fun i σ' H' hi h => ?_) (fun σ' H' h => ?_)
    · obtain ⟨⟨z, rfl⟩, rfl⟩ := h
      have e2 : (((g / 2 ^ i : Nat) : Int) / 2) = ((g / 2 ^ (i + 1) : Nat) : Int) := by
        rw [Nat.pow_succ, ← Nat.div_div_eq_div_mul]
        omega
      have e1 : Nat.repeat (dblN 32) (i + 1) x = dblN 32 (Nat.repeat (dblN 32) i x) := rfl
      walk_at "go"
      refine ifD (fun h1 => ?_) (fun h1 => ?_)
      · have h1' : g / 2 ^ i % 2 = 1 := by omega
        have e3 : scl 32 g x (i + 1) = scl 32 g x i ^^^ Nat.repeat (dblN 32) i x := if_pos h1'
        walk_at "go"
        refine j_doubled ?_
        walk_at "go"
        rw [xor_nn, ← e3, e2, ← e1]
        exact ⟨⟨_, rfl⟩, rfl⟩
      · have h1' : ¬ g / 2 ^ i % 2 = 1 := by omega
        have e3 : scl 32 g x (i + 1) = scl 32 g x i := if_neg h1'
        walk_at "go"
        refine j_doubled ?_
        walk_at "go"
        rw [← e3, e2, ← e1]
        exact ⟨⟨_, rfl⟩, rfl⟩
    · obtain ⟨⟨z, rfl⟩, rfl⟩ := h
      walk_at "go"
      exact q
end
end R
set_option Elab.async false
set_option linter.all false
set_option maxRecDepth 100000
set_option maxHeartbeats 4000000
namespace R
open PySem PySem.Spec L2
open Evl (Ex)

local macro_rules | `(tactic| walk_at "ne") => `(tactic| (apply Ne.symm; apply ne_fresh; (· assumption); (· walk_at "look")))
local macro_rules | `(tactic| walk_at "ne") => `(tactic| (apply ne_fresh; (· assumption); (· walk_at "look")))
local macro_rules | `(tactic| walk_at "ne") => `(tactic| (apply Ne.symm; assumption))
local macro_rules | `(tactic| walk_at "ne") => `(tactic| assumption)
local macro_rules | `(tactic| walk_at "look") => `(tactic| (refine exAt (by assumption) ?_; walk_at "look"))
local macro_rules | `(tactic| walk_at "look") => `(tactic| (refine (upd_ne ?_).trans ?_; (· walk_at "ne"); (· walk_at "look")))
local macro_rules | `(tactic| walk_at "look") => `(tactic| exact upd_same)
local macro_rules | `(tactic| walk_at "look") => `(tactic| assumption)
local macro_rules | `(tactic| walk_at "side") => `(tactic| (exact ⟨by decide, by decide, by decide⟩))
local macro_rules | `(tactic| walk_at "side") => `(tactic| (exact ⟨by omega, by omega⟩))
local macro_rules | `(tactic| walk_at "side") => `(tactic| (show (0:Int) ≤ _; omega))
local macro_rules | `(tactic| walk_at "side") => `(tactic| (show (0:Int) < _; omega))
local macro_rules | `(tactic| walk_at "side") => `(tactic| (exact Or.inr ⟨by omega, by omega⟩))
local macro_rules | `(tactic| walk_at "side") => `(tactic| (exact Or.inl ⟨by omega, by omega⟩))
local macro_rules | `(tactic| walk_at "step") => `(tactic| ((with_reducible apply iDcT); (· rfl)))
local macro_rules | `(tactic| walk_at "step") => `(tactic| ((with_reducible apply iParI); (· repeat constructor); (· repeat constructor)))
local macro_rules | `(tactic| walk_at "step") => `(tactic| ((with_reducible apply iItT); (· walk_at "look")))
local macro_rules | `(tactic| walk_at "step") => `(tactic| ((with_reducible apply iZL); (· walk_at "look"); (· walk_at "look")))
local macro_rules | `(tactic| walk_at "step") => `(tactic| ((with_reducible apply iItL); (· walk_at "look")))
local macro_rules | `(tactic| walk_at "step") => `(tactic| ((with_reducible apply iRng2I); (· omega); (· omega); (· omega); (· omega)))
local macro_rules | `(tactic| walk_at "step") => `(tactic| ((with_reducible apply iDNi); (· walk_at "look")))
local macro_rules | `(tactic| walk_at "step") => `(tactic| ((with_reducible apply iDIi); (· walk_at "look")))
local macro_rules | `(tactic| walk_at "step") => `(tactic| ((with_reducible apply iGTup); (· walk_at "look"); (· rfl)))
local macro_rules | `(tactic| walk_at "step") => `(tactic| ((with_reducible apply iLcB); (· rfl)))
local macro_rules | `(tactic| walk_at "step") => `(tactic| ((with_reducible apply ifNn); (· omega)))
local macro_rules | `(tactic| walk_at "step") => `(tactic| ((with_reducible apply ifNp); (· omega)))
local macro_rules | `(tactic| walk_at "step") => `(tactic| ((with_reducible apply ifF); (· apply decide_eq_false; omega)))
local macro_rules | `(tactic| walk_at "step") => `(tactic| ((with_reducible apply ifT); (· apply decide_eq_true; omega)))
local macro_rules | `(tactic| walk_at "step") => `(tactic| ((with_reducible apply ifF); (· rfl)))
local macro_rules | `(tactic| walk_at "step") => `(tactic| ((with_reducible apply ifT); (· rfl)))
local macro_rules | `(tactic| walk_at "step") => `(tactic| ((with_reducible apply iLenS); (· first | exact Or.inl (by walk_at "look") | exact Or.inr (by walk_at "look"))))
local macro_rules | `(tactic| walk_at "step") => `(tactic| ((with_reducible apply iLenT); (· walk_at "look")))
local macro_rules | `(tactic| walk_at "step") => `(tactic| ((with_reducible apply iIsi); (· first | exact tyN_int | exact tyN_bl | exact tyN_non | exact tyN_str | exact tyN_lst (by walk_at "look") | exact tyN_tup (by walk_at "look")); (· (first | exact kb_NoneType_bool | exact kb_NoneType_int | exact kb_NoneType_str | exact kb_NoneType_tuple | exact kb_NoneType_list | exact kb_bool_bool | exact kb_bool_int | exact kb_bool_str | exact kb_bool_tuple | exact kb_bool_list | exact kb_int_bool | exact kb_int_int | exact kb_int_str | exact kb_int_tuple | exact kb_int_list | exact kb_str_bool | exact kb_str_int | exact kb_str_str | exact kb_str_tuple | exact kb_str_list | exact kb_tuple_bool | exact kb_tuple_int | exact kb_tuple_str | exact kb_tuple_tuple | exact kb_tuple_list | exact kb_list_bool | exact kb_list_int | exact kb_list_str | exact kb_list_tuple | exact kb_list_list))))
local macro_rules | `(tactic| walk_at "step") => `(tactic| ((with_reducible apply iIxT); (· walk_at "look"); (· rfl)))
local macro_rules | `(tactic| walk_at "step") => `(tactic| ((with_reducible apply iSetL); (· walk_at "look"); (· rfl)))
local macro_rules | `(tactic| walk_at "step") => `(tactic| ((with_reducible apply iLenL); (· walk_at "look")))
local macro_rules | `(tactic| walk_at "step") => `(tactic| ((with_reducible apply iIxL); (· walk_at "look"); (· rfl)))
local macro_rules | `(tactic| walk_at "step") => `(tactic| ((with_reducible apply iI); rotate_left; (· (first | (exact Or.inl ⟨by omega, by omega⟩) | (exact Or.inr ⟨by omega, by omega⟩) | (show (0:Int) < _; omega) | (show (0:Int) ≤ _; omega) | (exact ⟨by omega, by omega⟩) | (exact ⟨by decide, by decide, by decide⟩)))))
local macro_rules | `(tactic| walk_at "step") => `(tactic| ((with_reducible apply iAugK); (· rfl)))
local macro_rules | `(tactic| walk_at "step") => `(tactic| ((with_reducible apply iRngI); (· first | decide | omega); (· first | decide | omega)))
local macro_rules | `(tactic| walk_at "step") => `(tactic| (with_reducible refine iWPut ?_))
local macro_rules | `(tactic| walk_at "step") => `(tactic| (with_reducible refine iWGet ?_))
local macro_rules | `(tactic| walk_at "step") => `(tactic| (with_reducible refine iWNot ?_))
local macro_rules | `(tactic| walk_at "step") => `(tactic| (with_reducible refine iCombK ?_))
local macro_rules | `(tactic| walk_at "step") => `(tactic| (with_reducible refine iDc ?_))
local macro_rules | `(tactic| walk_at "step") => `(tactic| (with_reducible refine iPar ?_))
local macro_rules | `(tactic| walk_at "step") => `(tactic| (with_reducible refine iItS ?_))
local macro_rules | `(tactic| walk_at "step") => `(tactic| (with_reducible refine iIterS ?_))
local macro_rules | `(tactic| walk_at "step") => `(tactic| (with_reducible refine iIterT ?_))
local macro_rules | `(tactic| walk_at "step") => `(tactic| (with_reducible refine iZA ?_))
local macro_rules | `(tactic| walk_at "step") => `(tactic| (with_reducible refine iRg3 ?_))
local macro_rules | `(tactic| walk_at "step") => `(tactic| (with_reducible refine iRv ?_))
local macro_rules | `(tactic| walk_at "step") => `(tactic| (with_reducible refine iNoPart ?_))
local macro_rules | `(tactic| walk_at "step") => `(tactic| (with_reducible refine iPartI ?_))
local macro_rules | `(tactic| walk_at "step") => `(tactic| (with_reducible refine iPart ?_))
local macro_rules | `(tactic| walk_at "step") => `(tactic| (with_reducible refine iSl ?_))
local macro_rules | `(tactic| walk_at "step") => `(tactic| (with_reducible refine iDEa ?_))
local macro_rules | `(tactic| walk_at "step") => `(tactic| (with_reducible refine iGNil ?_))
local macro_rules | `(tactic| walk_at "step") => `(tactic| (with_reducible refine iGCons ?_))
local macro_rules | `(tactic| walk_at "step") => `(tactic| (with_reducible refine iZipK ?_))
local macro_rules | `(tactic| walk_at "step") => `(tactic| (with_reducible refine iRng2 ?_))
local macro_rules | `(tactic| walk_at "step") => `(tactic| (with_reducible refine iDPut ?_))
local macro_rules | `(tactic| walk_at "step") => `(tactic| (with_reducible refine iDNotIn ?_))
local macro_rules | `(tactic| walk_at "step") => `(tactic| (with_reducible refine iDIn ?_))
local macro_rules | `(tactic| walk_at "step") => `(tactic| (with_reducible refine iDGet ?_))
local macro_rules | `(tactic| walk_at "step") => `(tactic| (with_reducible refine iYes ?_))
local macro_rules | `(tactic| walk_at "step") => `(tactic| (with_reducible refine iLc ?_))
local macro_rules | `(tactic| walk_at "step") => `(tactic| (with_reducible refine iNeS ?_))
local macro_rules | `(tactic| walk_at "step") => `(tactic| (with_reducible refine iEqS ?_))
local macro_rules | `(tactic| walk_at "step") => `(tactic| (with_reducible refine iNeB ?_))
local macro_rules | `(tactic| walk_at "step") => `(tactic| (with_reducible refine iEqB ?_))
local macro_rules | `(tactic| walk_at "step") => `(tactic| (with_reducible refine iCont ?_))
local macro_rules | `(tactic| walk_at "step") => `(tactic| (with_reducible refine iBreak ?_))
local macro_rules | `(tactic| walk_at "step") => `(tactic| (with_reducible refine iIterL ?_))
local macro_rules | `(tactic| walk_at "step") => `(tactic| (with_reducible refine iTup ?_))
local macro_rules | `(tactic| walk_at "step") => `(tactic| (with_reducible refine iLst ?_))
local macro_rules | `(tactic| walk_at "step") => `(tactic| (with_reducible refine iSub ?_))
local macro_rules | `(tactic| walk_at "step") => `(tactic| (with_reducible refine iIpI ?_))
local macro_rules | `(tactic| walk_at "step") => `(tactic| (with_reducible refine iAugS ?_))
local macro_rules | `(tactic| walk_at "step") => `(tactic| (with_reducible refine iNotV ?_))
local macro_rules | `(tactic| walk_at "step") => `(tactic| (with_reducible refine iOrV ?_))
local macro_rules | `(tactic| walk_at "step") => `(tactic| (with_reducible refine iAndV ?_))
local macro_rules | `(tactic| walk_at "step") => `(tactic| (with_reducible refine iDGet1 ?_))
local macro_rules | `(tactic| walk_at "step") => `(tactic| (with_reducible refine iNotBl ?_))
local macro_rules | `(tactic| walk_at "step") => `(tactic| (with_reducible refine iIsB ?_))
local macro_rules | `(tactic| walk_at "step") => `(tactic| (with_reducible refine iIntB ?_))
local macro_rules | `(tactic| walk_at "step") => `(tactic| (with_reducible refine iPn ?_))
local macro_rules | `(tactic| walk_at "step") => `(tactic| (with_reducible refine iPr ?_))
local macro_rules | `(tactic| walk_at "step") => `(tactic| (with_reducible refine iRai ?_))
local macro_rules | `(tactic| walk_at "step") => `(tactic| (with_reducible refine iRev1 ?_))
local macro_rules | `(tactic| walk_at "step") => `(tactic| (with_reducible refine iBM ?_))
local macro_rules | `(tactic| walk_at "step") => `(tactic| (with_reducible refine iAugF ?_))
local macro_rules | `(tactic| walk_at "step") => `(tactic| (with_reducible refine iSto ?_))
local macro_rules | `(tactic| walk_at "step") => `(tactic| (with_reducible refine iFld ?_))
local macro_rules | `(tactic| walk_at "step") => `(tactic| (with_reducible refine iMakS ?_))
local macro_rules | `(tactic| walk_at "step") => `(tactic| (with_reducible refine iMak ?_))
local macro_rules | `(tactic| walk_at "step") => `(tactic| (with_reducible refine iMet ?_))
local macro_rules | `(tactic| walk_at "step") => `(tactic| (with_reducible refine iCalE ?_))
local macro_rules | `(tactic| walk_at "step") => `(tactic| (with_reducible refine ifDr ?_))
local macro_rules | `(tactic| walk_at "step") => `(tactic| (with_reducible refine ifNDr ?_))
local macro_rules | `(tactic| walk_at "step") => `(tactic| (with_reducible refine iTruI ?_))
local macro_rules | `(tactic| walk_at "step") => `(tactic| (with_reducible refine iNotN ?_))
local macro_rules | `(tactic| walk_at "step") => `(tactic| (with_reducible refine iIsN ?_))
local macro_rules | `(tactic| walk_at "step") => `(tactic| (with_reducible refine iRetN ?_))
local macro_rules | `(tactic| walk_at "step") => `(tactic| (with_reducible refine iU ?_))
local macro_rules | `(tactic| walk_at "step") => `(tactic| (with_reducible refine iUn ?_))
local macro_rules | `(tactic| walk_at "step") => `(tactic| (with_reducible refine iChain ?_))
local macro_rules | `(tactic| walk_at "step") => `(tactic| (with_reducible refine iIf ?_))
local macro_rules | `(tactic| walk_at "step") => `(tactic| (with_reducible refine iB ?_))
local macro_rules | `(tactic| walk_at "step") => `(tactic| (with_reducible refine iNot ?_))
local macro_rules | `(tactic| walk_at "step") => `(tactic| (with_reducible refine iOr ?_))
local macro_rules | `(tactic| walk_at "step") => `(tactic| (with_reducible refine iAnd ?_))
local macro_rules | `(tactic| walk_at "step") => `(tactic| (with_reducible refine iCal ?_))
local macro_rules | `(tactic| walk_at "step") => `(tactic| (with_reducible refine iRng ?_))
local macro_rules | `(tactic| walk_at "step") => `(tactic| (with_reducible refine iFor ?_))
local macro_rules | `(tactic| walk_at "step") => `(tactic| (with_reducible refine iInt ?_))
local macro_rules | `(tactic| walk_at "step") => `(tactic| (with_reducible refine iNeI ?_))
local macro_rules | `(tactic| walk_at "step") => `(tactic| (with_reducible refine iEqI ?_))
local macro_rules | `(tactic| walk_at "step") => `(tactic| (with_reducible refine iDrop ?_))
local macro_rules | `(tactic| walk_at "step") => `(tactic| (with_reducible refine iNext ?_))
local macro_rules | `(tactic| walk_at "step") => `(tactic| (with_reducible refine iRet ?_))
local macro_rules | `(tactic| walk_at "step") => `(tactic| (with_reducible refine iBl ?_))
local macro_rules | `(tactic| walk_at "step") => `(tactic| (with_reducible refine iTest ?_))
local macro_rules | `(tactic| walk_at "step") => `(tactic| (with_reducible refine iIfS ?_))
local macro_rules | `(tactic| walk_at "step") => `(tactic| (with_reducible refine iCB ?_))
local macro_rules | `(tactic| walk_at "step") => `(tactic| (with_reducible refine iNil ?_))
local macro_rules | `(tactic| walk_at "step") => `(tactic| (with_reducible refine iCons ?_))
local macro_rules | `(tactic| walk_at "step") => `(tactic| (with_reducible refine iI0 ?_))
local macro_rules | `(tactic| walk_at "step") => `(tactic| (with_reducible refine iOp ?_))
local macro_rules | `(tactic| walk_at "step") => `(tactic| (with_reducible refine iC ?_))
local macro_rules | `(tactic| walk_at "step") => `(tactic| ((with_reducible apply iVar); (· rfl)))
local macro_rules | `(tactic| walk_at "step") => `(tactic| ((with_reducible apply iName); (· repeat constructor)))
local macro_rules | `(tactic| walk_at "step") => `(tactic| (with_reducible refine iAsg ?_))
local macro_rules | `(tactic| walk_at "step") => `(tactic| (with_reducible refine iSeq ?_))
local macro_rules | `(tactic| walk_at "go") => `(tactic| (repeat walk_at "step"))
section
variable {P : Program} {w : World} {K : PySem.W.Frag} {mg : Str → Option Value} {base : Heap}
/-! ### what is found, plainly -/
def cF (c : List (Option (Nat → B))) (x : Nat) : Nat → B := (c.getD x none).getD fun _ => b0
def rp (c : List (Option (Nat → B))) : List Nat := (List.range c.length).filter (has c)
theorem rp_len (c : List (Option (Nat → B))) : (rp c).length ≤ c.length := by
  have h1 := (List.filter_sublist (p := has c) (l := List.range c.length)).length_le
  rwa [List.length_range] at h1
theorem rdP_all (c : List (Option (Nat → B))) : rdP c c.length c.length = rp c := List.take_of_length_le (rp_len c)
theorem rp_nd (c : List (Option (Nat → B))) : (rp c).Nodup := List.Pairwise.filter _ List.nodup_range
theorem rp_lt {c : List (Option (Nat → B))} {m : Nat} (h : m ∈ rp c) : m < c.length := List.mem_range.mp (List.mem_filter.mp h).1
theorem rp_has {c : List (Option (Nat → B))} {m : Nat} (h : m ∈ rp c) : has c m = true := (List.mem_filter.mp h).2
theorem rp_srt (c : List (Option (Nat → B))) : (rp c).Pairwise (· < ·) := List.Pairwise.filter _ List.pairwise_lt_range
def spr (c : List (Option (Nat → B))) (k s : Nat) : Nat := min s ((rp c).length - k - s)
def progR (c : List (Option (Nat → B))) (k s : Nat) : List (List Nat) := combs ((rp c).take (k + spr c k s)) k
def lawR (c : List (Option (Nat → B))) (k : Nat) : List (List Nat) := (subs k (rp c)).filter fun r => decide (r.length = k)
def accW (c : List (Option (Nat → B))) (k s : Nat) (R : List (List Nat)) : Option (Nat → Nat → B) := if (rp c).length < k + s then none else (firstAcc (cF c) (rp c) (spr c k s) R).map fun r => codeW (cF c) r
def SameW : Option (Nat → Nat → B) → Option (Nat → Nat → B) → Prop
  | none, none => True
  | some w, some w' => ∀ x t, t < 32 → w x t = w' x t
  | _, _ => False
theorem progR_sub {c : List (Option (Nat → B))} {k s : Nat} {r : List Nat} (h : r ∈ progR c k s) : r.Sublist (rp c) ∧ r.length = k := by
  obtain ⟨a, b⟩ := combs_sub h
  exact ⟨a.trans (List.take_sublist _ _), b⟩
theorem lawR_sub {c : List (Option (Nat → B))} {k : Nat} {r : List Nat} (h : r ∈ lawR c k) : r.Sublist (rp c) ∧ r.length = k := by
  obtain ⟨a, b⟩ := List.mem_filter.mp h
  exact ⟨((subs_iff k (rp c) r).mp a).1, of_decide_eq_true b⟩
theorem acc_same (c : List (Option (Nat → B))) (k s : Nat) (h8 : c.length ≤ 256) : SameW (accW c k s (progR c k s)) (accW c k s (lawR c k)) := by
  unfold accW
  by_cases h : (rp c).length < k + s
  · rw [if_pos h, if_pos h]; exact True.intro
  · rw [if_neg h, if_neg h]
    have hs : spr c k s ≤ s ∧ spr c k s ≤ (rp c).length - k - s := ⟨Nat.min_le_left _ _, Nat.min_le_right _ _⟩
    have z := found_same (c := cF c) (P := rp c) (l1 := (rp c).take (k + spr c k s)) (l2 := rp c) (k := k) (sp := spr c k s) (R1 := progR c k s) (R2 := lawR c k) (rp_nd c) (fun m hm => Nat.lt_of_lt_of_le (rp_lt hm) h8) (by omega)
      (fun r hr => progR_sub hr) (fun r hr => lawR_sub hr) (List.take_sublist _ _) (List.Sublist.refl _) (by rw [List.length_take]; omega) (by omega)
      (fun r hr e => by have := combs_all hr; rwa [e] at this)
      (fun r hr e => List.mem_filter.mpr ⟨(subs_iff k (rp c) r).mpr ⟨hr, by omega⟩, decide_eq_true e⟩)
    cases e1 : firstAcc (cF c) (rp c) (spr c k s) (progR c k s) with
    | none =>
      rw [e1] at z
      cases e2 : firstAcc (cF c) (rp c) (spr c k s) (lawR c k) with
      | none => exact True.intro
      | some r => rw [e2] at z; exact z
    | some r =>
      rw [e1] at z
      cases e2 : firstAcc (cF c) (rp c) (spr c k s) (lawR c k) with
      | none => rw [e2] at z; exact z
      | some r' => rw [e2] at z; exact z
theorem combs_map (f : Nat → Nat) : ∀ (l : List Nat) (k : Nat), combs (l.map f) k = (combs l k).map (List.map f)
  | l, 0 => by cases l <;> rfl
  | [], k + 1 => rfl
  | x :: l, k + 1 => by
    show (combs (l.map f) k).map (f x :: ·) ++ combs (l.map f) (k + 1) = ((combs l k).map (x :: ·) ++ combs l (k + 1)).map (List.map f)
    rw [combs_map f l k, combs_map f l (k + 1), List.map_append, List.map_map, List.map_map]
    rfl
theorem list_getD (L : List Nat) : L = (List.range L.length).map fun i => L.getD i 0 := by
  refine List.ext_getElem? fun i => ?_
  rw [List.getElem?_map]
  by_cases h : i < L.length
  · rw [List.getElem?_range h, List.getElem?_eq_getElem h]
    simp [List.getD_eq_getElem?_getD, h]
  · rw [List.getElem?_eq_none (by omega), List.getElem?_eq_none (by rw [List.length_range]; omega)]
    rfl
theorem combs_getD (L : List Nat) (k : Nat) : combs L k = (combs (List.range L.length) k).map (List.map fun i => L.getD i 0) := by
  have h := combs_map (fun i => L.getD i 0) (List.range L.length) k
  rwa [← list_getD L] at h
theorem find_at {α : Type} {p : α → Bool} : ∀ {R : List α} {i : Nat} {r : α}, (∀ (j : Nat) (q : α), j < i → R[j]? = some q → p q = false) → R[i]? = some r → p r = true → R.find? p = some r
  | [], i, r, _, h, _ => by simp at h
  | a :: R, 0, r, _, h, e => by
    have : a = r := by simpa using h
    subst this
    rw [List.find?_cons_of_pos e]
  | a :: R, i + 1, r, hn, h, e => by
    rw [List.find?_cons_of_neg (by rw [hn 0 a (by omega) rfl]; decide)]
    exact find_at (i := i) (fun j q hj hq => hn (j + 1) q (by omega) (by simpa using hq)) (by simpa using h) e
theorem find_no {α : Type} {p : α → Bool} {R : List α} (h : ∀ (j : Nat) (q : α), R[j]? = some q → p q = false) : R.find? p = none := by
  rw [List.find?_eq_none]
  intro x hx
  obtain ⟨j, hj⟩ := List.mem_iff_getElem?.mp hx
  rw [h j x hj]
  decide
/-- the law's test -/
theorem law_test {c : List (Option (Nat → B))} {k s : Nat} {w : Nat → Nat → B} (h : k + s ≤ (rp c).length) : (k + s ≤ ((rp c).filter fun x => eqS (w x) (cF c x)).length ∧ (rp c).length ≤ ((rp c).filter fun x => eqS (w x) (cF c x)).length + s) ↔ (badP (cF c) w (rp c)).length ≤ spr c k s := by
  have e : (rp c).length = ((rp c).filter fun x => eqS (w x) (cF c x)).length + (badP (cF c) w (rp c)).length := by
    unfold badP
    have key : ∀ P : List Nat, P.length = (P.filter fun x => eqS (w x) (cF c x)).length + (P.filter fun x => !eqS (w x) (cF c x)).length := by
      intro P
      induction P with
      | nil => rfl
      | cons x P ih =>
        cases hx : eqS (w x) (cF c x) <;> simp [List.filter_cons, hx] <;> omega
    exact key _
  unfold spr
  omega
/-! reading, plainly -/
def readW (c : List (Option (Nat → B))) (k s : Nat) (A : Option (Nat → Nat → B)) : Option (Nat → Nat → B) × Nat :=
  if (rdP c (k + s) c.length).length = k + s ∧ ((rdP c (k + s) c.length).all fun x => eqS (codeW (cF c) ((rdP c (k + s) c.length).take k) x) (cF c x)) = true then
    (some (codeW (cF c) ((rdP c (k + s) c.length).take k)), 1 + (rdP c (k + s) c.length).getD (k + s - 1) 0) else (A, c.length)
theorem rdP_sub (c : List (Option (Nat → B))) (m : Nat) : (rdP c m c.length).Sublist (rp c) := List.take_sublist _ _
theorem eqS_refl (f : Nat → B) : eqS f f = true := eqS_iff.mpr fun _ _ => rfl
theorem eqS_congr {f g h : Nat → B} (e : ∀ t, t < 32 → f t = g t) : eqS f h = eqS g h := by
  have : secN f = secN g := secN_iff.mpr e
  unfold eqS
  rw [this]
theorem all_drop {c : List (Option (Nat → B))} {m k : Nat} (h8 : c.length ≤ 256) : ((rdP c m c.length).all fun x => eqS (codeW (cF c) ((rdP c m c.length).take k) x) (cF c x)) = (((rdP c m c.length).drop k).all fun x => eqS (codeW (cF c) ((rdP c m c.length).take k) x) (cF c x)) := by
  have hs := rdP_sub c m
  generalize rdP c m c.length = L at hs
  have h1 : ((L.take k).all fun x => eqS (codeW (cF c) (L.take k) x) (cF c x)) = true := by
    rw [List.all_eq_true]
    intro x hx
    have s2 := (List.take_sublist k L).trans hs
    refine eqS_iff.mpr fun t _ => codeW_self (sub_nodup s2 (rp_nd c)) (fun m hm => Nat.lt_of_lt_of_le (rp_lt (s2.subset hm)) h8) hx
  have e : ∀ p : Nat → Bool, L.all p = ((L.take k).all p && (L.drop k).all p) := fun p => by rw [← List.all_append, List.take_append_drop]
  rw [e, h1, Bool.true_and]
/-! a vote, plainly -/
def cnt (rd : List (Nat → B)) (f : Nat → B) : Nat := (rd.filter fun g => eqS g f).length
def voteW (rd : List (Nat → B)) (s : Nat) : Option (Nat → B) := rd.find? fun f => decide (s < cnt rd f ∧ rd.length ≤ cnt rd f + s)
theorem cnt_le (rd : List (Nat → B)) (f : Nat → B) : cnt rd f ≤ rd.length := List.length_filter_le _ _
/-! what is told of them -/
def ResAt (H : Hp) (v : V) (n : Nat) : Option (Nat → Nat → B) → Prop
  | none => v = .non
  | some W => ∃ p acc, v = .ref p ∧ H p = some (.lst acc) ∧ acc.length = n ∧ SecsAt H acc W
theorem ResAt.ex {H H' : Hp} {v : V} {n : Nat} {o : Option (Nat → Nat → B)} (e : Ex H H') (h : ResAt H v n o) : ResAt H' v n o := by
  cases o with
  | none => exact h
  | some W =>
    obtain ⟨p, acc, rfl, h1, h2, h3⟩ := h
    exact ⟨p, acc, rfl, e _ _ h1, h2, h3.ex e⟩
theorem codeW_gvL (F : Nat → Nat → B) (L : List Nat) (x t : Nat) : wordF (gvL F L) (pl x) t = codeW F L x t := by
  unfold wordF codeW
  rw [gvL_keys]
  unfold gvL
  rw [sumB_map]
theorem WordR.res {F : Nat → Nat → B} {L : List Nat} {n : Nat} {acc : List V} {H : Hp} (h : WordR (gvL F L) n acc H) : acc.length = n ∧ SecsAt H acc (codeW F L) := by
  refine ⟨h.1, fun t v e => ?_⟩
  obtain ⟨p, rfl, hp⟩ := h.2 t v e
  refine ⟨p, rfl, hp.trans (congrArg (fun l => some (HO.lst l)) (bl_congr fun j _ => codeW_gvL F L t j))⟩
theorem CellsAt.sec {H : Hp} {cs : List V} {c : List (Option (Nat → B))} (h : CellsAt H cs c) {m : Nat} (hm : has c m = true) : ∃ p, cs[m]? = some (.ref p) ∧ H p = some (.lst (bl (cF c m))) := by
  unfold has at hm
  cases e : c.getD m none with
  | none => rw [e] at hm; cases hm
  | some f =>
    have hl : m < c.length := by
      rcases Nat.lt_or_ge m c.length with l | l
      · exact l
      · rw [List.getD_eq_getElem?_getD, List.getElem?_eq_none l] at e; cases e
    have hv : cs[m]? = some (cs[m]'(by rw [h.len]; exact hl)) := List.getElem?_eq_getElem _
    have q := h.at_ m _ hv
    rw [e] at q
    obtain ⟨p, ev, hp⟩ := q
    refine ⟨p, by rw [hv, ev], ?_⟩
    rw [hp]
    unfold cF
    rw [e]
    rfl
theorem CellsAt.no {H : Hp} {cs : List V} {c : List (Option (Nat → B))} (h : CellsAt H cs c) {m : Nat} (hl : m < c.length) (hm : has c m = false) : cs[m]? = some .non := by
  unfold has at hm
  have hv : cs[m]? = some (cs[m]'(by rw [h.len]; exact hl)) := List.getElem?_eq_getElem _
  have q := h.at_ m _ hv
  cases e : c.getD m none with
  | some f => rw [e] at hm; cases hm
  | none =>
    rw [e] at q
    rw [hv]
    exact congrArg some q
end
end R
set_option Elab.async false
set_option linter.all false
set_option maxRecDepth 100000
set_option maxHeartbeats 4000000
namespace R
open PySem PySem.Spec L2
open Evl (Ex)
abbrev s_accepted : Stmt := topS 12
theorem sc_accepted : FnScope ["cells", "k", "s", "places", "spare", "first", "some", "word", "x"] ["cells", "k", "s"] (defScope s_accepted) := ⟨rfl, rfl, rfl, by decide +kernel, rfl, by decide +kernel, by decide +kernel⟩
local macro_rules | `(tactic| walk_at "ne") => `(tactic| (apply Ne.symm; apply ne_fresh; (· assumption); (· walk_at "look")))
local macro_rules | `(tactic| walk_at "ne") => `(tactic| (apply ne_fresh; (· assumption); (· walk_at "look")))
local macro_rules | `(tactic| walk_at "ne") => `(tactic| (apply Ne.symm; assumption))
local macro_rules | `(tactic| walk_at "ne") => `(tactic| assumption)
local macro_rules | `(tactic| walk_at "look") => `(tactic| (refine exAt (by assumption) ?_; walk_at "look"))
local macro_rules | `(tactic| walk_at "look") => `(tactic| (refine (upd_ne ?_).trans ?_; (· walk_at "ne"); (· walk_at "look")))
local macro_rules | `(tactic| walk_at "look") => `(tactic| exact upd_same)
local macro_rules | `(tactic| walk_at "look") => `(tactic| assumption)
local macro_rules | `(tactic| walk_at "side") => `(tactic| (exact ⟨by decide, by decide, by decide⟩))
local macro_rules | `(tactic| walk_at "side") => `(tactic| (exact ⟨by omega, by omega⟩))
local macro_rules | `(tactic| walk_at "side") => `(tactic| (show (0:Int) ≤ _; omega))
local macro_rules | `(tactic| walk_at "side") => `(tactic| (show (0:Int) < _; omega))
local macro_rules | `(tactic| walk_at "side") => `(tactic| (exact Or.inr ⟨by omega, by omega⟩))
local macro_rules | `(tactic| walk_at "side") => `(tactic| (exact Or.inl ⟨by omega, by omega⟩))
local macro_rules | `(tactic| walk_at "step") => `(tactic| ((with_reducible apply iDcT); (· rfl)))
local macro_rules | `(tactic| walk_at "step") => `(tactic| ((with_reducible apply iParI); (· repeat constructor); (· repeat constructor)))
local macro_rules | `(tactic| walk_at "step") => `(tactic| ((with_reducible apply iItT); (· walk_at "look")))
local macro_rules | `(tactic| walk_at "step") => `(tactic| ((with_reducible apply iZL); (· walk_at "look"); (· walk_at "look")))
local macro_rules | `(tactic| walk_at "step") => `(tactic| ((with_reducible apply iItL); (· walk_at "look")))
local macro_rules | `(tactic| walk_at "step") => `(tactic| ((with_reducible apply iRng2I); (· omega); (· omega); (· omega); (· omega)))
local macro_rules | `(tactic| walk_at "step") => `(tactic| ((with_reducible apply iDNi); (· walk_at "look")))
local macro_rules | `(tactic| walk_at "step") => `(tactic| ((with_reducible apply iDIi); (· walk_at "look")))
local macro_rules | `(tactic| walk_at "step") => `(tactic| ((with_reducible apply iGTup); (· walk_at "look"); (· rfl)))
local macro_rules | `(tactic| walk_at "step") => `(tactic| ((with_reducible apply iLcB); (· rfl)))
local macro_rules | `(tactic| walk_at "step") => `(tactic| ((with_reducible apply ifNn); (· omega)))
local macro_rules | `(tactic| walk_at "step") => `(tactic| ((with_reducible apply ifNp); (· omega)))
local macro_rules | `(tactic| walk_at "step") => `(tactic| ((with_reducible apply ifF); (· apply decide_eq_false; omega)))
local macro_rules | `(tactic| walk_at "step") => `(tactic| ((with_reducible apply ifT); (· apply decide_eq_true; omega)))
local macro_rules | `(tactic| walk_at "step") => `(tactic| ((with_reducible apply ifF); (· rfl)))
local macro_rules | `(tactic| walk_at "step") => `(tactic| ((with_reducible apply ifT); (· rfl)))
local macro_rules | `(tactic| walk_at "step") => `(tactic| ((with_reducible apply iLenS); (· first | exact Or.inl (by walk_at "look") | exact Or.inr (by walk_at "look"))))
local macro_rules | `(tactic| walk_at "step") => `(tactic| ((with_reducible apply iLenT); (· walk_at "look")))
local macro_rules | `(tactic| walk_at "step") => `(tactic| ((with_reducible apply iIsi); (· first | exact tyN_int | exact tyN_bl | exact tyN_non | exact tyN_str | exact tyN_lst (by walk_at "look") | exact tyN_tup (by walk_at "look")); (· (first | exact kb_NoneType_bool | exact kb_NoneType_int | exact kb_NoneType_str | exact kb_NoneType_tuple | exact kb_NoneType_list | exact kb_bool_bool | exact kb_bool_int | exact kb_bool_str | exact kb_bool_tuple | exact kb_bool_list | exact kb_int_bool | exact kb_int_int | exact kb_int_str | exact kb_int_tuple | exact kb_int_list | exact kb_str_bool | exact kb_str_int | exact kb_str_str | exact kb_str_tuple | exact kb_str_list | exact kb_tuple_bool | exact kb_tuple_int | exact kb_tuple_str | exact kb_tuple_tuple | exact kb_tuple_list | exact kb_list_bool | exact kb_list_int | exact kb_list_str | exact kb_list_tuple | exact kb_list_list))))
local macro_rules | `(tactic| walk_at "step") => `(tactic| ((with_reducible apply iIxT); (· walk_at "look"); (· rfl)))
local macro_rules | `(tactic| walk_at "step") => `(tactic| ((with_reducible apply iSetL); (· walk_at "look"); (· rfl)))
local macro_rules | `(tactic| walk_at "step") => `(tactic| ((with_reducible apply iLenL); (· walk_at "look")))
local macro_rules | `(tactic| walk_at "step") => `(tactic| ((with_reducible apply iIxL); (· walk_at "look"); (· rfl)))
local macro_rules | `(tactic| walk_at "step") => `(tactic| ((with_reducible apply iI); rotate_left; (· (first | (exact Or.inl ⟨by omega, by omega⟩) | (exact Or.inr ⟨by omega, by omega⟩) | (show (0:Int) < _; omega) | (show (0:Int) ≤ _; omega) | (exact ⟨by omega, by omega⟩) | (exact ⟨by decide, by decide, by decide⟩)))))
local macro_rules | `(tactic| walk_at "step") => `(tactic| ((with_reducible apply iAugK); (· rfl)))
local macro_rules | `(tactic| walk_at "step") => `(tactic| ((with_reducible apply iRngI); (· first | decide | omega); (· first | decide | omega)))
local macro_rules | `(tactic| walk_at "step") => `(tactic| (with_reducible refine iWPut ?_))
local macro_rules | `(tactic| walk_at "step") => `(tactic| (with_reducible refine iWGet ?_))
local macro_rules | `(tactic| walk_at "step") => `(tactic| (with_reducible refine iWNot ?_))
local macro_rules | `(tactic| walk_at "step") => `(tactic| (with_reducible refine iCombK ?_))
local macro_rules | `(tactic| walk_at "step") => `(tactic| (with_reducible refine iDc ?_))
local macro_rules | `(tactic| walk_at "step") => `(tactic| (with_reducible refine iPar ?_))
local macro_rules | `(tactic| walk_at "step") => `(tactic| (with_reducible refine iItS ?_))
local macro_rules | `(tactic| walk_at "step") => `(tactic| (with_reducible refine iIterS ?_))
local macro_rules | `(tactic| walk_at "step") => `(tactic| (with_reducible refine iIterT ?_))
local macro_rules | `(tactic| walk_at "step") => `(tactic| (with_reducible refine iZA ?_))
local macro_rules | `(tactic| walk_at "step") => `(tactic| (with_reducible refine iRg3 ?_))
local macro_rules | `(tactic| walk_at "step") => `(tactic| (with_reducible refine iRv ?_))
local macro_rules | `(tactic| walk_at "step") => `(tactic| (with_reducible refine iNoPart ?_))
local macro_rules | `(tactic| walk_at "step") => `(tactic| (with_reducible refine iPartI ?_))
local macro_rules | `(tactic| walk_at "step") => `(tactic| (with_reducible refine iPart ?_))
local macro_rules | `(tactic| walk_at "step") => `(tactic| (with_reducible refine iSl ?_))
local macro_rules | `(tactic| walk_at "step") => `(tactic| (with_reducible refine iDEa ?_))
local macro_rules | `(tactic| walk_at "step") => `(tactic| (with_reducible refine iGNil ?_))
local macro_rules | `(tactic| walk_at "step") => `(tactic| (with_reducible refine iGCons ?_))
local macro_rules | `(tactic| walk_at "step") => `(tactic| (with_reducible refine iZipK ?_))
local macro_rules | `(tactic| walk_at "step") => `(tactic| (with_reducible refine iRng2 ?_))
local macro_rules | `(tactic| walk_at "step") => `(tactic| (with_reducible refine iDPut ?_))
local macro_rules | `(tactic| walk_at "step") => `(tactic| (with_reducible refine iDNotIn ?_))
local macro_rules | `(tactic| walk_at "step") => `(tactic| (with_reducible refine iDIn ?_))
local macro_rules | `(tactic| walk_at "step") => `(tactic| (with_reducible refine iDGet ?_))
local macro_rules | `(tactic| walk_at "step") => `(tactic| (with_reducible refine iYes ?_))
local macro_rules | `(tactic| walk_at "step") => `(tactic| (with_reducible refine iLc ?_))
local macro_rules | `(tactic| walk_at "step") => `(tactic| (with_reducible refine iNeS ?_))
local macro_rules | `(tactic| walk_at "step") => `(tactic| (with_reducible refine iEqS ?_))
local macro_rules | `(tactic| walk_at "step") => `(tactic| (with_reducible refine iNeB ?_))
local macro_rules | `(tactic| walk_at "step") => `(tactic| (with_reducible refine iEqB ?_))
local macro_rules | `(tactic| walk_at "step") => `(tactic| (with_reducible refine iCont ?_))
local macro_rules | `(tactic| walk_at "step") => `(tactic| (with_reducible refine iBreak ?_))
local macro_rules | `(tactic| walk_at "step") => `(tactic| (with_reducible refine iIterL ?_))
local macro_rules | `(tactic| walk_at "step") => `(tactic| (with_reducible refine iTup ?_))
local macro_rules | `(tactic| walk_at "step") => `(tactic| (with_reducible refine iLst ?_))
local macro_rules | `(tactic| walk_at "step") => `(tactic| (with_reducible refine iSub ?_))
local macro_rules | `(tactic| walk_at "step") => `(tactic| (with_reducible refine iIpI ?_))
local macro_rules | `(tactic| walk_at "step") => `(tactic| (with_reducible refine iAugS ?_))
local macro_rules | `(tactic| walk_at "step") => `(tactic| (with_reducible refine iNotV ?_))
local macro_rules | `(tactic| walk_at "step") => `(tactic| (with_reducible refine iOrV ?_))
local macro_rules | `(tactic| walk_at "step") => `(tactic| (with_reducible refine iAndV ?_))
local macro_rules | `(tactic| walk_at "step") => `(tactic| (with_reducible refine iDGet1 ?_))
local macro_rules | `(tactic| walk_at "step") => `(tactic| (with_reducible refine iNotBl ?_))
local macro_rules | `(tactic| walk_at "step") => `(tactic| (with_reducible refine iIsB ?_))
local macro_rules | `(tactic| walk_at "step") => `(tactic| (with_reducible refine iIntB ?_))
local macro_rules | `(tactic| walk_at "step") => `(tactic| (with_reducible refine iPn ?_))
local macro_rules | `(tactic| walk_at "step") => `(tactic| (with_reducible refine iPr ?_))
local macro_rules | `(tactic| walk_at "step") => `(tactic| (with_reducible refine iRai ?_))
local macro_rules | `(tactic| walk_at "step") => `(tactic| (with_reducible refine iRev1 ?_))
local macro_rules | `(tactic| walk_at "step") => `(tactic| (with_reducible refine iBM ?_))
local macro_rules | `(tactic| walk_at "step") => `(tactic| (with_reducible refine iAugF ?_))
local macro_rules | `(tactic| walk_at "step") => `(tactic| (with_reducible refine iSto ?_))
local macro_rules | `(tactic| walk_at "step") => `(tactic| (with_reducible refine iFld ?_))
local macro_rules | `(tactic| walk_at "step") => `(tactic| (with_reducible refine iMakS ?_))
local macro_rules | `(tactic| walk_at "step") => `(tactic| (with_reducible refine iMak ?_))
local macro_rules | `(tactic| walk_at "step") => `(tactic| (with_reducible refine iMet ?_))
local macro_rules | `(tactic| walk_at "step") => `(tactic| (with_reducible refine iCalE ?_))
local macro_rules | `(tactic| walk_at "step") => `(tactic| (with_reducible refine ifDr ?_))
local macro_rules | `(tactic| walk_at "step") => `(tactic| (with_reducible refine ifNDr ?_))
local macro_rules | `(tactic| walk_at "step") => `(tactic| (with_reducible refine iTruI ?_))
local macro_rules | `(tactic| walk_at "step") => `(tactic| (with_reducible refine iNotN ?_))
local macro_rules | `(tactic| walk_at "step") => `(tactic| (with_reducible refine iIsN ?_))
local macro_rules | `(tactic| walk_at "step") => `(tactic| (with_reducible refine iRetN ?_))
local macro_rules | `(tactic| walk_at "step") => `(tactic| (with_reducible refine iU ?_))
local macro_rules | `(tactic| walk_at "step") => `(tactic| (with_reducible refine iUn ?_))
local macro_rules | `(tactic| walk_at "step") => `(tactic| (with_reducible refine iChain ?_))
local macro_rules | `(tactic| walk_at "step") => `(tactic| (with_reducible refine iIf ?_))
local macro_rules | `(tactic| walk_at "step") => `(tactic| (with_reducible refine iB ?_))
local macro_rules | `(tactic| walk_at "step") => `(tactic| (with_reducible refine iNot ?_))
local macro_rules | `(tactic| walk_at "step") => `(tactic| (with_reducible refine iOr ?_))
local macro_rules | `(tactic| walk_at "step") => `(tactic| (with_reducible refine iAnd ?_))
local macro_rules | `(tactic| walk_at "step") => `(tactic| (with_reducible refine iCal ?_))
local macro_rules | `(tactic| walk_at "step") => `(tactic| (with_reducible refine iRng ?_))
local macro_rules | `(tactic| walk_at "step") => `(tactic| (with_reducible refine iFor ?_))
local macro_rules | `(tactic| walk_at "step") => `(tactic| (with_reducible refine iInt ?_))
local macro_rules | `(tactic| walk_at "step") => `(tactic| (with_reducible refine iNeI ?_))
local macro_rules | `(tactic| walk_at "step") => `(tactic| (with_reducible refine iEqI ?_))
local macro_rules | `(tactic| walk_at "step") => `(tactic| (with_reducible refine iDrop ?_))
local macro_rules | `(tactic| walk_at "step") => `(tactic| (with_reducible refine iNext ?_))
local macro_rules | `(tactic| walk_at "step") => `(tactic| (with_reducible refine iRet ?_))
local macro_rules | `(tactic| walk_at "step") => `(tactic| (with_reducible refine iBl ?_))
local macro_rules | `(tactic| walk_at "step") => `(tactic| (with_reducible refine iTest ?_))
local macro_rules | `(tactic| walk_at "step") => `(tactic| (with_reducible refine iIfS ?_))
local macro_rules | `(tactic| walk_at "step") => `(tactic| (with_reducible refine iCB ?_))
local macro_rules | `(tactic| walk_at "step") => `(tactic| (with_reducible refine iNil ?_))
local macro_rules | `(tactic| walk_at "step") => `(tactic| (with_reducible refine iCons ?_))
local macro_rules | `(tactic| walk_at "step") => `(tactic| (with_reducible refine iI0 ?_))
local macro_rules | `(tactic| walk_at "step") => `(tactic| (with_reducible refine iOp ?_))
local macro_rules | `(tactic| walk_at "step") => `(tactic| (with_reducible refine iC ?_))
local macro_rules | `(tactic| walk_at "step") => `(tactic| ((with_reducible apply iVar); (· rfl)))
local macro_rules | `(tactic| walk_at "step") => `(tactic| ((with_reducible apply iName); (· repeat constructor)))
local macro_rules | `(tactic| walk_at "step") => `(tactic| (with_reducible refine iAsg ?_))
local macro_rules | `(tactic| walk_at "step") => `(tactic| (with_reducible refine iSeq ?_))
local macro_rules | `(tactic| walk_at "go") => `(tactic| (repeat walk_at "step"))
section
variable {P : Program} {w : World} {K : PySem.W.Frag} {mg : Str → Option Value} {base : Heap}
/-! ### a dict of cells -/
theorem nsV_take (L : List Nat) (k : Nat) : (nsV L).take k = nsV (L.take k) := List.map_take.symm
theorem nsV_drop (L : List Nat) (k : Nat) : (nsV L).drop k = nsV (L.drop k) := List.map_drop.symm
def PvG (c : List (Option (Nat → B))) (row : List Nat) (H1 : Hp) (D : Addr) (i : Nat) (H : Hp) : Prop := Ex H1 H ∧ ∃ kvs, H D = some (.dK kvs) ∧ kvs.length = i ∧ GvAt H kvs (gvL (cF c) (row.take i))
theorem pvG_0 {c : List (Option (Nat → B))} {row : List Nat} {H1 : Hp} {D : Addr} (hD : H1 D = none) : PvG c row H1 D 0 (upd H1 D (.dK [])) := ⟨Ex.new hD, [], upd_same, rfl, .nil⟩
theorem gv_upd {D : Addr} {H : Hp} {o : HO} (hD : ∀ xs, H D ≠ some (.lst xs)) : ∀ {kvs : List (Key × V)} {G : Gv}, GvAt H kvs G → GvAt (upd H D o) kvs G
  | _, _, .nil => .nil
  | _, _, .cons (a := a) (b := b) h t => .cons ⟨h.1, by
      obtain ⟨p, e, hp⟩ := h.2
      exact ⟨p, e, by rw [upd_ne (fun z => hD _ (z ▸ hp))]; exact hp⟩⟩ (gv_upd hD t)
theorem pvG_put {c : List (Option (Nat → B))} {row : List Nat} {H1 H : Hp} {D r : Addr} {i m : Nat} (hD : H1 D = none) (h : PvG c row H1 D i H) (hm : row[i]? = some m) (hr : H r = some (.lst (bl (cF c m)))) (nd : row.Nodup) (hlt : ∀ x ∈ row, x < 100) :
    ∃ kvs, H D = some (.dK kvs) ∧ kvs.length = i ∧ PvG c row H1 D (i + 1) (upd H D (.dK (putK kvs (.inl (m : Int)) (.ref r)))) := by
  obtain ⟨e, kvs, hk, hl, hG⟩ := h
  have hmm := hlt m (List.mem_of_getElem? hm)
  have hnew : valV kvs (.inl (m : Int) : Key) = none := by
    have z := hG.none (b := pl m) (fun hx => by
      rw [gvL_keys] at hx
      obtain ⟨x, hx2, ex⟩ := List.mem_map.mp hx
      have : x = m := pl_inj (Nat.lt_of_lt_of_le (hlt x (List.mem_of_mem_take hx2)) (by decide)) (Nat.lt_of_lt_of_le hmm (by decide)) ex
      subst this
      obtain ⟨j, hj⟩ := List.mem_iff_getElem?.mp hx2
      have hj2 := (List.getElem?_eq_some_iff.mp hj).1
      rw [List.length_take] at hj2
      rw [List.getElem?_take_of_lt (by omega)] at hj
      have := (List.getElem?_inj (List.getElem?_eq_some_iff.mp hj).1 nd).mp (hj.trans hm.symm)
      omega)
    rwa [pl_v (Nat.lt_of_lt_of_le hmm (by decide))] at z
  refine ⟨kvs, hk, hl, ex_upd hD e, _, upd_same, ?_, ?_⟩
  · rw [putK_new _ hnew, List.length_append, hl]; rfl
  · rw [putK_new _ hnew, List.take_succ, hm]
    show GvAt _ _ (gvL (cF c) (row.take i ++ [m]))
    have eg : gvL (cF c) (row.take i ++ [m]) = gvL (cF c) (row.take i) ++ [(pl m, cF c m)] := by unfold gvL; rw [List.map_append]; rfl
    rw [eg]
    have nr : r ≠ D := ne_of hr hk (fun z => by cases z)
    refine (gv_upd (fun xs z => by rw [hk] at z; cases z) hG).snoc ?_ ⟨r, rfl, by rw [upd_ne nr]; exact hr⟩
    show (Sum.inl (m : Int) : Key) = .inl ((pl m).v : Int)
    rw [pl_v (Nat.lt_of_lt_of_le hmm (by decide))]
theorem pvG_done {c : List (Option (Nat → B))} {row : List Nat} {H1 H : Hp} {D : Addr} (h : PvG c row H1 D row.length H) : Ex H1 H ∧ ∃ kvs, H D = some (.dK kvs) ∧ GvAt H kvs (gvL (cF c) row) := by
  obtain ⟨e, kvs, a, _, b⟩ := h
  rw [List.take_length] at b
  exact ⟨e, kvs, a, b⟩
/-! ### sectors compared -/
theorem bl_nL (f : Nat → B) : bl f = nL (secN f) := by unfold bl nL secN; rw [List.map_map]; rfl
theorem iNeSec {K : PySem.W.Frag} {H : Hp} {Q : VK} {p m : Addr} {f g : Nat → B} (h1 : H p = some (.lst (bl f))) (h2 : H m = some (.lst (bl g))) (q : Q (.bl (!eqS f g)) H) : rNeD K (.ref p) (.ref m) H Q := by
  rw [bl_nL] at h1 h2
  exact iNeN h1 h2 q
theorem iEqSec {K : PySem.W.Frag} {H : Hp} {Q : VK} {p m : Addr} {f g : Nat → B} (h1 : H p = some (.lst (bl f))) (h2 : H m = some (.lst (bl g))) (q : Q (.bl (eqS f g)) H) : rEqD K (.ref p) (.ref m) H Q := by
  rw [bl_nL] at h1 h2
  exact iEqN h1 h2 q
theorem j_readable {p : Addr} {cs : List V} {c : List (Option (Nat → B))} {m : Nat} {H : Hp} {Q : VK} {E : XK} (h : H p = some (.lst cs)) (hc : CellsAt H cs c) (hl : c.length ≤ 60) (q : NewL H Q (nsV (rdP c m c.length))) : sp_readable [.ref p, .int m] H Q E := ⟨p, cs, c, m, rfl, h, hc, hl, q⟩
theorem rowAt_ns (L : List Nat) : ∀ (ix : List Nat), (∀ j ∈ ix, j < L.length) → rowAt (nsV L) ix = nsV (ix.map fun i => L.getD i 0)
  | [], _ => rfl
  | j :: ix, h => by
    have hj := h j List.mem_cons_self
    show (nsV L).getD j .non :: rowAt (nsV L) ix = V.int ((L.getD j 0 : Nat) : Int) :: nsV (ix.map fun i => L.getD i 0)
    rw [rowAt_ns L ix fun i hi => h i (List.mem_cons_of_mem _ hi)]
    congr 1
    unfold nsV
    rw [List.getD_eq_getElem?_getD, List.getD_eq_getElem?_getD, List.getElem?_map, List.getElem?_eq_getElem hj]
    rfl
/-! ### accepted -/
def sp_accepted : Sp := fun vs H Q _ => ∃ (p : Addr) (cs : List V) (c : List (Option (Nat → B))) (k s : Nat), vs = [.ref p, .int k, .int s] ∧ H p = some (.lst cs) ∧ CellsAt H cs c ∧ c.length ≤ 8 ∧ 1 ≤ k ∧
  ∀ v H', Ex H H' → ResAt H' v c.length (accW c k s (progR c k s)) → Q v H'
theorem j_accepted {p : Addr} {cs : List V} {c : List (Option (Nat → B))} {k s : Nat} {H : Hp} {Q : VK} {E : XK} (h : H p = some (.lst cs)) (hc : CellsAt H cs c) (hl : c.length ≤ 8) (hk : 1 ≤ k) (q : ∀ v H', Ex H H' → ResAt H' v c.length (accW c k s (progR c k s)) → Q v H') : sp_accepted [.ref p, .int k, .int s] H Q E := ⟨p, cs, c, k, s, rfl, h, hc, hl, hk, q⟩
theorem ok_accepted (M : Mg mg) (gC : mg "combinations" = some (.type "itertools.combinations")) {f : Addr} {fd : FuncData} (F : Fun K "accepted" "accepted" s_accepted f fd) (c_readable : Cal P w K mg base 1 "readable" ["cells", "most"] sp_readable) (c_word_through : Cal P w K mg base 6 "word_through" ["given", "n"] sp_word_through) : FnOk P w K mg base CX0 7 f fd ["cells", "k", "s"] sp_accepted := by
  refine F.ok sc_accepted (fun vs H Q E h => ?_) (fun cdv A outer s H vs Q E hr h => ?_)
  · obtain ⟨p, cs, c, k, s, rfl, _⟩ := h; rfl
  · obtain ⟨p, cs, c, k, s', rfl, hp, hc, h8, hk, q⟩ := h
    refine ⟨_, (pss_cons (ps_set (i := 3) sc_accepted.nd rfl (Or.inl rfl) (pe_cal c_readable (hr.mono (by omega)) (by rfl) (pa_cons (pv 0) (pa_cons (pe_callB len_l (by rfl) M.n_len PySem.boot_len (pa_cons (pv 0) pa_nil)) pa_nil)))) (pss_cons (ps_set (i := 4) sc_accepted.nd rfl (Or.inl rfl) (pe_callB (call_min2 rfl) (by rfl) M.n_min (by decide +kernel) (pa_cons (pv 2) (pa_cons (pe_op op_sub (pe_op op_sub (pe_callB len_l (by rfl) M.n_len PySem.boot_len (pa_cons (pv 3) pa_nil)) (pv 1)) (pv 2)) pa_nil)))) (pss_cons (ps_if (pt_cmpR op_lt (pv 4) pe_int (nomark _)) (pss_one (ps_ret pe_non)) pss_nil) (pss_cons (ps_set (i := 5) sc_accepted.nd rfl (Or.inl rfl) (pe_slice sl_l (pv 3) po_none (po_some (pe_op op_add (pv 1) (pv 4))))) (pss_cons (ps_for PassesOwn.never rfl (pi_comb (by rfl) gC (pa_cons (pv 5) (pa_cons (pv 1) pa_nil))) (pg_name (i := 6) sc_accepted.nd rfl (Or.inl rfl)) (pss_cons (ps_set (i := 7) sc_accepted.nd rfl (Or.inr rfl) (pe_cal c_word_through (hr.mono (by omega)) (by rfl) (pa_cons (pe_dc (own := [("x", 8)]) (g := (gName 8)) (tt := tYes) (by rfl) sc_accepted.nd (pi_t (pv 6)) (blkOk_by (own := [("x", 8)]) (N := ["cells", "k", "s", "places", "spare", "first", "some", "word", "x"]) (sc := defScope s_accepted) (by decide +kernel)) (fun _ _ _ _ _ => (pg_name (i := 8) sc_accepted.nd rfl (Or.inl rfl))) (fun _ _ _ _ _ => pts_nil) (fun _ _ _ _ _ => (pv 8)) (fun _ _ _ _ _ => (pe_ix ix_l (pv 0) (pv 8) (fun _ _ => rfl)))) (pa_cons (pe_callB len_l (by rfl) M.n_len PySem.boot_len (pa_cons (pv 0) pa_nil)) pa_nil)))) (pss_one (ps_if (pt_cmpR op_le (pe_callB len_l (by rfl) M.n_len PySem.boot_len (pa_cons (pe_lc (own := [("x", 8)]) (g := (gName 8)) (tt := _) (by rfl) sc_accepted.nd (pi_l (pv 3)) (blkOk_by (own := [("x", 8)]) (N := ["cells", "k", "s", "places", "spare", "first", "some", "word", "x"]) (sc := defScope s_accepted) (by decide +kernel)) (fun _ _ _ _ _ => (pg_name (i := 8) sc_accepted.nd rfl (Or.inl rfl))) (fun _ _ _ _ _ => (pts_one (pt_cmpR (op_neDK (K := K) rfl hr.units) (pe_ix ix_l (pv 7) (pv 8) (fun _ _ => rfl)) (pe_ix ix_l (pv 0) (pv 8) (fun _ _ => rfl)) (nomark _)))) (fun _ _ _ _ _ => (pv 8))) pa_nil)) (pv 4) (nomark _)) (pss_one (ps_ret (pv 7))) pss_nil)))) (pss_one (ps_ret pe_non))))))), ?_⟩
    refine iBody (by repeat constructor) ?_
    walk_at "go"
    have len := hc.len
    rw [len]
    refine j_readable hp hc (by omega) fun q0 H1 hq0 e1 hq1 => ?_
    rw [rdP_all] at hq1
    walk_at "go"
    rw [nsV_len]
    refine ⟨_, _, rfl, ?_⟩
    by_cases hsh : (rp c).length < k + s'
    · rw [if_pos (by omega)]
      walk_at "go"
      exact q _ _ e1 (by unfold accW; rw [if_pos hsh]; rfl)
    · have esp : (if ((rp c).length : Int) - (k : Int) - (s' : Int) < (s' : Int) then ((rp c).length : Int) - (k : Int) - (s' : Int) else (s' : Int)) = ((spr c k s' : Nat) : Int) := by
        unfold spr
        split <;> omega
      rw [esp]
      have hsp : spr c k s' ≤ s' ∧ spr c k s' ≤ (rp c).length - k - s' := ⟨Nat.min_le_left _ _, Nat.min_le_right _ _⟩
      walk_at "go"
      rw [show (k : Int) + ((spr c k s' : Nat) : Int) = ((k + spr c k s' : Nat) : Int) by omega]
      refine iSlL hq1 fun q2 hq2 => ?_
      rw [cut_to, nsV_take]
      have rl := rp_len c
      have fl : ((rp c).take (k + spr c k s')).length = k + spr c k s' := by rw [List.length_take]; omega
      have e2 : Ex H1 (upd H1 q2 (.lst (nsV ((rp c).take (k + spr c k s'))))) := Ex.new hq2
      have hf2 : (upd H1 q2 (.lst (nsV ((rp c).take (k + spr c k s'))))) q2 = some (.lst (nsV ((rp c).take (k + spr c k s')))) := upd_same
      have hq3 := e2 _ _ hq1
      have e02 := e1.trans e2
      generalize upd H1 q2 (.lst (nsV ((rp c).take (k + spr c k s')))) = H2 at e02 hf2 hq3 ⊢
      have eR : progR c k s' = (combs (List.range (nsV ((rp c).take (k + spr c k s'))).length) k).map (List.map fun i => ((rp c).take (k + spr c k s')).getD i 0) := by
        rw [nsV_len]
        exact combs_getD _ _
      have hsubs : ∀ r ∈ progR c k s', r.Sublist (rp c) ∧ r.length = k := fun r hr => progR_sub hr
      generalize hF : (rp c).take (k + spr c k s') = Fs at hf2 eR fl
      generalize hRR : progR c k s' = RR at eR hsubs q
      walk_at "go"
      refine iCombI hf2 (by rw [nsV_len]; omega) (by rw [nsV_len]; omega) ?_
      refine forJ_comb (fun i σ' H' => (∃ x1 x2, σ' = [some (.ref p), some (.int k), some (.int s'), some (.ref q0), some (.int ((spr c k s' : Nat) : Int)), some (.ref q2), x1, x2, none]) ∧ Ex H2 H' ∧ ∀ j r, j < i → RR[j]? = some r → decide ((badP (cF c) (codeW (cF c) r) (rp c)).length ≤ spr c k s') = false) ⟨⟨_, _, rfl⟩, Ex.rfl' _, fun j r hj => absurd hj (Nat.not_lt_zero _)⟩ (fun i ix pt σ' H' hix hpt h => ?_) (fun σ' H' h => ?_)
      · obtain ⟨⟨x1, x2, rfl⟩, e3, hno⟩ := h
        have hixs := combs_sub (List.mem_of_getElem? hix)
        rw [rowAt_ns Fs ix fun j hj => by have := List.mem_range.mp (hixs.1.subset hj); rwa [nsV_len] at this]
        have hRi : RR[i]? = some (ix.map fun i => Fs.getD i 0) := by rw [eR, List.getElem?_map, hix]; rfl
        generalize ix.map (fun i => Fs.getD i 0) = row at hRi ⊢
        obtain ⟨sr, lr⟩ := hsubs row (List.mem_of_getElem? hRi)
        have ndr := sub_nodup sr (rp_nd c)
        have ltr : ∀ x ∈ row, x < c.length := fun x hx => rp_lt (sr.subset hx)
        have e4 : Ex H2 (upd H' pt (.tup (nsV row))) := ex_upd (by cases z : H2 pt with | none => rfl | some o => rw [e3 _ _ z] at hpt; cases hpt) e3
        have hp4 : (upd H' pt (.tup (nsV row))) pt = some (.tup (nsV row)) := upd_same
        generalize upd H' pt (.tup (nsV row)) = H3 at e4 hp4 ⊢
        have e04 := e02.trans e4
        have hp3 := e04 _ _ hp
        have hc3 := hc.ex e04
        walk_at "go"
        have wt := walk_tup (K := K) (a := pt) (xs := nsV row)
        rw [nsV_len] at wt
        refine dcJ wt (by repeat constructor) (fun D => PvG c row H3 D) (fun D hD => pvG_0 hD) (fun D i H hD h => SqT.tr (h.1 _ _ hp4)) (fun D i x Ha Hb hD hi h y => ?_) (fun D H4 hD h => ?_)
        · obtain ⟨rfl, hx⟩ := y
          obtain ⟨m, hm, rfl⟩ := nsV_get hx
          have hpa := h.1 _ _ hp3
          obtain ⟨r, hr1, hr2⟩ := hc3.sec (rp_has (sr.subset (List.mem_of_getElem? hm)))
          obtain ⟨kvs, k1, k2, k3⟩ := pvG_put hD h hm (h.1 _ _ hr2) ndr (fun x hx => by have := ltr x hx; omega)
          walk_at "go"
          refine iIxL hpa ((atI_natL _ _).trans hr1) ?_
          exact ⟨kvs, .inl (m : Int), rfl, k1, Evl.sz_lt (by omega), k3⟩
        · obtain ⟨e5, kvs, hk4, hG4⟩ := pvG_done h
          have hp5 := e5 _ _ hp3
          walk_at "go"
          rw [len]
          refine j_word_through hk4 hG4 (gvL_nd ndr fun m hm => by have := ltr m hm; omega) (by omega) fun pw H5 acc hpw e6 hacc hW => ?_
          obtain ⟨la, sa⟩ := hW.res
          have e7 := (e4.trans e5).trans e6
          have hq5 := e7 _ _ hq3
          have hp6 := e6 _ _ hp5
          have hc5 := hc.ex (e02.trans e7)
          walk_at "go"
          refine lcR_l (nsV (rp c)) (fun i acc _ => acc = nsV (((rp c).take i).filter fun x => !eqS (codeW (cF c) row x) (cF c x))) (by repeat constructor) hq5 (fun _ _ _ _ _ h => h) (by simp [nsV]) (fun D i ac6 x H6 hD hx hacc6 hl6 e8 hA => ?_) (fun D acc6 H6 hD e8 hacc6 hA => ?_)
          · obtain ⟨m, hm, rfl⟩ := nsV_get hx
            have hmc := List.mem_of_getElem? hm
            obtain ⟨r, hr1, hr2⟩ := hc5.sec (rp_has hmc)
            have hml := rp_lt hmc
            obtain ⟨v, hv⟩ : ∃ v, acc[m]? = some v := ⟨_, List.getElem?_eq_getElem (by omega)⟩
            obtain ⟨rw_, rfl, hrw⟩ := sa m v hv
            have et : (rp c).take (i + 1) = (rp c).take i ++ [m] := by rw [List.take_succ, hm]; rfl
            walk_at "go"
            refine iIxL (e8 _ _ hacc) ((atI_natL _ _).trans hv) ?_
            walk_at "go"
            refine iIxL (e8 _ _ hp6) ((atI_natL _ _).trans hr1) ?_
            walk_at "go"
            refine iNeSec (e8 _ _ hrw) (e8 _ _ hr2) ?_
            have il : i < c.length := Nat.lt_of_lt_of_le (List.getElem?_eq_some_iff.mp hm).1 rl
            have stp : ((rp c).take (i + 1)).filter (fun x => !eqS (codeW (cF c) row x) (cF c x)) = ((rp c).take i).filter (fun x => !eqS (codeW (cF c) row x) (cF c x)) ++ [m].filter (fun x => !eqS (codeW (cF c) row x) (cF c x)) := by rw [et, List.filter_append]
            cases eb : eqS (codeW (cF c) row m) (cF c m) with
            | true =>
              walk_at "go"
              refine iLcN hacc6 hl6 ⟨e8, ?_⟩
              show ac6 = _
              rw [stp, hA, List.filter_cons, eb]
              simp [nsV]
            | false =>
              walk_at "go"
              refine iLcR hD (by omega) hl6 e8 hacc6 ?_
              show _ = _
              rw [stp, hA, List.filter_cons, eb]
              simp [nsV]
          · rw [nsV_len, List.take_length] at hA
            rw [hA] at hacc6
            walk_at "go"
            rw [nsV_len]
            refine ifD (fun h1 => ?_) (fun h1 => ?_)
            · have hb : (badP (cF c) (codeW (cF c) row) (rp c)).length ≤ spr c k s' := by unfold badP; omega
              walk_at "go"
              refine q _ _ (e02.trans (e7.trans e8)) ?_
              have : firstAcc (cF c) (rp c) (spr c k s') RR = some row := find_at hno hRi (decide_eq_true hb)
              unfold accW
              rw [if_neg hsh, this]
              exact ⟨pw, acc, rfl, e8 _ _ hacc, la, sa.ex e8⟩
            · have hb : ¬ (badP (cF c) (codeW (cF c) row) (rp c)).length ≤ spr c k s' := by unfold badP; omega
              walk_at "go"
              refine ⟨⟨_, _, rfl⟩, e7.trans e8, fun j r hj hr' => ?_⟩
              rcases Nat.lt_or_ge j i with z | z
              · exact hno j r z hr'
              · have : j = i := by omega
                subst this
                rw [hRi] at hr'
                cases hr'
                exact decide_eq_false hb
      · obtain ⟨⟨x1, x2, rfl⟩, e3, hno⟩ := h
        walk_at "go"
        refine q _ _ (e02.trans e3) ?_
        have : firstAcc (cF c) (rp c) (spr c k s') RR = none := find_no fun j r hj => hno j r (by
          have := (List.getElem?_eq_some_iff.mp hj).1
          rwa [eR, List.length_map] at this) hj
        unfold accW
        rw [if_neg hsh, this]
        rfl
end
end R
set_option Elab.async false
set_option linter.all false
set_option maxRecDepth 100000
set_option maxHeartbeats 4000000
namespace R
open PySem PySem.Spec L2
open Evl (Ex)
abbrev s_read_word : Stmt := topS 13
theorem sc_read_word : FnScope ["cells", "k", "s", "places", "word", "x"] ["cells", "k", "s"] (defScope s_read_word) := ⟨rfl, rfl, rfl, by decide +kernel, rfl, by decide +kernel, by decide +kernel⟩
abbrev s_vote : Stmt := topS 14
theorem sc_vote : FnScope ["cells", "s", "cell", "read", "votes"] ["cells", "s"] (defScope s_vote) := ⟨rfl, rfl, rfl, by decide +kernel, rfl, by decide +kernel, by decide +kernel⟩
local macro_rules | `(tactic| walk_at "ne") => `(tactic| (apply Ne.symm; apply ne_fresh; (· assumption); (· walk_at "look")))
local macro_rules | `(tactic| walk_at "ne") => `(tactic| (apply ne_fresh; (· assumption); (· walk_at "look")))
local macro_rules | `(tactic| walk_at "ne") => `(tactic| (apply Ne.symm; assumption))
local macro_rules | `(tactic| walk_at "ne") => `(tactic| assumption)
local macro_rules | `(tactic| walk_at "look") => `(tactic| (refine exAt (by assumption) ?_; walk_at "look"))
local macro_rules | `(tactic| walk_at "look") => `(tactic| (refine (upd_ne ?_).trans ?_; (· walk_at "ne"); (· walk_at "look")))
local macro_rules | `(tactic| walk_at "look") => `(tactic| exact upd_same)
local macro_rules | `(tactic| walk_at "look") => `(tactic| assumption)
local macro_rules | `(tactic| walk_at "side") => `(tactic| (exact ⟨by decide, by decide, by decide⟩))
local macro_rules | `(tactic| walk_at "side") => `(tactic| (exact ⟨by omega, by omega⟩))
local macro_rules | `(tactic| walk_at "side") => `(tactic| (show (0:Int) ≤ _; omega))
local macro_rules | `(tactic| walk_at "side") => `(tactic| (show (0:Int) < _; omega))
local macro_rules | `(tactic| walk_at "side") => `(tactic| (exact Or.inr ⟨by omega, by omega⟩))
local macro_rules | `(tactic| walk_at "side") => `(tactic| (exact Or.inl ⟨by omega, by omega⟩))
local macro_rules | `(tactic| walk_at "step") => `(tactic| ((with_reducible apply iDcT); (· rfl)))
local macro_rules | `(tactic| walk_at "step") => `(tactic| ((with_reducible apply iParI); (· repeat constructor); (· repeat constructor)))
local macro_rules | `(tactic| walk_at "step") => `(tactic| ((with_reducible apply iItT); (· walk_at "look")))
local macro_rules | `(tactic| walk_at "step") => `(tactic| ((with_reducible apply iZL); (· walk_at "look"); (· walk_at "look")))
local macro_rules | `(tactic| walk_at "step") => `(tactic| ((with_reducible apply iItL); (· walk_at "look")))
local macro_rules | `(tactic| walk_at "step") => `(tactic| ((with_reducible apply iRng2I); (· omega); (· omega); (· omega); (· omega)))
local macro_rules | `(tactic| walk_at "step") => `(tactic| ((with_reducible apply iDNi); (· walk_at "look")))
local macro_rules | `(tactic| walk_at "step") => `(tactic| ((with_reducible apply iDIi); (· walk_at "look")))
local macro_rules | `(tactic| walk_at "step") => `(tactic| ((with_reducible apply iGTup); (· walk_at "look"); (· rfl)))
local macro_rules | `(tactic| walk_at "step") => `(tactic| ((with_reducible apply iLcB); (· rfl)))
local macro_rules | `(tactic| walk_at "step") => `(tactic| ((with_reducible apply ifNn); (· omega)))
local macro_rules | `(tactic| walk_at "step") => `(tactic| ((with_reducible apply ifNp); (· omega)))
local macro_rules | `(tactic| walk_at "step") => `(tactic| ((with_reducible apply ifF); (· apply decide_eq_false; omega)))
local macro_rules | `(tactic| walk_at "step") => `(tactic| ((with_reducible apply ifT); (· apply decide_eq_true; omega)))
local macro_rules | `(tactic| walk_at "step") => `(tactic| ((with_reducible apply ifF); (· rfl)))
local macro_rules | `(tactic| walk_at "step") => `(tactic| ((with_reducible apply ifT); (· rfl)))
local macro_rules | `(tactic| walk_at "step") => `(tactic| ((with_reducible apply iLenS); (· first | exact Or.inl (by walk_at "look") | exact Or.inr (by walk_at "look"))))
local macro_rules | `(tactic| walk_at "step") => `(tactic| ((with_reducible apply iLenT); (· walk_at "look")))
local macro_rules | `(tactic| walk_at "step") => `(tactic| ((with_reducible apply iIsi); (· first | exact tyN_int | exact tyN_bl | exact tyN_non | exact tyN_str | exact tyN_lst (by walk_at "look") | exact tyN_tup (by walk_at "look")); (· (first | exact kb_NoneType_bool | exact kb_NoneType_int | exact kb_NoneType_str | exact kb_NoneType_tuple | exact kb_NoneType_list | exact kb_bool_bool | exact kb_bool_int | exact kb_bool_str | exact kb_bool_tuple | exact kb_bool_list | exact kb_int_bool | exact kb_int_int | exact kb_int_str | exact kb_int_tuple | exact kb_int_list | exact kb_str_bool | exact kb_str_int | exact kb_str_str | exact kb_str_tuple | exact kb_str_list | exact kb_tuple_bool | exact kb_tuple_int | exact kb_tuple_str | exact kb_tuple_tuple | exact kb_tuple_list | exact kb_list_bool | exact kb_list_int | exact kb_list_str | exact kb_list_tuple | exact kb_list_list))))
local macro_rules | `(tactic| walk_at "step") => `(tactic| ((with_reducible apply iIxT); (· walk_at "look"); (· rfl)))
local macro_rules | `(tactic| walk_at "step") => `(tactic| ((with_reducible apply iSetL); (· walk_at "look"); (· rfl)))
local macro_rules | `(tactic| walk_at "step") => `(tactic| ((with_reducible apply iLenL); (· walk_at "look")))
local macro_rules | `(tactic| walk_at "step") => `(tactic| ((with_reducible apply iIxL); (· walk_at "look"); (· rfl)))
local macro_rules | `(tactic| walk_at "step") => `(tactic| ((with_reducible apply iI); rotate_left; (· (first | (exact Or.inl ⟨by omega, by omega⟩) | (exact Or.inr ⟨by omega, by omega⟩) | (show (0:Int) < _; omega) | (show (0:Int) ≤ _; omega) | (exact ⟨by omega, by omega⟩) | (exact ⟨by decide, by decide, by decide⟩)))))
local macro_rules | `(tactic| walk_at "step") => `(tactic| ((with_reducible apply iAugK); (· rfl)))
local macro_rules | `(tactic| walk_at "step") => `(tactic| ((with_reducible apply iRngI); (· first | decide | omega); (· first | decide | omega)))
local macro_rules | `(tactic| walk_at "step") => `(tactic| (with_reducible refine iWPut ?_))
local macro_rules | `(tactic| walk_at "step") => `(tactic| (with_reducible refine iWGet ?_))
local macro_rules | `(tactic| walk_at "step") => `(tactic| (with_reducible refine iWNot ?_))
local macro_rules | `(tactic| walk_at "step") => `(tactic| (with_reducible refine iCombK ?_))
local macro_rules | `(tactic| walk_at "step") => `(tactic| (with_reducible refine iDc ?_))
local macro_rules | `(tactic| walk_at "step") => `(tactic| (with_reducible refine iPar ?_))
local macro_rules | `(tactic| walk_at "step") => `(tactic| (with_reducible refine iItS ?_))
local macro_rules | `(tactic| walk_at "step") => `(tactic| (with_reducible refine iIterS ?_))
local macro_rules | `(tactic| walk_at "step") => `(tactic| (with_reducible refine iIterT ?_))
local macro_rules | `(tactic| walk_at "step") => `(tactic| (with_reducible refine iZA ?_))
local macro_rules | `(tactic| walk_at "step") => `(tactic| (with_reducible refine iRg3 ?_))
local macro_rules | `(tactic| walk_at "step") => `(tactic| (with_reducible refine iRv ?_))
local macro_rules | `(tactic| walk_at "step") => `(tactic| (with_reducible refine iNoPart ?_))
local macro_rules | `(tactic| walk_at "step") => `(tactic| (with_reducible refine iPartI ?_))
local macro_rules | `(tactic| walk_at "step") => `(tactic| (with_reducible refine iPart ?_))
local macro_rules | `(tactic| walk_at "step") => `(tactic| (with_reducible refine iSl ?_))
local macro_rules | `(tactic| walk_at "step") => `(tactic| (with_reducible refine iDEa ?_))
local macro_rules | `(tactic| walk_at "step") => `(tactic| (with_reducible refine iGNil ?_))
local macro_rules | `(tactic| walk_at "step") => `(tactic| (with_reducible refine iGCons ?_))
local macro_rules | `(tactic| walk_at "step") => `(tactic| (with_reducible refine iZipK ?_))
local macro_rules | `(tactic| walk_at "step") => `(tactic| (with_reducible refine iRng2 ?_))
local macro_rules | `(tactic| walk_at "step") => `(tactic| (with_reducible refine iDPut ?_))
local macro_rules | `(tactic| walk_at "step") => `(tactic| (with_reducible refine iDNotIn ?_))
local macro_rules | `(tactic| walk_at "step") => `(tactic| (with_reducible refine iDIn ?_))
local macro_rules | `(tactic| walk_at "step") => `(tactic| (with_reducible refine iDGet ?_))
local macro_rules | `(tactic| walk_at "step") => `(tactic| (with_reducible refine iYes ?_))
local macro_rules | `(tactic| walk_at "step") => `(tactic| (with_reducible refine iLc ?_))
local macro_rules | `(tactic| walk_at "step") => `(tactic| (with_reducible refine iNeS ?_))
local macro_rules | `(tactic| walk_at "step") => `(tactic| (with_reducible refine iEqS ?_))
local macro_rules | `(tactic| walk_at "step") => `(tactic| (with_reducible refine iNeB ?_))
local macro_rules | `(tactic| walk_at "step") => `(tactic| (with_reducible refine iEqB ?_))
local macro_rules | `(tactic| walk_at "step") => `(tactic| (with_reducible refine iCont ?_))
local macro_rules | `(tactic| walk_at "step") => `(tactic| (with_reducible refine iBreak ?_))
local macro_rules | `(tactic| walk_at "step") => `(tactic| (with_reducible refine iIterL ?_))
local macro_rules | `(tactic| walk_at "step") => `(tactic| (with_reducible refine iTup ?_))
local macro_rules | `(tactic| walk_at "step") => `(tactic| (with_reducible refine iLst ?_))
local macro_rules | `(tactic| walk_at "step") => `(tactic| (with_reducible refine iSub ?_))
local macro_rules | `(tactic| walk_at "step") => `(tactic| (with_reducible refine iIpI ?_))
local macro_rules | `(tactic| walk_at "step") => `(tactic| (with_reducible refine iAugS ?_))
local macro_rules | `(tactic| walk_at "step") => `(tactic| (with_reducible refine iNotV ?_))
local macro_rules | `(tactic| walk_at "step") => `(tactic| (with_reducible refine iOrV ?_))
local macro_rules | `(tactic| walk_at "step") => `(tactic| (with_reducible refine iAndV ?_))
local macro_rules | `(tactic| walk_at "step") => `(tactic| (with_reducible refine iDGet1 ?_))
local macro_rules | `(tactic| walk_at "step") => `(tactic| (with_reducible refine iNotBl ?_))
local macro_rules | `(tactic| walk_at "step") => `(tactic| (with_reducible refine iIsB ?_))
local macro_rules | `(tactic| walk_at "step") => `(tactic| (with_reducible refine iIntB ?_))
local macro_rules | `(tactic| walk_at "step") => `(tactic| (with_reducible refine iPn ?_))
local macro_rules | `(tactic| walk_at "step") => `(tactic| (with_reducible refine iPr ?_))
local macro_rules | `(tactic| walk_at "step") => `(tactic| (with_reducible refine iRai ?_))
local macro_rules | `(tactic| walk_at "step") => `(tactic| (with_reducible refine iRev1 ?_))
local macro_rules | `(tactic| walk_at "step") => `(tactic| (with_reducible refine iBM ?_))
local macro_rules | `(tactic| walk_at "step") => `(tactic| (with_reducible refine iAugF ?_))
local macro_rules | `(tactic| walk_at "step") => `(tactic| (with_reducible refine iSto ?_))
local macro_rules | `(tactic| walk_at "step") => `(tactic| (with_reducible refine iFld ?_))
local macro_rules | `(tactic| walk_at "step") => `(tactic| (with_reducible refine iMakS ?_))
local macro_rules | `(tactic| walk_at "step") => `(tactic| (with_reducible refine iMak ?_))
local macro_rules | `(tactic| walk_at "step") => `(tactic| (with_reducible refine iMet ?_))
local macro_rules | `(tactic| walk_at "step") => `(tactic| (with_reducible refine iCalE ?_))
local macro_rules | `(tactic| walk_at "step") => `(tactic| (with_reducible refine ifDr ?_))
local macro_rules | `(tactic| walk_at "step") => `(tactic| (with_reducible refine ifNDr ?_))
local macro_rules | `(tactic| walk_at "step") => `(tactic| (with_reducible refine iTruI ?_))
local macro_rules | `(tactic| walk_at "step") => `(tactic| (with_reducible refine iNotN ?_))
local macro_rules | `(tactic| walk_at "step") => `(tactic| (with_reducible refine iIsN ?_))
local macro_rules | `(tactic| walk_at "step") => `(tactic| (with_reducible refine iRetN ?_))
local macro_rules | `(tactic| walk_at "step") => `(tactic| (with_reducible refine iU ?_))
local macro_rules | `(tactic| walk_at "step") => `(tactic| (with_reducible refine iUn ?_))
local macro_rules | `(tactic| walk_at "step") => `(tactic| (with_reducible refine iChain ?_))
local macro_rules | `(tactic| walk_at "step") => `(tactic| (with_reducible refine iIf ?_))
local macro_rules | `(tactic| walk_at "step") => `(tactic| (with_reducible refine iB ?_))
local macro_rules | `(tactic| walk_at "step") => `(tactic| (with_reducible refine iNot ?_))
local macro_rules | `(tactic| walk_at "step") => `(tactic| (with_reducible refine iOr ?_))
local macro_rules | `(tactic| walk_at "step") => `(tactic| (with_reducible refine iAnd ?_))
local macro_rules | `(tactic| walk_at "step") => `(tactic| (with_reducible refine iCal ?_))
local macro_rules | `(tactic| walk_at "step") => `(tactic| (with_reducible refine iRng ?_))
local macro_rules | `(tactic| walk_at "step") => `(tactic| (with_reducible refine iFor ?_))
local macro_rules | `(tactic| walk_at "step") => `(tactic| (with_reducible refine iInt ?_))
local macro_rules | `(tactic| walk_at "step") => `(tactic| (with_reducible refine iNeI ?_))
local macro_rules | `(tactic| walk_at "step") => `(tactic| (with_reducible refine iEqI ?_))
local macro_rules | `(tactic| walk_at "step") => `(tactic| (with_reducible refine iDrop ?_))
local macro_rules | `(tactic| walk_at "step") => `(tactic| (with_reducible refine iNext ?_))
local macro_rules | `(tactic| walk_at "step") => `(tactic| (with_reducible refine iRet ?_))
local macro_rules | `(tactic| walk_at "step") => `(tactic| (with_reducible refine iBl ?_))
local macro_rules | `(tactic| walk_at "step") => `(tactic| (with_reducible refine iTest ?_))
local macro_rules | `(tactic| walk_at "step") => `(tactic| (with_reducible refine iIfS ?_))
local macro_rules | `(tactic| walk_at "step") => `(tactic| (with_reducible refine iCB ?_))
local macro_rules | `(tactic| walk_at "step") => `(tactic| (with_reducible refine iNil ?_))
local macro_rules | `(tactic| walk_at "step") => `(tactic| (with_reducible refine iCons ?_))
local macro_rules | `(tactic| walk_at "step") => `(tactic| (with_reducible refine iI0 ?_))
local macro_rules | `(tactic| walk_at "step") => `(tactic| (with_reducible refine iOp ?_))
local macro_rules | `(tactic| walk_at "step") => `(tactic| (with_reducible refine iC ?_))
local macro_rules | `(tactic| walk_at "step") => `(tactic| ((with_reducible apply iVar); (· rfl)))
local macro_rules | `(tactic| walk_at "step") => `(tactic| ((with_reducible apply iName); (· repeat constructor)))
local macro_rules | `(tactic| walk_at "step") => `(tactic| (with_reducible refine iAsg ?_))
local macro_rules | `(tactic| walk_at "step") => `(tactic| (with_reducible refine iSeq ?_))
local macro_rules | `(tactic| walk_at "go") => `(tactic| (repeat walk_at "step"))
section
variable {P : Program} {w : World} {K : PySem.W.Frag} {mg : Str → Option Value} {base : Heap}
/-! ### read_word -/
theorem iAll {K : PySem.W.Frag} {H : Hp} {Q : VK} {a : Addr} {bs : List Bool} (h : H a = some (.lst (bs.map V.bl))) (q : Q (.bl (bs.all id)) H) : rAll K [V.ref a] H Q := ⟨a, bs, rfl, SqL.tr h, q⟩
def sp_read_word : Sp := fun vs H Q _ => ∃ (p : Addr) (cs : List V) (c : List (Option (Nat → B))) (k s : Nat), vs = [.ref p, .int k, .int s] ∧ H p = some (.lst cs) ∧ CellsAt H cs c ∧ c.length ≤ 8 ∧ 1 ≤ k ∧ 1 ≤ s ∧
  ∀ t H' v, Ex H H' → H' t = some (.tup [v, .int ((readW c k s (accW c k s (progR c k s))).2 : Nat)]) → ResAt H' v c.length (readW c k s (accW c k s (progR c k s))).1 → Q (.ref t) H'
theorem ok_read_word (M : Mg mg) {f : Addr} {fd : FuncData} (F : Fun K "read_word" "read_word" s_read_word f fd) (c_readable : Cal P w K mg base 1 "readable" ["cells", "most"] sp_readable) (c_word_through : Cal P w K mg base 6 "word_through" ["given", "n"] sp_word_through) (c_accepted : Cal P w K mg base 7 "accepted" ["cells", "k", "s"] sp_accepted) : FnOk P w K mg base CX0 8 f fd ["cells", "k", "s"] sp_read_word := by
  refine F.ok sc_read_word (fun vs H Q E h => ?_) (fun cdv A outer s H vs Q E hr h => ?_)
  · obtain ⟨p, cs, c, k, s, rfl, _⟩ := h; rfl
  · obtain ⟨p, cs, c, k, s', rfl, hp, hc, h8, hk, hs, q⟩ := h
    refine ⟨_, (pss_cons (ps_set (i := 3) sc_read_word.nd rfl (Or.inl rfl) (pe_cal c_readable (hr.mono (by omega)) (by rfl) (pa_cons (pv 0) (pa_cons (pe_op op_add (pv 1) (pv 2)) pa_nil)))) (pss_cons (ps_if (pt_cmpR op_eq (pe_callB len_l (by rfl) M.n_len PySem.boot_len (pa_cons (pv 3) pa_nil)) (pe_op op_add (pv 1) (pv 2)) (nomark _)) (pss_cons (ps_set (i := 4) sc_read_word.nd rfl (Or.inr rfl) (pe_cal c_word_through (hr.mono (by omega)) (by rfl) (pa_cons (pe_dc (own := [("x", 5)]) (g := (gName 5)) (tt := tYes) (by rfl) sc_read_word.nd (pi_l (pe_slice sl_l (pv 3) po_none (po_some (pv 1)))) (blkOk_by (own := [("x", 5)]) (N := ["cells", "k", "s", "places", "word", "x"]) (sc := defScope s_read_word) (by decide +kernel)) (fun _ _ _ _ _ => (pg_name (i := 5) sc_read_word.nd rfl (Or.inl rfl))) (fun _ _ _ _ _ => pts_nil) (fun _ _ _ _ _ => (pv 5)) (fun _ _ _ _ _ => (pe_ix ix_l (pv 0) (pv 5) (fun _ _ => rfl)))) (pa_cons (pe_callB len_l (by rfl) M.n_len PySem.boot_len (pa_cons (pv 0) pa_nil)) pa_nil)))) (pss_one (ps_if (pt_val (pe_callB (cr_all rfl) (by rfl) M.n_all (by decide +kernel) (pa_cons (pe_lc (own := [("x", 5)]) (g := (gName 5)) (tt := tYes) (by rfl) sc_read_word.nd (pi_l (pv 3)) (blkOk_by (own := [("x", 5)]) (N := ["cells", "k", "s", "places", "word", "x"]) (sc := defScope s_read_word) (by decide +kernel)) (fun _ _ _ _ _ => (pg_name (i := 5) sc_read_word.nd rfl (Or.inl rfl))) (fun _ _ _ _ _ => pts_nil) (fun _ _ _ _ _ => (pe_cmpR (op_eqDK (K := K) rfl hr.units) (pe_ix ix_l (pv 4) (pv 5) (fun _ _ => rfl)) (pe_ix ix_l (pv 0) (pv 5) (fun _ _ => rfl)) (nomark _)))) pa_nil))) (pss_one (ps_ret (pe_tup (pa_cons (pv 4) (pa_cons (pe_op op_add (pe_ix ix_l (pv 3) (pe_un un_neg pe_int) (fun _ _ => rfl)) pe_int) pa_nil))))) pss_nil))) pss_nil) (pss_one (ps_ret (pe_tup (pa_cons (pe_cal c_accepted (hr.mono (by omega)) (by rfl) (pa_cons (pv 0) (pa_cons (pv 1) (pa_cons (pv 2) pa_nil)))) (pa_cons (pe_callB len_l (by rfl) M.n_len PySem.boot_len (pa_cons (pv 0) pa_nil)) pa_nil))))))), ?_⟩
    refine iBody (by repeat constructor) ?_
    walk_at "go"
    rw [show (k : Int) + (s' : Int) = ((k + s' : Nat) : Int) by omega]
    refine j_readable hp hc (by omega) fun q0 H1 hq0 e1 hq1 => ?_
    have len := hc.len
    have sL := rdP_sub c (k + s')
    have nL_ : (rdP c (k + s') c.length).Nodup := sub_nodup sL (rp_nd c)
    have rest : ∀ H2 x4, Ex H H2 → readW c k s' (accW c k s' (progR c k s')) = (accW c k s' (progR c k s'), c.length) → sp_accepted [V.ref p, V.int k, V.int s'] H2 (fun x H1 => tCons (tCB kLenL (tCons (tVar 0) tNil)) tNil [some (.ref p), some (.int k), some (.int s'), some (.ref q0), x4, none] H1 fun xs H2 => kNewT Q (x :: xs) H2) E0 := fun H2 x4 e2 er => by
      have hp2 := e2 _ _ hp
      refine j_accepted hp2 (hc.ex e2) h8 hk fun v H3 e3 hv => ?_
      have hp3 := e3 _ _ hp2
      walk_at "go"
      rw [len]
      refine iNewT (by simp) fun t ht => ?_
      refine q t _ v ((e2.trans e3).trans (Ex.new ht)) (by rw [er]; exact upd_same) ?_
      rw [er]
      exact hv.ex (Ex.new ht)
    walk_at "go"
    rw [nsV_len]
    refine ifD (fun h1 => ?_) (fun h1 => ?_)
    · walk_at "go"
      refine iSlL hq1 fun q2 hq2 => ?_
      rw [cut_to, nsV_take]
      generalize hLL : rdP c (k + s') c.length = L at hq1 h1 hq2 sL nL_ ⊢
      have e2 : Ex H1 (upd H1 q2 (.lst (nsV (L.take k)))) := Ex.new hq2
      have hr2 : (upd H1 q2 (.lst (nsV (L.take k)))) q2 = some (.lst (nsV (L.take k))) := upd_same
      generalize upd H1 q2 (.lst (nsV (L.take k))) = H2 at e2 hr2 ⊢
      have e02 := e1.trans e2
      have hp2 := e02 _ _ hp
      have hc2 := hc.ex e02
      have hq3 := e2 _ _ hq1
      generalize hrow : L.take k = row at hr2 ⊢
      have sr : row.Sublist (rp c) := by rw [← hrow]; exact (List.take_sublist _ _).trans sL
      have ndr := sub_nodup sr (rp_nd c)
      have ltr : ∀ x ∈ row, x < c.length := fun x hx => rp_lt (sr.subset hx)
      walk_at "go"
      have wt := walk_list (K := K) (a := q2) (xs := nsV row)
      rw [nsV_len] at wt
      refine dcJ wt (by repeat constructor) (fun D => PvG c row H2 D) (fun D hD => pvG_0 hD) (fun D i H hD h => SqL.tr (h.1 _ _ hr2)) (fun D i x Ha Hb hD hi h y => ?_) (fun D H4 hD h => ?_)
      · obtain ⟨rfl, hx⟩ := y
        obtain ⟨m, hm, rfl⟩ := nsV_get hx
        have hpa := h.1 _ _ hp2
        obtain ⟨r, hr1, hr3⟩ := hc2.sec (rp_has (sr.subset (List.mem_of_getElem? hm)))
        obtain ⟨kvs, k1, k2, k3⟩ := pvG_put hD h hm (h.1 _ _ hr3) ndr (fun x hx => by have := ltr x hx; omega)
        have rl := rp_len c
        have rl2 := sr.length_le
        walk_at "go"
        refine iIxL hpa ((atI_natL _ _).trans hr1) ?_
        exact ⟨kvs, .inl (m : Int), rfl, k1, Evl.sz_lt (by omega), k3⟩
      · obtain ⟨e5, kvs, hk4, hG4⟩ := pvG_done h
        have hp5 := e5 _ _ hp2
        walk_at "go"
        rw [len]
        refine j_word_through hk4 hG4 (gvL_nd ndr fun m hm => by have := ltr m hm; omega) (by omega) fun pw H5 acc hpw e6 hacc hW => ?_
        obtain ⟨la, sa⟩ := hW.res
        have e7 := e5.trans e6
        have hq5 := e7 _ _ hq3
        have hp6 := e7 _ _ hp2
        have hc5 := hc2.ex e7
        have rl := rp_len c
        have rl2 := sL.length_le
        walk_at "go"
        refine lcF_l (nsV L) (fun i => V.bl (eqS (codeW (cF c) row (L.getD i 0)) (cF c (L.getD i 0)))) (by repeat constructor) hq5 (fun D i x H6 hD hx hacc6 e8 => ?_) (fun D H6 hD e8 hacc6 => ?_)
        · obtain ⟨m, hm, rfl⟩ := nsV_get hx
          have hmc := sL.subset (List.mem_of_getElem? hm)
          obtain ⟨r, hr1, hr2⟩ := hc5.sec (rp_has hmc)
          have hml := rp_lt hmc
          obtain ⟨v, hv⟩ : ∃ v, acc[m]? = some v := ⟨_, List.getElem?_eq_getElem (by omega)⟩
          obtain ⟨rw_, rfl, hrw⟩ := sa m v hv
          have il := (List.getElem?_eq_some_iff.mp hm).1
          walk_at "go"
          refine iIxL (e8 _ _ hacc) ((atI_natL _ _).trans hv) ?_
          walk_at "go"
          refine iIxL (e8 _ _ hp6) ((atI_natL _ _).trans hr1) ?_
          walk_at "go"
          refine iEqSec (e8 _ _ hrw) (e8 _ _ hr2) ?_
          refine iLcF hD (by omega) e8 hacc6 ?_
          rw [List.getD_eq_getElem?_getD, hm]
          rfl
        · rw [nsV_len] at hacc6
          have eb : ∀ g : Nat → Bool, (List.range L.length).map (fun i => V.bl (g (L.getD i 0))) = (L.map g).map V.bl := fun g => by
            have z := congrArg (List.map (fun x => V.bl (g x))) (list_getD L)
            rw [List.map_map] at z
            rw [List.map_map]
            exact z.symm
          rw [eb fun x => eqS (codeW (cF c) row x) (cF c x)] at hacc6
          have h1 : L.length = k + s' := by omega
          have hq6 := e8 _ _ hq5
          have hpw6 := e8 _ _ hacc
          walk_at "go"
          refine iAll hacc6 ?_
          have ea : ((L.map fun x => eqS (codeW (cF c) row x) (cF c x)).all id) = (L.all fun x => eqS (codeW (cF c) row x) (cF c x)) := by rw [List.all_map]; rfl
          rw [ea]
          have e08 := e02.trans (e7.trans e8)
          cases hall : (L.all fun x => eqS (codeW (cF c) row x) (cF c x)) with
          | true =>
            have er : readW c k s' (accW c k s' (progR c k s')) = (some (codeW (cF c) row), 1 + L.getD (k + s' - 1) 0) := by
              unfold readW
              rw [hLL, hrow, if_pos ⟨h1, hall⟩]
            walk_at "go"
            refine iIxL hq6 (v := .int (L.getD (k + s' - 1) 0 : Nat)) ?_ ?_
            · rw [atI_m1, List.getLast?_eq_getElem?, nsV_len, h1]
              unfold nsV
              rw [List.getElem?_map, List.getD_eq_getElem?_getD, List.getElem?_eq_getElem (by omega)]
              rfl
            walk_at "go"
            refine iNewT (by simp) fun t ht => ?_
            refine q t _ (.ref pw) (e08.trans (Ex.new ht)) ?_ ?_
            · rw [er, upd_same]
              show some (HO.tup [V.ref pw, V.int ((L.getD (k + s' - 1) 0 : Nat) + 1)]) = some (HO.tup [V.ref pw, V.int ((1 + L.getD (k + s' - 1) 0 : Nat) : Int)])
              rw [show ((L.getD (k + s' - 1) 0 : Nat) : Int) + 1 = ((1 + L.getD (k + s' - 1) 0 : Nat) : Int) by omega]
            · rw [er]
              exact ⟨pw, acc, rfl, (Ex.new ht) _ _ hpw6, la, (sa.ex e8).ex (Ex.new ht)⟩
          | false =>
            walk_at "go"
            refine rest H6 _ e08 ?_
            unfold readW
            rw [hLL, hrow, if_neg (by rintro ⟨_, z⟩; rw [hall] at z; cases z)]
    · walk_at "go"
      refine rest H1 _ e1 ?_
      unfold readW
      rw [if_neg (by rintro ⟨z, _⟩; omega)]
/-! ### vote -/
theorem plain_nD (ns : List Nat) : (nD ns).plain = true := by
  unfold nD
  rw [PyData.plain]
  induction ns with
  | nil => rw [List.map_nil, PyData.plainAll]
  | cons n ns ih => rw [List.map_cons, PyData.plainAll, ih, PyData.plain]; rfl
theorem plain_nDs : ∀ S : List (List Nat), PyData.plainAll (S.map nD) = true
  | [] => by rw [List.map_nil, PyData.plainAll]
  | n :: ns => by rw [List.map_cons, PyData.plainAll, plain_nDs ns, plain_nD]; rfl
/-- sectors in a row -/
inductive SecL (H : Hp) : List V → List (Nat → B) → Prop
  | nil : SecL H [] []
  | cons {v : V} {f : Nat → B} {vs : List V} {fs : List (Nat → B)} (h : SecAt H v f) (t : SecL H vs fs) : SecL H (v :: vs) (f :: fs)
theorem SecL.ex {H H' : Hp} (e : Ex H H') : ∀ {vs : List V} {fs : List (Nat → B)}, SecL H vs fs → SecL H' vs fs
  | _, _, .nil => .nil
  | _, _, .cons h t => .cons (h.ex e) (t.ex e)
theorem SecL.len {H : Hp} : ∀ {vs : List V} {fs : List (Nat → B)}, SecL H vs fs → vs.length = fs.length
  | _, _, .nil => rfl
  | _, _, .cons h t => congrArg Nat.succ t.len
theorem SecL.snoc {H : Hp} {v : V} {f : Nat → B} (h : SecAt H v f) : ∀ {vs : List V} {fs : List (Nat → B)}, SecL H vs fs → SecL H (vs ++ [v]) (fs ++ [f])
  | _, _, .nil => .cons h .nil
  | _, _, .cons h' t => .cons h' (t.snoc h)
theorem SecL.get {H : Hp} : ∀ {vs : List V} {fs : List (Nat → B)}, SecL H vs fs → ∀ {i : Nat} {v : V}, vs[i]? = some v → ∃ f, fs[i]? = some f ∧ SecAt H v f
  | _, _, .nil, i, v, e => by simp at e
  | _, _, .cons (v := v0) h t, 0, v, e => by
    have : v0 = v := by simpa using e
    subst this
    exact ⟨_, rfl, h⟩
  | _, _, .cons h t, i + 1, v, e => by
    obtain ⟨f, a, b⟩ := t.get (i := i) (v := v) (by simpa using e)
    exact ⟨f, by simpa using a, b⟩
theorem SecL.atAll {H : Hp} : ∀ {vs : List V} {fs : List (Nat → B)}, SecL H vs fs → AtAll H vs ((fs.map secN).map nD)
  | _, _, .nil => .nil
  | _, _, .cons h t => by
    obtain ⟨p, rfl, hp⟩ := h
    rw [bl_nL] at hp
    exact .cons (nL_at hp) t.atAll
theorem cnt_eqv (rd : List (Nat → B)) (f : Nat → B) : ((rd.map secN).map nD).countP (fun y => PyData.eqv y (nD (secN f))) = cnt rd f := by
  unfold cnt
  rw [List.map_map, List.countP_map, List.countP_eq_length_filter]
  congr 1
  refine List.filter_congr fun g _ => ?_
  show PyData.eqv (nD (secN g)) (nD (secN f)) = _
  rw [eqv_nD]
  rfl
/-- the readable ones of the first cells -/
def rdl (c : List (Option (Nat → B))) (i : Nat) : List (Nat → B) := (c.take i).filterMap id
theorem rdl_succ {c : List (Option (Nat → B))} {i : Nat} (h : i < c.length) : rdl c (i + 1) = rdl c i ++ (c.getD i none).toList := by
  unfold rdl
  rw [List.take_succ, List.filterMap_append, List.getElem?_eq_getElem h, List.getD_eq_getElem?_getD, List.getElem?_eq_getElem h]
  congr 1
theorem rdl_le (c : List (Option (Nat → B))) (i : Nat) : (rdl c i).length ≤ i := by
  unfold rdl
  have := List.length_filterMap_le id (c.take i)
  rw [List.length_take] at this
  omega
def VoteAt (H : Hp) (v : V) : Option (Nat → B) → Prop
  | none => v = .non
  | some f => SecAt H v f
def sp_vote : Sp := fun vs H Q _ => ∃ (p : Addr) (cs : List V) (c : List (Option (Nat → B))) (s : Nat), vs = [.ref p, .int s] ∧ H p = some (.lst cs) ∧ CellsAt H cs c ∧ c.length ≤ 8 ∧
  ∀ v H', Ex H H' → VoteAt H' v (voteW (rdl c c.length) s) → Q v H'
theorem ok_vote (M : Mg mg) {f : Addr} {fd : FuncData} (F : Fun K "vote" "vote" s_vote f fd) : FnOk P w K mg base CX0 1 f fd ["cells", "s"] sp_vote := by
  refine F.ok sc_vote (fun vs H Q E h => ?_) (fun cdv A outer s H vs Q E hr h => ?_)
  · obtain ⟨p, cs, c, s, rfl, _⟩ := h; rfl
  · obtain ⟨p, cs, c, s', rfl, hp, hc, h8, q⟩ := h
    refine ⟨_, (pss_cons (ps_setLc (i := 3) (own := [("cell", 2)]) (g := (gName 2)) (tt := _) (by rfl) sc_vote.nd rfl rfl (sw_true rfl rfl rfl (by decide +kernel)) (pi_l (pv 0)) (blkOk_by (own := [("cell", 2)]) (N := ["cells", "s", "cell", "read", "votes"]) (sc := defScope s_vote) (by decide +kernel)) (fun _ _ _ _ _ => (pg_name (i := 2) sc_vote.nd rfl (Or.inl rfl))) (fun _ _ _ _ _ => (pts_one (pt_cmpR op_notN1 (pv 2) pe_non (nomark _)))) (fun _ _ _ _ _ => (pv 2))) (pss_cons (ps_for PassesOwn.never rfl (pi_l (pv 3)) (pg_name (i := 2) sc_vote.nd rfl (Or.inl rfl)) (pss_cons (ps_set (i := 4) sc_vote.nd rfl (Or.inl rfl) (pe_mt PySem.F.slot_list_count PySem.F.type_list_count (mt_lcntD hr.units) (pv 3) (pa_cons (pv 2) pa_nil))) (pss_one (ps_if (PW.pt (pw_and (pt_cmpR op_gt (pv 4) (pv 1) (nomark _)) (pw_and1 (pt_cmpR op_le (pe_op op_sub (pe_callB len_l (by rfl) M.n_len PySem.boot_len (pa_cons (pv 3) pa_nil)) (pv 4)) (pv 1) (nomark _))))) (pss_one (ps_ret (pe_callTy list_l (by rfl) M.n_list (by decide +kernel) (pa_cons (pv 2) pa_nil)))) pss_nil)))) (pss_one (ps_ret pe_non)))), ?_⟩
    refine iBody (by repeat constructor) ?_
    walk_at "go"
    have len := hc.len
    refine lcR_l cs (fun i acc H' => SecL H' acc (rdl c i)) (by repeat constructor) hp (fun _ _ _ _ e h => h.ex e) .nil (fun D i acc x H2 hD hx hacc hl e2 hA => ?_) (fun D acc H2 hD e2 hacc hA => ?_)
    · have hi := (List.getElem?_eq_some_iff.mp hx).1
      have hcx := hc.at_ i x hx
      have st := rdl_succ (c := c) (i := i) (by omega)
      cases eo : c.getD i none with
      | none =>
        rw [eo] at hcx st
        cases (show x = V.non from hcx)
        walk_at "go"
        refine iLcN hacc hl ⟨e2, ?_⟩
        show SecL _ _ _
        rw [st]
        simpa using hA
      | some f =>
        rw [eo] at hcx st
        obtain ⟨r, rfl, hr⟩ := hcx
        walk_at "go"
        refine iLcR hD (by omega) hl e2 hacc ?_
        show SecL _ _ _
        rw [st]
        exact hA.snoc ⟨r, rfl, by rw [mk_at (ne_of_none hr hD)]; exact e2 _ _ hr⟩
    · rw [len] at hA
      have al := hA.len
      have rl := rdl_le c c.length
      generalize rdl c c.length = rd at hA al rl q
      walk_at "go"
      refine forJ_list acc (fun i σ' H' => (∃ x y, σ' = [some (.ref p), some (.int s'), x, some (.ref D), y]) ∧ H' = H2 ∧ ∀ (j : Nat) f, j < i → rd[j]? = some f → decide (s' < cnt rd f ∧ rd.length ≤ cnt rd f + s') = false) ⟨⟨_, _, rfl⟩, rfl, fun j f hj => absurd hj (Nat.not_lt_zero _)⟩ (fun i σ' H' _ h => by rw [h.2.1]; exact hacc) (fun i x σ' H' hx h => ?_) (fun σ' H' h => ?_)
      · obtain ⟨⟨y1, y2, rfl⟩, rfl, hno⟩ := h
        obtain ⟨f, hf, r, rfl, hr⟩ := hA.get hx
        have hr' := hr
        rw [bl_nL] at hr'
        have cl := cnt_le rd f
        walk_at "go"
        refine iMt rfl hacc ?_
        walk_at "go"
        refine ⟨D, acc, (rd.map secN).map nD, _, nD (secN f), rfl, rfl, hacc, hA.atAll.dp, (nL_at hr').dp, plain_nDs _, plain_nD _, Dep.nD (n := 59), ?_⟩
        rw [cnt_eqv]
        walk_at "go"
        have up : ¬ (s' < cnt rd f ∧ rd.length ≤ cnt rd f + s') → ∀ (j : Nat) (g : Nat → B), j < i + 1 → rd[j]? = some g → decide (s' < cnt rd g ∧ rd.length ≤ cnt rd g + s') = false := fun hn j g hj hg => by
          rcases Nat.lt_or_ge j i with z | z
          · exact hno j g z hg
          · have : j = i := by omega
            subst this
            rw [hf] at hg
            cases hg
            exact decide_eq_false hn
        refine ifD (fun h1 => ?_) (fun h1 => ?_)
        · walk_at "go"
          rw [al]
          refine ifD (fun h2 => ?_) (fun h2 => ?_)
          · walk_at "go"
            refine iListL hr fun l hl' => ?_
            refine q _ _ (e2.trans (Ex.new hl')) ?_
            have : voteW rd s' = some f := find_at hno hf (decide_eq_true ⟨by omega, by omega⟩)
            rw [this]
            exact ⟨l, rfl, upd_same⟩
          · walk_at "go"
            exact ⟨⟨_, _, rfl⟩, rfl, up (by omega)⟩
        · walk_at "go"
          exact ⟨⟨_, _, rfl⟩, rfl, up (by omega)⟩
      · obtain ⟨⟨y1, y2, rfl⟩, rfl, hno⟩ := h
        walk_at "go"
        refine q _ _ e2 ?_
        have : voteW rd s' = none := find_no fun j f hj => hno j f (by have := (List.getElem?_eq_some_iff.mp hj).1; omega) hj
        rw [this]
        rfl
end
end R
set_option Elab.async false
set_option linter.all false
set_option maxRecDepth 100000
set_option maxHeartbeats 4000000
namespace R
open PySem PySem.Spec L2
open Evl (Ex)
abbrev s__law_weight_of : Stmt := topS 30
theorem sc__law_weight_of : FnScope ["x", "places", "i", "weights", "above", "below", "j"] ["x", "places", "i", "weights"] (defScope s__law_weight_of) := ⟨rfl, rfl, rfl, by decide +kernel, rfl, by decide +kernel, by decide +kernel⟩
abbrev s__law_told : Stmt := topS 29
theorem sc__law_told : FnScope ["cells", "chosen", "places", "weights", "told", "x", "total", "i", "key"] ["cells", "chosen", "places", "weights"] (defScope s__law_told) := ⟨rfl, rfl, rfl, by decide +kernel, rfl, by decide +kernel, by decide +kernel⟩
local macro_rules | `(tactic| walk_at "ne") => `(tactic| (apply Ne.symm; apply ne_fresh; (· assumption); (· walk_at "look")))
local macro_rules | `(tactic| walk_at "ne") => `(tactic| (apply ne_fresh; (· assumption); (· walk_at "look")))
local macro_rules | `(tactic| walk_at "ne") => `(tactic| (apply Ne.symm; assumption))
local macro_rules | `(tactic| walk_at "ne") => `(tactic| assumption)
local macro_rules | `(tactic| walk_at "look") => `(tactic| (refine exAt (by assumption) ?_; walk_at "look"))
local macro_rules | `(tactic| walk_at "look") => `(tactic| (refine (upd_ne ?_).trans ?_; (· walk_at "ne"); (· walk_at "look")))
local macro_rules | `(tactic| walk_at "look") => `(tactic| exact upd_same)
local macro_rules | `(tactic| walk_at "look") => `(tactic| assumption)
local macro_rules | `(tactic| walk_at "side") => `(tactic| (exact ⟨by decide, by decide, by decide⟩))
local macro_rules | `(tactic| walk_at "side") => `(tactic| (exact ⟨by omega, by omega⟩))
local macro_rules | `(tactic| walk_at "side") => `(tactic| (show (0:Int) ≤ _; omega))
local macro_rules | `(tactic| walk_at "side") => `(tactic| (show (0:Int) < _; omega))
local macro_rules | `(tactic| walk_at "side") => `(tactic| (exact Or.inr ⟨by omega, by omega⟩))
local macro_rules | `(tactic| walk_at "side") => `(tactic| (exact Or.inl ⟨by omega, by omega⟩))
local macro_rules | `(tactic| walk_at "step") => `(tactic| ((with_reducible apply iDcT); (· rfl)))
local macro_rules | `(tactic| walk_at "step") => `(tactic| ((with_reducible apply iParI); (· repeat constructor); (· repeat constructor)))
local macro_rules | `(tactic| walk_at "step") => `(tactic| ((with_reducible apply iItT); (· walk_at "look")))
local macro_rules | `(tactic| walk_at "step") => `(tactic| ((with_reducible apply iZL); (· walk_at "look"); (· walk_at "look")))
local macro_rules | `(tactic| walk_at "step") => `(tactic| ((with_reducible apply iItL); (· walk_at "look")))
local macro_rules | `(tactic| walk_at "step") => `(tactic| ((with_reducible apply iRng2I); (· omega); (· omega); (· omega); (· omega)))
local macro_rules | `(tactic| walk_at "step") => `(tactic| ((with_reducible apply iDNi); (· walk_at "look")))
local macro_rules | `(tactic| walk_at "step") => `(tactic| ((with_reducible apply iDIi); (· walk_at "look")))
local macro_rules | `(tactic| walk_at "step") => `(tactic| ((with_reducible apply iGTup); (· walk_at "look"); (· rfl)))
local macro_rules | `(tactic| walk_at "step") => `(tactic| ((with_reducible apply iLcB); (· rfl)))
local macro_rules | `(tactic| walk_at "step") => `(tactic| ((with_reducible apply ifNn); (· omega)))
local macro_rules | `(tactic| walk_at "step") => `(tactic| ((with_reducible apply ifNp); (· omega)))
local macro_rules | `(tactic| walk_at "step") => `(tactic| ((with_reducible apply ifF); (· apply decide_eq_false; omega)))
local macro_rules | `(tactic| walk_at "step") => `(tactic| ((with_reducible apply ifT); (· apply decide_eq_true; omega)))
local macro_rules | `(tactic| walk_at "step") => `(tactic| ((with_reducible apply ifF); (· rfl)))
local macro_rules | `(tactic| walk_at "step") => `(tactic| ((with_reducible apply ifT); (· rfl)))
local macro_rules | `(tactic| walk_at "step") => `(tactic| ((with_reducible apply iLenS); (· first | exact Or.inl (by walk_at "look") | exact Or.inr (by walk_at "look"))))
local macro_rules | `(tactic| walk_at "step") => `(tactic| ((with_reducible apply iLenT); (· walk_at "look")))
local macro_rules | `(tactic| walk_at "step") => `(tactic| ((with_reducible apply iIsi); (· first | exact tyN_int | exact tyN_bl | exact tyN_non | exact tyN_str | exact tyN_lst (by walk_at "look") | exact tyN_tup (by walk_at "look")); (· (first | exact kb_NoneType_bool | exact kb_NoneType_int | exact kb_NoneType_str | exact kb_NoneType_tuple | exact kb_NoneType_list | exact kb_bool_bool | exact kb_bool_int | exact kb_bool_str | exact kb_bool_tuple | exact kb_bool_list | exact kb_int_bool | exact kb_int_int | exact kb_int_str | exact kb_int_tuple | exact kb_int_list | exact kb_str_bool | exact kb_str_int | exact kb_str_str | exact kb_str_tuple | exact kb_str_list | exact kb_tuple_bool | exact kb_tuple_int | exact kb_tuple_str | exact kb_tuple_tuple | exact kb_tuple_list | exact kb_list_bool | exact kb_list_int | exact kb_list_str | exact kb_list_tuple | exact kb_list_list))))
local macro_rules | `(tactic| walk_at "step") => `(tactic| ((with_reducible apply iIxT); (· walk_at "look"); (· rfl)))
local macro_rules | `(tactic| walk_at "step") => `(tactic| ((with_reducible apply iSetL); (· walk_at "look"); (· rfl)))
local macro_rules | `(tactic| walk_at "step") => `(tactic| ((with_reducible apply iLenL); (· walk_at "look")))
local macro_rules | `(tactic| walk_at "step") => `(tactic| ((with_reducible apply iIxL); (· walk_at "look"); (· rfl)))
local macro_rules | `(tactic| walk_at "step") => `(tactic| ((with_reducible apply iI); rotate_left; (· (first | (exact Or.inl ⟨by omega, by omega⟩) | (exact Or.inr ⟨by omega, by omega⟩) | (show (0:Int) < _; omega) | (show (0:Int) ≤ _; omega) | (exact ⟨by omega, by omega⟩) | (exact ⟨by decide, by decide, by decide⟩)))))
local macro_rules | `(tactic| walk_at "step") => `(tactic| ((with_reducible apply iAugK); (· rfl)))
local macro_rules | `(tactic| walk_at "step") => `(tactic| ((with_reducible apply iRngI); (· first | decide | omega); (· first | decide | omega)))
local macro_rules | `(tactic| walk_at "step") => `(tactic| (with_reducible refine iWPut ?_))
local macro_rules | `(tactic| walk_at "step") => `(tactic| (with_reducible refine iWGet ?_))
local macro_rules | `(tactic| walk_at "step") => `(tactic| (with_reducible refine iWNot ?_))
local macro_rules | `(tactic| walk_at "step") => `(tactic| (with_reducible refine iCombK ?_))
local macro_rules | `(tactic| walk_at "step") => `(tactic| (with_reducible refine iDc ?_))
local macro_rules | `(tactic| walk_at "step") => `(tactic| (with_reducible refine iPar ?_))
local macro_rules | `(tactic| walk_at "step") => `(tactic| (with_reducible refine iItS ?_))
local macro_rules | `(tactic| walk_at "step") => `(tactic| (with_reducible refine iIterS ?_))
local macro_rules | `(tactic| walk_at "step") => `(tactic| (with_reducible refine iIterT ?_))
local macro_rules | `(tactic| walk_at "step") => `(tactic| (with_reducible refine iZA ?_))
local macro_rules | `(tactic| walk_at "step") => `(tactic| (with_reducible refine iRg3 ?_))
local macro_rules | `(tactic| walk_at "step") => `(tactic| (with_reducible refine iRv ?_))
local macro_rules | `(tactic| walk_at "step") => `(tactic| (with_reducible refine iNoPart ?_))
local macro_rules | `(tactic| walk_at "step") => `(tactic| (with_reducible refine iPartI ?_))
local macro_rules | `(tactic| walk_at "step") => `(tactic| (with_reducible refine iPart ?_))
local macro_rules | `(tactic| walk_at "step") => `(tactic| (with_reducible refine iSl ?_))
local macro_rules | `(tactic| walk_at "step") => `(tactic| (with_reducible refine iDEa ?_))
local macro_rules | `(tactic| walk_at "step") => `(tactic| (with_reducible refine iGNil ?_))
local macro_rules | `(tactic| walk_at "step") => `(tactic| (with_reducible refine iGCons ?_))
local macro_rules | `(tactic| walk_at "step") => `(tactic| (with_reducible refine iZipK ?_))
local macro_rules | `(tactic| walk_at "step") => `(tactic| (with_reducible refine iRng2 ?_))
local macro_rules | `(tactic| walk_at "step") => `(tactic| (with_reducible refine iDPut ?_))
local macro_rules | `(tactic| walk_at "step") => `(tactic| (with_reducible refine iDNotIn ?_))
local macro_rules | `(tactic| walk_at "step") => `(tactic| (with_reducible refine iDIn ?_))
local macro_rules | `(tactic| walk_at "step") => `(tactic| (with_reducible refine iDGet ?_))
local macro_rules | `(tactic| walk_at "step") => `(tactic| (with_reducible refine iYes ?_))
local macro_rules | `(tactic| walk_at "step") => `(tactic| (with_reducible refine iLc ?_))
local macro_rules | `(tactic| walk_at "step") => `(tactic| (with_reducible refine iNeS ?_))
local macro_rules | `(tactic| walk_at "step") => `(tactic| (with_reducible refine iEqS ?_))
local macro_rules | `(tactic| walk_at "step") => `(tactic| (with_reducible refine iNeB ?_))
local macro_rules | `(tactic| walk_at "step") => `(tactic| (with_reducible refine iEqB ?_))
local macro_rules | `(tactic| walk_at "step") => `(tactic| (with_reducible refine iCont ?_))
local macro_rules | `(tactic| walk_at "step") => `(tactic| (with_reducible refine iBreak ?_))
local macro_rules | `(tactic| walk_at "step") => `(tactic| (with_reducible refine iIterL ?_))
local macro_rules | `(tactic| walk_at "step") => `(tactic| (with_reducible refine iTup ?_))
local macro_rules | `(tactic| walk_at "step") => `(tactic| (with_reducible refine iLst ?_))
local macro_rules | `(tactic| walk_at "step") => `(tactic| (with_reducible refine iSub ?_))
local macro_rules | `(tactic| walk_at "step") => `(tactic| (with_reducible refine iIpI ?_))
local macro_rules | `(tactic| walk_at "step") => `(tactic| (with_reducible refine iAugS ?_))
local macro_rules | `(tactic| walk_at "step") => `(tactic| (with_reducible refine iNotV ?_))
local macro_rules | `(tactic| walk_at "step") => `(tactic| (with_reducible refine iOrV ?_))
local macro_rules | `(tactic| walk_at "step") => `(tactic| (with_reducible refine iAndV ?_))
local macro_rules | `(tactic| walk_at "step") => `(tactic| (with_reducible refine iDGet1 ?_))
local macro_rules | `(tactic| walk_at "step") => `(tactic| (with_reducible refine iNotBl ?_))
local macro_rules | `(tactic| walk_at "step") => `(tactic| (with_reducible refine iIsB ?_))
local macro_rules | `(tactic| walk_at "step") => `(tactic| (with_reducible refine iIntB ?_))
local macro_rules | `(tactic| walk_at "step") => `(tactic| (with_reducible refine iPn ?_))
local macro_rules | `(tactic| walk_at "step") => `(tactic| (with_reducible refine iPr ?_))
local macro_rules | `(tactic| walk_at "step") => `(tactic| (with_reducible refine iRai ?_))
local macro_rules | `(tactic| walk_at "step") => `(tactic| (with_reducible refine iRev1 ?_))
local macro_rules | `(tactic| walk_at "step") => `(tactic| (with_reducible refine iBM ?_))
local macro_rules | `(tactic| walk_at "step") => `(tactic| (with_reducible refine iAugF ?_))
local macro_rules | `(tactic| walk_at "step") => `(tactic| (with_reducible refine iSto ?_))
local macro_rules | `(tactic| walk_at "step") => `(tactic| (with_reducible refine iFld ?_))
local macro_rules | `(tactic| walk_at "step") => `(tactic| (with_reducible refine iMakS ?_))
local macro_rules | `(tactic| walk_at "step") => `(tactic| (with_reducible refine iMak ?_))
local macro_rules | `(tactic| walk_at "step") => `(tactic| (with_reducible refine iMet ?_))
local macro_rules | `(tactic| walk_at "step") => `(tactic| (with_reducible refine iCalE ?_))
local macro_rules | `(tactic| walk_at "step") => `(tactic| (with_reducible refine ifDr ?_))
local macro_rules | `(tactic| walk_at "step") => `(tactic| (with_reducible refine ifNDr ?_))
local macro_rules | `(tactic| walk_at "step") => `(tactic| (with_reducible refine iTruI ?_))
local macro_rules | `(tactic| walk_at "step") => `(tactic| (with_reducible refine iNotN ?_))
local macro_rules | `(tactic| walk_at "step") => `(tactic| (with_reducible refine iIsN ?_))
local macro_rules | `(tactic| walk_at "step") => `(tactic| (with_reducible refine iRetN ?_))
local macro_rules | `(tactic| walk_at "step") => `(tactic| (with_reducible refine iU ?_))
local macro_rules | `(tactic| walk_at "step") => `(tactic| (with_reducible refine iUn ?_))
local macro_rules | `(tactic| walk_at "step") => `(tactic| (with_reducible refine iChain ?_))
local macro_rules | `(tactic| walk_at "step") => `(tactic| (with_reducible refine iIf ?_))
local macro_rules | `(tactic| walk_at "step") => `(tactic| (with_reducible refine iB ?_))
local macro_rules | `(tactic| walk_at "step") => `(tactic| (with_reducible refine iNot ?_))
local macro_rules | `(tactic| walk_at "step") => `(tactic| (with_reducible refine iOr ?_))
local macro_rules | `(tactic| walk_at "step") => `(tactic| (with_reducible refine iAnd ?_))
local macro_rules | `(tactic| walk_at "step") => `(tactic| (with_reducible refine iCal ?_))
local macro_rules | `(tactic| walk_at "step") => `(tactic| (with_reducible refine iRng ?_))
local macro_rules | `(tactic| walk_at "step") => `(tactic| (with_reducible refine iFor ?_))
local macro_rules | `(tactic| walk_at "step") => `(tactic| (with_reducible refine iInt ?_))
local macro_rules | `(tactic| walk_at "step") => `(tactic| (with_reducible refine iNeI ?_))
local macro_rules | `(tactic| walk_at "step") => `(tactic| (with_reducible refine iEqI ?_))
local macro_rules | `(tactic| walk_at "step") => `(tactic| (with_reducible refine iDrop ?_))
local macro_rules | `(tactic| walk_at "step") => `(tactic| (with_reducible refine iNext ?_))
local macro_rules | `(tactic| walk_at "step") => `(tactic| (with_reducible refine iRet ?_))
local macro_rules | `(tactic| walk_at "step") => `(tactic| (with_reducible refine iBl ?_))
local macro_rules | `(tactic| walk_at "step") => `(tactic| (with_reducible refine iTest ?_))
local macro_rules | `(tactic| walk_at "step") => `(tactic| (with_reducible refine iIfS ?_))
local macro_rules | `(tactic| walk_at "step") => `(tactic| (with_reducible refine iCB ?_))
local macro_rules | `(tactic| walk_at "step") => `(tactic| (with_reducible refine iNil ?_))
local macro_rules | `(tactic| walk_at "step") => `(tactic| (with_reducible refine iCons ?_))
local macro_rules | `(tactic| walk_at "step") => `(tactic| (with_reducible refine iI0 ?_))
local macro_rules | `(tactic| walk_at "step") => `(tactic| (with_reducible refine iOp ?_))
local macro_rules | `(tactic| walk_at "step") => `(tactic| (with_reducible refine iC ?_))
local macro_rules | `(tactic| walk_at "step") => `(tactic| ((with_reducible apply iVar); (· rfl)))
local macro_rules | `(tactic| walk_at "step") => `(tactic| ((with_reducible apply iName); (· repeat constructor)))
local macro_rules | `(tactic| walk_at "step") => `(tactic| (with_reducible refine iAsg ?_))
local macro_rules | `(tactic| walk_at "step") => `(tactic| (with_reducible refine iSeq ?_))
local macro_rules | `(tactic| walk_at "go") => `(tactic| (repeat walk_at "step"))
section
variable {P : Program} {w : World} {K : PySem.W.Frag} {mg : Str → Option Value} {base : Heap}
/-! ### weights, kept in a dict -/
def wkey (x i : Nat) (l : List Nat) : NestedKey := .tup [.num (x : Int), .num (i : Int), .tup ((l.map fun m : Nat => (m : Int)).map .num)]
theorem nat_map_inj {α : Type} {f : Nat → α} (h : ∀ a b, f a = f b → a = b) : ∀ {l m : List Nat}, l.map f = m.map f → l = m
  | [], [], _ => rfl
  | [], _ :: _, e => by simp at e
  | _ :: _, [], e => by simp at e
  | a :: l, b :: m, e => by
    rw [List.map_cons, List.map_cons] at e
    injection e with e1 e2
    rw [h a b e1, nat_map_inj h e2]
theorem wkey_inj {x i x' i' : Nat} {l l' : List Nat} (h : wkey x i l = wkey x' i' l') : x = x' ∧ i = i' ∧ l = l' := by
  unfold wkey at h
  injection h with h
  injection h with h1 h
  injection h with h2 h
  injection h with h3 h
  injection h1 with h1
  injection h2 with h2
  injection h3 with h3
  rw [List.map_map, List.map_map] at h3
  refine ⟨by omega, by omega, nat_map_inj (fun a b e => ?_) h3⟩
  have e : NestedKey.num (a : Int) = NestedKey.num (b : Int) := e
  injection e with e
  omega
def WGood (e : WE) : Prop := (∃ b : B, b ≠ b0 ∧ e.1 = .num (b.v : Int) ∧ e.2.2 = .int b.inv.v) ∨ ∃ (x i : Nat) (l : List Nat), e.1 = wkey x i l ∧ e.2.2 = .int (wB (pl x) (l.map pl) (pl i)).v
theorem good_num {L : List WE} (g : ∀ e ∈ L, WGood e) {b : B} {v : V} (h : wtGet L (.num (b.v : Int)) = some v) : v = .int b.inv.v := by
  obtain ⟨e, he, h1, rfl⟩ := wtGet_mem h
  rcases g e he with ⟨b', _, h2, h3⟩ | ⟨x, i, l, h2, _⟩
  · rw [h1] at h2
    injection h2 with h2
    have : b = b' := B.ext' (by omega)
    rw [h3, this]
  · rw [h1] at h2
    cases h2
theorem good_key {L : List WE} (g : ∀ e ∈ L, WGood e) {x i : Nat} {l : List Nat} {v : V} (h : wtGet L (wkey x i l) = some v) : v = .int (wB (pl x) (l.map pl) (pl i)).v := by
  obtain ⟨e, he, h1, rfl⟩ := wtGet_mem h
  rcases g e he with ⟨b', _, h2, h3⟩ | ⟨x', i', l', h2, h3⟩
  · rw [h1] at h2
    cases h2
  · rw [h1] at h2
    obtain ⟨rfl, rfl, rfl⟩ := wkey_inj h2
    exact h3
theorem ExB.put {a : Addr} {H H' : Hp} {o : HO} (e : ExB a H H') : ExB a H (L2.upd H' a o) := fun p u n h => by rw [upd_ne n]; exact e p u n h
def sp_weight_of (w : World) : Sp := fun vs H Q _ => ∃ (x i : B) (p wa : Addr) (l : List B) (L : List WE), vs = [.int x.v, .ref p, .int i.v, .ref wa] ∧ H p = some (.lst (bsV l)) ∧ WtAt w H wa L ∧ (∀ e ∈ L, WGood e) ∧ L.length < 90000 ∧
  ∀ H' L', ExB wa H H' → WtAt w H' wa L' → (∀ e ∈ L', WGood e) → L'.length ≤ L.length + 1 → (∀ x i l, wtGet L' (wkey x i l) = wtGet L (wkey x i l)) → Q (.int (wB x l i).v) H'
theorem ok_weight_of (M : Mg mg) {f : Addr} {fd : FuncData} (F : Fun K "_law_weight_of" "_law_weight_of" s__law_weight_of f fd) (c__law_times : Cal P w K mg base 1 "_law_times" ["a", "b"] sp__law_times) (c__law_inverse : Cal P w K mg base 2 "_law_inverse" ["a"] sp__law_inverse) : FnOk P w K mg base CX0 3 f fd ["x", "places", "i", "weights"] (sp_weight_of w) := by
  refine F.ok sc__law_weight_of (fun vs H Q E h => ?_) (fun cdv A outer s H vs Q E hr h => ?_)
  · obtain ⟨x, i, p, wa, l, L, rfl, _⟩ := h; rfl
  · obtain ⟨x, i, p, wa, L, Ws, rfl, hp, hw, hg, hlw, q⟩ := h
    refine ⟨_, (pss_cons (ps_set (i := 4) sc__law_weight_of.nd rfl (Or.inl rfl) pe_int) (pss_cons (ps_set (i := 5) sc__law_weight_of.nd rfl (Or.inl rfl) pe_int) (pss_cons (ps_for PassesOwn.never rfl (pi_l (pv 1)) (pg_name (i := 6) sc__law_weight_of.nd rfl (Or.inl rfl)) (pss_one (ps_if (pt_cmpR op_ne (pv 6) (pv 2) (nomark _)) (pss_cons (ps_set (i := 4) sc__law_weight_of.nd rfl (Or.inl rfl) (pe_cal c__law_times (hr.mono (by omega)) (by rfl) (pa_cons (pv 4) (pa_cons (pe_op op_xor (pv 0) (pv 6)) pa_nil)))) (pss_one (ps_set (i := 5) sc__law_weight_of.nd rfl (Or.inl rfl) (pe_cal c__law_times (hr.mono (by omega)) (by rfl) (pa_cons (pv 5) (pa_cons (pe_op op_xor (pv 2) (pv 6)) pa_nil)))))) pss_nil))) (pss_cons (ps_if (pt_cmp (pc_wnot hr.units (pv 5) (pv 3))) (pss_one (ps_wput hr.units (pv 3) (pv 5) (pe_cal c__law_inverse (hr.mono (by omega)) (by rfl) (pa_cons (pv 5) pa_nil)) rfl)) pss_nil) (pss_one (ps_ret (pe_cal c__law_times (hr.mono (by omega)) (by rfl) (pa_cons (pv 4) (pa_cons (pe_wget hr.units (pv 3) (pv 5) (fun _ _ => rfl)) pa_nil))))))))), ?_⟩
    refine iBody (by repeat constructor) ?_
    walk_at "go"
    refine forJ_list (bsV L) (fun n σ' H' => (∃ (a c : B) (u : Option V), σ' = [some (.int x.v), some (.ref p), some (.int i.v), some (.ref wa), some (.int a.v), some (.int c.v), u] ∧ above x i (L.drop n) a = above x i L b1 ∧ above i i (L.drop n) c = above i i L b1) ∧ H' = H) ⟨⟨b1, b1, none, rfl, rfl, rfl⟩, rfl⟩ (fun n σ' H' _ h => h.2 ▸ hp) (fun n v σ' H' hv h => ?_) (fun σ' H' h => ?_)
    · obtain ⟨⟨a, c, u, rfl, e1, e2⟩, rfl⟩ := h
      obtain ⟨j, hj, rfl⟩ := bsV_get hv
      rw [drop_at hj] at e1 e2
      walk_at "go"
      refine ifND (fun h => ?_) (fun h => ?_)
      · have hji : j ≠ i := fun e => h (by rw [e])
        walk_at "go"
        rw [xor_B]
        refine j_timesB ?_
        walk_at "go"
        rw [xor_B]
        refine j_timesB ?_
        walk_at "go"
        refine ⟨⟨_, _, _, rfl, ?_, ?_⟩, rfl⟩
        · rw [← e1]; show _ = above x i (L.drop (n + 1)) (if j ≠ i then a * (x + j) else a); rw [if_pos hji]
        · rw [← e2]; show _ = above i i (L.drop (n + 1)) (if j ≠ i then c * (i + j) else c); rw [if_pos hji]
      · have hji : j = i := B.ext' (by omega)
        walk_at "go"
        refine ⟨⟨_, _, _, rfl, ?_, ?_⟩, rfl⟩
        · rw [← e1]; show _ = above x i (L.drop (n + 1)) (if j ≠ i then a * (x + j) else a); rw [if_neg (by simpa using hji)]
        · rw [← e2]; show _ = above i i (L.drop (n + 1)) (if j ≠ i then c * (i + j) else c); rw [if_neg (by simpa using hji)]
    · obtain ⟨⟨a, c, u, rfl, e1, e2⟩, rfl⟩ := h
      have ln : (bsV L).length = L.length := List.length_map ..
      rw [ln, List.drop_length] at e1 e2
      have e1 : a = above x i L b1 := e1
      have e2 : c = above i i L b1 := e2
      have c0 : c ≠ b0 := by rw [e2]; exact above_ne L _ B.one_ne
      walk_at "go"
      refine iWN hw (.num _) ?_
      cases hget : wtGet Ws (.num (c.v : Int)) with
      | none =>
        walk_at "go"
        refine j_linverse c0 fun H2 ex => ?_
        have hw2 := hw.ex ex
        walk_at "go"
        refine iWP hw2 (.num _) hget (by omega) ?_
        have hw3 := hw2.put (k := .num (c.v : Int)) (y := .int c.v) (v := .int c.inv.v) (.num _)
        walk_at "go"
        refine iWG hw3 (.num _) (wtGet_snoc_self rfl hget) ?_
        walk_at "go"
        refine j_timesB ?_
        have eB : a * c.inv = wB x L i := by rw [e1, e2]; rfl
        rw [eB]
        refine q _ _ (ExB.of ex).put hw3 (fun e he => ?_) (by rw [List.length_append]; exact Nat.le_refl _) (fun x i l => wtGet_snoc_other (fun z => by cases z))
        rcases List.mem_append.mp he with he | he
        · exact hg e he
        · rw [List.mem_singleton] at he
          subst he
          exact .inl ⟨c, c0, rfl, rfl⟩
      | some v =>
        have hv := good_num hg hget
        subst hv
        walk_at "go"
        refine iWG hw (.num _) hget ?_
        walk_at "go"
        refine j_timesB ?_
        have eB : a * c.inv = wB x L i := by rw [e1, e2]; rfl
        rw [eB]
        exact q _ _ (ExB.of (Ex.rfl' _)) hw hg (Nat.le_succ _) (fun _ _ _ => rfl)
/-! ### what a row tells at all places -/
def PkAt (kvs : List (Key × V)) (F : Nat → Nat → B) (P : List Nat) : Prop := ∀ m ∈ P, valV kvs (.inl (m : Int) : Key) = some (.int (packN (secN (F m)) : Nat))
theorem bsV_pl {L : List Nat} (h : ∀ m ∈ L, m < 256) : bsV (L.map pl) = nsV L := by
  unfold bsV nsV
  rw [List.map_map]
  refine List.map_congr_left fun m hm => ?_
  show V.int ((pl m).v : Nat) = _
  rw [pl_v (h m hm)]
theorem WK.key {H : Hp} {b c : Addr} {x i : Nat} {l : List Nat} (hb : H b = some (.tup [.int x, .int i, .ref c])) (hc : H c = some (.tup (nsV l))) : WK H (wkey x i l) (.ref b) := by
  refine .tup hb ?_
  rw [hc, List.map_map]
  rfl
theorem scl_sec (f : Nat → B) (W : B) : scl 32 W.v (packN (secN f)) 8 = packN (secN fun t => W * f t) := by
  have h := scl_gm (l := secN f) W.v (secN_lt f)
  rw [secN_len] at h
  rw [h]
  congr 1
  unfold secN
  rw [List.map_map]
  refine List.map_congr_left fun t _ => ?_
  show gm (f t).v W.v = (W * f t).v
  rw [B.mul_comm]
  rfl
theorem xor_sec (f g : Nat → B) : packN (secN f) ^^^ packN (secN g) = packN (secN fun t => f t + g t) := xor_pack (List.range 32) (fun a _ => (f a).h) (fun a _ => (g a).h)
theorem pack_0 : packN (secN fun _ => b0) = 0 := by decide +kernel
theorem j_scaled {x f : Nat} {H : Hp} {Q : VK} {E : XK} (q : Q (.int (scl 32 f x 8 : Nat)) H) : sp_scaled [.int x, .int f] H Q E := ⟨x, f, rfl, q⟩
theorem j_weight_of {w : World} {m n : Nat} {pc wa : Addr} {l : List Nat} {L : List WE} {H : Hp} {Q : VK} {E : XK} (hm : m < 256) (hn : n < 256) (h256 : ∀ x ∈ l, x < 256) (hpc : H pc = some (.lst (nsV l))) (hw : WtAt w H wa L) (hg : ∀ e ∈ L, WGood e) (hl : L.length < 90000)
    (q : ∀ H' L', ExB wa H H' → WtAt w H' wa L' → (∀ e ∈ L', WGood e) → L'.length ≤ L.length + 1 → (∀ x i l, wtGet L' (wkey x i l) = wtGet L (wkey x i l)) → Q (.int (wB (pl m) (l.map pl) (pl n)).v) H') : sp_weight_of w [.int m, .ref pc, .int n, .ref wa] H Q E :=
  ⟨pl m, pl n, pc, wa, l.map pl, L, by rw [pl_v hm, pl_v hn], by rw [bsV_pl h256]; exact hpc, hw, hg, hl, q⟩
theorem WK.exb {w : World} {H H' : Hp} {wa : Addr} {L : List WE} {k : NestedKey} {v : V} (g : WtAt w H wa L) (e : ExB wa H H') (q : WK H k v) : WK H' k v := q.mono fun b xs h => e b _ (ne_of h g.at_ (fun z => by cases z)) h
def sp_told (w : World) : Sp := fun vs H Q _ => ∃ (d pc pp wa : Addr) (P l : List Nat) (F : Nat → Nat → B) (kvs : List (Key × V)) (L : List WE), vs = [.ref d, .ref pc, .ref pp, .ref wa] ∧ H d = some (.dK kvs) ∧ PkAt kvs F P ∧ H pc = some (.lst (nsV l)) ∧ H pp = some (.lst (nsV P)) ∧ (∀ m ∈ l, m ∈ P) ∧ (∀ m ∈ P, m < 256) ∧ P.length ≤ 8 ∧ l.length ≤ 8 ∧ WtAt w H wa L ∧ (∀ e ∈ L, WGood e) ∧ L.length ≤ 60000 ∧
  ∀ q H' L', H q = none → ExB wa H H' → H' q = some (.lst (P.map fun x => V.int (packN (secN (codeW F l x)) : Nat))) → WtAt w H' wa L' → (∀ e ∈ L', WGood e) → L'.length ≤ L.length + 128 → Q (.ref q) H'
theorem ok_told (M : Mg mg) {f : Addr} {fd : FuncData} (F : Fun K "_law_told" "_law_told" s__law_told f fd) (c__law_scaled : Cal P w K mg base 2 "_law_scaled" ["number", "factor"] sp_scaled) (c__law_weight_of : Cal P w K mg base 3 "_law_weight_of" ["x", "places", "i", "weights"] (sp_weight_of w)) : FnOk P w K mg base CX0 4 f fd ["cells", "chosen", "places", "weights"] (sp_told w) := by
  refine F.ok sc__law_told (fun vs H Q E h => ?_) (fun cdv A outer s H vs Q E hr h => ?_)
  · obtain ⟨d, pc, pp, wa, _, _, _, _, _, rfl, _⟩ := h; rfl
  · obtain ⟨d, pc, pp, wa, PL, l, Fc, kvs, Ws, rfl, hd, hk, hpc, hpp, hl, h256, hP8, hl8, hw, hg, hlw, q⟩ := h
    refine ⟨_, (pss_cons (ps_set (i := 4) sc__law_told.nd rfl (Or.inl rfl) (pe_lst pa_nil)) (pss_cons (ps_for PassesOwn.never rfl (pi_l (pv 2)) (pg_name (i := 5) sc__law_told.nd rfl (Or.inl rfl)) (pss_cons (ps_set (i := 6) sc__law_told.nd rfl (Or.inl rfl) pe_int) (pss_cons (ps_for PassesOwn.never rfl (pi_l (pv 1)) (pg_name (i := 7) sc__law_told.nd rfl (Or.inl rfl)) (pss_cons (ps_set (i := 8) sc__law_told.nd rfl (Or.inl rfl) (pe_tup (pa_cons (pv 5) (pa_cons (pv 7) (pa_cons (pe_callTy tup_l (by rfl) M.n_tuple (by decide +kernel) (pa_cons (pv 1) pa_nil)) pa_nil))))) (pss_cons (ps_if (pt_cmp (pc_wnot hr.units (pv 8) (pv 3))) (pss_one (ps_wput hr.units (pv 3) (pv 8) (pe_cal c__law_weight_of (hr.mono (by omega)) (by rfl) (pa_cons (pv 5) (pa_cons (pv 1) (pa_cons (pv 7) (pa_cons (pv 3) pa_nil))))) rfl)) pss_nil) (pss_one (ps_set (i := 6) sc__law_told.nd rfl (Or.inl rfl) (pe_op op_xor (pv 6) (pe_cal c__law_scaled (hr.mono (by omega)) (by rfl) (pa_cons (pe_dget (hu_of hr) (pv 0) (pv 7) (fun _ _ => rfl)) (pa_cons (pe_wget hr.units (pv 3) (pv 8) (fun _ _ => rfl)) pa_nil))))))))) (pss_one (ps_expr (pe_mt PySem.F.slot_list_append PySem.F.type_list_append mt_append (pv 4) (pa_cons (pv 6) pa_nil))))))) (pss_one (ps_ret (pv 4))))), ?_⟩
    refine iBody (by repeat constructor) ?_
    have nd : d ≠ wa := ne_of hd hw.at_ (fun z => by cases z)
    have npc : pc ≠ wa := ne_of hpc hw.at_ (fun z => by cases z)
    have npp : pp ≠ wa := ne_of hpp hw.at_ (fun z => by cases z)
    walk_at "go"
    refine iNewL (by simp) fun q0 hq0 => ?_
    have hw0 := hw.ex (Ex.new (o := .lst []) hq0)
    have e0 := Ex.new (o := .lst []) hq0
    have hpp0 := e0 _ _ hpp
    walk_at "go"
    refine forJ_list (nsV PL) (fun i σ' H' => (∃ x1 x2 x3 x4, σ' = [some (.ref d), some (.ref pc), some (.ref pp), some (.ref wa), some (.ref q0), x1, x2, x3, x4]) ∧ ExB wa H H' ∧ H' q0 = some (.lst ((PL.take i).map fun x => V.int (packN (secN (codeW Fc l x)) : Nat))) ∧ ∃ Ls, WtAt w H' wa Ls ∧ (∀ e ∈ Ls, WGood e) ∧ Ls.length ≤ Ws.length + 16 * i) ⟨⟨_, _, _, _, rfl⟩, ExB.of e0, upd_same, Ws, hw0, hg, Nat.le_refl _⟩ (fun i σ' H' _ h => h.2.1 _ _ npp hpp) (fun i x σ' H' hx h => ?_) (fun σ' H' h => ?_)
    · obtain ⟨⟨x1, x2, x3, x4, rfl⟩, e1, hq1, Ls, hw1, hg1, hl1⟩ := h
      obtain ⟨m, hm, rfl⟩ := nsV_get hx
      have hmP := List.mem_of_getElem? hm
      have hm256 := h256 m hmP
      have hi := (List.getElem?_eq_some_iff.mp hm).1
      have nq : q0 ≠ wa := ne_of hq1 hw1.at_ (fun z => by cases z)
      have hpc1 := e1 _ _ npc hpc
      walk_at "go"
      refine forJ_list (nsV l) (fun j σ'' H'' => (∃ (a : Nat → B) (u1 u2 : Option V), σ'' = [some (.ref d), some (.ref pc), some (.ref pp), some (.ref wa), some (.ref q0), some (.int (m : Nat)), some (.int (packN (secN a) : Nat)), u1, u2] ∧ ∀ t, a t + sumB (fun i => wB (pl m) (l.map pl) (pl i) * Fc i t) (l.drop j) = codeW Fc l m t) ∧ ExB wa H' H'' ∧ ∃ Lt, WtAt w H'' wa Lt ∧ (∀ e ∈ Lt, WGood e) ∧ Lt.length ≤ Ls.length + 2 * j) ⟨⟨fun _ => b0, _, _, (by rw [pack_0]; try rfl), fun t => B.zero_add _⟩, ExB.of (Ex.rfl' _), Ls, hw1, hg1, Nat.le_refl _⟩ (fun j σ'' H'' _ h => h.2.1 _ _ npc (e1 _ _ npc hpc)) (fun j y σ'' H'' hy h => ?_) (fun σ'' H'' h => ?_)
      · obtain ⟨⟨a, u1, u2, rfl, sm⟩, e2, Lt, hw2, hg2, hl2⟩ := h
        obtain ⟨n, hn, rfl⟩ := nsV_get hy
        have hnl := List.mem_of_getElem? hn
        have hj := (List.getElem?_eq_some_iff.mp hn).1
        have hpc2 := e2 _ _ npc (e1 _ _ npc hpc)
        have hd2 := e2 _ _ nd (e1 _ _ nd hd)
        walk_at "go"
        refine iTupL hpc2 fun tc htc => ?_
        walk_at "go"
        refine iNewT (by simp) fun tk htk => ?_
        have e3 : Ex H'' (upd (upd H'' tc (.tup (nsV l))) tk (.tup [.int (m : Nat), .int (n : Nat), .ref tc])) := (Ex.new htc).trans (Ex.new htk)
        have a3 : (upd (upd H'' tc (.tup (nsV l))) tk (.tup [.int (m : Nat), .int (n : Nat), .ref tc])) tk = some (.tup [.int (m : Nat), .int (n : Nat), .ref tc]) := upd_same
        have b3 : (upd (upd H'' tc (.tup (nsV l))) tk (.tup [.int (m : Nat), .int (n : Nat), .ref tc])) tc = some (.tup (nsV l)) := (Ex.new htk) _ _ upd_same
        generalize upd (upd H'' tc (.tup (nsV l))) tk (.tup [.int (m : Nat), .int (n : Nat), .ref tc]) = H3 at e3 a3 b3 ⊢
        have key3 := WK.key a3 b3
        have hw3 := hw2.ex e3
        walk_at "go"
        refine iWN hw3 key3 ?_
        cases hget : wtGet Lt (wkey m n l) with
        | none =>
          walk_at "go"
          refine j_weight_of hm256 (h256 n (hl n hnl)) (fun x hx => h256 x (hl x hx)) (e3 _ _ hpc2) hw3 hg2 (by omega) fun H4 L4 e4 hw4 hg4 hl4 same => ?_
          have key4 := WK.exb hw3 e4 key3
          have hn4 : wtGet L4 (wkey m n l) = none := by rw [same]; exact hget
          walk_at "go"
          refine iWP hw4 key4 hn4 (by omega) ?_
          have hw5 := hw4.put (v := .int (wB (pl m) (l.map pl) (pl n)).v) key4
          have key5 := WK.exb hw4 (ExB.put (o := wtO w wa (L4 ++ [(wkey m n l, .ref tk, .int (wB (pl m) (l.map pl) (pl n)).v)])) (ExB.of (Ex.rfl' H4))) key4
          have e5 : ExB wa H'' (upd H4 wa (wtO w wa (L4 ++ [(wkey m n l, .ref tk, .int (wB (pl m) (l.map pl) (pl n)).v)]))) := ((ExB.of e3).trans e4).put
          have hg5 : ∀ e ∈ L4 ++ [(wkey m n l, V.ref tk, V.int (wB (pl m) (l.map pl) (pl n)).v)], WGood e := fun e he => by
            rcases List.mem_append.mp he with he | he
            · exact hg4 e he
            · rw [List.mem_singleton] at he
              subst he
              exact .inr ⟨m, n, l, rfl, rfl⟩
          have hd5 := e5 _ _ nd hd2
          walk_at "go"
          refine iDGi hd5 (hk n (hl n hnl)) ?_
          walk_at "go"
          refine iWG hw5 key5 (wtGet_snoc_self rfl hn4) ?_
          walk_at "go"
          refine j_scaled ?_
          walk_at "go"
          rw [scl_sec, xor_nn, xor_sec]
          refine ⟨⟨_, _, _, rfl, fun t => ?_⟩, e2.trans e5, _, hw5, hg5, ?_⟩
          · rw [← sm t, drop_at hn]
            show _ = a t + (wB (pl m) (l.map pl) (pl n) * Fc n t + sumB _ (l.drop (j + 1)))
            rw [B.add_assoc]
          · rw [List.length_append, List.length_singleton]; omega
        | some v =>
          have hv := good_key hg2 hget
          subst hv
          have hd5 := e3 _ _ hd2
          walk_at "go"
          refine iDGi hd5 (hk n (hl n hnl)) ?_
          walk_at "go"
          refine iWG hw3 key3 hget ?_
          walk_at "go"
          refine j_scaled ?_
          walk_at "go"
          rw [scl_sec, xor_nn, xor_sec]
          refine ⟨⟨_, _, _, rfl, fun t => ?_⟩, e2.trans (ExB.of e3), _, hw3, hg2, ?_⟩
          · rw [← sm t, drop_at hn]
            show _ = a t + (wB (pl m) (l.map pl) (pl n) * Fc n t + sumB _ (l.drop (j + 1)))
            rw [B.add_assoc]
          · omega
      · obtain ⟨⟨a, u1, u2, rfl, sm⟩, e2, Lt, hw2, hg2, hl2⟩ := h
        rw [nsV_len] at hl2
        rw [nsV_len, List.drop_length] at sm
        have sm' : packN (secN a) = packN (secN (codeW Fc l m)) := congrArg packN (secN_iff.mpr fun t _ => (B.add_zero _).symm.trans (sm t))
        rw [sm']
        have hq2 := e2 _ _ nq hq1
        walk_at "go"
        refine iMt rfl hq2 ?_
        walk_at "go"
        refine iApp hq2 (by rw [List.length_map, List.length_take]; omega) ?_
        have hw5 : WtAt w (upd H'' q0 (.lst ((PL.take i).map (fun x => V.int (packN (secN (codeW Fc l x)) : Nat)) ++ [V.int (packN (secN (codeW Fc l m)) : Nat)]))) wa Lt := ⟨(upd_ne nq.symm).trans hw2.at_, fun x hx => (hw2.keys x hx).mono fun b xs h => by rw [upd_ne (ne_of h hq2 (fun z => by cases z))]; exact h⟩
        walk_at "go"
        refine ⟨⟨_, _, _, _, rfl⟩, (e1.trans e2).upd hq0, ?_, Lt, hw5, hg2, by omega⟩
        rw [upd_same, List.take_succ, hm, List.map_append]
        rfl
    · obtain ⟨⟨x1, x2, x3, x4, rfl⟩, e1, hq1, Ls, hw1, hg1, hl1⟩ := h
      rw [nsV_len, List.take_length] at hq1
      rw [nsV_len] at hl1
      walk_at "go"
      exact q q0 H' Ls hq0 e1 hq1 hw1 hg1 (by omega)
end
end R
set_option Elab.async false
set_option linter.all false
set_option maxRecDepth 100000
set_option maxHeartbeats 4000000
namespace R
open PySem PySem.Spec L2
open Evl (Ex)
abbrev s__law_accepted : Stmt := topS 31
theorem sc__law_accepted : FnScope ["cells", "k", "s", "weights", "packed", "place", "places", "chosen", "told", "equal", "given", "number", "x"] ["cells", "k", "s"] (defScope s__law_accepted) := ⟨rfl, rfl, rfl, by decide +kernel, rfl, by decide +kernel, by decide +kernel⟩
local macro_rules | `(tactic| walk_at "ne") => `(tactic| (apply Ne.symm; apply ne_fresh; (· assumption); (· walk_at "look")))
local macro_rules | `(tactic| walk_at "ne") => `(tactic| (apply ne_fresh; (· assumption); (· walk_at "look")))
local macro_rules | `(tactic| walk_at "ne") => `(tactic| (apply Ne.symm; assumption))
local macro_rules | `(tactic| walk_at "ne") => `(tactic| assumption)
local macro_rules | `(tactic| walk_at "look") => `(tactic| (refine exAt (by assumption) ?_; walk_at "look"))
local macro_rules | `(tactic| walk_at "look") => `(tactic| (refine (upd_ne ?_).trans ?_; (· walk_at "ne"); (· walk_at "look")))
local macro_rules | `(tactic| walk_at "look") => `(tactic| exact upd_same)
local macro_rules | `(tactic| walk_at "look") => `(tactic| assumption)
local macro_rules | `(tactic| walk_at "side") => `(tactic| (exact ⟨by decide, by decide, by decide⟩))
local macro_rules | `(tactic| walk_at "side") => `(tactic| (exact ⟨by omega, by omega⟩))
local macro_rules | `(tactic| walk_at "side") => `(tactic| (show (0:Int) ≤ _; omega))
local macro_rules | `(tactic| walk_at "side") => `(tactic| (show (0:Int) < _; omega))
local macro_rules | `(tactic| walk_at "side") => `(tactic| (exact Or.inr ⟨by omega, by omega⟩))
local macro_rules | `(tactic| walk_at "side") => `(tactic| (exact Or.inl ⟨by omega, by omega⟩))
local macro_rules | `(tactic| walk_at "step") => `(tactic| ((with_reducible apply iDcT); (· rfl)))
local macro_rules | `(tactic| walk_at "step") => `(tactic| ((with_reducible apply iParI); (· repeat constructor); (· repeat constructor)))
local macro_rules | `(tactic| walk_at "step") => `(tactic| ((with_reducible apply iItT); (· walk_at "look")))
local macro_rules | `(tactic| walk_at "step") => `(tactic| ((with_reducible apply iZL); (· walk_at "look"); (· walk_at "look")))
local macro_rules | `(tactic| walk_at "step") => `(tactic| ((with_reducible apply iItL); (· walk_at "look")))
local macro_rules | `(tactic| walk_at "step") => `(tactic| ((with_reducible apply iRng2I); (· omega); (· omega); (· omega); (· omega)))
local macro_rules | `(tactic| walk_at "step") => `(tactic| ((with_reducible apply iDNi); (· walk_at "look")))
local macro_rules | `(tactic| walk_at "step") => `(tactic| ((with_reducible apply iDIi); (· walk_at "look")))
local macro_rules | `(tactic| walk_at "step") => `(tactic| ((with_reducible apply iGTup); (· walk_at "look"); (· rfl)))
local macro_rules | `(tactic| walk_at "step") => `(tactic| ((with_reducible apply iLcB); (· rfl)))
local macro_rules | `(tactic| walk_at "step") => `(tactic| ((with_reducible apply ifNn); (· omega)))
local macro_rules | `(tactic| walk_at "step") => `(tactic| ((with_reducible apply ifNp); (· omega)))
local macro_rules | `(tactic| walk_at "step") => `(tactic| ((with_reducible apply ifF); (· apply decide_eq_false; omega)))
local macro_rules | `(tactic| walk_at "step") => `(tactic| ((with_reducible apply ifT); (· apply decide_eq_true; omega)))
local macro_rules | `(tactic| walk_at "step") => `(tactic| ((with_reducible apply ifF); (· rfl)))
local macro_rules | `(tactic| walk_at "step") => `(tactic| ((with_reducible apply ifT); (· rfl)))
local macro_rules | `(tactic| walk_at "step") => `(tactic| ((with_reducible apply iLenS); (· first | exact Or.inl (by walk_at "look") | exact Or.inr (by walk_at "look"))))
local macro_rules | `(tactic| walk_at "step") => `(tactic| ((with_reducible apply iLenT); (· walk_at "look")))
local macro_rules | `(tactic| walk_at "step") => `(tactic| ((with_reducible apply iIsi); (· first | exact tyN_int | exact tyN_bl | exact tyN_non | exact tyN_str | exact tyN_lst (by walk_at "look") | exact tyN_tup (by walk_at "look")); (· (first | exact kb_NoneType_bool | exact kb_NoneType_int | exact kb_NoneType_str | exact kb_NoneType_tuple | exact kb_NoneType_list | exact kb_bool_bool | exact kb_bool_int | exact kb_bool_str | exact kb_bool_tuple | exact kb_bool_list | exact kb_int_bool | exact kb_int_int | exact kb_int_str | exact kb_int_tuple | exact kb_int_list | exact kb_str_bool | exact kb_str_int | exact kb_str_str | exact kb_str_tuple | exact kb_str_list | exact kb_tuple_bool | exact kb_tuple_int | exact kb_tuple_str | exact kb_tuple_tuple | exact kb_tuple_list | exact kb_list_bool | exact kb_list_int | exact kb_list_str | exact kb_list_tuple | exact kb_list_list))))
local macro_rules | `(tactic| walk_at "step") => `(tactic| ((with_reducible apply iIxT); (· walk_at "look"); (· rfl)))
local macro_rules | `(tactic| walk_at "step") => `(tactic| ((with_reducible apply iSetL); (· walk_at "look"); (· rfl)))
local macro_rules | `(tactic| walk_at "step") => `(tactic| ((with_reducible apply iLenL); (· walk_at "look")))
local macro_rules | `(tactic| walk_at "step") => `(tactic| ((with_reducible apply iIxL); (· walk_at "look"); (· rfl)))
local macro_rules | `(tactic| walk_at "step") => `(tactic| ((with_reducible apply iI); rotate_left; (· (first | (exact Or.inl ⟨by omega, by omega⟩) | (exact Or.inr ⟨by omega, by omega⟩) | (show (0:Int) < _; omega) | (show (0:Int) ≤ _; omega) | (exact ⟨by omega, by omega⟩) | (exact ⟨by decide, by decide, by decide⟩)))))
local macro_rules | `(tactic| walk_at "step") => `(tactic| ((with_reducible apply iAugK); (· rfl)))
local macro_rules | `(tactic| walk_at "step") => `(tactic| ((with_reducible apply iRngI); (· first | decide | omega); (· first | decide | omega)))
local macro_rules | `(tactic| walk_at "step") => `(tactic| (with_reducible refine iWPut ?_))
local macro_rules | `(tactic| walk_at "step") => `(tactic| (with_reducible refine iWGet ?_))
local macro_rules | `(tactic| walk_at "step") => `(tactic| (with_reducible refine iWNot ?_))
local macro_rules | `(tactic| walk_at "step") => `(tactic| (with_reducible refine iCombK ?_))
local macro_rules | `(tactic| walk_at "step") => `(tactic| (with_reducible refine iDc ?_))
local macro_rules | `(tactic| walk_at "step") => `(tactic| (with_reducible refine iPar ?_))
local macro_rules | `(tactic| walk_at "step") => `(tactic| (with_reducible refine iItS ?_))
local macro_rules | `(tactic| walk_at "step") => `(tactic| (with_reducible refine iIterS ?_))
local macro_rules | `(tactic| walk_at "step") => `(tactic| (with_reducible refine iIterT ?_))
local macro_rules | `(tactic| walk_at "step") => `(tactic| (with_reducible refine iZA ?_))
local macro_rules | `(tactic| walk_at "step") => `(tactic| (with_reducible refine iRg3 ?_))
local macro_rules | `(tactic| walk_at "step") => `(tactic| (with_reducible refine iRv ?_))
local macro_rules | `(tactic| walk_at "step") => `(tactic| (with_reducible refine iNoPart ?_))
local macro_rules | `(tactic| walk_at "step") => `(tactic| (with_reducible refine iPartI ?_))
local macro_rules | `(tactic| walk_at "step") => `(tactic| (with_reducible refine iPart ?_))
local macro_rules | `(tactic| walk_at "step") => `(tactic| (with_reducible refine iSl ?_))
local macro_rules | `(tactic| walk_at "step") => `(tactic| (with_reducible refine iDEa ?_))
local macro_rules | `(tactic| walk_at "step") => `(tactic| (with_reducible refine iGNil ?_))
local macro_rules | `(tactic| walk_at "step") => `(tactic| (with_reducible refine iGCons ?_))
local macro_rules | `(tactic| walk_at "step") => `(tactic| (with_reducible refine iZipK ?_))
local macro_rules | `(tactic| walk_at "step") => `(tactic| (with_reducible refine iRng2 ?_))
local macro_rules | `(tactic| walk_at "step") => `(tactic| (with_reducible refine iDPut ?_))
local macro_rules | `(tactic| walk_at "step") => `(tactic| (with_reducible refine iDNotIn ?_))
local macro_rules | `(tactic| walk_at "step") => `(tactic| (with_reducible refine iDIn ?_))
local macro_rules | `(tactic| walk_at "step") => `(tactic| (with_reducible refine iDGet ?_))
local macro_rules | `(tactic| walk_at "step") => `(tactic| (with_reducible refine iYes ?_))
local macro_rules | `(tactic| walk_at "step") => `(tactic| (with_reducible refine iLc ?_))
local macro_rules | `(tactic| walk_at "step") => `(tactic| (with_reducible refine iNeS ?_))
local macro_rules | `(tactic| walk_at "step") => `(tactic| (with_reducible refine iEqS ?_))
local macro_rules | `(tactic| walk_at "step") => `(tactic| (with_reducible refine iNeB ?_))
local macro_rules | `(tactic| walk_at "step") => `(tactic| (with_reducible refine iEqB ?_))
local macro_rules | `(tactic| walk_at "step") => `(tactic| (with_reducible refine iCont ?_))
local macro_rules | `(tactic| walk_at "step") => `(tactic| (with_reducible refine iBreak ?_))
local macro_rules | `(tactic| walk_at "step") => `(tactic| (with_reducible refine iIterL ?_))
local macro_rules | `(tactic| walk_at "step") => `(tactic| (with_reducible refine iTup ?_))
local macro_rules | `(tactic| walk_at "step") => `(tactic| (with_reducible refine iLst ?_))
local macro_rules | `(tactic| walk_at "step") => `(tactic| (with_reducible refine iSub ?_))
local macro_rules | `(tactic| walk_at "step") => `(tactic| (with_reducible refine iIpI ?_))
local macro_rules | `(tactic| walk_at "step") => `(tactic| (with_reducible refine iAugS ?_))
local macro_rules | `(tactic| walk_at "step") => `(tactic| (with_reducible refine iNotV ?_))
local macro_rules | `(tactic| walk_at "step") => `(tactic| (with_reducible refine iOrV ?_))
local macro_rules | `(tactic| walk_at "step") => `(tactic| (with_reducible refine iAndV ?_))
local macro_rules | `(tactic| walk_at "step") => `(tactic| (with_reducible refine iDGet1 ?_))
local macro_rules | `(tactic| walk_at "step") => `(tactic| (with_reducible refine iNotBl ?_))
local macro_rules | `(tactic| walk_at "step") => `(tactic| (with_reducible refine iIsB ?_))
local macro_rules | `(tactic| walk_at "step") => `(tactic| (with_reducible refine iIntB ?_))
local macro_rules | `(tactic| walk_at "step") => `(tactic| (with_reducible refine iPn ?_))
local macro_rules | `(tactic| walk_at "step") => `(tactic| (with_reducible refine iPr ?_))
local macro_rules | `(tactic| walk_at "step") => `(tactic| (with_reducible refine iRai ?_))
local macro_rules | `(tactic| walk_at "step") => `(tactic| (with_reducible refine iRev1 ?_))
local macro_rules | `(tactic| walk_at "step") => `(tactic| (with_reducible refine iBM ?_))
local macro_rules | `(tactic| walk_at "step") => `(tactic| (with_reducible refine iAugF ?_))
local macro_rules | `(tactic| walk_at "step") => `(tactic| (with_reducible refine iSto ?_))
local macro_rules | `(tactic| walk_at "step") => `(tactic| (with_reducible refine iFld ?_))
local macro_rules | `(tactic| walk_at "step") => `(tactic| (with_reducible refine iMakS ?_))
local macro_rules | `(tactic| walk_at "step") => `(tactic| (with_reducible refine iMak ?_))
local macro_rules | `(tactic| walk_at "step") => `(tactic| (with_reducible refine iMet ?_))
local macro_rules | `(tactic| walk_at "step") => `(tactic| (with_reducible refine iCalE ?_))
local macro_rules | `(tactic| walk_at "step") => `(tactic| (with_reducible refine ifDr ?_))
local macro_rules | `(tactic| walk_at "step") => `(tactic| (with_reducible refine ifNDr ?_))
local macro_rules | `(tactic| walk_at "step") => `(tactic| (with_reducible refine iTruI ?_))
local macro_rules | `(tactic| walk_at "step") => `(tactic| (with_reducible refine iNotN ?_))
local macro_rules | `(tactic| walk_at "step") => `(tactic| (with_reducible refine iIsN ?_))
local macro_rules | `(tactic| walk_at "step") => `(tactic| (with_reducible refine iRetN ?_))
local macro_rules | `(tactic| walk_at "step") => `(tactic| (with_reducible refine iU ?_))
local macro_rules | `(tactic| walk_at "step") => `(tactic| (with_reducible refine iUn ?_))
local macro_rules | `(tactic| walk_at "step") => `(tactic| (with_reducible refine iChain ?_))
local macro_rules | `(tactic| walk_at "step") => `(tactic| (with_reducible refine iIf ?_))
local macro_rules | `(tactic| walk_at "step") => `(tactic| (with_reducible refine iB ?_))
local macro_rules | `(tactic| walk_at "step") => `(tactic| (with_reducible refine iNot ?_))
local macro_rules | `(tactic| walk_at "step") => `(tactic| (with_reducible refine iOr ?_))
local macro_rules | `(tactic| walk_at "step") => `(tactic| (with_reducible refine iAnd ?_))
local macro_rules | `(tactic| walk_at "step") => `(tactic| (with_reducible refine iCal ?_))
local macro_rules | `(tactic| walk_at "step") => `(tactic| (with_reducible refine iRng ?_))
local macro_rules | `(tactic| walk_at "step") => `(tactic| (with_reducible refine iFor ?_))
local macro_rules | `(tactic| walk_at "step") => `(tactic| (with_reducible refine iInt ?_))
local macro_rules | `(tactic| walk_at "step") => `(tactic| (with_reducible refine iNeI ?_))
local macro_rules | `(tactic| walk_at "step") => `(tactic| (with_reducible refine iEqI ?_))
local macro_rules | `(tactic| walk_at "step") => `(tactic| (with_reducible refine iDrop ?_))
local macro_rules | `(tactic| walk_at "step") => `(tactic| (with_reducible refine iNext ?_))
local macro_rules | `(tactic| walk_at "step") => `(tactic| (with_reducible refine iRet ?_))
local macro_rules | `(tactic| walk_at "step") => `(tactic| (with_reducible refine iBl ?_))
local macro_rules | `(tactic| walk_at "step") => `(tactic| (with_reducible refine iTest ?_))
local macro_rules | `(tactic| walk_at "step") => `(tactic| (with_reducible refine iIfS ?_))
local macro_rules | `(tactic| walk_at "step") => `(tactic| (with_reducible refine iCB ?_))
local macro_rules | `(tactic| walk_at "step") => `(tactic| (with_reducible refine iNil ?_))
local macro_rules | `(tactic| walk_at "step") => `(tactic| (with_reducible refine iCons ?_))
local macro_rules | `(tactic| walk_at "step") => `(tactic| (with_reducible refine iI0 ?_))
local macro_rules | `(tactic| walk_at "step") => `(tactic| (with_reducible refine iOp ?_))
local macro_rules | `(tactic| walk_at "step") => `(tactic| (with_reducible refine iC ?_))
local macro_rules | `(tactic| walk_at "step") => `(tactic| ((with_reducible apply iVar); (· rfl)))
local macro_rules | `(tactic| walk_at "step") => `(tactic| ((with_reducible apply iName); (· repeat constructor)))
local macro_rules | `(tactic| walk_at "step") => `(tactic| (with_reducible refine iAsg ?_))
local macro_rules | `(tactic| walk_at "step") => `(tactic| (with_reducible refine iSeq ?_))
local macro_rules | `(tactic| walk_at "go") => `(tactic| (repeat walk_at "step"))
section
variable {P : Program} {w : World} {K : PySem.W.Frag} {mg : Str → Option Value} {base : Heap}
/-! ### the law's accepted word -/
theorem j_told {w : World} {d pc pp wa : Addr} {P l : List Nat} {F : Nat → Nat → B} {kvs : List (Key × V)} {L : List WE} {H : Hp} {Q : VK} {E : XK} (hd : H d = some (.dK kvs)) (hk : PkAt kvs F P) (hpc : H pc = some (.lst (nsV l))) (hpp : H pp = some (.lst (nsV P))) (hl : ∀ m ∈ l, m ∈ P) (h256 : ∀ m ∈ P, m < 256) (h8 : P.length ≤ 8) (l8 : l.length ≤ 8) (hw : WtAt w H wa L) (hg : ∀ e ∈ L, WGood e) (hlw : L.length ≤ 60000)
    (q : ∀ q H' L', H q = none → ExB wa H H' → H' q = some (.lst (P.map fun x => V.int (packN (secN (codeW F l x)) : Nat))) → WtAt w H' wa L' → (∀ e ∈ L', WGood e) → L'.length ≤ L.length + 128 → Q (.ref q) H') : sp_told w [.ref d, .ref pc, .ref pp, .ref wa] H Q E := ⟨d, pc, pp, wa, P, l, F, kvs, L, rfl, hd, hk, hpc, hpp, hl, h256, h8, l8, hw, hg, hlw, q⟩
def pkL (c : List (Option (Nat → B))) (i : Nat) : List (Key × V) := ((List.range i).filter (has c)).map fun m : Nat => ((.inl (m : Int) : Key), V.int (packN (secN (cF c m)) : Nat))
theorem pk_none {m : Nat} : ∀ {L : List Nat} {g : Nat → V}, m ∉ L → valV (L.map fun m : Nat => ((.inl (m : Int) : Key), g m)) (.inl (m : Int) : Key) = none
  | [], _, _ => rfl
  | a :: L, g, h => by
    have h' : ¬ m = a ∧ m ∉ L := by simpa using h
    rw [List.map_cons, valV_neg, pk_none h'.2]
    intro z
    have := Sum.inl.inj z
    exact h'.1 (by omega)
theorem pk_some {m : Nat} : ∀ {L : List Nat} {g : Nat → V}, m ∈ L → valV (L.map fun m : Nat => ((.inl (m : Int) : Key), g m)) (.inl (m : Int) : Key) = some (g m)
  | [], _, h => by simp at h
  | a :: L, g, h => by
    rw [List.map_cons]
    by_cases e : a = m
    · subst e
      exact valV_pos rfl
    · rw [valV_neg, pk_some (L := L) (g := g) (by
        rcases List.mem_cons.mp h with h | h
        · exact absurd h.symm e
        · exact h)]
      intro z
      have := Sum.inl.inj z
      exact e (by omega)
theorem pkL_succ {c : List (Option (Nat → B))} {i : Nat} : pkL c (i + 1) = if has c i = true then putK (pkL c i) (.inl (i : Int)) (V.int (packN (secN (cF c i)) : Nat)) else pkL c i := by
  have hn : valV (pkL c i) (.inl (i : Int) : Key) = none := pk_none (m := i) fun h => by
    have := List.mem_range.mp (List.mem_filter.mp h).1
    omega
  unfold pkL at hn ⊢
  rw [List.range_succ, List.filter_append, List.map_append]
  cases e : has c i with
  | true =>
    rw [if_pos rfl, putK_new _ hn]
    simp [List.filter_cons, e]
  | false =>
    rw [if_neg (by decide)]
    simp [List.filter_cons, e]
theorem pkL_len (c : List (Option (Nat → B))) (i : Nat) : (pkL c i).length ≤ i := by
  unfold pkL
  have h1 := (List.filter_sublist (p := has c) (l := List.range i)).length_le
  rw [List.length_range] at h1
  rw [List.length_map]
  omega
theorem pkL_at (c : List (Option (Nat → B))) : PkAt (pkL c c.length) (cF c) (rp c) := fun m hm => pk_some hm
theorem pkL_keys (c : List (Option (Nat → B))) : (pkL c c.length).map (fun kv => kV kv.1) = nsV (rp c) := by
  unfold pkL nsV rp
  rw [List.map_map]
  rfl
theorem sorted_ns {L : List Nat} {ns : List Int} (h : L.Pairwise (· < ·)) (h256 : ∀ m ∈ L, m < 256) (pm : ns.Perm (L.map fun m : Nat => (m : Int))) (ps : ns.Pairwise (· ≤ ·)) : ns.map V.int = nsV L := by
  have e : (L.map fun m : Nat => (m : Int)) = (L.map pl).map fun b => (b.v : Int) := by
    rw [List.map_map]
    refine List.map_congr_left fun m hm => ?_
    show (m : Int) = ((pl m).v : Int)
    rw [pl_v (h256 m hm)]
  have z := sorted_same (L := L.map pl) (ns := ns) (by rw [← e]; exact pm) ps (by rw [← e]; exact List.pairwise_map.mpr (h.imp fun h => by omega))
  rw [z, bsV_pl h256]
theorem gvL_srt {F : Nat → Nat → B} {L : List Nat} (h : L.Pairwise (· < ·)) (h256 : ∀ m ∈ L, m < 256) : (((gvL F L).map (·.1)).map fun b => (b.v : Int)).Pairwise (· ≤ ·) := by
  rw [gvL_keys, List.map_map]
  refine List.pairwise_map.mpr (List.Pairwise.imp_of_mem (fun {a b} ha hb l => ?_) h)
  show ((pl a).v : Int) ≤ ((pl b).v : Int)
  rw [pl_v (h256 a ha), pl_v (h256 b hb)]
  omega
theorem pack_eq (f g : Nat → B) : decide (((packN (secN f) : Nat) : Int) = ((packN (secN g) : Nat) : Int)) = eqS g f := by
  unfold eqS
  by_cases h : secN g = secN f
  · rw [h, decide_eq_true rfl, decide_eq_true rfl]
  · rw [decide_eq_false h, decide_eq_false fun z => h (packN_inj (by rw [secN_len, secN_len]) (secN_lt g) (secN_lt f) (by omega))]
theorem exb_new {a : Addr} {H H' : Hp} (h : H a = none) (e : ExB a H H') : Ex H H' := fun p o q => e p o (ne_of_none q h) q
def sp_laccepted : Sp := fun vs H Q _ => ∃ (p : Addr) (cs : List V) (c : List (Option (Nat → B))) (k s : Nat), vs = [.ref p, .int k, .int s] ∧ H p = some (.lst cs) ∧ CellsAt H cs c ∧ c.length ≤ 8 ∧ 1 ≤ k ∧
  ∀ v H', Ex H H' → ResAt H' v c.length (accW c k s (lawR c k)) → Q v H'
theorem ok_laccepted (M : Mg mg) {f : Addr} {fd : FuncData} (F : Fun K "_law_accepted" "_law_accepted" s__law_accepted f fd) (c__law_packed : Cal P w K mg base 1 "_law_packed" ["sector"] sp_packed) (c__law_subsets : Cal P w K mg base 1 "_law_subsets" ["places", "count"] sp_subsets) (c__law_told : Cal P w K mg base 4 "_law_told" ["cells", "chosen", "places", "weights"] (sp_told w)) (c__law_sector_at : Cal P w K mg base 4 "_law_sector_at" ["x", "given"] sp__law_sector_at) : FnOk P w K mg base CX0 5 f fd ["cells", "k", "s"] sp_laccepted := by
  refine F.ok sc__law_accepted (fun vs H Q E h => ?_) (fun cdv A outer s H vs Q E hr h => ?_)
  · obtain ⟨p, cs, c, k, s, rfl, _⟩ := h; rfl
  · obtain ⟨p, cs, c, k, s', rfl, hp, hc, h8, hk, q⟩ := h
    refine ⟨_, (pss_cons (ps_set (i := 3) sc__law_accepted.nd rfl (Or.inl rfl) pe_wnew) (pss_cons (ps_set (i := 4) sc__law_accepted.nd rfl (Or.inr rfl) pe_dnewK) (pss_cons (ps_for PassesOwn.never rfl (pi_range1 (by rfl) M.n_range (pa_cons (pe_callB len_l (by rfl) M.n_len PySem.boot_len (pa_cons (pv 0) pa_nil)) pa_nil)) (pg_name (i := 5) sc__law_accepted.nd rfl (Or.inl rfl)) (pss_one (ps_if (pt_cmpR op_notN1 (pe_ix ix_l (pv 0) (pv 5) (fun _ _ => rfl)) pe_non (nomark _)) (pss_one (ps_dput (hu_of hr) (pv 4) (pv 5) (pe_cal c__law_packed (hr.mono (by omega)) (by rfl) (pa_cons (pe_ix ix_l (pv 0) (pv 5) (fun _ _ => rfl)) pa_nil)) rfl)) pss_nil))) (pss_cons (ps_set (i := 6) sc__law_accepted.nd rfl (Or.inl rfl) (pe_callB cr_sorted (by rfl) M.n_sorted (by decide +kernel) (pa_cons (pe_callTy (call_list_dK rfl) (by rfl) M.n_list (by decide +kernel) (pa_cons (pv 4) pa_nil)) pa_nil))) (pss_cons (ps_if (pt_cmpR op_lt (pe_callB len_l (by rfl) M.n_len PySem.boot_len (pa_cons (pv 6) pa_nil)) (pe_op op_add (pv 1) (pv 2)) (nomark _)) (pss_one (ps_ret pe_non)) pss_nil) (pss_cons (ps_for PassesOwn.never rfl (pi_l (pe_cal c__law_subsets (hr.mono (by omega)) (by rfl) (pa_cons (pv 6) (pa_cons (pv 1) pa_nil)))) (pg_name (i := 7) sc__law_accepted.nd rfl (Or.inl rfl)) (pss_cons (ps_set (i := 8) sc__law_accepted.nd rfl (Or.inl rfl) (pe_cal c__law_told (hr.mono (by omega)) (by rfl) (pa_cons (pv 4) (pa_cons (pv 7) (pa_cons (pv 6) (pa_cons (pv 3) pa_nil)))))) (pss_cons (ps_setLc (i := 9) (own := [("place", 5), ("number", 11)]) (g := (gTup K 2 (gCons (gName 5) (gCons (gName 11) gNil)))) (tt := _) (by rfl) sc__law_accepted.nd rfl rfl (sw_true rfl rfl rfl (by decide +kernel)) (pi_zip (by rfl) M.n_zip (pa_cons (pv 6) (pa_cons (pv 8) pa_nil))) (blkOk_by (own := [("place", 5), ("number", 11)]) (N := ["cells", "k", "s", "weights", "packed", "place", "places", "chosen", "told", "equal", "given", "number", "x"]) (sc := defScope s__law_accepted) (by decide +kernel)) (fun _ _ _ _ _ => (pg_tup (by rfl) (pgs_cons (pg_name (i := 5) sc__law_accepted.nd rfl (Or.inl rfl)) (pgs_cons (pg_name (i := 11) sc__law_accepted.nd rfl (Or.inl rfl)) pgs_nil)))) (fun _ _ _ _ _ => (pts_one (pt_cmpR op_eq (pe_dget (hu_of hr) (pv 4) (pv 5) (fun _ _ => rfl)) (pv 11) (nomark _)))) (fun _ _ _ _ _ => (pv 5))) (pss_one (ps_if (PW.pt (pw_and (pt_cmpR op_ge (pe_callB len_l (by rfl) M.n_len PySem.boot_len (pa_cons (pv 9) pa_nil)) (pe_op op_add (pv 1) (pv 2)) (nomark _)) (pw_and1 (pt_cmpR op_ge (pe_callB len_l (by rfl) M.n_len PySem.boot_len (pa_cons (pv 9) pa_nil)) (pe_op op_sub (pe_callB len_l (by rfl) M.n_len PySem.boot_len (pa_cons (pv 6) pa_nil)) (pv 2)) (nomark _))))) (pss_cons (ps_set (i := 10) sc__law_accepted.nd rfl (Or.inr rfl) pe_dnewK) (pss_cons (ps_for PassesOwn.never rfl (pi_l (pv 7)) (pg_name (i := 5) sc__law_accepted.nd rfl (Or.inl rfl)) (pss_one (ps_dput (hu_of hr) (pv 10) (pv 5) (pe_ix ix_l (pv 0) (pv 5) (fun _ _ => rfl)) rfl))) (pss_one (ps_ret (pe_lc (own := [("x", 12)]) (g := (gName 12)) (tt := tYes) (by rfl) sc__law_accepted.nd (pi_range1 (by rfl) M.n_range (pa_cons (pe_callB len_l (by rfl) M.n_len PySem.boot_len (pa_cons (pv 0) pa_nil)) pa_nil)) (blkOk_by (own := [("x", 12)]) (N := ["cells", "k", "s", "weights", "packed", "place", "places", "chosen", "told", "equal", "given", "number", "x"]) (sc := defScope s__law_accepted) (by decide +kernel)) (fun _ _ _ _ _ => (pg_name (i := 12) sc__law_accepted.nd rfl (Or.inl rfl))) (fun _ _ _ _ _ => pts_nil) (fun _ _ _ _ _ => (pe_cal c__law_sector_at (hr.mono (by omega)) (by rfl) (pa_cons (pv 12) (pa_cons (pv 10) pa_nil))))))))) pss_nil))))) (pss_one (ps_ret pe_non)))))))), ?_⟩
    refine iBody (by repeat constructor) ?_
    walk_at "go"
    refine iWNew (w := w) fun wa hwa => ?_
    have e1 := Ex.new (o := wtO w wa []) hwa
    have hw1 : WtAt w (upd H wa (wtO w wa [])) wa [] := ⟨upd_same, fun x hx => by cases hx⟩
    generalize upd H wa (wtO w wa []) = H1 at e1 hw1 ⊢
    have len := hc.len
    have rl := rp_len c
    have r256 : ∀ m ∈ rp c, m < 256 := fun m hm => by have := rp_lt hm; omega
    walk_at "go"
    refine iDNew fun d hd => ?_
    have hp1 := e1 _ _ hp
    have hd0 : (upd H1 d (.dK [])) d = some (.dK (pkL c 0)) := upd_same
    have e2 := Ex.new (o := .dK []) hd
    generalize upd H1 d (.dK []) = H2 at hd0 e2 ⊢
    have hp2 := e2 _ _ hp1
    walk_at "go"
    refine forJ_range0 (fun i σ' H' => (∃ x5, σ' = [some (.ref p), some (.int k), some (.int s'), some (.ref wa), some (.ref d), x5, none, none, none, none, none, none, none]) ∧ Ex H1 H' ∧ H' d = some (.dK (pkL c i))) ⟨⟨_, rfl⟩, e2, hd0⟩ (fun i σ' H' hi h => ?_) (fun σ' H' h => ?_)
    · obtain ⟨⟨x5, rfl⟩, e3, hd3⟩ := h
      have hi : i < c.length := by rw [← len]; exact hi
      have hp3 := e3 _ _ hp1
      have hc3 := hc.ex (e1.trans e3)
      have ps := pkL_succ (c := c) (i := i)
      cases hh : has c i with
      | true =>
        rw [hh, if_pos rfl] at ps
        obtain ⟨r, hr1, hr2⟩ := hc3.sec hh
        walk_at "go"
        refine iIxL hp3 ((atI_natL _ _).trans hr1) ?_
        walk_at "go"
        refine iIxL hp3 ((atI_natL _ _).trans hr1) ?_
        walk_at "go"
        refine ⟨r, cF c i, rfl, hr2, ?_⟩
        walk_at "go"
        have pl1 := pkL_len c i
        refine iDPi hd3 (by omega) ?_
        refine ⟨⟨_, rfl⟩, ex_upd hd e3, ?_⟩
        rw [upd_same, ps]
      | false =>
        rw [hh, if_neg (by decide)] at ps
        walk_at "go"
        refine iIxL hp3 ((atI_natL _ _).trans (hc3.no hi hh)) ?_
        walk_at "go"
        refine ⟨⟨_, rfl⟩, e3, ?_⟩
        rw [ps]
        exact hd3
    · obtain ⟨⟨x5, rfl⟩, e3, hd3⟩ := h
      rw [len, Int.toNat_natCast] at hd3
      have hp3 := e3 _ _ hp1
      walk_at "go"
      refine iListD hd3 fun p1 hp1' => ?_
      rw [pkL_keys]
      have ek : nsV (rp c) = ((rp c).map fun m : Nat => (m : Int)).map V.int := by unfold nsV; rw [List.map_map]; rfl
      walk_at "go"
      refine iSorted (ns := (rp c).map fun m : Nat => (m : Int)) (by rw [ek]; exact upd_same) (by rw [List.length_map]; omega) fun ns q0 pm ps hq0 => ?_
      rw [sorted_ns (rp_srt c) r256 pm ps]
      have e4 : Ex H' (upd (upd H' p1 (.lst (nsV (rp c)))) q0 (.lst (nsV (rp c)))) := (Ex.new hp1').trans (Ex.new hq0)
      have hq4 : (upd (upd H' p1 (.lst (nsV (rp c)))) q0 (.lst (nsV (rp c)))) q0 = some (.lst (nsV (rp c))) := upd_same
      generalize upd (upd H' p1 (.lst (nsV (rp c)))) q0 (.lst (nsV (rp c))) = H4 at e4 hq4 ⊢
      have hd4 := e4 _ _ hd3
      have hp4 := e4 _ _ hp3
      have e14 := e3.trans e4
      walk_at "go"
      rw [nsV_len]
      refine ifD (fun h1 => ?_) (fun h1 => ?_)
      · walk_at "go"
        exact q _ _ (e1.trans e14) (by unfold accW; rw [if_pos (by omega)]; rfl)
      · walk_at "go"
        refine ⟨q0, rp c, k, rfl, hq4, by omega, by omega, fun qs ws H5 e5 hqs hrows => ?_⟩
        walk_at "go"
        have hw5 := hw1.ex (e14.trans e5)
        have hd5 := e5 _ _ hd4
        have hq5 := e5 _ _ hq4
        have hp5 := e5 _ _ hp4
        have e15 := e14.trans e5
        have wn : H1 d = none := hd
        have nd : d ≠ wa := ne_of hd5 hw5.at_ (fun z => by cases z)
        have nq : q0 ≠ wa := ne_of hq5 hw5.at_ (fun z => by cases z)
        have np : p ≠ wa := ne_of hp5 hw5.at_ (fun z => by cases z)
        have nqs : qs ≠ wa := ne_of hqs hw5.at_ (fun z => by cases z)
        have hwl : ws.length ≤ 256 := by
          rw [hrows.len]
          have a1 := List.length_filter_le (fun r : List Nat => decide (r.length = k)) (subs k (rp c))
          have a2 := subs_len k (rp c) (rp c).length (Nat.le_refl _)
          rw [List.take_length] at a2
          have a3 : (2 : Nat) ^ (rp c).length ≤ 2 ^ 8 := Nat.pow_le_pow_right (by decide) (by omega)
          omega
        have hsub : ∀ r ∈ lawR c k, r.Sublist (rp c) ∧ r.length = k := fun r hr => lawR_sub hr
        have hrows' : RowsAt H5 ws (lawR c k) := hrows
        have e05 : Ex H H5 := e1.trans e15
        generalize lawR c k = RR at hrows' hsub q
        have wsl := hrows'.len
        refine forJ_list ws (fun i σ' H' => (∃ x5 x7 x8 x9 x10, σ' = [some (.ref p), some (.int k), some (.int s'), some (.ref wa), some (.ref d), x5, some (.ref q0), x7, x8, x9, x10, none, none]) ∧ ExB wa H5 H' ∧ (∃ L, WtAt w H' wa L ∧ (∀ e ∈ L, WGood e) ∧ L.length ≤ 128 * i) ∧ ∀ (j : Nat) (r : List Nat), j < i → RR[j]? = some r → decide ((badP (cF c) (codeW (cF c) r) (rp c)).length ≤ spr c k s') = false) ⟨⟨_, _, _, _, _, rfl⟩, ExB.of (Ex.rfl' _), ⟨[], hw5, (fun e he => by cases he), Nat.zero_le _⟩, fun j r hj => absurd hj (Nat.not_lt_zero _)⟩ (fun i σ' H' _ h => h.2.1 _ _ nqs hqs) (fun i x σ' H' hx h => ?_) (fun σ' H' h => ?_)
        · obtain ⟨⟨x5, x7, x8, x9, x10, rfl⟩, e6, ⟨L, hw6, hg6, hl6⟩, hno⟩ := h
          obtain ⟨pr, r, rfl, hRi, hpr⟩ := hrows'.get hx
          have hi := (List.getElem?_eq_some_iff.mp hx).1
          obtain ⟨sr, lr⟩ := hsub r (List.mem_of_getElem? hRi)
          have ndr := sub_nodup sr (rp_nd c)
          have npr : pr ≠ wa := ne_of hpr hw5.at_ (fun z => by cases z)
          have hpr6 := e6 _ _ npr hpr
          walk_at "go"
          refine j_told (e6 _ _ nd hd5) (pkL_at c) hpr6 (e6 _ _ nq hq5) (fun m hm => sr.subset hm) r256 (by omega) (by omega) hw6 hg6 (by omega) fun qt H7 L7 hqt e7 hqt7 hw7 hg7 hl7 => ?_
          have e57 := e6.trans e7
          have hq7 := e57 _ _ nq hq5
          have hd7 := e57 _ _ nd hd5
          have hp7 := e57 _ _ np hp5
          have hpr7 := e57 _ _ npr hpr
          have e07 : Ex H H7 := exb_new hwa ((ExB.of e05).trans e57)
          have hc7 := hc.ex e07
          walk_at "go"
          refine lc_z (nsV (rp c)) ((rp c).map fun x => V.int (packN (secN (codeW (cF c) r x)) : Nat)) (by rw [nsV_len, List.length_map]) (by repeat constructor) (PvR H7 (fun i acc _ => acc = nsV (((rp c).take i).filter fun x => eqS (codeW (cF c) r x) (cF c x)))) (fun D hD => ⟨Ex.new hD, by simp [nsV]⟩) (fun D i acc H hD _ h => ⟨h.1 _ _ hq7, h.1 _ _ hqt7⟩) (fun D j acc x y T H8 hD hx hy hacc hl8 hv hT => ?_) (fun D acc H8 hD hacc hl8 hv => ?_)
          · obtain ⟨m, hm, rfl⟩ := nsV_get hx
            rw [List.getElem?_map, hm] at hy
            cases hy
            obtain ⟨e8, hA⟩ := hv
            have hmc := List.mem_of_getElem? hm
            have e9 : Ex H8 (upd H8 T (.tup [.int (m : Nat), .int (packN (secN (codeW (cF c) r m)) : Nat)])) := Ex.new hT
            have a9 : (upd H8 T (.tup [.int (m : Nat), .int (packN (secN (codeW (cF c) r m)) : Nat)])) T = some (.tup [.int (m : Nat), .int (packN (secN (codeW (cF c) r m)) : Nat)]) := upd_same
            generalize upd H8 T (.tup [.int (m : Nat), .int (packN (secN (codeW (cF c) r m)) : Nat)]) = H9 at e9 a9 ⊢
            have hacc9 := e9 _ _ hacc
            have hd9 := e9 _ _ (e8 _ _ hd7)
            have jl := (List.getElem?_eq_some_iff.mp hm).1
            have stp : ((rp c).take (j + 1)).filter (fun x => eqS (codeW (cF c) r x) (cF c x)) = ((rp c).take j).filter (fun x => eqS (codeW (cF c) r x) (cF c x)) ++ [m].filter (fun x => eqS (codeW (cF c) r x) (cF c x)) := by rw [List.take_succ, hm, List.filter_append]; rfl
            walk_at "go"
            refine iDGi hd9 (pkL_at c m hmc) ?_
            walk_at "go"
            rw [pack_eq]
            cases eb : eqS (codeW (cF c) r m) (cF c m) with
            | false =>
              walk_at "go"
              refine iLcN hacc9 hl8 ⟨e8.trans e9, ?_⟩
              show acc = _
              rw [stp, hA, List.filter_cons, eb]
              simp [nsV]
            | true =>
              walk_at "go"
              refine iLcR hD (by omega) hl8 (e8.trans e9) hacc9 ?_
              show _ = _
              rw [stp, hA, List.filter_cons, eb]
              simp [nsV]
          · obtain ⟨e8, hA⟩ := hv
            rw [nsV_len, List.take_length] at hA
            rw [hA] at hacc
            have lt := law_test (c := c) (k := k) (s := s') (w := codeW (cF c) r) (by omega)
            have up : ¬ (badP (cF c) (codeW (cF c) r) (rp c)).length ≤ spr c k s' → ∀ (j : Nat) (g : List Nat), j < i + 1 → RR[j]? = some g → decide ((badP (cF c) (codeW (cF c) g) (rp c)).length ≤ spr c k s') = false := fun hn j g hj hg => by
              rcases Nat.lt_or_ge j i with z | z
              · exact hno j g z hg
              · have : j = i := by omega
                subst this
                rw [hRi] at hg
                cases hg
                exact decide_eq_false hn
            have hw8 := hw7.ex e8
            have hq8 := e8 _ _ hq7
            have hpr8 := e8 _ _ hpr7
            have hp8 := e8 _ _ hp7
            have hc8 := hc7.ex e8
            have e08 := e07.trans e8
            have keep : ExB wa H5 H8 := e57.trans (ExB.of e8)
            walk_at "go"
            rw [nsV_len]
            refine ifD (fun h2 => ?_) (fun h2 => ?_)
            · walk_at "go"
              rw [nsV_len, nsV_len]
              refine ifD (fun h3 => ?_) (fun h3 => ?_)
              · have hb := lt.mp ⟨by omega, by omega⟩
                walk_at "go"
                refine iDNew fun D2 hD2 => ?_
                have pv0 := pvG_0 (c := c) (row := r) hD2
                walk_at "go"
                refine forJ_list (nsV r) (fun j σ'' H'' => (∃ x5, σ'' = [some (.ref p), some (.int k), some (.int s'), some (.ref wa), some (.ref d), x5, some (.ref q0), some (.ref pr), some (.ref qt), some (.ref D), some (.ref D2), none, none]) ∧ PvG c r H8 D2 j H'') ⟨⟨_, rfl⟩, pv0⟩ (fun j σ'' H'' _ h => h.2.1 _ _ hpr8) (fun j y σ'' H'' hy h => ?_) (fun σ'' H'' h => ?_)
                · obtain ⟨⟨y5, rfl⟩, pv⟩ := h
                  obtain ⟨m, hm, rfl⟩ := nsV_get hy
                  obtain ⟨z, hr1, hr2⟩ := hc8.sec (rp_has (sr.subset (List.mem_of_getElem? hm)))
                  obtain ⟨kvs, k1, k2, k3⟩ := pvG_put hD2 pv hm (pv.1 _ _ hr2) ndr (fun x hx => by have := rp_lt (sr.subset hx); omega)
                  have jl := (List.getElem?_eq_some_iff.mp hm).1
                  walk_at "go"
                  refine iIxL (pv.1 _ _ hp8) ((atI_natL _ _).trans hr1) ?_
                  walk_at "go"
                  refine iDPi k1 (by omega) ?_
                  exact ⟨⟨_, rfl⟩, k3⟩
                · obtain ⟨⟨y5, rfl⟩, pv⟩ := h
                  rw [nsV_len] at pv
                  obtain ⟨e9, kvs, hk9, hG9⟩ := pvG_done pv
                  have hp9 := e9 _ _ hp8
                  have srt9 := List.Pairwise.sublist sr (rp_srt c)
                  walk_at "go"
                  rw [len, Int.toNat_natCast]
                  refine lcR_r0 (fun i acc H' => WordR (gvL (cF c) r) i acc H') (by repeat constructor) (fun i acc H1 H2 e h => WordR.mono _ _ _ _ e h) ⟨rfl, fun t v e => by simp at e⟩ (fun D3 i3 acc3 H10 hD3 hi3 hacc3 hl3 e10 rr => ?_) (fun D3 acc3 H10 hD3 e10 hacc3 rr => ?_)
                  · walk_at "go"
                    have e3' : (i3 : Int) = ((pl i3).v : Nat) := by rw [pl_v (by omega)]
                    rw [e3']
                    refine j_lsector_at (e10 _ _ hk9) (hG9.ex e10) (gvL_nd ndr fun m hm => by have := rp_lt (sr.subset hm); omega) (gvL_srt srt9 fun m hm => r256 m (sr.subset hm)) (by unfold gvL; rw [List.length_map]; omega) fun p3 H11 hp3 e11 h11 => ?_
                    have nD : p3 ≠ D3 := (ne_of_none hacc3 hp3).symm
                    refine iLcR hD3 (by omega) hl3 (e10.trans e11) (e11 _ _ hacc3) ?_
                    exact (WordR.mono _ _ _ _ (mk_mono e11) rr).snoc ⟨p3, rfl, (mk_at nD).trans h11⟩
                  · obtain ⟨la, sa⟩ := rr.res
                    refine q _ _ (e08.trans (e9.trans e10)) ?_
                    have : firstAcc (cF c) (rp c) (spr c k s') RR = some r := find_at hno hRi (decide_eq_true hb)
                    unfold accW
                    rw [if_neg (by omega), this]
                    exact ⟨D3, acc3, rfl, hacc3, la, sa⟩
              · walk_at "go"
                refine ⟨⟨_, _, _, _, _, rfl⟩, keep, ⟨L7, hw8, hg7, by omega⟩, up fun z => ?_⟩
                have := lt.mpr z
                omega
            · walk_at "go"
              refine ⟨⟨_, _, _, _, _, rfl⟩, keep, ⟨L7, hw8, hg7, by omega⟩, up fun z => ?_⟩
              have := lt.mpr z
              omega
        · obtain ⟨⟨x5, x7, x8, x9, x10, rfl⟩, e6, ⟨L, hw6, hg6, hl6⟩, hno⟩ := h
          walk_at "go"
          refine q _ _ (exb_new hwa ((ExB.of e05).trans e6)) ?_
          have : firstAcc (cF c) (rp c) (spr c k s') RR = none := find_no fun j r hj => hno j r (by have := (List.getElem?_eq_some_iff.mp hj).1; omega) hj
          unfold accW
          rw [if_neg (by omega), this]
          rfl
end
end R
set_option Elab.async false
set_option linter.all false
set_option maxRecDepth 100000
set_option maxHeartbeats 4000000
namespace R
open PySem PySem.Spec L2
open Evl (Ex)
abbrev s__law_cells : Stmt := topS 32
theorem sc__law_cells : FnScope ["state", "n", "k", "j", "word", "other", "cells", "place", "pick", "spoilt"] ["state", "n", "k"] (defScope s__law_cells) := ⟨rfl, rfl, rfl, by decide +kernel, rfl, by decide +kernel, by decide +kernel⟩
local macro_rules | `(tactic| walk_at "ne") => `(tactic| (apply Ne.symm; apply ne_fresh; (· assumption); (· walk_at "look")))
local macro_rules | `(tactic| walk_at "ne") => `(tactic| (apply ne_fresh; (· assumption); (· walk_at "look")))
local macro_rules | `(tactic| walk_at "ne") => `(tactic| (apply Ne.symm; assumption))
local macro_rules | `(tactic| walk_at "ne") => `(tactic| assumption)
local macro_rules | `(tactic| walk_at "look") => `(tactic| (refine exAt (by assumption) ?_; walk_at "look"))
local macro_rules | `(tactic| walk_at "look") => `(tactic| (refine (upd_ne ?_).trans ?_; (· walk_at "ne"); (· walk_at "look")))
local macro_rules | `(tactic| walk_at "look") => `(tactic| exact upd_same)
local macro_rules | `(tactic| walk_at "look") => `(tactic| assumption)
local macro_rules | `(tactic| walk_at "side") => `(tactic| (exact ⟨by decide, by decide, by decide⟩))
local macro_rules | `(tactic| walk_at "side") => `(tactic| (exact ⟨by omega, by omega⟩))
local macro_rules | `(tactic| walk_at "side") => `(tactic| (show (0:Int) ≤ _; omega))
local macro_rules | `(tactic| walk_at "side") => `(tactic| (show (0:Int) < _; omega))
local macro_rules | `(tactic| walk_at "side") => `(tactic| (exact Or.inr ⟨by omega, by omega⟩))
local macro_rules | `(tactic| walk_at "side") => `(tactic| (exact Or.inl ⟨by omega, by omega⟩))
local macro_rules | `(tactic| walk_at "step") => `(tactic| ((with_reducible apply iDcT); (· rfl)))
local macro_rules | `(tactic| walk_at "step") => `(tactic| ((with_reducible apply iParI); (· repeat constructor); (· repeat constructor)))
local macro_rules | `(tactic| walk_at "step") => `(tactic| ((with_reducible apply iItT); (· walk_at "look")))
local macro_rules | `(tactic| walk_at "step") => `(tactic| ((with_reducible apply iZL); (· walk_at "look"); (· walk_at "look")))
local macro_rules | `(tactic| walk_at "step") => `(tactic| ((with_reducible apply iItL); (· walk_at "look")))
local macro_rules | `(tactic| walk_at "step") => `(tactic| ((with_reducible apply iRng2I); (· omega); (· omega); (· omega); (· omega)))
local macro_rules | `(tactic| walk_at "step") => `(tactic| ((with_reducible apply iDNi); (· walk_at "look")))
local macro_rules | `(tactic| walk_at "step") => `(tactic| ((with_reducible apply iDIi); (· walk_at "look")))
local macro_rules | `(tactic| walk_at "step") => `(tactic| ((with_reducible apply iGTup); (· walk_at "look"); (· rfl)))
local macro_rules | `(tactic| walk_at "step") => `(tactic| ((with_reducible apply iLcB); (· rfl)))
local macro_rules | `(tactic| walk_at "step") => `(tactic| ((with_reducible apply ifNn); (· omega)))
local macro_rules | `(tactic| walk_at "step") => `(tactic| ((with_reducible apply ifNp); (· omega)))
local macro_rules | `(tactic| walk_at "step") => `(tactic| ((with_reducible apply ifF); (· apply decide_eq_false; omega)))
local macro_rules | `(tactic| walk_at "step") => `(tactic| ((with_reducible apply ifT); (· apply decide_eq_true; omega)))
local macro_rules | `(tactic| walk_at "step") => `(tactic| ((with_reducible apply ifF); (· rfl)))
local macro_rules | `(tactic| walk_at "step") => `(tactic| ((with_reducible apply ifT); (· rfl)))
local macro_rules | `(tactic| walk_at "step") => `(tactic| ((with_reducible apply iLenS); (· first | exact Or.inl (by walk_at "look") | exact Or.inr (by walk_at "look"))))
local macro_rules | `(tactic| walk_at "step") => `(tactic| ((with_reducible apply iLenT); (· walk_at "look")))
local macro_rules | `(tactic| walk_at "step") => `(tactic| ((with_reducible apply iIsi); (· first | exact tyN_int | exact tyN_bl | exact tyN_non | exact tyN_str | exact tyN_lst (by walk_at "look") | exact tyN_tup (by walk_at "look")); (· (first | exact kb_NoneType_bool | exact kb_NoneType_int | exact kb_NoneType_str | exact kb_NoneType_tuple | exact kb_NoneType_list | exact kb_bool_bool | exact kb_bool_int | exact kb_bool_str | exact kb_bool_tuple | exact kb_bool_list | exact kb_int_bool | exact kb_int_int | exact kb_int_str | exact kb_int_tuple | exact kb_int_list | exact kb_str_bool | exact kb_str_int | exact kb_str_str | exact kb_str_tuple | exact kb_str_list | exact kb_tuple_bool | exact kb_tuple_int | exact kb_tuple_str | exact kb_tuple_tuple | exact kb_tuple_list | exact kb_list_bool | exact kb_list_int | exact kb_list_str | exact kb_list_tuple | exact kb_list_list))))
local macro_rules | `(tactic| walk_at "step") => `(tactic| ((with_reducible apply iIxT); (· walk_at "look"); (· rfl)))
local macro_rules | `(tactic| walk_at "step") => `(tactic| ((with_reducible apply iSetL); (· walk_at "look"); (· rfl)))
local macro_rules | `(tactic| walk_at "step") => `(tactic| ((with_reducible apply iLenL); (· walk_at "look")))
local macro_rules | `(tactic| walk_at "step") => `(tactic| ((with_reducible apply iIxL); (· walk_at "look"); (· rfl)))
local macro_rules | `(tactic| walk_at "step") => `(tactic| ((with_reducible apply iI); rotate_left; (· (first | (exact Or.inl ⟨by omega, by omega⟩) | (exact Or.inr ⟨by omega, by omega⟩) | (show (0:Int) < _; omega) | (show (0:Int) ≤ _; omega) | (exact ⟨by omega, by omega⟩) | (exact ⟨by decide, by decide, by decide⟩)))))
local macro_rules | `(tactic| walk_at "step") => `(tactic| ((with_reducible apply iAugK); (· rfl)))
local macro_rules | `(tactic| walk_at "step") => `(tactic| ((with_reducible apply iRngI); (· first | decide | omega); (· first | decide | omega)))
local macro_rules | `(tactic| walk_at "step") => `(tactic| (with_reducible refine iWPut ?_))
local macro_rules | `(tactic| walk_at "step") => `(tactic| (with_reducible refine iWGet ?_))
local macro_rules | `(tactic| walk_at "step") => `(tactic| (with_reducible refine iWNot ?_))
local macro_rules | `(tactic| walk_at "step") => `(tactic| (with_reducible refine iCombK ?_))
local macro_rules | `(tactic| walk_at "step") => `(tactic| (with_reducible refine iDc ?_))
local macro_rules | `(tactic| walk_at "step") => `(tactic| (with_reducible refine iPar ?_))
local macro_rules | `(tactic| walk_at "step") => `(tactic| (with_reducible refine iItS ?_))
local macro_rules | `(tactic| walk_at "step") => `(tactic| (with_reducible refine iIterS ?_))
local macro_rules | `(tactic| walk_at "step") => `(tactic| (with_reducible refine iIterT ?_))
local macro_rules | `(tactic| walk_at "step") => `(tactic| (with_reducible refine iZA ?_))
local macro_rules | `(tactic| walk_at "step") => `(tactic| (with_reducible refine iRg3 ?_))
local macro_rules | `(tactic| walk_at "step") => `(tactic| (with_reducible refine iRv ?_))
local macro_rules | `(tactic| walk_at "step") => `(tactic| (with_reducible refine iNoPart ?_))
local macro_rules | `(tactic| walk_at "step") => `(tactic| (with_reducible refine iPartI ?_))
local macro_rules | `(tactic| walk_at "step") => `(tactic| (with_reducible refine iPart ?_))
local macro_rules | `(tactic| walk_at "step") => `(tactic| (with_reducible refine iSl ?_))
local macro_rules | `(tactic| walk_at "step") => `(tactic| (with_reducible refine iDEa ?_))
local macro_rules | `(tactic| walk_at "step") => `(tactic| (with_reducible refine iGNil ?_))
local macro_rules | `(tactic| walk_at "step") => `(tactic| (with_reducible refine iGCons ?_))
local macro_rules | `(tactic| walk_at "step") => `(tactic| (with_reducible refine iZipK ?_))
local macro_rules | `(tactic| walk_at "step") => `(tactic| (with_reducible refine iRng2 ?_))
local macro_rules | `(tactic| walk_at "step") => `(tactic| (with_reducible refine iDPut ?_))
local macro_rules | `(tactic| walk_at "step") => `(tactic| (with_reducible refine iDNotIn ?_))
local macro_rules | `(tactic| walk_at "step") => `(tactic| (with_reducible refine iDIn ?_))
local macro_rules | `(tactic| walk_at "step") => `(tactic| (with_reducible refine iDGet ?_))
local macro_rules | `(tactic| walk_at "step") => `(tactic| (with_reducible refine iYes ?_))
local macro_rules | `(tactic| walk_at "step") => `(tactic| (with_reducible refine iLc ?_))
local macro_rules | `(tactic| walk_at "step") => `(tactic| (with_reducible refine iNeS ?_))
local macro_rules | `(tactic| walk_at "step") => `(tactic| (with_reducible refine iEqS ?_))
local macro_rules | `(tactic| walk_at "step") => `(tactic| (with_reducible refine iNeB ?_))
local macro_rules | `(tactic| walk_at "step") => `(tactic| (with_reducible refine iEqB ?_))
local macro_rules | `(tactic| walk_at "step") => `(tactic| (with_reducible refine iCont ?_))
local macro_rules | `(tactic| walk_at "step") => `(tactic| (with_reducible refine iBreak ?_))
local macro_rules | `(tactic| walk_at "step") => `(tactic| (with_reducible refine iIterL ?_))
local macro_rules | `(tactic| walk_at "step") => `(tactic| (with_reducible refine iTup ?_))
local macro_rules | `(tactic| walk_at "step") => `(tactic| (with_reducible refine iLst ?_))
local macro_rules | `(tactic| walk_at "step") => `(tactic| (with_reducible refine iSub ?_))
local macro_rules | `(tactic| walk_at "step") => `(tactic| (with_reducible refine iIpI ?_))
local macro_rules | `(tactic| walk_at "step") => `(tactic| (with_reducible refine iAugS ?_))
local macro_rules | `(tactic| walk_at "step") => `(tactic| (with_reducible refine iNotV ?_))
local macro_rules | `(tactic| walk_at "step") => `(tactic| (with_reducible refine iOrV ?_))
local macro_rules | `(tactic| walk_at "step") => `(tactic| (with_reducible refine iAndV ?_))
local macro_rules | `(tactic| walk_at "step") => `(tactic| (with_reducible refine iDGet1 ?_))
local macro_rules | `(tactic| walk_at "step") => `(tactic| (with_reducible refine iNotBl ?_))
local macro_rules | `(tactic| walk_at "step") => `(tactic| (with_reducible refine iIsB ?_))
local macro_rules | `(tactic| walk_at "step") => `(tactic| (with_reducible refine iIntB ?_))
local macro_rules | `(tactic| walk_at "step") => `(tactic| (with_reducible refine iPn ?_))
local macro_rules | `(tactic| walk_at "step") => `(tactic| (with_reducible refine iPr ?_))
local macro_rules | `(tactic| walk_at "step") => `(tactic| (with_reducible refine iRai ?_))
local macro_rules | `(tactic| walk_at "step") => `(tactic| (with_reducible refine iRev1 ?_))
local macro_rules | `(tactic| walk_at "step") => `(tactic| (with_reducible refine iBM ?_))
local macro_rules | `(tactic| walk_at "step") => `(tactic| (with_reducible refine iAugF ?_))
local macro_rules | `(tactic| walk_at "step") => `(tactic| (with_reducible refine iSto ?_))
local macro_rules | `(tactic| walk_at "step") => `(tactic| (with_reducible refine iFld ?_))
local macro_rules | `(tactic| walk_at "step") => `(tactic| (with_reducible refine iMakS ?_))
local macro_rules | `(tactic| walk_at "step") => `(tactic| (with_reducible refine iMak ?_))
local macro_rules | `(tactic| walk_at "step") => `(tactic| (with_reducible refine iMet ?_))
local macro_rules | `(tactic| walk_at "step") => `(tactic| (with_reducible refine iCalE ?_))
local macro_rules | `(tactic| walk_at "step") => `(tactic| (with_reducible refine ifDr ?_))
local macro_rules | `(tactic| walk_at "step") => `(tactic| (with_reducible refine ifNDr ?_))
local macro_rules | `(tactic| walk_at "step") => `(tactic| (with_reducible refine iTruI ?_))
local macro_rules | `(tactic| walk_at "step") => `(tactic| (with_reducible refine iNotN ?_))
local macro_rules | `(tactic| walk_at "step") => `(tactic| (with_reducible refine iIsN ?_))
local macro_rules | `(tactic| walk_at "step") => `(tactic| (with_reducible refine iRetN ?_))
local macro_rules | `(tactic| walk_at "step") => `(tactic| (with_reducible refine iU ?_))
local macro_rules | `(tactic| walk_at "step") => `(tactic| (with_reducible refine iUn ?_))
local macro_rules | `(tactic| walk_at "step") => `(tactic| (with_reducible refine iChain ?_))
local macro_rules | `(tactic| walk_at "step") => `(tactic| (with_reducible refine iIf ?_))
local macro_rules | `(tactic| walk_at "step") => `(tactic| (with_reducible refine iB ?_))
local macro_rules | `(tactic| walk_at "step") => `(tactic| (with_reducible refine iNot ?_))
local macro_rules | `(tactic| walk_at "step") => `(tactic| (with_reducible refine iOr ?_))
local macro_rules | `(tactic| walk_at "step") => `(tactic| (with_reducible refine iAnd ?_))
local macro_rules | `(tactic| walk_at "step") => `(tactic| (with_reducible refine iCal ?_))
local macro_rules | `(tactic| walk_at "step") => `(tactic| (with_reducible refine iRng ?_))
local macro_rules | `(tactic| walk_at "step") => `(tactic| (with_reducible refine iFor ?_))
local macro_rules | `(tactic| walk_at "step") => `(tactic| (with_reducible refine iInt ?_))
local macro_rules | `(tactic| walk_at "step") => `(tactic| (with_reducible refine iNeI ?_))
local macro_rules | `(tactic| walk_at "step") => `(tactic| (with_reducible refine iEqI ?_))
local macro_rules | `(tactic| walk_at "step") => `(tactic| (with_reducible refine iDrop ?_))
local macro_rules | `(tactic| walk_at "step") => `(tactic| (with_reducible refine iNext ?_))
local macro_rules | `(tactic| walk_at "step") => `(tactic| (with_reducible refine iRet ?_))
local macro_rules | `(tactic| walk_at "step") => `(tactic| (with_reducible refine iBl ?_))
local macro_rules | `(tactic| walk_at "step") => `(tactic| (with_reducible refine iTest ?_))
local macro_rules | `(tactic| walk_at "step") => `(tactic| (with_reducible refine iIfS ?_))
local macro_rules | `(tactic| walk_at "step") => `(tactic| (with_reducible refine iCB ?_))
local macro_rules | `(tactic| walk_at "step") => `(tactic| (with_reducible refine iNil ?_))
local macro_rules | `(tactic| walk_at "step") => `(tactic| (with_reducible refine iCons ?_))
local macro_rules | `(tactic| walk_at "step") => `(tactic| (with_reducible refine iI0 ?_))
local macro_rules | `(tactic| walk_at "step") => `(tactic| (with_reducible refine iOp ?_))
local macro_rules | `(tactic| walk_at "step") => `(tactic| (with_reducible refine iC ?_))
local macro_rules | `(tactic| walk_at "step") => `(tactic| ((with_reducible apply iVar); (· rfl)))
local macro_rules | `(tactic| walk_at "step") => `(tactic| ((with_reducible apply iName); (· repeat constructor)))
local macro_rules | `(tactic| walk_at "step") => `(tactic| (with_reducible refine iAsg ?_))
local macro_rules | `(tactic| walk_at "step") => `(tactic| (with_reducible refine iSeq ?_))
local macro_rules | `(tactic| walk_at "go") => `(tactic| (repeat walk_at "step"))
section
variable {P : Program} {w : World} {K : PySem.W.Frag} {mg : Str → Option Value} {base : Heap}
/-! ### helpers of words and draws (as in k21) -/
theorem j_lword {p : Addr} {us : List V} {S : Nat → Nat → B} {n : Nat} {H : Hp} {Q : VK} {E : XK} (h : H p = some (.lst us)) (hs : SecsAt H us S) (hl : us.length ≤ n) (hn : n ≤ 60) (q : NewW H Q (gv0 us.length S) n) : sp__law_word [.ref p, .int n] H Q E := ⟨p, us, S, n, rfl, h, hs, hl, hn, q⟩
theorem j_sameD {x y : V} {d : Dt} {m : Nat} {H : Hp} {Q : VK} {E : XK} (h1 : AtN m H x d) (h2 : AtN m H y d) (q : Q (.bl true) H) : sp__law_same (m + 1) [x, y] H Q E := ⟨x, y, d, rfl, h1, h2, q⟩
theorem WordR.secs {G : Gv} {n : Nat} {acc : List V} {H : Hp} (h : WordR G n acc H) : SecsAt H acc fun t => wordF G (pl t) := h.2
theorem AtN.up {H : Hp} {v : V} {i : Int} (n : Nat) (h : v = .int i) : AtN n H v (.int i) := by rw [AtN.int_eq]; exact h
theorem SecAt.exb {H H' : Hp} {st l : Addr} {v : V} {f : Nat → B} (D : DrawAt H st l) (e : ExB st H H') (h : SecAt H v f) : SecAt H' v f := by
  obtain ⟨p, rfl, h⟩ := h
  refine ⟨p, rfl, e p _ ?_ h⟩
  rintro rfl
  obtain ⟨ns, i, r, q, ha, _⟩ := D
  rw [ha] at h
  have h1 := HO.lst.inj (Option.some.inj h)
  have h2 := congrArg List.length h1
  rw [bl_len] at h2
  simp at h2
theorem SecsAt.exb {H H' : Hp} {st l : Addr} {vs : List V} {S : Nat → Nat → B} (D : DrawAt H st l) (e : ExB st H H') (h : SecsAt H vs S) : SecsAt H' vs S := fun t v q => (h t v q).exb D e
theorem GvAt.exb {H H' : Hp} {st l : Addr} (D : DrawAt H st l) (e : ExB st H H') : ∀ {kvs : List (Key × V)} {G : Gv}, GvAt H kvs G → GvAt H' kvs G
  | _, _, .nil => .nil
  | _, _, .cons h t => .cons ⟨h.1, h.2.exb D e⟩ (GvAt.exb D e t)
theorem SecsAt.snoc {H : Hp} {acc : List V} {S : Nat → Nat → B} {v : V} (h : SecsAt H acc S) (q : SecAt H v (S acc.length)) : SecsAt H (acc ++ [v]) S := fun t u e => by
  rcases Nat.lt_or_ge t acc.length with lt | ge
  · rw [List.getElem?_append_left lt] at e
    exact h t u e
  · rw [List.getElem?_append_right ge] at e
    have ht : t - acc.length = 0 := by
      have := (List.getElem?_eq_some_iff.mp e).1
      simp at this
      omega
    rw [ht] at e
    have e1 : v = u := by simpa using e
    rw [← e1, show t = acc.length by omega]
    exact q
/-! ### sectors drawn in a comprehension -/
def PvD (H1 : Hp) (st l : Addr) (D : Addr) (i : Nat) (acc : List V) (H' : Hp) : Prop := ExB st H1 H' ∧ DrawAt H' st l ∧ D ≠ st ∧ D ≠ l ∧ acc.length = i ∧ ∃ S, SecsAt (mk D (mk st H')) acc S
theorem pvD_0 {H1 : Hp} {st l D : Addr} (D2 : DrawAt H1 st l) (hD : H1 D = none) : PvD H1 st l D 0 [] (upd H1 D (.lst [])) :=
  ⟨ExB.of (Ex.new hD), D2.new hD, (D2.fresh hD).1, (D2.fresh hD).2, rfl, fun _ _ => b0, fun t v e => by simp at e⟩
theorem pvD_step {H1 H3 : Hp} {st l D : Addr} {i : Nat} {acc : List V} {E : XK} (hD : H1 D = none) (hacc : H3 D = some (.lst acc)) (hl : acc.length ≤ i) (hi : i < 1000) (hp : PvD H1 st l D i acc H3) : sp__law_sector [.ref st] H3 (kLcE D i (PvD H1 st l D)) E := by
  obtain ⟨x3, D3, n1, n2, al, S, hs⟩ := hp
  refine j_lsector D3 fun p H4 f hp x4 D4 h4 => ?_
  have hacc4 := x4 D _ n1 hacc
  have pD : p ≠ D := (ne_of_none hacc hp).symm
  have pst := (D3.fresh hp).1
  have e4 : Ex (mk D (mk st H3)) (mk D (mk st H4)) := mk_mono (exb_mk x4)
  refine iLcE hacc4 hl (by omega) ⟨(x3.trans x4).upd hD, D4.upd n1 n2, n1, n2, by rw [List.length_append, al]; rfl, fun t => if t = i then f else S t, fun t v e => ?_⟩
  have hm : mk D (mk st (upd H4 D (.lst (acc ++ [.ref p])))) = mk D (mk st H4) := by
    funext b
    by_cases hb : b = D
    · unfold mk; rw [if_pos hb, if_pos hb]
    · rw [mk_at hb, mk_at hb]
      by_cases hb2 : b = st
      · unfold mk; rw [if_pos hb2, if_pos hb2]
      · rw [mk_at hb2, mk_at hb2, upd_ne hb]
  rw [hm]
  rcases Nat.lt_or_ge t acc.length with lt | ge
  · rw [List.getElem?_append_left lt] at e
    show SecAt _ v (if t = i then f else S t)
    rw [if_neg (by omega)]
    exact (hs t v e).ex e4
  · rw [List.getElem?_append_right ge] at e
    have ht : t - acc.length = 0 := by
      have := (List.getElem?_eq_some_iff.mp e).1
      simp at this
      omega
    rw [ht] at e
    have e1 : V.ref p = v := by simpa using e
    show SecAt _ v (if t = i then f else S t)
    rw [if_pos (by omega), ← e1]
    exact ⟨p, rfl, by rw [mk_at pD, mk_at pst]; exact h4⟩
theorem pvD_done {H1 H3 : Hp} {st l D : Addr} {n : Nat} {acc : List V} (h : PvD H1 st l D n acc H3) : ExB st H1 H3 ∧ DrawAt H3 st l ∧ acc.length = n ∧ ∃ S, SecsAt H3 acc S := by
  obtain ⟨x3, D3, n1, n2, al, S, hs⟩ := h
  exact ⟨x3, D3, al, S, hs.ex fun p o h => mk_ex _ _ _ _ (mk_ex _ _ _ _ h)⟩
/-! ### cells and draws -/
theorem SecAt.updc {H : Hp} {v : V} {f : Nat → B} {pc : Addr} {xs : List V} {o : HO} (h : SecAt H v f) (hp : H pc = some (.lst xs)) (hl : xs.length ≠ 32) : SecAt (upd H pc o) v f := by
  obtain ⟨p, rfl, h⟩ := h
  refine ⟨p, rfl, (upd_ne ?_).trans h⟩
  rintro rfl
  rw [hp] at h
  have h1 := HO.lst.inj (Option.some.inj h)
  rw [h1, bl_len] at hl
  exact hl rfl
theorem CellV.updc {H : Hp} {v : V} {f : Option (Nat → B)} {pc : Addr} {xs : List V} {o : HO} (h : CellV H v f) (hp : H pc = some (.lst xs)) (hl : xs.length ≠ 32) : CellV (upd H pc o) v f := by
  cases f with
  | none => exact h
  | some f => exact SecAt.updc h hp hl
theorem CellV.exb {H H' : Hp} {st l : Addr} {v : V} {f : Option (Nat → B)} (D : DrawAt H st l) (e : ExB st H H') (h : CellV H v f) : CellV H' v f := by
  cases f with
  | none => exact h
  | some f => exact SecAt.exb D e h
theorem CellsAt.exb {H H' : Hp} {st l : Addr} {cs : List V} {c : List (Option (Nat → B))} (D : DrawAt H st l) (e : ExB st H H') (h : CellsAt H cs c) : CellsAt H' cs c := ⟨h.len, fun i v hv => (h.at_ i v hv).exb D e⟩
theorem CellsAt.setc {H : Hp} {cs : List V} {c : List (Option (Nat → B))} {pc : Addr} {m : Nat} {x : V} {o : Option (Nat → B)} (h : CellsAt H cs c) (hp : H pc = some (.lst cs)) (hl : cs.length ≠ 32) (hx : CellV H x o) : CellsAt (upd H pc (.lst (cs.set m x))) (cs.set m x) (c.set m o) := by
  refine ⟨by rw [List.length_set, List.length_set, h.len], fun i v hv => ?_⟩
  rw [List.getElem?_set] at hv
  rw [List.getD_eq_getElem?_getD, List.getElem?_set]
  by_cases e : m = i
  · subst e
    rw [if_pos rfl] at hv ⊢
    by_cases hm : m < cs.length
    · rw [if_pos hm] at hv
      rw [if_pos (by rw [← h.len]; exact hm)]
      cases hv
      exact hx.updc hp hl
    · rw [if_neg hm] at hv
      cases hv
  · rw [if_neg e] at hv ⊢
    have := h.at_ i v hv
    rw [List.getD_eq_getElem?_getD] at this
    exact this.updc hp hl
theorem bl_set (f : Nat → B) (t : Nat) (b : B) : (bl f).set t (.int b.v) = bl fun j => if j = t then b else f j := by
  refine List.ext_getElem? fun j => ?_
  rw [List.getElem?_set]
  by_cases hj : j < 32
  · rw [bl_get _ hj]
    by_cases e : t = j
    · subst e
      rw [if_pos rfl, if_pos (by rw [bl_len]; exact hj), bl_get _ hj]
      show some (V.int b.v) = some (V.int (if t = t then b else f t).v)
      rw [if_pos rfl]
    · rw [if_neg e, bl_get _ hj]
      show some (V.int (f j).v) = some (V.int (if j = t then b else f j).v)
      rw [if_neg fun z => e z.symm]
  · have h1 : (bl fun j => if j = t then b else f j)[j]? = none := List.getElem?_eq_none (by rw [bl_len]; omega)
    rw [h1]
    by_cases e : t = j
    · rw [if_pos e, if_neg (by rw [bl_len]; omega)]
    · rw [if_neg e, List.getElem?_eq_none (by rw [bl_len]; omega)]
theorem cells_of {H : Hp} {acc : List V} {S : Nat → Nat → B} (h : SecsAt H acc S) : CellsAt H acc ((List.range acc.length).map fun t => some (S t)) := by
  refine ⟨by rw [List.length_map, List.length_range], fun i v hv => ?_⟩
  have hi := (List.getElem?_eq_some_iff.mp hv).1
  rw [List.getD_eq_getElem?_getD, List.getElem?_map, List.getElem?_range hi]
  exact h i v hv
structure Gd (H : Hp) (st l pw po pc : Addr) (aw ao : List V) (Sw So : Nat → Nat → B) (cs : List V) (c : List (Option (Nat → B))) (H' : Hp) : Prop where
  dr : DrawAt H' st l
  ex : ExB st H H'
  hw : H' pw = some (.lst aw)
  sw : SecsAt H' aw Sw
  ho : H' po = some (.lst ao)
  so : SecsAt H' ao So
  hc : H' pc = some (.lst cs)
  cc : CellsAt H' cs c
  n1 : pw ≠ st
  n2 : po ≠ st
  n3 : pc ≠ st
theorem Gd.step {H : Hp} {st l pw po pc : Addr} {aw ao : List V} {Sw So : Nat → Nat → B} {cs : List V} {c : List (Option (Nat → B))} {H1 H2 : Hp} (g : Gd H st l pw po pc aw ao Sw So cs c H1) (x : ExB st H1 H2) (D : DrawAt H2 st l) : Gd H st l pw po pc aw ao Sw So cs c H2 :=
  ⟨D, g.ex.trans x, x _ _ g.n1 g.hw, g.sw.exb g.dr x, x _ _ g.n2 g.ho, g.so.exb g.dr x, x _ _ g.n3 g.hc, g.cc.exb g.dr x, g.n1, g.n2, g.n3⟩
theorem Gd.set {H : Hp} {st l pw po pc : Addr} {aw ao : List V} {Sw So : Nat → Nat → B} {cs : List V} {c : List (Option (Nat → B))} {H1 : Hp} {m : Nat} {x : V} {o : Option (Nat → B)} (g : Gd H st l pw po pc aw ao Sw So cs c H1) (h0 : H pc = none) (hl : cs.length ≠ 32) (hx : CellV H1 x o) (nl : pc ≠ l) (nw : pw ≠ pc) (no : po ≠ pc) :
    Gd H st l pw po pc aw ao Sw So (cs.set m x) (c.set m o) (upd H1 pc (.lst (cs.set m x))) :=
  ⟨g.dr.upd g.n3 nl, g.ex.upd h0, (upd_ne nw).trans g.hw, fun t v e => (g.sw t v e).updc g.hc hl, (upd_ne no).trans g.ho, fun t v e => (g.so t v e).updc g.hc hl, upd_same, g.cc.setc g.hc hl hx, g.n1, g.n2, g.n3⟩
def sp_cells : Sp := fun vs H Q _ => ∃ (a l : Addr) (n k : Nat), vs = [.ref a, .int n, .int k] ∧ DrawAt H a l ∧ 1 ≤ k ∧ k ≤ n ∧ n ≤ 8 ∧ ∀ p H' cs c, H p = none → ExB a H H' → DrawAt H' a l → H' p = some (.lst cs) → CellsAt H' cs c → c.length = n → Q (.ref p) H'
theorem ok_cells (M : Mg mg) {f : Addr} {fd : FuncData} (F : Fun K "_law_cells" "_law_cells" s__law_cells f fd) (c__law_next : Cal P w K mg base 1 "_law_next" ["state", "limit"] sp__law_next) (c__law_sector : Cal P w K mg base 2 "_law_sector" ["state"] sp__law_sector) (c__law_word : Cal P w K mg base 5 "_law_word" ["parts", "n"] sp__law_word) : FnOk P w K mg base CX0 6 f fd ["state", "n", "k"] sp_cells := by
  refine F.ok sc__law_cells (fun vs H Q E h => ?_) (fun cdv A outer s H vs Q E hr h => ?_)
  · obtain ⟨a, l, n, k, rfl, _⟩ := h; rfl
  · obtain ⟨st, l, n, k, rfl, D0, hk, hkn, n8, q⟩ := h
    refine ⟨_, (pss_cons (ps_set (i := 4) sc__law_cells.nd rfl (Or.inl rfl) (pe_cal c__law_word (hr.mono (by omega)) (by rfl) (pa_cons (pe_lc (own := [("j", 3)]) (g := (gName 3)) (tt := tYes) (by rfl) sc__law_cells.nd (pi_range1 (by rfl) M.n_range (pa_cons (pv 2) pa_nil)) (blkOk_by (own := [("j", 3)]) (N := ["state", "n", "k", "j", "word", "other", "cells", "place", "pick", "spoilt"]) (sc := defScope s__law_cells) (by decide +kernel)) (fun _ _ _ _ _ => (pg_name (i := 3) sc__law_cells.nd rfl (Or.inl rfl))) (fun _ _ _ _ _ => pts_nil) (fun _ _ _ _ _ => (pe_cal c__law_sector (hr.mono (by omega)) (by rfl) (pa_cons (pv 0) pa_nil)))) (pa_cons (pv 1) pa_nil)))) (pss_cons (ps_set (i := 5) sc__law_cells.nd rfl (Or.inl rfl) (pe_cal c__law_word (hr.mono (by omega)) (by rfl) (pa_cons (pe_lc (own := [("j", 3)]) (g := (gName 3)) (tt := tYes) (by rfl) sc__law_cells.nd (pi_range1 (by rfl) M.n_range (pa_cons (pv 2) pa_nil)) (blkOk_by (own := [("j", 3)]) (N := ["state", "n", "k", "j", "word", "other", "cells", "place", "pick", "spoilt"]) (sc := defScope s__law_cells) (by decide +kernel)) (fun _ _ _ _ _ => (pg_name (i := 3) sc__law_cells.nd rfl (Or.inl rfl))) (fun _ _ _ _ _ => pts_nil) (fun _ _ _ _ _ => (pe_cal c__law_sector (hr.mono (by omega)) (by rfl) (pa_cons (pv 0) pa_nil)))) (pa_cons (pv 1) pa_nil)))) (Evl.pss_cut (ps_if (pt_cmpR op_eq (pe_cal c__law_next (hr.mono (by omega)) (by rfl) (pa_cons (pv 0) (pa_cons pe_int pa_nil))) pe_int (nomark _)) (pss_one (ps_set (i := 5) sc__law_cells.nd rfl (Or.inl rfl) (pe_cal c__law_word (hr.mono (by omega)) (by rfl) (pa_cons (pe_op op_cat (pe_slice sl_l (pv 4) po_none (po_some (pe_op op_sub (pv 2) pe_int))) (pe_lst (pa_cons (pe_cal c__law_sector (hr.mono (by omega)) (by rfl) (pa_cons (pv 0) pa_nil)) pa_nil))) (pa_cons (pv 1) pa_nil))))) pss_nil) (pss_cons (ps_set (i := 6) sc__law_cells.nd rfl (Or.inl rfl) (pe_callTy list_l (by rfl) M.n_list (by decide +kernel) (pa_cons (pv 4) pa_nil))) (pss_cons (ps_for PassesOwn.never rfl (pi_range1 (by rfl) M.n_range (pa_cons (pe_cal c__law_next (hr.mono (by omega)) (by rfl) (pa_cons (pv 0) (pa_cons (pe_op op_add (pv 1) pe_int) pa_nil))) pa_nil)) (pg_name (i := 3) sc__law_cells.nd rfl (Or.inl rfl)) (pss_cons (ps_set (i := 7) sc__law_cells.nd rfl (Or.inl rfl) (pe_cal c__law_next (hr.mono (by omega)) (by rfl) (pa_cons (pv 0) (pa_cons (pv 1) pa_nil)))) (pss_cons (ps_set (i := 8) sc__law_cells.nd rfl (Or.inl rfl) (pe_cal c__law_next (hr.mono (by omega)) (by rfl) (pa_cons (pv 0) (pa_cons pe_int pa_nil)))) (pss_cons (ps_set (i := 9) sc__law_cells.nd rfl (Or.inl rfl) (pe_callTy list_l (by rfl) M.n_list (by decide +kernel) (pa_cons (pe_ix ix_l (pv 4) (pv 7) (fun _ _ => rfl)) pa_nil))) (pss_cons (ps_asg (pe_cal c__law_next (hr.mono (by omega)) (by rfl) (pa_cons (pv 0) (pa_cons pe_int pa_nil))) (pg_sub (pv 9) (pe_cal c__law_next (hr.mono (by omega)) (by rfl) (pa_cons (pv 0) (pa_cons pe_int pa_nil))) set_list)) (pss_one (ps_asg (pe_ix ix_l (pe_lst (pa_cons pe_non (pa_cons pe_non (pa_cons (pe_ix ix_l (pv 5) (pv 7) (fun _ _ => rfl)) (pa_cons (pe_ix ix_l (pv 5) (pv 7) (fun _ _ => rfl)) (pa_cons (pv 9) (pa_cons (pe_cal c__law_sector (hr.mono (by omega)) (by rfl) (pa_cons (pv 0) pa_nil)) pa_nil))))))) (pv 8) (fun _ _ => rfl)) (pg_sub (pv 6) (pv 7) set_list)))))))) (pss_one (ps_ret (pv 6)))))))), ?_⟩
    refine iBody (by repeat constructor) ?_
    walk_at "go"
    refine lc_r0 (by repeat constructor) (PvD H st l) (fun D hD => pvD_0 D0 hD) (fun D i acc H3 hD hi hacc hl hp => ?_) (fun D acc H3 hD hacc hl hp => ?_)
    · walk_at "go"
      exact pvD_step hD hacc hl (by omega) hp
    · obtain ⟨x1, D1, al, S, hs⟩ := pvD_done hp
      rw [Int.toNat_natCast] at al
      walk_at "go"
      refine j_lword hacc hs (by omega) (by omega) fun pw H4 accw hpw0 e4 hw hW => ?_
      have D2 := D1.ex e4
      have x2 : ExB st H H4 := x1.trans (ExB.of e4)
      walk_at "go"
      refine lc_r0 (by repeat constructor) (PvD H4 st l) (fun D hD => pvD_0 D2 hD) (fun D i acc H3 hD hi hacc hl hp => ?_) (fun D2' acc2 H5 hD2 hacc2 hl2 hp2 => ?_)
      · walk_at "go"
        exact pvD_step hD hacc hl (by omega) hp
      · obtain ⟨x3, D3, al2, S2, hs2⟩ := pvD_done hp2
        rw [Int.toNat_natCast] at al2
        walk_at "go"
        refine j_lword hacc2 hs2 (by omega) (by omega) fun po H6 acco hpo0 e6 ho hO => ?_
        have D4 := D3.ex e6
        have x4 : ExB st H4 H6 := x3.trans (ExB.of e6)
        have pwst : pw ≠ st := (D1.fresh hpw0).1
        have hw6 := x4 _ _ pwst hw
        have sw6 : SecsAt H6 accw fun t => wordF (gv0 acc.length S) (pl t) := (hW.secs).exb D2 x4
        have post : po ≠ st := (D3.fresh hpo0).1
        refine iCut (fun σ' H' => ∃ po' acco', σ' = [some (.ref st), some (.int n), some (.int k), none, some (.ref pw), some (.ref po'), none, none, none, none] ∧ ExB st H6 H' ∧ DrawAt H' st l ∧ H' po' = some (.lst acco') ∧ acco'.length = n ∧ (∃ So, SecsAt H' acco' So) ∧ po' ≠ st) ?_ ?_
        · walk_at "go"
          refine j_next D4 (by decide) (by decide) fun v7 H7 v0 v1 D7 f7 => ?_
          have x7 := exb_fr f7
          walk_at "go"
          refine ifD (fun h1 => ?_) (fun h1 => ?_)
          · have hw7 := x7 _ _ pwst hw6
            walk_at "go"
            refine iSlL hw7 fun q1 hq1 => ?_
            rw [show (k : Int) - 1 = ((k - 1 : Nat) : Int) by omega, cut_to]
            have D8 := D7.new (o := .lst (accw.take (k - 1))) hq1
            have e8 := Ex.new (o := .lst (accw.take (k - 1))) hq1
            have a8 : (upd H7 q1 (.lst (accw.take (k - 1)))) q1 = some (.lst (accw.take (k - 1))) := upd_same
            have q1st := (D7.fresh hq1).1
            generalize upd H7 q1 (.lst (accw.take (k - 1))) = H8 at D8 e8 a8 ⊢
            walk_at "go"
            refine j_lsector D8 fun ps H9 f9 hps x9 D9 h9 => ?_
            walk_at "go"
            refine iNewL (by simp) fun q2 hq2 => ?_
            have e10 := Ex.new (o := .lst [V.ref ps]) hq2
            have D10 := D9.new (o := .lst [V.ref ps]) hq2
            have a10 := e10 _ _ (x9 _ _ q1st a8)
            have b10 : (upd H9 q2 (.lst [V.ref ps])) q2 = some (.lst [V.ref ps]) := upd_same
            have s10 := e10 _ _ h9
            have sw8 : SecsAt H8 accw fun t => wordF (gv0 acc.length S) (pl t) := (sw6.exb D4 x7).ex e8
            have sw10 := (sw8.exb D8 x9).ex e10
            generalize upd H9 q2 (.lst [V.ref ps]) = H10 at e10 D10 a10 b10 s10 sw10 ⊢
            have lw : accw.length = n := hW.1
            have lt : (accw.take (k - 1)).length = k - 1 := by rw [List.length_take]; omega
            refine iCat a10 b10 (by rw [lt]; simp; omega) fun q3 hq3 => ?_
            have e11 := Ex.new (o := .lst (accw.take (k - 1) ++ [V.ref ps])) hq3
            have D11 := D10.new (o := .lst (accw.take (k - 1) ++ [V.ref ps])) hq3
            have a11 : (upd H10 q3 (.lst (accw.take (k - 1) ++ [V.ref ps]))) q3 = some (.lst (accw.take (k - 1) ++ [V.ref ps])) := upd_same
            have s11 : SecsAt (upd H10 q3 (.lst (accw.take (k - 1) ++ [V.ref ps]))) (accw.take (k - 1) ++ [V.ref ps]) (fun t => if t = k - 1 then f9 else wordF (gv0 acc.length S) (pl t)) := by
              refine SecsAt.snoc (fun t v e => ?_) ?_
              · have ht := (List.getElem?_eq_some_iff.mp e).1
                rw [lt] at ht
                rw [List.getElem?_take_of_lt ht] at e
                show SecAt _ v (if t = k - 1 then f9 else _)
                rw [if_neg (by omega)]
                exact (sw10 t v e).ex e11
              · show SecAt _ _ (if (accw.take (k - 1)).length = k - 1 then f9 else _)
                rw [if_pos lt]
                exact ⟨ps, rfl, e11 _ _ s10⟩
            generalize upd H10 q3 (.lst (accw.take (k - 1) ++ [V.ref ps])) = H11 at e11 D11 a11 s11 ⊢
            walk_at "go"
            refine j_lword a11 s11 (by rw [List.length_append, lt]; simp; omega) (by omega) fun po2 H12 acc12 hpo2 e12 h12 hW12 => ?_
            walk_at "go"
            exact ⟨po2, acc12, rfl, ((((x7.trans (ExB.of e8)).trans x9).trans (ExB.of e10)).trans (ExB.of e11)).trans (ExB.of e12), D11.ex e12, h12, hW12.1, ⟨_, hW12.secs⟩, (D11.fresh hpo2).1⟩
          · walk_at "go"
            exact ⟨po, acco, rfl, x7, D7, x7 _ _ post ho, hO.1, ⟨_, hO.secs.exb D4 x7⟩, post⟩
        · rintro σ' H7 ⟨po', acco', rfl, x7, D7, ho7, lo7, ⟨So, so7⟩, post'⟩
          have hw7 := x7 _ _ pwst hw6
          have sw7 := sw6.exb D4 x7
          have lw : accw.length = n := hW.1
          walk_at "go"
          refine iListL hw7 fun pc hpc => ?_
          have pcf := D7.fresh hpc
          have x07 : ExB st H H7 := (x2.trans x4).trans x7
          have pc0 : H pc = none := x07.none pcf.1 hpc
          have e8 := Ex.new (o := .lst accw) hpc
          have g8 : Gd H st l pw po' pc accw acco' (fun t => wordF (gv0 acc.length S) (pl t)) So accw ((List.range accw.length).map fun t => some (wordF (gv0 acc.length S) (pl t))) (upd H7 pc (.lst accw)) :=
            ⟨D7.ex e8, x07.trans (ExB.of e8), e8 _ _ hw7, sw7.ex e8, e8 _ _ ho7, so7.ex e8, upd_same, cells_of (sw7.ex e8), pwst, post', pcf.1⟩
          have nw : pw ≠ pc := ne_of_none hw7 hpc
          have no : po' ≠ pc := ne_of_none ho7 hpc
          generalize upd H7 pc (.lst accw) = H8 at g8 ⊢
          generalize (fun t => wordF (gv0 acc.length S) (pl t)) = Sw at g8 ⊢
          walk_at "go"
          refine j_next g8.dr (by omega) (by omega) fun cn H9 cn0 cn1 D9 f9 => ?_
          have g9 := g8.step (exb_fr f9) D9
          walk_at "go"
          refine forJ_range0 (fun i σ' H' => (∃ x3 x7 x8 x9, σ' = [some (.ref st), some (.int n), some (.int k), x3, some (.ref pw), some (.ref po'), some (.ref pc), x7, x8, x9]) ∧ ∃ cs c, cs.length = n ∧ Gd H st l pw po' pc accw acco' Sw So cs c H') ⟨⟨_, _, _, _, rfl⟩, _, _, lw, g9⟩ (fun i σ' H' hi h => ?_) (fun σ' H' h => ?_)
          · obtain ⟨⟨x3, x7', x8, x9, rfl⟩, cs, c, lc, g0⟩ := h
            walk_at "go"
            refine j_next g0.dr (by omega) (by omega) fun v1 H1 v10 v11 D1 f1 => ?_
            obtain ⟨m, rfl⟩ : ∃ m : Nat, v1 = (m : Int) := ⟨v1.toNat, by omega⟩
            have g1 := g0.step (exb_fr f1) D1
            walk_at "go"
            refine j_next g1.dr (by decide) (by decide) fun v2 H2 v20 v21 D2 f2 => ?_
            obtain ⟨u, rfl⟩ : ∃ u : Nat, v2 = (u : Int) := ⟨v2.toNat, by omega⟩
            have g2 := g1.step (exb_fr f2) D2
            obtain ⟨vw, hvw⟩ : ∃ vw, accw[m]? = some vw := ⟨_, List.getElem?_eq_getElem (by omega)⟩
            obtain ⟨rw_, rfl, hrw⟩ := g2.sw m vw hvw
            walk_at "go"
            refine iIxL g2.hw ((atI_natL _ _).trans hvw) ?_
            walk_at "go"
            refine iListL hrw fun p9 hp9 => ?_
            have e3 := Ex.new (o := .lst (bl (Sw m))) hp9
            have D3 := D2.ex e3
            have h93 : (upd H2 p9 (.lst (bl (Sw m)))) p9 = some (.lst (bl (Sw m))) := upd_same
            have fr9 := D2.fresh hp9
            generalize upd H2 p9 (.lst (bl (Sw m))) = H3 at e3 D3 h93 ⊢
            walk_at "go"
            refine j_next D3 (by decide) (by decide) fun v4 H4 v40 v41 D4 f4 => ?_
            obtain ⟨y, rfl⟩ : ∃ y : Nat, v4 = (y : Int) := ⟨v4.toNat, by omega⟩
            walk_at "go"
            refine j_next D4 (by decide) (by decide) fun v5 H5 v50 v51 D5 f5 => ?_
            obtain ⟨t, rfl⟩ : ∃ t : Nat, v5 = (t : Int) := ⟨v5.toNat, by omega⟩
            have h95 : H5 p9 = some (.lst (bl (Sw m))) := by rw [f5 _ fr9.1, f4 _ fr9.1]; exact h93
            walk_at "go"
            refine iSetL h95 (k := t) (by rw [ixN_natL, bl_len, if_pos (by omega)]) ?_
            rw [show V.int (y : Int) = V.int ((pl y).v : Nat) by rw [pl_v (by omega)], bl_set]
            have x5 : ExB st H2 H5 := ((ExB.of e3).trans (exb_fr f4)).trans (exb_fr f5)
            have g6 := g2.step (x5.upd (o := .lst (bl fun j => if j = t then pl y else Sw m j)) hp9) (D5.upd fr9.1 fr9.2)
            have h96 : (upd H5 p9 (.lst (bl fun j => if j = t then pl y else Sw m j))) p9 = some (.lst (bl fun j => if j = t then pl y else Sw m j)) := upd_same
            generalize upd H5 p9 (.lst (bl fun j => if j = t then pl y else Sw m j)) = H6 at g6 h96 ⊢
            obtain ⟨vo, hvo⟩ : ∃ vo, acco'[m]? = some vo := ⟨_, List.getElem?_eq_getElem (by omega)⟩
            walk_at "go"
            refine iIxL g6.ho ((atI_natL _ _).trans hvo) ?_
            walk_at "go"
            refine iIxL g6.ho ((atI_natL _ _).trans hvo) ?_
            walk_at "go"
            refine j_lsector g6.dr fun q7 H7' f7 hq7 x7 D7' h77 => ?_
            have g7 := g6.step x7 D7'
            have h97 := x7 _ _ fr9.1 h96
            walk_at "go"
            refine iNewL (by simp) fun p8 hp8 => ?_
            have e8' := Ex.new (o := .lst [V.non, V.non, vo, vo, V.ref p9, V.ref q7]) hp8
            have g10 := g7.step (ExB.of e8') (D7'.ex e8')
            have h910 := e8' _ _ h97
            have h710 := e8' _ _ h77
            have cv : ∀ z ∈ [V.non, V.non, vo, vo, V.ref p9, V.ref q7], ∃ o, CellV (upd H7' p8 (.lst [V.non, V.non, vo, vo, V.ref p9, V.ref q7])) z o := fun z hz => by
              have hvS := g10.so m vo hvo
              simp only [List.mem_cons, List.not_mem_nil, or_false] at hz
              rcases hz with rfl | rfl | rfl | rfl | rfl | rfl
              · exact ⟨none, rfl⟩
              · exact ⟨none, rfl⟩
              · exact ⟨some _, hvS⟩
              · exact ⟨some _, hvS⟩
              · exact ⟨some _, p9, rfl, h910⟩
              · exact ⟨some _, q7, rfl, h710⟩
            obtain ⟨z, hz⟩ : ∃ z, [V.non, V.non, vo, vo, V.ref p9, V.ref q7][u]? = some z := ⟨_, List.getElem?_eq_getElem (by show u < 6; omega)⟩
            obtain ⟨o, ho⟩ := cv z (List.mem_of_getElem? hz)
            have h810 : (upd H7' p8 (.lst [V.non, V.non, vo, vo, V.ref p9, V.ref q7])) p8 = some (.lst [V.non, V.non, vo, vo, V.ref p9, V.ref q7]) := upd_same
            generalize upd H7' p8 (.lst [V.non, V.non, vo, vo, V.ref p9, V.ref q7]) = H10 at g10 ho h810 ⊢
            walk_at "go"
            refine iIxL h810 ((atI_natL _ _).trans hz) ?_
            walk_at "go"
            refine iSetL g10.hc (k := m) (by rw [ixN_natL, if_pos (by omega)]) ?_
            exact ⟨⟨_, _, _, _, rfl⟩, _, _, by rw [List.length_set, lc], g10.set pc0 (by omega) ho pcf.2 nw no⟩
          · obtain ⟨⟨x3, x7', x8, x9, rfl⟩, cs, c, lc, g0⟩ := h
            walk_at "go"
            exact q pc H' cs c pc0 g0.ex g0.dr g0.hc g0.cc (by rw [← g0.cc.len, lc])
end
end R
set_option Elab.async false
set_option linter.all false
set_option maxRecDepth 100000
set_option maxHeartbeats 4000000
namespace R
open PySem PySem.Spec L2
open Evl (Ex)
abbrev s__law_read : Stmt := topS 33
theorem sc__law_read : FnScope ["cells", "k", "s", "due", "place", "places", "given", "x"] ["cells", "k", "s", "due"] (defScope s__law_read) := ⟨rfl, rfl, rfl, by decide +kernel, rfl, by decide +kernel, by decide +kernel⟩
abbrev s__law_vote : Stmt := topS 34
theorem sc__law_vote : FnScope ["cells", "s", "cell", "read", "alike", "other"] ["cells", "s"] (defScope s__law_vote) := ⟨rfl, rfl, rfl, by decide +kernel, rfl, by decide +kernel, by decide +kernel⟩
local macro_rules | `(tactic| walk_at "ne") => `(tactic| (apply Ne.symm; apply ne_fresh; (· assumption); (· walk_at "look")))
local macro_rules | `(tactic| walk_at "ne") => `(tactic| (apply ne_fresh; (· assumption); (· walk_at "look")))
local macro_rules | `(tactic| walk_at "ne") => `(tactic| (apply Ne.symm; assumption))
local macro_rules | `(tactic| walk_at "ne") => `(tactic| assumption)
local macro_rules | `(tactic| walk_at "look") => `(tactic| (refine exAt (by assumption) ?_; walk_at "look"))
local macro_rules | `(tactic| walk_at "look") => `(tactic| (refine (upd_ne ?_).trans ?_; (· walk_at "ne"); (· walk_at "look")))
local macro_rules | `(tactic| walk_at "look") => `(tactic| exact upd_same)
local macro_rules | `(tactic| walk_at "look") => `(tactic| assumption)
local macro_rules | `(tactic| walk_at "side") => `(tactic| (exact ⟨by decide, by decide, by decide⟩))
local macro_rules | `(tactic| walk_at "side") => `(tactic| (exact ⟨by omega, by omega⟩))
local macro_rules | `(tactic| walk_at "side") => `(tactic| (show (0:Int) ≤ _; omega))
local macro_rules | `(tactic| walk_at "side") => `(tactic| (show (0:Int) < _; omega))
local macro_rules | `(tactic| walk_at "side") => `(tactic| (exact Or.inr ⟨by omega, by omega⟩))
local macro_rules | `(tactic| walk_at "side") => `(tactic| (exact Or.inl ⟨by omega, by omega⟩))
local macro_rules | `(tactic| walk_at "step") => `(tactic| ((with_reducible apply iDcT); (· rfl)))
local macro_rules | `(tactic| walk_at "step") => `(tactic| ((with_reducible apply iParI); (· repeat constructor); (· repeat constructor)))
local macro_rules | `(tactic| walk_at "step") => `(tactic| ((with_reducible apply iItT); (· walk_at "look")))
local macro_rules | `(tactic| walk_at "step") => `(tactic| ((with_reducible apply iZL); (· walk_at "look"); (· walk_at "look")))
local macro_rules | `(tactic| walk_at "step") => `(tactic| ((with_reducible apply iItL); (· walk_at "look")))
local macro_rules | `(tactic| walk_at "step") => `(tactic| ((with_reducible apply iRng2I); (· omega); (· omega); (· omega); (· omega)))
local macro_rules | `(tactic| walk_at "step") => `(tactic| ((with_reducible apply iDNi); (· walk_at "look")))
local macro_rules | `(tactic| walk_at "step") => `(tactic| ((with_reducible apply iDIi); (· walk_at "look")))
local macro_rules | `(tactic| walk_at "step") => `(tactic| ((with_reducible apply iGTup); (· walk_at "look"); (· rfl)))
local macro_rules | `(tactic| walk_at "step") => `(tactic| ((with_reducible apply iLcB); (· rfl)))
local macro_rules | `(tactic| walk_at "step") => `(tactic| ((with_reducible apply ifNn); (· omega)))
local macro_rules | `(tactic| walk_at "step") => `(tactic| ((with_reducible apply ifNp); (· omega)))
local macro_rules | `(tactic| walk_at "step") => `(tactic| ((with_reducible apply ifF); (· apply decide_eq_false; omega)))
local macro_rules | `(tactic| walk_at "step") => `(tactic| ((with_reducible apply ifT); (· apply decide_eq_true; omega)))
local macro_rules | `(tactic| walk_at "step") => `(tactic| ((with_reducible apply ifF); (· rfl)))
local macro_rules | `(tactic| walk_at "step") => `(tactic| ((with_reducible apply ifT); (· rfl)))
local macro_rules | `(tactic| walk_at "step") => `(tactic| ((with_reducible apply iLenS); (· first | exact Or.inl (by walk_at "look") | exact Or.inr (by walk_at "look"))))
local macro_rules | `(tactic| walk_at "step") => `(tactic| ((with_reducible apply iLenT); (· walk_at "look")))
local macro_rules | `(tactic| walk_at "step") => `(tactic| ((with_reducible apply iIsi); (· first | exact tyN_int | exact tyN_bl | exact tyN_non | exact tyN_str | exact tyN_lst (by walk_at "look") | exact tyN_tup (by walk_at "look")); (· (first | exact kb_NoneType_bool | exact kb_NoneType_int | exact kb_NoneType_str | exact kb_NoneType_tuple | exact kb_NoneType_list | exact kb_bool_bool | exact kb_bool_int | exact kb_bool_str | exact kb_bool_tuple | exact kb_bool_list | exact kb_int_bool | exact kb_int_int | exact kb_int_str | exact kb_int_tuple | exact kb_int_list | exact kb_str_bool | exact kb_str_int | exact kb_str_str | exact kb_str_tuple | exact kb_str_list | exact kb_tuple_bool | exact kb_tuple_int | exact kb_tuple_str | exact kb_tuple_tuple | exact kb_tuple_list | exact kb_list_bool | exact kb_list_int | exact kb_list_str | exact kb_list_tuple | exact kb_list_list))))
local macro_rules | `(tactic| walk_at "step") => `(tactic| ((with_reducible apply iIxT); (· walk_at "look"); (· rfl)))
local macro_rules | `(tactic| walk_at "step") => `(tactic| ((with_reducible apply iSetL); (· walk_at "look"); (· rfl)))
local macro_rules | `(tactic| walk_at "step") => `(tactic| ((with_reducible apply iLenL); (· walk_at "look")))
local macro_rules | `(tactic| walk_at "step") => `(tactic| ((with_reducible apply iIxL); (· walk_at "look"); (· rfl)))
local macro_rules | `(tactic| walk_at "step") => `(tactic| ((with_reducible apply iI); rotate_left; (· (first | (exact Or.inl ⟨by omega, by omega⟩) | (exact Or.inr ⟨by omega, by omega⟩) | (show (0:Int) < _; omega) | (show (0:Int) ≤ _; omega) | (exact ⟨by omega, by omega⟩) | (exact ⟨by decide, by decide, by decide⟩)))))
local macro_rules | `(tactic| walk_at "step") => `(tactic| ((with_reducible apply iAugK); (· rfl)))
local macro_rules | `(tactic| walk_at "step") => `(tactic| ((with_reducible apply iRngI); (· first | decide | omega); (· first | decide | omega)))
local macro_rules | `(tactic| walk_at "step") => `(tactic| (with_reducible refine iWPut ?_))
local macro_rules | `(tactic| walk_at "step") => `(tactic| (with_reducible refine iWGet ?_))
local macro_rules | `(tactic| walk_at "step") => `(tactic| (with_reducible refine iWNot ?_))
local macro_rules | `(tactic| walk_at "step") => `(tactic| (with_reducible refine iCombK ?_))
local macro_rules | `(tactic| walk_at "step") => `(tactic| (with_reducible refine iDc ?_))
local macro_rules | `(tactic| walk_at "step") => `(tactic| (with_reducible refine iPar ?_))
local macro_rules | `(tactic| walk_at "step") => `(tactic| (with_reducible refine iItS ?_))
local macro_rules | `(tactic| walk_at "step") => `(tactic| (with_reducible refine iIterS ?_))
local macro_rules | `(tactic| walk_at "step") => `(tactic| (with_reducible refine iIterT ?_))
local macro_rules | `(tactic| walk_at "step") => `(tactic| (with_reducible refine iZA ?_))
local macro_rules | `(tactic| walk_at "step") => `(tactic| (with_reducible refine iRg3 ?_))
local macro_rules | `(tactic| walk_at "step") => `(tactic| (with_reducible refine iRv ?_))
local macro_rules | `(tactic| walk_at "step") => `(tactic| (with_reducible refine iNoPart ?_))
local macro_rules | `(tactic| walk_at "step") => `(tactic| (with_reducible refine iPartI ?_))
local macro_rules | `(tactic| walk_at "step") => `(tactic| (with_reducible refine iPart ?_))
local macro_rules | `(tactic| walk_at "step") => `(tactic| (with_reducible refine iSl ?_))
local macro_rules | `(tactic| walk_at "step") => `(tactic| (with_reducible refine iDEa ?_))
local macro_rules | `(tactic| walk_at "step") => `(tactic| (with_reducible refine iGNil ?_))
local macro_rules | `(tactic| walk_at "step") => `(tactic| (with_reducible refine iGCons ?_))
local macro_rules | `(tactic| walk_at "step") => `(tactic| (with_reducible refine iZipK ?_))
local macro_rules | `(tactic| walk_at "step") => `(tactic| (with_reducible refine iRng2 ?_))
local macro_rules | `(tactic| walk_at "step") => `(tactic| (with_reducible refine iDPut ?_))
local macro_rules | `(tactic| walk_at "step") => `(tactic| (with_reducible refine iDNotIn ?_))
local macro_rules | `(tactic| walk_at "step") => `(tactic| (with_reducible refine iDIn ?_))
local macro_rules | `(tactic| walk_at "step") => `(tactic| (with_reducible refine iDGet ?_))
local macro_rules | `(tactic| walk_at "step") => `(tactic| (with_reducible refine iYes ?_))
local macro_rules | `(tactic| walk_at "step") => `(tactic| (with_reducible refine iLc ?_))
local macro_rules | `(tactic| walk_at "step") => `(tactic| (with_reducible refine iNeS ?_))
local macro_rules | `(tactic| walk_at "step") => `(tactic| (with_reducible refine iEqS ?_))
local macro_rules | `(tactic| walk_at "step") => `(tactic| (with_reducible refine iNeB ?_))
local macro_rules | `(tactic| walk_at "step") => `(tactic| (with_reducible refine iEqB ?_))
local macro_rules | `(tactic| walk_at "step") => `(tactic| (with_reducible refine iCont ?_))
local macro_rules | `(tactic| walk_at "step") => `(tactic| (with_reducible refine iBreak ?_))
local macro_rules | `(tactic| walk_at "step") => `(tactic| (with_reducible refine iIterL ?_))
local macro_rules | `(tactic| walk_at "step") => `(tactic| (with_reducible refine iTup ?_))
local macro_rules | `(tactic| walk_at "step") => `(tactic| (with_reducible refine iLst ?_))
local macro_rules | `(tactic| walk_at "step") => `(tactic| (with_reducible refine iSub ?_))
local macro_rules | `(tactic| walk_at "step") => `(tactic| (with_reducible refine iIpI ?_))
local macro_rules | `(tactic| walk_at "step") => `(tactic| (with_reducible refine iAugS ?_))
local macro_rules | `(tactic| walk_at "step") => `(tactic| (with_reducible refine iNotV ?_))
local macro_rules | `(tactic| walk_at "step") => `(tactic| (with_reducible refine iOrV ?_))
local macro_rules | `(tactic| walk_at "step") => `(tactic| (with_reducible refine iAndV ?_))
local macro_rules | `(tactic| walk_at "step") => `(tactic| (with_reducible refine iDGet1 ?_))
local macro_rules | `(tactic| walk_at "step") => `(tactic| (with_reducible refine iNotBl ?_))
local macro_rules | `(tactic| walk_at "step") => `(tactic| (with_reducible refine iIsB ?_))
local macro_rules | `(tactic| walk_at "step") => `(tactic| (with_reducible refine iIntB ?_))
local macro_rules | `(tactic| walk_at "step") => `(tactic| (with_reducible refine iPn ?_))
local macro_rules | `(tactic| walk_at "step") => `(tactic| (with_reducible refine iPr ?_))
local macro_rules | `(tactic| walk_at "step") => `(tactic| (with_reducible refine iRai ?_))
local macro_rules | `(tactic| walk_at "step") => `(tactic| (with_reducible refine iRev1 ?_))
local macro_rules | `(tactic| walk_at "step") => `(tactic| (with_reducible refine iBM ?_))
local macro_rules | `(tactic| walk_at "step") => `(tactic| (with_reducible refine iAugF ?_))
local macro_rules | `(tactic| walk_at "step") => `(tactic| (with_reducible refine iSto ?_))
local macro_rules | `(tactic| walk_at "step") => `(tactic| (with_reducible refine iFld ?_))
local macro_rules | `(tactic| walk_at "step") => `(tactic| (with_reducible refine iMakS ?_))
local macro_rules | `(tactic| walk_at "step") => `(tactic| (with_reducible refine iMak ?_))
local macro_rules | `(tactic| walk_at "step") => `(tactic| (with_reducible refine iMet ?_))
local macro_rules | `(tactic| walk_at "step") => `(tactic| (with_reducible refine iCalE ?_))
local macro_rules | `(tactic| walk_at "step") => `(tactic| (with_reducible refine ifDr ?_))
local macro_rules | `(tactic| walk_at "step") => `(tactic| (with_reducible refine ifNDr ?_))
local macro_rules | `(tactic| walk_at "step") => `(tactic| (with_reducible refine iTruI ?_))
local macro_rules | `(tactic| walk_at "step") => `(tactic| (with_reducible refine iNotN ?_))
local macro_rules | `(tactic| walk_at "step") => `(tactic| (with_reducible refine iIsN ?_))
local macro_rules | `(tactic| walk_at "step") => `(tactic| (with_reducible refine iRetN ?_))
local macro_rules | `(tactic| walk_at "step") => `(tactic| (with_reducible refine iU ?_))
local macro_rules | `(tactic| walk_at "step") => `(tactic| (with_reducible refine iUn ?_))
local macro_rules | `(tactic| walk_at "step") => `(tactic| (with_reducible refine iChain ?_))
local macro_rules | `(tactic| walk_at "step") => `(tactic| (with_reducible refine iIf ?_))
local macro_rules | `(tactic| walk_at "step") => `(tactic| (with_reducible refine iB ?_))
local macro_rules | `(tactic| walk_at "step") => `(tactic| (with_reducible refine iNot ?_))
local macro_rules | `(tactic| walk_at "step") => `(tactic| (with_reducible refine iOr ?_))
local macro_rules | `(tactic| walk_at "step") => `(tactic| (with_reducible refine iAnd ?_))
local macro_rules | `(tactic| walk_at "step") => `(tactic| (with_reducible refine iCal ?_))
local macro_rules | `(tactic| walk_at "step") => `(tactic| (with_reducible refine iRng ?_))
local macro_rules | `(tactic| walk_at "step") => `(tactic| (with_reducible refine iFor ?_))
local macro_rules | `(tactic| walk_at "step") => `(tactic| (with_reducible refine iInt ?_))
local macro_rules | `(tactic| walk_at "step") => `(tactic| (with_reducible refine iNeI ?_))
local macro_rules | `(tactic| walk_at "step") => `(tactic| (with_reducible refine iEqI ?_))
local macro_rules | `(tactic| walk_at "step") => `(tactic| (with_reducible refine iDrop ?_))
local macro_rules | `(tactic| walk_at "step") => `(tactic| (with_reducible refine iNext ?_))
local macro_rules | `(tactic| walk_at "step") => `(tactic| (with_reducible refine iRet ?_))
local macro_rules | `(tactic| walk_at "step") => `(tactic| (with_reducible refine iBl ?_))
local macro_rules | `(tactic| walk_at "step") => `(tactic| (with_reducible refine iTest ?_))
local macro_rules | `(tactic| walk_at "step") => `(tactic| (with_reducible refine iIfS ?_))
local macro_rules | `(tactic| walk_at "step") => `(tactic| (with_reducible refine iCB ?_))
local macro_rules | `(tactic| walk_at "step") => `(tactic| (with_reducible refine iNil ?_))
local macro_rules | `(tactic| walk_at "step") => `(tactic| (with_reducible refine iCons ?_))
local macro_rules | `(tactic| walk_at "step") => `(tactic| (with_reducible refine iI0 ?_))
local macro_rules | `(tactic| walk_at "step") => `(tactic| (with_reducible refine iOp ?_))
local macro_rules | `(tactic| walk_at "step") => `(tactic| (with_reducible refine iC ?_))
local macro_rules | `(tactic| walk_at "step") => `(tactic| ((with_reducible apply iVar); (· rfl)))
local macro_rules | `(tactic| walk_at "step") => `(tactic| ((with_reducible apply iName); (· repeat constructor)))
local macro_rules | `(tactic| walk_at "step") => `(tactic| (with_reducible refine iAsg ?_))
local macro_rules | `(tactic| walk_at "step") => `(tactic| (with_reducible refine iSeq ?_))
local macro_rules | `(tactic| walk_at "go") => `(tactic| (repeat walk_at "step"))
section
variable {P : Program} {w : World} {K : PySem.W.Frag} {mg : Str → Option Value} {base : Heap}
/-! ### the law's reading and vote -/
theorem inV_bls : ∀ bs : List Bool, inV (.bl false) (bs.map V.bl) = !(bs.all id)
  | [] => rfl
  | b :: bs => by
    have ih := inV_bls bs
    unfold inV at ih ⊢
    rw [List.map_cons, List.any_cons, ih, List.all_cons]
    cases b
    · rfl
    · show (eqV (.bl true) (.bl false) || !bs.all id) = !(true && bs.all id)
      rw [show eqV (V.bl true) (V.bl false) = false from rfl]
      simp
theorem flat_bls (bs : List Bool) : (bs.map V.bl).all flatV = true := by
  rw [List.all_map]
  exact List.all_eq_true.mpr fun _ _ => rfl
theorem iNotInBl {H : Hp} {Q : VK} {p : Addr} {bs : List Bool} (h : H p = some (.lst (bs.map V.bl))) (q : Q (.bl (bs.all id)) H) : kIn true (.bl false) (.ref p) H Q := by
  refine ⟨p, bs.map V.bl, rfl, .inl h, rfl, flat_bls bs, ?_⟩
  rw [inV_bls]
  simpa using q
theorem j_lsector_atN {m : Nat} {d : Addr} {kvs : List (Key × V)} {G : Gv} {H : Hp} {Q : VK} {E : XK} (hm : m < 256) (h : H d = some (.dK kvs)) (hG : GvAt H kvs G) (nd : (G.map (·.1)).Nodup) (srt : ((G.map (·.1)).map fun b => (b.v : Int)).Pairwise (· ≤ ·)) (hl : G.length ≤ 60) (q : NewL H Q (bl (wordF G (pl m)))) : sp__law_sector_at [.int (m : Int), .ref d] H Q E := by
  have z := j_lsector_at (x := pl m) (E := E) h hG nd srt hl q
  rwa [pl_v hm] at z
def sp_lread : Sp := fun vs H Q _ => ∃ (p : Addr) (cs : List V) (c : List (Option (Nat → B))) (k s : Nat) (due : V) (A : Option (Nat → Nat → B)), vs = [.ref p, .int k, .int s, due] ∧ H p = some (.lst cs) ∧ CellsAt H cs c ∧ c.length ≤ 8 ∧ 1 ≤ k ∧ 1 ≤ s ∧ ResAt H due c.length A ∧
  ∀ t H' v, Ex H H' → H' t = some (.tup [v, .int ((readW c k s A).2 : Nat)]) → ResAt H' v c.length (readW c k s A).1 → Q (.ref t) H'
theorem ok_lread (M : Mg mg) {f : Addr} {fd : FuncData} (F : Fun K "_law_read" "_law_read" s__law_read f fd) (c__law_sector_at : Cal P w K mg base 4 "_law_sector_at" ["x", "given"] sp__law_sector_at) : FnOk P w K mg base CX0 5 f fd ["cells", "k", "s", "due"] sp_lread := by
  refine F.ok sc__law_read (fun vs H Q E h => ?_) (fun cdv A outer s H vs Q E hr h => ?_)
  · obtain ⟨p, cs, c, k, s, due, A, rfl, _⟩ := h; rfl
  · obtain ⟨p, cs, c, k, s', due, RA, rfl, hp, hc, h8, hk, hs, hA, q⟩ := h
    refine ⟨_, (pss_cons (ps_set (i := 5) sc__law_read.nd rfl (Or.inl rfl) (pe_slice sl_l (pe_lc (own := [("place", 4)]) (g := (gName 4)) (tt := _) (by rfl) sc__law_read.nd (pi_range1 (by rfl) M.n_range (pa_cons (pe_callB len_l (by rfl) M.n_len PySem.boot_len (pa_cons (pv 0) pa_nil)) pa_nil)) (blkOk_by (own := [("place", 4)]) (N := ["cells", "k", "s", "due", "place", "places", "given", "x"]) (sc := defScope s__law_read) (by decide +kernel)) (fun _ _ _ _ _ => (pg_name (i := 4) sc__law_read.nd rfl (Or.inl rfl))) (fun _ _ _ _ _ => (pts_one (pt_cmpR op_notN1 (pe_ix ix_l (pv 0) (pv 4) (fun _ _ => rfl)) pe_non (nomark _)))) (fun _ _ _ _ _ => (pv 4))) po_none (po_some (pe_op op_add (pv 1) (pv 2))))) (pss_cons (ps_if (pt_cmpR op_eq (pe_callB len_l (by rfl) M.n_len PySem.boot_len (pa_cons (pv 5) pa_nil)) (pe_op op_add (pv 1) (pv 2)) (nomark _)) (pss_cons (ps_set (i := 6) sc__law_read.nd rfl (Or.inr rfl) pe_dnewK) (pss_cons (ps_for PassesOwn.never rfl (pi_l (pe_slice sl_l (pv 5) po_none (po_some (pv 1)))) (pg_name (i := 4) sc__law_read.nd rfl (Or.inl rfl)) (pss_one (ps_dput (hu_of hr) (pv 6) (pv 4) (pe_ix ix_l (pv 0) (pv 4) (fun _ _ => rfl)) rfl))) (pss_one (ps_if (pt_cmpR op_ninS pe_bl (pe_lc (own := [("place", 4)]) (g := (gName 4)) (tt := tYes) (by rfl) sc__law_read.nd (pi_l (pe_slice sl_l (pv 5) (po_some (pv 1)) po_none)) (blkOk_by (own := [("place", 4)]) (N := ["cells", "k", "s", "due", "place", "places", "given", "x"]) (sc := defScope s__law_read) (by decide +kernel)) (fun _ _ _ _ _ => (pg_name (i := 4) sc__law_read.nd rfl (Or.inl rfl))) (fun _ _ _ _ _ => pts_nil) (fun _ _ _ _ _ => (pe_cmpR (op_eqDK (K := K) rfl hr.units) (pe_cal c__law_sector_at (hr.mono (by omega)) (by rfl) (pa_cons (pv 4) (pa_cons (pv 6) pa_nil))) (pe_ix ix_l (pv 0) (pv 4) (fun _ _ => rfl)) (nomark _)))) rfl) (pss_one (ps_ret (pe_tup (pa_cons (pe_lc (own := [("x", 7)]) (g := (gName 7)) (tt := tYes) (by rfl) sc__law_read.nd (pi_range1 (by rfl) M.n_range (pa_cons (pe_callB len_l (by rfl) M.n_len PySem.boot_len (pa_cons (pv 0) pa_nil)) pa_nil)) (blkOk_by (own := [("x", 7)]) (N := ["cells", "k", "s", "due", "place", "places", "given", "x"]) (sc := defScope s__law_read) (by decide +kernel)) (fun _ _ _ _ _ => (pg_name (i := 7) sc__law_read.nd rfl (Or.inl rfl))) (fun _ _ _ _ _ => pts_nil) (fun _ _ _ _ _ => (pe_cal c__law_sector_at (hr.mono (by omega)) (by rfl) (pa_cons (pv 7) (pa_cons (pv 6) pa_nil))))) (pa_cons (pe_op op_add pe_int (pe_ix ix_l (pv 5) (pe_op op_sub (pe_callB len_l (by rfl) M.n_len PySem.boot_len (pa_cons (pv 5) pa_nil)) pe_int) (fun _ _ => rfl))) pa_nil))))) pss_nil)))) pss_nil) (pss_one (ps_ret (pe_tup (pa_cons (pv 3) (pa_cons (pe_callB len_l (by rfl) M.n_len PySem.boot_len (pa_cons (pv 0) pa_nil)) pa_nil))))))), ?_⟩
    refine iBody (by repeat constructor) ?_
    have len := hc.len
    have rl := rp_len c
    walk_at "go"
    rw [len, Int.toNat_natCast]
    refine lcR_r0 (fun i acc _ => acc = nsV ((List.range i).filter (has c))) (by repeat constructor) (fun _ _ _ _ _ h => h) (by simp [nsV]) (fun D i acc H2 hD hi hacc hl e2 r => ?_) (fun D acc H2 hD e2 hacc r => ?_)
    · have hp2 := e2 _ _ hp
      have hc2 := hc.ex e2
      cases hh : has c i with
      | true =>
        obtain ⟨z, hr1, hr2⟩ := hc2.sec hh
        walk_at "go"
        refine iIxL hp2 ((atI_natL _ _).trans hr1) ?_
        walk_at "go"
        refine iLcR hD (by omega) hl e2 hacc ?_
        show _ = _
        rw [List.range_succ, List.filter_append, r]
        simp [nsV, List.filter_cons, hh]
      | false =>
        walk_at "go"
        refine iIxL hp2 ((atI_natL _ _).trans (hc2.no hi hh)) ?_
        walk_at "go"
        refine iLcN hacc hl ⟨e2, ?_⟩
        show acc = _
        rw [List.range_succ, List.filter_append, r]
        simp [nsV, List.filter_cons, hh]
    · rw [r] at hacc
      walk_at "go"
      rw [show (k : Int) + (s' : Int) = ((k + s' : Nat) : Int) by omega]
      refine iSlL hacc fun q0 hq0 => ?_
      rw [cut_to, nsV_take]
      have sL : (((List.range c.length).filter (has c)).take (k + s')).Sublist (rp c) := rdP_sub c (k + s')
      have hLL : rdP c (k + s') c.length = ((List.range c.length).filter (has c)).take (k + s') := rfl
      have hall := all_drop (c := c) (m := k + s') (k := k) (by omega)
      rw [hLL] at hall
      have e3 := e2.trans (Ex.new (o := .lst (nsV (((List.range c.length).filter (has c)).take (k + s')))) hq0)
      have hq3 : (upd H2 q0 (.lst (nsV (((List.range c.length).filter (has c)).take (k + s'))))) q0 = some (.lst (nsV (((List.range c.length).filter (has c)).take (k + s')))) := upd_same
      generalize ((List.range c.length).filter (has c)).take (k + s') = L at sL hLL hall e3 hq3 ⊢
      generalize upd H2 q0 (.lst (nsV L)) = H3 at e3 hq3 ⊢
      have hp3 := e3 _ _ hp
      have hc3 := hc.ex e3
      have rest : ∀ H4, Ex H H4 → readW c k s' RA = (RA, c.length) → kNewT Q [due, V.int (cs.length : Nat)] H4 := fun H4 e4 er => by
        rw [len]
        refine iNewT (by simp) fun t ht => ?_
        refine q t _ due (e4.trans (Ex.new ht)) (by rw [er]; exact upd_same) ?_
        rw [er]
        exact (hA.ex e4).ex (Ex.new ht)
      have rl2 := sL.length_le
      walk_at "go"
      rw [nsV_len]
      refine ifD (fun h1 => ?_) (fun h1 => ?_)
      · have hL : L.length = k + s' := by omega
        walk_at "go"
        refine iDNew fun D2 hD2 => ?_
        have pv0 := pvG_0 (c := c) (row := L.take k) hD2
        have hq4 := (Ex.new (o := .dK []) hD2) _ _ hq3
        walk_at "go"
        refine iSlL hq4 fun q1 hq1 => ?_
        rw [cut_to, nsV_take]
        have sr : (L.take k).Sublist (rp c) := (List.take_sublist _ _).trans sL
        have ndr := sub_nodup sr (rp_nd c)
        have lr : (L.take k).length = k := by rw [List.length_take]; omega
        generalize hrow : L.take k = row at sr ndr lr pv0 hq1 hall ⊢
        have a5 : (upd (upd H3 D2 (.dK [])) q1 (.lst (nsV row))) q1 = some (.lst (nsV row)) := upd_same
        have pv1 : PvG c row H3 D2 0 (upd (upd H3 D2 (.dK [])) q1 (.lst (nsV row))) := by
          obtain ⟨x1, kv, x2, x3, x4⟩ := pv0
          exact ⟨x1.trans (Ex.new hq1), kv, (Ex.new hq1) _ _ x2, x3, x4.ex (Ex.new hq1)⟩
        have q1n : q1 ≠ D2 := (ne_of_none (show (upd H3 D2 (.dK [])) D2 = _ from upd_same) hq1).symm
        generalize upd (upd H3 D2 (.dK [])) q1 (.lst (nsV row)) = H5 at a5 pv1 ⊢
        walk_at "go"
        refine forJ_list (nsV row) (fun j σ'' H'' => (∃ x4, σ'' = [some (.ref p), some (.int k), some (.int s'), some due, x4, some (.ref q0), some (.ref D2), none]) ∧ PvG c row H3 D2 j H'' ∧ H'' q1 = some (.lst (nsV row))) ⟨⟨_, rfl⟩, pv1, a5⟩ (fun j σ'' H'' _ h => h.2.2) (fun j y σ'' H'' hy h => ?_) (fun σ'' H'' h => ?_)
        · obtain ⟨⟨y5, rfl⟩, pv, aq⟩ := h
          obtain ⟨m, hm, rfl⟩ := nsV_get hy
          obtain ⟨z, hr1, hr2⟩ := hc3.sec (rp_has (sr.subset (List.mem_of_getElem? hm)))
          obtain ⟨kvs, k1, k2, k3⟩ := pvG_put hD2 pv hm (pv.1 _ _ hr2) ndr (fun x hx => by have := rp_lt (sr.subset hx); omega)
          have jl := (List.getElem?_eq_some_iff.mp hm).1
          walk_at "go"
          refine iIxL (pv.1 _ _ hp3) ((atI_natL _ _).trans hr1) ?_
          walk_at "go"
          refine iDPi k1 (by omega) ?_
          exact ⟨⟨_, rfl⟩, k3, (upd_ne q1n).trans aq⟩
        · obtain ⟨⟨y5, rfl⟩, pv, aq⟩ := h
          rw [nsV_len] at pv
          obtain ⟨e9, kvs, hk9, hG9⟩ := pvG_done pv
          have e09 := e3.trans e9
          have hp9 := e9 _ _ hp3
          have hq9 := e9 _ _ hq3
          have hc9 := hc3.ex e9
          have srt9 := List.Pairwise.sublist sr (rp_srt c)
          have gnd := gvL_nd (F := cF c) ndr fun m hm => by have := rp_lt (sr.subset hm); omega
          have gst := gvL_srt (F := cF c) srt9 fun m hm => by have := rp_lt (sr.subset hm); omega
          have gl : (gvL (cF c) row).length ≤ 60 := by unfold gvL; rw [List.length_map]; omega
          walk_at "go"
          refine iSlL hq9 fun q2 hq2 => ?_
          rw [cut_from, nsV_drop]
          have e10 := Ex.new (o := .lst (nsV (L.drop k))) hq2
          have a10 : (upd H'' q2 (.lst (nsV (L.drop k)))) q2 = some (.lst (nsV (L.drop k))) := upd_same
          generalize upd H'' q2 (.lst (nsV (L.drop k))) = H10 at e10 a10 ⊢
          have e010 := e09.trans e10
          have hp10 := e10 _ _ hp9
          have hc10 := hc9.ex e10
          have hq10 := e10 _ _ hq9
          have hk10 := e10 _ _ hk9
          have hG10 := hG9.ex e10
          walk_at "go"
          refine lcF_l (nsV (L.drop k)) (fun i => V.bl (eqS (codeW (cF c) row ((L.drop k).getD i 0)) (cF c ((L.drop k).getD i 0)))) (by repeat constructor) a10 (fun D i x H6 hD hx hacc6 e8 => ?_) (fun D H6 hD e8 hacc6 => ?_)
          · obtain ⟨m, hm, rfl⟩ := nsV_get hx
            have hmc := sL.subset ((List.drop_sublist k L).subset (List.mem_of_getElem? hm))
            obtain ⟨r, hr1, hr2⟩ := hc10.sec (rp_has hmc)
            have hml := rp_lt hmc
            have il := (List.getElem?_eq_some_iff.mp hm).1
            rw [List.length_drop] at il
            have hp6 := e8 _ _ hp10
            walk_at "go"
            refine j_lsector_atN (by omega) (e8 _ _ hk10) (hG10.ex e8) gnd gst gl fun p3 H7 hp3' e11 h11 => ?_
            have hp7 := e11 _ _ hp6
            walk_at "go"
            refine iIxL hp7 ((atI_natL _ _).trans hr1) ?_
            walk_at "go"
            refine iEqSec h11 (e11 _ _ (e8 _ _ hr2)) ?_
            refine iLcF hD (by omega) (e8.trans e11) (e11 _ _ hacc6) ?_
            rw [List.getD_eq_getElem?_getD, hm]
            have ecw : eqS (wordF (gvL (cF c) row) (pl m)) (cF c m) = eqS (codeW (cF c) row m) (cF c m) := eqS_congr fun t _ => codeW_gvL (cF c) row m t
            rw [ecw]
            rfl
          · rw [nsV_len] at hacc6
            have eb : ∀ (M : List Nat) (g : Nat → Bool), (List.range M.length).map (fun i => V.bl (g (M.getD i 0))) = (M.map g).map V.bl := fun M g => by
              have z := congrArg (List.map (fun x => V.bl (g x))) (list_getD M)
              rw [List.map_map] at z
              rw [List.map_map]
              exact z.symm
            rw [eb _ fun x => eqS (codeW (cF c) row x) (cF c x)] at hacc6
            have hq6 := e8 _ _ hq10
            have hp6 := e8 _ _ hp10
            have hk6 := e8 _ _ hk10
            have hG6 := hG10.ex e8
            have e06 := e010.trans e8
            walk_at "go"
            refine iNotInBl hacc6 ?_
            have ea : (((L.drop k).map fun x => eqS (codeW (cF c) row x) (cF c x)).all id) = (L.all fun x => eqS (codeW (cF c) row x) (cF c x)) := by rw [List.all_map, hall]; rfl
            rw [ea]
            cases hal : (L.all fun x => eqS (codeW (cF c) row x) (cF c x)) with
            | true =>
              have er : readW c k s' RA = (some (codeW (cF c) row), 1 + L.getD (k + s' - 1) 0) := by
                unfold readW
                rw [hLL, hrow, if_pos ⟨hL, hal⟩]
              walk_at "go"
              rw [len, Int.toNat_natCast]
              refine lcR_r0 (fun i acc H' => WordR (gvL (cF c) row) i acc H') (by repeat constructor) (fun i acc H1 H2 e h => WordR.mono _ _ _ _ e h) ⟨rfl, fun t v e => by simp at e⟩ (fun D3 i3 acc3 H11 hD3 hi3 hacc3 hl3 e11 rr => ?_) (fun D3 acc3 H11 hD3 e11 hacc3 rr => ?_)
              · walk_at "go"
                rw [show V.int (i3 : Int) = V.int ((pl i3).v : Nat) by rw [pl_v (by omega)]]
                refine j_lsector_at (e11 _ _ hk6) (hG6.ex e11) gnd gst gl fun p3 H12 hp3' e12 h12 => ?_
                have nD : p3 ≠ D3 := (ne_of_none hacc3 hp3').symm
                refine iLcR hD3 (by omega) hl3 (e11.trans e12) (e12 _ _ hacc3) ?_
                exact (WordR.mono _ _ _ _ (mk_mono e12) rr).snoc ⟨p3, rfl, (mk_at nD).trans h12⟩
              · obtain ⟨la, sa⟩ := rr.res
                have hq11 := e11 _ _ hq6
                walk_at "go"
                rw [nsV_len, hL]
                rw [show ((k + s' : Nat) : Int) - 1 = ((k + s' - 1 : Nat) : Int) by omega]
                refine iIxL hq11 (v := .int (L.getD (k + s' - 1) 0 : Nat)) ?_ ?_
                · rw [atI_natL]
                  unfold nsV
                  rw [List.getElem?_map, List.getD_eq_getElem?_getD, List.getElem?_eq_getElem (by omega)]
                  rfl
                walk_at "go"
                refine iNewT (by simp) fun t ht => ?_
                refine q t _ (.ref D3) ((e06.trans e11).trans (Ex.new ht)) ?_ ?_
                · rw [er, upd_same]
                  show some (HO.tup [V.ref D3, V.int (1 + (L.getD (k + s' - 1) 0 : Nat))]) = some (HO.tup [V.ref D3, V.int ((1 + L.getD (k + s' - 1) 0 : Nat) : Int)])
                  rw [show (1 : Int) + ((L.getD (k + s' - 1) 0 : Nat) : Int) = ((1 + L.getD (k + s' - 1) 0 : Nat) : Int) by omega]
                · rw [er]
                  exact ⟨D3, acc3, rfl, (Ex.new ht) _ _ hacc3, la, sa.ex (Ex.new ht)⟩
            | false =>
              walk_at "go"
              refine rest H6 e06 ?_
              unfold readW
              rw [hLL, hrow, if_neg (by rintro ⟨_, z⟩; rw [hal] at z; cases z)]
      · walk_at "go"
        refine rest H3 e3 ?_
        unfold readW
        rw [hLL, if_neg (by rintro ⟨z, _⟩; omega)]
def sp_lvote : Sp := fun vs H Q _ => ∃ (p : Addr) (cs : List V) (c : List (Option (Nat → B))) (s : Nat), vs = [.ref p, .int s] ∧ H p = some (.lst cs) ∧ CellsAt H cs c ∧ c.length ≤ 8 ∧
  ∀ v H', Ex H H' → VoteAt H' v (voteW (rdl c c.length) s) → Q v H'
theorem ok_lvote (M : Mg mg) {f : Addr} {fd : FuncData} (F : Fun K "_law_vote" "_law_vote" s__law_vote f fd) : FnOk P w K mg base CX0 1 f fd ["cells", "s"] sp_lvote := by
  refine F.ok sc__law_vote (fun vs H Q E h => ?_) (fun cdv A outer s H vs Q E hr h => ?_)
  · obtain ⟨p, cs, c, s, rfl, _⟩ := h; rfl
  · obtain ⟨p, cs, c, s', rfl, hp, hc, h8, q⟩ := h
    refine ⟨_, (pss_cons (ps_setLc (i := 3) (own := [("cell", 2)]) (g := (gName 2)) (tt := _) (by rfl) sc__law_vote.nd rfl rfl (sw_true rfl rfl rfl (by decide +kernel)) (pi_l (pv 0)) (blkOk_by (own := [("cell", 2)]) (N := ["cells", "s", "cell", "read", "alike", "other"]) (sc := defScope s__law_vote) (by decide +kernel)) (fun _ _ _ _ _ => (pg_name (i := 2) sc__law_vote.nd rfl (Or.inl rfl))) (fun _ _ _ _ _ => (pts_one (pt_cmpR op_notN1 (pv 2) pe_non (nomark _)))) (fun _ _ _ _ _ => (pv 2))) (pss_cons (ps_for PassesOwn.never rfl (pi_l (pv 3)) (pg_name (i := 2) sc__law_vote.nd rfl (Or.inr rfl)) (pss_cons (ps_set (i := 4) sc__law_vote.nd rfl (Or.inl rfl) (pe_callB len_l (by rfl) M.n_len PySem.boot_len (pa_cons (pe_lc (own := [("other", 5)]) (g := (gName 5)) (tt := _) (by rfl) sc__law_vote.nd (pi_l (pv 3)) (blkOk_by (own := [("other", 5)]) (N := ["cells", "s", "cell", "read", "alike", "other"]) (sc := defScope s__law_vote) (by decide +kernel)) (fun _ _ _ _ _ => (pg_name (i := 5) sc__law_vote.nd rfl (Or.inl rfl))) (fun _ _ _ _ _ => (pts_one (pt_cmpR (op_eqDK (K := K) rfl hr.units) (pv 5) (pv 2) (nomark _)))) (fun _ _ _ _ _ => (pv 5))) pa_nil))) (pss_one (ps_if (PW.pt (pw_and (pt_cmpR op_gt (pv 4) (pv 1) (nomark _)) (pw_and1 (pt_cmpR op_le (pe_op op_sub (pe_callB len_l (by rfl) M.n_len PySem.boot_len (pa_cons (pv 3) pa_nil)) (pv 4)) (pv 1) (nomark _))))) (pss_one (ps_ret (pv 2))) pss_nil)))) (pss_one (ps_ret pe_non)))), ?_⟩
    refine iBody (by repeat constructor) ?_
    walk_at "go"
    have len := hc.len
    refine lcR_l cs (fun i acc H' => SecL H' acc (rdl c i)) (by repeat constructor) hp (fun _ _ _ _ e h => h.ex e) .nil (fun D i acc x H2 hD hx hacc hl e2 hA => ?_) (fun D acc H2 hD e2 hacc hA => ?_)
    · have hi := (List.getElem?_eq_some_iff.mp hx).1
      have hcx := hc.at_ i x hx
      have st := rdl_succ (c := c) (i := i) (by omega)
      cases eo : c.getD i none with
      | none =>
        rw [eo] at hcx st
        cases (show x = V.non from hcx)
        walk_at "go"
        refine iLcN hacc hl ⟨e2, ?_⟩
        show SecL _ _ _
        rw [st]
        simpa using hA
      | some f =>
        rw [eo] at hcx st
        obtain ⟨r, rfl, hr⟩ := hcx
        walk_at "go"
        refine iLcR hD (by omega) hl e2 hacc ?_
        show SecL _ _ _
        rw [st]
        exact hA.snoc ⟨r, rfl, by rw [mk_at (ne_of_none hr hD)]; exact e2 _ _ hr⟩
    · rw [len] at hA
      have al := hA.len
      have rl := rdl_le c c.length
      generalize rdl c c.length = rd at hA al rl q
      walk_at "go"
      refine forJ_list acc (fun i σ' H' => (∃ x y, σ' = [some (.ref p), some (.int s'), x, some (.ref D), y, none]) ∧ Ex H2 H' ∧ ∀ (j : Nat) f, j < i → rd[j]? = some f → decide (s' < cnt rd f ∧ rd.length ≤ cnt rd f + s') = false) ⟨⟨_, _, rfl⟩, Ex.rfl' _, fun j f hj => absurd hj (Nat.not_lt_zero _)⟩ (fun i σ' H' _ h => h.2.1 _ _ hacc) (fun i x σ' H' hx h => ?_) (fun σ' H' h => ?_)
      · obtain ⟨⟨y1, y2, rfl⟩, e3, hno⟩ := h
        obtain ⟨f, hf, r, rfl, hr⟩ := hA.get hx
        have hacc3 := e3 _ _ hacc
        have cl := cnt_le rd f
        walk_at "go"
        refine lcR_l acc (fun j ac _ => ac.length = ((rd.take j).filter fun g => eqS g f).length) (by repeat constructor) hacc3 (fun _ _ _ _ _ h => h) rfl (fun D5 j ac x H5 hD5 hx5 hac hl5 e5 hA5 => ?_) (fun D5 ac H5 hD5 e5 hac hA5 => ?_)
        · obtain ⟨g, hg, r5, rfl, hr5⟩ := hA.get hx5
          have jl := (List.getElem?_eq_some_iff.mp hx5).1
          have stp : ((rd.take (j + 1)).filter fun g => eqS g f).length = ((rd.take j).filter fun g => eqS g f).length + ([g].filter fun g => eqS g f).length := by rw [List.take_succ, hg, List.filter_append, List.length_append]; rfl
          walk_at "go"
          refine iEqSec (e5 _ _ (e3 _ _ hr5)) (e5 _ _ (e3 _ _ hr)) ?_
          cases eb : eqS g f with
          | true =>
            walk_at "go"
            refine iLcR hD5 (by omega) hl5 e5 hac ?_
            show _ = _
            rw [stp, List.length_append, hA5, List.filter_cons, eb]
            rfl
          | false =>
            walk_at "go"
            refine iLcN hac hl5 ⟨e5, ?_⟩
            show ac.length = _
            rw [stp, hA5, List.filter_cons, eb]
            rfl
        · rw [al, List.take_length] at hA5
          have hA5 : ac.length = cnt rd f := hA5
          have hacc5 := e5 _ _ hacc3
          have e25 := e3.trans e5
          have up : ¬ (s' < cnt rd f ∧ rd.length ≤ cnt rd f + s') → ∀ (j : Nat) (g : Nat → B), j < i + 1 → rd[j]? = some g → decide (s' < cnt rd g ∧ rd.length ≤ cnt rd g + s') = false := fun hn j g hj hg => by
            rcases Nat.lt_or_ge j i with z | z
            · exact hno j g z hg
            · have : j = i := by omega
              subst this
              rw [hf] at hg
              cases hg
              exact decide_eq_false hn
          walk_at "go"
          refine ifD (fun h1 => ?_) (fun h1 => ?_)
          · walk_at "go"
            rw [al]
            refine ifD (fun h2 => ?_) (fun h2 => ?_)
            · walk_at "go"
              refine q _ _ (e2.trans e25) ?_
              have : voteW rd s' = some f := find_at hno hf (decide_eq_true ⟨by omega, by omega⟩)
              rw [this]
              exact ⟨r, rfl, e25 _ _ hr⟩
            · walk_at "go"
              exact ⟨⟨_, _, rfl⟩, e25, up (by omega)⟩
          · walk_at "go"
            exact ⟨⟨_, _, rfl⟩, e25, up (by omega)⟩
      · obtain ⟨⟨y1, y2, rfl⟩, e3, hno⟩ := h
        walk_at "go"
        refine q _ _ (e2.trans e3) ?_
        have : voteW rd s' = none := find_no fun j f hj => hno j f (by have := (List.getElem?_eq_some_iff.mp hj).1; omega) hj
        rw [this]
        rfl
end
end R
set_option Elab.async false
set_option linter.all false
set_option maxRecDepth 100000
set_option maxHeartbeats 4000000
namespace R
open PySem PySem.Spec L2
open Evl (Ex)
abbrev s_law : Stmt := topS 35
theorem sc_law : FnScope ["script", "state", "n", "k", "s", "cells", "passed", "due", "votes", "each"] ["script"] (defScope s_law) := ⟨rfl, rfl, rfl, by decide +kernel, rfl, by decide +kernel, by decide +kernel⟩
local macro_rules | `(tactic| walk_at "ne") => `(tactic| (apply Ne.symm; apply ne_fresh; (· assumption); (· walk_at "look")))
local macro_rules | `(tactic| walk_at "ne") => `(tactic| (apply ne_fresh; (· assumption); (· walk_at "look")))
local macro_rules | `(tactic| walk_at "ne") => `(tactic| (apply Ne.symm; assumption))
local macro_rules | `(tactic| walk_at "ne") => `(tactic| assumption)
local macro_rules | `(tactic| walk_at "look") => `(tactic| (refine exAt (by assumption) ?_; walk_at "look"))
local macro_rules | `(tactic| walk_at "look") => `(tactic| (refine (upd_ne ?_).trans ?_; (· walk_at "ne"); (· walk_at "look")))
local macro_rules | `(tactic| walk_at "look") => `(tactic| exact upd_same)
local macro_rules | `(tactic| walk_at "look") => `(tactic| assumption)
local macro_rules | `(tactic| walk_at "side") => `(tactic| (exact ⟨by decide, by decide, by decide⟩))
local macro_rules | `(tactic| walk_at "side") => `(tactic| (exact ⟨by omega, by omega⟩))
local macro_rules | `(tactic| walk_at "side") => `(tactic| (show (0:Int) ≤ _; omega))
local macro_rules | `(tactic| walk_at "side") => `(tactic| (show (0:Int) < _; omega))
local macro_rules | `(tactic| walk_at "side") => `(tactic| (exact Or.inr ⟨by omega, by omega⟩))
local macro_rules | `(tactic| walk_at "side") => `(tactic| (exact Or.inl ⟨by omega, by omega⟩))
local macro_rules | `(tactic| walk_at "step") => `(tactic| ((with_reducible apply iDcT); (· rfl)))
local macro_rules | `(tactic| walk_at "step") => `(tactic| ((with_reducible apply iParI); (· repeat constructor); (· repeat constructor)))
local macro_rules | `(tactic| walk_at "step") => `(tactic| ((with_reducible apply iItT); (· walk_at "look")))
local macro_rules | `(tactic| walk_at "step") => `(tactic| ((with_reducible apply iZL); (· walk_at "look"); (· walk_at "look")))
local macro_rules | `(tactic| walk_at "step") => `(tactic| ((with_reducible apply iItL); (· walk_at "look")))
local macro_rules | `(tactic| walk_at "step") => `(tactic| ((with_reducible apply iRng2I); (· omega); (· omega); (· omega); (· omega)))
local macro_rules | `(tactic| walk_at "step") => `(tactic| ((with_reducible apply iDNi); (· walk_at "look")))
local macro_rules | `(tactic| walk_at "step") => `(tactic| ((with_reducible apply iDIi); (· walk_at "look")))
local macro_rules | `(tactic| walk_at "step") => `(tactic| ((with_reducible apply iGTup); (· walk_at "look"); (· rfl)))
local macro_rules | `(tactic| walk_at "step") => `(tactic| ((with_reducible apply iLcB); (· rfl)))
local macro_rules | `(tactic| walk_at "step") => `(tactic| ((with_reducible apply ifNn); (· omega)))
local macro_rules | `(tactic| walk_at "step") => `(tactic| ((with_reducible apply ifNp); (· omega)))
local macro_rules | `(tactic| walk_at "step") => `(tactic| ((with_reducible apply ifF); (· apply decide_eq_false; omega)))
local macro_rules | `(tactic| walk_at "step") => `(tactic| ((with_reducible apply ifT); (· apply decide_eq_true; omega)))
local macro_rules | `(tactic| walk_at "step") => `(tactic| ((with_reducible apply ifF); (· rfl)))
local macro_rules | `(tactic| walk_at "step") => `(tactic| ((with_reducible apply ifT); (· rfl)))
local macro_rules | `(tactic| walk_at "step") => `(tactic| ((with_reducible apply iLenS); (· first | exact Or.inl (by walk_at "look") | exact Or.inr (by walk_at "look"))))
local macro_rules | `(tactic| walk_at "step") => `(tactic| ((with_reducible apply iLenT); (· walk_at "look")))
local macro_rules | `(tactic| walk_at "step") => `(tactic| ((with_reducible apply iIsi); (· first | exact tyN_int | exact tyN_bl | exact tyN_non | exact tyN_str | exact tyN_lst (by walk_at "look") | exact tyN_tup (by walk_at "look")); (· (first | exact kb_NoneType_bool | exact kb_NoneType_int | exact kb_NoneType_str | exact kb_NoneType_tuple | exact kb_NoneType_list | exact kb_bool_bool | exact kb_bool_int | exact kb_bool_str | exact kb_bool_tuple | exact kb_bool_list | exact kb_int_bool | exact kb_int_int | exact kb_int_str | exact kb_int_tuple | exact kb_int_list | exact kb_str_bool | exact kb_str_int | exact kb_str_str | exact kb_str_tuple | exact kb_str_list | exact kb_tuple_bool | exact kb_tuple_int | exact kb_tuple_str | exact kb_tuple_tuple | exact kb_tuple_list | exact kb_list_bool | exact kb_list_int | exact kb_list_str | exact kb_list_tuple | exact kb_list_list))))
local macro_rules | `(tactic| walk_at "step") => `(tactic| ((with_reducible apply iIxT); (· walk_at "look"); (· rfl)))
local macro_rules | `(tactic| walk_at "step") => `(tactic| ((with_reducible apply iSetL); (· walk_at "look"); (· rfl)))
local macro_rules | `(tactic| walk_at "step") => `(tactic| ((with_reducible apply iLenL); (· walk_at "look")))
local macro_rules | `(tactic| walk_at "step") => `(tactic| ((with_reducible apply iIxL); (· walk_at "look"); (· rfl)))
local macro_rules | `(tactic| walk_at "step") => `(tactic| ((with_reducible apply iI); rotate_left; (· (first | (exact Or.inl ⟨by omega, by omega⟩) | (exact Or.inr ⟨by omega, by omega⟩) | (show (0:Int) < _; omega) | (show (0:Int) ≤ _; omega) | (exact ⟨by omega, by omega⟩) | (exact ⟨by decide, by decide, by decide⟩)))))
local macro_rules | `(tactic| walk_at "step") => `(tactic| ((with_reducible apply iAugK); (· rfl)))
local macro_rules | `(tactic| walk_at "step") => `(tactic| ((with_reducible apply iRngI); (· first | decide | omega); (· first | decide | omega)))
local macro_rules | `(tactic| walk_at "step") => `(tactic| (with_reducible refine iWPut ?_))
local macro_rules | `(tactic| walk_at "step") => `(tactic| (with_reducible refine iWGet ?_))
local macro_rules | `(tactic| walk_at "step") => `(tactic| (with_reducible refine iWNot ?_))
local macro_rules | `(tactic| walk_at "step") => `(tactic| (with_reducible refine iCombK ?_))
local macro_rules | `(tactic| walk_at "step") => `(tactic| (with_reducible refine iDc ?_))
local macro_rules | `(tactic| walk_at "step") => `(tactic| (with_reducible refine iPar ?_))
local macro_rules | `(tactic| walk_at "step") => `(tactic| (with_reducible refine iItS ?_))
local macro_rules | `(tactic| walk_at "step") => `(tactic| (with_reducible refine iIterS ?_))
local macro_rules | `(tactic| walk_at "step") => `(tactic| (with_reducible refine iIterT ?_))
local macro_rules | `(tactic| walk_at "step") => `(tactic| (with_reducible refine iZA ?_))
local macro_rules | `(tactic| walk_at "step") => `(tactic| (with_reducible refine iRg3 ?_))
local macro_rules | `(tactic| walk_at "step") => `(tactic| (with_reducible refine iRv ?_))
local macro_rules | `(tactic| walk_at "step") => `(tactic| (with_reducible refine iNoPart ?_))
local macro_rules | `(tactic| walk_at "step") => `(tactic| (with_reducible refine iPartI ?_))
local macro_rules | `(tactic| walk_at "step") => `(tactic| (with_reducible refine iPart ?_))
local macro_rules | `(tactic| walk_at "step") => `(tactic| (with_reducible refine iSl ?_))
local macro_rules | `(tactic| walk_at "step") => `(tactic| (with_reducible refine iDEa ?_))
local macro_rules | `(tactic| walk_at "step") => `(tactic| (with_reducible refine iGNil ?_))
local macro_rules | `(tactic| walk_at "step") => `(tactic| (with_reducible refine iGCons ?_))
local macro_rules | `(tactic| walk_at "step") => `(tactic| (with_reducible refine iZipK ?_))
local macro_rules | `(tactic| walk_at "step") => `(tactic| (with_reducible refine iRng2 ?_))
local macro_rules | `(tactic| walk_at "step") => `(tactic| (with_reducible refine iDPut ?_))
local macro_rules | `(tactic| walk_at "step") => `(tactic| (with_reducible refine iDNotIn ?_))
local macro_rules | `(tactic| walk_at "step") => `(tactic| (with_reducible refine iDIn ?_))
local macro_rules | `(tactic| walk_at "step") => `(tactic| (with_reducible refine iDGet ?_))
local macro_rules | `(tactic| walk_at "step") => `(tactic| (with_reducible refine iYes ?_))
local macro_rules | `(tactic| walk_at "step") => `(tactic| (with_reducible refine iLc ?_))
local macro_rules | `(tactic| walk_at "step") => `(tactic| (with_reducible refine iNeS ?_))
local macro_rules | `(tactic| walk_at "step") => `(tactic| (with_reducible refine iEqS ?_))
local macro_rules | `(tactic| walk_at "step") => `(tactic| (with_reducible refine iNeB ?_))
local macro_rules | `(tactic| walk_at "step") => `(tactic| (with_reducible refine iEqB ?_))
local macro_rules | `(tactic| walk_at "step") => `(tactic| (with_reducible refine iCont ?_))
local macro_rules | `(tactic| walk_at "step") => `(tactic| (with_reducible refine iBreak ?_))
local macro_rules | `(tactic| walk_at "step") => `(tactic| (with_reducible refine iIterL ?_))
local macro_rules | `(tactic| walk_at "step") => `(tactic| (with_reducible refine iTup ?_))
local macro_rules | `(tactic| walk_at "step") => `(tactic| (with_reducible refine iLst ?_))
local macro_rules | `(tactic| walk_at "step") => `(tactic| (with_reducible refine iSub ?_))
local macro_rules | `(tactic| walk_at "step") => `(tactic| (with_reducible refine iIpI ?_))
local macro_rules | `(tactic| walk_at "step") => `(tactic| (with_reducible refine iAugS ?_))
local macro_rules | `(tactic| walk_at "step") => `(tactic| (with_reducible refine iNotV ?_))
local macro_rules | `(tactic| walk_at "step") => `(tactic| (with_reducible refine iOrV ?_))
local macro_rules | `(tactic| walk_at "step") => `(tactic| (with_reducible refine iAndV ?_))
local macro_rules | `(tactic| walk_at "step") => `(tactic| (with_reducible refine iDGet1 ?_))
local macro_rules | `(tactic| walk_at "step") => `(tactic| (with_reducible refine iNotBl ?_))
local macro_rules | `(tactic| walk_at "step") => `(tactic| (with_reducible refine iIsB ?_))
local macro_rules | `(tactic| walk_at "step") => `(tactic| (with_reducible refine iIntB ?_))
local macro_rules | `(tactic| walk_at "step") => `(tactic| (with_reducible refine iPn ?_))
local macro_rules | `(tactic| walk_at "step") => `(tactic| (with_reducible refine iPr ?_))
local macro_rules | `(tactic| walk_at "step") => `(tactic| (with_reducible refine iRai ?_))
local macro_rules | `(tactic| walk_at "step") => `(tactic| (with_reducible refine iRev1 ?_))
local macro_rules | `(tactic| walk_at "step") => `(tactic| (with_reducible refine iBM ?_))
local macro_rules | `(tactic| walk_at "step") => `(tactic| (with_reducible refine iAugF ?_))
local macro_rules | `(tactic| walk_at "step") => `(tactic| (with_reducible refine iSto ?_))
local macro_rules | `(tactic| walk_at "step") => `(tactic| (with_reducible refine iFld ?_))
local macro_rules | `(tactic| walk_at "step") => `(tactic| (with_reducible refine iMakS ?_))
local macro_rules | `(tactic| walk_at "step") => `(tactic| (with_reducible refine iMak ?_))
local macro_rules | `(tactic| walk_at "step") => `(tactic| (with_reducible refine iMet ?_))
local macro_rules | `(tactic| walk_at "step") => `(tactic| (with_reducible refine iCalE ?_))
local macro_rules | `(tactic| walk_at "step") => `(tactic| (with_reducible refine ifDr ?_))
local macro_rules | `(tactic| walk_at "step") => `(tactic| (with_reducible refine ifNDr ?_))
local macro_rules | `(tactic| walk_at "step") => `(tactic| (with_reducible refine iTruI ?_))
local macro_rules | `(tactic| walk_at "step") => `(tactic| (with_reducible refine iNotN ?_))
local macro_rules | `(tactic| walk_at "step") => `(tactic| (with_reducible refine iIsN ?_))
local macro_rules | `(tactic| walk_at "step") => `(tactic| (with_reducible refine iRetN ?_))
local macro_rules | `(tactic| walk_at "step") => `(tactic| (with_reducible refine iU ?_))
local macro_rules | `(tactic| walk_at "step") => `(tactic| (with_reducible refine iUn ?_))
local macro_rules | `(tactic| walk_at "step") => `(tactic| (with_reducible refine iChain ?_))
local macro_rules | `(tactic| walk_at "step") => `(tactic| (with_reducible refine iIf ?_))
local macro_rules | `(tactic| walk_at "step") => `(tactic| (with_reducible refine iB ?_))
local macro_rules | `(tactic| walk_at "step") => `(tactic| (with_reducible refine iNot ?_))
local macro_rules | `(tactic| walk_at "step") => `(tactic| (with_reducible refine iOr ?_))
local macro_rules | `(tactic| walk_at "step") => `(tactic| (with_reducible refine iAnd ?_))
local macro_rules | `(tactic| walk_at "step") => `(tactic| (with_reducible refine iCal ?_))
local macro_rules | `(tactic| walk_at "step") => `(tactic| (with_reducible refine iRng ?_))
local macro_rules | `(tactic| walk_at "step") => `(tactic| (with_reducible refine iFor ?_))
local macro_rules | `(tactic| walk_at "step") => `(tactic| (with_reducible refine iInt ?_))
local macro_rules | `(tactic| walk_at "step") => `(tactic| (with_reducible refine iNeI ?_))
local macro_rules | `(tactic| walk_at "step") => `(tactic| (with_reducible refine iEqI ?_))
local macro_rules | `(tactic| walk_at "step") => `(tactic| (with_reducible refine iDrop ?_))
local macro_rules | `(tactic| walk_at "step") => `(tactic| (with_reducible refine iNext ?_))
local macro_rules | `(tactic| walk_at "step") => `(tactic| (with_reducible refine iRet ?_))
local macro_rules | `(tactic| walk_at "step") => `(tactic| (with_reducible refine iBl ?_))
local macro_rules | `(tactic| walk_at "step") => `(tactic| (with_reducible refine iTest ?_))
local macro_rules | `(tactic| walk_at "step") => `(tactic| (with_reducible refine iIfS ?_))
local macro_rules | `(tactic| walk_at "step") => `(tactic| (with_reducible refine iCB ?_))
local macro_rules | `(tactic| walk_at "step") => `(tactic| (with_reducible refine iNil ?_))
local macro_rules | `(tactic| walk_at "step") => `(tactic| (with_reducible refine iCons ?_))
local macro_rules | `(tactic| walk_at "step") => `(tactic| (with_reducible refine iI0 ?_))
local macro_rules | `(tactic| walk_at "step") => `(tactic| (with_reducible refine iOp ?_))
local macro_rules | `(tactic| walk_at "step") => `(tactic| (with_reducible refine iC ?_))
local macro_rules | `(tactic| walk_at "step") => `(tactic| ((with_reducible apply iVar); (· rfl)))
local macro_rules | `(tactic| walk_at "step") => `(tactic| ((with_reducible apply iName); (· repeat constructor)))
local macro_rules | `(tactic| walk_at "step") => `(tactic| (with_reducible refine iAsg ?_))
local macro_rules | `(tactic| walk_at "step") => `(tactic| (with_reducible refine iSeq ?_))
local macro_rules | `(tactic| walk_at "go") => `(tactic| (repeat walk_at "step"))
section
variable {P : Program} {w : World} {K : PySem.W.Frag} {mg : Str → Option Value} {base : Heap}
/-! ### data to be compared -/
def ds (f : Nat → B) : Dt := .lst ((List.range 32).map fun t => .int (f t).v)
def dw (S : Nat → Nat → B) (n : Nat) : Dt := .lst ((List.range n).map fun t => ds (S t))
theorem ds_at {H : Hp} {v : V} {f : Nat → B} (h : SecAt H v f) (n : Nat) : AtN (n + 1) H v (ds f) := by
  obtain ⟨p, rfl, hp⟩ := h
  refine ⟨p, bl f, rfl, hp, by rw [bl_len, List.length_map, List.length_range], by rw [bl_len]; decide, fun i x d h1 h2 => ?_⟩
  have hi : i < 32 := by
    have := (List.getElem?_eq_some_iff.mp h1).1
    rw [bl_len] at this
    exact this
  rw [bl_get _ hi] at h1
  rw [List.getElem?_map, List.getElem?_range hi] at h2
  cases h1; cases h2
  rw [AtN.int_eq]
theorem dw_at {H : Hp} {p : Addr} {vs : List V} {S : Nat → Nat → B} (h : H p = some (.lst vs)) (hs : SecsAt H vs S) (hl : vs.length ≤ 1000) : AtN 2 H (.ref p) (dw S vs.length) := by
  refine ⟨p, vs, rfl, h, by rw [List.length_map, List.length_range], by omega, fun i x d h1 h2 => ?_⟩
  have hi := (List.getElem?_eq_some_iff.mp h1).1
  rw [List.getElem?_map, List.getElem?_range hi] at h2
  cases h2
  exact ds_at (hs i x h1) 0
/-! ### results as data -/
def resD (n : Nat) : Option (Nat → Nat → B) → Dt
  | none => .non
  | some W => dw W n
theorem ResAt.dt {H : Hp} {v : V} {n : Nat} {o : Option (Nat → Nat → B)} (h : ResAt H v n o) (hn : n ≤ 1000) : AtN 2 H v (resD n o) := by
  cases o with
  | none =>
    show AtN 2 H v .non
    rw [AtN.non_eq]
    exact h
  | some W =>
    obtain ⟨p, acc, rfl, h1, h2, h3⟩ := h
    have z := dw_at h1 h3 (by omega)
    rw [h2] at z
    exact z
theorem ds_congr {f g : Nat → B} (h : ∀ t, t < 32 → f t = g t) : ds f = ds g := by
  unfold ds
  congr 1
  refine List.map_congr_left fun t ht => ?_
  rw [h t (List.mem_range.mp ht)]
theorem resD_same {n : Nat} {o o' : Option (Nat → Nat → B)} (h : SameW o o') : resD n o = resD n o' := by
  cases o with
  | none =>
    cases o' with
    | none => rfl
    | some w => exact h.elim
  | some w =>
    cases o' with
    | none => exact h.elim
    | some w' =>
      show dw w n = dw w' n
      unfold dw
      congr 1
      refine List.map_congr_left fun t _ => ds_congr (h t)
theorem readW_same {c : List (Option (Nat → B))} {k s n : Nat} {A A' : Option (Nat → Nat → B)} (h : resD n A = resD n A') : resD n (readW c k s A).1 = resD n (readW c k s A').1 ∧ (readW c k s A).2 = (readW c k s A').2 := by
  unfold readW
  split
  · exact ⟨rfl, rfl⟩
  · exact ⟨h, rfl⟩
def voteD : Option (Nat → B) → Dt
  | none => .non
  | some f => ds f
theorem VoteAt.dt {H : Hp} {v : V} {o : Option (Nat → B)} (h : VoteAt H v o) : AtN 3 H v (voteD o) := by
  cases o with
  | none =>
    show AtN 3 H v .non
    rw [AtN.non_eq]
    exact h
  | some f => exact ds_at h 2
theorem VoteAt.ex {H H' : Hp} {v : V} {o : Option (Nat → B)} (e : Ex H H') (h : VoteAt H v o) : VoteAt H' v o := by
  cases o with
  | none => exact h
  | some f => exact SecAt.ex e h
theorem AtN.up1 {H : Hp} : ∀ {n : Nat} {v : V} {d : Dt}, AtN n H v d → AtN (n + 1) H v d
  | n, v, .non, h => by rw [AtN.non_eq] at h ⊢; exact h
  | n, v, .bl b, h => by rw [AtN.bl_eq] at h ⊢; exact h
  | n, v, .int i, h => by rw [AtN.int_eq] at h ⊢; exact h
  | n, v, .str i, h => by rw [AtN.str_eq] at h ⊢; exact h
  | 0, v, .lst ds, h => h.elim
  | 0, v, .tup ds, h => h.elim
  | n + 1, v, .lst ds, h => by
    obtain ⟨p, xs, e, hp, l1, l2, q⟩ := h
    exact ⟨p, xs, e, hp, l1, l2, fun i x d a b => AtN.up1 (q i x d a b)⟩
  | n + 1, v, .tup ds, h => by
    obtain ⟨p, xs, e, hp, l1, l2, q⟩ := h
    exact ⟨p, xs, e, hp, l1, l2, fun i x d a b => AtN.up1 (q i x d a b)⟩
theorem pair_at {H : Hp} {t : Addr} {v : V} {m : Nat} {d : Dt} (h : H t = some (.tup [v, .int (m : Int)])) (hv : AtN 2 H v d) : AtN 3 H (.ref t) (.tup [d, .int (m : Int)]) := by
  refine ⟨t, [v, .int m], rfl, h, rfl, by simp, fun i x d' h1 h2 => ?_⟩
  rcases i with _ | _ | i
  · cases h1; cases h2
    exact hv
  · cases h1; cases h2
    rw [AtN.int_eq]
  · simp at h1
/-! cells as data -/
def cellD : Option (Nat → B) → PyData
  | none => .none
  | some f => nD (secN f)
theorem cells_atAll {H : Hp} : ∀ {cs : List V} {c : List (Option (Nat → B))}, CellsAt H cs c → AtAll H cs (c.map cellD)
  | [], [], _ => .nil
  | [], _ :: _, h => by have := h.len; simp at this
  | _ :: _, [], h => by have := h.len; simp at this
  | v :: cs, o :: c, h => by
    have h0 := h.at_ 0 v rfl
    have ht : CellsAt H cs c := ⟨by have := h.len; simpa using this, fun i x hx => by have := h.at_ (i + 1) x (by simpa using hx); simpa using this⟩
    refine .cons ?_ (cells_atAll ht)
    cases o with
    | none =>
      cases (show v = V.non from h0)
      exact .non
    | some f =>
      obtain ⟨p, rfl, hp⟩ := (show SecAt H v f from h0)
      rw [bl_nL] at hp
      exact nL_at hp
theorem cells_dep (c : List (Option (Nat → B))) : Dep 64 (.list (c.map cellD)) := Dep.list fun d hd => by
  obtain ⟨o, _, rfl⟩ := List.mem_map.mp hd
  cases o with
  | none => exact Dep.non
  | some f => exact Dep.nD (n := 62)
/-- lists of cells, whatever they are -/
def AllC (H : Hp) (vs : List V) : Prop := ∀ v ∈ vs, ∃ o, CellV H v o
theorem AllC.of {H : Hp} {cs : List V} {c : List (Option (Nat → B))} (h : CellsAt H cs c) : AllC H cs := fun v hv => by
  obtain ⟨i, hi⟩ := List.mem_iff_getElem?.mp hv
  exact ⟨_, h.at_ i v hi⟩
theorem AllC.cells {H : Hp} : ∀ {vs : List V}, AllC H vs → ∃ c, CellsAt H vs c
  | [], _ => ⟨[], rfl, fun i v h => by simp at h⟩
  | v :: vs, h => by
    obtain ⟨o, ho⟩ := h v List.mem_cons_self
    obtain ⟨c, hc⟩ := AllC.cells (H := H) (vs := vs) fun x hx => h x (List.mem_cons_of_mem _ hx)
    refine ⟨o :: c, by rw [List.length_cons, List.length_cons, hc.len], fun i x hx => ?_⟩
    cases i with
    | zero =>
      have : v = x := by simpa using hx
      subst this
      exact ho
    | succ i => exact hc.at_ i x (by simpa using hx)
theorem AllC.app {H : Hp} {vs ws : List V} (h : AllC H vs) (g : AllC H ws) : AllC H (vs ++ ws) := fun v hv => by
  rcases List.mem_append.mp hv with hv | hv
  · exact h v hv
  · exact g v hv
theorem AllC.take {H : Hp} {vs : List V} {n : Nat} (h : AllC H vs) : AllC H (vs.take n) := fun v hv => h v (List.mem_of_mem_take hv)
theorem AllC.rep {H : Hp} {v : V} {n : Nat} {o : Option (Nat → B)} (h : CellV H v o) : AllC H (List.replicate n [v]).flatten := fun x hx => by
  obtain ⟨l, hl, hx⟩ := List.mem_flatten.mp hx
  obtain ⟨_, rfl⟩ := List.mem_replicate.mp hl
  rw [List.mem_singleton] at hx
  subst hx
  exact ⟨o, h⟩
theorem AllC.ex {H H' : Hp} {vs : List V} (e : Ex H H') (h : AllC H vs) : AllC H' vs := fun v hv => by
  obtain ⟨o, ho⟩ := h v hv
  exact ⟨o, ho.ex e⟩
theorem AllC.exb {H H' : Hp} {st l : Addr} {vs : List V} (D : DrawAt H st l) (e : ExB st H H') (h : AllC H vs) : AllC H' vs := fun v hv => by
  obtain ⟨o, ho⟩ := h v hv
  exact ⟨o, ho.exb D e⟩
theorem rep_len {v : V} (n : Nat) : (List.replicate n [v]).flatten.length = n := by
  induction n with
  | zero => rfl
  | succ n ih => rw [List.replicate_succ, List.flatten_cons, List.length_append, ih]; simp; omega
theorem iRevL {K : PySem.W.Frag} {te : TE} {σ : L2.St} {H : Hp} {Q : VK} (q : te σ H fun x H1 => ∃ a xs, x = .ref a ∧ SqL K H1 a xs ∧ ∀ p, H1 p = none → Q (.ref p) (upd H1 p (.lst xs.reverse))) : tRevL K te σ H Q := q
def sp_law (K : PySem.W.Frag) : Sp := fun vs H Q _ => ∃ (a : Addr) (ns : List Int), vs = [.ref a] ∧ SqL K H a (ns.map V.int) ∧ ns.length ≤ 63 ∧ ∀ H', Q (.bl true) H'
theorem ok_law (M : Mg mg) {f : Addr} {fd : FuncData} (F : Fun K "law" "law" s_law f fd) (c__law_next : Cal P w K mg base 1 "_law_next" ["state", "limit"] sp__law_next)
    (c__law_same : Cal P w K mg base 4 "_law_same" ["actual", "expected"] (sp__law_same 4)) (c__law_sizes : Cal P w K mg base 2 "_law_sizes" ["state"] sp__law_sizes)
    (c__law_cells : Cal P w K mg base 6 "_law_cells" ["state", "n", "k"] sp_cells) (c__law_accepted : Cal P w K mg base 5 "_law_accepted" ["cells", "k", "s"] sp_laccepted) (c__law_read : Cal P w K mg base 5 "_law_read" ["cells", "k", "s", "due"] sp_lread) (c__law_vote : Cal P w K mg base 1 "_law_vote" ["cells", "s"] sp_lvote)
    (c_accepted : Cal P w K mg base 7 "accepted" ["cells", "k", "s"] sp_accepted) (c_read_word : Cal P w K mg base 8 "read_word" ["cells", "k", "s"] sp_read_word) (c_vote : Cal P w K mg base 1 "vote" ["cells", "s"] sp_vote) : FnOk P w K mg base CX0 9 f fd ["script"] (sp_law K) := by
  refine F.ok sc_law (fun vs H Q E h => ?_) (fun cdv A outer s H vs Q E hr h => ?_)
  · obtain ⟨a, ns, rfl, _⟩ := h; rfl
  · obtain ⟨sc, ns, rfl, hS, hn, q⟩ := h
    refine ⟨_, (pss_cons (ps_set (i := 1) sc_law.nd rfl (Or.inl rfl) (pe_lst (pa_cons (pe_callTy call_list_of (by rfl) M.n_list (by decide +kernel) (pa_cons (pv 0) pa_nil)) (pa_cons pe_int (pa_cons pe_int (pa_cons pe_int pa_nil)))))) (pss_cons (ps_asg (pe_cal c__law_sizes (hr.mono (by omega)) (by rfl) (pa_cons (pv 1) pa_nil)) (pg_tup (by rfl) (pgs_cons (pg_name (i := 2) sc_law.nd rfl (Or.inl rfl)) (pgs_cons (pg_name (i := 3) sc_law.nd rfl (Or.inl rfl)) (pgs_cons (pg_name (i := 4) sc_law.nd rfl (Or.inl rfl)) pgs_nil))))) (pss_cons (ps_set (i := 5) sc_law.nd rfl (Or.inl rfl) (pe_cal c__law_cells (hr.mono (by omega)) (by rfl) (pa_cons (pv 1) (pa_cons (pv 2) (pa_cons (pv 3) pa_nil))))) (pss_cons (ps_set (i := 6) sc_law.nd rfl (Or.inl rfl) (pe_callTy list_l (by rfl) M.n_list (by decide +kernel) (pa_cons (pv 5) pa_nil))) (pss_cons (ps_set (i := 7) sc_law.nd rfl (Or.inl rfl) (pe_cal c__law_accepted (hr.mono (by omega)) (by rfl) (pa_cons (pv 5) (pa_cons (pv 3) (pa_cons (pv 4) pa_nil))))) (pss_cons (ps_if (pt_not (pt_val (pe_cal c__law_same (hr.mono (by omega)) (by rfl) (pa_cons (pe_cal c_accepted (hr.mono (by omega)) (by rfl) (pa_cons (pv 6) (pa_cons (pv 3) (pa_cons (pv 4) pa_nil)))) (pa_cons (pv 7) pa_nil))))) (pss_one (ps_ret pe_bl)) pss_nil) (pss_cons (ps_if (PW.pt (pw_or (pt_not (pt_val (pe_cal c__law_same (hr.mono (by omega)) (by rfl) (pa_cons (pe_cal c_read_word (hr.mono (by omega)) (by rfl) (pa_cons (pv 6) (pa_cons (pv 3) (pa_cons (pv 4) pa_nil)))) (pa_cons (pe_cal c__law_read (hr.mono (by omega)) (by rfl) (pa_cons (pv 5) (pa_cons (pv 3) (pa_cons (pv 4) (pa_cons (pv 7) pa_nil))))) pa_nil))))) (pw_or1 (pt_cmpR (op_neD hr.units) (pv 6) (pv 5) (nomark _))))) (pss_one (ps_ret pe_bl)) pss_nil) (pss_cons (ps_set (i := 8) sc_law.nd rfl (Or.inl rfl) (pe_op op_rep (pe_lst (pa_cons (pe_ix ix_l (pv 5) pe_int (fun _ _ => rfl)) pa_nil)) (pe_cal c__law_next (hr.mono (by omega)) (by rfl) (pa_cons (pv 1) (pa_cons (pe_op op_add (pv 2) pe_int) pa_nil))))) (pss_cons (ps_set (i := 8) sc_law.nd rfl (Or.inl rfl) (pe_slice sl_l (pe_op op_cat (pe_op op_cat (pv 8) (pe_op op_rep (pe_lst (pa_cons (pe_ix ix_l (pv 5) pe_int (fun _ _ => rfl)) pa_nil)) (pe_cal c__law_next (hr.mono (by omega)) (by rfl) (pa_cons (pv 1) (pa_cons (pv 2) pa_nil))))) (pe_op op_rep (pe_lst (pa_cons pe_non pa_nil)) (pv 2))) po_none (po_some (pv 2)))) (pss_cons (ps_for PassesOwn.never rfl (pi_l (pe_lst (pa_cons (pv 8) (pa_cons (pv 5) (pa_cons (pe_revL (pv 8)) pa_nil))))) (pg_name (i := 9) sc_law.nd rfl (Or.inl rfl)) (pss_one (ps_if (pt_not (pt_val (pe_cal c__law_same (hr.mono (by omega)) (by rfl) (pa_cons (pe_cal c_vote (hr.mono (by omega)) (by rfl) (pa_cons (pe_callTy list_l (by rfl) M.n_list (by decide +kernel) (pa_cons (pv 9) pa_nil)) (pa_cons (pv 4) pa_nil))) (pa_cons (pe_cal c__law_vote (hr.mono (by omega)) (by rfl) (pa_cons (pv 9) (pa_cons (pv 4) pa_nil))) pa_nil))))) (pss_one (ps_ret pe_bl)) pss_nil))) (pss_one (ps_ret pe_bl)))))))))))), ?_⟩
    refine iBody (by repeat constructor) ?_
    walk_at "go"
    refine ⟨sc, _, rfl, .inl hS, fun l hl => ?_⟩
    walk_at "go"
    refine iNewL (by simp) fun st hst => ?_
    have nsl : st ≠ l := (ne_of_none upd_same hst).symm
    have D0 := DrawAt.to (H := upd H l (.lst (ns.map V.int))) (i := 0) (r := 0) (q := 1) upd_same nsl hn (by decide) (by omega) (by decide) (by decide) (by decide)
    generalize upd (upd H l (.lst (ns.map V.int))) st (.lst [.ref l, .int 0, .int 0, .int 1]) = H1 at D0 ⊢
    walk_at "go"
    refine j_lsizes D0 fun z H2 n k s _ x2 D2 n4 n8 k1 s1 ks hz => ?_
    walk_at "go"
    refine ⟨st, l, n, k, rfl, D2, k1, by omega, n8, fun pc H3 cs c pc0 x3 D3 hpc hcc lc => ?_⟩
    have pcst : pc ≠ st := (D2.fresh pc0).1
    walk_at "go"
    refine iListL hpc fun pp hpp => ?_
    have len := hcc.len
    have e4 := Ex.new (o := .lst cs) hpp
    have hpp4 : (upd H3 pp (.lst cs)) pp = some (.lst cs) := upd_same
    have ppst : pp ≠ st := (D3.fresh hpp).1
    generalize upd H3 pp (.lst cs) = H4 at e4 hpp4 ⊢
    walk_at "go"
    refine ⟨pc, cs, c, k, s, rfl, e4 _ _ hpc, hcc.ex e4, by omega, k1, fun due H5 e5 hdue => ?_⟩
    walk_at "go"
    have e35 := e4.trans e5
    refine j_accepted (e5 _ _ hpp4) (hcc.ex e35) (by omega) k1 fun v6 H6 e6 hv6 => ?_
    have sd := resD_same (n := c.length) (acc_same c k s (by omega))
    have hdue6 := hdue.ex e6
    have e36 := e35.trans e6
    walk_at "go"
    refine j_sameD (m := 3) (hv6.dt (by omega)).up1 (by rw [sd]; exact (hdue6.dt (by omega)).up1) ?_
    walk_at "go"
    refine ⟨pp, cs, c, k, s, rfl, (e5.trans e6) _ _ hpp4, hcc.ex e36, by omega, k1, s1, fun t7 H7 v7 e7 ht7 hv7 => ?_⟩
    have e37 := e36.trans e7
    walk_at "go"
    refine ⟨pc, cs, c, k, s, due, _, rfl, e37 _ _ hpc, hcc.ex e37, by omega, k1, s1, hdue6.ex e7, fun t8 H8 v8 e8 ht8 hv8 => ?_⟩
    have e38 := e37.trans e8
    have rs := readW_same (c := c) (k := k) (s := s) sd
    have ht7' := e8 _ _ ht7
    rw [rs.2] at ht7'
    walk_at "go"
    refine j_sameD (m := 3) (d := .tup [resD c.length (readW c k s (accW c k s (lawR c k))).1, .int ((readW c k s (accW c k s (lawR c k))).2 : Nat)]) (pair_at ht7' (by rw [← rs.1]; exact (hv7.ex e8).dt (by omega))) (pair_at ht8 (hv8.dt (by omega))) ?_
    have hpp8 := (((e5.trans e6).trans e7).trans e8) _ _ hpp4
    have hpc8 := e38 _ _ hpc
    have hcc8 := hcc.ex e38
    walk_at "go"
    refine iNeAt (d := .list (c.map cellD)) (.lst hpp8 (cells_atAll hcc8)) (.lst hpc8 (cells_atAll hcc8)) (cells_dep c) ?_
    have D8 := D3.ex e38
    obtain ⟨v0, hv0⟩ : ∃ v0, cs[0]? = some v0 := ⟨_, List.getElem?_eq_getElem (by omega)⟩
    obtain ⟨v1, hv1⟩ : ∃ v1, cs[1]? = some v1 := ⟨_, List.getElem?_eq_getElem (by omega)⟩
    walk_at "go"
    refine iIxL hpc8 ((atI_0 _).trans hv0) ?_
    walk_at "go"
    refine iNewL (by simp) fun p9 hp9 => ?_
    have e9 := Ex.new (o := .lst [v0]) hp9
    have h99 : (upd H8 p9 (.lst [v0])) p9 = some (.lst [v0]) := upd_same
    have p9st := (D8.fresh hp9).1
    have D9 := D8.ex e9
    have hpc9 := e9 _ _ hpc8
    have hcc9 := hcc8.ex e9
    generalize upd H8 p9 (.lst [v0]) = H9 at e9 h99 D9 hpc9 hcc9 ⊢
    walk_at "go"
    refine j_next D9 (by omega) (by omega) fun r1 H10 r10 r11 D10 f10 => ?_
    obtain ⟨a1, rfl⟩ : ∃ a1 : Nat, r1 = (a1 : Int) := ⟨r1.toNat, by omega⟩
    have x10 : ExB st H9 H10 := exb_fr f10
    have h910 := x10 _ _ p9st h99
    have hpc10 := x10 _ _ pcst hpc9
    have hcc10 := hcc9.exb D9 x10
    walk_at "go"
    refine iRep h910 (by omega) (by omega) (by simp; omega) fun p11 hp11 => ?_
    rw [Int.toNat_natCast]
    have e11 := Ex.new (o := .lst (List.replicate a1 [v0]).flatten) hp11
    have h11 : (upd H10 p11 (.lst (List.replicate a1 [v0]).flatten)) p11 = some (.lst (List.replicate a1 [v0]).flatten) := upd_same
    have p11st := (D10.fresh hp11).1
    have D11 := D10.ex e11
    have hpc11 := e11 _ _ hpc10
    have hcc11 := hcc10.ex e11
    generalize upd H10 p11 (.lst (List.replicate a1 [v0]).flatten) = H11 at e11 h11 D11 hpc11 hcc11 ⊢
    walk_at "go"
    refine iIxL hpc11 ((atI_1 _).trans hv1) ?_
    walk_at "go"
    refine iNewL (by simp) fun p12 hp12 => ?_
    have e12 := Ex.new (o := .lst [v1]) hp12
    have h12 : (upd H11 p12 (.lst [v1])) p12 = some (.lst [v1]) := upd_same
    have p12st := (D11.fresh hp12).1
    have D12 := D11.ex e12
    have hpc12 := e12 _ _ hpc11
    have hcc12 := hcc11.ex e12
    have h1112 := e12 _ _ h11
    generalize upd H11 p12 (.lst [v1]) = H12 at e12 h12 D12 hpc12 hcc12 h1112 ⊢
    walk_at "go"
    refine j_next D12 (by omega) (by omega) fun r2 H13 r20 r21 D13 f13 => ?_
    obtain ⟨a2, rfl⟩ : ∃ a2 : Nat, r2 = (a2 : Int) := ⟨r2.toNat, by omega⟩
    have x13 : ExB st H12 H13 := exb_fr f13
    have h1213 := x13 _ _ p12st h12
    have hpc13 := x13 _ _ pcst hpc12
    have hcc13 := hcc12.exb D12 x13
    have h1113 := x13 _ _ p11st h1112
    walk_at "go"
    refine iRep h1213 (by omega) (by omega) (by simp; omega) fun p14 hp14 => ?_
    rw [Int.toNat_natCast]
    have e14 := Ex.new (o := .lst (List.replicate a2 [v1]).flatten) hp14
    have h14 : (upd H13 p14 (.lst (List.replicate a2 [v1]).flatten)) p14 = some (.lst (List.replicate a2 [v1]).flatten) := upd_same
    have h1114 := e14 _ _ h1113
    generalize upd H13 p14 (.lst (List.replicate a2 [v1]).flatten) = H14 at e14 h14 h1114 ⊢
    refine iCat h1114 h14 (by rw [rep_len, rep_len]; omega) fun p15 hp15 => ?_
    have e15 := Ex.new (o := .lst ((List.replicate a1 [v0]).flatten ++ (List.replicate a2 [v1]).flatten)) hp15
    have h15 : (upd H14 p15 (.lst ((List.replicate a1 [v0]).flatten ++ (List.replicate a2 [v1]).flatten))) p15 = some (.lst ((List.replicate a1 [v0]).flatten ++ (List.replicate a2 [v1]).flatten)) := upd_same
    generalize upd H14 p15 (.lst ((List.replicate a1 [v0]).flatten ++ (List.replicate a2 [v1]).flatten)) = H15 at e15 h15 ⊢
    walk_at "go"
    refine iNewL (by simp) fun p16 hp16 => ?_
    have e16 := Ex.new (o := .lst [V.non]) hp16
    have h16 : (upd H15 p16 (.lst [V.non])) p16 = some (.lst [V.non]) := upd_same
    have h1516 := e16 _ _ h15
    generalize upd H15 p16 (.lst [V.non]) = H16 at e16 h16 h1516 ⊢
    walk_at "go"
    refine iRep h16 (by omega) (by omega) (by simp; omega) fun p17 hp17 => ?_
    rw [Int.toNat_natCast]
    have e17 := Ex.new (o := .lst (List.replicate n [V.non]).flatten) hp17
    have h17 : (upd H16 p17 (.lst (List.replicate n [V.non]).flatten)) p17 = some (.lst (List.replicate n [V.non]).flatten) := upd_same
    have h1517 := e17 _ _ h1516
    generalize upd H16 p17 (.lst (List.replicate n [V.non]).flatten) = H17 at e17 h17 h1517 ⊢
    refine iCat h1517 h17 (by rw [List.length_append, rep_len, rep_len, rep_len]; omega) fun p18 hp18 => ?_
    have e18 := Ex.new (o := .lst ((List.replicate a1 [v0]).flatten ++ (List.replicate a2 [v1]).flatten ++ (List.replicate n [V.non]).flatten)) hp18
    have h18 : (upd H17 p18 (.lst ((List.replicate a1 [v0]).flatten ++ (List.replicate a2 [v1]).flatten ++ (List.replicate n [V.non]).flatten))) p18 = some (.lst ((List.replicate a1 [v0]).flatten ++ (List.replicate a2 [v1]).flatten ++ (List.replicate n [V.non]).flatten)) := upd_same
    have e1318 := (((e14.trans e15).trans e16).trans e17).trans e18
    have all18 : AllC (upd H17 p18 (.lst ((List.replicate a1 [v0]).flatten ++ (List.replicate a2 [v1]).flatten ++ (List.replicate n [V.non]).flatten))) ((List.replicate a1 [v0]).flatten ++ (List.replicate a2 [v1]).flatten ++ (List.replicate n [V.non]).flatten) :=
      ((AllC.rep ((hcc13.ex e1318).at_ 0 v0 hv0)).app (AllC.rep ((hcc13.ex e1318).at_ 1 v1 hv1))).app (AllC.rep (o := none) rfl)
    have hpc18 := e1318 _ _ hpc13
    have hcc18 := hcc13.ex e1318
    generalize upd H17 p18 (.lst ((List.replicate a1 [v0]).flatten ++ (List.replicate a2 [v1]).flatten ++ (List.replicate n [V.non]).flatten)) = H18 at h18 all18 hpc18 hcc18 ⊢
    generalize (List.replicate a1 [v0]).flatten ++ (List.replicate a2 [v1]).flatten ++ (List.replicate n [V.non]).flatten = big at h18 all18 ⊢
    walk_at "go"
    refine iSlL h18 fun p19 hp19 => ?_
    rw [cut_to]
    have e19 := Ex.new (o := .lst (big.take n)) hp19
    have h19 : (upd H18 p19 (.lst (big.take n))) p19 = some (.lst (big.take n)) := upd_same
    have all19 := (all18.take (n := n)).ex e19
    have vl : (big.take n).length ≤ n := by rw [List.length_take]; exact Nat.min_le_left _ _
    have hpc19 := e19 _ _ hpc18
    have hcc19 := hcc18.ex e19
    generalize upd H18 p19 (.lst (big.take n)) = H19 at h19 all19 hpc19 hcc19 ⊢
    generalize big.take n = vts at h19 all19 vl ⊢
    walk_at "go"
    refine iRevL ?_
    walk_at "go"
    refine ⟨p19, vts, rfl, SqL.tr h19, fun p20 hp20 => ?_⟩
    have e20 := Ex.new (o := .lst vts.reverse) hp20
    have h20 : (upd H19 p20 (.lst vts.reverse)) p20 = some (.lst vts.reverse) := upd_same
    have all20 : AllC (upd H19 p20 (.lst vts.reverse)) vts.reverse := fun v hv => all19.ex e20 v (List.mem_reverse.mp hv)
    have h1920 := e20 _ _ h19
    have all1920 := all19.ex e20
    have hpc20 := e20 _ _ hpc19
    have hcc20 := hcc19.ex e20
    generalize upd H19 p20 (.lst vts.reverse) = H20 at h20 all20 h1920 all1920 hpc20 hcc20 ⊢
    walk_at "go"
    refine iNewL (by simp) fun p21 hp21 => ?_
    have e21 := Ex.new (o := .lst [V.ref p19, V.ref pc, V.ref p20]) hp21
    have h21 : (upd H20 p21 (.lst [V.ref p19, V.ref pc, V.ref p20])) p21 = some (.lst [V.ref p19, V.ref pc, V.ref p20]) := upd_same
    have each : ∀ x ∈ [V.ref p19, V.ref pc, V.ref p20], ∃ a vs c', x = .ref a ∧ (upd H20 p21 (.lst [V.ref p19, V.ref pc, V.ref p20])) a = some (.lst vs) ∧ CellsAt (upd H20 p21 (.lst [V.ref p19, V.ref pc, V.ref p20])) vs c' ∧ c'.length ≤ 8 := fun x hx => by
      simp only [List.mem_cons, List.not_mem_nil, or_false] at hx
      rcases hx with rfl | rfl | rfl
      · obtain ⟨c', hc'⟩ := (all1920.ex e21).cells
        exact ⟨p19, vts, c', rfl, e21 _ _ h1920, hc', by rw [← hc'.len]; omega⟩
      · exact ⟨pc, cs, c, rfl, e21 _ _ hpc20, hcc20.ex e21, by omega⟩
      · obtain ⟨c', hc'⟩ := (all20.ex e21).cells
        exact ⟨p20, vts.reverse, c', rfl, e21 _ _ h20, hc', by rw [← hc'.len, List.length_reverse]; omega⟩
    generalize upd H20 p21 (.lst [V.ref p19, V.ref pc, V.ref p20]) = H21 at h21 each ⊢
    walk_at "go"
    refine forJ_list [V.ref p19, V.ref pc, V.ref p20] (fun i σ' H' => (∃ x, σ' = [some (.ref sc), some (.ref st), some (.int n), some (.int k), some (.int s), some (.ref pc), some (.ref pp), some due, some (.ref p19), x]) ∧ Ex H21 H') ⟨⟨_, rfl⟩, Ex.rfl' _⟩ (fun i σ' H' _ h => h.2 _ _ h21) (fun i x σ' H' hx h => ?_) (fun σ' H' h => ?_)
    · obtain ⟨⟨y, rfl⟩, e⟩ := h
      obtain ⟨a, vs, c', rfl, ha, hc', l8⟩ := each x (List.mem_of_getElem? hx)
      have ha' := e _ _ ha
      walk_at "go"
      refine iListL ha' fun p22 hp22 => ?_
      have e22 := Ex.new (o := .lst vs) hp22
      have h22 : (upd H' p22 (.lst vs)) p22 = some (.lst vs) := upd_same
      have ec22 := hc'.ex (e.trans e22)
      have ha22 := e22 _ _ ha'
      have e222 := e.trans e22
      generalize upd H' p22 (.lst vs) = H22 at h22 ec22 ha22 e222 ⊢
      walk_at "go"
      refine ⟨p22, vs, c', s, rfl, h22, ec22, l8, fun v23 H23 e23 hv23 => ?_⟩
      walk_at "go"
      refine ⟨a, vs, c', s, rfl, e23 _ _ ha22, ec22.ex e23, l8, fun v24 H24 e24 hv24 => ?_⟩
      walk_at "go"
      refine j_sameD (m := 3) (hv23.ex e24).dt hv24.dt ?_
      walk_at "go"
      exact ⟨⟨_, rfl⟩, (e222.trans e23).trans e24⟩
    · obtain ⟨⟨y, rfl⟩, e⟩ := h
      walk_at "go"
      exact q H'
end
end R
set_option Elab.async false
set_option linter.all false
set_option maxRecDepth 100000
set_option maxHeartbeats 4000000
namespace R
open PySem PySem.Spec L2
open Evl (Ex)

local macro_rules | `(tactic| walk_at "ne") => `(tactic| (apply Ne.symm; apply ne_fresh; (· assumption); (· walk_at "look")))
local macro_rules | `(tactic| walk_at "ne") => `(tactic| (apply ne_fresh; (· assumption); (· walk_at "look")))
local macro_rules | `(tactic| walk_at "ne") => `(tactic| (apply Ne.symm; assumption))
local macro_rules | `(tactic| walk_at "ne") => `(tactic| assumption)
local macro_rules | `(tactic| walk_at "look") => `(tactic| (refine exAt (by assumption) ?_; walk_at "look"))
local macro_rules | `(tactic| walk_at "look") => `(tactic| (refine (upd_ne ?_).trans ?_; (· walk_at "ne"); (· walk_at "look")))
local macro_rules | `(tactic| walk_at "look") => `(tactic| exact upd_same)
local macro_rules | `(tactic| walk_at "look") => `(tactic| assumption)
local macro_rules | `(tactic| walk_at "side") => `(tactic| (exact ⟨by decide, by decide, by decide⟩))
local macro_rules | `(tactic| walk_at "side") => `(tactic| (exact ⟨by omega, by omega⟩))
local macro_rules | `(tactic| walk_at "side") => `(tactic| (show (0:Int) ≤ _; omega))
local macro_rules | `(tactic| walk_at "side") => `(tactic| (show (0:Int) < _; omega))
local macro_rules | `(tactic| walk_at "side") => `(tactic| (exact Or.inr ⟨by omega, by omega⟩))
local macro_rules | `(tactic| walk_at "side") => `(tactic| (exact Or.inl ⟨by omega, by omega⟩))
local macro_rules | `(tactic| walk_at "step") => `(tactic| ((with_reducible apply iDcT); (· rfl)))
local macro_rules | `(tactic| walk_at "step") => `(tactic| ((with_reducible apply iParI); (· repeat constructor); (· repeat constructor)))
local macro_rules | `(tactic| walk_at "step") => `(tactic| ((with_reducible apply iItT); (· walk_at "look")))
local macro_rules | `(tactic| walk_at "step") => `(tactic| ((with_reducible apply iZL); (· walk_at "look"); (· walk_at "look")))
local macro_rules | `(tactic| walk_at "step") => `(tactic| ((with_reducible apply iItL); (· walk_at "look")))
local macro_rules | `(tactic| walk_at "step") => `(tactic| ((with_reducible apply iRng2I); (· omega); (· omega); (· omega); (· omega)))
local macro_rules | `(tactic| walk_at "step") => `(tactic| ((with_reducible apply iDNi); (· walk_at "look")))
local macro_rules | `(tactic| walk_at "step") => `(tactic| ((with_reducible apply iDIi); (· walk_at "look")))
local macro_rules | `(tactic| walk_at "step") => `(tactic| ((with_reducible apply iGTup); (· walk_at "look"); (· rfl)))
local macro_rules | `(tactic| walk_at "step") => `(tactic| ((with_reducible apply iLcB); (· rfl)))
local macro_rules | `(tactic| walk_at "step") => `(tactic| ((with_reducible apply ifNn); (· omega)))
local macro_rules | `(tactic| walk_at "step") => `(tactic| ((with_reducible apply ifNp); (· omega)))
local macro_rules | `(tactic| walk_at "step") => `(tactic| ((with_reducible apply ifF); (· apply decide_eq_false; omega)))
local macro_rules | `(tactic| walk_at "step") => `(tactic| ((with_reducible apply ifT); (· apply decide_eq_true; omega)))
local macro_rules | `(tactic| walk_at "step") => `(tactic| ((with_reducible apply ifF); (· rfl)))
local macro_rules | `(tactic| walk_at "step") => `(tactic| ((with_reducible apply ifT); (· rfl)))
local macro_rules | `(tactic| walk_at "step") => `(tactic| ((with_reducible apply iLenS); (· first | exact Or.inl (by walk_at "look") | exact Or.inr (by walk_at "look"))))
local macro_rules | `(tactic| walk_at "step") => `(tactic| ((with_reducible apply iLenT); (· walk_at "look")))
local macro_rules | `(tactic| walk_at "step") => `(tactic| ((with_reducible apply iIsi); (· first | exact tyN_int | exact tyN_bl | exact tyN_non | exact tyN_str | exact tyN_lst (by walk_at "look") | exact tyN_tup (by walk_at "look")); (· (first | exact kb_NoneType_bool | exact kb_NoneType_int | exact kb_NoneType_str | exact kb_NoneType_tuple | exact kb_NoneType_list | exact kb_bool_bool | exact kb_bool_int | exact kb_bool_str | exact kb_bool_tuple | exact kb_bool_list | exact kb_int_bool | exact kb_int_int | exact kb_int_str | exact kb_int_tuple | exact kb_int_list | exact kb_str_bool | exact kb_str_int | exact kb_str_str | exact kb_str_tuple | exact kb_str_list | exact kb_tuple_bool | exact kb_tuple_int | exact kb_tuple_str | exact kb_tuple_tuple | exact kb_tuple_list | exact kb_list_bool | exact kb_list_int | exact kb_list_str | exact kb_list_tuple | exact kb_list_list))))
local macro_rules | `(tactic| walk_at "step") => `(tactic| ((with_reducible apply iIxT); (· walk_at "look"); (· rfl)))
local macro_rules | `(tactic| walk_at "step") => `(tactic| ((with_reducible apply iSetL); (· walk_at "look"); (· rfl)))
local macro_rules | `(tactic| walk_at "step") => `(tactic| ((with_reducible apply iLenL); (· walk_at "look")))
local macro_rules | `(tactic| walk_at "step") => `(tactic| ((with_reducible apply iIxL); (· walk_at "look"); (· rfl)))
local macro_rules | `(tactic| walk_at "step") => `(tactic| ((with_reducible apply iI); rotate_left; (· (first | (exact Or.inl ⟨by omega, by omega⟩) | (exact Or.inr ⟨by omega, by omega⟩) | (show (0:Int) < _; omega) | (show (0:Int) ≤ _; omega) | (exact ⟨by omega, by omega⟩) | (exact ⟨by decide, by decide, by decide⟩)))))
local macro_rules | `(tactic| walk_at "step") => `(tactic| ((with_reducible apply iAugK); (· rfl)))
local macro_rules | `(tactic| walk_at "step") => `(tactic| ((with_reducible apply iRngI); (· first | decide | omega); (· first | decide | omega)))
local macro_rules | `(tactic| walk_at "step") => `(tactic| (with_reducible refine iWPut ?_))
local macro_rules | `(tactic| walk_at "step") => `(tactic| (with_reducible refine iWGet ?_))
local macro_rules | `(tactic| walk_at "step") => `(tactic| (with_reducible refine iWNot ?_))
local macro_rules | `(tactic| walk_at "step") => `(tactic| (with_reducible refine iCombK ?_))
local macro_rules | `(tactic| walk_at "step") => `(tactic| (with_reducible refine iDc ?_))
local macro_rules | `(tactic| walk_at "step") => `(tactic| (with_reducible refine iPar ?_))
local macro_rules | `(tactic| walk_at "step") => `(tactic| (with_reducible refine iItS ?_))
local macro_rules | `(tactic| walk_at "step") => `(tactic| (with_reducible refine iIterS ?_))
local macro_rules | `(tactic| walk_at "step") => `(tactic| (with_reducible refine iIterT ?_))
local macro_rules | `(tactic| walk_at "step") => `(tactic| (with_reducible refine iZA ?_))
local macro_rules | `(tactic| walk_at "step") => `(tactic| (with_reducible refine iRg3 ?_))
local macro_rules | `(tactic| walk_at "step") => `(tactic| (with_reducible refine iRv ?_))
local macro_rules | `(tactic| walk_at "step") => `(tactic| (with_reducible refine iNoPart ?_))
local macro_rules | `(tactic| walk_at "step") => `(tactic| (with_reducible refine iPartI ?_))
local macro_rules | `(tactic| walk_at "step") => `(tactic| (with_reducible refine iPart ?_))
local macro_rules | `(tactic| walk_at "step") => `(tactic| (with_reducible refine iSl ?_))
local macro_rules | `(tactic| walk_at "step") => `(tactic| (with_reducible refine iDEa ?_))
local macro_rules | `(tactic| walk_at "step") => `(tactic| (with_reducible refine iGNil ?_))
local macro_rules | `(tactic| walk_at "step") => `(tactic| (with_reducible refine iGCons ?_))
local macro_rules | `(tactic| walk_at "step") => `(tactic| (with_reducible refine iZipK ?_))
local macro_rules | `(tactic| walk_at "step") => `(tactic| (with_reducible refine iRng2 ?_))
local macro_rules | `(tactic| walk_at "step") => `(tactic| (with_reducible refine iDPut ?_))
local macro_rules | `(tactic| walk_at "step") => `(tactic| (with_reducible refine iDNotIn ?_))
local macro_rules | `(tactic| walk_at "step") => `(tactic| (with_reducible refine iDIn ?_))
local macro_rules | `(tactic| walk_at "step") => `(tactic| (with_reducible refine iDGet ?_))
local macro_rules | `(tactic| walk_at "step") => `(tactic| (with_reducible refine iYes ?_))
local macro_rules | `(tactic| walk_at "step") => `(tactic| (with_reducible refine iLc ?_))
local macro_rules | `(tactic| walk_at "step") => `(tactic| (with_reducible refine iNeS ?_))
local macro_rules | `(tactic| walk_at "step") => `(tactic| (with_reducible refine iEqS ?_))
local macro_rules | `(tactic| walk_at "step") => `(tactic| (with_reducible refine iNeB ?_))
local macro_rules | `(tactic| walk_at "step") => `(tactic| (with_reducible refine iEqB ?_))
local macro_rules | `(tactic| walk_at "step") => `(tactic| (with_reducible refine iCont ?_))
local macro_rules | `(tactic| walk_at "step") => `(tactic| (with_reducible refine iBreak ?_))
local macro_rules | `(tactic| walk_at "step") => `(tactic| (with_reducible refine iIterL ?_))
local macro_rules | `(tactic| walk_at "step") => `(tactic| (with_reducible refine iTup ?_))
local macro_rules | `(tactic| walk_at "step") => `(tactic| (with_reducible refine iLst ?_))
local macro_rules | `(tactic| walk_at "step") => `(tactic| (with_reducible refine iSub ?_))
local macro_rules | `(tactic| walk_at "step") => `(tactic| (with_reducible refine iIpI ?_))
local macro_rules | `(tactic| walk_at "step") => `(tactic| (with_reducible refine iAugS ?_))
local macro_rules | `(tactic| walk_at "step") => `(tactic| (with_reducible refine iNotV ?_))
local macro_rules | `(tactic| walk_at "step") => `(tactic| (with_reducible refine iOrV ?_))
local macro_rules | `(tactic| walk_at "step") => `(tactic| (with_reducible refine iAndV ?_))
local macro_rules | `(tactic| walk_at "step") => `(tactic| (with_reducible refine iDGet1 ?_))
local macro_rules | `(tactic| walk_at "step") => `(tactic| (with_reducible refine iNotBl ?_))
local macro_rules | `(tactic| walk_at "step") => `(tactic| (with_reducible refine iIsB ?_))
local macro_rules | `(tactic| walk_at "step") => `(tactic| (with_reducible refine iIntB ?_))
local macro_rules | `(tactic| walk_at "step") => `(tactic| (with_reducible refine iPn ?_))
local macro_rules | `(tactic| walk_at "step") => `(tactic| (with_reducible refine iPr ?_))
local macro_rules | `(tactic| walk_at "step") => `(tactic| (with_reducible refine iRai ?_))
local macro_rules | `(tactic| walk_at "step") => `(tactic| (with_reducible refine iRev1 ?_))
local macro_rules | `(tactic| walk_at "step") => `(tactic| (with_reducible refine iBM ?_))
local macro_rules | `(tactic| walk_at "step") => `(tactic| (with_reducible refine iAugF ?_))
local macro_rules | `(tactic| walk_at "step") => `(tactic| (with_reducible refine iSto ?_))
local macro_rules | `(tactic| walk_at "step") => `(tactic| (with_reducible refine iFld ?_))
local macro_rules | `(tactic| walk_at "step") => `(tactic| (with_reducible refine iMakS ?_))
local macro_rules | `(tactic| walk_at "step") => `(tactic| (with_reducible refine iMak ?_))
local macro_rules | `(tactic| walk_at "step") => `(tactic| (with_reducible refine iMet ?_))
local macro_rules | `(tactic| walk_at "step") => `(tactic| (with_reducible refine iCalE ?_))
local macro_rules | `(tactic| walk_at "step") => `(tactic| (with_reducible refine ifDr ?_))
local macro_rules | `(tactic| walk_at "step") => `(tactic| (with_reducible refine ifNDr ?_))
local macro_rules | `(tactic| walk_at "step") => `(tactic| (with_reducible refine iTruI ?_))
local macro_rules | `(tactic| walk_at "step") => `(tactic| (with_reducible refine iNotN ?_))
local macro_rules | `(tactic| walk_at "step") => `(tactic| (with_reducible refine iIsN ?_))
local macro_rules | `(tactic| walk_at "step") => `(tactic| (with_reducible refine iRetN ?_))
local macro_rules | `(tactic| walk_at "step") => `(tactic| (with_reducible refine iU ?_))
local macro_rules | `(tactic| walk_at "step") => `(tactic| (with_reducible refine iUn ?_))
local macro_rules | `(tactic| walk_at "step") => `(tactic| (with_reducible refine iChain ?_))
local macro_rules | `(tactic| walk_at "step") => `(tactic| (with_reducible refine iIf ?_))
local macro_rules | `(tactic| walk_at "step") => `(tactic| (with_reducible refine iB ?_))
local macro_rules | `(tactic| walk_at "step") => `(tactic| (with_reducible refine iNot ?_))
local macro_rules | `(tactic| walk_at "step") => `(tactic| (with_reducible refine iOr ?_))
local macro_rules | `(tactic| walk_at "step") => `(tactic| (with_reducible refine iAnd ?_))
local macro_rules | `(tactic| walk_at "step") => `(tactic| (with_reducible refine iCal ?_))
local macro_rules | `(tactic| walk_at "step") => `(tactic| (with_reducible refine iRng ?_))
local macro_rules | `(tactic| walk_at "step") => `(tactic| (with_reducible refine iFor ?_))
local macro_rules | `(tactic| walk_at "step") => `(tactic| (with_reducible refine iInt ?_))
local macro_rules | `(tactic| walk_at "step") => `(tactic| (with_reducible refine iNeI ?_))
local macro_rules | `(tactic| walk_at "step") => `(tactic| (with_reducible refine iEqI ?_))
local macro_rules | `(tactic| walk_at "step") => `(tactic| (with_reducible refine iDrop ?_))
local macro_rules | `(tactic| walk_at "step") => `(tactic| (with_reducible refine iNext ?_))
local macro_rules | `(tactic| walk_at "step") => `(tactic| (with_reducible refine iRet ?_))
local macro_rules | `(tactic| walk_at "step") => `(tactic| (with_reducible refine iBl ?_))
local macro_rules | `(tactic| walk_at "step") => `(tactic| (with_reducible refine iTest ?_))
local macro_rules | `(tactic| walk_at "step") => `(tactic| (with_reducible refine iIfS ?_))
local macro_rules | `(tactic| walk_at "step") => `(tactic| (with_reducible refine iCB ?_))
local macro_rules | `(tactic| walk_at "step") => `(tactic| (with_reducible refine iNil ?_))
local macro_rules | `(tactic| walk_at "step") => `(tactic| (with_reducible refine iCons ?_))
local macro_rules | `(tactic| walk_at "step") => `(tactic| (with_reducible refine iI0 ?_))
local macro_rules | `(tactic| walk_at "step") => `(tactic| (with_reducible refine iOp ?_))
local macro_rules | `(tactic| walk_at "step") => `(tactic| (with_reducible refine iC ?_))
local macro_rules | `(tactic| walk_at "step") => `(tactic| ((with_reducible apply iVar); (· rfl)))
local macro_rules | `(tactic| walk_at "step") => `(tactic| ((with_reducible apply iName); (· repeat constructor)))
local macro_rules | `(tactic| walk_at "step") => `(tactic| (with_reducible refine iAsg ?_))
local macro_rules | `(tactic| walk_at "step") => `(tactic| (with_reducible refine iSeq ?_))
local macro_rules | `(tactic| walk_at "go") => `(tactic| (repeat walk_at "step"))
section
variable {P : Program} {w : World} {K : PySem.W.Frag} {mg : Str → Option Value} {base : Heap}
end
theorem all_mk {l : PySem.W.OpenLaw} {w : World} {K : PySem.W.Frag} {h : Heap} {mg : Str → Option Value} {fa : Addr} (X : K.In h) (G : h.Ns mainGlobals mg) (hfa : mg "law" = some (.ref fa))
    {f1 f2 f3 f4 f5 f6 f7 f8 f9 f10 f11 f12 f13 f14 f15 f16 f17 f18 f19 f20 f21 f22 f23 f24 f25 f26 f27 f28 f29 f30 f31 : Addr} {od1 od2 od3 od4 od5 od6 od7 od8 od9 od10 od11 od12 od13 od14 od15 od16 od17 od18 od19 od20 od21 od22 od23 od24 od25 od26 od27 od28 od29 od30 od31 an1 an2 an3 an4 an5 an6 an7 an8 an9 an10 an11 an12 an13 an14 an15 an16 an17 an18 an19 an20 an21 an22 an23 an24 an25 an26 an27 an28 an29 an30 an31 : Option Addr} {sl1 sl2 sl3 sl4 sl5 sl6 sl7 sl8 sl9 sl10 sl11 sl12 sl13 sl14 sl15 sl16 sl17 sl18 sl19 sl20 sl21 sl22 sl23 sl24 sl25 sl26 sl27 sl28 sl29 sl30 sl31 : Array (Option Value)} {oc1 oc2 oc3 oc4 oc5 oc6 oc7 oc8 oc9 oc10 oc11 oc12 oc13 oc14 oc15 oc16 oc17 oc18 oc19 oc20 oc21 oc22 oc23 oc24 oc25 oc26 oc27 oc28 oc29 oc30 oc31 kV1 kV2 kV3 kV4 kV5 kV6 kV7 kV8 kV9 kV10 kV11 kV12 kV13 kV14 kV15 kV16 kV17 kV18 kV19 kV20 kV21 kV22 kV23 kV24 kV25 kV26 kV27 kV28 kV29 kV30 kV31 dc1 dc2 dc3 dc4 dc5 dc6 dc7 dc8 dc9 dc10 dc11 dc12 dc13 dc14 dc15 dc16 dc17 dc18 dc19 dc20 dc21 dc22 dc23 dc24 dc25 dc26 dc27 dc28 dc29 dc30 dc31 pm1 pm2 pm3 pm4 pm5 pm6 pm7 pm8 pm9 pm10 pm11 pm12 pm13 pm14 pm15 pm16 pm17 pm18 pm19 pm20 pm21 pm22 pm23 pm24 pm25 pm26 pm27 pm28 pm29 pm30 pm31 cd1 cd2 cd3 cd4 cd5 cd6 cd7 cd8 cd9 cd10 cd11 cd12 cd13 cd14 cd15 cd16 cd17 cd18 cd19 cd20 cd21 cd22 cd23 cd24 cd25 cd26 cd27 cd28 cd29 cd30 cd31 ct1 ct2 ct3 ct4 ct5 ct6 ct7 ct8 ct9 ct10 ct11 ct12 ct13 ct14 ct15 ct16 ct17 ct18 ct19 ct20 ct21 ct22 ct23 ct24 ct25 ct26 ct27 ct28 ct29 ct30 ct31 : Value} {t_SECTOR : Tok}
    (a1 : PySem.W.nsIn K mainGlobals "double" = some (some (.ref f1)))
    (l1 : K.lookup f1 = some ⟨oc1, od1, .func (PySem.W.fnOf "double" "double" (defArgs s_double) (defBody s_double) (defScope s_double) .none kV1 dc1 pm1 an1 cd1 ct1), sl1⟩) (c1 : PySem.W.codeIn K cd1 "double" = true) (k1 : PySem.W.keepIn K (.ref f1) = true)
    (a2 : PySem.W.nsIn K mainGlobals "product" = some (some (.ref f2)))
    (l2 : K.lookup f2 = some ⟨oc2, od2, .func (PySem.W.fnOf "product" "product" (defArgs s_product) (defBody s_product) (defScope s_product) .none kV2 dc2 pm2 an2 cd2 ct2), sl2⟩) (c2 : PySem.W.codeIn K cd2 "product" = true) (k2 : PySem.W.keepIn K (.ref f2) = true)
    (a3 : PySem.W.nsIn K mainGlobals "inverse" = some (some (.ref f3)))
    (l3 : K.lookup f3 = some ⟨oc3, od3, .func (PySem.W.fnOf "inverse" "inverse" (defArgs s_inverse) (defBody s_inverse) (defScope s_inverse) .none kV3 dc3 pm3 an3 cd3 ct3), sl3⟩) (c3 : PySem.W.codeIn K cd3 "inverse" = true) (k3 : PySem.W.keepIn K (.ref f3) = true)
    (a4 : PySem.W.nsIn K mainGlobals "_law_times" = some (some (.ref f4)))
    (l4 : K.lookup f4 = some ⟨oc4, od4, .func (PySem.W.fnOf "_law_times" "_law_times" (defArgs s__law_times) (defBody s__law_times) (defScope s__law_times) .none kV4 dc4 pm4 an4 cd4 ct4), sl4⟩) (c4 : PySem.W.codeIn K cd4 "_law_times" = true) (k4 : PySem.W.keepIn K (.ref f4) = true)
    (a5 : PySem.W.nsIn K mainGlobals "products" = some (some (.ref f5)))
    (l5 : K.lookup f5 = some ⟨oc5, od5, .func (PySem.W.fnOf "products" "products" (defArgs s_products) (defBody s_products) (defScope s_products) .none kV5 dc5 pm5 an5 cd5 ct5), sl5⟩) (c5 : PySem.W.codeIn K cd5 "products" = true) (k5 : PySem.W.keepIn K (.ref f5) = true)
    (a6 : PySem.W.nsIn K mainGlobals "weight" = some (some (.ref f6)))
    (l6 : K.lookup f6 = some ⟨oc6, od6, .func (PySem.W.fnOf "weight" "weight" (defArgs s_weight) (defBody s_weight) (defScope s_weight) .none kV6 dc6 pm6 an6 cd6 ct6), sl6⟩) (c6 : PySem.W.codeIn K cd6 "weight" = true) (k6 : PySem.W.keepIn K (.ref f6) = true)
    (a7 : PySem.W.nsIn K mainGlobals "sector_at" = some (some (.ref f7)))
    (l7 : K.lookup f7 = some ⟨oc7, od7, .func (PySem.W.fnOf "sector_at" "sector_at" (defArgs s_sector_at) (defBody s_sector_at) (defScope s_sector_at) .none kV7 dc7 pm7 an7 cd7 ct7), sl7⟩) (c7 : PySem.W.codeIn K cd7 "sector_at" = true) (k7 : PySem.W.keepIn K (.ref f7) = true)
    (a8 : PySem.W.nsIn K mainGlobals "word_through" = some (some (.ref f8)))
    (l8 : K.lookup f8 = some ⟨oc8, od8, .func (PySem.W.fnOf "word_through" "word_through" (defArgs s_word_through) (defBody s_word_through) (defScope s_word_through) .none kV8 dc8 pm8 an8 cd8 ct8), sl8⟩) (c8 : PySem.W.codeIn K cd8 "word_through" = true) (k8 : PySem.W.keepIn K (.ref f8) = true)
    (a9 : PySem.W.nsIn K mainGlobals "_law_next" = some (some (.ref f9)))
    (l9 : K.lookup f9 = some ⟨oc9, od9, .func (PySem.W.fnOf "_law_next" "_law_next" (defArgs s__law_next) (defBody s__law_next) (defScope s__law_next) .none kV9 dc9 pm9 an9 cd9 ct9), sl9⟩) (c9 : PySem.W.codeIn K cd9 "_law_next" = true) (k9 : PySem.W.keepIn K (.ref f9) = true)
    (a10 : PySem.W.nsIn K mainGlobals "_law_same" = some (some (.ref f10)))
    (l10 : K.lookup f10 = some ⟨oc10, od10, .func (PySem.W.fnOf "_law_same" "_law_same" (defArgs s__law_same) (defBody s__law_same) (defScope s__law_same) .none kV10 dc10 pm10 an10 cd10 ct10), sl10⟩) (c10 : PySem.W.codeIn K cd10 "_law_same" = true) (k10 : PySem.W.keepIn K (.ref f10) = true)
    (a11 : PySem.W.nsIn K mainGlobals "_law_sector" = some (some (.ref f11)))
    (l11 : K.lookup f11 = some ⟨oc11, od11, .func (PySem.W.fnOf "_law_sector" "_law_sector" (defArgs s__law_sector) (defBody s__law_sector) (defScope s__law_sector) .none kV11 dc11 pm11 an11 cd11 ct11), sl11⟩) (c11 : PySem.W.codeIn K cd11 "_law_sector" = true) (k11 : PySem.W.keepIn K (.ref f11) = true)
    (a12 : PySem.W.nsIn K mainGlobals "_law_sizes" = some (some (.ref f12)))
    (l12 : K.lookup f12 = some ⟨oc12, od12, .func (PySem.W.fnOf "_law_sizes" "_law_sizes" (defArgs s__law_sizes) (defBody s__law_sizes) (defScope s__law_sizes) .none kV12 dc12 pm12 an12 cd12 ct12), sl12⟩) (c12 : PySem.W.codeIn K cd12 "_law_sizes" = true) (k12 : PySem.W.keepIn K (.ref f12) = true)
    (a13 : PySem.W.nsIn K mainGlobals "_law_inverse" = some (some (.ref f13)))
    (l13 : K.lookup f13 = some ⟨oc13, od13, .func (PySem.W.fnOf "_law_inverse" "_law_inverse" (defArgs s__law_inverse) (defBody s__law_inverse) (defScope s__law_inverse) .none kV13 dc13 pm13 an13 cd13 ct13), sl13⟩) (c13 : PySem.W.codeIn K cd13 "_law_inverse" = true) (k13 : PySem.W.keepIn K (.ref f13) = true)
    (a14 : PySem.W.nsIn K mainGlobals "_law_weight" = some (some (.ref f14)))
    (l14 : K.lookup f14 = some ⟨oc14, od14, .func (PySem.W.fnOf "_law_weight" "_law_weight" (defArgs s__law_weight) (defBody s__law_weight) (defScope s__law_weight) .none kV14 dc14 pm14 an14 cd14 ct14), sl14⟩) (c14 : PySem.W.codeIn K cd14 "_law_weight" = true) (k14 : PySem.W.keepIn K (.ref f14) = true)
    (a15 : PySem.W.nsIn K mainGlobals "_law_sector_at" = some (some (.ref f15)))
    (l15 : K.lookup f15 = some ⟨oc15, od15, .func (PySem.W.fnOf "_law_sector_at" "_law_sector_at" (defArgs s__law_sector_at) (defBody s__law_sector_at) (defScope s__law_sector_at) .none kV15 dc15 pm15 an15 cd15 ct15), sl15⟩) (c15 : PySem.W.codeIn K cd15 "_law_sector_at" = true) (k15 : PySem.W.keepIn K (.ref f15) = true)
    (a16 : PySem.W.nsIn K mainGlobals "_law_word" = some (some (.ref f16)))
    (l16 : K.lookup f16 = some ⟨oc16, od16, .func (PySem.W.fnOf "_law_word" "_law_word" (defArgs s__law_word) (defBody s__law_word) (defScope s__law_word) .none kV16 dc16 pm16 an16 cd16 ct16), sl16⟩) (c16 : PySem.W.codeIn K cd16 "_law_word" = true) (k16 : PySem.W.keepIn K (.ref f16) = true)
    (a17 : PySem.W.nsIn K mainGlobals "readable" = some (some (.ref f17)))
    (l17 : K.lookup f17 = some ⟨oc17, od17, .func (PySem.W.fnOf "readable" "readable" (defArgs s_readable) (defBody s_readable) (defScope s_readable) .none kV17 dc17 pm17 an17 cd17 ct17), sl17⟩) (c17 : PySem.W.codeIn K cd17 "readable" = true) (k17 : PySem.W.keepIn K (.ref f17) = true)
    (a18 : PySem.W.nsIn K mainGlobals "_law_packed" = some (some (.ref f18)))
    (l18 : K.lookup f18 = some ⟨oc18, od18, .func (PySem.W.fnOf "_law_packed" "_law_packed" (defArgs s__law_packed) (defBody s__law_packed) (defScope s__law_packed) .none kV18 dc18 pm18 an18 cd18 ct18), sl18⟩) (c18 : PySem.W.codeIn K cd18 "_law_packed" = true) (k18 : PySem.W.keepIn K (.ref f18) = true)
    (a19 : PySem.W.nsIn K mainGlobals "_law_subsets" = some (some (.ref f19)))
    (l19 : K.lookup f19 = some ⟨oc19, od19, .func (PySem.W.fnOf "_law_subsets" "_law_subsets" (defArgs s__law_subsets) (defBody s__law_subsets) (defScope s__law_subsets) .none kV19 dc19 pm19 an19 cd19 ct19), sl19⟩) (c19 : PySem.W.codeIn K cd19 "_law_subsets" = true) (k19 : PySem.W.keepIn K (.ref f19) = true)
    (a20 : PySem.W.nsIn K mainGlobals "_law_doubled" = some (some (.ref f20)))
    (l20 : K.lookup f20 = some ⟨oc20, od20, .func (PySem.W.fnOf "_law_doubled" "_law_doubled" (defArgs s__law_doubled) (defBody s__law_doubled) (defScope s__law_doubled) .none kV20 dc20 pm20 an20 cd20 ct20), sl20⟩) (c20 : PySem.W.codeIn K cd20 "_law_doubled" = true) (k20 : PySem.W.keepIn K (.ref f20) = true)
    (a21 : PySem.W.nsIn K mainGlobals "_law_scaled" = some (some (.ref f21)))
    (l21 : K.lookup f21 = some ⟨oc21, od21, .func (PySem.W.fnOf "_law_scaled" "_law_scaled" (defArgs s__law_scaled) (defBody s__law_scaled) (defScope s__law_scaled) .none kV21 dc21 pm21 an21 cd21 ct21), sl21⟩) (c21 : PySem.W.codeIn K cd21 "_law_scaled" = true) (k21 : PySem.W.keepIn K (.ref f21) = true)
    (a22 : PySem.W.nsIn K mainGlobals "accepted" = some (some (.ref f22)))
    (l22 : K.lookup f22 = some ⟨oc22, od22, .func (PySem.W.fnOf "accepted" "accepted" (defArgs s_accepted) (defBody s_accepted) (defScope s_accepted) .none kV22 dc22 pm22 an22 cd22 ct22), sl22⟩) (c22 : PySem.W.codeIn K cd22 "accepted" = true) (k22 : PySem.W.keepIn K (.ref f22) = true)
    (a23 : PySem.W.nsIn K mainGlobals "read_word" = some (some (.ref f23)))
    (l23 : K.lookup f23 = some ⟨oc23, od23, .func (PySem.W.fnOf "read_word" "read_word" (defArgs s_read_word) (defBody s_read_word) (defScope s_read_word) .none kV23 dc23 pm23 an23 cd23 ct23), sl23⟩) (c23 : PySem.W.codeIn K cd23 "read_word" = true) (k23 : PySem.W.keepIn K (.ref f23) = true)
    (a24 : PySem.W.nsIn K mainGlobals "vote" = some (some (.ref f24)))
    (l24 : K.lookup f24 = some ⟨oc24, od24, .func (PySem.W.fnOf "vote" "vote" (defArgs s_vote) (defBody s_vote) (defScope s_vote) .none kV24 dc24 pm24 an24 cd24 ct24), sl24⟩) (c24 : PySem.W.codeIn K cd24 "vote" = true) (k24 : PySem.W.keepIn K (.ref f24) = true)
    (a25 : PySem.W.nsIn K mainGlobals "_law_weight_of" = some (some (.ref f25)))
    (l25 : K.lookup f25 = some ⟨oc25, od25, .func (PySem.W.fnOf "_law_weight_of" "_law_weight_of" (defArgs s__law_weight_of) (defBody s__law_weight_of) (defScope s__law_weight_of) .none kV25 dc25 pm25 an25 cd25 ct25), sl25⟩) (c25 : PySem.W.codeIn K cd25 "_law_weight_of" = true) (k25 : PySem.W.keepIn K (.ref f25) = true)
    (a26 : PySem.W.nsIn K mainGlobals "_law_told" = some (some (.ref f26)))
    (l26 : K.lookup f26 = some ⟨oc26, od26, .func (PySem.W.fnOf "_law_told" "_law_told" (defArgs s__law_told) (defBody s__law_told) (defScope s__law_told) .none kV26 dc26 pm26 an26 cd26 ct26), sl26⟩) (c26 : PySem.W.codeIn K cd26 "_law_told" = true) (k26 : PySem.W.keepIn K (.ref f26) = true)
    (a27 : PySem.W.nsIn K mainGlobals "_law_accepted" = some (some (.ref f27)))
    (l27 : K.lookup f27 = some ⟨oc27, od27, .func (PySem.W.fnOf "_law_accepted" "_law_accepted" (defArgs s__law_accepted) (defBody s__law_accepted) (defScope s__law_accepted) .none kV27 dc27 pm27 an27 cd27 ct27), sl27⟩) (c27 : PySem.W.codeIn K cd27 "_law_accepted" = true) (k27 : PySem.W.keepIn K (.ref f27) = true)
    (a28 : PySem.W.nsIn K mainGlobals "_law_cells" = some (some (.ref f28)))
    (l28 : K.lookup f28 = some ⟨oc28, od28, .func (PySem.W.fnOf "_law_cells" "_law_cells" (defArgs s__law_cells) (defBody s__law_cells) (defScope s__law_cells) .none kV28 dc28 pm28 an28 cd28 ct28), sl28⟩) (c28 : PySem.W.codeIn K cd28 "_law_cells" = true) (k28 : PySem.W.keepIn K (.ref f28) = true)
    (a29 : PySem.W.nsIn K mainGlobals "_law_read" = some (some (.ref f29)))
    (l29 : K.lookup f29 = some ⟨oc29, od29, .func (PySem.W.fnOf "_law_read" "_law_read" (defArgs s__law_read) (defBody s__law_read) (defScope s__law_read) .none kV29 dc29 pm29 an29 cd29 ct29), sl29⟩) (c29 : PySem.W.codeIn K cd29 "_law_read" = true) (k29 : PySem.W.keepIn K (.ref f29) = true)
    (a30 : PySem.W.nsIn K mainGlobals "_law_vote" = some (some (.ref f30)))
    (l30 : K.lookup f30 = some ⟨oc30, od30, .func (PySem.W.fnOf "_law_vote" "_law_vote" (defArgs s__law_vote) (defBody s__law_vote) (defScope s__law_vote) .none kV30 dc30 pm30 an30 cd30 ct30), sl30⟩) (c30 : PySem.W.codeIn K cd30 "_law_vote" = true) (k30 : PySem.W.keepIn K (.ref f30) = true)
    (a31 : PySem.W.nsIn K mainGlobals "law" = some (some (.ref f31)))
    (l31 : K.lookup f31 = some ⟨oc31, od31, .func (PySem.W.fnOf "law" "law" (defArgs s_law) (defBody s_law) (defScope s_law) .none kV31 dc31 pm31 an31 cd31 ct31), sl31⟩) (c31 : PySem.W.codeIn K cd31 "law" = true) (k31 : PySem.W.keepIn K (.ref f31) = true)
    (x_comb : PySem.W.nsIn K mainGlobals "combinations" = some (some (.type "itertools.combinations")))
    (z_all : PySem.W.nsIn K mainGlobals "all" = some none)
    (z_bool : PySem.W.nsIn K mainGlobals "bool" = some none)
    (z_int : PySem.W.nsIn K mainGlobals "int" = some none)
    (z_isinstance : PySem.W.nsIn K mainGlobals "isinstance" = some none)
    (z_len : PySem.W.nsIn K mainGlobals "len" = some none)
    (z_list : PySem.W.nsIn K mainGlobals "list" = some none)
    (z_min : PySem.W.nsIn K mainGlobals "min" = some none)
    (z_range : PySem.W.nsIn K mainGlobals "range" = some none)
    (z_sorted : PySem.W.nsIn K mainGlobals "sorted" = some none)
    (z_str : PySem.W.nsIn K mainGlobals "str" = some none)
    (z_tuple : PySem.W.nsIn K mainGlobals "tuple" = some none)
    (z_zip : PySem.W.nsIn K mainGlobals "zip" = some none)
    (v_SECTOR : PySem.W.nsIn K mainGlobals "SECTOR" = some (some (.int 32 t_SECTOR))) :
    ∃ fd : FuncData, (∀ (s : Shared) (v : Value), BindsTo s fd ⟨[v], []⟩ [("script", v)]) ∧ ∀ base : Heap, K.In base → base.Ns mainGlobals mg → FnOk l.prog w K mg base CX0 9 fa fd ["script"] (sp_law K) := by
  have e := hfa.symm.trans (PySem.W.mg_of X G a31)
  cases e
  have F_double := fun_mk (st := s_double) l1 c1 k1
  have g_double := PySem.W.mg_of X G a1
  have b_double := F_double.binds (ps := ["a"]) fun _ _ _ _ _ _ us hl => match us, hl with | [_], _ => rfl
  have F_product := fun_mk (st := s_product) l2 c2 k2
  have g_product := PySem.W.mg_of X G a2
  have b_product := F_product.binds (ps := ["a", "b"]) fun _ _ _ _ _ _ us hl => match us, hl with | [_, _], _ => rfl
  have F_inverse := fun_mk (st := s_inverse) l3 c3 k3
  have g_inverse := PySem.W.mg_of X G a3
  have b_inverse := F_inverse.binds (ps := ["a"]) fun _ _ _ _ _ _ us hl => match us, hl with | [_], _ => rfl
  have F__law_times := fun_mk (st := s__law_times) l4 c4 k4
  have g__law_times := PySem.W.mg_of X G a4
  have b__law_times := F__law_times.binds (ps := ["a", "b"]) fun _ _ _ _ _ _ us hl => match us, hl with | [_, _], _ => rfl
  have F_products := fun_mk (st := s_products) l5 c5 k5
  have g_products := PySem.W.mg_of X G a5
  have b_products := F_products.binds (ps := ["a"]) fun _ _ _ _ _ _ us hl => match us, hl with | [_], _ => rfl
  have F_weight := fun_mk (st := s_weight) l6 c6 k6
  have g_weight := PySem.W.mg_of X G a6
  have b_weight := F_weight.binds (ps := ["x", "places", "i"]) fun _ _ _ _ _ _ us hl => match us, hl with | [_, _, _], _ => rfl
  have F_sector_at := fun_mk (st := s_sector_at) l7 c7 k7
  have g_sector_at := PySem.W.mg_of X G a7
  have b_sector_at := F_sector_at.binds (ps := ["x", "given"]) fun _ _ _ _ _ _ us hl => match us, hl with | [_, _], _ => rfl
  have F_word_through := fun_mk (st := s_word_through) l8 c8 k8
  have g_word_through := PySem.W.mg_of X G a8
  have b_word_through := F_word_through.binds (ps := ["given", "n"]) fun _ _ _ _ _ _ us hl => match us, hl with | [_, _], _ => rfl
  have F__law_next := fun_mk (st := s__law_next) l9 c9 k9
  have g__law_next := PySem.W.mg_of X G a9
  have b__law_next := F__law_next.binds (ps := ["state", "limit"]) fun _ _ _ _ _ _ us hl => match us, hl with | [_, _], _ => rfl
  have F__law_same := fun_mk (st := s__law_same) l10 c10 k10
  have g__law_same := PySem.W.mg_of X G a10
  have b__law_same := F__law_same.binds (ps := ["actual", "expected"]) fun _ _ _ _ _ _ us hl => match us, hl with | [_, _], _ => rfl
  have F__law_sector := fun_mk (st := s__law_sector) l11 c11 k11
  have g__law_sector := PySem.W.mg_of X G a11
  have b__law_sector := F__law_sector.binds (ps := ["state"]) fun _ _ _ _ _ _ us hl => match us, hl with | [_], _ => rfl
  have F__law_sizes := fun_mk (st := s__law_sizes) l12 c12 k12
  have g__law_sizes := PySem.W.mg_of X G a12
  have b__law_sizes := F__law_sizes.binds (ps := ["state"]) fun _ _ _ _ _ _ us hl => match us, hl with | [_], _ => rfl
  have F__law_inverse := fun_mk (st := s__law_inverse) l13 c13 k13
  have g__law_inverse := PySem.W.mg_of X G a13
  have b__law_inverse := F__law_inverse.binds (ps := ["a"]) fun _ _ _ _ _ _ us hl => match us, hl with | [_], _ => rfl
  have F__law_weight := fun_mk (st := s__law_weight) l14 c14 k14
  have g__law_weight := PySem.W.mg_of X G a14
  have b__law_weight := F__law_weight.binds (ps := ["x", "places", "i"]) fun _ _ _ _ _ _ us hl => match us, hl with | [_, _, _], _ => rfl
  have F__law_sector_at := fun_mk (st := s__law_sector_at) l15 c15 k15
  have g__law_sector_at := PySem.W.mg_of X G a15
  have b__law_sector_at := F__law_sector_at.binds (ps := ["x", "given"]) fun _ _ _ _ _ _ us hl => match us, hl with | [_, _], _ => rfl
  have F__law_word := fun_mk (st := s__law_word) l16 c16 k16
  have g__law_word := PySem.W.mg_of X G a16
  have b__law_word := F__law_word.binds (ps := ["parts", "n"]) fun _ _ _ _ _ _ us hl => match us, hl with | [_, _], _ => rfl
  have F_readable := fun_mk (st := s_readable) l17 c17 k17
  have g_readable := PySem.W.mg_of X G a17
  have b_readable := F_readable.binds (ps := ["cells", "most"]) fun _ _ _ _ _ _ us hl => match us, hl with | [_, _], _ => rfl
  have F__law_packed := fun_mk (st := s__law_packed) l18 c18 k18
  have g__law_packed := PySem.W.mg_of X G a18
  have b__law_packed := F__law_packed.binds (ps := ["sector"]) fun _ _ _ _ _ _ us hl => match us, hl with | [_], _ => rfl
  have F__law_subsets := fun_mk (st := s__law_subsets) l19 c19 k19
  have g__law_subsets := PySem.W.mg_of X G a19
  have b__law_subsets := F__law_subsets.binds (ps := ["places", "count"]) fun _ _ _ _ _ _ us hl => match us, hl with | [_, _], _ => rfl
  have F__law_doubled := fun_mk (st := s__law_doubled) l20 c20 k20
  have g__law_doubled := PySem.W.mg_of X G a20
  have b__law_doubled := F__law_doubled.binds (ps := ["number"]) fun _ _ _ _ _ _ us hl => match us, hl with | [_], _ => rfl
  have F__law_scaled := fun_mk (st := s__law_scaled) l21 c21 k21
  have g__law_scaled := PySem.W.mg_of X G a21
  have b__law_scaled := F__law_scaled.binds (ps := ["number", "factor"]) fun _ _ _ _ _ _ us hl => match us, hl with | [_, _], _ => rfl
  have F_accepted := fun_mk (st := s_accepted) l22 c22 k22
  have g_accepted := PySem.W.mg_of X G a22
  have b_accepted := F_accepted.binds (ps := ["cells", "k", "s"]) fun _ _ _ _ _ _ us hl => match us, hl with | [_, _, _], _ => rfl
  have F_read_word := fun_mk (st := s_read_word) l23 c23 k23
  have g_read_word := PySem.W.mg_of X G a23
  have b_read_word := F_read_word.binds (ps := ["cells", "k", "s"]) fun _ _ _ _ _ _ us hl => match us, hl with | [_, _, _], _ => rfl
  have F_vote := fun_mk (st := s_vote) l24 c24 k24
  have g_vote := PySem.W.mg_of X G a24
  have b_vote := F_vote.binds (ps := ["cells", "s"]) fun _ _ _ _ _ _ us hl => match us, hl with | [_, _], _ => rfl
  have F__law_weight_of := fun_mk (st := s__law_weight_of) l25 c25 k25
  have g__law_weight_of := PySem.W.mg_of X G a25
  have b__law_weight_of := F__law_weight_of.binds (ps := ["x", "places", "i", "weights"]) fun _ _ _ _ _ _ us hl => match us, hl with | [_, _, _, _], _ => rfl
  have F__law_told := fun_mk (st := s__law_told) l26 c26 k26
  have g__law_told := PySem.W.mg_of X G a26
  have b__law_told := F__law_told.binds (ps := ["cells", "chosen", "places", "weights"]) fun _ _ _ _ _ _ us hl => match us, hl with | [_, _, _, _], _ => rfl
  have F__law_accepted := fun_mk (st := s__law_accepted) l27 c27 k27
  have g__law_accepted := PySem.W.mg_of X G a27
  have b__law_accepted := F__law_accepted.binds (ps := ["cells", "k", "s"]) fun _ _ _ _ _ _ us hl => match us, hl with | [_, _, _], _ => rfl
  have F__law_cells := fun_mk (st := s__law_cells) l28 c28 k28
  have g__law_cells := PySem.W.mg_of X G a28
  have b__law_cells := F__law_cells.binds (ps := ["state", "n", "k"]) fun _ _ _ _ _ _ us hl => match us, hl with | [_, _, _], _ => rfl
  have F__law_read := fun_mk (st := s__law_read) l29 c29 k29
  have g__law_read := PySem.W.mg_of X G a29
  have b__law_read := F__law_read.binds (ps := ["cells", "k", "s", "due"]) fun _ _ _ _ _ _ us hl => match us, hl with | [_, _, _, _], _ => rfl
  have F__law_vote := fun_mk (st := s__law_vote) l30 c30 k30
  have g__law_vote := PySem.W.mg_of X G a30
  have b__law_vote := F__law_vote.binds (ps := ["cells", "s"]) fun _ _ _ _ _ _ us hl => match us, hl with | [_, _], _ => rfl
  have F_law := fun_mk (st := s_law) l31 c31 k31
  have g_law := PySem.W.mg_of X G a31
  have b_law := F_law.binds (ps := ["script"]) fun _ _ _ _ _ _ us hl => match us, hl with | [_], _ => rfl
  have gC := PySem.W.mg_of X G x_comb
  have M : Mg mg := ⟨PySem.W.mg_none_of X G z_all, PySem.W.mg_none_of X G z_bool, PySem.W.mg_none_of X G z_int, PySem.W.mg_none_of X G z_isinstance, PySem.W.mg_none_of X G z_len, PySem.W.mg_none_of X G z_list, PySem.W.mg_none_of X G z_min, PySem.W.mg_none_of X G z_range, PySem.W.mg_none_of X G z_sorted, PySem.W.mg_none_of X G z_str, PySem.W.mg_none_of X G z_tuple, PySem.W.mg_none_of X G z_zip, ⟨_, PySem.W.mg_of X G v_SECTOR⟩⟩
  refine ⟨(PySem.W.fnOf "law" "law" (defArgs s_law) (defBody s_law) (defScope s_law) .none kV31 dc31 pm31 an31 cd31 ct31), fun s v => .of_eq rfl, fun base _ _ => ?_⟩

  have c_double : Cal l.prog w K mg base 1 "double" ["a"] sp_double := .mk' F_double g_double b_double (ok_double M F_double)
  have c_product : Cal l.prog w K mg base 2 "product" ["a", "b"] sp_product := .mk' F_product g_product b_product (ok_product M F_product c_double)
  have c_inverse : Cal l.prog w K mg base 3 "inverse" ["a"] sp_inverse := .mk' F_inverse g_inverse b_inverse (ok_inverse M F_inverse c_product)
  have c__law_times : Cal l.prog w K mg base 1 "_law_times" ["a", "b"] sp__law_times := .mk' F__law_times g__law_times b__law_times (ok__law_times M F__law_times)
  have c_products : Cal l.prog w K mg base 2 "products" ["a"] sp_products := .mk' F_products g_products b_products (ok_products M F_products c_double)
  have c_weight : Cal l.prog w K mg base 4 "weight" ["x", "places", "i"] sp_weight := .mk' F_weight g_weight b_weight (ok_weight M F_weight c_product c_inverse)
  have c_sector_at : Cal l.prog w K mg base 5 "sector_at" ["x", "given"] sp_sector_at := .mk' F_sector_at g_sector_at b_sector_at (ok_sector_at M F_sector_at c_products c_weight)
  have c_word_through : Cal l.prog w K mg base 6 "word_through" ["given", "n"] sp_word_through := .mk' F_word_through g_word_through b_word_through (ok_word_through M F_word_through c_sector_at)
  have c__law_next : Cal l.prog w K mg base 1 "_law_next" ["state", "limit"] sp__law_next := .mk' F__law_next g__law_next b__law_next (ok__law_next M F__law_next)
  have c__law_same : Cal l.prog w K mg base 4 "_law_same" ["actual", "expected"] (sp__law_same 4) := .mk' F__law_same g__law_same b__law_same (ok__law_same M F__law_same g__law_same b__law_same 4)
  have c__law_sector : Cal l.prog w K mg base 2 "_law_sector" ["state"] sp__law_sector := .mk' F__law_sector g__law_sector b__law_sector (ok__law_sector M F__law_sector c__law_next)
  have c__law_sizes : Cal l.prog w K mg base 2 "_law_sizes" ["state"] sp__law_sizes := .mk' F__law_sizes g__law_sizes b__law_sizes (ok__law_sizes M F__law_sizes c__law_next)
  have c__law_inverse : Cal l.prog w K mg base 2 "_law_inverse" ["a"] sp__law_inverse := .mk' F__law_inverse g__law_inverse b__law_inverse (ok__law_inverse M F__law_inverse c__law_times)
  have c__law_weight : Cal l.prog w K mg base 3 "_law_weight" ["x", "places", "i"] sp__law_weight := .mk' F__law_weight g__law_weight b__law_weight (ok__law_weight M F__law_weight c__law_times c__law_inverse)
  have c__law_sector_at : Cal l.prog w K mg base 4 "_law_sector_at" ["x", "given"] sp__law_sector_at := .mk' F__law_sector_at g__law_sector_at b__law_sector_at (ok__law_sector_at M F__law_sector_at c__law_times c__law_weight)
  have c__law_word : Cal l.prog w K mg base 5 "_law_word" ["parts", "n"] sp__law_word := .mk' F__law_word g__law_word b__law_word (ok__law_word M F__law_word c__law_sector_at)
  have c_readable : Cal l.prog w K mg base 1 "readable" ["cells", "most"] sp_readable := .mk' F_readable g_readable b_readable (ok_readable M F_readable)
  have c__law_packed : Cal l.prog w K mg base 1 "_law_packed" ["sector"] sp_packed := .mk' F__law_packed g__law_packed b__law_packed (ok_packed M F__law_packed)
  have c__law_subsets : Cal l.prog w K mg base 1 "_law_subsets" ["places", "count"] sp_subsets := .mk' F__law_subsets g__law_subsets b__law_subsets (ok_subsets M F__law_subsets)
  have c__law_doubled : Cal l.prog w K mg base 1 "_law_doubled" ["number"] sp_doubled := .mk' F__law_doubled g__law_doubled b__law_doubled (ok_doubled M F__law_doubled)
  have c__law_scaled : Cal l.prog w K mg base 2 "_law_scaled" ["number", "factor"] sp_scaled := .mk' F__law_scaled g__law_scaled b__law_scaled (ok_scaled M F__law_scaled c__law_doubled)
  have c_accepted : Cal l.prog w K mg base 7 "accepted" ["cells", "k", "s"] sp_accepted := .mk' F_accepted g_accepted b_accepted (ok_accepted M gC F_accepted c_readable c_word_through)
  have c_read_word : Cal l.prog w K mg base 8 "read_word" ["cells", "k", "s"] sp_read_word := .mk' F_read_word g_read_word b_read_word (ok_read_word M F_read_word c_readable c_word_through c_accepted)
  have c_vote : Cal l.prog w K mg base 1 "vote" ["cells", "s"] sp_vote := .mk' F_vote g_vote b_vote (ok_vote M F_vote)
  have c__law_weight_of : Cal l.prog w K mg base 3 "_law_weight_of" ["x", "places", "i", "weights"] (sp_weight_of w) := .mk' F__law_weight_of g__law_weight_of b__law_weight_of (ok_weight_of M F__law_weight_of c__law_times c__law_inverse)
  have c__law_told : Cal l.prog w K mg base 4 "_law_told" ["cells", "chosen", "places", "weights"] (sp_told w) := .mk' F__law_told g__law_told b__law_told (ok_told M F__law_told c__law_scaled c__law_weight_of)
  have c__law_accepted : Cal l.prog w K mg base 5 "_law_accepted" ["cells", "k", "s"] sp_laccepted := .mk' F__law_accepted g__law_accepted b__law_accepted (ok_laccepted M F__law_accepted c__law_packed c__law_subsets c__law_told c__law_sector_at)
  have c__law_cells : Cal l.prog w K mg base 6 "_law_cells" ["state", "n", "k"] sp_cells := .mk' F__law_cells g__law_cells b__law_cells (ok_cells M F__law_cells c__law_next c__law_sector c__law_word)
  have c__law_read : Cal l.prog w K mg base 5 "_law_read" ["cells", "k", "s", "due"] sp_lread := .mk' F__law_read g__law_read b__law_read (ok_lread M F__law_read c__law_sector_at)
  have c__law_vote : Cal l.prog w K mg base 1 "_law_vote" ["cells", "s"] sp_lvote := .mk' F__law_vote g__law_vote b__law_vote (ok_lvote M F__law_vote)
  exact ok_law M F_law c__law_next c__law_same c__law_sizes c__law_cells c__law_accepted c__law_read c__law_vote c_accepted c_read_word c_vote
end R
open PySem PySem.W PyProof.Rows
set_option maxHeartbeats 0 in
theorem PySem.Challenge.cw_rotward_k22_accepted_words_holds : PySem.Challenge.rw_rotward_k22_accepted_words.Holds := by
  w_on; o_law; k_head; (case hw => w_witness2)
  k_fill
  refine L2.walk_of (l := PySem.Challenge.rw_rotward_k22_accepted_words) (n := 63) (k := 9) (x := "script") (CX := fun _ => L2.CX0) (sp := fun w => R.sp_law _) rfl (by decide) rfl ⟨rfl, by decide, by decide⟩ (fun w h Y => PySem.W.kIn_of Y) ?F (fun _ _ a ns hl _ hS => ⟨a, ns, rfl, hS, hl, fun _ => rfl⟩) (fun _ _ _ _ _ h => h)
  case F =>
    intro w mg fa h KX G hmg
    refine' R.all_mk KX G hmg ?a1 ?l1 ?c1 ?k1 ?a2 ?l2 ?c2 ?k2 ?a3 ?l3 ?c3 ?k3 ?a4 ?l4 ?c4 ?k4 ?a5 ?l5 ?c5 ?k5 ?a6 ?l6 ?c6 ?k6 ?a7 ?l7 ?c7 ?k7 ?a8 ?l8 ?c8 ?k8 ?a9 ?l9 ?c9 ?k9 ?a10 ?l10 ?c10 ?k10 ?a11 ?l11 ?c11 ?k11 ?a12 ?l12 ?c12 ?k12 ?a13 ?l13 ?c13 ?k13 ?a14 ?l14 ?c14 ?k14 ?a15 ?l15 ?c15 ?k15 ?a16 ?l16 ?c16 ?k16 ?a17 ?l17 ?c17 ?k17 ?a18 ?l18 ?c18 ?k18 ?a19 ?l19 ?c19 ?k19 ?a20 ?l20 ?c20 ?k20 ?a21 ?l21 ?c21 ?k21 ?a22 ?l22 ?c22 ?k22 ?a23 ?l23 ?c23 ?k23 ?a24 ?l24 ?c24 ?k24 ?a25 ?l25 ?c25 ?k25 ?a26 ?l26 ?c26 ?k26 ?a27 ?l27 ?c27 ?k27 ?a28 ?l28 ?c28 ?k28 ?a29 ?l29 ?c29 ?k29 ?a30 ?l30 ?c30 ?k30 ?a31 ?l31 ?c31 ?k31 ?x_comb ?z_all ?z_bool ?z_int ?z_isinstance ?z_len ?z_list ?z_min ?z_range ?z_sorted ?z_str ?z_tuple ?z_zip ?v_SECTOR
    (first | (case a1 => k_is) | exact bad_a1); (first | (case l1 => k_is) | exact bad_l1); (first | (case c1 => k_is) | exact bad_c1); (first | (case k1 => k_is) | exact bad_k1); (first | (case a2 => k_is) | exact bad_a2); (first | (case l2 => k_is) | exact bad_l2); (first | (case c2 => k_is) | exact bad_c2); (first | (case k2 => k_is) | exact bad_k2); (first | (case a3 => k_is) | exact bad_a3); (first | (case l3 => k_is) | exact bad_l3); (first | (case c3 => k_is) | exact bad_c3); (first | (case k3 => k_is) | exact bad_k3); (first | (case a4 => k_is) | exact bad_a4); (first | (case l4 => k_is) | exact bad_l4); (first | (case c4 => k_is) | exact bad_c4); (first | (case k4 => k_is) | exact bad_k4); (first | (case a5 => k_is) | exact bad_a5); (first | (case l5 => k_is) | exact bad_l5); (first | (case c5 => k_is) | exact bad_c5); (first | (case k5 => k_is) | exact bad_k5); (first | (case a6 => k_is) | exact bad_a6); (first | (case l6 => k_is) | exact bad_l6); (first | (case c6 => k_is) | exact bad_c6); (first | (case k6 => k_is) | exact bad_k6); (first | (case a7 => k_is) | exact bad_a7); (first | (case l7 => k_is) | exact bad_l7); (first | (case c7 => k_is) | exact bad_c7); (first | (case k7 => k_is) | exact bad_k7); (first | (case a8 => k_is) | exact bad_a8); (first | (case l8 => k_is) | exact bad_l8); (first | (case c8 => k_is) | exact bad_c8); (first | (case k8 => k_is) | exact bad_k8); (first | (case a9 => k_is) | exact bad_a9); (first | (case l9 => k_is) | exact bad_l9); (first | (case c9 => k_is) | exact bad_c9); (first | (case k9 => k_is) | exact bad_k9); (first | (case a10 => k_is) | exact bad_a10); (first | (case l10 => k_is) | exact bad_l10); (first | (case c10 => k_is) | exact bad_c10); (first | (case k10 => k_is) | exact bad_k10); (first | (case a11 => k_is) | exact bad_a11); (first | (case l11 => k_is) | exact bad_l11); (first | (case c11 => k_is) | exact bad_c11); (first | (case k11 => k_is) | exact bad_k11); (first | (case a12 => k_is) | exact bad_a12); (first | (case l12 => k_is) | exact bad_l12); (first | (case c12 => k_is) | exact bad_c12); (first | (case k12 => k_is) | exact bad_k12); (first | (case a13 => k_is) | exact bad_a13); (first | (case l13 => k_is) | exact bad_l13); (first | (case c13 => k_is) | exact bad_c13); (first | (case k13 => k_is) | exact bad_k13); (first | (case a14 => k_is) | exact bad_a14); (first | (case l14 => k_is) | exact bad_l14); (first | (case c14 => k_is) | exact bad_c14); (first | (case k14 => k_is) | exact bad_k14); (first | (case a15 => k_is) | exact bad_a15); (first | (case l15 => k_is) | exact bad_l15); (first | (case c15 => k_is) | exact bad_c15); (first | (case k15 => k_is) | exact bad_k15); (first | (case a16 => k_is) | exact bad_a16); (first | (case l16 => k_is) | exact bad_l16); (first | (case c16 => k_is) | exact bad_c16); (first | (case k16 => k_is) | exact bad_k16); (first | (case a17 => k_is) | exact bad_a17); (first | (case l17 => k_is) | exact bad_l17); (first | (case c17 => k_is) | exact bad_c17); (first | (case k17 => k_is) | exact bad_k17); (first | (case a18 => k_is) | exact bad_a18); (first | (case l18 => k_is) | exact bad_l18); (first | (case c18 => k_is) | exact bad_c18); (first | (case k18 => k_is) | exact bad_k18); (first | (case a19 => k_is) | exact bad_a19); (first | (case l19 => k_is) | exact bad_l19); (first | (case c19 => k_is) | exact bad_c19); (first | (case k19 => k_is) | exact bad_k19); (first | (case a20 => k_is) | exact bad_a20); (first | (case l20 => k_is) | exact bad_l20); (first | (case c20 => k_is) | exact bad_c20); (first | (case k20 => k_is) | exact bad_k20); (first | (case a21 => k_is) | exact bad_a21); (first | (case l21 => k_is) | exact bad_l21); (first | (case c21 => k_is) | exact bad_c21); (first | (case k21 => k_is) | exact bad_k21); (first | (case a22 => k_is) | exact bad_a22); (first | (case l22 => k_is) | exact bad_l22); (first | (case c22 => k_is) | exact bad_c22); (first | (case k22 => k_is) | exact bad_k22); (first | (case a23 => k_is) | exact bad_a23); (first | (case l23 => k_is) | exact bad_l23); (first | (case c23 => k_is) | exact bad_c23); (first | (case k23 => k_is) | exact bad_k23); (first | (case a24 => k_is) | exact bad_a24); (first | (case l24 => k_is) | exact bad_l24); (first | (case c24 => k_is) | exact bad_c24); (first | (case k24 => k_is) | exact bad_k24); (first | (case a25 => k_is) | exact bad_a25); (first | (case l25 => k_is) | exact bad_l25); (first | (case c25 => k_is) | exact bad_c25); (first | (case k25 => k_is) | exact bad_k25); (first | (case a26 => k_is) | exact bad_a26); (first | (case l26 => k_is) | exact bad_l26); (first | (case c26 => k_is) | exact bad_c26); (first | (case k26 => k_is) | exact bad_k26); (first | (case a27 => k_is) | exact bad_a27); (first | (case l27 => k_is) | exact bad_l27); (first | (case c27 => k_is) | exact bad_c27); (first | (case k27 => k_is) | exact bad_k27); (first | (case a28 => k_is) | exact bad_a28); (first | (case l28 => k_is) | exact bad_l28); (first | (case c28 => k_is) | exact bad_c28); (first | (case k28 => k_is) | exact bad_k28); (first | (case a29 => k_is) | exact bad_a29); (first | (case l29 => k_is) | exact bad_l29); (first | (case c29 => k_is) | exact bad_c29); (first | (case k29 => k_is) | exact bad_k29); (first | (case a30 => k_is) | exact bad_a30); (first | (case l30 => k_is) | exact bad_l30); (first | (case c30 => k_is) | exact bad_c30); (first | (case k30 => k_is) | exact bad_k30); (first | (case a31 => k_is) | exact bad_a31); (first | (case l31 => k_is) | exact bad_l31); (first | (case c31 => k_is) | exact bad_c31); (first | (case k31 => k_is) | exact bad_k31); (first | (case x_comb => k_is) | exact bad_x_comb); (first | (case z_all => k_is) | exact bad_z_all); (first | (case z_bool => k_is) | exact bad_z_bool); (first | (case z_int => k_is) | exact bad_z_int); (first | (case z_isinstance => k_is) | exact bad_z_isinstance); (first | (case z_len => k_is) | exact bad_z_len); (first | (case z_list => k_is) | exact bad_z_list); (first | (case z_min => k_is) | exact bad_z_min); (first | (case z_range => k_is) | exact bad_z_range); (first | (case z_sorted => k_is) | exact bad_z_sorted); (first | (case z_str => k_is) | exact bad_z_str); (first | (case z_tuple => k_is) | exact bad_z_tuple); (first | (case z_zip => k_is) | exact bad_z_zip); (first | (case v_SECTOR => k_is) | exact bad_v_SECTOR)
