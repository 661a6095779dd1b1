import PyProof.Rows.All
import Wide.All
import OpenK.AllK
import Wide.FinOn
import HandS.ForMost
import HandS.IsInst
import HandS.Steps
import HandS.Evl
import HandS.Walk
import HandS.Conv
import HandS.WordsDict
import KE.KDictZip
import PySem.Challenge.RW_rotward_k21_words
set_option Elab.async false
set_option linter.all false
set_option maxRecDepth 100000
set_option maxHeartbeats 4000000
namespace R
open PySem PySem.Spec L2

/-! ### rules that the layer lacks -/
section
variable {X : Cx}
/-- xs[i] read for an operation in place -/
theorem get_list : PGet X (rIxL X.K) := by
  intro pins s σ H o i ov iv Q I ro ri h
  obtain ⟨p, xs, k, z, rfl, rfl, hq, he, q⟩ := h
  cases ro
  obtain ⟨t, rfl⟩ := ri
  obtain ⟨us, vs, pl, hz⟩ := I.list hq
  obtain ⟨j, g1, g2, g3, g4, g5⟩ := atI_get he
  obtain ⟨u, eu, ru⟩ := vs.get g2
  have ln := vs.length
  have l63 := line63
  have dn : EP X pins σ Q u s := ⟨z, H, I, ru, q⟩
  rcases Int.lt_or_le k 0 with k0 | k0
  · rw [seqIndex_neg k0 g4] at g1
    have g1' := Option.some.inj g1
    refine wpAny_getItem_list_neg pl.isList k0 ?_ (by omega) ?_ dn
    · rw [List.size_toArray] <;> omega
    · rw [List.size_toArray, ← ln, g1']
      simpa using eu
  · rw [seqIndex_of k0 g5] at g1
    have g1' := Option.some.inj g1
    refine wpAny_getItem_list pl.isList k0 (by omega) ?_ dn
    rw [g1']
    simpa using eu
theorem pe_globC {x : Str} {i : Int} {pos : Pos} (hg : Gl X x) (h : ∃ t, X.mg x = some (.int i t)) (hd : (x == ("__debug__" : Str)) = false := by decide) : PE X (.Name x pos) (tC (.int i)) := by
  obtain ⟨t, h⟩ := h
  exact pe_glob hg h ⟨t, rfl⟩ hd
end

theorem pe_ty {X : Cx} {x : Str} {n : String} {pos : Pos} (hg : Gl X x) (hm : X.mg x = none) (hv : bootBuiltins x = some (.type n)) (hn : x ≠ "__name__" := by decide) (hd : (x == ("__debug__" : Str)) = false := by decide) : PE X (.Name x pos) (tC (.ty n)) := pe_bltn hg hm hv rfl hn hd
/-! ### a def that may be called -/
def Cal (P : Program) (w : World) (K : PySem.W.Frag) (mg : Str → Option Value) (base : Heap) (k : Nat) (x : Str) (ps : List Str) (sp : Sp) : Prop :=
  ∃ (f : Addr) (fd : FuncData), FnOk P w K mg base CX0 k f fd ps sp ∧ mg x = some (.ref f) ∧ PySem.W.keepIn K (.ref f) = true ∧ Binds K fd ps []
section
variable {P : Program} {w : World} {K : PySem.W.Frag} {mg : Str → Option Value} {base : Heap} {k : Nat} {x : Str} {ps : List Str} {sp : Sp}
theorem Cal.mk' {q : Str} {st : Stmt} {f : Addr} {fd : FuncData} (F : Fun K x q st f fd) (g : mg x = some (.ref f)) (b : Binds K fd ps []) (G : FnOk P w K mg base CX0 k f fd ps sp) : Cal P w K mg base k x ps sp := ⟨f, fd, G, g, F.kp, b⟩
theorem Cal.imp {sp' : Sp} (c : Cal P w K mg base k x ps sp) (h : ∀ vs H Q E, sp' vs H Q E → sp vs H Q E) : Cal P w K mg base k x ps sp' := by
  obtain ⟨f, fd, G, g, kp, b⟩ := c
  exact ⟨f, fd, G.imp h, g, kp, b⟩
theorem Cal.mono {j : Nat} (c : Cal P w K mg base k x ps sp) (h : k ≤ j) : Cal P w K mg base j x ps sp := by
  obtain ⟨f, fd, G, g, kp, b⟩ := c
  exact ⟨f, fd, G.mono h, g, kp, b⟩
end
section
variable {X : Cx} {k : Nat} {x : Str} {ps : List Str} {sp : Sp} {t : TA} {e : Expr} {es : List Expr} {p pos : Pos}
/-- the value of a call -/
def tCal (sp : Sp) (t : TA) : TE := fun σ H Q => t σ H fun vs H1 => sp vs H1 Q E0
theorem tCall_nil (sp : Sp) (t : TA) : tCall sp [] E0 t = tCal sp t := by
  funext σ H Q
  show (t σ H fun vs H1 => sp (vs ++ []) H1 Q E0) = (t σ H fun vs H1 => sp vs H1 Q E0)
  simp only [List.append_nil]
theorem pe_cal (c : Cal X.prog X.w X.K X.mg X.base k x ps sp) (hr : Room k X.A) (hg : Gl X x) (ha : PA X (e :: es) t)
    (hdb : (x == ("__debug__" : Str)) = false := by decide) (he : starEach (e :: es) X.env = (false, eval e X.env) :: starEach es X.env := by rfl) (hpl : (backTo pos (starEach es X.env)).any (·.1) = false := by rfl) :
    PE X (.Call (.Name x p) (e :: es) [] pos) (tCal sp t) := by
  obtain ⟨f, fd, G, g, kp, b⟩ := c
  have h := pe_call (p := p) (pos := pos) G hr hg g kp b .nil pass0 ha hdb he hpl
  rw [tCall_nil] at h
  exact h
theorem pe_cal0 (c : Cal X.prog X.w X.K X.mg X.base k x ps sp) (hr : Room k X.A) (hg : Gl X x) (hdb : (x == ("__debug__" : Str)) = false := by decide) : PE X (.Call (.Name x p) [] [] pos) (tCal sp tNil) := by
  obtain ⟨f, fd, G, g, kp, b⟩ := c
  have h := pe_call0 (p := p) (pos := pos) G hr hg g kp b .nil pass0 hdb
  rw [tCall_nil] at h
  exact h
end

/-! ### rules over what is tracked: their readings open by simp alone -/
section
variable {X : Cx} {e a b : Expr}
theorem PE.imp {t t' : TE} (h : PE X e t) (i : ∀ σ H Q, t' σ H Q → t σ H Q) : PE X e t' := ⟨fun pins s σ H Q I q => h.run pins s σ H Q I (i σ H Q q)⟩
theorem PT.imp {t t' : TT} (h : PT X e t) (i : ∀ σ H Q, t' σ H Q → t σ H Q) : PT X e t' := ⟨fun pins s σ H Q I q => h.run pins s σ H Q I (i σ H Q q)⟩
theorem PS.imp {st : Stmt} {t t' : TS} (h : PS X st t) (i : ∀ D σ H, t' D σ H → t D σ H) : PS X st t' := ⟨fun pins s σ H D I q => h.run pins s σ H D I (i D σ H q)⟩
theorem CallR.imp {f : Value} {r r' : List V → Hp → VK → Prop} (h : CallR X f r) (i : ∀ xs H Q, r' xs H Q → r xs H Q) : CallR X f r' := fun pins s σ H xs us Q I rv q => h pins s σ H xs us Q I rv (i xs H Q q)
theorem IxR.imp {r r' : R2} (h : IxR X r) (i : ∀ x y H Q, r' x y H Q → r x y H Q) : IxR X r' := fun value slice pins s σ H x y v u Q I rx ry q hs => h value slice pins s σ H x y v u Q I rx ry (i x y H Q q) hs
theorem SqL.tr {K : PySem.W.Frag} {H : Hp} {p : Addr} {xs : List V} (h : H p = some (.lst xs)) : SqL K H p xs := .inl (.inl h)
theorem SqT.tr {K : PySem.W.Frag} {H : Hp} {p : Addr} {xs : List V} (h : H p = some (.tup xs)) : SqT K H p xs := .inl (.inl h)

/-- xs[i], a tracked list | tuple -/
def kIxL : R2 := fun x y H Q => ∃ p i xs v, x = .ref p ∧ y = .int i ∧ H p = some (.lst xs) ∧ atI xs i = some v ∧ Q v H
def kIxT : R2 := fun x y H Q => ∃ p i xs v, x = .ref p ∧ y = .int i ∧ H p = some (.tup xs) ∧ atI xs i = some v ∧ Q v H
theorem ix_l : IxR X kIxL := IxR.imp ix_list fun _ _ _ _ ⟨p, i, xs, v, e1, e2, h, ha, q⟩ => ⟨p, xs, i, v, e1, e2, SqL.tr h, ha, q⟩
theorem ix_t : IxR X kIxT := IxR.imp ix_tup fun _ _ _ _ ⟨p, i, xs, v, e1, e2, h, ha, q⟩ => ⟨p, xs, i, v, e1, e2, SqT.tr h, ha, q⟩
theorem get_l : PGet X kIxL := fun pins s σ H o i ov iv Q I ro ri ⟨p, i', xs, v, e1, e2, h, ha, q⟩ => get_list pins s σ H o i ov iv Q I ro ri ⟨p, xs, i', v, e1, e2, SqL.tr h, ha, q⟩
/-- len -/
def kLenL : List V → Hp → VK → Prop := fun vs H Q => ∃ p xs, vs = [.ref p] ∧ H p = some (.lst xs) ∧ Q (.int xs.length) H
def kLenT : List V → Hp → VK → Prop := fun vs H Q => ∃ p xs, vs = [.ref p] ∧ H p = some (.tup xs) ∧ Q (.int xs.length) H
theorem len_l : CallR X (.builtin "len") kLenL := CallR.imp call_len_seq fun _ _ _ ⟨p, xs, e, h, q⟩ => ⟨p, xs, e, .inl (SqL.tr h), q⟩
theorem len_t : CallR X (.builtin "len") kLenT := CallR.imp call_len_seq fun _ _ _ ⟨p, xs, e, h, q⟩ => ⟨p, xs, e, .inr (SqT.tr h), q⟩
/-- list or tuple -/
def kIxS : R2 := fun x y H Q => ∃ p i xs v, x = .ref p ∧ y = .int i ∧ (H p = some (.lst xs) ∨ H p = some (.tup xs)) ∧ atI xs i = some v ∧ Q v H
theorem ix_s : IxR X kIxS := IxR.imp ix_seq fun _ _ _ _ ⟨p, i, xs, v, e1, e2, h, ha, q⟩ => h.elim (fun h => .inl ⟨p, xs, i, v, e1, e2, SqL.tr h, ha, q⟩) fun h => .inr (.inl ⟨p, xs, i, v, e1, e2, SqT.tr h, ha, q⟩)
def kLenS : List V → Hp → VK → Prop := fun vs H Q => ∃ p xs, vs = [.ref p] ∧ (H p = some (.lst xs) ∨ H p = some (.tup xs)) ∧ Q (.int xs.length) H
theorem len_s : CallR X (.builtin "len") kLenS := CallR.imp call_len_seq fun _ _ _ ⟨p, xs, e, h, q⟩ => ⟨p, xs, e, h.elim (fun h => .inl (SqL.tr h)) (fun h => .inr (SqT.tr h)), q⟩
/-- int(i) -/
def kInt : List V → Hp → VK → Prop := fun vs H Q => ∃ i, vs = [.int i] ∧ Q (.int i) H
theorem int_i : CallR X (.type "int") kInt := CallR.imp call_int1 fun _ _ _ ⟨i, e, q⟩ => .inl ⟨i, e, q⟩
/-- list(xs): a new one -/
def kListL : List V → Hp → VK → Prop := fun vs H Q => ∃ p xs, vs = [.ref p] ∧ H p = some (.lst xs) ∧ ∀ l, H l = none → Q (.ref l) (upd H l (.lst xs))
theorem list_l : CallR X (.type "list") kListL := CallR.imp call_list_of fun _ _ _ ⟨p, xs, e, h, q⟩ => ⟨p, xs, e, .inl (SqL.tr h), q⟩
def kListT : List V → Hp → VK → Prop := fun vs H Q => ∃ p xs, vs = [.ref p] ∧ H p = some (.tup xs) ∧ ∀ l, H l = none → Q (.ref l) (upd H l (.lst xs))
theorem list_t : CallR X (.type "list") kListT := CallR.imp call_list_of fun _ _ _ ⟨p, xs, e, h, q⟩ => ⟨p, xs, e, .inr (SqT.tr h), q⟩
def kTupL : List V → Hp → VK → Prop := fun vs H Q => ∃ p xs, vs = [.ref p] ∧ H p = some (.lst xs) ∧ ∀ l, H l = none → Q (.ref l) (upd H l (.tup xs))
theorem tup_l : CallR X (.type "tuple") kTupL := CallR.imp call_tuple_of fun _ _ _ ⟨p, xs, e, h, q⟩ => ⟨p, xs, e, .inl ⟨SqL.tr h, q⟩⟩
/-- isinstance(x, T), T built in -/
def tyN (H : Hp) : V → Option String
  | .non => some "NoneType"
  | .bl _ => some "bool"
  | .int _ => some "int"
  | .str _ => some "str"
  | .ref a => match H a with
    | some (.lst _) => some "list"
    | some (.tup _) => some "tuple"
    | some (.dK _) => some "dict"
    | some (.dT _) => some "dict"
    | _ => none
  | _ => none
theorem tyN_of {K : PySem.W.Frag} {H : Hp} {x : V} {n : String} (h : tyN H x = some n) : TyX K H x (.type n) := by
  cases x with
  | non => cases h; exact .base .non
  | bl b => cases h; exact .base (.bl b)
  | int i => cases h; exact .base (.int i)
  | str z => cases h; exact .base (.str z)
  | byt b => cases h
  | flt b => cases h
  | ty b => cases h
  | ref a =>
    have h' : (match H a with
      | some (.lst _) => some "list"
      | some (.tup _) => some "tuple"
      | some (.dK _) => some "dict"
      | some (.dT _) => some "dict"
      | _ => none) = some n := h
    cases e : H a with
    | none => rw [e] at h'; cases h'
    | some o =>
      rw [e] at h'
      cases o with
      | lst xs => cases h'; exact .base (.lst e)
      | tup xs => cases h'; exact .base (.tup e)
      | dK xs => cases h'; exact .base (.dK e)
      | dT xs => cases h'; exact .base (.dT e)
      | _ => cases h'
theorem tyN_lst {H : Hp} {a : Addr} {xs : List V} (h : H a = some (.lst xs)) : tyN H (.ref a) = some "list" := by
  show (match H a with
      | some (.lst _) => some "list"
      | some (.tup _) => some "tuple"
      | some (.dK _) => some "dict"
      | some (.dT _) => some "dict"
      | _ => none) = some "list"
  rw [h]
theorem tyN_tup {H : Hp} {a : Addr} {xs : List V} (h : H a = some (.tup xs)) : tyN H (.ref a) = some "tuple" := by
  show (match H a with
      | some (.lst _) => some "list"
      | some (.tup _) => some "tuple"
      | some (.dK _) => some "dict"
      | some (.dT _) => some "dict"
      | _ => none) = some "tuple"
  rw [h]
theorem tyN_int {H : Hp} {i : Int} : tyN H (.int i) = some "int" := rfl
theorem tyN_bl {H : Hp} {i : Bool} : tyN H (.bl i) = some "bool" := rfl
theorem tyN_non {H : Hp} : tyN H .non = some "NoneType" := rfl
theorem tyN_str {H : Hp} {i : Str} : tyN H (.str i) = some "str" := rfl
def kIsi : List V → Hp → VK → Prop := fun vs H Q => ∃ x c n b, vs = [x, .ty c] ∧ tyN H x = some n ∧ kitB n c = some b ∧ Q (.bl b) H
theorem isi_b : CallR X (.builtin "isinstance") kIsi := CallR.imp call_isi fun _ _ _ ⟨x, c, n, b, e, h, k, q⟩ => ⟨x, .ty c, .type n, .type c, b, e, .ty c, tyN_of h, kit_ty k, q⟩
theorem kb_NoneType_bool : kitB "NoneType" "bool" = some false := by decide +kernel
theorem kb_NoneType_int : kitB "NoneType" "int" = some false := by decide +kernel
theorem kb_NoneType_str : kitB "NoneType" "str" = some false := by decide +kernel
theorem kb_NoneType_tuple : kitB "NoneType" "tuple" = some false := by decide +kernel
theorem kb_NoneType_list : kitB "NoneType" "list" = some false := by decide +kernel
theorem kb_bool_bool : kitB "bool" "bool" = some true := by decide +kernel
theorem kb_bool_int : kitB "bool" "int" = some true := by decide +kernel
theorem kb_bool_str : kitB "bool" "str" = some false := by decide +kernel
theorem kb_bool_tuple : kitB "bool" "tuple" = some false := by decide +kernel
theorem kb_bool_list : kitB "bool" "list" = some false := by decide +kernel
theorem kb_int_bool : kitB "int" "bool" = some false := by decide +kernel
theorem kb_int_int : kitB "int" "int" = some true := by decide +kernel
theorem kb_int_str : kitB "int" "str" = some false := by decide +kernel
theorem kb_int_tuple : kitB "int" "tuple" = some false := by decide +kernel
theorem kb_int_list : kitB "int" "list" = some false := by decide +kernel
theorem kb_str_bool : kitB "str" "bool" = some false := by decide +kernel
theorem kb_str_int : kitB "str" "int" = some false := by decide +kernel
theorem kb_str_str : kitB "str" "str" = some true := by decide +kernel
theorem kb_str_tuple : kitB "str" "tuple" = some false := by decide +kernel
theorem kb_str_list : kitB "str" "list" = some false := by decide +kernel
theorem kb_tuple_bool : kitB "tuple" "bool" = some false := by decide +kernel
theorem kb_tuple_int : kitB "tuple" "int" = some false := by decide +kernel
theorem kb_tuple_str : kitB "tuple" "str" = some false := by decide +kernel
theorem kb_tuple_tuple : kitB "tuple" "tuple" = some true := by decide +kernel
theorem kb_tuple_list : kitB "tuple" "list" = some false := by decide +kernel
theorem kb_list_bool : kitB "list" "bool" = some false := by decide +kernel
theorem kb_list_int : kitB "list" "int" = some false := by decide +kernel
theorem kb_list_str : kitB "list" "str" = some false := by decide +kernel
theorem kb_list_tuple : kitB "list" "tuple" = some false := by decide +kernel
theorem kb_list_list : kitB "list" "list" = some true := by decide +kernel
theorem op_isNV : OpR X (compareOp .Is) (fun x y H Q => y = .non ∧ Q (.bl (decide (x = .non))) H) := fun pins s σ H x y v u Q I rx ry ⟨e, q⟩ => op_isN pins s σ H x y v u Q I rx ry ⟨e, q⟩
/-- o.m(..), o a tracked list -/
def kBM (r : V → List V → Hp → VK → Prop) (to : TE) (t : TA) : TE := fun σ H Q => to σ H fun x H1 => ∃ p xs, x = .ref p ∧ H1 p = some (.lst xs) ∧ t σ H1 fun ys H2 => r x ys H2 Q
def kBM0 (r : V → List V → Hp → VK → Prop) (to : TE) : TE := fun σ H Q => to σ H fun x H1 => ∃ p xs, x = .ref p ∧ H1 p = some (.lst xs) ∧ r x [] H1 Q
theorem pe_bmL {o e : Expr} {es : List Expr} {to : TE} {t : TA} {name : Str} {apos cpos : Pos} {id : String} {r : V → List V → Hp → VK → Prop}
    (slot : Slot "list" name id) (hty : typeOf (.builtin id) = pure (.type "method_descriptor")) (hm : MtR X id r) (ho : PE X o to) (ha : PA X (e :: es) t)
    (hbase : attributeBase o name X.env (eval o X.env) = eval o X.env := by rfl)
    (hfew : ((backTo cpos (starEach (e :: es) X.env)).all (fun x => !x.1) && (backToKw cpos (keywordEach [] X.env)).all (fun x => x.1.isSome)
      && decide ((e :: es).length + ([] : List Keyword).length + (if ([] : List Keyword).isEmpty then 0 else 1) < 30)) = true := by rfl)
    (hline : (apos.endLine == cpos.line) = true := by rfl) (hs : starEach (e :: es) X.env = (false, eval e X.env) :: starEach es X.env := by rfl) (hplain : (backTo cpos (starEach es X.env)).any (·.1) = false := by rfl) :
    PE X (.Call (.Attribute o name apos) (e :: es) [] cpos) (tBM X.K "list" r to t) := pe_bm PySem.F.plainAttrs_list slot hty hm ho ha hbase hfew hline hs hplain
/-- o is a name (or anything whose value's reading is monotone) -/
def Mono (t : TE) : Prop := ∀ σ H (Q Q' : VK), (∀ v H', Q v H' → Q' v H') → t σ H Q → t σ H Q'
theorem mono_var {i : Nat} : Mono (tVar i) := fun _ _ _ _ m ⟨v, e, q⟩ => ⟨v, e, m _ _ q⟩
/-- x.append(..) and the like, x a local name -/
def kMt (r : V → List V → Hp → VK → Prop) (i : Nat) (t : TA) : TE := fun σ H Q => ∃ p xs, σ[i]? = some (some (V.ref p)) ∧ H p = some (.lst xs) ∧ t σ H fun ys H2 => r (V.ref p) ys H2 Q
def kMt0 (r : V → List V → Hp → VK → Prop) (i : Nat) : TE := fun σ H Q => ∃ p xs, σ[i]? = some (some (V.ref p)) ∧ H p = some (.lst xs) ∧ r (V.ref p) [] H Q
theorem pe_mt {i : Nat} {o e : Expr} {es : List Expr} {t : TA} {name : Str} {apos cpos : Pos} {id : String} {r : V → List V → Hp → VK → Prop}
    (slot : Slot "list" name id) (hty : typeOf (.builtin id) = pure (.type "method_descriptor")) (hm : MtR X id r) (ho : PE X o (tVar i)) (ha : PA X (e :: es) t)
    (hbase : attributeBase o name X.env (eval o X.env) = eval o X.env := by rfl)
    (hfew : ((backTo cpos (starEach (e :: es) X.env)).all (fun x => !x.1) && (backToKw cpos (keywordEach [] X.env)).all (fun x => x.1.isSome)
      && decide ((e :: es).length + ([] : List Keyword).length + (if ([] : List Keyword).isEmpty then 0 else 1) < 30)) = true := by rfl)
    (hline : (apos.endLine == cpos.line) = true := by rfl) (hs : starEach (e :: es) X.env = (false, eval e X.env) :: starEach es X.env := by rfl) (hplain : (backTo cpos (starEach es X.env)).any (·.1) = false := by rfl) :
    PE X (.Call (.Attribute o name apos) (e :: es) [] cpos) (kMt r i t) := PE.imp (pe_bm PySem.F.plainAttrs_list slot hty hm ho ha hbase hfew hline hs hplain) fun _ _ _ ⟨p, xs, e, h, q⟩ => ⟨.ref p, e, .inl ⟨rfl, xs, SqL.tr h⟩, q⟩
theorem pe_mt0 {i : Nat} {o : Expr} {name : Str} {apos cpos : Pos} {id : String} {r : V → List V → Hp → VK → Prop}
    (slot : Slot "list" name id) (hty : typeOf (.builtin id) = pure (.type "method_descriptor")) (hm : MtR X id r) (ho : PE X o (tVar i))
    (hbase : attributeBase o name X.env (eval o X.env) = eval o X.env := by rfl) (hline : (apos.endLine == cpos.line) = true := by rfl) : PE X (.Call (.Attribute o name apos) [] [] cpos) (kMt0 r i) :=
  PE.imp (pe_bm0 PySem.F.plainAttrs_list slot hty hm ho hbase hline) fun _ _ _ ⟨p, xs, e, h, q⟩ => ⟨.ref p, e, .inl ⟨rfl, xs, SqL.tr h⟩, q⟩
end
/-! ### for loops over tracked things -/
section
variable {X : Cx}
/-- what is wanted may be weakened -/
def tMo (t : TE) : TE := fun σ H Q => ∃ A : VK, t σ H A ∧ ∀ v H', A v H' → Q v H'
theorem pe_mo {e : Expr} {t : TE} (h : PE X e t) : PE X e (tMo t) := ⟨fun pins s σ H Q I ⟨A, q, m⟩ => thn (h.run pins s σ H A I q) fun _ _ ⟨v, H', I', r, z⟩ => ⟨v, H', I', r, m v H' z⟩⟩
def kIterL (K : PySem.W.Frag) (tl : TE) : TI := fun σ H R => tl σ H fun x H1 => ∃ a xs, x = .ref a ∧ H1 a = some (.lst xs) ∧ R (Itl K a) H1
def kIterT (K : PySem.W.Frag) (tl : TE) : TI := fun σ H R => tl σ H fun x H1 => ∃ a xs, x = .ref a ∧ H1 a = some (.tup xs) ∧ R (Itt K a) H1
theorem pi_l {tg l : Expr} {tl : TE} (hl : PE X l tl) : PI X tg l (kIterL X.K tl) := ⟨fun pins s σ H R I q => (pi_list (pe_mo hl)).run pins s σ H R I ⟨_, q, fun _ _ ⟨a, xs, e, h, z⟩ => ⟨a, e, ⟨xs, SqL.tr h⟩, z⟩⟩⟩
theorem pi_t {tg l : Expr} {tl : TE} (hl : PE X l tl) : PI X tg l (kIterT X.K tl) := ⟨fun pins s σ H R I q => (pi_tup (pe_mo hl)).run pins s σ H R I ⟨_, q, fun _ _ ⟨a, xs, e, h, z⟩ => ⟨a, e, ⟨xs, SqT.tr h⟩, z⟩⟩⟩
def tForJ (J : It) (g : TG) (tb : TS) (D : Ends) (σ : St) (H : Hp) : Prop := ∃ W : Nat → Nat → St → Hp → Prop, (∃ m, W 0 m σ H) ∧ ∀ i m σ H, W i m σ H →
  (J.stop i H ∧ D.nx σ H) ∨ (J.go i H ∧ ∃ N : St → Hp → Prop, (∀ σ' H', N σ' H' → ∃ m', m' < m ∧ W (i + 1) m' σ' H') ∧ ∀ x H', J.yld i H x H' → g x σ H' fun σ2 H2 => tb { D with nx := N, ct := N, bk := D.nx } σ2 H2)
theorem forJ_range {lo : Int} {m : Nat} {g : TG} {tb : TS} {n b c : St → Hp → Prop} {r : VK} {σ : L2.St} {H : Hp} (Pv : Nat → St → Hp → Prop) (h0 : Pv 0 σ H)
    (hs : ∀ i σ H, i < m → Pv i σ H → g (.int (lo + i)) σ H fun σ2 H2 => tb ⟨Pv (i + 1), r, n, Pv (i + 1)⟩ σ2 H2) (hd : ∀ σ H, Pv m σ H → n σ H) : tForJ (Itr lo m) g tb ⟨n, r, b, c⟩ σ H := for_range Pv h0 hs hd
theorem forJ_range0 {m : Nat} {g : TG} {tb : TS} {n b c : St → Hp → Prop} {r : VK} {σ : L2.St} {H : Hp} (Pv : Nat → St → Hp → Prop) (h0 : Pv 0 σ H)
    (hs : ∀ i σ H, i < m → Pv i σ H → g (.int (i : Int)) σ H fun σ2 H2 => tb ⟨Pv (i + 1), r, n, Pv (i + 1)⟩ σ2 H2) (hd : ∀ σ H, Pv m σ H → n σ H) : tForJ (Itr 0 m) g tb ⟨n, r, b, c⟩ σ H := for_range Pv h0 (fun i σ H h p => by
      rw [Int.zero_add]
      exact hs i σ H h p) hd
theorem forJ_list {K : PySem.W.Frag} {a : Addr} (xs : List V) {g : TG} {tb : TS} {n b c : St → Hp → Prop} {r : VK} {σ : L2.St} {H : Hp} (Pv : Nat → St → Hp → Prop) (h0 : Pv 0 σ H) (hl : ∀ i σ H, i ≤ xs.length → Pv i σ H → H a = some (.lst xs))
    (hs : ∀ i x σ H, xs[i]? = some x → Pv i σ H → g x σ H fun σ2 H2 => tb ⟨Pv (i + 1), r, n, Pv (i + 1)⟩ σ2 H2) (hd : ∀ σ H, Pv xs.length σ H → n σ H) : tForJ (Itl K a) g tb ⟨n, r, b, c⟩ σ H :=
  for_list Pv h0 (fun i σ H h p => SqL.tr (hl i σ H h p)) hs hd
theorem forJ_tup {K : PySem.W.Frag} {a : Addr} (xs : List V) {g : TG} {tb : TS} {n b c : St → Hp → Prop} {r : VK} {σ : L2.St} {H : Hp} (Pv : Nat → St → Hp → Prop) (h0 : Pv 0 σ H) (hl : ∀ i σ H, i ≤ xs.length → Pv i σ H → H a = some (.tup xs))
    (hs : ∀ i x σ H, xs[i]? = some x → Pv i σ H → g x σ H fun σ2 H2 => tb ⟨Pv (i + 1), r, n, Pv (i + 1)⟩ σ2 H2) (hd : ∀ σ H, Pv xs.length σ H → n σ H) : tForJ (Itt K a) g tb ⟨n, r, b, c⟩ σ H :=
  for_tup Pv h0 (fun i σ H h p => SqT.tr (hl i σ H h p)) hs hd
end
/-! ### places of lists -/
theorem ixN_natL (n i : Nat) : ixN n (i : Int) = if i < n then some i else none := by
  unfold ixN
  by_cases h : i < n
  · rw [if_pos (by omega), if_pos (by omega), if_pos h]
    simp
  · rw [if_pos (by omega), if_neg (by omega), if_neg h]
theorem atI_natL {α : Type} (xs : List α) (i : Nat) : atI xs (i : Int) = xs[i]? := by
  unfold atI
  rw [ixN_natL]
  by_cases h : i < xs.length
  · rw [if_pos h]
    rfl
  · rw [if_neg h]
    exact (List.getElem?_eq_none (by omega)).symm
theorem atI_map {ns : List Int} {i : Int} (h0 : 0 ≤ i) (h : i < ns.length) : ∃ x, atI (ns.map V.int) i = some (.int x) := by
  refine ⟨ns[i.toNat]'(by omega), ?_⟩
  obtain ⟨k, rfl⟩ : ∃ k : Nat, i = (k : Int) := ⟨i.toNat, by omega⟩
  rw [atI_natL, List.getElem?_map, List.getElem?_eq_getElem (by omega)]
  simp
theorem atI_m1 {α : Type} (xs : List α) : atI xs (-1) = xs.getLast? := by
  unfold atI ixN
  rw [List.getLast?_eq_getElem?, if_neg (by decide)]
  by_cases h : xs = []
  · subst h; rfl
  · have : 0 < xs.length := by cases xs with | nil => exact absurd rfl h | cons _ _ => simp
    rw [if_pos (by omega)]
    show xs[(-1 + (xs.length : Int)).toNat]? = _
    rw [show (-1 + (xs.length : Int)).toNat = xs.length - 1 by omega]
theorem atI_0 {α : Type} (xs : List α) : atI xs 0 = xs[0]? := atI_natL xs 0
theorem ixN_0 (n : Nat) : ixN n 0 = if 0 < n then some 0 else none := ixN_natL n 0
theorem atI_1 {α : Type} (xs : List α) : atI xs 1 = xs[1]? := atI_natL xs 1
theorem ixN_1 (n : Nat) : ixN n 1 = if 1 < n then some 1 else none := ixN_natL n 1
theorem atI_2 {α : Type} (xs : List α) : atI xs 2 = xs[2]? := atI_natL xs 2
theorem ixN_2 (n : Nat) : ixN n 2 = if 2 < n then some 2 else none := ixN_natL n 2
theorem atI_3 {α : Type} (xs : List α) : atI xs 3 = xs[3]? := atI_natL xs 3
theorem ixN_3 (n : Nat) : ixN n 3 = if 3 < n then some 3 else none := ixN_natL n 3
theorem atI_4 {α : Type} (xs : List α) : atI xs 4 = xs[4]? := atI_natL xs 4
theorem ixN_4 (n : Nat) : ixN n 4 = if 4 < n then some 4 else none := ixN_natL n 4
theorem atI_5 {α : Type} (xs : List α) : atI xs 5 = xs[5]? := atI_natL xs 5
theorem ixN_5 (n : Nat) : ixN n 5 = if 5 < n then some 5 else none := ixN_natL n 5
theorem atI_6 {α : Type} (xs : List α) : atI xs 6 = xs[6]? := atI_natL xs 6
theorem ixN_6 (n : Nat) : ixN n 6 = if 6 < n then some 6 else none := ixN_natL n 6
theorem atI_7 {α : Type} (xs : List α) : atI xs 7 = xs[7]? := atI_natL xs 7
theorem ixN_7 (n : Nat) : ixN n 7 = if 7 < n then some 7 else none := ixN_natL n 7
theorem atI_8 {α : Type} (xs : List α) : atI xs 8 = xs[8]? := atI_natL xs 8
theorem ixN_8 (n : Nat) : ixN n 8 = if 8 < n then some 8 else none := ixN_natL n 8
theorem atI_9 {α : Type} (xs : List α) : atI xs 9 = xs[9]? := atI_natL xs 9
theorem ixN_9 (n : Nat) : ixN n 9 = if 9 < n then some 9 else none := ixN_natL n 9
theorem atI_10 {α : Type} (xs : List α) : atI xs 10 = xs[10]? := atI_natL xs 10
theorem ixN_10 (n : Nat) : ixN n 10 = if 10 < n then some 10 else none := ixN_natL n 10
theorem atI_11 {α : Type} (xs : List α) : atI xs 11 = xs[11]? := atI_natL xs 11
theorem ixN_11 (n : Nat) : ixN n 11 = if 11 < n then some 11 else none := ixN_natL n 11
theorem atI_12 {α : Type} (xs : List α) : atI xs 12 = xs[12]? := atI_natL xs 12
theorem ixN_12 (n : Nat) : ixN n 12 = if 12 < n then some 12 else none := ixN_natL n 12

/-! ### readings step by step, from the root -/
theorem upd_id {H : Hp} {a : Addr} {o : HO} (h : H a = some o) : upd H a o = H := by
  funext b
  unfold upd
  split
  · next e => rw [e, h]
  · rfl
theorem exAt {H H' : Hp} (e : Evl.Ex H H') {a : Addr} {o : HO} (h : H a = some o) : H' a = some o := e a o h
theorem ne_fresh {H : Hp} {a b : Addr} {o : HO} (h' : H b = none) (h : H a = some o) : a ≠ b := ne_of_none h h'
inductive SetAt : L2.St → Nat → V → L2.St → Prop
  | zero {x : Option V} {σ : L2.St} {v : V} : SetAt (x :: σ) 0 v (some v :: σ)
  | succ {x : Option V} {σ σ' : L2.St} {i : Nat} {v : V} (h : SetAt σ i v σ') : SetAt (x :: σ) (i + 1) v (x :: σ')
theorem SetAt.eq {σ σ' : L2.St} {i : Nat} {v : V} (h : SetAt σ i v σ') : σ.set i (some v) = σ' := by
  induction h with
  | zero => rfl
  | succ _ ih => rw [List.set_cons_succ, ih]
inductive StartAt : List Str → List V → L2.St → Prop
  | nil : StartAt [] [] []
  | pad {n : Str} {N : List Str} {σ : L2.St} (h : StartAt N [] σ) : StartAt (n :: N) [] (none :: σ)
  | val {n : Str} {N : List Str} {v : V} {vs : List V} {σ : L2.St} (h : StartAt N vs σ) : StartAt (n :: N) (v :: vs) (some v :: σ)
theorem StartAt.eq {N : List Str} {vs : List V} {σ : L2.St} (h : StartAt N vs σ) : L2.start N vs = σ := by
  induction h with
  | nil => rfl
  | pad _ ih =>
    rw [← ih]
    unfold L2.start
    simp [List.replicate_succ]
  | val _ ih =>
    rw [← ih]
    unfold L2.start
    simp
theorem iBody {N : List Str} {vs : List V} {σ : L2.St} {t : TS} {D : Ends} {H : Hp} (h : StartAt N vs σ) (q : t D σ H) : t D (L2.start N vs) H := by
  rw [h.eq]
  exact q
section
variable {K : PySem.W.Frag} {σ σ' : L2.St} {H : Hp} {Q : VK} {ta tb te td : TE} {tt tu : TT} {n b c : St → Hp → Prop} {r : VK} {ts us : TS} {x y v : V} {i j : Int} {tA tR : TA} {QB : Bool → Hp → Prop} {QA : List V → Hp → Prop} {f : Int → Int → V} {R : It → Hp → Prop}
theorem iSeq (q : ts ⟨us ⟨n, r, b, c⟩, r, b, c⟩ σ H) : tSeq ts us ⟨n, r, b, c⟩ σ H := q
theorem iCut (Mid : L2.St → Hp → Prop) (q1 : ts ⟨Mid, r, b, c⟩ σ H) (q2 : ∀ σ' H', Mid σ' H' → us ⟨n, r, b, c⟩ σ' H') : Evl.tCut ts us ⟨n, r, b, c⟩ σ H := ⟨Mid, q1, q2⟩
theorem iNext (q : n σ H) : tNext ⟨n, r, b, c⟩ σ H := q
theorem iBreak (q : b σ H) : tBreak ⟨n, r, b, c⟩ σ H := q
theorem iCont (q : c σ H) : tCont ⟨n, r, b, c⟩ σ H := q
theorem iAsg {g : TG} (q : te σ H fun x H1 => g x σ H1 n) : tAsg te g ⟨n, r, b, c⟩ σ H := q
theorem iName {i : Nat} {QS : St → Hp → Prop} (h : SetAt σ i v σ') (q : QS σ' H) : gName i v σ H QS := by
  show QS (σ.set i (some v)) H
  rw [h.eq]
  exact q
theorem iDrop (q : te σ H fun _ H1 => n σ H1) : tDrop te ⟨n, r, b, c⟩ σ H := q
theorem iRet (q : te σ H r) : tRet te ⟨n, r, b, c⟩ σ H := q
theorem iRetN (q : r .non H) : tRetN ⟨n, r, b, c⟩ σ H := q
theorem iIfS (q : tt σ H fun k H1 => if k = true then ts ⟨n, r, b, c⟩ σ H1 else us ⟨n, r, b, c⟩ σ H1) : tIfS tt ts us ⟨n, r, b, c⟩ σ H := q
theorem iAug {i : Nat} {ti : TIp} (h : σ[i]? = some (some x)) (q : te σ H fun y H1 => ti x y H1 fun z H2 => ∃ σ', SetAt σ i z σ' ∧ n σ' H2) (m : ∀ y H1 (A B : VK), (∀ z H2, A z H2 → B z H2) → ti x y H1 A → ti x y H1 B) (mt : ∀ (A B : VK), (∀ z H2, A z H2 → B z H2) → te σ H A → te σ H B) : tAug i te ti ⟨n, r, b, c⟩ σ H :=
  ⟨x, h, mt _ _ (fun y H1 q1 => m y H1 _ _ (fun z H2 ⟨σ', e, q2⟩ => by
    show n (σ.set i (some z)) H2
    rw [e.eq]
    exact q2) q1) q⟩
/-- x += e, ints -/
theorem iAugI {i : Nat} {f : Int → Int → Int} {a : Int} (h : σ[i]? = some (some (.int a))) (q : te σ H fun y H1 => ∃ d, y = .int d ∧ n (σ.set i (some (.int (f a d)))) H1) (mt : ∀ (A B : VK), (∀ z H2, A z H2 → B z H2) → te σ H A → te σ H B) : tAug i te (ipI f) ⟨n, r, b, c⟩ σ H :=
  ⟨_, h, mt _ _ (fun y H1 ⟨d, e, q1⟩ => ⟨a, d, rfl, e, q1⟩) q⟩
def kAug (i : Nat) (f : Int → Int → Int) (a : Int) (σ : St) (n : St → Hp → Prop) : VK := fun y H1 => ∃ d, y = .int d ∧ n (σ.set i (some (.int (f a d)))) H1
theorem iAugK {i : Nat} {f : Int → Int → Int} {a : Int} (h : σ[i]? = some (some (.int a))) (q : te σ H fun y H1 => (ipI f) (.int a) y H1 fun z H2 => gName i z σ H2 n) : tAug i te (ipI f) ⟨n, r, b, c⟩ σ H := ⟨_, h, q⟩
theorem iIpI {f : Int → Int → Int} (q : Q (.int (f i j)) H) : ipI f (.int i) (.int j) H Q := ⟨i, j, rfl, rfl, q⟩
theorem iAugS {to ti te : TE} {tget : V → V → Hp → VK → Prop} {tip : TIp} {tset : TSet} (q : to σ H fun o H1 => ti σ H1 fun i H2 => tget o i H2 fun x H3 => te σ H3 fun y H4 => tip x y H4 fun z H5 => tset o i z H5 fun H6 => n σ H6) : tAugS to ti te tget tip tset ⟨n, r, b, c⟩ σ H := q
theorem iFor {wi : TI} {g : TG} (q : wi σ H fun J H1 => tForJ J g ts ⟨n, r, b, c⟩ σ H1) : tFor wi g ts ⟨n, r, b, c⟩ σ H := q
/-- targets -/
theorem iSub {to ti : TE} {t : TSet} {QS : St → Hp → Prop} (q : to σ H fun o H1 => ti σ H1 fun i H2 => t o i v H2 fun H3 => QS σ H3) : gSub to ti t v σ H QS := q
theorem iSetL {p : Addr} {xs : List V} {k : Nat} {QH : Hp → Prop} (h : H p = some (.lst xs)) (hi : ixN xs.length i = some k) (q : QH (upd H p (.lst (xs.set k v)))) : rSetL (.ref p) (.int i) v H QH := ⟨p, xs, i, k, rfl, rfl, h, hi, q⟩
/-- expressions -/
theorem iVar {i : Nat} (h : σ[i]? = some (some v)) (q : Q v H) : tVar i σ H Q := ⟨v, h, q⟩
theorem iC (q : Q v H) : tC v σ H Q := q
theorem iOp {rr : R2} (q : ta σ H fun x H1 => tb σ H1 fun y H2 => rr x y H2 Q) : tOp rr ta tb σ H Q := q
theorem iUn {rr : V → Hp → VK → Prop} (q : ta σ H fun x H1 => rr x H1 Q) : tUn rr ta σ H Q := q
theorem iI0 (q : Q (f i j) H) : rI0 f (.int i) (.int j) H Q := ⟨i, j, rfl, rfl, q⟩
theorem iI {C : Int → Int → Prop} (q : Q (f i j) H) (hc : C i j) : rI C f (.int i) (.int j) H Q := ⟨i, j, rfl, rfl, hc, q⟩
theorem iU {g : Int → V} (q : Q (g i) H) : rU g (.int i) H Q := ⟨i, rfl, q⟩
theorem dec_int (i j : Int) : decide (V.int i = V.int j) = decide (i = j) := by
  by_cases h : i = j
  · subst h; rw [decide_eq_true rfl, decide_eq_true rfl]
  · rw [decide_eq_false h, decide_eq_false (fun z => h (V.int.inj z))]
theorem dec_bl (i j : Bool) : decide (V.bl i = V.bl j) = decide (i = j) := by cases i <;> cases j <;> rfl
theorem dec_str (i j : Str) : decide (V.str i = V.str j) = decide (i = j) := by
  by_cases h : i = j
  · subst h; rw [decide_eq_true rfl, decide_eq_true rfl]
  · rw [decide_eq_false h, decide_eq_false (fun z => h (V.str.inj z))]
theorem iEqI (q : Q (.bl (decide (i = j))) H) : rEq (.int i) (.int j) H Q := ⟨rfl, by rw [dec_int]; exact q⟩
theorem iNeI (q : Q (.bl (!decide (i = j))) H) : rNe (.int i) (.int j) H Q := ⟨rfl, by rw [dec_int]; exact q⟩
theorem iEqB {k l : Bool} (q : Q (.bl (decide (k = l))) H) : rEq (.bl k) (.bl l) H Q := ⟨rfl, by rw [dec_bl]; exact q⟩
theorem iNeB {k l : Bool} (q : Q (.bl (!decide (k = l))) H) : rNe (.bl k) (.bl l) H Q := ⟨rfl, by rw [dec_bl]; exact q⟩
theorem iEqS {k l : Str} (q : Q (.bl (decide (k = l))) H) : rEq (.str k) (.str l) H Q := ⟨rfl, by rw [dec_str]; exact q⟩
theorem iNeS {k l : Str} (q : Q (.bl (!decide (k = l))) H) : rNe (.str k) (.str l) H Q := ⟨rfl, by rw [dec_str]; exact q⟩
theorem iIsN (q : Q (.bl (decide (x = .non))) H) : rIsN x .non H Q := ⟨rfl, q⟩
theorem iNotN (q : Q (.bl (!decide (x = .non))) H) : rNotN x .non H Q := ⟨rfl, q⟩
def kBl (QB : Bool → Hp → Prop) : VK := fun x H => ∃ k, x = .bl k ∧ QB k H
theorem iBl {k : Bool} (q : QB k H) : kBl QB (.bl k) H := ⟨k, rfl, q⟩
theorem iTest (q : te σ H (kBl QB)) : tTest te σ H QB := q
theorem iB (q : te σ H (kBl QB)) : tB te σ H QB := q
theorem iAnd (q : tt σ H fun k H1 => if k = true then tu σ H1 QB else QB false H1) : tAnd tt tu σ H QB := q
theorem iOr (q : tt σ H fun k H1 => if k = true then QB true H1 else tu σ H1 QB) : tOr tt tu σ H QB := q
theorem iNot (q : tt σ H fun k H1 => QB (!k) H1) : tNot tt σ H QB := q
theorem iAndV (q : ta σ H (kBl fun k H1 => if k = true then tb σ H1 Q else Q (.bl false) H1)) : tAndV ta tb σ H Q := q
theorem iOrV (q : ta σ H (kBl fun k H1 => if k = true then Q (.bl true) H1 else tb σ H1 Q)) : tOrV ta tb σ H Q := q
theorem iNotV (q : ta σ H (kBl fun k H1 => Q (.bl (!k)) H1)) : tNotV ta σ H Q := q
theorem iIf (q : tt σ H fun k H1 => if k = true then ta σ H1 Q else tb σ H1 Q) : tIf tt ta tb σ H Q := q
theorem iChain {rr rr' : R2} (q : ta σ H fun x H1 => tb σ H1 fun y H2 => rr x y H2 (kBl fun k H3 => if k = true then te σ H3 fun w' H4 => rr' y w' H4 Q else Q (.bl false) H3)) : tChain rr rr' ta tb te σ H Q :=
  q
theorem iCons (q : ta σ H fun x H1 => tR σ H1 fun xs H2 => QA (x :: xs) H2) : tCons ta tR σ H QA := q
theorem iNil (q : QA [] H) : tNil σ H QA := q
theorem iCB {rr : List V → Hp → VK → Prop} (q : tA σ H fun vs H1 => rr vs H1 Q) : tCB rr tA σ H Q := q
theorem iCal {sp : Sp} (q : tA σ H fun vs H1 => sp vs H1 Q E0) : tCal sp tA σ H Q := q
def kNewL (Q : VK) : List V → Hp → Prop := fun xs H1 => xs.length ≤ sizeLine ∧ ∀ p, H1 p = none → Q (.ref p) (upd H1 p (.lst xs))
def kNewT (Q : VK) : List V → Hp → Prop := fun xs H1 => xs.length ≤ sizeLine ∧ ∀ p, H1 p = none → Q (.ref p) (upd H1 p (.tup xs))
theorem iNewL {xs : List V} (h : xs.length ≤ 100000) (q : ∀ p, H p = none → Q (.ref p) (upd H p (.lst xs))) : kNewL Q xs H := ⟨Evl.sz_of h, q⟩
theorem iNewT {xs : List V} (h : xs.length ≤ 100000) (q : ∀ p, H p = none → Q (.ref p) (upd H p (.tup xs))) : kNewT Q xs H := ⟨Evl.sz_of h, q⟩
theorem iApp {p : Addr} {xs : List V} (h : H p = some (.lst xs)) (hz : xs.length < 100000) (q : Q .non (upd H p (.lst (xs ++ [v])))) : rAppend (.ref p) [v] H Q := ⟨p, xs, v, rfl, rfl, h, Evl.sz_lt hz, q⟩
theorem iLst (q : tA σ H (kNewL Q)) : tLst tA σ H Q := q
theorem iTup (q : tA σ H (kNewT Q)) : tTup tA σ H Q := q
theorem iIxL {p : Addr} {xs : List V} (h : H p = some (.lst xs)) (ha : atI xs i = some v) (q : Q v H) : kIxL (.ref p) (.int i) H Q := ⟨p, i, xs, v, rfl, rfl, h, ha, q⟩
theorem iIxT {p : Addr} {xs : List V} (h : H p = some (.tup xs)) (ha : atI xs i = some v) (q : Q v H) : kIxT (.ref p) (.int i) H Q := ⟨p, i, xs, v, rfl, rfl, h, ha, q⟩
theorem iLenL {p : Addr} {xs : List V} (h : H p = some (.lst xs)) (q : Q (.int xs.length) H) : kLenL [.ref p] H Q := ⟨p, xs, rfl, h, q⟩
theorem iLenT {p : Addr} {xs : List V} (h : H p = some (.tup xs)) (q : Q (.int xs.length) H) : kLenT [.ref p] H Q := ⟨p, xs, rfl, h, q⟩
theorem iIxS {p : Addr} {xs : List V} (h : H p = some (.lst xs) ∨ H p = some (.tup xs)) (ha : atI xs i = some v) (q : Q v H) : kIxS (.ref p) (.int i) H Q := ⟨p, i, xs, v, rfl, rfl, h, ha, q⟩
theorem iLenS {p : Addr} {xs : List V} (h : H p = some (.lst xs) ∨ H p = some (.tup xs)) (q : Q (.int xs.length) H) : kLenS [.ref p] H Q := ⟨p, xs, rfl, h, q⟩
theorem iInt (q : Q (.int i) H) : kInt [.int i] H Q := ⟨i, rfl, q⟩
theorem iIsi {cn tn : String} {k : Bool} (h : tyN H x = some tn) (e : kitB tn cn = some k) (q : Q (.bl k) H) : kIsi [x, .ty cn] H Q := ⟨x, cn, tn, k, rfl, h, e, q⟩
theorem iMt {rr : V → List V → Hp → VK → Prop} {i : Nat} {p : Addr} {xs : List V} (e : σ[i]? = some (some (V.ref p))) (h : H p = some (.lst xs)) (q : tA σ H fun ys H2 => rr (V.ref p) ys H2 Q) : kMt rr i tA σ H Q := ⟨p, xs, e, h, q⟩
theorem iAppend {p : Addr} {xs : List V} (h : H p = some (.lst xs)) (hz : xs.length < sizeLine) (q : Q .non (upd H p (.lst (xs ++ [v])))) : rAppend (.ref p) [v] H Q := ⟨p, xs, v, rfl, rfl, h, hz, q⟩
/-- loops' sources -/
def kRng (R : It → Hp → Prop) : List V → Hp → Prop := fun vs H1 => ∃ j : Int, vs = [.int j] ∧ -(2 ^ 62) ≤ j ∧ j < 2 ^ 62 ∧ R (Itr 0 j.toNat) H1
theorem iRng (q : tA σ H (kRng R)) : iRng1 tA σ H R := q
theorem iRngI (h1 : -(2 ^ 62) ≤ i) (h2 : i < 2 ^ 62) (q : R (Itr 0 i.toNat) H) : kRng R [.int i] H := ⟨i, rfl, h1, h2, q⟩
def kItL (K : PySem.W.Frag) (R : It → Hp → Prop) : VK := fun x H1 => ∃ a xs, x = .ref a ∧ H1 a = some (.lst xs) ∧ R (Itl K a) H1
theorem iIterL (q : ta σ H (kItL K R)) : kIterL K ta σ H R := q
theorem iItL {p : Addr} {xs : List V} (h : H p = some (.lst xs)) (q : R (Itl K p) H) : kItL K R (.ref p) H := ⟨p, xs, rfl, h, q⟩
theorem ifT {A B : Prop} {k : Bool} (h : k = true) (q : A) : if k = true then A else B := by rw [if_pos h]; exact q
theorem ifF {A B : Prop} {k : Bool} (h : k = false) (q : B) : if k = true then A else B := by rw [if_neg (by rw [h]; decide)]; exact q
theorem ifD {A B p : Prop} [Decidable p] (h1 : p → A) (h2 : ¬ p → B) : if decide p = true then A else B := by
  by_cases h : p
  · rw [if_pos (decide_eq_true h)]; exact h1 h
  · rw [if_neg (by rw [decide_eq_false h]; decide)]; exact h2 h
theorem ifND {A B p : Prop} [Decidable p] (h1 : ¬ p → A) (h2 : p → B) : if (!decide p) = true then A else B := by
  by_cases h : p
  · rw [decide_eq_true h]; exact h2 h
  · rw [decide_eq_false h]; exact h1 h
theorem iI0n {a d : Nat} {g : Nat → Nat → Nat} {f : Int → Int → V} (e : f (a : Int) (d : Int) = .int ((g a d : Nat) : Int)) (q : Q (.int ((g a d : Nat) : Int)) H) : rI0 f (.int (a : Int)) (.int (d : Int)) H Q := ⟨_, _, rfl, rfl, by rw [e]; exact q⟩
theorem ifNDr {α : Type} {A B : Prop} {a : α} {d : Decidable (a = a)} (q : B) : if (!decide (a = a)) = true then A else B := by rw [decide_eq_true rfl]; exact q
theorem ifDr {α : Type} {A B : Prop} {a : α} {d : Decidable (a = a)} (q : A) : if decide (a = a) = true then A else B := by rw [decide_eq_true rfl]; exact q
theorem ifNp {A B p : Prop} {d : Decidable p} (h : p) (q : B) : if (!decide p) = true then A else B := by rw [decide_eq_true h]; exact q
theorem ifNn {A B p : Prop} {d : Decidable p} (h : ¬ p) (q : A) : if (!decide p) = true then A else B := by rw [decide_eq_false h]; exact q
theorem iTruI {QB : Bool → Prop} (q : QB (i != 0)) : ∃ k, TruV K (.int i) H k ∧ QB k := ⟨_, rfl, q⟩
theorem vInt (e : j = i) (q : Q (.int i) H) : Q (.int j) H := by rw [e]; exact q
end
end R
set_option Elab.async false
set_option maxRecDepth 100000
set_option maxHeartbeats 4000000
namespace R
/-! ### the field, as plain functions -/
def dbl (a : Nat) : Nat := if 2 * a < 256 then 2 * a else (2 * a) ^^^ 285
def dp (a : Nat) : Nat → Nat
  | 0 => a
  | i + 1 => dbl (dp a i)
def gs (a b : Nat) : Nat → Nat
  | 0 => 0
  | i + 1 => if b / 2 ^ i % 2 = 1 then gs a b i ^^^ dp a i else gs a b i
def gm (a b : Nat) : Nat := gs a b 8
def cl (a b : Nat) : Nat → Nat
  | 0 => 0
  | i + 1 => if b / 2 ^ i % 2 = 1 then cl a b i ^^^ (2 ^ i * a) else cl a b i
def rd (t : Nat) : Nat → Nat
  | 0 => t
  | i + 1 => if 32768 / 2 ^ i ≤ rd t i then rd t i ^^^ (36480 / 2 ^ i) else rd t i
def tm (a b : Nat) : Nat := rd (cl a b 8) 8
def pw (a t : Nat) : Nat → Nat × Nat
  | 0 => (a, t)
  | i + 1 => (gm (pw a t i).1 (pw a t i).1, gm (pw a t i).2 (gm (pw a t i).1 (pw a t i).1))
def iv (a : Nat) : Nat := (pw a 1 7).2
def allLt (p : Nat → Bool) : Nat → Bool
  | 0 => true
  | n + 1 => p n && allLt p n
theorem allLt_of {p : Nat → Bool} : ∀ {n : Nat}, allLt p n = true → ∀ i, i < n → p i = true
  | 0, _, i, h => absurd h (Nat.not_lt_zero i)
  | n + 1, e, i, h => by
    have e' : (p n && allLt p n) = true := e
    rw [Bool.and_eq_true] at e'
    by_cases hi : i = n
    · rw [hi]; exact e'.1
    · exact allLt_of e'.2 i (by omega)
theorem xlt {a b : Nat} (ha : a < 256) (hb : b < 256) : a ^^^ b < 256 := Nat.xor_lt_two_pow (n := 8) ha hb
theorem dbl_lt {a : Nat} (ha : a < 256) : dbl a < 256 := by
  have h : allLt (fun a => decide (dbl a < 256)) 256 = true := by decide +kernel
  simpa using allLt_of h a ha
theorem dbl_eq {a : Nat} (ha : a < 256) : dbl a = (a <<< 1) ^^^ (285 * (a >>> 7)) := by
  have h : allLt (fun a => decide (dbl a = (a <<< 1) ^^^ (285 * (a >>> 7)))) 256 = true := by decide +kernel
  simpa using allLt_of h a ha
theorem bit7 {a : Nat} (ha : a < 256) : a >>> 7 = 0 ∨ a >>> 7 = 1 := by
  rw [Nat.shiftRight_eq_div_pow]; omega
theorem xor4 (a b c d : Nat) : (a ^^^ b) ^^^ (c ^^^ d) = (a ^^^ c) ^^^ (b ^^^ d) := by
  rw [Nat.xor_assoc, Nat.xor_assoc, ← Nat.xor_assoc b c d, Nat.xor_comm b c, Nat.xor_assoc c b d]
theorem dbl_xor {a b : Nat} (ha : a < 256) (hb : b < 256) : dbl (a ^^^ b) = dbl a ^^^ dbl b := by
  rw [dbl_eq ha, dbl_eq hb, dbl_eq (xlt ha hb), xor4, Nat.shiftLeft_xor_distrib, Nat.shiftRight_xor_distrib]
  congr 1
  rcases bit7 ha with h | h <;> rcases bit7 hb with k | k <;> rw [h, k] <;> rfl
theorem dp_lt {a : Nat} (ha : a < 256) : ∀ i, dp a i < 256
  | 0 => ha
  | i + 1 => dbl_lt (dp_lt ha i)
theorem dp_xor {a b : Nat} (ha : a < 256) (hb : b < 256) : ∀ i, dp (a ^^^ b) i = dp a i ^^^ dp b i
  | 0 => rfl
  | i + 1 => by
    show dbl (dp (a ^^^ b) i) = dbl (dp a i) ^^^ dbl (dp b i)
    rw [dp_xor ha hb i, dbl_xor (dp_lt ha i) (dp_lt hb i)]
theorem gs_lt {a : Nat} (b : Nat) (ha : a < 256) : ∀ i, gs a b i < 256
  | 0 => by show 0 < 256; decide
  | i + 1 => by
    show (if b / 2 ^ i % 2 = 1 then gs a b i ^^^ dp a i else gs a b i) < 256
    split
    · exact xlt (gs_lt b ha i) (dp_lt ha i)
    · exact gs_lt b ha i
theorem gm_lt {a : Nat} (b : Nat) (ha : a < 256) : gm a b < 256 := gs_lt b ha 8
theorem gs_xor {a b : Nat} (c : Nat) (ha : a < 256) (hb : b < 256) : ∀ i, gs (a ^^^ b) c i = gs a c i ^^^ gs b c i
  | 0 => by show 0 = 0 ^^^ 0; rfl
  | i + 1 => by
    show (if c / 2 ^ i % 2 = 1 then gs (a ^^^ b) c i ^^^ dp (a ^^^ b) i else gs (a ^^^ b) c i) = (if c / 2 ^ i % 2 = 1 then gs a c i ^^^ dp a i else gs a c i) ^^^ (if c / 2 ^ i % 2 = 1 then gs b c i ^^^ dp b i else gs b c i)
    rw [gs_xor c ha hb i, dp_xor ha hb i]
    split
    · exact xor4 _ _ _ _
    · rfl
theorem gm_xor {a b : Nat} (c : Nat) (ha : a < 256) (hb : b < 256) : gm (a ^^^ b) c = gm a c ^^^ gm b c := gs_xor c ha hb 8
theorem dp_dbl (a : Nat) : ∀ i, dp (dbl a) i = dbl (dp a i)
  | 0 => rfl
  | i + 1 => congrArg dbl (dp_dbl a i)
theorem dp_gs {a : Nat} (b : Nat) (ha : a < 256) : ∀ i, dbl (gs a b i) = gs (dbl a) b i
  | 0 => rfl
  | i + 1 => by
    show dbl (if b / 2 ^ i % 2 = 1 then gs a b i ^^^ dp a i else gs a b i) = (if b / 2 ^ i % 2 = 1 then gs (dbl a) b i ^^^ dp (dbl a) i else gs (dbl a) b i)
    split
    · rw [dbl_xor (gs_lt b ha i) (dp_lt ha i), dp_gs b ha i, dp_dbl]
    · exact dp_gs b ha i
theorem dp_gm {a : Nat} (b : Nat) (ha : a < 256) : ∀ i, dp (gm a b) i = gm (dp a i) b
  | 0 => rfl
  | i + 1 => by
    show dbl (dp (gm a b) i) = gm (dbl (dp a i)) b
    rw [dp_gm b ha i]
    exact dp_gs b (dp_lt ha i) 8
theorem gm_zero_l (b : Nat) : gm 0 b = 0 := by
  have h : ∀ i, dp 0 i = 0 := fun i => by
    induction i with
    | zero => rfl
    | succ i ih => show dbl (dp 0 i) = 0; rw [ih]; rfl
  have g : ∀ i, gs 0 b i = 0 := fun i => by
    induction i with
    | zero => rfl
    | succ i ih =>
      show (if b / 2 ^ i % 2 = 1 then gs 0 b i ^^^ dp 0 i else gs 0 b i) = 0
      rw [ih, h]
      split <;> rfl
  exact g 8
theorem gs_gm {a b : Nat} (c : Nat) (ha : a < 256) : ∀ i, gs (gm a b) c i = gm (gs a c i) b
  | 0 => (gm_zero_l b).symm
  | i + 1 => by
    show (if c / 2 ^ i % 2 = 1 then gs (gm a b) c i ^^^ dp (gm a b) i else gs (gm a b) c i) = gm (if c / 2 ^ i % 2 = 1 then gs a c i ^^^ dp a i else gs a c i) b
    rw [gs_gm c ha i, dp_gm b ha i]
    split
    · rw [gm_xor b (gs_lt c ha i) (dp_lt ha i)]
    · rfl
theorem gm_swap {a b : Nat} (c : Nat) (ha : a < 256) : gm (gm a b) c = gm (gm a c) b := gs_gm c ha 8
theorem gm_one_l {a : Nat} (ha : a < 256) : gm 1 a = a := by
  have h : allLt (fun a => Nat.beq (gm 1 a) a) 256 = true := by decide +kernel
  exact Nat.eq_of_beq_eq_true (allLt_of h a ha)
theorem gm_comm {a b : Nat} (ha : a < 256) (hb : b < 256) : gm a b = gm b a := by
  have h : gm (gm 1 a) b = gm (gm 1 b) a := gm_swap b (by decide)
  rw [gm_one_l ha, gm_one_l hb] at h
  exact h
/-! ### the law's own product is the same -/
theorem high {z m : Nat} (hz : z < 2 ^ (m + 1)) : 2 ^ m ≤ z ↔ z.testBit m = true := by
  have e : 2 ^ (m + 1) = 2 * 2 ^ m := by rw [Nat.pow_succ, Nat.mul_comm]
  constructor
  · intro h
    rw [Nat.testBit_eq_decide_div_mod_eq, decide_eq_true_eq]
    have : z / 2 ^ m = 1 := Nat.div_eq_of_lt_le (by omega) (by omega)
    rw [this]
  · exact Nat.ge_two_pow_of_testBit
def st (m c t : Nat) : Nat := if 2 ^ m ≤ t then t ^^^ c else t
theorem st_xor {m c x y : Nat} (hx : x < 2 ^ (m + 1)) (hy : y < 2 ^ (m + 1)) : st m c (x ^^^ y) = st m c x ^^^ st m c y := by
  have hz := Nat.xor_lt_two_pow hx hy
  have e : (x ^^^ y).testBit m = (x.testBit m ^^ y.testBit m) := Nat.testBit_xor ..
  unfold st
  by_cases a : 2 ^ m ≤ x <;> by_cases b : 2 ^ m ≤ y
  · have n : ¬ 2 ^ m ≤ x ^^^ y := by rw [high hz, e, (high hx).mp a, (high hy).mp b]; decide
    rw [if_pos a, if_pos b, if_neg n, xor4, Nat.xor_self, Nat.xor_zero]
  · have b' : y.testBit m = false := by rw [high hy] at b; simpa using b
    have n : 2 ^ m ≤ x ^^^ y := by rw [high hz, e, (high hx).mp a, b']; decide
    rw [if_pos a, if_neg b, if_pos n, Nat.xor_assoc, Nat.xor_assoc, Nat.xor_comm y c]
  · have a' : x.testBit m = false := by rw [high hx] at a; simpa using a
    have n : 2 ^ m ≤ x ^^^ y := by rw [high hz, e, (high hy).mp b, a']; decide
    rw [if_neg a, if_pos b, if_pos n, Nat.xor_assoc]
  · have a' : x.testBit m = false := by rw [high hx] at a; simpa using a
    have b' : y.testBit m = false := by rw [high hy] at b; simpa using b
    have n : ¬ 2 ^ m ≤ x ^^^ y := by rw [high hz, e, a', b']; decide
    rw [if_neg a, if_neg b, if_neg n]
theorem st_lt {m c t : Nat} (hc : c < 2 ^ (m + 1)) (hc' : 2 ^ m ≤ c) (ht : t < 2 ^ (m + 1)) : st m c t < 2 ^ m := by
  unfold st
  by_cases a : 2 ^ m ≤ t
  · rw [if_pos a]
    have hz := Nat.xor_lt_two_pow ht hc
    have e : (t ^^^ c).testBit m = (t.testBit m ^^ c.testBit m) := Nat.testBit_xor ..
    have n : ¬ 2 ^ m ≤ t ^^^ c := by rw [high hz, e, (high ht).mp a, (high hc).mp hc']; decide
    omega
  · rw [if_neg a]; omega
theorem tab (i : Nat) (h : i < 8) : 32768 / 2 ^ i = 2 ^ (15 - i) ∧ 36480 / 2 ^ i < 2 ^ (15 - i + 1) ∧ 2 ^ (15 - i) ≤ 36480 / 2 ^ i := by
  have t : ∀ i : Fin 8, 32768 / 2 ^ i.val = 2 ^ (15 - i.val) ∧ 36480 / 2 ^ i.val < 2 ^ (15 - i.val + 1) ∧ 2 ^ (15 - i.val) ≤ 36480 / 2 ^ i.val := by decide +kernel
  exact t ⟨i, h⟩
theorem rd_st {t i : Nat} (h : i < 8) : rd t (i + 1) = st (15 - i) (36480 / 2 ^ i) (rd t i) := by
  show (if 32768 / 2 ^ i ≤ rd t i then rd t i ^^^ (36480 / 2 ^ i) else rd t i) = _
  rw [(tab i h).1]
  rfl
theorem rd_lt {t : Nat} (ht : t < 65536) : ∀ i, i ≤ 8 → rd t i < 2 ^ (16 - i)
  | 0, _ => ht
  | i + 1, h => by
    rw [rd_st (by omega), show 16 - (i + 1) = 15 - i by omega]
    exact st_lt (tab i (by omega)).2.1 (tab i (by omega)).2.2 (by rw [show 15 - i + 1 = 16 - i by omega]; exact rd_lt ht i (by omega))
theorem rd_xor {x y : Nat} (hx : x < 65536) (hy : y < 65536) : ∀ i, i ≤ 8 → rd (x ^^^ y) i = rd x i ^^^ rd y i
  | 0, _ => rfl
  | i + 1, h => by
    rw [rd_st (by omega), rd_st (by omega), rd_st (by omega), rd_xor hx hy i (by omega)]
    refine st_xor ?_ ?_
    · rw [show 15 - i + 1 = 16 - i by omega]; exact rd_lt hx i (by omega)
    · rw [show 15 - i + 1 = 16 - i by omega]; exact rd_lt hy i (by omega)
theorem sh_lt {a i : Nat} (ha : a < 256) (hi : i < 8) : 2 ^ i * a < 65536 := by
  have h : 2 ^ i ≤ 2 ^ 7 := Nat.pow_le_pow_right (by decide) (by omega)
  have k : 2 ^ i * a ≤ 2 ^ 7 * a := Nat.mul_le_mul_right a h
  omega
theorem cl_lt {a : Nat} (b : Nat) (ha : a < 256) : ∀ i, i ≤ 8 → cl a b i < 65536
  | 0, _ => by show 0 < 65536; decide
  | i + 1, h => by
    show (if b / 2 ^ i % 2 = 1 then cl a b i ^^^ (2 ^ i * a) else cl a b i) < 65536
    split
    · exact Nat.xor_lt_two_pow (n := 16) (cl_lt b ha i (by omega)) (sh_lt ha (by omega))
    · exact cl_lt b ha i (by omega)
theorem rd_dp {a i : Nat} (ha : a < 256) (hi : i < 8) : rd (2 ^ i * a) 8 = dp a i := by
  have h : allLt (fun a => allLt (fun i => Nat.beq (rd (2 ^ i * a) 8) (dp a i)) 8) 256 = true := by decide +kernel
  exact Nat.eq_of_beq_eq_true (allLt_of (allLt_of h a ha) i hi)
theorem rd_cl {a : Nat} (b : Nat) (ha : a < 256) : ∀ i, i ≤ 8 → rd (cl a b i) 8 = gs a b i
  | 0, _ => by
    show rd 0 8 = 0
    decide +kernel
  | i + 1, h => by
    show rd (if b / 2 ^ i % 2 = 1 then cl a b i ^^^ (2 ^ i * a) else cl a b i) 8 = (if b / 2 ^ i % 2 = 1 then gs a b i ^^^ dp a i else gs a b i)
    split
    · rw [rd_xor (cl_lt b ha i (by omega)) (sh_lt ha (by omega)) 8 (by omega), rd_cl b ha i (by omega), rd_dp ha (by omega)]
    · exact rd_cl b ha i (by omega)
theorem gm_tm {a : Nat} (b : Nat) (ha : a < 256) : tm a b = gm a b := rd_cl b ha 8 (by omega)
theorem gm_two {a : Nat} (ha : a < 256) : gm a 2 = dbl a := by
  have h : allLt (fun a => Nat.beq (gm a 2) (dbl a)) 256 = true := by decide +kernel
  exact Nat.eq_of_beq_eq_true (allLt_of h a ha)
theorem gm_assoc {a b c : Nat} (ha : a < 256) (hb : b < 256) (hc : c < 256) : gm a (gm b c) = gm (gm a b) c := by
  rw [gm_comm ha (gm_lt c hb), gm_swap a hb, gm_comm hb ha]
theorem gm_xor_r {a b c : Nat} (ha : a < 256) (hb : b < 256) (hc : c < 256) : gm a (b ^^^ c) = gm a b ^^^ gm a c := by
  rw [gm_comm ha (xlt hb hc), gm_xor a hb hc, gm_comm ha hb, gm_comm ha hc]
theorem gm_one_r {a : Nat} (ha : a < 256) : gm a 1 = a := by rw [gm_comm ha (by decide), gm_one_l ha]
theorem gm_zero_r (a : Nat) : gm a 0 = 0 := by
  have h : ∀ i, (0 : Nat) / 2 ^ i % 2 = 0 := fun i => by rw [Nat.zero_div]
  have g : ∀ i, gs a 0 i = 0 := fun i => by
    induction i with
    | zero => rfl
    | succ i ih =>
      show (if 0 / 2 ^ i % 2 = 1 then gs a 0 i ^^^ dp a i else gs a 0 i) = 0
      rw [ih, h, if_neg (by decide)]
  exact g 8
theorem iv_ok {a : Nat} (ha : a < 256) (h0 : a ≠ 0) : gm a (iv a) = 1 ∧ 0 < iv a ∧ iv a < 256 := by
  have h : allLt (fun a => a == 0 || (Nat.beq (gm a (iv a)) 1 && decide (0 < iv a) && decide (iv a < 256))) 256 = true := by decide +kernel
  have k := allLt_of h a ha
  simp only [Bool.or_eq_true, beq_iff_eq, Bool.and_eq_true, decide_eq_true_eq] at k
  rcases k with k | ⟨⟨k1, k2⟩, k3⟩
  · exact absurd k h0
  · exact ⟨Nat.eq_of_beq_eq_true k1, k2, k3⟩
theorem pw_lt {a t : Nat} (ha : a < 256) (ht : t < 256) : ∀ i, (pw a t i).1 < 256 ∧ (pw a t i).2 < 256
  | 0 => ⟨ha, ht⟩
  | i + 1 => ⟨gm_lt _ (pw_lt ha ht i).1, gm_lt _ (pw_lt ha ht i).2⟩
end R
set_option Elab.async false
set_option linter.all false
set_option maxRecDepth 100000
set_option maxHeartbeats 4000000
namespace R
open PySem PySem.Spec L2
/-! ### dict(enumerate(xs)) -/
/-- the pairs of dict(enumerate(xs)) -/
def enumFrom (n : Nat) : List V → List (Key × V)
  | [] => []
  | x :: xs => (.inl (n : Int), x) :: enumFrom (n + 1) xs
def enumVal (n : Nat) : List Value → List (Key × Value)
  | [] => []
  | x :: xs => (.inl (n : Int), x) :: enumVal (n + 1) xs
theorem enum_KV : ∀ {xs : List V} {us : List Value} (n : Nat), Vals xs us → KV (enumFrom n xs) (enumVal n us)
  | _, _, _, .nil => .nil
  | _, _, n, .cons r t => .cons ⟨rfl, r⟩ (enum_KV (n + 1) t)
theorem enumVal_get : ∀ (us : List Value) (n i : Nat) (u : Value), us[i]? = some u → (enumVal n us)[i]? = some (.inl ((n + i : Nat) : Int), u)
  | [], _, _, _, h => by simp at h
  | x :: us, n, 0, u, h => by
    simp at h
    subst h
    rfl
  | x :: us, n, i + 1, u, h => by
    have e := enumVal_get us (n + 1) i u (by simpa using h)
    rw [show n + 1 + i = n + (i + 1) by omega] at e
    simpa [enumVal] using e
theorem enumVal_len : ∀ (us : List Value) (n : Nat), (enumVal n us).length = us.length
  | [], _ => rfl
  | x :: us, n => by simp [enumVal, enumVal_len us (n + 1)]
theorem enumFrom_len : ∀ (us : List V) (n : Nat), (enumFrom n us).length = us.length
  | [], _ => rfl
  | x :: us, n => by simp [enumFrom, enumFrom_len us (n + 1)]
def kDE (ta : TA) : TE := fun σ H Q => ta σ H fun vs H1 => ∃ a xs, vs = [.ref a] ∧ H1 a = some (.lst xs) ∧ ∀ d, H1 d = none → Q (.ref d) (upd H1 d (.dK (mergeK [] (enumFrom 0 xs))))
section
variable {X : Cx}
theorem pe_dictEnum {e : Expr} {ta : TA} {p p2 pos pos2 : Pos} (hc : X.calm = true) (hg : Gl X "dict") (hm : X.mg "dict" = none) (hg2 : Gl X "enumerate") (hm2 : X.mg "enumerate" = none) (ha : PA X [e] ta) (hs : starEach [e] X.env = [(false, eval e X.env)] := by rfl)
    (hs2 : starEach [Expr.Call (.Name "enumerate" p2) [e] [] pos2] X.env = [(false, eval (.Call (.Name "enumerate" p2) [e] [] pos2) X.env)] := by rfl) :
    PE X (.Call (.Name "dict" p) [.Call (.Name "enumerate" p2) [e] [] pos2] [] pos) (kDE ta) := by
  refine ⟨fun pins s σ H Q I h => ?_⟩
  refine wpAny_Call_Name_kw (ld_blt I hg hm PyProof.Rows.boot_dict ?_ (by decide) (by decide))
  refine PyProof.Rows.callWith_type1 ?_ hs2 rfl
  rw [hs2]
  refine Calls.spliced_cons ?_
  show wpAny _ _ (eval (.Call (.Name "enumerate" p2) [e] [] pos2) X.env) _ _ _
  refine PyProof.Rows.Call_ (ld_blt I hg2 hm2 PyProof.Rows.boot_enumerate (PyProof.Rows.callWith_type1 (thn (ha.run pos2 pins s σ H _ I h) fun us s1 ⟨vs, H1, I1, r1, q1⟩ => ?_) hs rfl))
  obtain ⟨a, xs, rfl, hq, q⟩ := q1
  cases r1 with
  | cons r rr =>
    cases rr
    cases r
    obtain ⟨its, rv, pl, hz⟩ := I1.list (SqL.tr hq)
    obtain ⟨o, no, ho, oc, od, odat⟩ := pl
    have isl : s1.heap.IsList a its.toArray := ⟨o, ho, oc, no, odat⟩
    have la : a < s1.heap.objs.size := Heap.lt_size ho
    refine call_enumerate_list isl fun h' he hit hsz hk => ?_
    refine Calls.spliced_nil ?_
    have ln := rv.length
    refine call_dict_pairs (knd := mixKind X.prog X.w) (kvs := enumVal 0 its) (PairArg.enumerate (s1.heap.objs.size + 1) s1.heap.objs.size a (Nat.succ_ne_self _) (Nat.ne_of_lt (Nat.lt_succ_of_lt la)) (Nat.ne_of_lt la) its.toArray) (I1.ok.hd hc) ⟨⟨.none, he⟩, hit, isl.at fun b hb => hk _ b hb⟩ ⟨?_, ?_⟩ ?_ fun h'' tk hd' hk' => ?_
    · rw [enumVal_len, List.size_toArray]
    · intro i key v hi
      obtain ⟨⟨t, rfl⟩, hv⟩ := hi
      refine ⟨.inl (i : Int), ?_, keyIs_int _ t⟩
      have e := enumVal_get its 0 i v (by simpa using hv)
      rw [Nat.zero_add] at e
      exact e
    · rw [List.size_toArray, ← ln]
      exact hz
    · have hlt : s1.heap.objs.size ≤ h'.objs.size := by omega
      have big := I1.big
      have hm : (h'.objs.size == sysModules) = false := beq_eq_false_iff_ne.mpr (Nat.ne_of_gt (Nat.lt_of_lt_of_le big hlt))
      have hln : (mergeK [] (enumFrom 0 xs)).length ≤ sizeLine := by
        refine Nat.le_trans (length_mergeK _ []) ?_
        rw [List.length_nil, Nat.zero_add, enumFrom_len]
        exact hz
      have keep : ∀ b u, s1.heap.get? b = some u → h''.get? b = some u := fun b u hb => by
        have hb' := Heap.lt_size hb
        refine hk' b u ?_ (hk b u hb)
        simp only [List.mem_cons, List.not_mem_nil, or_false, not_or]
        exact ⟨Nat.ne_of_lt (Nat.lt_succ_of_lt hb'), Nat.ne_of_lt hb'⟩
      refine ⟨.ref h'.objs.size, upd H1 h'.objs.size (.dK (mergeK [] (enumFrom 0 xs))), ?_, rfl, q _ (I1.hok.fresh hlt)⟩
      exact I1.laid (t' := tk) keep hlt (show ObjOk X.prog X.w _ _ _ (.dK _) from ⟨hln, hm, merged [] (enumVal 0 its), KV.merge (enum_KV 0 rv) .nil, hd'⟩)
end
def kDEv (Q : VK) : List V → Hp → Prop := fun vs H1 => ∃ a xs, vs = [.ref a] ∧ H1 a = some (.lst xs) ∧ ∀ d, H1 d = none → Q (.ref d) (upd H1 d (.dK (mergeK [] (enumFrom 0 xs))))
theorem iDEa {ta : TA} {σ : L2.St} {H : Hp} {Q : VK} (q : ta σ H (kDEv Q)) : kDE ta σ H Q := q
theorem iDE {H : Hp} {Q : VK} {a : Addr} {xs : List V} (h : H a = some (.lst xs)) (q : ∀ d, H d = none → Q (.ref d) (upd H d (.dK (mergeK [] (enumFrom 0 xs))))) : kDEv Q [V.ref a] H := ⟨a, xs, rfl, h, q⟩
/-! ### comprehensions -/
def tLcJ (J : It) (g : TG) (tt : TT) (te : TE) (vs : List Nat) (σ : L2.St) (H1 : Hp) (Q : VK) : Prop := ∀ D, H1 D = none → ∃ W : Nat → Nat → Hp → Prop, (∃ m, W 0 m (upd H1 D (.lst []))) ∧ ∀ i m H, W i m H →
  (J.stop i H ∧ Q (.ref D) H) ∨ (J.go i H ∧ ∃ Nx : Hp → Prop, (∀ H', Nx H' → ∃ m', m' < m ∧ W (i + 1) m' H') ∧ ∀ x H', J.yld i H x H' → g x (wipe σ vs) H' fun σ2 H2 => wipe σ2 vs = wipe σ vs ∧ tt σ2 H2 fun b H3 =>
    if b = true then te σ2 H3 fun y H4 => ∃ acc, H4 D = some (.lst acc) ∧ acc.length < sizeLine ∧ Nx (upd H4 D (.lst (acc ++ [y]))) else Nx H3)
inductive NoneAt : L2.St → Nat → L2.St → Prop
  | zero {x : Option V} {σ : L2.St} : NoneAt (x :: σ) 0 (none :: σ)
  | succ {x : Option V} {σ σ' : L2.St} {i : Nat} (h : NoneAt σ i σ') : NoneAt (x :: σ) (i + 1) (x :: σ')
theorem NoneAt.eq {σ σ' : L2.St} {i : Nat} (h : NoneAt σ i σ') : σ.set i none = σ' := by
  induction h with
  | zero => rfl
  | succ _ ih => rw [List.set_cons_succ, ih]
inductive Wip : L2.St → List Nat → L2.St → Prop
  | nil {σ : L2.St} : Wip σ [] σ
  | cons {σ σ1 σ2 : L2.St} {v : Nat} {vs : List Nat} (h : Wip σ vs σ1) (k : NoneAt σ1 v σ2) : Wip σ (v :: vs) σ2
theorem Wip.eq {σ σ' : L2.St} {vs : List Nat} (h : Wip σ vs σ') : wipe σ vs = σ' := by
  induction h with
  | nil => rfl
  | cons _ k ih =>
    unfold wipe
    rw [ih, k.eq]
/-- what a turn is to reach: the new list at D with at most so many items, and the word -/
def LcW (D : Addr) (i : Nat) (Pv : Nat → List V → Hp → Prop) (H : Hp) : Prop := ∃ acc, H D = some (.lst acc) ∧ acc.length ≤ i ∧ Pv i acc H
def kLcE (D : Addr) (i : Nat) (Pv : Nat → List V → Hp → Prop) : VK := fun y H4 => ∃ acc, H4 D = some (.lst acc) ∧ acc.length < sizeLine ∧ LcW D (i + 1) Pv (upd H4 D (.lst (acc ++ [y])))
def kLc (vs : List Nat) (σ' : L2.St) (tt : TT) (te : TE) (D : Addr) (i : Nat) (Pv : Nat → List V → Hp → Prop) : L2.St → Hp → Prop := fun σ2 H2 => wipe σ2 vs = σ' ∧ tt σ2 H2 fun b H3 => if b = true then te σ2 H3 (kLcE D i Pv) else LcW D (i + 1) Pv H3
theorem iLcB {vs : List Nat} {σ' σ2 : L2.St} {tt : TT} {te : TE} {D : Addr} {i : Nat} {Pv : Nat → List V → Hp → Prop} {H2 : Hp} (h : wipe σ2 vs = σ') (q : tt σ2 H2 fun b H3 => if b = true then te σ2 H3 (kLcE D i Pv) else LcW D (i + 1) Pv H3) : kLc vs σ' tt te D i Pv σ2 H2 := ⟨h, q⟩
theorem iLcE {D : Addr} {i : Nat} {Pv : Nat → List V → Hp → Prop} {H : Hp} {y : V} {acc : List V} (h : H D = some (.lst acc)) (hl : acc.length ≤ i) (hi : i < 100000) (q : Pv (i + 1) (acc ++ [y]) (upd H D (.lst (acc ++ [y])))) : kLcE D i Pv y H :=
  ⟨acc, h, Evl.sz_lt (by omega), acc ++ [y], upd_same, by rw [List.length_append, List.length_singleton]; omega, q⟩
theorem iLcN {D : Addr} {i : Nat} {Pv : Nat → List V → Hp → Prop} {H : Hp} {acc : List V} (h : H D = some (.lst acc)) (hl : acc.length ≤ i) (q : Pv (i + 1) acc H) : LcW D (i + 1) Pv H := ⟨acc, h, by omega, q⟩
theorem iYes {σ : L2.St} {H : Hp} {QB : Bool → Hp → Prop} (q : QB true H) : tYes σ H QB := q
theorem iLc {wi : TI} {g : TG} {tt : TT} {te : TE} {vs : List Nat} {σ : L2.St} {H : Hp} {Q : VK} (q : wi σ H fun J H1 => tLcJ J g tt te vs σ H1 Q) : tLc wi g tt te vs σ H Q := q
/-- a comprehension over what is walked in n turns -/
theorem lcJ {J : It} {n : Nat} {G : Hp → Prop} {Y : Nat → Hp → V → Hp → Prop} (w : Walk J n G Y) {g : TG} {tt : TT} {te : TE} {vs : List Nat} {σ σ' : L2.St} {H1 : Hp} {Q : VK} (hw : Wip σ vs σ') (Pv : Addr → Nat → List V → Hp → Prop)
    (h0 : ∀ D, H1 D = none → Pv D 0 [] (upd H1 D (.lst []))) (hG : ∀ D i acc H, H1 D = none → H D = some (.lst acc) → Pv D i acc H → G H)
    (hs : ∀ D i acc x H H', H1 D = none → i < n → H D = some (.lst acc) → acc.length ≤ i → Pv D i acc H → Y i H x H' → g x σ' H' (kLc vs σ' tt te D i (Pv D)))
    (hd : ∀ D acc H, H1 D = none → H D = some (.lst acc) → acc.length ≤ n → Pv D n acc H → Q (.ref D) H) : tLcJ J g tt te vs σ H1 Q := by
  intro D hD
  have hb := lc_it w (g := g) (tt := tt) (te := te) (vs := vs) (σ := σ) (H1 := H1) (D := D) (Qd := Q (.ref D)) (fun i H => LcW D i (Pv D) H) ⟨[], upd_same, Nat.le_refl _, h0 D hD⟩ (fun i H _ ⟨acc, e, _, p⟩ => hG D i acc H hD e p)
    (fun i x H H' hi ⟨acc, e, l, p⟩ y => by
      rw [hw.eq]
      exact hs D i acc x H H' hD hi e l p y) (fun H ⟨acc, e, l, p⟩ => hd D acc H hD e l p)
  exact hb
section
variable {K : PySem.W.Frag} {g : TG} {tt : TT} {te : TE} {vs : List Nat} {σ σ' : L2.St} {H1 : Hp} {Q : VK}
theorem lc_r {lo : Int} {n : Nat} (hw : Wip σ vs σ') (Pv : Addr → Nat → List V → Hp → Prop) (h0 : ∀ D, H1 D = none → Pv D 0 [] (upd H1 D (.lst [])))
    (hs : ∀ D i acc H, H1 D = none → i < n → H D = some (.lst acc) → acc.length ≤ i → Pv D i acc H → g (.int (lo + (i : Int))) σ' H (kLc vs σ' tt te D i (Pv D)))
    (hd : ∀ D acc H, H1 D = none → H D = some (.lst acc) → acc.length ≤ n → Pv D n acc H → Q (.ref D) H) : tLcJ (Itr lo n) g tt te vs σ H1 Q :=
  lcJ walk_range hw Pv h0 (fun _ _ _ _ _ _ _ => trivial) (fun D i acc x H H' a b c d e ⟨y1, y2⟩ => by rw [y1, y2]; exact hs D i acc H a b c d e) hd
theorem lc_r0 {n : Nat} (hw : Wip σ vs σ') (Pv : Addr → Nat → List V → Hp → Prop) (h0 : ∀ D, H1 D = none → Pv D 0 [] (upd H1 D (.lst [])))
    (hs : ∀ D i acc H, H1 D = none → i < n → H D = some (.lst acc) → acc.length ≤ i → Pv D i acc H → g (.int (i : Int)) σ' H (kLc vs σ' tt te D i (Pv D)))
    (hd : ∀ D acc H, H1 D = none → H D = some (.lst acc) → acc.length ≤ n → Pv D n acc H → Q (.ref D) H) : tLcJ (Itr 0 n) g tt te vs σ H1 Q :=
  lc_r hw Pv h0 (fun D i acc H a b c d e => by rw [Int.zero_add]; exact hs D i acc H a b c d e) hd
theorem lc_l {a : Addr} (xs : List V) (hw : Wip σ vs σ') (Pv : Addr → Nat → List V → Hp → Prop) (h0 : ∀ D, H1 D = none → Pv D 0 [] (upd H1 D (.lst []))) (hl : ∀ D i acc H, H1 D = none → H D = some (.lst acc) → Pv D i acc H → H a = some (.lst xs))
    (hs : ∀ D i acc x H, H1 D = none → xs[i]? = some x → H D = some (.lst acc) → acc.length ≤ i → Pv D i acc H → g x σ' H (kLc vs σ' tt te D i (Pv D)))
    (hd : ∀ D acc H, H1 D = none → H D = some (.lst acc) → acc.length ≤ xs.length → Pv D xs.length acc H → Q (.ref D) H) : tLcJ (Itl K a) g tt te vs σ H1 Q :=
  lcJ walk_list hw Pv h0 (fun D i acc H h e p => SqL.tr (hl D i acc H h e p)) (fun D i acc x H H' a b c d e ⟨y1, y2⟩ => by rw [y1]; exact hs D i acc x H a y2 c d e) hd
theorem lc_z {a b : Addr} (xs ys : List V) (he : xs.length = ys.length) (hw : Wip σ vs σ') (Pv : Addr → Nat → List V → Hp → Prop) (h0 : ∀ D, H1 D = none → Pv D 0 [] (upd H1 D (.lst [])))
    (hl : ∀ D i acc H, H1 D = none → H D = some (.lst acc) → Pv D i acc H → H a = some (.lst xs) ∧ H b = some (.lst ys))
    (hs : ∀ D i acc x y T H, H1 D = none → xs[i]? = some x → ys[i]? = some y → H D = some (.lst acc) → acc.length ≤ i → Pv D i acc H → H T = none → g (.ref T) σ' (upd H T (.tup [x, y])) (kLc vs σ' tt te D i (Pv D)))
    (hd : ∀ D acc H, H1 D = none → H D = some (.lst acc) → acc.length ≤ xs.length → Pv D xs.length acc H → Q (.ref D) H) : tLcJ (Itz K a b) g tt te vs σ H1 Q :=
  lcJ (walk_zip (xs := xs) (ys := ys) (n := xs.length) (by omega)) hw Pv h0 (fun D i acc H h e p => ⟨SqL.tr (hl D i acc H h e p).1, SqL.tr (hl D i acc H h e p).2⟩)
    (fun D i acc x H H' a b c d e ⟨T, u, v, y1, y2, y3, y4, y5⟩ => by rw [y1, y3]; exact hs D i acc u v T H a y4 y5 c d e y2) hd
end
/-! ### x in xs, tracked -/
theorem OpR.imp {X : Cx} {f : Value → Value → Sem Value} {r r' : R2} (h : OpR X f r) (i : ∀ x y H Q, r' x y H Q → r x y H Q) : OpR X f r' := fun pins s σ H x y v u Q I rx ry q => h pins s σ H x y v u Q I rx ry (i x y H Q q)
def kIn (neg : Bool) : R2 := fun x y H Q => ∃ p xs, y = .ref p ∧ (H p = some (.lst xs) ∨ H p = some (.tup xs)) ∧ flatV x = true ∧ xs.all flatV = true ∧ Q (.bl (if neg then !inV x xs else inV x xs)) H
theorem op_inS {X : Cx} : OpR X (compareOp .In) (kIn false) := OpR.imp op_in_seq fun _ _ _ _ ⟨p, xs, e, h, f, g, q⟩ => ⟨p, xs, e, h.elim (fun h => .inl (SqL.tr h)) (fun h => .inr (SqT.tr h)), f, g, q⟩
theorem op_ninS {X : Cx} : OpR X (compareOp .NotIn) (kIn true) := OpR.imp op_notIn_seq fun _ _ _ _ ⟨p, xs, e, h, f, g, q⟩ => ⟨p, xs, e, h.elim (fun h => .inl (SqL.tr h)) (fun h => .inr (SqT.tr h)), f, g, q⟩
/-! ### dicts, lists made anew, tuples taken apart -/
section
variable {K : PySem.W.Frag} {σ σ' : L2.St} {H : Hp} {Q : VK} {ta tb td ty tv : TE} {n b c : L2.St → Hp → Prop} {r : VK} {x y v : V} {i j : Int} {tA : TA} {R : It → Hp → Prop} {QB : Bool → Hp → Prop}
def kDG (Q : VK) (x y : V) (H : Hp) : Prop := ∃ a v, x = .ref a ∧ DGet H a y (some v) ∧ Q v H
theorem iDGet (q : td σ H fun x H1 => ty σ H1 fun y H2 => kDG Q x y H2) : tDGet td ty σ H Q := q
theorem iDGi {a : Addr} {kvs : List (Key × V)} (h : H a = some (.dK kvs)) (e : valV kvs (.inl i : Key) = some v) (q : Q v H) : kDG Q (.ref a) (.int i) H := ⟨a, v, rfl, e ▸ DGet.k (k := Sum.inl i) h, q⟩
theorem iDGs {a : Addr} {kvs : List (Key × V)} {z : Str} (h : H a = some (.dK kvs)) (e : valV kvs (.inr z : Key) = some v) (q : Q v H) : kDG Q (.ref a) (.str z) H := ⟨a, v, rfl, e ▸ DGet.k (k := Sum.inr z) h, q⟩
def kDI (Q : VK) (y x : V) (H : Hp) : Prop := ∃ a o, x = .ref a ∧ DGet H a y o ∧ Q (.bl o.isSome) H
theorem iDIn (q : ty σ H fun y H1 => td σ H1 fun x H2 => kDI Q y x H2) : tDIn ty td σ H Q := q
theorem iDIi {a : Addr} {kvs : List (Key × V)} (h : H a = some (.dK kvs)) (q : Q (.bl (valV kvs (.inl i : Key)).isSome) H) : kDI Q (.int i) (.ref a) H := ⟨a, _, rfl, DGet.k (k := Sum.inl i) h, q⟩
def kDN (Q : VK) (y x : V) (H : Hp) : Prop := ∃ a o, x = .ref a ∧ DGet H a y o ∧ Q (.bl (!o.isSome)) H
theorem iDNotIn (q : ty σ H fun y H1 => td σ H1 fun x H2 => kDN Q y x H2) : tDNotIn ty td σ H Q := q
theorem iDNi {a : Addr} {kvs : List (Key × V)} (h : H a = some (.dK kvs)) (q : Q (.bl (!(valV kvs (.inl i : Key)).isSome)) H) : kDN Q (.int i) (.ref a) H := ⟨a, _, rfl, DGet.k (k := Sum.inl i) h, q⟩
def kDP (n : L2.St → Hp → Prop) (σ : L2.St) (v x y : V) (H : Hp) : Prop := ∃ a H4, x = .ref a ∧ DPut H a y v H4 ∧ n σ H4
theorem iDPut (q : tv σ H fun v H1 => td σ H1 fun x H2 => ty σ H2 fun y H3 => kDP n σ v x y H3) : sDPut td ty tv ⟨n, r, b, c⟩ σ H := q
theorem iDPi {a : Addr} {kvs : List (Key × V)} (h : H a = some (.dK kvs)) (hl : kvs.length < 100000) (q : n σ (upd H a (.dK (putK kvs (.inl i) v)))) : kDP n σ v (.ref a) (.int i) H := ⟨a, _, rfl, DPut.k (k := Sum.inl i) h (Evl.sz_lt hl), q⟩
theorem iDNew {Q : VK} (q : ∀ d, H d = none → Q (.ref d) (upd H d (.dK []))) : tDNewK σ H Q := q
theorem iListD {a : Addr} {kvs : List (Key × V)} (h : H a = some (.dK kvs)) (q : ∀ p, H p = none → Q (.ref p) (upd H p (.lst (kvs.map fun kv => kV kv.1)))) : rListD [.ref a] H Q := ⟨a, kvs, rfl, h, q⟩
theorem iListL {p : Addr} {xs : List V} (h : H p = some (.lst xs)) (q : ∀ l, H l = none → Q (.ref l) (upd H l (.lst xs))) : kListL [.ref p] H Q := ⟨p, xs, rfl, h, q⟩
theorem iTupL {p : Addr} {xs : List V} (h : H p = some (.lst xs)) (q : ∀ l, H l = none → Q (.ref l) (upd H l (.tup xs))) : kTupL [.ref p] H Q := ⟨p, xs, rfl, h, q⟩
theorem iSorted {a : Addr} {ns : List Int} (h : H a = some (.lst (ns.map V.int))) (hl : ns.length < 64) (q : ∀ (ns' : List Int) (p : Addr), ns'.Perm ns → ns'.Pairwise (· ≤ ·) → H p = none → Q (.ref p) (upd H p (.lst (ns'.map V.int)))) : rSorted K [.ref a] H Q := ⟨a, ns, rfl, SqL.tr h, hl, q⟩
theorem iCat {l m : Addr} {xs ys : List V} (h : H l = some (.lst xs)) (h2 : H m = some (.lst ys)) (hz : xs.length + ys.length ≤ 100000) (q : ∀ p, H p = none → Q (.ref p) (upd H p (.lst (xs ++ ys)))) : rCat (.ref l) (.ref m) H Q := ⟨l, m, xs, ys, rfl, rfl, h, h2, Evl.sz_of hz, q⟩
theorem iRngB (h1 : -(2 ^ 62) ≤ i) (h2 : i < 2 ^ 62) (h3 : -(2 ^ 62) ≤ j) (h4 : j < 2 ^ 62) (q : R (Itr i (j - i).toNat) H) : ∃ i' j' : Int, [V.int i, V.int j] = [V.int i', V.int j'] ∧ (-(2 ^ 62) ≤ i' ∧ i' < 2 ^ 62 ∧ -(2 ^ 62) ≤ j' ∧ j' < 2 ^ 62) ∧ R (Itr i' (j' - i').toNat) H := ⟨i, j, rfl, ⟨h1, h2, h3, h4⟩, q⟩
def kRng2 (R : It → Hp → Prop) : List V → Hp → Prop := fun vs H1 => ∃ i j : Int, vs = [.int i, .int j] ∧ (-(2 ^ 62) ≤ i ∧ i < 2 ^ 62 ∧ -(2 ^ 62) ≤ j ∧ j < 2 ^ 62) ∧ R (Itr i (j - i).toNat) H1
theorem iRng2 (q : tA σ H (kRng2 R)) : iRng2 tA σ H R := q
theorem iRng2I (h1 : -(2 ^ 62) ≤ i) (h2 : i < 2 ^ 62) (h3 : -(2 ^ 62) ≤ j) (h4 : j < 2 ^ 62) (q : R (Itr i (j - i).toNat) H) : kRng2 R [.int i, .int j] H := ⟨i, j, rfl, ⟨h1, h2, h3, h4⟩, q⟩
/-- zip of two tracked lists -/
def kZ (K : PySem.W.Frag) (R : It → Hp → Prop) : List V → Hp → Prop := fun vs H1 => ∃ a b xs ys, vs = [.ref a, .ref b] ∧ SqL K H1 a xs ∧ SqL K H1 b ys ∧ R (Itz K a b) H1
theorem iZipK (q : tA σ H (kZ K R)) : iZip K tA σ H R := q
theorem iZL {p m : Addr} {xs ys : List V} (h : H p = some (.lst xs)) (h2 : H m = some (.lst ys)) (q : R (Itz K p m) H) : kZ K R [.ref p, .ref m] H := ⟨p, m, xs, ys, rfl, SqL.tr h, SqL.tr h2, q⟩
/-- targets of several names -/
theorem iGTup {k : Nat} {t : TGs} {a : Addr} {xs : List V} {QS : L2.St → Hp → Prop} (h : H a = some (.tup xs)) (hl : xs.length = k) (q : t xs σ H QS) : gTup K k t (.ref a) σ H QS := ⟨a, xs, rfl, SqT.tr h, hl, q⟩
theorem iGCons {t : TG} {u : TGs} {vs : List V} {QS : L2.St → Hp → Prop} (q : t v σ H fun σ' H' => u vs σ' H' QS) : gCons t u (v :: vs) σ H QS := ⟨v, vs, rfl, q⟩
theorem iGNil {QS : L2.St → Hp → Prop} (q : QS σ H) : gNil [] σ H QS := ⟨rfl, q⟩
/-- [x, ..] * n -/
theorem iRep {l : Addr} {xs : List V} (h : H l = some (.lst xs)) (h0 : 0 ≤ i) (h1 : i < 100000) (hz : xs.length * i.toNat ≤ 100000) (q : ∀ p, H p = none → Q (.ref p) (upd H p (.lst (List.replicate i.toNat xs).flatten))) : rRep (.ref l) (.int i) H Q :=
  ⟨l, i, xs, rfl, rfl, h, by omega, by omega, Evl.sz_of hz, q⟩
end
end R
set_option Elab.async false
set_option maxRecDepth 100000
set_option maxHeartbeats 4000000
set_option linter.all false
namespace R
/-! ### the field as a type -/
structure B where
  v : Nat
  h : v < 256
theorem B.ext' : ∀ {x y : B}, x.v = y.v → x = y
  | ⟨_, _⟩, ⟨_, _⟩, rfl => rfl
instance : DecidableEq B := fun x y => if e : x.v = y.v then isTrue (B.ext' e) else isFalse fun z => e (by rw [z])
instance : Add B := ⟨fun x y => ⟨x.v ^^^ y.v, xlt x.h y.h⟩⟩
instance : Mul B := ⟨fun x y => ⟨gm x.v y.v, gm_lt y.v x.h⟩⟩
def b0 : B := ⟨0, by decide⟩
def b1 : B := ⟨1, by decide⟩
def B.inv (x : B) : B := if h : x.v = 0 then b0 else ⟨iv x.v, (iv_ok x.h h).2.2⟩
namespace B
theorem add_v (x y : B) : (x + y).v = x.v ^^^ y.v := rfl
theorem mul_v (x y : B) : (x * y).v = gm x.v y.v := rfl
theorem add_comm (x y : B) : x + y = y + x := ext' (Nat.xor_comm ..)
theorem add_assoc (x y z : B) : x + y + z = x + (y + z) := ext' (Nat.xor_assoc ..)
theorem add_self (x : B) : x + x = b0 := ext' (Nat.xor_self _)
theorem add_zero (x : B) : x + b0 = x := ext' (Nat.xor_zero _)
theorem zero_add (x : B) : b0 + x = x := ext' (Nat.zero_xor _)
theorem add_eq {x y : B} (h : x + y = b0) : x = y := by
  have e : x + y + y = b0 + y := by rw [h]
  rw [add_assoc, add_self, add_zero, zero_add] at e
  exact e
theorem add_left (x y z : B) : x + (y + z) = y + (x + z) := by rw [← add_assoc, add_comm x y, add_assoc]
theorem mul_comm (x y : B) : x * y = y * x := ext' (gm_comm x.h y.h)
theorem mul_assoc (x y z : B) : x * y * z = x * (y * z) := ext' (gm_assoc x.h y.h z.h).symm
theorem mul_left (x y z : B) : x * (y * z) = y * (x * z) := by rw [← mul_assoc, mul_comm x y, mul_assoc]
theorem add_mul (x y z : B) : (x + y) * z = x * z + y * z := ext' (gm_xor z.v x.h y.h)
theorem mul_add (x y z : B) : x * (y + z) = x * y + x * z := by rw [mul_comm, add_mul, mul_comm y, mul_comm z]
theorem mul_zero (x : B) : x * b0 = b0 := ext' (gm_zero_r x.v)
theorem zero_mul (x : B) : b0 * x = b0 := ext' (gm_zero_l x.v)
theorem one_mul (x : B) : b1 * x = x := ext' (gm_one_l x.h)
theorem mul_one (x : B) : x * b1 = x := by rw [mul_comm, one_mul]
theorem mul_inv {x : B} (h : x ≠ b0) : x * x.inv = b1 := by
  have hv : ¬ x.v = 0 := fun e => h (ext' e)
  unfold inv
  rw [dif_neg hv]
  exact ext' (iv_ok x.h hv).1
theorem one_ne : b1 ≠ b0 := fun h => by have := congrArg B.v h; exact absurd this (by decide)
theorem mul_ne {x y : B} (hx : x ≠ b0) (hy : y ≠ b0) : x * y ≠ b0 := fun h => by
  have e : x.inv * (x * y) = x.inv * b0 := by rw [h]
  rw [mul_zero, ← mul_assoc, mul_comm x.inv, mul_inv hx, one_mul] at e
  exact hy e
theorem inv_one : b1.inv = b1 := by
  have h := mul_inv one_ne
  rw [one_mul] at h
  exact h
theorem mul_eq_one {x y : B} (h : x * y = b1) : y = x.inv := by
  have hx : x ≠ b0 := fun e => by rw [e, zero_mul] at h; exact one_ne h.symm
  have e : x.inv * (x * y) = x.inv * b1 := by rw [h]
  rw [mul_one, ← mul_assoc, mul_comm x.inv, mul_inv hx, one_mul] at e
  exact e
theorem inv_ne {x : B} (h : x ≠ b0) : x.inv ≠ b0 := fun e => by
  have k := mul_inv h
  rw [e, mul_zero] at k
  exact one_ne k.symm
theorem add_ne {x y : B} (h : x ≠ y) : x + y ≠ b0 := fun e => h (add_eq e)
end B
/-! ### polynomials: functions of degree below d -/
def Pl : Nat → (B → B) → Prop
  | 0, f => ∀ x, f x = b0
  | d + 1, f => ∃ (c : B) (g : B → B), Pl d g ∧ ∀ x, f x = c + x * g x
namespace Pl
theorem congr {f g : B → B} (e : ∀ x, f x = g x) : ∀ {d : Nat}, Pl d f → Pl d g
  | 0, h => fun x => (e x).symm.trans (h x)
  | _ + 1, ⟨c, p, hp, h⟩ => ⟨c, p, hp, fun x => (e x).symm.trans (h x)⟩
theorem up {f : B → B} : ∀ {d : Nat}, Pl d f → Pl (d + 1) f
  | 0, h => ⟨b0, fun _ => b0, fun _ => rfl, fun x => by rw [h x, B.mul_zero, B.add_zero]⟩
  | _ + 1, ⟨c, p, hp, h⟩ => ⟨c, p, up hp, h⟩
theorem add {f g : B → B} : ∀ {d : Nat}, Pl d f → Pl d g → Pl d (fun x => f x + g x)
  | 0, h, k => fun x => by show f x + g x = b0; rw [h x, k x, B.add_zero]
  | _ + 1, ⟨c, p, hp, h⟩, ⟨c', p', hp', h'⟩ => ⟨c + c', fun x => p x + p' x, add hp hp', fun x => by
      show f x + g x = c + c' + x * (p x + p' x)
      rw [h x, h' x, B.mul_add, B.add_assoc, B.add_assoc, B.add_left (x * p x)]⟩
theorem smul {f : B → B} (a : B) : ∀ {d : Nat}, Pl d f → Pl d (fun x => a * f x)
  | 0, h => fun x => by show a * f x = b0; rw [h x, B.mul_zero]
  | _ + 1, ⟨c, p, hp, h⟩ => ⟨a * c, fun x => a * p x, smul a hp, fun x => by
      show a * f x = a * c + x * (a * p x)
      rw [h x, B.mul_add, B.mul_left a x]⟩
theorem lin {f : B → B} {d : Nat} (j : B) (h : Pl d f) : Pl (d + 1) (fun x => f x * (x + j)) := by
  have h1 : Pl (d + 1) (fun x => x * f x) := ⟨b0, f, h, fun x => by rw [B.zero_add]⟩
  have h2 : Pl (d + 1) (fun x => j * f x) := (smul j h).up
  exact congr (fun x => by show x * f x + j * f x = f x * (x + j); rw [B.mul_comm (f x), B.add_mul]) (h1.add h2)
/-- what f is but for its value at a -/
theorem split {f : B → B} (a : B) : ∀ {d : Nat}, Pl (d + 1) f → ∃ g, Pl d g ∧ ∀ x, f x + f a = (x + a) * g x
  | 0, ⟨c, p, hp, h⟩ => ⟨fun _ => b0, fun _ => rfl, fun x => by rw [h x, h a, hp x, hp a, B.mul_zero, B.mul_zero, B.mul_zero, B.add_self]⟩
  | d + 1, ⟨c, p, hp, h⟩ => by
    obtain ⟨q, hq, e⟩ := split a hp
    refine ⟨fun x => p x + a * q x, hp.add (smul a hq).up, fun x => ?_⟩
    show f x + f a = (x + a) * (p x + a * q x)
    have e1 : p x = p a + (x + a) * q x := by
      rw [← e x, B.add_comm (p x), ← B.add_assoc, B.add_self, B.zero_add]
    rw [h x, h a, B.mul_add, B.mul_left (x + a) a, B.add_mul x a (p x)]
    have e2 : a * p x = a * p a + a * ((x + a) * q x) := by rw [← B.mul_add, ← e1]
    rw [e2]
    rw [B.add_assoc c, B.add_left (x * p x) c, ← B.add_assoc c c, B.add_self, B.zero_add, B.add_assoc (x * p x)]
    rw [B.add_assoc (a * p a), B.add_self, B.add_zero]
theorem zero {f : B → B} : ∀ {d : Nat} {S : List B}, Pl d f → S.Nodup → d ≤ S.length → (∀ a ∈ S, f a = b0) → ∀ x, f x = b0
  | 0, _, h, _, _, _ => h
  | d + 1, [], _, _, l, _ => absurd l (by simp)
  | d + 1, a :: S, h, nd, l, r => by
    obtain ⟨g, hg, e⟩ := split a h
    have ha : f a = b0 := r a (List.mem_cons_self ..)
    have e' : ∀ x, f x = (x + a) * g x := fun x => by rw [← e x, ha, B.add_zero]
    have nd' := List.nodup_cons.mp nd
    have hz : ∀ x, g x = b0 := zero hg nd'.2 (by simpa using l) fun b hb => by
      by_cases z : g b = b0
      · exact z
      · have k := r b (List.mem_cons_of_mem _ hb)
        rw [e' b] at k
        exact absurd k (B.mul_ne (B.add_ne fun q => nd'.1 (q ▸ hb)) z)
    intro x
    rw [e' x, hz x, B.mul_zero]
end Pl
/-! ### weights -/
def above (x i : B) : List B → B → B
  | [], t => t
  | j :: L, t => above x i L (if j ≠ i then t * (x + j) else t)
def wB (x : B) (L : List B) (i : B) : B := above x i L b1 * (above i i L b1).inv
def sumB {α : Type} (f : α → B) : List α → B
  | [] => b0
  | a :: L => f a + sumB f L
theorem above_mul (x i : B) : ∀ (L : List B) (s t : B), above x i L (s * t) = s * above x i L t
  | [], _, _ => rfl
  | j :: L, s, t => by
    show above x i L (if j ≠ i then s * t * (x + j) else s * t) = s * above x i L (if j ≠ i then t * (x + j) else t)
    by_cases h : j ≠ i
    · rw [if_pos h, if_pos h, B.mul_assoc, above_mul]
    · rw [if_neg h, if_neg h, above_mul]
theorem above_ne {i : B} : ∀ (L : List B) (t : B), t ≠ b0 → above i i L t ≠ b0
  | [], _, h => h
  | j :: L, t, h => by
    show above i i L (if j ≠ i then t * (i + j) else t) ≠ b0
    by_cases k : j ≠ i
    · rw [if_pos k]; exact above_ne L _ (B.mul_ne h (B.add_ne (Ne.symm k)))
    · rw [if_neg k]; exact above_ne L _ h
theorem above_zero {x i : B} (h : x ≠ i) : ∀ (L : List B) (t : B), x ∈ L → above x i L t = b0
  | j :: L, t, hm => by
    show above x i L (if j ≠ i then t * (x + j) else t) = b0
    have zr : ∀ (M : List B), above x i M b0 = b0 := fun M => by
      have e := above_mul x i M b0 b0
      rw [B.mul_zero, B.zero_mul] at e
      exact e
    rcases List.mem_cons.mp hm with e | e
    · subst e
      rw [if_pos h, B.add_self, B.mul_zero, zr]
    · exact above_zero h L _ e
theorem wB_self {L : List B} {i : B} : wB i L i = b1 := B.mul_inv (above_ne L _ B.one_ne)
theorem wB_other {L : List B} {x i : B} (h : x ≠ i) (hx : x ∈ L) : wB x L i = b0 := by
  unfold wB
  rw [above_zero h L _ hx, B.zero_mul]
theorem above_pl {i : B} : ∀ (L : List B) (f : B → B) (d : Nat), Pl d f → Pl (d + (L.filter (fun j => decide (j ≠ i))).length) (fun x => above x i L (f x))
  | [], f, d, h => h
  | j :: L, f, d, h => by
    show Pl _ (fun x => above x i L (if j ≠ i then f x * (x + j) else f x))
    by_cases k : j ≠ i
    · have e : ((j :: L).filter (fun j => decide (j ≠ i))).length = (L.filter (fun j => decide (j ≠ i))).length + 1 := by
        rw [List.filter_cons, if_pos (decide_eq_true k)]; rfl
      rw [e, show d + ((L.filter (fun j => decide (j ≠ i))).length + 1) = (d + 1) + (L.filter (fun j => decide (j ≠ i))).length by omega]
      refine Pl.congr (fun x => ?_) (above_pl L (fun x => f x * (x + j)) (d + 1) (Pl.lin j h))
      rw [if_pos k]
    · have e : ((j :: L).filter (fun j => decide (j ≠ i))).length = (L.filter (fun j => decide (j ≠ i))).length := by
        rw [List.filter_cons, if_neg (by simpa using k)]
      rw [e]
      refine Pl.congr (fun x => ?_) (above_pl L f d h)
      rw [if_neg k]
theorem filter_len {i : B} : ∀ {L : List B}, L.Nodup → i ∈ L → (L.filter (fun j => decide (j ≠ i))).length + 1 = L.length
  | j :: L, nd, hm => by
    have nd' := List.nodup_cons.mp nd
    by_cases k : j ≠ i
    · rw [List.filter_cons, if_pos (decide_eq_true k)]
      have : i ∈ L := by rcases List.mem_cons.mp hm with e | e; exact absurd e.symm k; exact e
      show (L.filter (fun j => decide (j ≠ i))).length + 1 + 1 = L.length + 1
      rw [filter_len nd'.2 this]
    · have k' : j = i := by simpa using k
      subst k'
      rw [List.filter_cons, if_neg (by simp)]
      have : L.filter (fun x => decide (x ≠ j)) = L := List.filter_eq_self.mpr fun b hb => decide_eq_true fun e => nd'.1 (e ▸ hb)
      rw [this]; rfl
theorem wB_pl {L : List B} {i : B} (nd : L.Nodup) (hi : i ∈ L) : Pl L.length (fun x => wB x L i) := by
  have h1 : Pl 1 (fun _ => b1) := ⟨b1, fun _ => b0, fun _ => rfl, fun x => by rw [B.mul_zero, B.add_zero]⟩
  have h2 := above_pl (i := i) L (fun _ => b1) 1 h1
  rw [Nat.add_comm, filter_len nd hi] at h2
  exact Pl.congr (fun x => B.mul_comm _ _) (Pl.smul (above i i L b1).inv h2)
theorem sum_pl {α : Type} {d : Nat} {g : α → B → B} : ∀ {L : List α}, (∀ a ∈ L, Pl d (g a)) → Pl d (fun x => sumB (fun a => g a x) L)
  | [], _ => by
    have : ∀ d, Pl d (fun _ => b0) := fun d => by
      induction d with
      | zero => exact fun _ => rfl
      | succ d ih => exact ih.up
    exact this d
  | a :: L, h => Pl.add (h a (List.mem_cons_self ..)) (sum_pl fun b hb => h b (List.mem_cons_of_mem _ hb))
theorem sum_zero {α : Type} {f : α → B} : ∀ {L : List α}, (∀ a ∈ L, f a = b0) → sumB f L = b0
  | [], _ => rfl
  | a :: L, h => by
    show f a + sumB f L = b0
    rw [h a (List.mem_cons_self ..), sum_zero fun b hb => h b (List.mem_cons_of_mem _ hb), B.add_zero]
theorem sum_congr {α : Type} {f g : α → B} : ∀ {L : List α}, (∀ a ∈ L, f a = g a) → sumB f L = sumB g L
  | [], _ => rfl
  | a :: L, h => by
    show f a + sumB f L = g a + sumB g L
    rw [h a (List.mem_cons_self ..), sum_congr fun b hb => h b (List.mem_cons_of_mem _ hb)]
theorem sum_pick {f : B → B} {y : B} : ∀ {L : List B}, L.Nodup → y ∈ L → sumB (fun i => wB y L i * f i) L = f y := by
  have key : ∀ {M L : List B}, M.Nodup → (∀ b ∈ M, b ∈ L) → y ∈ L → sumB (fun i => wB y L i * f i) M = if y ∈ M then f y else b0 := by
    intro M L
    induction M with
    | nil => intro _ _ _; rfl
    | cons a M ih =>
      intro nd hs hy
      have nd' := List.nodup_cons.mp nd
      show wB y L a * f a + sumB (fun i => wB y L i * f i) M = _
      rw [ih nd'.2 (fun b hb => hs b (List.mem_cons_of_mem _ hb)) hy]
      by_cases e : y = a
      · subst e
        rw [wB_self, B.one_mul, if_neg nd'.1, if_pos (List.mem_cons_self ..), B.add_zero]
      · rw [wB_other e hy, B.zero_mul, B.zero_add]
        by_cases m : y ∈ M
        · rw [if_pos m, if_pos (List.mem_cons_of_mem _ m)]
        · rw [if_neg m, if_neg (by simp [e, m])]
  intro L nd hy
  rw [key nd (fun _ h => h) hy, if_pos hy]
/-- a polynomial is known from as many places as its degree's bound -/
theorem interp {L : List B} {f : B → B} (nd : L.Nodup) (hf : Pl L.length f) (x : B) : sumB (fun i => wB x L i * f i) L = f x := by
  have hp : Pl L.length (fun x => sumB (fun i => wB x L i * f i) L) := sum_pl fun i hi => Pl.congr (fun x => B.mul_comm _ _) (Pl.smul (f i) (wB_pl nd hi))
  have hz := Pl.zero (hp.add hf) nd (Nat.le_refl _) fun a ha => by
    show sumB (fun i => wB a L i * f i) L + f a = b0
    rw [sum_pick nd ha, B.add_self]
  exact B.add_eq (hz x)
end R
set_option Elab.async false
set_option linter.all false
set_option maxRecDepth 100000
set_option maxHeartbeats 4000000
namespace R
open PySem PySem.Spec L2
open Evl (Ex)
/-! ### heaps that grow -/
theorem Ex.rfl' (H : Hp) : Ex H H := fun _ _ h => h
/-- the heap without one address -/
def mk (D : Addr) (H : Hp) : Hp := fun p => if p = D then none else H p
theorem mk_at {D p : Addr} {H : Hp} (h : p ≠ D) : mk D H p = H p := if_neg h
theorem mk_ex (D : Addr) (H : Hp) : Ex (mk D H) H := fun p o h => by
  by_cases e : p = D
  · unfold mk at h; rw [if_pos e] at h; cases h
  · rw [mk_at e] at h; exact h
theorem mk_mono {D : Addr} {H H' : Hp} (e : Ex H H') : Ex (mk D H) (mk D H') := fun p o h => by
  by_cases q : p = D
  · unfold mk at h; rw [if_pos q] at h; cases h
  · rw [mk_at q] at h ⊢; exact e p o h
theorem mk_upd {D : Addr} {H : Hp} {o : HO} : mk D (upd H D o) = mk D H := by
  funext p
  by_cases q : p = D
  · unfold mk; rw [if_pos q, if_pos q]
  · rw [mk_at q, mk_at q, upd_ne q]
theorem ex_mk {D : Addr} {H H' : Hp} (h : H D = none) (e : Ex H H') : Ex H (mk D H') := fun p o q => by
  rw [mk_at (ne_of_none q h)]
  exact e p o q
theorem ex_upd {D : Addr} {H H' : Hp} {o : HO} (h : H D = none) (e : Ex H H') : Ex H (upd H' D o) := fun p u q => by
  rw [upd_ne (ne_of_none q h)]
  exact e p u q
theorem Ex.new {H : Hp} {p : Addr} {o : HO} (h : H p = none) : Ex H (upd H p o) := ex_upd h (Ex.rfl' _)
/-- all but a stay -/
def ExB (a : Addr) (H H' : Hp) : Prop := ∀ p o, p ≠ a → H p = some o → H' p = some o
theorem ExB.of {a : Addr} {H H' : Hp} (e : Ex H H') : ExB a H H' := fun p o _ h => e p o h
theorem ExB.trans {a : Addr} {H H1 H2 : Hp} (x : ExB a H H1) (y : ExB a H1 H2) : ExB a H H2 := fun p o n h => y p o n (x p o n h)
/-- what is told of a new list -/
def NewL (H : Hp) (Q : VK) (xs : List V) : Prop := ∀ p H', H p = none → Ex H H' → H' p = some (.lst xs) → Q (.ref p) H'
/-! ### comprehensions whose items are reckoned, the heap growing -/
def PvF (H1 : Hp) (f : Nat → V) (D : Addr) (i : Nat) (acc : List V) (H : Hp) : Prop := Ex H1 H ∧ acc = (List.range i).map f
theorem iLcF {H1 H : Hp} {f : Nat → V} {D : Addr} {i : Nat} {y : V} (hD : H1 D = none) (hi : i < 100000) (e : Ex H1 H) (h : H D = some (.lst ((List.range i).map f))) (q : y = f i) : kLcE D i (PvF H1 f D) y H :=
  iLcE h (by rw [List.length_map, List.length_range]; exact Nat.le_refl _) hi ⟨ex_upd hD e, by rw [List.range_succ, List.map_append, q]; rfl⟩
section
variable {K : PySem.W.Frag} {g : TG} {tt : TT} {te : TE} {vs : List Nat} {σ σ' : L2.St} {H1 : Hp} {Q : VK}
theorem lcF_l {a : Addr} (xs : List V) (f : Nat → V) (hw : Wip σ vs σ') (h : H1 a = some (.lst xs)) (hs : ∀ D i x H, H1 D = none → xs[i]? = some x → H D = some (.lst ((List.range i).map f)) → Ex H1 H → g x σ' H (kLc vs σ' tt te D i (PvF H1 f D)))
    (hd : ∀ D H, H1 D = none → Ex H1 H → H D = some (.lst ((List.range xs.length).map f)) → Q (.ref D) H) : tLcJ (Itl K a) g tt te vs σ H1 Q :=
  lc_l xs hw (PvF H1 f) (fun D hD => ⟨ex_upd hD (Ex.rfl' _), rfl⟩) (fun D i acc H hD _ p => p.1 _ _ h) (fun D i acc x H hD hx e l p => by
    obtain ⟨p1, rfl⟩ := p
    exact hs D i x H hD hx e p1) (fun D acc H hD e l p => by
    obtain ⟨p1, rfl⟩ := p
    exact hd D H hD p1 e)
theorem lcF_r0 {n : Nat} (f : Nat → V) (hw : Wip σ vs σ') (hs : ∀ D i H, H1 D = none → i < n → H D = some (.lst ((List.range i).map f)) → Ex H1 H → g (.int (i : Int)) σ' H (kLc vs σ' tt te D i (PvF H1 f D)))
    (hd : ∀ D H, H1 D = none → Ex H1 H → H D = some (.lst ((List.range n).map f)) → Q (.ref D) H) : tLcJ (Itr 0 n) g tt te vs σ H1 Q :=
  lc_r0 hw (PvF H1 f) (fun D hD => ⟨ex_upd hD (Ex.rfl' _), rfl⟩) (fun D i acc H hD hx e l p => by
    obtain ⟨p1, rfl⟩ := p
    exact hs D i H hD hx e p1) (fun D acc H hD e l p => by
    obtain ⟨p1, rfl⟩ := p
    exact hd D H hD p1 e)
theorem lcF_z {a b : Addr} (xs ys : List V) (f : Nat → V) (he : xs.length = ys.length) (hw : Wip σ vs σ') (h : H1 a = some (.lst xs)) (h2 : H1 b = some (.lst ys))
    (hs : ∀ D i x y T H, H1 D = none → xs[i]? = some x → ys[i]? = some y → H D = some (.lst ((List.range i).map f)) → Ex H1 H → H T = none → g (.ref T) σ' (upd H T (.tup [x, y])) (kLc vs σ' tt te D i (PvF H1 f D)))
    (hd : ∀ D H, H1 D = none → Ex H1 H → H D = some (.lst ((List.range xs.length).map f)) → Q (.ref D) H) : tLcJ (Itz K a b) g tt te vs σ H1 Q :=
  lc_z xs ys he hw (PvF H1 f) (fun D hD => ⟨ex_upd hD (Ex.rfl' _), rfl⟩) (fun D i acc H hD _ p => ⟨p.1 _ _ h, p.1 _ _ h2⟩) (fun D i acc x y T H hD hx hy e l p hT => by
    obtain ⟨p1, rfl⟩ := p
    exact hs D i x y T H hD hx hy e p1 hT) (fun D acc H hD e l p => by
    obtain ⟨p1, rfl⟩ := p
    exact hd D H hD p1 e)
end
/-- items that are told by a word R of the list so far, which growing keeps -/
def PvR (H1 : Hp) (R : Nat → List V → Hp → Prop) (D : Addr) (i : Nat) (acc : List V) (H : Hp) : Prop := Ex H1 H ∧ R i acc (mk D H)
theorem iLcR {H1 H : Hp} {R : Nat → List V → Hp → Prop} {D : Addr} {i : Nat} {y : V} {acc : List V} (hD : H1 D = none) (hi : i < 100000) (hl : acc.length ≤ i) (e : Ex H1 H) (h : H D = some (.lst acc)) (q : R (i + 1) (acc ++ [y]) (mk D H)) : kLcE D i (PvR H1 R D) y H :=
  iLcE h hl hi ⟨ex_upd hD e, by rw [mk_upd]; exact q⟩
section
variable {K : PySem.W.Frag} {g : TG} {tt : TT} {te : TE} {vs : List Nat} {σ σ' : L2.St} {H1 : Hp} {Q : VK}
theorem lcR_r {lo : Int} {n : Nat} (R : Nat → List V → Hp → Prop) (hw : Wip σ vs σ') (m : ∀ i acc H H', Ex H H' → R i acc H → R i acc H') (h0 : R 0 [] H1)
    (hs : ∀ D i acc H, H1 D = none → i < n → H D = some (.lst acc) → acc.length ≤ i → Ex H1 H → R i acc (mk D H) → g (.int (lo + (i : Int))) σ' H (kLc vs σ' tt te D i (PvR H1 R D)))
    (hd : ∀ D acc H, H1 D = none → Ex H1 H → H D = some (.lst acc) → R n acc H → Q (.ref D) H) : tLcJ (Itr lo n) g tt te vs σ H1 Q :=
  lc_r hw (PvR H1 R) (fun D hD => ⟨ex_upd hD (Ex.rfl' _), by rw [mk_upd]; exact m _ _ _ _ (ex_mk hD (Ex.rfl' _)) h0⟩) (fun D i acc H hD hx e l p => hs D i acc H hD hx e l p.1 p.2) (fun D acc H hD e l p => hd D acc H hD p.1 e (m _ _ _ _ (mk_ex D H) p.2))
theorem lcR_r0 {n : Nat} (R : Nat → List V → Hp → Prop) (hw : Wip σ vs σ') (m : ∀ i acc H H', Ex H H' → R i acc H → R i acc H') (h0 : R 0 [] H1)
    (hs : ∀ D i acc H, H1 D = none → i < n → H D = some (.lst acc) → acc.length ≤ i → Ex H1 H → R i acc (mk D H) → g (.int (i : Int)) σ' H (kLc vs σ' tt te D i (PvR H1 R D)))
    (hd : ∀ D acc H, H1 D = none → Ex H1 H → H D = some (.lst acc) → R n acc H → Q (.ref D) H) : tLcJ (Itr 0 n) g tt te vs σ H1 Q :=
  lcR_r R hw m h0 (fun D i acc H a b c d e f => by rw [Int.zero_add]; exact hs D i acc H a b c d e f) hd
theorem lcR_l {a : Addr} (xs : List V) (R : Nat → List V → Hp → Prop) (hw : Wip σ vs σ') (h : H1 a = some (.lst xs)) (m : ∀ i acc H H', Ex H H' → R i acc H → R i acc H') (h0 : R 0 [] H1)
    (hs : ∀ D i acc x H, H1 D = none → xs[i]? = some x → H D = some (.lst acc) → acc.length ≤ i → Ex H1 H → R i acc (mk D H) → g x σ' H (kLc vs σ' tt te D i (PvR H1 R D)))
    (hd : ∀ D acc H, H1 D = none → Ex H1 H → H D = some (.lst acc) → R xs.length acc H → Q (.ref D) H) : tLcJ (Itl K a) g tt te vs σ H1 Q :=
  lc_l xs hw (PvR H1 R) (fun D hD => ⟨ex_upd hD (Ex.rfl' _), by rw [mk_upd]; exact m _ _ _ _ (ex_mk hD (Ex.rfl' _)) h0⟩) (fun D i acc H hD _ p => p.1 _ _ h) (fun D i acc x H hD hx e l p => hs D i acc x H hD hx e l p.1 p.2) (fun D acc H hD e l p => hd D acc H hD p.1 e (m _ _ _ _ (mk_ex D H) p.2))
end
/-! ### bytes, sectors, words -/
def pl (n : Nat) : B := ⟨n % 256, Nat.mod_lt _ (by decide)⟩
theorem pl_v {n : Nat} (h : n < 256) : (pl n).v = n := Nat.mod_eq_of_lt h
theorem pl_inj {m n : Nat} (hm : m < 256) (hn : n < 256) (h : pl m = pl n) : m = n := by
  have := congrArg B.v h
  rw [pl_v hm, pl_v hn] at this
  exact this
theorem B.pl_eq (b : B) : pl b.v = b := B.ext' (Nat.mod_eq_of_lt b.h)
def bsV (L : List B) : List V := L.map fun b => V.int b.v
def bl (f : Nat → B) : List V := (List.range 32).map fun t => V.int (f t).v
def SecAt (H : Hp) (v : V) (f : Nat → B) : Prop := ∃ p, v = .ref p ∧ H p = some (.lst (bl f))
theorem SecAt.ex {H H' : Hp} {v : V} {f : Nat → B} (e : Ex H H') (h : SecAt H v f) : SecAt H' v f := by
  obtain ⟨p, rfl, h⟩ := h
  exact ⟨p, rfl, e _ _ h⟩
theorem bl_get (f : Nat → B) {t : Nat} (h : t < 32) : (bl f)[t]? = some (V.int (f t).v) := by
  unfold bl
  rw [List.getElem?_map, List.getElem?_range h]
  rfl
theorem bl_len (f : Nat → B) : (bl f).length = 32 := by unfold bl; rw [List.length_map, List.length_range]
theorem bl_congr {f g : Nat → B} (h : ∀ t, t < 32 → f t = g t) : bl f = bl g := by
  unfold bl
  refine List.map_congr_left fun t ht => ?_
  rw [h t (List.mem_range.mp ht)]
theorem gm_pow {a i : Nat} (ha : a < 256) (hi : i < 8) : gm a (2 ^ i) = dp a i := by
  have h : allLt (fun a => allLt (fun i => Nat.beq (gm a (2 ^ i)) (dp a i)) 8) 256 = true := by decide +kernel
  exact Nat.eq_of_beq_eq_true (allLt_of (allLt_of h a ha) i hi)
theorem pl_add {i k : Nat} (hi : i < 8) (hk : k < 2 ^ i) : pl (2 ^ i + k) = pl (2 ^ i) + pl k := by
  have h : allLt (fun i => allLt (fun k => Nat.ble (2 ^ i) k || Nat.beq ((2 ^ i + k) % 256) ((2 ^ i % 256) ^^^ (k % 256))) 128) 8 = true := by decide +kernel
  have hk2 : k < 128 := Nat.lt_of_lt_of_le hk (show 2 ^ i ≤ 2 ^ 7 from Nat.pow_le_pow_right (by decide) (by omega))
  have e := allLt_of (allLt_of h i hi) k hk2
  rw [Bool.or_eq_true] at e
  rcases e with e | e
  · exact absurd (Nat.le_of_ble_eq_true e) (by omega)
  · exact B.ext' (Nat.eq_of_beq_eq_true e)
end R
set_option Elab.async false
set_option linter.all false
set_option maxRecDepth 100000
set_option maxHeartbeats 4000000
namespace R
open PySem PySem.Spec L2
open Evl (Ex)
def topS (i : Nat) : Stmt := PySem.Challenge.pw_rotward_k21_words.main.body.getD i (.Pass ⟨0, 0, 0, 0⟩)
abbrev s__law_next : Stmt := topS 12
theorem sc__law_next : FnScope ["state", "limit", "cell", "value"] ["state", "limit"] (defScope s__law_next) := ⟨rfl, rfl, rfl, by decide +kernel, rfl, by decide +kernel, by decide +kernel⟩
abbrev s__law_same : Stmt := topS 13
theorem sc__law_same : FnScope ["actual", "expected", "k"] ["actual", "expected"] (defScope s__law_same) := ⟨rfl, rfl, rfl, by decide +kernel, rfl, by decide +kernel, by decide +kernel⟩
abbrev s_double : Stmt := topS 1
theorem sc_double : FnScope ["a", "twice"] ["a"] (defScope s_double) := ⟨rfl, rfl, rfl, by decide +kernel, rfl, by decide +kernel, by decide +kernel⟩
abbrev s_product : Stmt := topS 2
theorem sc_product : FnScope ["a", "b", "total", "bit"] ["a", "b"] (defScope s_product) := ⟨rfl, rfl, rfl, by decide +kernel, rfl, by decide +kernel, by decide +kernel⟩
abbrev s_inverse : Stmt := topS 4
theorem sc_inverse : FnScope ["a", "total", "_"] ["a"] (defScope s_inverse) := ⟨rfl, rfl, rfl, by decide +kernel, rfl, by decide +kernel, by decide +kernel⟩
abbrev s__law_times : Stmt := topS 14
theorem sc__law_times : FnScope ["a", "b", "total", "k", "bound", "taken"] ["a", "b"] (defScope s__law_times) := ⟨rfl, rfl, rfl, by decide +kernel, rfl, by decide +kernel, by decide +kernel⟩
abbrev s_products : Stmt := topS 3
theorem sc_products : FnScope ["a", "row", "_", "known"] ["a"] (defScope s_products) := ⟨rfl, rfl, rfl, by decide +kernel, rfl, by decide +kernel, by decide +kernel⟩
abbrev s_weight : Stmt := topS 7
theorem sc_weight : FnScope ["x", "places", "i", "above", "below", "j"] ["x", "places", "i"] (defScope s_weight) := ⟨rfl, rfl, rfl, by decide +kernel, rfl, by decide +kernel, by decide +kernel⟩
abbrev s_sector_at : Stmt := topS 8
theorem sc_sector_at : FnScope ["x", "given", "places", "total", "i", "row", "byte", "other"] ["x", "given"] (defScope s_sector_at) := ⟨rfl, rfl, rfl, by decide +kernel, rfl, by decide +kernel, by decide +kernel⟩
abbrev s_word_through : Stmt := topS 9
theorem sc_word_through : FnScope ["given", "n", "x"] ["given", "n"] (defScope s_word_through) := ⟨rfl, rfl, rfl, by decide +kernel, rfl, by decide +kernel, by decide +kernel⟩
abbrev s_make_word : Stmt := topS 10
theorem sc_make_word : FnScope ["parts", "n"] ["parts", "n"] (defScope s_make_word) := ⟨rfl, rfl, rfl, by decide +kernel, rfl, by decide +kernel, by decide +kernel⟩
abbrev s__law_sector : Stmt := topS 19
theorem sc__law_sector : FnScope ["state", "start", "step", "k"] ["state"] (defScope s__law_sector) := ⟨rfl, rfl, rfl, by decide +kernel, rfl, by decide +kernel, by decide +kernel⟩
abbrev s__law_sizes : Stmt := topS 20
theorem sc__law_sizes : FnScope ["state", "n", "k"] ["state"] (defScope s__law_sizes) := ⟨rfl, rfl, rfl, by decide +kernel, rfl, by decide +kernel, by decide +kernel⟩
abbrev s__law_inverse : Stmt := topS 15
theorem sc__law_inverse : FnScope ["a", "b"] ["a"] (defScope s__law_inverse) := ⟨rfl, rfl, rfl, by decide +kernel, rfl, by decide +kernel, by decide +kernel⟩
abbrev s__law_weight : Stmt := topS 16
theorem sc__law_weight : FnScope ["x", "places", "i", "above", "below", "j"] ["x", "places", "i"] (defScope s__law_weight) := ⟨rfl, rfl, rfl, by decide +kernel, rfl, by decide +kernel, by decide +kernel⟩
abbrev s__law_sector_at : Stmt := topS 17
theorem sc__law_sector_at : FnScope ["x", "given", "sector", "places", "i", "factor", "k"] ["x", "given"] (defScope s__law_sector_at) := ⟨rfl, rfl, rfl, by decide +kernel, rfl, by decide +kernel, by decide +kernel⟩
abbrev s__law_word : Stmt := topS 18
theorem sc__law_word : FnScope ["parts", "n", "given", "k", "x"] ["parts", "n"] (defScope s__law_word) := ⟨rfl, rfl, rfl, by decide +kernel, rfl, by decide +kernel, by decide +kernel⟩
abbrev s_law : Stmt := topS 21
theorem sc_law : FnScope ["script", "state", "n", "k", "s", "j", "parts", "word", "passed", "places", "place", "left", "given", "x", "i", "part"] ["script"] (defScope s_law) := ⟨rfl, rfl, rfl, by decide +kernel, rfl, by decide +kernel, by decide +kernel⟩
structure Mg (mg : Str → Option Value) : Prop where
  n_bool : mg "bool" = none
  n_dict : mg "dict" = none
  n_enumerate : mg "enumerate" = none
  n_int : mg "int" = none
  n_isinstance : mg "isinstance" = none
  n_len : mg "len" = none
  n_list : mg "list" = none
  n_range : mg "range" = none
  n_sorted : mg "sorted" = none
  n_str : mg "str" = none
  n_tuple : mg "tuple" = none
  n_zip : mg "zip" = none
  c_SECTOR : ∃ t, mg "SECTOR" = some (.int 32 t)
local macro_rules | `(tactic| walk_at "ne") => `(tactic| (first | assumption | (apply Ne.symm; assumption) | (apply ne_fresh; (· assumption); (· walk_at "look")) | (apply Ne.symm; apply ne_fresh; (· assumption); (· walk_at "look"))))
local macro_rules | `(tactic| walk_at "look") => `(tactic| (first | assumption | exact upd_same | (refine (upd_ne ?_).trans ?_; (· walk_at "ne"); (· walk_at "look")) | (refine exAt (by assumption) ?_; walk_at "look")))
local macro_rules | `(tactic| walk_at "side") => `(tactic| (first | (exact Or.inl ⟨by omega, by omega⟩) | (exact Or.inr ⟨by omega, by omega⟩) | (show (0:Int) < _; omega) | (show (0:Int) ≤ _; omega) | (exact ⟨by omega, by omega⟩) | (exact ⟨by decide, by decide, by decide⟩)))
local macro_rules | `(tactic| walk_at "go") => `(tactic| (repeat (first | (with_reducible refine iSeq ?_) | (with_reducible refine iAsg ?_) | ((with_reducible apply iName); (· repeat constructor)) | ((with_reducible apply iVar); (· rfl)) | (with_reducible refine iC ?_) | (with_reducible refine iOp ?_) | (with_reducible refine iI0 ?_) | (with_reducible refine iCons ?_) | (with_reducible refine iNil ?_) | (with_reducible refine iCB ?_) | (with_reducible refine iIfS ?_) | (with_reducible refine iTest ?_) | (with_reducible refine iBl ?_) | (with_reducible refine iRet ?_) | (with_reducible refine iNext ?_) | (with_reducible refine iDrop ?_) | (with_reducible refine iEqI ?_) | (with_reducible refine iNeI ?_) | (with_reducible refine iInt ?_) | (with_reducible refine iFor ?_) | (with_reducible refine iRng ?_) | (with_reducible refine iCal ?_) | (with_reducible refine iAnd ?_) | (with_reducible refine iOr ?_) | (with_reducible refine iNot ?_) | (with_reducible refine iB ?_) | (with_reducible refine iIf ?_) | (with_reducible refine iChain ?_) | (with_reducible refine iUn ?_) | (with_reducible refine iU ?_) | (with_reducible refine iRetN ?_) | (with_reducible refine iIsN ?_) | (with_reducible refine iNotN ?_) | (with_reducible refine iTruI ?_) | (with_reducible refine ifNDr ?_) | (with_reducible refine ifDr ?_) | (with_reducible refine iAndV ?_) | (with_reducible refine iOrV ?_) | (with_reducible refine iNotV ?_) | (with_reducible refine iAugS ?_) | (with_reducible refine iIpI ?_) | (with_reducible refine iSub ?_) | (with_reducible refine iLst ?_) | (with_reducible refine iTup ?_) | (with_reducible refine iIterL ?_) | (with_reducible refine iBreak ?_) | (with_reducible refine iCont ?_) | (with_reducible refine iEqB ?_) | (with_reducible refine iNeB ?_) | (with_reducible refine iEqS ?_) | (with_reducible refine iNeS ?_) | (with_reducible refine iLc ?_) | (with_reducible refine iYes ?_) | (with_reducible refine iDGet ?_) | (with_reducible refine iDIn ?_) | (with_reducible refine iDNotIn ?_) | (with_reducible refine iDPut ?_) | (with_reducible refine iRng2 ?_) | (with_reducible refine iZipK ?_) | (with_reducible refine iGCons ?_) | (with_reducible refine iGNil ?_) | (with_reducible refine iDEa ?_) | ((with_reducible apply iRngI); (· first | decide | omega); (· first | decide | omega)) | ((with_reducible apply iAugK); (· rfl)) | ((with_reducible apply iI); rotate_left; (· (first | (exact Or.inl ⟨by omega, by omega⟩) | (exact Or.inr ⟨by omega, by omega⟩) | (show (0:Int) < _; omega) | (show (0:Int) ≤ _; omega) | (exact ⟨by omega, by omega⟩) | (exact ⟨by decide, by decide, by decide⟩)))) | ((with_reducible apply iIxL); (· walk_at "look"); (· rfl)) | ((with_reducible apply iLenL); (· walk_at "look")) | ((with_reducible apply iSetL); (· walk_at "look"); (· rfl)) | ((with_reducible apply iIxT); (· walk_at "look"); (· rfl)) | ((with_reducible apply iIsi); (· first | exact tyN_int | exact tyN_bl | exact tyN_non | exact tyN_str | exact tyN_lst (by walk_at "look") | exact tyN_tup (by walk_at "look")); (· (first | exact kb_NoneType_bool | exact kb_NoneType_int | exact kb_NoneType_str | exact kb_NoneType_tuple | exact kb_NoneType_list | exact kb_bool_bool | exact kb_bool_int | exact kb_bool_str | exact kb_bool_tuple | exact kb_bool_list | exact kb_int_bool | exact kb_int_int | exact kb_int_str | exact kb_int_tuple | exact kb_int_list | exact kb_str_bool | exact kb_str_int | exact kb_str_str | exact kb_str_tuple | exact kb_str_list | exact kb_tuple_bool | exact kb_tuple_int | exact kb_tuple_str | exact kb_tuple_tuple | exact kb_tuple_list | exact kb_list_bool | exact kb_list_int | exact kb_list_str | exact kb_list_tuple | exact kb_list_list))) | ((with_reducible apply iLenT); (· walk_at "look")) | ((with_reducible apply iLenS); (· first | exact Or.inl (by walk_at "look") | exact Or.inr (by walk_at "look"))) | ((with_reducible apply ifT); (· rfl)) | ((with_reducible apply ifF); (· rfl)) | ((with_reducible apply ifT); (· apply decide_eq_true; omega)) | ((with_reducible apply ifF); (· apply decide_eq_false; omega)) | ((with_reducible apply ifNp); (· omega)) | ((with_reducible apply ifNn); (· omega)) | ((with_reducible apply iLcB); (· rfl)) | ((with_reducible apply iGTup); (· walk_at "look"); (· rfl)) | ((with_reducible apply iDIi); (· walk_at "look")) | ((with_reducible apply iDNi); (· walk_at "look")) | ((with_reducible apply iRng2I); (· omega); (· omega); (· omega); (· omega)) | ((with_reducible apply iItL); (· walk_at "look")) | ((with_reducible apply iZL); (· walk_at "look"); (· walk_at "look")))))
section
variable {P : Program} {w : World} {K : PySem.W.Frag} {mg : Str → Option Value} {base : Heap}
/-! ### the draws -/
def DrawAt (H : Hp) (a l : Addr) : Prop := ∃ (ns : List Int) (i r q : Int), H a = some (.lst [.ref l, .int i, .int r, .int q]) ∧ H l = some (.lst (ns.map V.int)) ∧ a ≠ l ∧ ns.length ≤ 63 ∧ 0 ≤ i ∧ i ≤ ns.length ∧ 0 ≤ r ∧ 0 ≤ q ∧ q < 2147483647
theorem DrawAt.to {H : Hp} {a l : Addr} {ns : List Int} {i r q : Int} (h2 : H l = some (.lst (ns.map V.int))) (ne : a ≠ l) (hl : ns.length ≤ 63) (i0 : 0 ≤ i) (i1 : i ≤ ns.length) (r0 : 0 ≤ r) (q0 : 0 ≤ q) (q1 : q < 2147483647) :
    DrawAt (upd H a (.lst [.ref l, .int i, .int r, .int q])) a l := ⟨ns, i, r, q, upd_same, (upd_ne ne.symm).trans h2, ne, hl, i0, i1, r0, q0, q1⟩
theorem DrawAt.ne {H : Hp} {a l : Addr} (D : DrawAt H a l) : a ≠ l := by
  obtain ⟨ns, i, r, q, ha, hl, ne, _⟩ := D
  exact ne
theorem DrawAt.upd {H : Hp} {a l p : Addr} {o : HO} (D : DrawAt H a l) (h1 : p ≠ a) (h2 : p ≠ l) : DrawAt (L2.upd H p o) a l := by
  obtain ⟨ns, i, r, q, ha, hl, k⟩ := D
  exact ⟨ns, i, r, q, (upd_ne h1.symm).trans ha, (upd_ne h2.symm).trans hl, k⟩
theorem DrawAt.fresh {H : Hp} {a l p : Addr} (D : DrawAt H a l) (h : H p = none) : p ≠ a ∧ p ≠ l := by
  obtain ⟨ns, i, r, q, ha, hl, k⟩ := D
  exact ⟨(ne_of_none ha h).symm, (ne_of_none hl h).symm⟩
theorem DrawAt.new {H : Hp} {a l p : Addr} {o : HO} (D : DrawAt H a l) (h : H p = none) : DrawAt (L2.upd H p o) a l := D.upd (D.fresh h).1 (D.fresh h).2
def sp__law_next : Sp := fun vs H Q _ => ∃ (a l : Addr) (lim : Int), vs = [.ref a, .int lim] ∧ DrawAt H a l ∧ 0 < lim ∧ lim < 1073741824 ∧ ∀ (v : Int) (st : HO), 0 ≤ v → v < lim → DrawAt (upd H a st) a l → Q (.int v) (upd H a st)
theorem ok__law_next (M : Mg mg) {f : Addr} {fd : FuncData} (F : Fun K "_law_next" "_law_next" s__law_next f fd) : FnOk P w K mg base CX0 1 f fd ["state", "limit"] sp__law_next := by
  refine F.ok sc__law_next (fun vs H Q E h => ?_) (fun cdv A outer s H vs Q E hr h => ?_)
  · obtain ⟨a, l, lim, rfl, _⟩ := h; rfl
  · obtain ⟨a, l, lim, rfl, D, l0, l1, q⟩ := h
    refine ⟨_, (Evl.pss_cut (ps_if (PW.pt (pw_and (pt_cmpR op_eq (pe_ix ix_l (pv 0) pe_int (fun _ _ => rfl)) pe_int (nomark _)) (pw_and1 (pt_cmpR op_lt (pe_ix ix_l (pv 0) pe_int (fun _ _ => rfl)) (pe_callB len_l (by rfl) M.n_len PySem.boot_len (pa_cons (pe_ix ix_l (pv 0) pe_int (fun _ _ => rfl)) pa_nil)) (nomark _))))) (pss_cons (ps_set (i := 2) sc__law_next.nd rfl (Or.inl rfl) (pe_ix ix_l (pe_ix ix_l (pv 0) pe_int (fun _ _ => rfl)) (pe_ix ix_l (pv 0) pe_int (fun _ _ => rfl)) (fun _ _ => rfl))) (pss_cons (ps_augS (pv 0) pe_int get_l pe_int ip_add set_list) (pss_one (ps_if (pt_cmpR op_ge (pv 2) (pe_op op_pow pe_int pe_int) (nomark _)) (pss_one (ps_asg (pv 2) (pg_sub (pv 0) pe_int set_list))) (pss_one (ps_asg (pe_op op_mod (pe_callTy int_i (by rfl) M.n_int (by decide +kernel) (pa_cons (pe_op op_add (pe_op op_add (pe_op op_mul (pe_ix ix_l (pv 0) pe_int (fun _ _ => rfl)) pe_int) (pe_op op_mod (pe_callTy int_i (by rfl) M.n_int (by decide +kernel) (pa_cons (pv 2) pa_nil)) pe_int)) pe_int) pa_nil)) pe_int) (pg_sub (pv 0) pe_int set_list))))))) pss_nil) (pss_cons (ps_if (pt_cmpR op_gt (pe_ix ix_l (pv 0) pe_int (fun _ _ => rfl)) pe_int (nomark _)) (pss_cons (ps_set (i := 3) sc__law_next.nd rfl (Or.inl rfl) (pe_op op_mod (pe_callTy int_i (by rfl) M.n_int (by decide +kernel) (pa_cons (pe_ix ix_l (pv 0) pe_int (fun _ _ => rfl)) pa_nil)) (pv 1))) (pss_cons (ps_asg (pe_op op_fdiv (pe_ix ix_l (pv 0) pe_int (fun _ _ => rfl)) (pv 1)) (pg_sub (pv 0) pe_int set_list)) (pss_one (ps_ret (pv 3))))) pss_nil) (pss_cons (ps_asg (pe_op op_mod (pe_callTy int_i (by rfl) M.n_int (by decide +kernel) (pa_cons (pe_op op_add (pe_op op_mul (pe_ix ix_l (pv 0) pe_int (fun _ _ => rfl)) pe_int) pe_int) pa_nil)) pe_int) (pg_sub (pv 0) pe_int set_list)) (pss_one (ps_ret (pe_op op_mod (pe_callTy int_i (by rfl) M.n_int (by decide +kernel) (pa_cons (pe_op op_fdiv (pe_ix ix_l (pv 0) pe_int (fun _ _ => rfl)) pe_int) pa_nil)) (pv 1))))))), ?_⟩
    refine iBody (by repeat constructor) ?_
    refine iCut (fun σ H1 => ∃ cell st, σ = [some (.ref a), some (.int lim), cell, none] ∧ H1 = upd H a st ∧ DrawAt (upd H a st) a l) ?_ ?_
    · obtain ⟨ns, i, r, q, ha, hl, ne, hn, i0, i1, r0, q0, q1⟩ := D
      walk_at "go"
      refine ifD (fun h1 => ?_) (fun h1 => ?_)
      · walk_at "go"
        refine ifD (fun h2 => ?_) (fun h2 => ?_)
        · rw [List.length_map] at h2
          walk_at "go"
          obtain ⟨x, hx⟩ := atI_map i0 h2
          refine iIxL hl hx ?_
          walk_at "go"
          refine ifD (fun h3 => ?_) (fun h3 => ?_)
          · have t18 : (10 : Int) ^ Int.toNat 18 = 1000000000000000000 := by decide
            rw [t18] at h3
            walk_at "go"
            rw [upd_upd]
            exact ⟨_, _, rfl, rfl, .to hl ne hn (by omega) (by omega) (by omega) q0 q1⟩
          · walk_at "go"
            rw [upd_upd]
            exact ⟨_, _, rfl, rfl, .to hl ne hn (by omega) (by omega) (by omega) (by omega) (by omega)⟩
        · walk_at "go"
          exact ⟨_, _, rfl, (upd_id ha).symm, (upd_id ha).symm ▸ ⟨ns, i, r, q, ha, hl, ne, hn, i0, i1, r0, q0, q1⟩⟩
      · walk_at "go"
        exact ⟨_, _, rfl, (upd_id ha).symm, (upd_id ha).symm ▸ ⟨ns, i, r, q, ha, hl, ne, hn, i0, i1, r0, q0, q1⟩⟩
    · rintro σ H1 ⟨cell, st, rfl, rfl, ns, i, r, q2, ha, hl, ne, hn, i0, i1, r0, q0, q1⟩
      walk_at "go"
      refine ifD (fun h1 => ?_) (fun h1 => ?_)
      · walk_at "go"
        rw [upd_upd]
        refine q _ _ (Int.emod_nonneg _ (by omega)) (Int.emod_lt_of_pos _ l0) ?_
        refine .to ((upd_ne ne.symm).symm.trans hl) ne hn i0 i1 (Int.ediv_nonneg (by omega) (by omega)) q0 q1
      · walk_at "go"
        rw [upd_upd]
        refine q _ _ (Int.emod_nonneg _ (by omega)) (Int.emod_lt_of_pos _ l0) ?_
        refine .to ((upd_ne ne.symm).symm.trans hl) ne hn i0 i1 (by omega) (by omega) (by omega)
theorem j_next {H : Hp} {a l : Addr} {lim : Int} {Q : VK} {E : XK} (D : DrawAt H a l) (h0 : 0 < lim) (h1 : lim < 1073741824) (q : ∀ v H', 0 ≤ v → v < lim → DrawAt H' a l → (∀ p, p ≠ a → H' p = H p) → Q (.int v) H') :
    sp__law_next [.ref a, .int lim] H Q E := ⟨a, l, lim, rfl, D, h0, h1, fun v st v0 v1 D' => q v _ v0 v1 D' fun _ hp => upd_ne hp⟩
/-! ### what is the same -/
inductive Dt where
  | non | bl (b : Bool) | int (i : Int) | str (x : Str) | lst (ds : List Dt) | tup (ds : List Dt)
def AtN : Nat → Hp → V → Dt → Prop
  | _, _, v, .non => v = .non
  | _, _, v, .bl b => v = .bl b
  | _, _, v, .int i => v = .int i
  | _, _, v, .str x => v = .str x
  | n + 1, H, v, .lst ds => ∃ (p : Addr) (xs : List V), v = .ref p ∧ H p = some (.lst xs) ∧ xs.length = ds.length ∧ xs.length ≤ 100000 ∧ ∀ (i : Nat) (x : V) (d : Dt), xs[i]? = some x → ds[i]? = some d → AtN n H x d
  | n + 1, H, v, .tup ds => ∃ (p : Addr) (xs : List V), v = .ref p ∧ H p = some (.tup xs) ∧ xs.length = ds.length ∧ xs.length ≤ 100000 ∧ ∀ (i : Nat) (x : V) (d : Dt), xs[i]? = some x → ds[i]? = some d → AtN n H x d
  | 0, _, _, .lst _ => False
  | 0, _, _, .tup _ => False
theorem AtN.non_eq {n : Nat} {H : Hp} {v : V} : AtN n H v .non = (v = .non) := by cases n <;> rfl
theorem AtN.bl_eq {n : Nat} {H : Hp} {v : V} {b : Bool} : AtN n H v (.bl b) = (v = .bl b) := by cases n <;> rfl
theorem AtN.int_eq {n : Nat} {H : Hp} {v : V} {b : Int} : AtN n H v (.int b) = (v = .int b) := by cases n <;> rfl
theorem AtN.str_eq {n : Nat} {H : Hp} {v : V} {b : Str} : AtN n H v (.str b) = (v = .str b) := by cases n <;> rfl
def sp__law_same : Nat → Sp
  | 0 => fun _ _ _ _ => False
  | n + 1 => fun vs H Q _ => ∃ (x y : V) (d : Dt), vs = [x, y] ∧ AtN n H x d ∧ AtN n H y d ∧ Q (.bl true) H
theorem ok__law_same (M : Mg mg) {f : Addr} {fd : FuncData} (F : Fun K "_law_same" "_law_same" s__law_same f fd) (g : mg "_law_same" = some (.ref f)) (bi : Binds K fd ["actual", "expected"] []) :
    ∀ n, FnOk P w K mg base CX0 n f fd ["actual", "expected"] (sp__law_same n)
  | 0 => ⟨fun _ _ _ _ h => h.elim, fun _ _ _ _ _ _ _ _ _ _ _ _ _ h => h.elim⟩
  | n + 1 => by
    have c__law_same : Cal P w K mg base n "_law_same" ["actual", "expected"] (sp__law_same n) := ⟨f, fd, ok__law_same M F g bi n, g, F.kp, bi⟩
    refine F.ok sc__law_same (fun vs H Q E h => ?_) (fun cdv A outer s H vs Q E hr h => ?_)
    · obtain ⟨x, y, d, rfl, _⟩ := h; rfl
    · obtain ⟨x, y, d, rfl, hx, hy, q⟩ := h
      refine ⟨_, (pss_cons (ps_if (pt_cmpR op_isN1 (pv 1) pe_non (nomark _)) (pss_one (ps_ret (pe_cmpR op_isN1 (pv 0) pe_non (nomark _)))) pss_nil) (pss_cons (ps_if (pt_val (pe_callB isi_b (by rfl) M.n_isinstance (by decide +kernel) (pa_cons (pv 1) (pa_cons (pe_ty (n := "bool") (by rfl) M.n_bool (by decide +kernel)) pa_nil)))) (pss_one (ps_ret (pe_and (pe_callB isi_b (by rfl) M.n_isinstance (by decide +kernel) (pa_cons (pv 0) (pa_cons (pe_ty (n := "bool") (by rfl) M.n_bool (by decide +kernel)) pa_nil))) (pe_one (pe_cmpR op_eq (pv 0) (pv 1) (nomark _)))))) pss_nil) (pss_cons (ps_if (pt_val (pe_callB isi_b (by rfl) M.n_isinstance (by decide +kernel) (pa_cons (pv 1) (pa_cons (pe_ty (n := "int") (by rfl) M.n_int (by decide +kernel)) pa_nil)))) (pss_one (ps_ret (pe_and (pe_callB isi_b (by rfl) M.n_isinstance (by decide +kernel) (pa_cons (pv 0) (pa_cons (pe_ty (n := "int") (by rfl) M.n_int (by decide +kernel)) pa_nil))) (pe_and (pe_not (pe_callB isi_b (by rfl) M.n_isinstance (by decide +kernel) (pa_cons (pv 0) (pa_cons (pe_ty (n := "bool") (by rfl) M.n_bool (by decide +kernel)) pa_nil)))) (pe_one (pe_cmpR op_eq (pv 0) (pv 1) (nomark _))))))) pss_nil) (pss_cons (ps_if (pt_val (pe_callB isi_b (by rfl) M.n_isinstance (by decide +kernel) (pa_cons (pv 1) (pa_cons (pe_ty (n := "str") (by rfl) M.n_str (by decide +kernel)) pa_nil)))) (pss_one (ps_ret (pe_and (pe_callB isi_b (by rfl) M.n_isinstance (by decide +kernel) (pa_cons (pv 0) (pa_cons (pe_ty (n := "str") (by rfl) M.n_str (by decide +kernel)) pa_nil))) (pe_one (pe_cmpR op_eq (pv 0) (pv 1) (nomark _)))))) pss_nil) (pss_cons (ps_if (PW.pt (pw_and (pt_val (pe_callB isi_b (by rfl) M.n_isinstance (by decide +kernel) (pa_cons (pv 1) (pa_cons (pe_ty (n := "tuple") (by rfl) M.n_tuple (by decide +kernel)) pa_nil)))) (pw_and1 (pt_not (pt_val (pe_callB isi_b (by rfl) M.n_isinstance (by decide +kernel) (pa_cons (pv 0) (pa_cons (pe_ty (n := "tuple") (by rfl) M.n_tuple (by decide +kernel)) pa_nil)))))))) (pss_one (ps_ret pe_bl)) pss_nil) (pss_cons (ps_if (PW.pt (pw_and (pt_val (pe_callB isi_b (by rfl) M.n_isinstance (by decide +kernel) (pa_cons (pv 1) (pa_cons (pe_ty (n := "list") (by rfl) M.n_list (by decide +kernel)) pa_nil)))) (pw_and1 (pt_not (pt_val (pe_callB isi_b (by rfl) M.n_isinstance (by decide +kernel) (pa_cons (pv 0) (pa_cons (pe_ty (n := "list") (by rfl) M.n_list (by decide +kernel)) pa_nil)))))))) (pss_one (ps_ret pe_bl)) pss_nil) (pss_cons (ps_if (pt_cmpR op_ne (pe_callB len_s (by rfl) M.n_len PySem.boot_len (pa_cons (pv 0) pa_nil)) (pe_callB len_s (by rfl) M.n_len PySem.boot_len (pa_cons (pv 1) pa_nil)) (nomark _)) (pss_one (ps_ret pe_bl)) pss_nil) (pss_cons (ps_for PassesOwn.never rfl (pi_range1 (by rfl) M.n_range (pa_cons (pe_callB len_s (by rfl) M.n_len PySem.boot_len (pa_cons (pv 1) pa_nil)) pa_nil)) (pg_name (i := 2) sc__law_same.nd rfl (Or.inl rfl)) (pss_one (ps_if (pt_not (pt_val (pe_cal c__law_same (hr.mono (by omega)) (by rfl) (pa_cons (pe_ix ix_s (pv 0) (pv 2) (fun _ _ => rfl)) (pa_cons (pe_ix ix_s (pv 1) (pv 2) (fun _ _ => rfl)) pa_nil))))) (pss_one (ps_ret pe_bl)) pss_nil))) (pss_one (ps_ret pe_bl)))))))))), ?_⟩
      refine iBody (by repeat constructor) ?_
      cases d with
      | non =>
        rw [AtN.non_eq] at hx hy
        subst hx; subst hy
        walk_at "go"
        exact q
      | bl k =>
        rw [AtN.bl_eq] at hx hy
        subst hx; subst hy
        walk_at "go"
        rw [decide_eq_true rfl]
        exact q
      | int k =>
        rw [AtN.int_eq] at hx hy
        subst hx; subst hy
        walk_at "go"
        rw [decide_eq_true rfl]
        exact q
      | str k =>
        rw [AtN.str_eq] at hx hy
        subst hx; subst hy
        walk_at "go"
        rw [decide_eq_true rfl]
        exact q
      | lst ds =>
        cases n with
        | zero => exact hx.elim
        | succ n =>
          obtain ⟨p, xs, rfl, hp, el, sl, ex⟩ := hx
          obtain ⟨p', ys, rfl, hp', el', sl', ey⟩ := hy
          walk_at "go"
          refine forJ_range0 (fun _ σ' H' => (∃ k, σ' = [some (.ref p), some (.ref p'), k]) ∧ H' = H) ⟨⟨_, rfl⟩, rfl⟩ (fun i σ' H' hi hp => ?_) (fun σ' H' hp => ?_)
          · obtain ⟨⟨k, rfl⟩, rfl⟩ := hp
            rw [Int.toNat_natCast] at hi
            walk_at "go"
            refine iIxS (.inl (by assumption)) (atI_natL xs i ▸ List.getElem?_eq_getElem (by omega)) ?_
            walk_at "go"
            refine iIxS (.inl (by assumption)) (atI_natL ys i ▸ List.getElem?_eq_getElem (by omega)) ?_
            walk_at "go"
            refine ⟨_, _, ds[i]'(by omega), rfl, ex i _ _ (List.getElem?_eq_getElem _) (List.getElem?_eq_getElem _), ey i _ _ (List.getElem?_eq_getElem _) (List.getElem?_eq_getElem _), ?_⟩
            walk_at "go"
            exact ⟨⟨_, rfl⟩, rfl⟩
          · obtain ⟨⟨k, rfl⟩, rfl⟩ := hp
            walk_at "go"
            exact q
      | tup ds =>
        cases n with
        | zero => exact hx.elim
        | succ n =>
          obtain ⟨p, xs, rfl, hp, el, sl, ex⟩ := hx
          obtain ⟨p', ys, rfl, hp', el', sl', ey⟩ := hy
          walk_at "go"
          refine forJ_range0 (fun _ σ' H' => (∃ k, σ' = [some (.ref p), some (.ref p'), k]) ∧ H' = H) ⟨⟨_, rfl⟩, rfl⟩ (fun i σ' H' hi hp => ?_) (fun σ' H' hp => ?_)
          · obtain ⟨⟨k, rfl⟩, rfl⟩ := hp
            rw [Int.toNat_natCast] at hi
            walk_at "go"
            refine iIxS (.inr (by assumption)) (atI_natL xs i ▸ List.getElem?_eq_getElem (by omega)) ?_
            walk_at "go"
            refine iIxS (.inr (by assumption)) (atI_natL ys i ▸ List.getElem?_eq_getElem (by omega)) ?_
            walk_at "go"
            refine ⟨_, _, ds[i]'(by omega), rfl, ex i _ _ (List.getElem?_eq_getElem _) (List.getElem?_eq_getElem _), ey i _ _ (List.getElem?_eq_getElem _) (List.getElem?_eq_getElem _), ?_⟩
            walk_at "go"
            exact ⟨⟨_, rfl⟩, rfl⟩
          · obtain ⟨⟨k, rfl⟩, rfl⟩ := hp
            walk_at "go"
            exact q
/-! ### bytes -/
theorem xor_nn (a b : Nat) : Builtin.bitXor (a : Int) (b : Int) = ((a ^^^ b : Nat) : Int) := by
  rw [Bits.bitXor_pp (Int.natCast_nonneg _) (Int.natCast_nonneg _)]; rfl
theorem bit_nn (b i : Nat) : Builtin.bitAnd ((b : Int) / 2 ^ (i : Int).toNat) 1 = ((b / 2 ^ i % 2 : Nat) : Int) := by
  have e : ((b : Int) / 2 ^ (i : Int).toNat) = ((b / 2 ^ i : Nat) : Int) := by
    rw [Int.toNat_natCast]; norm_cast
  rw [e]
  show Builtin.bitAnd ((b / 2 ^ i : Nat) : Int) ((1 : Nat) : Int) = _
  rw [PyProof.Rows.bitAnd_pp (Int.natCast_nonneg _) (Int.natCast_nonneg _), Int.toNat_natCast, Int.toNat_natCast, Nat.and_one_is_mod]
def sp_double : Sp := fun vs H Q _ => ∃ a : Nat, vs = [.int a] ∧ a < 256 ∧ Q (.int (dbl a : Nat)) H
theorem ok_double (M : Mg mg) {f : Addr} {fd : FuncData} (F : Fun K "double" "double" s_double f fd) : FnOk P w K mg base CX0 1 f fd ["a"] sp_double := by
  refine F.ok sc_double (fun vs H Q E h => ?_) (fun cdv A outer s H vs Q E hr h => ?_)
  · obtain ⟨a, rfl, _⟩ := h; rfl
  · obtain ⟨a, rfl, ha, q⟩ := h
    refine ⟨_, (pss_cons (ps_set (i := 1) sc_double.nd rfl (Or.inl rfl) (pe_op op_mul pe_int (pv 0))) (pss_cons (ps_if (pt_cmpR op_lt (pv 1) pe_int (nomark _)) (pss_one (ps_ret (pv 1))) pss_nil) (pss_one (ps_ret (pe_op op_xor (pv 1) pe_int))))), ?_⟩
    refine iBody (by repeat constructor) ?_
    walk_at "go"
    refine ifD (fun h => ?_) (fun h => ?_)
    · walk_at "go"
      exact vInt (by unfold dbl; rw [if_pos (by omega)]; omega) q
    · walk_at "go"
      exact vInt (by unfold dbl; rw [if_neg (by omega)]; exact xor_nn (2 * a) 285) q
def sp_product : Sp := fun vs H Q _ => ∃ a b : Nat, vs = [.int a, .int b] ∧ a < 256 ∧ Q (.int (gm a b : Nat)) H
theorem ok_product (M : Mg mg) {f : Addr} {fd : FuncData} (F : Fun K "product" "product" s_product f fd) (c_double : Cal P w K mg base 1 "double" ["a"] sp_double) : FnOk P w K mg base CX0 2 f fd ["a", "b"] sp_product := by
  refine F.ok sc_product (fun vs H Q E h => ?_) (fun cdv A outer s H vs Q E hr h => ?_)
  · obtain ⟨a, b, rfl, _⟩ := h; rfl
  · obtain ⟨a, b, rfl, ha, q⟩ := h
    refine ⟨_, (pss_cons (ps_set (i := 2) sc_product.nd rfl (Or.inl rfl) pe_int) (pss_cons (ps_for PassesOwn.never rfl (pi_range1 (by rfl) M.n_range (pa_cons pe_int pa_nil)) (pg_name (i := 3) sc_product.nd rfl (Or.inl rfl)) (pss_cons (ps_if (pt_truth (pe_op op_and (pe_op op_shr (pv 1) (pv 3)) pe_int) (by intro _; rfl)) (pss_one (ps_set (i := 2) sc_product.nd rfl (Or.inl rfl) (pe_op op_xor (pv 2) (pv 0)))) pss_nil) (pss_one (ps_set (i := 0) sc_product.nd rfl (Or.inl rfl) (pe_cal c_double (hr.mono (by omega)) (by rfl) (pa_cons (pv 0) pa_nil)))))) (pss_one (ps_ret (pv 2))))), ?_⟩
    refine iBody (by repeat constructor) ?_
    walk_at "go"
    refine forJ_range0 (fun i σ' H' => (∃ k, σ' = [some (.int (dp a i : Nat)), some (.int b), some (.int (gs a b i : Nat)), k]) ∧ H' = H) ⟨⟨_, rfl⟩, rfl⟩ (fun i σ' H' hi hp => ?_) (fun σ' H' hp => ?_)
    · obtain ⟨⟨k, rfl⟩, rfl⟩ := hp
      walk_at "go"
      rw [bit_nn]
      have fin : ∀ t : Nat, t = gs a b (i + 1) → (∃ k, [some (V.int (dbl (dp a i) : Nat)), some (.int b), some (.int t), some (V.int i)] = [some (.int (dp a (i + 1) : Nat)), some (.int b), some (.int (gs a b (i + 1) : Nat)), k]) ∧ H' = H' := fun t e => ⟨⟨some (V.int i), by rw [e]; rfl⟩, rfl⟩
      by_cases hb : b / 2 ^ i % 2 = 1
      · rw [hb]
        walk_at "go"
        refine ⟨dp a i, rfl, dp_lt ha i, ?_⟩
        walk_at "go"
        rw [xor_nn]
        exact fin _ (by show _ = (if b / 2 ^ i % 2 = 1 then gs a b i ^^^ dp a i else gs a b i); rw [if_pos hb])
      · have hb' : b / 2 ^ i % 2 = 0 := by omega
        rw [hb']
        walk_at "go"
        refine ⟨dp a i, rfl, dp_lt ha i, ?_⟩
        walk_at "go"
        exact fin _ (by show _ = (if b / 2 ^ i % 2 = 1 then gs a b i ^^^ dp a i else gs a b i); rw [if_neg hb])
    · obtain ⟨⟨k, rfl⟩, rfl⟩ := hp
      walk_at "go"
      exact q
def sp_inverse : Sp := fun vs H Q _ => ∃ a : Nat, vs = [.int a] ∧ a < 256 ∧ Q (.int (iv a : Nat)) H
theorem ok_inverse (M : Mg mg) {f : Addr} {fd : FuncData} (F : Fun K "inverse" "inverse" s_inverse f fd) (c_product : Cal P w K mg base 2 "product" ["a", "b"] sp_product) : FnOk P w K mg base CX0 3 f fd ["a"] sp_inverse := by
  refine F.ok sc_inverse (fun vs H Q E h => ?_) (fun cdv A outer s H vs Q E hr h => ?_)
  · obtain ⟨a, rfl, _⟩ := h; rfl
  · obtain ⟨a, rfl, ha, q⟩ := h
    refine ⟨_, (pss_cons (ps_set (i := 1) sc_inverse.nd rfl (Or.inl rfl) pe_int) (pss_cons (ps_for PassesOwn.never rfl (pi_range1 (by rfl) M.n_range (pa_cons pe_int pa_nil)) (pg_name (i := 2) sc_inverse.nd rfl (Or.inl rfl)) (pss_cons (ps_set (i := 0) sc_inverse.nd rfl (Or.inl rfl) (pe_cal c_product (hr.mono (by omega)) (by rfl) (pa_cons (pv 0) (pa_cons (pv 0) pa_nil)))) (pss_one (ps_set (i := 1) sc_inverse.nd rfl (Or.inl rfl) (pe_cal c_product (hr.mono (by omega)) (by rfl) (pa_cons (pv 1) (pa_cons (pv 0) pa_nil))))))) (pss_one (ps_ret (pv 1))))), ?_⟩
    refine iBody (by repeat constructor) ?_
    walk_at "go"
    refine forJ_range0 (fun i σ' H' => (∃ k, σ' = [some (.int ((pw a 1 i).1 : Nat)), some (.int ((pw a 1 i).2 : Nat)), k]) ∧ H' = H) ⟨⟨_, rfl⟩, rfl⟩ (fun i σ' H' hi hp => ?_) (fun σ' H' hp => ?_)
    · obtain ⟨⟨k, rfl⟩, rfl⟩ := hp
      have hl := pw_lt (t := 1) ha (by decide) i
      walk_at "go"
      refine ⟨_, _, rfl, hl.1, ?_⟩
      walk_at "go"
      refine ⟨_, _, rfl, hl.2, ?_⟩
      walk_at "go"
      exact ⟨⟨_, rfl⟩, rfl⟩
    · obtain ⟨⟨k, rfl⟩, rfl⟩ := hp
      walk_at "go"
      exact q
/-! ### the law's product -/
theorem half (x : Nat) : (x : Int) / 2 = ((x / 2 : Nat) : Int) := by omega
def sp__law_times : Sp := fun vs H Q _ => ∃ a b : Nat, vs = [.int a, .int b] ∧ a < 256 ∧ Q (.int (gm a b : Nat)) H
theorem ok__law_times (M : Mg mg) {f : Addr} {fd : FuncData} (F : Fun K "_law_times" "_law_times" s__law_times f fd) : FnOk P w K mg base CX0 1 f fd ["a", "b"] sp__law_times := by
  refine F.ok sc__law_times (fun vs H Q E h => ?_) (fun cdv A outer s H vs Q E hr h => ?_)
  · obtain ⟨a, b, rfl, _⟩ := h; rfl
  · obtain ⟨a, b, rfl, ha, q⟩ := h
    refine ⟨_, (pss_cons (ps_set (i := 2) sc__law_times.nd rfl (Or.inl rfl) pe_int) (pss_cons (ps_for PassesOwn.never rfl (pi_range1 (by rfl) M.n_range (pa_cons pe_int pa_nil)) (pg_name (i := 3) sc__law_times.nd rfl (Or.inl rfl)) (pss_cons (ps_if (pt_cmpR op_eq (pe_op op_mod (pe_callTy int_i (by rfl) M.n_int (by decide +kernel) (pa_cons (pv 1) pa_nil)) pe_int) pe_int (nomark _)) (pss_one (ps_set (i := 2) sc__law_times.nd rfl (Or.inl rfl) (pe_op op_xor (pv 2) (pv 0)))) pss_nil) (pss_cons (ps_set (i := 0) sc__law_times.nd rfl (Or.inl rfl) (pe_op op_mul pe_int (pv 0))) (pss_one (ps_set (i := 1) sc__law_times.nd rfl (Or.inl rfl) (pe_op op_fdiv (pv 1) pe_int)))))) (pss_cons (ps_set (i := 4) sc__law_times.nd rfl (Or.inl rfl) pe_int) (pss_cons (ps_set (i := 5) sc__law_times.nd rfl (Or.inl rfl) pe_int) (pss_cons (ps_for PassesOwn.never rfl (pi_range1 (by rfl) M.n_range (pa_cons pe_int pa_nil)) (pg_name (i := 3) sc__law_times.nd rfl (Or.inl rfl)) (pss_cons (ps_if (pt_cmpR op_ge (pv 2) (pv 4) (nomark _)) (pss_one (ps_set (i := 2) sc__law_times.nd rfl (Or.inl rfl) (pe_op op_xor (pv 2) (pv 5)))) pss_nil) (pss_cons (ps_set (i := 4) sc__law_times.nd rfl (Or.inl rfl) (pe_op op_fdiv (pv 4) pe_int)) (pss_one (ps_set (i := 5) sc__law_times.nd rfl (Or.inl rfl) (pe_op op_fdiv (pv 5) pe_int)))))) (pss_one (ps_ret (pv 2)))))))), ?_⟩
    refine iBody (by repeat constructor) ?_
    walk_at "go"
    refine forJ_range0 (fun i σ' H' => (∃ k, σ' = [some (.int (2 ^ i * a : Nat)), some (.int (b / 2 ^ i : Nat)), some (.int (cl a b i : Nat)), k, none, none]) ∧ H' = H) ⟨⟨none, by simp [cl]⟩, rfl⟩ (fun i σ' H' hi hp => ?_) (fun σ' H' hp => ?_)
    · obtain ⟨⟨k, rfl⟩, rfl⟩ := hp
      have fin : ∀ (t : Nat) (c d : Int), t = cl a b (i + 1) → c = (2 ^ (i + 1) * a : Nat) → d = (b / 2 ^ (i + 1) : Nat) → (∃ k, [some (V.int c), some (.int d), some (.int t), some (V.int i), none, none] = [some (V.int (2 ^ (i + 1) * a : Nat)), some (.int (b / 2 ^ (i + 1) : Nat)), some (.int (cl a b (i + 1) : Nat)), k, none, none]) ∧ H' = H' := fun t c d e1 e2 e3 => ⟨⟨some (V.int i), by rw [e1, e2, e3]⟩, rfl⟩
      have e2 : (2 : Int) * ((2 ^ i * a : Nat) : Int) = ((2 ^ (i + 1) * a : Nat) : Int) := by
        rw [Nat.pow_succ, Nat.mul_comm (2 ^ i) 2, Nat.mul_assoc]; push_cast; rfl
      have e3 : ((b / 2 ^ i : Nat) : Int) / 2 = ((b / 2 ^ (i + 1) : Nat) : Int) := by
        rw [half, Nat.div_div_eq_div_mul, ← Nat.pow_succ]
      walk_at "go"
      refine ifD (fun h => ?_) (fun h => ?_)
      · walk_at "go"
        rw [xor_nn]
        exact fin _ _ _ (by show _ = (if b / 2 ^ i % 2 = 1 then cl a b i ^^^ (2 ^ i * a) else cl a b i); rw [if_pos (by omega)]) e2 e3
      · walk_at "go"
        exact fin _ _ _ (by show _ = (if b / 2 ^ i % 2 = 1 then cl a b i ^^^ (2 ^ i * a) else cl a b i); rw [if_neg (by omega)]) e2 e3
    · obtain ⟨⟨k, rfl⟩, rfl⟩ := hp
      walk_at "go"
      refine forJ_range0 (fun i σ'' H'' => (∃ x y k, σ'' = [x, y, some (.int (rd (cl a b 8) i : Nat)), k, some (.int (32768 / 2 ^ i : Nat)), some (.int (36480 / 2 ^ i : Nat))]) ∧ H'' = H') ⟨⟨_, _, _, rfl⟩, rfl⟩ (fun i σ' H' hi hp => ?_) (fun σ' H' hp => ?_)
      · obtain ⟨⟨x, y, k, rfl⟩, rfl⟩ := hp
        have fin : ∀ (t : Nat) (c d : Int), t = rd (cl a b 8) (i + 1) → c = (32768 / 2 ^ (i + 1) : Nat) → d = (36480 / 2 ^ (i + 1) : Nat) → (∃ x' y' k, [x, y, some (.int t), some (V.int i), some (V.int c), some (.int d)] = [x', y', some (.int (rd (cl a b 8) (i + 1) : Nat)), k, some (V.int (32768 / 2 ^ (i + 1) : Nat)), some (.int (36480 / 2 ^ (i + 1) : Nat))]) ∧ H' = H' := fun t c d e1 e2 e3 => ⟨⟨x, y, some (V.int i), by rw [e1, e2, e3]⟩, rfl⟩
        have e2 : ((32768 / 2 ^ i : Nat) : Int) / 2 = ((32768 / 2 ^ (i + 1) : Nat) : Int) := by
          rw [half, Nat.div_div_eq_div_mul, ← Nat.pow_succ]
        have e3 : ((36480 / 2 ^ i : Nat) : Int) / 2 = ((36480 / 2 ^ (i + 1) : Nat) : Int) := by
          rw [half, Nat.div_div_eq_div_mul, ← Nat.pow_succ]
        walk_at "go"
        refine ifD (fun h => ?_) (fun h => ?_)
        · walk_at "go"
          rw [xor_nn]
          exact fin _ _ _ (by show _ = (if 32768 / 2 ^ i ≤ rd (cl a b 8) i then rd (cl a b 8) i ^^^ (36480 / 2 ^ i) else rd (cl a b 8) i); rw [if_pos (by omega)]) e2 e3
        · walk_at "go"
          exact fin _ _ _ (by show _ = (if 32768 / 2 ^ i ≤ rd (cl a b 8) i then rd (cl a b 8) i ^^^ (36480 / 2 ^ i) else rd (cl a b 8) i); rw [if_neg (by omega)]) e2 e3
      · obtain ⟨⟨x, y, k, rfl⟩, rfl⟩ := hp
        walk_at "go"
        have e : rd (cl a b 8) 8 = gm a b := gm_tm b ha
        exact vInt (by rw [show (8 : Int).toNat = 8 from rfl, e]) q
/-! ### products, weights -/
theorem xor_B (x y : B) : Builtin.bitXor (x.v : Int) (y.v : Int) = ((x + y).v : Int) := xor_nn x.v y.v
theorem j_productB {x y : B} {H : Hp} {Q : VK} {E : XK} (q : Q (.int (x * y).v) H) : sp_product [.int x.v, .int y.v] H Q E := ⟨x.v, y.v, rfl, x.h, q⟩
theorem j_double {a : Nat} {H : Hp} {Q : VK} {E : XK} (ha : a < 256) (q : Q (.int (dbl a : Nat)) H) : sp_double [.int a] H Q E := ⟨a, rfl, ha, q⟩
theorem j_inverseB {x : B} {H : Hp} {Q : VK} {E : XK} (h : x ≠ b0) (q : Q (.int x.inv.v) H) : sp_inverse [.int x.v] H Q E := by
  refine ⟨x.v, rfl, x.h, ?_⟩
  have e : x.inv.v = iv x.v := by
    have hv : ¬ x.v = 0 := fun e => h (B.ext' e)
    unfold B.inv
    rw [dif_neg hv]
  rw [← e]
  exact q
def rowV (a : B) (n : Nat) : List V := (List.range n).map fun k => V.int (a * pl k).v
def sp_products : Sp := fun vs H Q _ => ∃ a : B, vs = [.int a.v] ∧ NewL H Q (rowV a 256)
theorem ok_products (M : Mg mg) {f : Addr} {fd : FuncData} (F : Fun K "products" "products" s_products f fd) (c_double : Cal P w K mg base 1 "double" ["a"] sp_double) : FnOk P w K mg base CX0 2 f fd ["a"] sp_products := by
  refine F.ok sc_products (fun vs H Q E h => ?_) (fun cdv A outer s H vs Q E hr h => ?_)
  · obtain ⟨a, rfl, _⟩ := h; rfl
  · obtain ⟨a, rfl, q⟩ := h
    refine ⟨_, (pss_cons (ps_set (i := 1) sc_products.nd rfl (Or.inl rfl) (pe_lst (pa_cons pe_int pa_nil))) (pss_cons (ps_for PassesOwn.never rfl (pi_range1 (by rfl) M.n_range (pa_cons pe_int pa_nil)) (pg_name (i := 2) sc_products.nd rfl (Or.inl rfl)) (pss_cons (ps_set (i := 1) sc_products.nd rfl (Or.inl rfl) (pe_op op_cat (pv 1) (pe_lc (own := [("known", 3)]) (g := (gName 3)) (tt := tYes) (by rfl) sc_products.nd (pi_l (pv 1)) (blkOk_by (own := [("known", 3)]) (N := ["a", "row", "_", "known"]) (sc := defScope s_products) (by decide +kernel)) (fun _ _ _ _ _ => (pg_name (i := 3) sc_products.nd rfl (Or.inl rfl))) (fun _ _ _ _ _ => pts_nil) (fun _ _ _ _ _ => (pe_op op_xor (pv 3) (pv 0)))))) (pss_one (ps_set (i := 0) sc_products.nd rfl (Or.inr rfl) (pe_cal c_double (hr.mono (by omega)) (by rfl) (pa_cons (pv 0) pa_nil)))))) (pss_one (ps_ret (pv 1))))), ?_⟩
    refine iBody (by repeat constructor) ?_
    walk_at "go"
    refine iNewL (by simp) fun r0 hr0 => ?_
    walk_at "go"
    refine forJ_range0 (fun i σ' H' => (∃ r u, σ' = [some (.int (dp a.v i : Nat)), some (.ref r), u, none] ∧ H r = none ∧ H' r = some (.lst (rowV a (2 ^ i)))) ∧ Ex H H') ⟨⟨r0, _, rfl, hr0, ?_⟩, ex_upd hr0 (Ex.rfl' _)⟩ (fun i σ' H' hi hp => ?_) (fun σ' H' hp => ?_)
    · rw [upd_same]
      show some (HO.lst [V.int 0]) = some (.lst [V.int (a * pl 0).v])
      rw [show a * pl 0 = b0 from B.mul_zero a]; rfl
    · obtain ⟨⟨r, u, rfl, hn, hrow⟩, ex⟩ := hp
      have hd := dp_lt a.h i
      have hp' : ((a * pl (2 ^ i)).v) = dp a.v i := by
        show gm a.v (pl (2 ^ i)).v = _
        rw [pl_v (Nat.lt_of_le_of_lt (show 2 ^ i ≤ 2 ^ 7 from Nat.pow_le_pow_right (by decide) (by omega)) (by decide)), gm_pow a.h hi]
      have h2 : 2 ^ i ≤ 2 ^ 7 := Nat.pow_le_pow_right (by decide) (by omega)
      have l1 : (rowV a (2 ^ i)).length = 2 ^ i := by unfold rowV; rw [List.length_map, List.length_range]
      walk_at "go"
      refine lcF_l (rowV a (2 ^ i)) (fun k => V.int (a * pl (2 ^ i + k)).v) (by repeat constructor) hrow (fun D j x H2 hD hx hacc e2 => ?_) (fun D H2 hD e2 hacc => ?_)
      · have hj : j < 2 ^ i := by
          have := (List.getElem?_eq_some_iff.mp hx).1
          omega
        have hx' : x = V.int (a * pl j).v := by
          unfold rowV at hx
          rw [List.getElem?_map, List.getElem?_range hj] at hx
          exact (Option.some.inj hx).symm
        subst hx'
        walk_at "go"
        refine iLcF hD (by omega) e2 hacc ?_
        rw [xor_nn, pl_add hi hj, B.mul_add, B.add_v, hp', Nat.xor_comm]
      · have hrow2 := e2 _ _ hrow
        walk_at "go"
        refine iCat hrow2 hacc (by rw [List.length_map, List.length_range, l1]; omega) fun r' hr' => ?_
        walk_at "go"
        refine ⟨dp a.v i, rfl, hd, ?_⟩
        walk_at "go"
        have en : H r' = none := by
          cases z : H r' with
          | none => rfl
          | some o => rw [e2 _ _ (ex _ _ z)] at hr'; cases hr'
        refine ⟨⟨r', _, rfl, en, ?_⟩, ex_upd en (fun p o h => e2 _ _ (ex _ _ h))⟩
        rw [upd_same, l1]
        unfold rowV
        rw [Nat.pow_succ, Nat.mul_two, List.range_add, List.map_append, List.map_map]
        rfl
    · obtain ⟨⟨r, u, rfl, hn, hrow⟩, ex⟩ := hp
      walk_at "go"
      exact q r H' hn ex hrow
theorem j_products {a : B} {H : Hp} {Q : VK} {E : XK} (q : NewL H Q (rowV a 256)) : sp_products [.int a.v] H Q E := ⟨a, rfl, q⟩
theorem rowV_at (a y : B) : atI (rowV a 256) (y.v : Int) = some (V.int (a * y).v) := by
  rw [atI_natL]
  unfold rowV
  rw [List.getElem?_map, List.getElem?_range y.h]
  show some (V.int (a * pl y.v).v) = _
  rw [B.pl_eq]
theorem bsV_get {L : List B} {n : Nat} {x : V} (h : (bsV L)[n]? = some x) : ∃ b, L[n]? = some b ∧ x = .int b.v := by
  unfold bsV at h
  rw [List.getElem?_map] at h
  cases e : L[n]? with
  | none => rw [e] at h; cases h
  | some b => rw [e] at h; exact ⟨b, rfl, (Option.some.inj h).symm⟩
theorem drop_at {α : Type} {L : List α} {n : Nat} {b : α} (h : L[n]? = some b) : L.drop n = b :: L.drop (n + 1) := by
  obtain ⟨hn, rfl⟩ := List.getElem?_eq_some_iff.mp h
  exact List.drop_eq_getElem_cons hn
def sp_weight : Sp := fun vs H Q _ => ∃ (x i : B) (p : Addr) (L : List B), vs = [.int x.v, .ref p, .int i.v] ∧ H p = some (.lst (bsV L)) ∧ Q (.int (wB x L i).v) H
theorem ok_weight (M : Mg mg) {f : Addr} {fd : FuncData} (F : Fun K "weight" "weight" s_weight f fd) (c_product : Cal P w K mg base 2 "product" ["a", "b"] sp_product) (c_inverse : Cal P w K mg base 3 "inverse" ["a"] sp_inverse) : FnOk P w K mg base CX0 4 f fd ["x", "places", "i"] sp_weight := by
  refine F.ok sc_weight (fun vs H Q E h => ?_) (fun cdv A outer s H vs Q E hr h => ?_)
  · obtain ⟨x, i, p, L, rfl, _⟩ := h; rfl
  · obtain ⟨x, i, p, L, rfl, hp, q⟩ := h
    refine ⟨_, (pss_cons (ps_set (i := 3) sc_weight.nd rfl (Or.inl rfl) pe_int) (pss_cons (ps_set (i := 4) sc_weight.nd rfl (Or.inl rfl) pe_int) (pss_cons (ps_for PassesOwn.never rfl (pi_l (pv 1)) (pg_name (i := 5) sc_weight.nd rfl (Or.inl rfl)) (pss_one (ps_if (pt_cmpR op_ne (pv 5) (pv 2) (nomark _)) (pss_cons (ps_set (i := 3) sc_weight.nd rfl (Or.inl rfl) (pe_cal c_product (hr.mono (by omega)) (by rfl) (pa_cons (pv 3) (pa_cons (pe_op op_xor (pv 0) (pv 5)) pa_nil)))) (pss_one (ps_set (i := 4) sc_weight.nd rfl (Or.inl rfl) (pe_cal c_product (hr.mono (by omega)) (by rfl) (pa_cons (pv 4) (pa_cons (pe_op op_xor (pv 2) (pv 5)) pa_nil)))))) pss_nil))) (pss_one (ps_ret (pe_cal c_product (hr.mono (by omega)) (by rfl) (pa_cons (pv 3) (pa_cons (pe_cal c_inverse (hr.mono (by omega)) (by rfl) (pa_cons (pv 4) pa_nil)) pa_nil)))))))), ?_⟩
    refine iBody (by repeat constructor) ?_
    walk_at "go"
    refine forJ_list (bsV L) (fun n σ' H' => (∃ (a c : B) (u : Option V), σ' = [some (.int x.v), some (.ref p), some (.int i.v), some (.int a.v), some (.int c.v), u] ∧ above x i (L.drop n) a = above x i L b1 ∧ above i i (L.drop n) c = above i i L b1) ∧ H' = H) ⟨⟨b1, b1, none, rfl, rfl, rfl⟩, rfl⟩ (fun n σ' H' _ h => h.2 ▸ hp) (fun n v σ' H' hv h => ?_) (fun σ' H' h => ?_)
    · obtain ⟨⟨a, c, u, rfl, e1, e2⟩, rfl⟩ := h
      obtain ⟨j, hj, rfl⟩ := bsV_get hv
      rw [drop_at hj] at e1 e2
      walk_at "go"
      refine ifND (fun h => ?_) (fun h => ?_)
      · have hji : j ≠ i := fun e => h (by rw [e])
        walk_at "go"
        rw [xor_B]
        refine j_productB ?_
        walk_at "go"
        rw [xor_B]
        refine j_productB ?_
        walk_at "go"
        refine ⟨⟨_, _, _, rfl, ?_, ?_⟩, rfl⟩
        · rw [← e1]; show _ = above x i (L.drop (n + 1)) (if j ≠ i then a * (x + j) else a); rw [if_pos hji]
        · rw [← e2]; show _ = above i i (L.drop (n + 1)) (if j ≠ i then c * (i + j) else c); rw [if_pos hji]
      · have hji : j = i := B.ext' (by omega)
        walk_at "go"
        refine ⟨⟨_, _, _, rfl, ?_, ?_⟩, rfl⟩
        · rw [← e1]; show _ = above x i (L.drop (n + 1)) (if j ≠ i then a * (x + j) else a); rw [if_neg (by simpa using hji)]
        · rw [← e2]; show _ = above i i (L.drop (n + 1)) (if j ≠ i then c * (i + j) else c); rw [if_neg (by simpa using hji)]
    · obtain ⟨⟨a, c, u, rfl, e1, e2⟩, rfl⟩ := h
      have ln : (bsV L).length = L.length := List.length_map ..
      rw [ln, List.drop_length] at e1 e2
      have e1 : a = above x i L b1 := e1
      have e2 : c = above i i L b1 := e2
      have c0 : c ≠ b0 := by rw [e2]; exact above_ne L _ B.one_ne
      walk_at "go"
      refine j_inverseB c0 ?_
      walk_at "go"
      refine j_productB ?_
      rw [e1, e2]
      exact q
theorem j_weight {x i : B} {p : Addr} {L : List B} {H : Hp} {Q : VK} {E : XK} (h : H p = some (.lst (bsV L))) (q : Q (.int (wB x L i).v) H) : sp_weight [.int x.v, .ref p, .int i.v] H Q E := ⟨x, i, p, L, rfl, h, q⟩
/-! ### sectors out of given ones -/
abbrev Gv := List (B × (Nat → B))
def wordF (G : Gv) (x : B) (t : Nat) : B := sumB (fun g : B × (Nat → B) => wB x (G.map (·.1)) g.1 * g.2 t) G
def GvAt (H : Hp) : List (Key × V) → Gv → Prop := Paired fun p g => p.1 = .inl (g.1.v : Int) ∧ SecAt H p.2 g.2
theorem GvAt.ex {H H' : Hp} (e : Ex H H') : ∀ {kvs : List (Key × V)} {G : Gv}, GvAt H kvs G → GvAt H' kvs G
  | _, _, .nil => .nil
  | _, _, .cons h t => .cons ⟨h.1, h.2.ex e⟩ (GvAt.ex e t)
theorem GvAt.keys {H : Hp} : ∀ {kvs : List (Key × V)} {G : Gv}, GvAt H kvs G → kvs.map (fun kv => kV kv.1) = bsV (G.map (·.1))
  | _, _, .nil => rfl
  | _, _, .cons (a := p) (b := g) h t => by
    have ih := GvAt.keys t
    show kV p.1 :: _ = V.int g.1.v :: _
    rw [h.1]
    exact congrArg _ ih
theorem GvAt.len {H : Hp} {kvs : List (Key × V)} {G : Gv} (h : GvAt H kvs G) : kvs.length = G.length := Paired.length h
theorem GvAt.val {H : Hp} : ∀ {kvs : List (Key × V)} {G : Gv}, GvAt H kvs G → (G.map (·.1)).Nodup → ∀ {n : Nat} {g : B × (Nat → B)}, G[n]? = some g → ∃ v, valV kvs (.inl (g.1.v : Int) : Key) = some v ∧ SecAt H v g.2
  | _, _, .nil, _, n, g, e => by simp at e
  | _, _, .cons (a := p) (b := g0) h t, nd, 0, g, e => by
    simp at e
    subst e
    exact ⟨p.2, valV_pos h.1, h.2⟩
  | _, _, .cons (a := p) (b := g0) (l₂ := G) h t, nd, n + 1, g, e => by
    have e' : G[n]? = some g := by simpa using e
    have nd' := List.nodup_cons.mp (show (g0.1 :: G.map (·.1)).Nodup from nd)
    obtain ⟨v, hv, hs⟩ := GvAt.val t nd'.2 e'
    refine ⟨v, ?_, hs⟩
    rw [valV_neg, hv]
    rw [h.1]
    intro z
    have z' : ((g0.1.v : Nat) : Int) = (g.1.v : Nat) := Sum.inl.inj z
    have : g0.1 = g.1 := B.ext' (by omega)
    exact nd'.1 (this ▸ List.mem_map_of_mem (List.mem_of_getElem? e'))
theorem GvAt.none {H : Hp} : ∀ {kvs : List (Key × V)} {G : Gv}, GvAt H kvs G → ∀ {b : B}, b ∉ G.map (·.1) → valV kvs (.inl (b.v : Int) : Key) = none
  | _, _, .nil, _, _ => rfl
  | _, _, .cons (a := p) (b := g0) (l₂ := G) h t, b, hb => by
    have hb' : ¬ b = g0.1 ∧ b ∉ G.map (·.1) := by simpa using hb
    rw [valV_neg, GvAt.none t hb'.2]
    rw [h.1]
    intro z
    have z' : ((g0.1.v : Nat) : Int) = (b.v : Nat) := Sum.inl.inj z
    exact hb'.1 (B.ext' (by omega))
def sp_sector_at : Sp := fun vs H Q _ => ∃ (x : B) (d : Addr) (kvs : List (Key × V)) (G : Gv), vs = [.int x.v, .ref d] ∧ H d = some (.dK kvs) ∧ GvAt H kvs G ∧ (G.map (·.1)).Nodup ∧ NewL H Q (bl (wordF G x))
theorem ok_sector_at (M : Mg mg) {f : Addr} {fd : FuncData} (F : Fun K "sector_at" "sector_at" s_sector_at f fd) (c_products : Cal P w K mg base 2 "products" ["a"] sp_products) (c_weight : Cal P w K mg base 4 "weight" ["x", "places", "i"] sp_weight) : FnOk P w K mg base CX0 5 f fd ["x", "given"] sp_sector_at := by
  refine F.ok sc_sector_at (fun vs H Q E h => ?_) (fun cdv A outer s H vs Q E hr h => ?_)
  · obtain ⟨x, d, kvs, G, rfl, _⟩ := h; rfl
  · obtain ⟨x, d, kvs, G, rfl, hd, hG, nd, q⟩ := h
    refine ⟨_, (pss_cons (ps_set (i := 2) sc_sector_at.nd rfl (Or.inl rfl) (pe_callTy (call_list_dK rfl) (by rfl) M.n_list (by decide +kernel) (pa_cons (pv 1) pa_nil))) (pss_cons (ps_set (i := 3) sc_sector_at.nd rfl (Or.inl rfl) (pe_op op_rep (pe_lst (pa_cons pe_int pa_nil)) (pe_globC (by rfl) M.c_SECTOR))) (pss_cons (ps_for PassesOwn.never rfl (pi_l (pv 2)) (pg_name (i := 4) sc_sector_at.nd rfl (Or.inl rfl)) (pss_cons (ps_set (i := 5) sc_sector_at.nd rfl (Or.inr rfl) (pe_cal c_products (hr.mono (by omega)) (by rfl) (pa_cons (pe_cal c_weight (hr.mono (by omega)) (by rfl) (pa_cons (pv 0) (pa_cons (pv 2) (pa_cons (pv 4) pa_nil)))) pa_nil))) (pss_one (ps_setLc (i := 3) (own := [("byte", 6), ("other", 7)]) (g := (gTup K 2 (gCons (gName 6) (gCons (gName 7) gNil)))) (tt := tYes) (by rfl) sc_sector_at.nd rfl rfl (sw_true rfl rfl rfl (by decide +kernel)) (pi_zip (by rfl) M.n_zip (pa_cons (pv 3) (pa_cons (pe_dget (hu_of hr) (pv 1) (pv 4) (fun _ _ => rfl)) pa_nil))) (blkOk_by (own := [("byte", 6), ("other", 7)]) (N := ["x", "given", "places", "total", "i", "row", "byte", "other"]) (sc := defScope s_sector_at) (by decide +kernel)) (fun _ _ _ _ _ => (pg_tup (by rfl) (pgs_cons (pg_name (i := 6) sc_sector_at.nd rfl (Or.inl rfl)) (pgs_cons (pg_name (i := 7) sc_sector_at.nd rfl (Or.inl rfl)) pgs_nil)))) (fun _ _ _ _ _ => pts_nil) (fun _ _ _ _ _ => (pe_op op_xor (pv 6) (pe_ix ix_l (pv 5) (pv 7) (fun _ _ => rfl)))))))) (pss_one (ps_ret (pv 3)))))), ?_⟩
    refine iBody (by repeat constructor) ?_
    walk_at "go"
    refine iListD hd fun p hp => ?_
    rw [hG.keys]
    walk_at "go"
    refine iNewL (by simp) fun z hz => ?_
    walk_at "go"
    refine iRep upd_same (by decide) (by decide) (by decide) fun r hr' => ?_
    have e0 : Ex H (upd H p (.lst (bsV (G.map (·.1))))) := ex_upd hp (Ex.rfl' _)
    have e1 : Ex H (upd (upd H p (.lst (bsV (G.map (·.1))))) z (.lst [.int 0])) := ex_upd (by cases q : H z with | none => rfl | some o => rw [e0 _ _ q] at hz; cases hz) e0
    have hp2 : (upd (upd (upd H p (.lst (bsV (G.map (·.1))))) z (.lst [.int 0])) r (.lst (List.replicate (32 : Int).toNat [V.int 0]).flatten)) p = some (.lst (bsV (G.map (·.1)))) := by walk_at "look"
    have r0 : H r = none := by cases q : H r with | none => rfl | some o => rw [e1 _ _ q] at hr'; cases hr'
    have e2 := ex_upd (o := .lst (List.replicate (32 : Int).toNat [V.int 0]).flatten) r0 e1
    have hr2 : (upd (upd (upd H p (.lst (bsV (G.map (·.1))))) z (.lst [.int 0])) r (.lst (List.replicate (32 : Int).toNat [V.int 0]).flatten)) r = some (.lst (bl fun _ => b0)) := upd_same
    generalize upd (upd (upd H p (.lst (bsV (G.map (·.1))))) z (.lst [.int 0])) r (.lst (List.replicate (32 : Int).toNat [V.int 0]).flatten) = H1 at e2 hp2 hr2 ⊢
    walk_at "go"
    refine forJ_list (bsV (G.map (·.1))) (fun n σ' H' => (∃ (r : Addr) (a : Nat → B) (u1 u2 : Option V), σ' = [some (.int x.v), some (.ref d), some (.ref p), some (.ref r), u1, u2, none, none] ∧ H r = none ∧ H' r = some (.lst (bl a)) ∧ ∀ t, a t + sumB (fun g : B × (Nat → B) => wB x (G.map (·.1)) g.1 * g.2 t) (G.drop n) = wordF G x t) ∧ Ex H H' ∧ H' p = some (.lst (bsV (G.map (·.1))))) ⟨⟨r, fun _ => b0, none, none, rfl, r0, hr2, fun t => B.zero_add _⟩, e2, hp2⟩ (fun n σ' H' _ h => h.2.2) (fun n v σ' H' hv h => ?_) (fun σ' H' h => ?_)
    · obtain ⟨⟨r, a, u1, u2, rfl, hrn, har, sm⟩, ex, hp'⟩ := h
      obtain ⟨b, hb, rfl⟩ := bsV_get hv
      obtain ⟨g, hg, rfl⟩ : ∃ g, G[n]? = some g ∧ g.1 = b := by
        rw [List.getElem?_map] at hb
        cases e : G[n]? with
        | none => rw [e] at hb; cases hb
        | some g => rw [e] at hb; exact ⟨g, rfl, Option.some.inj hb⟩
      obtain ⟨v, hval, hsec⟩ := hG.val nd hg
      obtain ⟨sv, rfl, hsv⟩ := hsec.ex ex
      walk_at "go"
      refine j_weight hp' ?_
      walk_at "go"
      refine j_products fun row H2 hrow ex2 hrow2 => ?_
      have har2 := ex2 _ _ har
      have hsv2 := ex2 _ _ hsv
      have hd2 := ex2 _ _ (ex _ _ hd)
      walk_at "go"
      refine iDGi hd2 hval ?_
      walk_at "go"
      refine lcF_z (bl a) (bl g.2) (fun t => V.int ((a t + wB x (G.map (·.1)) g.1 * g.2 t : B)).v) (by rw [bl_len, bl_len]) (by repeat constructor) har2 hsv2 (fun D t y1 y2 T H3 hD h1 h2 hacc e3 hT => ?_) (fun D H3 hD e3 hacc => ?_)
      · have ht : t < 32 := by
          have := (List.getElem?_eq_some_iff.mp h1).1
          rw [bl_len] at this
          exact this
        rw [bl_get _ ht] at h1 h2
        cases h1
        cases h2
        have hrow3 := e3 _ _ hrow2
        have nT : row ≠ T := ne_of_none hrow3 hT
        have nD : D ≠ T := ne_of_none hacc hT
        walk_at "go"
        refine iIxL ((upd_ne nT).trans hrow3) (rowV_at _ _) ?_
        walk_at "go"
        refine iLcF hD (by omega) (fun p o h => by rw [upd_ne (ne_of_none (e3 _ _ h) hT)]; exact e3 _ _ h) ((upd_ne nD).trans hacc) ?_
        rw [xor_B]
      · have D0 : H D = none := by cases q : H D with | none => rfl | some o => rw [ex2 _ _ (ex _ _ q)] at hD; cases hD
        rw [bl_len] at hacc
        walk_at "go"
        refine ⟨⟨D, _, _, _, rfl, D0, hacc, fun t => ?_⟩, fun p o h => e3 _ _ (ex2 _ _ (ex _ _ h)), e3 _ _ (ex2 _ _ hp')⟩
        rw [← sm t, drop_at hg]
        show _ = a t + (wB x (G.map (·.1)) g.1 * g.2 t + sumB _ (G.drop (n + 1)))
        rw [B.add_assoc]
    · obtain ⟨⟨r, a, u1, u2, rfl, hrn, har, sm⟩, ex, hp'⟩ := h
      have ln : (bsV (G.map (·.1))).length = G.length := by unfold bsV; rw [List.length_map, List.length_map]
      walk_at "go"
      refine q r H' hrn ex ?_
      rw [har]
      refine congrArg (fun l => some (HO.lst l)) (bl_congr fun t _ => ?_)
      have := sm t
      rw [ln, List.drop_length] at this
      exact (B.add_zero _).symm.trans this
theorem j_sector_at {x : B} {d : Addr} {kvs : List (Key × V)} {G : Gv} {H : Hp} {Q : VK} {E : XK} (h : H d = some (.dK kvs)) (hG : GvAt H kvs G) (nd : (G.map (·.1)).Nodup) (q : NewL H Q (bl (wordF G x))) : sp_sector_at [.int x.v, .ref d] H Q E := ⟨x, d, kvs, G, rfl, h, hG, nd, q⟩
/-! ### words -/
theorem sumG_pick {y : B} {t : Nat} {g : B × (Nat → B)} {G : Gv} (nd : (G.map (·.1)).Nodup) (hg : g ∈ G) : wordF G g.1 t = g.2 t := by
  have key : ∀ {M : Gv} {L : List B}, (M.map (·.1)).Nodup → (∀ b ∈ M, b.1 ∈ L) → g.1 ∈ L → (g ∈ M → sumB (fun h : B × (Nat → B) => wB g.1 L h.1 * h.2 t) M = g.2 t) ∧ (g.1 ∉ M.map (·.1) → sumB (fun h : B × (Nat → B) => wB g.1 L h.1 * h.2 t) M = b0) := by
    intro M L
    induction M with
    | nil => exact fun _ _ _ => ⟨fun h => absurd h (by simp), fun _ => rfl⟩
    | cons a M ih =>
      intro n1 hs hy
      have n2 := List.nodup_cons.mp (show (a.1 :: M.map (·.1)).Nodup from n1)
      obtain ⟨i1, i2⟩ := ih n2.2 (fun b hb => hs b (List.mem_cons_of_mem _ hb)) hy
      refine ⟨fun hm => ?_, fun hm => ?_⟩
      · show wB g.1 L a.1 * a.2 t + sumB _ M = g.2 t
        rcases List.mem_cons.mp hm with e | e
        · subst e
          rw [wB_self, B.one_mul, i2 n2.1, B.add_zero]
        · have ne : g.1 ≠ a.1 := fun q => n2.1 (q ▸ List.mem_map_of_mem e)
          rw [wB_other ne hy, B.zero_mul, B.zero_add, i1 e]
      · have hm' : ¬ g.1 = a.1 ∧ g.1 ∉ M.map (·.1) := by simpa using hm
        show wB g.1 L a.1 * a.2 t + sumB _ M = b0
        rw [wB_other hm'.1 hy, B.zero_mul, B.zero_add, i2 hm'.2]
  exact (key nd (fun b hb => List.mem_map_of_mem hb) (List.mem_map_of_mem hg)).1 hg
theorem sumG_map {t : Nat} {f : B → B} {x : B} (L : List B) : ∀ {G : Gv}, (∀ g ∈ G, g.2 t = f g.1) → sumB (fun g : B × (Nat → B) => wB x L g.1 * g.2 t) G = sumB (fun i => wB x L i * f i) (G.map (·.1))
  | [], _ => rfl
  | g :: G, h => by
    show wB x L g.1 * g.2 t + sumB _ G = wB x L g.1 * f g.1 + sumB _ (G.map (·.1))
    rw [h g (List.mem_cons_self ..), sumG_map L fun b hb => h b (List.mem_cons_of_mem _ hb)]
theorem wordF_pl {G : Gv} (nd : (G.map (·.1)).Nodup) (t : Nat) : Pl G.length (fun x => wordF G x t) := by
  refine sum_pl fun g hg => Pl.congr (fun x => B.mul_comm _ _) (Pl.smul (g.2 t) ?_)
  have := wB_pl nd (List.mem_map_of_mem (f := (·.1)) hg)
  rw [List.length_map] at this
  exact this
/-- other places of a word tell it, too -/
theorem wordF_other {G G' : Gv} (nd : (G.map (·.1)).Nodup) (nd' : (G'.map (·.1)).Nodup) (hl : G'.length = G.length) (h : ∀ g ∈ G', ∀ t, t < 32 → g.2 t = wordF G g.1 t) (x : B) {t : Nat} (ht : t < 32) : wordF G' x t = wordF G x t := by
  have e := sumG_map (x := x) (t := t) (f := fun y => wordF G y t) (G'.map (·.1)) (G := G') fun g hg => h g hg t ht
  show sumB (fun g : B × (Nat → B) => wB x (G'.map (·.1)) g.1 * g.2 t) G' = _
  rw [e]
  refine interp nd' ?_ x
  rw [List.length_map, hl]
  exact wordF_pl nd t
def WordR (G : Gv) (i : Nat) (acc : List V) (H : Hp) : Prop := acc.length = i ∧ ∀ t v, acc[t]? = some v → SecAt H v (wordF G (pl t))
theorem WordR.mono {G : Gv} (i : Nat) (acc : List V) (H H' : Hp) (e : Ex H H') (h : WordR G i acc H) : WordR G i acc H' := ⟨h.1, fun t v q => (h.2 t v q).ex e⟩
theorem WordR.snoc {G : Gv} {i : Nat} {acc : List V} {H : Hp} {v : V} (h : WordR G i acc H) (q : SecAt H v (wordF G (pl i))) : WordR G (i + 1) (acc ++ [v]) H := by
  refine ⟨by rw [List.length_append, h.1]; rfl, fun t u e => ?_⟩
  rcases Nat.lt_or_ge t acc.length with l | l
  · rw [List.getElem?_append_left l] at e
    exact h.2 t u e
  · rw [List.getElem?_append_right l] at e
    have ht : t - acc.length = 0 := by
      have := (List.getElem?_eq_some_iff.mp e).1
      simp at this
      omega
    rw [ht] at e
    have e1 : v = u := by simpa using e
    have e2 : t = i := by have := h.1; omega
    rw [← e1, e2]
    exact q
/-- a new word of n sectors -/
def NewW (H : Hp) (Q : VK) (G : Gv) (n : Nat) : Prop := ∀ p H' acc, H p = none → Ex H H' → H' p = some (.lst acc) → WordR G n acc H' → Q (.ref p) H'
def sp_word_through : Sp := fun vs H Q _ => ∃ (d : Addr) (kvs : List (Key × V)) (G : Gv) (n : Nat), vs = [.ref d, .int n] ∧ H d = some (.dK kvs) ∧ GvAt H kvs G ∧ (G.map (·.1)).Nodup ∧ n ≤ 100 ∧ NewW H Q G n
theorem ok_word_through (M : Mg mg) {f : Addr} {fd : FuncData} (F : Fun K "word_through" "word_through" s_word_through f fd) (c_sector_at : Cal P w K mg base 5 "sector_at" ["x", "given"] sp_sector_at) : FnOk P w K mg base CX0 6 f fd ["given", "n"] sp_word_through := by
  refine F.ok sc_word_through (fun vs H Q E h => ?_) (fun cdv A outer s H vs Q E hr h => ?_)
  · obtain ⟨d, kvs, G, n, rfl, _⟩ := h; rfl
  · obtain ⟨d, kvs, G, n, rfl, hd, hG, nd, hn, q⟩ := h
    refine ⟨_, (pss_one (ps_ret (pe_lc (own := [("x", 2)]) (g := (gName 2)) (tt := tYes) (by rfl) sc_word_through.nd (pi_range1 (by rfl) M.n_range (pa_cons (pv 1) pa_nil)) (blkOk_by (own := [("x", 2)]) (N := ["given", "n", "x"]) (sc := defScope s_word_through) (by decide +kernel)) (fun _ _ _ _ _ => (pg_name (i := 2) sc_word_through.nd rfl (Or.inl rfl))) (fun _ _ _ _ _ => pts_nil) (fun _ _ _ _ _ => (pe_ifExp (pt_cmp (pc_din (hu_of hr) (pv 2) (pv 0))) (pe_callTy list_l (by rfl) M.n_list (by decide +kernel) (pa_cons (pe_dget (hu_of hr) (pv 0) (pv 2) (fun _ _ => rfl)) pa_nil)) (pe_cal c_sector_at (hr.mono (by omega)) (by rfl) (pa_cons (pv 2) (pa_cons (pv 0) pa_nil)))))))), ?_⟩
    refine iBody (by repeat constructor) ?_
    walk_at "go"
    refine lcR_r0 (WordR G) (by repeat constructor) WordR.mono ⟨rfl, fun t v e => by simp at e⟩ (fun D i acc H2 hD hi hacc hl e1 r => ?_) (fun D acc H2 hD e1 hacc r => ?_)
    · rw [Int.toNat_natCast] at hi
      have hd2 := e1 _ _ hd
      have hi2 : (pl i).v = i := pl_v (by omega)
      walk_at "go"
      have hin : (valV kvs (.inl (i : Int) : Key)).isSome = true ∨ (valV kvs (.inl (i : Int) : Key)).isSome = false := by cases (valV kvs (.inl (i : Int) : Key)).isSome <;> simp
      by_cases hk : pl i ∈ G.map (·.1)
      · obtain ⟨g, hg, hgi⟩ := List.mem_map.mp hk
        obtain ⟨m, hm⟩ := List.getElem?_of_mem hg
        obtain ⟨v, hv, sv, rfl, hsv⟩ := hG.val nd hm
        have gv : ((g.1.v : Nat) : Int) = (i : Int) := by rw [hgi, hi2]
        rw [gv] at hv
        rw [hv]
        walk_at "go"
        refine iDGi hd2 hv ?_
        walk_at "go"
        refine iListL (e1 _ _ hsv) fun l hl2 => ?_
        have nD : D ≠ l := ne_of_none hacc hl2
        refine iLcR hD (by omega) hl (ex_upd (by cases z : H l with | none => rfl | some o => rw [e1 _ _ z] at hl2; cases hl2) e1) ((upd_ne nD).trans hacc) ?_
        refine (WordR.mono _ _ _ _ (mk_mono (Ex.new (o := .lst (bl g.2)) hl2)) r).snoc ⟨l, rfl, ?_⟩
        rw [mk_at nD.symm, upd_same, ← hgi]
        exact congrArg (fun l => some (HO.lst l)) (bl_congr fun t _ => (sumG_pick (y := g.1) nd hg).symm)
      · have hv := hG.none hk
        rw [hi2] at hv
        rw [hv]
        walk_at "go"
        have e3 : (i : Int) = ((pl i).v : Nat) := by rw [hi2]
        rw [e3]
        refine j_sector_at hd2 (hG.ex e1) nd fun p H3 hp e2 h3 => ?_
        have nD : p ≠ D := (ne_of_none hacc hp).symm
        refine iLcR hD (by omega) hl (fun a o h => e2 _ _ (e1 _ _ h)) (e2 _ _ hacc) ?_
        exact (WordR.mono _ _ _ _ (mk_mono e2) r).snoc ⟨p, rfl, (mk_at nD).trans h3⟩
    · rw [Int.toNat_natCast] at r
      exact q D H2 acc hD e1 hacc r
theorem j_word_through {d : Addr} {kvs : List (Key × V)} {G : Gv} {n : Nat} {H : Hp} {Q : VK} {E : XK} (h : H d = some (.dK kvs)) (hG : GvAt H kvs G) (nd : (G.map (·.1)).Nodup) (hn : n ≤ 100) (q : NewW H Q G n) : sp_word_through [.ref d, .int n] H Q E := ⟨d, kvs, G, n, rfl, h, hG, nd, hn, q⟩
/-- the first k places -/
def gv0 (k : Nat) (S : Nat → Nat → B) : Gv := (List.range k).map fun j => (pl j, S j)
theorem gv0_keys {k : Nat} {S : Nat → Nat → B} : (gv0 k S).map (·.1) = (List.range k).map pl := by unfold gv0; rw [List.map_map]; rfl
theorem gv0_nd {k : Nat} {S : Nat → Nat → B} (h : k ≤ 100) : ((gv0 k S).map (·.1)).Nodup := by
  rw [gv0_keys]
  refine List.pairwise_map.mpr (List.Pairwise.imp_of_mem (fun {a b} ha hb ne e => ?_) List.nodup_range)
  have ha := List.mem_range.mp ha
  have hb := List.mem_range.mp hb
  exact ne (pl_inj (by omega) (by omega) e)
def SecsAt (H : Hp) (vs : List V) (S : Nat → Nat → B) : Prop := ∀ t v, vs[t]? = some v → SecAt H v (S t)
theorem SecsAt.ex {H H' : Hp} {vs : List V} {S : Nat → Nat → B} (e : Ex H H') (h : SecsAt H vs S) : SecsAt H' vs S := fun t v q => (h t v q).ex e
theorem enum_gv {H : Hp} : ∀ {vs : List V} {S : Nat → Nat → B} (n : Nat), n + vs.length ≤ 256 → (∀ t v, vs[t]? = some v → SecAt H v (S (n + t))) → GvAt H (enumFrom n vs) ((List.range vs.length).map fun j => (pl (n + j), S (n + j)))
  | [], _, _, _, _ => .nil
  | x :: vs, S, n, hn, h => by
    rw [List.length_cons, List.range_succ_eq_map, List.map_cons, List.map_map]
    have hn' : n + (vs.length + 1) ≤ 256 := hn
    refine .cons ⟨?_, h 0 x rfl⟩ ?_
    · show (Sum.inl (n : Int) : Key) = .inl ((pl (n + 0)).v : Nat)
      rw [pl_v (by omega)]; rfl
    · have ih := enum_gv (S := S) (n + 1) (by omega) (vs := vs) (fun t v e => by
        have := h (t + 1) v (by simpa using e)
        rw [show n + 1 + t = n + (t + 1) by omega]
        exact this)
      have e : ((fun j => (pl (n + j), S (n + j))) ∘ Nat.succ) = fun j => (pl (n + 1 + j), S (n + 1 + j)) := by
        funext j
        show (pl (n + (j + 1)), S (n + (j + 1))) = _
        rw [show n + (j + 1) = n + 1 + j by omega]
      rw [e]
      exact ih
theorem valV_enum {m : Int} : ∀ (vs : List V) (n : Nat), m < n → valV (enumFrom n vs) (.inl m : Key) = none
  | [], _, _ => rfl
  | x :: vs, n, h => by
    show valV ((.inl (n : Int), x) :: enumFrom (n + 1) vs) _ = _
    rw [valV_neg, valV_enum vs (n + 1) (by omega)]
    intro e
    have := Sum.inl.inj e
    omega
theorem merge_enum : ∀ (vs : List V) (n : Nat) (acc : List (Key × V)), (∀ m : Nat, n ≤ m → valV acc (.inl (m : Int) : Key) = none) → mergeK acc (enumFrom n vs) = acc ++ enumFrom n vs
  | [], _, acc, _ => by show acc = acc ++ []; simp
  | x :: vs, n, acc, h => by
    show mergeK (putK acc (.inl (n : Int)) x) (enumFrom (n + 1) vs) = acc ++ ((.inl (n : Int), x) :: enumFrom (n + 1) vs)
    rw [putK_new x (h n (Nat.le_refl _)), merge_enum vs (n + 1)]
    · simp
    · intro m hm
      rw [valV_snoc _ _ _ acc (h n (Nat.le_refl _)), if_neg, h m (by omega)]
      intro e
      have := Sum.inl.inj e
      omega
def sp_make_word : Sp := fun vs H Q _ => ∃ (p : Addr) (us : List V) (S : Nat → Nat → B) (n : Nat), vs = [.ref p, .int n] ∧ H p = some (.lst us) ∧ SecsAt H us S ∧ us.length ≤ 100 ∧ n ≤ 100 ∧ NewW H Q (gv0 us.length S) n
theorem ok_make_word (M : Mg mg) {f : Addr} {fd : FuncData} (F : Fun K "make_word" "make_word" s_make_word f fd) (c_word_through : Cal P w K mg base 6 "word_through" ["given", "n"] sp_word_through) : FnOk P w K mg base CX0 7 f fd ["parts", "n"] sp_make_word := by
  refine F.ok sc_make_word (fun vs H Q E h => ?_) (fun cdv A outer s H vs Q E hr h => ?_)
  · obtain ⟨p, us, S, n, rfl, _⟩ := h; rfl
  · obtain ⟨p, us, S, n, rfl, hp, hS, hk, hn, q⟩ := h
    refine ⟨_, (pss_one (ps_ret (pe_cal c_word_through (hr.mono (by omega)) (by rfl) (pa_cons (pe_dictEnum rfl (by rfl) M.n_dict (by rfl) M.n_enumerate (pa_cons (pv 0) pa_nil)) (pa_cons (pv 1) pa_nil))))), ?_⟩
    refine iBody (by repeat constructor) ?_
    walk_at "go"
    refine iDE hp fun d hd => ?_
    walk_at "go"
    have e1 : Ex H (upd H d (.dK (mergeK [] (enumFrom 0 us)))) := ex_upd hd (Ex.rfl' _)
    have hm : mergeK [] (enumFrom 0 us) = enumFrom 0 us := merge_enum us 0 [] fun _ _ => rfl
    have hG : GvAt H (enumFrom 0 us) (gv0 us.length S) := by
      have := enum_gv (H := H) (vs := us) (S := S) 0 (by omega) (fun t v e => by rw [Nat.zero_add]; exact hS t v e)
      simp only [Nat.zero_add] at this
      exact this
    rw [hm] at e1 ⊢
    refine j_word_through upd_same (hG.ex e1) (gv0_nd hk) hn fun p' H' acc h1 h2 h3 h4 => ?_
    walk_at "go"
    exact q p' H' acc (by cases z : H p' with | none => rfl | some o => rw [e1 _ _ z] at h1; cases h1) (fun a o h => h2 _ _ (e1 _ _ h)) h3 h4
/-! ### drawing: sizes, sectors -/
theorem exb_mk {a : Addr} {H H' : Hp} (e : ExB a H H') : Ex (mk a H) (mk a H') := fun p o h => by
  by_cases q : p = a
  · unfold mk at h; rw [if_pos q] at h; cases h
  · rw [mk_at q] at h ⊢; exact e p o q h
theorem DrawAt.ex {H H' : Hp} {a l : Addr} (e : Ex H H') (D : DrawAt H a l) : DrawAt H' a l := by
  obtain ⟨ns, i, r, q, ha, hl, k⟩ := D
  exact ⟨ns, i, r, q, e _ _ ha, e _ _ hl, k⟩
theorem exb_fr {a : Addr} {H H' : Hp} (f : ∀ p, p ≠ a → H' p = H p) : ExB a H H' := fun p o n h => by rw [f p n]; exact h
theorem ExB.upd {a p : Addr} {H H' : Hp} {o : HO} (e : ExB a H H') (h : H p = none) : ExB a H (L2.upd H' p o) := fun q u n hq => by
  rw [upd_ne (ne_of_none hq h)]
  exact e q u n hq
theorem ExB.none {a p : Addr} {H H' : Hp} (e : ExB a H H') (n : p ≠ a) (h : H' p = none) : H p = none := by
  cases z : H p with
  | none => rfl
  | some o => rw [e p o n z] at h; cases h
theorem app2 {α : Type} {a b c d : List α} (h : a = b) (k : c = d) : a ++ c = b ++ d := by rw [h, k]
def sp__law_sector : Sp := fun vs H Q _ => ∃ (a l : Addr), vs = [.ref a] ∧ DrawAt H a l ∧ ∀ p H' f, H p = none → ExB a H H' → DrawAt H' a l → H' p = some (.lst (bl f)) → Q (.ref p) H'
theorem ok__law_sector (M : Mg mg) {f : Addr} {fd : FuncData} (F : Fun K "_law_sector" "_law_sector" s__law_sector f fd) (c__law_next : Cal P w K mg base 1 "_law_next" ["state", "limit"] sp__law_next) : FnOk P w K mg base CX0 2 f fd ["state"] sp__law_sector := by
  refine F.ok sc__law_sector (fun vs H Q E h => ?_) (fun cdv A outer s H vs Q E hr h => ?_)
  · obtain ⟨a, l, rfl, _⟩ := h; rfl
  · obtain ⟨a, l, rfl, D0, q⟩ := h
    refine ⟨_, (pss_cons (ps_set (i := 1) sc__law_sector.nd rfl (Or.inr rfl) (pe_cal c__law_next (hr.mono (by omega)) (by rfl) (pa_cons (pv 0) (pa_cons pe_int pa_nil)))) (pss_cons (ps_set (i := 2) sc__law_sector.nd rfl (Or.inr rfl) (pe_cal c__law_next (hr.mono (by omega)) (by rfl) (pa_cons (pv 0) (pa_cons pe_int pa_nil)))) (pss_one (ps_ret (pe_lc (own := [("k", 3)]) (g := (gName 3)) (tt := tYes) (by rfl) sc__law_sector.nd (pi_range1 (by rfl) M.n_range (pa_cons pe_int pa_nil)) (blkOk_by (own := [("k", 3)]) (N := ["state", "start", "step", "k"]) (sc := defScope s__law_sector) (by decide +kernel)) (fun _ _ _ _ _ => (pg_name (i := 3) sc__law_sector.nd rfl (Or.inl rfl))) (fun _ _ _ _ _ => pts_nil) (fun _ _ _ _ _ => (pe_op op_mod (pe_op op_add (pe_op op_add (pv 1) (pe_op op_mul (pv 2) (pv 3))) (pe_ix ix_l (pe_lst (pa_cons pe_int (pa_cons (pe_op op_mul (pe_op op_mul (pv 3) (pv 3)) pe_int) pa_nil))) (pe_op op_fdiv (pe_cal c__law_next (hr.mono (by omega)) (by rfl) (pa_cons (pv 0) (pa_cons pe_int pa_nil))) pe_int) (fun _ _ => rfl))) pe_int))))))), ?_⟩
    refine iBody (by repeat constructor) ?_
    walk_at "go"
    refine j_next D0 (by decide) (by decide) fun start H1 s0 s1 D1 f1 => ?_
    walk_at "go"
    refine j_next D1 (by decide) (by decide) fun step H2 t0 t1 D2 f2 => ?_
    have x2 : ExB a H H2 := (exb_fr f1).trans (exb_fr f2)
    walk_at "go"
    refine lc_r0 (by repeat constructor) (fun D i acc H' => DrawAt H' a l ∧ ExB a H H' ∧ D ≠ a ∧ D ≠ l ∧ H D = none ∧ ∃ f : Nat → B, acc = (List.range i).map fun t => V.int (f t).v) (fun D hD => ?_) (fun D i acc H3 hD hi hacc hl hp => ?_) (fun D acc H3 hD hacc hl hp => ?_)
    · have fr := D2.fresh hD
      have h0 := x2.none fr.1 hD
      exact ⟨D2.new hD, x2.upd h0, fr.1, fr.2, h0, fun _ => b0, rfl⟩
    · obtain ⟨D3, x3, n1, n2, h0, f, rfl⟩ := hp
      have hi : i < 32 := hi
      walk_at "go"
      refine iNewL (by simp) fun z hz => ?_
      have D4 := D3.new (o := .lst [.int 0, .int ((i : Int) * i * 7)]) hz
      have zf := D3.fresh hz
      have nz : D ≠ z := ne_of_none hacc hz
      walk_at "go"
      refine j_next D4 (by decide) (by decide) fun v H5 v0 v1 D5 f5 => ?_
      have hz5 : H5 z = some (.lst [.int 0, .int ((i : Int) * i * 7)]) := (f5 z zf.1).trans upd_same
      have hacc5 : H5 D = some (.lst ((List.range i).map fun t => V.int (f t).v)) := (f5 D n1).trans ((upd_ne nz).trans hacc)
      walk_at "go"
      obtain ⟨y, hy⟩ : ∃ y : Int, atI [V.int 0, .int ((i : Int) * i * 7)] (v / 3) = some (.int y) := by
        have : v / 3 = 0 ∨ v / 3 = 1 := by omega
        rcases this with e | e <;> rw [e]
        · exact ⟨0, rfl⟩
        · exact ⟨_, rfl⟩
      refine iIxL hz5 hy ?_
      walk_at "go"
      have hm0 := Int.emod_nonneg (start + step * (i : Int) + y) (show (256 : Int) ≠ 0 by decide)
      have hm1 := Int.emod_lt_of_pos (start + step * (i : Int) + y) (show (0 : Int) < 256 by decide)
      generalize (start + step * (i : Int) + y) % 256 = m at hm0 hm1 ⊢
      have z0 : H z = none := x3.none zf.1 hz
      refine iLcE hacc5 hl (by omega) ⟨D5.upd n1 n2, ?_, n1, n2, h0, fun t => if t = i then pl m.toNat else f t, ?_⟩
      · exact ((x3.upd z0).trans (exb_fr f5)).upd h0
      · rw [List.range_succ, List.map_append]
        refine app2 (List.map_congr_left fun t ht => ?_) ?_
        · have := List.mem_range.mp ht
          show _ = V.int (if t = i then pl m.toNat else f t).v
          rw [if_neg (by omega)]
        · show [V.int m] = [V.int (if i = i then pl m.toNat else f i).v]
          rw [if_pos rfl, pl_v (by omega), show ((m.toNat : Nat) : Int) = m by omega]
    · obtain ⟨D3, x3, n1, n2, h0, f, rfl⟩ := hp
      exact q D H3 f h0 x3 D3 hacc
theorem j_lsector {a l : Addr} {H : Hp} {Q : VK} {E : XK} (D : DrawAt H a l) (q : ∀ p H' f, H p = none → ExB a H H' → DrawAt H' a l → H' p = some (.lst (bl f)) → Q (.ref p) H') : sp__law_sector [.ref a] H Q E := ⟨a, l, rfl, D, q⟩
def sp__law_sizes : Sp := fun vs H Q _ => ∃ (a l : Addr), vs = [.ref a] ∧ DrawAt H a l ∧ ∀ p H' (n k s : Nat), H p = none → ExB a H H' → DrawAt H' a l → 4 ≤ n → n ≤ 8 → 1 ≤ k → 1 ≤ s → k + s ≤ n → H' p = some (.tup [.int n, .int k, .int s]) → Q (.ref p) H'
theorem ok__law_sizes (M : Mg mg) {f : Addr} {fd : FuncData} (F : Fun K "_law_sizes" "_law_sizes" s__law_sizes f fd) (c__law_next : Cal P w K mg base 1 "_law_next" ["state", "limit"] sp__law_next) : FnOk P w K mg base CX0 2 f fd ["state"] sp__law_sizes := by
  refine F.ok sc__law_sizes (fun vs H Q E h => ?_) (fun cdv A outer s H vs Q E hr h => ?_)
  · obtain ⟨a, l, rfl, _⟩ := h; rfl
  · obtain ⟨a, l, rfl, D0, q⟩ := h
    refine ⟨_, (pss_cons (ps_set (i := 1) sc__law_sizes.nd rfl (Or.inl rfl) (pe_op op_add pe_int (pe_cal c__law_next (hr.mono (by omega)) (by rfl) (pa_cons (pv 0) (pa_cons pe_int pa_nil))))) (pss_cons (ps_set (i := 2) sc__law_sizes.nd rfl (Or.inl rfl) (pe_op op_add pe_int (pe_cal c__law_next (hr.mono (by omega)) (by rfl) (pa_cons (pv 0) (pa_cons (pe_op op_sub (pv 1) pe_int) pa_nil))))) (pss_one (ps_ret (pe_tup (pa_cons (pv 1) (pa_cons (pv 2) (pa_cons (pe_op op_add pe_int (pe_cal c__law_next (hr.mono (by omega)) (by rfl) (pa_cons (pv 0) (pa_cons (pe_op op_sub (pv 1) (pv 2)) pa_nil)))) pa_nil)))))))), ?_⟩
    refine iBody (by repeat constructor) ?_
    walk_at "go"
    refine j_next D0 (by decide) (by decide) fun n H1 s0 s1 D1 f1 => ?_
    walk_at "go"
    refine j_next D1 (by omega) (by omega) fun k H2 k0 k1 D2 f2 => ?_
    walk_at "go"
    refine j_next D2 (by omega) (by omega) fun s H3 u0 u1 D3 f3 => ?_
    walk_at "go"
    refine iNewT (by simp) fun p hp => ?_
    have x3 : ExB a H H3 := ((exb_fr f1).trans (exb_fr f2)).trans (exb_fr f3)
    have fr := D3.fresh hp
    have h0 := x3.none fr.1 hp
    have := q p (upd H3 p (.tup [.int (4 + n), .int (1 + k), .int (1 + s)])) (4 + n).toNat (1 + k).toNat (1 + s).toNat h0 (x3.upd h0) (D3.new hp) (by omega) (by omega) (by omega) (by omega) (by omega) (by
      rw [upd_same, show (((4 + n).toNat : Nat) : Int) = 4 + n by omega, show (((1 + k).toNat : Nat) : Int) = 1 + k by omega, show (((1 + s).toNat : Nat) : Int) = 1 + s by omega])
    exact this
theorem j_lsizes {a l : Addr} {H : Hp} {Q : VK} {E : XK} (D : DrawAt H a l) (q : ∀ p H' (n k s : Nat), H p = none → ExB a H H' → DrawAt H' a l → 4 ≤ n → n ≤ 8 → 1 ≤ k → 1 ≤ s → k + s ≤ n → H' p = some (.tup [.int n, .int k, .int s]) → Q (.ref p) H') : sp__law_sizes [.ref a] H Q E := ⟨a, l, rfl, D, q⟩
/-! ### the law's own inverse, weight, sector, word -/
theorem j_timesB {x y : B} {H : Hp} {Q : VK} {E : XK} (q : Q (.int (x * y).v) H) : sp__law_times [.int x.v, .int y.v] H Q E := ⟨x.v, y.v, rfl, x.h, q⟩
theorem j_times {a b : Nat} {H : Hp} {Q : VK} {E : XK} (ha : a < 256) (q : Q (.int (gm a b : Nat)) H) : sp__law_times [.int a, .int b] H Q E := ⟨a, b, rfl, ha, q⟩
def hits (a : B) (n : Nat) : List Nat := (List.range n).filter fun b => decide (gm a.v b = 1)
theorem hits_0 {a : B} (h : a ≠ b0) : (hits a 256)[0]? = some a.inv.v := by
  have m : a.inv.v ∈ hits a 256 := List.mem_filter.mpr ⟨List.mem_range.mpr a.inv.h, decide_eq_true (congrArg B.v (B.mul_inv h))⟩
  cases e : hits a 256 with
  | nil => rw [e] at m; cases m
  | cons b L =>
    have hb : b ∈ hits a 256 := by rw [e]; exact List.mem_cons_self ..
    obtain ⟨h1, h2⟩ := List.mem_filter.mp hb
    have hb2 := List.mem_range.mp h1
    have h3 : a * ⟨b, hb2⟩ = b1 := B.ext' (of_decide_eq_true h2)
    have h4 := congrArg B.v (B.mul_eq_one h3)
    show some b = some a.inv.v
    rw [← h4]
def sp__law_inverse : Sp := fun vs H Q _ => ∃ a : B, vs = [.int a.v] ∧ a ≠ b0 ∧ ∀ H', Ex H H' → Q (.int a.inv.v) H'
theorem ok__law_inverse (M : Mg mg) {f : Addr} {fd : FuncData} (F : Fun K "_law_inverse" "_law_inverse" s__law_inverse f fd) (c__law_times : Cal P w K mg base 1 "_law_times" ["a", "b"] sp__law_times) : FnOk P w K mg base CX0 2 f fd ["a"] sp__law_inverse := by
  refine F.ok sc__law_inverse (fun vs H Q E h => ?_) (fun cdv A outer s H vs Q E hr h => ?_)
  · obtain ⟨a, rfl, _⟩ := h; rfl
  · obtain ⟨a, rfl, ha, q⟩ := h
    refine ⟨_, (pss_one (ps_ret (pe_ix ix_l (pe_lc (own := [("b", 1)]) (g := (gName 1)) (tt := _) (by rfl) sc__law_inverse.nd (pi_range1 (by rfl) M.n_range (pa_cons pe_int pa_nil)) (blkOk_by (own := [("b", 1)]) (N := ["a", "b"]) (sc := defScope s__law_inverse) (by decide +kernel)) (fun _ _ _ _ _ => (pg_name (i := 1) sc__law_inverse.nd rfl (Or.inl rfl))) (fun _ _ _ _ _ => (pts_one (pt_cmpR op_eq (pe_cal c__law_times (hr.mono (by omega)) (by rfl) (pa_cons (pv 0) (pa_cons (pv 1) pa_nil))) pe_int (nomark _)))) (fun _ _ _ _ _ => (pv 1))) pe_int (fun _ _ => rfl)))), ?_⟩
    refine iBody (by repeat constructor) ?_
    walk_at "go"
    refine lc_r0 (by repeat constructor) (fun D i acc H' => Ex H H' ∧ acc = (hits a i).map fun b : Nat => V.int b) (fun D hD => ⟨ex_upd hD (Ex.rfl' _), rfl⟩) (fun D i acc H2 hD hi hacc hl hp => ?_) (fun D acc H2 hD hacc hl hp => ?_)
    · obtain ⟨e1, rfl⟩ := hp
      have hs : hits a (i + 1) = hits a i ++ (if gm a.v i = 1 then [i] else []) := by
        unfold hits
        rw [List.range_succ, List.filter_append, List.filter_cons, List.filter_nil]
        by_cases h : gm a.v i = 1
        · rw [if_pos (decide_eq_true h), if_pos h]
        · rw [if_neg (by simpa using h), if_neg h]
      walk_at "go"
      refine j_times a.h ?_
      walk_at "go"
      refine ifD (fun h => ?_) (fun h => ?_)
      · have h' : gm a.v i = 1 := by omega
        walk_at "go"
        refine iLcE hacc hl (by omega) ⟨ex_upd hD e1, ?_⟩
        rw [hs, if_pos h', List.map_append]; rfl
      · have h' : ¬ gm a.v i = 1 := by omega
        refine iLcN hacc hl ⟨e1, ?_⟩
        rw [hs, if_neg h', List.append_nil]
    · obtain ⟨e1, rfl⟩ := hp
      walk_at "go"
      refine iIxL hacc (v := .int a.inv.v) ?_ ?_
      · rw [atI_0, List.getElem?_map]
        show ((hits a 256)[0]?).map _ = _
        rw [hits_0 ha]; rfl
      exact q H2 e1
theorem j_linverse {x : B} {H : Hp} {Q : VK} {E : XK} (h : x ≠ b0) (q : ∀ H', Ex H H' → Q (.int x.inv.v) H') : sp__law_inverse [.int x.v] H Q E := ⟨x, rfl, h, q⟩
def sp__law_weight : Sp := fun vs H Q _ => ∃ (x i : B) (p : Addr) (L : List B), vs = [.int x.v, .ref p, .int i.v] ∧ H p = some (.lst (bsV L)) ∧ ∀ H', Ex H H' → Q (.int (wB x L i).v) H'
theorem ok__law_weight (M : Mg mg) {f : Addr} {fd : FuncData} (F : Fun K "_law_weight" "_law_weight" s__law_weight f fd) (c__law_times : Cal P w K mg base 1 "_law_times" ["a", "b"] sp__law_times) (c__law_inverse : Cal P w K mg base 2 "_law_inverse" ["a"] sp__law_inverse) : FnOk P w K mg base CX0 3 f fd ["x", "places", "i"] sp__law_weight := by
  refine F.ok sc__law_weight (fun vs H Q E h => ?_) (fun cdv A outer s H vs Q E hr h => ?_)
  · obtain ⟨x, i, p, L, rfl, _⟩ := h; rfl
  · obtain ⟨x, i, p, L, rfl, hp, q⟩ := h
    refine ⟨_, (pss_cons (ps_set (i := 3) sc__law_weight.nd rfl (Or.inl rfl) pe_int) (pss_cons (ps_set (i := 4) sc__law_weight.nd rfl (Or.inl rfl) pe_int) (pss_cons (ps_for PassesOwn.never rfl (pi_l (pv 1)) (pg_name (i := 5) sc__law_weight.nd rfl (Or.inl rfl)) (pss_one (ps_if (pt_cmpR op_ne (pv 5) (pv 2) (nomark _)) (pss_cons (ps_set (i := 3) sc__law_weight.nd rfl (Or.inl rfl) (pe_cal c__law_times (hr.mono (by omega)) (by rfl) (pa_cons (pv 3) (pa_cons (pe_op op_xor (pv 0) (pv 5)) pa_nil)))) (pss_one (ps_set (i := 4) sc__law_weight.nd rfl (Or.inl rfl) (pe_cal c__law_times (hr.mono (by omega)) (by rfl) (pa_cons (pv 4) (pa_cons (pe_op op_xor (pv 2) (pv 5)) pa_nil)))))) pss_nil))) (pss_one (ps_ret (pe_cal c__law_times (hr.mono (by omega)) (by rfl) (pa_cons (pv 3) (pa_cons (pe_cal c__law_inverse (hr.mono (by omega)) (by rfl) (pa_cons (pv 4) pa_nil)) pa_nil)))))))), ?_⟩
    refine iBody (by repeat constructor) ?_
    walk_at "go"
    refine forJ_list (bsV L) (fun n σ' H' => (∃ (a c : B) (u : Option V), σ' = [some (.int x.v), some (.ref p), some (.int i.v), some (.int a.v), some (.int c.v), u] ∧ above x i (L.drop n) a = above x i L b1 ∧ above i i (L.drop n) c = above i i L b1) ∧ H' = H) ⟨⟨b1, b1, none, rfl, rfl, rfl⟩, rfl⟩ (fun n σ' H' _ h => h.2 ▸ hp) (fun n v σ' H' hv h => ?_) (fun σ' H' h => ?_)
    · obtain ⟨⟨a, c, u, rfl, e1, e2⟩, rfl⟩ := h
      obtain ⟨j, hj, rfl⟩ := bsV_get hv
      rw [drop_at hj] at e1 e2
      walk_at "go"
      refine ifND (fun h => ?_) (fun h => ?_)
      · have hji : j ≠ i := fun e => h (by rw [e])
        walk_at "go"
        rw [xor_B]
        refine j_timesB ?_
        walk_at "go"
        rw [xor_B]
        refine j_timesB ?_
        walk_at "go"
        refine ⟨⟨_, _, _, rfl, ?_, ?_⟩, rfl⟩
        · rw [← e1]; show _ = above x i (L.drop (n + 1)) (if j ≠ i then a * (x + j) else a); rw [if_pos hji]
        · rw [← e2]; show _ = above i i (L.drop (n + 1)) (if j ≠ i then c * (i + j) else c); rw [if_pos hji]
      · have hji : j = i := B.ext' (by omega)
        walk_at "go"
        refine ⟨⟨_, _, _, rfl, ?_, ?_⟩, rfl⟩
        · rw [← e1]; show _ = above x i (L.drop (n + 1)) (if j ≠ i then a * (x + j) else a); rw [if_neg (by simpa using hji)]
        · rw [← e2]; show _ = above i i (L.drop (n + 1)) (if j ≠ i then c * (i + j) else c); rw [if_neg (by simpa using hji)]
    · obtain ⟨⟨a, c, u, rfl, e1, e2⟩, rfl⟩ := h
      have ln : (bsV L).length = L.length := List.length_map ..
      rw [ln, List.drop_length] at e1 e2
      have e1 : a = above x i L b1 := e1
      have e2 : c = above i i L b1 := e2
      have c0 : c ≠ b0 := by rw [e2]; exact above_ne L _ B.one_ne
      walk_at "go"
      refine j_linverse c0 fun H2 ex => ?_
      walk_at "go"
      refine j_timesB ?_
      rw [e1, e2]
      exact q H2 ex
theorem j_lweight {x i : B} {p : Addr} {L : List B} {H : Hp} {Q : VK} {E : XK} (h : H p = some (.lst (bsV L))) (q : ∀ H', Ex H H' → Q (.int (wB x L i).v) H') : sp__law_weight [.int x.v, .ref p, .int i.v] H Q E := ⟨x, i, p, L, rfl, h, q⟩
theorem sorted_same {L : List B} {ns : List Int} (h1 : ns.Perm (L.map fun b => (b.v : Int))) (h2 : ns.Pairwise (· ≤ ·)) (h3 : (L.map fun b => (b.v : Int)).Pairwise (· ≤ ·)) : ns.map V.int = bsV L := by
  have e := List.Perm.eq_of_pairwise (le := fun a b : Int => decide (a ≤ b)) (l₁ := ns) (l₂ := L.map fun b => (b.v : Int)) (fun a b _ _ x y => by have x := of_decide_eq_true x; have y := of_decide_eq_true y; omega) (h2.imp fun h => decide_eq_true h) (h3.imp fun h => decide_eq_true h) h1
  rw [e]
  unfold bsV
  rw [List.map_map]
  rfl
def sp__law_sector_at : Sp := fun vs H Q _ => ∃ (x : B) (d : Addr) (kvs : List (Key × V)) (G : Gv), vs = [.int x.v, .ref d] ∧ H d = some (.dK kvs) ∧ GvAt H kvs G ∧ (G.map (·.1)).Nodup ∧ ((G.map (·.1)).map fun b => (b.v : Int)).Pairwise (· ≤ ·) ∧ G.length ≤ 60 ∧ NewL H Q (bl (wordF G x))
theorem ok__law_sector_at (M : Mg mg) {f : Addr} {fd : FuncData} (F : Fun K "_law_sector_at" "_law_sector_at" s__law_sector_at f fd) (c__law_times : Cal P w K mg base 1 "_law_times" ["a", "b"] sp__law_times) (c__law_weight : Cal P w K mg base 3 "_law_weight" ["x", "places", "i"] sp__law_weight) : FnOk P w K mg base CX0 4 f fd ["x", "given"] sp__law_sector_at := by
  refine F.ok sc__law_sector_at (fun vs H Q E h => ?_) (fun cdv A outer s H vs Q E hr h => ?_)
  · obtain ⟨x, d, kvs, G, rfl, _⟩ := h; rfl
  · obtain ⟨x, d, kvs, G, rfl, hd, hG, nd, srt, hl, q⟩ := h
    refine ⟨_, (pss_cons (ps_set (i := 2) sc__law_sector_at.nd rfl (Or.inl rfl) (pe_op op_rep (pe_lst (pa_cons pe_int pa_nil)) pe_int)) (pss_cons (ps_set (i := 3) sc__law_sector_at.nd rfl (Or.inl rfl) (pe_callB cr_sorted (by rfl) M.n_sorted (by decide +kernel) (pa_cons (pe_callTy (call_list_dK rfl) (by rfl) M.n_list (by decide +kernel) (pa_cons (pv 1) pa_nil)) pa_nil))) (pss_cons (ps_for PassesOwn.never rfl (pi_l (pv 3)) (pg_name (i := 4) sc__law_sector_at.nd rfl (Or.inl rfl)) (pss_cons (ps_set (i := 5) sc__law_sector_at.nd rfl (Or.inl rfl) (pe_cal c__law_weight (hr.mono (by omega)) (by rfl) (pa_cons (pv 0) (pa_cons (pv 3) (pa_cons (pv 4) pa_nil))))) (pss_one (ps_for PassesOwn.never rfl (pi_range1 (by rfl) M.n_range (pa_cons pe_int pa_nil)) (pg_name (i := 6) sc__law_sector_at.nd rfl (Or.inl rfl)) (pss_one (ps_asg (pe_op op_xor (pe_ix ix_l (pv 2) (pv 6) (fun _ _ => rfl)) (pe_cal c__law_times (hr.mono (by omega)) (by rfl) (pa_cons (pe_ix ix_l (pe_dget (hu_of hr) (pv 1) (pv 4) (fun _ _ => rfl)) (pv 6) (fun _ _ => rfl)) (pa_cons (pv 5) pa_nil)))) (pg_sub (pv 2) (pv 6) set_list))))))) (pss_one (ps_ret (pv 2)))))), ?_⟩
    refine iBody (by repeat constructor) ?_
    walk_at "go"
    refine iNewL (by simp) fun z hz => ?_
    walk_at "go"
    refine iRep upd_same (by decide) (by decide) (by decide) fun r hr' => ?_
    have e0 : Ex H (upd H z (.lst [V.int 0])) := Ex.new hz
    have r0 : H r = none := by cases q : H r with | none => rfl | some o => rw [e0 _ _ q] at hr'; cases hr'
    have e1 : Ex H (upd (upd H z (.lst [V.int 0])) r (.lst (List.replicate (32 : Int).toNat [V.int 0]).flatten)) := ex_upd r0 e0
    have hr1 : (upd (upd H z (.lst [V.int 0])) r (.lst (List.replicate (32 : Int).toNat [V.int 0]).flatten)) r = some (.lst (bl fun _ => b0)) := upd_same
    generalize upd (upd H z (.lst [V.int 0])) r (.lst (List.replicate (32 : Int).toNat [V.int 0]).flatten) = H1 at e1 hr1 ⊢
    walk_at "go"
    refine iListD (e1 _ _ hd) fun p1 hp1 => ?_
    rw [hG.keys]
    have ek : bsV (G.map (·.1)) = ((G.map (·.1)).map fun b => (b.v : Int)).map V.int := by simp only [bsV, List.map_map]; rfl
    walk_at "go"
    refine iSorted (ns := (G.map (·.1)).map fun b => (b.v : Int)) (by rw [ek]; exact upd_same) (by rw [List.length_map, List.length_map]; omega) fun ns p pm ps hp => ?_
    rw [sorted_same pm ps srt]
    have e2 : Ex H1 (upd H1 p1 (.lst (bsV (G.map (·.1))))) := Ex.new hp1
    have p0 : H1 p = none := by cases q : H1 p with | none => rfl | some o => rw [e2 _ _ q] at hp; cases hp
    have e3 : Ex H1 (upd (upd H1 p1 (.lst (bsV (G.map (·.1))))) p (.lst (bsV (G.map (·.1))))) := ex_upd p0 e2
    have hp3 : (upd (upd H1 p1 (.lst (bsV (G.map (·.1))))) p (.lst (bsV (G.map (·.1))))) p = some (.lst (bsV (G.map (·.1)))) := upd_same
    have hrp : r ≠ p := ne_of_none hr1 p0
    have hr3 := e3 _ _ hr1
    have e4 : Ex H (upd (upd H1 p1 (.lst (bsV (G.map (·.1))))) p (.lst (bsV (G.map (·.1))))) := fun a o h => e3 _ _ (e1 _ _ h)
    generalize upd (upd H1 p1 (.lst (bsV (G.map (·.1))))) p (.lst (bsV (G.map (·.1)))) = H2 at e4 hp3 hr3 ⊢
    walk_at "go"
    refine forJ_list (bsV (G.map (·.1))) (fun n σ' H' => (∃ (a : Nat → B) (u1 u2 u3 : Option V), σ' = [some (.int x.v), some (.ref d), some (.ref r), some (.ref p), u1, u2, u3] ∧ H' r = some (.lst (bl a)) ∧ ∀ t, a t + sumB (fun g : B × (Nat → B) => wB x (G.map (·.1)) g.1 * g.2 t) (G.drop n) = wordF G x t) ∧ Ex H H' ∧ H' p = some (.lst (bsV (G.map (·.1))))) ⟨⟨fun _ => b0, none, none, none, rfl, hr3, fun t => B.zero_add _⟩, e4, hp3⟩ (fun n σ' H' _ h => h.2.2) (fun n v σ' H' hv h => ?_) (fun σ' H' h => ?_)
    · obtain ⟨⟨a, u1, u2, u3, rfl, har, sm⟩, ex, hp'⟩ := h
      obtain ⟨b, hb, rfl⟩ := bsV_get hv
      obtain ⟨g, hg, rfl⟩ : ∃ g, G[n]? = some g ∧ g.1 = b := by
        rw [List.getElem?_map] at hb
        cases e : G[n]? with
        | none => rw [e] at hb; cases hb
        | some g => rw [e] at hb; exact ⟨g, rfl, Option.some.inj hb⟩
      obtain ⟨v, hval, sv, rfl, hsv⟩ := hG.val nd hg
      walk_at "go"
      refine j_lweight hp' fun H3 ex3 => ?_
      have har3 := ex3 _ _ har
      walk_at "go"
      refine forJ_range0 (fun k σ'' H'' => (∃ u3, σ'' = [some (.int x.v), some (.ref d), some (.ref r), some (.ref p), some (.int g.1.v), some (.int (wB x (G.map (·.1)) g.1).v), u3]) ∧ H'' r = some (.lst (bl fun t => if t < k then a t + wB x (G.map (·.1)) g.1 * g.2 t else a t)) ∧ Ex H H'' ∧ H'' p = some (.lst (bsV (G.map (·.1))))) ⟨⟨_, rfl⟩, by simpa using har3, fun a o h => ex3 _ _ (ex _ _ h), ex3 _ _ hp'⟩ (fun k σ'' H'' hk h => ?_) (fun σ'' H'' h => ?_)
      · obtain ⟨⟨u3, rfl⟩, ha2, ex4, hp4⟩ := h
        have hk : k < 32 := hk
        walk_at "go"
        refine iIxL ha2 ((atI_natL _ _).trans (bl_get _ hk)) ?_
        walk_at "go"
        refine iDGi (ex4 _ _ hd) hval ?_
        walk_at "go"
        refine iIxL (ex4 _ _ hsv) ((atI_natL _ _).trans (bl_get _ hk)) ?_
        walk_at "go"
        refine j_timesB ?_
        walk_at "go"
        rw [if_neg (Nat.lt_irrefl k), xor_B]
        refine iSetL ha2 (k := k) (by rw [ixN_natL, bl_len, if_pos hk]) ?_
        refine ⟨⟨_, rfl⟩, ?_, ex_upd r0 ex4, (upd_ne hrp.symm).trans hp4⟩
        rw [upd_same]
        refine congrArg (fun l => some (HO.lst l)) ?_
        refine List.ext_getElem? fun t => ?_
        rw [List.getElem?_set]
        by_cases ht : t < 32
        · rw [bl_get _ ht]
          by_cases e : k = t
          · subst e
            rw [if_pos rfl, if_pos (by rw [bl_len]; exact hk), bl_get _ ht, if_pos (by omega), B.mul_comm]
          · rw [if_neg e, bl_get _ ht]
            by_cases l : t < k
            · rw [if_pos l, if_pos (by omega)]
            · rw [if_neg l, if_neg (by omega)]
        · rw [if_neg (by omega), List.getElem?_eq_none (by rw [bl_len]; omega), List.getElem?_eq_none (by rw [bl_len]; omega)]
      · obtain ⟨⟨u3, rfl⟩, ha2, ex4, hp4⟩ := h
        walk_at "go"
        refine ⟨⟨fun t => a t + wB x (G.map (·.1)) g.1 * g.2 t, _, _, _, rfl, ?_, fun t => ?_⟩, ex4, hp4⟩
        · rw [ha2]
          exact congrArg (fun l => some (HO.lst l)) (bl_congr fun t ht => if_pos ht)
        · rw [← sm t, drop_at hg]
          show _ = a t + (wB x (G.map (·.1)) g.1 * g.2 t + sumB _ (G.drop (n + 1)))
          rw [B.add_assoc]
    · obtain ⟨⟨a, u1, u2, u3, rfl, har, sm⟩, ex, hp'⟩ := h
      have ln : (bsV (G.map (·.1))).length = G.length := by unfold bsV; rw [List.length_map, List.length_map]
      walk_at "go"
      refine q r H' r0 ex ?_
      rw [har]
      refine congrArg (fun l => some (HO.lst l)) (bl_congr fun t _ => ?_)
      have := sm t
      rw [ln, List.drop_length] at this
      exact (B.add_zero _).symm.trans this
theorem j_lsector_at {x : B} {d : Addr} {kvs : List (Key × V)} {G : Gv} {H : Hp} {Q : VK} {E : XK} (h : H d = some (.dK kvs)) (hG : GvAt H kvs G) (nd : (G.map (·.1)).Nodup) (srt : ((G.map (·.1)).map fun b => (b.v : Int)).Pairwise (· ≤ ·)) (hl : G.length ≤ 60) (q : NewL H Q (bl (wordF G x))) : sp__law_sector_at [.int x.v, .ref d] H Q E := ⟨x, d, kvs, G, rfl, h, hG, nd, srt, hl, q⟩
theorem enumFrom_app : ∀ (xs ys : List V) (n : Nat), enumFrom n (xs ++ ys) = enumFrom n xs ++ enumFrom (n + xs.length) ys
  | [], _, _ => rfl
  | x :: xs, ys, n => by
    show (.inl (n : Int), x) :: enumFrom (n + 1) (xs ++ ys) = _ :: (enumFrom (n + 1) xs ++ _)
    rw [enumFrom_app xs ys (n + 1), List.length_cons, show n + 1 + xs.length = n + (xs.length + 1) by omega]
theorem valV_enum_hi {m : Int} : ∀ (vs : List V) (n : Nat), (n + vs.length : Nat) ≤ m → valV (enumFrom n vs) (.inl m : Key) = none
  | [], _, _ => rfl
  | x :: vs, n, h => by
    have h : ((n + (vs.length + 1) : Nat) : Int) ≤ m := h
    show valV ((.inl (n : Int), x) :: enumFrom (n + 1) vs) _ = _
    rw [valV_neg, valV_enum_hi vs (n + 1) (by omega)]
    intro e
    have := Sum.inl.inj e
    omega
theorem WordR.more {G : Gv} {k : Nat} {us : List V} {H : Hp} {S : Nat → Nat → B} (hG : G = gv0 us.length S) (hk : us.length ≤ 100) (h : SecsAt H us S) : WordR G us.length us H := by
  refine ⟨rfl, fun t v e => ?_⟩
  have ht := (List.getElem?_eq_some_iff.mp e).1
  obtain ⟨p, rfl, hp⟩ := h t v e
  refine ⟨p, rfl, hp.trans (congrArg (fun l => some (HO.lst l)) (bl_congr fun j _ => ?_))⟩
  subst hG
  have hm : (pl t, S t) ∈ gv0 us.length S := List.mem_map.mpr ⟨t, List.mem_range.mpr ht, rfl⟩
  exact (sumG_pick (t := j) (y := pl t) (gv0_nd hk) hm).symm
def sp__law_word : Sp := fun vs H Q _ => ∃ (p : Addr) (us : List V) (S : Nat → Nat → B) (n : Nat), vs = [.ref p, .int n] ∧ H p = some (.lst us) ∧ SecsAt H us S ∧ us.length ≤ n ∧ n ≤ 60 ∧ NewW H Q (gv0 us.length S) n
theorem gv0_srt {k : Nat} {S : Nat → Nat → B} (h : k ≤ 100) : (((gv0 k S).map (·.1)).map fun b => (b.v : Int)).Pairwise (· ≤ ·) := by
  rw [gv0_keys, List.map_map]
  refine List.pairwise_map.mpr (List.Pairwise.imp_of_mem (fun {a b} ha hb l => ?_) List.pairwise_lt_range)
  have ha := List.mem_range.mp ha
  have hb := List.mem_range.mp hb
  show ((pl a).v : Int) ≤ ((pl b).v : Int)
  rw [pl_v (by omega), pl_v (by omega)]
  omega
theorem gv0_len {k : Nat} {S : Nat → Nat → B} : (gv0 k S).length = k := by unfold gv0; rw [List.length_map, List.length_range]
theorem ok__law_word (M : Mg mg) {f : Addr} {fd : FuncData} (F : Fun K "_law_word" "_law_word" s__law_word f fd) (c__law_sector_at : Cal P w K mg base 4 "_law_sector_at" ["x", "given"] sp__law_sector_at) : FnOk P w K mg base CX0 5 f fd ["parts", "n"] sp__law_word := by
  refine F.ok sc__law_word (fun vs H Q E h => ?_) (fun cdv A outer s H vs Q E hr h => ?_)
  · obtain ⟨p, us, S, n, rfl, _⟩ := h; rfl
  · obtain ⟨p, us, S, n, rfl, hp, hS, hk, hn, q⟩ := h
    refine ⟨_, (pss_cons (ps_set (i := 2) sc__law_word.nd rfl (Or.inr rfl) pe_dnewK) (pss_cons (ps_for PassesOwn.never rfl (pi_range1 (by rfl) M.n_range (pa_cons (pe_callB len_l (by rfl) M.n_len PySem.boot_len (pa_cons (pv 0) pa_nil)) pa_nil)) (pg_name (i := 3) sc__law_word.nd rfl (Or.inl rfl)) (pss_one (ps_dput (hu_of hr) (pv 2) (pv 3) (pe_ix ix_l (pv 0) (pv 3) (fun _ _ => rfl)) rfl))) (pss_one (ps_ret (pe_op op_cat (pv 0) (pe_lc (own := [("x", 4)]) (g := (gName 4)) (tt := tYes) (by rfl) sc__law_word.nd (pi_range2 (by rfl) M.n_range (pa_cons (pe_callB len_l (by rfl) M.n_len PySem.boot_len (pa_cons (pv 0) pa_nil)) (pa_cons (pv 1) pa_nil))) (blkOk_by (own := [("x", 4)]) (N := ["parts", "n", "given", "k", "x"]) (sc := defScope s__law_word) (by decide +kernel)) (fun _ _ _ _ _ => (pg_name (i := 4) sc__law_word.nd rfl (Or.inl rfl))) (fun _ _ _ _ _ => pts_nil) (fun _ _ _ _ _ => (pe_cal c__law_sector_at (hr.mono (by omega)) (by rfl) (pa_cons (pv 4) (pa_cons (pv 2) pa_nil)))))))))), ?_⟩
    refine iBody (by repeat constructor) ?_
    walk_at "go"
    refine iDNew fun d hd => ?_
    have hp1 : (upd H d (.dK [])) p = some (.lst us) := (upd_ne (ne_of_none hp hd)).trans hp
    walk_at "go"
    refine forJ_range0 (fun i σ' H' => (∃ u : Option V, σ' = [some (.ref p), some (.int n), some (.ref d), u, none]) ∧ H' d = some (.dK (enumFrom 0 (us.take i))) ∧ Ex H H') ⟨⟨none, rfl⟩, upd_same, Ex.new hd⟩ (fun i σ' H' hi h => ?_) (fun σ' H' h => ?_)
    · obtain ⟨⟨u, rfl⟩, hd2, ex⟩ := h
      rw [Int.toNat_natCast] at hi
      walk_at "go"
      refine iIxL (ex _ _ hp) ((atI_natL _ _).trans (List.getElem?_eq_getElem hi)) ?_
      walk_at "go"
      refine iDPi hd2 (by rw [enumFrom_len, List.length_take]; omega) ?_
      refine ⟨⟨_, rfl⟩, ?_, ex_upd hd ex⟩
      rw [upd_same, putK_new _ (valV_enum_hi _ 0 (by rw [List.length_take]; omega)), List.take_add_one, List.getElem?_eq_getElem hi, enumFrom_app, List.length_take]
      rw [show 0 + min i us.length = i by omega]
      rfl
    · obtain ⟨⟨u, rfl⟩, hd2, ex⟩ := h
      rw [Int.toNat_natCast, List.take_length] at hd2
      have hG : GvAt H' (enumFrom 0 us) (gv0 us.length S) := by
        have := enum_gv (H := H') (vs := us) (S := S) 0 (by omega) (fun t v e => by rw [Nat.zero_add]; exact (hS t v e).ex ex)
        simp only [Nat.zero_add] at this
        exact this
      have hp2 := ex _ _ hp
      walk_at "go"
      have hto : ((n : Int) - (us.length : Int)).toNat = n - us.length := by omega
      rw [hto]
      refine lcR_r (fun i acc H' => WordR (gv0 us.length S) (us.length + i) (us ++ acc) H') (by repeat constructor) (fun i acc H1 H2 e h => WordR.mono _ _ _ _ e h) ?_ (fun D i acc H2 hD hi hacc hl e1 r => ?_) (fun D acc H2 hD e1 hacc r => ?_)
      · rw [List.append_nil]
        exact WordR.more (k := 0) rfl (by omega) (hS.ex ex)
      · walk_at "go"
        have e3 : (us.length : Int) + (i : Int) = ((pl (us.length + i)).v : Nat) := by rw [pl_v (by omega)]; omega
        rw [e3]
        refine j_lsector_at (e1 _ _ hd2) (hG.ex e1) (gv0_nd (by omega)) (gv0_srt (by omega)) (by rw [gv0_len]; omega) fun p3 H3 hp3 e2 h3 => ?_
        have nD : p3 ≠ D := (ne_of_none hacc hp3).symm
        refine iLcR hD (by omega) hl (fun a o h => e2 _ _ (e1 _ _ h)) (e2 _ _ hacc) ?_
        rw [← List.append_assoc]
        exact (WordR.mono _ _ _ _ (mk_mono e2) r).snoc ⟨p3, rfl, (mk_at nD).trans h3⟩
      · walk_at "go"
        refine iCat (e1 _ _ hp2) hacc ?_ fun p4 hp4 => ?_
        · have := r.1
          rw [List.length_append] at this
          omega
        · have n4 : H p4 = none := by cases z : H p4 with | none => rfl | some o => rw [e1 _ _ (ex _ _ z)] at hp4; cases hp4
          have r' := WordR.mono _ _ _ _ (Ex.new (o := .lst (us ++ acc)) hp4) r
          rw [show us.length + (n - us.length) = n by omega] at r'
          exact q p4 _ (us ++ acc) n4 (ex_upd n4 fun a o h => e1 _ _ (ex _ _ h)) upd_same r'
/-! ### data to be compared -/
def ds (f : Nat → B) : Dt := .lst ((List.range 32).map fun t => .int (f t).v)
def dw (S : Nat → Nat → B) (n : Nat) : Dt := .lst ((List.range n).map fun t => ds (S t))
theorem ds_at {H : Hp} {v : V} {f : Nat → B} (h : SecAt H v f) (n : Nat) : AtN (n + 1) H v (ds f) := by
  obtain ⟨p, rfl, hp⟩ := h
  refine ⟨p, bl f, rfl, hp, by rw [bl_len, List.length_map, List.length_range], by rw [bl_len]; decide, fun i x d h1 h2 => ?_⟩
  have hi : i < 32 := by
    have := (List.getElem?_eq_some_iff.mp h1).1
    rw [bl_len] at this
    exact this
  rw [bl_get _ hi] at h1
  rw [List.getElem?_map, List.getElem?_range hi] at h2
  cases h1; cases h2
  rw [AtN.int_eq]
theorem dw_at {H : Hp} {p : Addr} {vs : List V} {S : Nat → Nat → B} (h : H p = some (.lst vs)) (hs : SecsAt H vs S) (hl : vs.length ≤ 1000) : AtN 2 H (.ref p) (dw S vs.length) := by
  refine ⟨p, vs, rfl, h, by rw [List.length_map, List.length_range], by omega, fun i x d h1 h2 => ?_⟩
  have hi := (List.getElem?_eq_some_iff.mp h1).1
  rw [List.getElem?_map, List.getElem?_range hi] at h2
  cases h2
  exact ds_at (hs i x h1) 0
def ps (f : Nat → B) : PyData := .list ((List.range 32).map fun t => .int (f t).v)
def pw' (S : Nat → Nat → B) (n : Nat) : PyData := .list ((List.range n).map fun t => ps (S t))
theorem dp_all {H : Hp} : ∀ {vs : List V} {ds : List PyData}, vs.length = ds.length → (∀ (i : Nat) (v : V) (d : PyData), vs[i]? = some v → ds[i]? = some d → Dp K H v d) → DpAll K H vs ds
  | [], [], _, _ => .nil
  | [], _ :: _, h, _ => by simp at h
  | _ :: _, [], h, _ => by simp at h
  | v :: vs, d :: ds, h, q => .cons (q 0 v d rfl rfl) (dp_all (by simpa using h) fun i x y h1 h2 => q (i + 1) x y (by simpa using h1) (by simpa using h2))
theorem ps_dp {H : Hp} {v : V} {f : Nat → B} (h : SecAt H v f) : Dp K H v (ps f) := by
  obtain ⟨p, rfl, hp⟩ := h
  refine .lst (SqL.tr hp) (dp_all (by rw [bl_len, List.length_map, List.length_range]) fun i x d h1 h2 => ?_)
  have hi : i < 32 := by
    have := (List.getElem?_eq_some_iff.mp h1).1
    rw [bl_len] at this
    exact this
  rw [bl_get _ hi] at h1
  rw [List.getElem?_map, List.getElem?_range hi] at h2
  cases h1; cases h2
  exact .int _
theorem pw_dp {H : Hp} {p : Addr} {vs : List V} {S : Nat → Nat → B} (h : H p = some (.lst vs)) (hs : SecsAt H vs S) : Dp K H (.ref p) (pw' S vs.length) := by
  refine .lst (SqL.tr h) (dp_all (by rw [List.length_map, List.length_range]) fun i x d h1 h2 => ?_)
  have hi := (List.getElem?_eq_some_iff.mp h1).1
  rw [List.getElem?_map, List.getElem?_range hi] at h2
  cases h2
  exact ps_dp (hs i x h1)
theorem lay_all : ∀ {L : List PyData}, (∀ d ∈ L, d.canLay0 = true) → PyData.canLayAll0 L = true
  | [], _ => by rw [PyData.canLayAll0]
  | d :: L, h => by rw [PyData.canLayAll0, h d (List.mem_cons_self ..), lay_all fun e he => h e (List.mem_cons_of_mem _ he)]; rfl
theorem depth_all {m : Nat} : ∀ {L : List PyData}, (∀ d ∈ L, d.depth ≤ m) → PyData.depthAll L ≤ m
  | [], _ => by rw [PyData.depthAll]; exact Nat.zero_le _
  | d :: L, h => by
    rw [PyData.depthAll]
    have h1 := h d (List.mem_cons_self ..)
    have h2 := depth_all (m := m) (L := L) fun e he => h e (List.mem_cons_of_mem _ he)
    omega
theorem pw_lay (S : Nat → Nat → B) (n : Nat) : (pw' S n).canLay0 = true ∧ (pw' S n).depth ≤ 64 := by
  have h1 : ∀ f : Nat → B, (ps f).canLay0 = true ∧ (ps f).depth ≤ 10 := fun f => by
    unfold ps
    constructor
    · rw [PyData.canLay0]
      refine lay_all fun d hd => ?_
      obtain ⟨t, _, rfl⟩ := List.mem_map.mp hd
      rw [PyData.canLay0]
    · rw [PyData.depth]
      have := depth_all (m := 5) (L := (List.range 32).map fun t => PyData.int (f t).v) fun d hd => by
        obtain ⟨t, _, rfl⟩ := List.mem_map.mp hd
        simp [PyData.depth]
      omega
  unfold pw'
  constructor
  · rw [PyData.canLay0]
    refine lay_all fun d hd => ?_
    obtain ⟨t, _, rfl⟩ := List.mem_map.mp hd
    exact (h1 _).1
  · rw [PyData.depth]
    have := depth_all (m := 10) (L := (List.range n).map fun t => ps (S t)) fun d hd => by
      obtain ⟨t, _, rfl⟩ := List.mem_map.mp hd
      exact (h1 _).2
    omega
theorem pw_shaped (S : Nat → Nat → B) (n : Nat) : SeqAt.shaped (pw' S n) = true := by
  unfold SeqAt.shaped
  rw [(pw_lay S n).1, decide_eq_true (pw_lay S n).2]; rfl
theorem iNeDw {H : Hp} {Q : VK} {p r : Addr} {us vs : List V} {S : Nat → Nat → B} (h : H p = some (.lst us)) (hs : SecsAt H us S) (h2 : H r = some (.lst vs)) (hs2 : SecsAt H vs S) (hl : us.length = vs.length) (q : Q (.bl false) H) : rNeD K (.ref p) (.ref r) H Q := by
  refine ⟨_, _, pw_dp h hs, pw_dp h2 hs2, pw_shaped _ _, pw_shaped _ _, ?_⟩
  rw [hl, SeqAt.eqv_refl _ (pw_lay _ _).1]
  exact q
theorem iEqDw {H : Hp} {Q : VK} {p r : Addr} {us vs : List V} {S : Nat → Nat → B} (h : H p = some (.lst us)) (hs : SecsAt H us S) (h2 : H r = some (.lst vs)) (hs2 : SecsAt H vs S) (hl : us.length = vs.length) (q : Q (.bl true) H) : rEqD K (.ref p) (.ref r) H Q := by
  refine ⟨_, _, pw_dp h hs, pw_dp h2 hs2, pw_shaped _ _, pw_shaped _ _, ?_⟩
  rw [hl, SeqAt.eqv_refl _ (pw_lay _ _).1]
  exact q
/-! ### places -/
def nsV (L : List Nat) : List V := L.map fun m : Nat => V.int m
theorem inV_ns (m : Nat) : ∀ L : List Nat, inV (.int m) (nsV L) = decide (m ∈ L)
  | [] => by simp [nsV, inV]
  | a :: L => by
    have ih := inV_ns m L
    unfold inV nsV at ih ⊢
    rw [List.map_cons, List.any_cons, ih]
    have e : eqV (.int a) (.int m) = decide ((a : Int) = m) := rfl
    rw [e]
    by_cases h : a = m
    · subst h; simp
    · have h1 : ¬ (a : Int) = m := by omega
      have h2 : ¬ m = a := fun q => h q.symm
      simp [h1, h2]
theorem flat_ns (L : List Nat) : (nsV L).all flatV = true := by
  unfold nsV
  rw [List.all_map]
  exact List.all_eq_true.mpr fun _ _ => rfl
theorem iNotInNs {H : Hp} {Q : VK} {p : Addr} {m : Nat} {L : List Nat} (h : H p = some (.lst (nsV L))) (q : Q (.bl (!decide (m ∈ L))) H) : kIn true (.int m) (.ref p) H Q := by
  refine ⟨p, nsV L, rfl, .inl h, rfl, flat_ns L, ?_⟩
  rw [inV_ns]
  exact q
def left (n : Nat) (L : List Nat) : List Nat := (List.range n).filter fun m => decide (m ∉ L)
theorem nodup_ne (a : Nat) : ∀ {M : List Nat}, M.Nodup → M.length ≤ (M.filter fun m => decide (m ≠ a)).length + 1
  | [], _ => by simp
  | b :: M, nd => by
    have nd' := List.nodup_cons.mp nd
    by_cases h : b ≠ a
    · have := nodup_ne a nd'.2
      rw [List.filter_cons, if_pos (decide_eq_true h), List.length_cons, List.length_cons]
      omega
    · have h : b = a := by simpa using h
      subst h
      have e : M.filter (fun m => decide (m ≠ b)) = M := List.filter_eq_self.mpr fun c hc => decide_eq_true (show c ≠ b from fun e => nd'.1 (e ▸ hc))
      rw [List.filter_cons, if_neg (by simp), e]
      simp
theorem left_len (n : Nat) : ∀ L : List Nat, n ≤ (left n L).length + L.length
  | [] => by
    have : left n [] = List.range n := List.filter_eq_self.mpr fun _ _ => by simp
    rw [this]; simp
  | a :: L => by
    have ih := left_len n L
    have e : left n (a :: L) = (left n L).filter fun m => decide (m ≠ a) := by
      unfold left
      rw [List.filter_filter]
      refine List.filter_congr fun m _ => ?_
      by_cases h1 : m = a <;> by_cases h2 : m ∈ L <;> simp [h1, h2]
    have nd : (left n L).Nodup := List.Pairwise.filter _ List.nodup_range
    have := nodup_ne a nd
    rw [e, List.length_cons]
    omega
def gvL (F : Nat → Nat → B) (L : List Nat) : Gv := L.map fun m => (pl m, F m)
theorem gvL_keys {F : Nat → Nat → B} {L : List Nat} : (gvL F L).map (·.1) = L.map pl := by unfold gvL; rw [List.map_map]; rfl
theorem gvL_nd {F : Nat → Nat → B} {L : List Nat} (nd : L.Nodup) (h : ∀ m ∈ L, m < 100) : ((gvL F L).map (·.1)).Nodup := by
  rw [gvL_keys]
  refine List.pairwise_map.mpr (List.Pairwise.imp_of_mem (fun {a b} ha hb ne e => ?_) nd)
  exact ne (pl_inj (Nat.lt_of_lt_of_le (h a ha) (by decide)) (Nat.lt_of_lt_of_le (h b hb) (by decide)) e)
theorem gvL_bs {F : Nat → Nat → B} {L : List Nat} (h : ∀ m ∈ L, m < 100) : bsV ((gvL F L).map (·.1)) = nsV L := by
  rw [gvL_keys]
  unfold bsV nsV
  rw [List.map_map]
  refine List.map_congr_left fun m hm => ?_
  show V.int ((pl m).v : Nat) = _
  rw [pl_v (Nat.lt_of_lt_of_le (h m hm) (by decide))]
theorem nsV_get {L : List Nat} {n : Nat} {x : V} (h : (nsV L)[n]? = some x) : ∃ b, L[n]? = some b ∧ x = .int (b : Nat) := by
  unfold nsV at h
  rw [List.getElem?_map] at h
  cases e : L[n]? with
  | none => rw [e] at h; cases h
  | some b => rw [e] at h; exact ⟨b, rfl, (Option.some.inj h).symm⟩
theorem GvAt.snoc {H : Hp} : ∀ {kvs : List (Key × V)} {G : Gv} {k : Key} {v : V} {g : B × (Nat → B)}, GvAt H kvs G → k = .inl (g.1.v : Int) → SecAt H v g.2 → GvAt H (kvs ++ [(k, v)]) (G ++ [g])
  | _, _, _, _, _, .nil, h1, h2 => .cons ⟨h1, h2⟩ .nil
  | _, _, _, _, _, .cons h t, h1, h2 => .cons h (GvAt.snoc t h1 h2)
def sp_law (K : PySem.W.Frag) : Sp := fun vs H Q _ => ∃ (a : Addr) (ns : List Int), vs = [.ref a] ∧ SqL K H a (ns.map V.int) ∧ ns.length ≤ 63 ∧ ∀ H', Q (.bl true) H'
theorem j_make_word {p : Addr} {us : List V} {S : Nat → Nat → B} {n : Nat} {H : Hp} {Q : VK} {E : XK} (h : H p = some (.lst us)) (hs : SecsAt H us S) (hl : us.length ≤ 100) (hn : n ≤ 100) (q : NewW H Q (gv0 us.length S) n) : sp_make_word [.ref p, .int n] H Q E := ⟨p, us, S, n, rfl, h, hs, hl, hn, q⟩
theorem j_lword {p : Addr} {us : List V} {S : Nat → Nat → B} {n : Nat} {H : Hp} {Q : VK} {E : XK} (h : H p = some (.lst us)) (hs : SecsAt H us S) (hl : us.length ≤ n) (hn : n ≤ 60) (q : NewW H Q (gv0 us.length S) n) : sp__law_word [.ref p, .int n] H Q E := ⟨p, us, S, n, rfl, h, hs, hl, hn, q⟩
theorem j_sameD {x y : V} {d : Dt} {m : Nat} {H : Hp} {Q : VK} {E : XK} (h1 : AtN m H x d) (h2 : AtN m H y d) (q : Q (.bl true) H) : sp__law_same (m + 1) [x, y] H Q E := ⟨x, y, d, rfl, h1, h2, q⟩
theorem WordR.secs {G : Gv} {n : Nat} {acc : List V} {H : Hp} (h : WordR G n acc H) : SecsAt H acc fun t => wordF G (pl t) := h.2
theorem AtN.up {H : Hp} {v : V} {i : Int} (n : Nat) (h : v = .int i) : AtN n H v (.int i) := by rw [AtN.int_eq]; exact h
theorem SecAt.exb {H H' : Hp} {st l : Addr} {v : V} {f : Nat → B} (D : DrawAt H st l) (e : ExB st H H') (h : SecAt H v f) : SecAt H' v f := by
  obtain ⟨p, rfl, h⟩ := h
  refine ⟨p, rfl, e p _ ?_ h⟩
  rintro rfl
  obtain ⟨ns, i, r, q, ha, _⟩ := D
  rw [ha] at h
  have h1 := HO.lst.inj (Option.some.inj h)
  have h2 := congrArg List.length h1
  rw [bl_len] at h2
  simp at h2
theorem SecsAt.exb {H H' : Hp} {st l : Addr} {vs : List V} {S : Nat → Nat → B} (D : DrawAt H st l) (e : ExB st H H') (h : SecsAt H vs S) : SecsAt H' vs S := fun t v q => (h t v q).exb D e
theorem GvAt.exb {H H' : Hp} {st l : Addr} (D : DrawAt H st l) (e : ExB st H H') : ∀ {kvs : List (Key × V)} {G : Gv}, GvAt H kvs G → GvAt H' kvs G
  | _, _, .nil => .nil
  | _, _, .cons h t => .cons ⟨h.1, h.2.exb D e⟩ (GvAt.exb D e t)
theorem SecsAt.snoc {H : Hp} {acc : List V} {S : Nat → Nat → B} {v : V} (h : SecsAt H acc S) (q : SecAt H v (S acc.length)) : SecsAt H (acc ++ [v]) S := fun t u e => by
  rcases Nat.lt_or_ge t acc.length with lt | ge
  · rw [List.getElem?_append_left lt] at e
    exact h t u e
  · rw [List.getElem?_append_right ge] at e
    have ht : t - acc.length = 0 := by
      have := (List.getElem?_eq_some_iff.mp e).1
      simp at this
      omega
    rw [ht] at e
    have e1 : v = u := by simpa using e
    rw [← e1, show t = acc.length by omega]
    exact q
theorem gvL_len {F : Nat → Nat → B} {L : List Nat} : (gvL F L).length = L.length := List.length_map ..
theorem ok_law (M : Mg mg) {f : Addr} {fd : FuncData} (F : Fun K "law" "law" s_law f fd) (c__law_next : Cal P w K mg base 1 "_law_next" ["state", "limit"] sp__law_next)
    (c__law_same : Cal P w K mg base 3 "_law_same" ["actual", "expected"] (sp__law_same 3)) (c__law_sector : Cal P w K mg base 2 "_law_sector" ["state"] sp__law_sector) (c__law_sizes : Cal P w K mg base 2 "_law_sizes" ["state"] sp__law_sizes)
    (c__law_weight : Cal P w K mg base 3 "_law_weight" ["x", "places", "i"] sp__law_weight) (c__law_word : Cal P w K mg base 5 "_law_word" ["parts", "n"] sp__law_word) (c_make_word : Cal P w K mg base 7 "make_word" ["parts", "n"] sp_make_word)
    (c_sector_at : Cal P w K mg base 5 "sector_at" ["x", "given"] sp_sector_at) (c_weight : Cal P w K mg base 4 "weight" ["x", "places", "i"] sp_weight) : FnOk P w K mg base CX0 8 f fd ["script"] (sp_law K) := by
  refine F.ok sc_law (fun vs H Q E h => ?_) (fun cdv A outer s H vs Q E hr h => ?_)
  · obtain ⟨a, ns, rfl, _⟩ := h; rfl
  · obtain ⟨sc, ns, rfl, hS, hn, q⟩ := h
    refine ⟨_, (pss_cons (ps_set (i := 1) sc_law.nd rfl (Or.inr rfl) (pe_lst (pa_cons (pe_callTy call_list_of (by rfl) M.n_list (by decide +kernel) (pa_cons (pv 0) pa_nil)) (pa_cons pe_int (pa_cons pe_int (pa_cons pe_int pa_nil)))))) (pss_cons (ps_asg (pe_cal c__law_sizes (hr.mono (by omega)) (by rfl) (pa_cons (pv 1) pa_nil)) (pg_tup (by rfl) (pgs_cons (pg_name (i := 2) sc_law.nd rfl (Or.inl rfl)) (pgs_cons (pg_name (i := 3) sc_law.nd rfl (Or.inl rfl)) (pgs_cons (pg_name (i := 4) sc_law.nd rfl (Or.inl rfl)) pgs_nil))))) (pss_cons (ps_setLc (i := 6) (own := [("j", 5)]) (g := (gName 5)) (tt := tYes) (by rfl) sc_law.nd rfl rfl (sw_true rfl rfl rfl (by decide +kernel)) (pi_range1 (by rfl) M.n_range (pa_cons (pv 3) pa_nil)) (blkOk_by (own := [("j", 5)]) (N := ["script", "state", "n", "k", "s", "j", "parts", "word", "passed", "places", "place", "left", "given", "x", "i", "part"]) (sc := defScope s_law) (by decide +kernel)) (fun _ _ _ _ _ => (pg_name (i := 5) sc_law.nd rfl (Or.inl rfl))) (fun _ _ _ _ _ => pts_nil) (fun _ _ _ _ _ => (pe_cal c__law_sector (hr.mono (by omega)) (by rfl) (pa_cons (pv 1) pa_nil)))) (pss_cons (ps_set (i := 7) sc_law.nd rfl (Or.inr rfl) (pe_cal c__law_word (hr.mono (by omega)) (by rfl) (pa_cons (pv 6) (pa_cons (pv 2) pa_nil)))) (pss_cons (ps_setLc (i := 8) (own := [("part", 15)]) (g := (gName 15)) (tt := tYes) (by rfl) sc_law.nd rfl rfl (sw_true rfl rfl rfl (by decide +kernel)) (pi_l (pv 6)) (blkOk_by (own := [("part", 15)]) (N := ["script", "state", "n", "k", "s", "j", "parts", "word", "passed", "places", "place", "left", "given", "x", "i", "part"]) (sc := defScope s_law) (by decide +kernel)) (fun _ _ _ _ _ => (pg_name (i := 15) sc_law.nd rfl (Or.inl rfl))) (fun _ _ _ _ _ => pts_nil) (fun _ _ _ _ _ => (pe_callTy list_l (by rfl) M.n_list (by decide +kernel) (pa_cons (pv 15) pa_nil)))) (pss_cons (ps_if (PW.pt (pw_or (pt_not (pt_val (pe_cal c__law_same (hr.mono (by omega)) (by rfl) (pa_cons (pe_globC (by rfl) M.c_SECTOR) (pa_cons pe_int pa_nil))))) (pw_or (pt_not (pt_val (pe_cal c__law_same (hr.mono (by omega)) (by rfl) (pa_cons (pe_cal c_make_word (hr.mono (by omega)) (by rfl) (pa_cons (pv 8) (pa_cons (pv 2) pa_nil))) (pa_cons (pv 7) pa_nil))))) (pw_or1 (pt_cmpR (op_neD hr.units) (pv 8) (pv 6) (nomark _)))))) (pss_one (ps_ret pe_bl)) pss_nil) (pss_cons (ps_set (i := 9) sc_law.nd rfl (Or.inr rfl) (pe_lst pa_nil)) (pss_cons (ps_for PassesOwn.never rfl (pi_range1 (by rfl) M.n_range (pa_cons (pv 3) pa_nil)) (pg_name (i := 5) sc_law.nd rfl (Or.inl rfl)) (pss_cons (ps_setLc (i := 11) (own := [("place", 10)]) (g := (gName 10)) (tt := _) (by rfl) sc_law.nd rfl rfl (sw_true rfl rfl rfl (by decide +kernel)) (pi_range1 (by rfl) M.n_range (pa_cons (pv 2) pa_nil)) (blkOk_by (own := [("place", 10)]) (N := ["script", "state", "n", "k", "s", "j", "parts", "word", "passed", "places", "place", "left", "given", "x", "i", "part"]) (sc := defScope s_law) (by decide +kernel)) (fun _ _ _ _ _ => (pg_name (i := 10) sc_law.nd rfl (Or.inl rfl))) (fun _ _ _ _ _ => (pts_one (pt_cmpR op_ninS (pv 10) (pv 9) rfl))) (fun _ _ _ _ _ => (pv 10))) (pss_one (ps_expr (pe_mt PySem.F.slot_list_append PySem.F.type_list_append mt_append (pv 9) (pa_cons (pe_ix ix_l (pv 11) (pe_cal c__law_next (hr.mono (by omega)) (by rfl) (pa_cons (pv 1) (pa_cons (pe_callB len_l (by rfl) M.n_len PySem.boot_len (pa_cons (pv 11) pa_nil)) pa_nil))) (fun _ _ => rfl)) pa_nil)))))) (pss_cons (ps_set (i := 12) sc_law.nd rfl (Or.inr rfl) pe_dnewK) (pss_cons (ps_for PassesOwn.never rfl (pi_l (pv 9)) (pg_name (i := 10) sc_law.nd rfl (Or.inl rfl)) (pss_one (ps_dput (hu_of hr) (pv 12) (pv 10) (pe_callTy list_l (by rfl) M.n_list (by decide +kernel) (pa_cons (pe_ix ix_l (pv 7) (pv 10) (fun _ _ => rfl)) pa_nil)) rfl))) (pss_cons (ps_for PassesOwn.never rfl (pi_range1 (by rfl) M.n_range (pa_cons (pv 2) pa_nil)) (pg_name (i := 13) sc_law.nd rfl (Or.inl rfl)) (pss_one (ps_if (pt_not (pt_val (pe_cal c__law_same (hr.mono (by omega)) (by rfl) (pa_cons (pe_cal c_sector_at (hr.mono (by omega)) (by rfl) (pa_cons (pv 13) (pa_cons (pv 12) pa_nil))) (pa_cons (pe_ix ix_l (pv 7) (pv 13) (fun _ _ => rfl)) pa_nil))))) (pss_one (ps_ret pe_bl)) pss_nil))) (pss_cons (ps_for PassesOwn.never rfl (pi_l (pv 9)) (pg_name (i := 14) sc_law.nd rfl (Or.inl rfl)) (pss_cons (ps_set (i := 13) sc_law.nd rfl (Or.inl rfl) (pe_cal c__law_next (hr.mono (by omega)) (by rfl) (pa_cons (pv 1) (pa_cons (pv 2) pa_nil)))) (pss_one (ps_if (pt_not (pt_val (pe_cal c__law_same (hr.mono (by omega)) (by rfl) (pa_cons (pe_cal c_weight (hr.mono (by omega)) (by rfl) (pa_cons (pv 13) (pa_cons (pe_callTy list_l (by rfl) M.n_list (by decide +kernel) (pa_cons (pv 9) pa_nil)) (pa_cons (pv 14) pa_nil)))) (pa_cons (pe_cal c__law_weight (hr.mono (by omega)) (by rfl) (pa_cons (pv 13) (pa_cons (pv 9) (pa_cons (pv 14) pa_nil)))) pa_nil))))) (pss_one (ps_ret pe_bl)) pss_nil)))) (pss_one (ps_ret (pe_cmpR (op_eqD hr.units) (pe_lc (own := [("place", 10)]) (g := (gName 10)) (tt := tYes) (by rfl) sc_law.nd (pi_l (pv 9)) (blkOk_by (own := [("place", 10)]) (N := ["script", "state", "n", "k", "s", "j", "parts", "word", "passed", "places", "place", "left", "given", "x", "i", "part"]) (sc := defScope s_law) (by decide +kernel)) (fun _ _ _ _ _ => (pg_name (i := 10) sc_law.nd rfl (Or.inl rfl))) (fun _ _ _ _ _ => pts_nil) (fun _ _ _ _ _ => (pe_dget (hu_of hr) (pv 12) (pv 10) (fun _ _ => rfl)))) (pe_lc (own := [("place", 10)]) (g := (gName 10)) (tt := tYes) (by rfl) sc_law.nd (pi_l (pv 9)) (blkOk_by (own := [("place", 10)]) (N := ["script", "state", "n", "k", "s", "j", "parts", "word", "passed", "places", "place", "left", "given", "x", "i", "part"]) (sc := defScope s_law) (by decide +kernel)) (fun _ _ _ _ _ => (pg_name (i := 10) sc_law.nd rfl (Or.inl rfl))) (fun _ _ _ _ _ => pts_nil) (fun _ _ _ _ _ => (pe_ix ix_l (pv 7) (pv 10) (fun _ _ => rfl)))) (nomark _)))))))))))))))), ?_⟩
    refine iBody (by repeat constructor) ?_
    walk_at "go"
    refine ⟨sc, _, rfl, .inl hS, fun l hl => ?_⟩
    walk_at "go"
    refine iNewL (by simp) fun st hst => ?_
    have nsl : st ≠ l := (ne_of_none upd_same hst).symm
    have D0 := DrawAt.to (H := upd H l (.lst (ns.map V.int))) (i := 0) (r := 0) (q := 1) upd_same nsl hn (by decide) (by omega) (by decide) (by decide) (by decide)
    generalize upd (upd H l (.lst (ns.map V.int))) st (.lst [.ref l, .int 0, .int 0, .int 1]) = H1 at D0 ⊢
    walk_at "go"
    refine j_lsizes D0 fun z H2 n k s _ x2 D2 n4 n8 k1 s1 ks hz => ?_
    walk_at "go"
    -- parts
    refine lc_r0 (by repeat constructor) (fun D i acc H' => DrawAt H' st l ∧ D ≠ st ∧ D ≠ l ∧ acc.length = i ∧ ∃ S, SecsAt (mk D (mk st H')) acc S) (fun D hD => ?_) (fun D i acc H3 hD hi hacc hl hp => ?_) (fun D acc H3 hD hacc hl hp => ?_)
    · have fr := D2.fresh hD
      exact ⟨D2.new hD, fr.1, fr.2, rfl, fun _ _ => b0, fun t v e => by simp at e⟩
    · obtain ⟨D3, n1, n2, al, S, hs⟩ := hp
      walk_at "go"
      refine j_lsector D3 fun p H4 f hp x4 D4 h4 => ?_
      have hacc4 := x4 D _ n1 hacc
      have pD : p ≠ D := (ne_of_none hacc hp).symm
      have pst := (D3.fresh hp).1
      have e4 : Ex (mk D (mk st H3)) (mk D (mk st H4)) := mk_mono (exb_mk x4)
      refine iLcE hacc4 hl (by omega) ⟨D4.upd n1 n2, n1, n2, by rw [List.length_append, al]; rfl, fun t => if t = i then f else S t, fun t v e => ?_⟩
      have hm : mk D (mk st (upd H4 D (.lst (acc ++ [.ref p])))) = mk D (mk st H4) := by
        funext b
        by_cases hb : b = D
        · unfold mk; rw [if_pos hb, if_pos hb]
        · rw [mk_at hb, mk_at hb]
          by_cases hb2 : b = st
          · unfold mk; rw [if_pos hb2, if_pos hb2]
          · rw [mk_at hb2, mk_at hb2, upd_ne hb]
      rw [hm]
      rcases Nat.lt_or_ge t acc.length with lt | ge
      · rw [List.getElem?_append_left lt] at e
        show SecAt _ v (if t = i then f else S t)
        rw [if_neg (by omega)]
        exact (hs t v e).ex e4
      · rw [List.getElem?_append_right ge] at e
        have ht : t - acc.length = 0 := by
          have := (List.getElem?_eq_some_iff.mp e).1
          simp at this
          omega
        rw [ht] at e
        have e1 : V.ref p = v := by simpa using e
        show SecAt _ v (if t = i then f else S t)
        rw [if_pos (by omega), ← e1]
        exact ⟨p, rfl, by rw [mk_at pD, mk_at pst]; exact h4⟩
    · obtain ⟨D3, n1, n2, al, S, hs⟩ := hp
      rw [Int.toNat_natCast] at al
      have hsS : SecsAt H3 acc S := hs.ex fun p o h => mk_ex _ _ _ _ (mk_ex _ _ _ _ h)
      walk_at "go"
      have nDst := n1
      refine j_lword hacc hsS (by omega) (by omega) fun pw H4 accw hpw0 e4 hw hW => ?_
      have D4 := D3.ex e4
      have hacc4 := e4 _ _ hacc
      have hS4 := hsS.ex e4
      have npw : pw ≠ st := (D3.fresh hpw0).1
      walk_at "go"
      refine lcR_l acc (fun i a H => a.length = i ∧ SecsAt H a S) (by repeat constructor) hacc4 (fun i a H H' e h => ⟨h.1, h.2.ex e⟩) ⟨rfl, fun t v e => by simp at e⟩ (fun D5 i a5 x H5 hD5 hx ha5 hl5 e5 r5 => ?_) (fun D5 a5 H5 hD5 e5 ha5 r5 => ?_)
      · obtain ⟨p, rfl, hp⟩ := (hS4 i x hx).ex e5
        walk_at "go"
        refine iListL hp fun l5 hl5' => ?_
        have nD : D5 ≠ l5 := ne_of_none ha5 hl5'
        refine iLcR hD5 (by have := (List.getElem?_eq_some_iff.mp hx).1; omega) hl5 (ex_upd (by cases z : H4 l5 with | none => rfl | some o => rw [e5 _ _ z] at hl5'; cases hl5') e5) ((upd_ne nD).trans ha5) ⟨by rw [List.length_append, r5.1]; rfl, ?_⟩
        refine SecsAt.snoc (r5.2.ex (mk_mono (Ex.new hl5'))) ⟨l5, rfl, ?_⟩
        rw [mk_at nD.symm, upd_same, r5.1]
      · have hw5 := e5 _ _ hw
        have hW5 := WordR.mono _ _ _ _ e5 hW
        have D5' := D4.ex e5
        walk_at "go"
        refine j_sameD (d := .int 32) (AtN.up _ rfl) (AtN.up _ rfl) ?_
        walk_at "go"
        refine j_make_word ha5 r5.2 (by rw [r5.1]; omega) (by omega) fun p6 H6 a6 hp6 e6 h6 W6 => ?_
        have hw6 := e6 _ _ hw5
        have hW6 := WordR.mono _ _ _ _ e6 hW5
        have D6 := D5'.ex e6
        rw [r5.1] at W6
        have en1 := W6.1
        have en2 := hW6.1
        walk_at "go"
        refine j_sameD (m := 2) (d := dw (fun t => wordF (gv0 acc.length S) (pl t)) n) (en1 ▸ dw_at h6 W6.secs (by omega)) (en2 ▸ dw_at hw6 hW6.secs (by omega)) ?_
        walk_at "go"
        refine iNeDw (e6 _ _ ha5) (r5.2.ex e6) (e6 _ _ (e5 _ _ hacc4)) ((hS4.ex e5).ex e6) r5.1 ?_
        walk_at "go"
        refine iNewL (by simp) fun pp hpp => ?_
        have npp := D6.fresh hpp
        have npw2 : pw ≠ pp := ne_of_none hw6 hpp
        have D7 := D6.new (o := .lst []) hpp
        have hw7 : (upd H6 pp (.lst [])) pw = some (.lst accw) := (upd_ne npw2).trans hw6
        have hW7 : SecsAt (upd H6 pp (.lst [])) accw (fun t => wordF (gv0 acc.length S) (pl t)) := hW6.secs.ex (Ex.new hpp)
        have hp7 : (upd H6 pp (.lst [])) pp = some (.lst (nsV [])) := upd_same
        have G0nd := gv0_nd (k := acc.length) (S := S) (by omega)
        have G0len := gv0_len (k := acc.length) (S := S)
        generalize gv0 acc.length S = G0 at hW7 G0nd G0len
        generalize upd H6 pp (.lst []) = H7 at D7 hw7 hW7 hp7 ⊢
        walk_at "go"
        refine forJ_range0 (fun j σ' H' => (∃ u5 u11 : Option V, σ' = [some (.ref sc), some (.ref st), some (.int n), some (.int k), some (.int s), u5, some (.ref D), some (.ref pw), some (.ref D5), some (.ref pp), none, u11, none, none, none, none]) ∧ DrawAt H' st l ∧ H' pw = some (.lst accw) ∧ SecsAt H' accw (fun t => wordF G0 (pl t)) ∧ ∃ L, H' pp = some (.lst (nsV L)) ∧ L.length = j ∧ L.Nodup ∧ ∀ m ∈ L, m < n) ⟨⟨_, _, rfl⟩, D7, hw7, hW7, [], hp7, rfl, List.nodup_nil, by simp⟩ (fun j σ' H' hj hp => ?_) (fun σ' H' hp => ?_)
        · obtain ⟨⟨u5, u11, rfl⟩, D8, hw8, hW8, L, hL, Ll, Ln, Lb⟩ := hp
          rw [Int.toNat_natCast] at hj
          walk_at "go"
          refine lc_r0 (by repeat constructor) (fun D i a H2 => Ex H' H2 ∧ a = nsV (left i L)) (fun D hD => ⟨Ex.new hD, rfl⟩) (fun D9 i a9 H9 hD9 hi ha9 hl9 hp => ?_) (fun D9 a9 H9 hD9 ha9 hl9 hp => ?_)
          · obtain ⟨e9, rfl⟩ := hp
            have hi : i < n := by rw [Int.toNat_natCast] at hi; exact hi
            have sn : left (i + 1) L = left i L ++ (if i ∉ L then [i] else []) := by
              unfold left
              rw [List.range_succ, List.filter_append, List.filter_cons, List.filter_nil]
              by_cases h : i ∉ L
              · rw [if_pos (decide_eq_true h), if_pos h]
              · rw [if_neg (by simpa using h), if_neg h]
            walk_at "go"
            refine iNotInNs (e9 _ _ hL) ?_
            walk_at "go"
            refine ifND (fun h => ?_) (fun h => ?_)
            · walk_at "go"
              refine iLcE ha9 hl9 (by omega) ⟨ex_upd hD9 e9, ?_⟩
              rw [sn, if_pos h]
              unfold nsV
              rw [List.map_append]; rfl
            · refine iLcN ha9 hl9 ⟨e9, ?_⟩
              rw [sn, if_neg (by simpa using h), List.append_nil]
          · obtain ⟨e9, rfl⟩ := hp
            rw [Int.toNat_natCast] at ha9 hl9
            have D9' := D8.ex e9
            have nD9 := D8.fresh hD9
            have nn := left_len n L
            have lnn : (nsV (left n L)).length = (left n L).length := List.length_map ..
            walk_at "go"
            refine iMt rfl (e9 _ _ hL) ?_
            walk_at "go"
            rw [lnn]
            refine j_next D9' (by omega) (by omega) fun v H10 v0 v1 D10 f10 => ?_
            walk_at "go"
            have hv : v.toNat < (left n L).length := by omega
            obtain ⟨m1, m2⟩ := List.mem_filter.mp (List.getElem_mem hv)
            have hvat : atI (nsV (left n L)) v = some (.int ((left n L)[v.toNat] : Nat)) := by
              have e : atI (nsV (left n L)) ((v.toNat : Nat) : Int) = _ := atI_natL _ _
              rw [show ((v.toNat : Nat) : Int) = v by omega] at e
              rw [e]
              unfold nsV
              rw [List.getElem?_map, List.getElem?_eq_getElem hv]; rfl
            refine iIxL ((f10 D9 nD9.1).trans ha9) hvat ?_
            walk_at "go"
            generalize (left n L)[v.toNat] = m at m1 m2 ⊢
            have m1 := List.mem_range.mp m1
            have m2 : m ∉ L := of_decide_eq_true m2
            have x10 := exb_fr f10
            refine iApp ((f10 pp npp.1).trans (e9 _ _ hL)) (by unfold nsV; rw [List.length_map]; omega) ?_
            refine ⟨⟨_, _, rfl⟩, D10.upd npp.1 npp.2, (upd_ne npw2).trans (x10 _ _ npw (e9 _ _ hw8)), ?_, L ++ [m], ?_, by rw [List.length_append, Ll]; rfl, ?_, ?_⟩
            · intro t u e
              obtain ⟨p, rfl, hp⟩ := ((hW8.ex e9).exb D9' x10) t u e
              refine ⟨p, rfl, (upd_ne ?_).trans hp⟩
              rintro rfl
              have h1 := hp.symm.trans ((f10 p npp.1).trans (e9 _ _ hL))
              have h2 := congrArg List.length (HO.lst.inj (Option.some.inj h1))
              rw [bl_len] at h2
              unfold nsV at h2
              rw [List.length_map] at h2
              omega
            · rw [upd_same]
              unfold nsV
              rw [List.map_append]; rfl
            · rw [List.nodup_append]
              refine ⟨Ln, by simp, fun a ha b hb => ?_⟩
              rw [List.mem_singleton] at hb
              rintro rfl
              exact m2 (hb ▸ ha)
            · intro a ha
              rcases List.mem_append.mp ha with h | h
              · exact Lb a h
              · rw [List.mem_singleton] at h; omega
        · obtain ⟨⟨u5, u11, rfl⟩, D8, hw8, hW8, L, hL, Ll, Ln, Lb⟩ := hp
          rw [Int.toNat_natCast] at Ll
          walk_at "go"
          refine iDNew fun d hd => ?_
          have nd8 := D8.fresh hd
          have D9 := D8.new (o := .dK []) hd
          have npd : pw ≠ d := ne_of_none hw8 hd
          have nppd : pp ≠ d := ne_of_none hL hd
          have hw9 : (upd H' d (.dK [])) pw = some (.lst accw) := (upd_ne npd).trans hw8
          have hW9 := hW8.ex (Ex.new (o := .dK []) hd)
          have hL9 : (upd H' d (.dK [])) pp = some (.lst (nsV L)) := (upd_ne nppd).trans hL
          have hd9 : (upd H' d (.dK [])) d = some (.dK []) := upd_same
          have Lb2 : ∀ m ∈ L, m < 100 := fun m hm => by have := Lb m hm; omega
          generalize upd H' d (.dK []) = H9 at D9 hw9 hW9 hL9 hd9 ⊢
          walk_at "go"
          refine forJ_list (nsV L) (fun i σ' H' => (∃ u10 : Option V, σ' = [some (.ref sc), some (.ref st), some (.int n), some (.int k), some (.int s), u5, some (.ref D), some (.ref pw), some (.ref D5), some (.ref pp), u10, u11, some (.ref d), none, none, none]) ∧ DrawAt H' st l ∧ H' pw = some (.lst accw) ∧ SecsAt H' accw (fun t => wordF G0 (pl t)) ∧ H' pp = some (.lst (nsV L)) ∧ ∃ kvs, H' d = some (.dK kvs) ∧ GvAt H' kvs (gvL (fun t => wordF G0 (pl t)) (L.take i))) ⟨⟨none, rfl⟩, D9, hw9, hW9, hL9, [], hd9, .nil⟩ (fun i σ' H' _ hp => hp.2.2.2.2.1) (fun i x σ' H' hx hp => ?_) (fun σ' H' hp => ?_)
          · obtain ⟨⟨u10, rfl⟩, D10, hw10, hW10, hL10, kvs, hk10, hG10⟩ := hp
            obtain ⟨m, hm, rfl⟩ := nsV_get hx
            have hmn := Lb m (List.mem_of_getElem? hm)
            have hi := (List.getElem?_eq_some_iff.mp hm).1
            have hma : m < accw.length := by omega
            have hsec := hW10 m accw[m] (List.getElem?_eq_getElem hma)
            have hmv : (pl m).v = m := pl_v (by omega)
            walk_at "go"
            refine iIxL hw10 ((atI_natL _ _).trans (List.getElem?_eq_getElem hma)) ?_
            obtain ⟨ps0, eps, hps⟩ := hsec
            rw [eps]
            walk_at "go"
            refine iListL hps fun l2 hl2 => ?_
            have nl2 := D10.fresh hl2
            have ndl : d ≠ l2 := ne_of_none hk10 hl2
            have ex2 := Ex.new (o := .lst (bl (wordF G0 (pl m)))) hl2
            have nkey : pl m ∉ (gvL (fun t => wordF G0 (pl t)) (L.take i)).map (·.1) := by
              rw [gvL_keys]
              intro hmem
              obtain ⟨m2, h1, h2⟩ := List.mem_map.mp hmem
              have h3 := Lb m2 (List.mem_of_mem_take h1)
              have h4 := pl_inj (by omega) (by omega) h2
              subst h4
              obtain ⟨j, hj1, hj2⟩ := List.getElem_of_mem h1
              rw [List.length_take] at hj1
              rw [List.getElem_take] at hj2
              have h5 : L[i]'hi = m2 := (List.getElem?_eq_some_iff.mp hm).2
              exact (List.pairwise_iff_getElem.mp Ln j i (by omega) hi (by omega)) (hj2.trans h5.symm)
            walk_at "go"
            refine iDPi ((upd_ne ndl).trans hk10) (by rw [hG10.len, gvL_len, List.length_take]; omega) ?_
            have hnew := hG10.none nkey
            rw [hmv] at hnew
            rw [putK_new _ hnew]
            have e10 : Ex H' (upd H' l2 (.lst (bl (wordF G0 (pl m))))) := ex2
            have nd' : ∀ {v : V} {f : Nat → B}, SecAt (upd H' l2 (.lst (bl (wordF G0 (pl m))))) v f → SecAt (upd (upd H' l2 (.lst (bl (wordF G0 (pl m))))) d (.dK (kvs ++ [(.inl (m : Int), .ref l2)]))) v f := by
              rintro v f ⟨p, rfl, hp⟩
              refine ⟨p, rfl, (upd_ne ?_).trans hp⟩
              rintro rfl
              have := hp.symm.trans ((upd_ne ndl).trans hk10)
              cases this
            have gvd : ∀ {kvs' : List (Key × V)} {G : Gv}, GvAt (upd H' l2 (.lst (bl (wordF G0 (pl m))))) kvs' G → GvAt (upd (upd H' l2 (.lst (bl (wordF G0 (pl m))))) d (.dK (kvs ++ [(.inl (m : Int), .ref l2)]))) kvs' G := fun h => Paired.mapP h fun a b h => ⟨h.1, nd' h.2⟩
            refine ⟨⟨_, rfl⟩, (D10.new hl2).upd nd8.1 nd8.2, (upd_ne npd).trans (e10 _ _ hw10), fun t u e => nd' ((hW10 t u e).ex e10), (upd_ne nppd).trans (e10 _ _ hL10), _, upd_same, ?_⟩
            rw [List.take_add_one, hm]
            show GvAt _ _ ((L.take i ++ [m]).map fun m => (pl m, wordF G0 (pl m)))
            rw [List.map_append]
            exact GvAt.snoc (gvd (hG10.ex e10)) (by rw [show (pl m, wordF G0 (pl m)).1.v = m from hmv]) (nd' ⟨l2, rfl, upd_same⟩)
          · obtain ⟨⟨u10, rfl⟩, D10, hw10, hW10, hL10, kvs, hk10, hG10⟩ := hp
            have lnL : (nsV L).length = L.length := List.length_map ..
            rw [lnL, List.take_length] at hG10
            have Gnd := gvL_nd (F := fun t => wordF G0 (pl t)) Ln Lb2
            have Gbs := gvL_bs (F := fun t => wordF G0 (pl t)) Lb2
            have other : ∀ x t, t < 32 → wordF (gvL (fun t => wordF G0 (pl t)) L) x t = wordF G0 x t := fun x t ht => wordF_other G0nd Gnd (by rw [gvL_len]; omega) (fun g hg t ht => by
              obtain ⟨m, _, rfl⟩ := List.mem_map.mp hg
              rfl) x ht
            have npw3 : pw ≠ st := npw
            walk_at "go"
            refine forJ_range0 (fun i σ' H'' => (∃ u13 : Option V, σ' = [some (.ref sc), some (.ref st), some (.int n), some (.int k), some (.int s), u5, some (.ref D), some (.ref pw), some (.ref D5), some (.ref pp), u10, u11, some (.ref d), u13, none, none]) ∧ Ex H' H'') ⟨⟨none, rfl⟩, Ex.rfl' _⟩ (fun i σ' H'' hi hp => ?_) (fun σ' H'' hp => ?_)
            · obtain ⟨⟨u13, rfl⟩, e11⟩ := hp
              have hi : i < n := by rw [Int.toNat_natCast] at hi; exact hi
              have hiv : (pl i).v = i := pl_v (by omega)
              have hia : i < accw.length := by omega
              walk_at "go"
              have e3 : (i : Int) = ((pl i).v : Nat) := by rw [hiv]
              rw [e3]
              refine j_sector_at (e11 _ _ hk10) (hG10.ex e11) Gnd fun p H12 hp12 e12 h12 => ?_
              rw [hiv]
              walk_at "go"
              refine iIxL (e12 _ _ (e11 _ _ hw10)) ((atI_natL _ _).trans (List.getElem?_eq_getElem hia)) ?_
              walk_at "go"
              rw [bl_congr (other (pl i))] at h12
              refine j_sameD (m := 2) (d := ds (wordF G0 (pl i))) (ds_at ⟨p, rfl, h12⟩ 1) (ds_at (((hW10 i _ (List.getElem?_eq_getElem hia)).ex e11).ex e12) 1) ?_
              walk_at "go"
              exact ⟨⟨_, rfl⟩, fun a o h => e12 _ _ (e11 _ _ h)⟩
            · obtain ⟨⟨u13, rfl⟩, e11⟩ := hp
              walk_at "go"
              try refine iItL (e11 _ _ hL10) ?_
              refine forJ_list (nsV L) (fun i σ' H'' => (∃ u13 u14 : Option V, σ' = [some (.ref sc), some (.ref st), some (.int n), some (.int k), some (.int s), u5, some (.ref D), some (.ref pw), some (.ref D5), some (.ref pp), u10, u11, some (.ref d), u13, u14, none]) ∧ DrawAt H'' st l ∧ H'' pw = some (.lst accw) ∧ SecsAt H'' accw (fun t => wordF G0 (pl t)) ∧ H'' pp = some (.lst (nsV L)) ∧ H'' d = some (.dK kvs) ∧ GvAt H'' kvs (gvL (fun t => wordF G0 (pl t)) L)) ⟨⟨_, _, rfl⟩, D10.ex e11, e11 _ _ hw10, hW10.ex e11, e11 _ _ hL10, e11 _ _ hk10, hG10.ex e11⟩ (fun i σ' H'' _ hp => hp.2.2.2.2.1) (fun i x σ' H'' hx hp => ?_) (fun σ' H'' hp => ?_)
              · obtain ⟨⟨u13', u14, rfl⟩, D12, hw12, hW12, hL12, hk12, hG12⟩ := hp
                obtain ⟨m, hm, rfl⟩ := nsV_get hx
                have hmn := Lb m (List.mem_of_getElem? hm)
                have hmv : (pl m).v = m := pl_v (by omega)
                walk_at "go"
                refine j_next D12 (by omega) (by omega) fun y H13 y0 y1 D13 f13 => ?_
                have x13 := exb_fr f13
                have hL13 := x13 _ _ npp.1 hL12
                walk_at "go"
                refine iListL hL13 fun l3 hl3 => ?_
                have e14 := Ex.new (o := .lst (nsV L)) hl3
                have hyv : (pl y.toNat).v = y.toNat := pl_v (by omega)
                walk_at "go"
                have ey : y = ((pl y.toNat).v : Nat) := by rw [hyv]; omega
                have em : (m : Int) = ((pl m).v : Nat) := by rw [hmv]
                rw [ey, em]
                refine j_weight (L := (gvL (fun t => wordF G0 (pl t)) L).map (·.1)) (by rw [Gbs]; exact upd_same) ?_
                walk_at "go"
                refine j_lweight (L := (gvL (fun t => wordF G0 (pl t)) L).map (·.1)) (by rw [Gbs]; exact e14 _ _ hL13) fun H15 e15 => ?_
                walk_at "go"
                refine j_sameD (m := 2) (AtN.up _ rfl) (AtN.up _ rfl) ?_
                walk_at "go"
                have e16 : Ex H13 H15 := fun a o h => e15 _ _ (e14 _ _ h)
                exact ⟨⟨_, _, rfl⟩, D13.ex e16, e16 _ _ (x13 _ _ npw hw12), (hW12.exb D12 x13).ex e16, e16 _ _ hL13, e16 _ _ (x13 _ _ nd8.1 hk12), (hG12.exb D12 x13).ex e16⟩
              · obtain ⟨⟨u13', u14, rfl⟩, D12, hw12, hW12, hL12, hk12, hG12⟩ := hp
                walk_at "go"
                try refine iItL hL12 ?_
                refine lcR_l (nsV L) (fun i a H => a.length = i ∧ SecsAt H a (fun t => wordF G0 (pl (L.getD t 0)))) (by repeat constructor) hL12 (fun i a H H' e h => ⟨h.1, h.2.ex e⟩) ⟨rfl, fun t v e => by simp at e⟩ (fun D20 i a20 x H20 hD20 hx ha20 hl20 e20 r20 => ?_) (fun D20 a20 H20 hD20 e20 ha20 r20 => ?_)
                · obtain ⟨m, hm, rfl⟩ := nsV_get hx
                  have hmn := Lb m (List.mem_of_getElem? hm)
                  have hmv : (pl m).v = m := pl_v (by omega)
                  have hgm : (gvL (fun t => wordF G0 (pl t)) L)[i]? = some (pl m, wordF G0 (pl m)) := by
                    unfold gvL
                    rw [List.getElem?_map, hm]; rfl
                  obtain ⟨v, hv, hsv⟩ := (hG12.ex e20).val Gnd hgm
                  rw [show (pl m, wordF G0 (pl m)).1.v = m from hmv] at hv
                  walk_at "go"
                  refine iDGi (e20 _ _ hk12) hv ?_
                  walk_at "go"
                  refine iLcR hD20 (by have := (List.getElem?_eq_some_iff.mp hm).1; omega) hl20 e20 ha20 ⟨by rw [List.length_append, r20.1]; rfl, ?_⟩
                  refine SecsAt.snoc r20.2 ?_
                  obtain ⟨p, rfl, hp⟩ := hsv
                  refine ⟨p, rfl, ?_⟩
                  have pD : p ≠ D20 := by
                    obtain ⟨p', e', h'⟩ := (hG12.val Gnd hgm).elim fun v' hv' => by
                      have := hv'.1
                      rw [show (pl m, wordF G0 (pl m)).1.v = m from hmv, hv] at this
                      exact (Option.some.inj this) ▸ hv'.2
                    cases e'
                    exact ne_of_none h' hD20
                  rw [mk_at pD, hp, r20.1]
                  rw [show L.getD i 0 = m by rw [List.getD_eq_getElem?_getD, hm]; rfl]
                · have hw20 := e20 _ _ hw12
                  walk_at "go"
                  try refine iItL (e20 _ _ hL12) ?_
                  refine lcR_l (nsV L) (fun i a H => a.length = i ∧ SecsAt H a (fun t => wordF G0 (pl (L.getD t 0)))) (by repeat constructor) (e20 _ _ hL12) (fun i a H H' e h => ⟨h.1, h.2.ex e⟩) ⟨rfl, fun t v e => by simp at e⟩ (fun D21 i a21 x H21 hD21 hx ha21 hl21 e21 r21 => ?_) (fun D21 a21 H21 hD21 e21 ha21 r21 => ?_)
                  · obtain ⟨m, hm, rfl⟩ := nsV_get hx
                    have hmn := Lb m (List.mem_of_getElem? hm)
                    have hma : m < accw.length := by omega
                    walk_at "go"
                    refine iIxL (e21 _ _ hw20) ((atI_natL _ _).trans (List.getElem?_eq_getElem hma)) ?_
                    walk_at "go"
                    refine iLcR hD21 (by have := (List.getElem?_eq_some_iff.mp hm).1; omega) hl21 e21 ha21 ⟨by rw [List.length_append, r21.1]; rfl, ?_⟩
                    refine SecsAt.snoc r21.2 ?_
                    obtain ⟨p, ep, hp⟩ := (hW12.ex e20) m _ (List.getElem?_eq_getElem hma)
                    refine ⟨p, ep, ?_⟩
                    rw [mk_at (ne_of_none hp hD21), e21 _ _ hp, r21.1]
                    rw [show L.getD i 0 = m by rw [List.getD_eq_getElem?_getD, hm]; rfl]
                  · walk_at "go"
                    refine iEqDw (e21 _ _ ha20) (r20.2.ex e21) ha21 r21.2 (r20.1.trans r21.1.symm) ?_
                    exact q _
end
theorem all_mk {l : PySem.W.OpenLaw} {w : World} {K : PySem.W.Frag} {h : Heap} {mg : Str → Option Value} {fa : Addr} (X : K.In h) (G : h.Ns mainGlobals mg) (hfa : mg "law" = some (.ref fa))
    {f1 f2 f3 f4 f5 f6 f7 f8 f9 f10 f11 f12 f13 f14 f15 f16 f17 f18 : Addr} {od1 od2 od3 od4 od5 od6 od7 od8 od9 od10 od11 od12 od13 od14 od15 od16 od17 od18 an1 an2 an3 an4 an5 an6 an7 an8 an9 an10 an11 an12 an13 an14 an15 an16 an17 an18 : Option Addr} {sl1 sl2 sl3 sl4 sl5 sl6 sl7 sl8 sl9 sl10 sl11 sl12 sl13 sl14 sl15 sl16 sl17 sl18 : Array (Option Value)} {oc1 oc2 oc3 oc4 oc5 oc6 oc7 oc8 oc9 oc10 oc11 oc12 oc13 oc14 oc15 oc16 oc17 oc18 kV1 kV2 kV3 kV4 kV5 kV6 kV7 kV8 kV9 kV10 kV11 kV12 kV13 kV14 kV15 kV16 kV17 kV18 dc1 dc2 dc3 dc4 dc5 dc6 dc7 dc8 dc9 dc10 dc11 dc12 dc13 dc14 dc15 dc16 dc17 dc18 pm1 pm2 pm3 pm4 pm5 pm6 pm7 pm8 pm9 pm10 pm11 pm12 pm13 pm14 pm15 pm16 pm17 pm18 cd1 cd2 cd3 cd4 cd5 cd6 cd7 cd8 cd9 cd10 cd11 cd12 cd13 cd14 cd15 cd16 cd17 cd18 ct1 ct2 ct3 ct4 ct5 ct6 ct7 ct8 ct9 ct10 ct11 ct12 ct13 ct14 ct15 ct16 ct17 ct18 : Value} {t_SECTOR : Tok}
    (a1 : PySem.W.nsIn K mainGlobals "_law_next" = some (some (.ref f1))) (l1 : K.lookup f1 = some ⟨oc1, od1, .func (PySem.W.fnOf "_law_next" "_law_next" (defArgs s__law_next) (defBody s__law_next) (defScope s__law_next) .none kV1 dc1 pm1 an1 cd1 ct1), sl1⟩) (c1 : PySem.W.codeIn K cd1 "_law_next" = true) (k1 : PySem.W.keepIn K (.ref f1) = true)
    (a2 : PySem.W.nsIn K mainGlobals "_law_same" = some (some (.ref f2))) (l2 : K.lookup f2 = some ⟨oc2, od2, .func (PySem.W.fnOf "_law_same" "_law_same" (defArgs s__law_same) (defBody s__law_same) (defScope s__law_same) .none kV2 dc2 pm2 an2 cd2 ct2), sl2⟩) (c2 : PySem.W.codeIn K cd2 "_law_same" = true) (k2 : PySem.W.keepIn K (.ref f2) = true)
    (a3 : PySem.W.nsIn K mainGlobals "double" = some (some (.ref f3))) (l3 : K.lookup f3 = some ⟨oc3, od3, .func (PySem.W.fnOf "double" "double" (defArgs s_double) (defBody s_double) (defScope s_double) .none kV3 dc3 pm3 an3 cd3 ct3), sl3⟩) (c3 : PySem.W.codeIn K cd3 "double" = true) (k3 : PySem.W.keepIn K (.ref f3) = true)
    (a4 : PySem.W.nsIn K mainGlobals "product" = some (some (.ref f4))) (l4 : K.lookup f4 = some ⟨oc4, od4, .func (PySem.W.fnOf "product" "product" (defArgs s_product) (defBody s_product) (defScope s_product) .none kV4 dc4 pm4 an4 cd4 ct4), sl4⟩) (c4 : PySem.W.codeIn K cd4 "product" = true) (k4 : PySem.W.keepIn K (.ref f4) = true)
    (a5 : PySem.W.nsIn K mainGlobals "inverse" = some (some (.ref f5))) (l5 : K.lookup f5 = some ⟨oc5, od5, .func (PySem.W.fnOf "inverse" "inverse" (defArgs s_inverse) (defBody s_inverse) (defScope s_inverse) .none kV5 dc5 pm5 an5 cd5 ct5), sl5⟩) (c5 : PySem.W.codeIn K cd5 "inverse" = true) (k5 : PySem.W.keepIn K (.ref f5) = true)
    (a6 : PySem.W.nsIn K mainGlobals "_law_times" = some (some (.ref f6))) (l6 : K.lookup f6 = some ⟨oc6, od6, .func (PySem.W.fnOf "_law_times" "_law_times" (defArgs s__law_times) (defBody s__law_times) (defScope s__law_times) .none kV6 dc6 pm6 an6 cd6 ct6), sl6⟩) (c6 : PySem.W.codeIn K cd6 "_law_times" = true) (k6 : PySem.W.keepIn K (.ref f6) = true)
    (a7 : PySem.W.nsIn K mainGlobals "products" = some (some (.ref f7))) (l7 : K.lookup f7 = some ⟨oc7, od7, .func (PySem.W.fnOf "products" "products" (defArgs s_products) (defBody s_products) (defScope s_products) .none kV7 dc7 pm7 an7 cd7 ct7), sl7⟩) (c7 : PySem.W.codeIn K cd7 "products" = true) (k7 : PySem.W.keepIn K (.ref f7) = true)
    (a8 : PySem.W.nsIn K mainGlobals "weight" = some (some (.ref f8))) (l8 : K.lookup f8 = some ⟨oc8, od8, .func (PySem.W.fnOf "weight" "weight" (defArgs s_weight) (defBody s_weight) (defScope s_weight) .none kV8 dc8 pm8 an8 cd8 ct8), sl8⟩) (c8 : PySem.W.codeIn K cd8 "weight" = true) (k8 : PySem.W.keepIn K (.ref f8) = true)
    (a9 : PySem.W.nsIn K mainGlobals "sector_at" = some (some (.ref f9))) (l9 : K.lookup f9 = some ⟨oc9, od9, .func (PySem.W.fnOf "sector_at" "sector_at" (defArgs s_sector_at) (defBody s_sector_at) (defScope s_sector_at) .none kV9 dc9 pm9 an9 cd9 ct9), sl9⟩) (c9 : PySem.W.codeIn K cd9 "sector_at" = true) (k9 : PySem.W.keepIn K (.ref f9) = true)
    (a10 : PySem.W.nsIn K mainGlobals "word_through" = some (some (.ref f10))) (l10 : K.lookup f10 = some ⟨oc10, od10, .func (PySem.W.fnOf "word_through" "word_through" (defArgs s_word_through) (defBody s_word_through) (defScope s_word_through) .none kV10 dc10 pm10 an10 cd10 ct10), sl10⟩) (c10 : PySem.W.codeIn K cd10 "word_through" = true) (k10 : PySem.W.keepIn K (.ref f10) = true)
    (a11 : PySem.W.nsIn K mainGlobals "make_word" = some (some (.ref f11))) (l11 : K.lookup f11 = some ⟨oc11, od11, .func (PySem.W.fnOf "make_word" "make_word" (defArgs s_make_word) (defBody s_make_word) (defScope s_make_word) .none kV11 dc11 pm11 an11 cd11 ct11), sl11⟩) (c11 : PySem.W.codeIn K cd11 "make_word" = true) (k11 : PySem.W.keepIn K (.ref f11) = true)
    (a12 : PySem.W.nsIn K mainGlobals "_law_sector" = some (some (.ref f12))) (l12 : K.lookup f12 = some ⟨oc12, od12, .func (PySem.W.fnOf "_law_sector" "_law_sector" (defArgs s__law_sector) (defBody s__law_sector) (defScope s__law_sector) .none kV12 dc12 pm12 an12 cd12 ct12), sl12⟩) (c12 : PySem.W.codeIn K cd12 "_law_sector" = true) (k12 : PySem.W.keepIn K (.ref f12) = true)
    (a13 : PySem.W.nsIn K mainGlobals "_law_sizes" = some (some (.ref f13))) (l13 : K.lookup f13 = some ⟨oc13, od13, .func (PySem.W.fnOf "_law_sizes" "_law_sizes" (defArgs s__law_sizes) (defBody s__law_sizes) (defScope s__law_sizes) .none kV13 dc13 pm13 an13 cd13 ct13), sl13⟩) (c13 : PySem.W.codeIn K cd13 "_law_sizes" = true) (k13 : PySem.W.keepIn K (.ref f13) = true)
    (a14 : PySem.W.nsIn K mainGlobals "_law_inverse" = some (some (.ref f14))) (l14 : K.lookup f14 = some ⟨oc14, od14, .func (PySem.W.fnOf "_law_inverse" "_law_inverse" (defArgs s__law_inverse) (defBody s__law_inverse) (defScope s__law_inverse) .none kV14 dc14 pm14 an14 cd14 ct14), sl14⟩) (c14 : PySem.W.codeIn K cd14 "_law_inverse" = true) (k14 : PySem.W.keepIn K (.ref f14) = true)
    (a15 : PySem.W.nsIn K mainGlobals "_law_weight" = some (some (.ref f15))) (l15 : K.lookup f15 = some ⟨oc15, od15, .func (PySem.W.fnOf "_law_weight" "_law_weight" (defArgs s__law_weight) (defBody s__law_weight) (defScope s__law_weight) .none kV15 dc15 pm15 an15 cd15 ct15), sl15⟩) (c15 : PySem.W.codeIn K cd15 "_law_weight" = true) (k15 : PySem.W.keepIn K (.ref f15) = true)
    (a16 : PySem.W.nsIn K mainGlobals "_law_sector_at" = some (some (.ref f16))) (l16 : K.lookup f16 = some ⟨oc16, od16, .func (PySem.W.fnOf "_law_sector_at" "_law_sector_at" (defArgs s__law_sector_at) (defBody s__law_sector_at) (defScope s__law_sector_at) .none kV16 dc16 pm16 an16 cd16 ct16), sl16⟩) (c16 : PySem.W.codeIn K cd16 "_law_sector_at" = true) (k16 : PySem.W.keepIn K (.ref f16) = true)
    (a17 : PySem.W.nsIn K mainGlobals "_law_word" = some (some (.ref f17))) (l17 : K.lookup f17 = some ⟨oc17, od17, .func (PySem.W.fnOf "_law_word" "_law_word" (defArgs s__law_word) (defBody s__law_word) (defScope s__law_word) .none kV17 dc17 pm17 an17 cd17 ct17), sl17⟩) (c17 : PySem.W.codeIn K cd17 "_law_word" = true) (k17 : PySem.W.keepIn K (.ref f17) = true)
    (a18 : PySem.W.nsIn K mainGlobals "law" = some (some (.ref f18))) (l18 : K.lookup f18 = some ⟨oc18, od18, .func (PySem.W.fnOf "law" "law" (defArgs s_law) (defBody s_law) (defScope s_law) .none kV18 dc18 pm18 an18 cd18 ct18), sl18⟩) (c18 : PySem.W.codeIn K cd18 "law" = true) (k18 : PySem.W.keepIn K (.ref f18) = true)
    (z_bool : PySem.W.nsIn K mainGlobals "bool" = some none)
    (z_dict : PySem.W.nsIn K mainGlobals "dict" = some none)
    (z_enumerate : PySem.W.nsIn K mainGlobals "enumerate" = some none)
    (z_int : PySem.W.nsIn K mainGlobals "int" = some none)
    (z_isinstance : PySem.W.nsIn K mainGlobals "isinstance" = some none)
    (z_len : PySem.W.nsIn K mainGlobals "len" = some none)
    (z_list : PySem.W.nsIn K mainGlobals "list" = some none)
    (z_range : PySem.W.nsIn K mainGlobals "range" = some none)
    (z_sorted : PySem.W.nsIn K mainGlobals "sorted" = some none)
    (z_str : PySem.W.nsIn K mainGlobals "str" = some none)
    (z_tuple : PySem.W.nsIn K mainGlobals "tuple" = some none)
    (z_zip : PySem.W.nsIn K mainGlobals "zip" = some none)
    (v_SECTOR : PySem.W.nsIn K mainGlobals "SECTOR" = some (some (.int 32 t_SECTOR))) :
    ∃ fd : FuncData, (∀ (s : Shared) (v : Value), BindsTo s fd ⟨[v], []⟩ [("script", v)]) ∧ ∀ base : Heap, K.In base → base.Ns mainGlobals mg → FnOk l.prog w K mg base CX0 8 fa fd ["script"] (sp_law K) := by
  have e := hfa.symm.trans (PySem.W.mg_of X G a18)
  cases e
  have F__law_next := fun_mk (st := s__law_next) l1 c1 k1
  have g__law_next := PySem.W.mg_of X G a1
  have b__law_next := F__law_next.binds (ps := ["state", "limit"]) fun _ _ _ _ _ _ us hl => match us, hl with | [_, _], _ => rfl
  have F__law_same := fun_mk (st := s__law_same) l2 c2 k2
  have g__law_same := PySem.W.mg_of X G a2
  have b__law_same := F__law_same.binds (ps := ["actual", "expected"]) fun _ _ _ _ _ _ us hl => match us, hl with | [_, _], _ => rfl
  have F_double := fun_mk (st := s_double) l3 c3 k3
  have g_double := PySem.W.mg_of X G a3
  have b_double := F_double.binds (ps := ["a"]) fun _ _ _ _ _ _ us hl => match us, hl with | [_], _ => rfl
  have F_product := fun_mk (st := s_product) l4 c4 k4
  have g_product := PySem.W.mg_of X G a4
  have b_product := F_product.binds (ps := ["a", "b"]) fun _ _ _ _ _ _ us hl => match us, hl with | [_, _], _ => rfl
  have F_inverse := fun_mk (st := s_inverse) l5 c5 k5
  have g_inverse := PySem.W.mg_of X G a5
  have b_inverse := F_inverse.binds (ps := ["a"]) fun _ _ _ _ _ _ us hl => match us, hl with | [_], _ => rfl
  have F__law_times := fun_mk (st := s__law_times) l6 c6 k6
  have g__law_times := PySem.W.mg_of X G a6
  have b__law_times := F__law_times.binds (ps := ["a", "b"]) fun _ _ _ _ _ _ us hl => match us, hl with | [_, _], _ => rfl
  have F_products := fun_mk (st := s_products) l7 c7 k7
  have g_products := PySem.W.mg_of X G a7
  have b_products := F_products.binds (ps := ["a"]) fun _ _ _ _ _ _ us hl => match us, hl with | [_], _ => rfl
  have F_weight := fun_mk (st := s_weight) l8 c8 k8
  have g_weight := PySem.W.mg_of X G a8
  have b_weight := F_weight.binds (ps := ["x", "places", "i"]) fun _ _ _ _ _ _ us hl => match us, hl with | [_, _, _], _ => rfl
  have F_sector_at := fun_mk (st := s_sector_at) l9 c9 k9
  have g_sector_at := PySem.W.mg_of X G a9
  have b_sector_at := F_sector_at.binds (ps := ["x", "given"]) fun _ _ _ _ _ _ us hl => match us, hl with | [_, _], _ => rfl
  have F_word_through := fun_mk (st := s_word_through) l10 c10 k10
  have g_word_through := PySem.W.mg_of X G a10
  have b_word_through := F_word_through.binds (ps := ["given", "n"]) fun _ _ _ _ _ _ us hl => match us, hl with | [_, _], _ => rfl
  have F_make_word := fun_mk (st := s_make_word) l11 c11 k11
  have g_make_word := PySem.W.mg_of X G a11
  have b_make_word := F_make_word.binds (ps := ["parts", "n"]) fun _ _ _ _ _ _ us hl => match us, hl with | [_, _], _ => rfl
  have F__law_sector := fun_mk (st := s__law_sector) l12 c12 k12
  have g__law_sector := PySem.W.mg_of X G a12
  have b__law_sector := F__law_sector.binds (ps := ["state"]) fun _ _ _ _ _ _ us hl => match us, hl with | [_], _ => rfl
  have F__law_sizes := fun_mk (st := s__law_sizes) l13 c13 k13
  have g__law_sizes := PySem.W.mg_of X G a13
  have b__law_sizes := F__law_sizes.binds (ps := ["state"]) fun _ _ _ _ _ _ us hl => match us, hl with | [_], _ => rfl
  have F__law_inverse := fun_mk (st := s__law_inverse) l14 c14 k14
  have g__law_inverse := PySem.W.mg_of X G a14
  have b__law_inverse := F__law_inverse.binds (ps := ["a"]) fun _ _ _ _ _ _ us hl => match us, hl with | [_], _ => rfl
  have F__law_weight := fun_mk (st := s__law_weight) l15 c15 k15
  have g__law_weight := PySem.W.mg_of X G a15
  have b__law_weight := F__law_weight.binds (ps := ["x", "places", "i"]) fun _ _ _ _ _ _ us hl => match us, hl with | [_, _, _], _ => rfl
  have F__law_sector_at := fun_mk (st := s__law_sector_at) l16 c16 k16
  have g__law_sector_at := PySem.W.mg_of X G a16
  have b__law_sector_at := F__law_sector_at.binds (ps := ["x", "given"]) fun _ _ _ _ _ _ us hl => match us, hl with | [_, _], _ => rfl
  have F__law_word := fun_mk (st := s__law_word) l17 c17 k17
  have g__law_word := PySem.W.mg_of X G a17
  have b__law_word := F__law_word.binds (ps := ["parts", "n"]) fun _ _ _ _ _ _ us hl => match us, hl with | [_, _], _ => rfl
  have F_law := fun_mk (st := s_law) l18 c18 k18
  have g_law := PySem.W.mg_of X G a18
  have b_law := F_law.binds (ps := ["script"]) fun _ _ _ _ _ _ us hl => match us, hl with | [_], _ => rfl
  have M : Mg mg := ⟨PySem.W.mg_none_of X G z_bool, PySem.W.mg_none_of X G z_dict, PySem.W.mg_none_of X G z_enumerate, PySem.W.mg_none_of X G z_int, PySem.W.mg_none_of X G z_isinstance, PySem.W.mg_none_of X G z_len, PySem.W.mg_none_of X G z_list, PySem.W.mg_none_of X G z_range, PySem.W.mg_none_of X G z_sorted, PySem.W.mg_none_of X G z_str, PySem.W.mg_none_of X G z_tuple, PySem.W.mg_none_of X G z_zip, ⟨_, PySem.W.mg_of X G v_SECTOR⟩⟩
  refine ⟨(PySem.W.fnOf "law" "law" (defArgs s_law) (defBody s_law) (defScope s_law) .none kV18 dc18 pm18 an18 cd18 ct18), fun s v => .of_eq rfl, fun base _ _ => ?_⟩

  have s3 : Cal l.prog w K mg base 3 "_law_same" ["actual", "expected"] (sp__law_same 3) := .mk' F__law_same g__law_same b__law_same (ok__law_same M F__law_same g__law_same b__law_same 3)
  have cd : Cal l.prog w K mg base 1 "double" ["a"] sp_double := .mk' F_double g_double b_double (ok_double M F_double)
  have cp : Cal l.prog w K mg base 2 "product" ["a", "b"] sp_product := .mk' F_product g_product b_product (ok_product M F_product cd)
  have ci : Cal l.prog w K mg base 3 "inverse" ["a"] sp_inverse := .mk' F_inverse g_inverse b_inverse (ok_inverse M F_inverse cp)
  have cps : Cal l.prog w K mg base 2 "products" ["a"] sp_products := .mk' F_products g_products b_products (ok_products M F_products cd)
  have cw : Cal l.prog w K mg base 4 "weight" ["x", "places", "i"] sp_weight := .mk' F_weight g_weight b_weight (ok_weight M F_weight cp ci)
  have csa : Cal l.prog w K mg base 5 "sector_at" ["x", "given"] sp_sector_at := .mk' F_sector_at g_sector_at b_sector_at (ok_sector_at M F_sector_at cps cw)
  have cwt : Cal l.prog w K mg base 6 "word_through" ["given", "n"] sp_word_through := .mk' F_word_through g_word_through b_word_through (ok_word_through M F_word_through csa)
  have cmw : Cal l.prog w K mg base 7 "make_word" ["parts", "n"] sp_make_word := .mk' F_make_word g_make_word b_make_word (ok_make_word M F_make_word cwt)
  have ct : Cal l.prog w K mg base 1 "_law_times" ["a", "b"] sp__law_times := .mk' F__law_times g__law_times b__law_times (ok__law_times M F__law_times)
  have cli : Cal l.prog w K mg base 2 "_law_inverse" ["a"] sp__law_inverse := .mk' F__law_inverse g__law_inverse b__law_inverse (ok__law_inverse M F__law_inverse ct)
  have clw : Cal l.prog w K mg base 3 "_law_weight" ["x", "places", "i"] sp__law_weight := .mk' F__law_weight g__law_weight b__law_weight (ok__law_weight M F__law_weight ct cli)
  have cls : Cal l.prog w K mg base 4 "_law_sector_at" ["x", "given"] sp__law_sector_at := .mk' F__law_sector_at g__law_sector_at b__law_sector_at (ok__law_sector_at M F__law_sector_at ct clw)
  have clo : Cal l.prog w K mg base 5 "_law_word" ["parts", "n"] sp__law_word := .mk' F__law_word g__law_word b__law_word (ok__law_word M F__law_word cls)
  have cn : Cal l.prog w K mg base 1 "_law_next" ["state", "limit"] sp__law_next := .mk' F__law_next g__law_next b__law_next (ok__law_next M F__law_next)
  have cse : Cal l.prog w K mg base 2 "_law_sector" ["state"] sp__law_sector := .mk' F__law_sector g__law_sector b__law_sector (ok__law_sector M F__law_sector cn)
  have csi : Cal l.prog w K mg base 2 "_law_sizes" ["state"] sp__law_sizes := .mk' F__law_sizes g__law_sizes b__law_sizes (ok__law_sizes M F__law_sizes cn)
  exact ok_law M F_law cn s3 cse csi clw clo cmw csa cw
end R
open PySem PySem.W PyProof.Rows
set_option maxHeartbeats 0 in
theorem PySem.Challenge.cw_rotward_k21_words_holds : PySem.Challenge.rw_rotward_k21_words.Holds := by
  w_on; o_law; k_head; (case hw => w_witness2)
  k_fill
  refine L2.walk_of (l := PySem.Challenge.rw_rotward_k21_words) (n := 63) (k := 8) (x := "script") (CX := fun _ => L2.CX0) (sp := fun w => R.sp_law _) rfl (by decide) rfl ⟨rfl, by decide, by decide⟩ (fun w h Y => PySem.W.kIn_of Y) ?F (fun _ _ a ns hl _ hS => ⟨a, ns, rfl, hS, hl, fun _ => rfl⟩) (fun _ _ _ _ _ h => h)
  case F =>
    intro w mg fa h KX G hmg
    refine' R.all_mk KX G hmg ?a1 ?l1 ?c1 ?k1 ?a2 ?l2 ?c2 ?k2 ?a3 ?l3 ?c3 ?k3 ?a4 ?l4 ?c4 ?k4 ?a5 ?l5 ?c5 ?k5 ?a6 ?l6 ?c6 ?k6 ?a7 ?l7 ?c7 ?k7 ?a8 ?l8 ?c8 ?k8 ?a9 ?l9 ?c9 ?k9 ?a10 ?l10 ?c10 ?k10 ?a11 ?l11 ?c11 ?k11 ?a12 ?l12 ?c12 ?k12 ?a13 ?l13 ?c13 ?k13 ?a14 ?l14 ?c14 ?k14 ?a15 ?l15 ?c15 ?k15 ?a16 ?l16 ?c16 ?k16 ?a17 ?l17 ?c17 ?k17 ?a18 ?l18 ?c18 ?k18 ?z_bool ?z_dict ?z_enumerate ?z_int ?z_isinstance ?z_len ?z_list ?z_range ?z_sorted ?z_str ?z_tuple ?z_zip ?v_SECTOR
    (case a1 => k_is); (case l1 => k_is); (case c1 => k_is); (case k1 => k_is); (case a2 => k_is); (case l2 => k_is); (case c2 => k_is); (case k2 => k_is); (case a3 => k_is); (case l3 => k_is); (case c3 => k_is); (case k3 => k_is); (case a4 => k_is); (case l4 => k_is); (case c4 => k_is); (case k4 => k_is); (case a5 => k_is); (case l5 => k_is); (case c5 => k_is); (case k5 => k_is); (case a6 => k_is); (case l6 => k_is); (case c6 => k_is); (case k6 => k_is); (case a7 => k_is); (case l7 => k_is); (case c7 => k_is); (case k7 => k_is); (case a8 => k_is); (case l8 => k_is); (case c8 => k_is); (case k8 => k_is); (case a9 => k_is); (case l9 => k_is); (case c9 => k_is); (case k9 => k_is); (case a10 => k_is); (case l10 => k_is); (case c10 => k_is); (case k10 => k_is); (case a11 => k_is); (case l11 => k_is); (case c11 => k_is); (case k11 => k_is); (case a12 => k_is); (case l12 => k_is); (case c12 => k_is); (case k12 => k_is); (case a13 => k_is); (case l13 => k_is); (case c13 => k_is); (case k13 => k_is); (case a14 => k_is); (case l14 => k_is); (case c14 => k_is); (case k14 => k_is); (case a15 => k_is); (case l15 => k_is); (case c15 => k_is); (case k15 => k_is); (case a16 => k_is); (case l16 => k_is); (case c16 => k_is); (case k16 => k_is); (case a17 => k_is); (case l17 => k_is); (case c17 => k_is); (case k17 => k_is); (case a18 => k_is); (case l18 => k_is); (case c18 => k_is); (case k18 => k_is); (case z_bool => k_is); (case z_dict => k_is); (case z_enumerate => k_is); (case z_int => k_is); (case z_isinstance => k_is); (case z_len => k_is); (case z_list => k_is); (case z_range => k_is); (case z_sorted => k_is); (case z_str => k_is); (case z_tuple => k_is); (case z_zip => k_is); (case v_SECTOR => k_is)

