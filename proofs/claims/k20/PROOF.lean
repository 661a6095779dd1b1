import PyProof.Rows.All
import Wide.All
import OpenK.AllK
import Wide.FinOn
import HandS.ForMost
import HandS.IsInst
import HandS.Steps
import HandS.Evl
import PySem.Challenge.RW_rotward_k20_field_of_bytes
set_option Elab.async false
set_option linter.all false
set_option maxRecDepth 100000
set_option maxHeartbeats 4000000
namespace R
open PySem PySem.Spec L2

/-! ### rules that the layer lacks -/
section
variable {X : Cx}
/-- xs[i] read for an operation in place -/
theorem get_list : PGet X (rIxL X.K) := by
  intro pins s σ H o i ov iv Q I ro ri h
  obtain ⟨p, xs, k, z, rfl, rfl, hq, he, q⟩ := h
  cases ro
  obtain ⟨t, rfl⟩ := ri
  obtain ⟨us, vs, pl, hz⟩ := I.list hq
  obtain ⟨j, g1, g2, g3, g4, g5⟩ := atI_get he
  obtain ⟨u, eu, ru⟩ := vs.get g2
  have ln := vs.length
  have l63 := line63
  have dn : EP X pins σ Q u s := ⟨z, H, I, ru, q⟩
  rcases Int.lt_or_le k 0 with k0 | k0
  · rw [seqIndex_neg k0 g4] at g1
    have g1' := Option.some.inj g1
    refine wpAny_getItem_list_neg pl.isList k0 ?_ (by omega) ?_ dn
    · rw [List.size_toArray] <;> omega
    · rw [List.size_toArray, ← ln, g1']
      simpa using eu
  · rw [seqIndex_of k0 g5] at g1
    have g1' := Option.some.inj g1
    refine wpAny_getItem_list pl.isList k0 (by omega) ?_ dn
    rw [g1']
    simpa using eu
theorem pe_globC {x : Str} {i : Int} {pos : Pos} (hg : Gl X x) (h : ∃ t, X.mg x = some (.int i t)) (hd : (x == ("__debug__" : Str)) = false := by decide) : PE X (.Name x pos) (tC (.int i)) := by
  obtain ⟨t, h⟩ := h
  exact pe_glob hg h ⟨t, rfl⟩ hd
end

theorem pe_ty {X : Cx} {x : Str} {n : String} {pos : Pos} (hg : Gl X x) (hm : X.mg x = none) (hv : bootBuiltins x = some (.type n)) (hn : x ≠ "__name__" := by decide) (hd : (x == ("__debug__" : Str)) = false := by decide) : PE X (.Name x pos) (tC (.ty n)) := pe_bltn hg hm hv rfl hn hd
/-! ### a def that may be called -/
def Cal (P : Program) (w : World) (K : PySem.W.Frag) (mg : Str → Option Value) (base : Heap) (k : Nat) (x : Str) (ps : List Str) (sp : Sp) : Prop :=
  ∃ (f : Addr) (fd : FuncData), FnOk P w K mg base CX0 k f fd ps sp ∧ mg x = some (.ref f) ∧ PySem.W.keepIn K (.ref f) = true ∧ Binds K fd ps []
section
variable {P : Program} {w : World} {K : PySem.W.Frag} {mg : Str → Option Value} {base : Heap} {k : Nat} {x : Str} {ps : List Str} {sp : Sp}
theorem Cal.mk' {q : Str} {st : Stmt} {f : Addr} {fd : FuncData} (F : Fun K x q st f fd) (g : mg x = some (.ref f)) (b : Binds K fd ps []) (G : FnOk P w K mg base CX0 k f fd ps sp) : Cal P w K mg base k x ps sp := ⟨f, fd, G, g, F.kp, b⟩
theorem Cal.imp {sp' : Sp} (c : Cal P w K mg base k x ps sp) (h : ∀ vs H Q E, sp' vs H Q E → sp vs H Q E) : Cal P w K mg base k x ps sp' := by
  obtain ⟨f, fd, G, g, kp, b⟩ := c
  exact ⟨f, fd, G.imp h, g, kp, b⟩
theorem Cal.mono {j : Nat} (c : Cal P w K mg base k x ps sp) (h : k ≤ j) : Cal P w K mg base j x ps sp := by
  obtain ⟨f, fd, G, g, kp, b⟩ := c
  exact ⟨f, fd, G.mono h, g, kp, b⟩
end
section
variable {X : Cx} {k : Nat} {x : Str} {ps : List Str} {sp : Sp} {t : TA} {e : Expr} {es : List Expr} {p pos : Pos}
/-- the value of a call -/
def tCal (sp : Sp) (t : TA) : TE := fun σ H Q => t σ H fun vs H1 => sp vs H1 Q E0
theorem tCall_nil (sp : Sp) (t : TA) : tCall sp [] E0 t = tCal sp t := by
  funext σ H Q
  show (t σ H fun vs H1 => sp (vs ++ []) H1 Q E0) = (t σ H fun vs H1 => sp vs H1 Q E0)
  simp only [List.append_nil]
theorem pe_cal (c : Cal X.prog X.w X.K X.mg X.base k x ps sp) (hr : Room k X.A) (hg : Gl X x) (ha : PA X (e :: es) t)
    (hdb : (x == ("__debug__" : Str)) = false := by decide) (he : starEach (e :: es) X.env = (false, eval e X.env) :: starEach es X.env := by rfl) (hpl : (backTo pos (starEach es X.env)).any (·.1) = false := by rfl) :
    PE X (.Call (.Name x p) (e :: es) [] pos) (tCal sp t) := by
  obtain ⟨f, fd, G, g, kp, b⟩ := c
  have h := pe_call (p := p) (pos := pos) G hr hg g kp b .nil pass0 ha hdb he hpl
  rw [tCall_nil] at h
  exact h
theorem pe_cal0 (c : Cal X.prog X.w X.K X.mg X.base k x ps sp) (hr : Room k X.A) (hg : Gl X x) (hdb : (x == ("__debug__" : Str)) = false := by decide) : PE X (.Call (.Name x p) [] [] pos) (tCal sp tNil) := by
  obtain ⟨f, fd, G, g, kp, b⟩ := c
  have h := pe_call0 (p := p) (pos := pos) G hr hg g kp b .nil pass0 hdb
  rw [tCall_nil] at h
  exact h
end

/-! ### rules over what is tracked: their readings open by simp alone -/
section
variable {X : Cx} {e a b : Expr}
theorem PE.imp {t t' : TE} (h : PE X e t) (i : ∀ σ H Q, t' σ H Q → t σ H Q) : PE X e t' := ⟨fun pins s σ H Q I q => h.run pins s σ H Q I (i σ H Q q)⟩
theorem PT.imp {t t' : TT} (h : PT X e t) (i : ∀ σ H Q, t' σ H Q → t σ H Q) : PT X e t' := ⟨fun pins s σ H Q I q => h.run pins s σ H Q I (i σ H Q q)⟩
theorem PS.imp {st : Stmt} {t t' : TS} (h : PS X st t) (i : ∀ D σ H, t' D σ H → t D σ H) : PS X st t' := ⟨fun pins s σ H D I q => h.run pins s σ H D I (i D σ H q)⟩
theorem CallR.imp {f : Value} {r r' : List V → Hp → VK → Prop} (h : CallR X f r) (i : ∀ xs H Q, r' xs H Q → r xs H Q) : CallR X f r' := fun pins s σ H xs us Q I rv q => h pins s σ H xs us Q I rv (i xs H Q q)
theorem IxR.imp {r r' : R2} (h : IxR X r) (i : ∀ x y H Q, r' x y H Q → r x y H Q) : IxR X r' := fun value slice pins s σ H x y v u Q I rx ry q hs => h value slice pins s σ H x y v u Q I rx ry (i x y H Q q) hs
theorem SqL.tr {K : PySem.W.Frag} {H : Hp} {p : Addr} {xs : List V} (h : H p = some (.lst xs)) : SqL K H p xs := .inl (.inl h)
theorem SqT.tr {K : PySem.W.Frag} {H : Hp} {p : Addr} {xs : List V} (h : H p = some (.tup xs)) : SqT K H p xs := .inl (.inl h)

/-- xs[i], a tracked list | tuple -/
def kIxL : R2 := fun x y H Q => ∃ p i xs v, x = .ref p ∧ y = .int i ∧ H p = some (.lst xs) ∧ atI xs i = some v ∧ Q v H
def kIxT : R2 := fun x y H Q => ∃ p i xs v, x = .ref p ∧ y = .int i ∧ H p = some (.tup xs) ∧ atI xs i = some v ∧ Q v H
theorem ix_l : IxR X kIxL := IxR.imp ix_list fun _ _ _ _ ⟨p, i, xs, v, e1, e2, h, ha, q⟩ => ⟨p, xs, i, v, e1, e2, SqL.tr h, ha, q⟩
theorem ix_t : IxR X kIxT := IxR.imp ix_tup fun _ _ _ _ ⟨p, i, xs, v, e1, e2, h, ha, q⟩ => ⟨p, xs, i, v, e1, e2, SqT.tr h, ha, q⟩
theorem get_l : PGet X kIxL := fun pins s σ H o i ov iv Q I ro ri ⟨p, i', xs, v, e1, e2, h, ha, q⟩ => get_list pins s σ H o i ov iv Q I ro ri ⟨p, xs, i', v, e1, e2, SqL.tr h, ha, q⟩
/-- len -/
def kLenL : List V → Hp → VK → Prop := fun vs H Q => ∃ p xs, vs = [.ref p] ∧ H p = some (.lst xs) ∧ Q (.int xs.length) H
def kLenT : List V → Hp → VK → Prop := fun vs H Q => ∃ p xs, vs = [.ref p] ∧ H p = some (.tup xs) ∧ Q (.int xs.length) H
theorem len_l : CallR X (.builtin "len") kLenL := CallR.imp call_len_seq fun _ _ _ ⟨p, xs, e, h, q⟩ => ⟨p, xs, e, .inl (SqL.tr h), q⟩
theorem len_t : CallR X (.builtin "len") kLenT := CallR.imp call_len_seq fun _ _ _ ⟨p, xs, e, h, q⟩ => ⟨p, xs, e, .inr (SqT.tr h), q⟩
/-- list or tuple -/
def kIxS : R2 := fun x y H Q => ∃ p i xs v, x = .ref p ∧ y = .int i ∧ (H p = some (.lst xs) ∨ H p = some (.tup xs)) ∧ atI xs i = some v ∧ Q v H
theorem ix_s : IxR X kIxS := IxR.imp ix_seq fun _ _ _ _ ⟨p, i, xs, v, e1, e2, h, ha, q⟩ => h.elim (fun h => .inl ⟨p, xs, i, v, e1, e2, SqL.tr h, ha, q⟩) fun h => .inr (.inl ⟨p, xs, i, v, e1, e2, SqT.tr h, ha, q⟩)
def kLenS : List V → Hp → VK → Prop := fun vs H Q => ∃ p xs, vs = [.ref p] ∧ (H p = some (.lst xs) ∨ H p = some (.tup xs)) ∧ Q (.int xs.length) H
theorem len_s : CallR X (.builtin "len") kLenS := CallR.imp call_len_seq fun _ _ _ ⟨p, xs, e, h, q⟩ => ⟨p, xs, e, h.elim (fun h => .inl (SqL.tr h)) (fun h => .inr (SqT.tr h)), q⟩
/-- int(i) -/
def kInt : List V → Hp → VK → Prop := fun vs H Q => ∃ i, vs = [.int i] ∧ Q (.int i) H
theorem int_i : CallR X (.type "int") kInt := CallR.imp call_int1 fun _ _ _ ⟨i, e, q⟩ => .inl ⟨i, e, q⟩
/-- list(xs): a new one -/
def kListL : List V → Hp → VK → Prop := fun vs H Q => ∃ p xs, vs = [.ref p] ∧ H p = some (.lst xs) ∧ ∀ l, H l = none → Q (.ref l) (upd H l (.lst xs))
theorem list_l : CallR X (.type "list") kListL := CallR.imp call_list_of fun _ _ _ ⟨p, xs, e, h, q⟩ => ⟨p, xs, e, .inl (SqL.tr h), q⟩
def kListT : List V → Hp → VK → Prop := fun vs H Q => ∃ p xs, vs = [.ref p] ∧ H p = some (.tup xs) ∧ ∀ l, H l = none → Q (.ref l) (upd H l (.lst xs))
theorem list_t : CallR X (.type "list") kListT := CallR.imp call_list_of fun _ _ _ ⟨p, xs, e, h, q⟩ => ⟨p, xs, e, .inr (SqT.tr h), q⟩
def kTupL : List V → Hp → VK → Prop := fun vs H Q => ∃ p xs, vs = [.ref p] ∧ H p = some (.lst xs) ∧ ∀ l, H l = none → Q (.ref l) (upd H l (.tup xs))
theorem tup_l : CallR X (.type "tuple") kTupL := CallR.imp call_tuple_of fun _ _ _ ⟨p, xs, e, h, q⟩ => ⟨p, xs, e, .inl ⟨SqL.tr h, q⟩⟩
/-- isinstance(x, T), T built in -/
def tyN (H : Hp) : V → Option String
  | .non => some "NoneType"
  | .bl _ => some "bool"
  | .int _ => some "int"
  | .str _ => some "str"
  | .ref a => match H a with
    | some (.lst _) => some "list"
    | some (.tup _) => some "tuple"
    | some (.dK _) => some "dict"
    | some (.dT _) => some "dict"
    | _ => none
  | _ => none
theorem tyN_of {K : PySem.W.Frag} {H : Hp} {x : V} {n : String} (h : tyN H x = some n) : TyX K H x (.type n) := by
  cases x with
  | non => cases h; exact .base .non
  | bl b => cases h; exact .base (.bl b)
  | int i => cases h; exact .base (.int i)
  | str z => cases h; exact .base (.str z)
  | byt b => cases h
  | flt b => cases h
  | ty b => cases h
  | ref a =>
    have h' : (match H a with
      | some (.lst _) => some "list"
      | some (.tup _) => some "tuple"
      | some (.dK _) => some "dict"
      | some (.dT _) => some "dict"
      | _ => none) = some n := h
    cases e : H a with
    | none => rw [e] at h'; cases h'
    | some o =>
      rw [e] at h'
      cases o with
      | lst xs => cases h'; exact .base (.lst e)
      | tup xs => cases h'; exact .base (.tup e)
      | dK xs => cases h'; exact .base (.dK e)
      | dT xs => cases h'; exact .base (.dT e)
      | _ => cases h'
theorem tyN_lst {H : Hp} {a : Addr} {xs : List V} (h : H a = some (.lst xs)) : tyN H (.ref a) = some "list" := by
  show (match H a with
      | some (.lst _) => some "list"
      | some (.tup _) => some "tuple"
      | some (.dK _) => some "dict"
      | some (.dT _) => some "dict"
      | _ => none) = some "list"
  rw [h]
theorem tyN_tup {H : Hp} {a : Addr} {xs : List V} (h : H a = some (.tup xs)) : tyN H (.ref a) = some "tuple" := by
  show (match H a with
      | some (.lst _) => some "list"
      | some (.tup _) => some "tuple"
      | some (.dK _) => some "dict"
      | some (.dT _) => some "dict"
      | _ => none) = some "tuple"
  rw [h]
theorem tyN_int {H : Hp} {i : Int} : tyN H (.int i) = some "int" := rfl
theorem tyN_bl {H : Hp} {i : Bool} : tyN H (.bl i) = some "bool" := rfl
theorem tyN_non {H : Hp} : tyN H .non = some "NoneType" := rfl
theorem tyN_str {H : Hp} {i : Str} : tyN H (.str i) = some "str" := rfl
def kIsi : List V → Hp → VK → Prop := fun vs H Q => ∃ x c n b, vs = [x, .ty c] ∧ tyN H x = some n ∧ kitB n c = some b ∧ Q (.bl b) H
theorem isi_b : CallR X (.builtin "isinstance") kIsi := CallR.imp call_isi fun _ _ _ ⟨x, c, n, b, e, h, k, q⟩ => ⟨x, .ty c, .type n, .type c, b, e, .ty c, tyN_of h, kit_ty k, q⟩
theorem kb_NoneType_bool : kitB "NoneType" "bool" = some false := by decide +kernel
theorem kb_NoneType_int : kitB "NoneType" "int" = some false := by decide +kernel
theorem kb_NoneType_str : kitB "NoneType" "str" = some false := by decide +kernel
theorem kb_NoneType_tuple : kitB "NoneType" "tuple" = some false := by decide +kernel
theorem kb_NoneType_list : kitB "NoneType" "list" = some false := by decide +kernel
theorem kb_bool_bool : kitB "bool" "bool" = some true := by decide +kernel
theorem kb_bool_int : kitB "bool" "int" = some true := by decide +kernel
theorem kb_bool_str : kitB "bool" "str" = some false := by decide +kernel
theorem kb_bool_tuple : kitB "bool" "tuple" = some false := by decide +kernel
theorem kb_bool_list : kitB "bool" "list" = some false := by decide +kernel
theorem kb_int_bool : kitB "int" "bool" = some false := by decide +kernel
theorem kb_int_int : kitB "int" "int" = some true := by decide +kernel
theorem kb_int_str : kitB "int" "str" = some false := by decide +kernel
theorem kb_int_tuple : kitB "int" "tuple" = some false := by decide +kernel
theorem kb_int_list : kitB "int" "list" = some false := by decide +kernel
theorem kb_str_bool : kitB "str" "bool" = some false := by decide +kernel
theorem kb_str_int : kitB "str" "int" = some false := by decide +kernel
theorem kb_str_str : kitB "str" "str" = some true := by decide +kernel
theorem kb_str_tuple : kitB "str" "tuple" = some false := by decide +kernel
theorem kb_str_list : kitB "str" "list" = some false := by decide +kernel
theorem kb_tuple_bool : kitB "tuple" "bool" = some false := by decide +kernel
theorem kb_tuple_int : kitB "tuple" "int" = some false := by decide +kernel
theorem kb_tuple_str : kitB "tuple" "str" = some false := by decide +kernel
theorem kb_tuple_tuple : kitB "tuple" "tuple" = some true := by decide +kernel
theorem kb_tuple_list : kitB "tuple" "list" = some false := by decide +kernel
theorem kb_list_bool : kitB "list" "bool" = some false := by decide +kernel
theorem kb_list_int : kitB "list" "int" = some false := by decide +kernel
theorem kb_list_str : kitB "list" "str" = some false := by decide +kernel
theorem kb_list_tuple : kitB "list" "tuple" = some false := by decide +kernel
theorem kb_list_list : kitB "list" "list" = some true := by decide +kernel
theorem op_isNV : OpR X (compareOp .Is) (fun x y H Q => y = .non ∧ Q (.bl (decide (x = .non))) H) := fun pins s σ H x y v u Q I rx ry ⟨e, q⟩ => op_isN pins s σ H x y v u Q I rx ry ⟨e, q⟩
/-- o.m(..), o a tracked list -/
def kBM (r : V → List V → Hp → VK → Prop) (to : TE) (t : TA) : TE := fun σ H Q => to σ H fun x H1 => ∃ p xs, x = .ref p ∧ H1 p = some (.lst xs) ∧ t σ H1 fun ys H2 => r x ys H2 Q
def kBM0 (r : V → List V → Hp → VK → Prop) (to : TE) : TE := fun σ H Q => to σ H fun x H1 => ∃ p xs, x = .ref p ∧ H1 p = some (.lst xs) ∧ r x [] H1 Q
theorem pe_bmL {o e : Expr} {es : List Expr} {to : TE} {t : TA} {name : Str} {apos cpos : Pos} {id : String} {r : V → List V → Hp → VK → Prop}
    (slot : Slot "list" name id) (hty : typeOf (.builtin id) = pure (.type "method_descriptor")) (hm : MtR X id r) (ho : PE X o to) (ha : PA X (e :: es) t)
    (hbase : attributeBase o name X.env (eval o X.env) = eval o X.env := by rfl)
    (hfew : ((backTo cpos (starEach (e :: es) X.env)).all (fun x => !x.1) && (backToKw cpos (keywordEach [] X.env)).all (fun x => x.1.isSome)
      && decide ((e :: es).length + ([] : List Keyword).length + (if ([] : List Keyword).isEmpty then 0 else 1) < 30)) = true := by rfl)
    (hline : (apos.endLine == cpos.line) = true := by rfl) (hs : starEach (e :: es) X.env = (false, eval e X.env) :: starEach es X.env := by rfl) (hplain : (backTo cpos (starEach es X.env)).any (·.1) = false := by rfl) :
    PE X (.Call (.Attribute o name apos) (e :: es) [] cpos) (tBM X.K "list" r to t) := pe_bm PySem.F.plainAttrs_list slot hty hm ho ha hbase hfew hline hs hplain
/-- o is a name (or anything whose value's reading is monotone) -/
def Mono (t : TE) : Prop := ∀ σ H (Q Q' : VK), (∀ v H', Q v H' → Q' v H') → t σ H Q → t σ H Q'
theorem mono_var {i : Nat} : Mono (tVar i) := fun _ _ _ _ m ⟨v, e, q⟩ => ⟨v, e, m _ _ q⟩
/-- x.append(..) and the like, x a local name -/
def kMt (r : V → List V → Hp → VK → Prop) (i : Nat) (t : TA) : TE := fun σ H Q => ∃ p xs, σ[i]? = some (some (V.ref p)) ∧ H p = some (.lst xs) ∧ t σ H fun ys H2 => r (V.ref p) ys H2 Q
def kMt0 (r : V → List V → Hp → VK → Prop) (i : Nat) : TE := fun σ H Q => ∃ p xs, σ[i]? = some (some (V.ref p)) ∧ H p = some (.lst xs) ∧ r (V.ref p) [] H Q
theorem pe_mt {i : Nat} {o e : Expr} {es : List Expr} {t : TA} {name : Str} {apos cpos : Pos} {id : String} {r : V → List V → Hp → VK → Prop}
    (slot : Slot "list" name id) (hty : typeOf (.builtin id) = pure (.type "method_descriptor")) (hm : MtR X id r) (ho : PE X o (tVar i)) (ha : PA X (e :: es) t)
    (hbase : attributeBase o name X.env (eval o X.env) = eval o X.env := by rfl)
    (hfew : ((backTo cpos (starEach (e :: es) X.env)).all (fun x => !x.1) && (backToKw cpos (keywordEach [] X.env)).all (fun x => x.1.isSome)
      && decide ((e :: es).length + ([] : List Keyword).length + (if ([] : List Keyword).isEmpty then 0 else 1) < 30)) = true := by rfl)
    (hline : (apos.endLine == cpos.line) = true := by rfl) (hs : starEach (e :: es) X.env = (false, eval e X.env) :: starEach es X.env := by rfl) (hplain : (backTo cpos (starEach es X.env)).any (·.1) = false := by rfl) :
    PE X (.Call (.Attribute o name apos) (e :: es) [] cpos) (kMt r i t) := PE.imp (pe_bm PySem.F.plainAttrs_list slot hty hm ho ha hbase hfew hline hs hplain) fun _ _ _ ⟨p, xs, e, h, q⟩ => ⟨.ref p, e, .inl ⟨rfl, xs, SqL.tr h⟩, q⟩
theorem pe_mt0 {i : Nat} {o : Expr} {name : Str} {apos cpos : Pos} {id : String} {r : V → List V → Hp → VK → Prop}
    (slot : Slot "list" name id) (hty : typeOf (.builtin id) = pure (.type "method_descriptor")) (hm : MtR X id r) (ho : PE X o (tVar i))
    (hbase : attributeBase o name X.env (eval o X.env) = eval o X.env := by rfl) (hline : (apos.endLine == cpos.line) = true := by rfl) : PE X (.Call (.Attribute o name apos) [] [] cpos) (kMt0 r i) :=
  PE.imp (pe_bm0 PySem.F.plainAttrs_list slot hty hm ho hbase hline) fun _ _ _ ⟨p, xs, e, h, q⟩ => ⟨.ref p, e, .inl ⟨rfl, xs, SqL.tr h⟩, q⟩
end
/-! ### for loops over tracked things -/
section
variable {X : Cx}
/-- what is wanted may be weakened -/
def tMo (t : TE) : TE := fun σ H Q => ∃ A : VK, t σ H A ∧ ∀ v H', A v H' → Q v H'
theorem pe_mo {e : Expr} {t : TE} (h : PE X e t) : PE X e (tMo t) := ⟨fun pins s σ H Q I ⟨A, q, m⟩ => thn (h.run pins s σ H A I q) fun _ _ ⟨v, H', I', r, z⟩ => ⟨v, H', I', r, m v H' z⟩⟩
def kIterL (K : PySem.W.Frag) (tl : TE) : TI := fun σ H R => tl σ H fun x H1 => ∃ a xs, x = .ref a ∧ H1 a = some (.lst xs) ∧ R (Itl K a) H1
def kIterT (K : PySem.W.Frag) (tl : TE) : TI := fun σ H R => tl σ H fun x H1 => ∃ a xs, x = .ref a ∧ H1 a = some (.tup xs) ∧ R (Itt K a) H1
theorem pi_l {tg l : Expr} {tl : TE} (hl : PE X l tl) : PI X tg l (kIterL X.K tl) := ⟨fun pins s σ H R I q => (pi_list (pe_mo hl)).run pins s σ H R I ⟨_, q, fun _ _ ⟨a, xs, e, h, z⟩ => ⟨a, e, ⟨xs, SqL.tr h⟩, z⟩⟩⟩
theorem pi_t {tg l : Expr} {tl : TE} (hl : PE X l tl) : PI X tg l (kIterT X.K tl) := ⟨fun pins s σ H R I q => (pi_tup (pe_mo hl)).run pins s σ H R I ⟨_, q, fun _ _ ⟨a, xs, e, h, z⟩ => ⟨a, e, ⟨xs, SqT.tr h⟩, z⟩⟩⟩
def tForJ (J : It) (g : TG) (tb : TS) (D : Ends) (σ : St) (H : Hp) : Prop := ∃ W : Nat → Nat → St → Hp → Prop, (∃ m, W 0 m σ H) ∧ ∀ i m σ H, W i m σ H →
  (J.stop i H ∧ D.nx σ H) ∨ (J.go i H ∧ ∃ N : St → Hp → Prop, (∀ σ' H', N σ' H' → ∃ m', m' < m ∧ W (i + 1) m' σ' H') ∧ ∀ x H', J.yld i H x H' → g x σ H' fun σ2 H2 => tb { D with nx := N, ct := N, bk := D.nx } σ2 H2)
theorem forJ_range {lo : Int} {m : Nat} {g : TG} {tb : TS} {n b c : St → Hp → Prop} {r : VK} {σ : L2.St} {H : Hp} (Pv : Nat → St → Hp → Prop) (h0 : Pv 0 σ H)
    (hs : ∀ i σ H, i < m → Pv i σ H → g (.int (lo + i)) σ H fun σ2 H2 => tb ⟨Pv (i + 1), r, n, Pv (i + 1)⟩ σ2 H2) (hd : ∀ σ H, Pv m σ H → n σ H) : tForJ (Itr lo m) g tb ⟨n, r, b, c⟩ σ H := for_range Pv h0 hs hd
theorem forJ_range0 {m : Nat} {g : TG} {tb : TS} {n b c : St → Hp → Prop} {r : VK} {σ : L2.St} {H : Hp} (Pv : Nat → St → Hp → Prop) (h0 : Pv 0 σ H)
    (hs : ∀ i σ H, i < m → Pv i σ H → g (.int (i : Int)) σ H fun σ2 H2 => tb ⟨Pv (i + 1), r, n, Pv (i + 1)⟩ σ2 H2) (hd : ∀ σ H, Pv m σ H → n σ H) : tForJ (Itr 0 m) g tb ⟨n, r, b, c⟩ σ H := for_range Pv h0 (fun i σ H h p => by
      rw [Int.zero_add]
      exact hs i σ H h p) hd
theorem forJ_list {K : PySem.W.Frag} {a : Addr} (xs : List V) {g : TG} {tb : TS} {n b c : St → Hp → Prop} {r : VK} {σ : L2.St} {H : Hp} (Pv : Nat → St → Hp → Prop) (h0 : Pv 0 σ H) (hl : ∀ i σ H, i ≤ xs.length → Pv i σ H → H a = some (.lst xs))
    (hs : ∀ i x σ H, xs[i]? = some x → Pv i σ H → g x σ H fun σ2 H2 => tb ⟨Pv (i + 1), r, n, Pv (i + 1)⟩ σ2 H2) (hd : ∀ σ H, Pv xs.length σ H → n σ H) : tForJ (Itl K a) g tb ⟨n, r, b, c⟩ σ H :=
  for_list Pv h0 (fun i σ H h p => SqL.tr (hl i σ H h p)) hs hd
theorem forJ_tup {K : PySem.W.Frag} {a : Addr} (xs : List V) {g : TG} {tb : TS} {n b c : St → Hp → Prop} {r : VK} {σ : L2.St} {H : Hp} (Pv : Nat → St → Hp → Prop) (h0 : Pv 0 σ H) (hl : ∀ i σ H, i ≤ xs.length → Pv i σ H → H a = some (.tup xs))
    (hs : ∀ i x σ H, xs[i]? = some x → Pv i σ H → g x σ H fun σ2 H2 => tb ⟨Pv (i + 1), r, n, Pv (i + 1)⟩ σ2 H2) (hd : ∀ σ H, Pv xs.length σ H → n σ H) : tForJ (Itt K a) g tb ⟨n, r, b, c⟩ σ H :=
  for_tup Pv h0 (fun i σ H h p => SqT.tr (hl i σ H h p)) hs hd
end
/-! ### places of lists -/
theorem ixN_natL (n i : Nat) : ixN n (i : Int) = if i < n then some i else none := by
  unfold ixN
  by_cases h : i < n
  · rw [if_pos (by omega), if_pos (by omega), if_pos h]
    simp
  · rw [if_pos (by omega), if_neg (by omega), if_neg h]
theorem atI_natL {α : Type} (xs : List α) (i : Nat) : atI xs (i : Int) = xs[i]? := by
  unfold atI
  rw [ixN_natL]
  by_cases h : i < xs.length
  · rw [if_pos h]
    rfl
  · rw [if_neg h]
    exact (List.getElem?_eq_none (by omega)).symm
theorem atI_map {ns : List Int} {i : Int} (h0 : 0 ≤ i) (h : i < ns.length) : ∃ x, atI (ns.map V.int) i = some (.int x) := by
  refine ⟨ns[i.toNat]'(by omega), ?_⟩
  obtain ⟨k, rfl⟩ : ∃ k : Nat, i = (k : Int) := ⟨i.toNat, by omega⟩
  rw [atI_natL, List.getElem?_map, List.getElem?_eq_getElem (by omega)]
  simp
theorem atI_m1 {α : Type} (xs : List α) : atI xs (-1) = xs.getLast? := by
  unfold atI ixN
  rw [List.getLast?_eq_getElem?, if_neg (by decide)]
  by_cases h : xs = []
  · subst h; rfl
  · have : 0 < xs.length := by cases xs with | nil => exact absurd rfl h | cons _ _ => simp
    rw [if_pos (by omega)]
    show xs[(-1 + (xs.length : Int)).toNat]? = _
    rw [show (-1 + (xs.length : Int)).toNat = xs.length - 1 by omega]
theorem atI_0 {α : Type} (xs : List α) : atI xs 0 = xs[0]? := atI_natL xs 0
theorem ixN_0 (n : Nat) : ixN n 0 = if 0 < n then some 0 else none := ixN_natL n 0
theorem atI_1 {α : Type} (xs : List α) : atI xs 1 = xs[1]? := atI_natL xs 1
theorem ixN_1 (n : Nat) : ixN n 1 = if 1 < n then some 1 else none := ixN_natL n 1
theorem atI_2 {α : Type} (xs : List α) : atI xs 2 = xs[2]? := atI_natL xs 2
theorem ixN_2 (n : Nat) : ixN n 2 = if 2 < n then some 2 else none := ixN_natL n 2
theorem atI_3 {α : Type} (xs : List α) : atI xs 3 = xs[3]? := atI_natL xs 3
theorem ixN_3 (n : Nat) : ixN n 3 = if 3 < n then some 3 else none := ixN_natL n 3
theorem atI_4 {α : Type} (xs : List α) : atI xs 4 = xs[4]? := atI_natL xs 4
theorem ixN_4 (n : Nat) : ixN n 4 = if 4 < n then some 4 else none := ixN_natL n 4
theorem atI_5 {α : Type} (xs : List α) : atI xs 5 = xs[5]? := atI_natL xs 5
theorem ixN_5 (n : Nat) : ixN n 5 = if 5 < n then some 5 else none := ixN_natL n 5
theorem atI_6 {α : Type} (xs : List α) : atI xs 6 = xs[6]? := atI_natL xs 6
theorem ixN_6 (n : Nat) : ixN n 6 = if 6 < n then some 6 else none := ixN_natL n 6
theorem atI_7 {α : Type} (xs : List α) : atI xs 7 = xs[7]? := atI_natL xs 7
theorem ixN_7 (n : Nat) : ixN n 7 = if 7 < n then some 7 else none := ixN_natL n 7
theorem atI_8 {α : Type} (xs : List α) : atI xs 8 = xs[8]? := atI_natL xs 8
theorem ixN_8 (n : Nat) : ixN n 8 = if 8 < n then some 8 else none := ixN_natL n 8
theorem atI_9 {α : Type} (xs : List α) : atI xs 9 = xs[9]? := atI_natL xs 9
theorem ixN_9 (n : Nat) : ixN n 9 = if 9 < n then some 9 else none := ixN_natL n 9
theorem atI_10 {α : Type} (xs : List α) : atI xs 10 = xs[10]? := atI_natL xs 10
theorem ixN_10 (n : Nat) : ixN n 10 = if 10 < n then some 10 else none := ixN_natL n 10
theorem atI_11 {α : Type} (xs : List α) : atI xs 11 = xs[11]? := atI_natL xs 11
theorem ixN_11 (n : Nat) : ixN n 11 = if 11 < n then some 11 else none := ixN_natL n 11
theorem atI_12 {α : Type} (xs : List α) : atI xs 12 = xs[12]? := atI_natL xs 12
theorem ixN_12 (n : Nat) : ixN n 12 = if 12 < n then some 12 else none := ixN_natL n 12

/-! ### readings step by step, from the root -/
theorem upd_id {H : Hp} {a : Addr} {o : HO} (h : H a = some o) : upd H a o = H := by
  funext b
  unfold upd
  split
  · next e => rw [e, h]
  · rfl
inductive SetAt : L2.St → Nat → V → L2.St → Prop
  | zero {x : Option V} {σ : L2.St} {v : V} : SetAt (x :: σ) 0 v (some v :: σ)
  | succ {x : Option V} {σ σ' : L2.St} {i : Nat} {v : V} (h : SetAt σ i v σ') : SetAt (x :: σ) (i + 1) v (x :: σ')
theorem SetAt.eq {σ σ' : L2.St} {i : Nat} {v : V} (h : SetAt σ i v σ') : σ.set i (some v) = σ' := by
  induction h with
  | zero => rfl
  | succ _ ih => rw [List.set_cons_succ, ih]
inductive StartAt : List Str → List V → L2.St → Prop
  | nil : StartAt [] [] []
  | pad {n : Str} {N : List Str} {σ : L2.St} (h : StartAt N [] σ) : StartAt (n :: N) [] (none :: σ)
  | val {n : Str} {N : List Str} {v : V} {vs : List V} {σ : L2.St} (h : StartAt N vs σ) : StartAt (n :: N) (v :: vs) (some v :: σ)
theorem StartAt.eq {N : List Str} {vs : List V} {σ : L2.St} (h : StartAt N vs σ) : L2.start N vs = σ := by
  induction h with
  | nil => rfl
  | pad _ ih =>
    rw [← ih]
    unfold L2.start
    simp [List.replicate_succ]
  | val _ ih =>
    rw [← ih]
    unfold L2.start
    simp
theorem iBody {N : List Str} {vs : List V} {σ : L2.St} {t : TS} {D : Ends} {H : Hp} (h : StartAt N vs σ) (q : t D σ H) : t D (L2.start N vs) H := by
  rw [h.eq]
  exact q
section
variable {K : PySem.W.Frag} {σ σ' : L2.St} {H : Hp} {Q : VK} {ta tb te td : TE} {tt tu : TT} {n b c : St → Hp → Prop} {r : VK} {ts us : TS} {x y v : V} {i j : Int} {tA tR : TA} {QB : Bool → Hp → Prop} {QA : List V → Hp → Prop} {f : Int → Int → V} {R : It → Hp → Prop}
theorem iSeq (q : ts ⟨us ⟨n, r, b, c⟩, r, b, c⟩ σ H) : tSeq ts us ⟨n, r, b, c⟩ σ H := q
theorem iCut (Mid : L2.St → Hp → Prop) (q1 : ts ⟨Mid, r, b, c⟩ σ H) (q2 : ∀ σ' H', Mid σ' H' → us ⟨n, r, b, c⟩ σ' H') : Evl.tCut ts us ⟨n, r, b, c⟩ σ H := ⟨Mid, q1, q2⟩
theorem iNext (q : n σ H) : tNext ⟨n, r, b, c⟩ σ H := q
theorem iBreak (q : b σ H) : tBreak ⟨n, r, b, c⟩ σ H := q
theorem iCont (q : c σ H) : tCont ⟨n, r, b, c⟩ σ H := q
theorem iAsg {g : TG} (q : te σ H fun x H1 => g x σ H1 n) : tAsg te g ⟨n, r, b, c⟩ σ H := q
theorem iName {i : Nat} {QS : St → Hp → Prop} (h : SetAt σ i v σ') (q : QS σ' H) : gName i v σ H QS := by
  show QS (σ.set i (some v)) H
  rw [h.eq]
  exact q
theorem iDrop (q : te σ H fun _ H1 => n σ H1) : tDrop te ⟨n, r, b, c⟩ σ H := q
theorem iRet (q : te σ H r) : tRet te ⟨n, r, b, c⟩ σ H := q
theorem iRetN (q : r .non H) : tRetN ⟨n, r, b, c⟩ σ H := q
theorem iIfS (q : tt σ H fun k H1 => if k = true then ts ⟨n, r, b, c⟩ σ H1 else us ⟨n, r, b, c⟩ σ H1) : tIfS tt ts us ⟨n, r, b, c⟩ σ H := q
theorem iAug {i : Nat} {ti : TIp} (h : σ[i]? = some (some x)) (q : te σ H fun y H1 => ti x y H1 fun z H2 => ∃ σ', SetAt σ i z σ' ∧ n σ' H2) (m : ∀ y H1 (A B : VK), (∀ z H2, A z H2 → B z H2) → ti x y H1 A → ti x y H1 B) (mt : ∀ (A B : VK), (∀ z H2, A z H2 → B z H2) → te σ H A → te σ H B) : tAug i te ti ⟨n, r, b, c⟩ σ H :=
  ⟨x, h, mt _ _ (fun y H1 q1 => m y H1 _ _ (fun z H2 ⟨σ', e, q2⟩ => by
    show n (σ.set i (some z)) H2
    rw [e.eq]
    exact q2) q1) q⟩
/-- x += e, ints -/
theorem iAugI {i : Nat} {f : Int → Int → Int} {a : Int} (h : σ[i]? = some (some (.int a))) (q : te σ H fun y H1 => ∃ d, y = .int d ∧ n (σ.set i (some (.int (f a d)))) H1) (mt : ∀ (A B : VK), (∀ z H2, A z H2 → B z H2) → te σ H A → te σ H B) : tAug i te (ipI f) ⟨n, r, b, c⟩ σ H :=
  ⟨_, h, mt _ _ (fun y H1 ⟨d, e, q1⟩ => ⟨a, d, rfl, e, q1⟩) q⟩
def kAug (i : Nat) (f : Int → Int → Int) (a : Int) (σ : St) (n : St → Hp → Prop) : VK := fun y H1 => ∃ d, y = .int d ∧ n (σ.set i (some (.int (f a d)))) H1
theorem iAugK {i : Nat} {f : Int → Int → Int} {a : Int} (h : σ[i]? = some (some (.int a))) (q : te σ H fun y H1 => (ipI f) (.int a) y H1 fun z H2 => gName i z σ H2 n) : tAug i te (ipI f) ⟨n, r, b, c⟩ σ H := ⟨_, h, q⟩
theorem iIpI {f : Int → Int → Int} (q : Q (.int (f i j)) H) : ipI f (.int i) (.int j) H Q := ⟨i, j, rfl, rfl, q⟩
theorem iAugS {to ti te : TE} {tget : V → V → Hp → VK → Prop} {tip : TIp} {tset : TSet} (q : to σ H fun o H1 => ti σ H1 fun i H2 => tget o i H2 fun x H3 => te σ H3 fun y H4 => tip x y H4 fun z H5 => tset o i z H5 fun H6 => n σ H6) : tAugS to ti te tget tip tset ⟨n, r, b, c⟩ σ H := q
theorem iFor {wi : TI} {g : TG} (q : wi σ H fun J H1 => tForJ J g ts ⟨n, r, b, c⟩ σ H1) : tFor wi g ts ⟨n, r, b, c⟩ σ H := q
/-- targets -/
theorem iSub {to ti : TE} {t : TSet} {QS : St → Hp → Prop} (q : to σ H fun o H1 => ti σ H1 fun i H2 => t o i v H2 fun H3 => QS σ H3) : gSub to ti t v σ H QS := q
theorem iSetL {p : Addr} {xs : List V} {k : Nat} {QH : Hp → Prop} (h : H p = some (.lst xs)) (hi : ixN xs.length i = some k) (q : QH (upd H p (.lst (xs.set k v)))) : rSetL (.ref p) (.int i) v H QH := ⟨p, xs, i, k, rfl, rfl, h, hi, q⟩
/-- expressions -/
theorem iVar {i : Nat} (h : σ[i]? = some (some v)) (q : Q v H) : tVar i σ H Q := ⟨v, h, q⟩
theorem iC (q : Q v H) : tC v σ H Q := q
theorem iOp {rr : R2} (q : ta σ H fun x H1 => tb σ H1 fun y H2 => rr x y H2 Q) : tOp rr ta tb σ H Q := q
theorem iUn {rr : V → Hp → VK → Prop} (q : ta σ H fun x H1 => rr x H1 Q) : tUn rr ta σ H Q := q
theorem iI0 (q : Q (f i j) H) : rI0 f (.int i) (.int j) H Q := ⟨i, j, rfl, rfl, q⟩
theorem iI {C : Int → Int → Prop} (q : Q (f i j) H) (hc : C i j) : rI C f (.int i) (.int j) H Q := ⟨i, j, rfl, rfl, hc, q⟩
theorem iU {g : Int → V} (q : Q (g i) H) : rU g (.int i) H Q := ⟨i, rfl, q⟩
theorem dec_int (i j : Int) : decide (V.int i = V.int j) = decide (i = j) := by
  by_cases h : i = j
  · subst h; rw [decide_eq_true rfl, decide_eq_true rfl]
  · rw [decide_eq_false h, decide_eq_false (fun z => h (V.int.inj z))]
theorem dec_bl (i j : Bool) : decide (V.bl i = V.bl j) = decide (i = j) := by cases i <;> cases j <;> rfl
theorem dec_str (i j : Str) : decide (V.str i = V.str j) = decide (i = j) := by
  by_cases h : i = j
  · subst h; rw [decide_eq_true rfl, decide_eq_true rfl]
  · rw [decide_eq_false h, decide_eq_false (fun z => h (V.str.inj z))]
theorem iEqI (q : Q (.bl (decide (i = j))) H) : rEq (.int i) (.int j) H Q := ⟨rfl, by rw [dec_int]; exact q⟩
theorem iNeI (q : Q (.bl (!decide (i = j))) H) : rNe (.int i) (.int j) H Q := ⟨rfl, by rw [dec_int]; exact q⟩
theorem iEqB {k l : Bool} (q : Q (.bl (decide (k = l))) H) : rEq (.bl k) (.bl l) H Q := ⟨rfl, by rw [dec_bl]; exact q⟩
theorem iNeB {k l : Bool} (q : Q (.bl (!decide (k = l))) H) : rNe (.bl k) (.bl l) H Q := ⟨rfl, by rw [dec_bl]; exact q⟩
theorem iEqS {k l : Str} (q : Q (.bl (decide (k = l))) H) : rEq (.str k) (.str l) H Q := ⟨rfl, by rw [dec_str]; exact q⟩
theorem iNeS {k l : Str} (q : Q (.bl (!decide (k = l))) H) : rNe (.str k) (.str l) H Q := ⟨rfl, by rw [dec_str]; exact q⟩
theorem iIsN (q : Q (.bl (decide (x = .non))) H) : rIsN x .non H Q := ⟨rfl, q⟩
theorem iNotN (q : Q (.bl (!decide (x = .non))) H) : rNotN x .non H Q := ⟨rfl, q⟩
def kBl (QB : Bool → Hp → Prop) : VK := fun x H => ∃ k, x = .bl k ∧ QB k H
theorem iBl {k : Bool} (q : QB k H) : kBl QB (.bl k) H := ⟨k, rfl, q⟩
theorem iTest (q : te σ H (kBl QB)) : tTest te σ H QB := q
theorem iB (q : te σ H (kBl QB)) : tB te σ H QB := q
theorem iAnd (q : tt σ H fun k H1 => if k = true then tu σ H1 QB else QB false H1) : tAnd tt tu σ H QB := q
theorem iOr (q : tt σ H fun k H1 => if k = true then QB true H1 else tu σ H1 QB) : tOr tt tu σ H QB := q
theorem iNot (q : tt σ H fun k H1 => QB (!k) H1) : tNot tt σ H QB := q
theorem iAndV (q : ta σ H (kBl fun k H1 => if k = true then tb σ H1 Q else Q (.bl false) H1)) : tAndV ta tb σ H Q := q
theorem iOrV (q : ta σ H (kBl fun k H1 => if k = true then Q (.bl true) H1 else tb σ H1 Q)) : tOrV ta tb σ H Q := q
theorem iNotV (q : ta σ H (kBl fun k H1 => Q (.bl (!k)) H1)) : tNotV ta σ H Q := q
theorem iIf (q : tt σ H fun k H1 => if k = true then ta σ H1 Q else tb σ H1 Q) : tIf tt ta tb σ H Q := q
theorem iChain {rr rr' : R2} (q : ta σ H fun x H1 => tb σ H1 fun y H2 => rr x y H2 (kBl fun k H3 => if k = true then te σ H3 fun w' H4 => rr' y w' H4 Q else Q (.bl false) H3)) : tChain rr rr' ta tb te σ H Q :=
  q
theorem iCons (q : ta σ H fun x H1 => tR σ H1 fun xs H2 => QA (x :: xs) H2) : tCons ta tR σ H QA := q
theorem iNil (q : QA [] H) : tNil σ H QA := q
theorem iCB {rr : List V → Hp → VK → Prop} (q : tA σ H fun vs H1 => rr vs H1 Q) : tCB rr tA σ H Q := q
theorem iCal {sp : Sp} (q : tA σ H fun vs H1 => sp vs H1 Q E0) : tCal sp tA σ H Q := q
def kNewL (Q : VK) : List V → Hp → Prop := fun xs H1 => xs.length ≤ sizeLine ∧ ∀ p, H1 p = none → Q (.ref p) (upd H1 p (.lst xs))
def kNewT (Q : VK) : List V → Hp → Prop := fun xs H1 => xs.length ≤ sizeLine ∧ ∀ p, H1 p = none → Q (.ref p) (upd H1 p (.tup xs))
theorem iNewL {xs : List V} (h : xs.length ≤ 100000) (q : ∀ p, H p = none → Q (.ref p) (upd H p (.lst xs))) : kNewL Q xs H := ⟨Evl.sz_of h, q⟩
theorem iNewT {xs : List V} (h : xs.length ≤ 100000) (q : ∀ p, H p = none → Q (.ref p) (upd H p (.tup xs))) : kNewT Q xs H := ⟨Evl.sz_of h, q⟩
theorem iApp {p : Addr} {xs : List V} (h : H p = some (.lst xs)) (hz : xs.length < 100000) (q : Q .non (upd H p (.lst (xs ++ [v])))) : rAppend (.ref p) [v] H Q := ⟨p, xs, v, rfl, rfl, h, Evl.sz_lt hz, q⟩
theorem iLst (q : tA σ H (kNewL Q)) : tLst tA σ H Q := q
theorem iTup (q : tA σ H (kNewT Q)) : tTup tA σ H Q := q
theorem iIxL {p : Addr} {xs : List V} (h : H p = some (.lst xs)) (ha : atI xs i = some v) (q : Q v H) : kIxL (.ref p) (.int i) H Q := ⟨p, i, xs, v, rfl, rfl, h, ha, q⟩
theorem iIxT {p : Addr} {xs : List V} (h : H p = some (.tup xs)) (ha : atI xs i = some v) (q : Q v H) : kIxT (.ref p) (.int i) H Q := ⟨p, i, xs, v, rfl, rfl, h, ha, q⟩
theorem iLenL {p : Addr} {xs : List V} (h : H p = some (.lst xs)) (q : Q (.int xs.length) H) : kLenL [.ref p] H Q := ⟨p, xs, rfl, h, q⟩
theorem iLenT {p : Addr} {xs : List V} (h : H p = some (.tup xs)) (q : Q (.int xs.length) H) : kLenT [.ref p] H Q := ⟨p, xs, rfl, h, q⟩
theorem iIxS {p : Addr} {xs : List V} (h : H p = some (.lst xs) ∨ H p = some (.tup xs)) (ha : atI xs i = some v) (q : Q v H) : kIxS (.ref p) (.int i) H Q := ⟨p, i, xs, v, rfl, rfl, h, ha, q⟩
theorem iLenS {p : Addr} {xs : List V} (h : H p = some (.lst xs) ∨ H p = some (.tup xs)) (q : Q (.int xs.length) H) : kLenS [.ref p] H Q := ⟨p, xs, rfl, h, q⟩
theorem iInt (q : Q (.int i) H) : kInt [.int i] H Q := ⟨i, rfl, q⟩
theorem iIsi {cn tn : String} {k : Bool} (h : tyN H x = some tn) (e : kitB tn cn = some k) (q : Q (.bl k) H) : kIsi [x, .ty cn] H Q := ⟨x, cn, tn, k, rfl, h, e, q⟩
theorem iMt {rr : V → List V → Hp → VK → Prop} {i : Nat} {p : Addr} {xs : List V} (e : σ[i]? = some (some (V.ref p))) (h : H p = some (.lst xs)) (q : tA σ H fun ys H2 => rr (V.ref p) ys H2 Q) : kMt rr i tA σ H Q := ⟨p, xs, e, h, q⟩
theorem iAppend {p : Addr} {xs : List V} (h : H p = some (.lst xs)) (hz : xs.length < sizeLine) (q : Q .non (upd H p (.lst (xs ++ [v])))) : rAppend (.ref p) [v] H Q := ⟨p, xs, v, rfl, rfl, h, hz, q⟩
/-- loops' sources -/
def kRng (R : It → Hp → Prop) : List V → Hp → Prop := fun vs H1 => ∃ j : Int, vs = [.int j] ∧ -(2 ^ 62) ≤ j ∧ j < 2 ^ 62 ∧ R (Itr 0 j.toNat) H1
theorem iRng (q : tA σ H (kRng R)) : iRng1 tA σ H R := q
theorem iRngI (h1 : -(2 ^ 62) ≤ i) (h2 : i < 2 ^ 62) (q : R (Itr 0 i.toNat) H) : kRng R [.int i] H := ⟨i, rfl, h1, h2, q⟩
def kItL (K : PySem.W.Frag) (R : It → Hp → Prop) : VK := fun x H1 => ∃ a xs, x = .ref a ∧ H1 a = some (.lst xs) ∧ R (Itl K a) H1
theorem iIterL (q : ta σ H (kItL K R)) : kIterL K ta σ H R := q
theorem iItL {p : Addr} {xs : List V} (h : H p = some (.lst xs)) (q : R (Itl K p) H) : kItL K R (.ref p) H := ⟨p, xs, rfl, h, q⟩
theorem ifT {A B : Prop} {k : Bool} (h : k = true) (q : A) : if k = true then A else B := by rw [if_pos h]; exact q
theorem ifF {A B : Prop} {k : Bool} (h : k = false) (q : B) : if k = true then A else B := by rw [if_neg (by rw [h]; decide)]; exact q
theorem ifD {A B p : Prop} [Decidable p] (h1 : p → A) (h2 : ¬ p → B) : if decide p = true then A else B := by
  by_cases h : p
  · rw [if_pos (decide_eq_true h)]; exact h1 h
  · rw [if_neg (by rw [decide_eq_false h]; decide)]; exact h2 h
theorem ifND {A B p : Prop} [Decidable p] (h1 : ¬ p → A) (h2 : p → B) : if (!decide p) = true then A else B := by
  by_cases h : p
  · rw [decide_eq_true h]; exact h2 h
  · rw [decide_eq_false h]; exact h1 h
theorem iI0n {a d : Nat} {g : Nat → Nat → Nat} {f : Int → Int → V} (e : f (a : Int) (d : Int) = .int ((g a d : Nat) : Int)) (q : Q (.int ((g a d : Nat) : Int)) H) : rI0 f (.int (a : Int)) (.int (d : Int)) H Q := ⟨_, _, rfl, rfl, by rw [e]; exact q⟩
theorem ifNDr {α : Type} {A B : Prop} {a : α} {d : Decidable (a = a)} (q : B) : if (!decide (a = a)) = true then A else B := by rw [decide_eq_true rfl]; exact q
theorem ifDr {α : Type} {A B : Prop} {a : α} {d : Decidable (a = a)} (q : A) : if decide (a = a) = true then A else B := by rw [decide_eq_true rfl]; exact q
theorem ifNp {A B p : Prop} {d : Decidable p} (h : p) (q : B) : if (!decide p) = true then A else B := by rw [decide_eq_true h]; exact q
theorem ifNn {A B p : Prop} {d : Decidable p} (h : ¬ p) (q : A) : if (!decide p) = true then A else B := by rw [decide_eq_false h]; exact q
theorem iTruI {QB : Bool → Prop} (q : QB (i != 0)) : ∃ k, TruV K (.int i) H k ∧ QB k := ⟨_, rfl, q⟩
theorem vInt (e : j = i) (q : Q (.int i) H) : Q (.int j) H := by rw [e]; exact q
end
end R
set_option Elab.async false
set_option maxRecDepth 100000
set_option maxHeartbeats 4000000
namespace R
/-! ### the field, as plain functions -/
def dbl (a : Nat) : Nat := if 2 * a < 256 then 2 * a else (2 * a) ^^^ 285
def dp (a : Nat) : Nat → Nat
  | 0 => a
  | i + 1 => dbl (dp a i)
def gs (a b : Nat) : Nat → Nat
  | 0 => 0
  | i + 1 => if b / 2 ^ i % 2 = 1 then gs a b i ^^^ dp a i else gs a b i
def gm (a b : Nat) : Nat := gs a b 8
def cl (a b : Nat) : Nat → Nat
  | 0 => 0
  | i + 1 => if b / 2 ^ i % 2 = 1 then cl a b i ^^^ (2 ^ i * a) else cl a b i
def rd (t : Nat) : Nat → Nat
  | 0 => t
  | i + 1 => if 32768 / 2 ^ i ≤ rd t i then rd t i ^^^ (36480 / 2 ^ i) else rd t i
def tm (a b : Nat) : Nat := rd (cl a b 8) 8
def pw (a t : Nat) : Nat → Nat × Nat
  | 0 => (a, t)
  | i + 1 => (gm (pw a t i).1 (pw a t i).1, gm (pw a t i).2 (gm (pw a t i).1 (pw a t i).1))
def iv (a : Nat) : Nat := (pw a 1 7).2
def allLt (p : Nat → Bool) : Nat → Bool
  | 0 => true
  | n + 1 => p n && allLt p n
theorem allLt_of {p : Nat → Bool} : ∀ {n : Nat}, allLt p n = true → ∀ i, i < n → p i = true
  | 0, _, i, h => absurd h (Nat.not_lt_zero i)
  | n + 1, e, i, h => by
    have e' : (p n && allLt p n) = true := e
    rw [Bool.and_eq_true] at e'
    by_cases hi : i = n
    · rw [hi]; exact e'.1
    · exact allLt_of e'.2 i (by omega)
theorem xlt {a b : Nat} (ha : a < 256) (hb : b < 256) : a ^^^ b < 256 := Nat.xor_lt_two_pow (n := 8) ha hb
theorem dbl_lt {a : Nat} (ha : a < 256) : dbl a < 256 := by
  have h : allLt (fun a => decide (dbl a < 256)) 256 = true := by decide +kernel
  simpa using allLt_of h a ha
theorem dbl_eq {a : Nat} (ha : a < 256) : dbl a = (a <<< 1) ^^^ (285 * (a >>> 7)) := by
  have h : allLt (fun a => decide (dbl a = (a <<< 1) ^^^ (285 * (a >>> 7)))) 256 = true := by decide +kernel
  simpa using allLt_of h a ha
theorem bit7 {a : Nat} (ha : a < 256) : a >>> 7 = 0 ∨ a >>> 7 = 1 := by
  rw [Nat.shiftRight_eq_div_pow]; omega
theorem xor4 (a b c d : Nat) : (a ^^^ b) ^^^ (c ^^^ d) = (a ^^^ c) ^^^ (b ^^^ d) := by
  rw [Nat.xor_assoc, Nat.xor_assoc, ← Nat.xor_assoc b c d, Nat.xor_comm b c, Nat.xor_assoc c b d]
theorem dbl_xor {a b : Nat} (ha : a < 256) (hb : b < 256) : dbl (a ^^^ b) = dbl a ^^^ dbl b := by
  rw [dbl_eq ha, dbl_eq hb, dbl_eq (xlt ha hb), xor4, Nat.shiftLeft_xor_distrib, Nat.shiftRight_xor_distrib]
  congr 1
  rcases bit7 ha with h | h <;> rcases bit7 hb with k | k <;> rw [h, k] <;> rfl
theorem dp_lt {a : Nat} (ha : a < 256) : ∀ i, dp a i < 256
  | 0 => ha
  | i + 1 => dbl_lt (dp_lt ha i)
theorem dp_xor {a b : Nat} (ha : a < 256) (hb : b < 256) : ∀ i, dp (a ^^^ b) i = dp a i ^^^ dp b i
  | 0 => rfl
  | i + 1 => by
    show dbl (dp (a ^^^ b) i) = dbl (dp a i) ^^^ dbl (dp b i)
    rw [dp_xor ha hb i, dbl_xor (dp_lt ha i) (dp_lt hb i)]
theorem gs_lt {a : Nat} (b : Nat) (ha : a < 256) : ∀ i, gs a b i < 256
  | 0 => by show 0 < 256; decide
  | i + 1 => by
    show (if b / 2 ^ i % 2 = 1 then gs a b i ^^^ dp a i else gs a b i) < 256
    split
    · exact xlt (gs_lt b ha i) (dp_lt ha i)
    · exact gs_lt b ha i
theorem gm_lt {a : Nat} (b : Nat) (ha : a < 256) : gm a b < 256 := gs_lt b ha 8
theorem gs_xor {a b : Nat} (c : Nat) (ha : a < 256) (hb : b < 256) : ∀ i, gs (a ^^^ b) c i = gs a c i ^^^ gs b c i
  | 0 => by show 0 = 0 ^^^ 0; rfl
  | i + 1 => by
    show (if c / 2 ^ i % 2 = 1 then gs (a ^^^ b) c i ^^^ dp (a ^^^ b) i else gs (a ^^^ b) c i) = (if c / 2 ^ i % 2 = 1 then gs a c i ^^^ dp a i else gs a c i) ^^^ (if c / 2 ^ i % 2 = 1 then gs b c i ^^^ dp b i else gs b c i)
    rw [gs_xor c ha hb i, dp_xor ha hb i]
    split
    · exact xor4 _ _ _ _
    · rfl
theorem gm_xor {a b : Nat} (c : Nat) (ha : a < 256) (hb : b < 256) : gm (a ^^^ b) c = gm a c ^^^ gm b c := gs_xor c ha hb 8
theorem dp_dbl (a : Nat) : ∀ i, dp (dbl a) i = dbl (dp a i)
  | 0 => rfl
  | i + 1 => congrArg dbl (dp_dbl a i)
theorem dp_gs {a : Nat} (b : Nat) (ha : a < 256) : ∀ i, dbl (gs a b i) = gs (dbl a) b i
  | 0 => rfl
  | i + 1 => by
    show dbl (if b / 2 ^ i % 2 = 1 then gs a b i ^^^ dp a i else gs a b i) = (if b / 2 ^ i % 2 = 1 then gs (dbl a) b i ^^^ dp (dbl a) i else gs (dbl a) b i)
    split
    · rw [dbl_xor (gs_lt b ha i) (dp_lt ha i), dp_gs b ha i, dp_dbl]
    · exact dp_gs b ha i
theorem dp_gm {a : Nat} (b : Nat) (ha : a < 256) : ∀ i, dp (gm a b) i = gm (dp a i) b
  | 0 => rfl
  | i + 1 => by
    show dbl (dp (gm a b) i) = gm (dbl (dp a i)) b
    rw [dp_gm b ha i]
    exact dp_gs b (dp_lt ha i) 8
theorem gm_zero_l (b : Nat) : gm 0 b = 0 := by
  have h : ∀ i, dp 0 i = 0 := fun i => by
    induction i with
    | zero => rfl
    | succ i ih => show dbl (dp 0 i) = 0; rw [ih]; rfl
  have g : ∀ i, gs 0 b i = 0 := fun i => by
    induction i with
    | zero => rfl
    | succ i ih =>
      show (if b / 2 ^ i % 2 = 1 then gs 0 b i ^^^ dp 0 i else gs 0 b i) = 0
      rw [ih, h]
      split <;> rfl
  exact g 8
theorem gs_gm {a b : Nat} (c : Nat) (ha : a < 256) : ∀ i, gs (gm a b) c i = gm (gs a c i) b
  | 0 => (gm_zero_l b).symm
  | i + 1 => by
    show (if c / 2 ^ i % 2 = 1 then gs (gm a b) c i ^^^ dp (gm a b) i else gs (gm a b) c i) = gm (if c / 2 ^ i % 2 = 1 then gs a c i ^^^ dp a i else gs a c i) b
    rw [gs_gm c ha i, dp_gm b ha i]
    split
    · rw [gm_xor b (gs_lt c ha i) (dp_lt ha i)]
    · rfl
theorem gm_swap {a b : Nat} (c : Nat) (ha : a < 256) : gm (gm a b) c = gm (gm a c) b := gs_gm c ha 8
theorem gm_one_l {a : Nat} (ha : a < 256) : gm 1 a = a := by
  have h : allLt (fun a => Nat.beq (gm 1 a) a) 256 = true := by decide +kernel
  exact Nat.eq_of_beq_eq_true (allLt_of h a ha)
theorem gm_comm {a b : Nat} (ha : a < 256) (hb : b < 256) : gm a b = gm b a := by
  have h : gm (gm 1 a) b = gm (gm 1 b) a := gm_swap b (by decide)
  rw [gm_one_l ha, gm_one_l hb] at h
  exact h
/-! ### the law's own product is the same -/
theorem high {z m : Nat} (hz : z < 2 ^ (m + 1)) : 2 ^ m ≤ z ↔ z.testBit m = true := by
  have e : 2 ^ (m + 1) = 2 * 2 ^ m := by rw [Nat.pow_succ, Nat.mul_comm]
  constructor
  · intro h
    rw [Nat.testBit_eq_decide_div_mod_eq, decide_eq_true_eq]
    have : z / 2 ^ m = 1 := Nat.div_eq_of_lt_le (by omega) (by omega)
    rw [this]
  · exact Nat.ge_two_pow_of_testBit
def st (m c t : Nat) : Nat := if 2 ^ m ≤ t then t ^^^ c else t
theorem st_xor {m c x y : Nat} (hx : x < 2 ^ (m + 1)) (hy : y < 2 ^ (m + 1)) : st m c (x ^^^ y) = st m c x ^^^ st m c y := by
  have hz := Nat.xor_lt_two_pow hx hy
  have e : (x ^^^ y).testBit m = (x.testBit m ^^ y.testBit m) := Nat.testBit_xor ..
  unfold st
  by_cases a : 2 ^ m ≤ x <;> by_cases b : 2 ^ m ≤ y
  · have n : ¬ 2 ^ m ≤ x ^^^ y := by rw [high hz, e, (high hx).mp a, (high hy).mp b]; decide
    rw [if_pos a, if_pos b, if_neg n, xor4, Nat.xor_self, Nat.xor_zero]
  · have b' : y.testBit m = false := by rw [high hy] at b; simpa using b
    have n : 2 ^ m ≤ x ^^^ y := by rw [high hz, e, (high hx).mp a, b']; decide
    rw [if_pos a, if_neg b, if_pos n, Nat.xor_assoc, Nat.xor_assoc, Nat.xor_comm y c]
  · have a' : x.testBit m = false := by rw [high hx] at a; simpa using a
    have n : 2 ^ m ≤ x ^^^ y := by rw [high hz, e, (high hy).mp b, a']; decide
    rw [if_neg a, if_pos b, if_pos n, Nat.xor_assoc]
  · have a' : x.testBit m = false := by rw [high hx] at a; simpa using a
    have b' : y.testBit m = false := by rw [high hy] at b; simpa using b
    have n : ¬ 2 ^ m ≤ x ^^^ y := by rw [high hz, e, a', b']; decide
    rw [if_neg a, if_neg b, if_neg n]
theorem st_lt {m c t : Nat} (hc : c < 2 ^ (m + 1)) (hc' : 2 ^ m ≤ c) (ht : t < 2 ^ (m + 1)) : st m c t < 2 ^ m := by
  unfold st
  by_cases a : 2 ^ m ≤ t
  · rw [if_pos a]
    have hz := Nat.xor_lt_two_pow ht hc
    have e : (t ^^^ c).testBit m = (t.testBit m ^^ c.testBit m) := Nat.testBit_xor ..
    have n : ¬ 2 ^ m ≤ t ^^^ c := by rw [high hz, e, (high ht).mp a, (high hc).mp hc']; decide
    omega
  · rw [if_neg a]; omega
theorem tab (i : Nat) (h : i < 8) : 32768 / 2 ^ i = 2 ^ (15 - i) ∧ 36480 / 2 ^ i < 2 ^ (15 - i + 1) ∧ 2 ^ (15 - i) ≤ 36480 / 2 ^ i := by
  have t : ∀ i : Fin 8, 32768 / 2 ^ i.val = 2 ^ (15 - i.val) ∧ 36480 / 2 ^ i.val < 2 ^ (15 - i.val + 1) ∧ 2 ^ (15 - i.val) ≤ 36480 / 2 ^ i.val := by decide +kernel
  exact t ⟨i, h⟩
theorem rd_st {t i : Nat} (h : i < 8) : rd t (i + 1) = st (15 - i) (36480 / 2 ^ i) (rd t i) := by
  show (if 32768 / 2 ^ i ≤ rd t i then rd t i ^^^ (36480 / 2 ^ i) else rd t i) = _
  rw [(tab i h).1]
  rfl
theorem rd_lt {t : Nat} (ht : t < 65536) : ∀ i, i ≤ 8 → rd t i < 2 ^ (16 - i)
  | 0, _ => ht
  | i + 1, h => by
    rw [rd_st (by omega), show 16 - (i + 1) = 15 - i by omega]
    exact st_lt (tab i (by omega)).2.1 (tab i (by omega)).2.2 (by rw [show 15 - i + 1 = 16 - i by omega]; exact rd_lt ht i (by omega))
theorem rd_xor {x y : Nat} (hx : x < 65536) (hy : y < 65536) : ∀ i, i ≤ 8 → rd (x ^^^ y) i = rd x i ^^^ rd y i
  | 0, _ => rfl
  | i + 1, h => by
    rw [rd_st (by omega), rd_st (by omega), rd_st (by omega), rd_xor hx hy i (by omega)]
    refine st_xor ?_ ?_
    · rw [show 15 - i + 1 = 16 - i by omega]; exact rd_lt hx i (by omega)
    · rw [show 15 - i + 1 = 16 - i by omega]; exact rd_lt hy i (by omega)
theorem sh_lt {a i : Nat} (ha : a < 256) (hi : i < 8) : 2 ^ i * a < 65536 := by
  have h : 2 ^ i ≤ 2 ^ 7 := Nat.pow_le_pow_right (by decide) (by omega)
  have k : 2 ^ i * a ≤ 2 ^ 7 * a := Nat.mul_le_mul_right a h
  omega
theorem cl_lt {a : Nat} (b : Nat) (ha : a < 256) : ∀ i, i ≤ 8 → cl a b i < 65536
  | 0, _ => by show 0 < 65536; decide
  | i + 1, h => by
    show (if b / 2 ^ i % 2 = 1 then cl a b i ^^^ (2 ^ i * a) else cl a b i) < 65536
    split
    · exact Nat.xor_lt_two_pow (n := 16) (cl_lt b ha i (by omega)) (sh_lt ha (by omega))
    · exact cl_lt b ha i (by omega)
theorem rd_dp {a i : Nat} (ha : a < 256) (hi : i < 8) : rd (2 ^ i * a) 8 = dp a i := by
  have h : allLt (fun a => allLt (fun i => Nat.beq (rd (2 ^ i * a) 8) (dp a i)) 8) 256 = true := by decide +kernel
  exact Nat.eq_of_beq_eq_true (allLt_of (allLt_of h a ha) i hi)
theorem rd_cl {a : Nat} (b : Nat) (ha : a < 256) : ∀ i, i ≤ 8 → rd (cl a b i) 8 = gs a b i
  | 0, _ => by
    show rd 0 8 = 0
    decide +kernel
  | i + 1, h => by
    show rd (if b / 2 ^ i % 2 = 1 then cl a b i ^^^ (2 ^ i * a) else cl a b i) 8 = (if b / 2 ^ i % 2 = 1 then gs a b i ^^^ dp a i else gs a b i)
    split
    · rw [rd_xor (cl_lt b ha i (by omega)) (sh_lt ha (by omega)) 8 (by omega), rd_cl b ha i (by omega), rd_dp ha (by omega)]
    · exact rd_cl b ha i (by omega)
theorem gm_tm {a : Nat} (b : Nat) (ha : a < 256) : tm a b = gm a b := rd_cl b ha 8 (by omega)
theorem gm_two {a : Nat} (ha : a < 256) : gm a 2 = dbl a := by
  have h : allLt (fun a => Nat.beq (gm a 2) (dbl a)) 256 = true := by decide +kernel
  exact Nat.eq_of_beq_eq_true (allLt_of h a ha)
theorem gm_assoc {a b c : Nat} (ha : a < 256) (hb : b < 256) (hc : c < 256) : gm a (gm b c) = gm (gm a b) c := by
  rw [gm_comm ha (gm_lt c hb), gm_swap a hb, gm_comm hb ha]
theorem gm_xor_r {a b c : Nat} (ha : a < 256) (hb : b < 256) (hc : c < 256) : gm a (b ^^^ c) = gm a b ^^^ gm a c := by
  rw [gm_comm ha (xlt hb hc), gm_xor a hb hc, gm_comm ha hb, gm_comm ha hc]
theorem gm_one_r {a : Nat} (ha : a < 256) : gm a 1 = a := by rw [gm_comm ha (by decide), gm_one_l ha]
theorem gm_zero_r (a : Nat) : gm a 0 = 0 := by
  have h : ∀ i, (0 : Nat) / 2 ^ i % 2 = 0 := fun i => by rw [Nat.zero_div]
  have g : ∀ i, gs a 0 i = 0 := fun i => by
    induction i with
    | zero => rfl
    | succ i ih =>
      show (if 0 / 2 ^ i % 2 = 1 then gs a 0 i ^^^ dp a i else gs a 0 i) = 0
      rw [ih, h, if_neg (by decide)]
  exact g 8
theorem iv_ok {a : Nat} (ha : a < 256) (h0 : a ≠ 0) : gm a (iv a) = 1 ∧ 0 < iv a ∧ iv a < 256 := by
  have h : allLt (fun a => a == 0 || (Nat.beq (gm a (iv a)) 1 && decide (0 < iv a) && decide (iv a < 256))) 256 = true := by decide +kernel
  have k := allLt_of h a ha
  simp only [Bool.or_eq_true, beq_iff_eq, Bool.and_eq_true, decide_eq_true_eq] at k
  rcases k with k | ⟨⟨k1, k2⟩, k3⟩
  · exact absurd k h0
  · exact ⟨Nat.eq_of_beq_eq_true k1, k2, k3⟩
theorem pw_lt {a t : Nat} (ha : a < 256) (ht : t < 256) : ∀ i, (pw a t i).1 < 256 ∧ (pw a t i).2 < 256
  | 0 => ⟨ha, ht⟩
  | i + 1 => ⟨gm_lt _ (pw_lt ha ht i).1, gm_lt _ (pw_lt ha ht i).2⟩
end R
set_option Elab.async false
set_option linter.all false
set_option maxRecDepth 100000
set_option maxHeartbeats 4000000
namespace R
open PySem PySem.Spec L2
def topS (i : Nat) : Stmt := PySem.Challenge.pw_rotward_k20_field_of_bytes.main.body.getD i (.Pass ⟨0, 0, 0, 0⟩)
abbrev s__law_next : Stmt := topS 5
theorem sc__law_next : FnScope ["state", "limit", "cell", "value"] ["state", "limit"] (defScope s__law_next) := ⟨rfl, rfl, rfl, by decide +kernel, rfl, by decide +kernel, by decide +kernel⟩
abbrev s__law_same : Stmt := topS 6
theorem sc__law_same : FnScope ["actual", "expected", "k"] ["actual", "expected"] (defScope s__law_same) := ⟨rfl, rfl, rfl, by decide +kernel, rfl, by decide +kernel, by decide +kernel⟩
abbrev s_double : Stmt := topS 1
theorem sc_double : FnScope ["a", "twice"] ["a"] (defScope s_double) := ⟨rfl, rfl, rfl, by decide +kernel, rfl, by decide +kernel, by decide +kernel⟩
abbrev s_product : Stmt := topS 2
theorem sc_product : FnScope ["a", "b", "total", "bit"] ["a", "b"] (defScope s_product) := ⟨rfl, rfl, rfl, by decide +kernel, rfl, by decide +kernel, by decide +kernel⟩
abbrev s_inverse : Stmt := topS 3
theorem sc_inverse : FnScope ["a", "total", "_"] ["a"] (defScope s_inverse) := ⟨rfl, rfl, rfl, by decide +kernel, rfl, by decide +kernel, by decide +kernel⟩
abbrev s__law_times : Stmt := topS 7
theorem sc__law_times : FnScope ["a", "b", "total", "k", "bound", "taken"] ["a", "b"] (defScope s__law_times) := ⟨rfl, rfl, rfl, by decide +kernel, rfl, by decide +kernel, by decide +kernel⟩
abbrev s__law_asks : Stmt := topS 8
theorem sc__law_asks : FnScope ["a", "b", "c", "other"] ["a", "b", "c"] (defScope s__law_asks) := ⟨rfl, rfl, rfl, by decide +kernel, rfl, by decide +kernel, by decide +kernel⟩
abbrev s_law : Stmt := topS 9
theorem sc_law : FnScope ["script", "state", "drawn", "k", "a", "b"] ["script"] (defScope s_law) := ⟨rfl, rfl, rfl, by decide +kernel, rfl, by decide +kernel, by decide +kernel⟩
structure Mg (mg : Str → Option Value) : Prop where
  n_bool : mg "bool" = none
  n_int : mg "int" = none
  n_isinstance : mg "isinstance" = none
  n_len : mg "len" = none
  n_list : mg "list" = none
  n_range : mg "range" = none
  n_str : mg "str" = none
  n_tuple : mg "tuple" = none
local macro_rules | `(tactic| walk_at "go") => `(tactic| (repeat (first | (with_reducible refine iSeq ?_) | (with_reducible refine iAsg ?_) | ((with_reducible apply iName); (· repeat constructor)) | ((with_reducible apply iVar); (· rfl)) | (with_reducible refine iC ?_) | (with_reducible refine iOp ?_) | (with_reducible refine iI0 ?_) | (with_reducible refine iCons ?_) | (with_reducible refine iNil ?_) | (with_reducible refine iCB ?_) | (with_reducible refine iIfS ?_) | (with_reducible refine iTest ?_) | (with_reducible refine iBl ?_) | (with_reducible refine iRet ?_) | (with_reducible refine iNext ?_) | (with_reducible refine iDrop ?_) | (with_reducible refine iEqI ?_) | (with_reducible refine iNeI ?_) | (with_reducible refine iInt ?_) | (with_reducible refine iFor ?_) | (with_reducible refine iRng ?_) | (with_reducible refine iCal ?_) | (with_reducible refine iAnd ?_) | (with_reducible refine iOr ?_) | (with_reducible refine iNot ?_) | (with_reducible refine iB ?_) | (with_reducible refine iIf ?_) | (with_reducible refine iChain ?_) | (with_reducible refine iUn ?_) | (with_reducible refine iU ?_) | (with_reducible refine iRetN ?_) | (with_reducible refine iIsN ?_) | (with_reducible refine iNotN ?_) | (with_reducible refine iTruI ?_) | (with_reducible refine ifNDr ?_) | (with_reducible refine ifDr ?_) | (with_reducible refine iAndV ?_) | (with_reducible refine iOrV ?_) | (with_reducible refine iNotV ?_) | (with_reducible refine iAugS ?_) | (with_reducible refine iIpI ?_) | (with_reducible refine iSub ?_) | (with_reducible refine iLst ?_) | (with_reducible refine iTup ?_) | (with_reducible refine iIterL ?_) | (with_reducible refine iBreak ?_) | (with_reducible refine iCont ?_) | (with_reducible refine iEqB ?_) | (with_reducible refine iNeB ?_) | (with_reducible refine iEqS ?_) | (with_reducible refine iNeS ?_) | ((with_reducible apply iRngI); (· first | decide | omega); (· first | decide | omega)) | ((with_reducible apply iAugK); (· rfl)) | ((with_reducible apply iI); rotate_left; (· (first | (exact Or.inl ⟨by omega, by omega⟩) | (exact Or.inr ⟨by omega, by omega⟩) | (show (0:Int) < _; omega) | (show (0:Int) ≤ _; omega) | (exact ⟨by omega, by omega⟩) | (exact ⟨by decide, by decide, by decide⟩)))) | ((with_reducible apply iIxL); (· (first | assumption | exact upd_same | (refine (upd_ne ?_).trans ?_; (· first | assumption | (apply Ne.symm; assumption)); (· first | assumption | exact upd_same)))); (· rfl)) | ((with_reducible apply iLenL); (· (first | assumption | exact upd_same | (refine (upd_ne ?_).trans ?_; (· first | assumption | (apply Ne.symm; assumption)); (· first | assumption | exact upd_same))))) | ((with_reducible apply iSetL); (· (first | assumption | exact upd_same | (refine (upd_ne ?_).trans ?_; (· first | assumption | (apply Ne.symm; assumption)); (· first | assumption | exact upd_same)))); (· rfl)) | ((with_reducible apply iIsi); (· first | exact tyN_int | exact tyN_bl | exact tyN_non | exact tyN_str | exact tyN_lst (by (first | assumption | exact upd_same | (refine (upd_ne ?_).trans ?_; (· first | assumption | (apply Ne.symm; assumption)); (· first | assumption | exact upd_same)))) | exact tyN_tup (by (first | assumption | exact upd_same | (refine (upd_ne ?_).trans ?_; (· first | assumption | (apply Ne.symm; assumption)); (· first | assumption | exact upd_same))))); (· (first | exact kb_NoneType_bool | exact kb_NoneType_int | exact kb_NoneType_str | exact kb_NoneType_tuple | exact kb_NoneType_list | exact kb_bool_bool | exact kb_bool_int | exact kb_bool_str | exact kb_bool_tuple | exact kb_bool_list | exact kb_int_bool | exact kb_int_int | exact kb_int_str | exact kb_int_tuple | exact kb_int_list | exact kb_str_bool | exact kb_str_int | exact kb_str_str | exact kb_str_tuple | exact kb_str_list | exact kb_tuple_bool | exact kb_tuple_int | exact kb_tuple_str | exact kb_tuple_tuple | exact kb_tuple_list | exact kb_list_bool | exact kb_list_int | exact kb_list_str | exact kb_list_tuple | exact kb_list_list))) | ((with_reducible apply iLenT); (· (first | assumption | exact upd_same | (refine (upd_ne ?_).trans ?_; (· first | assumption | (apply Ne.symm; assumption)); (· first | assumption | exact upd_same))))) | ((with_reducible apply iLenS); (· first | exact Or.inl (by (first | assumption | exact upd_same | (refine (upd_ne ?_).trans ?_; (· first | assumption | (apply Ne.symm; assumption)); (· first | assumption | exact upd_same)))) | exact Or.inr (by (first | assumption | exact upd_same | (refine (upd_ne ?_).trans ?_; (· first | assumption | (apply Ne.symm; assumption)); (· first | assumption | exact upd_same)))))) | ((with_reducible apply ifT); (· rfl)) | ((with_reducible apply ifF); (· rfl)) | ((with_reducible apply ifT); (· apply decide_eq_true; omega)) | ((with_reducible apply ifF); (· apply decide_eq_false; omega)) | ((with_reducible apply ifNp); (· omega)) | ((with_reducible apply ifNn); (· omega)))))
local macro_rules | `(tactic| walk_at "look") => `(tactic| (first | assumption | exact upd_same | (refine (upd_ne ?_).trans ?_; (· first | assumption | (apply Ne.symm; assumption)); (· first | assumption | exact upd_same))))
local macro_rules | `(tactic| walk_at "side") => `(tactic| (first | (exact Or.inl ⟨by omega, by omega⟩) | (exact Or.inr ⟨by omega, by omega⟩) | (show (0:Int) < _; omega) | (show (0:Int) ≤ _; omega) | (exact ⟨by omega, by omega⟩) | (exact ⟨by decide, by decide, by decide⟩)))
section
variable {P : Program} {w : World} {K : PySem.W.Frag} {mg : Str → Option Value} {base : Heap}
/-! ### the draws -/
def DrawAt (H : Hp) (a l : Addr) : Prop := ∃ (ns : List Int) (i r q : Int), H a = some (.lst [.ref l, .int i, .int r, .int q]) ∧ H l = some (.lst (ns.map V.int)) ∧ a ≠ l ∧ ns.length ≤ 63 ∧ 0 ≤ i ∧ i ≤ ns.length ∧ 0 ≤ r ∧ 0 ≤ q ∧ q < 2147483647
theorem DrawAt.to {H : Hp} {a l : Addr} {ns : List Int} {i r q : Int} (h2 : H l = some (.lst (ns.map V.int))) (ne : a ≠ l) (hl : ns.length ≤ 63) (i0 : 0 ≤ i) (i1 : i ≤ ns.length) (r0 : 0 ≤ r) (q0 : 0 ≤ q) (q1 : q < 2147483647) :
    DrawAt (upd H a (.lst [.ref l, .int i, .int r, .int q])) a l := ⟨ns, i, r, q, upd_same, (upd_ne ne.symm).trans h2, ne, hl, i0, i1, r0, q0, q1⟩
theorem DrawAt.ne {H : Hp} {a l : Addr} (D : DrawAt H a l) : a ≠ l := by
  obtain ⟨ns, i, r, q, ha, hl, ne, _⟩ := D
  exact ne
theorem DrawAt.upd {H : Hp} {a l p : Addr} {o : HO} (D : DrawAt H a l) (h1 : p ≠ a) (h2 : p ≠ l) : DrawAt (L2.upd H p o) a l := by
  obtain ⟨ns, i, r, q, ha, hl, k⟩ := D
  exact ⟨ns, i, r, q, (upd_ne h1.symm).trans ha, (upd_ne h2.symm).trans hl, k⟩
theorem DrawAt.fresh {H : Hp} {a l p : Addr} (D : DrawAt H a l) (h : H p = none) : p ≠ a ∧ p ≠ l := by
  obtain ⟨ns, i, r, q, ha, hl, k⟩ := D
  exact ⟨(ne_of_none ha h).symm, (ne_of_none hl h).symm⟩
theorem DrawAt.new {H : Hp} {a l p : Addr} {o : HO} (D : DrawAt H a l) (h : H p = none) : DrawAt (L2.upd H p o) a l := D.upd (D.fresh h).1 (D.fresh h).2
def sp__law_next : Sp := fun vs H Q _ => ∃ (a l : Addr) (lim : Int), vs = [.ref a, .int lim] ∧ DrawAt H a l ∧ 0 < lim ∧ lim < 1073741824 ∧ ∀ (v : Int) (st : HO), 0 ≤ v → v < lim → DrawAt (upd H a st) a l → Q (.int v) (upd H a st)
theorem ok__law_next (M : Mg mg) {f : Addr} {fd : FuncData} (F : Fun K "_law_next" "_law_next" s__law_next f fd) : FnOk P w K mg base CX0 1 f fd ["state", "limit"] sp__law_next := by
  refine F.ok sc__law_next (fun vs H Q E h => ?_) (fun cdv A outer s H vs Q E hr h => ?_)
  · obtain ⟨a, l, lim, rfl, _⟩ := h; rfl
  · obtain ⟨a, l, lim, rfl, D, l0, l1, q⟩ := h
    refine ⟨_, (Evl.pss_cut (ps_if (PW.pt (pw_and (pt_cmpR op_eq (pe_ix ix_l (pv 0) pe_int (fun _ _ => rfl)) pe_int (nomark _)) (pw_and1 (pt_cmpR op_lt (pe_ix ix_l (pv 0) pe_int (fun _ _ => rfl)) (pe_callB len_l (by rfl) M.n_len PySem.boot_len (pa_cons (pe_ix ix_l (pv 0) pe_int (fun _ _ => rfl)) pa_nil)) (nomark _))))) (pss_cons (ps_set (i := 2) sc__law_next.nd rfl (Or.inl rfl) (pe_ix ix_l (pe_ix ix_l (pv 0) pe_int (fun _ _ => rfl)) (pe_ix ix_l (pv 0) pe_int (fun _ _ => rfl)) (fun _ _ => rfl))) (pss_cons (ps_augS (pv 0) pe_int get_l pe_int ip_add set_list) (pss_one (ps_if (pt_cmpR op_ge (pv 2) (pe_op op_pow pe_int pe_int) (nomark _)) (pss_one (ps_asg (pv 2) (pg_sub (pv 0) pe_int set_list))) (pss_one (ps_asg (pe_op op_mod (pe_callTy int_i (by rfl) M.n_int (by decide +kernel) (pa_cons (pe_op op_add (pe_op op_add (pe_op op_mul (pe_ix ix_l (pv 0) pe_int (fun _ _ => rfl)) pe_int) (pe_op op_mod (pe_callTy int_i (by rfl) M.n_int (by decide +kernel) (pa_cons (pv 2) pa_nil)) pe_int)) pe_int) pa_nil)) pe_int) (pg_sub (pv 0) pe_int set_list))))))) pss_nil) (pss_cons (ps_if (pt_cmpR op_gt (pe_ix ix_l (pv 0) pe_int (fun _ _ => rfl)) pe_int (nomark _)) (pss_cons (ps_set (i := 3) sc__law_next.nd rfl (Or.inl rfl) (pe_op op_mod (pe_callTy int_i (by rfl) M.n_int (by decide +kernel) (pa_cons (pe_ix ix_l (pv 0) pe_int (fun _ _ => rfl)) pa_nil)) (pv 1))) (pss_cons (ps_asg (pe_op op_fdiv (pe_ix ix_l (pv 0) pe_int (fun _ _ => rfl)) (pv 1)) (pg_sub (pv 0) pe_int set_list)) (pss_one (ps_ret (pv 3))))) pss_nil) (pss_cons (ps_asg (pe_op op_mod (pe_callTy int_i (by rfl) M.n_int (by decide +kernel) (pa_cons (pe_op op_add (pe_op op_mul (pe_ix ix_l (pv 0) pe_int (fun _ _ => rfl)) pe_int) pe_int) pa_nil)) pe_int) (pg_sub (pv 0) pe_int set_list)) (pss_one (ps_ret (pe_op op_mod (pe_callTy int_i (by rfl) M.n_int (by decide +kernel) (pa_cons (pe_op op_fdiv (pe_ix ix_l (pv 0) pe_int (fun _ _ => rfl)) pe_int) pa_nil)) (pv 1))))))), ?_⟩
    refine iBody (by repeat constructor) ?_
    refine iCut (fun σ H1 => ∃ cell st, σ = [some (.ref a), some (.int lim), cell, none] ∧ H1 = upd H a st ∧ DrawAt (upd H a st) a l) ?_ ?_
    · obtain ⟨ns, i, r, q, ha, hl, ne, hn, i0, i1, r0, q0, q1⟩ := D
      walk_at "go"
      refine ifD (fun h1 => ?_) (fun h1 => ?_)
      · walk_at "go"
        refine ifD (fun h2 => ?_) (fun h2 => ?_)
        · rw [List.length_map] at h2
          walk_at "go"
          obtain ⟨x, hx⟩ := atI_map i0 h2
          refine iIxL hl hx ?_
          walk_at "go"
          refine ifD (fun h3 => ?_) (fun h3 => ?_)
          · have t18 : (10 : Int) ^ Int.toNat 18 = 1000000000000000000 := by decide
            rw [t18] at h3
            walk_at "go"
            rw [upd_upd]
            exact ⟨_, _, rfl, rfl, .to hl ne hn (by omega) (by omega) (by omega) q0 q1⟩
          · walk_at "go"
            rw [upd_upd]
            exact ⟨_, _, rfl, rfl, .to hl ne hn (by omega) (by omega) (by omega) (by omega) (by omega)⟩
        · walk_at "go"
          exact ⟨_, _, rfl, (upd_id ha).symm, (upd_id ha).symm ▸ ⟨ns, i, r, q, ha, hl, ne, hn, i0, i1, r0, q0, q1⟩⟩
      · walk_at "go"
        exact ⟨_, _, rfl, (upd_id ha).symm, (upd_id ha).symm ▸ ⟨ns, i, r, q, ha, hl, ne, hn, i0, i1, r0, q0, q1⟩⟩
    · rintro σ H1 ⟨cell, st, rfl, rfl, ns, i, r, q2, ha, hl, ne, hn, i0, i1, r0, q0, q1⟩
      walk_at "go"
      refine ifD (fun h1 => ?_) (fun h1 => ?_)
      · walk_at "go"
        rw [upd_upd]
        refine q _ _ (Int.emod_nonneg _ (by omega)) (Int.emod_lt_of_pos _ l0) ?_
        refine .to ((upd_ne ne.symm).symm.trans hl) ne hn i0 i1 (Int.ediv_nonneg (by omega) (by omega)) q0 q1
      · walk_at "go"
        rw [upd_upd]
        refine q _ _ (Int.emod_nonneg _ (by omega)) (Int.emod_lt_of_pos _ l0) ?_
        refine .to ((upd_ne ne.symm).symm.trans hl) ne hn i0 i1 (by omega) (by omega) (by omega)
theorem j_next {H : Hp} {a l : Addr} {lim : Int} {Q : VK} {E : XK} (D : DrawAt H a l) (h0 : 0 < lim) (h1 : lim < 1073741824) (q : ∀ v H', 0 ≤ v → v < lim → DrawAt H' a l → (∀ p, p ≠ a → H' p = H p) → Q (.int v) H') :
    sp__law_next [.ref a, .int lim] H Q E := ⟨a, l, lim, rfl, D, h0, h1, fun v st v0 v1 D' => q v _ v0 v1 D' fun _ hp => upd_ne hp⟩
/-! ### what is the same -/
inductive Dt where
  | non | bl (b : Bool) | int (i : Int) | str (x : Str) | lst (ds : List Dt) | tup (ds : List Dt)
def AtN : Nat → Hp → V → Dt → Prop
  | _, _, v, .non => v = .non
  | _, _, v, .bl b => v = .bl b
  | _, _, v, .int i => v = .int i
  | _, _, v, .str x => v = .str x
  | n + 1, H, v, .lst ds => ∃ (p : Addr) (xs : List V), v = .ref p ∧ H p = some (.lst xs) ∧ xs.length = ds.length ∧ xs.length ≤ 100000 ∧ ∀ (i : Nat) (x : V) (d : Dt), xs[i]? = some x → ds[i]? = some d → AtN n H x d
  | n + 1, H, v, .tup ds => ∃ (p : Addr) (xs : List V), v = .ref p ∧ H p = some (.tup xs) ∧ xs.length = ds.length ∧ xs.length ≤ 100000 ∧ ∀ (i : Nat) (x : V) (d : Dt), xs[i]? = some x → ds[i]? = some d → AtN n H x d
  | 0, _, _, .lst _ => False
  | 0, _, _, .tup _ => False
theorem AtN.non_eq {n : Nat} {H : Hp} {v : V} : AtN n H v .non = (v = .non) := by cases n <;> rfl
theorem AtN.bl_eq {n : Nat} {H : Hp} {v : V} {b : Bool} : AtN n H v (.bl b) = (v = .bl b) := by cases n <;> rfl
theorem AtN.int_eq {n : Nat} {H : Hp} {v : V} {b : Int} : AtN n H v (.int b) = (v = .int b) := by cases n <;> rfl
theorem AtN.str_eq {n : Nat} {H : Hp} {v : V} {b : Str} : AtN n H v (.str b) = (v = .str b) := by cases n <;> rfl
def sp__law_same : Nat → Sp
  | 0 => fun _ _ _ _ => False
  | n + 1 => fun vs H Q _ => ∃ (x y : V) (d : Dt), vs = [x, y] ∧ AtN n H x d ∧ AtN n H y d ∧ Q (.bl true) H
theorem ok__law_same (M : Mg mg) {f : Addr} {fd : FuncData} (F : Fun K "_law_same" "_law_same" s__law_same f fd) (g : mg "_law_same" = some (.ref f)) (bi : Binds K fd ["actual", "expected"] []) :
    ∀ n, FnOk P w K mg base CX0 n f fd ["actual", "expected"] (sp__law_same n)
  | 0 => ⟨fun _ _ _ _ h => h.elim, fun _ _ _ _ _ _ _ _ _ _ _ _ _ h => h.elim⟩
  | n + 1 => by
    have c__law_same : Cal P w K mg base n "_law_same" ["actual", "expected"] (sp__law_same n) := ⟨f, fd, ok__law_same M F g bi n, g, F.kp, bi⟩
    refine F.ok sc__law_same (fun vs H Q E h => ?_) (fun cdv A outer s H vs Q E hr h => ?_)
    · obtain ⟨x, y, d, rfl, _⟩ := h; rfl
    · obtain ⟨x, y, d, rfl, hx, hy, q⟩ := h
      refine ⟨_, (pss_cons (ps_if (pt_cmpR op_isN1 (pv 1) pe_non (nomark _)) (pss_one (ps_ret (pe_cmpR op_isN1 (pv 0) pe_non (nomark _)))) pss_nil) (pss_cons (ps_if (pt_val (pe_callB isi_b (by rfl) M.n_isinstance (by decide +kernel) (pa_cons (pv 1) (pa_cons (pe_ty (n := "bool") (by rfl) M.n_bool (by decide +kernel)) pa_nil)))) (pss_one (ps_ret (pe_and (pe_callB isi_b (by rfl) M.n_isinstance (by decide +kernel) (pa_cons (pv 0) (pa_cons (pe_ty (n := "bool") (by rfl) M.n_bool (by decide +kernel)) pa_nil))) (pe_one (pe_cmpR op_eq (pv 0) (pv 1) (nomark _)))))) pss_nil) (pss_cons (ps_if (pt_val (pe_callB isi_b (by rfl) M.n_isinstance (by decide +kernel) (pa_cons (pv 1) (pa_cons (pe_ty (n := "int") (by rfl) M.n_int (by decide +kernel)) pa_nil)))) (pss_one (ps_ret (pe_and (pe_callB isi_b (by rfl) M.n_isinstance (by decide +kernel) (pa_cons (pv 0) (pa_cons (pe_ty (n := "int") (by rfl) M.n_int (by decide +kernel)) pa_nil))) (pe_and (pe_not (pe_callB isi_b (by rfl) M.n_isinstance (by decide +kernel) (pa_cons (pv 0) (pa_cons (pe_ty (n := "bool") (by rfl) M.n_bool (by decide +kernel)) pa_nil)))) (pe_one (pe_cmpR op_eq (pv 0) (pv 1) (nomark _))))))) pss_nil) (pss_cons (ps_if (pt_val (pe_callB isi_b (by rfl) M.n_isinstance (by decide +kernel) (pa_cons (pv 1) (pa_cons (pe_ty (n := "str") (by rfl) M.n_str (by decide +kernel)) pa_nil)))) (pss_one (ps_ret (pe_and (pe_callB isi_b (by rfl) M.n_isinstance (by decide +kernel) (pa_cons (pv 0) (pa_cons (pe_ty (n := "str") (by rfl) M.n_str (by decide +kernel)) pa_nil))) (pe_one (pe_cmpR op_eq (pv 0) (pv 1) (nomark _)))))) pss_nil) (pss_cons (ps_if (PW.pt (pw_and (pt_val (pe_callB isi_b (by rfl) M.n_isinstance (by decide +kernel) (pa_cons (pv 1) (pa_cons (pe_ty (n := "tuple") (by rfl) M.n_tuple (by decide +kernel)) pa_nil)))) (pw_and1 (pt_not (pt_val (pe_callB isi_b (by rfl) M.n_isinstance (by decide +kernel) (pa_cons (pv 0) (pa_cons (pe_ty (n := "tuple") (by rfl) M.n_tuple (by decide +kernel)) pa_nil)))))))) (pss_one (ps_ret pe_bl)) pss_nil) (pss_cons (ps_if (PW.pt (pw_and (pt_val (pe_callB isi_b (by rfl) M.n_isinstance (by decide +kernel) (pa_cons (pv 1) (pa_cons (pe_ty (n := "list") (by rfl) M.n_list (by decide +kernel)) pa_nil)))) (pw_and1 (pt_not (pt_val (pe_callB isi_b (by rfl) M.n_isinstance (by decide +kernel) (pa_cons (pv 0) (pa_cons (pe_ty (n := "list") (by rfl) M.n_list (by decide +kernel)) pa_nil)))))))) (pss_one (ps_ret pe_bl)) pss_nil) (pss_cons (ps_if (pt_cmpR op_ne (pe_callB len_s (by rfl) M.n_len PySem.boot_len (pa_cons (pv 0) pa_nil)) (pe_callB len_s (by rfl) M.n_len PySem.boot_len (pa_cons (pv 1) pa_nil)) (nomark _)) (pss_one (ps_ret pe_bl)) pss_nil) (pss_cons (ps_for PassesOwn.never rfl (pi_range1 (by rfl) M.n_range (pa_cons (pe_callB len_s (by rfl) M.n_len PySem.boot_len (pa_cons (pv 1) pa_nil)) pa_nil)) (pg_name (i := 2) sc__law_same.nd rfl (Or.inl rfl)) (pss_one (ps_if (pt_not (pt_val (pe_cal c__law_same (hr.mono (by omega)) (by rfl) (pa_cons (pe_ix ix_s (pv 0) (pv 2) (fun _ _ => rfl)) (pa_cons (pe_ix ix_s (pv 1) (pv 2) (fun _ _ => rfl)) pa_nil))))) (pss_one (ps_ret pe_bl)) pss_nil))) (pss_one (ps_ret pe_bl)))))))))), ?_⟩
      refine iBody (by repeat constructor) ?_
      cases d with
      | non =>
        rw [AtN.non_eq] at hx hy
        subst hx; subst hy
        walk_at "go"
        exact q
      | bl k =>
        rw [AtN.bl_eq] at hx hy
        subst hx; subst hy
        walk_at "go"
        rw [decide_eq_true rfl]
        exact q
      | int k =>
        rw [AtN.int_eq] at hx hy
        subst hx; subst hy
        walk_at "go"
        rw [decide_eq_true rfl]
        exact q
      | str k =>
        rw [AtN.str_eq] at hx hy
        subst hx; subst hy
        walk_at "go"
        rw [decide_eq_true rfl]
        exact q
      | lst ds =>
        cases n with
        | zero => exact hx.elim
        | succ n =>
          obtain ⟨p, xs, rfl, hp, el, sl, ex⟩ := hx
          obtain ⟨p', ys, rfl, hp', el', sl', ey⟩ := hy
          walk_at "go"
          refine forJ_range0 (fun _ σ' H' => (∃ k, σ' = [some (.ref p), some (.ref p'), k]) ∧ H' = H) ⟨⟨_, rfl⟩, rfl⟩ (fun i σ' H' hi hp => ?_) (fun σ' H' hp => ?_)
          · obtain ⟨⟨k, rfl⟩, rfl⟩ := hp
            rw [Int.toNat_natCast] at hi
            walk_at "go"
            refine iIxS (.inl (by assumption)) (atI_natL xs i ▸ List.getElem?_eq_getElem (by omega)) ?_
            walk_at "go"
            refine iIxS (.inl (by assumption)) (atI_natL ys i ▸ List.getElem?_eq_getElem (by omega)) ?_
            walk_at "go"
            refine ⟨_, _, ds[i]'(by omega), rfl, ex i _ _ (List.getElem?_eq_getElem _) (List.getElem?_eq_getElem _), ey i _ _ (List.getElem?_eq_getElem _) (List.getElem?_eq_getElem _), ?_⟩
            walk_at "go"
            exact ⟨⟨_, rfl⟩, rfl⟩
          · obtain ⟨⟨k, rfl⟩, rfl⟩ := hp
            walk_at "go"
            exact q
      | tup ds =>
        cases n with
        | zero => exact hx.elim
        | succ n =>
          obtain ⟨p, xs, rfl, hp, el, sl, ex⟩ := hx
          obtain ⟨p', ys, rfl, hp', el', sl', ey⟩ := hy
          walk_at "go"
          refine forJ_range0 (fun _ σ' H' => (∃ k, σ' = [some (.ref p), some (.ref p'), k]) ∧ H' = H) ⟨⟨_, rfl⟩, rfl⟩ (fun i σ' H' hi hp => ?_) (fun σ' H' hp => ?_)
          · obtain ⟨⟨k, rfl⟩, rfl⟩ := hp
            rw [Int.toNat_natCast] at hi
            walk_at "go"
            refine iIxS (.inr (by assumption)) (atI_natL xs i ▸ List.getElem?_eq_getElem (by omega)) ?_
            walk_at "go"
            refine iIxS (.inr (by assumption)) (atI_natL ys i ▸ List.getElem?_eq_getElem (by omega)) ?_
            walk_at "go"
            refine ⟨_, _, ds[i]'(by omega), rfl, ex i _ _ (List.getElem?_eq_getElem _) (List.getElem?_eq_getElem _), ey i _ _ (List.getElem?_eq_getElem _) (List.getElem?_eq_getElem _), ?_⟩
            walk_at "go"
            exact ⟨⟨_, rfl⟩, rfl⟩
          · obtain ⟨⟨k, rfl⟩, rfl⟩ := hp
            walk_at "go"
            exact q
/-! ### bytes -/
theorem xor_nn (a b : Nat) : Builtin.bitXor (a : Int) (b : Int) = ((a ^^^ b : Nat) : Int) := by
  rw [Bits.bitXor_pp (Int.natCast_nonneg _) (Int.natCast_nonneg _)]; rfl
theorem bit_nn (b i : Nat) : Builtin.bitAnd ((b : Int) / 2 ^ (i : Int).toNat) 1 = ((b / 2 ^ i % 2 : Nat) : Int) := by
  have e : ((b : Int) / 2 ^ (i : Int).toNat) = ((b / 2 ^ i : Nat) : Int) := by
    rw [Int.toNat_natCast]; norm_cast
  rw [e]
  show Builtin.bitAnd ((b / 2 ^ i : Nat) : Int) ((1 : Nat) : Int) = _
  rw [PyProof.Rows.bitAnd_pp (Int.natCast_nonneg _) (Int.natCast_nonneg _), Int.toNat_natCast, Int.toNat_natCast, Nat.and_one_is_mod]
def sp_double : Sp := fun vs H Q _ => ∃ a : Nat, vs = [.int a] ∧ a < 256 ∧ Q (.int (dbl a : Nat)) H
theorem ok_double (M : Mg mg) {f : Addr} {fd : FuncData} (F : Fun K "double" "double" s_double f fd) : FnOk P w K mg base CX0 1 f fd ["a"] sp_double := by
  refine F.ok sc_double (fun vs H Q E h => ?_) (fun cdv A outer s H vs Q E hr h => ?_)
  · obtain ⟨a, rfl, _⟩ := h; rfl
  · obtain ⟨a, rfl, ha, q⟩ := h
    refine ⟨_, (pss_cons (ps_set (i := 1) sc_double.nd rfl (Or.inl rfl) (pe_op op_mul pe_int (pv 0))) (pss_cons (ps_if (pt_cmpR op_lt (pv 1) pe_int (nomark _)) (pss_one (ps_ret (pv 1))) pss_nil) (pss_one (ps_ret (pe_op op_xor (pv 1) pe_int))))), ?_⟩
    refine iBody (by repeat constructor) ?_
    walk_at "go"
    refine ifD (fun h => ?_) (fun h => ?_)
    · walk_at "go"
      exact vInt (by unfold dbl; rw [if_pos (by omega)]; omega) q
    · walk_at "go"
      exact vInt (by unfold dbl; rw [if_neg (by omega)]; exact xor_nn (2 * a) 285) q
def sp_product : Sp := fun vs H Q _ => ∃ a b : Nat, vs = [.int a, .int b] ∧ a < 256 ∧ Q (.int (gm a b : Nat)) H
theorem ok_product (M : Mg mg) {f : Addr} {fd : FuncData} (F : Fun K "product" "product" s_product f fd) (c_double : Cal P w K mg base 1 "double" ["a"] sp_double) : FnOk P w K mg base CX0 2 f fd ["a", "b"] sp_product := by
  refine F.ok sc_product (fun vs H Q E h => ?_) (fun cdv A outer s H vs Q E hr h => ?_)
  · obtain ⟨a, b, rfl, _⟩ := h; rfl
  · obtain ⟨a, b, rfl, ha, q⟩ := h
    refine ⟨_, (pss_cons (ps_set (i := 2) sc_product.nd rfl (Or.inl rfl) pe_int) (pss_cons (ps_for PassesOwn.never rfl (pi_range1 (by rfl) M.n_range (pa_cons pe_int pa_nil)) (pg_name (i := 3) sc_product.nd rfl (Or.inl rfl)) (pss_cons (ps_if (pt_truth (pe_op op_and (pe_op op_shr (pv 1) (pv 3)) pe_int) (by intro _; rfl)) (pss_one (ps_set (i := 2) sc_product.nd rfl (Or.inl rfl) (pe_op op_xor (pv 2) (pv 0)))) pss_nil) (pss_one (ps_set (i := 0) sc_product.nd rfl (Or.inl rfl) (pe_cal c_double (hr.mono (by omega)) (by rfl) (pa_cons (pv 0) pa_nil)))))) (pss_one (ps_ret (pv 2))))), ?_⟩
    refine iBody (by repeat constructor) ?_
    walk_at "go"
    refine forJ_range0 (fun i σ' H' => (∃ k, σ' = [some (.int (dp a i : Nat)), some (.int b), some (.int (gs a b i : Nat)), k]) ∧ H' = H) ⟨⟨_, rfl⟩, rfl⟩ (fun i σ' H' hi hp => ?_) (fun σ' H' hp => ?_)
    · obtain ⟨⟨k, rfl⟩, rfl⟩ := hp
      walk_at "go"
      rw [bit_nn]
      have fin : ∀ t : Nat, t = gs a b (i + 1) → (∃ k, [some (V.int (dbl (dp a i) : Nat)), some (.int b), some (.int t), some (V.int i)] = [some (.int (dp a (i + 1) : Nat)), some (.int b), some (.int (gs a b (i + 1) : Nat)), k]) ∧ H' = H' := fun t e => ⟨⟨some (V.int i), by rw [e]; rfl⟩, rfl⟩
      by_cases hb : b / 2 ^ i % 2 = 1
      · rw [hb]
        walk_at "go"
        refine ⟨dp a i, rfl, dp_lt ha i, ?_⟩
        walk_at "go"
        rw [xor_nn]
        exact fin _ (by show _ = (if b / 2 ^ i % 2 = 1 then gs a b i ^^^ dp a i else gs a b i); rw [if_pos hb])
      · have hb' : b / 2 ^ i % 2 = 0 := by omega
        rw [hb']
        walk_at "go"
        refine ⟨dp a i, rfl, dp_lt ha i, ?_⟩
        walk_at "go"
        exact fin _ (by show _ = (if b / 2 ^ i % 2 = 1 then gs a b i ^^^ dp a i else gs a b i); rw [if_neg hb])
    · obtain ⟨⟨k, rfl⟩, rfl⟩ := hp
      walk_at "go"
      exact q
def sp_inverse : Sp := fun vs H Q _ => ∃ a : Nat, vs = [.int a] ∧ a < 256 ∧ Q (.int (iv a : Nat)) H
theorem ok_inverse (M : Mg mg) {f : Addr} {fd : FuncData} (F : Fun K "inverse" "inverse" s_inverse f fd) (c_product : Cal P w K mg base 2 "product" ["a", "b"] sp_product) : FnOk P w K mg base CX0 3 f fd ["a"] sp_inverse := by
  refine F.ok sc_inverse (fun vs H Q E h => ?_) (fun cdv A outer s H vs Q E hr h => ?_)
  · obtain ⟨a, rfl, _⟩ := h; rfl
  · obtain ⟨a, rfl, ha, q⟩ := h
    refine ⟨_, (pss_cons (ps_set (i := 1) sc_inverse.nd rfl (Or.inl rfl) pe_int) (pss_cons (ps_for PassesOwn.never rfl (pi_range1 (by rfl) M.n_range (pa_cons pe_int pa_nil)) (pg_name (i := 2) sc_inverse.nd rfl (Or.inl rfl)) (pss_cons (ps_set (i := 0) sc_inverse.nd rfl (Or.inl rfl) (pe_cal c_product (hr.mono (by omega)) (by rfl) (pa_cons (pv 0) (pa_cons (pv 0) pa_nil)))) (pss_one (ps_set (i := 1) sc_inverse.nd rfl (Or.inl rfl) (pe_cal c_product (hr.mono (by omega)) (by rfl) (pa_cons (pv 1) (pa_cons (pv 0) pa_nil))))))) (pss_one (ps_ret (pv 1))))), ?_⟩
    refine iBody (by repeat constructor) ?_
    walk_at "go"
    refine forJ_range0 (fun i σ' H' => (∃ k, σ' = [some (.int ((pw a 1 i).1 : Nat)), some (.int ((pw a 1 i).2 : Nat)), k]) ∧ H' = H) ⟨⟨_, rfl⟩, rfl⟩ (fun i σ' H' hi hp => ?_) (fun σ' H' hp => ?_)
    · obtain ⟨⟨k, rfl⟩, rfl⟩ := hp
      have hl := pw_lt (t := 1) ha (by decide) i
      walk_at "go"
      refine ⟨_, _, rfl, hl.1, ?_⟩
      walk_at "go"
      refine ⟨_, _, rfl, hl.2, ?_⟩
      walk_at "go"
      exact ⟨⟨_, rfl⟩, rfl⟩
    · obtain ⟨⟨k, rfl⟩, rfl⟩ := hp
      walk_at "go"
      exact q
/-! ### the law's product -/
theorem half (x : Nat) : (x : Int) / 2 = ((x / 2 : Nat) : Int) := by omega
def sp__law_times : Sp := fun vs H Q _ => ∃ a b : Nat, vs = [.int a, .int b] ∧ a < 256 ∧ Q (.int (gm a b : Nat)) H
theorem ok__law_times (M : Mg mg) {f : Addr} {fd : FuncData} (F : Fun K "_law_times" "_law_times" s__law_times f fd) : FnOk P w K mg base CX0 1 f fd ["a", "b"] sp__law_times := by
  refine F.ok sc__law_times (fun vs H Q E h => ?_) (fun cdv A outer s H vs Q E hr h => ?_)
  · obtain ⟨a, b, rfl, _⟩ := h; rfl
  · obtain ⟨a, b, rfl, ha, q⟩ := h
    refine ⟨_, (pss_cons (ps_set (i := 2) sc__law_times.nd rfl (Or.inl rfl) pe_int) (pss_cons (ps_for PassesOwn.never rfl (pi_range1 (by rfl) M.n_range (pa_cons pe_int pa_nil)) (pg_name (i := 3) sc__law_times.nd rfl (Or.inl rfl)) (pss_cons (ps_if (pt_cmpR op_eq (pe_op op_mod (pe_callTy int_i (by rfl) M.n_int (by decide +kernel) (pa_cons (pv 1) pa_nil)) pe_int) pe_int (nomark _)) (pss_one (ps_set (i := 2) sc__law_times.nd rfl (Or.inl rfl) (pe_op op_xor (pv 2) (pv 0)))) pss_nil) (pss_cons (ps_set (i := 0) sc__law_times.nd rfl (Or.inl rfl) (pe_op op_mul pe_int (pv 0))) (pss_one (ps_set (i := 1) sc__law_times.nd rfl (Or.inl rfl) (pe_op op_fdiv (pv 1) pe_int)))))) (pss_cons (ps_set (i := 4) sc__law_times.nd rfl (Or.inl rfl) pe_int) (pss_cons (ps_set (i := 5) sc__law_times.nd rfl (Or.inl rfl) pe_int) (pss_cons (ps_for PassesOwn.never rfl (pi_range1 (by rfl) M.n_range (pa_cons pe_int pa_nil)) (pg_name (i := 3) sc__law_times.nd rfl (Or.inl rfl)) (pss_cons (ps_if (pt_cmpR op_ge (pv 2) (pv 4) (nomark _)) (pss_one (ps_set (i := 2) sc__law_times.nd rfl (Or.inl rfl) (pe_op op_xor (pv 2) (pv 5)))) pss_nil) (pss_cons (ps_set (i := 4) sc__law_times.nd rfl (Or.inl rfl) (pe_op op_fdiv (pv 4) pe_int)) (pss_one (ps_set (i := 5) sc__law_times.nd rfl (Or.inl rfl) (pe_op op_fdiv (pv 5) pe_int)))))) (pss_one (ps_ret (pv 2)))))))), ?_⟩
    refine iBody (by repeat constructor) ?_
    walk_at "go"
    refine forJ_range0 (fun i σ' H' => (∃ k, σ' = [some (.int (2 ^ i * a : Nat)), some (.int (b / 2 ^ i : Nat)), some (.int (cl a b i : Nat)), k, none, none]) ∧ H' = H) ⟨⟨none, by simp [cl]⟩, rfl⟩ (fun i σ' H' hi hp => ?_) (fun σ' H' hp => ?_)
    · obtain ⟨⟨k, rfl⟩, rfl⟩ := hp
      have fin : ∀ (t : Nat) (c d : Int), t = cl a b (i + 1) → c = (2 ^ (i + 1) * a : Nat) → d = (b / 2 ^ (i + 1) : Nat) → (∃ k, [some (V.int c), some (.int d), some (.int t), some (V.int i), none, none] = [some (V.int (2 ^ (i + 1) * a : Nat)), some (.int (b / 2 ^ (i + 1) : Nat)), some (.int (cl a b (i + 1) : Nat)), k, none, none]) ∧ H' = H' := fun t c d e1 e2 e3 => ⟨⟨some (V.int i), by rw [e1, e2, e3]⟩, rfl⟩
      have e2 : (2 : Int) * ((2 ^ i * a : Nat) : Int) = ((2 ^ (i + 1) * a : Nat) : Int) := by
        rw [Nat.pow_succ, Nat.mul_comm (2 ^ i) 2, Nat.mul_assoc]; push_cast; rfl
      have e3 : ((b / 2 ^ i : Nat) : Int) / 2 = ((b / 2 ^ (i + 1) : Nat) : Int) := by
        rw [half, Nat.div_div_eq_div_mul, ← Nat.pow_succ]
      walk_at "go"
      refine ifD (fun h => ?_) (fun h => ?_)
      · walk_at "go"
        rw [xor_nn]
        exact fin _ _ _ (by show _ = (if b / 2 ^ i % 2 = 1 then cl a b i ^^^ (2 ^ i * a) else cl a b i); rw [if_pos (by omega)]) e2 e3
      · walk_at "go"
        exact fin _ _ _ (by show _ = (if b / 2 ^ i % 2 = 1 then cl a b i ^^^ (2 ^ i * a) else cl a b i); rw [if_neg (by omega)]) e2 e3
    · obtain ⟨⟨k, rfl⟩, rfl⟩ := hp
      walk_at "go"
      refine forJ_range0 (fun i σ'' H'' => (∃ x y k, σ'' = [x, y, some (.int (rd (cl a b 8) i : Nat)), k, some (.int (32768 / 2 ^ i : Nat)), some (.int (36480 / 2 ^ i : Nat))]) ∧ H'' = H') ⟨⟨_, _, _, rfl⟩, rfl⟩ (fun i σ' H' hi hp => ?_) (fun σ' H' hp => ?_)
      · obtain ⟨⟨x, y, k, rfl⟩, rfl⟩ := hp
        have fin : ∀ (t : Nat) (c d : Int), t = rd (cl a b 8) (i + 1) → c = (32768 / 2 ^ (i + 1) : Nat) → d = (36480 / 2 ^ (i + 1) : Nat) → (∃ x' y' k, [x, y, some (.int t), some (V.int i), some (V.int c), some (.int d)] = [x', y', some (.int (rd (cl a b 8) (i + 1) : Nat)), k, some (V.int (32768 / 2 ^ (i + 1) : Nat)), some (.int (36480 / 2 ^ (i + 1) : Nat))]) ∧ H' = H' := fun t c d e1 e2 e3 => ⟨⟨x, y, some (V.int i), by rw [e1, e2, e3]⟩, rfl⟩
        have e2 : ((32768 / 2 ^ i : Nat) : Int) / 2 = ((32768 / 2 ^ (i + 1) : Nat) : Int) := by
          rw [half, Nat.div_div_eq_div_mul, ← Nat.pow_succ]
        have e3 : ((36480 / 2 ^ i : Nat) : Int) / 2 = ((36480 / 2 ^ (i + 1) : Nat) : Int) := by
          rw [half, Nat.div_div_eq_div_mul, ← Nat.pow_succ]
        walk_at "go"
        refine ifD (fun h => ?_) (fun h => ?_)
        · walk_at "go"
          rw [xor_nn]
          exact fin _ _ _ (by show _ = (if 32768 / 2 ^ i ≤ rd (cl a b 8) i then rd (cl a b 8) i ^^^ (36480 / 2 ^ i) else rd (cl a b 8) i); rw [if_pos (by omega)]) e2 e3
        · walk_at "go"
          exact fin _ _ _ (by show _ = (if 32768 / 2 ^ i ≤ rd (cl a b 8) i then rd (cl a b 8) i ^^^ (36480 / 2 ^ i) else rd (cl a b 8) i); rw [if_neg (by omega)]) e2 e3
      · obtain ⟨⟨x, y, k, rfl⟩, rfl⟩ := hp
        walk_at "go"
        have e : rd (cl a b 8) 8 = gm a b := gm_tm b ha
        exact vInt (by rw [show (8 : Int).toNat = 8 from rfl, e]) q
theorem j_double {a : Nat} {H : Hp} {Q : VK} {E : XK} (ha : a < 256) (q : Q (.int (dbl a : Nat)) H) : sp_double [.int a] H Q E := ⟨a, rfl, ha, q⟩
theorem j_product {a b : Nat} {H : Hp} {Q : VK} {E : XK} (ha : a < 256) (q : Q (.int (gm a b : Nat)) H) : sp_product [.int a, .int b] H Q E := ⟨a, b, rfl, ha, q⟩
theorem j_times {a b : Nat} {H : Hp} {Q : VK} {E : XK} (ha : a < 256) (q : Q (.int (gm a b : Nat)) H) : sp__law_times [.int a, .int b] H Q E := ⟨a, b, rfl, ha, q⟩
theorem j_same {x y : Nat} {H : Hp} {Q : VK} {E : XK} (e : x = y) (q : Q (.bl true) H) : sp__law_same 1 [.int x, .int y] H Q E := ⟨_, _, .int x, rfl, AtN.int_eq ▸ rfl, AtN.int_eq ▸ (by rw [e]), q⟩
def sp__law_asks : Sp := fun vs H Q _ => ∃ a b c : Nat, vs = [.int a, .int b, .int c] ∧ a < 256 ∧ b < 256 ∧ c < 256 ∧ Q (.bl true) H
theorem ok__law_asks (M : Mg mg) {f : Addr} {fd : FuncData} (F : Fun K "_law_asks" "_law_asks" s__law_asks f fd) (c_double : Cal P w K mg base 1 "double" ["a"] sp_double) (c_product : Cal P w K mg base 2 "product" ["a", "b"] sp_product) (c_inverse : Cal P w K mg base 3 "inverse" ["a"] sp_inverse)
    (c__law_same : Cal P w K mg base 1 "_law_same" ["actual", "expected"] (sp__law_same 1)) (c__law_times : Cal P w K mg base 1 "_law_times" ["a", "b"] sp__law_times) : FnOk P w K mg base CX0 4 f fd ["a", "b", "c"] sp__law_asks := by
  refine F.ok sc__law_asks (fun vs H Q E h => ?_) (fun cdv A outer s H vs Q E hr h => ?_)
  · obtain ⟨a, b, c, rfl, _⟩ := h; rfl
  · obtain ⟨a, b, c, rfl, ha, hb, hc, q⟩ := h
    refine ⟨_, (pss_cons (ps_if (PW.pt (pw_or (pt_not (pt_val (pe_cal c__law_same (hr.mono (by omega)) (by rfl) (pa_cons (pe_cal c_double (hr.mono (by omega)) (by rfl) (pa_cons (pv 0) pa_nil)) (pa_cons (pe_cal c__law_times (hr.mono (by omega)) (by rfl) (pa_cons (pv 0) (pa_cons pe_int pa_nil))) pa_nil))))) (pw_or1 (pt_not (pt_val (pe_cal c__law_same (hr.mono (by omega)) (by rfl) (pa_cons (pe_cal c_product (hr.mono (by omega)) (by rfl) (pa_cons (pv 0) (pa_cons (pv 1) pa_nil))) (pa_cons (pe_cal c__law_times (hr.mono (by omega)) (by rfl) (pa_cons (pv 0) (pa_cons (pv 1) pa_nil))) pa_nil)))))))) (pss_one (ps_ret pe_bl)) pss_nil) (pss_cons (ps_if (PW.pt (pw_or (pt_not (pt_val (pe_cal c__law_same (hr.mono (by omega)) (by rfl) (pa_cons (pe_cal c_product (hr.mono (by omega)) (by rfl) (pa_cons (pv 1) (pa_cons (pv 0) pa_nil))) (pa_cons (pe_cal c__law_times (hr.mono (by omega)) (by rfl) (pa_cons (pv 0) (pa_cons (pv 1) pa_nil))) pa_nil))))) (pw_or1 (pt_not (pt_val (pe_cal c__law_same (hr.mono (by omega)) (by rfl) (pa_cons (pe_cal c_product (hr.mono (by omega)) (by rfl) (pa_cons (pe_op op_xor (pv 0) (pv 2)) (pa_cons (pv 1) pa_nil))) (pa_cons (pe_op op_xor (pe_cal c__law_times (hr.mono (by omega)) (by rfl) (pa_cons (pv 0) (pa_cons (pv 1) pa_nil))) (pe_cal c__law_times (hr.mono (by omega)) (by rfl) (pa_cons (pv 2) (pa_cons (pv 1) pa_nil)))) pa_nil)))))))) (pss_one (ps_ret pe_bl)) pss_nil) (pss_cons (ps_if (PW.pt (pw_or (pt_cmpR op_ne (pe_cal c_product (hr.mono (by omega)) (by rfl) (pa_cons (pv 0) (pa_cons pe_int pa_nil))) pe_int (nomark _)) (pw_or (pt_cmpR op_ne (pe_cal c_product (hr.mono (by omega)) (by rfl) (pa_cons pe_int (pa_cons (pv 0) pa_nil))) (pv 0) (nomark _)) (pw_or1 (pt_cmpR op_ne (pe_cal c_product (hr.mono (by omega)) (by rfl) (pa_cons (pv 0) (pa_cons (pe_cal c_product (hr.mono (by omega)) (by rfl) (pa_cons (pv 1) (pa_cons (pv 2) pa_nil))) pa_nil))) (pe_cal c_product (hr.mono (by omega)) (by rfl) (pa_cons (pe_cal c_product (hr.mono (by omega)) (by rfl) (pa_cons (pv 0) (pa_cons (pv 1) pa_nil))) (pa_cons (pv 2) pa_nil))) (nomark _)))))) (pss_one (ps_ret pe_bl)) pss_nil) (pss_cons (ps_if (pt_cmpR op_eq (pv 0) pe_int (nomark _)) (pss_one (ps_ret pe_bl)) pss_nil) (pss_cons (ps_set (i := 3) sc__law_asks.nd rfl (Or.inl rfl) (pe_cal c_inverse (hr.mono (by omega)) (by rfl) (pa_cons (pv 0) pa_nil))) (pss_cons (ps_if (PW.pt (pw_or (pt_not (pt_val (pe_cal c__law_same (hr.mono (by omega)) (by rfl) (pa_cons (pv 3) (pa_cons (pe_callTy int_i (by rfl) M.n_int (by decide +kernel) (pa_cons (pv 3) pa_nil)) pa_nil))))) (pw_or1 (pt_not (pt_chain op_lt op_lt pe_int (pv 3) pe_int))))) (pss_one (ps_ret pe_bl)) pss_nil) (pss_one (ps_ret (pe_cmpR op_eq (pe_cal c__law_times (hr.mono (by omega)) (by rfl) (pa_cons (pv 0) (pa_cons (pv 3) pa_nil))) pe_int (nomark _)))))))))), ?_⟩
    refine iBody (by repeat constructor) ?_
    walk_at "go"
    refine j_double ha ?_
    walk_at "go"
    refine j_times (b := 2) ha ?_
    walk_at "go"
    refine j_same (gm_two ha).symm ?_
    walk_at "go"
    refine j_product ha ?_
    walk_at "go"
    refine j_times ha ?_
    walk_at "go"
    refine j_same rfl ?_
    walk_at "go"
    refine j_product hb ?_
    walk_at "go"
    refine j_times ha ?_
    walk_at "go"
    refine j_same (gm_comm hb ha) ?_
    walk_at "go"
    rw [xor_nn]
    refine j_product (xlt ha hc) ?_
    walk_at "go"
    refine j_times ha ?_
    walk_at "go"
    refine j_times hc ?_
    walk_at "go"
    rw [xor_nn]
    refine j_same (gm_xor b ha hc) ?_
    walk_at "go"
    refine j_product (b := 0) ha ?_
    walk_at "go"
    refine j_product (a := 1) (by decide) ?_
    walk_at "go"
    rw [gm_one_l ha]
    walk_at "go"
    refine j_product hb ?_
    walk_at "go"
    refine j_product ha ?_
    walk_at "go"
    refine j_product ha ?_
    walk_at "go"
    refine j_product (gm_lt b ha) ?_
    walk_at "go"
    rw [gm_assoc ha hb hc]
    walk_at "go"
    refine ifD (fun h => ?_) (fun h => ?_)
    · walk_at "go"
      exact q
    · have h0 : a ≠ 0 := fun e => h (by omega)
      obtain ⟨i1, i2, i3⟩ := iv_ok ha h0
      walk_at "go"
      refine ⟨a, rfl, ha, ?_⟩
      walk_at "go"
      refine j_same rfl ?_
      walk_at "go"
      refine j_times ha ?_
      walk_at "go"
      rw [i1]
      exact q
theorem j_asks {a b c : Nat} {H : Hp} {Q : VK} {E : XK} (ha : a < 256) (hb : b < 256) (hc : c < 256) (q : Q (.bl true) H) : sp__law_asks [.int a, .int b, .int c] H Q E := ⟨a, b, c, rfl, ha, hb, hc, q⟩
def sp_law (K : PySem.W.Frag) : Sp := fun vs H Q _ => ∃ (a : Addr) (ns : List Int), vs = [.ref a] ∧ SqL K H a (ns.map V.int) ∧ ns.length ≤ 63 ∧ ∀ H', Q (.bl true) H'
theorem ok_law (M : Mg mg) {f : Addr} {fd : FuncData} (F : Fun K "law" "law" s_law f fd) (c__law_next : Cal P w K mg base 1 "_law_next" ["state", "limit"] sp__law_next)
    (c__law_asks : Cal P w K mg base 4 "_law_asks" ["a", "b", "c"] sp__law_asks) : FnOk P w K mg base CX0 5 f fd ["script"] (sp_law K) := by
  refine F.ok sc_law (fun vs H Q E h => ?_) (fun cdv A outer s H vs Q E hr h => ?_)
  · obtain ⟨a, ns, rfl, _⟩ := h; rfl
  · obtain ⟨sc, ns, rfl, hS, hn, q⟩ := h
    refine ⟨_, (pss_cons (ps_set (i := 1) sc_law.nd rfl (Or.inl rfl) (pe_lst (pa_cons (pe_callTy call_list_of (by rfl) M.n_list (by decide +kernel) (pa_cons (pv 0) pa_nil)) (pa_cons pe_int (pa_cons pe_int (pa_cons pe_int pa_nil)))))) (pss_cons (ps_set (i := 2) sc_law.nd rfl (Or.inl rfl) (pe_lst (pa_cons (pe_ix ix_l (pe_lst (pa_cons pe_int (pa_cons pe_int (pa_cons pe_int (pa_cons pe_int pa_nil))))) (pe_cal c__law_next (hr.mono (by omega)) (by rfl) (pa_cons (pv 1) (pa_cons pe_int pa_nil))) (fun _ _ => rfl)) pa_nil))) (pss_cons (ps_for PassesOwn.never rfl (pi_range1 (by rfl) M.n_range (pa_cons pe_int pa_nil)) (pg_name (i := 3) sc_law.nd rfl (Or.inl rfl)) (pss_one (ps_expr (pe_mt PySem.F.slot_list_append PySem.F.type_list_append mt_append (pv 2) (pa_cons (pe_cal c__law_next (hr.mono (by omega)) (by rfl) (pa_cons (pv 1) (pa_cons pe_int pa_nil))) pa_nil))))) (pss_cons (ps_for PassesOwn.never rfl (pi_l (pv 2)) (pg_name (i := 4) sc_law.nd rfl (Or.inl rfl)) (pss_one (ps_for PassesOwn.never rfl (pi_l (pv 2)) (pg_name (i := 5) sc_law.nd rfl (Or.inl rfl)) (pss_one (ps_if (pt_not (pt_val (pe_cal c__law_asks (hr.mono (by omega)) (by rfl) (pa_cons (pv 4) (pa_cons (pv 5) (pa_cons (pe_ix ix_l (pv 2) pe_int (fun _ _ => rfl)) pa_nil)))))) (pss_one (ps_ret pe_bl)) pss_nil))))) (pss_cons (ps_if (pt_cmpR op_eq (pe_cal c__law_next (hr.mono (by omega)) (by rfl) (pa_cons (pv 1) (pa_cons pe_int pa_nil))) pe_int (nomark _)) (pss_one (ps_for PassesOwn.never rfl (pi_range1 (by rfl) M.n_range (pa_cons pe_int pa_nil)) (pg_name (i := 4) sc_law.nd rfl (Or.inl rfl)) (pss_one (ps_if (pt_not (pt_val (pe_cal c__law_asks (hr.mono (by omega)) (by rfl) (pa_cons (pv 4) (pa_cons (pe_ix ix_l (pv 2) pe_int (fun _ _ => rfl)) (pa_cons (pe_ix ix_l (pv 2) pe_int (fun _ _ => rfl)) pa_nil)))))) (pss_one (ps_ret pe_bl)) pss_nil)))) pss_nil) (pss_one (ps_ret pe_bl))))))), ?_⟩
    refine iBody (by repeat constructor) ?_
    walk_at "go"
    refine ⟨sc, _, rfl, .inl hS, fun l hl => ?_⟩
    walk_at "go"
    refine iNewL (by simp) fun st hst => ?_
    have nsl : st ≠ l := (ne_of_none upd_same hst).symm
    have D0 := DrawAt.to (H := upd H l (.lst (ns.map V.int))) (i := 0) (r := 0) (q := 1) upd_same nsl hn (by decide) (by omega) (by decide) (by decide) (by decide)
    generalize upd (upd H l (.lst (ns.map V.int))) st (.lst [.ref l, .int 0, .int 0, .int 1]) = H1 at D0 ⊢
    walk_at "go"
    refine iNewL (by simp) fun t4 ht4 => ?_
    have D1 := D0.new (o := .lst [.int 0, .int 1, .int 255, .int 128]) ht4
    have n4 := D0.fresh ht4
    walk_at "go"
    refine j_next D1 (by decide) (by decide) fun v H2 v0 v1 D2 fr => ?_
    have e4 : H2 t4 = some (.lst [.int 0, .int 1, .int 255, .int 128]) := (fr t4 n4.1).trans upd_same
    walk_at "go"
    obtain ⟨d0, hd0, hv⟩ : ∃ d0 : Nat, d0 < 256 ∧ atI [V.int 0, .int 1, .int 255, .int 128] v = some (.int d0) := by
      have : v = 0 ∨ v = 1 ∨ v = 2 ∨ v = 3 := by omega
      rcases this with rfl | rfl | rfl | rfl
      · exact ⟨0, by decide, rfl⟩
      · exact ⟨1, by decide, rfl⟩
      · exact ⟨255, by decide, rfl⟩
      · exact ⟨128, by decide, rfl⟩
    refine iIxL e4 hv ?_
    walk_at "go"
    refine iNewL (by simp) fun dr hdr => ?_
    have D3 := D2.new (o := .lst [.int d0]) hdr
    have n3 := D2.fresh hdr
    walk_at "go"
    refine forJ_range0 (fun i σ' H' => (∃ k, σ' = [some (.ref sc), some (.ref st), some (.ref dr), k, none, none]) ∧ DrawAt H' st l ∧ ∃ bs : List Nat, H' dr = some (.lst (bs.map fun b : Nat => V.int b)) ∧ bs.length = i + 1 ∧ ∀ b ∈ bs, b < 256) ⟨⟨_, rfl⟩, D3, [d0], upd_same, rfl, by simpa using hd0⟩ (fun i σ' H' hi hp => ?_) (fun σ' H' hp => ?_)
    · obtain ⟨⟨k, rfl⟩, D4, bs, hb, hbl, hb2⟩ := hp
      walk_at "go"
      refine iMt rfl hb ?_
      walk_at "go"
      refine j_next D4 (by decide) (by decide) fun v H5 v0 v1 D5 fr => ?_
      walk_at "go"
      refine iApp ((fr dr n3.1).trans hb) (by rw [List.length_map]; omega) ?_
      walk_at "go"
      refine ⟨⟨_, rfl⟩, D5.upd n3.1 n3.2, bs ++ [v.toNat], ?_, ?_, ?_⟩
      · rw [upd_same, List.map_append, List.map_singleton, show ((v.toNat : Nat) : Int) = v by omega]
      · rw [List.length_append, hbl]; rfl
      · intro b hb
        rcases List.mem_append.mp hb with h | h
        · exact hb2 b h
        · rw [List.mem_singleton] at h; omega
    · obtain ⟨⟨k, rfl⟩, D4, bs, hb, hbl, hb2⟩ := hp
      have hbl : bs.length = 5 := hbl
      have get : ∀ i : Nat, i < 5 → ∃ b : Nat, b < 256 ∧ (bs.map fun b : Nat => V.int b)[i]? = some (.int b) := fun i hi => by
        refine ⟨bs[i]'(by omega), hb2 _ (List.getElem_mem _), ?_⟩
        rw [List.getElem?_map, List.getElem?_eq_getElem (by omega)]; rfl
      have item : ∀ (i : Nat) (x : V), (bs.map fun b : Nat => V.int b)[i]? = some x → ∃ b : Nat, b < 256 ∧ x = .int b := fun i x hx => by
        rw [List.getElem?_map] at hx
        cases e : bs[i]? with
        | none => rw [e] at hx; cases hx
        | some b =>
          rw [e] at hx
          cases hx
          exact ⟨b, hb2 b (List.mem_of_getElem? e), rfl⟩
      have fin : ∀ H', Q (.bl true) H' := q
      walk_at "go"
      refine iItL hb ?_
      refine forJ_list (bs.map fun b : Nat => V.int b) (fun i σ' H'' => (∃ x y, σ' = [some (.ref sc), some (.ref st), some (.ref dr), k, x, y]) ∧ H'' = H') ⟨⟨_, _, rfl⟩, rfl⟩ (fun i σ' H'' hi hp => ?_) (fun i x σ' H'' hx hp => ?_) (fun σ' H'' hp => ?_)
      · rw [hp.2]; exact hb
      · obtain ⟨⟨x1, y1, rfl⟩, rfl⟩ := hp
        obtain ⟨a, ha, rfl⟩ := item i x hx
        walk_at "go"
        refine iItL hb ?_
        refine forJ_list (bs.map fun b : Nat => V.int b) (fun i σ' H3 => (∃ y, σ' = [some (.ref sc), some (.ref st), some (.ref dr), k, some (.int a), y]) ∧ H3 = H'') ⟨⟨_, rfl⟩, rfl⟩ (fun i σ' H3 hi hp => ?_) (fun j x σ' H3 hx hp => ?_) (fun σ' H3 hp => ?_)
        · rw [hp.2]; exact hb
        · obtain ⟨⟨y1, rfl⟩, rfl⟩ := hp
          obtain ⟨b, hb', rfl⟩ := item j x hx
          obtain ⟨c, hc, hcx⟩ := get 3 (by decide)
          walk_at "go"
          refine iIxL hb ((atI_3 _).trans hcx) ?_
          walk_at "go"
          refine j_asks ha hb' hc ?_
          walk_at "go"
          exact ⟨⟨_, rfl⟩, rfl⟩
        · obtain ⟨⟨y1, rfl⟩, rfl⟩ := hp
          walk_at "go"
          exact ⟨⟨_, _, rfl⟩, rfl⟩
      · obtain ⟨⟨x1, y1, rfl⟩, rfl⟩ := hp
        walk_at "go"
        refine j_next D4 (by decide) (by decide) fun v H5 v0 v1 D5 fr => ?_
        have hb5 := (fr dr n3.1).trans hb
        obtain ⟨c1, hc1, hcx1⟩ := get 1 (by decide)
        obtain ⟨c2, hc2, hcx2⟩ := get 2 (by decide)
        walk_at "go"
        refine ifD (fun h => ?_) (fun h => ?_)
        · walk_at "go"
          refine forJ_range0 (fun i σ' H'' => (∃ x y, σ' = [some (.ref sc), some (.ref st), some (.ref dr), k, x, y]) ∧ H'' = H5) ⟨⟨_, _, rfl⟩, rfl⟩ (fun i σ' H'' hi hp => ?_) (fun σ' H'' hp => ?_)
          · obtain ⟨⟨x2, y2, rfl⟩, rfl⟩ := hp
            walk_at "go"
            refine iIxL hb5 ((atI_1 _).trans hcx1) ?_
            walk_at "go"
            refine iIxL hb5 ((atI_2 _).trans hcx2) ?_
            walk_at "go"
            refine j_asks hi hc1 hc2 ?_
            walk_at "go"
            exact ⟨⟨_, _, rfl⟩, rfl⟩
          · obtain ⟨⟨x2, y2, rfl⟩, rfl⟩ := hp
            walk_at "go"
            exact fin _
        · walk_at "go"
          exact fin _
end
theorem all_mk {l : PySem.W.OpenLaw} {w : World} {K : PySem.W.Frag} {h : Heap} {mg : Str → Option Value} {fa : Addr} (X : K.In h) (G : h.Ns mainGlobals mg) (hfa : mg "law" = some (.ref fa))
    {f1 f2 f3 f4 f5 f6 f7 f8 : Addr} {od1 od2 od3 od4 od5 od6 od7 od8 an1 an2 an3 an4 an5 an6 an7 an8 : Option Addr} {sl1 sl2 sl3 sl4 sl5 sl6 sl7 sl8 : Array (Option Value)} {oc1 oc2 oc3 oc4 oc5 oc6 oc7 oc8 kV1 kV2 kV3 kV4 kV5 kV6 kV7 kV8 dc1 dc2 dc3 dc4 dc5 dc6 dc7 dc8 pm1 pm2 pm3 pm4 pm5 pm6 pm7 pm8 cd1 cd2 cd3 cd4 cd5 cd6 cd7 cd8 ct1 ct2 ct3 ct4 ct5 ct6 ct7 ct8 : Value}
    (a1 : PySem.W.nsIn K mainGlobals "_law_next" = some (some (.ref f1))) (l1 : K.lookup f1 = some ⟨oc1, od1, .func (PySem.W.fnOf "_law_next" "_law_next" (defArgs s__law_next) (defBody s__law_next) (defScope s__law_next) .none kV1 dc1 pm1 an1 cd1 ct1), sl1⟩) (c1 : PySem.W.codeIn K cd1 "_law_next" = true) (k1 : PySem.W.keepIn K (.ref f1) = true)
    (a2 : PySem.W.nsIn K mainGlobals "_law_same" = some (some (.ref f2))) (l2 : K.lookup f2 = some ⟨oc2, od2, .func (PySem.W.fnOf "_law_same" "_law_same" (defArgs s__law_same) (defBody s__law_same) (defScope s__law_same) .none kV2 dc2 pm2 an2 cd2 ct2), sl2⟩) (c2 : PySem.W.codeIn K cd2 "_law_same" = true) (k2 : PySem.W.keepIn K (.ref f2) = true)
    (a3 : PySem.W.nsIn K mainGlobals "double" = some (some (.ref f3))) (l3 : K.lookup f3 = some ⟨oc3, od3, .func (PySem.W.fnOf "double" "double" (defArgs s_double) (defBody s_double) (defScope s_double) .none kV3 dc3 pm3 an3 cd3 ct3), sl3⟩) (c3 : PySem.W.codeIn K cd3 "double" = true) (k3 : PySem.W.keepIn K (.ref f3) = true)
    (a4 : PySem.W.nsIn K mainGlobals "product" = some (some (.ref f4))) (l4 : K.lookup f4 = some ⟨oc4, od4, .func (PySem.W.fnOf "product" "product" (defArgs s_product) (defBody s_product) (defScope s_product) .none kV4 dc4 pm4 an4 cd4 ct4), sl4⟩) (c4 : PySem.W.codeIn K cd4 "product" = true) (k4 : PySem.W.keepIn K (.ref f4) = true)
    (a5 : PySem.W.nsIn K mainGlobals "inverse" = some (some (.ref f5))) (l5 : K.lookup f5 = some ⟨oc5, od5, .func (PySem.W.fnOf "inverse" "inverse" (defArgs s_inverse) (defBody s_inverse) (defScope s_inverse) .none kV5 dc5 pm5 an5 cd5 ct5), sl5⟩) (c5 : PySem.W.codeIn K cd5 "inverse" = true) (k5 : PySem.W.keepIn K (.ref f5) = true)
    (a6 : PySem.W.nsIn K mainGlobals "_law_times" = some (some (.ref f6))) (l6 : K.lookup f6 = some ⟨oc6, od6, .func (PySem.W.fnOf "_law_times" "_law_times" (defArgs s__law_times) (defBody s__law_times) (defScope s__law_times) .none kV6 dc6 pm6 an6 cd6 ct6), sl6⟩) (c6 : PySem.W.codeIn K cd6 "_law_times" = true) (k6 : PySem.W.keepIn K (.ref f6) = true)
    (a7 : PySem.W.nsIn K mainGlobals "_law_asks" = some (some (.ref f7))) (l7 : K.lookup f7 = some ⟨oc7, od7, .func (PySem.W.fnOf "_law_asks" "_law_asks" (defArgs s__law_asks) (defBody s__law_asks) (defScope s__law_asks) .none kV7 dc7 pm7 an7 cd7 ct7), sl7⟩) (c7 : PySem.W.codeIn K cd7 "_law_asks" = true) (k7 : PySem.W.keepIn K (.ref f7) = true)
    (a8 : PySem.W.nsIn K mainGlobals "law" = some (some (.ref f8))) (l8 : K.lookup f8 = some ⟨oc8, od8, .func (PySem.W.fnOf "law" "law" (defArgs s_law) (defBody s_law) (defScope s_law) .none kV8 dc8 pm8 an8 cd8 ct8), sl8⟩) (c8 : PySem.W.codeIn K cd8 "law" = true) (k8 : PySem.W.keepIn K (.ref f8) = true)
    (z_bool : PySem.W.nsIn K mainGlobals "bool" = some none)
    (z_int : PySem.W.nsIn K mainGlobals "int" = some none)
    (z_isinstance : PySem.W.nsIn K mainGlobals "isinstance" = some none)
    (z_len : PySem.W.nsIn K mainGlobals "len" = some none)
    (z_list : PySem.W.nsIn K mainGlobals "list" = some none)
    (z_range : PySem.W.nsIn K mainGlobals "range" = some none)
    (z_str : PySem.W.nsIn K mainGlobals "str" = some none)
    (z_tuple : PySem.W.nsIn K mainGlobals "tuple" = some none) :
    ∃ fd : FuncData, (∀ (s : Shared) (v : Value), BindsTo s fd ⟨[v], []⟩ [("script", v)]) ∧ ∀ base : Heap, K.In base → base.Ns mainGlobals mg → FnOk l.prog w K mg base CX0 5 fa fd ["script"] (sp_law K) := by
  have e := hfa.symm.trans (PySem.W.mg_of X G a8)
  cases e
  have F__law_next := fun_mk (st := s__law_next) l1 c1 k1
  have g__law_next := PySem.W.mg_of X G a1
  have b__law_next := F__law_next.binds (ps := ["state", "limit"]) fun _ _ _ _ _ _ us hl => match us, hl with | [_, _], _ => rfl
  have F__law_same := fun_mk (st := s__law_same) l2 c2 k2
  have g__law_same := PySem.W.mg_of X G a2
  have b__law_same := F__law_same.binds (ps := ["actual", "expected"]) fun _ _ _ _ _ _ us hl => match us, hl with | [_, _], _ => rfl
  have F_double := fun_mk (st := s_double) l3 c3 k3
  have g_double := PySem.W.mg_of X G a3
  have b_double := F_double.binds (ps := ["a"]) fun _ _ _ _ _ _ us hl => match us, hl with | [_], _ => rfl
  have F_product := fun_mk (st := s_product) l4 c4 k4
  have g_product := PySem.W.mg_of X G a4
  have b_product := F_product.binds (ps := ["a", "b"]) fun _ _ _ _ _ _ us hl => match us, hl with | [_, _], _ => rfl
  have F_inverse := fun_mk (st := s_inverse) l5 c5 k5
  have g_inverse := PySem.W.mg_of X G a5
  have b_inverse := F_inverse.binds (ps := ["a"]) fun _ _ _ _ _ _ us hl => match us, hl with | [_], _ => rfl
  have F__law_times := fun_mk (st := s__law_times) l6 c6 k6
  have g__law_times := PySem.W.mg_of X G a6
  have b__law_times := F__law_times.binds (ps := ["a", "b"]) fun _ _ _ _ _ _ us hl => match us, hl with | [_, _], _ => rfl
  have F__law_asks := fun_mk (st := s__law_asks) l7 c7 k7
  have g__law_asks := PySem.W.mg_of X G a7
  have b__law_asks := F__law_asks.binds (ps := ["a", "b", "c"]) fun _ _ _ _ _ _ us hl => match us, hl with | [_, _, _], _ => rfl
  have F_law := fun_mk (st := s_law) l8 c8 k8
  have g_law := PySem.W.mg_of X G a8
  have b_law := F_law.binds (ps := ["script"]) fun _ _ _ _ _ _ us hl => match us, hl with | [_], _ => rfl
  have M : Mg mg := ⟨PySem.W.mg_none_of X G z_bool, PySem.W.mg_none_of X G z_int, PySem.W.mg_none_of X G z_isinstance, PySem.W.mg_none_of X G z_len, PySem.W.mg_none_of X G z_list, PySem.W.mg_none_of X G z_range, PySem.W.mg_none_of X G z_str, PySem.W.mg_none_of X G z_tuple⟩
  refine ⟨(PySem.W.fnOf "law" "law" (defArgs s_law) (defBody s_law) (defScope s_law) .none kV8 dc8 pm8 an8 cd8 ct8), fun s v => .of_eq rfl, fun base _ _ => ?_⟩

  have s1 : Cal l.prog w K mg base 1 "_law_same" ["actual", "expected"] (sp__law_same 1) := .mk' F__law_same g__law_same b__law_same (ok__law_same M F__law_same g__law_same b__law_same 1)
  have cd : Cal l.prog w K mg base 1 "double" ["a"] sp_double := .mk' F_double g_double b_double (ok_double M F_double)
  have cp : Cal l.prog w K mg base 2 "product" ["a", "b"] sp_product := .mk' F_product g_product b_product (ok_product M F_product cd)
  have ci : Cal l.prog w K mg base 3 "inverse" ["a"] sp_inverse := .mk' F_inverse g_inverse b_inverse (ok_inverse M F_inverse cp)
  have ct : Cal l.prog w K mg base 1 "_law_times" ["a", "b"] sp__law_times := .mk' F__law_times g__law_times b__law_times (ok__law_times M F__law_times)
  have cn : Cal l.prog w K mg base 1 "_law_next" ["state", "limit"] sp__law_next := .mk' F__law_next g__law_next b__law_next (ok__law_next M F__law_next)
  have ca : Cal l.prog w K mg base 4 "_law_asks" ["a", "b", "c"] sp__law_asks := .mk' F__law_asks g__law_asks b__law_asks (ok__law_asks M F__law_asks cd cp ci s1 ct)
  exact ok_law M F_law cn ca
end R
open PySem PySem.W PyProof.Rows
set_option maxHeartbeats 0 in
theorem PySem.Challenge.cw_rotward_k20_field_of_bytes_holds : PySem.Challenge.rw_rotward_k20_field_of_bytes.Holds := by
  w_on; o_law; k_head; (case hw => w_witness2)
  k_fill
  refine L2.walk_of (l := PySem.Challenge.rw_rotward_k20_field_of_bytes) (n := 63) (k := 5) (x := "script") (CX := fun _ => L2.CX0) (sp := fun w => R.sp_law _) rfl (by decide) rfl ⟨rfl, by decide, by decide⟩ (fun w h Y => PySem.W.kIn_of Y) ?F (fun _ _ a ns hl _ hS => ⟨a, ns, rfl, hS, hl, fun _ => rfl⟩) (fun _ _ _ _ _ h => h)
  case F =>
    intro w mg fa h KX G hmg
    refine' R.all_mk KX G hmg ?a1 ?l1 ?c1 ?k1 ?a2 ?l2 ?c2 ?k2 ?a3 ?l3 ?c3 ?k3 ?a4 ?l4 ?c4 ?k4 ?a5 ?l5 ?c5 ?k5 ?a6 ?l6 ?c6 ?k6 ?a7 ?l7 ?c7 ?k7 ?a8 ?l8 ?c8 ?k8 ?z_bool ?z_int ?z_isinstance ?z_len ?z_list ?z_range ?z_str ?z_tuple
    (case a1 => k_is); (case l1 => k_is); (case c1 => k_is); (case k1 => k_is); (case a2 => k_is); (case l2 => k_is); (case c2 => k_is); (case k2 => k_is); (case a3 => k_is); (case l3 => k_is); (case c3 => k_is); (case k3 => k_is); (case a4 => k_is); (case l4 => k_is); (case c4 => k_is); (case k4 => k_is); (case a5 => k_is); (case l5 => k_is); (case c5 => k_is); (case k5 => k_is); (case a6 => k_is); (case l6 => k_is); (case c6 => k_is); (case k6 => k_is); (case a7 => k_is); (case l7 => k_is); (case c7 => k_is); (case k7 => k_is); (case a8 => k_is); (case l8 => k_is); (case c8 => k_is); (case k8 => k_is); (case z_bool => k_is); (case z_int => k_is); (case z_isinstance => k_is); (case z_len => k_is); (case z_list => k_is); (case z_range => k_is); (case z_str => k_is); (case z_tuple => k_is)

