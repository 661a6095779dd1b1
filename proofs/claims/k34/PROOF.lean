import PyProof.Rows.All
import Wide.All
import OpenK.AllK
import Wide.FinOn
import HandS.ForMost
import HandS.IsInst
import HandS.Steps
import HandS.Evl
import HandS.Walk
import HandS.Conv
import HandS.WordsDict
import KE.KDictZip
import HandS.Exc
import HandS.ExcOwn
import HandS.WordsExc
import HandS.TryOnly
import HandS.Style
import PySem.Challenge.RW_rotward_k34_disks_while_power_is_off
set_option Elab.async false
set_option linter.all false
set_option maxRecDepth 100000
set_option maxHeartbeats 4000000
namespace R
open PySem PySem.Spec L2

/-! ### rules that the layer lacks -/
section
variable {X : Cx}
/-- xs[i] read for an operation in place -/
theorem get_list : PGet X (rIxL X.K) := by
  intro pins s σ H o i ov iv Q I ro ri h
  obtain ⟨p, xs, k, z, rfl, rfl, hq, he, q⟩ := h
  cases ro
  obtain ⟨t, rfl⟩ := ri
  obtain ⟨us, vs, pl, hz⟩ := I.list hq
  obtain ⟨j, g1, g2, g3, g4, g5⟩ := atI_get he
  obtain ⟨u, eu, ru⟩ := vs.get g2
  have ln := vs.length
  have l63 := line63
  have dn : EP X pins σ Q u s := ⟨z, H, I, ru, q⟩
  rcases Int.lt_or_le k 0 with k0 | k0
  · rw [seqIndex_neg k0 g4] at g1
    have g1' := Option.some.inj g1
    refine wpAny_getItem_list_neg pl.isList k0 ?_ (by omega) ?_ dn
    · rw [List.size_toArray] <;> omega
    · rw [List.size_toArray, ← ln, g1']
      simpa using eu
  · rw [seqIndex_of k0 g5] at g1
    have g1' := Option.some.inj g1
    refine wpAny_getItem_list pl.isList k0 (by omega) ?_ dn
    rw [g1']
    simpa using eu
theorem pe_globC {x : Str} {i : Int} {pos : Pos} (hg : Gl X x) (h : ∃ t, X.mg x = some (.int i t)) (hd : (x == ("__debug__" : Str)) = false := by decide) : PE X (.Name x pos) (tC (.int i)) := by
  obtain ⟨t, h⟩ := h
  exact pe_glob hg h ⟨t, rfl⟩ hd
end

theorem pe_ty {X : Cx} {x : Str} {n : String} {pos : Pos} (hg : Gl X x) (hm : X.mg x = none) (hv : bootBuiltins x = some (.type n)) (hn : x ≠ "__name__" := by decide) (hd : (x == ("__debug__" : Str)) = false := by decide) : PE X (.Name x pos) (tC (.ty n)) := pe_bltn hg hm hv rfl hn hd
/-! ### a def that may be called -/
def Cal (P : Program) (w : World) (K : PySem.W.Frag) (mg : Str → Option Value) (base : Heap) (k : Nat) (x : Str) (ps : List Str) (sp : Sp) : Prop :=
  ∃ (f : Addr) (fd : FuncData), FnOk P w K mg base CX0 k f fd ps sp ∧ mg x = some (.ref f) ∧ PySem.W.keepIn K (.ref f) = true ∧ Binds K fd ps []
section
variable {P : Program} {w : World} {K : PySem.W.Frag} {mg : Str → Option Value} {base : Heap} {k : Nat} {x : Str} {ps : List Str} {sp : Sp}
theorem Cal.mk' {q : Str} {st : Stmt} {f : Addr} {fd : FuncData} (F : Fun K x q st f fd) (g : mg x = some (.ref f)) (b : Binds K fd ps []) (G : FnOk P w K mg base CX0 k f fd ps sp) : Cal P w K mg base k x ps sp := ⟨f, fd, G, g, F.kp, b⟩
theorem Cal.imp {sp' : Sp} (c : Cal P w K mg base k x ps sp) (h : ∀ vs H Q E, sp' vs H Q E → sp vs H Q E) : Cal P w K mg base k x ps sp' := by
  obtain ⟨f, fd, G, g, kp, b⟩ := c
  exact ⟨f, fd, G.imp h, g, kp, b⟩
theorem Cal.mono {j : Nat} (c : Cal P w K mg base k x ps sp) (h : k ≤ j) : Cal P w K mg base j x ps sp := by
  obtain ⟨f, fd, G, g, kp, b⟩ := c
  exact ⟨f, fd, G.mono h, g, kp, b⟩
end
section
variable {X : Cx} {k : Nat} {x : Str} {ps : List Str} {sp : Sp} {t : TA} {e : Expr} {es : List Expr} {p pos : Pos}
/-- the value of a call -/
def tCal (sp : Sp) (t : TA) : TE := fun σ H Q => t σ H fun vs H1 => sp vs H1 Q E0
theorem tCall_nil (sp : Sp) (t : TA) : tCall sp [] E0 t = tCal sp t := by
  funext σ H Q
  show (t σ H fun vs H1 => sp (vs ++ []) H1 Q E0) = (t σ H fun vs H1 => sp vs H1 Q E0)
  simp only [List.append_nil]
theorem pe_cal (c : Cal X.prog X.w X.K X.mg X.base k x ps sp) (hr : Room k X.A) (hg : Gl X x) (ha : PA X (e :: es) t)
    (hdb : (x == ("__debug__" : Str)) = false := by decide) (he : starEach (e :: es) X.env = (false, eval e X.env) :: starEach es X.env := by rfl) (hpl : (backTo pos (starEach es X.env)).any (·.1) = false := by rfl) :
    PE X (.Call (.Name x p) (e :: es) [] pos) (tCal sp t) := by
  obtain ⟨f, fd, G, g, kp, b⟩ := c
  have h := pe_call (p := p) (pos := pos) G hr hg g kp b .nil pass0 ha hdb he hpl
  rw [tCall_nil] at h
  exact h
theorem pe_cal0 (c : Cal X.prog X.w X.K X.mg X.base k x ps sp) (hr : Room k X.A) (hg : Gl X x) (hdb : (x == ("__debug__" : Str)) = false := by decide) : PE X (.Call (.Name x p) [] [] pos) (tCal sp tNil) := by
  obtain ⟨f, fd, G, g, kp, b⟩ := c
  have h := pe_call0 (p := p) (pos := pos) G hr hg g kp b .nil pass0 hdb
  rw [tCall_nil] at h
  exact h
end

/-! ### rules over what is tracked: their readings open by simp alone -/
section
variable {X : Cx} {e a b : Expr}
theorem PE.imp {t t' : TE} (h : PE X e t) (i : ∀ σ H Q, t' σ H Q → t σ H Q) : PE X e t' := ⟨fun pins s σ H Q I q => h.run pins s σ H Q I (i σ H Q q)⟩
theorem PT.imp {t t' : TT} (h : PT X e t) (i : ∀ σ H Q, t' σ H Q → t σ H Q) : PT X e t' := ⟨fun pins s σ H Q I q => h.run pins s σ H Q I (i σ H Q q)⟩
theorem PS.imp {st : Stmt} {t t' : TS} (h : PS X st t) (i : ∀ D σ H, t' D σ H → t D σ H) : PS X st t' := ⟨fun pins s σ H D I q => h.run pins s σ H D I (i D σ H q)⟩
theorem CallR.imp {f : Value} {r r' : List V → Hp → VK → Prop} (h : CallR X f r) (i : ∀ xs H Q, r' xs H Q → r xs H Q) : CallR X f r' := fun pins s σ H xs us Q I rv q => h pins s σ H xs us Q I rv (i xs H Q q)
theorem IxR.imp {r r' : R2} (h : IxR X r) (i : ∀ x y H Q, r' x y H Q → r x y H Q) : IxR X r' := fun value slice pins s σ H x y v u Q I rx ry q hs => h value slice pins s σ H x y v u Q I rx ry (i x y H Q q) hs
theorem SqL.tr {K : PySem.W.Frag} {H : Hp} {p : Addr} {xs : List V} (h : H p = some (.lst xs)) : SqL K H p xs := .inl (.inl h)
theorem SqT.tr {K : PySem.W.Frag} {H : Hp} {p : Addr} {xs : List V} (h : H p = some (.tup xs)) : SqT K H p xs := .inl (.inl h)

/-- xs[i], a tracked list | tuple -/
def kIxL : R2 := fun x y H Q => ∃ p i xs v, x = .ref p ∧ y = .int i ∧ H p = some (.lst xs) ∧ atI xs i = some v ∧ Q v H
def kIxT : R2 := fun x y H Q => ∃ p i xs v, x = .ref p ∧ y = .int i ∧ H p = some (.tup xs) ∧ atI xs i = some v ∧ Q v H
theorem ix_l : IxR X kIxL := IxR.imp ix_list fun _ _ _ _ ⟨p, i, xs, v, e1, e2, h, ha, q⟩ => ⟨p, xs, i, v, e1, e2, SqL.tr h, ha, q⟩
theorem ix_t : IxR X kIxT := IxR.imp ix_tup fun _ _ _ _ ⟨p, i, xs, v, e1, e2, h, ha, q⟩ => ⟨p, xs, i, v, e1, e2, SqT.tr h, ha, q⟩
theorem get_l : PGet X kIxL := fun pins s σ H o i ov iv Q I ro ri ⟨p, i', xs, v, e1, e2, h, ha, q⟩ => get_list pins s σ H o i ov iv Q I ro ri ⟨p, xs, i', v, e1, e2, SqL.tr h, ha, q⟩
/-- len -/
def kLenL : List V → Hp → VK → Prop := fun vs H Q => ∃ p xs, vs = [.ref p] ∧ H p = some (.lst xs) ∧ Q (.int xs.length) H
def kLenT : List V → Hp → VK → Prop := fun vs H Q => ∃ p xs, vs = [.ref p] ∧ H p = some (.tup xs) ∧ Q (.int xs.length) H
theorem len_l : CallR X (.builtin "len") kLenL := CallR.imp call_len_seq fun _ _ _ ⟨p, xs, e, h, q⟩ => ⟨p, xs, e, .inl (SqL.tr h), q⟩
theorem len_t : CallR X (.builtin "len") kLenT := CallR.imp call_len_seq fun _ _ _ ⟨p, xs, e, h, q⟩ => ⟨p, xs, e, .inr (SqT.tr h), q⟩
/-- list or tuple -/
def kIxS : R2 := fun x y H Q => ∃ p i xs v, x = .ref p ∧ y = .int i ∧ (H p = some (.lst xs) ∨ H p = some (.tup xs)) ∧ atI xs i = some v ∧ Q v H
theorem ix_s : IxR X kIxS := IxR.imp ix_seq fun _ _ _ _ ⟨p, i, xs, v, e1, e2, h, ha, q⟩ => h.elim (fun h => .inl ⟨p, xs, i, v, e1, e2, SqL.tr h, ha, q⟩) fun h => .inr (.inl ⟨p, xs, i, v, e1, e2, SqT.tr h, ha, q⟩)
def kLenS : List V → Hp → VK → Prop := fun vs H Q => ∃ p xs, vs = [.ref p] ∧ (H p = some (.lst xs) ∨ H p = some (.tup xs)) ∧ Q (.int xs.length) H
theorem len_s : CallR X (.builtin "len") kLenS := CallR.imp call_len_seq fun _ _ _ ⟨p, xs, e, h, q⟩ => ⟨p, xs, e, h.elim (fun h => .inl (SqL.tr h)) (fun h => .inr (SqT.tr h)), q⟩
/-- int(i) -/
def kInt : List V → Hp → VK → Prop := fun vs H Q => ∃ i, vs = [.int i] ∧ Q (.int i) H
theorem int_i : CallR X (.type "int") kInt := CallR.imp call_int1 fun _ _ _ ⟨i, e, q⟩ => .inl ⟨i, e, q⟩
/-- list(xs): a new one -/
def kListL : List V → Hp → VK → Prop := fun vs H Q => ∃ p xs, vs = [.ref p] ∧ H p = some (.lst xs) ∧ ∀ l, H l = none → Q (.ref l) (upd H l (.lst xs))
theorem list_l : CallR X (.type "list") kListL := CallR.imp call_list_of fun _ _ _ ⟨p, xs, e, h, q⟩ => ⟨p, xs, e, .inl (SqL.tr h), q⟩
def kListT : List V → Hp → VK → Prop := fun vs H Q => ∃ p xs, vs = [.ref p] ∧ H p = some (.tup xs) ∧ ∀ l, H l = none → Q (.ref l) (upd H l (.lst xs))
theorem list_t : CallR X (.type "list") kListT := CallR.imp call_list_of fun _ _ _ ⟨p, xs, e, h, q⟩ => ⟨p, xs, e, .inr (SqT.tr h), q⟩
def kTupL : List V → Hp → VK → Prop := fun vs H Q => ∃ p xs, vs = [.ref p] ∧ H p = some (.lst xs) ∧ ∀ l, H l = none → Q (.ref l) (upd H l (.tup xs))
theorem tup_l : CallR X (.type "tuple") kTupL := CallR.imp call_tuple_of fun _ _ _ ⟨p, xs, e, h, q⟩ => ⟨p, xs, e, .inl ⟨SqL.tr h, q⟩⟩
/-- isinstance(x, T), T built in -/
def tyN (H : Hp) : V → Option String
  | .non => some "NoneType"
  | .bl _ => some "bool"
  | .int _ => some "int"
  | .str _ => some "str"
  | .ref a => match H a with
    | some (.lst _) => some "list"
    | some (.tup _) => some "tuple"
    | some (.dK _) => some "dict"
    | some (.dT _) => some "dict"
    | _ => none
  | _ => none
theorem tyN_of {K : PySem.W.Frag} {H : Hp} {x : V} {n : String} (h : tyN H x = some n) : TyX K H x (.type n) := by
  cases x with
  | non => cases h; exact .base .non
  | bl b => cases h; exact .base (.bl b)
  | int i => cases h; exact .base (.int i)
  | str z => cases h; exact .base (.str z)
  | byt b => cases h
  | flt b => cases h
  | ty b => cases h
  | ref a =>
    have h' : (match H a with
      | some (.lst _) => some "list"
      | some (.tup _) => some "tuple"
      | some (.dK _) => some "dict"
      | some (.dT _) => some "dict"
      | _ => none) = some n := h
    cases e : H a with
    | none => rw [e] at h'; cases h'
    | some o =>
      rw [e] at h'
      cases o with
      | lst xs => cases h'; exact .base (.lst e)
      | tup xs => cases h'; exact .base (.tup e)
      | dK xs => cases h'; exact .base (.dK e)
      | dT xs => cases h'; exact .base (.dT e)
      | _ => cases h'
theorem tyN_lst {H : Hp} {a : Addr} {xs : List V} (h : H a = some (.lst xs)) : tyN H (.ref a) = some "list" := by
  show (match H a with
      | some (.lst _) => some "list"
      | some (.tup _) => some "tuple"
      | some (.dK _) => some "dict"
      | some (.dT _) => some "dict"
      | _ => none) = some "list"
  rw [h]
theorem tyN_tup {H : Hp} {a : Addr} {xs : List V} (h : H a = some (.tup xs)) : tyN H (.ref a) = some "tuple" := by
  show (match H a with
      | some (.lst _) => some "list"
      | some (.tup _) => some "tuple"
      | some (.dK _) => some "dict"
      | some (.dT _) => some "dict"
      | _ => none) = some "tuple"
  rw [h]
theorem tyN_int {H : Hp} {i : Int} : tyN H (.int i) = some "int" := rfl
theorem tyN_bl {H : Hp} {i : Bool} : tyN H (.bl i) = some "bool" := rfl
theorem tyN_non {H : Hp} : tyN H .non = some "NoneType" := rfl
theorem tyN_str {H : Hp} {i : Str} : tyN H (.str i) = some "str" := rfl
def kIsi : List V → Hp → VK → Prop := fun vs H Q => ∃ x c n b, vs = [x, .ty c] ∧ tyN H x = some n ∧ kitB n c = some b ∧ Q (.bl b) H
theorem isi_b : CallR X (.builtin "isinstance") kIsi := CallR.imp call_isi fun _ _ _ ⟨x, c, n, b, e, h, k, q⟩ => ⟨x, .ty c, .type n, .type c, b, e, .ty c, tyN_of h, kit_ty k, q⟩
theorem kb_NoneType_bool : kitB "NoneType" "bool" = some false := by decide +kernel
theorem kb_NoneType_int : kitB "NoneType" "int" = some false := by decide +kernel
theorem kb_NoneType_str : kitB "NoneType" "str" = some false := by decide +kernel
theorem kb_NoneType_tuple : kitB "NoneType" "tuple" = some false := by decide +kernel
theorem kb_NoneType_list : kitB "NoneType" "list" = some false := by decide +kernel
theorem kb_bool_bool : kitB "bool" "bool" = some true := by decide +kernel
theorem kb_bool_int : kitB "bool" "int" = some true := by decide +kernel
theorem kb_bool_str : kitB "bool" "str" = some false := by decide +kernel
theorem kb_bool_tuple : kitB "bool" "tuple" = some false := by decide +kernel
theorem kb_bool_list : kitB "bool" "list" = some false := by decide +kernel
theorem kb_int_bool : kitB "int" "bool" = some false := by decide +kernel
theorem kb_int_int : kitB "int" "int" = some true := by decide +kernel
theorem kb_int_str : kitB "int" "str" = some false := by decide +kernel
theorem kb_int_tuple : kitB "int" "tuple" = some false := by decide +kernel
theorem kb_int_list : kitB "int" "list" = some false := by decide +kernel
theorem kb_str_bool : kitB "str" "bool" = some false := by decide +kernel
theorem kb_str_int : kitB "str" "int" = some false := by decide +kernel
theorem kb_str_str : kitB "str" "str" = some true := by decide +kernel
theorem kb_str_tuple : kitB "str" "tuple" = some false := by decide +kernel
theorem kb_str_list : kitB "str" "list" = some false := by decide +kernel
theorem kb_tuple_bool : kitB "tuple" "bool" = some false := by decide +kernel
theorem kb_tuple_int : kitB "tuple" "int" = some false := by decide +kernel
theorem kb_tuple_str : kitB "tuple" "str" = some false := by decide +kernel
theorem kb_tuple_tuple : kitB "tuple" "tuple" = some true := by decide +kernel
theorem kb_tuple_list : kitB "tuple" "list" = some false := by decide +kernel
theorem kb_list_bool : kitB "list" "bool" = some false := by decide +kernel
theorem kb_list_int : kitB "list" "int" = some false := by decide +kernel
theorem kb_list_str : kitB "list" "str" = some false := by decide +kernel
theorem kb_list_tuple : kitB "list" "tuple" = some false := by decide +kernel
theorem kb_list_list : kitB "list" "list" = some true := by decide +kernel
theorem op_isNV : OpR X (compareOp .Is) (fun x y H Q => y = .non ∧ Q (.bl (decide (x = .non))) H) := fun pins s σ H x y v u Q I rx ry ⟨e, q⟩ => op_isN pins s σ H x y v u Q I rx ry ⟨e, q⟩
/-- o.m(..), o a tracked list -/
def kBM (r : V → List V → Hp → VK → Prop) (to : TE) (t : TA) : TE := fun σ H Q => to σ H fun x H1 => ∃ p xs, x = .ref p ∧ H1 p = some (.lst xs) ∧ t σ H1 fun ys H2 => r x ys H2 Q
def kBM0 (r : V → List V → Hp → VK → Prop) (to : TE) : TE := fun σ H Q => to σ H fun x H1 => ∃ p xs, x = .ref p ∧ H1 p = some (.lst xs) ∧ r x [] H1 Q
theorem pe_bmL {o e : Expr} {es : List Expr} {to : TE} {t : TA} {name : Str} {apos cpos : Pos} {id : String} {r : V → List V → Hp → VK → Prop}
    (slot : Slot "list" name id) (hty : typeOf (.builtin id) = pure (.type "method_descriptor")) (hm : MtR X id r) (ho : PE X o to) (ha : PA X (e :: es) t)
    (hbase : attributeBase o name X.env (eval o X.env) = eval o X.env := by rfl)
    (hfew : ((backTo cpos (starEach (e :: es) X.env)).all (fun x => !x.1) && (backToKw cpos (keywordEach [] X.env)).all (fun x => x.1.isSome)
      && decide ((e :: es).length + ([] : List Keyword).length + (if ([] : List Keyword).isEmpty then 0 else 1) < 30)) = true := by rfl)
    (hline : (apos.endLine == cpos.line) = true := by rfl) (hs : starEach (e :: es) X.env = (false, eval e X.env) :: starEach es X.env := by rfl) (hplain : (backTo cpos (starEach es X.env)).any (·.1) = false := by rfl) :
    PE X (.Call (.Attribute o name apos) (e :: es) [] cpos) (tBM X.K "list" r to t) := pe_bm PySem.F.plainAttrs_list slot hty hm ho ha hbase hfew hline hs hplain
/-- o is a name (or anything whose value's reading is monotone) -/
def Mono (t : TE) : Prop := ∀ σ H (Q Q' : VK), (∀ v H', Q v H' → Q' v H') → t σ H Q → t σ H Q'
theorem mono_var {i : Nat} : Mono (tVar i) := fun _ _ _ _ m ⟨v, e, q⟩ => ⟨v, e, m _ _ q⟩
/-- x.append(..) and the like, x a local name -/
def kMt (r : V → List V → Hp → VK → Prop) (i : Nat) (t : TA) : TE := fun σ H Q => ∃ p xs, σ[i]? = some (some (V.ref p)) ∧ H p = some (.lst xs) ∧ t σ H fun ys H2 => r (V.ref p) ys H2 Q
def kMt0 (r : V → List V → Hp → VK → Prop) (i : Nat) : TE := fun σ H Q => ∃ p xs, σ[i]? = some (some (V.ref p)) ∧ H p = some (.lst xs) ∧ r (V.ref p) [] H Q
theorem pe_mt {i : Nat} {o e : Expr} {es : List Expr} {t : TA} {name : Str} {apos cpos : Pos} {id : String} {r : V → List V → Hp → VK → Prop}
    (slot : Slot "list" name id) (hty : typeOf (.builtin id) = pure (.type "method_descriptor")) (hm : MtR X id r) (ho : PE X o (tVar i)) (ha : PA X (e :: es) t)
    (hbase : attributeBase o name X.env (eval o X.env) = eval o X.env := by rfl)
    (hfew : ((backTo cpos (starEach (e :: es) X.env)).all (fun x => !x.1) && (backToKw cpos (keywordEach [] X.env)).all (fun x => x.1.isSome)
      && decide ((e :: es).length + ([] : List Keyword).length + (if ([] : List Keyword).isEmpty then 0 else 1) < 30)) = true := by rfl)
    (hline : (apos.endLine == cpos.line) = true := by rfl) (hs : starEach (e :: es) X.env = (false, eval e X.env) :: starEach es X.env := by rfl) (hplain : (backTo cpos (starEach es X.env)).any (·.1) = false := by rfl) :
    PE X (.Call (.Attribute o name apos) (e :: es) [] cpos) (kMt r i t) := PE.imp (pe_bm PySem.F.plainAttrs_list slot hty hm ho ha hbase hfew hline hs hplain) fun _ _ _ ⟨p, xs, e, h, q⟩ => ⟨.ref p, e, .inl ⟨rfl, xs, SqL.tr h⟩, q⟩
theorem pe_mt0 {i : Nat} {o : Expr} {name : Str} {apos cpos : Pos} {id : String} {r : V → List V → Hp → VK → Prop}
    (slot : Slot "list" name id) (hty : typeOf (.builtin id) = pure (.type "method_descriptor")) (hm : MtR X id r) (ho : PE X o (tVar i))
    (hbase : attributeBase o name X.env (eval o X.env) = eval o X.env := by rfl) (hline : (apos.endLine == cpos.line) = true := by rfl) : PE X (.Call (.Attribute o name apos) [] [] cpos) (kMt0 r i) :=
  PE.imp (pe_bm0 PySem.F.plainAttrs_list slot hty hm ho hbase hline) fun _ _ _ ⟨p, xs, e, h, q⟩ => ⟨.ref p, e, .inl ⟨rfl, xs, SqL.tr h⟩, q⟩
end
/-! ### for loops over tracked things -/
section
variable {X : Cx}
/-- what is wanted may be weakened -/
def tMo (t : TE) : TE := fun σ H Q => ∃ A : VK, t σ H A ∧ ∀ v H', A v H' → Q v H'
theorem pe_mo {e : Expr} {t : TE} (h : PE X e t) : PE X e (tMo t) := ⟨fun pins s σ H Q I ⟨A, q, m⟩ => thn (h.run pins s σ H A I q) fun _ _ ⟨v, H', I', r, z⟩ => ⟨v, H', I', r, m v H' z⟩⟩
def kIterL (K : PySem.W.Frag) (tl : TE) : TI := fun σ H R => tl σ H fun x H1 => ∃ a xs, x = .ref a ∧ H1 a = some (.lst xs) ∧ R (Itl K a) H1
def kIterT (K : PySem.W.Frag) (tl : TE) : TI := fun σ H R => tl σ H fun x H1 => ∃ a xs, x = .ref a ∧ H1 a = some (.tup xs) ∧ R (Itt K a) H1
theorem pi_l {tg l : Expr} {tl : TE} (hl : PE X l tl) : PI X tg l (kIterL X.K tl) := ⟨fun pins s σ H R I q => (pi_list (pe_mo hl)).run pins s σ H R I ⟨_, q, fun _ _ ⟨a, xs, e, h, z⟩ => ⟨a, e, ⟨xs, SqL.tr h⟩, z⟩⟩⟩
theorem pi_t {tg l : Expr} {tl : TE} (hl : PE X l tl) : PI X tg l (kIterT X.K tl) := ⟨fun pins s σ H R I q => (pi_tup (pe_mo hl)).run pins s σ H R I ⟨_, q, fun _ _ ⟨a, xs, e, h, z⟩ => ⟨a, e, ⟨xs, SqT.tr h⟩, z⟩⟩⟩
def tForJ (J : It) (g : TG) (tb : TS) (D : Ends) (σ : St) (H : Hp) : Prop := ∃ W : Nat → Nat → St → Hp → Prop, (∃ m, W 0 m σ H) ∧ ∀ i m σ H, W i m σ H →
  (J.stop i H ∧ D.nx σ H) ∨ (J.go i H ∧ ∃ N : St → Hp → Prop, (∀ σ' H', N σ' H' → ∃ m', m' < m ∧ W (i + 1) m' σ' H') ∧ ∀ x H', J.yld i H x H' → g x σ H' fun σ2 H2 => tb { D with nx := N, ct := N, bk := D.nx } σ2 H2)
theorem forJ_range {lo : Int} {m : Nat} {g : TG} {tb : TS} {n b c : St → Hp → Prop} {r : VK} {σ : L2.St} {H : Hp} (Pv : Nat → St → Hp → Prop) (h0 : Pv 0 σ H)
    (hs : ∀ i σ H, i < m → Pv i σ H → g (.int (lo + i)) σ H fun σ2 H2 => tb ⟨Pv (i + 1), r, n, Pv (i + 1)⟩ σ2 H2) (hd : ∀ σ H, Pv m σ H → n σ H) : tForJ (Itr lo m) g tb ⟨n, r, b, c⟩ σ H := for_range Pv h0 hs hd
theorem forJ_range0 {m : Nat} {g : TG} {tb : TS} {n b c : St → Hp → Prop} {r : VK} {σ : L2.St} {H : Hp} (Pv : Nat → St → Hp → Prop) (h0 : Pv 0 σ H)
    (hs : ∀ i σ H, i < m → Pv i σ H → g (.int (i : Int)) σ H fun σ2 H2 => tb ⟨Pv (i + 1), r, n, Pv (i + 1)⟩ σ2 H2) (hd : ∀ σ H, Pv m σ H → n σ H) : tForJ (Itr 0 m) g tb ⟨n, r, b, c⟩ σ H := for_range Pv h0 (fun i σ H h p => by
      rw [Int.zero_add]
      exact hs i σ H h p) hd
theorem forJ_list {K : PySem.W.Frag} {a : Addr} (xs : List V) {g : TG} {tb : TS} {n b c : St → Hp → Prop} {r : VK} {σ : L2.St} {H : Hp} (Pv : Nat → St → Hp → Prop) (h0 : Pv 0 σ H) (hl : ∀ i σ H, i ≤ xs.length → Pv i σ H → H a = some (.lst xs))
    (hs : ∀ i x σ H, xs[i]? = some x → Pv i σ H → g x σ H fun σ2 H2 => tb ⟨Pv (i + 1), r, n, Pv (i + 1)⟩ σ2 H2) (hd : ∀ σ H, Pv xs.length σ H → n σ H) : tForJ (Itl K a) g tb ⟨n, r, b, c⟩ σ H :=
  for_list Pv h0 (fun i σ H h p => SqL.tr (hl i σ H h p)) hs hd
theorem forJ_tup {K : PySem.W.Frag} {a : Addr} (xs : List V) {g : TG} {tb : TS} {n b c : St → Hp → Prop} {r : VK} {σ : L2.St} {H : Hp} (Pv : Nat → St → Hp → Prop) (h0 : Pv 0 σ H) (hl : ∀ i σ H, i ≤ xs.length → Pv i σ H → H a = some (.tup xs))
    (hs : ∀ i x σ H, xs[i]? = some x → Pv i σ H → g x σ H fun σ2 H2 => tb ⟨Pv (i + 1), r, n, Pv (i + 1)⟩ σ2 H2) (hd : ∀ σ H, Pv xs.length σ H → n σ H) : tForJ (Itt K a) g tb ⟨n, r, b, c⟩ σ H :=
  for_tup Pv h0 (fun i σ H h p => SqT.tr (hl i σ H h p)) hs hd
end
/-! ### places of lists -/
theorem ixN_natL (n i : Nat) : ixN n (i : Int) = if i < n then some i else none := by
  unfold ixN
  by_cases h : i < n
  · rw [if_pos (by omega), if_pos (by omega), if_pos h]
    simp
  · rw [if_pos (by omega), if_neg (by omega), if_neg h]
theorem atI_natL {α : Type} (xs : List α) (i : Nat) : atI xs (i : Int) = xs[i]? := by
  unfold atI
  rw [ixN_natL]
  by_cases h : i < xs.length
  · rw [if_pos h]
    rfl
  · rw [if_neg h]
    exact (List.getElem?_eq_none (by omega)).symm
theorem atI_map {ns : List Int} {i : Int} (h0 : 0 ≤ i) (h : i < ns.length) : ∃ x, atI (ns.map V.int) i = some (.int x) := by
  refine ⟨ns[i.toNat]'(by omega), ?_⟩
  obtain ⟨k, rfl⟩ : ∃ k : Nat, i = (k : Int) := ⟨i.toNat, by omega⟩
  rw [atI_natL, List.getElem?_map, List.getElem?_eq_getElem (by omega)]
  simp
theorem atI_m1 {α : Type} (xs : List α) : atI xs (-1) = xs.getLast? := by
  unfold atI ixN
  rw [List.getLast?_eq_getElem?, if_neg (by decide)]
  by_cases h : xs = []
  · subst h; rfl
  · have : 0 < xs.length := by cases xs with | nil => exact absurd rfl h | cons _ _ => simp
    rw [if_pos (by omega)]
    show xs[(-1 + (xs.length : Int)).toNat]? = _
    rw [show (-1 + (xs.length : Int)).toNat = xs.length - 1 by omega]
theorem atI_0 {α : Type} (xs : List α) : atI xs 0 = xs[0]? := atI_natL xs 0
theorem ixN_0 (n : Nat) : ixN n 0 = if 0 < n then some 0 else none := ixN_natL n 0
theorem atI_1 {α : Type} (xs : List α) : atI xs 1 = xs[1]? := atI_natL xs 1
theorem ixN_1 (n : Nat) : ixN n 1 = if 1 < n then some 1 else none := ixN_natL n 1
theorem atI_2 {α : Type} (xs : List α) : atI xs 2 = xs[2]? := atI_natL xs 2
theorem ixN_2 (n : Nat) : ixN n 2 = if 2 < n then some 2 else none := ixN_natL n 2
theorem atI_3 {α : Type} (xs : List α) : atI xs 3 = xs[3]? := atI_natL xs 3
theorem ixN_3 (n : Nat) : ixN n 3 = if 3 < n then some 3 else none := ixN_natL n 3
theorem atI_4 {α : Type} (xs : List α) : atI xs 4 = xs[4]? := atI_natL xs 4
theorem ixN_4 (n : Nat) : ixN n 4 = if 4 < n then some 4 else none := ixN_natL n 4
theorem atI_5 {α : Type} (xs : List α) : atI xs 5 = xs[5]? := atI_natL xs 5
theorem ixN_5 (n : Nat) : ixN n 5 = if 5 < n then some 5 else none := ixN_natL n 5
theorem atI_6 {α : Type} (xs : List α) : atI xs 6 = xs[6]? := atI_natL xs 6
theorem ixN_6 (n : Nat) : ixN n 6 = if 6 < n then some 6 else none := ixN_natL n 6
theorem atI_7 {α : Type} (xs : List α) : atI xs 7 = xs[7]? := atI_natL xs 7
theorem ixN_7 (n : Nat) : ixN n 7 = if 7 < n then some 7 else none := ixN_natL n 7
theorem atI_8 {α : Type} (xs : List α) : atI xs 8 = xs[8]? := atI_natL xs 8
theorem ixN_8 (n : Nat) : ixN n 8 = if 8 < n then some 8 else none := ixN_natL n 8
theorem atI_9 {α : Type} (xs : List α) : atI xs 9 = xs[9]? := atI_natL xs 9
theorem ixN_9 (n : Nat) : ixN n 9 = if 9 < n then some 9 else none := ixN_natL n 9
theorem atI_10 {α : Type} (xs : List α) : atI xs 10 = xs[10]? := atI_natL xs 10
theorem ixN_10 (n : Nat) : ixN n 10 = if 10 < n then some 10 else none := ixN_natL n 10
theorem atI_11 {α : Type} (xs : List α) : atI xs 11 = xs[11]? := atI_natL xs 11
theorem ixN_11 (n : Nat) : ixN n 11 = if 11 < n then some 11 else none := ixN_natL n 11
theorem atI_12 {α : Type} (xs : List α) : atI xs 12 = xs[12]? := atI_natL xs 12
theorem ixN_12 (n : Nat) : ixN n 12 = if 12 < n then some 12 else none := ixN_natL n 12

/-! ### readings step by step, from the root -/
theorem upd_id {H : Hp} {a : Addr} {o : HO} (h : H a = some o) : upd H a o = H := by
  funext b
  unfold upd
  split
  · next e => rw [e, h]
  · rfl
theorem exAt {H H' : Hp} (e : Evl.Ex H H') {a : Addr} {o : HO} (h : H a = some o) : H' a = some o := e a o h
theorem ne_fresh {H : Hp} {a b : Addr} {o : HO} (h' : H b = none) (h : H a = some o) : a ≠ b := ne_of_none h h'
inductive SetAt : L2.St → Nat → V → L2.St → Prop
  | zero {x : Option V} {σ : L2.St} {v : V} : SetAt (x :: σ) 0 v (some v :: σ)
  | succ {x : Option V} {σ σ' : L2.St} {i : Nat} {v : V} (h : SetAt σ i v σ') : SetAt (x :: σ) (i + 1) v (x :: σ')
theorem SetAt.eq {σ σ' : L2.St} {i : Nat} {v : V} (h : SetAt σ i v σ') : σ.set i (some v) = σ' := by
  induction h with
  | zero => rfl
  | succ _ ih => rw [List.set_cons_succ, ih]
inductive StartAt : List Str → List V → L2.St → Prop
  | nil : StartAt [] [] []
  | pad {n : Str} {N : List Str} {σ : L2.St} (h : StartAt N [] σ) : StartAt (n :: N) [] (none :: σ)
  | val {n : Str} {N : List Str} {v : V} {vs : List V} {σ : L2.St} (h : StartAt N vs σ) : StartAt (n :: N) (v :: vs) (some v :: σ)
theorem StartAt.eq {N : List Str} {vs : List V} {σ : L2.St} (h : StartAt N vs σ) : L2.start N vs = σ := by
  induction h with
  | nil => rfl
  | pad _ ih =>
    rw [← ih]
    unfold L2.start
    simp [List.replicate_succ]
  | val _ ih =>
    rw [← ih]
    unfold L2.start
    simp
theorem iBody {N : List Str} {vs : List V} {σ : L2.St} {t : TS} {D : Ends} {H : Hp} (h : StartAt N vs σ) (q : t D σ H) : t D (L2.start N vs) H := by
  rw [h.eq]
  exact q
section
variable {K : PySem.W.Frag} {σ σ' : L2.St} {H : Hp} {Q : VK} {ta tb te td : TE} {tt tu : TT} {n b c : St → Hp → Prop} {r : VK} {ts us : TS} {x y v : V} {i j : Int} {tA tR : TA} {QB : Bool → Hp → Prop} {QA : List V → Hp → Prop} {f : Int → Int → V} {R : It → Hp → Prop}
theorem iSeq (q : ts ⟨us ⟨n, r, b, c⟩, r, b, c⟩ σ H) : tSeq ts us ⟨n, r, b, c⟩ σ H := q
theorem iCut (Mid : L2.St → Hp → Prop) (q1 : ts ⟨Mid, r, b, c⟩ σ H) (q2 : ∀ σ' H', Mid σ' H' → us ⟨n, r, b, c⟩ σ' H') : Evl.tCut ts us ⟨n, r, b, c⟩ σ H := ⟨Mid, q1, q2⟩
theorem iNext (q : n σ H) : tNext ⟨n, r, b, c⟩ σ H := q
theorem iBreak (q : b σ H) : tBreak ⟨n, r, b, c⟩ σ H := q
theorem iCont (q : c σ H) : tCont ⟨n, r, b, c⟩ σ H := q
theorem iAsg {g : TG} (q : te σ H fun x H1 => g x σ H1 n) : tAsg te g ⟨n, r, b, c⟩ σ H := q
theorem iName {i : Nat} {QS : St → Hp → Prop} (h : SetAt σ i v σ') (q : QS σ' H) : gName i v σ H QS := by
  show QS (σ.set i (some v)) H
  rw [h.eq]
  exact q
theorem iDrop (q : te σ H fun _ H1 => n σ H1) : tDrop te ⟨n, r, b, c⟩ σ H := q
theorem iRet (q : te σ H r) : tRet te ⟨n, r, b, c⟩ σ H := q
theorem iRetN (q : r .non H) : tRetN ⟨n, r, b, c⟩ σ H := q
theorem iIfS (q : tt σ H fun k H1 => if k = true then ts ⟨n, r, b, c⟩ σ H1 else us ⟨n, r, b, c⟩ σ H1) : tIfS tt ts us ⟨n, r, b, c⟩ σ H := q
theorem iAug {i : Nat} {ti : TIp} (h : σ[i]? = some (some x)) (q : te σ H fun y H1 => ti x y H1 fun z H2 => ∃ σ', SetAt σ i z σ' ∧ n σ' H2) (m : ∀ y H1 (A B : VK), (∀ z H2, A z H2 → B z H2) → ti x y H1 A → ti x y H1 B) (mt : ∀ (A B : VK), (∀ z H2, A z H2 → B z H2) → te σ H A → te σ H B) : tAug i te ti ⟨n, r, b, c⟩ σ H :=
  ⟨x, h, mt _ _ (fun y H1 q1 => m y H1 _ _ (fun z H2 ⟨σ', e, q2⟩ => by
    show n (σ.set i (some z)) H2
    rw [e.eq]
    exact q2) q1) q⟩
/-- x += e, ints -/
theorem iAugI {i : Nat} {f : Int → Int → Int} {a : Int} (h : σ[i]? = some (some (.int a))) (q : te σ H fun y H1 => ∃ d, y = .int d ∧ n (σ.set i (some (.int (f a d)))) H1) (mt : ∀ (A B : VK), (∀ z H2, A z H2 → B z H2) → te σ H A → te σ H B) : tAug i te (ipI f) ⟨n, r, b, c⟩ σ H :=
  ⟨_, h, mt _ _ (fun y H1 ⟨d, e, q1⟩ => ⟨a, d, rfl, e, q1⟩) q⟩
def kAug (i : Nat) (f : Int → Int → Int) (a : Int) (σ : St) (n : St → Hp → Prop) : VK := fun y H1 => ∃ d, y = .int d ∧ n (σ.set i (some (.int (f a d)))) H1
theorem iAugK {i : Nat} {f : Int → Int → Int} {a : Int} (h : σ[i]? = some (some (.int a))) (q : te σ H fun y H1 => (ipI f) (.int a) y H1 fun z H2 => gName i z σ H2 n) : tAug i te (ipI f) ⟨n, r, b, c⟩ σ H := ⟨_, h, q⟩
theorem iIpI {f : Int → Int → Int} (q : Q (.int (f i j)) H) : ipI f (.int i) (.int j) H Q := ⟨i, j, rfl, rfl, q⟩
theorem iAugS {to ti te : TE} {tget : V → V → Hp → VK → Prop} {tip : TIp} {tset : TSet} (q : to σ H fun o H1 => ti σ H1 fun i H2 => tget o i H2 fun x H3 => te σ H3 fun y H4 => tip x y H4 fun z H5 => tset o i z H5 fun H6 => n σ H6) : tAugS to ti te tget tip tset ⟨n, r, b, c⟩ σ H := q
theorem iFor {wi : TI} {g : TG} (q : wi σ H fun J H1 => tForJ J g ts ⟨n, r, b, c⟩ σ H1) : tFor wi g ts ⟨n, r, b, c⟩ σ H := q
/-- targets -/
theorem iSub {to ti : TE} {t : TSet} {QS : St → Hp → Prop} (q : to σ H fun o H1 => ti σ H1 fun i H2 => t o i v H2 fun H3 => QS σ H3) : gSub to ti t v σ H QS := q
theorem iSetL {p : Addr} {xs : List V} {k : Nat} {QH : Hp → Prop} (h : H p = some (.lst xs)) (hi : ixN xs.length i = some k) (q : QH (upd H p (.lst (xs.set k v)))) : rSetL (.ref p) (.int i) v H QH := ⟨p, xs, i, k, rfl, rfl, h, hi, q⟩
/-- expressions -/
theorem iVar {i : Nat} (h : σ[i]? = some (some v)) (q : Q v H) : tVar i σ H Q := ⟨v, h, q⟩
theorem iC (q : Q v H) : tC v σ H Q := q
theorem iOp {rr : R2} (q : ta σ H fun x H1 => tb σ H1 fun y H2 => rr x y H2 Q) : tOp rr ta tb σ H Q := q
theorem iUn {rr : V → Hp → VK → Prop} (q : ta σ H fun x H1 => rr x H1 Q) : tUn rr ta σ H Q := q
theorem iI0 (q : Q (f i j) H) : rI0 f (.int i) (.int j) H Q := ⟨i, j, rfl, rfl, q⟩
theorem iI {C : Int → Int → Prop} (q : Q (f i j) H) (hc : C i j) : rI C f (.int i) (.int j) H Q := ⟨i, j, rfl, rfl, hc, q⟩
theorem iU {g : Int → V} (q : Q (g i) H) : rU g (.int i) H Q := ⟨i, rfl, q⟩
theorem dec_int (i j : Int) : decide (V.int i = V.int j) = decide (i = j) := by
  by_cases h : i = j
  · subst h; rw [decide_eq_true rfl, decide_eq_true rfl]
  · rw [decide_eq_false h, decide_eq_false (fun z => h (V.int.inj z))]
theorem dec_bl (i j : Bool) : decide (V.bl i = V.bl j) = decide (i = j) := by cases i <;> cases j <;> rfl
theorem dec_str (i j : Str) : decide (V.str i = V.str j) = decide (i = j) := by
  by_cases h : i = j
  · subst h; rw [decide_eq_true rfl, decide_eq_true rfl]
  · rw [decide_eq_false h, decide_eq_false (fun z => h (V.str.inj z))]
theorem iEqI (q : Q (.bl (decide (i = j))) H) : rEq (.int i) (.int j) H Q := ⟨rfl, by rw [dec_int]; exact q⟩
theorem iNeI (q : Q (.bl (!decide (i = j))) H) : rNe (.int i) (.int j) H Q := ⟨rfl, by rw [dec_int]; exact q⟩
theorem iEqB {k l : Bool} (q : Q (.bl (decide (k = l))) H) : rEq (.bl k) (.bl l) H Q := ⟨rfl, by rw [dec_bl]; exact q⟩
theorem iNeB {k l : Bool} (q : Q (.bl (!decide (k = l))) H) : rNe (.bl k) (.bl l) H Q := ⟨rfl, by rw [dec_bl]; exact q⟩
theorem iEqS {k l : Str} (q : Q (.bl (decide (k = l))) H) : rEq (.str k) (.str l) H Q := ⟨rfl, by rw [dec_str]; exact q⟩
theorem iNeS {k l : Str} (q : Q (.bl (!decide (k = l))) H) : rNe (.str k) (.str l) H Q := ⟨rfl, by rw [dec_str]; exact q⟩
theorem iIsN (q : Q (.bl (decide (x = .non))) H) : rIsN x .non H Q := ⟨rfl, q⟩
theorem iNotN (q : Q (.bl (!decide (x = .non))) H) : rNotN x .non H Q := ⟨rfl, q⟩
def kBl (QB : Bool → Hp → Prop) : VK := fun x H => ∃ k, x = .bl k ∧ QB k H
theorem iBl {k : Bool} (q : QB k H) : kBl QB (.bl k) H := ⟨k, rfl, q⟩
theorem iTest (q : te σ H (kBl QB)) : tTest te σ H QB := q
theorem iB (q : te σ H (kBl QB)) : tB te σ H QB := q
theorem iAnd (q : tt σ H fun k H1 => if k = true then tu σ H1 QB else QB false H1) : tAnd tt tu σ H QB := q
theorem iOr (q : tt σ H fun k H1 => if k = true then QB true H1 else tu σ H1 QB) : tOr tt tu σ H QB := q
theorem iNot (q : tt σ H fun k H1 => QB (!k) H1) : tNot tt σ H QB := q
theorem iAndV (q : ta σ H (kBl fun k H1 => if k = true then tb σ H1 Q else Q (.bl false) H1)) : tAndV ta tb σ H Q := q
theorem iOrV (q : ta σ H (kBl fun k H1 => if k = true then Q (.bl true) H1 else tb σ H1 Q)) : tOrV ta tb σ H Q := q
theorem iNotV (q : ta σ H (kBl fun k H1 => Q (.bl (!k)) H1)) : tNotV ta σ H Q := q
theorem iIf (q : tt σ H fun k H1 => if k = true then ta σ H1 Q else tb σ H1 Q) : tIf tt ta tb σ H Q := q
theorem iChain {rr rr' : R2} (q : ta σ H fun x H1 => tb σ H1 fun y H2 => rr x y H2 (kBl fun k H3 => if k = true then te σ H3 fun w' H4 => rr' y w' H4 Q else Q (.bl false) H3)) : tChain rr rr' ta tb te σ H Q :=
  q
theorem iCons (q : ta σ H fun x H1 => tR σ H1 fun xs H2 => QA (x :: xs) H2) : tCons ta tR σ H QA := q
theorem iNil (q : QA [] H) : tNil σ H QA := q
theorem iCB {rr : List V → Hp → VK → Prop} (q : tA σ H fun vs H1 => rr vs H1 Q) : tCB rr tA σ H Q := q
theorem iCal {sp : Sp} (q : tA σ H fun vs H1 => sp vs H1 Q E0) : tCal sp tA σ H Q := q
def kNewL (Q : VK) : List V → Hp → Prop := fun xs H1 => xs.length ≤ sizeLine ∧ ∀ p, H1 p = none → Q (.ref p) (upd H1 p (.lst xs))
def kNewT (Q : VK) : List V → Hp → Prop := fun xs H1 => xs.length ≤ sizeLine ∧ ∀ p, H1 p = none → Q (.ref p) (upd H1 p (.tup xs))
theorem iNewL {xs : List V} (h : xs.length ≤ 100000) (q : ∀ p, H p = none → Q (.ref p) (upd H p (.lst xs))) : kNewL Q xs H := ⟨Evl.sz_of h, q⟩
theorem iNewT {xs : List V} (h : xs.length ≤ 100000) (q : ∀ p, H p = none → Q (.ref p) (upd H p (.tup xs))) : kNewT Q xs H := ⟨Evl.sz_of h, q⟩
theorem iApp {p : Addr} {xs : List V} (h : H p = some (.lst xs)) (hz : xs.length < 100000) (q : Q .non (upd H p (.lst (xs ++ [v])))) : rAppend (.ref p) [v] H Q := ⟨p, xs, v, rfl, rfl, h, Evl.sz_lt hz, q⟩
theorem iLst (q : tA σ H (kNewL Q)) : tLst tA σ H Q := q
theorem iTup (q : tA σ H (kNewT Q)) : tTup tA σ H Q := q
theorem iIxL {p : Addr} {xs : List V} (h : H p = some (.lst xs)) (ha : atI xs i = some v) (q : Q v H) : kIxL (.ref p) (.int i) H Q := ⟨p, i, xs, v, rfl, rfl, h, ha, q⟩
theorem iIxT {p : Addr} {xs : List V} (h : H p = some (.tup xs)) (ha : atI xs i = some v) (q : Q v H) : kIxT (.ref p) (.int i) H Q := ⟨p, i, xs, v, rfl, rfl, h, ha, q⟩
theorem iLenL {p : Addr} {xs : List V} (h : H p = some (.lst xs)) (q : Q (.int xs.length) H) : kLenL [.ref p] H Q := ⟨p, xs, rfl, h, q⟩
theorem iLenT {p : Addr} {xs : List V} (h : H p = some (.tup xs)) (q : Q (.int xs.length) H) : kLenT [.ref p] H Q := ⟨p, xs, rfl, h, q⟩
theorem iIxS {p : Addr} {xs : List V} (h : H p = some (.lst xs) ∨ H p = some (.tup xs)) (ha : atI xs i = some v) (q : Q v H) : kIxS (.ref p) (.int i) H Q := ⟨p, i, xs, v, rfl, rfl, h, ha, q⟩
theorem iLenS {p : Addr} {xs : List V} (h : H p = some (.lst xs) ∨ H p = some (.tup xs)) (q : Q (.int xs.length) H) : kLenS [.ref p] H Q := ⟨p, xs, rfl, h, q⟩
theorem iInt (q : Q (.int i) H) : kInt [.int i] H Q := ⟨i, rfl, q⟩
theorem iIsi {cn tn : String} {k : Bool} (h : tyN H x = some tn) (e : kitB tn cn = some k) (q : Q (.bl k) H) : kIsi [x, .ty cn] H Q := ⟨x, cn, tn, k, rfl, h, e, q⟩
theorem iMt {rr : V → List V → Hp → VK → Prop} {i : Nat} {p : Addr} {xs : List V} (e : σ[i]? = some (some (V.ref p))) (h : H p = some (.lst xs)) (q : tA σ H fun ys H2 => rr (V.ref p) ys H2 Q) : kMt rr i tA σ H Q := ⟨p, xs, e, h, q⟩
theorem iAppend {p : Addr} {xs : List V} (h : H p = some (.lst xs)) (hz : xs.length < sizeLine) (q : Q .non (upd H p (.lst (xs ++ [v])))) : rAppend (.ref p) [v] H Q := ⟨p, xs, v, rfl, rfl, h, hz, q⟩
/-- loops' sources -/
def kRng (R : It → Hp → Prop) : List V → Hp → Prop := fun vs H1 => ∃ j : Int, vs = [.int j] ∧ -(2 ^ 62) ≤ j ∧ j < 2 ^ 62 ∧ R (Itr 0 j.toNat) H1
theorem iRng (q : tA σ H (kRng R)) : iRng1 tA σ H R := q
theorem iRngI (h1 : -(2 ^ 62) ≤ i) (h2 : i < 2 ^ 62) (q : R (Itr 0 i.toNat) H) : kRng R [.int i] H := ⟨i, rfl, h1, h2, q⟩
def kItL (K : PySem.W.Frag) (R : It → Hp → Prop) : VK := fun x H1 => ∃ a xs, x = .ref a ∧ H1 a = some (.lst xs) ∧ R (Itl K a) H1
theorem iIterL (q : ta σ H (kItL K R)) : kIterL K ta σ H R := q
theorem iItL {p : Addr} {xs : List V} (h : H p = some (.lst xs)) (q : R (Itl K p) H) : kItL K R (.ref p) H := ⟨p, xs, rfl, h, q⟩
theorem ifT {A B : Prop} {k : Bool} (h : k = true) (q : A) : if k = true then A else B := by rw [if_pos h]; exact q
theorem ifF {A B : Prop} {k : Bool} (h : k = false) (q : B) : if k = true then A else B := by rw [if_neg (by rw [h]; decide)]; exact q
theorem ifD {A B p : Prop} [Decidable p] (h1 : p → A) (h2 : ¬ p → B) : if decide p = true then A else B := by
  by_cases h : p
  · rw [if_pos (decide_eq_true h)]; exact h1 h
  · rw [if_neg (by rw [decide_eq_false h]; decide)]; exact h2 h
theorem ifND {A B p : Prop} [Decidable p] (h1 : ¬ p → A) (h2 : p → B) : if (!decide p) = true then A else B := by
  by_cases h : p
  · rw [decide_eq_true h]; exact h2 h
  · rw [decide_eq_false h]; exact h1 h
theorem iI0n {a d : Nat} {g : Nat → Nat → Nat} {f : Int → Int → V} (e : f (a : Int) (d : Int) = .int ((g a d : Nat) : Int)) (q : Q (.int ((g a d : Nat) : Int)) H) : rI0 f (.int (a : Int)) (.int (d : Int)) H Q := ⟨_, _, rfl, rfl, by rw [e]; exact q⟩
theorem ifNDr {α : Type} {A B : Prop} {a : α} {d : Decidable (a = a)} (q : B) : if (!decide (a = a)) = true then A else B := by rw [decide_eq_true rfl]; exact q
theorem ifDr {α : Type} {A B : Prop} {a : α} {d : Decidable (a = a)} (q : A) : if decide (a = a) = true then A else B := by rw [decide_eq_true rfl]; exact q
theorem ifNp {A B p : Prop} {d : Decidable p} (h : p) (q : B) : if (!decide p) = true then A else B := by rw [decide_eq_true h]; exact q
theorem ifNn {A B p : Prop} {d : Decidable p} (h : ¬ p) (q : A) : if (!decide p) = true then A else B := by rw [decide_eq_false h]; exact q
theorem iTruI {QB : Bool → Prop} (q : QB (i != 0)) : ∃ k, TruV K (.int i) H k ∧ QB k := ⟨_, rfl, q⟩
theorem vInt (e : j = i) (q : Q (.int i) H) : Q (.int j) H := by rw [e]; exact q
end
end R
set_option Elab.async false
set_option linter.all false
set_option maxRecDepth 100000
set_option maxHeartbeats 4000000
namespace R
open PySem PySem.Spec L2
/-! ### dict(enumerate(xs)) -/
/-- the pairs of dict(enumerate(xs)) -/
def enumFrom (n : Nat) : List V → List (Key × V)
  | [] => []
  | x :: xs => (.inl (n : Int), x) :: enumFrom (n + 1) xs
def enumVal (n : Nat) : List Value → List (Key × Value)
  | [] => []
  | x :: xs => (.inl (n : Int), x) :: enumVal (n + 1) xs
theorem enum_KV : ∀ {xs : List V} {us : List Value} (n : Nat), Vals xs us → KV (enumFrom n xs) (enumVal n us)
  | _, _, _, .nil => .nil
  | _, _, n, .cons r t => .cons ⟨rfl, r⟩ (enum_KV (n + 1) t)
theorem enumVal_get : ∀ (us : List Value) (n i : Nat) (u : Value), us[i]? = some u → (enumVal n us)[i]? = some (.inl ((n + i : Nat) : Int), u)
  | [], _, _, _, h => by simp at h
  | x :: us, n, 0, u, h => by
    simp at h
    subst h
    rfl
  | x :: us, n, i + 1, u, h => by
    have e := enumVal_get us (n + 1) i u (by simpa using h)
    rw [show n + 1 + i = n + (i + 1) by omega] at e
    simpa [enumVal] using e
theorem enumVal_len : ∀ (us : List Value) (n : Nat), (enumVal n us).length = us.length
  | [], _ => rfl
  | x :: us, n => by simp [enumVal, enumVal_len us (n + 1)]
theorem enumFrom_len : ∀ (us : List V) (n : Nat), (enumFrom n us).length = us.length
  | [], _ => rfl
  | x :: us, n => by simp [enumFrom, enumFrom_len us (n + 1)]
def kDE (ta : TA) : TE := fun σ H Q => ta σ H fun vs H1 => ∃ a xs, vs = [.ref a] ∧ H1 a = some (.lst xs) ∧ ∀ d, H1 d = none → Q (.ref d) (upd H1 d (.dK (mergeK [] (enumFrom 0 xs))))
section
variable {X : Cx}
theorem pe_dictEnum {e : Expr} {ta : TA} {p p2 pos pos2 : Pos} (hc : X.calm = true) (hg : Gl X "dict") (hm : X.mg "dict" = none) (hg2 : Gl X "enumerate") (hm2 : X.mg "enumerate" = none) (ha : PA X [e] ta) (hs : starEach [e] X.env = [(false, eval e X.env)] := by rfl)
    (hs2 : starEach [Expr.Call (.Name "enumerate" p2) [e] [] pos2] X.env = [(false, eval (.Call (.Name "enumerate" p2) [e] [] pos2) X.env)] := by rfl) :
    PE X (.Call (.Name "dict" p) [.Call (.Name "enumerate" p2) [e] [] pos2] [] pos) (kDE ta) := by
  refine ⟨fun pins s σ H Q I h => ?_⟩
  refine wpAny_Call_Name_kw (ld_blt I hg hm PyProof.Rows.boot_dict ?_ (by decide) (by decide))
  refine PyProof.Rows.callWith_type1 ?_ hs2 rfl
  rw [hs2]
  refine Calls.spliced_cons ?_
  show wpAny _ _ (eval (.Call (.Name "enumerate" p2) [e] [] pos2) X.env) _ _ _
  refine PyProof.Rows.Call_ (ld_blt I hg2 hm2 PyProof.Rows.boot_enumerate (PyProof.Rows.callWith_type1 (thn (ha.run pos2 pins s σ H _ I h) fun us s1 ⟨vs, H1, I1, r1, q1⟩ => ?_) hs rfl))
  obtain ⟨a, xs, rfl, hq, q⟩ := q1
  cases r1 with
  | cons r rr =>
    cases rr
    cases r
    obtain ⟨its, rv, pl, hz⟩ := I1.list (SqL.tr hq)
    obtain ⟨o, no, ho, oc, od, odat⟩ := pl
    have isl : s1.heap.IsList a its.toArray := ⟨o, ho, oc, no, odat⟩
    have la : a < s1.heap.objs.size := Heap.lt_size ho
    refine call_enumerate_list isl fun h' he hit hsz hk => ?_
    refine Calls.spliced_nil ?_
    have ln := rv.length
    refine call_dict_pairs (knd := mixKind X.prog X.w) (kvs := enumVal 0 its) (PairArg.enumerate (s1.heap.objs.size + 1) s1.heap.objs.size a (Nat.succ_ne_self _) (Nat.ne_of_lt (Nat.lt_succ_of_lt la)) (Nat.ne_of_lt la) its.toArray) (I1.ok.hd hc) ⟨⟨.none, he⟩, hit, isl.at fun b hb => hk _ b hb⟩ ⟨?_, ?_⟩ ?_ fun h'' tk hd' hk' => ?_
    · rw [enumVal_len, List.size_toArray]
    · intro i key v hi
      obtain ⟨⟨t, rfl⟩, hv⟩ := hi
      refine ⟨.inl (i : Int), ?_, keyIs_int _ t⟩
      have e := enumVal_get its 0 i v (by simpa using hv)
      rw [Nat.zero_add] at e
      exact e
    · rw [List.size_toArray, ← ln]
      exact hz
    · have hlt : s1.heap.objs.size ≤ h'.objs.size := by omega
      have big := I1.big
      have hm : (h'.objs.size == sysModules) = false := beq_eq_false_iff_ne.mpr (Nat.ne_of_gt (Nat.lt_of_lt_of_le big hlt))
      have hln : (mergeK [] (enumFrom 0 xs)).length ≤ sizeLine := by
        refine Nat.le_trans (length_mergeK _ []) ?_
        rw [List.length_nil, Nat.zero_add, enumFrom_len]
        exact hz
      have keep : ∀ b u, s1.heap.get? b = some u → h''.get? b = some u := fun b u hb => by
        have hb' := Heap.lt_size hb
        refine hk' b u ?_ (hk b u hb)
        simp only [List.mem_cons, List.not_mem_nil, or_false, not_or]
        exact ⟨Nat.ne_of_lt (Nat.lt_succ_of_lt hb'), Nat.ne_of_lt hb'⟩
      refine ⟨.ref h'.objs.size, upd H1 h'.objs.size (.dK (mergeK [] (enumFrom 0 xs))), ?_, rfl, q _ (I1.hok.fresh hlt)⟩
      exact I1.laid (t' := tk) keep hlt (show ObjOk X.prog X.w _ _ _ (.dK _) from ⟨hln, hm, merged [] (enumVal 0 its), KV.merge (enum_KV 0 rv) .nil, hd'⟩)
end
def kDEv (Q : VK) : List V → Hp → Prop := fun vs H1 => ∃ a xs, vs = [.ref a] ∧ H1 a = some (.lst xs) ∧ ∀ d, H1 d = none → Q (.ref d) (upd H1 d (.dK (mergeK [] (enumFrom 0 xs))))
theorem iDEa {ta : TA} {σ : L2.St} {H : Hp} {Q : VK} (q : ta σ H (kDEv Q)) : kDE ta σ H Q := q
theorem iDE {H : Hp} {Q : VK} {a : Addr} {xs : List V} (h : H a = some (.lst xs)) (q : ∀ d, H d = none → Q (.ref d) (upd H d (.dK (mergeK [] (enumFrom 0 xs))))) : kDEv Q [V.ref a] H := ⟨a, xs, rfl, h, q⟩
/-! ### comprehensions -/
def tLcJ (J : It) (g : TG) (tt : TT) (te : TE) (vs : List Nat) (σ : L2.St) (H1 : Hp) (Q : VK) : Prop := ∀ D, H1 D = none → ∃ W : Nat → Nat → Hp → Prop, (∃ m, W 0 m (upd H1 D (.lst []))) ∧ ∀ i m H, W i m H →
  (J.stop i H ∧ Q (.ref D) H) ∨ (J.go i H ∧ ∃ Nx : Hp → Prop, (∀ H', Nx H' → ∃ m', m' < m ∧ W (i + 1) m' H') ∧ ∀ x H', J.yld i H x H' → g x (wipe σ vs) H' fun σ2 H2 => wipe σ2 vs = wipe σ vs ∧ tt σ2 H2 fun b H3 =>
    if b = true then te σ2 H3 fun y H4 => ∃ acc, H4 D = some (.lst acc) ∧ acc.length < sizeLine ∧ Nx (upd H4 D (.lst (acc ++ [y]))) else Nx H3)
inductive NoneAt : L2.St → Nat → L2.St → Prop
  | zero {x : Option V} {σ : L2.St} : NoneAt (x :: σ) 0 (none :: σ)
  | succ {x : Option V} {σ σ' : L2.St} {i : Nat} (h : NoneAt σ i σ') : NoneAt (x :: σ) (i + 1) (x :: σ')
theorem NoneAt.eq {σ σ' : L2.St} {i : Nat} (h : NoneAt σ i σ') : σ.set i none = σ' := by
  induction h with
  | zero => rfl
  | succ _ ih => rw [List.set_cons_succ, ih]
inductive Wip : L2.St → List Nat → L2.St → Prop
  | nil {σ : L2.St} : Wip σ [] σ
  | cons {σ σ1 σ2 : L2.St} {v : Nat} {vs : List Nat} (h : Wip σ vs σ1) (k : NoneAt σ1 v σ2) : Wip σ (v :: vs) σ2
theorem Wip.eq {σ σ' : L2.St} {vs : List Nat} (h : Wip σ vs σ') : wipe σ vs = σ' := by
  induction h with
  | nil => rfl
  | cons _ k ih =>
    unfold wipe
    rw [ih, k.eq]
/-- what a turn is to reach: the new list at D with at most so many items, and the word -/
def LcW (D : Addr) (i : Nat) (Pv : Nat → List V → Hp → Prop) (H : Hp) : Prop := ∃ acc, H D = some (.lst acc) ∧ acc.length ≤ i ∧ Pv i acc H
def kLcE (D : Addr) (i : Nat) (Pv : Nat → List V → Hp → Prop) : VK := fun y H4 => ∃ acc, H4 D = some (.lst acc) ∧ acc.length < sizeLine ∧ LcW D (i + 1) Pv (upd H4 D (.lst (acc ++ [y])))
def kLc (vs : List Nat) (σ' : L2.St) (tt : TT) (te : TE) (D : Addr) (i : Nat) (Pv : Nat → List V → Hp → Prop) : L2.St → Hp → Prop := fun σ2 H2 => wipe σ2 vs = σ' ∧ tt σ2 H2 fun b H3 => if b = true then te σ2 H3 (kLcE D i Pv) else LcW D (i + 1) Pv H3
theorem iLcB {vs : List Nat} {σ' σ2 : L2.St} {tt : TT} {te : TE} {D : Addr} {i : Nat} {Pv : Nat → List V → Hp → Prop} {H2 : Hp} (h : wipe σ2 vs = σ') (q : tt σ2 H2 fun b H3 => if b = true then te σ2 H3 (kLcE D i Pv) else LcW D (i + 1) Pv H3) : kLc vs σ' tt te D i Pv σ2 H2 := ⟨h, q⟩
theorem iLcE {D : Addr} {i : Nat} {Pv : Nat → List V → Hp → Prop} {H : Hp} {y : V} {acc : List V} (h : H D = some (.lst acc)) (hl : acc.length ≤ i) (hi : i < 100000) (q : Pv (i + 1) (acc ++ [y]) (upd H D (.lst (acc ++ [y])))) : kLcE D i Pv y H :=
  ⟨acc, h, Evl.sz_lt (by omega), acc ++ [y], upd_same, by rw [List.length_append, List.length_singleton]; omega, q⟩
theorem iLcN {D : Addr} {i : Nat} {Pv : Nat → List V → Hp → Prop} {H : Hp} {acc : List V} (h : H D = some (.lst acc)) (hl : acc.length ≤ i) (q : Pv (i + 1) acc H) : LcW D (i + 1) Pv H := ⟨acc, h, by omega, q⟩
theorem iYes {σ : L2.St} {H : Hp} {QB : Bool → Hp → Prop} (q : QB true H) : tYes σ H QB := q
theorem iLc {wi : TI} {g : TG} {tt : TT} {te : TE} {vs : List Nat} {σ : L2.St} {H : Hp} {Q : VK} (q : wi σ H fun J H1 => tLcJ J g tt te vs σ H1 Q) : tLc wi g tt te vs σ H Q := q
/-- a comprehension over what is walked in n turns -/
theorem lcJ {J : It} {n : Nat} {G : Hp → Prop} {Y : Nat → Hp → V → Hp → Prop} (w : Walk J n G Y) {g : TG} {tt : TT} {te : TE} {vs : List Nat} {σ σ' : L2.St} {H1 : Hp} {Q : VK} (hw : Wip σ vs σ') (Pv : Addr → Nat → List V → Hp → Prop)
    (h0 : ∀ D, H1 D = none → Pv D 0 [] (upd H1 D (.lst []))) (hG : ∀ D i acc H, H1 D = none → H D = some (.lst acc) → Pv D i acc H → G H)
    (hs : ∀ D i acc x H H', H1 D = none → i < n → H D = some (.lst acc) → acc.length ≤ i → Pv D i acc H → Y i H x H' → g x σ' H' (kLc vs σ' tt te D i (Pv D)))
    (hd : ∀ D acc H, H1 D = none → H D = some (.lst acc) → acc.length ≤ n → Pv D n acc H → Q (.ref D) H) : tLcJ J g tt te vs σ H1 Q := by
  intro D hD
  have hb := lc_it w (g := g) (tt := tt) (te := te) (vs := vs) (σ := σ) (H1 := H1) (D := D) (Qd := Q (.ref D)) (fun i H => LcW D i (Pv D) H) ⟨[], upd_same, Nat.le_refl _, h0 D hD⟩ (fun i H _ ⟨acc, e, _, p⟩ => hG D i acc H hD e p)
    (fun i x H H' hi ⟨acc, e, l, p⟩ y => by
      rw [hw.eq]
      exact hs D i acc x H H' hD hi e l p y) (fun H ⟨acc, e, l, p⟩ => hd D acc H hD e l p)
  exact hb
section
variable {K : PySem.W.Frag} {g : TG} {tt : TT} {te : TE} {vs : List Nat} {σ σ' : L2.St} {H1 : Hp} {Q : VK}
theorem lc_r {lo : Int} {n : Nat} (hw : Wip σ vs σ') (Pv : Addr → Nat → List V → Hp → Prop) (h0 : ∀ D, H1 D = none → Pv D 0 [] (upd H1 D (.lst [])))
    (hs : ∀ D i acc H, H1 D = none → i < n → H D = some (.lst acc) → acc.length ≤ i → Pv D i acc H → g (.int (lo + (i : Int))) σ' H (kLc vs σ' tt te D i (Pv D)))
    (hd : ∀ D acc H, H1 D = none → H D = some (.lst acc) → acc.length ≤ n → Pv D n acc H → Q (.ref D) H) : tLcJ (Itr lo n) g tt te vs σ H1 Q :=
  lcJ walk_range hw Pv h0 (fun _ _ _ _ _ _ _ => trivial) (fun D i acc x H H' a b c d e ⟨y1, y2⟩ => by rw [y1, y2]; exact hs D i acc H a b c d e) hd
theorem lc_r0 {n : Nat} (hw : Wip σ vs σ') (Pv : Addr → Nat → List V → Hp → Prop) (h0 : ∀ D, H1 D = none → Pv D 0 [] (upd H1 D (.lst [])))
    (hs : ∀ D i acc H, H1 D = none → i < n → H D = some (.lst acc) → acc.length ≤ i → Pv D i acc H → g (.int (i : Int)) σ' H (kLc vs σ' tt te D i (Pv D)))
    (hd : ∀ D acc H, H1 D = none → H D = some (.lst acc) → acc.length ≤ n → Pv D n acc H → Q (.ref D) H) : tLcJ (Itr 0 n) g tt te vs σ H1 Q :=
  lc_r hw Pv h0 (fun D i acc H a b c d e => by rw [Int.zero_add]; exact hs D i acc H a b c d e) hd
theorem lc_l {a : Addr} (xs : List V) (hw : Wip σ vs σ') (Pv : Addr → Nat → List V → Hp → Prop) (h0 : ∀ D, H1 D = none → Pv D 0 [] (upd H1 D (.lst []))) (hl : ∀ D i acc H, H1 D = none → H D = some (.lst acc) → Pv D i acc H → H a = some (.lst xs))
    (hs : ∀ D i acc x H, H1 D = none → xs[i]? = some x → H D = some (.lst acc) → acc.length ≤ i → Pv D i acc H → g x σ' H (kLc vs σ' tt te D i (Pv D)))
    (hd : ∀ D acc H, H1 D = none → H D = some (.lst acc) → acc.length ≤ xs.length → Pv D xs.length acc H → Q (.ref D) H) : tLcJ (Itl K a) g tt te vs σ H1 Q :=
  lcJ walk_list hw Pv h0 (fun D i acc H h e p => SqL.tr (hl D i acc H h e p)) (fun D i acc x H H' a b c d e ⟨y1, y2⟩ => by rw [y1]; exact hs D i acc x H a y2 c d e) hd
theorem lc_z {a b : Addr} (xs ys : List V) (he : xs.length = ys.length) (hw : Wip σ vs σ') (Pv : Addr → Nat → List V → Hp → Prop) (h0 : ∀ D, H1 D = none → Pv D 0 [] (upd H1 D (.lst [])))
    (hl : ∀ D i acc H, H1 D = none → H D = some (.lst acc) → Pv D i acc H → H a = some (.lst xs) ∧ H b = some (.lst ys))
    (hs : ∀ D i acc x y T H, H1 D = none → xs[i]? = some x → ys[i]? = some y → H D = some (.lst acc) → acc.length ≤ i → Pv D i acc H → H T = none → g (.ref T) σ' (upd H T (.tup [x, y])) (kLc vs σ' tt te D i (Pv D)))
    (hd : ∀ D acc H, H1 D = none → H D = some (.lst acc) → acc.length ≤ xs.length → Pv D xs.length acc H → Q (.ref D) H) : tLcJ (Itz K a b) g tt te vs σ H1 Q :=
  lcJ (walk_zip (xs := xs) (ys := ys) (n := xs.length) (by omega)) hw Pv h0 (fun D i acc H h e p => ⟨SqL.tr (hl D i acc H h e p).1, SqL.tr (hl D i acc H h e p).2⟩)
    (fun D i acc x H H' a b c d e ⟨T, u, v, y1, y2, y3, y4, y5⟩ => by rw [y1, y3]; exact hs D i acc u v T H a y4 y5 c d e y2) hd
end
/-! ### x in xs, tracked -/
theorem OpR.imp {X : Cx} {f : Value → Value → Sem Value} {r r' : R2} (h : OpR X f r) (i : ∀ x y H Q, r' x y H Q → r x y H Q) : OpR X f r' := fun pins s σ H x y v u Q I rx ry q => h pins s σ H x y v u Q I rx ry (i x y H Q q)
def kIn (neg : Bool) : R2 := fun x y H Q => ∃ p xs, y = .ref p ∧ (H p = some (.lst xs) ∨ H p = some (.tup xs)) ∧ flatV x = true ∧ xs.all flatV = true ∧ Q (.bl (if neg then !inV x xs else inV x xs)) H
theorem op_inS {X : Cx} : OpR X (compareOp .In) (kIn false) := OpR.imp op_in_seq fun _ _ _ _ ⟨p, xs, e, h, f, g, q⟩ => ⟨p, xs, e, h.elim (fun h => .inl (SqL.tr h)) (fun h => .inr (SqT.tr h)), f, g, q⟩
theorem op_ninS {X : Cx} : OpR X (compareOp .NotIn) (kIn true) := OpR.imp op_notIn_seq fun _ _ _ _ ⟨p, xs, e, h, f, g, q⟩ => ⟨p, xs, e, h.elim (fun h => .inl (SqL.tr h)) (fun h => .inr (SqT.tr h)), f, g, q⟩
/-! ### dicts, lists made anew, tuples taken apart -/
section
variable {K : PySem.W.Frag} {σ σ' : L2.St} {H : Hp} {Q : VK} {ta tb td ty tv : TE} {n b c : L2.St → Hp → Prop} {r : VK} {x y v : V} {i j : Int} {tA : TA} {R : It → Hp → Prop} {QB : Bool → Hp → Prop}
def kDG (Q : VK) (x y : V) (H : Hp) : Prop := ∃ a v, x = .ref a ∧ DGet H a y (some v) ∧ Q v H
theorem iDGet (q : td σ H fun x H1 => ty σ H1 fun y H2 => kDG Q x y H2) : tDGet td ty σ H Q := q
theorem iDGi {a : Addr} {kvs : List (Key × V)} (h : H a = some (.dK kvs)) (e : valV kvs (.inl i : Key) = some v) (q : Q v H) : kDG Q (.ref a) (.int i) H := ⟨a, v, rfl, e ▸ DGet.k (k := Sum.inl i) h, q⟩
theorem iDGs {a : Addr} {kvs : List (Key × V)} {z : Str} (h : H a = some (.dK kvs)) (e : valV kvs (.inr z : Key) = some v) (q : Q v H) : kDG Q (.ref a) (.str z) H := ⟨a, v, rfl, e ▸ DGet.k (k := Sum.inr z) h, q⟩
def kDI (Q : VK) (y x : V) (H : Hp) : Prop := ∃ a o, x = .ref a ∧ DGet H a y o ∧ Q (.bl o.isSome) H
theorem iDIn (q : ty σ H fun y H1 => td σ H1 fun x H2 => kDI Q y x H2) : tDIn ty td σ H Q := q
theorem iDIi {a : Addr} {kvs : List (Key × V)} (h : H a = some (.dK kvs)) (q : Q (.bl (valV kvs (.inl i : Key)).isSome) H) : kDI Q (.int i) (.ref a) H := ⟨a, _, rfl, DGet.k (k := Sum.inl i) h, q⟩
def kDN (Q : VK) (y x : V) (H : Hp) : Prop := ∃ a o, x = .ref a ∧ DGet H a y o ∧ Q (.bl (!o.isSome)) H
theorem iDNotIn (q : ty σ H fun y H1 => td σ H1 fun x H2 => kDN Q y x H2) : tDNotIn ty td σ H Q := q
theorem iDNi {a : Addr} {kvs : List (Key × V)} (h : H a = some (.dK kvs)) (q : Q (.bl (!(valV kvs (.inl i : Key)).isSome)) H) : kDN Q (.int i) (.ref a) H := ⟨a, _, rfl, DGet.k (k := Sum.inl i) h, q⟩
def kDP (n : L2.St → Hp → Prop) (σ : L2.St) (v x y : V) (H : Hp) : Prop := ∃ a H4, x = .ref a ∧ DPut H a y v H4 ∧ n σ H4
theorem iDPut (q : tv σ H fun v H1 => td σ H1 fun x H2 => ty σ H2 fun y H3 => kDP n σ v x y H3) : sDPut td ty tv ⟨n, r, b, c⟩ σ H := q
theorem iDPi {a : Addr} {kvs : List (Key × V)} (h : H a = some (.dK kvs)) (hl : kvs.length < 100000) (q : n σ (upd H a (.dK (putK kvs (.inl i) v)))) : kDP n σ v (.ref a) (.int i) H := ⟨a, _, rfl, DPut.k (k := Sum.inl i) h (Evl.sz_lt hl), q⟩
theorem iDNew {Q : VK} (q : ∀ d, H d = none → Q (.ref d) (upd H d (.dK []))) : tDNewK σ H Q := q
theorem iListD {a : Addr} {kvs : List (Key × V)} (h : H a = some (.dK kvs)) (q : ∀ p, H p = none → Q (.ref p) (upd H p (.lst (kvs.map fun kv => kV kv.1)))) : rListD [.ref a] H Q := ⟨a, kvs, rfl, h, q⟩
theorem iListL {p : Addr} {xs : List V} (h : H p = some (.lst xs)) (q : ∀ l, H l = none → Q (.ref l) (upd H l (.lst xs))) : kListL [.ref p] H Q := ⟨p, xs, rfl, h, q⟩
theorem iTupL {p : Addr} {xs : List V} (h : H p = some (.lst xs)) (q : ∀ l, H l = none → Q (.ref l) (upd H l (.tup xs))) : kTupL [.ref p] H Q := ⟨p, xs, rfl, h, q⟩
theorem iSorted {a : Addr} {ns : List Int} (h : H a = some (.lst (ns.map V.int))) (hl : ns.length < 64) (q : ∀ (ns' : List Int) (p : Addr), ns'.Perm ns → ns'.Pairwise (· ≤ ·) → H p = none → Q (.ref p) (upd H p (.lst (ns'.map V.int)))) : rSorted K [.ref a] H Q := ⟨a, ns, rfl, SqL.tr h, hl, q⟩
theorem iCat {l m : Addr} {xs ys : List V} (h : H l = some (.lst xs)) (h2 : H m = some (.lst ys)) (hz : xs.length + ys.length ≤ 100000) (q : ∀ p, H p = none → Q (.ref p) (upd H p (.lst (xs ++ ys)))) : rCat (.ref l) (.ref m) H Q := ⟨l, m, xs, ys, rfl, rfl, h, h2, Evl.sz_of hz, q⟩
theorem iRngB (h1 : -(2 ^ 62) ≤ i) (h2 : i < 2 ^ 62) (h3 : -(2 ^ 62) ≤ j) (h4 : j < 2 ^ 62) (q : R (Itr i (j - i).toNat) H) : ∃ i' j' : Int, [V.int i, V.int j] = [V.int i', V.int j'] ∧ (-(2 ^ 62) ≤ i' ∧ i' < 2 ^ 62 ∧ -(2 ^ 62) ≤ j' ∧ j' < 2 ^ 62) ∧ R (Itr i' (j' - i').toNat) H := ⟨i, j, rfl, ⟨h1, h2, h3, h4⟩, q⟩
def kRng2 (R : It → Hp → Prop) : List V → Hp → Prop := fun vs H1 => ∃ i j : Int, vs = [.int i, .int j] ∧ (-(2 ^ 62) ≤ i ∧ i < 2 ^ 62 ∧ -(2 ^ 62) ≤ j ∧ j < 2 ^ 62) ∧ R (Itr i (j - i).toNat) H1
theorem iRng2 (q : tA σ H (kRng2 R)) : iRng2 tA σ H R := q
theorem iRng2I (h1 : -(2 ^ 62) ≤ i) (h2 : i < 2 ^ 62) (h3 : -(2 ^ 62) ≤ j) (h4 : j < 2 ^ 62) (q : R (Itr i (j - i).toNat) H) : kRng2 R [.int i, .int j] H := ⟨i, j, rfl, ⟨h1, h2, h3, h4⟩, q⟩
/-- zip of two tracked lists -/
def kZ (K : PySem.W.Frag) (R : It → Hp → Prop) : List V → Hp → Prop := fun vs H1 => ∃ a b xs ys, vs = [.ref a, .ref b] ∧ SqL K H1 a xs ∧ SqL K H1 b ys ∧ R (Itz K a b) H1
theorem iZipK (q : tA σ H (kZ K R)) : iZip K tA σ H R := q
theorem iZL {p m : Addr} {xs ys : List V} (h : H p = some (.lst xs)) (h2 : H m = some (.lst ys)) (q : R (Itz K p m) H) : kZ K R [.ref p, .ref m] H := ⟨p, m, xs, ys, rfl, SqL.tr h, SqL.tr h2, q⟩
/-- targets of several names -/
theorem iGTup {k : Nat} {t : TGs} {a : Addr} {xs : List V} {QS : L2.St → Hp → Prop} (h : H a = some (.tup xs)) (hl : xs.length = k) (q : t xs σ H QS) : gTup K k t (.ref a) σ H QS := ⟨a, xs, rfl, SqT.tr h, hl, q⟩
theorem iGCons {t : TG} {u : TGs} {vs : List V} {QS : L2.St → Hp → Prop} (q : t v σ H fun σ' H' => u vs σ' H' QS) : gCons t u (v :: vs) σ H QS := ⟨v, vs, rfl, q⟩
theorem iGNil {QS : L2.St → Hp → Prop} (q : QS σ H) : gNil [] σ H QS := ⟨rfl, q⟩
/-- [x, ..] * n -/
theorem iRep {l : Addr} {xs : List V} (h : H l = some (.lst xs)) (h0 : 0 ≤ i) (h1 : i < 100000) (hz : xs.length * i.toNat ≤ 100000) (q : ∀ p, H p = none → Q (.ref p) (upd H p (.lst (List.replicate i.toNat xs).flatten))) : rRep (.ref l) (.int i) H Q :=
  ⟨l, i, xs, rfl, rfl, h, by omega, by omega, Evl.sz_of hz, q⟩
end
end R
set_option Elab.async false
set_option linter.all false
set_option maxRecDepth 100000
set_option maxHeartbeats 4000000
namespace R
open PySem PySem.Spec L2
open Evl (Ex)
/-! ### defs that may raise, methods -/
def CalX (P : Program) (w : World) (K : PySem.W.Frag) (mg : Str → Option Value) (base : Heap) (k : Nat) (x : Str) (ps : List Str) (sp : Sp) : Prop :=
  ∃ (f : Addr) (fd : FuncData), FnOk P w K mg base (L2.CX P w) k f fd ps sp ∧ mg x = some (.ref f) ∧ PySem.W.keepIn K (.ref f) = true ∧ Binds K fd ps []
def MetX (P : Program) (w : World) (K : PySem.W.Frag) (mg : Str → Option Value) (base : Heap) (k : Nat) (C : Addr) (m : Str) (ps : List Str) (sp : Sp) : Prop :=
  ∃ (f : Addr) (fd : FuncData), FnOk P w K mg base (L2.CX P w) k f fd ps sp ∧ Cls K C ∧ Meth K C m f ∧ Binds K fd ps []
def MakX (P : Program) (w : World) (K : PySem.W.Frag) (mg : Str → Option Value) (base : Heap) (k : Nat) (C : Addr) (x : Str) (ps : List Str) (sp : Sp) : Prop :=
  ∃ (f : Addr) (fd : FuncData), FnOk P w K mg base (L2.CX P w) k f fd ps sp ∧ Mk K C f ∧ mg x = some (.ref C) ∧ Binds K fd ps []
theorem FnOk.toX {P : Program} {w : World} {K : PySem.W.Frag} {mg : Str → Option Value} {base : Heap} {k : Nat} {f : Addr} {fd : FuncData} {ps : List Str} {sp : Sp} (F : FnOk P w K mg base CX0 k f fd ps sp) : FnOk P w K mg base (L2.CX P w) k f fd ps sp :=
  ⟨F.len, fun A outer s H args us vs Q E hr he hb hv hs => codeAny_mono (F.run A outer s H args us vs Q E hr he hb hv hs) fun r s' h => by
    cases r with
    | error e => exact (show False from h).elim
    | ok fl => cases fl <;> exact h⟩
section
variable {X : Cx} {k : Nat} {x m : Str} {C : Addr} {ps : List Str} {sp : Sp} {t : TA} {te : TE} {o e : Expr} {es : List Expr} {p pos apos : Pos} {E : L2.St → XK} {E1 : XK}
/-- nothing is raised -/
theorem xp0 : ∀ σ, PassesAt (L2.CX X.prog X.w) X σ E0 := fun σ pins H s e s' I c => passL pins σ H s e s' I c
/-- what is raised goes out -/
theorem xpX (tk : Takes X (fun cls d _ H => E1 cls d H)) : ∀ σ, PassesAt (L2.CX X.prog X.w) X σ E1 := fun σ pins H s e s' I c => passes_call tk (fun _ _ _ _ h => h) pins σ H s e s' I c
theorem pe_calE (c : CalX X.prog X.w X.K X.mg X.base k x ps sp) (hr : Room k X.A) (hg : Gl X x) (hx : ∀ σ, PassesAt (L2.CX X.prog X.w) X σ (E σ)) (ha : PA X (e :: es) t)
    (hdb : (x == ("__debug__" : Str)) = false := by decide) (he : starEach (e :: es) X.env = (false, eval e X.env) :: starEach es X.env := by rfl) (hpl : (backTo pos (starEach es X.env)).any (·.1) = false := by rfl) :
    PE X (.Call (.Name x p) (e :: es) [] pos) (tCallS sp E t) := by
  obtain ⟨f, fd, G, g, kp, b⟩ := c
  exact pe_callS (p := p) (pos := pos) G hr hg g kp b hx ha hdb he hpl
/-- o.m(..) of an instance of the class at C -/
def kMet (C : Addr) (m : Str) (sp : Sp) (E : L2.St → XK) (t : TA) (σ : L2.St) (Q : VK) : VK := fun x H1 => ∃ a dx fs, x = .ref a ∧ H1 a = some (.ins C dx fs) ∧ fs.lookup m = none ∧ t σ H1 fun vs H2 => sp (x :: vs) H2 Q (E σ)
def tMet (C : Addr) (m : Str) (sp : Sp) (E : L2.St → XK) (te : TE) (t : TA) : TE := fun σ H Q => te σ H (kMet C m sp E t σ Q)
theorem pe_metE {pl : Sem Bool} (c : MetX X.prog X.w X.K X.mg X.base k C m ps sp) (hr : Room k X.A) (hx : ∀ σ, PassesAt (L2.CX X.prog X.w) X σ (E σ)) (ho : PE X o te) (ha : PA X (e :: es) t)
    (hst : starEach (e :: es) X.env = (false, eval e X.env) :: starEach es X.env := by rfl) (hpl : (backTo pos (starEach es X.env)).any (·.1) = false := by rfl)
    (ht : eval (.Call (.Attribute o m apos) (e :: es) [] pos) X.env = (do let ov ← eval o X.env; standAt apos.atName; let (f, first) ← holding [ov] (getMethod ov m pl); callWith pos f first (backTo pos (starEach (e :: es) X.env)) (backToKw pos (keywordEach [] X.env))) := by rfl) :
    PE X (.Call (.Attribute o m apos) (e :: es) [] pos) (tMet C m sp E te t) := by
  obtain ⟨f, fd, G, c, hm, b⟩ := c
  refine ⟨fun pins s σ H Q I h => ?_⟩
  refine PySem.W.methodCall_KW (pl := pl) (thn (ho.run pins s σ H _ I h) fun u s1 hh => ?_) ht
  obtain ⟨x, H1, I1, rx, a, dx, fs, ex, ea, l, q⟩ := hh
  subst ex
  cases (show u = Value.ref a from rx)
  refine getmeth_ok I1 ea c hm l (PySem.W.callWith_K (first := [.ref a]) (h₀ := X.base) I1.ok.mod.kin hm.kp ?_ hst hpl)
  exact thn (ha.run pos pins s1 σ H1 _ I1 q) fun us s2 hh => by
    obtain ⟨vs, H2, I2, r, q2⟩ := hh
    exact ⟨I2.kIn, run_fnS (us := .ref a :: us) (vs := .ref a :: vs) G hr b (hx σ) I2 (.cons rfl r) q2⟩
theorem pe_metE0 {pl : Sem Bool} (c : MetX X.prog X.w X.K X.mg X.base k C m ps sp) (hr : Room k X.A) (hx : ∀ σ, PassesAt (L2.CX X.prog X.w) X σ (E σ)) (ho : PE X o te)
    (ht : eval (.Call (.Attribute o m apos) [] [] pos) X.env = (do let ov ← eval o X.env; standAt apos.atName; let (f, first) ← holding [ov] (getMethod ov m pl); callWith pos f first (backTo pos (starEach [] X.env)) (backToKw pos (keywordEach [] X.env))) := by rfl) :
    PE X (.Call (.Attribute o m apos) [] [] pos) (tMet C m sp E te tNil) := by
  obtain ⟨f, fd, G, c, hm, b⟩ := c
  refine ⟨fun pins s σ H Q I h => ?_⟩
  refine PySem.W.methodCall_KW (pl := pl) (thn (ho.run pins s σ H _ I h) fun u s1 hh => ?_) ht
  obtain ⟨x, H1, I1, rx, a, dx, fs, ex, ea, l, q⟩ := hh
  subst ex
  cases (show u = Value.ref a from rx)
  exact getmeth_ok I1 ea c hm l (PySem.W.callWith_K0 (first := [.ref a]) I1.kIn hm.kp (run_fnS (us := [.ref a]) (vs := [.ref a]) G hr b (hx σ) I1 (.cons rfl .nil) q))
/-- C(..), which raises nothing here -/
def kMak (C : Addr) (sp : Sp) (Q : VK) : List V → Hp → Prop := fun vs H1 => ∀ x dx, H1 x = none → H1 dx = none → dx ≠ x → sp (.ref x :: vs) (upd (upd H1 dx (.own x)) x (.ins C dx [])) (fun v H2 => v = .non ∧ Q (.ref x) H2) E0
def tMak (C : Addr) (sp : Sp) (t : TA) : TE := fun σ H Q => t σ H (kMak C sp Q)
theorem pe_makE (c : MakX X.prog X.w X.K X.mg X.base k C x ps sp) (hr : Room (k + 1) X.A) (hg : Gl X x) (ha : PA X (e :: es) t) (hdb : (x == ("__debug__" : Str)) = false := by decide)
    (he : starEach (e :: es) X.env = (false, eval e X.env) :: starEach es X.env := by rfl) (hpl : (backTo pos (starEach es X.env)).any (·.1) = false := by rfl) : PE X (.Call (.Name x p) (e :: es) [] pos) (tMak C sp t) := by
  obtain ⟨f, fd, G, M, g, b⟩ := c
  have h := pe_make (p := p) (pos := pos) M G hr hg g b .nil passL ha hdb he hpl
  unfold tMake at h
  simp only [List.append_nil] at h
  exact h
theorem pe_makE0 (c : MakX X.prog X.w X.K X.mg X.base k C x ps sp) (hr : Room (k + 1) X.A) (hg : Gl X x) (hdb : (x == ("__debug__" : Str)) = false := by decide) : PE X (.Call (.Name x p) [] [] pos) (tMak C sp tNil) := by
  obtain ⟨f, fd, G, M, g, b⟩ := c
  have h := pe_make0 (p := p) (pos := pos) M G hr hg g b .nil passL hdb
  unfold tMake at h
  simp only [List.append_nil] at h
  exact h
/-- an exception class of the program, without a def -/
structure ExT (K : PySem.W.Frag) (mg : Str → Option Value) (x : Str) (C : Addr) : Prop where
  g : mg x = some (.ref C)
  x : PySem.W.excIn K C [.type "ValueError", .type "Exception", .type "BaseException", .type "object"] "ValueError.__new__" = true
  k : PySem.W.keepIn K (.ref C) = true
  b : PySem.W.subIn K (.ref C) (.type "BaseException") = some true
  t : PySem.W.typeIn K (.ref C) = some (.type "type")
  i : PySem.W.isClsIn K C = true
  s : PySem.W.subIn K (.ref C) (.ref C) = some true
def tRai (C : Addr) (W : WX) : TS := fun _ σ H => W (.ref C) none σ H
theorem iRai {C : Addr} {W : WX} {D : Ends} {σ : L2.St} {H : Hp} (q : W (.ref C) none σ H) : tRai C W D σ H := q
theorem ps_rai {ms : Str} {jj : Nat} {p2 pos2 : Pos} {W : WX} (T : ExT X.K X.mg x C) (tk : Takes X W) (hc : X.calm = true := by rfl) (hg : Gl X x := by rfl) (hdb : (x == ("__debug__" : Str)) = false := by decide) :
    PS X (.Raise (some (.Call (.Name x p) [.Constant (.str ms) jj p2] [] pos)) none pos2) (tRai C W) :=
  ps_raise hc tk (pmk_own PySem.F.excBase_ValueError T.x T.g T.k (raises_own T.b T.t) hg hdb)
/-- o.append(..), o any expression of a tracked list -/
theorem pe_bmE {name : Str} {id : String} {cpos : Pos} {r : V → List V → Hp → VK → Prop}
    (slot : Slot "list" name id) (hty : typeOf (.builtin id) = pure (.type "method_descriptor")) (hm : MtR X id r) (ho : PE X o te) (ha : PA X (e :: es) t)
    (hbase : attributeBase o name X.env (eval o X.env) = eval o X.env := by rfl)
    (hfew : ((backTo cpos (starEach (e :: es) X.env)).all (fun x => !x.1) && (backToKw cpos (keywordEach [] X.env)).all (fun x => x.1.isSome)
      && decide ((e :: es).length + ([] : List Keyword).length + (if ([] : List Keyword).isEmpty then 0 else 1) < 30)) = true := by rfl)
    (hline : (apos.endLine == cpos.line) = true := by rfl) (hs : starEach (e :: es) X.env = (false, eval e X.env) :: starEach es X.env := by rfl) (hplain : (backTo cpos (starEach es X.env)).any (·.1) = false := by rfl) :
    PE X (.Call (.Attribute o name apos) (e :: es) [] cpos) (kBM r te t) :=
  PE.imp (pe_bmL slot hty hm (pe_mo ho) ha hbase hfew hline hs hplain) fun σ H Q h => ⟨_, h, fun v H' ⟨p, xs, ev, hp, q⟩ => by
    subst ev
    exact ⟨.inl ⟨rfl, xs, SqL.tr hp⟩, q⟩⟩
end
/-! ### readings -/
inductive SetV : List V → Nat → V → List V → Prop
  | zero {x : V} {σ : List V} {v : V} : SetV (x :: σ) 0 v (v :: σ)
  | succ {x : V} {σ σ' : List V} {i : Nat} {v : V} (h : SetV σ i v σ') : SetV (x :: σ) (i + 1) v (x :: σ')
theorem SetV.eq {σ σ' : List V} {i : Nat} {v : V} (h : SetV σ i v σ') : σ.set i v = σ' := by
  induction h with
  | zero => rfl
  | succ _ ih => rw [List.set_cons_succ, ih]
theorem zip_lookup : ∀ {N : List Str} {vs : List V} {i : Nat} {f : Str} {v : V}, N.Nodup → N[i]? = some f → vs[i]? = some v → (N.zip vs).lookup f = some v
  | [], _, _, _, _, _, h, _ => by simp at h
  | n :: N, [], i, _, _, _, _, h => by simp at h
  | n :: N, u :: vs, 0, f, v, _, h, k => by
    cases h
    cases k
    show List.lookup n ((n, u) :: N.zip vs) = some u
    simp only [List.lookup, beq_self_eq_true]
  | n :: N, u :: vs, i + 1, f, v, nd, h, k => by
    have h' : N[i]? = some f := h
    have nf : (f == n) = false := by
      have := (List.nodup_cons.mp nd).1
      exact beq_eq_false_iff_ne.mpr fun e => this (e ▸ List.mem_of_getElem? h')
    show List.lookup f ((n, u) :: N.zip vs) = some v
    simp only [List.lookup, nf]
    exact zip_lookup (List.nodup_cons.mp nd).2 h' k
theorem zip_none : ∀ {N : List Str} {vs : List V} {f : Str}, N.contains f = false → (N.zip vs).lookup f = none
  | [], _, _, _ => rfl
  | n :: N, [], _, _ => rfl
  | n :: N, u :: vs, f, h => by
    rw [List.contains_cons, Bool.or_eq_false_iff] at h
    show List.lookup f ((n, u) :: N.zip vs) = none
    simp only [List.lookup, h.1]
    exact zip_none h.2
theorem zip_put : ∀ {N : List Str} {vs : List V} {i : Nat} {f : Str} {v : V}, N.Nodup → N[i]? = some f → i < vs.length → putF f v (N.zip vs) = N.zip (vs.set i v)
  | [], _, _, _, _, _, h, _ => by simp at h
  | n :: N, [], i, _, _, _, _, h => by simp at h
  | n :: N, u :: vs, 0, f, v, _, h, k => by
    cases h
    show (if n = n then _ else _) = _
    rw [if_pos rfl]
    rfl
  | n :: N, u :: vs, i + 1, f, v, nd, h, k => by
    have h' : N[i]? = some f := h
    have nf : ¬ n = f := fun e => (List.nodup_cons.mp nd).1 (e ▸ List.mem_of_getElem? h')
    show (if n = f then _ else (n, u) :: putF f v (N.zip vs)) = (n, u) :: N.zip (vs.set i v)
    rw [if_neg nf, zip_put (List.nodup_cons.mp nd).2 h' (Nat.lt_of_succ_lt_succ k)]
/-- the first stores, in __init__ -/
theorem zip_new : ∀ {N : List Str} {vs : List V} {f : Str} {v : V}, N.Nodup → N[vs.length]? = some f → putF f v (N.zip vs) = N.zip (vs ++ [v])
  | [], _, _, _, _, h => by simp at h
  | n :: N, [], f, v, _, h => by
    cases h
    simp [putF]
  | n :: N, u :: vs, f, v, nd, h => by
    have h' : N[vs.length]? = some f := h
    have nf : ¬ n = f := fun e => (List.nodup_cons.mp nd).1 (e ▸ List.mem_of_getElem? h')
    show (if n = f then _ else (n, u) :: putF f v (N.zip vs)) = (n, u) :: N.zip (vs ++ [v])
    rw [if_neg nf, zip_new (List.nodup_cons.mp nd).2 h']
section
variable {K : PySem.W.Frag} {σ σ' : L2.St} {H : Hp} {Q : VK} {ta tb te td ty tv : TE} {n b c : L2.St → Hp → Prop} {r : VK} {x y v : V} {i j : Int} {tA : TA} {R : It → Hp → Prop} {QB : Bool → Hp → Prop} {f m : Str} {C dx a : Addr} {N : List Str} {vs vs' : List V} {s : Nat} {sp : Sp} {E : L2.St → XK}
theorem iCalE (q : tA σ H fun vs H1 => sp vs H1 Q (E σ)) : tCallS sp E tA σ H Q := q
theorem iMet (q : te σ H (kMet C m sp E tA σ Q)) : tMet C m sp E te tA σ H Q := q
theorem iMetI {fs : List (Str × V)} (h : H a = some (.ins C dx fs)) (hn : fs.lookup m = none) (q : tA σ H fun vs H2 => sp (.ref a :: vs) H2 Q (E σ)) : kMet C m sp E tA σ Q (.ref a) H := ⟨a, dx, fs, rfl, h, hn, q⟩
theorem iMak (q : tA σ H (kMak C sp Q)) : tMak C sp tA σ H Q := q
def kFld (K : PySem.W.Frag) (f : Str) (Q : VK) : VK := fun x H1 => ∃ a C dx fs v, x = .ref a ∧ H1 a = some (.ins C dx fs) ∧ Cls K C ∧ NoAttr K C f ∧ fs.lookup f = some v ∧ Q v H1
theorem iFld (q : ta σ H (kFld K f Q)) : tFld K ta f σ H Q := q
theorem iFldI (cl : Cls K C) (na : NoAttr K C f) (nd : N.Nodup) (hf : N[s]? = some f) (h : H a = some (.ins C dx (N.zip vs))) (hv : vs[s]? = some v) (q : Q v H) : kFld K f Q (.ref a) H := ⟨a, C, dx, _, v, rfl, h, cl, na, zip_lookup nd hf hv, q⟩
def kSto (K : PySem.W.Frag) (f : Str) (n : L2.St → Hp → Prop) (σ : L2.St) (y : V) : VK := fun x H2 => ∃ a C dx fs, x = .ref a ∧ H2 a = some (.ins C dx fs) ∧ Cls K C ∧ NoAttr K C f ∧ fs.length < 1000 ∧ n σ (upd H2 a (.ins C dx (putF f y fs)))
theorem iSto (q : tv σ H fun y H1 => ta σ H1 (kSto K f n σ y)) : sFld K ta tv f ⟨n, r, b, c⟩ σ H := q
theorem zip_len {N : List Str} {vs : List V} (h : N.length < 1000) : (N.zip vs).length < 1000 := by rw [List.length_zip]; omega
theorem iStoI (cl : Cls K C) (na : NoAttr K C f) (nd : N.Nodup) (hN : N.length < 1000) (hf : N[s]? = some f) (h : H a = some (.ins C dx (N.zip vs))) (hv : SetV vs s y vs') (q : n σ (upd H a (.ins C dx (N.zip vs')))) : kSto K f n σ y (.ref a) H := by
  have hl : s < vs.length := by
    have := hv
    clear q h hf
    induction this with
    | zero => simp
    | succ _ ih => simpa using ih (by assumption)
  exact ⟨a, C, dx, _, rfl, h, cl, na, zip_len hN, by rw [zip_put nd hf hl, hv.eq]; exact q⟩
theorem iStoN (cl : Cls K C) (na : NoAttr K C f) (nd : N.Nodup) (hN : N.length < 1000) (hf : N[s]? = some f) (h : H a = some (.ins C dx (N.zip vs))) (hl : vs.length = s) (q : n σ (upd H a (.ins C dx (N.zip (vs ++ [y]))))) : kSto K f n σ y (.ref a) H :=
  ⟨a, C, dx, _, rfl, h, cl, na, zip_len hN, by subst hl; rw [zip_new nd hf]; exact q⟩
def kAugF (K : PySem.W.Frag) (f : Str) (rd : V → V → Hp → VK → Prop) (tv : TE) (n : L2.St → Hp → Prop) (σ : L2.St) : VK := fun x H1 => ∃ a C dx fs v, x = .ref a ∧ H1 a = some (.ins C dx fs) ∧ Cls K C ∧ NoAttr K C f ∧ fs.lookup f = some v ∧
  tv σ H1 fun y H2 => rd v y H2 fun z H3 => ∃ dx' fs', H3 a = some (.ins C dx' fs') ∧ fs'.length < 1000 ∧ n σ (upd H3 a (.ins C dx' (putF f z fs')))
theorem iAugF {rd : V → V → Hp → VK → Prop} (q : ta σ H (kAugF K f rd tv n σ)) : sFldAug K ta tv rd f ⟨n, r, b, c⟩ σ H := q
/-- self.f += 1, an int -/
theorem iAugFI {rd : V → V → Hp → VK → Prop} {vs' : V → List V} (cl : Cls K C) (na : NoAttr K C f) (nd : N.Nodup) (hN : N.length < 1000) (hf : N[s]? = some f) (h : H a = some (.ins C dx (N.zip vs))) (hv : vs[s]? = some v) (q : rd v (.int j) H fun z H3 => ∃ dx' fs', H3 a = some (.ins C dx' fs') ∧ fs'.length < 1000 ∧ n σ (upd H3 a (.ins C dx' (putF f z fs')))) : kAugF K f rd (tC (.int j)) n σ (.ref a) H :=
  ⟨a, C, dx, _, v, rfl, h, cl, na, zip_lookup nd hf hv, q⟩
theorem iAugP {k : Int} (cl : Cls K C) (na : NoAttr K C f) (nd : N.Nodup) (hN : N.length < 1000) (hf : N[s]? = some f) (h : H a = some (.ins C dx (N.zip vs))) (hv : vs[s]? = some (.int k)) (hs : SetV vs s (.int (k + j)) vs') (q : n σ (upd H a (.ins C dx (N.zip vs')))) : kAugF K f L2.rAdd (tC (.int j)) n σ (.ref a) H := by
  have hl : s < vs.length := (List.getElem?_eq_some_iff.mp hv).1
  exact ⟨a, C, dx, _, _, rfl, h, cl, na, zip_lookup nd hf hv, k, j, rfl, rfl, dx, _, h, zip_len hN, by rw [zip_put nd hf hl, hs.eq]; exact q⟩
theorem iAugM {k : Int} (cl : Cls K C) (na : NoAttr K C f) (nd : N.Nodup) (hN : N.length < 1000) (hf : N[s]? = some f) (h : H a = some (.ins C dx (N.zip vs))) (hv : vs[s]? = some (.int k)) (hs : SetV vs s (.int (k - j)) vs') (q : n σ (upd H a (.ins C dx (N.zip vs')))) : kAugF K f L2.rSub (tC (.int j)) n σ (.ref a) H := by
  have hl : s < vs.length := (List.getElem?_eq_some_iff.mp hv).1
  exact ⟨a, C, dx, _, _, rfl, h, cl, na, zip_lookup nd hf hv, k, j, rfl, rfl, dx, _, h, zip_len hN, by rw [zip_put nd hf hl, hs.eq]; exact q⟩
/-- o.append(..) -/
def kBMv (rr : V → List V → Hp → VK → Prop) (tA : TA) (σ : L2.St) (Q : VK) : VK := fun x H1 => ∃ p xs, x = .ref p ∧ H1 p = some (.lst xs) ∧ tA σ H1 fun ys H2 => rr x ys H2 Q
theorem iBM {rr : V → List V → Hp → VK → Prop} (q : te σ H (kBMv rr tA σ Q)) : kBM rr te tA σ H Q := q
theorem iBMv {rr : V → List V → Hp → VK → Prop} {p : Addr} {xs : List V} (h : H p = some (.lst xs)) (q : tA σ H fun ys H2 => rr (.ref p) ys H2 Q) : kBMv rr tA σ Q (.ref p) H := ⟨p, xs, rfl, h, q⟩
/-- reversed(xs) -/
def kRev (K : PySem.W.Frag) (R : It → Hp → Prop) : List V → Hp → Prop := fun vs H1 => ∃ (a : Addr) (xs : List V), vs = [.ref a] ∧ SqL K H1 a xs ∧ R (Itv K a xs.length) H1
theorem iRev1 (q : tA σ H (kRev K R)) : iRev K tA σ H R := q
theorem iRevI {p : Addr} {xs : List V} (h : H p = some (.lst xs)) (q : R (Itv K p xs.length) H) : kRev K R [.ref p] H := ⟨p, xs, rfl, SqL.tr h, q⟩
/-- a text's key -/
theorem iDIs {a : Addr} {kvs : List (Key × V)} {z : Str} (h : H a = some (.dK kvs)) (q : Q (.bl (valV kvs (.inr z : Key)).isSome) H) : kDI Q (.str z) (.ref a) H := ⟨a, _, rfl, DGet.k (k := Sum.inr z) h, q⟩
theorem iDPs {a : Addr} {kvs : List (Key × V)} {z : Str} (h : H a = some (.dK kvs)) (hl : kvs.length < 100000) (q : n σ (upd H a (.dK (putK kvs (.inr z) v)))) : kDP n σ v (.ref a) (.str z) H := ⟨a, _, rfl, DPut.k (k := Sum.inr z) h (Evl.sz_lt hl), q⟩
/-- None == 0 -/
theorem iEqZ {i : Int} (e : scal V.non (V.int i) = true) (q : Q (.bl false) H) : rEq .non (.int i) H Q := ⟨e, by rw [decide_eq_false (by intro z; cases z)]; exact q⟩
theorem iCut2 {ts us : TS} (Mid : L2.St → Hp → Prop) (q1 : ts ⟨Mid, r, b, c⟩ σ H) (q2 : ∀ σ' H', Mid σ' H' → us ⟨n, r, b, c⟩ σ' H') : Evl.tCut ts us ⟨n, r, b, c⟩ σ H := ⟨Mid, q1, q2⟩
theorem mergeK_nodup : ∀ (more kvs : List (Key × V)), ((kvs ++ more).map (·.1)).Nodup → mergeK kvs more = kvs ++ more
  | [], kvs, _ => by rw [List.append_nil]; rfl
  | kv :: more, kvs, h => by
    have e : putK kvs kv.1 kv.2 = kvs ++ [kv] := by
      unfold putK
      rw [if_neg]
      intro z
      obtain ⟨x, hx, hd⟩ := List.any_eq_true.mp z
      have hd := of_decide_eq_true hd
      rw [List.map_append, List.nodup_append] at h
      exact h.2.2 x.1 (List.mem_map.mpr ⟨x, hx, rfl⟩) kv.1 (by simp) hd
    show mergeK (putK kvs kv.1 kv.2) more = _
    rw [e, mergeK_nodup more (kvs ++ [kv]) (by rw [List.append_assoc]; exact h), List.append_assoc]
    rfl
/-- {k: v, ..} -/
def kDisp (Q : VK) (p : Addr) : List (V × V) → Hp → Prop := fun ps H2 => H2 p = some (.dK []) ∧ ∃ kvs : List (Key × V), ps = kvs.map (fun kv => (kV kv.1, kv.2)) ∧ kvs.length ≤ 15 ∧ Q (.ref p) (upd H2 p (.dK (mergeK [] kvs)))
theorem iDisp {trs : List (TE × TE)} (q : ∀ p, H p = none → tPairs trs σ (upd H p (.dK [])) (kDisp Q p)) : tDisp trs σ H Q := q
theorem iDspI {p : Addr} (kvs : List (Key × V)) (h : H p = some (.dK [])) (hl : kvs.length ≤ 15) (q : Q (.ref p) (upd H p (.dK (mergeK [] kvs)))) : kDisp Q p (kvs.map fun kv => (kV kv.1, kv.2)) H := ⟨h, kvs, rfl, hl, q⟩
theorem iPr {tk tv : TE} {rs : List (TE × TE)} {QP : List (V × V) → Hp → Prop} (q : tk σ H fun x H1 => tv σ H1 fun y H2 => tPairs rs σ H2 fun ps H3 => QP ((x, y) :: ps) H3) : tPairs ((tk, tv) :: rs) σ H QP := q
theorem iPn {QP : List (V × V) → Hp → Prop} (q : QP [] H) : tPairs [] σ H QP := q
/-- the handler that catches -/
theorem ExT.ex {mg : Str → Option Value} {z : Str} (T : ExT K mg z C) : PySem.W.exmOne K (.ref C) (.ref C) = some true := by
  have h2 : (PySem.W.clsIn K C).isSome = true := T.i
  simp [PySem.W.exmOne, PySem.W.kitCls, T.b, T.t, T.s, h2]
theorem iOnly {mg : Str → Option Value} {z : Str} {tsu : Addr → Value → Option Addr → TS} {Wout : WX} {D : Ends} (T : ExT K mg z C) (q : ∀ a, H a = none → tsu a (.ref C) none D σ H) : wOnly K (.ref C) tsu Wout D (.ref C) none σ H := ⟨true, T.ex, fun _ => q, fun z => nomatch z⟩
/-- int(b) -/
def kIntB : List V → Hp → VK → Prop := fun vs H Q => ∃ k, vs = [.bl k] ∧ Q (.int (if k then 1 else 0)) H
theorem int_b {X : Cx} : CallR X (.type "int") kIntB := CallR.imp call_int1 fun _ _ _ ⟨k, e, q⟩ => .inr ⟨k, e, q⟩
theorem iIntB {k : Bool} (q : Q (.int (if k then 1 else 0)) H) : kIntB [.bl k] H Q := ⟨k, rfl, q⟩
theorem iIsB {k l : Bool} (q : Q (.bl (decide (k = l))) H) : rIsB (.bl k) (.bl l) H Q := ⟨k, l, rfl, rfl, q⟩
theorem iNotBl {k l : Bool} (q : Q (.bl (!decide (k = l))) H) : rNotB (.bl k) (.bl l) H Q := ⟨k, l, rfl, rfl, q⟩
/-- d.get(i) -/
def kDG1 (Q : VK) (y : V) (a : Addr) : Hp → Prop := fun H2 => ∃ o, DGet H2 a y o ∧ Q (o.getD .non) H2
def kDG0 (ty : TE) (σ : L2.St) (Q : VK) : VK := fun x H1 => ∃ a, x = .ref a ∧ IsD H1 a ∧ ty σ H1 fun y H2 => kDG1 Q y a H2
theorem iDGet1 (q : td σ H (kDG0 ty σ Q)) : tDGet1 td ty σ H Q := q
theorem iDG0 {a : Addr} {kvs : List (Key × V)} (h : H a = some (.dK kvs)) (q : ty σ H fun y H2 => kDG1 Q y a H2) : kDG0 ty σ Q (.ref a) H := ⟨a, rfl, .inl ⟨kvs, .inl h⟩, q⟩
theorem iDG1 {a : Addr} {kvs : List (Key × V)} {i : Int} (h : H a = some (.dK kvs)) (q : Q ((valV kvs (.inl i : Key)).getD .non) H) : kDG1 Q (.int i) a H := ⟨_, DGet.k (k := Sum.inl i) h, q⟩
/-- truth -/
def kTru (K : PySem.W.Frag) (QB : Bool → Hp → Prop) : VK := fun x H' => ∃ k, TruV K x H' k ∧ QB k H'
theorem iTru (q : ta σ H (kTru K QB)) : (fun σ H QB => ta σ H fun x H' => ∃ k, TruV K x H' k ∧ QB k H') σ H QB := q
end
/-- a loop over what is walked in n turns -/
theorem forJ {J : It} {k : Nat} {G : Hp → Prop} {Y : Nat → Hp → V → Hp → Prop} (w : Walk J k G Y) {g : TG} {tb : TS} {n b c : L2.St → Hp → Prop} {r : VK} {σ : L2.St} {H : Hp} (Pv : Nat → L2.St → Hp → Prop) (h0 : Pv 0 σ H) (hG : ∀ i σ H, i ≤ k → Pv i σ H → G H)
    (hs : ∀ i x σ H H', i < k → Pv i σ H → Y i H x H' → g x σ H' fun σ2 H2 => tb ⟨Pv (i + 1), r, n, Pv (i + 1)⟩ σ2 H2) (hd : ∀ σ H, Pv k σ H → n σ H) : tForJ J g tb ⟨n, r, b, c⟩ σ H := for_it w Pv h0 hG hs hd
/-! ### layouts: mutable objects at addresses that are told apart -/
structure Lay {ι : Type} (H : Hp) (dom : ι → Prop) (L : ι → Addr) (S : ι → HO) : Prop where
  at_ : ∀ x, dom x → H (L x) = some (S x)
  inj : ∀ x y, dom x → dom y → L x = L y → x = y
open Classical in
noncomputable def chg {ι α : Type} (f : ι → α) (x : ι) (v : α) : ι → α := fun y => if y = x then v else f y
theorem chg_same {ι α : Type} {f : ι → α} {x : ι} {v : α} : chg f x v x = v := if_pos rfl
theorem chg_ne {ι α : Type} {f : ι → α} {x y : ι} {v : α} (h : y ≠ x) : chg f x v y = f y := if_neg h
namespace Lay
variable {ι : Type} {H H' : Hp} {dom : ι → Prop} {L : ι → Addr} {S S' : ι → HO}
theorem ne (Y : Lay H dom L S) {x y : ι} (hx : dom x) (hy : dom y) (h : x ≠ y) : L x ≠ L y := fun e => h (Y.inj x y hx hy e)
theorem ex (Y : Lay H dom L S) (e : Ex H H') : Lay H' dom L S := ⟨fun x hx => e _ _ (Y.at_ x hx), Y.inj⟩
theorem cong (Y : Lay H dom L S) (h : ∀ x, dom x → S x = S' x) : Lay H dom L S' := ⟨fun x hx => (Y.at_ x hx).trans (congrArg some (h x hx)), Y.inj⟩
theorem set (Y : Lay H dom L S) {x : ι} {o : HO} (hx : dom x) : Lay (upd H (L x) o) dom L (chg S x o) := ⟨fun y hy => by
  by_cases e : y = x
  · subst e; rw [upd_same, chg_same]
  · rw [upd_ne (Y.ne hy hx e), chg_ne e]; exact Y.at_ y hy, Y.inj⟩
/-- a new object takes a place -/
theorem mov (Y : Lay H dom L S) {x : ι} {p : Addr} {o : HO} (hp : ∀ y, dom y → L y ≠ p) (hpo : H p = some o) : Lay H dom (chg L x p) (chg S x o) := by
  refine ⟨fun y hy => ?_, fun y z hy hz e => ?_⟩
  · by_cases e : y = x
    · subst e; rw [chg_same, chg_same]; exact hpo
    · rw [chg_ne e, chg_ne e]; exact Y.at_ y hy
  · by_cases e1 : y = x
    · by_cases e2 : z = x
      · rw [e1, e2]
      · rw [e1, chg_same, chg_ne e2] at e
        exact absurd e.symm (hp z hz)
    · by_cases e2 : z = x
      · rw [e2, chg_same, chg_ne e1] at e
        exact absurd e (hp y hy)
      · rw [chg_ne e1, chg_ne e2] at e
        exact Y.inj y z hy hz e
end Lay
/-- a layout, what is frozen, and the rest -/
structure Own {ι : Type} (H F Rs : Hp) (dom : ι → Prop) (L : ι → Addr) (S : ι → HO) : Prop where
  lay : Lay H dom L S
  f : Ex F H
  r : Ex Rs H
  nf : ∀ x, dom x → F (L x) = none
  nr : ∀ x, dom x → Rs (L x) = none
  fr : ∀ p, Rs p ≠ none → F p = none
namespace Own
variable {ι : Type} {H H' F Rs : Hp} {dom : ι → Prop} {L : ι → Addr} {S S' : ι → HO} {p : Addr} {o o' : HO} {x : ι}
theorem free (Y : Own H F Rs dom L S) (h : H p = none) : F p = none ∧ Rs p = none ∧ ∀ y, dom y → L y ≠ p := ⟨Evl.fresh_back Y.f h, Evl.fresh_back Y.r h, fun y hy => ne_of_none (Y.lay.at_ y hy) h⟩
theorem ex (Y : Own H F Rs dom L S) (e : Ex H H') : Own H' F Rs dom L S := ⟨Y.lay.ex e, Y.f.trans e, Y.r.trans e, Y.nf, Y.nr, Y.fr⟩
theorem new (Y : Own H F Rs dom L S) (h : H p = none) : Own (upd H p o) F Rs dom L S := Y.ex (Evl.Ex.new h)
theorem cong (Y : Own H F Rs dom L S) (h : ∀ x, dom x → S x = S' x) : Own H F Rs dom L S' := ⟨Y.lay.cong h, Y.f, Y.r, Y.nf, Y.nr, Y.fr⟩
theorem set (Y : Own H F Rs dom L S) (hx : dom x) : Own (upd H (L x) o) F Rs dom L (chg S x o) := ⟨Y.lay.set hx, Y.f.mut (Y.nf x hx), Y.r.mut (Y.nr x hx), Y.nf, Y.nr, Y.fr⟩
/-- an object that no part knows -/
theorem alt (Y : Own H F Rs dom L S) (h1 : F p = none) (h2 : Rs p = none) (h3 : ∀ y, dom y → L y ≠ p) : Own (upd H p o) F Rs dom L S :=
  ⟨⟨fun y hy => (upd_ne (h3 y hy)).trans (Y.lay.at_ y hy), Y.lay.inj⟩, Y.f.mut h1, Y.r.mut h2, Y.nf, Y.nr, Y.fr⟩
theorem mov (Y : Own H F Rs dom L S) (h1 : F p = none) (h2 : Rs p = none) (h3 : ∀ y, dom y → L y ≠ p) (hp : H p = some o) : Own H F Rs dom (chg L x p) (chg S x o) :=
  ⟨Y.lay.mov h3 hp, Y.f, Y.r, fun y hy => by
    by_cases e : y = x
    · subst e; rw [chg_same]; exact h1
    · rw [chg_ne e]; exact Y.nf y hy, fun y hy => by
    by_cases e : y = x
    · subst e; rw [chg_same]; exact h2
    · rw [chg_ne e]; exact Y.nr y hy, Y.fr⟩
/-- the rest's objects change -/
theorem put (Y : Own H F Rs dom L S) (h : Rs p = some o) : Own (upd H p o') F (upd Rs p o') dom L S := by
  have hf := Y.fr p (by rw [h]; intro z; cases z)
  have hl : ∀ y, dom y → L y ≠ p := fun y hy e => by have := Y.nr y hy; rw [e, h] at this; cases this
  refine ⟨⟨fun y hy => (upd_ne (hl y hy)).trans (Y.lay.at_ y hy), Y.lay.inj⟩, Y.f.mut hf, fun q u hq => ?_, Y.nf, fun y hy => (upd_ne (hl y hy)).trans (Y.nr y hy), fun q hq => ?_⟩
  · by_cases e : q = p
    · subst e; rw [upd_same] at hq ⊢; exact hq
    · rw [upd_ne e] at hq ⊢; exact Y.r q u hq
  · by_cases e : q = p
    · subst e; exact hf
    · rw [upd_ne e] at hq; exact Y.fr q hq
/-- what is new joins the rest -/
theorem join (Y : Own H F Rs dom L S) (h1 : F p = none) (h3 : ∀ y, dom y → L y ≠ p) (hp : H p = some o) : Own H F (upd Rs p o) dom L S := ⟨Y.lay, Y.f, fun q u hq => by
    by_cases e : q = p
    · subst e; rw [upd_same] at hq; rw [hp]; exact hq
    · rw [upd_ne e] at hq; exact Y.r q u hq, Y.nf, fun y hy => (upd_ne (h3 y hy)).trans (Y.nr y hy), fun q hq => by
    by_cases e : q = p
    · subst e; exact h1
    · rw [upd_ne e] at hq; exact Y.fr q hq⟩
/-- what is new is frozen -/
theorem ice (Y : Own H F Rs dom L S) (h2 : Rs p = none) (h3 : ∀ y, dom y → L y ≠ p) (hp : H p = some o) : Own H (upd F p o) Rs dom L S := ⟨Y.lay, fun q u hq => by
    by_cases e : q = p
    · subst e; rw [upd_same] at hq; rw [hp]; exact hq
    · rw [upd_ne e] at hq; exact Y.f q u hq, Y.r, fun y hy => (upd_ne (h3 y hy)).trans (Y.nf y hy), Y.nr, fun q hq => by
    by_cases e : q = p
    · subst e; exact absurd h2 hq
    · rw [upd_ne e]; exact Y.fr q hq⟩
theorem weak {Rs' : Hp} (Y : Own H F Rs dom L S) (e : Ex Rs' Rs) : Own H F Rs' dom L S := ⟨Y.lay, Y.f, e.trans Y.r, Y.nf, fun y hy => Evl.fresh_back e (Y.nr y hy), fun p hp => Y.fr p fun z => hp (Evl.fresh_back e z)⟩
theorem newR (Y : Own H F Rs dom L S) (h : H p = none) : Own (upd H p o) F (upd Rs p o) dom L S := (Y.new h).join (Y.free h).1 (Y.free h).2.2 upd_same
theorem newF (Y : Own H F Rs dom L S) (h : H p = none) : Own (upd H p o) (upd F p o) Rs dom L S := (Y.new h).ice (Y.free h).2.1 (Y.free h).2.2 upd_same
end Own
theorem ex_new {F : Hp} {p : Addr} {o : HO} (h : F p = none) : Ex F (upd F p o) := Evl.Ex.new h
end R
set_option Elab.async false
set_option linter.all false
set_option maxRecDepth 100000
set_option maxHeartbeats 4000000
namespace R
open PySem PySem.Spec L2
open Evl (Ex)
/-! ### heaps that grow -/
theorem Ex.rfl' (H : Hp) : Ex H H := fun _ _ h => h
/-- the heap without one address -/
def mk (D : Addr) (H : Hp) : Hp := fun p => if p = D then none else H p
theorem mk_at {D p : Addr} {H : Hp} (h : p ≠ D) : mk D H p = H p := if_neg h
theorem mk_ex (D : Addr) (H : Hp) : Ex (mk D H) H := fun p o h => by
  by_cases e : p = D
  · unfold mk at h; rw [if_pos e] at h; cases h
  · rw [mk_at e] at h; exact h
theorem mk_mono {D : Addr} {H H' : Hp} (e : Ex H H') : Ex (mk D H) (mk D H') := fun p o h => by
  by_cases q : p = D
  · unfold mk at h; rw [if_pos q] at h; cases h
  · rw [mk_at q] at h ⊢; exact e p o h
theorem mk_upd {D : Addr} {H : Hp} {o : HO} : mk D (upd H D o) = mk D H := by
  funext p
  by_cases q : p = D
  · unfold mk; rw [if_pos q, if_pos q]
  · rw [mk_at q, mk_at q, upd_ne q]
theorem ex_mk {D : Addr} {H H' : Hp} (h : H D = none) (e : Ex H H') : Ex H (mk D H') := fun p o q => by
  rw [mk_at (ne_of_none q h)]
  exact e p o q
theorem ex_upd {D : Addr} {H H' : Hp} {o : HO} (h : H D = none) (e : Ex H H') : Ex H (upd H' D o) := fun p u q => by
  rw [upd_ne (ne_of_none q h)]
  exact e p u q
theorem Ex.new {H : Hp} {p : Addr} {o : HO} (h : H p = none) : Ex H (upd H p o) := ex_upd h (Ex.rfl' _)
/-- all but a stay -/
def ExB (a : Addr) (H H' : Hp) : Prop := ∀ p o, p ≠ a → H p = some o → H' p = some o
theorem ExB.of {a : Addr} {H H' : Hp} (e : Ex H H') : ExB a H H' := fun p o _ h => e p o h
theorem ExB.trans {a : Addr} {H H1 H2 : Hp} (x : ExB a H H1) (y : ExB a H1 H2) : ExB a H H2 := fun p o n h => y p o n (x p o n h)
/-- what is told of a new list -/
def NewL (H : Hp) (Q : VK) (xs : List V) : Prop := ∀ p H', H p = none → Ex H H' → H' p = some (.lst xs) → Q (.ref p) H'
/-! ### comprehensions whose items are reckoned, the heap growing -/
def PvF (H1 : Hp) (f : Nat → V) (D : Addr) (i : Nat) (acc : List V) (H : Hp) : Prop := Ex H1 H ∧ acc = (List.range i).map f
theorem iLcF {H1 H : Hp} {f : Nat → V} {D : Addr} {i : Nat} {y : V} (hD : H1 D = none) (hi : i < 100000) (e : Ex H1 H) (h : H D = some (.lst ((List.range i).map f))) (q : y = f i) : kLcE D i (PvF H1 f D) y H :=
  iLcE h (by rw [List.length_map, List.length_range]; exact Nat.le_refl _) hi ⟨ex_upd hD e, by rw [List.range_succ, List.map_append, q]; rfl⟩
section
variable {K : PySem.W.Frag} {g : TG} {tt : TT} {te : TE} {vs : List Nat} {σ σ' : L2.St} {H1 : Hp} {Q : VK}
theorem lcF_l {a : Addr} (xs : List V) (f : Nat → V) (hw : Wip σ vs σ') (h : H1 a = some (.lst xs)) (hs : ∀ D i x H, H1 D = none → xs[i]? = some x → H D = some (.lst ((List.range i).map f)) → Ex H1 H → g x σ' H (kLc vs σ' tt te D i (PvF H1 f D)))
    (hd : ∀ D H, H1 D = none → Ex H1 H → H D = some (.lst ((List.range xs.length).map f)) → Q (.ref D) H) : tLcJ (Itl K a) g tt te vs σ H1 Q :=
  lc_l xs hw (PvF H1 f) (fun D hD => ⟨ex_upd hD (Ex.rfl' _), rfl⟩) (fun D i acc H hD _ p => p.1 _ _ h) (fun D i acc x H hD hx e l p => by
    obtain ⟨p1, rfl⟩ := p
    exact hs D i x H hD hx e p1) (fun D acc H hD e l p => by
    obtain ⟨p1, rfl⟩ := p
    exact hd D H hD p1 e)
theorem lcF_r0 {n : Nat} (f : Nat → V) (hw : Wip σ vs σ') (hs : ∀ D i H, H1 D = none → i < n → H D = some (.lst ((List.range i).map f)) → Ex H1 H → g (.int (i : Int)) σ' H (kLc vs σ' tt te D i (PvF H1 f D)))
    (hd : ∀ D H, H1 D = none → Ex H1 H → H D = some (.lst ((List.range n).map f)) → Q (.ref D) H) : tLcJ (Itr 0 n) g tt te vs σ H1 Q :=
  lc_r0 hw (PvF H1 f) (fun D hD => ⟨ex_upd hD (Ex.rfl' _), rfl⟩) (fun D i acc H hD hx e l p => by
    obtain ⟨p1, rfl⟩ := p
    exact hs D i H hD hx e p1) (fun D acc H hD e l p => by
    obtain ⟨p1, rfl⟩ := p
    exact hd D H hD p1 e)
theorem lcF_z {a b : Addr} (xs ys : List V) (f : Nat → V) (he : xs.length = ys.length) (hw : Wip σ vs σ') (h : H1 a = some (.lst xs)) (h2 : H1 b = some (.lst ys))
    (hs : ∀ D i x y T H, H1 D = none → xs[i]? = some x → ys[i]? = some y → H D = some (.lst ((List.range i).map f)) → Ex H1 H → H T = none → g (.ref T) σ' (upd H T (.tup [x, y])) (kLc vs σ' tt te D i (PvF H1 f D)))
    (hd : ∀ D H, H1 D = none → Ex H1 H → H D = some (.lst ((List.range xs.length).map f)) → Q (.ref D) H) : tLcJ (Itz K a b) g tt te vs σ H1 Q :=
  lc_z xs ys he hw (PvF H1 f) (fun D hD => ⟨ex_upd hD (Ex.rfl' _), rfl⟩) (fun D i acc H hD _ p => ⟨p.1 _ _ h, p.1 _ _ h2⟩) (fun D i acc x y T H hD hx hy e l p hT => by
    obtain ⟨p1, rfl⟩ := p
    exact hs D i x y T H hD hx hy e p1 hT) (fun D acc H hD e l p => by
    obtain ⟨p1, rfl⟩ := p
    exact hd D H hD p1 e)
end
/-- items that are told by a word R of the list so far, which growing keeps -/
def PvR (H1 : Hp) (R : Nat → List V → Hp → Prop) (D : Addr) (i : Nat) (acc : List V) (H : Hp) : Prop := Ex H1 H ∧ R i acc (mk D H)
theorem iLcR {H1 H : Hp} {R : Nat → List V → Hp → Prop} {D : Addr} {i : Nat} {y : V} {acc : List V} (hD : H1 D = none) (hi : i < 100000) (hl : acc.length ≤ i) (e : Ex H1 H) (h : H D = some (.lst acc)) (q : R (i + 1) (acc ++ [y]) (mk D H)) : kLcE D i (PvR H1 R D) y H :=
  iLcE h hl hi ⟨ex_upd hD e, by rw [mk_upd]; exact q⟩
section
variable {K : PySem.W.Frag} {g : TG} {tt : TT} {te : TE} {vs : List Nat} {σ σ' : L2.St} {H1 : Hp} {Q : VK}
theorem lcR_r {lo : Int} {n : Nat} (R : Nat → List V → Hp → Prop) (hw : Wip σ vs σ') (m : ∀ i acc H H', Ex H H' → R i acc H → R i acc H') (h0 : R 0 [] H1)
    (hs : ∀ D i acc H, H1 D = none → i < n → H D = some (.lst acc) → acc.length ≤ i → Ex H1 H → R i acc (mk D H) → g (.int (lo + (i : Int))) σ' H (kLc vs σ' tt te D i (PvR H1 R D)))
    (hd : ∀ D acc H, H1 D = none → Ex H1 H → H D = some (.lst acc) → R n acc H → Q (.ref D) H) : tLcJ (Itr lo n) g tt te vs σ H1 Q :=
  lc_r hw (PvR H1 R) (fun D hD => ⟨ex_upd hD (Ex.rfl' _), by rw [mk_upd]; exact m _ _ _ _ (ex_mk hD (Ex.rfl' _)) h0⟩) (fun D i acc H hD hx e l p => hs D i acc H hD hx e l p.1 p.2) (fun D acc H hD e l p => hd D acc H hD p.1 e (m _ _ _ _ (mk_ex D H) p.2))
theorem lcR_r0 {n : Nat} (R : Nat → List V → Hp → Prop) (hw : Wip σ vs σ') (m : ∀ i acc H H', Ex H H' → R i acc H → R i acc H') (h0 : R 0 [] H1)
    (hs : ∀ D i acc H, H1 D = none → i < n → H D = some (.lst acc) → acc.length ≤ i → Ex H1 H → R i acc (mk D H) → g (.int (i : Int)) σ' H (kLc vs σ' tt te D i (PvR H1 R D)))
    (hd : ∀ D acc H, H1 D = none → Ex H1 H → H D = some (.lst acc) → R n acc H → Q (.ref D) H) : tLcJ (Itr 0 n) g tt te vs σ H1 Q :=
  lcR_r R hw m h0 (fun D i acc H a b c d e f => by rw [Int.zero_add]; exact hs D i acc H a b c d e f) hd
theorem lcR_l {a : Addr} (xs : List V) (R : Nat → List V → Hp → Prop) (hw : Wip σ vs σ') (h : H1 a = some (.lst xs)) (m : ∀ i acc H H', Ex H H' → R i acc H → R i acc H') (h0 : R 0 [] H1)
    (hs : ∀ D i acc x H, H1 D = none → xs[i]? = some x → H D = some (.lst acc) → acc.length ≤ i → Ex H1 H → R i acc (mk D H) → g x σ' H (kLc vs σ' tt te D i (PvR H1 R D)))
    (hd : ∀ D acc H, H1 D = none → Ex H1 H → H D = some (.lst acc) → R xs.length acc H → Q (.ref D) H) : tLcJ (Itl K a) g tt te vs σ H1 Q :=
  lc_l xs hw (PvR H1 R) (fun D hD => ⟨ex_upd hD (Ex.rfl' _), by rw [mk_upd]; exact m _ _ _ _ (ex_mk hD (Ex.rfl' _)) h0⟩) (fun D i acc H hD _ p => p.1 _ _ h) (fun D i acc x H hD hx e l p => hs D i acc x H hD hx e l p.1 p.2) (fun D acc H hD e l p => hd D acc H hD p.1 e (m _ _ _ _ (mk_ex D H) p.2))
end
theorem exb_mk' {a : Addr} {H H' : Hp} (e : ExB a H H') : Ex (mk a H) (mk a H') := fun p o h => by
  by_cases q : p = a
  · unfold mk at h; rw [if_pos q] at h; cases h
  · rw [mk_at q] at h ⊢; exact e p o q h
/-! ### == of lists of ints -/
theorem dp_ints {K : PySem.W.Frag} {H : Hp} : ∀ ns : List Int, DpAll K H (ns.map V.int) (ns.map PyData.int)
  | [] => .nil
  | n :: ns => .cons (.int n) (dp_ints ns)
theorem dp_lst {K : PySem.W.Frag} {H : Hp} {a : Addr} {ns : List Int} (h : H a = some (.lst (ns.map V.int))) : Dp K H (.ref a) (.list (ns.map PyData.int)) := .lst (SqL.tr h) (dp_ints ns)
theorem lay_ints : ∀ ns : List Int, PyData.canLayAll0 (ns.map PyData.int) = true
  | [] => by rw [List.map_nil, PyData.canLayAll0]
  | n :: ns => by rw [List.map_cons, PyData.canLayAll0, PyData.canLay0, lay_ints ns]; rfl
theorem depth_ints : ∀ ns : List Int, PyData.depthAll (ns.map PyData.int) ≤ 5
  | [] => by rw [List.map_nil, PyData.depthAll]; omega
  | n :: ns => by
    have := depth_ints ns
    rw [List.map_cons, PyData.depthAll]
    simp only [PyData.depth]
    omega
theorem shaped_ints (ns : List Int) : SeqAt.shaped (.list (ns.map PyData.int)) = true := by
  have := depth_ints ns
  unfold SeqAt.shaped
  rw [PyData.canLay0, lay_ints, decide_eq_true (by rw [PyData.depth]; omega)]
  rfl
theorem shaped_non : SeqAt.shaped .none = true := by
  unfold SeqAt.shaped
  rw [PyData.canLay0, decide_eq_true (by simp [PyData.depth])]
  rfl
theorem eqvAll_ints : ∀ ns ms : List Int, PyData.eqvAll (ns.map PyData.int) (ms.map PyData.int) = decide (ns = ms)
  | [], [] => by simp [PyData.eqvAll]
  | [], m :: ms => by simp [PyData.eqvAll]
  | n :: ns, [] => by simp [PyData.eqvAll]
  | n :: ns, m :: ms => by
    rw [List.map_cons, List.map_cons, PyData.eqvAll, eqvAll_ints ns ms, PyData.eqv]
    by_cases h : n = m
    · subst h; simp
    · have : (n == m) = false := beq_eq_false_iff_ne.mpr h
      simp [this, h]
theorem eqv_ints (ns ms : List Int) : PyData.eqv (.list (ns.map PyData.int)) (.list (ms.map PyData.int)) = decide (ns = ms) := by rw [PyData.eqv, eqvAll_ints]
end R
set_option Elab.async false
set_option linter.all false
set_option maxRecDepth 100000
set_option maxHeartbeats 4000000
namespace R
open PySem PySem.Spec L2
open Evl (Ex)
/-! ### disks, plainly -/
abbrev Sec := List V
structure DK where
  n : Nat
  m : Nat
  k : Nat
  s : Nat
  there : Nat → Bool
  media : Nat → Nat → Option Sec
  wait : Nat → List (Nat × Sec)
  on : Bool
  left : Option Nat
  fails : Nat
  reads : Nat
  writes : Nat
  syncs : Nat
  inuse : Bool
  formatted : Bool
  scrub : Int
def step (f : Nat → Option Sec) (z : (Nat × Sec) × Bool) : Nat → Option Sec := if z.2 = true then (fun j => if j = z.1.1 then some z.1.2 else f j) else f
def layW (f : Nat → Option Sec) (ws : List (Nat × Sec)) (ks : List Bool) : Nat → Option Sec := (ws.zip ks).foldl step f
def lastW (ws : List (Nat × Sec)) (j : Nat) : Option Sec := (ws.reverse.find? fun w => w.1 == j).map (·.2)
namespace DK
def cell (D : DK) (d j : Nat) : Option Sec := (lastW (D.wait d) j).or (D.media d j)
def settle (D : DK) (d : Nat) (ks : List Bool) : DK := { D with media := fun e => if e = d then layW (D.media d) (D.wait d) ks else D.media e, wait := fun e => if e = d then [] else D.wait e }
def settles (D : DK) (K : Nat → List Bool) (i : Nat) : DK := { D with media := fun e => if e < i then layW (D.media e) (D.wait e) (K e) else D.media e, wait := fun e => if e < i then [] else D.wait e }
def fail (D : DK) : DK := { D with on := false, left := none, fails := D.fails + 1, inuse := false }
def tick (D : DK) : DK := { D with left := D.left.map (· - 1) }
def write (D : DK) (d j : Nat) (x : Sec) : DK := if D.there d = true then { D.tick with writes := D.writes + 1, wait := fun e => if e = d then D.wait e ++ [(j, x)] else D.wait e } else D.tick
def sync (D : DK) : DK := ({ D.tick with syncs := D.syncs + 1 } : DK).settles (fun d => List.replicate (D.wait d).length true) D.n
def rot (D : DK) (d j : Nat) (x : Sec) : DK := if D.there d = true then { D with media := fun e i => if e = d ∧ i = j then some x else D.media e i } else D
def bad (D : DK) (d j : Nat) : DK := { D with media := fun e i => if e = d ∧ i = j then none else D.media e i }
def empty (D : DK) (d : Nat) : DK := { D with media := fun e i => if e = d then none else D.media e i, wait := fun e => if e = d then [] else D.wait e }
def away (D : DK) (d : Nat) : DK := { D.empty d with there := fun e => if e = d then false else D.there e }
def blank (D : DK) (d : Nat) : DK := { D.empty d with there := fun e => if e = d then true else D.there e }
def ask (D : DK) (d : Nat) : DK := if D.there d = true then { D with reads := D.reads + 1 } else D
def power (D : DK) (K : Nat → List Bool) : DK := { (if D.on = true then D.fail else D).settles K D.n with on := true }
def new (n m k s : Nat) : DK := ⟨n, m, k, s, fun _ => true, fun _ _ => none, fun _ => [], true, none, 0, 0, 0, 0, false, false, 0⟩
end DK
theorem layW_nil {f : Nat → Option Sec} {ks : List Bool} : layW f [] ks = f := rfl
theorem lastW_nil {j : Nat} : lastW [] j = none := rfl
theorem lastW_snoc {ws : List (Nat × Sec)} {w : Nat × Sec} {j : Nat} : lastW (ws ++ [w]) j = if w.1 = j then some w.2 else lastW ws j := by
  unfold lastW
  rw [List.reverse_append, List.reverse_singleton, List.singleton_append, List.find?_cons]
  by_cases h : w.1 = j
  · simp [h]
  · have : (w.1 == j) = false := beq_eq_false_iff_ne.mpr h
    simp only [this, if_neg h]
theorem settles_succ {D : DK} {K : Nat → List Bool} {i : Nat} : (D.settles K i).settle i (K i) = D.settles K (i + 1) := by
  unfold DK.settles DK.settle
  simp only [Nat.lt_irrefl, if_false, DK.mk.injEq, true_and, and_true]
  refine ⟨?_, ?_⟩
  · funext e
    by_cases h : e = i
    · subst h; simp
    · have : (e < i + 1) ↔ e < i := by omega
      simp [h, this]
  · funext e
    by_cases h : e = i
    · subst h; simp
    · have : (e < i + 1) ↔ e < i := by omega
      simp [h, this]
theorem settles_zero {D : DK} {K : Nat → List Bool} : D.settles K 0 = D := by
  unfold DK.settles
  simp
/-! ### where they stand -/
inductive DL where
  | obj | there | media | wait | med (d : Nat) | wai (d : Nat)
def dom (n : Nat) : DL → Prop
  | .med d => d < n
  | .wai d => d < n
  | _ => True
def NMD : List Str := ["in_use", "formatted", "scrub_place", "_sizes", "_there", "_media", "_waiting", "_on", "_left", "_failures", "_reads", "_writes", "_syncs"]
def leftV : Option Nat → V
  | none => .non
  | some i => .int (i : Nat)
def flds (szs : Addr) (L : DL → Addr) (D : DK) : List V := [.bl D.inuse, .bl D.formatted, .int D.scrub, .ref szs, .ref (L .there), .ref (L .media), .ref (L .wait), .bl D.on, leftV D.left, .int (D.fails : Nat), .int (D.reads : Nat), .int (D.writes : Nat), .int (D.syncs : Nat)]
def theL (D : DK) : List V := (List.range D.n).map fun d => V.bl (D.there d)
def medL (L : DL → Addr) (n : Nat) : List V := (List.range n).map fun d => V.ref (L (.med d))
def waiL (L : DL → Addr) (n : Nat) : List V := (List.range n).map fun d => V.ref (L (.wai d))
def SD (C dx szs : Addr) (L : DL → Addr) (D : DK) (cm cw : Nat → List V) : DL → HO
  | .obj => .ins C dx (NMD.zip (flds szs L D))
  | .there => .lst (theL D)
  | .media => .lst (medL L D.n)
  | .wait => .lst (waiL L D.n)
  | .med d => .lst (cm d)
  | .wai d => .lst (cw d)
def CellRep (F : Hp) (v : V) : Option Sec → Prop
  | none => v = .non
  | some xs => ∃ p, v = .ref p ∧ F p = some (.lst xs)
structure MedRep (F : Hp) (m : Nat) (vs : List V) (f : Nat → Option Sec) : Prop where
  len : vs.length = m
  at_ : ∀ (j : Nat) (v : V), vs[j]? = some v → CellRep F v (f j)
structure WaiRep (F : Hp) (m : Nat) (vs : List V) (ws : List (Nat × Sec)) : Prop where
  len : vs.length = ws.length
  at_ : ∀ (i : Nat) (v : V) (w : Nat × Sec), vs[i]? = some v → ws[i]? = some w → w.1 < m ∧ ∃ (t p : Addr), v = .ref t ∧ F t = some (.tup [.int (w.1 : Nat), .ref p]) ∧ F p = some (.lst w.2)
structure DRep (C dx szs : Addr) (H F Rs : Hp) (L : DL → Addr) (D : DK) (cm cw : Nat → List V) : Prop where
  own : Own H F Rs (dom D.n) L (SD C dx szs L D cm cw)
  sz : F szs = some (.tup [.int (D.n : Nat), .int (D.m : Nat), .int (D.k : Nat), .int (D.s : Nat)])
  n8 : D.n ≤ 8
  m2 : D.m ≤ 200
  med : ∀ d, d < D.n → MedRep F D.m (cm d) (D.media d)
  wai : ∀ d, d < D.n → WaiRep F D.m (cw d) (D.wait d)
def DAt (C : Addr) (H F Rs : Hp) (L : DL → Addr) (D : DK) : Prop := ∃ dx szs cm cw, DRep C dx szs H F Rs L D cm cw
theorem CellRep.ex {F F' : Hp} {v : V} {o : Option Sec} (e : Ex F F') (h : CellRep F v o) : CellRep F' v o := by
  cases o with
  | none => exact h
  | some xs =>
    obtain ⟨p, rfl, h⟩ := h
    exact ⟨p, rfl, e _ _ h⟩
theorem MedRep.ex {F F' : Hp} {m : Nat} {vs : List V} {f : Nat → Option Sec} (e : Ex F F') (h : MedRep F m vs f) : MedRep F' m vs f := ⟨h.len, fun j v hv => (h.at_ j v hv).ex e⟩
theorem WaiRep.ex {F F' : Hp} {m : Nat} {vs : List V} {ws : List (Nat × Sec)} (e : Ex F F') (h : WaiRep F m vs ws) : WaiRep F' m vs ws := ⟨h.len, fun i v w hv hw => by
  obtain ⟨l, t, p, rfl, h1, h2⟩ := h.at_ i v w hv hw
  exact ⟨l, t, p, rfl, e _ _ h1, e _ _ h2⟩⟩
theorem WaiRep.nil {F : Hp} {m : Nat} : WaiRep F m [] [] := ⟨rfl, fun i v w h => by simp at h⟩
theorem WaiRep.snoc {F : Hp} {m : Nat} {vs : List V} {ws : List (Nat × Sec)} {t p : Addr} {j : Nat} {x : Sec} (h : WaiRep F m vs ws) (hj : j < m) (ht : F t = some (.tup [.int (j : Nat), .ref p])) (hp : F p = some (.lst x)) : WaiRep F m (vs ++ [.ref t]) (ws ++ [(j, x)]) := by
  refine ⟨by rw [List.length_append, List.length_append, h.len]; rfl, fun i v w hv hw => ?_⟩
  rw [List.getElem?_append] at hv hw
  by_cases hi : i < vs.length
  · rw [if_pos hi] at hv
    rw [if_pos (by rw [← h.len]; exact hi)] at hw
    exact h.at_ i v w hv hw
  · rw [if_neg hi] at hv
    rw [if_neg (by rw [← h.len]; exact hi), ← h.len] at hw
    cases e : i - vs.length with
    | zero =>
      rw [e] at hv hw
      cases hv
      cases hw
      exact ⟨hj, t, p, rfl, ht, hp⟩
    | succ z => rw [e] at hv; simp at hv
theorem MedRep.set {F : Hp} {m : Nat} {vs : List V} {f g : Nat → Option Sec} {j : Nat} {v : V} (h : MedRep F m vs f) (hv : CellRep F v (g j)) (hg : ∀ i, i ≠ j → g i = f i) : MedRep F m (vs.set j v) g := by
  refine ⟨by rw [List.length_set]; exact h.len, fun i u hu => ?_⟩
  rw [List.getElem?_set] at hu
  by_cases e : j = i
  · subst e
    rw [if_pos rfl] at hu
    split at hu
    · cases hu; exact hv
    · cases hu
  · rw [if_neg e] at hu
    rw [hg i (Ne.symm e)]
    exact h.at_ i u hu
theorem MedRep.blank {F : Hp} {m : Nat} {f : Nat → Option Sec} (hf : ∀ j, f j = none) : MedRep F m (List.replicate m .non) f := ⟨List.length_replicate, fun j v hv => by
  rw [hf j]
  rw [List.getElem?_replicate] at hv
  split at hv
  · cases hv; rfl
  · cases hv⟩
theorem theL_get {D : DK} {d : Nat} (h : d < D.n) : (theL D)[d]? = some (.bl (D.there d)) := by unfold theL; rw [List.getElem?_map, List.getElem?_range h]; rfl
theorem medL_get {L : DL → Addr} {n d : Nat} (h : d < n) : (medL L n)[d]? = some (.ref (L (.med d))) := by unfold medL; rw [List.getElem?_map, List.getElem?_range h]; rfl
theorem waiL_get {L : DL → Addr} {n d : Nat} (h : d < n) : (waiL L n)[d]? = some (.ref (L (.wai d))) := by unfold waiL; rw [List.getElem?_map, List.getElem?_range h]; rfl
theorem theL_len {D : DK} : (theL D).length = D.n := by unfold theL; rw [List.length_map, List.length_range]
theorem medL_len {L : DL → Addr} {n : Nat} : (medL L n).length = n := by unfold medL; rw [List.length_map, List.length_range]
theorem waiL_len {L : DL → Addr} {n : Nat} : (waiL L n).length = n := by unfold waiL; rw [List.length_map, List.length_range]
theorem map_set_range {n d : Nat} {f : Nat → V} {v : V} : ((List.range n).map f).set d v = (List.range n).map fun e => if e = d then v else f e := by
  refine List.ext_getElem? fun i => ?_
  rw [List.getElem?_set, List.length_map, List.length_range, List.getElem?_map, List.getElem?_map]
  by_cases hi : i < n
  · rw [List.getElem?_range hi]
    by_cases e : d = i
    · subst e; rw [if_pos rfl, if_pos hi]; simp
    · rw [if_neg e]; simp [Ne.symm e]
  · rw [List.getElem?_eq_none (by rw [List.length_range]; omega)]
    by_cases e : d = i
    · subst e; rw [if_pos rfl, if_neg hi]; rfl
    · rw [if_neg e]; rfl
namespace DRep
variable {C dx szs : Addr} {H H' F F' Rs Rs' : Hp} {L : DL → Addr} {D D' : DK} {cm cw : Nat → List V} {d j : Nat}
theorem at_ (h : DRep C dx szs H F Rs L D cm cw) : DAt C H F Rs L D := ⟨dx, szs, cm, cw, h⟩
theorem hO (h : DRep C dx szs H F Rs L D cm cw) : H (L .obj) = some (.ins C dx (NMD.zip (flds szs L D))) := h.own.lay.at_ .obj trivial
theorem hT (h : DRep C dx szs H F Rs L D cm cw) : H (L .there) = some (.lst (theL D)) := h.own.lay.at_ .there trivial
theorem hM (h : DRep C dx szs H F Rs L D cm cw) : H (L .media) = some (.lst (medL L D.n)) := h.own.lay.at_ .media trivial
theorem hW (h : DRep C dx szs H F Rs L D cm cw) : H (L .wait) = some (.lst (waiL L D.n)) := h.own.lay.at_ .wait trivial
theorem hm (h : DRep C dx szs H F Rs L D cm cw) (hd : d < D.n) : H (L (.med d)) = some (.lst (cm d)) := h.own.lay.at_ (.med d) hd
theorem hw (h : DRep C dx szs H F Rs L D cm cw) (hd : d < D.n) : H (L (.wai d)) = some (.lst (cw d)) := h.own.lay.at_ (.wai d) hd
theorem hs (h : DRep C dx szs H F Rs L D cm cw) : H szs = some (.tup [.int (D.n : Nat), .int (D.m : Nat), .int (D.k : Nat), .int (D.s : Nat)]) := h.own.f _ _ h.sz
theorem ne (h : DRep C dx szs H F Rs L D cm cw) {x y : DL} (hx : dom D.n x) (hy : dom D.n y) (e : x ≠ y) : L x ≠ L y := h.own.lay.ne hx hy e
theorem ex (h : DRep C dx szs H F Rs L D cm cw) (e : Ex H H') : DRep C dx szs H' F Rs L D cm cw := { h with own := h.own.ex e }
theorem new {p : Addr} {o : HO} (h : DRep C dx szs H F Rs L D cm cw) (e : H p = none) : DRep C dx szs (upd H p o) F Rs L D cm cw := h.ex (Evl.Ex.new e)
theorem weak (h : DRep C dx szs H F Rs L D cm cw) (e : Ex Rs' Rs) : DRep C dx szs H F Rs' L D cm cw := { h with own := h.own.weak e }
theorem newR {p : Addr} {o : HO} (h : DRep C dx szs H F Rs L D cm cw) (e : H p = none) : DRep C dx szs (upd H p o) F (upd Rs p o) L D cm cw := { h with own := h.own.newR e }
theorem put {p : Addr} {o o' : HO} (h : DRep C dx szs H F Rs L D cm cw) (e : Rs p = some o) : DRep C dx szs (upd H p o') F (upd Rs p o') L D cm cw := { h with own := h.own.put e }
theorem ice {p : Addr} {o : HO} (h : DRep C dx szs H F Rs L D cm cw) (h2 : Rs p = none) (h3 : ∀ y, dom D.n y → L y ≠ p) (h1 : F p = none) (hp : H p = some o) : DRep C dx szs H (upd F p o) Rs L D cm cw :=
  ⟨h.own.ice h2 h3 hp, (ex_new h1) _ _ h.sz, h.n8, h.m2, fun d hd => (h.med d hd).ex (ex_new h1), fun d hd => (h.wai d hd).ex (ex_new h1)⟩
theorem newF {p : Addr} {o : HO} (h : DRep C dx szs H F Rs L D cm cw) (e : H p = none) : DRep C dx szs (upd H p o) (upd F p o) Rs L D cm cw :=
  (h.new e).ice (h.own.free e).2.1 (h.own.free e).2.2 (h.own.free e).1 upd_same
/-- numbers and switches -/
theorem fields (h : DRep C dx szs H F Rs L D cm cw) (e1 : D'.n = D.n) (e2 : D'.m = D.m) (e3 : D'.k = D.k) (e4 : D'.s = D.s) (e5 : D'.there = D.there) (e6 : D'.media = D.media) (e7 : D'.wait = D.wait) :
    DRep C dx szs (upd H (L .obj) (.ins C dx (NMD.zip (flds szs L D')))) F Rs L D' cm cw := by
  refine ⟨?_, ?_, ?_, ?_, ?_, ?_⟩
  · rw [e1]
    refine (h.own.set (x := DL.obj) trivial).cong fun x hx => ?_
    cases x with
    | obj => exact chg_same
    | there => rw [chg_ne (by intro z; cases z)]; show HO.lst (theL D) = HO.lst (theL D'); unfold theL; rw [e1, e5]
    | media => rw [chg_ne (by intro z; cases z)]; show HO.lst (medL L D.n) = HO.lst (medL L D'.n); rw [e1]
    | wait => rw [chg_ne (by intro z; cases z)]; show HO.lst (waiL L D.n) = HO.lst (waiL L D'.n); rw [e1]
    | med d => rw [chg_ne (by intro z; cases z)]; rfl
    | wai d => rw [chg_ne (by intro z; cases z)]; rfl
  · rw [e1, e2, e3, e4]; exact h.sz
  · rw [e1]; exact h.n8
  · rw [e2]; exact h.m2
  · rw [e1, e2, e6]; exact h.med
  · rw [e1, e2, e7]; exact h.wai
/-- a disk comes or goes -/
theorem setThere {b : Bool} (h : DRep C dx szs H F Rs L D cm cw) (hd : d < D.n) : DRep C dx szs (upd H (L .there) (.lst ((theL D).set d (.bl b)))) F Rs L { D with there := fun e => if e = d then b else D.there e } cm cw := by
  refine ⟨?_, h.sz, h.n8, h.m2, h.med, h.wai⟩
  refine (h.own.set (x := DL.there) trivial).cong fun x hx => ?_
  cases x with
  | there =>
    rw [chg_same]
    show HO.lst _ = HO.lst _
    unfold theL
    rw [map_set_range]
    congr 2
    funext e
    by_cases z : e = d <;> simp [z]
  | obj => rw [chg_ne (by intro z; cases z)]; rfl
  | media => rw [chg_ne (by intro z; cases z)]; rfl
  | wait => rw [chg_ne (by intro z; cases z)]; rfl
  | med d => rw [chg_ne (by intro z; cases z)]; rfl
  | wai d => rw [chg_ne (by intro z; cases z)]; rfl
/-- a sector of a medium -/
theorem setMed {v : V} {f : Nat → Nat → Option Sec} (h : DRep C dx szs H F Rs L D cm cw) (hd : d < D.n) (hv : CellRep F v (f d j)) (hf : ∀ i, i ≠ j → f d i = D.media d i) (hg : ∀ e, e ≠ d → f e = D.media e) :
    DRep C dx szs (upd H (L (.med d)) (.lst ((cm d).set j v))) F Rs L { D with media := f } (fun e => if e = d then (cm d).set j v else cm e) cw := by
  refine ⟨?_, h.sz, h.n8, h.m2, fun e he => ?_, h.wai⟩
  · refine (h.own.set (x := DL.med d) hd).cong fun x hx => ?_
    cases x with
    | med e =>
      by_cases z : e = d
      · subst z; rw [chg_same]; show _ = HO.lst (if e = e then _ else _); rw [if_pos rfl]
      · rw [chg_ne (by intro y; cases y; exact z rfl)]; show HO.lst (cm e) = HO.lst (if e = d then _ else _); rw [if_neg z]
    | there => rw [chg_ne (by intro z; cases z)]; rfl
    | obj => rw [chg_ne (by intro z; cases z)]; rfl
    | media => rw [chg_ne (by intro z; cases z)]; rfl
    | wait => rw [chg_ne (by intro z; cases z)]; rfl
    | wai d => rw [chg_ne (by intro z; cases z)]; rfl
  · show MedRep F D.m (if e = d then _ else _) (f e)
    by_cases z : e = d
    · subst z; rw [if_pos rfl]; exact (h.med e hd).set hv hf
    · rw [if_neg z, hg e z]; exact h.med e he
/-- nothing waits any more -/
theorem newWait {p : Addr} (h : DRep C dx szs H F Rs L D cm cw) (hd : d < D.n) (hp : H p = none) :
    DRep C dx szs (upd (upd H p (.lst [])) (L .wait) (.lst ((waiL L D.n).set d (.ref p)))) F Rs (chg L (.wai d) p) { D with wait := fun e => if e = d then [] else D.wait e } cm (fun e => if e = d then [] else cw e) := by
  have fr := h.own.free hp
  refine ⟨?_, h.sz, h.n8, h.m2, h.med, fun e he => ?_⟩
  · refine (((h.own.new hp (o := .lst [])).set (x := DL.wait) (o := .lst ((waiL L D.n).set d (.ref p))) trivial).mov (x := DL.wai d) (p := p) (o := .lst []) fr.1 fr.2.1 fr.2.2 ((upd_ne (fr.2.2 .wait trivial).symm).trans upd_same)).cong fun x hx => ?_
    have c0 : ∀ y : DL, y ≠ .wai d → chg L (.wai d) p y = L y := fun y hy => chg_ne hy
    cases x with
    | wai e =>
      by_cases z : e = d
      · subst z; rw [chg_same]; show _ = HO.lst (if e = e then _ else _); rw [if_pos rfl]
      · rw [chg_ne (by intro y; cases y; exact z rfl), chg_ne (by intro y; cases y)]; show HO.lst (cw e) = HO.lst (if e = d then _ else _); rw [if_neg z]
    | wait =>
      rw [chg_ne (by intro y; cases y), chg_same]
      show HO.lst _ = HO.lst _
      unfold waiL
      rw [map_set_range]
      congr 2
      funext e
      by_cases z : e = d
      · subst z; rw [if_pos rfl, chg_same]
      · rw [if_neg z, chg_ne (by intro y; cases y; exact z rfl)]
    | obj =>
      rw [chg_ne (by intro y; cases y), chg_ne (by intro y; cases y)]
      show HO.ins C dx (NMD.zip (flds szs L D)) = HO.ins C dx (NMD.zip (flds szs (chg L (.wai d) p) _))
      unfold flds
      rw [c0 .there (by intro y; cases y), c0 .media (by intro y; cases y), c0 .wait (by intro y; cases y)]
    | there => rw [chg_ne (by intro y; cases y), chg_ne (by intro y; cases y)]; rfl
    | media =>
      rw [chg_ne (by intro y; cases y), chg_ne (by intro y; cases y)]
      show HO.lst (medL L D.n) = HO.lst (medL (chg L (.wai d) p) D.n)
      unfold medL
      congr 2
      funext e
      rw [c0 (.med e) (by intro y; cases y)]
    | med e => rw [chg_ne (by intro y; cases y), chg_ne (by intro y; cases y)]; rfl
  · show WaiRep F D.m (if e = d then [] else cw e) (if e = d then [] else D.wait e)
    by_cases z : e = d
    · rw [if_pos z, if_pos z]; exact .nil
    · rw [if_neg z, if_neg z]; exact h.wai e he
/-- a blank medium -/
theorem newMed {p : Addr} (h : DRep C dx szs H F Rs L D cm cw) (hd : d < D.n) (hp : H p = none) :
    DRep C dx szs (upd (upd H p (.lst (List.replicate D.m .non))) (L .media) (.lst ((medL L D.n).set d (.ref p)))) F Rs (chg L (.med d) p) { D with media := fun e i => if e = d then none else D.media e i } (fun e => if e = d then List.replicate D.m .non else cm e) cw := by
  have fr := h.own.free hp
  refine ⟨?_, h.sz, h.n8, h.m2, fun e he => ?_, h.wai⟩
  · refine (((h.own.new hp (o := .lst (List.replicate D.m .non))).set (x := DL.media) (o := .lst ((medL L D.n).set d (.ref p))) trivial).mov (x := DL.med d) (p := p) (o := .lst (List.replicate D.m .non)) fr.1 fr.2.1 fr.2.2 ((upd_ne (fr.2.2 .media trivial).symm).trans upd_same)).cong fun x hx => ?_
    have c0 : ∀ y : DL, y ≠ .med d → chg L (.med d) p y = L y := fun y hy => chg_ne hy
    cases x with
    | med e =>
      by_cases z : e = d
      · subst z; rw [chg_same]; show _ = HO.lst (if e = e then _ else _); rw [if_pos rfl]
      · rw [chg_ne (by intro y; cases y; exact z rfl), chg_ne (by intro y; cases y)]; show HO.lst (cm e) = HO.lst (if e = d then _ else _); rw [if_neg z]
    | media =>
      rw [chg_ne (by intro y; cases y), chg_same]
      show HO.lst _ = HO.lst _
      unfold medL
      rw [map_set_range]
      congr 2
      funext e
      by_cases z : e = d
      · subst z; rw [if_pos rfl, chg_same]
      · rw [if_neg z, chg_ne (by intro y; cases y; exact z rfl)]
    | obj =>
      rw [chg_ne (by intro y; cases y), chg_ne (by intro y; cases y)]
      show HO.ins C dx (NMD.zip (flds szs L D)) = HO.ins C dx (NMD.zip (flds szs (chg L (.med d) p) _))
      unfold flds
      rw [c0 .there (by intro y; cases y), c0 .media (by intro y; cases y), c0 .wait (by intro y; cases y)]
    | there => rw [chg_ne (by intro y; cases y), chg_ne (by intro y; cases y)]; rfl
    | wait =>
      rw [chg_ne (by intro y; cases y), chg_ne (by intro y; cases y)]
      show HO.lst (waiL L D.n) = HO.lst (waiL (chg L (.med d) p) D.n)
      unfold waiL
      congr 2
      funext e
      rw [c0 (.wai e) (by intro y; cases y)]
    | wai e => rw [chg_ne (by intro y; cases y), chg_ne (by intro y; cases y)]; rfl
  · show MedRep F D.m (if e = d then _ else cm e) (fun i => if e = d then none else D.media e i)
    by_cases z : e = d
    · rw [if_pos z]; exact MedRep.blank fun j => by rw [if_pos z]
    · rw [if_neg z, show (fun i => if e = d then none else D.media e i) = D.media e from funext fun i => if_neg z]; exact h.med e he
/-- a write waits -/
theorem addWait {t p : Addr} {x : Sec} (h : DRep C dx szs H F Rs L D cm cw) (hd : d < D.n) (hj : j < D.m) (ht : F t = some (.tup [.int (j : Nat), .ref p])) (hp : F p = some (.lst x)) :
    DRep C dx szs (upd H (L (.wai d)) (.lst (cw d ++ [.ref t]))) F Rs L { D with wait := fun e => if e = d then D.wait e ++ [(j, x)] else D.wait e } cm (fun e => if e = d then cw e ++ [.ref t] else cw e) := by
  refine ⟨?_, h.sz, h.n8, h.m2, h.med, fun e he => ?_⟩
  · refine (h.own.set (x := DL.wai d) hd).cong fun x hx => ?_
    cases x with
    | wai e =>
      by_cases z : e = d
      · subst z; rw [chg_same]; show _ = HO.lst (if e = e then _ else _); rw [if_pos rfl]
      · rw [chg_ne (by intro y; cases y; exact z rfl)]; show HO.lst (cw e) = HO.lst (if e = d then _ else _); rw [if_neg z]
    | there => rw [chg_ne (by intro z; cases z)]; rfl
    | obj => rw [chg_ne (by intro z; cases z)]; rfl
    | media => rw [chg_ne (by intro z; cases z)]; rfl
    | wait => rw [chg_ne (by intro z; cases z)]; rfl
    | med d => rw [chg_ne (by intro z; cases z)]; rfl
  · show WaiRep F D.m (if e = d then _ else cw e) (if e = d then _ else D.wait e)
    by_cases z : e = d
    · subst z; rw [if_pos rfl, if_pos rfl]; exact (h.wai e hd).snoc hj ht hp
    · rw [if_neg z, if_neg z]; exact h.wai e he
end DRep
end R
set_option Elab.async false
set_option linter.all false
set_option maxRecDepth 100000
set_option maxHeartbeats 4000000
namespace R
open PySem PySem.Spec L2
open Evl (Ex)
theorem putK_set : ∀ {kvs : List (Key × V)} {i : Nat} {k : Key} {v : V}, (kvs.map (·.1)).Nodup → (kvs.map (·.1))[i]? = some k → putK kvs k v = kvs.set i (k, v) := by
  intro kvs i k v nd hi
  have hk : ∃ x, kvs[i]? = some (k, x) := by
    rw [List.getElem?_map] at hi
    cases e : kvs[i]? with
    | none => rw [e] at hi; cases hi
    | some p => rw [e] at hi; cases hi; exact ⟨p.2, rfl⟩
  obtain ⟨x, hx⟩ := hk
  unfold putK
  rw [if_pos (List.any_eq_true.mpr ⟨(k, x), List.mem_of_getElem? hx, decide_eq_true rfl⟩)]
  refine List.ext_getElem? fun j => ?_
  rw [List.getElem?_map, List.getElem?_set]
  have hil : i < kvs.length := (List.getElem?_eq_some_iff.mp hx).1
  by_cases e : i = j
  · subst e
    rw [if_pos rfl, if_pos hil, hx]
    show some (if k = k then (k, v) else (k, x)) = _
    rw [if_pos rfl]
  · rw [if_neg e]
    cases ej : kvs[j]? with
    | none => rfl
    | some p =>
      show some (if p.1 = k then (p.1, v) else p) = some p
      rw [if_neg]
      intro z
      have h1 : (kvs.map (·.1))[j]? = some k := by rw [List.getElem?_map, ej]; exact congrArg some z
      exact e ((List.getElem?_inj (by rw [List.length_map]; exact hil) nd).mp (hi.trans h1.symm))
theorem putK_len {kvs : List (Key × V)} {k : Key} {v : V} : (putK kvs k v).length ≤ kvs.length + 1 := by
  unfold putK
  split
  · rw [List.length_map]; omega
  · rw [List.length_append]; exact Nat.le_refl _
/-! ### the world of law k34 -/
structure WM where
  n : Nat
  m : Nat
  aw : List Nat
  wait : Nat → List (Nat × Sec)
  media : Nat → Nat → Option Sec
  c0 : Nat
  c1 : Nat
  c2 : Nat
  secs : List Nat
  sz : Nat
inductive WL where
  | obj | away | wait | media | counts | sectors | med (d : Nat) | wai (d : Nat)
def domW (n : Nat) : WL → Prop
  | .med d => d < n
  | .wai d => d < n
  | _ => True
def modW (L : WL → Addr) (n : Nat) : List (Key × V) := [(.inr "n", .int (n : Nat)), (.inr "away", .ref (L .away)), (.inr "waiting", .ref (L .wait)), (.inr "media", .ref (L .media)), (.inr "counts", .ref (L .counts)), (.inr "sectors", .ref (L .sectors))]
theorem modW_keys (L : WL → Addr) (n : Nat) : (modW L n).map (·.1) = [.inr "n", .inr "away", .inr "waiting", .inr "media", .inr "counts", .inr "sectors"] := rfl
theorem modW_nodup (L : WL → Addr) (n : Nat) : ((modW L n).map (·.1)).Nodup := by rw [modW_keys]; decide +kernel
def natL (l : List Nat) : List V := l.map fun i : Nat => V.int i
def medW (L : WL → Addr) (n : Nat) : List V := (List.range n).map fun d => V.ref (L (.med d))
def waiW (L : WL → Addr) (n : Nat) : List V := (List.range n).map fun d => V.ref (L (.wai d))
def SW (L : WL → Addr) (W : WM) (cm : Nat → List (Key × V)) (cw : Nat → List V) : WL → HO
  | .obj => .dK (modW L W.n)
  | .away => .lst (natL W.aw)
  | .wait => .lst (waiW L W.n)
  | .media => .lst (medW L W.n)
  | .counts => .lst [.int (W.c0 : Nat), .int (W.c1 : Nat), .int (W.c2 : Nat)]
  | .sectors => .lst (natL W.secs)
  | .med d => .dK (cm d)
  | .wai d => .lst (cw d)
def noneW : Hp := fun _ => none
structure DictRep (F : Hp) (kvs : List (Key × V)) (f : Nat → Option Sec) (sz : Nat) : Prop where
  len : kvs.length ≤ sz
  at_ : ∀ j : Nat, match valV kvs (.inl (j : Int) : Key) with | none => f j = none | some v => CellRep F v (f j)
theorem DictRep.ex {F F' : Hp} {kvs : List (Key × V)} {f : Nat → Option Sec} {sz : Nat} (e : Ex F F') (h : DictRep F kvs f sz) : DictRep F' kvs f sz := ⟨h.len, fun j => by
  have := h.at_ j
  revert this
  cases valV kvs (.inl (j : Int) : Key) with
  | none => exact fun h => h
  | some v => exact fun h => h.ex e⟩
theorem DictRep.nil {F : Hp} {f : Nat → Option Sec} (hf : ∀ j, f j = none) {sz : Nat} : DictRep F [] f sz := ⟨Nat.zero_le _, fun j => hf j⟩
theorem DictRep.get {F : Hp} {kvs : List (Key × V)} {f : Nat → Option Sec} {sz : Nat} (h : DictRep F kvs f sz) (j : Nat) : CellRep F ((valV kvs (.inl (j : Int) : Key)).getD .non) (f j) := by
  have := h.at_ j
  revert this
  cases valV kvs (.inl (j : Int) : Key) with
  | none => intro h; rw [h]; exact rfl
  | some v => exact fun h => h
theorem DictRep.put {F : Hp} {kvs : List (Key × V)} {f g : Nat → Option Sec} {sz j : Nat} {v : V} (h : DictRep F kvs f sz) (hv : CellRep F v (g j)) (hg : ∀ i, i ≠ j → g i = f i) : DictRep F (putK kvs (.inl (j : Int)) v) g (sz + 1) := by
  refine ⟨Nat.le_trans putK_len (Nat.succ_le_succ h.len), fun i => ?_⟩
  rw [valV_put]
  by_cases e : i = j
  · subst e; rw [if_pos rfl]; exact hv
  · rw [if_neg (by intro z; injection z with z; omega), hg i e]
    exact h.at_ i
theorem DictRep.mono {F : Hp} {kvs : List (Key × V)} {f : Nat → Option Sec} {sz s2 : Nat} (h : DictRep F kvs f sz) (e : sz ≤ s2) : DictRep F kvs f s2 := ⟨Nat.le_trans h.len e, h.at_⟩
structure WRep (H F Rs : Hp) (L : WL → Addr) (W : WM) (cm : Nat → List (Key × V)) (cw : Nat → List V) : Prop where
  own : Own H noneW Rs (domW W.n) L (SW L W cm cw)
  n8 : W.n ≤ 8
  sl : W.secs.length = 4
  sm : ∀ j ∈ W.secs, j < W.m
  med : ∀ d, d < W.n → DictRep F (cm d) (W.media d) W.sz
  wai : ∀ d, d < W.n → WaiRep F W.m (cw d) (W.wait d)
def WAt (H F Rs : Hp) (L : WL → Addr) (W : WM) : Prop := ∃ cm cw, WRep H F Rs L W cm cw
theorem medW_get {L : WL → Addr} {n d : Nat} (h : d < n) : (medW L n)[d]? = some (.ref (L (.med d))) := by unfold medW; rw [List.getElem?_map, List.getElem?_range h]; rfl
theorem waiW_get {L : WL → Addr} {n d : Nat} (h : d < n) : (waiW L n)[d]? = some (.ref (L (.wai d))) := by unfold waiW; rw [List.getElem?_map, List.getElem?_range h]; rfl
theorem medW_len {L : WL → Addr} {n : Nat} : (medW L n).length = n := by unfold medW; rw [List.length_map, List.length_range]
theorem waiW_len {L : WL → Addr} {n : Nat} : (waiW L n).length = n := by unfold waiW; rw [List.length_map, List.length_range]
theorem chg_map {L : WL → Addr} {x : WL} {p : Addr} {n : Nat} {g : Nat → WL} (h : ∀ e, g e ≠ x) : ((List.range n).map fun d => V.ref (chg L x p (g d))) = (List.range n).map fun d => V.ref (L (g d)) := List.map_congr_left fun e _ => by rw [chg_ne (h e)]
namespace WRep
variable {H H' F F' Rs Rs' : Hp} {L : WL → Addr} {W : WM} {cm : Nat → List (Key × V)} {cw : Nat → List V} {d j : Nat}
theorem at_ (h : WRep H F Rs L W cm cw) : WAt H F Rs L W := ⟨cm, cw, h⟩
theorem hO (h : WRep H F Rs L W cm cw) : H (L .obj) = some (.dK (modW L W.n)) := h.own.lay.at_ .obj trivial
theorem hA (h : WRep H F Rs L W cm cw) : H (L .away) = some (.lst (natL W.aw)) := h.own.lay.at_ .away trivial
theorem hM (h : WRep H F Rs L W cm cw) : H (L .media) = some (.lst (medW L W.n)) := h.own.lay.at_ .media trivial
theorem hW (h : WRep H F Rs L W cm cw) : H (L .wait) = some (.lst (waiW L W.n)) := h.own.lay.at_ .wait trivial
theorem hC (h : WRep H F Rs L W cm cw) : H (L .counts) = some (.lst [.int (W.c0 : Nat), .int (W.c1 : Nat), .int (W.c2 : Nat)]) := h.own.lay.at_ .counts trivial
theorem hS (h : WRep H F Rs L W cm cw) : H (L .sectors) = some (.lst (natL W.secs)) := h.own.lay.at_ .sectors trivial
theorem hm (h : WRep H F Rs L W cm cw) (hd : d < W.n) : H (L (.med d)) = some (.dK (cm d)) := h.own.lay.at_ (.med d) hd
theorem hw (h : WRep H F Rs L W cm cw) (hd : d < W.n) : H (L (.wai d)) = some (.lst (cw d)) := h.own.lay.at_ (.wai d) hd
theorem ex (h : WRep H F Rs L W cm cw) (e : Ex H H') : WRep H' F Rs L W cm cw := { h with own := h.own.ex e }
theorem exF (h : WRep H F Rs L W cm cw) (e : Ex F F') : WRep H F' Rs L W cm cw := { h with med := fun d hd => (h.med d hd).ex e, wai := fun d hd => (h.wai d hd).ex e }
theorem newR {p : Addr} {o : HO} (h : WRep H F Rs L W cm cw) (e : H p = none) : WRep (upd H p o) F (upd Rs p o) L W cm cw := { h with own := h.own.newR e }
theorem put {p : Addr} {o o' : HO} (h : WRep H F Rs L W cm cw) (e : Rs p = some o) : WRep (upd H p o') F (upd Rs p o') L W cm cw := { h with own := h.own.put e }
theorem weak (h : WRep H F Rs L W cm cw) (e : Ex Rs' Rs) : WRep H F Rs' L W cm cw := { h with own := h.own.weak e }
theorem setMed {v : V} {f : Nat → Nat → Option Sec} (h : WRep H F Rs L W cm cw) (hd : d < W.n) (hv : CellRep F v (f d j)) (hf : ∀ i, i ≠ j → f d i = W.media d i) (hg : ∀ e, e ≠ d → f e = W.media e) :
    WRep (upd H (L (.med d)) (.dK (putK (cm d) (.inl (j : Int)) v))) F Rs L { W with media := f, sz := W.sz + 1 } (fun e => if e = d then putK (cm d) (.inl (j : Int)) v else cm e) cw := by
  refine ⟨?_, h.n8, h.sl, h.sm, fun e he => ?_, h.wai⟩
  · refine (h.own.set (x := WL.med d) hd).cong fun x hx => ?_
    cases x with
    | med e =>
      by_cases z : e = d
      · subst z; rw [chg_same]; show _ = HO.dK (if e = e then _ else _); rw [if_pos rfl]
      · rw [chg_ne (by intro y; cases y; exact z rfl)]; show HO.dK (cm e) = HO.dK (if e = d then _ else _); rw [if_neg z]
    | _ => rw [chg_ne (by intro z; cases z)]; rfl
  · show DictRep F (if e = d then _ else _) (f e) (W.sz + 1)
    by_cases z : e = d
    · subst z; rw [if_pos rfl]; exact (h.med e hd).put hv hf
    · rw [if_neg z, hg e z]; exact (h.med e he).mono (Nat.le_succ _)
theorem newWait {p : Addr} (h : WRep H F Rs L W cm cw) (hd : d < W.n) (hp : H p = none) :
    WRep (upd (upd H p (.lst [])) (L .wait) (.lst ((waiW L W.n).set d (.ref p)))) F Rs (chg L (.wai d) p) { W with wait := fun e => if e = d then [] else W.wait e } cm (fun e => if e = d then [] else cw e) := by
  have fr := h.own.free hp
  refine ⟨?_, h.n8, h.sl, h.sm, h.med, fun e he => ?_⟩
  · refine (((h.own.new hp (o := .lst [])).set (x := WL.wait) (o := .lst ((waiW L W.n).set d (.ref p))) trivial).mov (x := WL.wai d) (p := p) (o := .lst []) fr.1 fr.2.1 fr.2.2 ((upd_ne (fr.2.2 .wait trivial).symm).trans upd_same)).cong fun x hx => ?_
    have c0 : ∀ y : WL, y ≠ .wai d → chg L (.wai d) p y = L y := fun y hy => chg_ne hy
    cases x with
    | wai e =>
      by_cases z : e = d
      · subst z; rw [chg_same]; show _ = HO.lst (if e = e then _ else _); rw [if_pos rfl]
      · rw [chg_ne (by intro y; cases y; exact z rfl), chg_ne (by intro y; cases y)]; show HO.lst (cw e) = HO.lst (if e = d then _ else _); rw [if_neg z]
    | wait =>
      rw [chg_ne (by intro y; cases y), chg_same]
      show HO.lst _ = HO.lst _
      unfold waiW
      rw [map_set_range]
      congr 2
      funext e
      by_cases z : e = d
      · subst z; rw [if_pos rfl, chg_same]
      · rw [if_neg z, chg_ne (by intro y; cases y; exact z rfl)]
    | obj =>
      rw [chg_ne (by intro y; cases y), chg_ne (by intro y; cases y)]
      show HO.dK (modW L W.n) = HO.dK (modW (chg L (.wai d) p) W.n)
      unfold modW
      rw [c0 .away (by intro y; cases y), c0 .media (by intro y; cases y), c0 .wait (by intro y; cases y), c0 .counts (by intro y; cases y), c0 .sectors (by intro y; cases y)]
    | media =>
      rw [chg_ne (by intro y; cases y), chg_ne (by intro y; cases y)]
      show HO.lst (medW L W.n) = HO.lst (medW (chg L (.wai d) p) W.n)
      unfold medW
      rw [chg_map (fun e => by intro y; cases y)]
    | _ => rw [chg_ne (by intro y; cases y), chg_ne (by intro y; cases y)]; rfl
  · show WaiRep F W.m (if e = d then [] else cw e) (if e = d then [] else W.wait e)
    by_cases z : e = d
    · rw [if_pos z, if_pos z]; exact .nil
    · rw [if_neg z, if_neg z]; exact h.wai e he
theorem newMed {p : Addr} (h : WRep H F Rs L W cm cw) (hd : d < W.n) (hp : H p = none) :
    WRep (upd (upd H p (.dK [])) (L .media) (.lst ((medW L W.n).set d (.ref p)))) F Rs (chg L (.med d) p) { W with media := fun e i => if e = d then none else W.media e i } (fun e => if e = d then [] else cm e) cw := by
  have fr := h.own.free hp
  refine ⟨?_, h.n8, h.sl, h.sm, fun e he => ?_, h.wai⟩
  · refine (((h.own.new hp (o := .dK [])).set (x := WL.media) (o := .lst ((medW L W.n).set d (.ref p))) trivial).mov (x := WL.med d) (p := p) (o := .dK []) fr.1 fr.2.1 fr.2.2 ((upd_ne (fr.2.2 .media trivial).symm).trans upd_same)).cong fun x hx => ?_
    have c0 : ∀ y : WL, y ≠ .med d → chg L (.med d) p y = L y := fun y hy => chg_ne hy
    cases x with
    | med e =>
      by_cases z : e = d
      · subst z; rw [chg_same]; show _ = HO.dK (if e = e then _ else _); rw [if_pos rfl]
      · rw [chg_ne (by intro y; cases y; exact z rfl), chg_ne (by intro y; cases y)]; show HO.dK (cm e) = HO.dK (if e = d then _ else _); rw [if_neg z]
    | media =>
      rw [chg_ne (by intro y; cases y), chg_same]
      show HO.lst _ = HO.lst _
      unfold medW
      rw [map_set_range]
      congr 2
      funext e
      by_cases z : e = d
      · subst z; rw [if_pos rfl, chg_same]
      · rw [if_neg z, chg_ne (by intro y; cases y; exact z rfl)]
    | obj =>
      rw [chg_ne (by intro y; cases y), chg_ne (by intro y; cases y)]
      show HO.dK (modW L W.n) = HO.dK (modW (chg L (.med d) p) W.n)
      unfold modW
      rw [c0 .away (by intro y; cases y), c0 .media (by intro y; cases y), c0 .wait (by intro y; cases y), c0 .counts (by intro y; cases y), c0 .sectors (by intro y; cases y)]
    | wait =>
      rw [chg_ne (by intro y; cases y), chg_ne (by intro y; cases y)]
      show HO.lst (waiW L W.n) = HO.lst (waiW (chg L (.med d) p) W.n)
      unfold waiW
      rw [chg_map (fun e => by intro y; cases y)]
    | _ => rw [chg_ne (by intro y; cases y), chg_ne (by intro y; cases y)]; rfl
  · show DictRep F (if e = d then _ else cm e) (fun i => if e = d then none else W.media e i) W.sz
    by_cases z : e = d
    · rw [if_pos z]; exact DictRep.nil fun j => by rw [if_pos z]
    · rw [if_neg z, show (fun i => if e = d then none else W.media e i) = W.media e from funext fun i => if_neg z]; exact h.med e he
theorem addWait {t p : Addr} {x : Sec} (h : WRep H F Rs L W cm cw) (hd : d < W.n) (hj : j < W.m) (ht : F t = some (.tup [.int (j : Nat), .ref p])) (hp : F p = some (.lst x)) :
    WRep (upd H (L (.wai d)) (.lst (cw d ++ [.ref t]))) F Rs L { W with wait := fun e => if e = d then W.wait e ++ [(j, x)] else W.wait e } cm (fun e => if e = d then cw e ++ [.ref t] else cw e) := by
  refine ⟨?_, h.n8, h.sl, h.sm, h.med, fun e he => ?_⟩
  · refine (h.own.set (x := WL.wai d) hd).cong fun x hx => ?_
    cases x with
    | wai e =>
      by_cases z : e = d
      · subst z; rw [chg_same]; show _ = HO.lst (if e = e then _ else _); rw [if_pos rfl]
      · rw [chg_ne (by intro y; cases y; exact z rfl)]; show HO.lst (cw e) = HO.lst (if e = d then _ else _); rw [if_neg z]
    | _ => rw [chg_ne (by intro z; cases z)]; rfl
  · show WaiRep F W.m (if e = d then _ else cw e) (if e = d then _ else W.wait e)
    by_cases z : e = d
    · subst z; rw [if_pos rfl, if_pos rfl]; exact (h.wai e hd).snoc hj ht hp
    · rw [if_neg z, if_neg z]; exact h.wai e he
theorem setCounts {a b c : Nat} (h : WRep H F Rs L W cm cw) : WRep (upd H (L .counts) (.lst [.int (a : Nat), .int (b : Nat), .int (c : Nat)])) F Rs L { W with c0 := a, c1 := b, c2 := c } cm cw := by
  refine ⟨?_, h.n8, h.sl, h.sm, h.med, h.wai⟩
  refine (h.own.set (x := WL.counts) trivial).cong fun x hx => ?_
  cases x with
  | counts => rw [chg_same]; rfl
  | _ => rw [chg_ne (by intro z; cases z)]; rfl
theorem newAway {p : Addr} {a : List Nat} (h : WRep H F Rs L W cm cw) (hp : H p = none) :
    WRep (upd (upd H p (.lst (natL a))) (L .obj) (.dK (putK (modW L W.n) (.inr "away") (.ref p)))) F Rs (chg L .away p) { W with aw := a } cm cw := by
  have fr := h.own.free hp
  have e1 : putK (modW L W.n) (.inr "away") (.ref p) = modW (chg L .away p) W.n := by
    rw [putK_set (i := 1) (modW_nodup L W.n) (by rw [modW_keys]; rfl)]
    unfold modW
    rw [chg_same, chg_ne (y := WL.wait) (by intro y; cases y), chg_ne (y := WL.media) (by intro y; cases y), chg_ne (y := WL.counts) (by intro y; cases y), chg_ne (y := WL.sectors) (by intro y; cases y)]
    rfl
  rw [e1]
  refine ⟨?_, h.n8, h.sl, h.sm, h.med, h.wai⟩
  refine (((h.own.new hp (o := .lst (natL a))).set (x := WL.obj) (o := .dK (modW (chg L .away p) W.n)) trivial).mov (x := WL.away) (p := p) (o := .lst (natL a)) fr.1 fr.2.1 fr.2.2 ((upd_ne (fr.2.2 .obj trivial).symm).trans upd_same)).cong fun x hx => ?_
  cases x with
  | away => rw [chg_same]; rfl
  | obj => rw [chg_ne (by intro y; cases y), chg_same]; rfl
  | wait =>
    rw [chg_ne (by intro y; cases y), chg_ne (by intro y; cases y)]
    show HO.lst (waiW L W.n) = HO.lst (waiW (chg L .away p) W.n)
    unfold waiW
    rw [chg_map (fun e => by intro y; cases y)]
  | media =>
    rw [chg_ne (by intro y; cases y), chg_ne (by intro y; cases y)]
    show HO.lst (medW L W.n) = HO.lst (medW (chg L .away p) W.n)
    unfold medW
    rw [chg_map (fun e => by intro y; cases y)]
  | _ => rw [chg_ne (by intro y; cases y), chg_ne (by intro y; cases y)]; rfl
end WRep
/-! ### both at once -/
structure We (C : Addr) (H F Rs R2 : Hp) (L : DL → Addr) (D : DK) (LM : WL → Addr) (W : WM) : Prop where
  d : DAt C H F Rs L D
  m : WAt Rs F R2 LM W
def IsSec (x : Sec) : Prop := ∃ ns : List Int, x = ns.map V.int ∧ ns.length = 32
structure RelW (D : DK) (W : WM) : Prop where
  n : W.n = D.n
  m : W.m = D.m
  n0 : 4 ≤ D.n
  there : ∀ d, d < D.n → D.there d = decide (d ∉ W.aw)
  wait : ∀ d, d < D.n → W.wait d = D.wait d
  media : ∀ d, d < D.n → D.there d = true → ∀ j ∈ W.secs, W.media d j = D.media d j
  gone : ∀ d, d < D.n → D.there d = false → D.wait d = [] ∧ ∀ j, D.media d j = none
  c0 : W.c0 = D.reads
  c1 : W.c1 = D.writes
  c2 : W.c2 = D.syncs
  secW : ∀ d, d < D.n → ∀ w ∈ D.wait d, IsSec w.2 ∧ w.1 ∈ W.secs
  secM : ∀ d, d < D.n → ∀ j x, D.media d j = some x → IsSec x
theorem foldl_agreeS {S : List Nat} : ∀ (zs : List ((Nat × Sec) × Bool)) {f g : Nat → Option Sec}, (∀ j ∈ S, f j = g j) → ∀ j ∈ S, zs.foldl step f j = zs.foldl step g j
  | [], _, _, h, j, hj => h j hj
  | z :: zs, f, g, h, j, hj => by
    refine foldl_agreeS zs (fun i hi => ?_) j hj
    unfold step
    split
    · show (if i = z.1.1 then _ else _) = (if i = z.1.1 then _ else _)
      split
      · rfl
      · exact h i hi
    · exact h i hi
theorem foldl_secS : ∀ (zs : List ((Nat × Sec) × Bool)) {f : Nat → Option Sec}, (∀ z ∈ zs, IsSec z.1.2) → (∀ j x, f j = some x → IsSec x) → ∀ j x, zs.foldl step f j = some x → IsSec x
  | [], _, _, h, j, x, hj => h j x hj
  | z :: zs, f, hz, h, j, x, hj => by
    refine foldl_secS zs (fun y hy => hz y (List.mem_cons_of_mem _ hy)) (fun i y hi => ?_) j x hj
    unfold step at hi
    split at hi
    · have hi : (if i = z.1.1 then some z.1.2 else f i) = some y := hi
      split at hi
      · cases hi; exact hz z (List.mem_cons_self ..)
      · exact h i y hi
    · exact h i y hi
theorem lastW_memS {ws : List (Nat × Sec)} {j : Nat} {x : Sec} (h : lastW ws j = some x) : ∃ w ∈ ws, w.2 = x := by
  unfold lastW at h
  cases e : ws.reverse.find? (fun w => w.1 == j) with
  | none => rw [e] at h; cases h
  | some w =>
    rw [e] at h
    cases h
    exact ⟨w, List.mem_reverse.mp (List.mem_of_find?_eq_some e), rfl⟩
def WM.cell (W : WM) (d j : Nat) : Option Sec := (lastW (W.wait d) j).or (W.media d j)
/-- all that waits is laid, disk by disk -/
def WM.settles (W : WM) (K : Nat → List Bool) (i s : Nat) : WM := { W with media := fun e => if e < i then layW (W.media e) (W.wait e) (K e) else W.media e, wait := fun e => if e < i then [] else W.wait e, sz := s }
namespace RelW
variable {D : DK} {W : WM} {d j : Nat} {x : Sec}
theorem cell (h : RelW D W) (hd : d < D.n) (hj : j ∈ W.secs) : (if d ∈ W.aw then none else W.cell d j) = D.cell d j := by
  have ht := h.there d hd
  by_cases e : d ∈ W.aw
  · rw [if_pos e]
    rw [decide_eq_false (fun z => z e)] at ht
    obtain ⟨g1, g2⟩ := h.gone d hd ht
    unfold DK.cell
    rw [g1, g2 j]
    rfl
  · rw [if_neg e]
    rw [decide_eq_true e] at ht
    unfold WM.cell DK.cell
    rw [h.wait d hd, h.media d hd ht j hj]
theorem sec (h : RelW D W) (hd : d < D.n) : ∀ x, D.cell d j = some x → IsSec x := fun x hx => by
  unfold DK.cell at hx
  cases e : lastW (D.wait d) j with
  | none => rw [e] at hx; exact h.secM d hd j x hx
  | some y =>
    rw [e] at hx
    cases hx
    obtain ⟨w, hw, rfl⟩ := lastW_memS e
    exact (h.secW d hd w hw).1
/-- what does not matter -/
theorem cong {D' : DK} (h : RelW D W) (e1 : D'.n = D.n) (e2 : D'.m = D.m) (e3 : D'.there = D.there) (e4 : D'.wait = D.wait) (e5 : D'.media = D.media) (e6 : D'.reads = D.reads) (e7 : D'.writes = D.writes) (e8 : D'.syncs = D.syncs) : RelW D' W := by
  refine ⟨h.n.trans e1.symm, h.m.trans e2.symm, e1.symm ▸ h.n0, fun d hd => ?_, fun d hd => ?_, fun d hd => ?_, fun d hd => ?_, h.c0.trans e6.symm, h.c1.trans e7.symm, h.c2.trans e8.symm, fun d hd => ?_, fun d hd => ?_⟩ <;> rw [e1] at hd
  · rw [e3]; exact h.there d hd
  · rw [e4]; exact h.wait d hd
  · rw [e3, e5]; exact h.media d hd
  · rw [e3, e4, e5]; exact h.gone d hd
  · rw [e4]; exact h.secW d hd
  · rw [e5]; exact h.secM d hd
theorem fail (h : RelW D W) : RelW D.fail W := h.cong rfl rfl rfl rfl rfl rfl rfl rfl
theorem tick (h : RelW D W) : RelW D.tick W := h.cong rfl rfl rfl rfl rfl rfl rfl rfl
theorem settles (h : RelW D W) (K : Nat → List Bool) (s : Nat) (D' : DK) (c : Nat) (e1 : D'.n = D.n) (e2 : D'.m = D.m) (e5 : D'.there = D.there) (e6 : D'.media = (D.settles K D.n).media) (e7 : D'.wait = (D.settles K D.n).wait) (e8 : D'.reads = D.reads) (e9 : D'.writes = D.writes) (e10 : D'.syncs = c) : RelW D' { W.settles K D.n s with c2 := c } := by
  have sm : ∀ d, d < D.n → (D.settles K D.n).media d = layW (D.media d) (D.wait d) (K d) := fun d hd => if_pos hd
  have sw : ∀ d, d < D.n → (D.settles K D.n).wait d = [] := fun d hd => if_pos hd
  have wm : ∀ d, d < D.n → (W.settles K D.n s).media d = layW (W.media d) (W.wait d) (K d) := fun d hd => if_pos hd
  have ww : ∀ d, d < D.n → (W.settles K D.n s).wait d = [] := fun d hd => if_pos hd
  refine ⟨h.n.trans e1.symm, h.m.trans e2.symm, e1.symm ▸ h.n0, fun d hd => ?_, fun d hd => ?_, fun d hd ht j hj => ?_, fun d hd ht => ?_, h.c0.trans e8.symm, h.c1.trans e9.symm, e10.symm, fun d hd w hw => ?_, fun d hd j x hx => ?_⟩ <;> rw [e1] at hd
  · rw [e5]; exact h.there d hd
  · show (W.settles K D.n s).wait d = _
    rw [e7, ww d hd, sw d hd]
  · rw [e5] at ht
    show (W.settles K D.n s).media d j = _
    rw [e6, sm d hd, wm d hd, h.wait d hd]
    exact foldl_agreeS _ (h.media d hd ht) j hj
  · rw [e5] at ht
    obtain ⟨g1, g2⟩ := h.gone d hd ht
    refine ⟨by rw [e7, sw d hd], fun j => ?_⟩
    rw [e6, sm d hd, g1, layW_nil, g2 j]
  · rw [e7, sw d hd] at hw; cases hw
  · rw [e6, sm d hd] at hx; exact foldl_secS _ (fun z hz => (h.secW d hd z.1 (List.of_mem_zip hz).1).1) (h.secM d hd) j x hx
theorem write (h : RelW D W) (hd : d < D.n) (hx : IsSec x) (hj : j ∈ W.secs) : RelW (D.write d j x) (if d ∈ W.aw then W else { W with wait := fun e => if e = d then W.wait e ++ [(j, x)] else W.wait e, c1 := W.c1 + 1 }) := by
  have ht := h.there d hd
  by_cases e : d ∈ W.aw
  · rw [if_pos e]
    rw [decide_eq_false (fun z => z e)] at ht
    have e' : D.write d j x = D.tick := by unfold DK.write; rw [ht]; rfl
    rw [e']
    exact h.tick
  · rw [if_neg e]
    rw [decide_eq_true e] at ht
    have e' : D.write d j x = { D.tick with writes := D.writes + 1, wait := fun e => if e = d then D.wait e ++ [(j, x)] else D.wait e } := by unfold DK.write; rw [ht]; rfl
    rw [e']
    refine ⟨h.n, h.m, h.n0, h.there, fun e he => ?_, h.media, fun e he ht' => ?_, h.c0, congrArg (· + 1) h.c1, h.c2, fun e he w hw => ?_, h.secM⟩
    · show (if e = d then _ else _) = (if e = d then _ else _)
      rw [h.wait e he]
    · have ht' : D.there e = false := ht'
      obtain ⟨g1, g2⟩ := h.gone e he ht'
      refine ⟨?_, g2⟩
      show (if e = d then _ else _) = _
      rw [if_neg (by intro z; rw [z, ht] at ht'; cases ht'), g1]
    · have hw : w ∈ (if e = d then D.wait e ++ [(j, x)] else D.wait e) := hw
      split at hw
      · rcases List.mem_append.mp hw with hw | hw
        · exact h.secW e he w hw
        · rw [List.mem_singleton] at hw; subst hw; exact ⟨hx, hj⟩
      · exact h.secW e he w hw
theorem rot (h : RelW D W) (hd : d < D.n) (hx : IsSec x) (s : Nat) : RelW (D.rot d j x) (if d ∈ W.aw then W else { W with media := fun e i => if e = d ∧ i = j then some x else W.media e i, sz := s }) := by
  have ht := h.there d hd
  by_cases e : d ∈ W.aw
  · rw [if_pos e]
    rw [decide_eq_false (fun z => z e)] at ht
    have e' : D.rot d j x = D := by unfold DK.rot; rw [ht]; rfl
    rw [e']
    exact h
  · rw [if_neg e]
    rw [decide_eq_true e] at ht
    have e' : D.rot d j x = { D with media := fun e i => if e = d ∧ i = j then some x else D.media e i } := by unfold DK.rot; rw [ht]; rfl
    rw [e']
    refine ⟨h.n, h.m, h.n0, h.there, h.wait, fun e he ht' i hi => ?_, fun e he ht' => ?_, h.c0, h.c1, h.c2, h.secW, fun e he i y hy => ?_⟩
    · show (if e = d ∧ i = j then _ else _) = (if e = d ∧ i = j then _ else _)
      rw [h.media e he ht' i hi]
    · have ht' : D.there e = false := ht'
      obtain ⟨g1, g2⟩ := h.gone e he ht'
      refine ⟨g1, fun i => ?_⟩
      show (if e = d ∧ i = j then _ else _) = _
      rw [if_neg (by intro z; rw [z.1, ht] at ht'; cases ht'), g2 i]
    · have hy : (if e = d ∧ i = j then some x else D.media e i) = some y := hy
      split at hy
      · cases hy; exact hx
      · exact h.secM e he i y hy
theorem bad (h : RelW D W) (s : Nat) : RelW (D.bad d j) { W with media := fun e i => if e = d ∧ i = j then none else W.media e i, sz := s } := by
  refine ⟨h.n, h.m, h.n0, h.there, h.wait, fun e he ht' i hi => ?_, fun e he ht' => ?_, h.c0, h.c1, h.c2, h.secW, fun e he i y hy => ?_⟩
  · show (if e = d ∧ i = j then _ else _) = (if e = d ∧ i = j then _ else _)
    rw [h.media e he ht' i hi]
  · obtain ⟨g1, g2⟩ := h.gone e he ht'
    refine ⟨g1, fun i => ?_⟩
    show (if e = d ∧ i = j then _ else _) = _
    rw [g2 i]; split <;> rfl
  · have hy : (if e = d ∧ i = j then none else D.media e i) = some y := hy
    split at hy
    · cases hy
    · exact h.secM e he i y hy
theorem away (h : RelW D W) : RelW (D.away d) { W with aw := W.aw ++ [d], wait := fun e => if e = d then [] else W.wait e } := by
  refine ⟨h.n, h.m, h.n0, fun e he => ?_, fun e he => ?_, fun e he ht' i hi => ?_, fun e he ht' => ?_, h.c0, h.c1, h.c2, fun e he w hw => ?_, fun e he i y hy => ?_⟩
  · show (if e = d then false else D.there e) = decide (e ∉ W.aw ++ [d])
    by_cases z : e = d
    · rw [if_pos z]; symm; rw [decide_eq_false_iff_not]; intro y; exact y (by rw [z]; simp)
    · rw [if_neg z, h.there e he]
      have : (e ∉ W.aw ++ [d]) ↔ (e ∉ W.aw) := by rw [List.mem_append, List.mem_singleton]; exact ⟨fun y q => y (.inl q), fun y q => q.elim y z⟩
      exact (decide_eq_decide.mpr this).symm
  · show (if e = d then _ else _) = (if e = d then _ else _)
    rw [h.wait e he]
  · have ht' : (if e = d then false else D.there e) = true := ht'
    split at ht'
    · cases ht'
    · rename_i z
      show _ = (if e = d then none else D.media e i)
      rw [if_neg z]
      exact h.media e he ht' i hi
  · have ht' : (if e = d then false else D.there e) = false := ht'
    show (if e = d then [] else D.wait e) = [] ∧ ∀ i, (if e = d then none else D.media e i) = none
    split at ht'
    · rename_i z
      exact ⟨if_pos z, fun i => if_pos z⟩
    · rename_i z
      obtain ⟨g1, g2⟩ := h.gone e he ht'
      exact ⟨(if_neg z).trans g1, fun i => (if_neg z).trans (g2 i)⟩
  · have hw : w ∈ (if e = d then [] else D.wait e) := hw
    split at hw
    · cases hw
    · exact h.secW e he w hw
  · have hy : (if e = d then none else D.media e i) = some y := hy
    split at hy
    · cases hy
    · exact h.secM e he i y hy
theorem blank (h : RelW D W) : RelW (D.blank d) { W with aw := W.aw.filter fun e => decide (e ≠ d), wait := fun e => if e = d then [] else W.wait e, media := fun e i => if e = d then none else W.media e i } := by
  refine ⟨h.n, h.m, h.n0, fun e he => ?_, fun e he => ?_, fun e he ht' i hi => ?_, fun e he ht' => ?_, h.c0, h.c1, h.c2, fun e he w hw => ?_, fun e he i y hy => ?_⟩
  · show (if e = d then true else D.there e) = decide (e ∉ W.aw.filter fun e => decide (e ≠ d))
    by_cases z : e = d
    · rw [if_pos z]; symm; rw [decide_eq_true_iff]; intro y; have := (List.mem_filter.mp y).2; exact of_decide_eq_true this z
    · rw [if_neg z, h.there e he]
      have : (e ∉ W.aw.filter fun e => decide (e ≠ d)) ↔ (e ∉ W.aw) := ⟨fun y q => y (List.mem_filter.mpr ⟨q, decide_eq_true z⟩), fun y q => y (List.mem_filter.mp q).1⟩
      exact (decide_eq_decide.mpr this).symm
  · show (if e = d then _ else _) = (if e = d then _ else _)
    rw [h.wait e he]
  · have ht' : (if e = d then true else D.there e) = true := ht'
    show (if e = d then none else W.media e i) = (if e = d then none else D.media e i)
    split at ht'
    · rename_i z
      rw [if_pos z, if_pos z]
    · rename_i z
      rw [if_neg z, if_neg z]
      exact h.media e he ht' i hi
  · have ht' : (if e = d then true else D.there e) = false := ht'
    show (if e = d then [] else D.wait e) = [] ∧ ∀ i, (if e = d then none else D.media e i) = none
    split at ht'
    · cases ht'
    · rename_i z
      obtain ⟨g1, g2⟩ := h.gone e he ht'
      exact ⟨(if_neg z).trans g1, fun i => (if_neg z).trans (g2 i)⟩
  · have hw : w ∈ (if e = d then [] else D.wait e) := hw
    split at hw
    · cases hw
    · exact h.secW e he w hw
  · have hy : (if e = d then none else D.media e i) = some y := hy
    split at hy
    · cases hy
    · exact h.secM e he i y hy
end RelW
end R
set_option Elab.async false
set_option linter.all false
set_option maxRecDepth 100000
set_option maxHeartbeats 4000000
namespace R
open PySem PySem.Spec L2
open Evl (Ex)
def topS (i : Nat) : Stmt := PySem.Challenge.pw_rotward_k34_disks_while_power_is_off.main.body.getD i (.Pass ⟨0, 0, 0, 0⟩)
abbrev s_Disks_is_there : Stmt := inClass (topS 7) 5
theorem sc_Disks_is_there : FnScope ["self", "disk"] ["self", "disk"] (defScope s_Disks_is_there) := ⟨rfl, rfl, rfl, by decide +kernel, rfl, by decide +kernel, by decide +kernel⟩
abbrev s_Disks_pending : Stmt := inClass (topS 7) 7
theorem sc_Disks_pending : FnScope ["self", "disk"] ["self", "disk"] (defScope s_Disks_pending) := ⟨rfl, rfl, rfl, by decide +kernel, rfl, by decide +kernel, by decide +kernel⟩
abbrev s_Disks_cell : Stmt := inClass (topS 7) 6
theorem sc_Disks_cell : FnScope ["self", "disk", "sector", "at", "data", "content"] ["self", "disk", "sector"] (defScope s_Disks_cell) := ⟨rfl, rfl, rfl, by decide +kernel, rfl, by decide +kernel, by decide +kernel⟩
abbrev s_Disks__fail : Stmt := inClass (topS 7) 18
theorem sc_Disks__fail : FnScope ["self"] ["self"] (defScope s_Disks__fail) := ⟨rfl, rfl, rfl, by decide +kernel, rfl, by decide +kernel, by decide +kernel⟩
abbrev s_Disks__operate : Stmt := inClass (topS 7) 17
theorem sc_Disks__operate : FnScope ["self"] ["self"] (defScope s_Disks__operate) := ⟨rfl, rfl, rfl, by decide +kernel, rfl, by decide +kernel, by decide +kernel⟩
abbrev s_Disks_ask : Stmt := inClass (topS 7) 8
theorem sc_Disks_ask : FnScope ["self", "disk", "sector"] ["self", "disk", "sector"] (defScope s_Disks_ask) := ⟨rfl, rfl, rfl, by decide +kernel, rfl, by decide +kernel, by decide +kernel⟩
abbrev s_Disks_write : Stmt := inClass (topS 7) 9
theorem sc_Disks_write : FnScope ["self", "disk", "sector", "data"] ["self", "disk", "sector", "data"] (defScope s_Disks_write) := ⟨rfl, rfl, rfl, by decide +kernel, rfl, by decide +kernel, by decide +kernel⟩
abbrev s_Disks__settle : Stmt := inClass (topS 7) 19
theorem sc_Disks__settle : FnScope ["self", "disk", "kept", "medium", "sector", "data", "arrives"] ["self", "disk", "kept"] (defScope s_Disks__settle) := ⟨rfl, rfl, rfl, by decide +kernel, rfl, by decide +kernel, by decide +kernel⟩
abbrev s_Disks_sync : Stmt := inClass (topS 7) 10
theorem sc_Disks_sync : FnScope ["self", "disk"] ["self"] (defScope s_Disks_sync) := ⟨rfl, rfl, rfl, by decide +kernel, rfl, by decide +kernel, by decide +kernel⟩
abbrev s_Disks_rot : Stmt := inClass (topS 7) 11
theorem sc_Disks_rot : FnScope ["self", "disk", "sector", "data"] ["self", "disk", "sector", "data"] (defScope s_Disks_rot) := ⟨rfl, rfl, rfl, by decide +kernel, rfl, by decide +kernel, by decide +kernel⟩
abbrev s_Disks_bad : Stmt := inClass (topS 7) 12
theorem sc_Disks_bad : FnScope ["self", "disk", "sector"] ["self", "disk", "sector"] (defScope s_Disks_bad) := ⟨rfl, rfl, rfl, by decide +kernel, rfl, by decide +kernel, by decide +kernel⟩
abbrev s_Disks__empty : Stmt := inClass (topS 7) 20
theorem sc_Disks__empty : FnScope ["self", "disk"] ["self", "disk"] (defScope s_Disks__empty) := ⟨rfl, rfl, rfl, by decide +kernel, rfl, by decide +kernel, by decide +kernel⟩
abbrev s_Disks_away : Stmt := inClass (topS 7) 13
theorem sc_Disks_away : FnScope ["self", "disk"] ["self", "disk"] (defScope s_Disks_away) := ⟨rfl, rfl, rfl, by decide +kernel, rfl, by decide +kernel, by decide +kernel⟩
abbrev s_Disks_blank : Stmt := inClass (topS 7) 14
theorem sc_Disks_blank : FnScope ["self", "disk"] ["self", "disk"] (defScope s_Disks_blank) := ⟨rfl, rfl, rfl, by decide +kernel, rfl, by decide +kernel, by decide +kernel⟩
abbrev s_Disks_power : Stmt := inClass (topS 7) 16
theorem sc_Disks_power : FnScope ["self", "kept", "disk"] ["self", "kept"] (defScope s_Disks_power) := ⟨rfl, rfl, rfl, by decide +kernel, rfl, by decide +kernel, by decide +kernel⟩
abbrev s_is_number : Stmt := topS 5
theorem sc_is_number : FnScope ["value", "low", "high"] ["value", "low", "high"] (defScope s_is_number) := ⟨rfl, rfl, rfl, by decide +kernel, rfl, by decide +kernel, by decide +kernel⟩
abbrev s_check_sizes : Stmt := topS 6
theorem sc_check_sizes : FnScope ["disks", "sectors", "carrying", "depth"] ["disks", "sectors", "carrying", "depth"] (defScope s_check_sizes) := ⟨rfl, rfl, rfl, by decide +kernel, rfl, by decide +kernel, by decide +kernel⟩
abbrev s_Disks___init__ : Stmt := inClass (topS 7) 0
theorem sc_Disks___init__ : FnScope ["self", "disks", "sectors", "carrying", "depth", "_"] ["self", "disks", "sectors", "carrying", "depth"] (defScope s_Disks___init__) := ⟨rfl, rfl, rfl, by decide +kernel, rfl, by decide +kernel, by decide +kernel⟩
abbrev s_Disks_is_on : Stmt := inClass (topS 7) 3
theorem sc_Disks_is_on : FnScope ["self"] ["self"] (defScope s_Disks_is_on) := ⟨rfl, rfl, rfl, by decide +kernel, rfl, by decide +kernel, by decide +kernel⟩
abbrev s_Disks_losses : Stmt := inClass (topS 7) 4
theorem sc_Disks_losses : FnScope ["self"] ["self"] (defScope s_Disks_losses) := ⟨rfl, rfl, rfl, by decide +kernel, rfl, by decide +kernel, by decide +kernel⟩
abbrev s_Disks_counts : Stmt := inClass (topS 7) 2
theorem sc_Disks_counts : FnScope ["self"] ["self"] (defScope s_Disks_counts) := ⟨rfl, rfl, rfl, by decide +kernel, rfl, by decide +kernel, by decide +kernel⟩
abbrev s_Disks_fail_after : Stmt := inClass (topS 7) 15
theorem sc_Disks_fail_after : FnScope ["self", "operations"] ["self", "operations"] (defScope s_Disks_fail_after) := ⟨rfl, rfl, rfl, by decide +kernel, rfl, by decide +kernel, by decide +kernel⟩
structure Mg (mg : Str → Option Value) : Prop where
  n_bool : mg "bool" = none
  n_int : mg "int" = none
  n_isinstance : mg "isinstance" = none
  n_len : mg "len" = none
  n_list : mg "list" = none
  n_range : mg "range" = none
  n_reversed : mg "reversed" = none
  n_str : mg "str" = none
  n_tuple : mg "tuple" = none
  n_zip : mg "zip" = none
structure Tx_Disks (K : PySem.W.Frag) (C : Addr) : Prop where
  cl : Cls K C
  n_in_use : NoAttr K C "in_use"
  n_formatted : NoAttr K C "formatted"
  n_scrub_place : NoAttr K C "scrub_place"
  n__sizes : NoAttr K C "_sizes"
  n__there : NoAttr K C "_there"
  n__media : NoAttr K C "_media"
  n__waiting : NoAttr K C "_waiting"
  n__on : NoAttr K C "_on"
  n__left : NoAttr K C "_left"
  n__failures : NoAttr K C "_failures"
  n__reads : NoAttr K C "_reads"
  n__writes : NoAttr K C "_writes"
  n__syncs : NoAttr K C "_syncs"
abbrev NM_Disks : List Str := NMD
theorem nd_Disks : NM_Disks.Nodup := by decide +kernel
section
variable {K : PySem.W.Frag} {σ : L2.St} {H : Hp} {Q : VK} {n : L2.St → Hp → Prop} {x y v : V} {j k : Int} {C dx a : Addr} {vs vs' : List V} {sp : Sp} {E : L2.St → XK} {tA : TA}
theorem iF_Disks_in_use (T : Tx_Disks K C) (h : H a = some (.ins C dx (NM_Disks.zip vs))) (hv : vs[0]? = some v) (q : Q v H) : kFld K "in_use" Q (.ref a) H := iFldI T.cl T.n_in_use nd_Disks (s := 0) rfl h hv q
theorem iS_Disks_in_use (T : Tx_Disks K C) (h : H a = some (.ins C dx (NM_Disks.zip vs))) (hv : SetV vs 0 y vs') (q : n σ (upd H a (.ins C dx (NM_Disks.zip vs')))) : kSto K "in_use" n σ y (.ref a) H := iStoI T.cl T.n_in_use nd_Disks (by decide) (s := 0) rfl h hv q
theorem iN_Disks_in_use (T : Tx_Disks K C) (h : H a = some (.ins C dx (NM_Disks.zip vs))) (hl : vs.length = 0) (q : n σ (upd H a (.ins C dx (NM_Disks.zip (vs ++ [y]))))) : kSto K "in_use" n σ y (.ref a) H := iStoN T.cl T.n_in_use nd_Disks (by decide) (s := 0) rfl h hl q
theorem iF_Disks_formatted (T : Tx_Disks K C) (h : H a = some (.ins C dx (NM_Disks.zip vs))) (hv : vs[1]? = some v) (q : Q v H) : kFld K "formatted" Q (.ref a) H := iFldI T.cl T.n_formatted nd_Disks (s := 1) rfl h hv q
theorem iS_Disks_formatted (T : Tx_Disks K C) (h : H a = some (.ins C dx (NM_Disks.zip vs))) (hv : SetV vs 1 y vs') (q : n σ (upd H a (.ins C dx (NM_Disks.zip vs')))) : kSto K "formatted" n σ y (.ref a) H := iStoI T.cl T.n_formatted nd_Disks (by decide) (s := 1) rfl h hv q
theorem iN_Disks_formatted (T : Tx_Disks K C) (h : H a = some (.ins C dx (NM_Disks.zip vs))) (hl : vs.length = 1) (q : n σ (upd H a (.ins C dx (NM_Disks.zip (vs ++ [y]))))) : kSto K "formatted" n σ y (.ref a) H := iStoN T.cl T.n_formatted nd_Disks (by decide) (s := 1) rfl h hl q
theorem iF_Disks_scrub_place (T : Tx_Disks K C) (h : H a = some (.ins C dx (NM_Disks.zip vs))) (hv : vs[2]? = some v) (q : Q v H) : kFld K "scrub_place" Q (.ref a) H := iFldI T.cl T.n_scrub_place nd_Disks (s := 2) rfl h hv q
theorem iS_Disks_scrub_place (T : Tx_Disks K C) (h : H a = some (.ins C dx (NM_Disks.zip vs))) (hv : SetV vs 2 y vs') (q : n σ (upd H a (.ins C dx (NM_Disks.zip vs')))) : kSto K "scrub_place" n σ y (.ref a) H := iStoI T.cl T.n_scrub_place nd_Disks (by decide) (s := 2) rfl h hv q
theorem iN_Disks_scrub_place (T : Tx_Disks K C) (h : H a = some (.ins C dx (NM_Disks.zip vs))) (hl : vs.length = 2) (q : n σ (upd H a (.ins C dx (NM_Disks.zip (vs ++ [y]))))) : kSto K "scrub_place" n σ y (.ref a) H := iStoN T.cl T.n_scrub_place nd_Disks (by decide) (s := 2) rfl h hl q
theorem iF_Disks__sizes (T : Tx_Disks K C) (h : H a = some (.ins C dx (NM_Disks.zip vs))) (hv : vs[3]? = some v) (q : Q v H) : kFld K "_sizes" Q (.ref a) H := iFldI T.cl T.n__sizes nd_Disks (s := 3) rfl h hv q
theorem iS_Disks__sizes (T : Tx_Disks K C) (h : H a = some (.ins C dx (NM_Disks.zip vs))) (hv : SetV vs 3 y vs') (q : n σ (upd H a (.ins C dx (NM_Disks.zip vs')))) : kSto K "_sizes" n σ y (.ref a) H := iStoI T.cl T.n__sizes nd_Disks (by decide) (s := 3) rfl h hv q
theorem iN_Disks__sizes (T : Tx_Disks K C) (h : H a = some (.ins C dx (NM_Disks.zip vs))) (hl : vs.length = 3) (q : n σ (upd H a (.ins C dx (NM_Disks.zip (vs ++ [y]))))) : kSto K "_sizes" n σ y (.ref a) H := iStoN T.cl T.n__sizes nd_Disks (by decide) (s := 3) rfl h hl q
theorem iF_Disks__there (T : Tx_Disks K C) (h : H a = some (.ins C dx (NM_Disks.zip vs))) (hv : vs[4]? = some v) (q : Q v H) : kFld K "_there" Q (.ref a) H := iFldI T.cl T.n__there nd_Disks (s := 4) rfl h hv q
theorem iS_Disks__there (T : Tx_Disks K C) (h : H a = some (.ins C dx (NM_Disks.zip vs))) (hv : SetV vs 4 y vs') (q : n σ (upd H a (.ins C dx (NM_Disks.zip vs')))) : kSto K "_there" n σ y (.ref a) H := iStoI T.cl T.n__there nd_Disks (by decide) (s := 4) rfl h hv q
theorem iN_Disks__there (T : Tx_Disks K C) (h : H a = some (.ins C dx (NM_Disks.zip vs))) (hl : vs.length = 4) (q : n σ (upd H a (.ins C dx (NM_Disks.zip (vs ++ [y]))))) : kSto K "_there" n σ y (.ref a) H := iStoN T.cl T.n__there nd_Disks (by decide) (s := 4) rfl h hl q
theorem iF_Disks__media (T : Tx_Disks K C) (h : H a = some (.ins C dx (NM_Disks.zip vs))) (hv : vs[5]? = some v) (q : Q v H) : kFld K "_media" Q (.ref a) H := iFldI T.cl T.n__media nd_Disks (s := 5) rfl h hv q
theorem iS_Disks__media (T : Tx_Disks K C) (h : H a = some (.ins C dx (NM_Disks.zip vs))) (hv : SetV vs 5 y vs') (q : n σ (upd H a (.ins C dx (NM_Disks.zip vs')))) : kSto K "_media" n σ y (.ref a) H := iStoI T.cl T.n__media nd_Disks (by decide) (s := 5) rfl h hv q
theorem iN_Disks__media (T : Tx_Disks K C) (h : H a = some (.ins C dx (NM_Disks.zip vs))) (hl : vs.length = 5) (q : n σ (upd H a (.ins C dx (NM_Disks.zip (vs ++ [y]))))) : kSto K "_media" n σ y (.ref a) H := iStoN T.cl T.n__media nd_Disks (by decide) (s := 5) rfl h hl q
theorem iF_Disks__waiting (T : Tx_Disks K C) (h : H a = some (.ins C dx (NM_Disks.zip vs))) (hv : vs[6]? = some v) (q : Q v H) : kFld K "_waiting" Q (.ref a) H := iFldI T.cl T.n__waiting nd_Disks (s := 6) rfl h hv q
theorem iS_Disks__waiting (T : Tx_Disks K C) (h : H a = some (.ins C dx (NM_Disks.zip vs))) (hv : SetV vs 6 y vs') (q : n σ (upd H a (.ins C dx (NM_Disks.zip vs')))) : kSto K "_waiting" n σ y (.ref a) H := iStoI T.cl T.n__waiting nd_Disks (by decide) (s := 6) rfl h hv q
theorem iN_Disks__waiting (T : Tx_Disks K C) (h : H a = some (.ins C dx (NM_Disks.zip vs))) (hl : vs.length = 6) (q : n σ (upd H a (.ins C dx (NM_Disks.zip (vs ++ [y]))))) : kSto K "_waiting" n σ y (.ref a) H := iStoN T.cl T.n__waiting nd_Disks (by decide) (s := 6) rfl h hl q
theorem iF_Disks__on (T : Tx_Disks K C) (h : H a = some (.ins C dx (NM_Disks.zip vs))) (hv : vs[7]? = some v) (q : Q v H) : kFld K "_on" Q (.ref a) H := iFldI T.cl T.n__on nd_Disks (s := 7) rfl h hv q
theorem iS_Disks__on (T : Tx_Disks K C) (h : H a = some (.ins C dx (NM_Disks.zip vs))) (hv : SetV vs 7 y vs') (q : n σ (upd H a (.ins C dx (NM_Disks.zip vs')))) : kSto K "_on" n σ y (.ref a) H := iStoI T.cl T.n__on nd_Disks (by decide) (s := 7) rfl h hv q
theorem iN_Disks__on (T : Tx_Disks K C) (h : H a = some (.ins C dx (NM_Disks.zip vs))) (hl : vs.length = 7) (q : n σ (upd H a (.ins C dx (NM_Disks.zip (vs ++ [y]))))) : kSto K "_on" n σ y (.ref a) H := iStoN T.cl T.n__on nd_Disks (by decide) (s := 7) rfl h hl q
theorem iF_Disks__left (T : Tx_Disks K C) (h : H a = some (.ins C dx (NM_Disks.zip vs))) (hv : vs[8]? = some v) (q : Q v H) : kFld K "_left" Q (.ref a) H := iFldI T.cl T.n__left nd_Disks (s := 8) rfl h hv q
theorem iS_Disks__left (T : Tx_Disks K C) (h : H a = some (.ins C dx (NM_Disks.zip vs))) (hv : SetV vs 8 y vs') (q : n σ (upd H a (.ins C dx (NM_Disks.zip vs')))) : kSto K "_left" n σ y (.ref a) H := iStoI T.cl T.n__left nd_Disks (by decide) (s := 8) rfl h hv q
theorem iN_Disks__left (T : Tx_Disks K C) (h : H a = some (.ins C dx (NM_Disks.zip vs))) (hl : vs.length = 8) (q : n σ (upd H a (.ins C dx (NM_Disks.zip (vs ++ [y]))))) : kSto K "_left" n σ y (.ref a) H := iStoN T.cl T.n__left nd_Disks (by decide) (s := 8) rfl h hl q
theorem iM_Disks__left (T : Tx_Disks K C) (h : H a = some (.ins C dx (NM_Disks.zip vs))) (hv : vs[8]? = some (.int k)) (hs : SetV vs 8 (.int (k - j)) vs') (q : n σ (upd H a (.ins C dx (NM_Disks.zip vs')))) : kAugF K "_left" L2.rSub (tC (.int j)) n σ (.ref a) H := iAugM T.cl T.n__left nd_Disks (by decide) (s := 8) rfl h hv hs q
theorem iF_Disks__failures (T : Tx_Disks K C) (h : H a = some (.ins C dx (NM_Disks.zip vs))) (hv : vs[9]? = some v) (q : Q v H) : kFld K "_failures" Q (.ref a) H := iFldI T.cl T.n__failures nd_Disks (s := 9) rfl h hv q
theorem iS_Disks__failures (T : Tx_Disks K C) (h : H a = some (.ins C dx (NM_Disks.zip vs))) (hv : SetV vs 9 y vs') (q : n σ (upd H a (.ins C dx (NM_Disks.zip vs')))) : kSto K "_failures" n σ y (.ref a) H := iStoI T.cl T.n__failures nd_Disks (by decide) (s := 9) rfl h hv q
theorem iN_Disks__failures (T : Tx_Disks K C) (h : H a = some (.ins C dx (NM_Disks.zip vs))) (hl : vs.length = 9) (q : n σ (upd H a (.ins C dx (NM_Disks.zip (vs ++ [y]))))) : kSto K "_failures" n σ y (.ref a) H := iStoN T.cl T.n__failures nd_Disks (by decide) (s := 9) rfl h hl q
theorem iP_Disks__failures (T : Tx_Disks K C) (h : H a = some (.ins C dx (NM_Disks.zip vs))) (hv : vs[9]? = some (.int k)) (hs : SetV vs 9 (.int (k + j)) vs') (q : n σ (upd H a (.ins C dx (NM_Disks.zip vs')))) : kAugF K "_failures" L2.rAdd (tC (.int j)) n σ (.ref a) H := iAugP T.cl T.n__failures nd_Disks (by decide) (s := 9) rfl h hv hs q
theorem iF_Disks__reads (T : Tx_Disks K C) (h : H a = some (.ins C dx (NM_Disks.zip vs))) (hv : vs[10]? = some v) (q : Q v H) : kFld K "_reads" Q (.ref a) H := iFldI T.cl T.n__reads nd_Disks (s := 10) rfl h hv q
theorem iS_Disks__reads (T : Tx_Disks K C) (h : H a = some (.ins C dx (NM_Disks.zip vs))) (hv : SetV vs 10 y vs') (q : n σ (upd H a (.ins C dx (NM_Disks.zip vs')))) : kSto K "_reads" n σ y (.ref a) H := iStoI T.cl T.n__reads nd_Disks (by decide) (s := 10) rfl h hv q
theorem iN_Disks__reads (T : Tx_Disks K C) (h : H a = some (.ins C dx (NM_Disks.zip vs))) (hl : vs.length = 10) (q : n σ (upd H a (.ins C dx (NM_Disks.zip (vs ++ [y]))))) : kSto K "_reads" n σ y (.ref a) H := iStoN T.cl T.n__reads nd_Disks (by decide) (s := 10) rfl h hl q
theorem iP_Disks__reads (T : Tx_Disks K C) (h : H a = some (.ins C dx (NM_Disks.zip vs))) (hv : vs[10]? = some (.int k)) (hs : SetV vs 10 (.int (k + j)) vs') (q : n σ (upd H a (.ins C dx (NM_Disks.zip vs')))) : kAugF K "_reads" L2.rAdd (tC (.int j)) n σ (.ref a) H := iAugP T.cl T.n__reads nd_Disks (by decide) (s := 10) rfl h hv hs q
theorem iF_Disks__writes (T : Tx_Disks K C) (h : H a = some (.ins C dx (NM_Disks.zip vs))) (hv : vs[11]? = some v) (q : Q v H) : kFld K "_writes" Q (.ref a) H := iFldI T.cl T.n__writes nd_Disks (s := 11) rfl h hv q
theorem iS_Disks__writes (T : Tx_Disks K C) (h : H a = some (.ins C dx (NM_Disks.zip vs))) (hv : SetV vs 11 y vs') (q : n σ (upd H a (.ins C dx (NM_Disks.zip vs')))) : kSto K "_writes" n σ y (.ref a) H := iStoI T.cl T.n__writes nd_Disks (by decide) (s := 11) rfl h hv q
theorem iN_Disks__writes (T : Tx_Disks K C) (h : H a = some (.ins C dx (NM_Disks.zip vs))) (hl : vs.length = 11) (q : n σ (upd H a (.ins C dx (NM_Disks.zip (vs ++ [y]))))) : kSto K "_writes" n σ y (.ref a) H := iStoN T.cl T.n__writes nd_Disks (by decide) (s := 11) rfl h hl q
theorem iP_Disks__writes (T : Tx_Disks K C) (h : H a = some (.ins C dx (NM_Disks.zip vs))) (hv : vs[11]? = some (.int k)) (hs : SetV vs 11 (.int (k + j)) vs') (q : n σ (upd H a (.ins C dx (NM_Disks.zip vs')))) : kAugF K "_writes" L2.rAdd (tC (.int j)) n σ (.ref a) H := iAugP T.cl T.n__writes nd_Disks (by decide) (s := 11) rfl h hv hs q
theorem iF_Disks__syncs (T : Tx_Disks K C) (h : H a = some (.ins C dx (NM_Disks.zip vs))) (hv : vs[12]? = some v) (q : Q v H) : kFld K "_syncs" Q (.ref a) H := iFldI T.cl T.n__syncs nd_Disks (s := 12) rfl h hv q
theorem iS_Disks__syncs (T : Tx_Disks K C) (h : H a = some (.ins C dx (NM_Disks.zip vs))) (hv : SetV vs 12 y vs') (q : n σ (upd H a (.ins C dx (NM_Disks.zip vs')))) : kSto K "_syncs" n σ y (.ref a) H := iStoI T.cl T.n__syncs nd_Disks (by decide) (s := 12) rfl h hv q
theorem iN_Disks__syncs (T : Tx_Disks K C) (h : H a = some (.ins C dx (NM_Disks.zip vs))) (hl : vs.length = 12) (q : n σ (upd H a (.ins C dx (NM_Disks.zip (vs ++ [y]))))) : kSto K "_syncs" n σ y (.ref a) H := iStoN T.cl T.n__syncs nd_Disks (by decide) (s := 12) rfl h hl q
theorem iP_Disks__syncs (T : Tx_Disks K C) (h : H a = some (.ins C dx (NM_Disks.zip vs))) (hv : vs[12]? = some (.int k)) (hs : SetV vs 12 (.int (k + j)) vs') (q : n σ (upd H a (.ins C dx (NM_Disks.zip vs')))) : kAugF K "_syncs" L2.rAdd (tC (.int j)) n σ (.ref a) H := iAugP T.cl T.n__syncs nd_Disks (by decide) (s := 12) rfl h hv hs q
theorem iMe_Disks_is_there (h : H a = some (.ins C dx (NM_Disks.zip vs))) (q : tA σ H fun vs H2 => sp (.ref a :: vs) H2 Q (E σ)) : kMet C "is_there" sp E tA σ Q (.ref a) H := iMetI h (zip_none (by decide +kernel)) q
theorem iMe_Disks_pending (h : H a = some (.ins C dx (NM_Disks.zip vs))) (q : tA σ H fun vs H2 => sp (.ref a :: vs) H2 Q (E σ)) : kMet C "pending" sp E tA σ Q (.ref a) H := iMetI h (zip_none (by decide +kernel)) q
theorem iMe_Disks_cell (h : H a = some (.ins C dx (NM_Disks.zip vs))) (q : tA σ H fun vs H2 => sp (.ref a :: vs) H2 Q (E σ)) : kMet C "cell" sp E tA σ Q (.ref a) H := iMetI h (zip_none (by decide +kernel)) q
theorem iMe_Disks__fail (h : H a = some (.ins C dx (NM_Disks.zip vs))) (q : tA σ H fun vs H2 => sp (.ref a :: vs) H2 Q (E σ)) : kMet C "_fail" sp E tA σ Q (.ref a) H := iMetI h (zip_none (by decide +kernel)) q
theorem iMe_Disks__operate (h : H a = some (.ins C dx (NM_Disks.zip vs))) (q : tA σ H fun vs H2 => sp (.ref a :: vs) H2 Q (E σ)) : kMet C "_operate" sp E tA σ Q (.ref a) H := iMetI h (zip_none (by decide +kernel)) q
theorem iMe_Disks_ask (h : H a = some (.ins C dx (NM_Disks.zip vs))) (q : tA σ H fun vs H2 => sp (.ref a :: vs) H2 Q (E σ)) : kMet C "ask" sp E tA σ Q (.ref a) H := iMetI h (zip_none (by decide +kernel)) q
theorem iMe_Disks_write (h : H a = some (.ins C dx (NM_Disks.zip vs))) (q : tA σ H fun vs H2 => sp (.ref a :: vs) H2 Q (E σ)) : kMet C "write" sp E tA σ Q (.ref a) H := iMetI h (zip_none (by decide +kernel)) q
theorem iMe_Disks__settle (h : H a = some (.ins C dx (NM_Disks.zip vs))) (q : tA σ H fun vs H2 => sp (.ref a :: vs) H2 Q (E σ)) : kMet C "_settle" sp E tA σ Q (.ref a) H := iMetI h (zip_none (by decide +kernel)) q
theorem iMe_Disks_sync (h : H a = some (.ins C dx (NM_Disks.zip vs))) (q : tA σ H fun vs H2 => sp (.ref a :: vs) H2 Q (E σ)) : kMet C "sync" sp E tA σ Q (.ref a) H := iMetI h (zip_none (by decide +kernel)) q
theorem iMe_Disks_rot (h : H a = some (.ins C dx (NM_Disks.zip vs))) (q : tA σ H fun vs H2 => sp (.ref a :: vs) H2 Q (E σ)) : kMet C "rot" sp E tA σ Q (.ref a) H := iMetI h (zip_none (by decide +kernel)) q
theorem iMe_Disks_bad (h : H a = some (.ins C dx (NM_Disks.zip vs))) (q : tA σ H fun vs H2 => sp (.ref a :: vs) H2 Q (E σ)) : kMet C "bad" sp E tA σ Q (.ref a) H := iMetI h (zip_none (by decide +kernel)) q
theorem iMe_Disks__empty (h : H a = some (.ins C dx (NM_Disks.zip vs))) (q : tA σ H fun vs H2 => sp (.ref a :: vs) H2 Q (E σ)) : kMet C "_empty" sp E tA σ Q (.ref a) H := iMetI h (zip_none (by decide +kernel)) q
theorem iMe_Disks_away (h : H a = some (.ins C dx (NM_Disks.zip vs))) (q : tA σ H fun vs H2 => sp (.ref a :: vs) H2 Q (E σ)) : kMet C "away" sp E tA σ Q (.ref a) H := iMetI h (zip_none (by decide +kernel)) q
theorem iMe_Disks_blank (h : H a = some (.ins C dx (NM_Disks.zip vs))) (q : tA σ H fun vs H2 => sp (.ref a :: vs) H2 Q (E σ)) : kMet C "blank" sp E tA σ Q (.ref a) H := iMetI h (zip_none (by decide +kernel)) q
theorem iMe_Disks_power (h : H a = some (.ins C dx (NM_Disks.zip vs))) (q : tA σ H fun vs H2 => sp (.ref a :: vs) H2 Q (E σ)) : kMet C "power" sp E tA σ Q (.ref a) H := iMetI h (zip_none (by decide +kernel)) q
theorem iMe_Disks_is_on (h : H a = some (.ins C dx (NM_Disks.zip vs))) (q : tA σ H fun vs H2 => sp (.ref a :: vs) H2 Q (E σ)) : kMet C "is_on" sp E tA σ Q (.ref a) H := iMetI h (zip_none (by decide +kernel)) q
theorem iMe_Disks_losses (h : H a = some (.ins C dx (NM_Disks.zip vs))) (q : tA σ H fun vs H2 => sp (.ref a :: vs) H2 Q (E σ)) : kMet C "losses" sp E tA σ Q (.ref a) H := iMetI h (zip_none (by decide +kernel)) q
theorem iMe_Disks_counts (h : H a = some (.ins C dx (NM_Disks.zip vs))) (q : tA σ H fun vs H2 => sp (.ref a :: vs) H2 Q (E σ)) : kMet C "counts" sp E tA σ Q (.ref a) H := iMetI h (zip_none (by decide +kernel)) q
theorem iMe_Disks_fail_after (h : H a = some (.ins C dx (NM_Disks.zip vs))) (q : tA σ H fun vs H2 => sp (.ref a :: vs) H2 Q (E σ)) : kMet C "fail_after" sp E tA σ Q (.ref a) H := iMetI h (zip_none (by decide +kernel)) q
end
local macro_rules | `(tactic| walk_at "ne") => `(tactic| (first | assumption | (apply Ne.symm; assumption) | (apply ne_fresh; (· assumption); (· walk_at "look")) | (apply Ne.symm; apply ne_fresh; (· assumption); (· walk_at "look"))))
local macro_rules | `(tactic| walk_at "look") => `(tactic| (first | assumption | exact upd_same | (refine (upd_ne ?_).trans ?_; (· walk_at "ne"); (· walk_at "look")) | (refine exAt (by assumption) ?_; walk_at "look")))
local macro_rules | `(tactic| walk_at "side") => `(tactic| (first | (exact Or.inl ⟨by omega, by omega⟩) | (exact Or.inr ⟨by omega, by omega⟩) | (show (0:Int) < _; omega) | (show (0:Int) ≤ _; omega) | (exact ⟨by omega, by omega⟩) | (exact ⟨by decide, by decide, by decide⟩)))
local macro_rules | `(tactic| walk_at "go") => `(tactic| (repeat (first | ((with_reducible apply iF_Disks_in_use); (· assumption); (· walk_at "look"); (· rfl)) | ((with_reducible apply iS_Disks_in_use); (· assumption); (· walk_at "look"); (· repeat constructor)) | ((with_reducible apply iN_Disks_in_use); (· assumption); (· walk_at "look"); (· rfl)) | ((with_reducible apply iF_Disks_formatted); (· assumption); (· walk_at "look"); (· rfl)) | ((with_reducible apply iS_Disks_formatted); (· assumption); (· walk_at "look"); (· repeat constructor)) | ((with_reducible apply iN_Disks_formatted); (· assumption); (· walk_at "look"); (· rfl)) | ((with_reducible apply iF_Disks_scrub_place); (· assumption); (· walk_at "look"); (· rfl)) | ((with_reducible apply iS_Disks_scrub_place); (· assumption); (· walk_at "look"); (· repeat constructor)) | ((with_reducible apply iN_Disks_scrub_place); (· assumption); (· walk_at "look"); (· rfl)) | ((with_reducible apply iF_Disks__sizes); (· assumption); (· walk_at "look"); (· rfl)) | ((with_reducible apply iS_Disks__sizes); (· assumption); (· walk_at "look"); (· repeat constructor)) | ((with_reducible apply iN_Disks__sizes); (· assumption); (· walk_at "look"); (· rfl)) | ((with_reducible apply iF_Disks__there); (· assumption); (· walk_at "look"); (· rfl)) | ((with_reducible apply iS_Disks__there); (· assumption); (· walk_at "look"); (· repeat constructor)) | ((with_reducible apply iN_Disks__there); (· assumption); (· walk_at "look"); (· rfl)) | ((with_reducible apply iF_Disks__media); (· assumption); (· walk_at "look"); (· rfl)) | ((with_reducible apply iS_Disks__media); (· assumption); (· walk_at "look"); (· repeat constructor)) | ((with_reducible apply iN_Disks__media); (· assumption); (· walk_at "look"); (· rfl)) | ((with_reducible apply iF_Disks__waiting); (· assumption); (· walk_at "look"); (· rfl)) | ((with_reducible apply iS_Disks__waiting); (· assumption); (· walk_at "look"); (· repeat constructor)) | ((with_reducible apply iN_Disks__waiting); (· assumption); (· walk_at "look"); (· rfl)) | ((with_reducible apply iF_Disks__on); (· assumption); (· walk_at "look"); (· rfl)) | ((with_reducible apply iS_Disks__on); (· assumption); (· walk_at "look"); (· repeat constructor)) | ((with_reducible apply iN_Disks__on); (· assumption); (· walk_at "look"); (· rfl)) | ((with_reducible apply iF_Disks__left); (· assumption); (· walk_at "look"); (· rfl)) | ((with_reducible apply iS_Disks__left); (· assumption); (· walk_at "look"); (· repeat constructor)) | ((with_reducible apply iN_Disks__left); (· assumption); (· walk_at "look"); (· rfl)) | ((with_reducible apply iM_Disks__left); (· assumption); (· walk_at "look"); (· rfl); (· repeat constructor)) | ((with_reducible apply iF_Disks__failures); (· assumption); (· walk_at "look"); (· rfl)) | ((with_reducible apply iS_Disks__failures); (· assumption); (· walk_at "look"); (· repeat constructor)) | ((with_reducible apply iN_Disks__failures); (· assumption); (· walk_at "look"); (· rfl)) | ((with_reducible apply iP_Disks__failures); (· assumption); (· walk_at "look"); (· rfl); (· repeat constructor)) | ((with_reducible apply iF_Disks__reads); (· assumption); (· walk_at "look"); (· rfl)) | ((with_reducible apply iS_Disks__reads); (· assumption); (· walk_at "look"); (· repeat constructor)) | ((with_reducible apply iN_Disks__reads); (· assumption); (· walk_at "look"); (· rfl)) | ((with_reducible apply iP_Disks__reads); (· assumption); (· walk_at "look"); (· rfl); (· repeat constructor)) | ((with_reducible apply iF_Disks__writes); (· assumption); (· walk_at "look"); (· rfl)) | ((with_reducible apply iS_Disks__writes); (· assumption); (· walk_at "look"); (· repeat constructor)) | ((with_reducible apply iN_Disks__writes); (· assumption); (· walk_at "look"); (· rfl)) | ((with_reducible apply iP_Disks__writes); (· assumption); (· walk_at "look"); (· rfl); (· repeat constructor)) | ((with_reducible apply iF_Disks__syncs); (· assumption); (· walk_at "look"); (· rfl)) | ((with_reducible apply iS_Disks__syncs); (· assumption); (· walk_at "look"); (· repeat constructor)) | ((with_reducible apply iN_Disks__syncs); (· assumption); (· walk_at "look"); (· rfl)) | ((with_reducible apply iP_Disks__syncs); (· assumption); (· walk_at "look"); (· rfl); (· repeat constructor)) | ((with_reducible apply iMe_Disks_is_there); (· walk_at "look")) | ((with_reducible apply iMe_Disks_pending); (· walk_at "look")) | ((with_reducible apply iMe_Disks_cell); (· walk_at "look")) | ((with_reducible apply iMe_Disks__fail); (· walk_at "look")) | ((with_reducible apply iMe_Disks__operate); (· walk_at "look")) | ((with_reducible apply iMe_Disks_ask); (· walk_at "look")) | ((with_reducible apply iMe_Disks_write); (· walk_at "look")) | ((with_reducible apply iMe_Disks__settle); (· walk_at "look")) | ((with_reducible apply iMe_Disks_sync); (· walk_at "look")) | ((with_reducible apply iMe_Disks_rot); (· walk_at "look")) | ((with_reducible apply iMe_Disks_bad); (· walk_at "look")) | ((with_reducible apply iMe_Disks__empty); (· walk_at "look")) | ((with_reducible apply iMe_Disks_away); (· walk_at "look")) | ((with_reducible apply iMe_Disks_blank); (· walk_at "look")) | ((with_reducible apply iMe_Disks_power); (· walk_at "look")) | ((with_reducible apply iMe_Disks_is_on); (· walk_at "look")) | ((with_reducible apply iMe_Disks_losses); (· walk_at "look")) | ((with_reducible apply iMe_Disks_counts); (· walk_at "look")) | ((with_reducible apply iMe_Disks_fail_after); (· walk_at "look")) | (with_reducible refine iSeq ?_) | (with_reducible refine iAsg ?_) | ((with_reducible apply iName); (· repeat constructor)) | ((with_reducible apply iVar); (· rfl)) | (with_reducible refine iC ?_) | (with_reducible refine iOp ?_) | (with_reducible refine iI0 ?_) | (with_reducible refine iCons ?_) | (with_reducible refine iNil ?_) | (with_reducible refine iCB ?_) | (with_reducible refine iIfS ?_) | (with_reducible refine iTest ?_) | (with_reducible refine iBl ?_) | (with_reducible refine iRet ?_) | (with_reducible refine iNext ?_) | (with_reducible refine iDrop ?_) | (with_reducible refine iEqI ?_) | (with_reducible refine iNeI ?_) | (with_reducible refine iInt ?_) | (with_reducible refine iFor ?_) | (with_reducible refine iRng ?_) | (with_reducible refine iCal ?_) | (with_reducible refine iAnd ?_) | (with_reducible refine iOr ?_) | (with_reducible refine iNot ?_) | (with_reducible refine iB ?_) | (with_reducible refine iIf ?_) | (with_reducible refine iChain ?_) | (with_reducible refine iUn ?_) | (with_reducible refine iU ?_) | (with_reducible refine iRetN ?_) | (with_reducible refine iIsN ?_) | (with_reducible refine iNotN ?_) | (with_reducible refine iTruI ?_) | (with_reducible refine ifNDr ?_) | (with_reducible refine ifDr ?_) | (with_reducible refine iCalE ?_) | (with_reducible refine iMet ?_) | (with_reducible refine iMak ?_) | (with_reducible refine iFld ?_) | (with_reducible refine iSto ?_) | (with_reducible refine iAugF ?_) | (with_reducible refine iBM ?_) | (with_reducible refine iRev1 ?_) | (with_reducible refine iRai ?_) | (with_reducible refine iPr ?_) | (with_reducible refine iPn ?_) | (with_reducible refine iIntB ?_) | (with_reducible refine iIsB ?_) | (with_reducible refine iNotBl ?_) | (with_reducible refine iDGet1 ?_) | (with_reducible refine iAndV ?_) | (with_reducible refine iOrV ?_) | (with_reducible refine iNotV ?_) | (with_reducible refine iAugS ?_) | (with_reducible refine iIpI ?_) | (with_reducible refine iSub ?_) | (with_reducible refine iLst ?_) | (with_reducible refine iTup ?_) | (with_reducible refine iIterL ?_) | (with_reducible refine iBreak ?_) | (with_reducible refine iCont ?_) | (with_reducible refine iEqB ?_) | (with_reducible refine iNeB ?_) | (with_reducible refine iEqS ?_) | (with_reducible refine iNeS ?_) | (with_reducible refine iLc ?_) | (with_reducible refine iYes ?_) | (with_reducible refine iDGet ?_) | (with_reducible refine iDIn ?_) | (with_reducible refine iDNotIn ?_) | (with_reducible refine iDPut ?_) | (with_reducible refine iRng2 ?_) | (with_reducible refine iZipK ?_) | (with_reducible refine iGCons ?_) | (with_reducible refine iGNil ?_) | (with_reducible refine iDEa ?_) | ((with_reducible apply iRngI); (· first | decide | omega); (· first | decide | omega)) | ((with_reducible apply iAugK); (· rfl)) | ((with_reducible apply iI); rotate_left; (· (first | (exact Or.inl ⟨by omega, by omega⟩) | (exact Or.inr ⟨by omega, by omega⟩) | (show (0:Int) < _; omega) | (show (0:Int) ≤ _; omega) | (exact ⟨by omega, by omega⟩) | (exact ⟨by decide, by decide, by decide⟩)))) | ((with_reducible apply iIxL); (· walk_at "look"); (· rfl)) | ((with_reducible apply iLenL); (· walk_at "look")) | ((with_reducible apply iSetL); (· walk_at "look"); (· rfl)) | ((with_reducible apply iIxT); (· walk_at "look"); (· rfl)) | ((with_reducible apply iIsi); (· first | exact tyN_int | exact tyN_bl | exact tyN_non | exact tyN_str | exact tyN_lst (by walk_at "look") | exact tyN_tup (by walk_at "look")); (· (first | exact kb_NoneType_bool | exact kb_NoneType_int | exact kb_NoneType_str | exact kb_NoneType_tuple | exact kb_NoneType_list | exact kb_bool_bool | exact kb_bool_int | exact kb_bool_str | exact kb_bool_tuple | exact kb_bool_list | exact kb_int_bool | exact kb_int_int | exact kb_int_str | exact kb_int_tuple | exact kb_int_list | exact kb_str_bool | exact kb_str_int | exact kb_str_str | exact kb_str_tuple | exact kb_str_list | exact kb_tuple_bool | exact kb_tuple_int | exact kb_tuple_str | exact kb_tuple_tuple | exact kb_tuple_list | exact kb_list_bool | exact kb_list_int | exact kb_list_str | exact kb_list_tuple | exact kb_list_list))) | ((with_reducible apply iLenT); (· walk_at "look")) | ((with_reducible apply iLenS); (· first | exact Or.inl (by walk_at "look") | exact Or.inr (by walk_at "look"))) | ((with_reducible apply ifT); (· rfl)) | ((with_reducible apply ifF); (· rfl)) | ((with_reducible apply ifT); (· apply decide_eq_true; omega)) | ((with_reducible apply ifF); (· apply decide_eq_false; omega)) | ((with_reducible apply ifNp); (· omega)) | ((with_reducible apply ifNn); (· omega)) | ((with_reducible apply iLcB); (· rfl)) | ((with_reducible apply iGTup); (· walk_at "look"); (· rfl)) | ((with_reducible apply iDIi); (· walk_at "look")) | ((with_reducible apply iDNi); (· walk_at "look")) | ((with_reducible apply iRng2I); (· omega); (· omega); (· omega); (· omega)) | ((with_reducible apply iItL); (· walk_at "look")) | ((with_reducible apply iZL); (· walk_at "look"); (· walk_at "look")))))
section
variable {P : Program} {w : World} {K : PySem.W.Frag} {mg : Str → Option Value} {base : Heap}
/-! ### Disks: what only looks -/
def sp_is_there (C : Addr) : Sp := fun vs H Q _ => ∃ (F Rs : Hp) (L : DL → Addr) (D : DK) (d : Nat), vs = [.ref (L .obj), .int d] ∧ DAt C H F Rs L D ∧ d < D.n ∧ Q (.bl (D.there d)) H
theorem ok_is_there {C : Addr} (T : Tx_Disks K C) {f : Addr} {fd : FuncData} (F : Fun K "is_there" "Disks.is_there" s_Disks_is_there f fd) : FnOk P w K mg base CX0 1 f fd ["self", "disk"] (sp_is_there C) := by
  refine F.ok sc_Disks_is_there (fun vs H Q E h => ?_) (fun cdv A outer s H vs Q E hr h => ?_)
  · obtain ⟨F, Rs, L, D, d, rfl, _⟩ := h; rfl
  · obtain ⟨F, Rs, L, D, d, rfl, ⟨dx, szs, cm, cw, h⟩, hd, q⟩ := h
    have hO := h.hO
    have hT := h.hT
    refine ⟨_, (pss_one (ps_ret (pe_ix ix_l (pe_fld (pv 0) rfl) (pv 1) (fun _ _ => rfl)))), ?_⟩
    refine iBody (by repeat constructor) ?_
    walk_at "go"
    refine iIxL hT ((atI_natL _ _).trans (theL_get hd)) ?_
    walk_at "go"
    exact q
def sp_pending (C : Addr) : Sp := fun vs H Q _ => ∃ (F Rs : Hp) (L : DL → Addr) (D : DK) (d : Nat), vs = [.ref (L .obj), .int d] ∧ DAt C H F Rs L D ∧ d < D.n ∧ Q (.int ((D.wait d).length : Nat)) H
theorem ok_pending {C : Addr} (M : Mg mg) (T : Tx_Disks K C) {f : Addr} {fd : FuncData} (F : Fun K "pending" "Disks.pending" s_Disks_pending f fd) : FnOk P w K mg base CX0 1 f fd ["self", "disk"] (sp_pending C) := by
  refine F.ok sc_Disks_pending (fun vs H Q E h => ?_) (fun cdv A outer s H vs Q E hr h => ?_)
  · obtain ⟨F, Rs, L, D, d, rfl, _⟩ := h; rfl
  · obtain ⟨F, Rs, L, D, d, rfl, ⟨dx, szs, cm, cw, h⟩, hd, q⟩ := h
    have hO := h.hO
    have hW := h.hW
    have hw := h.hw hd
    refine ⟨_, (pss_one (ps_ret (pe_callB len_l (by rfl) M.n_len PySem.boot_len (pa_cons (pe_ix ix_l (pe_fld (pv 0) rfl) (pv 1) (fun _ _ => rfl)) pa_nil)))), ?_⟩
    refine iBody (by repeat constructor) ?_
    walk_at "go"
    refine iIxL hW ((atI_natL _ _).trans (waiL_get hd)) ?_
    walk_at "go"
    exact vInt (by rw [(h.wai d hd).len]) q
/-- a new list of the content, or None -/
def NewCell (H H' : Hp) (v : V) : Option Sec → Prop
  | none => v = .non
  | some xs => ∃ p, H p = none ∧ v = .ref p ∧ H' p = some (.lst xs)
def sp_cell (C : Addr) : Sp := fun vs H Q _ => ∃ (F Rs : Hp) (L : DL → Addr) (D : DK) (d j : Nat), vs = [.ref (L .obj), .int d, .int j] ∧ DAt C H F Rs L D ∧ d < D.n ∧ j < D.m ∧ ∀ v H', Ex H H' → NewCell H H' v (D.cell d j) → Q v H'
theorem lastW_rev {ws : List (Nat × Sec)} {j i : Nat} (h : ∀ e < i, ∀ w : Nat × Sec, ws[ws.length - 1 - e]? = some w → e < ws.length → w.1 ≠ j) (hi : i ≤ ws.length) : lastW ws j = lastW (ws.take (ws.length - i)) j := by
  induction i with
  | zero => rw [Nat.sub_zero, List.take_length]
  | succ i ih =>
    rw [ih (fun e he => h e (by omega)) (by omega)]
    have hl : ws.length - (i + 1) < ws.length := by omega
    have e1 : ws.length - i = (ws.length - (i + 1)) + 1 := by omega
    rw [e1, List.take_succ, List.getElem?_eq_getElem hl]
    show lastW (ws.take _ ++ [ws[ws.length - (i + 1)]]) j = _
    rw [lastW_snoc, if_neg]
    refine h i (by omega) _ ?_ (by omega)
    rw [show ws.length - 1 - i = ws.length - (i + 1) by omega]
    exact List.getElem?_eq_getElem hl
theorem ok_cell {C : Addr} (M : Mg mg) (T : Tx_Disks K C) {f : Addr} {fd : FuncData} (F : Fun K "cell" "Disks.cell" s_Disks_cell f fd) : FnOk P w K mg base CX0 1 f fd ["self", "disk", "sector"] (sp_cell C) := by
  refine F.ok sc_Disks_cell (fun vs H Q E h => ?_) (fun cdv A outer s H vs Q E hr h => ?_)
  · obtain ⟨F, Rs, L, D, d, j, rfl, _⟩ := h; rfl
  · obtain ⟨F, Rs, L, D, d, j, rfl, ⟨dx, szs, cm, cw, h⟩, hd, hj, q⟩ := h
    have hO := h.hO
    have hW := h.hW
    have hM := h.hM
    have hw := h.hw hd
    have hm := h.hm hd
    have rw := h.wai d hd
    have rm := h.med d hd
    refine ⟨_, (pss_cons (ps_for PassesOwn.never rfl (pi_reversed (by rfl) M.n_reversed (pa_cons (pe_ix ix_l (pe_fld (pv 0) rfl) (pv 1) (fun _ _ => rfl)) pa_nil)) (pg_tup (by rfl) (pgs_cons (pg_name (i := 3) sc_Disks_cell.nd rfl (Or.inl rfl)) (pgs_cons (pg_name (i := 4) sc_Disks_cell.nd rfl (Or.inl rfl)) pgs_nil))) (pss_one (ps_if (pt_cmpR op_eq (pv 3) (pv 2) (nomark _)) (pss_one (ps_ret (pe_callTy list_l (by rfl) M.n_list (by decide +kernel) (pa_cons (pv 4) pa_nil)))) pss_nil))) (pss_cons (ps_set (i := 5) sc_Disks_cell.nd rfl (Or.inl rfl) (pe_ix ix_l (pe_ix ix_l (pe_fld (pv 0) rfl) (pv 1) (fun _ _ => rfl)) (pv 2) (fun _ _ => rfl))) (pss_cons (ps_if (pt_cmpR op_isN1 (pv 5) pe_non (nomark _)) (pss_one (ps_ret pe_non)) pss_nil) (pss_one (ps_ret (pe_callTy list_l (by rfl) M.n_list (by decide +kernel) (pa_cons (pv 5) pa_nil))))))), ?_⟩
    refine iBody (by repeat constructor) ?_
    walk_at "go"
    refine iIxL hW ((atI_natL _ _).trans (waiL_get hd)) ?_
    walk_at "go"
    refine iRevI hw ?_
    refine forJ (walk_rev (xs := cw d)) (fun i σ' H' => (∃ x y z, σ' = [some (.ref (L .obj)), some (.int d), some (.int j), x, y, z]) ∧ H' = H ∧ ∀ e < i, ∀ w : Nat × Sec, (D.wait d)[(D.wait d).length - 1 - e]? = some w → e < (D.wait d).length → w.1 ≠ j) ⟨⟨_, _, _, rfl⟩, rfl, fun e he => absurd he (Nat.not_lt_zero e)⟩ (fun i σ' H' hi hp => by rw [hp.2.1]; exact SqL.tr hw) (fun i x σ' H' H'' hi hp hy => ?_) (fun σ' H' hp => ?_)
    · obtain ⟨⟨x1, x2, x3, rfl⟩, rfl, hn⟩ := hp
      obtain ⟨rfl, hx⟩ := hy
      have hl := rw.len
      obtain ⟨ww, hww⟩ : ∃ ww, (D.wait d)[(D.wait d).length - 1 - i]? = some ww := ⟨_, List.getElem?_eq_getElem (by omega)⟩
      obtain ⟨_, t, p, rfl, ht, hp⟩ := rw.at_ _ _ _ hx (by rw [hl]; exact hww)
      have ht' := h.own.f _ _ ht
      have hp' := h.own.f _ _ hp
      walk_at "go"
      refine ifD (fun he => ?_) (fun he => ?_)
      · walk_at "go"
        refine iListL hp' fun l hl' => ?_
        refine q _ _ (Evl.Ex.new hl') ?_
        have e1 : D.cell d j = some ww.2 := by
          unfold DK.cell
          rw [lastW_rev hn (by omega)]
          have hlt : (D.wait d).length - 1 - i < (D.wait d).length := by omega
          rw [show (D.wait d).length - i = ((D.wait d).length - 1 - i) + 1 by omega, List.take_succ, hww]
          show (lastW (List.take _ _ ++ [ww]) j).or _ = _
          rw [lastW_snoc, if_pos (by omega)]
          rfl
        rw [e1]
        exact ⟨l, hl', rfl, upd_same⟩
      · walk_at "go"
        refine ⟨⟨_, _, _, rfl⟩, rfl, fun e hlt w hw1 hw2 => ?_⟩
        by_cases z : e = i
        · subst z
          rw [hww] at hw1
          cases hw1
          omega
        · exact hn e (by omega) w hw1 hw2
    · obtain ⟨⟨x1, x2, x3, rfl⟩, rfl, hn⟩ := hp
      have e0 : D.cell d j = D.media d j := by
        unfold DK.cell
        rw [lastW_rev hn (by rw [rw.len]; exact Nat.le_refl _), rw.len, Nat.sub_self]
        rfl
      obtain ⟨v, hv⟩ : ∃ v, (cm d)[j]? = some v := ⟨_, List.getElem?_eq_getElem (by rw [rm.len]; exact hj)⟩
      have hc := rm.at_ j v hv
      walk_at "go"
      refine iIxL hM ((atI_natL _ _).trans (medL_get hd)) ?_
      walk_at "go"
      refine iIxL hm ((atI_natL _ _).trans hv) ?_
      walk_at "go"
      cases em : D.media d j with
      | none =>
        rw [em] at hc e0
        cases (show v = V.non from hc)
        walk_at "go"
        refine q _ _ (Ex.refl _) ?_
        rw [e0]
        exact rfl
      | some xs =>
        rw [em] at hc e0
        obtain ⟨p, rfl, hp⟩ := hc
        have hp' := h.own.f _ _ hp
        walk_at "go"
        refine iListL hp' fun l hl' => ?_
        refine q _ _ (Evl.Ex.new hl') ?_
        rw [e0]
        exact ⟨l, hl', rfl, upd_same⟩
/-! ### Disks: what changes them -/
def sp_fail (C : Addr) : Sp := fun vs H Q _ => ∃ (F Rs : Hp) (L : DL → Addr) (D : DK), vs = [.ref (L .obj)] ∧ DAt C H F Rs L D ∧ ∀ H', DAt C H' F Rs L D.fail → Q .non H'
theorem ok_fail {C : Addr} (M : Mg mg) (T : Tx_Disks K C) {f : Addr} {fd : FuncData} (F : Fun K "_fail" "Disks._fail" s_Disks__fail f fd) : FnOk P w K mg base CX0 1 f fd ["self"] (sp_fail C) := by
  refine F.ok sc_Disks__fail (fun vs H Q E h => ?_) (fun cdv A outer s H vs Q E hr h => ?_)
  · obtain ⟨F, Rs, L, D, rfl, _⟩ := h; rfl
  · obtain ⟨F, Rs, L, D, rfl, ⟨dx, szs, cm, cw, h⟩, q⟩ := h
    have hO := h.hO
    refine ⟨_, (pss_cons (ps_fld (pv 0) pe_bl rfl) (pss_cons (ps_fld (pv 0) pe_non rfl) (pss_cons (ps_fldaug (pv 0) pe_int in_add) (pss_one (ps_fld (pv 0) pe_bl rfl))))), ?_⟩
    refine iBody (by repeat constructor) ?_
    walk_at "go"
    rw [upd_upd, upd_upd, upd_upd]
    exact q _ (h.fields (D' := D.fail) rfl rfl rfl rfl rfl rfl rfl).at_
def sp_operate (C CP : Addr) : Sp := fun vs H Q E => ∃ (F Rs : Hp) (L : DL → Addr) (D : DK), vs = [.ref (L .obj)] ∧ DAt C H F Rs L D ∧ (D.on = false → E (.ref CP) none H) ∧ (D.on = true → D.left = some 0 → ∀ H', DAt C H' F Rs L D.fail → E (.ref CP) none H') ∧
  (D.on = true → D.left ≠ some 0 → ∀ H', DAt C H' F Rs L D.tick → Q .non H')
theorem ok_operate {C CP : Addr} (M : Mg mg) (T : Tx_Disks K C) (e_PowerOff : ExT K mg "PowerOff" CP) {f : Addr} {fd : FuncData} (F : Fun K "_operate" "Disks._operate" s_Disks__operate f fd) (c_Disks__fail : MetX P w K mg base 1 C "_fail" ["self"] (sp_fail C)) : FnOk P w K mg base (L2.CX P w) 2 f fd ["self"] (sp_operate C CP) := by
  refine F.okX sc_Disks__operate (fun vs H Q E h => ?_) (fun cdv A outer s H vs Q E hr h => ?_)
  · obtain ⟨F, Rs, L, D, rfl, _⟩ := h; rfl
  · obtain ⟨F, Rs, L, D, rfl, D0, q1, q2, q3⟩ := h
    have D1 := D0
    obtain ⟨dx, szs, cm, cw, h⟩ := D0
    have hO := h.hO
    refine ⟨_, (pss_cons (ps_if (pt_not (pt_val (pe_fld (pv 0) rfl))) (pss_one (ps_rai e_PowerOff (takes_of rfl rfl rfl rfl))) pss_nil) (pss_cons (ps_if (pt_cmpR op_eq (pe_fld (pv 0) rfl) pe_int (nomark _)) (pss_cons (ps_expr (pe_metE0 c_Disks__fail (hr.mono (by omega)) (xpX (takes_of rfl rfl rfl rfl)) (pv 0))) (pss_one (ps_rai e_PowerOff (takes_of rfl rfl rfl rfl)))) pss_nil) (pss_one (ps_if (pt_cmpR op_notN1 (pe_fld (pv 0) rfl) pe_non (nomark _)) (pss_one (ps_fldaug (pv 0) pe_int in_sub)) pss_nil)))), ?_⟩
    refine iBody (by repeat constructor) ?_
    walk_at "go"
    cases eo : D.on with
    | false =>
      walk_at "go"
      exact q1 eo
    | true =>
      walk_at "go"
      have hO : H (L DL.obj) = some (HO.ins C dx (NMD.zip [.bl D.inuse, .bl D.formatted, .int D.scrub, .ref szs, .ref (L .there), .ref (L .media), .ref (L .wait), .bl D.on, leftV D.left, .int (D.fails : Nat), .int (D.reads : Nat), .int (D.writes : Nat), .int (D.syncs : Nat)])) := hO
      cases el : D.left with
      | none =>
        rw [el] at hO
        have hO : H (L DL.obj) = some (HO.ins C dx (NMD.zip [.bl D.inuse, .bl D.formatted, .int D.scrub, .ref szs, .ref (L .there), .ref (L .media), .ref (L .wait), .bl D.on, .non, .int (D.fails : Nat), .int (D.reads : Nat), .int (D.writes : Nat), .int (D.syncs : Nat)])) := hO
        refine iEqZ rfl ?_
        walk_at "go"
        have e : D.tick = D := by cases D; simp only at el; subst el; rfl
        exact q3 eo (by rw [el]; intro z; cases z) _ (e.symm ▸ D1)
      | some i =>
        rw [el] at hO
        have hO : H (L DL.obj) = some (HO.ins C dx (NMD.zip [.bl D.inuse, .bl D.formatted, .int D.scrub, .ref szs, .ref (L .there), .ref (L .media), .ref (L .wait), .bl D.on, .int (i : Nat), .int (D.fails : Nat), .int (D.reads : Nat), .int (D.writes : Nat), .int (D.syncs : Nat)])) := hO
        show rEq (.int (i : Nat)) _ _ _
        walk_at "go"
        refine ifD (fun e => ?_) (fun e => ?_)
        · walk_at "go"
          refine ⟨F, Rs, L, D, rfl, D1, fun H' D2 => ?_⟩
          walk_at "go"
          exact q2 eo (by rw [el, show i = 0 by omega]) _ D2
        · walk_at "go"
          have D2 := h.fields (D' := D.tick) rfl rfl rfl rfl rfl rfl rfl
          have e1 : (V.int ((i : Nat) - 1 : Int)) = leftV D.tick.left := by
            show _ = leftV (D.left.map (· - 1))
            rw [el]
            show V.int _ = V.int ((i - 1 : Nat) : Int)
            congr 1
            omega
          rw [e1]
          exact q3 eo (by rw [el]; intro z; cases z; omega) _ D2.at_
theorem j_operate {C CP : Addr} {H F Rs : Hp} {L : DL → Addr} {D : DK} {Q : VK} {E : XK} (D0 : DAt C H F Rs L D) (q1 : D.on = false → E (.ref CP) none H) (q2 : D.on = true → D.left = some 0 → ∀ H', DAt C H' F Rs L D.fail → E (.ref CP) none H') (q3 : D.on = true → D.left ≠ some 0 → ∀ H', DAt C H' F Rs L D.tick → Q .non H') :
    sp_operate C CP [.ref (L .obj)] H Q E := ⟨F, Rs, L, D, rfl, D0, q1, q2, q3⟩
def sp_ask (C : Addr) : Sp := fun vs H Q _ => ∃ (F Rs : Hp) (L : DL → Addr) (D : DK) (d j : Nat), vs = [.ref (L .obj), .int d, .int j] ∧ DAt C H F Rs L D ∧ d < D.n ∧ j < D.m ∧ ∀ v H1 H', DAt C H1 F Rs L (D.ask d) → Ex H1 H' → NewCell H1 H' v (D.cell d j) → Q v H'
theorem ok_ask {C : Addr} (M : Mg mg) (T : Tx_Disks K C) {f : Addr} {fd : FuncData} (F : Fun K "ask" "Disks.ask" s_Disks_ask f fd) (c_Disks_cell : MetX P w K mg base 1 C "cell" ["self", "disk", "sector"] (sp_cell C)) : FnOk P w K mg base CX0 2 f fd ["self", "disk", "sector"] (sp_ask C) := by
  refine F.ok sc_Disks_ask (fun vs H Q E h => ?_) (fun cdv A outer s H vs Q E hr h => ?_)
  · obtain ⟨F, Rs, L, D, d, j, rfl, _⟩ := h; rfl
  · obtain ⟨F, Rs, L, D, d, j, rfl, D0, hd, hj, q⟩ := h
    have D1 := D0
    obtain ⟨dx, szs, cm, cw, h⟩ := D0
    have hO := h.hO
    have hT := h.hT
    refine ⟨_, (pss_cons (ps_if (pt_val (pe_ix ix_l (pe_fld (pv 0) rfl) (pv 1) (fun _ _ => rfl))) (pss_one (ps_fldaug (pv 0) pe_int in_add)) pss_nil) (pss_one (ps_ret (pe_metE c_Disks_cell (hr.mono (by omega)) xp0 (pv 0) (pa_cons (pv 1) (pa_cons (pv 2) pa_nil)))))), ?_⟩
    refine iBody (by repeat constructor) ?_
    walk_at "go"
    refine iIxL hT ((atI_natL _ _).trans (theL_get hd)) ?_
    walk_at "go"
    have e : D.ask d = if D.there d = true then { D with reads := D.reads + 1 } else D := rfl
    cases et : D.there d with
    | true =>
      walk_at "go"
      have D2 := (h.fields (D' := D.ask d) (by rw [e, et]; rfl) (by rw [e, et]; rfl) (by rw [e, et]; rfl) (by rw [e, et]; rfl) (by rw [e, et]; rfl) (by rw [e, et]; rfl) (by rw [e, et]; rfl)).at_
      have e2 : flds szs L (D.ask d) = [.bl D.inuse, .bl D.formatted, .int D.scrub, .ref szs, .ref (L .there), .ref (L .media), .ref (L .wait), .bl D.on, leftV D.left, .int (D.fails : Nat), .int ((D.reads : Int) + 1), .int (D.writes : Nat), .int (D.syncs : Nat)] := by rw [e, et]; rfl
      rw [e2] at D2
      have e3 : D.ask d = { D with reads := D.reads + 1 } := by rw [e, et]; rfl
      refine ⟨F, Rs, L, D.ask d, d, j, rfl, D2, by rw [e3]; exact hd, by rw [e3]; exact hj, fun v H' x n => ?_⟩
      walk_at "go"
      exact q _ _ _ D2 x (by rw [e3] at n; exact n)
    | false =>
      walk_at "go"
      have e3 : D.ask d = D := by rw [e, et]; rfl
      refine ⟨F, Rs, L, D, d, j, rfl, D1, hd, hj, fun v H' x n => ?_⟩
      walk_at "go"
      exact q _ _ _ (by rw [e3]; exact D1) x n
def sp_write (C CP : Addr) : Sp := fun vs H Q E => ∃ (F Rs : Hp) (L : DL → Addr) (D : DK) (d j : Nat) (p : Addr) (x : Sec), vs = [.ref (L .obj), .int d, .int j, .ref p] ∧ DAt C H F Rs L D ∧ d < D.n ∧ j < D.m ∧ Rs p = some (.lst x) ∧ (D.wait d).length < 90000 ∧
  (D.on = false → E (.ref CP) none H) ∧ (D.on = true → D.left = some 0 → ∀ H', DAt C H' F Rs L D.fail → E (.ref CP) none H') ∧
  (D.on = true → D.left ≠ some 0 → ∀ H' F', Ex F F' → DAt C H' F' Rs L (D.write d j x) → Q .non H')
theorem ok_write {C CP : Addr} (M : Mg mg) (T : Tx_Disks K C) {f : Addr} {fd : FuncData} (F : Fun K "write" "Disks.write" s_Disks_write f fd) (c_Disks__operate : MetX P w K mg base 2 C "_operate" ["self"] (sp_operate C CP)) : FnOk P w K mg base (L2.CX P w) 3 f fd ["self", "disk", "sector", "data"] (sp_write C CP) := by
  refine F.okX sc_Disks_write (fun vs H Q E h => ?_) (fun cdv A outer s H vs Q E hr h => ?_)
  · obtain ⟨F, Rs, L, D, d, j, p, x, rfl, _⟩ := h; rfl
  · obtain ⟨F, Rs, L, D, d, j, p, x, rfl, D0, hd, hj, hp, hz, q1, q2, q3⟩ := h
    have hO : ∃ dx szs, H (L .obj) = some (.ins C dx (NMD.zip (flds szs L D))) := by
      obtain ⟨dx, szs, cm, cw, h⟩ := D0
      exact ⟨dx, szs, h.hO⟩
    obtain ⟨dx, szs, hO⟩ := hO
    refine ⟨_, (pss_cons (ps_expr (pe_metE0 c_Disks__operate (hr.mono (by omega)) (xpX (takes_of rfl rfl rfl rfl)) (pv 0))) (pss_one (ps_if (pt_val (pe_ix ix_l (pe_fld (pv 0) rfl) (pv 1) (fun _ _ => rfl))) (pss_cons (ps_fldaug (pv 0) pe_int in_add) (pss_one (ps_expr (pe_bmE PySem.F.slot_list_append PySem.F.type_list_append mt_append (pe_ix ix_l (pe_fld (pv 0) rfl) (pv 1) (fun _ _ => rfl)) (pa_cons (pe_tup (pa_cons (pv 2) (pa_cons (pe_callTy list_l (by rfl) M.n_list (by decide +kernel) (pa_cons (pv 3) pa_nil)) pa_nil))) pa_nil))))) pss_nil))), ?_⟩
    refine iBody (by repeat constructor) ?_
    walk_at "go"
    refine j_operate D0 q1 q2 fun on1 l1 H1 D1 => ?_
    clear hO
    have e : D.write d j x = if D.there d = true then { D.tick with writes := D.writes + 1, wait := fun e => if e = d then D.wait e ++ [(j, x)] else D.wait e } else D.tick := rfl
    have D2 := D1
    obtain ⟨dx, szs, cm, cw, h⟩ := D1
    have hO := h.hO
    have hT := h.hT
    have et' : D.tick.there d = D.there d := rfl
    walk_at "go"
    refine iIxL hT ((atI_natL _ _).trans (theL_get hd)) ?_
    rw [et']
    walk_at "go"
    cases et : D.there d with
    | false =>
      walk_at "go"
      exact q3 on1 l1 _ F (Ex.refl _) (by rw [e, et]; exact D2)
    | true =>
      walk_at "go"
      have h3 := h.fields (D' := { D.tick with writes := D.writes + 1 }) rfl rfl rfl rfl rfl rfl rfl
      have e2 : flds szs L { D.tick with writes := D.writes + 1 } = [.bl D.inuse, .bl D.formatted, .int D.scrub, .ref szs, .ref (L .there), .ref (L .media), .ref (L .wait), .bl D.on, leftV D.tick.left, .int (D.fails : Nat), .int (D.reads : Nat), .int ((D.writes : Int) + 1), .int (D.syncs : Nat)] := rfl
      rw [e2] at h3
      have hO3 := h3.hO
      have hW3 := h3.hW
      have hw3 := h3.hw (d := d) hd
      have hp3 := h3.own.r _ _ hp
      have hl3 := (h3.wai d hd).len
      generalize hH3 : upd H1 (L DL.obj) _ = H3 at hO3 hW3 hw3 hp3 h3
      rw [show (upd H1 (L DL.obj) (HO.ins C dx (List.zip NMD [V.bl D.tick.inuse, V.bl D.tick.formatted, V.int D.tick.scrub, V.ref szs, V.ref (L DL.there), V.ref (L DL.media), V.ref (L DL.wait), V.bl D.tick.on, leftV D.tick.left, V.int (D.tick.fails : Nat), V.int (D.tick.reads : Nat), V.int ((D.tick.writes : Nat) + 1), V.int (D.tick.syncs : Nat)]))) = H3 from hH3]
      walk_at "go"
      refine iIxL hW3 ((atI_natL _ _).trans (waiL_get hd)) ?_
      refine iBMv hw3 ?_
      walk_at "go"
      refine iListL hp3 fun l hl => ?_
      walk_at "go"
      refine iNewT (by simp) fun t ht => ?_
      have h4 := (h3.newF hl).newF (o := .tup [.int (j : Nat), .ref l]) ht
      have nlt : t ≠ l := fun z => by rw [z, upd_same] at ht; cases ht
      walk_at "go"
      refine iApp (h4.hw (d := d) hd) (by rw [hl3]; have : (D.wait d).length < 90000 := hz; show (D.wait d).length < 100000; omega) ?_
      walk_at "go"
      have h5 := h4.addWait (d := d) (j := j) (x := x) hd hj upd_same ((upd_ne nlt.symm).trans upd_same)
      refine q3 on1 l1 _ _ ?_ (by rw [e, et]; exact h5.at_)
      have f1 := (h3.own.free hl).1
      have f2 := ((h3.newF hl (o := .lst x)).own.free ht).1
      exact (ex_new f1).trans (ex_new f2)
theorem layW_take {f : Nat → Option Sec} {ws : List (Nat × Sec)} {ks : List Bool} {i : Nat} {z : Nat × Sec} {b : Bool} (h1 : ws[i]? = some z) (h2 : ks[i]? = some b) : layW f (ws.take (i + 1)) (ks.take (i + 1)) = step (layW f (ws.take i) (ks.take i)) (z, b) := by
  have a1 : i < ws.length := (List.getElem?_eq_some_iff.mp h1).1
  have a2 : i < ks.length := (List.getElem?_eq_some_iff.mp h2).1
  unfold layW
  rw [List.take_succ, List.take_succ, h1, h2]
  show List.foldl step f ((ws.take i ++ [z]).zip (ks.take i ++ [b])) = _
  rw [List.zip_append (by rw [List.length_take, List.length_take]; omega), List.foldl_append]
  rfl
theorem layW_all {f : Nat → Option Sec} {ws : List (Nat × Sec)} {ks : List Bool} {i : Nat} (h : i = min ws.length ks.length) : layW f (ws.take i) (ks.take i) = layW f ws ks := by
  unfold layW
  congr 1
  subst h
  rw [List.zip_eq_zipWith, List.zip_eq_zipWith, ← List.take_zipWith, List.take_of_length_le (by rw [List.length_zipWith]; exact Nat.le_refl _)]
def sp_settle (C : Addr) : Sp := fun vs H Q _ => ∃ (F Rs : Hp) (L : DL → Addr) (D : DK) (d : Nat) (p : Addr) (ks : List Bool), vs = [.ref (L .obj), .int d, .ref p] ∧ DAt C H F Rs L D ∧ d < D.n ∧ Rs p = some (.lst (ks.map V.bl)) ∧
  ∀ H' L', L' .obj = L .obj → DAt C H' F Rs L' (D.settle d ks) → Q .non H'
theorem ok_settle {C : Addr} (M : Mg mg) (T : Tx_Disks K C) {f : Addr} {fd : FuncData} (F : Fun K "_settle" "Disks._settle" s_Disks__settle f fd) : FnOk P w K mg base CX0 1 f fd ["self", "disk", "kept"] (sp_settle C) := by
  refine F.ok sc_Disks__settle (fun vs H Q E h => ?_) (fun cdv A outer s H vs Q E hr h => ?_)
  · obtain ⟨F, Rs, L, D, d, p, ks, rfl, _⟩ := h; rfl
  · obtain ⟨F, Rs, L, D, d, p, ks, rfl, ⟨dx, szs, cm, cw, h⟩, hd, hp, q⟩ := h
    have hO := h.hO
    have hW := h.hW
    have hM := h.hM
    have hw := h.hw hd
    have hpH := h.own.r _ _ hp
    have rw' := h.wai d hd
    refine ⟨_, (pss_cons (ps_set (i := 3) sc_Disks__settle.nd rfl (Or.inl rfl) (pe_ix ix_l (pe_fld (pv 0) rfl) (pv 1) (fun _ _ => rfl))) (pss_cons (ps_for PassesOwn.never rfl (pi_zip (by rfl) M.n_zip (pa_cons (pe_ix ix_l (pe_fld (pv 0) rfl) (pv 1) (fun _ _ => rfl)) (pa_cons (pv 2) pa_nil))) (pg_tup (by rfl) (pgs_cons (pg_tup (by rfl) (pgs_cons (pg_name (i := 4) sc_Disks__settle.nd rfl (Or.inl rfl)) (pgs_cons (pg_name (i := 5) sc_Disks__settle.nd rfl (Or.inl rfl)) pgs_nil))) (pgs_cons (pg_name (i := 6) sc_Disks__settle.nd rfl (Or.inl rfl)) pgs_nil))) (pss_one (ps_if (pt_val (pv 6)) (pss_one (ps_asg (pv 5) (pg_sub (pv 3) (pv 4) set_list))) pss_nil))) (pss_one (ps_asg (pe_lst pa_nil) (pg_sub (pe_fld (pv 0) rfl) (pv 1) set_list))))), ?_⟩
    refine iBody (by repeat constructor) ?_
    walk_at "go"
    refine iIxL hM ((atI_natL _ _).trans (medL_get hd)) ?_
    walk_at "go"
    refine iIxL hW ((atI_natL _ _).trans (waiL_get hd)) ?_
    walk_at "go"
    refine forJ (walk_zip (xs := cw d) (ys := ks.map V.bl) rfl) (fun i σ' H' => (∃ x y z, σ' = [some (.ref (L .obj)), some (.int d), some (.ref p), some (.ref (L (.med d))), x, y, z]) ∧
      ∃ cm', DRep C dx szs H' F Rs L { D with media := fun e => if e = d then layW (D.media d) ((D.wait d).take i) (ks.take i) else D.media e } cm' cw) ?_ (fun i σ' H' hi hp' => ?_) (fun i x σ' H' H'' hi hp' hy => ?_) (fun σ' H' hp' => ?_)
    · refine ⟨⟨_, _, _, rfl⟩, cm, ?_⟩
      have e : (fun e => if e = d then layW (D.media d) ((D.wait d).take 0) (ks.take 0) else D.media e) = D.media := by
        funext e
        by_cases z : e = d
        · subst z; rw [if_pos rfl]; rfl
        · rw [if_neg z]
      rw [e]
      exact h
    · obtain ⟨_, cm', h'⟩ := hp'
      exact ⟨SqL.tr (h'.hw (d := d) hd), SqL.tr (h'.own.r _ _ hp)⟩
    · obtain ⟨⟨x1, x2, x3, rfl⟩, cm', h'⟩ := hp'
      obtain ⟨t, u, v, rfl, ht, rfl, hu, hv⟩ := hy
      obtain ⟨z, hz⟩ : ∃ z, (D.wait d)[i]? = some z := ⟨_, List.getElem?_eq_getElem (by have := (List.getElem?_eq_some_iff.mp hu).1; rw [← rw'.len]; exact this)⟩
      obtain ⟨hj, t2, p2, rfl, ht2, hp2⟩ := rw'.at_ _ _ _ hu hz
      have hv : (ks.map V.bl)[i]? = some v := hv
      rw [List.getElem?_map] at hv
      obtain ⟨b, hb, rfl⟩ : ∃ b, ks[i]? = some b ∧ v = V.bl b := by
        cases e : ks[i]? with
        | none => rw [e] at hv; cases hv
        | some b => rw [e] at hv; cases hv; exact ⟨b, rfl, rfl⟩
      have h2 := h'.new (o := .tup [.ref t2, .bl b]) ht
      have ht2' := h2.own.f _ _ ht2
      have hm2 := h2.hm (d := d) hd
      have l2 := (h2.med d hd).len
      walk_at "go"
      cases b with
      | true =>
        walk_at "go"
        refine iSetL hm2 (k := z.1) (by rw [ixN_natL, l2]; exact if_pos hj) ?_
        refine ⟨⟨_, _, _, rfl⟩, _, h2.setMed (d := d) (j := z.1) (v := .ref p2) (f := fun e => if e = d then layW (D.media d) ((D.wait d).take (i + 1)) (ks.take (i + 1)) else D.media e) hd ?_ (fun k hk => ?_) fun e he => ?_⟩
        · rw [if_pos rfl, layW_take hz hb]
          unfold step
          rw [if_pos rfl, if_pos rfl]
          exact ⟨p2, rfl, hp2⟩
        · show (if d = d then layW (D.media d) ((D.wait d).take (i + 1)) (ks.take (i + 1)) else D.media d) k = (if d = d then layW (D.media d) ((D.wait d).take i) (ks.take i) else D.media d) k
          rw [if_pos rfl, if_pos rfl, layW_take hz hb]
          unfold step
          rw [if_pos rfl, if_neg hk]
        · show (if e = d then _ else _) = (if e = d then _ else _)
          rw [if_neg he, if_neg he]
      | false =>
        walk_at "go"
        refine ⟨⟨_, _, _, rfl⟩, cm', ?_⟩
        have e : (fun e => if e = d then layW (D.media d) ((D.wait d).take (i + 1)) (ks.take (i + 1)) else D.media e) = (fun e => if e = d then layW (D.media d) ((D.wait d).take i) (ks.take i) else D.media e) := by
          funext e
          by_cases y : e = d
          · rw [if_pos y, if_pos y, layW_take hz hb]; rfl
          · rw [if_neg y, if_neg y]
        rw [e]
        exact h2
    · obtain ⟨⟨x1, x2, x3, rfl⟩, cm', h'⟩ := hp'
      rw [layW_all (by rw [List.length_map, rw'.len])] at h'
      have hO := h'.hO
      have hW := h'.hW
      walk_at "go"
      refine iNewL (by simp) fun t ht => ?_
      have h3 := h'.newWait (d := d) hd ht
      have fr := h'.own.free ht
      have n1 : L .obj ≠ t := fr.2.2 _ trivial
      have n2 : L .wait ≠ t := fr.2.2 _ trivial
      walk_at "go"
      refine iSetL ((upd_ne n2).trans hW) (k := d) (by rw [ixN_natL, waiL_len]; exact if_pos hd) ?_
      exact q _ _ (chg_ne (by intro z; cases z)) h3.at_
theorem j_settle {C : Addr} {H F Rs : Hp} {L : DL → Addr} {D : DK} {d : Nat} {p : Addr} {ks : List Bool} {Q : VK} {E : XK} (D0 : DAt C H F Rs L D) (hd : d < D.n) (hp : Rs p = some (.lst (ks.map V.bl))) (q : ∀ H' L', L' .obj = L .obj → DAt C H' F Rs L' (D.settle d ks) → Q .non H') :
    sp_settle C [.ref (L .obj), .int d, .ref p] H Q E := ⟨F, Rs, L, D, d, p, ks, rfl, D0, hd, hp, q⟩
theorem DAt.obj {C : Addr} {H F Rs : Hp} {L : DL → Addr} {D : DK} (h : DAt C H F Rs L D) : ∃ dx szs, H (L .obj) = some (.ins C dx (NMD.zip (flds szs L D))) ∧ H szs = some (.tup [.int (D.n : Nat), .int (D.m : Nat), .int (D.k : Nat), .int (D.s : Nat)]) := by
  obtain ⟨dx, szs, cm, cw, h⟩ := h
  exact ⟨dx, szs, h.hO, h.hs⟩
theorem DAt.ex {C : Addr} {H H' F Rs : Hp} {L : DL → Addr} {D : DK} (h : DAt C H F Rs L D) (e : Ex H H') : DAt C H' F Rs L D := by
  obtain ⟨dx, szs, cm, cw, h⟩ := h
  exact (h.ex e).at_
theorem DAt.weak {C : Addr} {H F Rs Rs' : Hp} {L : DL → Addr} {D : DK} (h : DAt C H F Rs L D) (e : Ex Rs' Rs) : DAt C H F Rs' L D := by
  obtain ⟨dx, szs, cm, cw, h⟩ := h
  exact (h.weak e).at_
theorem DAt.newR {C : Addr} {H F Rs : Hp} {L : DL → Addr} {D : DK} {p : Addr} {o : HO} (h : DAt C H F Rs L D) (e : H p = none) : DAt C (upd H p o) F (upd Rs p o) L D := by
  obtain ⟨dx, szs, cm, cw, h⟩ := h
  exact (h.newR e).at_
theorem DAt.put {C : Addr} {H F Rs : Hp} {L : DL → Addr} {D : DK} {p : Addr} {o o' : HO} (h : DAt C H F Rs L D) (e : Rs p = some o) : DAt C (upd H p o') F (upd Rs p o') L D := by
  obtain ⟨dx, szs, cm, cw, h⟩ := h
  exact (h.put e).at_
theorem DAt.newF {C : Addr} {H F Rs : Hp} {L : DL → Addr} {D : DK} {p : Addr} {o : HO} (h : DAt C H F Rs L D) (e : H p = none) : DAt C (upd H p o) (upd F p o) Rs L D := by
  obtain ⟨dx, szs, cm, cw, h⟩ := h
  exact (h.newF e).at_
theorem DAt.rs {C : Addr} {H F Rs : Hp} {L : DL → Addr} {D : DK} (h : DAt C H F Rs L D) : Ex Rs H := by
  obtain ⟨dx, szs, cm, cw, h⟩ := h
  exact h.own.r
theorem DAt.fs {C : Addr} {H F Rs : Hp} {L : DL → Addr} {D : DK} (h : DAt C H F Rs L D) : Ex F H := by
  obtain ⟨dx, szs, cm, cw, h⟩ := h
  exact h.own.f
def sp_sync (C CP : Addr) : Sp := fun vs H Q E => ∃ (F Rs : Hp) (L : DL → Addr) (D : DK), vs = [.ref (L .obj)] ∧ DAt C H F Rs L D ∧ (∀ d, d < D.n → (D.wait d).length < 90000) ∧
  (D.on = false → E (.ref CP) none H) ∧ (D.on = true → D.left = some 0 → ∀ H', DAt C H' F Rs L D.fail → E (.ref CP) none H') ∧
  (D.on = true → D.left ≠ some 0 → ∀ H' L', L' .obj = L .obj → DAt C H' F Rs L' D.sync → Q .non H')
theorem rep_true {n : Nat} : (List.replicate n [V.bl true]).flatten = (List.replicate n true).map V.bl := by
  induction n with
  | zero => rfl
  | succ n ih => rw [List.replicate_succ, List.flatten_cons, ih, List.replicate_succ]; rfl
theorem ok_sync {C CP : Addr} (M : Mg mg) (T : Tx_Disks K C) {f : Addr} {fd : FuncData} (F : Fun K "sync" "Disks.sync" s_Disks_sync f fd) (c_Disks__operate : MetX P w K mg base 2 C "_operate" ["self"] (sp_operate C CP)) (c_Disks__settle : MetX P w K mg base 1 C "_settle" ["self", "disk", "kept"] (sp_settle C)) : FnOk P w K mg base (L2.CX P w) 3 f fd ["self"] (sp_sync C CP) := by
  refine F.okX sc_Disks_sync (fun vs H Q E h => ?_) (fun cdv A outer s H vs Q E hr h => ?_)
  · obtain ⟨F, Rs, L, D, rfl, _⟩ := h; rfl
  · obtain ⟨F, Rs, L, D, rfl, D0, hz, q1, q2, q3⟩ := h
    obtain ⟨dx, szs, hO, -⟩ := D0.obj
    refine ⟨_, (pss_cons (ps_expr (pe_metE0 c_Disks__operate (hr.mono (by omega)) (xpX (takes_of rfl rfl rfl rfl)) (pv 0))) (pss_cons (ps_fldaug (pv 0) pe_int in_add) (pss_one (ps_for (passes_of rfl) rfl (pi_range1 (by rfl) M.n_range (pa_cons (pe_ix ix_t (pe_fld (pv 0) rfl) pe_int (fun _ _ => rfl)) pa_nil)) (pg_name (i := 1) sc_Disks_sync.nd rfl (Or.inl rfl)) (pss_one (ps_expr (pe_metE c_Disks__settle (hr.mono (by omega)) (xpX (takes_of rfl rfl rfl rfl)) (pv 0) (pa_cons (pv 1) (pa_cons (pe_op op_rep (pe_lst (pa_cons pe_bl pa_nil)) (pe_callB len_l (by rfl) M.n_len PySem.boot_len (pa_cons (pe_ix ix_l (pe_fld (pv 0) rfl) (pv 1) (fun _ _ => rfl)) pa_nil))) pa_nil))))))))), ?_⟩
    refine iBody (by repeat constructor) ?_
    walk_at "go"
    refine j_operate D0 q1 q2 fun on1 l1 H1 D1 => ?_
    clear hO
    have q4 := q3 on1 l1
    obtain ⟨dx, szs, cm, cw, h⟩ := D1
    have hO := h.hO
    walk_at "go"
    have h3 := h.fields (D' := { D.tick with syncs := D.syncs + 1 }) rfl rfl rfl rfl rfl rfl rfl
    have e2 : flds szs L { D.tick with syncs := D.syncs + 1 } = [.bl D.inuse, .bl D.formatted, .int D.scrub, .ref szs, .ref (L .there), .ref (L .media), .ref (L .wait), .bl D.on, leftV D.tick.left, .int (D.fails : Nat), .int (D.reads : Nat), .int (D.writes : Nat), .int ((D.syncs : Nat) + 1)] := rfl
    rw [e2] at h3
    rw [show (upd H1 (L DL.obj) (HO.ins C dx (List.zip NMD [V.bl D.tick.inuse, V.bl D.tick.formatted, V.int D.tick.scrub, V.ref szs, V.ref (L DL.there), V.ref (L DL.media), V.ref (L DL.wait), V.bl D.tick.on, leftV D.tick.left, V.int (D.tick.fails : Nat), V.int (D.tick.reads : Nat), V.int (D.tick.writes : Nat), V.int ((D.tick.syncs : Nat) + 1)]))) = upd H1 (L DL.obj) (HO.ins C dx (List.zip NMD [.bl D.inuse, .bl D.formatted, .int D.scrub, .ref szs, .ref (L .there), .ref (L .media), .ref (L .wait), .bl D.on, leftV D.tick.left, .int (D.fails : Nat), .int (D.reads : Nat), .int (D.writes : Nat), .int ((D.syncs : Nat) + 1)])) from rfl]
    generalize upd H1 (L DL.obj) _ = H3 at h3 ⊢
    have hO := h3.hO
    have hs := h3.hs
    have n8 := h3.n8
    walk_at "go"
    refine forJ_range0 (fun i σ' H' => (∃ x, σ' = [some (.ref (L .obj)), x]) ∧ ∃ L', L' .obj = L .obj ∧ DAt C H' F Rs L' (({ D.tick with syncs := D.syncs + 1 } : DK).settles (fun d => List.replicate (D.wait d).length true) i)) ⟨⟨_, rfl⟩, L, rfl, settles_zero.symm ▸ h3.at_⟩ (fun i σ' H' hi hp => ?_) (fun σ' H' hp => ?_)
    · rw [Int.toNat_natCast] at hi
      obtain ⟨⟨x1, rfl⟩, L', eL, D4⟩ := hp
      have D5 := D4
      obtain ⟨dx, szs, cm, cw, h4⟩ := D4
      rw [← eL]
      have hO := h4.hO
      have hW := h4.hW
      have hw := h4.hw (d := i) hi
      have lw := (h4.wai i hi).len
      have ew : (({ D.tick with syncs := D.syncs + 1 } : DK).settles (fun d => List.replicate (D.wait d).length true) i).wait i = D.wait i := by
        show (if i < i then [] else D.wait i) = D.wait i
        rw [if_neg (Nat.lt_irrefl i)]
      rw [ew] at lw
      have hzi := hz i hi
      walk_at "go"
      refine iNewL (by simp) fun t ht => ?_
      have n1 : L' .obj ≠ t := (h4.own.free ht).2.2 _ trivial
      have n2 : L' .wait ≠ t := (h4.own.free ht).2.2 _ trivial
      have n3 : L' (.wai i) ≠ t := (h4.own.free ht).2.2 _ hi
      walk_at "go"
      refine iIxL ((upd_ne n2).trans hW) ((atI_natL _ _).trans (waiL_get hi)) ?_
      walk_at "go"
      rw [lw]
      refine iRep upd_same (by omega) (by omega) (by simp; omega) fun u hu => ?_
      rw [Int.toNat_natCast, rep_true]
      walk_at "go"
      have D6 := (D5.ex (Evl.Ex.new ht)).newR (o := .lst ((List.replicate (D.wait i).length true).map V.bl)) hu
      refine j_settle D6 hi upd_same fun H6 L6 e6 D7 => ?_
      rw [settles_succ] at D7
      walk_at "go"
      refine ⟨⟨_, rfl⟩, L6, e6.trans rfl, D7.weak ?_⟩
      refine Evl.Ex.new ?_
      exact Evl.fresh_back (D5.ex (Evl.Ex.new ht)).rs hu
    · obtain ⟨⟨x1, rfl⟩, L', eL, D4⟩ := hp
      rw [Int.toNat_natCast] at D4
      walk_at "go"
      exact q4 _ _ eL D4
def sp_rot (C : Addr) : Sp := fun vs H Q _ => ∃ (F Rs : Hp) (L : DL → Addr) (D : DK) (d j : Nat) (p : Addr) (x : Sec), vs = [.ref (L .obj), .int d, .int j, .ref p] ∧ DAt C H F Rs L D ∧ d < D.n ∧ j < D.m ∧ Rs p = some (.lst x) ∧
  ∀ H' F', Ex F F' → DAt C H' F' Rs L (D.rot d j x) → Q .non H'
theorem ok_rot {C : Addr} (M : Mg mg) (T : Tx_Disks K C) {f : Addr} {fd : FuncData} (F : Fun K "rot" "Disks.rot" s_Disks_rot f fd) : FnOk P w K mg base CX0 1 f fd ["self", "disk", "sector", "data"] (sp_rot C) := by
  refine F.ok sc_Disks_rot (fun vs H Q E h => ?_) (fun cdv A outer s H vs Q E hr h => ?_)
  · obtain ⟨F, Rs, L, D, d, j, p, x, rfl, _⟩ := h; rfl
  · obtain ⟨F, Rs, L, D, d, j, p, x, rfl, D0, hd, hj, hp, q⟩ := h
    have D1 := D0
    obtain ⟨dx, szs, cm, cw, h⟩ := D0
    have hO := h.hO
    have hT := h.hT
    have hM := h.hM
    have hm := h.hm hd
    have lm := (h.med d hd).len
    have hpH := h.own.r _ _ hp
    have e : D.rot d j x = if D.there d = true then { D with media := fun e i => if e = d ∧ i = j then some x else D.media e i } else D := rfl
    refine ⟨_, (pss_one (ps_if (pt_val (pe_ix ix_l (pe_fld (pv 0) rfl) (pv 1) (fun _ _ => rfl))) (pss_one (ps_asg (pe_callTy list_l (by rfl) M.n_list (by decide +kernel) (pa_cons (pv 3) pa_nil)) (pg_sub (pe_ix ix_l (pe_fld (pv 0) rfl) (pv 1) (fun _ _ => rfl)) (pv 2) set_list))) pss_nil)), ?_⟩
    refine iBody (by repeat constructor) ?_
    walk_at "go"
    refine iIxL hT ((atI_natL _ _).trans (theL_get hd)) ?_
    walk_at "go"
    cases et : D.there d with
    | false =>
      walk_at "go"
      exact q _ F (Ex.refl _) (by rw [e, et]; exact D1)
    | true =>
      walk_at "go"
      refine iListL hpH fun l hl => ?_
      have n0 : L .obj ≠ l := (h.own.free hl).2.2 _ trivial
      have n1 : L .media ≠ l := (h.own.free hl).2.2 _ trivial
      have n2 : L (.med d) ≠ l := (h.own.free hl).2.2 _ hd
      walk_at "go"
      refine iIxL ((upd_ne n1).trans hM) ((atI_natL _ _).trans (medL_get hd)) ?_
      walk_at "go"
      refine iSetL ((upd_ne n2).trans hm) (k := j) (by rw [ixN_natL, lm]; exact if_pos hj) ?_
      have h2 := (h.newF (o := .lst x) hl).setMed (d := d) (j := j) (v := .ref l) (f := fun e i => if e = d ∧ i = j then some x else D.media e i) hd (by rw [if_pos ⟨rfl, rfl⟩]; exact ⟨l, rfl, upd_same⟩) (fun i hi => if_neg fun z => hi z.2) (fun e he => funext fun i => if_neg fun z => he z.1)
      exact q _ _ (ex_new (h.own.free hl).1) (by rw [e, et]; exact h2.at_)
def sp_bad (C : Addr) : Sp := fun vs H Q _ => ∃ (F Rs : Hp) (L : DL → Addr) (D : DK) (d j : Nat), vs = [.ref (L .obj), .int d, .int j] ∧ DAt C H F Rs L D ∧ d < D.n ∧ j < D.m ∧ ∀ H', DAt C H' F Rs L (D.bad d j) → Q .non H'
theorem ok_bad {C : Addr} (M : Mg mg) (T : Tx_Disks K C) {f : Addr} {fd : FuncData} (F : Fun K "bad" "Disks.bad" s_Disks_bad f fd) : FnOk P w K mg base CX0 1 f fd ["self", "disk", "sector"] (sp_bad C) := by
  refine F.ok sc_Disks_bad (fun vs H Q E h => ?_) (fun cdv A outer s H vs Q E hr h => ?_)
  · obtain ⟨F, Rs, L, D, d, j, rfl, _⟩ := h; rfl
  · obtain ⟨F, Rs, L, D, d, j, rfl, ⟨dx, szs, cm, cw, h⟩, hd, hj, q⟩ := h
    have hO := h.hO
    have hM := h.hM
    have hm := h.hm hd
    have lm := (h.med d hd).len
    refine ⟨_, (pss_one (ps_asg pe_non (pg_sub (pe_ix ix_l (pe_fld (pv 0) rfl) (pv 1) (fun _ _ => rfl)) (pv 2) set_list))), ?_⟩
    refine iBody (by repeat constructor) ?_
    walk_at "go"
    refine iIxL hM ((atI_natL _ _).trans (medL_get hd)) ?_
    walk_at "go"
    refine iSetL hm (k := j) (by rw [ixN_natL, lm]; exact if_pos hj) ?_
    have h2 := h.setMed (d := d) (j := j) (v := .non) (f := fun e i => if e = d ∧ i = j then none else D.media e i) hd (by rw [if_pos ⟨rfl, rfl⟩]; exact rfl) (fun i hi => if_neg fun z => hi z.2) (fun e he => funext fun i => if_neg fun z => he z.1)
    exact q _ h2.at_
def sp_empty (C : Addr) : Sp := fun vs H Q _ => ∃ (F Rs : Hp) (L : DL → Addr) (D : DK) (d : Nat), vs = [.ref (L .obj), .int d] ∧ DAt C H F Rs L D ∧ d < D.n ∧ ∀ H' L', L' .obj = L .obj → DAt C H' F Rs L' (D.empty d) → Q .non H'
theorem rep_none {n : Nat} : (List.replicate n [V.non]).flatten = List.replicate n V.non := by
  induction n with
  | zero => rfl
  | succ n ih => rw [List.replicate_succ, List.flatten_cons, ih, List.replicate_succ]; rfl
theorem ok_empty {C : Addr} (M : Mg mg) (T : Tx_Disks K C) {f : Addr} {fd : FuncData} (F : Fun K "_empty" "Disks._empty" s_Disks__empty f fd) : FnOk P w K mg base CX0 1 f fd ["self", "disk"] (sp_empty C) := by
  refine F.ok sc_Disks__empty (fun vs H Q E h => ?_) (fun cdv A outer s H vs Q E hr h => ?_)
  · obtain ⟨F, Rs, L, D, d, rfl, _⟩ := h; rfl
  · obtain ⟨F, Rs, L, D, d, rfl, ⟨dx, szs, cm, cw, h⟩, hd, q⟩ := h
    have hO := h.hO
    have hM := h.hM
    have hm := h.hm hd
    have lm := (h.med d hd).len
    have m2 := h.m2
    refine ⟨_, (pss_cons (ps_asg (pe_op op_rep (pe_lst (pa_cons pe_non pa_nil)) (pe_callB len_l (by rfl) M.n_len PySem.boot_len (pa_cons (pe_ix ix_l (pe_fld (pv 0) rfl) (pv 1) (fun _ _ => rfl)) pa_nil))) (pg_sub (pe_fld (pv 0) rfl) (pv 1) set_list)) (pss_one (ps_asg (pe_lst pa_nil) (pg_sub (pe_fld (pv 0) rfl) (pv 1) set_list)))), ?_⟩
    refine iBody (by repeat constructor) ?_
    walk_at "go"
    refine iNewL (by simp) fun l hl => ?_
    have n0 : L .obj ≠ l := (h.own.free hl).2.2 _ trivial
    have n1 : L .media ≠ l := (h.own.free hl).2.2 _ trivial
    have n2 : L (.med d) ≠ l := (h.own.free hl).2.2 _ hd
    walk_at "go"
    refine iIxL ((upd_ne n1).trans hM) ((atI_natL _ _).trans (medL_get hd)) ?_
    walk_at "go"
    rw [lm]
    refine iRep upd_same (by omega) (by omega) (by simp; omega) fun u hu => ?_
    rw [Int.toNat_natCast, rep_none]
    have h1 := h.new (o := .lst [.non]) hl
    have fr := h1.own.free hu
    have n3 : L .obj ≠ u := fr.2.2 _ trivial
    have n4 : L .media ≠ u := fr.2.2 _ trivial
    have h2 := h1.newMed (d := d) hd hu
    walk_at "go"
    refine iSetL ((upd_ne n4).trans ((upd_ne n1).trans hM)) (k := d) (by rw [ixN_natL, medL_len]; exact if_pos hd) ?_
    walk_at "go"
    generalize upd (upd (upd H l _) u _) (L .media) _ = H2 at h2 ⊢
    have o2 : chg L (.med d) u .obj = L .obj := chg_ne (by intro z; cases z)
    have w2 : chg L (.med d) u .wait = L .wait := chg_ne (by intro z; cases z)
    have hO := h2.hO
    have hW := h2.hW
    rw [o2] at hO
    walk_at "go"
    refine iNewL (by simp) fun t ht => ?_
    have fr2 := h2.own.free ht
    have n5 : L .obj ≠ t := o2 ▸ fr2.2.2 _ trivial
    have n6 : L .wait ≠ t := w2 ▸ fr2.2.2 _ trivial
    have h3 := h2.newWait (d := d) hd ht
    walk_at "go"
    refine iSetL ((upd_ne (fr2.2.2 .wait trivial)).trans hW) (k := d) (by rw [ixN_natL, waiL_len]; exact if_pos hd) ?_
    exact q _ _ ((chg_ne (by intro z; cases z)).trans o2) h3.at_
theorem j_empty {C : Addr} {H F Rs : Hp} {L : DL → Addr} {D : DK} {d : Nat} {Q : VK} {E : XK} (D0 : DAt C H F Rs L D) (hd : d < D.n) (q : ∀ H' L', L' .obj = L .obj → DAt C H' F Rs L' (D.empty d) → Q .non H') :
    sp_empty C [.ref (L .obj), .int d] H Q E := ⟨F, Rs, L, D, d, rfl, D0, hd, q⟩
def sp_away (C : Addr) : Sp := fun vs H Q _ => ∃ (F Rs : Hp) (L : DL → Addr) (D : DK) (d : Nat), vs = [.ref (L .obj), .int d] ∧ DAt C H F Rs L D ∧ d < D.n ∧ ∀ H' L', L' .obj = L .obj → DAt C H' F Rs L' (D.away d) → Q .non H'
theorem ok_away {C : Addr} (M : Mg mg) (T : Tx_Disks K C) {f : Addr} {fd : FuncData} (F : Fun K "away" "Disks.away" s_Disks_away f fd) (c_Disks__empty : MetX P w K mg base 1 C "_empty" ["self", "disk"] (sp_empty C)) : FnOk P w K mg base CX0 2 f fd ["self", "disk"] (sp_away C) := by
  refine F.ok sc_Disks_away (fun vs H Q E h => ?_) (fun cdv A outer s H vs Q E hr h => ?_)
  · obtain ⟨F, Rs, L, D, d, rfl, _⟩ := h; rfl
  · obtain ⟨F, Rs, L, D, d, rfl, ⟨dx, szs, cm, cw, h⟩, hd, q⟩ := h
    have hO := h.hO
    have hT := h.hT
    have h2 := h.setThere (d := d) (b := false) hd
    refine ⟨_, (pss_cons (ps_asg pe_bl (pg_sub (pe_fld (pv 0) rfl) (pv 1) set_list)) (pss_one (ps_expr (pe_metE c_Disks__empty (hr.mono (by omega)) xp0 (pv 0) (pa_cons (pv 1) pa_nil))))), ?_⟩
    refine iBody (by repeat constructor) ?_
    walk_at "go"
    refine iSetL hT (k := d) (by rw [ixN_natL, theL_len]; exact if_pos hd) ?_
    walk_at "go"
    have hO := h2.hO
    generalize upd H (L .there) _ = H2 at h2 hO ⊢
    walk_at "go"
    refine j_empty h2.at_ hd fun H' L' e D3 => ?_
    walk_at "go"
    exact q _ _ e D3
def sp_blank (C : Addr) : Sp := fun vs H Q _ => ∃ (F Rs : Hp) (L : DL → Addr) (D : DK) (d : Nat), vs = [.ref (L .obj), .int d] ∧ DAt C H F Rs L D ∧ d < D.n ∧ ∀ H' L', L' .obj = L .obj → DAt C H' F Rs L' (D.blank d) → Q .non H'
theorem ok_blank {C : Addr} (M : Mg mg) (T : Tx_Disks K C) {f : Addr} {fd : FuncData} (F : Fun K "blank" "Disks.blank" s_Disks_blank f fd) (c_Disks__empty : MetX P w K mg base 1 C "_empty" ["self", "disk"] (sp_empty C)) : FnOk P w K mg base CX0 2 f fd ["self", "disk"] (sp_blank C) := by
  refine F.ok sc_Disks_blank (fun vs H Q E h => ?_) (fun cdv A outer s H vs Q E hr h => ?_)
  · obtain ⟨F, Rs, L, D, d, rfl, _⟩ := h; rfl
  · obtain ⟨F, Rs, L, D, d, rfl, ⟨dx, szs, cm, cw, h⟩, hd, q⟩ := h
    have hO := h.hO
    have hT := h.hT
    have h2 := h.setThere (d := d) (b := true) hd
    refine ⟨_, (pss_cons (ps_asg pe_bl (pg_sub (pe_fld (pv 0) rfl) (pv 1) set_list)) (pss_one (ps_expr (pe_metE c_Disks__empty (hr.mono (by omega)) xp0 (pv 0) (pa_cons (pv 1) pa_nil))))), ?_⟩
    refine iBody (by repeat constructor) ?_
    walk_at "go"
    refine iSetL hT (k := d) (by rw [ixN_natL, theL_len]; exact if_pos hd) ?_
    walk_at "go"
    have hO := h2.hO
    generalize upd H (L .there) _ = H2 at h2 hO ⊢
    walk_at "go"
    refine j_empty h2.at_ hd fun H' L' e D3 => ?_
    walk_at "go"
    exact q _ _ e D3
/-- a list of lists of booleans -/
def Kept (R : Hp) (p : Addr) (ks : List (List Bool)) : Prop := ∃ xs : List V, R p = some (.lst xs) ∧ xs.length = ks.length ∧ ∀ (i : Nat) (v : V) (k : List Bool), xs[i]? = some v → ks[i]? = some k → ∃ q : Addr, v = .ref q ∧ R q = some (.lst (k.map V.bl))
def sp_power (C : Addr) : Sp := fun vs H Q _ => ∃ (F Rs : Hp) (L : DL → Addr) (D : DK) (p : Addr) (ks : List (List Bool)), vs = [.ref (L .obj), .ref p] ∧ DAt C H F Rs L D ∧ Kept Rs p ks ∧ ∀ H' L', L' .obj = L .obj → DAt C H' F Rs L' (D.power fun d => ks.getD d []) → Q .non H'
theorem ok_power {C : Addr} (M : Mg mg) (T : Tx_Disks K C) {f : Addr} {fd : FuncData} (F : Fun K "power" "Disks.power" s_Disks_power f fd) (c_Disks__fail : MetX P w K mg base 1 C "_fail" ["self"] (sp_fail C)) (c_Disks__settle : MetX P w K mg base 1 C "_settle" ["self", "disk", "kept"] (sp_settle C)) : FnOk P w K mg base CX0 2 f fd ["self", "kept"] (sp_power C) := by
  refine F.ok sc_Disks_power (fun vs H Q E h => ?_) (fun cdv A outer s H vs Q E hr h => ?_)
  · obtain ⟨F, Rs, L, D, p, ks, rfl, _⟩ := h; rfl
  · obtain ⟨F, Rs, L, D, p, ks, rfl, D0, ⟨xs, hxs, lxs, hk⟩, q⟩ := h
    obtain ⟨dx, szs, hO, -⟩ := D0.obj
    have n8 : D.n ≤ 8 := by obtain ⟨_, _, _, _, h⟩ := D0; exact h.n8
    refine ⟨_, (Evl.pss_cut (ps_if (pt_val (pe_fld (pv 0) rfl)) (pss_one (ps_expr (pe_metE0 c_Disks__fail (hr.mono (by omega)) xp0 (pv 0)))) pss_nil) (pss_cons (ps_for PassesOwn.never rfl (pi_range1 (by rfl) M.n_range (pa_cons (pe_ix ix_t (pe_fld (pv 0) rfl) pe_int (fun _ _ => rfl)) pa_nil)) (pg_name (i := 2) sc_Disks_power.nd rfl (Or.inl rfl)) (pss_one (ps_expr (pe_metE c_Disks__settle (hr.mono (by omega)) xp0 (pv 0) (pa_cons (pv 2) (pa_cons (pe_ifExp (pt_cmpR op_lt (pv 2) (pe_callB len_l (by rfl) M.n_len PySem.boot_len (pa_cons (pv 1) pa_nil)) (nomark _)) (pe_ix ix_l (pv 1) (pv 2) (fun _ _ => rfl)) (pe_lst pa_nil)) pa_nil)))))) (pss_one (ps_fld (pv 0) pe_bl rfl)))), ?_⟩
    refine iBody (by repeat constructor) ?_
    refine iCut2 (fun σ H1 => σ = [some (.ref (L .obj)), some (.ref p), none] ∧ DAt C H1 F Rs L (if D.on = true then D.fail else D)) ?_ ?_
    · walk_at "go"
      cases eo : D.on with
      | false =>
        walk_at "go"
        exact ⟨rfl, D0⟩
      | true =>
        walk_at "go"
        refine ⟨F, Rs, L, D, rfl, D0, fun H' D1 => ?_⟩
        walk_at "go"
        exact ⟨rfl, D1⟩
    · rintro σ H1 ⟨rfl, D1⟩
      have e1 : (if D.on = true then D.fail else D).n = D.n := by split <;> rfl
      have e2 : D.power (fun d => ks.getD d []) = { (if D.on = true then D.fail else D).settles (fun d => ks.getD d []) D.n with on := true } := rfl
      rw [e2] at q
      generalize (if D.on = true then D.fail else D) = D' at D1 q e1
      clear hO
      obtain ⟨dx, szs, hO, hs⟩ := D1.obj
      have n8' : D'.n ≤ 8 := by rw [e1]; exact n8
      walk_at "go"
      refine forJ_range0 (fun i σ' H' => (∃ x, σ' = [some (.ref (L .obj)), some (.ref p), x]) ∧ ∃ L', L' .obj = L .obj ∧ DAt C H' F Rs L' (D'.settles (fun d => ks.getD d []) i)) ⟨⟨_, rfl⟩, L, rfl, settles_zero.symm ▸ D1⟩ (fun i σ' H' hi hp => ?_) (fun σ' H' hp => ?_)
      · rw [Int.toNat_natCast] at hi
        obtain ⟨⟨x1, rfl⟩, L', eL, D4⟩ := hp
        rw [← eL]
        obtain ⟨dx, szs, hO, -⟩ := D4.obj
        have hx := D4.rs _ _ hxs
        walk_at "go"
        rw [lxs]
        refine ifD (fun hl => ?_) (fun hl => ?_)
        · have hl' : i < ks.length := by omega
          obtain ⟨v, hv⟩ : ∃ v, xs[i]? = some v := ⟨_, List.getElem?_eq_getElem (by omega)⟩
          obtain ⟨k, hk'⟩ : ∃ k, ks[i]? = some k := ⟨_, List.getElem?_eq_getElem hl'⟩
          obtain ⟨r, rfl, hr'⟩ := hk i v k hv hk'
          walk_at "go"
          refine iIxL hx ((atI_natL _ _).trans hv) ?_
          walk_at "go"
          refine j_settle D4 hi hr' fun H6 L6 e6 D7 => ?_
          have ek : k = ks.getD i [] := by rw [List.getD_eq_getElem?_getD, hk']; rfl
          rw [ek, settles_succ] at D7
          walk_at "go"
          exact ⟨⟨_, rfl⟩, L6, e6.trans rfl, D7⟩
        · walk_at "go"
          refine iNewL (by simp) fun t ht => ?_
          walk_at "go"
          have D6 := D4.newR (o := .lst (([] : List Bool).map V.bl)) ht
          refine j_settle D6 hi upd_same fun H6 L6 e6 D7 => ?_
          have ek : ([] : List Bool) = ks.getD i [] := by rw [List.getD_eq_getElem?_getD, List.getElem?_eq_none (by omega)]; rfl
          have e9 : (D'.settles (fun d => ks.getD d []) i).settle i [] = D'.settles (fun d => ks.getD d []) (i + 1) := (congrArg _ ek).trans settles_succ
          rw [e9] at D7
          walk_at "go"
          refine ⟨⟨_, rfl⟩, L6, e6.trans rfl, D7.weak (Evl.Ex.new (Evl.fresh_back D4.rs ht))⟩
      · obtain ⟨⟨x1, rfl⟩, L', eL, D4⟩ := hp
        rw [Int.toNat_natCast] at D4
        rw [← eL]
        obtain ⟨dx, szs, cm, cw, h4⟩ := D4
        have hO := h4.hO
        walk_at "go"
        have h5 := h4.fields (D' := { (D'.settles (fun d => ks.getD d []) D'.n) with on := true }) rfl rfl rfl rfl rfl rfl rfl
        rw [← e1] at q
        exact q _ _ eL h5.at_
/-! ### Disks: sizes, new ones -/
def Sc : V → Prop
  | .non => True
  | .bl _ => True
  | .int _ => True
  | .str _ => True
  | _ => False
def numIn (v : V) (lo hi : Int) : Bool := match v with
  | .int i => decide (lo ≤ i) && decide (i ≤ hi)
  | _ => false
def okS (d m k s : V) : Bool := numIn d 4 8 && numIn m 48 200 && (match d with | .int n => numIn k 1 n && numIn s 1 n && (match k, s with | .int a, .int b => decide (a + b ≤ n) | _, _ => false) | _ => false)
def sp_is_number : Sp := fun vs H Q _ => ∃ (v : V) (lo hi : Int), vs = [v, .int lo, .int hi] ∧ Sc v ∧ Q (.bl (numIn v lo hi)) H
theorem ok_is_number (M : Mg mg) {f : Addr} {fd : FuncData} (F : Fun K "is_number" "is_number" s_is_number f fd) : FnOk P w K mg base CX0 1 f fd ["value", "low", "high"] sp_is_number := by
  refine F.ok sc_is_number (fun vs H Q E h => ?_) (fun cdv A outer s H vs Q E hr h => ?_)
  · obtain ⟨v, lo, hi, rfl, _⟩ := h; rfl
  · obtain ⟨v, lo, hi, rfl, hv, q⟩ := h
    refine ⟨_, (pss_cons (ps_if (PW.pt (pw_or (pt_val (pe_callB isi_b (by rfl) M.n_isinstance (by decide +kernel) (pa_cons (pv 0) (pa_cons (pe_ty (n := "bool") (by rfl) M.n_bool (by decide +kernel)) pa_nil)))) (pw_or1 (pt_not (pt_val (pe_callB isi_b (by rfl) M.n_isinstance (by decide +kernel) (pa_cons (pv 0) (pa_cons (pe_ty (n := "int") (by rfl) M.n_int (by decide +kernel)) pa_nil)))))))) (pss_one (ps_ret pe_bl)) pss_nil) (pss_one (ps_ret (pe_chain op_le op_le (pv 1) (pv 0) (pv 2))))), ?_⟩
    refine iBody (by repeat constructor) ?_
    cases v with
    | non =>
      walk_at "go"
      exact q
    | bl b =>
      walk_at "go"
      exact q
    | str z =>
      walk_at "go"
      exact q
    | int i =>
      have q : Q (.bl (decide (lo ≤ i) && decide (i ≤ hi))) H := q
      walk_at "go"
      refine ifD (fun e => ?_) (fun e => ?_)
      · walk_at "go"
        rw [decide_eq_true e, Bool.true_and] at q
        exact q
      · walk_at "go"
        rw [decide_eq_false e, Bool.false_and] at q
        exact q
    | ref a => exact hv.elim
    | byt b => exact hv.elim
    | flt b => exact hv.elim
    | ty b => exact hv.elim
theorem j_is_number {v : V} {lo hi : Int} {H : Hp} {Q : VK} {E : XK} (hv : Sc v) (q : Q (.bl (numIn v lo hi)) H) : sp_is_number [v, .int lo, .int hi] H Q E := ⟨v, lo, hi, rfl, hv, q⟩
def sp_check_sizes (CI : Addr) : Sp := fun vs H Q E => ∃ (d m k s : V), vs = [d, m, k, s] ∧ Sc d ∧ Sc m ∧ Sc k ∧ Sc s ∧ (okS d m k s = true → Q .non H) ∧ (okS d m k s = false → E (.ref CI) none H)
theorem numIn_int {v : V} {lo hi : Int} (h : numIn v lo hi = true) : ∃ i, v = .int i ∧ lo ≤ i ∧ i ≤ hi := by
  cases v with
  | int i =>
    have h : (decide (lo ≤ i) && decide (i ≤ hi)) = true := h
    rw [Bool.and_eq_true, decide_eq_true_eq, decide_eq_true_eq] at h
    exact ⟨i, rfl, h⟩
  | _ => cases h
theorem ok_check_sizes {CI : Addr} (M : Mg mg) (e_InvalidArgument : ExT K mg "InvalidArgument" CI) {f : Addr} {fd : FuncData} (F : Fun K "check_sizes" "check_sizes" s_check_sizes f fd) (c_is_number : Cal P w K mg base 1 "is_number" ["value", "low", "high"] sp_is_number) : FnOk P w K mg base (L2.CX P w) 2 f fd ["disks", "sectors", "carrying", "depth"] (sp_check_sizes CI) := by
  refine F.okX sc_check_sizes (fun vs H Q E h => ?_) (fun cdv A outer s' H vs Q E hr h => ?_)
  · obtain ⟨d, m, k, s, rfl, _⟩ := h; rfl
  · obtain ⟨d, m, k, s, rfl, hd, hm, hk, hs, q1, q2⟩ := h
    unfold okS at q1 q2
    refine ⟨_, (pss_cons (ps_if (pt_not (pt_val (pe_cal c_is_number (hr.mono (by omega)) (by rfl) (pa_cons (pv 0) (pa_cons pe_int (pa_cons pe_int pa_nil)))))) (pss_one (ps_rai e_InvalidArgument (takes_of rfl rfl rfl rfl))) pss_nil) (pss_cons (ps_if (pt_not (pt_val (pe_cal c_is_number (hr.mono (by omega)) (by rfl) (pa_cons (pv 1) (pa_cons pe_int (pa_cons pe_int pa_nil)))))) (pss_one (ps_rai e_InvalidArgument (takes_of rfl rfl rfl rfl))) pss_nil) (pss_cons (ps_if (PW.pt (pw_or (pt_not (pt_val (pe_cal c_is_number (hr.mono (by omega)) (by rfl) (pa_cons (pv 2) (pa_cons pe_int (pa_cons (pv 0) pa_nil)))))) (pw_or1 (pt_not (pt_val (pe_cal c_is_number (hr.mono (by omega)) (by rfl) (pa_cons (pv 3) (pa_cons pe_int (pa_cons (pv 0) pa_nil))))))))) (pss_one (ps_rai e_InvalidArgument (takes_of rfl rfl rfl rfl))) pss_nil) (pss_one (ps_if (pt_cmpR op_gt (pe_op op_add (pv 2) (pv 3)) (pv 0) (nomark _)) (pss_one (ps_rai e_InvalidArgument (takes_of rfl rfl rfl rfl))) pss_nil))))), ?_⟩
    refine iBody (by repeat constructor) ?_
    walk_at "go"
    refine j_is_number hd ?_
    cases n1 : numIn d 4 8 with
    | false =>
      rw [n1] at q2
      walk_at "go"
      exact q2 rfl
    | true =>
      rw [n1] at q1 q2
      obtain ⟨n, rfl, -, -⟩ := numIn_int n1
      walk_at "go"
      refine j_is_number hm ?_
      cases n2 : numIn m 48 200 with
      | false =>
        rw [n2] at q2
        walk_at "go"
        exact q2 rfl
      | true =>
        rw [n2] at q1 q2
        walk_at "go"
        refine j_is_number hk ?_
        cases n3 : numIn k 1 n with
        | false =>
          walk_at "go"
          exact q2 (by show (true && true && (numIn k 1 n && _ && _)) = false; rw [n3]; rfl)
        | true =>
          obtain ⟨k, rfl, -, -⟩ := numIn_int n3
          walk_at "go"
          refine j_is_number hs ?_
          cases n4 : numIn s 1 n with
          | false =>
            walk_at "go"
            exact q2 (by show (true && true && (numIn _ 1 n && numIn s 1 n && _)) = false; rw [n3, n4]; rfl)
          | true =>
            obtain ⟨s, rfl, -, -⟩ := numIn_int n4
            walk_at "go"
            refine ifD (fun e => ?_) (fun e => ?_)
            · walk_at "go"
              exact q2 (by show (true && true && (numIn _ 1 n && numIn _ 1 n && decide (k + s ≤ n))) = false; rw [n3, n4, decide_eq_false (by omega)]; rfl)
            · walk_at "go"
              exact q1 (by show (true && true && (numIn _ 1 n && numIn _ 1 n && decide (k + s ≤ n))) = true; rw [n3, n4, decide_eq_true (by omega)]; rfl)
/-! ### lists of new lists -/
def PvN (H1 : Hp) (c : List V) (D : Addr) (i : Nat) (acc : List V) (H : Hp) : Prop := Ex H1 H ∧ ∃ ps : List Addr, acc = ps.map V.ref ∧ ps.length = i ∧ ps.Nodup ∧ ∀ p ∈ ps, p ≠ D ∧ H1 p = none ∧ H p = some (.lst c)
theorem pvN0 {H1 : Hp} {c : List V} {D : Addr} (hD : H1 D = none) : PvN H1 c D 0 [] (upd H1 D (.lst [])) := ⟨Evl.Ex.new hD, [], rfl, rfl, List.nodup_nil, fun p h => by cases h⟩
theorem iLcNew {H1 Hs H : Hp} {c acc : List V} {D p : Addr} {i : Nat} (hD : H1 D = none) (hi : i < 100000) (hacc : Hs D = some (.lst acc)) (hP : PvN H1 c D i acc Hs) (hp : Hs p = none) (e : Ex Hs H) (h : H p = some (.lst c)) : kLcE D i (PvN H1 c D) (.ref p) H := by
  obtain ⟨x, ps, rfl, lp, nd, al⟩ := hP
  have nDp : D ≠ p := ne_of_none hacc hp
  refine iLcE (e _ _ hacc) (by rw [List.length_map]; omega) hi ⟨Evl.Ex.mut (x.trans e) hD, ps ++ [p], by rw [List.map_append]; rfl, by rw [List.length_append, lp]; rfl, ?_, fun q hq => ?_⟩
  · refine List.nodup_append.mpr ⟨nd, by simp, fun a ha b hb => ?_⟩
    rw [List.mem_singleton] at hb
    subst hb
    exact ne_of_none (al a ha).2.2 hp
  · rcases List.mem_append.mp hq with hq | hq
    · obtain ⟨a1, a2, a3⟩ := al q hq
      exact ⟨a1, a2, (upd_ne a1).trans (e _ _ a3)⟩
    · rw [List.mem_singleton] at hq
      subst hq
      exact ⟨nDp.symm, Evl.fresh_back x hp, (upd_ne nDp.symm).trans h⟩
def Fr1 (o : Addr) (H H' : Hp) : Prop := ∀ p u, p ≠ o → H p = some u → H' p = some u
theorem Fr1.refl {o : Addr} {H : Hp} : Fr1 o H H := fun _ _ _ h => h
theorem Fr1.set {o : Addr} {H H' : Hp} {u : HO} (x : Fr1 o H H') : Fr1 o H (upd H' o u) := fun p v n h => (upd_ne n).trans (x p v n h)
theorem Fr1.ex {o : Addr} {H H' H2 : Hp} (x : Fr1 o H H') (e : Ex H' H2) : Fr1 o H H2 := fun p v n h => e _ _ (x p v n h)
theorem Fr1.fr {o p : Addr} {H H' : Hp} (x : Fr1 o H H') (n : p ≠ o) (h : H' p = none) : H p = none := by
  cases z : H p with
  | none => rfl
  | some u => rw [x p u n z] at h; cases h
theorem nodup_get {ps : List Addr} (h : ps.Nodup) {i j : Nat} (hi : i < ps.length) (hj : j < ps.length) (e : ps.getD i 0 = ps.getD j 0) : i = j := by
  rw [List.getD_eq_getElem?_getD, List.getD_eq_getElem?_getD, List.getElem?_eq_getElem hi, List.getElem?_eq_getElem hj] at e
  exact (List.getElem_inj h).mp e
theorem getD_mem {ps : List Addr} {i : Nat} (hi : i < ps.length) : ps.getD i 0 ∈ ps := by
  rw [List.getD_eq_getElem?_getD, List.getElem?_eq_getElem hi]
  exact List.getElem_mem hi
theorem map_ref {ps : List Addr} : ps.map V.ref = (List.range ps.length).map fun d => V.ref (ps.getD d 0) := by
  refine List.ext_getElem? fun i => ?_
  rw [List.getElem?_map, List.getElem?_map]
  by_cases hi : i < ps.length
  · rw [List.getElem?_range hi, List.getElem?_eq_getElem hi]
    show some (V.ref ps[i]) = some (V.ref (ps.getD i 0))
    rw [List.getD_eq_getElem?_getD, List.getElem?_eq_getElem hi]
    rfl
  · rw [List.getElem?_eq_none (by omega), List.getElem?_eq_none (by rw [List.length_range]; omega)]
    rfl
/-- the first layout -/
def LN (o t m w : Addr) (ps qs : List Addr) : DL → Addr
  | .obj => o
  | .there => t
  | .media => m
  | .wait => w
  | .med d => ps.getD d 0
  | .wai d => qs.getD d 0
def sp_init (C CI : Addr) : Sp := fun vs H Q _ => ∃ (F Rs : Hp) (o dx : Addr) (n m k s : Nat), vs = [.ref o, .int n, .int m, .int k, .int s] ∧ 4 ≤ n ∧ n ≤ 8 ∧ 48 ≤ m ∧ m ≤ 200 ∧ 1 ≤ k ∧ 1 ≤ s ∧ k + s ≤ n ∧ H o = some (.ins C dx []) ∧ Ex F H ∧ Ex Rs H ∧ F o = none ∧ Rs o = none ∧ (∀ p, Rs p ≠ none → F p = none) ∧
  ∀ H' F' L, L .obj = o → Ex F F' → DAt C H' F' Rs L (DK.new n m k s) → Q .non H'
theorem ok_init {C CI : Addr} (M : Mg mg) (T : Tx_Disks K C) {f : Addr} {fd : FuncData} (F : Fun K "__init__" "Disks.__init__" s_Disks___init__ f fd) (c_check_sizes : CalX P w K mg base 2 "check_sizes" ["disks", "sectors", "carrying", "depth"] (sp_check_sizes CI)) : FnOk P w K mg base (L2.CX P w) 3 f fd ["self", "disks", "sectors", "carrying", "depth"] (sp_init C CI) := by
  refine F.okX sc_Disks___init__ (fun vs H Q E h => ?_) (fun cdv A outer s H vs Q E hr h => ?_)
  · obtain ⟨F, Rs, o, dx, n, m, k, s, rfl, _⟩ := h; rfl
  · obtain ⟨F, Rs, o, dx, n, m, k, s, rfl, n4, n8, m48, m200, k1, s1, ks, ho, eF, eR, nF, nR, fr, q⟩ := h
    have h0 : H o = some (.ins C dx (NMD.zip [])) := ho
    refine ⟨_, (pss_cons (ps_expr (pe_calE c_check_sizes (hr.mono (by omega)) (by rfl) (xpX (takes_of rfl rfl rfl rfl)) (pa_cons (pv 1) (pa_cons (pv 2) (pa_cons (pv 3) (pa_cons (pv 4) pa_nil)))))) (pss_cons (ps_fld (pv 0) pe_bl rfl) (pss_cons (ps_fld (pv 0) pe_bl rfl) (pss_cons (ps_fld (pv 0) pe_int rfl) (pss_cons (ps_fld (pv 0) (pe_tup (pa_cons (pv 1) (pa_cons (pv 2) (pa_cons (pv 3) (pa_cons (pv 4) pa_nil))))) rfl) (pss_cons (ps_fld (pv 0) (pe_op op_rep (pe_lst (pa_cons pe_bl pa_nil)) (pv 1)) rfl) (pss_cons (ps_fld (pv 0) (pe_lc (own := [("_", 5)]) (g := (gName 5)) (tt := tYes) (by rfl) sc_Disks___init__.nd (pi_range1 (by rfl) M.n_range (pa_cons (pv 1) pa_nil)) (blkOk_by (own := [("_", 5)]) (N := ["self", "disks", "sectors", "carrying", "depth", "_"]) (sc := defScope s_Disks___init__) (by decide +kernel)) (fun _ _ _ _ _ => (pg_name (i := 5) sc_Disks___init__.nd rfl (Or.inl rfl))) (fun _ _ _ _ _ => pts_nil) (fun _ _ _ _ _ => (pe_op op_rep (pe_lst (pa_cons pe_non pa_nil)) (pv 2)))) rfl) (pss_cons (ps_fld (pv 0) (pe_lc (own := [("_", 5)]) (g := (gName 5)) (tt := tYes) (by rfl) sc_Disks___init__.nd (pi_range1 (by rfl) M.n_range (pa_cons (pv 1) pa_nil)) (blkOk_by (own := [("_", 5)]) (N := ["self", "disks", "sectors", "carrying", "depth", "_"]) (sc := defScope s_Disks___init__) (by decide +kernel)) (fun _ _ _ _ _ => (pg_name (i := 5) sc_Disks___init__.nd rfl (Or.inl rfl))) (fun _ _ _ _ _ => pts_nil) (fun _ _ _ _ _ => (pe_lst pa_nil))) rfl) (pss_cons (ps_fld (pv 0) pe_bl rfl) (pss_cons (ps_fld (pv 0) pe_non rfl) (pss_cons (ps_fld (pv 0) pe_int rfl) (pss_cons (ps_fld (pv 0) pe_int rfl) (pss_cons (ps_fld (pv 0) pe_int rfl) (pss_one (ps_fld (pv 0) pe_int rfl))))))))))))))), ?_⟩
    refine iBody (by repeat constructor) ?_
    walk_at "go"
    refine ⟨_, _, _, _, rfl, trivial, trivial, trivial, trivial, fun _ => ?_, fun z => ?_⟩
    · walk_at "go"
      refine iNewT (by simp) fun pz hz => ?_
      walk_at "go"
      rw [upd_upd, upd_upd] at hz ⊢
      rw [show ([] ++ [V.bl false] ++ [V.bl false] ++ [V.int 0] : List V) = [V.bl false, V.bl false, V.int 0] from rfl] at hz ⊢
      have a1 : (upd H o (.ins C dx (NMD.zip [V.bl false, V.bl false, V.int 0]))) o = some (.ins C dx (NMD.zip [V.bl false, V.bl false, V.int 0])) := upd_same
      have x1 : Fr1 o H (upd H o (.ins C dx (NMD.zip [V.bl false, V.bl false, V.int 0]))) := Fr1.refl.set
      generalize upd H o (.ins C dx (NMD.zip [V.bl false, V.bl false, V.int 0])) = H1 at hz a1 x1 ⊢
      have oz : o ≠ pz := ne_of_none a1 hz
      refine iNewL (by simp) fun l1 hl1 => ?_
      have ol1 : o ≠ l1 := ne_of_none upd_same hl1
      walk_at "go"
      refine iRep upd_same (by omega) (by omega) (by simp; omega) fun pt ht => ?_
      rw [Int.toNat_natCast, rep_true]
      have ot : o ≠ pt := ne_of_none ((upd_ne ol1).trans upd_same) ht
      walk_at "go"
      have x2 : Fr1 o H (upd (upd (upd (upd (upd H1 pz (.tup [.int n, .int m, .int k, .int s])) o (.ins C dx (NMD.zip ([V.bl false, V.bl false, V.int 0] ++ [V.ref pz])))) l1 (.lst [.bl true])) pt (.lst ((List.replicate n true).map V.bl))) o (.ins C dx (NMD.zip ([V.bl false, V.bl false, V.int 0] ++ [V.ref pz] ++ [V.ref pt])))) :=
        (((((x1.ex (Evl.Ex.new hz)).set).ex (Evl.Ex.new hl1)).ex (Evl.Ex.new ht))).set
      have a2 : (upd (upd (upd (upd (upd H1 pz (.tup [.int n, .int m, .int k, .int s])) o (.ins C dx (NMD.zip ([V.bl false, V.bl false, V.int 0] ++ [V.ref pz])))) l1 (.lst [.bl true])) pt (.lst ((List.replicate n true).map V.bl))) o (.ins C dx (NMD.zip ([V.bl false, V.bl false, V.int 0] ++ [V.ref pz] ++ [V.ref pt])))) o = some (.ins C dx (NMD.zip ([V.bl false, V.bl false, V.int 0] ++ [V.ref pz] ++ [V.ref pt]))) := upd_same
      have pzl1 : pz ≠ l1 := ne_of_none ((upd_ne oz.symm).trans upd_same) hl1
      have pzt : pz ≠ pt := ne_of_none ((upd_ne pzl1).trans ((upd_ne oz.symm).trans upd_same)) ht
      have z2 : (upd (upd (upd (upd (upd H1 pz (.tup [.int n, .int m, .int k, .int s])) o (.ins C dx (NMD.zip ([V.bl false, V.bl false, V.int 0] ++ [V.ref pz])))) l1 (.lst [.bl true])) pt (.lst ((List.replicate n true).map V.bl))) o (.ins C dx (NMD.zip ([V.bl false, V.bl false, V.int 0] ++ [V.ref pz] ++ [V.ref pt])))) pz = some (.tup [.int n, .int m, .int k, .int s]) := (upd_ne oz.symm).trans ((upd_ne pzt).trans ((upd_ne pzl1).trans ((upd_ne oz.symm).trans upd_same)))
      have t2 : (upd (upd (upd (upd (upd H1 pz (.tup [.int n, .int m, .int k, .int s])) o (.ins C dx (NMD.zip ([V.bl false, V.bl false, V.int 0] ++ [V.ref pz])))) l1 (.lst [.bl true])) pt (.lst ((List.replicate n true).map V.bl))) o (.ins C dx (NMD.zip ([V.bl false, V.bl false, V.int 0] ++ [V.ref pz] ++ [V.ref pt])))) pt = some (.lst ((List.replicate n true).map V.bl)) := (upd_ne ot.symm).trans upd_same
      have hzH : H pz = none := x1.fr oz.symm hz
      have htH : H pt = none := (((x1.ex (Evl.Ex.new hz)).set).ex (Evl.Ex.new hl1)).fr ot.symm ht
      generalize (upd (upd (upd (upd (upd H1 pz (.tup [.int n, .int m, .int k, .int s])) o (.ins C dx (NMD.zip ([V.bl false, V.bl false, V.int 0] ++ [V.ref pz])))) l1 (.lst [.bl true])) pt (.lst ((List.replicate n true).map V.bl))) o (.ins C dx (NMD.zip ([V.bl false, V.bl false, V.int 0] ++ [V.ref pz] ++ [V.ref pt])))) = H2 at x2 a2 z2 t2 ⊢
      clear hz ht hl1 x1 a1
      refine lc_r0 (by repeat constructor) (fun D => PvN H2 (List.replicate m .non) D) (fun D hD => pvN0 hD) (fun D i acc H' hD hi hacc hl hp => ?_) (fun pm acc H3 hD hacc hl hp => ?_)
      · rw [Int.toNat_natCast] at hi
        walk_at "go"
        refine iNewL (by simp) fun l2 hl2 => ?_
        walk_at "go"
        refine iRep upd_same (by omega) (by omega) (by simp; omega) fun u hu => ?_
        rw [Int.toNat_natCast, rep_none]
        refine iLcNew hD (by omega) hacc hp (Evl.fresh_back (Evl.Ex.new hl2) hu) ((Evl.Ex.new hl2).trans (Evl.Ex.new hu)) upd_same
      · rw [Int.toNat_natCast] at hp hl
        obtain ⟨x3, ps, rfl, lp, ndp, alp⟩ := hp
        have a3 := x3 _ _ a2
        have z3 := x3 _ _ z2
        have t3 := x3 _ _ t2
        have om : o ≠ pm := ne_of_none a2 hD
        have zm : pz ≠ pm := ne_of_none z2 hD
        have tm : pt ≠ pm := ne_of_none t2 hD
        have hmH : H pm = none := x2.fr om.symm hD
        walk_at "go"
        have x4 : Fr1 o H (upd H3 o (.ins C dx (NMD.zip ([V.bl false, V.bl false, V.int 0] ++ [V.ref pz] ++ [V.ref pt] ++ [V.ref pm])))) := (x2.ex x3).set
        have a4 : (upd H3 o (.ins C dx (NMD.zip ([V.bl false, V.bl false, V.int 0] ++ [V.ref pz] ++ [V.ref pt] ++ [V.ref pm])))) o = some (.ins C dx (NMD.zip ([V.bl false, V.bl false, V.int 0] ++ [V.ref pz] ++ [V.ref pt] ++ [V.ref pm]))) := upd_same
        have z4 := (upd_ne (o := .ins C dx (NMD.zip ([V.bl false, V.bl false, V.int 0] ++ [V.ref pz] ++ [V.ref pt] ++ [V.ref pm]))) oz.symm).trans z3
        have t4 := (upd_ne (o := .ins C dx (NMD.zip ([V.bl false, V.bl false, V.int 0] ++ [V.ref pz] ++ [V.ref pt] ++ [V.ref pm]))) ot.symm).trans t3
        have m4 := (upd_ne (o := .ins C dx (NMD.zip ([V.bl false, V.bl false, V.int 0] ++ [V.ref pz] ++ [V.ref pt] ++ [V.ref pm]))) om.symm).trans hacc
        have p4 : ∀ p ∈ ps, p ≠ o ∧ p ≠ pz ∧ p ≠ pt ∧ p ≠ pm ∧ H p = none ∧ (upd H3 o (.ins C dx (NMD.zip ([V.bl false, V.bl false, V.int 0] ++ [V.ref pz] ++ [V.ref pt] ++ [V.ref pm])))) p = some (.lst (List.replicate m .non)) := fun p hp => by
          obtain ⟨b1, b2, b3⟩ := alp p hp
          have c1 : p ≠ o := (ne_of_none a2 b2).symm
          exact ⟨c1, (ne_of_none z2 b2).symm, (ne_of_none t2 b2).symm, b1, x2.fr c1 b2, (upd_ne c1).trans b3⟩
        generalize upd H3 o (.ins C dx (NMD.zip ([V.bl false, V.bl false, V.int 0] ++ [V.ref pz] ++ [V.ref pt] ++ [V.ref pm]))) = H4 at x4 a4 z4 t4 m4 p4 ⊢
        clear x3 a3 z3 t3 hacc alp hD a2 z2 t2
        refine lc_r0 (by repeat constructor) (fun D => PvN H4 [] D) (fun D hD => pvN0 hD) (fun D i acc H' hD hi hacc hl hp => ?_) (fun pw acc H5 hD hacc hl hp => ?_)
        · rw [Int.toNat_natCast] at hi
          walk_at "go"
          refine iNewL (by simp) fun u hu => ?_
          exact iLcNew hD (by omega) hacc hp hu (Evl.Ex.new hu) upd_same
        · rw [Int.toNat_natCast] at hp hl
          obtain ⟨x5, qs, rfl, lq, ndq, alq⟩ := hp
          have a5 := x5 _ _ a4
          have z5 := x5 _ _ z4
          have t5 := x5 _ _ t4
          have m5 := x5 _ _ m4
          have ow : o ≠ pw := ne_of_none a4 hD
          have zw : pz ≠ pw := ne_of_none z4 hD
          have tw : pt ≠ pw := ne_of_none t4 hD
          have mw : pm ≠ pw := ne_of_none m4 hD
          walk_at "go"
          rw [upd_upd, upd_upd, upd_upd, upd_upd, upd_upd, upd_upd]
          have hwH : H pw = none := x4.fr ow.symm hD
          have L0 : ∀ d, d < n → (ps.getD d 0) ∈ ps := fun d hd => getD_mem (by omega)
          have L1 : ∀ d, d < n → (qs.getD d 0) ∈ qs := fun d hd => getD_mem (by omega)
          have q5 : ∀ p ∈ qs, p ≠ o ∧ p ≠ pz ∧ p ≠ pt ∧ p ≠ pm ∧ p ≠ pw ∧ H p = none ∧ (∀ u ∈ ps, u ≠ p) ∧ H5 p = some (.lst []) := fun p hp => by
            obtain ⟨b1, b2, b3⟩ := alq p hp
            have c1 : p ≠ o := (ne_of_none a4 b2).symm
            exact ⟨c1, (ne_of_none z4 b2).symm, (ne_of_none t4 b2).symm, (ne_of_none m4 b2).symm, b1, x4.fr c1 b2, fun u hu => ne_of_none (p4 u hu).2.2.2.2.2 b2, b3⟩
          have p5 : ∀ p ∈ ps, p ≠ pw ∧ H5 p = some (.lst (List.replicate m .non)) := fun p hp => ⟨ne_of_none (p4 p hp).2.2.2.2.2 hD, x5 _ _ (p4 p hp).2.2.2.2.2⟩
          have gone : ∀ p, H p = none → F p = none ∧ Rs p = none := fun p hp => ⟨Evl.fresh_back eF hp, Evl.fresh_back eR hp⟩
          have x6 : Fr1 o H (upd H5 o (.ins C dx (NMD.zip (flds pz (LN o pt pm pw ps qs) (DK.new n m k s))))) := (x4.ex x5).set
          refine q (upd H5 o (.ins C dx (NMD.zip (flds pz (LN o pt pm pw ps qs) (DK.new n m k s))))) (upd F pz (.tup [.int n, .int m, .int k, .int s])) (LN o pt pm pw ps qs) rfl (ex_new (gone _ hzH).1) ⟨dx, pz, fun _ => List.replicate m .non, fun _ => [], ?_, upd_same, n8, m200, fun d _ => MedRep.blank fun _ => rfl, fun d _ => WaiRep.nil⟩
          have hdom : ∀ x, dom n x → LN o pt pm pw ps qs x = o ∨ (LN o pt pm pw ps qs x ≠ o ∧ LN o pt pm pw ps qs x ≠ pz ∧ H (LN o pt pm pw ps qs x) = none) := fun x hx => by
            cases x with
            | obj => exact .inl rfl
            | there => exact .inr ⟨ot.symm, pzt.symm, htH⟩
            | media => exact .inr ⟨om.symm, zm.symm, hmH⟩
            | wait => exact .inr ⟨ow.symm, zw.symm, hwH⟩
            | med d => have b := p4 _ (L0 d hx); exact .inr ⟨b.1, b.2.1, b.2.2.2.2.1⟩
            | wai d => have b := q5 _ (L1 d hx); exact .inr ⟨b.1, b.2.1, b.2.2.2.2.2.1⟩
          refine ⟨⟨fun x hx => ?_, fun x y hx hy e => ?_⟩, fun p u hp => ?_, fun p u hp => x6 p u (fun z => by subst z; rw [nR] at hp; cases hp) (eR _ _ hp), fun x hx => ?_, fun x hx => ?_, fun p hp => ?_⟩
          · cases x with
            | obj => exact upd_same
            | there =>
              refine (upd_ne ot.symm).trans (t5.trans ?_)
              show some (HO.lst _) = some (HO.lst (theL (DK.new n m k s)))
              unfold theL
              congr 2
              refine List.ext_getElem? fun i => ?_
              rw [List.getElem?_map, List.getElem?_map, List.getElem?_replicate]
              show _ = Option.map _ ((List.range n)[i]?)
              by_cases hi : i < n
              · rw [if_pos hi, List.getElem?_range hi]; rfl
              · rw [if_neg hi, List.getElem?_eq_none (by rw [List.length_range]; omega)]; rfl
            | media =>
              refine (upd_ne om.symm).trans (m5.trans ?_)
              show some (HO.lst _) = some (HO.lst (medL (LN o pt pm pw ps qs) n))
              rw [map_ref, lp]
              rfl
            | wait =>
              refine (upd_ne ow.symm).trans (hacc.trans ?_)
              show some (HO.lst _) = some (HO.lst (waiL (LN o pt pm pw ps qs) n))
              rw [map_ref, lq]
              rfl
            | med d => exact (upd_ne (p4 _ (L0 d hx)).1).trans (p5 _ (L0 d hx)).2
            | wai d => exact (upd_ne (q5 _ (L1 d hx)).1).trans (q5 _ (L1 d hx)).2.2.2.2.2.2.2
          · cases x with
            | obj => cases y with
              | obj => rfl
              | there => exact absurd e ot
              | media => exact absurd e om
              | wait => exact absurd e ow
              | med d => exact absurd e.symm (p4 _ (L0 d hy)).1
              | wai d => exact absurd e.symm (q5 _ (L1 d hy)).1
            | there => cases y with
              | obj => exact absurd e.symm ot
              | there => rfl
              | media => exact absurd e tm
              | wait => exact absurd e tw
              | med d => exact absurd e.symm (p4 _ (L0 d hy)).2.2.1
              | wai d => exact absurd e.symm (q5 _ (L1 d hy)).2.2.1
            | media => cases y with
              | obj => exact absurd e.symm om
              | there => exact absurd e.symm tm
              | media => rfl
              | wait => exact absurd e mw
              | med d => exact absurd e.symm (p4 _ (L0 d hy)).2.2.2.1
              | wai d => exact absurd e.symm (q5 _ (L1 d hy)).2.2.2.1
            | wait => cases y with
              | obj => exact absurd e.symm ow
              | there => exact absurd e.symm tw
              | media => exact absurd e.symm mw
              | wait => rfl
              | med d => exact absurd e.symm (p5 _ (L0 d hy)).1
              | wai d => exact absurd e.symm (q5 _ (L1 d hy)).2.2.2.2.1
            | med d => cases y with
              | obj => exact absurd e (p4 _ (L0 d hx)).1
              | there => exact absurd e (p4 _ (L0 d hx)).2.2.1
              | media => exact absurd e (p4 _ (L0 d hx)).2.2.2.1
              | wait => exact absurd e (p5 _ (L0 d hx)).1
              | med d' => rw [nodup_get ndp (lp.symm ▸ hx) (lp.symm ▸ hy) e]
              | wai d' => exact absurd e ((q5 _ (L1 d' hy)).2.2.2.2.2.2.1 _ (L0 d hx))
            | wai d => cases y with
              | obj => exact absurd e (q5 _ (L1 d hx)).1
              | there => exact absurd e (q5 _ (L1 d hx)).2.2.1
              | media => exact absurd e (q5 _ (L1 d hx)).2.2.2.1
              | wait => exact absurd e (q5 _ (L1 d hx)).2.2.2.2.1
              | med d' => exact absurd e.symm ((q5 _ (L1 d hx)).2.2.2.2.2.2.1 _ (L0 d' hy))
              | wai d' => rw [nodup_get ndq (lq.symm ▸ hx) (lq.symm ▸ hy) e]
          · by_cases z : p = pz
            · subst z
              rw [upd_same] at hp
              rw [upd_ne oz.symm, z5]
              exact hp
            · rw [upd_ne z] at hp
              exact x6 p u (fun y => by subst y; rw [nF] at hp; cases hp) (eF _ _ hp)
          · rcases hdom x hx with b | ⟨b1, b2, b3⟩
            · rw [b, upd_ne oz, nF]
            · rw [upd_ne b2]; exact (gone _ b3).1
          · rcases hdom x hx with b | ⟨b1, b2, b3⟩
            · rw [b, nR]
            · exact (gone _ b3).2
          · by_cases z : p = pz
            · subst z
              exact absurd (gone _ hzH).2 hp
            · rw [upd_ne z]; exact fr p hp
    · exfalso
      have : okS (.int n) (.int m) (.int k) (.int s) = true := by
        show (((decide ((4 : Int) ≤ n) && decide ((n : Int) ≤ 8)) && (decide ((48 : Int) ≤ m) && decide ((m : Int) ≤ 200))) && (((decide ((1 : Int) ≤ k) && decide ((k : Int) ≤ n)) && (decide ((1 : Int) ≤ s) && decide ((s : Int) ≤ n))) && decide ((k : Int) + s ≤ n))) = true
        simp only [Bool.and_eq_true, decide_eq_true_eq]
        omega
      rw [this] at z
      cases z
/-! ### Disks: what is told of them, and the failure that is set -/
def sp_is_on (C : Addr) : Sp := fun vs H Q _ => ∃ (F Rs : Hp) (L : DL → Addr) (D : DK), vs = [.ref (L .obj)] ∧ DAt C H F Rs L D ∧ Q (.bl D.on) H
theorem ok_is_on {C : Addr} (M : Mg mg) (T : Tx_Disks K C) {f : Addr} {fd : FuncData} (F : Fun K "is_on" "Disks.is_on" s_Disks_is_on f fd) : FnOk P w K mg base CX0 1 f fd ["self"] (sp_is_on C) := by
  refine F.ok sc_Disks_is_on (fun vs H Q E h => ?_) (fun cdv A outer s H vs Q E hr h => ?_)
  · obtain ⟨F, Rs, L, D, rfl, _⟩ := h; rfl
  · obtain ⟨F, Rs, L, D, rfl, D0, q⟩ := h
    obtain ⟨dx, szs, hO, -⟩ := D0.obj
    refine ⟨_, (pss_one (ps_ret (pe_fld (pv 0) rfl))), ?_⟩
    refine iBody (by repeat constructor) ?_
    walk_at "go"
    exact q
def sp_losses (C : Addr) : Sp := fun vs H Q _ => ∃ (F Rs : Hp) (L : DL → Addr) (D : DK), vs = [.ref (L .obj)] ∧ DAt C H F Rs L D ∧ Q (.int (D.fails : Nat)) H
theorem ok_losses {C : Addr} (M : Mg mg) (T : Tx_Disks K C) {f : Addr} {fd : FuncData} (F : Fun K "losses" "Disks.losses" s_Disks_losses f fd) : FnOk P w K mg base CX0 1 f fd ["self"] (sp_losses C) := by
  refine F.ok sc_Disks_losses (fun vs H Q E h => ?_) (fun cdv A outer s H vs Q E hr h => ?_)
  · obtain ⟨F, Rs, L, D, rfl, _⟩ := h; rfl
  · obtain ⟨F, Rs, L, D, rfl, D0, q⟩ := h
    obtain ⟨dx, szs, hO, -⟩ := D0.obj
    refine ⟨_, (pss_one (ps_ret (pe_fld (pv 0) rfl))), ?_⟩
    refine iBody (by repeat constructor) ?_
    walk_at "go"
    exact q
def sp_counts (C : Addr) : Sp := fun vs H Q _ => ∃ (F Rs : Hp) (L : DL → Addr) (D : DK), vs = [.ref (L .obj)] ∧ DAt C H F Rs L D ∧ ∀ p, H p = none → Q (.ref p) (upd H p (.tup [.int (D.reads : Nat), .int (D.writes : Nat), .int (D.syncs : Nat)]))
theorem ok_counts {C : Addr} (M : Mg mg) (T : Tx_Disks K C) {f : Addr} {fd : FuncData} (F : Fun K "counts" "Disks.counts" s_Disks_counts f fd) : FnOk P w K mg base CX0 1 f fd ["self"] (sp_counts C) := by
  refine F.ok sc_Disks_counts (fun vs H Q E h => ?_) (fun cdv A outer s H vs Q E hr h => ?_)
  · obtain ⟨F, Rs, L, D, rfl, _⟩ := h; rfl
  · obtain ⟨F, Rs, L, D, rfl, D0, q⟩ := h
    obtain ⟨dx, szs, hO, -⟩ := D0.obj
    refine ⟨_, (pss_one (ps_ret (pe_tup (pa_cons (pe_fld (pv 0) rfl) (pa_cons (pe_fld (pv 0) rfl) (pa_cons (pe_fld (pv 0) rfl) pa_nil)))))), ?_⟩
    refine iBody (by repeat constructor) ?_
    walk_at "go"
    refine iNewT (by simp) fun p hp => ?_
    exact q p hp
def sp_fail_after (C CP : Addr) : Sp := fun vs H Q E => ∃ (F Rs : Hp) (L : DL → Addr) (D : DK) (k : Nat), vs = [.ref (L .obj), .int k] ∧ DAt C H F Rs L D ∧ (D.on = false → E (.ref CP) none H) ∧ (D.on = true → ∀ H', DAt C H' F Rs L { D with left := some k } → Q .non H')
theorem ok_fail_after {C CP : Addr} (M : Mg mg) (T : Tx_Disks K C) (e_PowerOff : ExT K mg "PowerOff" CP) {f : Addr} {fd : FuncData} (F : Fun K "fail_after" "Disks.fail_after" s_Disks_fail_after f fd) : FnOk P w K mg base (L2.CX P w) 1 f fd ["self", "operations"] (sp_fail_after C CP) := by
  refine F.okX sc_Disks_fail_after (fun vs H Q E h => ?_) (fun cdv A outer s H vs Q E hr h => ?_)
  · obtain ⟨F, Rs, L, D, k, rfl, _⟩ := h; rfl
  · obtain ⟨F, Rs, L, D, k, rfl, ⟨dx, szs, cm, cw, h⟩, q1, q2⟩ := h
    have hO := h.hO
    refine ⟨_, (pss_cons (ps_if (pt_not (pt_val (pe_fld (pv 0) rfl))) (pss_one (ps_rai e_PowerOff (takes_of rfl rfl rfl rfl))) pss_nil) (pss_one (ps_fld (pv 0) (pv 1) rfl))), ?_⟩
    refine iBody (by repeat constructor) ?_
    walk_at "go"
    cases eo : D.on with
    | false =>
      walk_at "go"
      exact q1 eo
    | true =>
      walk_at "go"
      have h2 := h.fields (D' := { D with left := some k }) rfl rfl rfl rfl rfl rfl rfl
      exact q2 eo _ h2.at_
end
end R
set_option Elab.async false
set_option linter.all false
set_option maxRecDepth 100000
set_option maxHeartbeats 4000000
namespace R
open PySem PySem.Spec L2
open Evl (Ex)
abbrev s__law_next : Stmt := topS 9
theorem sc__law_next : FnScope ["state", "limit", "cell", "value"] ["state", "limit"] (defScope s__law_next) := ⟨rfl, rfl, rfl, by decide +kernel, rfl, by decide +kernel, by decide +kernel⟩
abbrev s__law_same : Stmt := topS 10
theorem sc__law_same : FnScope ["actual", "expected", "k"] ["actual", "expected"] (defScope s__law_same) := ⟨rfl, rfl, rfl, by decide +kernel, rfl, by decide +kernel, by decide +kernel⟩
abbrev s__law_sector : Stmt := topS 11
theorem sc__law_sector : FnScope ["state", "start", "j"] ["state"] (defScope s__law_sector) := ⟨rfl, rfl, rfl, by decide +kernel, rfl, by decide +kernel, by decide +kernel⟩
abbrev s__law_cell : Stmt := topS 12
theorem sc__law_cell : FnScope ["world", "disk", "sector", "waits", "place", "data"] ["world", "disk", "sector"] (defScope s__law_cell) := ⟨rfl, rfl, rfl, by decide +kernel, rfl, by decide +kernel, by decide +kernel⟩
local macro_rules | `(tactic| walk_at "ne") => `(tactic| (first | assumption | (apply Ne.symm; assumption) | (apply ne_fresh; (· assumption); (· walk_at "look")) | (apply Ne.symm; apply ne_fresh; (· assumption); (· walk_at "look"))))
local macro_rules | `(tactic| walk_at "look") => `(tactic| (first | assumption | exact upd_same | (refine (upd_ne ?_).trans ?_; (· walk_at "ne"); (· walk_at "look")) | (refine exAt (by assumption) ?_; walk_at "look")))
local macro_rules | `(tactic| walk_at "side") => `(tactic| (first | (exact Or.inl ⟨by omega, by omega⟩) | (exact Or.inr ⟨by omega, by omega⟩) | (show (0:Int) < _; omega) | (show (0:Int) ≤ _; omega) | (exact ⟨by omega, by omega⟩) | (exact ⟨by decide, by decide, by decide⟩)))
local macro_rules | `(tactic| walk_at "go") => `(tactic| (repeat (first | ((with_reducible apply iF_Disks_in_use); (· assumption); (· walk_at "look"); (· rfl)) | ((with_reducible apply iS_Disks_in_use); (· assumption); (· walk_at "look"); (· repeat constructor)) | ((with_reducible apply iN_Disks_in_use); (· assumption); (· walk_at "look"); (· rfl)) | ((with_reducible apply iF_Disks_formatted); (· assumption); (· walk_at "look"); (· rfl)) | ((with_reducible apply iS_Disks_formatted); (· assumption); (· walk_at "look"); (· repeat constructor)) | ((with_reducible apply iN_Disks_formatted); (· assumption); (· walk_at "look"); (· rfl)) | ((with_reducible apply iF_Disks_scrub_place); (· assumption); (· walk_at "look"); (· rfl)) | ((with_reducible apply iS_Disks_scrub_place); (· assumption); (· walk_at "look"); (· repeat constructor)) | ((with_reducible apply iN_Disks_scrub_place); (· assumption); (· walk_at "look"); (· rfl)) | ((with_reducible apply iF_Disks__sizes); (· assumption); (· walk_at "look"); (· rfl)) | ((with_reducible apply iS_Disks__sizes); (· assumption); (· walk_at "look"); (· repeat constructor)) | ((with_reducible apply iN_Disks__sizes); (· assumption); (· walk_at "look"); (· rfl)) | ((with_reducible apply iF_Disks__there); (· assumption); (· walk_at "look"); (· rfl)) | ((with_reducible apply iS_Disks__there); (· assumption); (· walk_at "look"); (· repeat constructor)) | ((with_reducible apply iN_Disks__there); (· assumption); (· walk_at "look"); (· rfl)) | ((with_reducible apply iF_Disks__media); (· assumption); (· walk_at "look"); (· rfl)) | ((with_reducible apply iS_Disks__media); (· assumption); (· walk_at "look"); (· repeat constructor)) | ((with_reducible apply iN_Disks__media); (· assumption); (· walk_at "look"); (· rfl)) | ((with_reducible apply iF_Disks__waiting); (· assumption); (· walk_at "look"); (· rfl)) | ((with_reducible apply iS_Disks__waiting); (· assumption); (· walk_at "look"); (· repeat constructor)) | ((with_reducible apply iN_Disks__waiting); (· assumption); (· walk_at "look"); (· rfl)) | ((with_reducible apply iF_Disks__on); (· assumption); (· walk_at "look"); (· rfl)) | ((with_reducible apply iS_Disks__on); (· assumption); (· walk_at "look"); (· repeat constructor)) | ((with_reducible apply iN_Disks__on); (· assumption); (· walk_at "look"); (· rfl)) | ((with_reducible apply iF_Disks__left); (· assumption); (· walk_at "look"); (· rfl)) | ((with_reducible apply iS_Disks__left); (· assumption); (· walk_at "look"); (· repeat constructor)) | ((with_reducible apply iN_Disks__left); (· assumption); (· walk_at "look"); (· rfl)) | ((with_reducible apply iM_Disks__left); (· assumption); (· walk_at "look"); (· rfl); (· repeat constructor)) | ((with_reducible apply iF_Disks__failures); (· assumption); (· walk_at "look"); (· rfl)) | ((with_reducible apply iS_Disks__failures); (· assumption); (· walk_at "look"); (· repeat constructor)) | ((with_reducible apply iN_Disks__failures); (· assumption); (· walk_at "look"); (· rfl)) | ((with_reducible apply iP_Disks__failures); (· assumption); (· walk_at "look"); (· rfl); (· repeat constructor)) | ((with_reducible apply iF_Disks__reads); (· assumption); (· walk_at "look"); (· rfl)) | ((with_reducible apply iS_Disks__reads); (· assumption); (· walk_at "look"); (· repeat constructor)) | ((with_reducible apply iN_Disks__reads); (· assumption); (· walk_at "look"); (· rfl)) | ((with_reducible apply iP_Disks__reads); (· assumption); (· walk_at "look"); (· rfl); (· repeat constructor)) | ((with_reducible apply iF_Disks__writes); (· assumption); (· walk_at "look"); (· rfl)) | ((with_reducible apply iS_Disks__writes); (· assumption); (· walk_at "look"); (· repeat constructor)) | ((with_reducible apply iN_Disks__writes); (· assumption); (· walk_at "look"); (· rfl)) | ((with_reducible apply iP_Disks__writes); (· assumption); (· walk_at "look"); (· rfl); (· repeat constructor)) | ((with_reducible apply iF_Disks__syncs); (· assumption); (· walk_at "look"); (· rfl)) | ((with_reducible apply iS_Disks__syncs); (· assumption); (· walk_at "look"); (· repeat constructor)) | ((with_reducible apply iN_Disks__syncs); (· assumption); (· walk_at "look"); (· rfl)) | ((with_reducible apply iP_Disks__syncs); (· assumption); (· walk_at "look"); (· rfl); (· repeat constructor)) | ((with_reducible apply iMe_Disks_is_there); (· walk_at "look")) | ((with_reducible apply iMe_Disks_pending); (· walk_at "look")) | ((with_reducible apply iMe_Disks_cell); (· walk_at "look")) | ((with_reducible apply iMe_Disks__fail); (· walk_at "look")) | ((with_reducible apply iMe_Disks__operate); (· walk_at "look")) | ((with_reducible apply iMe_Disks_ask); (· walk_at "look")) | ((with_reducible apply iMe_Disks_write); (· walk_at "look")) | ((with_reducible apply iMe_Disks__settle); (· walk_at "look")) | ((with_reducible apply iMe_Disks_sync); (· walk_at "look")) | ((with_reducible apply iMe_Disks_rot); (· walk_at "look")) | ((with_reducible apply iMe_Disks_bad); (· walk_at "look")) | ((with_reducible apply iMe_Disks__empty); (· walk_at "look")) | ((with_reducible apply iMe_Disks_away); (· walk_at "look")) | ((with_reducible apply iMe_Disks_blank); (· walk_at "look")) | ((with_reducible apply iMe_Disks_power); (· walk_at "look")) | ((with_reducible apply iMe_Disks_is_on); (· walk_at "look")) | ((with_reducible apply iMe_Disks_losses); (· walk_at "look")) | ((with_reducible apply iMe_Disks_counts); (· walk_at "look")) | ((with_reducible apply iMe_Disks_fail_after); (· walk_at "look")) | (with_reducible refine iSeq ?_) | (with_reducible refine iAsg ?_) | ((with_reducible apply iName); (· repeat constructor)) | ((with_reducible apply iVar); (· rfl)) | (with_reducible refine iC ?_) | (with_reducible refine iOp ?_) | (with_reducible refine iI0 ?_) | (with_reducible refine iCons ?_) | (with_reducible refine iNil ?_) | (with_reducible refine iCB ?_) | (with_reducible refine iIfS ?_) | (with_reducible refine iTest ?_) | (with_reducible refine iBl ?_) | (with_reducible refine iRet ?_) | (with_reducible refine iNext ?_) | (with_reducible refine iDrop ?_) | (with_reducible refine iEqI ?_) | (with_reducible refine iNeI ?_) | (with_reducible refine iInt ?_) | (with_reducible refine iFor ?_) | (with_reducible refine iRng ?_) | (with_reducible refine iCal ?_) | (with_reducible refine iAnd ?_) | (with_reducible refine iOr ?_) | (with_reducible refine iNot ?_) | (with_reducible refine iB ?_) | (with_reducible refine iIf ?_) | (with_reducible refine iChain ?_) | (with_reducible refine iUn ?_) | (with_reducible refine iU ?_) | (with_reducible refine iRetN ?_) | (with_reducible refine iIsN ?_) | (with_reducible refine iNotN ?_) | (with_reducible refine iTruI ?_) | (with_reducible refine ifNDr ?_) | (with_reducible refine ifDr ?_) | (with_reducible refine iCalE ?_) | (with_reducible refine iMet ?_) | (with_reducible refine iMak ?_) | (with_reducible refine iFld ?_) | (with_reducible refine iSto ?_) | (with_reducible refine iAugF ?_) | (with_reducible refine iBM ?_) | (with_reducible refine iRev1 ?_) | (with_reducible refine iRai ?_) | (with_reducible refine iPr ?_) | (with_reducible refine iPn ?_) | (with_reducible refine iIntB ?_) | (with_reducible refine iIsB ?_) | (with_reducible refine iNotBl ?_) | (with_reducible refine iDGet1 ?_) | (with_reducible refine iAndV ?_) | (with_reducible refine iOrV ?_) | (with_reducible refine iNotV ?_) | (with_reducible refine iAugS ?_) | (with_reducible refine iIpI ?_) | (with_reducible refine iSub ?_) | (with_reducible refine iLst ?_) | (with_reducible refine iTup ?_) | (with_reducible refine iIterL ?_) | (with_reducible refine iBreak ?_) | (with_reducible refine iCont ?_) | (with_reducible refine iEqB ?_) | (with_reducible refine iNeB ?_) | (with_reducible refine iEqS ?_) | (with_reducible refine iNeS ?_) | (with_reducible refine iLc ?_) | (with_reducible refine iYes ?_) | (with_reducible refine iDGet ?_) | (with_reducible refine iDIn ?_) | (with_reducible refine iDNotIn ?_) | (with_reducible refine iDPut ?_) | (with_reducible refine iRng2 ?_) | (with_reducible refine iZipK ?_) | (with_reducible refine iGCons ?_) | (with_reducible refine iGNil ?_) | (with_reducible refine iDEa ?_) | ((with_reducible apply iRngI); (· first | decide | omega); (· first | decide | omega)) | ((with_reducible apply iAugK); (· rfl)) | ((with_reducible apply iI); rotate_left; (· (first | (exact Or.inl ⟨by omega, by omega⟩) | (exact Or.inr ⟨by omega, by omega⟩) | (show (0:Int) < _; omega) | (show (0:Int) ≤ _; omega) | (exact ⟨by omega, by omega⟩) | (exact ⟨by decide, by decide, by decide⟩)))) | ((with_reducible apply iIxL); (· walk_at "look"); (· rfl)) | ((with_reducible apply iLenL); (· walk_at "look")) | ((with_reducible apply iSetL); (· walk_at "look"); (· rfl)) | ((with_reducible apply iIxT); (· walk_at "look"); (· rfl)) | ((with_reducible apply iIsi); (· first | exact tyN_int | exact tyN_bl | exact tyN_non | exact tyN_str | exact tyN_lst (by walk_at "look") | exact tyN_tup (by walk_at "look")); (· (first | exact kb_NoneType_bool | exact kb_NoneType_int | exact kb_NoneType_str | exact kb_NoneType_tuple | exact kb_NoneType_list | exact kb_bool_bool | exact kb_bool_int | exact kb_bool_str | exact kb_bool_tuple | exact kb_bool_list | exact kb_int_bool | exact kb_int_int | exact kb_int_str | exact kb_int_tuple | exact kb_int_list | exact kb_str_bool | exact kb_str_int | exact kb_str_str | exact kb_str_tuple | exact kb_str_list | exact kb_tuple_bool | exact kb_tuple_int | exact kb_tuple_str | exact kb_tuple_tuple | exact kb_tuple_list | exact kb_list_bool | exact kb_list_int | exact kb_list_str | exact kb_list_tuple | exact kb_list_list))) | ((with_reducible apply iLenT); (· walk_at "look")) | ((with_reducible apply iLenS); (· first | exact Or.inl (by walk_at "look") | exact Or.inr (by walk_at "look"))) | ((with_reducible apply ifT); (· rfl)) | ((with_reducible apply ifF); (· rfl)) | ((with_reducible apply ifT); (· apply decide_eq_true; omega)) | ((with_reducible apply ifF); (· apply decide_eq_false; omega)) | ((with_reducible apply ifNp); (· omega)) | ((with_reducible apply ifNn); (· omega)) | ((with_reducible apply iLcB); (· rfl)) | ((with_reducible apply iGTup); (· walk_at "look"); (· rfl)) | ((with_reducible apply iDIi); (· walk_at "look")) | ((with_reducible apply iDNi); (· walk_at "look")) | ((with_reducible apply iRng2I); (· omega); (· omega); (· omega); (· omega)) | ((with_reducible apply iItL); (· walk_at "look")) | ((with_reducible apply iZL); (· walk_at "look"); (· walk_at "look")))))
section
variable {P : Program} {w : World} {K : PySem.W.Frag} {mg : Str → Option Value} {base : Heap}
/-! ### the draws -/
def DrawAt (H : Hp) (a l : Addr) : Prop := ∃ (ns : List Int) (i r q : Int), H a = some (.lst [.ref l, .int i, .int r, .int q]) ∧ H l = some (.lst (ns.map V.int)) ∧ a ≠ l ∧ ns.length ≤ 63 ∧ 0 ≤ i ∧ i ≤ ns.length ∧ 0 ≤ r ∧ 0 ≤ q ∧ q < 2147483647
theorem DrawAt.to {H : Hp} {a l : Addr} {ns : List Int} {i r q : Int} (h2 : H l = some (.lst (ns.map V.int))) (ne : a ≠ l) (hl : ns.length ≤ 63) (i0 : 0 ≤ i) (i1 : i ≤ ns.length) (r0 : 0 ≤ r) (q0 : 0 ≤ q) (q1 : q < 2147483647) :
    DrawAt (upd H a (.lst [.ref l, .int i, .int r, .int q])) a l := ⟨ns, i, r, q, upd_same, (upd_ne ne.symm).trans h2, ne, hl, i0, i1, r0, q0, q1⟩
theorem DrawAt.ne {H : Hp} {a l : Addr} (D : DrawAt H a l) : a ≠ l := by
  obtain ⟨ns, i, r, q, ha, hl, ne, _⟩ := D
  exact ne
theorem DrawAt.upd {H : Hp} {a l p : Addr} {o : HO} (D : DrawAt H a l) (h1 : p ≠ a) (h2 : p ≠ l) : DrawAt (L2.upd H p o) a l := by
  obtain ⟨ns, i, r, q, ha, hl, k⟩ := D
  exact ⟨ns, i, r, q, (upd_ne h1.symm).trans ha, (upd_ne h2.symm).trans hl, k⟩
theorem DrawAt.fresh {H : Hp} {a l p : Addr} (D : DrawAt H a l) (h : H p = none) : p ≠ a ∧ p ≠ l := by
  obtain ⟨ns, i, r, q, ha, hl, k⟩ := D
  exact ⟨(ne_of_none ha h).symm, (ne_of_none hl h).symm⟩
theorem DrawAt.new {H : Hp} {a l p : Addr} {o : HO} (D : DrawAt H a l) (h : H p = none) : DrawAt (L2.upd H p o) a l := D.upd (D.fresh h).1 (D.fresh h).2
def sp__law_next : Sp := fun vs H Q _ => ∃ (a l : Addr) (lim : Int), vs = [.ref a, .int lim] ∧ DrawAt H a l ∧ 0 < lim ∧ lim < 1073741824 ∧ ∀ (v : Int) (st : HO), 0 ≤ v → v < lim → DrawAt (upd H a st) a l → Q (.int v) (upd H a st)
theorem ok__law_next (M : Mg mg) {f : Addr} {fd : FuncData} (F : Fun K "_law_next" "_law_next" s__law_next f fd) : FnOk P w K mg base CX0 1 f fd ["state", "limit"] sp__law_next := by
  refine F.ok sc__law_next (fun vs H Q E h => ?_) (fun cdv A outer s H vs Q E hr h => ?_)
  · obtain ⟨a, l, lim, rfl, _⟩ := h; rfl
  · obtain ⟨a, l, lim, rfl, D, l0, l1, q⟩ := h
    refine ⟨_, (Evl.pss_cut (ps_if (PW.pt (pw_and (pt_cmpR op_eq (pe_ix ix_l (pv 0) pe_int (fun _ _ => rfl)) pe_int (nomark _)) (pw_and1 (pt_cmpR op_lt (pe_ix ix_l (pv 0) pe_int (fun _ _ => rfl)) (pe_callB len_l (by rfl) M.n_len PySem.boot_len (pa_cons (pe_ix ix_l (pv 0) pe_int (fun _ _ => rfl)) pa_nil)) (nomark _))))) (pss_cons (ps_set (i := 2) sc__law_next.nd rfl (Or.inl rfl) (pe_ix ix_l (pe_ix ix_l (pv 0) pe_int (fun _ _ => rfl)) (pe_ix ix_l (pv 0) pe_int (fun _ _ => rfl)) (fun _ _ => rfl))) (pss_cons (ps_augS (pv 0) pe_int get_l pe_int ip_add set_list) (pss_one (ps_if (pt_cmpR op_ge (pv 2) (pe_op op_pow pe_int pe_int) (nomark _)) (pss_one (ps_asg (pv 2) (pg_sub (pv 0) pe_int set_list))) (pss_one (ps_asg (pe_op op_mod (pe_callTy int_i (by rfl) M.n_int (by decide +kernel) (pa_cons (pe_op op_add (pe_op op_add (pe_op op_mul (pe_ix ix_l (pv 0) pe_int (fun _ _ => rfl)) pe_int) (pe_op op_mod (pe_callTy int_i (by rfl) M.n_int (by decide +kernel) (pa_cons (pv 2) pa_nil)) pe_int)) pe_int) pa_nil)) pe_int) (pg_sub (pv 0) pe_int set_list))))))) pss_nil) (pss_cons (ps_if (pt_cmpR op_gt (pe_ix ix_l (pv 0) pe_int (fun _ _ => rfl)) pe_int (nomark _)) (pss_cons (ps_set (i := 3) sc__law_next.nd rfl (Or.inl rfl) (pe_op op_mod (pe_callTy int_i (by rfl) M.n_int (by decide +kernel) (pa_cons (pe_ix ix_l (pv 0) pe_int (fun _ _ => rfl)) pa_nil)) (pv 1))) (pss_cons (ps_asg (pe_op op_fdiv (pe_ix ix_l (pv 0) pe_int (fun _ _ => rfl)) (pv 1)) (pg_sub (pv 0) pe_int set_list)) (pss_one (ps_ret (pv 3))))) pss_nil) (pss_cons (ps_asg (pe_op op_mod (pe_callTy int_i (by rfl) M.n_int (by decide +kernel) (pa_cons (pe_op op_add (pe_op op_mul (pe_ix ix_l (pv 0) pe_int (fun _ _ => rfl)) pe_int) pe_int) pa_nil)) pe_int) (pg_sub (pv 0) pe_int set_list)) (pss_one (ps_ret (pe_op op_mod (pe_callTy int_i (by rfl) M.n_int (by decide +kernel) (pa_cons (pe_op op_fdiv (pe_ix ix_l (pv 0) pe_int (fun _ _ => rfl)) pe_int) pa_nil)) (pv 1))))))), ?_⟩
    refine iBody (by repeat constructor) ?_
    refine iCut (fun σ H1 => ∃ cell st, σ = [some (.ref a), some (.int lim), cell, none] ∧ H1 = upd H a st ∧ DrawAt (upd H a st) a l) ?_ ?_
    · obtain ⟨ns, i, r, q, ha, hl, ne, hn, i0, i1, r0, q0, q1⟩ := D
      walk_at "go"
      refine ifD (fun h1 => ?_) (fun h1 => ?_)
      · walk_at "go"
        refine ifD (fun h2 => ?_) (fun h2 => ?_)
        · rw [List.length_map] at h2
          walk_at "go"
          obtain ⟨x, hx⟩ := atI_map i0 h2
          refine iIxL hl hx ?_
          walk_at "go"
          refine ifD (fun h3 => ?_) (fun h3 => ?_)
          · have t18 : (10 : Int) ^ Int.toNat 18 = 1000000000000000000 := by decide
            rw [t18] at h3
            walk_at "go"
            rw [upd_upd]
            exact ⟨_, _, rfl, rfl, .to hl ne hn (by omega) (by omega) (by omega) q0 q1⟩
          · walk_at "go"
            rw [upd_upd]
            exact ⟨_, _, rfl, rfl, .to hl ne hn (by omega) (by omega) (by omega) (by omega) (by omega)⟩
        · walk_at "go"
          exact ⟨_, _, rfl, (upd_id ha).symm, (upd_id ha).symm ▸ ⟨ns, i, r, q, ha, hl, ne, hn, i0, i1, r0, q0, q1⟩⟩
      · walk_at "go"
        exact ⟨_, _, rfl, (upd_id ha).symm, (upd_id ha).symm ▸ ⟨ns, i, r, q, ha, hl, ne, hn, i0, i1, r0, q0, q1⟩⟩
    · rintro σ H1 ⟨cell, st, rfl, rfl, ns, i, r, q2, ha, hl, ne, hn, i0, i1, r0, q0, q1⟩
      walk_at "go"
      refine ifD (fun h1 => ?_) (fun h1 => ?_)
      · walk_at "go"
        rw [upd_upd]
        refine q _ _ (Int.emod_nonneg _ (by omega)) (Int.emod_lt_of_pos _ l0) ?_
        refine .to ((upd_ne ne.symm).symm.trans hl) ne hn i0 i1 (Int.ediv_nonneg (by omega) (by omega)) q0 q1
      · walk_at "go"
        rw [upd_upd]
        refine q _ _ (Int.emod_nonneg _ (by omega)) (Int.emod_lt_of_pos _ l0) ?_
        refine .to ((upd_ne ne.symm).symm.trans hl) ne hn i0 i1 (by omega) (by omega) (by omega)
theorem j_next {H : Hp} {a l : Addr} {lim : Int} {Q : VK} {E : XK} (D : DrawAt H a l) (h0 : 0 < lim) (h1 : lim < 1073741824) (q : ∀ v H', 0 ≤ v → v < lim → DrawAt H' a l → (∀ p, p ≠ a → H' p = H p) → Q (.int v) H') :
    sp__law_next [.ref a, .int lim] H Q E := ⟨a, l, lim, rfl, D, h0, h1, fun v st v0 v1 D' => q v _ v0 v1 D' fun _ hp => upd_ne hp⟩
/-! ### what is the same -/
inductive Dt where
  | non | bl (b : Bool) | int (i : Int) | str (x : Str) | lst (ds : List Dt) | tup (ds : List Dt)
def AtN : Nat → Hp → V → Dt → Prop
  | _, _, v, .non => v = .non
  | _, _, v, .bl b => v = .bl b
  | _, _, v, .int i => v = .int i
  | _, _, v, .str x => v = .str x
  | n + 1, H, v, .lst ds => ∃ (p : Addr) (xs : List V), v = .ref p ∧ H p = some (.lst xs) ∧ xs.length = ds.length ∧ xs.length ≤ 100000 ∧ ∀ (i : Nat) (x : V) (d : Dt), xs[i]? = some x → ds[i]? = some d → AtN n H x d
  | n + 1, H, v, .tup ds => ∃ (p : Addr) (xs : List V), v = .ref p ∧ H p = some (.tup xs) ∧ xs.length = ds.length ∧ xs.length ≤ 100000 ∧ ∀ (i : Nat) (x : V) (d : Dt), xs[i]? = some x → ds[i]? = some d → AtN n H x d
  | 0, _, _, .lst _ => False
  | 0, _, _, .tup _ => False
theorem AtN.non_eq {n : Nat} {H : Hp} {v : V} : AtN n H v .non = (v = .non) := by cases n <;> rfl
theorem AtN.bl_eq {n : Nat} {H : Hp} {v : V} {b : Bool} : AtN n H v (.bl b) = (v = .bl b) := by cases n <;> rfl
theorem AtN.int_eq {n : Nat} {H : Hp} {v : V} {b : Int} : AtN n H v (.int b) = (v = .int b) := by cases n <;> rfl
theorem AtN.str_eq {n : Nat} {H : Hp} {v : V} {b : Str} : AtN n H v (.str b) = (v = .str b) := by cases n <;> rfl
def sp__law_same : Nat → Sp
  | 0 => fun _ _ _ _ => False
  | n + 1 => fun vs H Q _ => ∃ (x y : V) (d : Dt), vs = [x, y] ∧ AtN n H x d ∧ AtN n H y d ∧ Q (.bl true) H
theorem ok__law_same (M : Mg mg) {f : Addr} {fd : FuncData} (F : Fun K "_law_same" "_law_same" s__law_same f fd) (g : mg "_law_same" = some (.ref f)) (bi : Binds K fd ["actual", "expected"] []) :
    ∀ n, FnOk P w K mg base CX0 n f fd ["actual", "expected"] (sp__law_same n)
  | 0 => ⟨fun _ _ _ _ h => h.elim, fun _ _ _ _ _ _ _ _ _ _ _ _ _ h => h.elim⟩
  | n + 1 => by
    have c__law_same : Cal P w K mg base n "_law_same" ["actual", "expected"] (sp__law_same n) := ⟨f, fd, ok__law_same M F g bi n, g, F.kp, bi⟩
    refine F.ok sc__law_same (fun vs H Q E h => ?_) (fun cdv A outer s H vs Q E hr h => ?_)
    · obtain ⟨x, y, d, rfl, _⟩ := h; rfl
    · obtain ⟨x, y, d, rfl, hx, hy, q⟩ := h
      refine ⟨_, (pss_cons (ps_if (pt_cmpR op_isN1 (pv 1) pe_non (nomark _)) (pss_one (ps_ret (pe_cmpR op_isN1 (pv 0) pe_non (nomark _)))) pss_nil) (pss_cons (ps_if (pt_val (pe_callB isi_b (by rfl) M.n_isinstance (by decide +kernel) (pa_cons (pv 1) (pa_cons (pe_ty (n := "bool") (by rfl) M.n_bool (by decide +kernel)) pa_nil)))) (pss_one (ps_ret (pe_and (pe_callB isi_b (by rfl) M.n_isinstance (by decide +kernel) (pa_cons (pv 0) (pa_cons (pe_ty (n := "bool") (by rfl) M.n_bool (by decide +kernel)) pa_nil))) (pe_one (pe_cmpR op_eq (pv 0) (pv 1) (nomark _)))))) pss_nil) (pss_cons (ps_if (pt_val (pe_callB isi_b (by rfl) M.n_isinstance (by decide +kernel) (pa_cons (pv 1) (pa_cons (pe_ty (n := "int") (by rfl) M.n_int (by decide +kernel)) pa_nil)))) (pss_one (ps_ret (pe_and (pe_callB isi_b (by rfl) M.n_isinstance (by decide +kernel) (pa_cons (pv 0) (pa_cons (pe_ty (n := "int") (by rfl) M.n_int (by decide +kernel)) pa_nil))) (pe_and (pe_not (pe_callB isi_b (by rfl) M.n_isinstance (by decide +kernel) (pa_cons (pv 0) (pa_cons (pe_ty (n := "bool") (by rfl) M.n_bool (by decide +kernel)) pa_nil)))) (pe_one (pe_cmpR op_eq (pv 0) (pv 1) (nomark _))))))) pss_nil) (pss_cons (ps_if (pt_val (pe_callB isi_b (by rfl) M.n_isinstance (by decide +kernel) (pa_cons (pv 1) (pa_cons (pe_ty (n := "str") (by rfl) M.n_str (by decide +kernel)) pa_nil)))) (pss_one (ps_ret (pe_and (pe_callB isi_b (by rfl) M.n_isinstance (by decide +kernel) (pa_cons (pv 0) (pa_cons (pe_ty (n := "str") (by rfl) M.n_str (by decide +kernel)) pa_nil))) (pe_one (pe_cmpR op_eq (pv 0) (pv 1) (nomark _)))))) pss_nil) (pss_cons (ps_if (PW.pt (pw_and (pt_val (pe_callB isi_b (by rfl) M.n_isinstance (by decide +kernel) (pa_cons (pv 1) (pa_cons (pe_ty (n := "tuple") (by rfl) M.n_tuple (by decide +kernel)) pa_nil)))) (pw_and1 (pt_not (pt_val (pe_callB isi_b (by rfl) M.n_isinstance (by decide +kernel) (pa_cons (pv 0) (pa_cons (pe_ty (n := "tuple") (by rfl) M.n_tuple (by decide +kernel)) pa_nil)))))))) (pss_one (ps_ret pe_bl)) pss_nil) (pss_cons (ps_if (PW.pt (pw_and (pt_val (pe_callB isi_b (by rfl) M.n_isinstance (by decide +kernel) (pa_cons (pv 1) (pa_cons (pe_ty (n := "list") (by rfl) M.n_list (by decide +kernel)) pa_nil)))) (pw_and1 (pt_not (pt_val (pe_callB isi_b (by rfl) M.n_isinstance (by decide +kernel) (pa_cons (pv 0) (pa_cons (pe_ty (n := "list") (by rfl) M.n_list (by decide +kernel)) pa_nil)))))))) (pss_one (ps_ret pe_bl)) pss_nil) (pss_cons (ps_if (pt_cmpR op_ne (pe_callB len_s (by rfl) M.n_len PySem.boot_len (pa_cons (pv 0) pa_nil)) (pe_callB len_s (by rfl) M.n_len PySem.boot_len (pa_cons (pv 1) pa_nil)) (nomark _)) (pss_one (ps_ret pe_bl)) pss_nil) (pss_cons (ps_for PassesOwn.never rfl (pi_range1 (by rfl) M.n_range (pa_cons (pe_callB len_s (by rfl) M.n_len PySem.boot_len (pa_cons (pv 1) pa_nil)) pa_nil)) (pg_name (i := 2) sc__law_same.nd rfl (Or.inl rfl)) (pss_one (ps_if (pt_not (pt_val (pe_cal c__law_same (hr.mono (by omega)) (by rfl) (pa_cons (pe_ix ix_s (pv 0) (pv 2) (fun _ _ => rfl)) (pa_cons (pe_ix ix_s (pv 1) (pv 2) (fun _ _ => rfl)) pa_nil))))) (pss_one (ps_ret pe_bl)) pss_nil))) (pss_one (ps_ret pe_bl)))))))))), ?_⟩
      refine iBody (by repeat constructor) ?_
      cases d with
      | non =>
        rw [AtN.non_eq] at hx hy
        subst hx; subst hy
        walk_at "go"
        exact q
      | bl k =>
        rw [AtN.bl_eq] at hx hy
        subst hx; subst hy
        walk_at "go"
        rw [decide_eq_true rfl]
        exact q
      | int k =>
        rw [AtN.int_eq] at hx hy
        subst hx; subst hy
        walk_at "go"
        rw [decide_eq_true rfl]
        exact q
      | str k =>
        rw [AtN.str_eq] at hx hy
        subst hx; subst hy
        walk_at "go"
        rw [decide_eq_true rfl]
        exact q
      | lst ds =>
        cases n with
        | zero => exact hx.elim
        | succ n =>
          obtain ⟨p, xs, rfl, hp, el, sl, ex⟩ := hx
          obtain ⟨p', ys, rfl, hp', el', sl', ey⟩ := hy
          walk_at "go"
          refine forJ_range0 (fun _ σ' H' => (∃ k, σ' = [some (.ref p), some (.ref p'), k]) ∧ H' = H) ⟨⟨_, rfl⟩, rfl⟩ (fun i σ' H' hi hp => ?_) (fun σ' H' hp => ?_)
          · obtain ⟨⟨k, rfl⟩, rfl⟩ := hp
            rw [Int.toNat_natCast] at hi
            walk_at "go"
            refine iIxS (.inl (by assumption)) (atI_natL xs i ▸ List.getElem?_eq_getElem (by omega)) ?_
            walk_at "go"
            refine iIxS (.inl (by assumption)) (atI_natL ys i ▸ List.getElem?_eq_getElem (by omega)) ?_
            walk_at "go"
            refine ⟨_, _, ds[i]'(by omega), rfl, ex i _ _ (List.getElem?_eq_getElem _) (List.getElem?_eq_getElem _), ey i _ _ (List.getElem?_eq_getElem _) (List.getElem?_eq_getElem _), ?_⟩
            walk_at "go"
            exact ⟨⟨_, rfl⟩, rfl⟩
          · obtain ⟨⟨k, rfl⟩, rfl⟩ := hp
            walk_at "go"
            exact q
      | tup ds =>
        cases n with
        | zero => exact hx.elim
        | succ n =>
          obtain ⟨p, xs, rfl, hp, el, sl, ex⟩ := hx
          obtain ⟨p', ys, rfl, hp', el', sl', ey⟩ := hy
          walk_at "go"
          refine forJ_range0 (fun _ σ' H' => (∃ k, σ' = [some (.ref p), some (.ref p'), k]) ∧ H' = H) ⟨⟨_, rfl⟩, rfl⟩ (fun i σ' H' hi hp => ?_) (fun σ' H' hp => ?_)
          · obtain ⟨⟨k, rfl⟩, rfl⟩ := hp
            rw [Int.toNat_natCast] at hi
            walk_at "go"
            refine iIxS (.inr (by assumption)) (atI_natL xs i ▸ List.getElem?_eq_getElem (by omega)) ?_
            walk_at "go"
            refine iIxS (.inr (by assumption)) (atI_natL ys i ▸ List.getElem?_eq_getElem (by omega)) ?_
            walk_at "go"
            refine ⟨_, _, ds[i]'(by omega), rfl, ex i _ _ (List.getElem?_eq_getElem _) (List.getElem?_eq_getElem _), ey i _ _ (List.getElem?_eq_getElem _) (List.getElem?_eq_getElem _), ?_⟩
            walk_at "go"
            exact ⟨⟨_, rfl⟩, rfl⟩
          · obtain ⟨⟨k, rfl⟩, rfl⟩ := hp
            walk_at "go"
            exact q
/-! ### x in a list of numbers -/
theorem inV_nat (m : Nat) : ∀ l : List Nat, inV (.int m) (natL l) = decide (m ∈ l)
  | [] => by simp [natL, inV]
  | a :: l => by
    have ih := inV_nat m l
    unfold inV natL at ih ⊢
    rw [List.map_cons, List.any_cons, ih]
    have e : eqV (.int a) (.int m) = decide ((a : Int) = m) := rfl
    rw [e]
    by_cases h : a = m
    · subst h; simp
    · have h1 : ¬ (a : Int) = m := by omega
      have h2 : ¬ m = a := fun q => h q.symm
      simp [h1, h2]
theorem flat_nat (l : List Nat) : (natL l).all flatV = true := by
  unfold natL
  rw [List.all_map]
  exact List.all_eq_true.mpr fun _ _ => rfl
theorem iInNat {H : Hp} {Q : VK} {p : Addr} {m : Nat} {l : List Nat} (h : H p = some (.lst (natL l))) (q : Q (.bl (decide (m ∈ l))) H) : kIn false (.int m) (.ref p) H Q := by
  refine ⟨p, natL l, rfl, .inl h, rfl, flat_nat l, ?_⟩
  rw [inV_nat]
  exact q
theorem iNinNat {H : Hp} {Q : VK} {p : Addr} {m : Nat} {l : List Nat} (h : H p = some (.lst (natL l))) (q : Q (.bl (!decide (m ∈ l))) H) : kIn true (.int m) (.ref p) H Q := by
  refine ⟨p, natL l, rfl, .inl h, rfl, flat_nat l, ?_⟩
  rw [inV_nat]
  exact q
/-! ### the world: disks and model -/
namespace We
variable {C : Addr} {H H' F F' Rs R2 R2' : Hp} {L : DL → Addr} {LM : WL → Addr} {D : DK} {Mo : WM} {p : Addr} {o o' : HO}
theorem ex (h : We C H F Rs R2 L D LM Mo) (e : Ex H H') : We C H' F Rs R2 L D LM Mo := ⟨h.d.ex e, h.m⟩
theorem rs (h : We C H F Rs R2 L D LM Mo) : Ex Rs H := h.d.rs
theorem r2 (h : We C H F Rs R2 L D LM Mo) : Ex R2 Rs := by obtain ⟨cm, cw, m⟩ := h.m; exact m.own.r
theorem r2h (h : We C H F Rs R2 L D LM Mo) : Ex R2 H := h.r2.trans h.rs
theorem weak2 (h : We C H F Rs R2 L D LM Mo) (e : Ex R2' R2) : We C H F Rs R2' L D LM Mo := ⟨h.d, by obtain ⟨cm, cw, m⟩ := h.m; exact (m.weak e).at_⟩
theorem new2 (h : We C H F Rs R2 L D LM Mo) (e : H p = none) : We C (upd H p o) F (upd Rs p o) (upd R2 p o) L D LM Mo := ⟨h.d.newR e, by obtain ⟨cm, cw, m⟩ := h.m; exact (m.newR (Evl.fresh_back h.rs e)).at_⟩
theorem put2 (h : We C H F Rs R2 L D LM Mo) (e : R2 p = some o) : We C (upd H p o') F (upd Rs p o') (upd R2 p o') L D LM Mo := ⟨h.d.put (h.r2 _ _ e), by obtain ⟨cm, cw, m⟩ := h.m; exact (m.put e).at_⟩
theorem newF (h : We C H F Rs R2 L D LM Mo) (e : H p = none) : We C (upd H p o) (upd F p o) Rs R2 L D LM Mo := ⟨h.d.newF e, by obtain ⟨cm, cw, m⟩ := h.m; exact (m.exF (ex_new (Evl.fresh_back h.d.fs e))).at_⟩
theorem join2 (h : We C H F Rs R2 L D LM Mo) (x : Ex H H') (e : H p = none) (e' : H' p = some o) : We C H' F (upd Rs p o) (upd R2 p o) L D LM Mo := by
  refine ⟨?_, by obtain ⟨cm, cw, m⟩ := h.m; exact (m.newR (Evl.fresh_back h.rs e)).at_⟩
  obtain ⟨dx, szs, cm, cw, d⟩ := h.d
  have fr := d.own.free e
  have d' := d.ex x
  exact ({ d' with own := d'.own.join fr.1 fr.2.2 e' } : DRep C dx szs H' F (upd Rs p o) L D cm cw).at_
theorem icE (h : We C H F Rs R2 L D LM Mo) (x : Ex H H') (e : H p = none) (e' : H' p = some o) : We C H' (upd F p o) Rs R2 L D LM Mo := by
  refine ⟨?_, by obtain ⟨cm, cw, m⟩ := h.m; exact (m.exF (ex_new (Evl.fresh_back h.d.fs e))).at_⟩
  obtain ⟨dx, szs, cm, cw, d⟩ := h.d
  have fr := d.own.free e
  have d' := d.ex x
  exact (d'.ice fr.2.1 fr.2.2 fr.1 e').at_
theorem step (h : We C H F Rs R2 L D LM Mo) {L' : DL → Addr} {D' : DK} (x : Ex F F') (d : DAt C H' F' Rs L' D') : We C H' F' Rs R2 L' D' LM Mo := ⟨d, by obtain ⟨cm, cw, m⟩ := h.m; exact (m.exF x).at_⟩
end We
namespace We
variable {C : Addr} {H H' F F' Rs R2 R2' : Hp} {L : DL → Addr} {LM : WL → Addr} {D : DK} {Mo : WM} {p : Addr} {o o' : HO}
theorem fnone (h : We C H F Rs R2 L D LM Mo) (e : R2 p = some o) : F p = none := by
  obtain ⟨dx, szs, cm, cw, d⟩ := h.d
  exact d.own.fr p (by rw [h.r2 _ _ e]; intro z; cases z)
/-- what the rest had is frozen -/
theorem thaw {S : Hp} (h : We C H F Rs R2 L D LM Mo) (hp : H p = some o) (hS : S p = none) (e : R2 p = some o) (hx : Ex S R2) : We C H (upd F p o) (fun q => if q = p then none else Rs q) S L D LM Mo := by
  have fn := h.fnone e
  obtain ⟨dx, szs, cm, cw, d⟩ := h.d
  obtain ⟨cm', cw', m⟩ := h.m
  have er : Ex (fun q => if q = p then none else Rs q) Rs := fun q u hq => by
    by_cases z : q = p
    · have hq : (if q = p then none else Rs q) = some u := hq
      rw [if_pos z] at hq; cases hq
    · have hq : (if q = p then none else Rs q) = some u := hq
      rw [if_neg z] at hq; exact hq
  have hl : ∀ y, dom D.n y → L y ≠ p := fun y hy z => by have := d.own.nr y hy; rw [z, m.own.r _ _ e] at this; cases this
  refine ⟨((d.weak er).ice (if_pos rfl) hl fn hp).at_, cm', cw', ?_⟩
  have m2 := m.exF (ex_new (o := o) fn)
  have hm : ∀ y, domW Mo.n y → LM y ≠ p := fun y hy z => by have := m.own.nr y hy; rw [z, e] at this; cases this
  refine { m2 with own := ⟨⟨fun y hy => ?_, m.own.lay.inj⟩, fun _ _ h => (by cases h), fun q u hq => ?_, fun _ _ => rfl, fun y hy => Evl.fresh_back hx (m.own.nr y hy), fun _ _ => rfl⟩ }
  · show (if LM y = p then none else Rs (LM y)) = _
    rw [if_neg (hm y hy)]; exact m.own.lay.at_ y hy
  · show (if q = p then none else Rs q) = _
    rw [if_neg (fun z => by subst z; rw [hS] at hq; cases hq)]
    exact m.own.r _ _ (hx _ _ hq)
end We
theorem DAt.join {C p : Addr} {H H' F Rs : Hp} {L : DL → Addr} {D : DK} {o : HO} (h : DAt C H F Rs L D) (x : Ex H H') (e : H p = none) (e' : H' p = some o) : DAt C H' F (upd Rs p o) L D := by
  obtain ⟨dx, szs, cm, cw, d⟩ := h
  have fr := d.own.free e
  have d' := d.ex x
  exact ({ d' with own := d'.own.join fr.1 fr.2.2 e' } : DRep C dx szs H' F (upd Rs p o) L D cm cw).at_
/-! ### the state of the draws, in the rest -/
theorem DrawAt.down {R H : Hp} {a l : Addr} {st : HO} (D : DrawAt R a l) (e : Ex R H) (D' : DrawAt (L2.upd H a st) a l) : DrawAt (L2.upd R a st) a l := by
  obtain ⟨ns0, i0, r0, q0, ha0, hl0, ne0, _⟩ := D
  obtain ⟨ns, i, r, q, ha, hl, k⟩ := D'
  refine ⟨ns, i, r, q, ?_, ?_, k⟩
  · rw [upd_same] at ha ⊢; exact ha
  · have h1 := e _ _ hl0
    rw [upd_ne ne0.symm] at hl ⊢
    rw [hl0]
    rw [h1] at hl
    exact hl
theorem DrawAt.exR {R H : Hp} {a l : Addr} (D : DrawAt R a l) (e : Ex R H) : DrawAt H a l := by
  obtain ⟨ns, i, r, q, ha, hl, k⟩ := D
  exact ⟨ns, i, r, q, e _ _ ha, e _ _ hl, k⟩
/-- R2, another state of the draws -/
def StepR (R2 R2' : Hp) (a : Addr) : Prop := ∃ st, R2' = upd R2 a st
theorem j_nextW {C : Addr} {H F Rs R2 : Hp} {L : DL → Addr} {D : DK} {LM : WL → Addr} {W : WM} {a l : Addr} {lim : Int} {Q : VK} {E : XK} (w : We C H F Rs R2 L D LM W) (dr : DrawAt R2 a l) (h0 : 0 < lim) (h1 : lim < 1073741824)
    (q : ∀ (v : Nat) H' Rs' st, (v : Int) < lim → We C H' F Rs' (upd R2 a st) L D LM W → DrawAt (upd R2 a st) a l → Q (.int v) H') : sp__law_next [.ref a, .int lim] H Q E := by
  refine ⟨a, l, lim, rfl, dr.exR w.r2h, h0, h1, fun v st v0 v1 D' => ?_⟩
  obtain ⟨ns, i, r, qq, ha, _⟩ := id dr
  have := q v.toNat (upd H a st) (upd Rs a st) st (by omega) (w.put2 ha) (dr.down w.r2h D')
  rwa [show ((v.toNat : Nat) : Int) = v by omega] at this
def secJ (n : Nat) : List Int := (List.range 32).map fun k : Nat => ((n : Int) + 11 * (k : Int)) % 256
theorem secJ_sec (n : Nat) : IsSec ((secJ n).map V.int) := ⟨secJ n, rfl, by unfold secJ; rw [List.length_map, List.length_range]⟩
def sp_sector : Sp := fun vs H Q _ => ∃ (a l : Addr), vs = [.ref a] ∧ DrawAt H a l ∧ ∀ (n : Nat) st p H', DrawAt (upd H a st) a l → (upd H a st) p = none → Ex (upd H a st) H' → H' p = some (.lst ((secJ n).map V.int)) → Q (.ref p) H'
theorem ok_sector (M : Mg mg) {f : Addr} {fd : FuncData} (F : Fun K "_law_sector" "_law_sector" s__law_sector f fd) (c__law_next : Cal P w K mg base 1 "_law_next" ["state", "limit"] sp__law_next) : FnOk P w K mg base CX0 2 f fd ["state"] sp_sector := by
  refine F.ok sc__law_sector (fun vs H Q E h => ?_) (fun cdv A outer s H vs Q E hr h => ?_)
  · obtain ⟨a, l, rfl, _⟩ := h; rfl
  · obtain ⟨a, l, rfl, dr, q⟩ := h
    refine ⟨_, (pss_cons (ps_set (i := 1) sc__law_sector.nd rfl (Or.inr rfl) (pe_cal c__law_next (hr.mono (by omega)) (by rfl) (pa_cons (pv 0) (pa_cons pe_int pa_nil)))) (pss_one (ps_ret (pe_lc (own := [("j", 2)]) (g := (gName 2)) (tt := tYes) (by rfl) sc__law_sector.nd (pi_range1 (by rfl) M.n_range (pa_cons pe_int pa_nil)) (blkOk_by (own := [("j", 2)]) (N := ["state", "start", "j"]) (sc := defScope s__law_sector) (by decide +kernel)) (fun _ _ _ _ _ => (pg_name (i := 2) sc__law_sector.nd rfl (Or.inl rfl))) (fun _ _ _ _ _ => pts_nil) (fun _ _ _ _ _ => (pe_op op_mod (pe_op op_add (pv 1) (pe_op op_mul pe_int (pv 2))) pe_int)))))), ?_⟩
    refine iBody (by repeat constructor) ?_
    walk_at "go"
    refine ⟨a, l, 256, rfl, dr, by decide, by decide, fun v st v0 v1 D' => ?_⟩
    obtain ⟨n, rfl⟩ : ∃ n : Nat, v = n := ⟨v.toNat, by omega⟩
    walk_at "go"
    refine lcF_r0 (fun k => V.int (((n : Int) + 11 * (k : Int)) % 256)) (by repeat constructor) (fun D i H' hD hi hacc e => ?_) (fun D H' hD e hacc => ?_)
    · have hi : i < 32 := hi
      walk_at "go"
      exact iLcF hD (by omega) e hacc rfl
    · have hacc : H' D = some (.lst ((List.range 32).map fun k : Nat => V.int (((n : Int) + 11 * (k : Int)) % 256))) := hacc
      refine q n st D H' D' hD e ?_
      rw [hacc]
      unfold secJ
      rw [List.map_map]
      rfl
theorem j_sectorW {C : Addr} {H F Rs R2 : Hp} {L : DL → Addr} {D : DK} {LM : WL → Addr} {W : WM} {a l : Addr} {Q : VK} {E : XK} (w : We C H F Rs R2 L D LM W) (dr : DrawAt R2 a l)
    (q : ∀ (x : Sec) p H' Rs' st, IsSec x → We C H' F (upd Rs' p (.lst x)) (upd (upd R2 a st) p (.lst x)) L D LM W → DrawAt (upd R2 a st) a l → (upd R2 a st) p = none → Q (.ref p) H') : sp_sector [.ref a] H Q E := by
  refine ⟨a, l, rfl, dr.exR w.r2h, fun n st p H' D' hp e hp' => ?_⟩
  obtain ⟨ns, i, r, qq, ha, _⟩ := id dr
  have w1 := w.put2 (o' := st) ha
  exact q _ p H' _ st (secJ_sec n) (w1.join2 e hp hp') (dr.down w.r2h D') (Evl.fresh_back w1.r2h hp)
/-! ### a cell, by the model -/
def sp_lcell : Sp := fun vs H Q _ => ∃ (F Rs R2 : Hp) (LM : WL → Addr) (W : WM) (d j : Nat), vs = [.ref (LM .obj), .int d, .int j] ∧ Ex Rs H ∧ Ex F H ∧ WAt Rs F R2 LM W ∧ d < W.n ∧ (W.wait d).length < 90000 ∧
  ∀ v H', Ex H H' → CellRep F v (if d ∈ W.aw then none else W.cell d j) → Q v H'
def lastR (F : Hp) (o : Option Sec) (acc : List V) : Prop := match o with
  | none => acc = []
  | some x => ∃ p, acc.getLast? = some (.ref p) ∧ F p = some (.lst x)
def accR (F : Hp) (ws : List (Nat × Sec)) (j : Nat) (acc : List V) : Prop := acc.length ≤ ws.length ∧ lastR F (lastW ws j) acc
theorem ok_lcell (M : Mg mg) {f : Addr} {fd : FuncData} (F : Fun K "_law_cell" "_law_cell" s__law_cell f fd) : FnOk P w K mg base CX0 1 f fd ["world", "disk", "sector"] sp_lcell := by
  refine F.ok sc__law_cell (fun vs H Q E h => ?_) (fun cdv A outer s H vs Q E hr h => ?_)
  · obtain ⟨F, Rs, R2, LM, W, d, j, rfl, _⟩ := h; rfl
  · obtain ⟨F, Rs, R2, LM, W, d, j, rfl, eR, eF, ⟨cm, cw, m⟩, hd, hz, q⟩ := h
    have hO := eR _ _ m.hO
    have hA := eR _ _ m.hA
    have hW := eR _ _ m.hW
    have hM := eR _ _ m.hM
    have hw := eR _ _ (m.hw hd)
    have hm := eR _ _ (m.hm hd)
    have rw' := m.wai d hd
    have rm := m.med d hd
    refine ⟨_, (pss_cons (ps_if (pt_cmpR op_inS (pv 1) (pe_dget (hu_of hr) (pv 0) pe_str (fun _ _ => rfl)) rfl) (pss_one (ps_ret pe_non)) pss_nil) (pss_cons (ps_setLc (i := 3) (own := [("place", 4), ("data", 5)]) (g := (gTup K 2 (gCons (gName 4) (gCons (gName 5) gNil)))) (tt := _) (by rfl) sc__law_cell.nd rfl rfl (sw_true rfl rfl rfl (by decide +kernel)) (pi_l (pe_ix ix_l (pe_dget (hu_of hr) (pv 0) pe_str (fun _ _ => rfl)) (pv 1) (fun _ _ => rfl))) (blkOk_by (own := [("place", 4), ("data", 5)]) (N := ["world", "disk", "sector", "waits", "place", "data"]) (sc := defScope s__law_cell) (by decide +kernel)) (fun _ _ _ _ _ => (pg_tup (by rfl) (pgs_cons (pg_name (i := 4) sc__law_cell.nd rfl (Or.inl rfl)) (pgs_cons (pg_name (i := 5) sc__law_cell.nd rfl (Or.inl rfl)) pgs_nil)))) (fun _ _ _ _ _ => (pts_one (pt_cmpR op_eq (pv 4) (pv 2) (nomark _)))) (fun _ _ _ _ _ => (pv 5))) (pss_one (ps_ret (pe_ix ix_l (pe_op op_cat (pe_lst (pa_cons (pe_dget1 (hu_of hr) (pe_ix ix_l (pe_dget (hu_of hr) (pv 0) pe_str (fun _ _ => rfl)) (pv 1) (fun _ _ => rfl)) (pv 2) ⟨by rfl, by rfl, by rfl, by rfl⟩) pa_nil)) (pv 3)) (pe_callB len_l (by rfl) M.n_len PySem.boot_len (pa_cons (pv 3) pa_nil)) (fun _ _ => rfl)))))), ?_⟩
    refine iBody (by repeat constructor) ?_
    walk_at "go"
    refine iDGs hO rfl ?_
    walk_at "go"
    refine iInNat hA ?_
    by_cases ha : d ∈ W.aw
    · rw [decide_eq_true ha]
      walk_at "go"
      exact q _ _ (Ex.refl _) (by rw [if_pos ha]; exact rfl)
    · rw [decide_eq_false ha]
      rw [if_neg ha] at q
      walk_at "go"
      refine iDGs hO rfl ?_
      walk_at "go"
      refine iIxL hW ((atI_natL _ _).trans (waiW_get hd)) ?_
      walk_at "go"
      refine lcR_l (cw d) (fun i acc _ => accR F ((W.wait d).take i) j acc) (by repeat constructor) hw (fun _ _ _ _ _ h => h) ⟨Nat.le_refl _, rfl⟩ (fun D i acc x H' hD hx hacc hl e hp => ?_) (fun D acc H' hD e hacc hp => ?_)
      · have hi := (List.getElem?_eq_some_iff.mp hx).1
        obtain ⟨z, hzz⟩ : ∃ z, (W.wait d)[i]? = some z := ⟨_, List.getElem?_eq_getElem (by rw [← rw'.len]; exact hi)⟩
        obtain ⟨_, t, p, rfl, ht, hpp⟩ := rw'.at_ i _ z hx hzz
        have ht' := e _ _ (eF _ _ ht)
        have hlw := rw'.len
        have et2 : (W.wait d).take (i + 1) = (W.wait d).take i ++ [z] := by rw [List.take_succ, hzz]; rfl
        walk_at "go"
        refine ifD (fun h1 => ?_) (fun h1 => ?_)
        · walk_at "go"
          refine iLcR hD (by omega) hl e hacc ?_
          unfold accR
          rw [et2, lastW_snoc, if_pos (by omega)]
          refine ⟨by rw [List.length_append, List.length_append]; exact Nat.succ_le_succ hp.1, ?_⟩
          exact ⟨p, by rw [List.getLast?_append, List.getLast?_singleton]; rfl, hpp⟩
        · walk_at "go"
          refine iLcN hacc hl ⟨e, ?_⟩
          show accR F ((W.wait d).take (i + 1)) j acc
          unfold accR
          rw [et2, lastW_snoc, if_neg (by omega)]
          exact ⟨by rw [List.length_append]; exact Nat.le_succ_of_le hp.1, hp.2⟩
      · rw [rw'.len, List.take_length] at hp
        obtain ⟨hal0, hp⟩ := hp
        have hO := e _ _ hO
        have hM := e _ _ hM
        have hm := e _ _ hm
        walk_at "go"
        refine iDGs hO rfl ?_
        walk_at "go"
        refine iIxL hM ((atI_natL _ _).trans (medW_get hd)) ?_
        refine iDG0 hm ?_
        walk_at "go"
        refine iDG1 hm ?_
        walk_at "go"
        refine iNewL (by simp) fun t ht => ?_
        have nDt : D ≠ t := ne_of_none hacc ht
        walk_at "go"
        have hal : acc.length < 99999 := by omega
        refine iCat upd_same ((upd_ne nDt).trans hacc) (by simp; omega) fun u hu => ?_
        have nDu : D ≠ u := ne_of_none ((upd_ne nDt).trans hacc) hu
        walk_at "go"
        have gl : ([(valV (cm d) (.inl (j : Int) : Key)).getD V.non] ++ acc)[acc.length]? = some (acc.getLast?.getD ((valV (cm d) (.inl (j : Int) : Key)).getD V.non)) := by
          cases acc with
          | nil => rfl
          | cons b bs =>
            rw [List.getLast?_eq_getElem?]
            show (b :: bs)[bs.length]? = _
            simp
        refine iIxL upd_same ((atI_natL _ _).trans gl) ?_
        refine q _ _ ((e.trans (Evl.Ex.new ht)).trans (Evl.Ex.new hu)) ?_
        cases el : lastW (W.wait d) j with
        | some x =>
          rw [el] at hp
          obtain ⟨p, hg, hpp⟩ := hp
          have : W.cell d j = some x := by unfold WM.cell; rw [el]; rfl
          rw [this, hg]
          exact ⟨p, rfl, hpp⟩
        | none =>
          rw [el] at hp
          have hp : acc = [] := hp
          subst hp
          have : W.cell d j = W.media d j := by unfold WM.cell; rw [el]; rfl
          rw [this]
          exact rm.get j
theorem j_lcell {F Rs R2 H : Hp} {LM : WL → Addr} {W : WM} {d j : Nat} {Q : VK} {E : XK} (eR : Ex Rs H) (eF : Ex F H) (m : WAt Rs F R2 LM W) (hd : d < W.n) (hz : (W.wait d).length < 90000) (q : ∀ v H', Ex H H' → CellRep F v (if d ∈ W.aw then none else W.cell d j) → Q v H') :
    sp_lcell [.ref (LM .obj), .int d, .int j] H Q E := ⟨F, Rs, R2, LM, W, d, j, rfl, eR, eF, m, hd, hz, q⟩
end
end R
set_option Elab.async false
set_option linter.all false
set_option maxRecDepth 100000
set_option maxHeartbeats 4000000
namespace R
open PySem PySem.Spec L2
open Evl (Ex)
abbrev s__law_is_right : Stmt := topS 13
theorem sc__law_is_right : FnScope ["world", "disks", "disk", "sector"] ["world", "disks"] (defScope s__law_is_right) := ⟨rfl, rfl, rfl, by decide +kernel, rfl, by decide +kernel, by decide +kernel⟩
abbrev s__law_dark : Stmt := topS 15
theorem sc__law_dark : FnScope ["state", "disks", "told", "kind"] ["state", "disks"] (defScope s__law_dark) := ⟨rfl, rfl, rfl, by decide +kernel, rfl, by decide +kernel, by decide +kernel⟩
abbrev s__law_write : Stmt := topS 16
theorem sc__law_write : FnScope ["state", "world", "disks", "disk", "sector", "data"] ["state", "world", "disks"] (defScope s__law_write) := ⟨rfl, rfl, rfl, by decide +kernel, rfl, by decide +kernel, by decide +kernel⟩
abbrev s__law_fault : Stmt := topS 14
theorem sc__law_fault : FnScope ["state", "world", "disks", "disk", "sector", "data", "pick", "each"] ["state", "world", "disks"] (defScope s__law_fault) := ⟨rfl, rfl, rfl, by decide +kernel, rfl, by decide +kernel, by decide +kernel⟩
local macro_rules | `(tactic| walk_at "ne") => `(tactic| (first | assumption | (apply Ne.symm; assumption) | (apply ne_fresh; (· assumption); (· walk_at "look")) | (apply Ne.symm; apply ne_fresh; (· assumption); (· walk_at "look"))))
local macro_rules | `(tactic| walk_at "look") => `(tactic| (first | assumption | exact upd_same | (refine (upd_ne ?_).trans ?_; (· walk_at "ne"); (· walk_at "look")) | (refine exAt (by assumption) ?_; walk_at "look")))
local macro_rules | `(tactic| walk_at "side") => `(tactic| (first | (exact Or.inl ⟨by omega, by omega⟩) | (exact Or.inr ⟨by omega, by omega⟩) | (show (0:Int) < _; omega) | (show (0:Int) ≤ _; omega) | (exact ⟨by omega, by omega⟩) | (exact ⟨by decide, by decide, by decide⟩)))
local macro_rules | `(tactic| walk_at "go") => `(tactic| (repeat (first | ((with_reducible apply iF_Disks_in_use); (· assumption); (· walk_at "look"); (· rfl)) | ((with_reducible apply iS_Disks_in_use); (· assumption); (· walk_at "look"); (· repeat constructor)) | ((with_reducible apply iN_Disks_in_use); (· assumption); (· walk_at "look"); (· rfl)) | ((with_reducible apply iF_Disks_formatted); (· assumption); (· walk_at "look"); (· rfl)) | ((with_reducible apply iS_Disks_formatted); (· assumption); (· walk_at "look"); (· repeat constructor)) | ((with_reducible apply iN_Disks_formatted); (· assumption); (· walk_at "look"); (· rfl)) | ((with_reducible apply iF_Disks_scrub_place); (· assumption); (· walk_at "look"); (· rfl)) | ((with_reducible apply iS_Disks_scrub_place); (· assumption); (· walk_at "look"); (· repeat constructor)) | ((with_reducible apply iN_Disks_scrub_place); (· assumption); (· walk_at "look"); (· rfl)) | ((with_reducible apply iF_Disks__sizes); (· assumption); (· walk_at "look"); (· rfl)) | ((with_reducible apply iS_Disks__sizes); (· assumption); (· walk_at "look"); (· repeat constructor)) | ((with_reducible apply iN_Disks__sizes); (· assumption); (· walk_at "look"); (· rfl)) | ((with_reducible apply iF_Disks__there); (· assumption); (· walk_at "look"); (· rfl)) | ((with_reducible apply iS_Disks__there); (· assumption); (· walk_at "look"); (· repeat constructor)) | ((with_reducible apply iN_Disks__there); (· assumption); (· walk_at "look"); (· rfl)) | ((with_reducible apply iF_Disks__media); (· assumption); (· walk_at "look"); (· rfl)) | ((with_reducible apply iS_Disks__media); (· assumption); (· walk_at "look"); (· repeat constructor)) | ((with_reducible apply iN_Disks__media); (· assumption); (· walk_at "look"); (· rfl)) | ((with_reducible apply iF_Disks__waiting); (· assumption); (· walk_at "look"); (· rfl)) | ((with_reducible apply iS_Disks__waiting); (· assumption); (· walk_at "look"); (· repeat constructor)) | ((with_reducible apply iN_Disks__waiting); (· assumption); (· walk_at "look"); (· rfl)) | ((with_reducible apply iF_Disks__on); (· assumption); (· walk_at "look"); (· rfl)) | ((with_reducible apply iS_Disks__on); (· assumption); (· walk_at "look"); (· repeat constructor)) | ((with_reducible apply iN_Disks__on); (· assumption); (· walk_at "look"); (· rfl)) | ((with_reducible apply iF_Disks__left); (· assumption); (· walk_at "look"); (· rfl)) | ((with_reducible apply iS_Disks__left); (· assumption); (· walk_at "look"); (· repeat constructor)) | ((with_reducible apply iN_Disks__left); (· assumption); (· walk_at "look"); (· rfl)) | ((with_reducible apply iM_Disks__left); (· assumption); (· walk_at "look"); (· rfl); (· repeat constructor)) | ((with_reducible apply iF_Disks__failures); (· assumption); (· walk_at "look"); (· rfl)) | ((with_reducible apply iS_Disks__failures); (· assumption); (· walk_at "look"); (· repeat constructor)) | ((with_reducible apply iN_Disks__failures); (· assumption); (· walk_at "look"); (· rfl)) | ((with_reducible apply iP_Disks__failures); (· assumption); (· walk_at "look"); (· rfl); (· repeat constructor)) | ((with_reducible apply iF_Disks__reads); (· assumption); (· walk_at "look"); (· rfl)) | ((with_reducible apply iS_Disks__reads); (· assumption); (· walk_at "look"); (· repeat constructor)) | ((with_reducible apply iN_Disks__reads); (· assumption); (· walk_at "look"); (· rfl)) | ((with_reducible apply iP_Disks__reads); (· assumption); (· walk_at "look"); (· rfl); (· repeat constructor)) | ((with_reducible apply iF_Disks__writes); (· assumption); (· walk_at "look"); (· rfl)) | ((with_reducible apply iS_Disks__writes); (· assumption); (· walk_at "look"); (· repeat constructor)) | ((with_reducible apply iN_Disks__writes); (· assumption); (· walk_at "look"); (· rfl)) | ((with_reducible apply iP_Disks__writes); (· assumption); (· walk_at "look"); (· rfl); (· repeat constructor)) | ((with_reducible apply iF_Disks__syncs); (· assumption); (· walk_at "look"); (· rfl)) | ((with_reducible apply iS_Disks__syncs); (· assumption); (· walk_at "look"); (· repeat constructor)) | ((with_reducible apply iN_Disks__syncs); (· assumption); (· walk_at "look"); (· rfl)) | ((with_reducible apply iP_Disks__syncs); (· assumption); (· walk_at "look"); (· rfl); (· repeat constructor)) | ((with_reducible apply iMe_Disks_is_there); (· walk_at "look")) | ((with_reducible apply iMe_Disks_pending); (· walk_at "look")) | ((with_reducible apply iMe_Disks_cell); (· walk_at "look")) | ((with_reducible apply iMe_Disks__fail); (· walk_at "look")) | ((with_reducible apply iMe_Disks__operate); (· walk_at "look")) | ((with_reducible apply iMe_Disks_ask); (· walk_at "look")) | ((with_reducible apply iMe_Disks_write); (· walk_at "look")) | ((with_reducible apply iMe_Disks__settle); (· walk_at "look")) | ((with_reducible apply iMe_Disks_sync); (· walk_at "look")) | ((with_reducible apply iMe_Disks_rot); (· walk_at "look")) | ((with_reducible apply iMe_Disks_bad); (· walk_at "look")) | ((with_reducible apply iMe_Disks__empty); (· walk_at "look")) | ((with_reducible apply iMe_Disks_away); (· walk_at "look")) | ((with_reducible apply iMe_Disks_blank); (· walk_at "look")) | ((with_reducible apply iMe_Disks_power); (· walk_at "look")) | ((with_reducible apply iMe_Disks_is_on); (· walk_at "look")) | ((with_reducible apply iMe_Disks_losses); (· walk_at "look")) | ((with_reducible apply iMe_Disks_counts); (· walk_at "look")) | ((with_reducible apply iMe_Disks_fail_after); (· walk_at "look")) | (with_reducible refine iSeq ?_) | (with_reducible refine iAsg ?_) | ((with_reducible apply iName); (· repeat constructor)) | ((with_reducible apply iVar); (· rfl)) | (with_reducible refine iC ?_) | (with_reducible refine iOp ?_) | (with_reducible refine iI0 ?_) | (with_reducible refine iCons ?_) | (with_reducible refine iNil ?_) | (with_reducible refine iCB ?_) | (with_reducible refine iIfS ?_) | (with_reducible refine iTest ?_) | (with_reducible refine iBl ?_) | (with_reducible refine iRet ?_) | (with_reducible refine iNext ?_) | (with_reducible refine iDrop ?_) | (with_reducible refine iEqI ?_) | (with_reducible refine iNeI ?_) | (with_reducible refine iInt ?_) | (with_reducible refine iFor ?_) | (with_reducible refine iRng ?_) | (with_reducible refine iCal ?_) | (with_reducible refine iAnd ?_) | (with_reducible refine iOr ?_) | (with_reducible refine iNot ?_) | (with_reducible refine iB ?_) | (with_reducible refine iIf ?_) | (with_reducible refine iChain ?_) | (with_reducible refine iUn ?_) | (with_reducible refine iU ?_) | (with_reducible refine iRetN ?_) | (with_reducible refine iIsN ?_) | (with_reducible refine iNotN ?_) | (with_reducible refine iTruI ?_) | (with_reducible refine ifNDr ?_) | (with_reducible refine ifDr ?_) | (with_reducible refine iCalE ?_) | (with_reducible refine iMet ?_) | (with_reducible refine iMak ?_) | (with_reducible refine iFld ?_) | (with_reducible refine iSto ?_) | (with_reducible refine iAugF ?_) | (with_reducible refine iBM ?_) | (with_reducible refine iRev1 ?_) | (with_reducible refine iRai ?_) | (with_reducible refine iPr ?_) | (with_reducible refine iPn ?_) | (with_reducible refine iIntB ?_) | (with_reducible refine iIsB ?_) | (with_reducible refine iNotBl ?_) | (with_reducible refine iDGet1 ?_) | (with_reducible refine iAndV ?_) | (with_reducible refine iOrV ?_) | (with_reducible refine iNotV ?_) | (with_reducible refine iAugS ?_) | (with_reducible refine iIpI ?_) | (with_reducible refine iSub ?_) | (with_reducible refine iLst ?_) | (with_reducible refine iTup ?_) | (with_reducible refine iIterL ?_) | (with_reducible refine iBreak ?_) | (with_reducible refine iCont ?_) | (with_reducible refine iEqB ?_) | (with_reducible refine iNeB ?_) | (with_reducible refine iEqS ?_) | (with_reducible refine iNeS ?_) | (with_reducible refine iLc ?_) | (with_reducible refine iYes ?_) | (with_reducible refine iDGet ?_) | (with_reducible refine iDIn ?_) | (with_reducible refine iDNotIn ?_) | (with_reducible refine iDPut ?_) | (with_reducible refine iRng2 ?_) | (with_reducible refine iZipK ?_) | (with_reducible refine iGCons ?_) | (with_reducible refine iGNil ?_) | (with_reducible refine iDEa ?_) | ((with_reducible apply iRngI); (· first | decide | omega); (· first | decide | omega)) | ((with_reducible apply iAugK); (· rfl)) | ((with_reducible apply iI); rotate_left; (· (first | (exact Or.inl ⟨by omega, by omega⟩) | (exact Or.inr ⟨by omega, by omega⟩) | (show (0:Int) < _; omega) | (show (0:Int) ≤ _; omega) | (exact ⟨by omega, by omega⟩) | (exact ⟨by decide, by decide, by decide⟩)))) | ((with_reducible apply iIxL); (· walk_at "look"); (· rfl)) | ((with_reducible apply iLenL); (· walk_at "look")) | ((with_reducible apply iSetL); (· walk_at "look"); (· rfl)) | ((with_reducible apply iIxT); (· walk_at "look"); (· rfl)) | ((with_reducible apply iIsi); (· first | exact tyN_int | exact tyN_bl | exact tyN_non | exact tyN_str | exact tyN_lst (by walk_at "look") | exact tyN_tup (by walk_at "look")); (· (first | exact kb_NoneType_bool | exact kb_NoneType_int | exact kb_NoneType_str | exact kb_NoneType_tuple | exact kb_NoneType_list | exact kb_bool_bool | exact kb_bool_int | exact kb_bool_str | exact kb_bool_tuple | exact kb_bool_list | exact kb_int_bool | exact kb_int_int | exact kb_int_str | exact kb_int_tuple | exact kb_int_list | exact kb_str_bool | exact kb_str_int | exact kb_str_str | exact kb_str_tuple | exact kb_str_list | exact kb_tuple_bool | exact kb_tuple_int | exact kb_tuple_str | exact kb_tuple_tuple | exact kb_tuple_list | exact kb_list_bool | exact kb_list_int | exact kb_list_str | exact kb_list_tuple | exact kb_list_list))) | ((with_reducible apply iLenT); (· walk_at "look")) | ((with_reducible apply iLenS); (· first | exact Or.inl (by walk_at "look") | exact Or.inr (by walk_at "look"))) | ((with_reducible apply ifT); (· rfl)) | ((with_reducible apply ifF); (· rfl)) | ((with_reducible apply ifT); (· apply decide_eq_true; omega)) | ((with_reducible apply ifF); (· apply decide_eq_false; omega)) | ((with_reducible apply ifNp); (· omega)) | ((with_reducible apply ifNn); (· omega)) | ((with_reducible apply iLcB); (· rfl)) | ((with_reducible apply iGTup); (· walk_at "look"); (· rfl)) | ((with_reducible apply iDIi); (· walk_at "look")) | ((with_reducible apply iDNi); (· walk_at "look")) | ((with_reducible apply iRng2I); (· omega); (· omega); (· omega); (· omega)) | ((with_reducible apply iItL); (· walk_at "look")) | ((with_reducible apply iZL); (· walk_at "look"); (· walk_at "look")))))
section
variable {P : Program} {w : World} {K : PySem.W.Frag} {mg : Str → Option Value} {base : Heap}
/-! ### the world as it should be -/
section
variable {C CP : Addr} {H F Rs : Hp} {L : DL → Addr} {D : DK} {d j : Nat} {p : Addr} {x : Sec} {Q : VK}
theorem j_pending (h : DAt C H F Rs L D) (hd : d < D.n) (q : Q (.int ((D.wait d).length : Nat)) H) : sp_pending C [.ref (L .obj), .int d] H Q E0 := ⟨F, Rs, L, D, d, rfl, h, hd, q⟩
theorem j_is_there (h : DAt C H F Rs L D) (hd : d < D.n) (q : Q (.bl (D.there d)) H) : sp_is_there C [.ref (L .obj), .int d] H Q E0 := ⟨F, Rs, L, D, d, rfl, h, hd, q⟩
theorem j_cell (h : DAt C H F Rs L D) (hd : d < D.n) (hj : j < D.m) (q : ∀ v H', Ex H H' → NewCell H H' v (D.cell d j) → Q v H') : sp_cell C [.ref (L .obj), .int d, .int j] H Q E0 := ⟨F, Rs, L, D, d, j, rfl, h, hd, hj, q⟩
theorem j_ask (h : DAt C H F Rs L D) (hd : d < D.n) (hj : j < D.m) (q : ∀ v H1 H', DAt C H1 F Rs L (D.ask d) → Ex H1 H' → NewCell H1 H' v (D.cell d j) → Q v H') : sp_ask C [.ref (L .obj), .int d, .int j] H Q E0 := ⟨F, Rs, L, D, d, j, rfl, h, hd, hj, q⟩
theorem j_counts (h : DAt C H F Rs L D) (q : ∀ p, H p = none → Q (.ref p) (upd H p (.tup [.int (D.reads : Nat), .int (D.writes : Nat), .int (D.syncs : Nat)]))) : sp_counts C [.ref (L .obj)] H Q E0 := ⟨F, Rs, L, D, rfl, h, q⟩
theorem j_is_on (h : DAt C H F Rs L D) (q : Q (.bl D.on) H) : sp_is_on C [.ref (L .obj)] H Q E0 := ⟨F, Rs, L, D, rfl, h, q⟩
theorem j_losses (h : DAt C H F Rs L D) (q : Q (.int (D.fails : Nat)) H) : sp_losses C [.ref (L .obj)] H Q E0 := ⟨F, Rs, L, D, rfl, h, q⟩
end
theorem atN_ints {H : Hp} {p : Addr} {ns : List Int} (h : H p = some (.lst (ns.map V.int))) (hl : ns.length ≤ 100000) : AtN 1 H (.ref p) (.lst (ns.map Dt.int)) := by
  refine ⟨p, _, rfl, h, by rw [List.length_map, List.length_map], by rw [List.length_map]; exact hl, fun i x d hx hd => ?_⟩
  rw [List.getElem?_map] at hx hd
  cases e : ns[i]? with
  | none => rw [e] at hx; cases hx
  | some n => rw [e] at hx hd; cases hx; cases hd; exact rfl
theorem atN_cell {H H' : Hp} {v : V} {o : Option Sec} (h : NewCell H H' v o) (hs : ∀ x, o = some x → IsSec x) (u : V) (hu : CellRep H' u o) : ∃ d, AtN 1 H' v d ∧ AtN 1 H' u d := by
  cases o with
  | none => exact ⟨.non, h, hu⟩
  | some x =>
    obtain ⟨p, -, rfl, hp⟩ := h
    obtain ⟨r, rfl, hr⟩ := hu
    obtain ⟨ns, rfl, l⟩ := hs x rfl
    exact ⟨_, atN_ints hp (by omega), atN_ints hr (by omega)⟩
theorem CellRep.to {H : Hp} {v : V} {o : Option Sec} (h : match o with | none => v = V.non | some xs => ∃ p, v = .ref p ∧ H p = some (.lst xs)) : CellRep H v o := by cases o <;> exact h
theorem AtN.ex {H H' : Hp} (e : Ex H H') : ∀ {n : Nat} {v : V} {d : Dt}, AtN n H v d → AtN n H' v d
  | n, v, .non, h => by rw [AtN.non_eq] at h ⊢; exact h
  | n, v, .bl b, h => by rw [AtN.bl_eq] at h ⊢; exact h
  | n, v, .int b, h => by rw [AtN.int_eq] at h ⊢; exact h
  | n, v, .str b, h => by rw [AtN.str_eq] at h ⊢; exact h
  | n + 1, v, .lst ds, h => by
    obtain ⟨p, xs, e1, h1, l, s, a⟩ := h
    exact ⟨p, xs, e1, e _ _ h1, l, s, fun i x d hx hd => (a i x d hx hd).ex e⟩
  | n + 1, v, .tup ds, h => by
    obtain ⟨p, xs, e1, h1, l, s, a⟩ := h
    exact ⟨p, xs, e1, e _ _ h1, l, s, fun i x d hx hd => (a i x d hx hd).ex e⟩
  | 0, v, .lst ds, h => h.elim
  | 0, v, .tup ds, h => h.elim
theorem NewCell.ex {H H1 H2 : Hp} {v : V} {o : Option Sec} (h : NewCell H H1 v o) (e : Ex H1 H2) : NewCell H H2 v o := by
  cases o with
  | none => exact h
  | some x => obtain ⟨p, a, b, c⟩ := h; exact ⟨p, a, b, e _ _ c⟩
def FewW (D : DK) (b : Nat) : Prop := ∀ d, d < D.n → (D.wait d).length ≤ b
def sp_right (C : Addr) : Sp := fun vs H Q _ => ∃ (F Rs R2 : Hp) (L : DL → Addr) (D : DK) (LM : WL → Addr) (W : WM), vs = [.ref (LM .obj), .ref (L .obj)] ∧ We C H F Rs R2 L D LM W ∧ RelW D W ∧ FewW D 80000 ∧ ∀ H', Ex H H' → Q (.bl true) H'
theorem ok_right {C : Addr} (M : Mg mg) (T : Tx_Disks K C) {f : Addr} {fd : FuncData} (F : Fun K "_law_is_right" "_law_is_right" s__law_is_right f fd) (c__law_same : Cal P w K mg base 2 "_law_same" ["actual", "expected"] (sp__law_same 2)) (c__law_cell : Cal P w K mg base 1 "_law_cell" ["world", "disk", "sector"] sp_lcell)
    (c_Disks_pending : MetX P w K mg base 1 C "pending" ["self", "disk"] (sp_pending C)) (c_Disks_is_there : MetX P w K mg base 1 C "is_there" ["self", "disk"] (sp_is_there C)) (c_Disks_cell : MetX P w K mg base 1 C "cell" ["self", "disk", "sector"] (sp_cell C)) (c_Disks_counts : MetX P w K mg base 1 C "counts" ["self"] (sp_counts C)) : FnOk P w K mg base CX0 3 f fd ["world", "disks"] (sp_right C) := by
  refine F.ok sc__law_is_right (fun vs H Q E h => ?_) (fun cdv A outer s H vs Q E hr h => ?_)
  · obtain ⟨F, Rs, R2, L, D, LM, W, rfl, _⟩ := h; rfl
  · obtain ⟨F, Rs, R2, L, D, LM, W, rfl, w0, R, fw, q⟩ := h
    obtain ⟨dx, szs, hO0, -⟩ := w0.d.obj
    obtain ⟨cm, cw, m⟩ := id w0.m
    have eR := w0.rs
    have n8 := m.n8
    have en := R.n
    have look : ∀ {H'}, Ex H H' → We C H' F Rs R2 L D LM W := fun e => w0.ex e
    have hOw := eR _ _ m.hO
    refine ⟨_, (pss_cons (ps_for PassesOwn.never rfl (pi_range1 (by rfl) M.n_range (pa_cons (pe_dget (hu_of hr) (pv 0) pe_str (fun _ _ => rfl)) pa_nil)) (pg_name (i := 2) sc__law_is_right.nd rfl (Or.inl rfl)) (pss_cons (ps_if (PW.pt (pw_or (pt_cmpR op_ne (pe_metE c_Disks_pending (hr.mono (by omega)) xp0 (pv 1) (pa_cons (pv 2) pa_nil)) (pe_callB len_l (by rfl) M.n_len PySem.boot_len (pa_cons (pe_ix ix_l (pe_dget (hu_of hr) (pv 0) pe_str (fun _ _ => rfl)) (pv 2) (fun _ _ => rfl)) pa_nil)) (nomark _)) (pw_or1 (pt_cmpR op_ne (pe_metE c_Disks_is_there (hr.mono (by omega)) xp0 (pv 1) (pa_cons (pv 2) pa_nil)) (pe_cmpR op_ninS (pv 2) (pe_dget (hu_of hr) (pv 0) pe_str (fun _ _ => rfl)) rfl) (nomark _))))) (pss_one (ps_ret pe_bl)) pss_nil) (pss_one (ps_for PassesOwn.never rfl (pi_l (pe_dget (hu_of hr) (pv 0) pe_str (fun _ _ => rfl))) (pg_name (i := 3) sc__law_is_right.nd rfl (Or.inl rfl)) (pss_one (ps_if (pt_not (pt_val (pe_cal c__law_same (hr.mono (by omega)) (by rfl) (pa_cons (pe_metE c_Disks_cell (hr.mono (by omega)) xp0 (pv 1) (pa_cons (pv 2) (pa_cons (pv 3) pa_nil))) (pa_cons (pe_cal c__law_cell (hr.mono (by omega)) (by rfl) (pa_cons (pv 0) (pa_cons (pv 2) (pa_cons (pv 3) pa_nil)))) pa_nil))))) (pss_one (ps_ret pe_bl)) pss_nil)))))) (pss_one (ps_ret (pe_cal c__law_same (hr.mono (by omega)) (by rfl) (pa_cons (pe_metE0 c_Disks_counts (hr.mono (by omega)) xp0 (pv 1)) (pa_cons (pe_callTy tup_l (by rfl) M.n_tuple (by decide +kernel) (pa_cons (pe_dget (hu_of hr) (pv 0) pe_str (fun _ _ => rfl)) pa_nil)) pa_nil)))))), ?_⟩
    refine iBody (by repeat constructor) ?_
    walk_at "go"
    refine iDGs hOw rfl ?_
    walk_at "go"
    refine forJ_range0 (fun d σ' H' => (∃ x y, σ' = [some (.ref (LM .obj)), some (.ref (L .obj)), x, y]) ∧ Ex H H') ⟨⟨_, _, rfl⟩, Ex.refl _⟩ (fun d σ' H' hd hp => ?_) (fun σ' H' hp => ?_)
    · rw [Int.toNat_natCast] at hd
      obtain ⟨⟨x1, x2, rfl⟩, e1⟩ := hp
      have w1 := w0.ex e1
      have hdD : d < D.n := by omega
      have hO1 := e1 _ _ hO0
      have hOw := w1.rs _ _ m.hO
      have hA := w1.rs _ _ m.hA
      have hWw := w1.rs _ _ m.hW
      have hSw := w1.rs _ _ m.hS
      have hw := w1.rs _ _ (m.hw hd)
      have lw := (m.wai d hd).len
      rw [R.wait d hdD] at lw
      walk_at "go"
      refine j_pending w1.d hdD ?_
      walk_at "go"
      refine iDGs hOw rfl ?_
      walk_at "go"
      refine iIxL hWw ((atI_natL _ _).trans (waiW_get hd)) ?_
      walk_at "go"
      refine j_is_there w1.d hdD ?_
      walk_at "go"
      refine iDGs hOw rfl ?_
      walk_at "go"
      refine iNinNat hA ?_
      rw [R.there d hdD]
      walk_at "go"
      refine ifF (by by_cases z : d ∈ W.aw <;> simp [z]) ?_
      walk_at "go"
      refine iDGs hOw rfl ?_
      walk_at "go"
      refine forJ_list (natL W.secs) (fun i σ' H'' => (∃ y, σ' = [some (.ref (LM .obj)), some (.ref (L .obj)), some (.int d), y]) ∧ Ex H H'') ⟨⟨_, rfl⟩, e1⟩ (fun i σ' H'' hi hp => (w0.ex hp.2).rs _ _ m.hS) (fun i x σ' H'' hx hp => ?_) (fun σ' H'' hp => ?_)
      · obtain ⟨⟨y1, rfl⟩, e2⟩ := hp
        obtain ⟨j, hj, rfl⟩ : ∃ j : Nat, j ∈ W.secs ∧ x = .int j := by
          unfold natL at hx
          rw [List.getElem?_map] at hx
          cases e : W.secs[i]? with
          | none => rw [e] at hx; cases hx
          | some j => rw [e] at hx; cases hx; exact ⟨j, List.mem_of_getElem? e, rfl⟩
        have jm : j < D.m := by rw [← R.m]; exact m.sm j hj
        have w2 := w0.ex e2
        have hO2 := e2 _ _ hO0
        walk_at "go"
        refine j_cell w2.d hdD jm fun v H3 e3 n3 => ?_
        have w3 := w2.ex e3
        walk_at "go"
        refine j_lcell w3.rs w3.d.fs w3.m hd (by rw [R.wait d hdD]; have := fw d hdD; omega) fun u H4 e4 c4 => ?_
        rw [R.cell hdD hj] at c4
        obtain ⟨dt, h1, h2⟩ := atN_cell (n3.ex e4) (R.sec hdD) u (c4.ex (w3.ex e4).d.fs)
        walk_at "go"
        refine ⟨_, _, dt, rfl, h1, h2, ?_⟩
        walk_at "go"
        exact ⟨⟨_, rfl⟩, (e2.trans e3).trans e4⟩
      · obtain ⟨⟨y1, rfl⟩, e2⟩ := hp
        walk_at "go"
        exact ⟨⟨_, _, rfl⟩, e2⟩
    · obtain ⟨⟨x1, x2, rfl⟩, e1⟩ := hp
      have w1 := w0.ex e1
      have hO1 := e1 _ _ hO0
      have hOw := w1.rs _ _ m.hO
      have hC := w1.rs _ _ m.hC
      rw [R.c0, R.c1, R.c2] at hC
      walk_at "go"
      refine j_counts w1.d fun p hp => ?_
      have nO : LM .obj ≠ p := ne_of_none hOw hp
      have nC : LM .counts ≠ p := ne_of_none hC hp
      walk_at "go"
      refine iDGs ((upd_ne nO).trans hOw) rfl ?_
      walk_at "go"
      refine iTupL ((upd_ne nC).trans hC) fun u hu => ?_
      have npu : p ≠ u := ne_of_none upd_same hu
      walk_at "go"
      have at3 : ∀ {H : Hp} {p : Addr} {a b c : Nat}, H p = some (.tup [.int (a : Nat), .int (b : Nat), .int (c : Nat)]) → AtN 1 H (.ref p) (.tup [.int (a : Nat), .int (b : Nat), .int (c : Nat)]) := fun {H p a b c} h => by
        refine ⟨p, _, rfl, h, rfl, by simp, fun i x d hx hd => ?_⟩
        have : i < 3 := (List.getElem?_eq_some_iff.mp hx).1
        have : i = 0 ∨ i = 1 ∨ i = 2 := by omega
        rcases this with rfl | rfl | rfl <;> cases hx <;> cases hd <;> exact rfl
      have t1 := at3 ((upd_ne (o := .tup [.int (D.reads : Nat), .int (D.writes : Nat), .int (D.syncs : Nat)]) npu).trans (upd_same (H := H') (a := p) (o := .tup [.int (D.reads : Nat), .int (D.writes : Nat), .int (D.syncs : Nat)])))
      have t2 := at3 (upd_same (H := upd H' p (.tup [.int (D.reads : Nat), .int (D.writes : Nat), .int (D.syncs : Nat)])) (a := u) (o := .tup [.int (D.reads : Nat), .int (D.writes : Nat), .int (D.syncs : Nat)]))
      exact ⟨_, _, _, rfl, t1, t2, q _ ((e1.trans (Evl.Ex.new hp)).trans (Evl.Ex.new hu))⟩
theorem j_right {C : Addr} {H F Rs R2 : Hp} {L : DL → Addr} {D : DK} {LM : WL → Addr} {W : WM} {Q : VK} {E : XK} (w : We C H F Rs R2 L D LM W) (R : RelW D W) (fw : FewW D 80000) (q : ∀ H', Ex H H' → Q (.bl true) H') : sp_right C [.ref (LM .obj), .ref (L .obj)] H Q E := ⟨F, Rs, R2, L, D, LM, W, rfl, w, R, fw, q⟩
/-! ### in the dark -/
def darkD (D : DK) : DK := if D.on = true then D.fail else D
theorem noneR {p : Addr} {R2 : Hp} {st : HO} {a : Addr} (h : R2 p = none) (n : p ≠ a) : (upd R2 a st) p = none := (upd_ne n).trans h
def sp_dark (C : Addr) : Sp := fun vs H Q _ => ∃ (F Rs R2 : Hp) (L : DL → Addr) (D : DK) (LM : WL → Addr) (W : WM) (a l : Addr), vs = [.ref a, .ref (L .obj)] ∧ We C H F Rs R2 L D LM W ∧ DrawAt R2 a l ∧ 4 ≤ D.n ∧ 48 ≤ D.m ∧ FewW D 80000 ∧ (D.on = true → D.left = some 0) ∧ (D.on = false → D.inuse = false) ∧
  ∀ H' Rs' st, We C H' F Rs' (upd R2 a st) L (darkD D) LM W → DrawAt (upd R2 a st) a l → Q (.bl true) H'
theorem ok_dark {C CP : Addr} (M : Mg mg) (T : Tx_Disks K C) (e_PowerOff : ExT K mg "PowerOff" CP) {f : Addr} {fd : FuncData} (F : Fun K "_law_dark" "_law_dark" s__law_dark f fd) (c__law_next : Cal P w K mg base 1 "_law_next" ["state", "limit"] sp__law_next)
    (c_Disks_write : MetX P w K mg base 3 C "write" ["self", "disk", "sector", "data"] (sp_write C CP)) (c_Disks_sync : MetX P w K mg base 3 C "sync" ["self"] (sp_sync C CP)) (c_Disks_fail_after : MetX P w K mg base 1 C "fail_after" ["self", "operations"] (sp_fail_after C CP)) (c_Disks_is_on : MetX P w K mg base 1 C "is_on" ["self"] (sp_is_on C)) : FnOk P w K mg base CX0 4 f fd ["state", "disks"] (sp_dark C) := by
  refine F.ok sc__law_dark (fun vs H Q E h => ?_) (fun cdv A outer s H vs Q E hr h => ?_)
  · obtain ⟨F, Rs, R2, L, D, LM, W, a, l, rfl, _⟩ := h; rfl
  · obtain ⟨F, Rs, R2, L, D, LM, W, a, l, rfl, w0, dr, n0, m0, fw, onl, offi, q⟩ := h
    refine ⟨_, (pss_cons (ps_set (i := 2) sc__law_dark.nd rfl (Or.inl rfl) pe_int) (pss_cons (ps_for PassesOwn.never rfl (pi_range1 (by rfl) M.n_range (pa_cons pe_int pa_nil)) (pg_name (i := 3) sc__law_dark.nd rfl (Or.inl rfl)) (pss_one (ps_try_only rfl rfl ⟨rfl, by decide, .inl e_PowerOff.g⟩ takes0 (fun W pn xe tk po => (pss_one (ps_if (pt_cmpR op_eq (pv 3) pe_int (nomark _)) (pss_one (ps_expr (pe_metE c_Disks_write (hr.mono (by omega)) (fun σ => passAt tk σ) (pv 1) (pa_cons (pe_cal c__law_next (hr.mono (by omega)) (by rfl) (pa_cons (pv 0) (pa_cons pe_int pa_nil))) (pa_cons pe_int (pa_cons (pe_op op_rep (pe_lst (pa_cons pe_int pa_nil)) pe_int) pa_nil)))))) (pss_one (ps_if (pt_cmpR op_eq (pv 3) pe_int (nomark _)) (pss_one (ps_expr (pe_metE0 c_Disks_sync (hr.mono (by omega)) (fun σ => passAt tk σ) (pv 1)))) (pss_one (ps_expr (pe_metE c_Disks_fail_after (hr.mono (by omega)) (fun σ => passAt tk σ) (pv 1) (pa_cons (pe_cal c__law_next (hr.mono (by omega)) (by rfl) (pa_cons (pv 0) (pa_cons pe_int pa_nil))) pa_nil))))))))) (fun a oe cls d pn hz hf => (pss_one (ps_aug (i := 2) sc__law_dark.nd rfl (Or.inl rfl) pe_int ip_add)))))) (pss_one (ps_ret (pe_and (pe_cmpR op_eq (pv 2) pe_int (nomark _)) (pe_and (pe_cmpR op_isBl (pe_metE0 c_Disks_is_on (hr.mono (by omega)) xp0 (pv 1)) pe_bl (nomark _)) (pe_one (pe_cmpR op_isBl (pe_fld (pv 1) rfl) pe_bl (nomark _))))))))), ?_⟩
    refine iBody (by repeat constructor) ?_
    walk_at "go"
    obtain ⟨ns, ii, rr, qq, ha, -⟩ := id dr
    refine forJ_range0 (fun i σ' H' => (∃ x, σ' = [some (.ref a), some (.ref (L .obj)), some (.int (i : Nat)), x]) ∧ ∃ Rs' st D', We C H' F Rs' (upd R2 a st) L D' LM W ∧ DrawAt (upd R2 a st) a l ∧ (i = 0 → D' = D) ∧ (0 < i → D' = darkD D)) ⟨⟨_, rfl⟩, Rs, _, D, (upd_id ha).symm ▸ w0, (upd_id ha).symm ▸ dr, fun _ => rfl, fun z => absurd z (by omega)⟩ (fun i σ' H' hi hp => ?_) (fun σ' H' hp => ?_)
    · obtain ⟨⟨x, rfl⟩, Rs', st, D', w1, dr1, d0, d1⟩ := hp
      have hi : i < 3 := hi
      have dn : (darkD D).n = D.n := by unfold darkD; split <;> rfl
      have dm : (darkD D).m = D.m := by unfold darkD; split <;> rfl
      have don : (darkD D).on = false := by
        unfold darkD
        split
        · rfl
        · rename_i z; exact (Bool.not_eq_true _).mp z
      have hDn : D'.n = D.n := by rcases Nat.eq_zero_or_pos i with z | z; (· rw [d0 z]); (· rw [d1 z, dn])
      walk_at "go"
      refine ifD (fun k0 => ?_) (fun k0 => ?_)
      · have i0 : i = 0 := by omega
        subst i0
        have e1 := d0 rfl
        subst e1
        obtain ⟨dx, szs, hO, -⟩ := w1.d.obj
        walk_at "go"
        refine j_nextW w1 dr1 (by decide) (by decide) fun v H2 Rs2 st2 hv w2 dr2 => ?_
        rw [upd_upd] at w2 dr2
        walk_at "go"
        refine iNewL (by simp) fun t1 ht1 => ?_
        walk_at "go"
        refine iRep upd_same (by omega) (by omega) (by simp) fun t2 ht2 => ?_
        have w3 := (w2.ex (Evl.Ex.new (o := .lst [.int 1]) ht1)).new2 (o := .lst (List.replicate (Int.toNat 32) [V.int 1]).flatten) ht2
        have hr2 : (upd R2 a st2) t2 = none := Evl.fresh_back (w2.ex (Evl.Ex.new (o := .lst [.int 1]) ht1)).r2h ht2
        walk_at "go"
        refine ⟨F, _, L, D', v, 0, t2, _, rfl, w3.d, by omega, by omega, upd_same, by have := fw v (by omega); omega, fun on => ?_, fun on lf H3 D3 => ?_, fun on lf => absurd (onl on) lf⟩
        · refine iOnly e_PowerOff fun ex hex => ?_
          walk_at "go"
          exact ⟨⟨_, rfl⟩, _, st2, D', w3.weak2 (Evl.Ex.new hr2), dr2, fun z => absurd z (by omega), fun _ => by unfold darkD; rw [on]; rfl⟩
        · refine iOnly e_PowerOff fun ex hex => ?_
          walk_at "go"
          exact ⟨⟨_, rfl⟩, _, st2, D'.fail, (w3.step (Ex.refl _) D3).weak2 (Evl.Ex.new hr2), dr2, fun z => absurd z (by omega), fun _ => by unfold darkD; rw [on]; rfl⟩
      · have e1 := d1 (by omega)
        subst e1
        obtain ⟨dx, szs, hO, -⟩ := w1.d.obj
        walk_at "go"
        refine ifD (fun k1 => ?_) (fun k1 => ?_)
        · walk_at "go"
          have fw' : ∀ d, d < (darkD D).n → ((darkD D).wait d).length < 90000 := fun d hd => by
            have : (darkD D).wait d = D.wait d := by unfold darkD; split <;> rfl
            rw [this]
            have := fw d (dn ▸ hd)
            omega
          refine ⟨F, _, L, darkD D, rfl, w1.d, fw', fun on => ?_, fun on => absurd on (by rw [don]; decide), fun on => absurd on (by rw [don]; decide)⟩
          refine iOnly e_PowerOff fun ex hex => ?_
          walk_at "go"
          exact ⟨⟨_, rfl⟩, _, st, darkD D, w1, dr1, fun z => absurd z (by omega), fun _ => rfl⟩
        · walk_at "go"
          refine j_nextW w1 dr1 (by decide) (by decide) fun v H2 Rs2 st2 hv w2 dr2 => ?_
          rw [upd_upd] at w2 dr2
          walk_at "go"
          refine ⟨F, _, L, darkD D, v, rfl, w2.d, fun on => ?_, fun on => absurd on (by rw [don]; decide)⟩
          refine iOnly e_PowerOff fun ex hex => ?_
          walk_at "go"
          exact ⟨⟨_, rfl⟩, _, st2, darkD D, w2, dr2, fun z => absurd z (by omega), fun _ => rfl⟩
    · obtain ⟨⟨x, rfl⟩, Rs', st, D', w1, dr1, d0, d1⟩ := hp
      have e1 := d1 (by decide)
      subst e1
      have don : (darkD D).on = false := by
        unfold darkD
        split
        · rfl
        · rename_i z; exact (Bool.not_eq_true _).mp z
      have din : (darkD D).inuse = false := by
        unfold darkD
        split
        · rfl
        · rename_i z; exact offi ((Bool.not_eq_true _).mp z)
      obtain ⟨dx, szs, hO, -⟩ := w1.d.obj
      walk_at "go"
      refine j_is_on w1.d ?_
      rw [don]
      walk_at "go"
      rw [din]
      walk_at "go"
      exact q _ _ st w1 dr1
theorem j_dark {C : Addr} {H F Rs R2 : Hp} {L : DL → Addr} {D : DK} {LM : WL → Addr} {W : WM} {a l : Addr} {Q : VK} {E : XK} (w : We C H F Rs R2 L D LM W) (dr : DrawAt R2 a l) (n0 : 4 ≤ D.n) (m0 : 48 ≤ D.m) (fw : FewW D 80000) (h1 : D.on = true → D.left = some 0) (h2 : D.on = false → D.inuse = false)
    (q : ∀ H' Rs' st, We C H' F Rs' (upd R2 a st) L (darkD D) LM W → DrawAt (upd R2 a st) a l → Q (.bl true) H') : sp_dark C [.ref a, .ref (L .obj)] H Q E := ⟨F, Rs, R2, L, D, LM, W, a, l, rfl, w, dr, n0, m0, fw, h1, h2, q⟩
/-! ### a write -/
theorem secs_get {W : WM} (sl : W.secs.length = 4) {v : Nat} (hv : v < 4) : ∃ j, j ∈ W.secs ∧ (natL W.secs)[v]? = some (.int (j : Nat)) := by
  refine ⟨W.secs[v]'(by omega), List.getElem_mem _, ?_⟩
  unfold natL
  rw [List.getElem?_map, List.getElem?_eq_getElem (by omega)]
  rfl
def sp_lwrite (C : Addr) : Sp := fun vs H Q _ => ∃ (F Rs R2 : Hp) (L : DL → Addr) (D : DK) (LM : WL → Addr) (W : WM) (a l : Addr) (b : Nat), vs = [.ref a, .ref (LM .obj), .ref (L .obj)] ∧ We C H F Rs R2 L D LM W ∧ DrawAt R2 a l ∧ RelW D W ∧ FewW D b ∧ b < 70000 ∧ D.on = true ∧ D.left ≠ some 0 ∧
  ∀ H' F' Rs' st D' W', Ex F F' → We C H' F' Rs' (upd R2 a st) L D' LM W' → DrawAt (upd R2 a st) a l → RelW D' W' → FewW D' (b + 1) → D'.on = true → D'.left = D.left.map (· - 1) → D'.n = D.n → D'.m = D.m → D'.fails = D.fails → D'.inuse = D.inuse → W'.secs = W.secs → W'.sz = W.sz → W'.aw = W.aw → Q .non H'
theorem ok_lwrite {C CP : Addr} (M : Mg mg) (T : Tx_Disks K C) {f : Addr} {fd : FuncData} (F : Fun K "_law_write" "_law_write" s__law_write f fd) (c__law_next : Cal P w K mg base 1 "_law_next" ["state", "limit"] sp__law_next) (c__law_sector : Cal P w K mg base 2 "_law_sector" ["state"] sp_sector)
    (c_Disks_write : MetX P w K mg base 3 C "write" ["self", "disk", "sector", "data"] (sp_write C CP)) : FnOk P w K mg base CX0 4 f fd ["state", "world", "disks"] (sp_lwrite C) := by
  refine F.ok sc__law_write (fun vs H Q E h => ?_) (fun cdv A outer s H vs Q E hr h => ?_)
  · obtain ⟨F, Rs, R2, L, D, LM, W, a, l, b, rfl, _⟩ := h; rfl
  · obtain ⟨F, Rs, R2, L, D, LM, W, a, l, b, rfl, w0, dr0, R, fw, hb, on, lf, q⟩ := h
    obtain ⟨cm, cw, m⟩ := id w0.m
    have n8 := m.n8
    have n0 := R.n0
    have en := R.n
    have hO0 := w0.rs _ _ m.hO
    refine ⟨_, (pss_cons (ps_set (i := 3) sc__law_write.nd rfl (Or.inl rfl) (pe_cal c__law_next (hr.mono (by omega)) (by rfl) (pa_cons (pv 0) (pa_cons (pe_dget (hu_of hr) (pv 1) pe_str (fun _ _ => rfl)) pa_nil)))) (pss_cons (ps_set (i := 4) sc__law_write.nd rfl (Or.inl rfl) (pe_ix ix_l (pe_dget (hu_of hr) (pv 1) pe_str (fun _ _ => rfl)) (pe_cal c__law_next (hr.mono (by omega)) (by rfl) (pa_cons (pv 0) (pa_cons pe_int pa_nil))) (fun _ _ => rfl))) (pss_cons (ps_set (i := 5) sc__law_write.nd rfl (Or.inl rfl) (pe_cal c__law_sector (hr.mono (by omega)) (by rfl) (pa_cons (pv 0) pa_nil))) (pss_cons (ps_expr (pe_metE c_Disks_write (hr.mono (by omega)) xp0 (pv 2) (pa_cons (pv 3) (pa_cons (pv 4) (pa_cons (pe_callTy list_l (by rfl) M.n_list (by decide +kernel) (pa_cons (pv 5) pa_nil)) pa_nil))))) (pss_one (ps_if (pt_cmpR op_ninS (pv 3) (pe_dget (hu_of hr) (pv 1) pe_str (fun _ _ => rfl)) rfl) (pss_cons (ps_expr (pe_bmE PySem.F.slot_list_append PySem.F.type_list_append mt_append (pe_ix ix_l (pe_dget (hu_of hr) (pv 1) pe_str (fun _ _ => rfl)) (pv 3) (fun _ _ => rfl)) (pa_cons (pe_tup (pa_cons (pv 4) (pa_cons (pv 5) pa_nil))) pa_nil))) (pss_one (ps_augS (pe_dget (hu_of hr) (pv 1) pe_str (fun _ _ => rfl)) pe_int get_l pe_int ip_add set_list))) pss_nil)))))), ?_⟩
    refine iBody (by repeat constructor) ?_
    walk_at "go"
    refine iDGs hO0 rfl ?_
    walk_at "go"
    refine j_nextW w0 dr0 (by omega) (by omega) fun d H1 Rs1 st1 hd w1 dr1 => ?_
    obtain ⟨cm1, cw1, m1⟩ := id w1.m
    have hO1 := w1.rs _ _ m1.hO
    have hS1 := w1.rs _ _ m1.hS
    have hd : d < W.n := by omega
    have hdD : d < D.n := by omega
    walk_at "go"
    refine iDGs hO1 rfl ?_
    walk_at "go"
    refine j_nextW w1 dr1 (by decide) (by decide) fun v H2 Rs2 st2 hv w2 dr2 => ?_
    rw [upd_upd] at w2 dr2
    obtain ⟨cm2, cw2, m2⟩ := id w2.m
    have hS2 := w2.rs _ _ m2.hS
    obtain ⟨j, hj, ej⟩ := secs_get m2.sl (show v < 4 by omega)
    refine iIxL hS2 ((atI_natL _ _).trans ej) ?_
    walk_at "go"
    refine j_sectorW w2 dr2 fun x p H3 Rs3 st3 hx w3 dr3 hp => ?_
    rw [upd_upd] at w3 dr3 hp
    have hp3 := w3.r2h _ _ upd_same
    obtain ⟨dx, szs, hO, -⟩ := w3.d.obj
    walk_at "go"
    refine iListL hp3 fun u hu => ?_
    have w4 := w3.new2 (o := .lst x) hu
    have hu3 := Evl.fresh_back w3.r2h hu
    walk_at "go"
    have jm : j < D.m := by rw [← R.m]; exact m.sm j hj
    have zz : (D.wait d).length < 90000 := by have := fw d hdD; omega
    refine ⟨F, _, L, D, d, j, u, x, rfl, w4.d, hdD, jm, upd_same, zz, fun z => (by rw [on] at z; cases z), fun _ z => absurd z lf, fun _ _ H5 F5 e5 D5 => ?_⟩
    have w5 := w4.step e5 D5
    have w5 := w5.weak2 (Evl.Ex.new hu3)
    obtain ⟨cm5, cw5, m5⟩ := id w5.m
    have hO5 := w5.rs _ _ m5.hO
    have hA5 := w5.rs _ _ m5.hA
    have hp5 := w5.r2h _ _ upd_same
    have R5 := R.write (d := d) (j := j) hdD hx hj
    have wD : (D.write d j x).n = D.n ∧ (D.write d j x).m = D.m ∧ (D.write d j x).on = D.on ∧ (D.write d j x).left = D.left.map (· - 1) ∧ (D.write d j x).fails = D.fails ∧ (D.write d j x).inuse = D.inuse := by unfold DK.write; split <;> exact ⟨rfl, rfl, rfl, rfl, rfl, rfl⟩
    have f5 : FewW (D.write d j x) (b + 1) := fun e he => by
      have := fw e (wD.1 ▸ he)
      unfold DK.write
      split
      · show (if e = d then _ else _ : List (Nat × Sec)).length ≤ _
        split
        · rw [List.length_append]; exact Nat.succ_le_succ this
        · exact Nat.le_succ_of_le this
      · exact Nat.le_succ_of_le this
    walk_at "go"
    refine iDGs hO5 rfl ?_
    walk_at "go"
    refine iNinNat hA5 ?_
    by_cases ha : d ∈ W.aw
    · rw [if_pos ha] at R5
      rw [decide_eq_true ha]
      walk_at "go"
      exact q _ F5 _ st3 _ _ e5 (w5.weak2 (Evl.Ex.new hp)) dr3 R5 f5 (wD.2.2.1.trans on) wD.2.2.2.1 wD.1 wD.2.1 wD.2.2.2.2.1 wD.2.2.2.2.2 rfl rfl rfl
    · rw [if_neg ha] at R5
      rw [decide_eq_false ha]
      have hW5 := w5.rs _ _ m5.hW
      have hw5 := w5.rs _ _ (m5.hw hd)
      have lw5 := (m5.wai d hd).len
      walk_at "go"
      refine iDGs hO5 rfl ?_
      walk_at "go"
      refine iIxL hW5 ((atI_natL _ _).trans (waiW_get hd)) ?_
      refine iBMv hw5 ?_
      walk_at "go"
      refine iNewT (by simp) fun t ht => ?_
      -- the data joins what is frozen
      have w6 : We C H5 (upd F5 p (.lst x)) _ (upd R2 a st3) L (D.write d j x) LM W := w5.thaw hp5 hp upd_same (Evl.Ex.new hp)
      have w7 := w6.newF (o := .tup [.int (j : Nat), .ref p]) ht
      have hne : t ≠ p := fun z => by rw [z, hp5] at ht; cases ht
      obtain ⟨cm7, cw7, m7⟩ := id w7.m
      have eqw : cw7 d = cw5 d := by
        have a1 := w7.rs _ _ (m7.hw (d := d) hd)
        have a2 := (Evl.Ex.new (o := .tup [.int (j : Nat), .ref p]) ht) _ _ hw5
        rw [a1] at a2
        injection a2 with a3
        injection a3
      have hw7 := w7.rs _ _ (m7.hw hd)
      rw [eqw] at hw7
      walk_at "go"
      refine iApp hw7 (by rw [lw5, R.wait d hdD]; omega) ?_
      have m8 := m7.addWait (d := d) (j := j) (x := x) hd (m7.sm j hj) upd_same ((upd_ne hne.symm).trans upd_same)
      have D8 := w7.d.put (o' := .lst (cw5 d ++ [V.ref t])) (eqw ▸ m7.hw (d := d) hd)
      rw [eqw] at m8
      generalize (upd _ (LM (.wai d)) _) = H8 at D8 ⊢
      generalize (upd _ (LM (.wai d)) _) = Rs8 at D8 m8
      have w8 : We C H8 _ Rs8 (upd R2 a st3) L (D.write d j x) LM _ := ⟨D8, m8.at_⟩
      have hO8 := w8.rs _ _ m8.hO
      have hC8 := w8.rs _ _ m8.hC
      walk_at "go"
      refine iDGs hO8 rfl ?_
      walk_at "go"
      have m9 := m8.setCounts (a := W.c0) (b := W.c1 + 1) (c := W.c2)
      have g1 : F5 p = none := w5.fnone upd_same
      have g2 := Evl.fresh_back w6.d.fs ht
      exact q _ _ _ st3 _ _ ((e5.trans (ex_new g1)).trans (ex_new g2)) ⟨w8.d.put m8.hC, m9.at_⟩ dr3 R5 f5 (wD.2.2.1.trans on) wD.2.2.2.1 wD.1 wD.2.1 wD.2.2.2.2.1 wD.2.2.2.2.2 rfl rfl rfl
theorem j_lwrite {C : Addr} {H F Rs R2 : Hp} {L : DL → Addr} {D : DK} {LM : WL → Addr} {W : WM} {a l : Addr} {b : Nat} {Q : VK} {E : XK} (w : We C H F Rs R2 L D LM W) (dr : DrawAt R2 a l) (R : RelW D W) (fw : FewW D b) (hb : b < 70000) (on : D.on = true) (lf : D.left ≠ some 0)
    (q : ∀ H' F' Rs' st D' W', Ex F F' → We C H' F' Rs' (upd R2 a st) L D' LM W' → DrawAt (upd R2 a st) a l → RelW D' W' → FewW D' (b + 1) → D'.on = true → D'.left = D.left.map (· - 1) → D'.n = D.n → D'.m = D.m → D'.fails = D.fails → D'.inuse = D.inuse → W'.secs = W.secs → W'.sz = W.sz → W'.aw = W.aw → Q .non H') : sp_lwrite C [.ref a, .ref (LM .obj), .ref (L .obj)] H Q E :=
  ⟨F, Rs, R2, L, D, LM, W, a, l, b, rfl, w, dr, R, fw, hb, on, lf, q⟩
/-! ### a fault -/
theorem natL_snoc {a : List Nat} {d : Nat} : natL a ++ [V.int (d : Nat)] = natL (a ++ [d]) := by unfold natL; rw [List.map_append]; rfl
structure SameD (D' D : DK) : Prop where
  on : D'.on = D.on
  left : D'.left = D.left
  n : D'.n = D.n
  m : D'.m = D.m
  fails : D'.fails = D.fails
  inuse : D'.inuse = D.inuse
def sp_lfault (C : Addr) : Sp := fun vs H Q _ => ∃ (F Rs R2 : Hp) (L : DL → Addr) (D : DK) (LM : WL → Addr) (W : WM) (a l : Addr) (b : Nat), vs = [.ref a, .ref (LM .obj), .ref (L .obj)] ∧ We C H F Rs R2 L D LM W ∧ DrawAt R2 a l ∧ RelW D W ∧ FewW D b ∧ b < 70000 ∧ W.sz < 90000 ∧ W.aw.length < 90000 ∧
  ∀ H' F' Rs' st L' D' LM' W', Ex F F' → We C H' F' Rs' (upd R2 a st) L' D' LM' W' → DrawAt (upd R2 a st) a l → RelW D' W' → FewW D' b → SameD D' D → L' .obj = L .obj → LM' .obj = LM .obj → W'.secs = W.secs → W'.sz ≤ W.sz + 1 → W'.aw.length ≤ W.aw.length + 1 → Q .non H'
theorem ok_lfault {C : Addr} (M : Mg mg) (T : Tx_Disks K C) {f : Addr} {fd : FuncData} (F : Fun K "_law_fault" "_law_fault" s__law_fault f fd) (c__law_next : Cal P w K mg base 1 "_law_next" ["state", "limit"] sp__law_next) (c__law_sector : Cal P w K mg base 2 "_law_sector" ["state"] sp_sector)
    (c_Disks_rot : MetX P w K mg base 1 C "rot" ["self", "disk", "sector", "data"] (sp_rot C)) (c_Disks_bad : MetX P w K mg base 1 C "bad" ["self", "disk", "sector"] (sp_bad C)) (c_Disks_away : MetX P w K mg base 2 C "away" ["self", "disk"] (sp_away C)) (c_Disks_blank : MetX P w K mg base 2 C "blank" ["self", "disk"] (sp_blank C)) : FnOk P w K mg base CX0 3 f fd ["state", "world", "disks"] (sp_lfault C) := by
  refine F.ok sc__law_fault (fun vs H Q E h => ?_) (fun cdv A outer s H vs Q E hr h => ?_)
  · obtain ⟨F, Rs, R2, L, D, LM, W, a, l, b, rfl, _⟩ := h; rfl
  · obtain ⟨F, Rs, R2, L, D, LM, W, a, l, b, rfl, w0, dr0, R, fw, hb, hz, haw, q⟩ := h
    obtain ⟨cm, cw, m⟩ := id w0.m
    have n8 := m.n8
    have n0 := R.n0
    have en := R.n
    have hO0 := w0.rs _ _ m.hO
    refine ⟨_, (pss_cons (ps_set (i := 3) sc__law_fault.nd rfl (Or.inr rfl) (pe_cal c__law_next (hr.mono (by omega)) (by rfl) (pa_cons (pv 0) (pa_cons (pe_dget (hu_of hr) (pv 1) pe_str (fun _ _ => rfl)) pa_nil)))) (pss_cons (ps_set (i := 4) sc__law_fault.nd rfl (Or.inl rfl) (pe_ix ix_l (pe_dget (hu_of hr) (pv 1) pe_str (fun _ _ => rfl)) (pe_cal c__law_next (hr.mono (by omega)) (by rfl) (pa_cons (pv 0) (pa_cons pe_int pa_nil))) (fun _ _ => rfl))) (pss_cons (ps_set (i := 5) sc__law_fault.nd rfl (Or.inl rfl) (pe_cal c__law_sector (hr.mono (by omega)) (by rfl) (pa_cons (pv 0) pa_nil))) (pss_cons (ps_set (i := 6) sc__law_fault.nd rfl (Or.inl rfl) (pe_cal c__law_next (hr.mono (by omega)) (by rfl) (pa_cons (pv 0) (pa_cons pe_int pa_nil)))) (pss_one (ps_if (pt_cmpR op_lt (pv 6) pe_int (nomark _)) (pss_cons (ps_expr (pe_metE c_Disks_rot (hr.mono (by omega)) xp0 (pv 2) (pa_cons (pv 3) (pa_cons (pv 4) (pa_cons (pe_callTy list_l (by rfl) M.n_list (by decide +kernel) (pa_cons (pv 5) pa_nil)) pa_nil))))) (pss_one (ps_if (pt_cmpR op_ninS (pv 3) (pe_dget (hu_of hr) (pv 1) pe_str (fun _ _ => rfl)) rfl) (pss_one (ps_dput (hu_of hr) (pe_ix ix_l (pe_dget (hu_of hr) (pv 1) pe_str (fun _ _ => rfl)) (pv 3) (fun _ _ => rfl)) (pv 4) (pv 5) rfl)) pss_nil))) (pss_one (ps_if (pt_cmpR op_eq (pv 6) pe_int (nomark _)) (pss_cons (ps_expr (pe_metE c_Disks_bad (hr.mono (by omega)) xp0 (pv 2) (pa_cons (pv 3) (pa_cons (pv 4) pa_nil)))) (pss_one (ps_dput (hu_of hr) (pe_ix ix_l (pe_dget (hu_of hr) (pv 1) pe_str (fun _ _ => rfl)) (pv 3) (fun _ _ => rfl)) (pv 4) pe_non rfl))) (pss_one (ps_if (pt_cmpR op_eq (pv 6) pe_int (nomark _)) (pss_cons (ps_expr (pe_metE c_Disks_away (hr.mono (by omega)) xp0 (pv 2) (pa_cons (pv 3) pa_nil))) (pss_cons (ps_dput (hu_of hr) (pv 1) pe_str (pe_op op_cat (pe_dget (hu_of hr) (pv 1) pe_str (fun _ _ => rfl)) (pe_lst (pa_cons (pv 3) pa_nil))) rfl) (pss_one (ps_asg (pe_lst pa_nil) (pg_sub (pe_dget (hu_of hr) (pv 1) pe_str (fun _ _ => rfl)) (pv 3) set_list))))) (pss_cons (ps_expr (pe_metE c_Disks_blank (hr.mono (by omega)) xp0 (pv 2) (pa_cons (pv 3) pa_nil))) (pss_cons (ps_dput (hu_of hr) (pv 1) pe_str (pe_lc (own := [("each", 7)]) (g := (gName 7)) (tt := _) (by rfl) sc__law_fault.nd (pi_l (pe_dget (hu_of hr) (pv 1) pe_str (fun _ _ => rfl))) (blkOk_by (own := [("each", 7)]) (N := ["state", "world", "disks", "disk", "sector", "data", "pick", "each"]) (sc := defScope s__law_fault) (by decide +kernel)) (fun _ _ _ _ _ => (pg_name (i := 7) sc__law_fault.nd rfl (Or.inl rfl))) (fun _ _ _ _ _ => (pts_one (pt_cmpR op_ne (pv 7) (pv 3) (nomark _)))) (fun _ _ _ _ _ => (pv 7))) rfl) (pss_cons (ps_asg (pe_lst pa_nil) (pg_sub (pe_dget (hu_of hr) (pv 1) pe_str (fun _ _ => rfl)) (pv 3) set_list)) (pss_one (ps_asg pe_dnewK (pg_sub (pe_dget (hu_of hr) (pv 1) pe_str (fun _ _ => rfl)) (pv 3) set_list)))))))))))))))), ?_⟩
    refine iBody (by repeat constructor) ?_
    walk_at "go"
    refine iDGs hO0 rfl ?_
    walk_at "go"
    refine j_nextW w0 dr0 (by omega) (by omega) fun d H1 Rs1 st1 hd w1 dr1 => ?_
    obtain ⟨cm1, cw1, m1⟩ := id w1.m
    have hO1 := w1.rs _ _ m1.hO
    have hd : d < W.n := by omega
    have hdD : d < D.n := by omega
    walk_at "go"
    refine iDGs hO1 rfl ?_
    walk_at "go"
    refine j_nextW w1 dr1 (by decide) (by decide) fun v H2 Rs2 st2 hv w2 dr2 => ?_
    rw [upd_upd] at w2 dr2
    obtain ⟨cm2, cw2, m2⟩ := id w2.m
    have hS2 := w2.rs _ _ m2.hS
    obtain ⟨j, hj, ej⟩ := secs_get m2.sl (show v < 4 by omega)
    have jm : j < D.m := by rw [← R.m]; exact m.sm j hj
    refine iIxL hS2 ((atI_natL _ _).trans ej) ?_
    walk_at "go"
    refine j_sectorW w2 dr2 fun x p H3 Rs3 st3 hx w3 dr3 hp => ?_
    rw [upd_upd] at w3 dr3 hp
    walk_at "go"
    obtain ⟨ns3, i3, r3, q3', ha3, -⟩ := id dr3
    have nap : a ≠ p := ne_of_none ha3 hp
    refine j_nextW w3 (dr3.exR (Evl.Ex.new hp)) (by decide) (by decide) fun pick H4 Rs4 st4 hpick w4 dr4 => ?_
    -- the data stands behind the state
    have e4 : upd (upd (upd R2 a st3) p (.lst x)) a st4 = upd (upd R2 a st4) p (.lst x) := by
      funext y
      by_cases y1 : y = a
      · subst y1; rw [upd_same, upd_ne nap, upd_same]
      · rw [upd_ne y1]
        by_cases y2 : y = p
        · subst y2; rw [upd_same, upd_same]
        · rw [upd_ne y2, upd_ne y2, upd_ne y1, upd_ne y1]
    rw [e4] at w4 dr4
    have hp : (upd R2 a st4) p = none := by rw [upd_ne nap.symm] at hp ⊢; exact hp
    have dr4 : DrawAt (upd R2 a st4) a l := by
      obtain ⟨ns, i, r, qq, ha, hl, k⟩ := dr4
      obtain ⟨ns', i', r', qq', ha', hl', k'⟩ := dr3
      refine ⟨ns, i, r, qq, ?_, ?_, k⟩
      · rw [upd_ne nap] at ha; exact ha
      · by_cases y : l = p
        · subst y
          have nla : l ≠ a := k'.1.symm
          rw [upd_ne nla] at hl' hp
          rw [hl'] at hp; cases hp
        · rw [upd_ne y] at hl; exact hl
    have wk := w4.weak2 (Evl.Ex.new hp)
    have hp4 := w4.r2h _ _ upd_same
    obtain ⟨dx, szs, hO, -⟩ := w4.d.obj
    clear w3 dr3 e4
    walk_at "go"
    refine ifD (fun k1 => ?_) (fun k1 => ?_)
    · walk_at "go"
      refine iListL hp4 fun u hu => ?_
      have w5 := w4.new2 (o := .lst x) hu
      have hu4 := Evl.fresh_back w4.r2h hu
      walk_at "go"
      refine ⟨F, _, L, D, d, j, u, x, rfl, w5.d, hdD, jm, upd_same, fun H6 F6 e6 D6 => ?_⟩
      have w6 := (w5.step e6 D6).weak2 (Evl.Ex.new hu4)
      obtain ⟨cm6, cw6, m6⟩ := id w6.m
      have hO6 := w6.rs _ _ m6.hO
      have hA6 := w6.rs _ _ m6.hA
      have R6 := R.rot (d := d) (j := j) hdD hx (W.sz + 1)
      have wD : SameD (D.rot d j x) D ∧ (D.rot d j x).wait = D.wait := by unfold DK.rot; split <;> exact ⟨⟨rfl, rfl, rfl, rfl, rfl, rfl⟩, rfl⟩
      have f6 : FewW (D.rot d j x) b := fun e he => by rw [wD.2]; exact fw e (wD.1.n ▸ he)
      walk_at "go"
      refine iDGs hO6 rfl ?_
      walk_at "go"
      refine iNinNat hA6 ?_
      by_cases ha : d ∈ W.aw
      · rw [if_pos ha] at R6
        rw [decide_eq_true ha]
        walk_at "go"
        exact q _ F6 _ st4 _ _ _ _ e6 (w6.weak2 (Evl.Ex.new hp)) dr4 R6 f6 wD.1 rfl rfl rfl (Nat.le_succ _) (Nat.le_succ _)
      · rw [if_neg ha] at R6
        rw [decide_eq_false ha]
        have hp6 := w6.r2h _ _ upd_same
        have g1 : F6 p = none := w6.fnone upd_same
        have w7 : We C H6 (upd F6 p (.lst x)) _ (upd R2 a st4) L (D.rot d j x) LM W := w6.thaw hp6 hp upd_same (Evl.Ex.new hp)
        obtain ⟨cm7, cw7, m7⟩ := id w7.m
        have hO7 := w7.rs _ _ m7.hO
        have hM7 := w7.rs _ _ m7.hM
        have hm7 := w7.rs _ _ (m7.hm hd)
        walk_at "go"
        refine iDGs hO7 rfl ?_
        walk_at "go"
        refine iIxL hM7 ((atI_natL _ _).trans (medW_get hd)) ?_
        walk_at "go"
        refine iDPi hm7 (by have := (m7.med d hd).len; omega) ?_
        have m8 := m7.setMed (d := d) (j := j) (v := .ref p) (f := fun e i => if e = d ∧ i = j then some x else W.media e i) hd (by rw [if_pos ⟨rfl, rfl⟩]; exact ⟨p, rfl, upd_same⟩) (fun i hi => if_neg fun z => hi z.2) (fun e he => funext fun i => if_neg fun z => he z.1)
        exact q _ _ _ st4 _ _ _ _ (e6.trans (ex_new g1)) ⟨w7.d.put (m7.hm hd), m8.at_⟩ dr4 R6 f6 wD.1 rfl rfl rfl (Nat.le_refl _) (Nat.le_succ _)
    · walk_at "go"
      refine ifD (fun k2 => ?_) (fun k2 => ?_)
      · walk_at "go"
        refine ⟨F, _, L, D, d, j, rfl, wk.d, hdD, jm, fun H6 D6 => ?_⟩
        have w7 := wk.step (Ex.refl _) D6
        obtain ⟨cm7, cw7, m7⟩ := id w7.m
        have hO7 := w7.rs _ _ m7.hO
        have hM7 := w7.rs _ _ m7.hM
        have hm7 := w7.rs _ _ (m7.hm hd)
        walk_at "go"
        refine iDGs hO7 rfl ?_
        walk_at "go"
        refine iIxL hM7 ((atI_natL _ _).trans (medW_get hd)) ?_
        walk_at "go"
        refine iDPi hm7 (by have := (m7.med d hd).len; omega) ?_
        have m8 := m7.setMed (d := d) (j := j) (v := .non) (f := fun e i => if e = d ∧ i = j then none else W.media e i) hd (by rw [if_pos ⟨rfl, rfl⟩]; exact rfl) (fun i hi => if_neg fun z => hi z.2) (fun e he => funext fun i => if_neg fun z => he z.1)
        exact q _ F _ st4 _ _ _ _ (Ex.refl _) ⟨w7.d.put (m7.hm hd), m8.at_⟩ dr4 (R.bad (W.sz + 1)) fw ⟨rfl, rfl, rfl, rfl, rfl, rfl⟩ rfl rfl rfl (Nat.le_refl _) (Nat.le_succ _)
      · walk_at "go"
        have nw : FewW (D.empty d) b := fun e he => by
          show (if e = d then [] else D.wait e : List (Nat × Sec)).length ≤ b
          split
          · exact Nat.zero_le _
          · exact fw e he
        refine ifD (fun k3 => ?_) (fun k3 => ?_)
        · walk_at "go"
          refine ⟨F, _, L, D, d, rfl, wk.d, hdD, fun H6 L6 el6 D6 => ?_⟩
          have w7 := wk.step (Ex.refl _) D6
          obtain ⟨cm7, cw7, m7⟩ := id w7.m
          have hO7 := w7.rs _ _ m7.hO
          have hA7 := w7.rs _ _ m7.hA
          walk_at "go"
          refine iDGs hO7 rfl ?_
          walk_at "go"
          refine iNewL (by simp) fun t ht => ?_
          walk_at "go"
          have nAt : LM .away ≠ t := ne_of_none hA7 ht
          refine iCat ((upd_ne nAt).trans hA7) upd_same (by unfold natL; rw [List.length_map]; simp; omega) fun u hu => ?_
          rw [natL_snoc]
          have w8 := w7.ex (Evl.Ex.new (o := .lst [.int (d : Nat)]) ht)
          have hu' := Evl.fresh_back w8.rs hu
          have m9 := m7.newAway (a := W.aw ++ [d]) hu'
          have nOu : LM .obj ≠ u := ne_of_none m7.hO hu'
          walk_at "go"
          refine iDPs ((upd_ne nOu).trans (w8.rs _ _ m7.hO)) (by unfold modW; simp) ?_
          have D9 := (w8.d.newR (o := .lst (natL (W.aw ++ [d]))) hu).put (o' := .dK (putK (modW LM W.n) (.inr "away") (.ref u))) ((upd_ne nOu).trans m7.hO)
          have elm : chg LM .away u .obj = LM .obj := chg_ne (by intro z; cases z)
          generalize chg LM .away u = LM9 at m9 elm
          generalize upd (upd (upd H6 t _) u _) (LM .obj) _ = H9 at D9 ⊢
          generalize upd (upd _ u _) (LM .obj) _ = Rs9 at D9 m9
          have w9 : We C H9 F Rs9 (upd R2 a st4) L6 (D.away d) LM9 _ := ⟨D9, m9.at_⟩
          have hO9 := w9.rs _ _ m9.hO
          have hW9 := w9.rs _ _ m9.hW
          rw [elm] at hO9
          walk_at "go"
          refine iNewL (by simp) fun z hz9 => ?_
          have hz' := Evl.fresh_back w9.rs hz9
          have m10 := m9.newWait (d := d) hd hz'
          have fr := m9.own.free hz'
          have nOz : LM .obj ≠ z := elm ▸ fr.2.2 .obj trivial
          walk_at "go"
          refine iDGs ((upd_ne nOz).trans hO9) rfl ?_
          walk_at "go"
          refine iSetL ((upd_ne (fr.2.2 .wait trivial)).trans hW9) (k := d) (by rw [ixN_natL, waiW_len]; exact if_pos hd) ?_
          exact q _ F _ st4 _ _ _ _ (Ex.refl _) ⟨(w9.d.newR hz9).put ((upd_ne (fr.2.2 .wait trivial)).trans m9.hW), m10.at_⟩ dr4 R.away nw ⟨rfl, rfl, rfl, rfl, rfl, rfl⟩ el6 ((chg_ne (by intro y; cases y)).trans elm) rfl (Nat.le_succ _) (by show (W.aw ++ [d]).length ≤ _; rw [List.length_append]; exact Nat.le_refl _)
        · walk_at "go"
          refine ⟨F, _, L, D, d, rfl, wk.d, hdD, fun H6 L6 el6 D6 => ?_⟩
          have w7 := wk.step (Ex.refl _) D6
          obtain ⟨cm7, cw7, m7⟩ := id w7.m
          have hO7 := w7.rs _ _ m7.hO
          have hA7 := w7.rs _ _ m7.hA
          walk_at "go"
          refine iDGs hO7 rfl ?_
          walk_at "go"
          refine lcR_l (natL W.aw) (fun i acc _ => acc = natL ((W.aw.take i).filter fun e => decide (e ≠ d))) (by repeat constructor) hA7 (fun _ _ _ _ _ h => h) rfl (fun D' i acc y H' hD hy hacc hl e hp' => ?_) (fun D' acc H' hD e hacc hp' => ?_)
          · obtain ⟨g, hg, rfl⟩ : ∃ g, W.aw[i]? = some g ∧ y = V.int (g : Nat) := by
              unfold natL at hy
              rw [List.getElem?_map] at hy
              cases eg : W.aw[i]? with
              | none => rw [eg] at hy; cases hy
              | some g => rw [eg] at hy; cases hy; exact ⟨g, rfl, rfl⟩
            have hig : i < W.aw.length := (List.getElem?_eq_some_iff.mp hg).1
            have et : W.aw.take (i + 1) = W.aw.take i ++ [g] := by rw [List.take_succ, hg]; rfl
            have hp' : acc = natL ((W.aw.take i).filter fun e => decide (e ≠ d)) := hp'
            walk_at "go"
            refine ifND (fun h1 => ?_) (fun h1 => ?_)
            · walk_at "go"
              refine iLcR hD (by omega) hl e hacc ?_
              rw [et, List.filter_append, List.filter_cons, if_pos (decide_eq_true (show g ≠ d by omega)), hp', natL_snoc]
              rfl
            · walk_at "go"
              refine iLcN hacc hl ⟨e, ?_⟩
              show acc = natL ((W.aw.take (i + 1)).filter fun e => decide (e ≠ d))
              rw [et, List.filter_append, List.filter_cons, if_neg (by rw [decide_eq_true_iff]; omega), hp']
              simp
          · have hp' : acc = natL ((W.aw.take (natL W.aw).length).filter fun e => decide (e ≠ d)) := hp'
            rw [show (natL W.aw).length = W.aw.length by unfold natL; rw [List.length_map], List.take_length] at hp'
            subst hp'
            have hD' := Evl.fresh_back w7.rs hD
            have m9 := m7.newAway (a := W.aw.filter fun e => decide (e ≠ d)) hD'
            have nOu : LM .obj ≠ D' := ne_of_none m7.hO hD'
            walk_at "go"
            refine iDPs (e _ _ hO7) (by unfold modW; simp) ?_
            have D9 := (w7.d.join e hD hacc).put (o' := .dK (putK (modW LM W.n) (.inr "away") (.ref D'))) ((upd_ne nOu).trans m7.hO)
            have elm : chg LM .away D' .obj = LM .obj := chg_ne (by intro z; cases z)
            generalize chg LM .away D' = LM9 at m9 elm
            generalize upd H' (LM .obj) _ = H9 at D9 ⊢
            generalize upd (upd _ D' _) (LM .obj) _ = Rs9 at D9 m9
            have w9 : We C H9 F Rs9 (upd R2 a st4) L6 (D.blank d) LM9 _ := ⟨D9, m9.at_⟩
            have hO9 := w9.rs _ _ m9.hO
            have hW9 := w9.rs _ _ m9.hW
            rw [elm] at hO9
            walk_at "go"
            refine iNewL (by simp) fun z hz9 => ?_
            have hz' := Evl.fresh_back w9.rs hz9
            have m10 := m9.newWait (d := d) hd hz'
            have fr := m9.own.free hz'
            have nOz : LM .obj ≠ z := elm ▸ fr.2.2 .obj trivial
            walk_at "go"
            refine iDGs ((upd_ne nOz).trans hO9) rfl ?_
            walk_at "go"
            refine iSetL ((upd_ne (fr.2.2 .wait trivial)).trans hW9) (k := d) (by rw [ixN_natL, waiW_len]; exact if_pos hd) ?_
            have D10 := (w9.d.newR (o := .lst []) hz9).put (o' := .lst ((waiW LM9 W.n).set d (.ref z))) ((upd_ne (fr.2.2 .wait trivial)).trans m9.hW)
            have elm10 : chg LM9 (.wai d) z .obj = LM .obj := (chg_ne (by intro y; cases y)).trans elm
            generalize chg LM9 (.wai d) z = LM10 at m10 elm10
            generalize upd (upd H9 z _) (LM9 .wait) _ = H10 at D10 ⊢
            generalize upd (upd Rs9 z _) (LM9 .wait) _ = Rs10 at D10 m10
            have w10 : We C H10 F Rs10 (upd R2 a st4) L6 (D.blank d) LM10 _ := ⟨D10, m10.at_⟩
            have hO10 := w10.rs _ _ m10.hO
            have hM10 := w10.rs _ _ m10.hM
            rw [elm10] at hO10
            walk_at "go"
            refine iDNew fun y hy => ?_
            have hy' := Evl.fresh_back w10.rs hy
            have m11 := m10.newMed (d := d) hd hy'
            have fr2 := m10.own.free hy'
            have nOy : LM .obj ≠ y := elm10 ▸ fr2.2.2 .obj trivial
            walk_at "go"
            refine iDGs ((upd_ne nOy).trans hO10) rfl ?_
            walk_at "go"
            refine iSetL ((upd_ne (fr2.2.2 .media trivial)).trans hM10) (k := d) (by rw [ixN_natL, medW_len]; exact if_pos hd) ?_
            exact q _ F _ st4 _ _ _ _ (Ex.refl _) ⟨(w10.d.newR hy).put ((upd_ne (fr2.2.2 .media trivial)).trans m10.hM), m11.at_⟩ dr4 R.blank nw ⟨rfl, rfl, rfl, rfl, rfl, rfl⟩ el6 ((chg_ne (by intro y; cases y)).trans elm10) rfl (Nat.le_succ _) (Nat.le_trans (List.length_filter_le _ _) (Nat.le_succ _))
theorem j_lfault {C : Addr} {H F Rs R2 : Hp} {L : DL → Addr} {D : DK} {LM : WL → Addr} {W : WM} {a l : Addr} {b : Nat} {Q : VK} {E : XK} (w : We C H F Rs R2 L D LM W) (dr : DrawAt R2 a l) (R : RelW D W) (fw : FewW D b) (hb : b < 70000) (hz : W.sz < 90000) (haw : W.aw.length < 90000)
    (q : ∀ H' F' Rs' st L' D' LM' W', Ex F F' → We C H' F' Rs' (upd R2 a st) L' D' LM' W' → DrawAt (upd R2 a st) a l → RelW D' W' → FewW D' b → SameD D' D → L' .obj = L .obj → LM' .obj = LM .obj → W'.secs = W.secs → W'.sz ≤ W.sz + 1 → W'.aw.length ≤ W.aw.length + 1 → Q .non H') : sp_lfault C [.ref a, .ref (LM .obj), .ref (L .obj)] H Q E :=
  ⟨F, Rs, R2, L, D, LM, W, a, l, b, rfl, w, dr, R, fw, hb, hz, haw, q⟩
/-! ### the world, as it is made -/
def fixW : WL → Prop
  | .med _ => False
  | .wai _ => False
  | _ => True
def SF (L : WL → Addr) (n : Nat) (secs : List Nat) (ms qs : List Addr) : WL → HO
  | .obj => .dK (modW L n)
  | .away => .lst (natL [])
  | .wait => .lst (qs.map V.ref)
  | .media => .lst (ms.map V.ref)
  | .counts => .lst [.int 0, .int 0, .int 0]
  | .sectors => .lst (natL secs)
  | .med _ => .lst []
  | .wai _ => .lst []
structure Mk4 (S R : Hp) (L : WL → Addr) (n : Nat) (secs : List Nat) (ms qs : List Addr) : Prop where
  lay : Lay R fixW L (SF L n secs ms qs)
  e : Ex S R
  s0 : ∀ x, fixW x → S (L x) = none
  nm : ms.Nodup
  nq : qs.Nodup
  hm : ∀ p ∈ ms, (∀ x, fixW x → L x ≠ p) ∧ S p = none ∧ R p = some (.dK [])
  hq : ∀ q ∈ qs, (∀ x, fixW x → L x ≠ q) ∧ (∀ p ∈ ms, p ≠ q) ∧ S q = none ∧ R q = some (.lst [])
def LW (L : WL → Addr) (ms qs : List Addr) : WL → Addr
  | .med d => ms.getD d 0
  | .wai d => qs.getD d 0
  | x => L x
def LF (d a w m c s : Addr) : WL → Addr
  | .obj => d
  | .away => a
  | .wait => w
  | .media => m
  | .counts => c
  | .sectors => s
  | _ => 0
namespace Mk4
variable {S R : Hp} {L : WL → Addr} {n : Nat} {secs : List Nat} {ms qs : List Addr} {u : Addr}
theorem addQ (h : Mk4 S R L n secs ms qs) (hu : R u = none) : Mk4 S (upd (upd R u (.lst [])) (L .wait) (.lst (qs.map V.ref ++ [V.ref u]))) L n secs ms (qs ++ [u]) := by
  have fx : ∀ x, fixW x → L x ≠ u := fun x hx => ne_of_none (h.lay.at_ x hx) hu
  have su : S u = none := Evl.fresh_back h.e hu
  refine ⟨((h.lay.ex (Evl.Ex.new hu)).set (x := WL.wait) trivial).cong fun x hx => ?_, (h.e.trans (Evl.Ex.new hu)).mut (h.s0 .wait trivial), h.s0, h.nm, ?_, fun p hp => ?_, fun q hq => ?_⟩
  · cases x with
    | wait => rw [chg_same]; show _ = HO.lst ((qs ++ [u]).map V.ref); rw [List.map_append]; rfl
    | _ => first | exact hx.elim | (rw [chg_ne (by intro z; cases z)]; rfl)
  · exact List.nodup_append.mpr ⟨h.nq, by simp, fun a ha b hb => by rw [List.mem_singleton] at hb; subst hb; exact ne_of_none (h.hq a ha).2.2.2 hu⟩
  · obtain ⟨a1, a2, a3⟩ := h.hm p hp
    exact ⟨a1, a2, (upd_ne (a1 .wait trivial).symm).trans ((upd_ne (ne_of_none a3 hu)).trans a3)⟩
  · rcases List.mem_append.mp hq with hq | hq
    · obtain ⟨a1, a2, a3, a4⟩ := h.hq q hq
      exact ⟨a1, a2, a3, (upd_ne (a1 .wait trivial).symm).trans ((upd_ne (ne_of_none a4 hu)).trans a4)⟩
    · rw [List.mem_singleton] at hq
      subst hq
      exact ⟨fx, fun p hp => ne_of_none (h.hm p hp).2.2 hu, su, (upd_ne (fx .wait trivial).symm).trans upd_same⟩
theorem addM (h : Mk4 S R L n secs ms qs) (hu : R u = none) : Mk4 S (upd (upd R u (.dK [])) (L .media) (.lst (ms.map V.ref ++ [V.ref u]))) L n secs (ms ++ [u]) qs := by
  have fx : ∀ x, fixW x → L x ≠ u := fun x hx => ne_of_none (h.lay.at_ x hx) hu
  have su : S u = none := Evl.fresh_back h.e hu
  refine ⟨((h.lay.ex (Evl.Ex.new hu)).set (x := WL.media) trivial).cong fun x hx => ?_, (h.e.trans (Evl.Ex.new hu)).mut (h.s0 .media trivial), h.s0, ?_, h.nq, fun p hp => ?_, fun q hq => ?_⟩
  · cases x with
    | media => rw [chg_same]; show _ = HO.lst ((ms ++ [u]).map V.ref); rw [List.map_append]; rfl
    | _ => first | exact hx.elim | (rw [chg_ne (by intro z; cases z)]; rfl)
  · exact List.nodup_append.mpr ⟨h.nm, by simp, fun a ha b hb => by rw [List.mem_singleton] at hb; subst hb; exact ne_of_none (h.hm a ha).2.2 hu⟩
  · rcases List.mem_append.mp hp with hp | hp
    · obtain ⟨a1, a2, a3⟩ := h.hm p hp
      exact ⟨a1, a2, (upd_ne (a1 .media trivial).symm).trans ((upd_ne (ne_of_none a3 hu)).trans a3)⟩
    · rw [List.mem_singleton] at hp
      subst hp
      exact ⟨fx, su, (upd_ne (fx .media trivial).symm).trans upd_same⟩
  · obtain ⟨a1, a2, a3, a4⟩ := h.hq q hq
    refine ⟨a1, fun p hp => ?_, a3, (upd_ne (a1 .media trivial).symm).trans ((upd_ne (ne_of_none a4 hu)).trans a4)⟩
    rcases List.mem_append.mp hp with hp | hp
    · exact a2 p hp
    · rw [List.mem_singleton] at hp
      subst hp
      exact (ne_of_none a4 hu).symm
theorem done {F : Hp} {m : Nat} (h : Mk4 S R L n secs ms qs) (lm : ms.length = n) (lq : qs.length = n) (n8 : n ≤ 8) (sl : secs.length = 4) (sm : ∀ j ∈ secs, j < m) : WAt R F S (LW L ms qs) ⟨n, m, [], fun _ => [], fun _ _ => none, 0, 0, 0, secs, 0⟩ := by
  have L0 : ∀ d, d < n → (ms.getD d 0) ∈ ms := fun d hd => getD_mem (by omega)
  have L1 : ∀ d, d < n → (qs.getD d 0) ∈ qs := fun d hd => getD_mem (by omega)
  have fixe : ∀ x, fixW x → LW L ms qs x = L x := fun x hx => by cases x <;> first | rfl | exact hx.elim
  have kind : ∀ x, domW n x → fixW x ∨ (∃ d, d < n ∧ x = .med d) ∨ (∃ d, d < n ∧ x = .wai d) := fun x hx => by
    cases x with
    | med d => exact .inr (.inl ⟨d, hx, rfl⟩)
    | wai d => exact .inr (.inr ⟨d, hx, rfl⟩)
    | _ => exact .inl trivial
  refine ⟨fun _ => [], fun _ => [], ⟨⟨fun x hx => ?_, fun x y hx hy e => ?_⟩, fun _ _ h => (by cases h), h.e, fun _ _ => rfl, fun x hx => ?_, fun _ _ => rfl⟩, n8, sl, sm, fun d _ => DictRep.nil fun _ => rfl, fun d _ => WaiRep.nil⟩
  · cases x with
    | obj => exact h.lay.at_ .obj trivial
    | away => exact h.lay.at_ .away trivial
    | counts => exact h.lay.at_ .counts trivial
    | sectors => exact h.lay.at_ .sectors trivial
    | media =>
      refine (h.lay.at_ .media trivial).trans ?_
      show some (HO.lst (ms.map V.ref)) = some (HO.lst (medW (LW L ms qs) n))
      rw [map_ref, lm]
      rfl
    | wait =>
      refine (h.lay.at_ .wait trivial).trans ?_
      show some (HO.lst (qs.map V.ref)) = some (HO.lst (waiW (LW L ms qs) n))
      rw [map_ref, lq]
      rfl
    | med d => exact (h.hm _ (L0 d hx)).2.2
    | wai d => exact (h.hq _ (L1 d hx)).2.2.2
  · rcases kind x hx with kx | ⟨d, hd, rfl⟩ | ⟨d, hd, rfl⟩ <;> rcases kind y hy with ky | ⟨d', hd', rfl⟩ | ⟨d', hd', rfl⟩
    · rw [fixe x kx, fixe y ky] at e; exact h.lay.inj x y kx ky e
    · rw [fixe x kx] at e; exact absurd e ((h.hm _ (L0 d' hd')).1 x kx)
    · rw [fixe x kx] at e; exact absurd e ((h.hq _ (L1 d' hd')).1 x kx)
    · rw [fixe y ky] at e; exact absurd e.symm ((h.hm _ (L0 d hd)).1 y ky)
    · rw [nodup_get h.nm (lm.symm ▸ hd) (lm.symm ▸ hd') e]
    · exact absurd e ((h.hq _ (L1 d' hd')).2.1 _ (L0 d hd))
    · rw [fixe y ky] at e; exact absurd e.symm ((h.hq _ (L1 d hd)).1 y ky)
    · exact absurd e.symm ((h.hq _ (L1 d hd)).2.1 _ (L0 d' hd'))
    · rw [nodup_get h.nq (lq.symm ▸ hd) (lq.symm ▸ hd') e]
  · rcases kind x hx with kx | ⟨d, hd, rfl⟩ | ⟨d, hd, rfl⟩
    · rw [fixe x kx]; exact h.s0 x kx
    · exact (h.hm _ (L0 d hd)).2.1
    · exact (h.hq _ (L1 d hd)).2.2.1
end Mk4
theorem upd_mono {R H : Hp} {a : Addr} {o : HO} (e : Ex R H) : Ex (upd R a o) (upd H a o) := fun p u h => by
  by_cases z : p = a
  · subst z; rw [upd_same] at h ⊢; exact h
  · rw [upd_ne z] at h ⊢; exact e p u h
theorem relW_new {n m : Nat} {secs : List Nat} (h : 4 ≤ n) : RelW (DK.new n m 1 1) ⟨n, m, [], fun _ => [], fun _ _ => none, 0, 0, 0, secs, 0⟩ :=
  ⟨rfl, rfl, h, fun _ _ => rfl, fun _ _ => rfl, fun _ _ _ _ _ => rfl, fun _ _ h => (by cases h), rfl, rfl, rfl, fun _ _ w h => (by cases h), fun _ _ _ _ h => (by cases h)⟩
def sp_law (K : PySem.W.Frag) : Sp := fun vs H Q _ => ∃ (a : Addr) (ns : List Int), vs = [.ref a] ∧ SqL K H a (ns.map V.int) ∧ ns.length ≤ 63 ∧ ∀ H', Q (.bl true) H'
/-! ### what the law does with the world -/
theorem We.alt {C : Addr} {H F Rs R2 : Hp} {L : DL → Addr} {D : DK} {LM : WL → Addr} {W : WM} {p : Addr} {o : HO} (h : We C H F Rs R2 L D LM W) (h1 : F p = none) (h2 : Rs p = none) (h3 : ∀ y, dom D.n y → L y ≠ p) : We C (upd H p o) F Rs R2 L D LM W := by
  obtain ⟨dx, szs, cm, cw, d⟩ := h.d
  exact ⟨⟨dx, szs, cm, cw, { d with own := d.own.alt h1 h2 h3 }⟩, h.m⟩
theorem We.lfree {C : Addr} {H F Rs R2 : Hp} {L : DL → Addr} {D : DK} {LM : WL → Addr} {W : WM} {p : Addr} (h : We C H F Rs R2 L D LM W) (e : H p = none) : F p = none ∧ Rs p = none ∧ ∀ y, dom D.n y → L y ≠ p := by
  obtain ⟨dx, szs, cm, cw, d⟩ := h.d
  exact d.own.free e
theorem We.joinAt {C : Addr} {H F Rs R2 : Hp} {L : DL → Addr} {D : DK} {LM : WL → Addr} {W : WM} {p : Addr} {o : HO} (h : We C H F Rs R2 L D LM W) (h1 : F p = none) (h2 : Rs p = none) (h3 : ∀ y, dom D.n y → L y ≠ p) (hp : H p = some o) : We C H F (upd Rs p o) (upd R2 p o) L D LM W := by
  obtain ⟨dx, szs, cm, cw, d⟩ := h.d
  obtain ⟨cm', cw', m⟩ := h.m
  exact ⟨⟨dx, szs, cm, cw, { d with own := d.own.join h1 h3 hp }⟩, (m.newR h2).at_⟩
def WM.lay (W : WM) (d : Nat) (ks : List Bool) (t : Nat) : WM := { W with media := fun e => if e = d then layW (W.media d) ((W.wait d).take t) (ks.take t) else W.media e, sz := W.sz + t }
theorem WM.lay0 {W : WM} {d : Nat} {ks : List Bool} : W.lay d ks 0 = W := by
  unfold WM.lay
  have : (fun e => if e = d then layW (W.media d) ((W.wait d).take 0) (ks.take 0) else W.media e) = W.media := by
    funext e
    by_cases z : e = d
    · subst z; rw [if_pos rfl]; rfl
    · rw [if_neg z]
  rw [this]
  rfl
theorem WM.settles0 {W : WM} {K : Nat → List Bool} : W.settles K 0 W.sz = W := by
  unfold WM.settles
  simp
theorem layW_full {f : Nat → Option Sec} {ws : List (Nat × Sec)} {ks : List Bool} : layW f (ws.take ws.length) (ks.take ws.length) = layW f ws ks := by
  rw [List.take_length]
  unfold layW
  congr 1
  refine List.ext_getElem? fun j => ?_
  rw [List.zip_eq_zipWith, List.zip_eq_zipWith, List.getElem?_zipWith, List.getElem?_zipWith]
  by_cases hj : j < ws.length
  · rw [List.getElem?_take_of_lt hj]
  · rw [List.getElem?_eq_none (l := ws) (by omega)]
theorem layW_stop {f : Nat → Option Sec} {ws : List (Nat × Sec)} {ks : List Bool} {i : Nat} (h : ks.length ≤ i) : layW f (ws.take (i + 1)) (ks.take (i + 1)) = layW f (ws.take i) (ks.take i) := by
  unfold layW
  congr 1
  rw [List.take_of_length_le (l := ks) (by omega), List.take_of_length_le (l := ks) (by omega)]
  refine List.ext_getElem? fun j => ?_
  rw [List.zip_eq_zipWith, List.zip_eq_zipWith, List.getElem?_zipWith, List.getElem?_zipWith]
  by_cases hj : j < ks.length
  · rw [List.getElem?_take_of_lt (by omega), List.getElem?_take_of_lt (by omega)]
  · rw [List.getElem?_eq_none (l := ks) (by omega)]
    cases (List.take (i + 1) ws)[j]? <;> cases (List.take i ws)[j]? <;> rfl
theorem WM.lay_same {W : WM} {d t : Nat} {ks : List Bool} (h : ¬ (t < ks.length ∧ ks[t]? = some true)) (ht : t < (W.wait d).length) : (W.lay d ks (t + 1)).media = (W.lay d ks t).media := by
  unfold WM.lay
  funext e
  show (if e = d then _ else _) = (if e = d then _ else _)
  by_cases y : e = d
  · rw [if_pos y, if_pos y]
    by_cases hl : t < ks.length
    · have hz : (W.wait d)[t]? = some ((W.wait d)[t]'ht) := List.getElem?_eq_getElem ht
      have hb : ks[t]? = some (ks[t]'hl) := List.getElem?_eq_getElem hl
      rw [layW_take hz hb]
      unfold R.step
      rw [if_neg]
      intro z
      exact h ⟨hl, by rw [hb]; exact congrArg some z⟩
    · exact layW_stop (by omega)
  · rw [if_neg y, if_neg y]
/-- all of a disk's writes are laid, nothing waits there -/
def WM.done (W : WM) (d : Nat) (ks : List Bool) : WM := { W.lay d ks (W.wait d).length with wait := fun e => if e = d then [] else W.wait e }
theorem WM.settles_done {W : WM} {K : Nat → List Bool} {i s : Nat} : (W.settles K i s).done i (K i) = W.settles K (i + 1) (s + (W.wait i).length) := by
  have e : (W.settles K i s).wait i = W.wait i := if_neg (Nat.lt_irrefl i)
  have e2 : (W.settles K i s).media i = W.media i := if_neg (Nat.lt_irrefl i)
  unfold WM.done WM.lay
  rw [layW_full, e, e2]
  unfold WM.settles
  simp only [WM.mk.injEq, true_and, and_true]
  refine ⟨?_, ?_⟩
  · funext x
    by_cases h : x = i
    · subst h; simp
    · have : (x < i + 1) ↔ x < i := by omega
      simp [h, this]
  · funext x
    by_cases h : x = i
    · subst h; simp
    · have : (x < i + 1) ↔ x < i := by omega
      simp [h, this]
theorem WRep.sz {H F Rs : Hp} {L : WL → Addr} {W : WM} {cm : Nat → List (Key × V)} {cw : Nat → List V} {s : Nat} (h : WRep H F Rs L W cm cw) (e : W.sz ≤ s) : WRep H F Rs L { W with sz := s } cm cw :=
  ⟨h.own.cong fun x hx => by cases x <;> rfl, h.n8, h.sl, h.sm, fun d hd => (h.med d hd).mono e, h.wai⟩
/-- one item of a disk's waiting writes is laid -/
theorem WRep.layOne {H F Rs : Hp} {L : WL → Addr} {W : WM} {cm : Nat → List (Key × V)} {cw : Nat → List V} {d t : Nat} {ks : List Bool} {p : Addr} {z : Nat × Sec} (h : WRep H F Rs L (W.lay d ks t) cm cw) (hd : d < W.n) (hz : (W.wait d)[t]? = some z) (hb : ks[t]? = some true) (hp : F p = some (.lst z.2)) :
    WRep (upd H (L (.med d)) (.dK (putK (cm d) (.inl (z.1 : Int)) (.ref p)))) F Rs L (W.lay d ks (t + 1)) (fun e => if e = d then putK (cm d) (.inl (z.1 : Int)) (.ref p) else cm e) cw := by
  have := h.setMed (d := d) (j := z.1) (v := .ref p) (f := (W.lay d ks (t + 1)).media) hd ?_ (fun k hk => ?_) fun e he => ?_
  · exact this
  · show CellRep F _ ((if d = d then layW (W.media d) ((W.wait d).take (t + 1)) (ks.take (t + 1)) else W.media d) z.1)
    rw [if_pos rfl, layW_take hz hb]
    unfold R.step
    rw [if_pos rfl, if_pos rfl]
    exact ⟨p, rfl, hp⟩
  · show (if d = d then layW (W.media d) ((W.wait d).take (t + 1)) (ks.take (t + 1)) else W.media d) k = (if d = d then layW (W.media d) ((W.wait d).take t) (ks.take t) else W.media d) k
    rw [if_pos rfl, if_pos rfl, layW_take hz hb]
    unfold R.step
    rw [if_pos rfl, if_neg hk]
  · show (if e = d then _ else _) = (if e = d then _ else _)
    rw [if_neg he, if_neg he]
theorem WRep.layNo {H F Rs : Hp} {L : WL → Addr} {W : WM} {cm : Nat → List (Key × V)} {cw : Nat → List V} {d t : Nat} {ks : List Bool} (h : WRep H F Rs L (W.lay d ks t) cm cw) (ht : t < (W.wait d).length) (hb : ¬ (t < ks.length ∧ ks[t]? = some true)) : WRep H F Rs L (W.lay d ks (t + 1)) cm cw := by
  have h2 := h.sz (s := W.sz + (t + 1)) (by show W.sz + t ≤ _; omega)
  have e : ({ (W.lay d ks t) with sz := W.sz + (t + 1) } : WM) = W.lay d ks (t + 1) := by
    have := WM.lay_same hb ht
    unfold WM.lay at this ⊢
    simp only [WM.mk.injEq, true_and, and_true]
    exact this.symm
  rw [e] at h2
  exact h2
theorem WRep.layEnd {H F Rs : Hp} {L : WL → Addr} {W : WM} {cm : Nat → List (Key × V)} {cw : Nat → List V} {d : Nat} {ks : List Bool} {p : Addr} (h : WRep H F Rs L (W.lay d ks (W.wait d).length) cm cw) (hd : d < W.n) (hp : H p = none) :
    WRep (upd (upd H p (.lst [])) (L .wait) (.lst ((waiW L W.n).set d (.ref p)))) F Rs (chg L (.wai d) p) (W.done d ks) cm (fun e => if e = d then [] else cw e) := h.newWait hd hp
namespace RelW
variable {D : DK} {W : WM} {d : Nat}
theorem ask (h : RelW D W) (hd : d < D.n) : RelW (D.ask d) { W with c0 := W.c0 + (if d ∈ W.aw then 0 else 1) } := by
  have ht := h.there d hd
  by_cases e : d ∈ W.aw
  · rw [decide_eq_false (fun z => z e)] at ht
    have e' : D.ask d = D := by unfold DK.ask; rw [ht]; rfl
    rw [e', if_pos e]
    exact h
  · rw [decide_eq_true e] at ht
    have e' : D.ask d = { D with reads := D.reads + 1 } := by unfold DK.ask; rw [ht]; rfl
    rw [e', if_neg e]
    exact ⟨h.n, h.m, h.n0, h.there, h.wait, h.media, h.gone, congrArg (· + 1) h.c0, h.c1, h.c2, h.secW, h.secM⟩
end RelW
/-! ### a list of lists of booleans, apart from the state -/
def KeptA (R : Hp) (a p : Addr) (ks : List (List Bool)) : Prop := p ≠ a ∧ ∃ xs : List V, R p = some (.lst xs) ∧ xs.length = ks.length ∧ ∀ (i : Nat) (v : V) (k : List Bool), xs[i]? = some v → ks[i]? = some k → ∃ q : Addr, q ≠ p ∧ q ≠ a ∧ v = .ref q ∧ R q = some (.lst (k.map V.bl))
theorem KeptA.st {R : Hp} {a p : Addr} {ks : List (List Bool)} {o : HO} (h : KeptA R a p ks) : KeptA (upd R a o) a p ks := by
  obtain ⟨n, xs, h1, h2, h3⟩ := h
  exact ⟨n, xs, (upd_ne n).trans h1, h2, fun i v k hv hk => by
    obtain ⟨q, a1, a2, a3, a4⟩ := h3 i v k hv hk
    exact ⟨q, a1, a2, a3, (upd_ne a2).trans a4⟩⟩
theorem KeptA.snoc {R : Hp} {a p D : Addr} {ks : List (List Bool)} {kk : List Bool} {xs : List V} {u : HO} (h : KeptA R a p ks) (hD : R D = none) (ha : R a = some u) (hx : R p = some (.lst xs)) : KeptA (upd (upd R D (.lst (kk.map V.bl))) p (.lst (xs ++ [V.ref D]))) a p (ks ++ [kk]) := by
  obtain ⟨n, xs', h1, h2, h3⟩ := h
  rw [hx] at h1
  injection h1 with h1
  injection h1 with h1
  subst h1
  have nD : D ≠ p := (ne_of_none hx hD).symm
  have na : D ≠ a := (ne_of_none ha hD).symm
  refine ⟨n, xs ++ [V.ref D], upd_same, by rw [List.length_append, List.length_append, h2]; rfl, fun i v k hv hk => ?_⟩
  by_cases hi : i < xs.length
  · rw [List.getElem?_append_left hi] at hv
    rw [List.getElem?_append_left (by omega)] at hk
    obtain ⟨q, q1, q2, rfl, q3⟩ := h3 i v k hv hk
    exact ⟨q, q1, q2, rfl, (upd_ne q1).trans ((upd_ne (ne_of_none q3 hD)).trans q3)⟩
  · rw [List.getElem?_append_right (by omega)] at hv
    rw [List.getElem?_append_right (by omega), ← h2] at hk
    cases e : i - xs.length with
    | zero =>
      rw [e] at hv hk
      cases hv
      cases hk
      exact ⟨D, nD, na, rfl, (upd_ne nD).trans upd_same⟩
    | succ z => rw [e] at hv; simp at hv
theorem WM.settles_congr {W : WM} {K K' : Nat → List Bool} {i s : Nat} (h : ∀ d, d < i → K d = K' d) : W.settles K i s = W.settles K' i s := by
  unfold WM.settles
  simp only [WM.mk.injEq, true_and, and_true]
  funext e
  show (if e < i then _ else _) = (if e < i then _ else _)
  split
  · rename_i z; rw [h e z]
  · rfl
theorem KeptA.kept {R R' : Hp} {a p : Addr} {ks : List (List Bool)} (h : KeptA R a p ks) (e : Ex R R') : Kept R' p ks := by
  obtain ⟨n, xs, h1, h2, h3⟩ := h
  exact ⟨xs, e _ _ h1, h2, fun i v k hv hk => by
    obtain ⟨q, _, _, a3, a4⟩ := h3 i v k hv hk
    exact ⟨q, a3, e _ _ a4⟩⟩
end
end R
set_option Elab.async false
set_option linter.all false
set_option maxRecDepth 100000
set_option maxHeartbeats 4000000
namespace R
open PySem PySem.Spec L2
open Evl (Ex)
abbrev s_law : Stmt := topS 17
theorem sc_law : FnScope ["script", "state", "n", "m", "disks", "world", "disk", "k", "sector", "data", "left", "asked", "kept"] ["script"] (defScope s_law) := ⟨rfl, rfl, rfl, by decide +kernel, rfl, by decide +kernel, by decide +kernel⟩
local macro_rules | `(tactic| walk_at "ne") => `(tactic| (first | assumption | (apply Ne.symm; assumption) | (apply ne_fresh; (· assumption); (· walk_at "look")) | (apply Ne.symm; apply ne_fresh; (· assumption); (· walk_at "look"))))
local macro_rules | `(tactic| walk_at "look") => `(tactic| (first | assumption | exact upd_same | (refine (upd_ne ?_).trans ?_; (· walk_at "ne"); (· walk_at "look")) | (refine exAt (by assumption) ?_; walk_at "look")))
local macro_rules | `(tactic| walk_at "side") => `(tactic| (first | (exact Or.inl ⟨by omega, by omega⟩) | (exact Or.inr ⟨by omega, by omega⟩) | (show (0:Int) < _; omega) | (show (0:Int) ≤ _; omega) | (exact ⟨by omega, by omega⟩) | (exact ⟨by decide, by decide, by decide⟩)))
local macro_rules | `(tactic| walk_at "go") => `(tactic| (repeat (first | ((with_reducible apply iF_Disks_in_use); (· assumption); (· walk_at "look"); (· rfl)) | ((with_reducible apply iS_Disks_in_use); (· assumption); (· walk_at "look"); (· repeat constructor)) | ((with_reducible apply iN_Disks_in_use); (· assumption); (· walk_at "look"); (· rfl)) | ((with_reducible apply iF_Disks_formatted); (· assumption); (· walk_at "look"); (· rfl)) | ((with_reducible apply iS_Disks_formatted); (· assumption); (· walk_at "look"); (· repeat constructor)) | ((with_reducible apply iN_Disks_formatted); (· assumption); (· walk_at "look"); (· rfl)) | ((with_reducible apply iF_Disks_scrub_place); (· assumption); (· walk_at "look"); (· rfl)) | ((with_reducible apply iS_Disks_scrub_place); (· assumption); (· walk_at "look"); (· repeat constructor)) | ((with_reducible apply iN_Disks_scrub_place); (· assumption); (· walk_at "look"); (· rfl)) | ((with_reducible apply iF_Disks__sizes); (· assumption); (· walk_at "look"); (· rfl)) | ((with_reducible apply iS_Disks__sizes); (· assumption); (· walk_at "look"); (· repeat constructor)) | ((with_reducible apply iN_Disks__sizes); (· assumption); (· walk_at "look"); (· rfl)) | ((with_reducible apply iF_Disks__there); (· assumption); (· walk_at "look"); (· rfl)) | ((with_reducible apply iS_Disks__there); (· assumption); (· walk_at "look"); (· repeat constructor)) | ((with_reducible apply iN_Disks__there); (· assumption); (· walk_at "look"); (· rfl)) | ((with_reducible apply iF_Disks__media); (· assumption); (· walk_at "look"); (· rfl)) | ((with_reducible apply iS_Disks__media); (· assumption); (· walk_at "look"); (· repeat constructor)) | ((with_reducible apply iN_Disks__media); (· assumption); (· walk_at "look"); (· rfl)) | ((with_reducible apply iF_Disks__waiting); (· assumption); (· walk_at "look"); (· rfl)) | ((with_reducible apply iS_Disks__waiting); (· assumption); (· walk_at "look"); (· repeat constructor)) | ((with_reducible apply iN_Disks__waiting); (· assumption); (· walk_at "look"); (· rfl)) | ((with_reducible apply iF_Disks__on); (· assumption); (· walk_at "look"); (· rfl)) | ((with_reducible apply iS_Disks__on); (· assumption); (· walk_at "look"); (· repeat constructor)) | ((with_reducible apply iN_Disks__on); (· assumption); (· walk_at "look"); (· rfl)) | ((with_reducible apply iF_Disks__left); (· assumption); (· walk_at "look"); (· rfl)) | ((with_reducible apply iS_Disks__left); (· assumption); (· walk_at "look"); (· repeat constructor)) | ((with_reducible apply iN_Disks__left); (· assumption); (· walk_at "look"); (· rfl)) | ((with_reducible apply iM_Disks__left); (· assumption); (· walk_at "look"); (· rfl); (· repeat constructor)) | ((with_reducible apply iF_Disks__failures); (· assumption); (· walk_at "look"); (· rfl)) | ((with_reducible apply iS_Disks__failures); (· assumption); (· walk_at "look"); (· repeat constructor)) | ((with_reducible apply iN_Disks__failures); (· assumption); (· walk_at "look"); (· rfl)) | ((with_reducible apply iP_Disks__failures); (· assumption); (· walk_at "look"); (· rfl); (· repeat constructor)) | ((with_reducible apply iF_Disks__reads); (· assumption); (· walk_at "look"); (· rfl)) | ((with_reducible apply iS_Disks__reads); (· assumption); (· walk_at "look"); (· repeat constructor)) | ((with_reducible apply iN_Disks__reads); (· assumption); (· walk_at "look"); (· rfl)) | ((with_reducible apply iP_Disks__reads); (· assumption); (· walk_at "look"); (· rfl); (· repeat constructor)) | ((with_reducible apply iF_Disks__writes); (· assumption); (· walk_at "look"); (· rfl)) | ((with_reducible apply iS_Disks__writes); (· assumption); (· walk_at "look"); (· repeat constructor)) | ((with_reducible apply iN_Disks__writes); (· assumption); (· walk_at "look"); (· rfl)) | ((with_reducible apply iP_Disks__writes); (· assumption); (· walk_at "look"); (· rfl); (· repeat constructor)) | ((with_reducible apply iF_Disks__syncs); (· assumption); (· walk_at "look"); (· rfl)) | ((with_reducible apply iS_Disks__syncs); (· assumption); (· walk_at "look"); (· repeat constructor)) | ((with_reducible apply iN_Disks__syncs); (· assumption); (· walk_at "look"); (· rfl)) | ((with_reducible apply iP_Disks__syncs); (· assumption); (· walk_at "look"); (· rfl); (· repeat constructor)) | ((with_reducible apply iMe_Disks_is_there); (· walk_at "look")) | ((with_reducible apply iMe_Disks_pending); (· walk_at "look")) | ((with_reducible apply iMe_Disks_cell); (· walk_at "look")) | ((with_reducible apply iMe_Disks__fail); (· walk_at "look")) | ((with_reducible apply iMe_Disks__operate); (· walk_at "look")) | ((with_reducible apply iMe_Disks_ask); (· walk_at "look")) | ((with_reducible apply iMe_Disks_write); (· walk_at "look")) | ((with_reducible apply iMe_Disks__settle); (· walk_at "look")) | ((with_reducible apply iMe_Disks_sync); (· walk_at "look")) | ((with_reducible apply iMe_Disks_rot); (· walk_at "look")) | ((with_reducible apply iMe_Disks_bad); (· walk_at "look")) | ((with_reducible apply iMe_Disks__empty); (· walk_at "look")) | ((with_reducible apply iMe_Disks_away); (· walk_at "look")) | ((with_reducible apply iMe_Disks_blank); (· walk_at "look")) | ((with_reducible apply iMe_Disks_power); (· walk_at "look")) | ((with_reducible apply iMe_Disks_is_on); (· walk_at "look")) | ((with_reducible apply iMe_Disks_losses); (· walk_at "look")) | ((with_reducible apply iMe_Disks_counts); (· walk_at "look")) | ((with_reducible apply iMe_Disks_fail_after); (· walk_at "look")) | (with_reducible refine iSeq ?_) | (with_reducible refine iAsg ?_) | ((with_reducible apply iName); (· repeat constructor)) | ((with_reducible apply iVar); (· rfl)) | (with_reducible refine iC ?_) | (with_reducible refine iOp ?_) | (with_reducible refine iI0 ?_) | (with_reducible refine iCons ?_) | (with_reducible refine iNil ?_) | (with_reducible refine iCB ?_) | (with_reducible refine iIfS ?_) | (with_reducible refine iTest ?_) | (with_reducible refine iBl ?_) | (with_reducible refine iRet ?_) | (with_reducible refine iNext ?_) | (with_reducible refine iDrop ?_) | (with_reducible refine iEqI ?_) | (with_reducible refine iNeI ?_) | (with_reducible refine iInt ?_) | (with_reducible refine iFor ?_) | (with_reducible refine iRng ?_) | (with_reducible refine iCal ?_) | (with_reducible refine iAnd ?_) | (with_reducible refine iOr ?_) | (with_reducible refine iNot ?_) | (with_reducible refine iB ?_) | (with_reducible refine iIf ?_) | (with_reducible refine iChain ?_) | (with_reducible refine iUn ?_) | (with_reducible refine iU ?_) | (with_reducible refine iRetN ?_) | (with_reducible refine iIsN ?_) | (with_reducible refine iNotN ?_) | (with_reducible refine iTruI ?_) | (with_reducible refine ifNDr ?_) | (with_reducible refine ifDr ?_) | (with_reducible refine iCalE ?_) | (with_reducible refine iMet ?_) | (with_reducible refine iMak ?_) | (with_reducible refine iFld ?_) | (with_reducible refine iSto ?_) | (with_reducible refine iAugF ?_) | (with_reducible refine iBM ?_) | (with_reducible refine iRev1 ?_) | (with_reducible refine iRai ?_) | (with_reducible refine iPr ?_) | (with_reducible refine iPn ?_) | (with_reducible refine iIntB ?_) | (with_reducible refine iIsB ?_) | (with_reducible refine iNotBl ?_) | (with_reducible refine iDGet1 ?_) | (with_reducible refine iAndV ?_) | (with_reducible refine iOrV ?_) | (with_reducible refine iNotV ?_) | (with_reducible refine iAugS ?_) | (with_reducible refine iIpI ?_) | (with_reducible refine iSub ?_) | (with_reducible refine iLst ?_) | (with_reducible refine iTup ?_) | (with_reducible refine iIterL ?_) | (with_reducible refine iBreak ?_) | (with_reducible refine iCont ?_) | (with_reducible refine iEqB ?_) | (with_reducible refine iNeB ?_) | (with_reducible refine iEqS ?_) | (with_reducible refine iNeS ?_) | (with_reducible refine iLc ?_) | (with_reducible refine iYes ?_) | (with_reducible refine iDGet ?_) | (with_reducible refine iDIn ?_) | (with_reducible refine iDNotIn ?_) | (with_reducible refine iDPut ?_) | (with_reducible refine iRng2 ?_) | (with_reducible refine iZipK ?_) | (with_reducible refine iGCons ?_) | (with_reducible refine iGNil ?_) | (with_reducible refine iDEa ?_) | ((with_reducible apply iRngI); (· first | decide | omega); (· first | decide | omega)) | ((with_reducible apply iAugK); (· rfl)) | ((with_reducible apply iI); rotate_left; (· (first | (exact Or.inl ⟨by omega, by omega⟩) | (exact Or.inr ⟨by omega, by omega⟩) | (show (0:Int) < _; omega) | (show (0:Int) ≤ _; omega) | (exact ⟨by omega, by omega⟩) | (exact ⟨by decide, by decide, by decide⟩)))) | ((with_reducible apply iIxL); (· walk_at "look"); (· rfl)) | ((with_reducible apply iLenL); (· walk_at "look")) | ((with_reducible apply iSetL); (· walk_at "look"); (· rfl)) | ((with_reducible apply iIxT); (· walk_at "look"); (· rfl)) | ((with_reducible apply iIsi); (· first | exact tyN_int | exact tyN_bl | exact tyN_non | exact tyN_str | exact tyN_lst (by walk_at "look") | exact tyN_tup (by walk_at "look")); (· (first | exact kb_NoneType_bool | exact kb_NoneType_int | exact kb_NoneType_str | exact kb_NoneType_tuple | exact kb_NoneType_list | exact kb_bool_bool | exact kb_bool_int | exact kb_bool_str | exact kb_bool_tuple | exact kb_bool_list | exact kb_int_bool | exact kb_int_int | exact kb_int_str | exact kb_int_tuple | exact kb_int_list | exact kb_str_bool | exact kb_str_int | exact kb_str_str | exact kb_str_tuple | exact kb_str_list | exact kb_tuple_bool | exact kb_tuple_int | exact kb_tuple_str | exact kb_tuple_tuple | exact kb_tuple_list | exact kb_list_bool | exact kb_list_int | exact kb_list_str | exact kb_list_tuple | exact kb_list_list))) | ((with_reducible apply iLenT); (· walk_at "look")) | ((with_reducible apply iLenS); (· first | exact Or.inl (by walk_at "look") | exact Or.inr (by walk_at "look"))) | ((with_reducible apply ifT); (· rfl)) | ((with_reducible apply ifF); (· rfl)) | ((with_reducible apply ifT); (· apply decide_eq_true; omega)) | ((with_reducible apply ifF); (· apply decide_eq_false; omega)) | ((with_reducible apply ifNp); (· omega)) | ((with_reducible apply ifNn); (· omega)) | ((with_reducible apply iLcB); (· rfl)) | ((with_reducible apply iGTup); (· walk_at "look"); (· rfl)) | ((with_reducible apply iDIi); (· walk_at "look")) | ((with_reducible apply iDNi); (· walk_at "look")) | ((with_reducible apply iRng2I); (· omega); (· omega); (· omega); (· omega)) | ((with_reducible apply iItL); (· walk_at "look")) | ((with_reducible apply iZL); (· walk_at "look"); (· walk_at "look")))))
section
variable {P : Program} {w : World} {K : PySem.W.Frag} {mg : Str → Option Value} {base : Heap}
theorem ok_law {C CP CI : Addr} (M : Mg mg) (T : Tx_Disks K C) {f : Addr} {fd : FuncData} (F : Fun K "law" "law" s_law f fd) (c__law_next : Cal P w K mg base 1 "_law_next" ["state", "limit"] sp__law_next) (c__law_same : Cal P w K mg base 2 "_law_same" ["actual", "expected"] (sp__law_same 2))
    (c__law_write : Cal P w K mg base 4 "_law_write" ["state", "world", "disks"] (sp_lwrite C)) (c__law_fault : Cal P w K mg base 3 "_law_fault" ["state", "world", "disks"] (sp_lfault C)) (c__law_is_right : Cal P w K mg base 3 "_law_is_right" ["world", "disks"] (sp_right C)) (c__law_dark : Cal P w K mg base 4 "_law_dark" ["state", "disks"] (sp_dark C)) (c__law_cell : Cal P w K mg base 1 "_law_cell" ["world", "disk", "sector"] sp_lcell)
    (c_Disks : MakX P w K mg base 3 C "Disks" ["self", "disks", "sectors", "carrying", "depth"] (sp_init C CI)) (c_Disks_sync : MetX P w K mg base 3 C "sync" ["self"] (sp_sync C CP)) (c_Disks_fail_after : MetX P w K mg base 1 C "fail_after" ["self", "operations"] (sp_fail_after C CP)) (c_Disks_is_on : MetX P w K mg base 1 C "is_on" ["self"] (sp_is_on C)) (c_Disks_losses : MetX P w K mg base 1 C "losses" ["self"] (sp_losses C))
    (c_Disks_ask : MetX P w K mg base 2 C "ask" ["self", "disk", "sector"] (sp_ask C)) (c_Disks_power : MetX P w K mg base 2 C "power" ["self", "kept"] (sp_power C)) : FnOk P w K mg base CX0 5 f fd ["script"] (sp_law K) := by
  refine F.ok sc_law (fun vs H Q E h => ?_) (fun cdv A outer s H vs Q E hr h => ?_)
  · obtain ⟨a, ns, rfl, _⟩ := h; rfl
  · obtain ⟨sc, ns, rfl, hS, hn, q⟩ := h
    refine ⟨_, (pss_cons (ps_set (i := 1) sc_law.nd rfl (Or.inr rfl) (pe_lst (pa_cons (pe_callTy call_list_of (by rfl) M.n_list (by decide +kernel) (pa_cons (pv 0) pa_nil)) (pa_cons pe_int (pa_cons pe_int (pa_cons pe_int pa_nil)))))) (pss_cons (ps_set (i := 2) sc_law.nd rfl (Or.inl rfl) (pe_op op_add pe_int (pe_cal c__law_next (hr.mono (by omega)) (by rfl) (pa_cons (pv 1) (pa_cons pe_int pa_nil))))) (pss_cons (ps_set (i := 3) sc_law.nd rfl (Or.inl rfl) (pe_op op_add pe_int (pe_cal c__law_next (hr.mono (by omega)) (by rfl) (pa_cons (pv 1) (pa_cons pe_int pa_nil))))) (pss_cons (ps_set (i := 4) sc_law.nd rfl (Or.inl rfl) (pe_makE c_Disks (hr.mono (by omega)) (by rfl) (pa_cons (pv 2) (pa_cons (pv 3) (pa_cons pe_int (pa_cons pe_int pa_nil)))))) (pss_cons (ps_set (i := 5) sc_law.nd rfl (Or.inl rfl) (pe_disp (pps_cons pe_str (pv 2) (pps_cons pe_str (pe_lst pa_nil) (pps_cons pe_str (pe_lst pa_nil) (pps_cons pe_str (pe_lst pa_nil) (pps_cons pe_str (pe_lst (pa_cons pe_int (pa_cons pe_int (pa_cons pe_int pa_nil)))) pps_nil))))) rfl rfl (by intro z; cases z) (by decide))) (pss_cons (ps_dput (hu_of hr) (pv 5) pe_str (pe_lst (pa_cons pe_int (pa_cons (pe_op op_sub (pv 3) pe_int) (pa_cons (pe_op op_add pe_int (pe_cal c__law_next (hr.mono (by omega)) (by rfl) (pa_cons (pv 1) (pa_cons (pe_op op_sub (pv 3) pe_int) pa_nil)))) (pa_cons (pe_op op_fdiv (pv 3) pe_int) pa_nil))))) rfl) (pss_cons (ps_for PassesOwn.never rfl (pi_range1 (by rfl) M.n_range (pa_cons (pv 2) pa_nil)) (pg_name (i := 6) sc_law.nd rfl (Or.inl rfl)) (pss_cons (ps_expr (pe_bmE PySem.F.slot_list_append PySem.F.type_list_append mt_append (pe_dget (hu_of hr) (pv 5) pe_str (fun _ _ => rfl)) (pa_cons (pe_lst pa_nil) pa_nil))) (pss_one (ps_expr (pe_bmE PySem.F.slot_list_append PySem.F.type_list_append mt_append (pe_dget (hu_of hr) (pv 5) pe_str (fun _ _ => rfl)) (pa_cons pe_dnewK pa_nil)))))) (pss_cons (ps_for PassesOwn.never rfl (pi_range1 (by rfl) M.n_range (pa_cons (pe_cal c__law_next (hr.mono (by omega)) (by rfl) (pa_cons (pv 1) (pa_cons pe_int pa_nil))) pa_nil)) (pg_name (i := 7) sc_law.nd rfl (Or.inl rfl)) (pss_one (ps_expr (pe_cal c__law_write (hr.mono (by omega)) (by rfl) (pa_cons (pv 1) (pa_cons (pv 5) (pa_cons (pv 4) pa_nil))))))) (pss_cons (ps_expr (pe_metE0 c_Disks_sync (hr.mono (by omega)) xp0 (pv 4))) (pss_cons (ps_augS (pe_dget (hu_of hr) (pv 5) pe_str (fun _ _ => rfl)) pe_int get_l pe_int ip_add set_list) (pss_cons (ps_for PassesOwn.never rfl (pi_range1 (by rfl) M.n_range (pa_cons (pv 2) pa_nil)) (pg_name (i := 6) sc_law.nd rfl (Or.inl rfl)) (pss_cons (ps_for PassesOwn.never rfl (pi_l (pe_ix ix_l (pe_dget (hu_of hr) (pv 5) pe_str (fun _ _ => rfl)) (pv 6) (fun _ _ => rfl))) (pg_tup (by rfl) (pgs_cons (pg_name (i := 8) sc_law.nd rfl (Or.inl rfl)) (pgs_cons (pg_name (i := 9) sc_law.nd rfl (Or.inl rfl)) pgs_nil))) (pss_one (ps_dput (hu_of hr) (pe_ix ix_l (pe_dget (hu_of hr) (pv 5) pe_str (fun _ _ => rfl)) (pv 6) (fun _ _ => rfl)) (pv 8) (pv 9) rfl))) (pss_one (ps_asg (pe_lst pa_nil) (pg_sub (pe_dget (hu_of hr) (pv 5) pe_str (fun _ _ => rfl)) (pv 6) set_list))))) (pss_cons (ps_for PassesOwn.never rfl (pi_range1 (by rfl) M.n_range (pa_cons (pe_cal c__law_next (hr.mono (by omega)) (by rfl) (pa_cons (pv 1) (pa_cons pe_int pa_nil))) pa_nil)) (pg_name (i := 7) sc_law.nd rfl (Or.inl rfl)) (pss_one (ps_expr (pe_cal c__law_fault (hr.mono (by omega)) (by rfl) (pa_cons (pv 1) (pa_cons (pv 5) (pa_cons (pv 4) pa_nil))))))) (pss_cons (ps_set (i := 10) sc_law.nd rfl (Or.inl rfl) (pe_cal c__law_next (hr.mono (by omega)) (by rfl) (pa_cons (pv 1) (pa_cons pe_int pa_nil)))) (pss_cons (ps_expr (pe_metE c_Disks_fail_after (hr.mono (by omega)) xp0 (pv 4) (pa_cons (pv 10) pa_nil))) (pss_cons (ps_for PassesOwn.never rfl (pi_range1 (by rfl) M.n_range (pa_cons (pv 10) pa_nil)) (pg_name (i := 7) sc_law.nd rfl (Or.inl rfl)) (pss_one (ps_expr (pe_cal c__law_write (hr.mono (by omega)) (by rfl) (pa_cons (pv 1) (pa_cons (pv 5) (pa_cons (pv 4) pa_nil))))))) (pss_cons (ps_if (PW.pt (pw_or (pt_not (pt_val (pe_cal c__law_is_right (hr.mono (by omega)) (by rfl) (pa_cons (pv 5) (pa_cons (pv 4) pa_nil))))) (pw_or1 (pt_cmpR op_notBl (pe_metE0 c_Disks_is_on (hr.mono (by omega)) xp0 (pv 4)) pe_bl (nomark _))))) (pss_one (ps_ret pe_bl)) pss_nil) (pss_cons (ps_if (PW.pt (pw_or (pt_not (pt_val (pe_cal c__law_dark (hr.mono (by omega)) (by rfl) (pa_cons (pv 1) (pa_cons (pv 4) pa_nil))))) (pw_or (pt_not (pt_val (pe_cal c__law_is_right (hr.mono (by omega)) (by rfl) (pa_cons (pv 5) (pa_cons (pv 4) pa_nil))))) (pw_or1 (pt_cmpR op_ne (pe_metE0 c_Disks_losses (hr.mono (by omega)) xp0 (pv 4)) pe_int (nomark _)))))) (pss_one (ps_ret pe_bl)) pss_nil) (pss_cons (ps_for PassesOwn.never rfl (pi_range1 (by rfl) M.n_range (pa_cons (pe_cal c__law_next (hr.mono (by omega)) (by rfl) (pa_cons (pv 1) (pa_cons pe_int pa_nil))) pa_nil)) (pg_name (i := 7) sc_law.nd rfl (Or.inl rfl)) (pss_cons (ps_expr (pe_cal c__law_fault (hr.mono (by omega)) (by rfl) (pa_cons (pv 1) (pa_cons (pv 5) (pa_cons (pv 4) pa_nil))))) (pss_cons (ps_set (i := 11) sc_law.nd rfl (Or.inl rfl) (pe_cal c__law_next (hr.mono (by omega)) (by rfl) (pa_cons (pv 1) (pa_cons (pv 2) pa_nil)))) (pss_cons (ps_if (pt_not (pt_val (pe_cal c__law_same (hr.mono (by omega)) (by rfl) (pa_cons (pe_metE c_Disks_ask (hr.mono (by omega)) xp0 (pv 4) (pa_cons (pv 11) (pa_cons pe_int pa_nil))) (pa_cons (pe_cal c__law_cell (hr.mono (by omega)) (by rfl) (pa_cons (pv 5) (pa_cons (pv 11) (pa_cons pe_int pa_nil)))) pa_nil))))) (pss_one (ps_ret pe_bl)) pss_nil) (pss_cons (ps_augS (pe_dget (hu_of hr) (pv 5) pe_str (fun _ _ => rfl)) pe_int get_l (pe_callTy int_b (by rfl) M.n_int (by decide +kernel) (pa_cons (pe_cmpR op_ninS (pv 11) (pe_dget (hu_of hr) (pv 5) pe_str (fun _ _ => rfl)) rfl) pa_nil)) ip_add set_list) (pss_one (ps_if (PW.pt (pw_or (pt_not (pt_val (pe_cal c__law_is_right (hr.mono (by omega)) (by rfl) (pa_cons (pv 5) (pa_cons (pv 4) pa_nil))))) (pw_or1 (pt_not (pt_val (pe_cal c__law_dark (hr.mono (by omega)) (by rfl) (pa_cons (pv 1) (pa_cons (pv 4) pa_nil)))))))) (pss_one (ps_ret pe_bl)) pss_nil))))))) (pss_cons (ps_set (i := 12) sc_law.nd rfl (Or.inl rfl) (pe_lst pa_nil)) (pss_cons (ps_for PassesOwn.never rfl (pi_range1 (by rfl) M.n_range (pa_cons (pv 2) pa_nil)) (pg_name (i := 6) sc_law.nd rfl (Or.inl rfl)) (pss_cons (ps_expr (pe_mt PySem.F.slot_list_append PySem.F.type_list_append mt_append (pv 12) (pa_cons (pe_lc (own := [("k", 7)]) (g := (gName 7)) (tt := tYes) (by rfl) sc_law.nd (pi_range1 (by rfl) M.n_range (pa_cons (pe_cal c__law_next (hr.mono (by omega)) (by rfl) (pa_cons (pv 1) (pa_cons pe_int pa_nil))) pa_nil)) (blkOk_by (own := [("k", 7)]) (N := ["script", "state", "n", "m", "disks", "world", "disk", "k", "sector", "data", "left", "asked", "kept"]) (sc := defScope s_law) (by decide +kernel)) (fun _ _ _ _ _ => (pg_name (i := 7) sc_law.nd rfl (Or.inl rfl))) (fun _ _ _ _ _ => pts_nil) (fun _ _ _ _ _ => (pe_cmpR op_eq (pe_cal c__law_next (hr.mono (by omega)) (by rfl) (pa_cons (pv 1) (pa_cons pe_int pa_nil))) pe_int (nomark _)))) pa_nil))) (pss_cons (ps_for PassesOwn.never rfl (pi_range1 (by rfl) M.n_range (pa_cons (pe_callB len_l (by rfl) M.n_len PySem.boot_len (pa_cons (pe_ix ix_l (pe_dget (hu_of hr) (pv 5) pe_str (fun _ _ => rfl)) (pv 6) (fun _ _ => rfl)) pa_nil)) pa_nil)) (pg_name (i := 7) sc_law.nd rfl (Or.inl rfl)) (pss_one (ps_if (PW.pt (pw_and (pt_cmpR op_lt (pv 7) (pe_callB len_l (by rfl) M.n_len PySem.boot_len (pa_cons (pe_ix ix_l (pv 12) (pv 6) (fun _ _ => rfl)) pa_nil)) (nomark _)) (pw_and1 (pt_val (pe_ix ix_l (pe_ix ix_l (pv 12) (pv 6) (fun _ _ => rfl)) (pv 7) (fun _ _ => rfl)))))) (pss_cons (ps_asg (pe_ix ix_l (pe_ix ix_l (pe_dget (hu_of hr) (pv 5) pe_str (fun _ _ => rfl)) (pv 6) (fun _ _ => rfl)) (pv 7) (fun _ _ => rfl)) (pg_tup (by rfl) (pgs_cons (pg_name (i := 8) sc_law.nd rfl (Or.inl rfl)) (pgs_cons (pg_name (i := 9) sc_law.nd rfl (Or.inl rfl)) pgs_nil)))) (pss_one (ps_dput (hu_of hr) (pe_ix ix_l (pe_dget (hu_of hr) (pv 5) pe_str (fun _ _ => rfl)) (pv 6) (fun _ _ => rfl)) (pv 8) (pv 9) rfl))) pss_nil))) (pss_one (ps_asg (pe_lst pa_nil) (pg_sub (pe_dget (hu_of hr) (pv 5) pe_str (fun _ _ => rfl)) (pv 6) set_list)))))) (pss_cons (ps_expr (pe_metE c_Disks_power (hr.mono (by omega)) xp0 (pv 4) (pa_cons (pv 12) pa_nil))) (pss_one (ps_ret (pe_and (pe_cmpR op_isBl (pe_metE0 c_Disks_is_on (hr.mono (by omega)) xp0 (pv 4)) pe_bl (nomark _)) (pe_and (pe_cmpR op_eq (pe_metE0 c_Disks_losses (hr.mono (by omega)) xp0 (pv 4)) pe_int (nomark _)) (pe_one (pe_cal c__law_is_right (hr.mono (by omega)) (by rfl) (pa_cons (pv 5) (pa_cons (pv 4) pa_nil))))))))))))))))))))))))))))), ?_⟩
    refine iBody (by repeat constructor) ?_
    walk_at "go"
    refine ⟨sc, _, rfl, .inl hS, fun l hl => ?_⟩
    walk_at "go"
    refine iNewL (by simp) fun a ha => ?_
    have nal : a ≠ l := (ne_of_none upd_same ha).symm
    have D0 := DrawAt.to (H := upd noneW l (.lst (ns.map V.int))) (i := 0) (r := 0) (q := 1) upd_same nal hn (by decide) (by omega) (by decide) (by decide) (by decide)
    have E0' : Ex (upd (upd noneW l (.lst (ns.map V.int))) a (.lst [.ref l, .int 0, .int 0, .int 1])) (upd (upd H l (.lst (ns.map V.int))) a (.lst [.ref l, .int 0, .int 0, .int 1])) := upd_mono (upd_mono fun _ _ h => (by cases h))
    have only2 : ∀ p, p ≠ a → p ≠ l → (upd (upd noneW l (.lst (ns.map V.int))) a (.lst [.ref l, .int 0, .int 0, .int 1])) p = none := fun p h1 h2 => by rw [upd_ne h1, upd_ne h2]; rfl
    generalize upd (upd noneW l (.lst (ns.map V.int))) a (.lst [.ref l, .int 0, .int 0, .int 1]) = S0 at D0 E0' only2
    generalize upd (upd H l (.lst (ns.map V.int))) a (.lst [.ref l, .int 0, .int 0, .int 1]) = H1 at E0' ⊢
    walk_at "go"
    refine ⟨a, l, 5, rfl, D0.exR E0', by decide, by decide, fun v st1 v0 v1 D1 => ?_⟩
    obtain ⟨n, hn4, en⟩ : ∃ n : Nat, (4 ≤ n ∧ n ≤ 8) ∧ 4 + v = (n : Int) := ⟨(4 + v).toNat, by omega, by omega⟩
    have D1 := D0.down E0' D1
    have E1 : Ex (upd S0 a st1) (upd H1 a st1) := upd_mono E0'
    walk_at "go"
    rw [en]
    refine ⟨a, l, 153, rfl, D1.exR E1, by decide, by decide, fun v2 st2 v20 v21 D2 => ?_⟩
    obtain ⟨m, hm4, em⟩ : ∃ m : Nat, (48 ≤ m ∧ m ≤ 200) ∧ 48 + v2 = (m : Int) := ⟨(48 + v2).toNat, by omega, by omega⟩
    have D2 := D1.down E1 D2
    have E2 : Ex (upd (upd S0 a st1) a st2) (upd (upd H1 a st1) a st2) := upd_mono E1
    rw [upd_upd] at D2 E2
    walk_at "go"
    rw [em]
    walk_at "go"
    intro o dx no ndx nox
    have S2no : (upd S0 a st2) o = none := Evl.fresh_back E2 no
    have hoo : (upd (upd (upd (upd H1 a st1) a st2) dx (.own o)) o (.ins C dx [])) o = some (.ins C dx []) := upd_same
    have eS : Ex (upd S0 a st2) (upd (upd (upd (upd H1 a st1) a st2) dx (.own o)) o (.ins C dx [])) := E2.trans ((Evl.Ex.new ndx).trans (Evl.Ex.new (by rw [upd_ne nox.symm]; exact no)))
    generalize upd (upd (upd (upd H1 a st1) a st2) dx (.own o)) o (.ins C dx []) = H3 at hoo eS ⊢
    refine ⟨noneW, upd S0 a st2, o, dx, n, m, 1, 1, rfl, hn4.1, hn4.2, hm4.1, hm4.2, by omega, by omega, by omega, hoo, fun _ _ h => (by cases h), eS, rfl, S2no, fun _ _ => rfl, fun H4 F4 L eL e4 D4 => ⟨rfl, ?_⟩⟩
    rw [← eL]
    have D4 : DAt C H4 F4 (upd S0 a st2) L (DK.new n m 1 1) := D4
    walk_at "go"
    obtain ⟨ns2, i2, r2, q2, ha2, hl2, k2⟩ := id D2
    have ha4 := D4.rs _ _ ha2
    have hl4 := D4.rs _ _ hl2
    refine iDisp fun pd hpd => ?_
    have D5 := D4.newR (o := .dK []) hpd
    walk_at "go"
    refine iNewL (by simp) fun pa hpa => ?_
    have D6 := D5.newR (o := .lst []) hpa
    walk_at "go"
    refine iNewL (by simp) fun pw hpw => ?_
    have D7 := D6.newR (o := .lst []) hpw
    walk_at "go"
    refine iNewL (by simp) fun pm hpm => ?_
    have D8 := D7.newR (o := .lst []) hpm
    walk_at "go"
    refine iNewL (by simp) fun pc hpc => ?_
    have D9 := D8.newR (o := .lst [.int 0, .int 0, .int 0]) hpc
    walk_at "go"
    have n1 : pd ≠ pa := by walk_at "ne"
    have n2 : pd ≠ pw := by walk_at "ne"
    have n3 : pd ≠ pm := by walk_at "ne"
    have n4 : pd ≠ pc := by walk_at "ne"
    have n5 : pa ≠ pw := by walk_at "ne"
    have n6 : pa ≠ pm := by walk_at "ne"
    have n7 : pa ≠ pc := by walk_at "ne"
    have n8 : pw ≠ pm := by walk_at "ne"
    have n9 : pw ≠ pc := by walk_at "ne"
    have n10 : pm ≠ pc := by walk_at "ne"
    have a1 : a ≠ pd := by walk_at "ne"
    have a2 : a ≠ pa := by walk_at "ne"
    have a3 : a ≠ pw := by walk_at "ne"
    have a4 : a ≠ pm := by walk_at "ne"
    have a5 : a ≠ pc := by walk_at "ne"
    have s1 : (upd S0 a st2) pd = none := Evl.fresh_back D4.rs hpd
    have s2 : (upd S0 a st2) pa = none := Evl.fresh_back ((Evl.Ex.new s1).trans D5.rs) hpa
    have s3 : (upd S0 a st2) pw = none := Evl.fresh_back ((Evl.Ex.new s1).trans ((Evl.Ex.new (Evl.fresh_back D5.rs hpa)).trans D6.rs)) hpw
    have s4 : (upd S0 a st2) pm = none := Evl.fresh_back ((Evl.Ex.new s1).trans ((Evl.Ex.new (Evl.fresh_back D5.rs hpa)).trans ((Evl.Ex.new (Evl.fresh_back D6.rs hpw)).trans D7.rs))) hpm
    have s5 : (upd S0 a st2) pc = none := Evl.fresh_back ((Evl.Ex.new s1).trans ((Evl.Ex.new (Evl.fresh_back D5.rs hpa)).trans ((Evl.Ex.new (Evl.fresh_back D6.rs hpw)).trans ((Evl.Ex.new (Evl.fresh_back D7.rs hpm)).trans D8.rs)))) hpc
    have eS9 : Ex (upd S0 a st2) (upd (upd (upd (upd (upd (upd S0 a st2) pd (.dK [])) pa (.lst [])) pw (.lst [])) pm (.lst [])) pc (.lst [.int 0, .int 0, .int 0])) :=
      ((((Evl.Ex.new s1).mut s2).mut s3).mut s4).mut s5
    refine iDspI [(.inr "n", .int (n : Nat)), (.inr "away", .ref pa), (.inr "waiting", .ref pw), (.inr "media", .ref pm), (.inr "counts", .ref pc)] (by walk_at "look") (by simp) ?_
    rw [show mergeK [] [((.inr "n" : Key), V.int (n : Nat)), (.inr "away", .ref pa), (.inr "waiting", .ref pw), (.inr "media", .ref pm), (.inr "counts", .ref pc)] = [((.inr "n" : Key), V.int (n : Nat)), (.inr "away", .ref pa), (.inr "waiting", .ref pw), (.inr "media", .ref pm), (.inr "counts", .ref pc)] from mergeK_nodup _ _ (by show ([(.inr "n" : Key), .inr "away", .inr "waiting", .inr "media", .inr "counts"] : List Key).Nodup; decide +kernel)]
    have D10 := D9.put (p := pd) (o := .dK []) (o' := .dK [((.inr "n" : Key), V.int (n : Nat)), (.inr "away", .ref pa), (.inr "waiting", .ref pw), (.inr "media", .ref pm), (.inr "counts", .ref pc)]) (by walk_at "look")
    have eS10 := eS9.mut (o := .dK [((.inr "n" : Key), V.int (n : Nat)), (.inr "away", .ref pa), (.inr "waiting", .ref pw), (.inr "media", .ref pm), (.inr "counts", .ref pc)]) s1
    have r1 : (upd (upd (upd (upd (upd (upd (upd S0 a st2) pd (.dK [])) pa (.lst [])) pw (.lst [])) pm (.lst [])) pc (.lst [.int 0, .int 0, .int 0])) pd (.dK [((.inr "n" : Key), V.int (n : Nat)), (.inr "away", .ref pa), (.inr "waiting", .ref pw), (.inr "media", .ref pm), (.inr "counts", .ref pc)])) pa = some (.lst []) := by walk_at "look"
    have r2 : (upd (upd (upd (upd (upd (upd (upd S0 a st2) pd (.dK [])) pa (.lst [])) pw (.lst [])) pm (.lst [])) pc (.lst [.int 0, .int 0, .int 0])) pd (.dK [((.inr "n" : Key), V.int (n : Nat)), (.inr "away", .ref pa), (.inr "waiting", .ref pw), (.inr "media", .ref pm), (.inr "counts", .ref pc)])) pw = some (.lst []) := by walk_at "look"
    have r3 : (upd (upd (upd (upd (upd (upd (upd S0 a st2) pd (.dK [])) pa (.lst [])) pw (.lst [])) pm (.lst [])) pc (.lst [.int 0, .int 0, .int 0])) pd (.dK [((.inr "n" : Key), V.int (n : Nat)), (.inr "away", .ref pa), (.inr "waiting", .ref pw), (.inr "media", .ref pm), (.inr "counts", .ref pc)])) pm = some (.lst []) := by walk_at "look"
    have r4 : (upd (upd (upd (upd (upd (upd (upd S0 a st2) pd (.dK [])) pa (.lst [])) pw (.lst [])) pm (.lst [])) pc (.lst [.int 0, .int 0, .int 0])) pd (.dK [((.inr "n" : Key), V.int (n : Nat)), (.inr "away", .ref pa), (.inr "waiting", .ref pw), (.inr "media", .ref pm), (.inr "counts", .ref pc)])) pc = some (.lst [.int 0, .int 0, .int 0]) := by walk_at "look"
    have r0 : (upd (upd (upd (upd (upd (upd (upd S0 a st2) pd (.dK [])) pa (.lst [])) pw (.lst [])) pm (.lst [])) pc (.lst [.int 0, .int 0, .int 0])) pd (.dK [((.inr "n" : Key), V.int (n : Nat)), (.inr "away", .ref pa), (.inr "waiting", .ref pw), (.inr "media", .ref pm), (.inr "counts", .ref pc)])) pd = some (.dK [((.inr "n" : Key), V.int (n : Nat)), (.inr "away", .ref pa), (.inr "waiting", .ref pw), (.inr "media", .ref pm), (.inr "counts", .ref pc)]) := upd_same
    generalize (upd (upd (upd (upd (upd (upd (upd S0 a st2) pd (.dK [])) pa (.lst [])) pw (.lst [])) pm (.lst [])) pc (.lst [.int 0, .int 0, .int 0])) pd (.dK [((.inr "n" : Key), V.int (n : Nat)), (.inr "away", .ref pa), (.inr "waiting", .ref pw), (.inr "media", .ref pm), (.inr "counts", .ref pc)])) = Rs10 at D10 eS10 r0 r1 r2 r3 r4
    generalize upd (upd (upd (upd (upd (upd H4 pd _) pa _) pw _) pm _) pc _) pd _ = H10 at D10 ⊢
    clear D5 D6 D7 D8 D9 hpd hpa hpw hpm hpc eS9
    walk_at "go"
    refine ⟨a, l, (m : Int) - 2, rfl, (D2.exR eS10).exR D10.rs, by omega, by omega, fun v3 st3 v30 v31 D3 => ?_⟩
    obtain ⟨v3, rfl⟩ : ∃ k : Nat, v3 = k := ⟨v3.toNat, by omega⟩
    have dr3 := D2.down (eS10.trans D10.rs) D3
    rw [upd_upd] at dr3
    have D11 := D10.put (p := a) (o' := st3) (eS10 _ _ ha2)
    have eS11 := upd_mono (a := a) (o := st3) eS10
    rw [upd_upd] at eS11
    walk_at "go"
    refine iNewL (by simp) fun ps hps => ?_
    have hsc : [V.int 0, .int ((m : Int) - 1), .int (1 + (v3 : Int)), .int ((m : Int) / 2)] = natL [0, m - 1, 1 + v3, m / 2] := by
      show _ = [V.int ((0 : Nat) : Int), .int ((m - 1 : Nat) : Int), .int ((1 + v3 : Nat) : Int), .int ((m / 2 : Nat) : Int)]
      rw [show ((m - 1 : Nat) : Int) = (m : Int) - 1 by omega, show ((1 + v3 : Nat) : Int) = 1 + (v3 : Int) by omega, show ((m / 2 : Nat) : Int) = (m : Int) / 2 by omega]
      rfl
    rw [hsc] 
    have D12 := D11.newR (o := .lst (natL [0, m - 1, 1 + v3, m / 2])) hps
    have hpsR := Evl.fresh_back D11.rs hps
    have q0 : ∀ {p : Addr} {u : HO}, a ≠ p → Rs10 p = some u → (upd Rs10 a st3) p = some u := fun h1 h2 => (upd_ne h1.symm).trans h2
    have t0 := q0 a1 r0
    have t1 := q0 a2 r1
    have t2 := q0 a3 r2
    have t3 := q0 a4 r3
    have t4 := q0 a5 r4
    have m0 : pd ≠ ps := ne_of_none t0 hpsR
    have m1 : pa ≠ ps := ne_of_none t1 hpsR
    have m2 : pw ≠ ps := ne_of_none t2 hpsR
    have m3 : pm ≠ ps := ne_of_none t3 hpsR
    have m4 : pc ≠ ps := ne_of_none t4 hpsR
    have m5 : a ≠ ps := ne_of_none upd_same hpsR
    walk_at "go"
    refine iDPs ((upd_ne m0).trans (D11.rs _ _ t0)) (by simp) ?_
    have D13 := D12.put (p := pd) (o' := .dK (putK [((.inr "n" : Key), V.int (n : Nat)), (.inr "away", .ref pa), (.inr "waiting", .ref pw), (.inr "media", .ref pm), (.inr "counts", .ref pc)] (.inr "sectors") (.ref ps))) ((upd_ne m0).trans t0)
    have S3p : ∀ p, a ≠ p → (upd S0 a st2) p = none → (upd S0 a st3) p = none := fun p h1 h2 => by rw [upd_ne h1.symm] at h2 ⊢; exact h2
    have S3s : (upd S0 a st3) ps = none := Evl.fresh_back eS11 hpsR
    have k4 : Mk4 (upd S0 a st3) (upd (upd (upd Rs10 a st3) ps (.lst (natL [0, m - 1, 1 + v3, m / 2]))) pd (.dK (putK [((.inr "n" : Key), V.int (n : Nat)), (.inr "away", .ref pa), (.inr "waiting", .ref pw), (.inr "media", .ref pm), (.inr "counts", .ref pc)] (.inr "sectors") (.ref ps)))) (LF pd pa pw pm pc ps) n [0, m - 1, 1 + v3, m / 2] [] [] := by
      refine ⟨⟨fun x hx => ?_, fun x y hx hy e => ?_⟩, (eS11.trans (Evl.Ex.new hpsR)).mut (S3p _ a1 s1), fun x hx => ?_, List.nodup_nil, List.nodup_nil, fun p h => (by cases h), fun p h => (by cases h)⟩
      · cases x with
        | obj => rw [putK_new _ (by rfl)]; exact upd_same
        | away => exact (upd_ne n1.symm).trans ((upd_ne m1).trans t1)
        | wait => exact (upd_ne n2.symm).trans ((upd_ne m2).trans t2)
        | media => exact (upd_ne n3.symm).trans ((upd_ne m3).trans t3)
        | counts => exact (upd_ne n4.symm).trans ((upd_ne m4).trans t4)
        | sectors => exact (upd_ne m0.symm).trans upd_same
        | med d => exact hx.elim
        | wai d => exact hx.elim
      · cases x <;> cases y <;> first | rfl | exact hx.elim | exact hy.elim | exact absurd e (by assumption) | exact absurd e.symm (by assumption)
      · cases x with
        | obj => exact S3p _ a1 s1
        | away => exact S3p _ a2 s2
        | wait => exact S3p _ a3 s3
        | media => exact S3p _ a4 s4
        | counts => exact S3p _ a5 s5
        | sectors => exact S3s
        | med d => exact hx.elim
        | wai d => exact hx.elim
    generalize upd (upd (upd Rs10 a st3) ps _) pd _ = Rs13 at D13 k4
    generalize upd (upd (upd H10 a st3) ps _) pd _ = H13 at D13 ⊢
    clear D10 D11 D12 hps hpsR t0 t1 t2 t3 t4 r0 r1 r2 r3 r4 eS10 eS11 D2 E2 ha4 hl4 ha2 hl2 s1 s2 s3 s4 s5 n1 n2 n3 n4 n5 n6 n7 n8 n9 n10 m0 m1 m2 m3 m4 m5 S3s S3p a1 a2 a3 a4 a5
    have elf : LF pd pa pw pm pc ps .obj = pd := rfl
    have hsl : [0, m - 1, 1 + v3, m / 2].length = 4 := rfl
    have hsm : ∀ j ∈ [0, m - 1, 1 + v3, m / 2], j < m := fun j hj => by
      simp only [List.mem_cons, List.not_mem_nil, or_false] at hj
      omega
    have hs0 : 0 ∈ [0, m - 1, 1 + v3, m / 2] := List.mem_cons_self ..
    generalize [0, m - 1, 1 + v3, m / 2] = secs at k4 hsl hsm hs0
    generalize LF pd pa pw pm pc ps = L0 at k4 elf
    walk_at "go"
    refine forJ_range0 (fun i σ' H' => (∃ x, σ' = [some (.ref sc), some (.ref a), some (.int n), some (.int m), some (.ref (L .obj)), some (.ref pd), x, none, none, none, none, none, none]) ∧
      ∃ Rs' ms qs, DAt C H' F4 Rs' L (DK.new n m 1 1) ∧ Mk4 (upd S0 a st3) Rs' L0 n secs ms qs ∧ ms.length = i ∧ qs.length = i) ⟨⟨_, rfl⟩, _, [], [], D13, k4, rfl, rfl⟩ (fun i σ' H' hi hp' => ?_) (fun σ' H' hp' => ?_)
    · rw [Int.toNat_natCast] at hi
      obtain ⟨⟨x1, rfl⟩, Rs', ms, qs, D7, k7, lm, lq⟩ := hp'
      have hd7 := D7.rs _ _ (k7.lay.at_ .obj trivial)
      have hw7 := D7.rs _ _ (k7.lay.at_ .wait trivial)
      rw [elf] at hd7
      walk_at "go"
      refine iDGs hd7 rfl ?_
      refine iBMv hw7 ?_
      walk_at "go"
      refine iNewL (by simp) fun u hu => ?_
      have hu' := Evl.fresh_back D7.rs hu
      have nwu : L0 .wait ≠ u := ne_of_none (k7.lay.at_ .wait trivial) hu'
      walk_at "go"
      refine iApp ((upd_ne nwu).trans hw7) (by rw [List.length_map]; omega) ?_
      have D8 := (D7.newR (o := .lst []) hu).put (o' := .lst (qs.map V.ref ++ [V.ref u])) ((upd_ne nwu).trans (k7.lay.at_ .wait trivial))
      have k8 := k7.addQ hu'
      generalize upd (upd Rs' u _) _ _ = Rs8 at D8 k8
      generalize upd (upd H' u _) _ _ = H8 at D8 ⊢
      have hd8 := D8.rs _ _ (k8.lay.at_ .obj trivial)
      have hm8 := D8.rs _ _ (k8.lay.at_ .media trivial)
      rw [elf] at hd8
      walk_at "go"
      refine iDGs hd8 rfl ?_
      refine iBMv hm8 ?_
      walk_at "go"
      refine iDNew fun y hy => ?_
      have hy' := Evl.fresh_back D8.rs hy
      have nmy : L0 .media ≠ y := ne_of_none (k8.lay.at_ .media trivial) hy'
      walk_at "go"
      refine iApp ((upd_ne nmy).trans hm8) (by rw [List.length_map]; omega) ?_
      walk_at "go"
      exact ⟨⟨_, rfl⟩, _, ms ++ [y], qs ++ [u], (D8.newR (o := .dK []) hy).put ((upd_ne nmy).trans (k8.lay.at_ .media trivial)), k8.addM hy', by rw [List.length_append, lm]; rfl, by rw [List.length_append, lq]; rfl⟩
    · rw [Int.toNat_natCast] at hp'
      obtain ⟨⟨x1, rfl⟩, Rs7, ms, qs, D7, k7, lm, lq⟩ := hp'
      have w0 : We C H' F4 Rs7 (upd S0 a st3) L (DK.new n m 1 1) (LW L0 ms qs) ⟨n, m, [], fun _ => [], fun _ _ => none, 0, 0, 0, secs, 0⟩ := ⟨D7, k7.done lm lq hn4.2 hsl hsm⟩
      have R0 : RelW (DK.new n m 1 1) ⟨n, m, [], fun _ => [], fun _ _ => none, 0, 0, 0, secs, 0⟩ := relW_new hn4.1
      have f0 : FewW (DK.new n m 1 1) 0 := fun d _ => Nat.le_refl _
      have g0 : (DK.new n m 1 1).n = n ∧ (DK.new n m 1 1).m = m ∧ (DK.new n m 1 1).on = true ∧ (DK.new n m 1 1).left = none ∧ (DK.new n m 1 1).fails = 0 := ⟨rfl, rfl, rfl, rfl, rfl⟩
      have eW : (⟨n, m, [], fun _ => [], fun _ _ => none, 0, 0, 0, secs, 0⟩ : WM).secs = secs ∧ (⟨n, m, [], fun _ => [], fun _ _ => none, 0, 0, 0, secs, 0⟩ : WM).sz = 0 ∧ (⟨n, m, [], fun _ => [], fun _ _ => none, 0, 0, 0, secs, 0⟩ : WM).aw.length = 0 := ⟨rfl, rfl, rfl⟩
      have elw : LW L0 ms qs .obj = pd := elf
      generalize DK.new n m 1 1 = D at w0 R0 f0 g0
      generalize (⟨n, m, [], fun _ => [], fun _ _ => none, 0, 0, 0, secs, 0⟩ : WM) = W at w0 R0 eW
      generalize LW L0 ms qs = LM at w0 elw
      rw [← elw]
      clear D7 k7 D13 k4
      walk_at "go"
      refine j_nextW w0 dr3 (by decide) (by decide) fun v4 H14 Rs14 st4 hv4 w1 dr4 => ?_
      rw [upd_upd] at w1 dr4
      walk_at "go"
      refine forJ_range0 (fun i σ' H' => (∃ x y, σ' = [some (.ref sc), some (.ref a), some (.int n), some (.int m), some (.ref (L .obj)), some (.ref (LM .obj)), x, y, none, none, none, none, none]) ∧
        ∃ F' Rs' st D' W', We C H' F' Rs' (upd S0 a st) L D' LM W' ∧ DrawAt (upd S0 a st) a l ∧ RelW D' W' ∧ FewW D' i ∧ (D'.n = n ∧ D'.m = m ∧ D'.on = true ∧ D'.left = none ∧ D'.fails = 0) ∧ W'.secs = secs ∧ W'.sz = 0 ∧ W'.aw.length ≤ i) ⟨⟨_, _, rfl⟩, F4, Rs14, st4, D, W, w1, dr4, R0, f0, g0, eW.1, eW.2.1, Nat.le_of_eq eW.2.2⟩ (fun i σ' H' hi hp' => ?_) (fun σ' H' hp' => ?_)
      · rw [Int.toNat_natCast] at hi
        obtain ⟨⟨x1, x2, rfl⟩, F', Rs', st, D', W', w2, dr, R2, f2, g2, e1, e2, e3⟩ := hp'
        walk_at "go"
        refine j_lwrite w2 dr R2 f2 (by omega) g2.2.2.1 (by rw [g2.2.2.2.1]; intro z; cases z) fun H5 F5 Rs5 st5 D5 W5 ef w5 dr5 R5 f5 on5 l5 n5 m5 fa5 iu5 sc5 sz5 aw5 => ?_
        rw [upd_upd] at w5 dr5
        walk_at "go"
        exact ⟨⟨_, _, rfl⟩, F5, Rs5, st5, D5, W5, w5, dr5, R5, f5, ⟨n5.trans g2.1, m5.trans g2.2.1, on5, by rw [l5, g2.2.2.2.1]; rfl, fa5.trans g2.2.2.2.2⟩, sc5.trans e1, sz5.trans e2, by rw [aw5]; exact Nat.le_succ_of_le e3⟩
      · obtain ⟨⟨x1, x2, rfl⟩, F5, Rs5, st5, D5, W5, w5, dr5, R5, f5, g5, e51, e52, e53⟩ := hp'
        have b9 : (Int.toNat (v4 : Int)) ≤ 8 := by omega
        have f5 : FewW D5 8 := fun d hd => Nat.le_trans (f5 d hd) b9
        have e53 : W5.aw.length ≤ 8 := Nat.le_trans e53 b9
        obtain ⟨dx5, szs5, hO5, -⟩ := w5.d.obj
        walk_at "go"
        refine ⟨F5, _, L, D5, rfl, w5.d, fun d hd => by have := f5 d hd; omega, fun z => (by rw [g5.2.2.1] at z; cases z), fun _ z => (by rw [g5.2.2.2.1] at z; cases z), fun _ _ H6 L6 el6 D6 => ?_⟩
        have w6 := w5.step (Ex.refl _) D6
        obtain ⟨cm6, cw6, m6⟩ := id w6.m
        have hO6 := w6.rs _ _ m6.hO
        have hC6 := w6.rs _ _ m6.hC
        have n8 := m6.n8
        have enW : W5.n = n := R5.n.trans g5.1
        walk_at "go"
        refine iDGs hO6 rfl ?_
        walk_at "go"
        have m7 := m6.setCounts (a := W5.c0) (b := W5.c1) (c := W5.c2 + 1)
        have D7 := w6.d.put (o' := .lst [.int (W5.c0 : Nat), .int (W5.c1 : Nat), .int ((W5.c2 + 1 : Nat) : Int)]) m6.hC
        generalize hH7 : upd H6 (LM .counts) _ = H7
        have e54 : ({ W5 with c0 := W5.c0, c1 := W5.c1, c2 := W5.c2 + 1 } : WM) = { W5 with c2 := W5.c2 + 1 } := rfl
        rw [e54] at m7
        generalize upd Rs5 (LM .counts) _ = Rs7 at D7 m7
        have w7 : We C H7 F5 Rs7 (upd S0 a st5) L6 D5.sync LM { W5 with c2 := W5.c2 + 1 } := by rw [← hH7]; exact ⟨D7, m7.at_⟩
        clear hH7
        clear D6 D7 w6 m6 m7 hO6 hC6
        walk_at "go"
        refine forJ_range0 (fun i σ' H' => (∃ x1 x2 x3 x4, σ' = [some (.ref sc), some (.ref a), some (.int n), some (.int m), some (.ref (L .obj)), some (.ref (LM .obj)), x1, x2, x3, x4, none, none, none]) ∧
          ∃ Rs' LM' s, LM' .obj = LM .obj ∧ We C H' F5 Rs' (upd S0 a st5) L6 D5.sync LM' (({ W5 with c2 := W5.c2 + 1 } : WM).settles (fun d => List.replicate (D5.wait d).length true) i s) ∧ s ≤ 8 * i) ⟨⟨_, _, _, _, rfl⟩, Rs7, LM, W5.sz, rfl, ?_, by omega⟩ (fun i σ' H' hi hp' => ?_) (fun σ' H' hp' => ?_)
        · show We C H7 F5 Rs7 (upd S0 a st5) L6 D5.sync LM (({ W5 with c2 := W5.c2 + 1 } : WM).settles (fun d => List.replicate (D5.wait d).length true) 0 ({ W5 with c2 := W5.c2 + 1 } : WM).sz)
          rw [WM.settles0]
          exact w7
        · rw [Int.toNat_natCast] at hi
          obtain ⟨⟨y1, y2, y3, y4, rfl⟩, Rs', LM', s, elm, w8, hs8⟩ := hp'
          have hiD : i < D5.n := by omega
          have hiW : i < W5.n := by omega
          have lwi := f5 i hiD
          have ewt : ((({ W5 with c2 := W5.c2 + 1 } : WM).settles (fun d => List.replicate (D5.wait d).length true) i s)).wait i = D5.wait i := (if_neg (Nat.lt_irrefl i)).trans (R5.wait i hiD)
          have snn : ((({ W5 with c2 := W5.c2 + 1 } : WM).settles (fun d => List.replicate (D5.wait d).length true) i s)).n = W5.n := rfl
          have ssz : ((({ W5 with c2 := W5.c2 + 1 } : WM).settles (fun d => List.replicate (D5.wait d).length true) i s)).sz = s := rfl
          have fin := @WM.settles_done { W5 with c2 := W5.c2 + 1 } (fun d => List.replicate (D5.wait d).length true) i s
          rw [show (({ W5 with c2 := W5.c2 + 1 } : WM).wait i) = D5.wait i from R5.wait i hiD] at fin
          generalize (({ W5 with c2 := W5.c2 + 1 } : WM).settles (fun d => List.replicate (D5.wait d).length true) i s) = Wi at w8 ewt snn ssz fin
          obtain ⟨cm8, cw8, m8⟩ := id w8.m
          have hO8 := w8.rs _ _ m8.hO
          have hW8 := w8.rs _ _ m8.hW
          have hiI : i < Wi.n := by rw [snn]; exact hiW
          have hw8 := w8.rs _ _ (m8.hw hiI)
          have lw8 := (m8.wai i hiI).len
          rw [ewt] at lw8
          rw [← elm]
          walk_at "go"
          refine iDGs hO8 rfl ?_
          walk_at "go"
          refine iIxL hW8 ((atI_natL _ _).trans (waiW_get hiI)) ?_
          walk_at "go"
          refine forJ_list (cw8 i) (fun t σ' H'' => (∃ x2 x3 x4, σ' = [some (.ref sc), some (.ref a), some (.int n), some (.int m), some (.ref (L .obj)), some (.ref (LM' .obj)), some (.int i), x2, x3, x4, none, none, none]) ∧
            ∃ Rs9 cm9, DAt C H'' F5 Rs9 L6 D5.sync ∧ WRep Rs9 F5 (upd S0 a st5) LM' (Wi.lay i (List.replicate (D5.wait i).length true) t) cm9 cw8) ⟨⟨_, _, _, rfl⟩, Rs', cm8, w8.d, WM.lay0.symm ▸ m8⟩ (fun t σ' H'' ht hp9 => ?_) (fun t x σ' H'' hx hp9 => ?_) (fun σ' H'' hp9 => ?_)
          · obtain ⟨_, Rs9, cm9, D9, m9⟩ := hp9
            exact D9.rs _ _ (m9.hw (d := i) hiI)
          · obtain ⟨⟨z2, z3, z4, rfl⟩, Rs9, cm9, D9, m9⟩ := hp9
            have htl : t < (D5.wait i).length := by rw [← lw8]; exact (List.getElem?_eq_some_iff.mp hx).1
            have hz : (Wi.wait i)[t]? = some ((D5.wait i)[t]'htl) := by rw [ewt]; exact List.getElem?_eq_getElem htl
            obtain ⟨hj, t2, p2, rfl, ht2, hp2⟩ := (m8.wai i hiI).at_ t x _ hx hz
            have ht2' := D9.fs _ _ ht2
            have hO9 := D9.rs _ _ m9.hO
            have hM9 := D9.rs _ _ m9.hM
            have hm9 := D9.rs _ _ (m9.hm (d := i) hiI)
            have ls9 := (m9.med i hiI).len
            have ls9 : (cm9 i).length ≤ Wi.sz + t := ls9
            walk_at "go"
            refine iDGs hO9 rfl ?_
            walk_at "go"
            refine iIxL hM9 ((atI_natL _ _).trans (medW_get hiI)) ?_
            walk_at "go"
            refine iDPi hm9 (by omega) ?_
            exact ⟨⟨_, _, _, rfl⟩, _, _, D9.put (m9.hm (d := i) hiI), m9.layOne hiI hz (by rw [List.getElem?_replicate, if_pos htl]) hp2⟩
          · obtain ⟨⟨z2, z3, z4, rfl⟩, Rs9, cm9, D9, m9⟩ := hp9
            rw [lw8, ← ewt] at m9
            have hO9 := D9.rs _ _ m9.hO
            have hW9 := D9.rs _ _ m9.hW
            walk_at "go"
            refine iNewL (by simp) fun u hu => ?_
            have hu' := Evl.fresh_back D9.rs hu
            have fr := m9.own.free hu'
            walk_at "go"
            refine iDGs ((upd_ne (fr.2.2 .obj trivial)).trans hO9) rfl ?_
            walk_at "go"
            refine iSetL ((upd_ne (fr.2.2 .wait trivial)).trans hW9) (k := i) (by rw [ixN_natL, waiW_len]; exact if_pos hiI) ?_
            have m10 := m9.layEnd (ks := List.replicate (Wi.wait i).length true) hiI hu'
            rw [ewt, fin] at m10
            exact ⟨⟨_, _, _, _, rfl⟩, _, _, s + (D5.wait i).length, chg_ne (x := WL.wai i) (by intro y; cases y), ⟨(D9.newR hu).put ((upd_ne (fr.2.2 .wait trivial)).trans m9.hW), m10.at_⟩, by omega⟩
        · rw [Int.toNat_natCast] at hp'
          obtain ⟨⟨y1, y2, y3, y4, rfl⟩, Rs8, LM8, s8, elm8, w8, hs8⟩ := hp'
          have R8 := R5.settles (fun d => List.replicate (D5.wait d).length true) s8 D5.sync (W5.c2 + 1) rfl rfl rfl rfl rfl rfl rfl (congrArg (· + 1) R5.c2.symm)
          rw [show ({ W5.settles (fun d => List.replicate (D5.wait d).length true) D5.n s8 with c2 := W5.c2 + 1 } : WM) = ({ W5 with c2 := W5.c2 + 1 } : WM).settles (fun d => List.replicate (D5.wait d).length true) n s8 by rw [g5.1]; rfl] at R8
          have f8 : FewW D5.sync 0 := fun d hd => by
            show (if d < D5.n then [] else _ : List (Nat × Sec)).length ≤ 0
            rw [if_pos (show d < D5.n from hd)]; exact Nat.le_refl _
          have g8 : D5.sync.n = n ∧ D5.sync.m = m ∧ D5.sync.on = true ∧ D5.sync.left = none ∧ D5.sync.fails = 0 := ⟨g5.1, g5.2.1, g5.2.2.1, by show D5.left.map _ = none; rw [g5.2.2.2.1]; rfl, g5.2.2.2.2⟩
          have k8 : (({ W5 with c2 := W5.c2 + 1 } : WM).settles (fun d => List.replicate (D5.wait d).length true) n s8).secs = secs ∧ (({ W5 with c2 := W5.c2 + 1 } : WM).settles (fun d => List.replicate (D5.wait d).length true) n s8).sz ≤ 100 ∧ (({ W5 with c2 := W5.c2 + 1 } : WM).settles (fun d => List.replicate (D5.wait d).length true) n s8).aw.length ≤ 100 := ⟨e51, by show s8 ≤ 100; omega, by show W5.aw.length ≤ 100; omega⟩
          generalize ({ W5 with c2 := W5.c2 + 1 } : WM).settles (fun d => List.replicate (D5.wait d).length true) n s8 = W8 at w8 R8 k8
          generalize D5.sync = D8 at w8 R8 f8 g8
          rw [← elm8, ← el6]
          clear w7 w5 R5 f5 g5 elw
          walk_at "go"
          refine j_nextW w8 dr5 (by decide) (by decide) fun v9 H9 Rs9 st9 hv9 w9 dr9 => ?_
          rw [upd_upd] at w9 dr9
          walk_at "go"
          refine forJ_range0 (fun i σ' H' => (∃ x1 x2 x3 x4, σ' = [some (.ref sc), some (.ref a), some (.int n), some (.int m), some (.ref (L6 .obj)), some (.ref (LM8 .obj)), x1, x2, x3, x4, none, none, none]) ∧
            ∃ F' Rs' st L' D' LM' W', L' .obj = L6 .obj ∧ LM' .obj = LM8 .obj ∧ We C H' F' Rs' (upd S0 a st) L' D' LM' W' ∧ DrawAt (upd S0 a st) a l ∧ RelW D' W' ∧ FewW D' 0 ∧ (D'.n = n ∧ D'.m = m ∧ D'.on = true ∧ D'.left = none ∧ D'.fails = 0) ∧ W'.secs = secs ∧ W'.sz ≤ 100 + i ∧ W'.aw.length ≤ 100 + i) ⟨⟨_, _, _, _, rfl⟩, F5, Rs9, st9, L6, D8, LM8, W8, rfl, rfl, w9, dr9, R8, f8, g8, k8.1, k8.2.1, k8.2.2⟩ (fun i σ' H' hi hp' => ?_) (fun σ' H' hp' => ?_)
          · rw [Int.toNat_natCast] at hi
            obtain ⟨⟨x1, x2, x3, x4, rfl⟩, F', Rs', st, L', D', LM', W', el, em, w10, dr, R10, f10, g10, c1, c2, c3⟩ := hp'
            rw [← el, ← em]
            walk_at "go"
            refine j_lfault w10 dr R10 f10 (by omega) (by omega) (by omega) fun H5 F5 Rs5 st5 L5 D5 LM5 W5 ef w5 dr5 R5 f5 sd el5 em5 sc5 sz5 aw5 => ?_
            rw [upd_upd] at w5 dr5
            walk_at "go"
            exact ⟨⟨_, _, _, _, rfl⟩, F5, Rs5, st5, L5, D5, LM5, W5, el5, em5, w5, dr5, R5, f5, ⟨sd.n.trans g10.1, sd.m.trans g10.2.1, sd.on.trans g10.2.2.1, sd.left.trans g10.2.2.2.1, sd.fails.trans g10.2.2.2.2⟩, sc5.trans c1, by omega, by omega⟩
          · rw [Int.toNat_natCast] at hp'
            obtain ⟨⟨x1, x2, x3, x4, rfl⟩, F10, Rs10, st10, L10, D10, LM10, W10, el10, em10, w10, dr10, R10, f10, g10, c101, c102, c103⟩ := hp'
            rw [← el10, ← em10]
            clear w9 w8 R8 f8 g8 k8 dr9
            obtain ⟨dx10, szs10, hO10, -⟩ := w10.d.obj
            walk_at "go"
            refine j_nextW w10 dr10 (by decide) (by decide) fun left H11 Rs11 st11 hleft w11 dr11 => ?_
            rw [upd_upd] at w11 dr11
            obtain ⟨dx11, szs11, hO11, -⟩ := w11.d.obj
            walk_at "go"
            refine ⟨F10, _, L10, D10, left, rfl, w11.d, fun z => (by rw [g10.2.2.1] at z; cases z), fun _ H12 D12 => ?_⟩
            have w12 := w11.step (Ex.refl _) D12
            have R12 : RelW { D10 with left := some left } W10 := R10.cong rfl rfl rfl rfl rfl rfl rfl rfl
            have f12 : FewW { D10 with left := some left } 0 := f10
            have g12 : ({ D10 with left := some left } : DK).n = n ∧ ({ D10 with left := some left } : DK).m = m ∧ ({ D10 with left := some left } : DK).on = true ∧ ({ D10 with left := some left } : DK).left = some (left - 0) ∧ ({ D10 with left := some left } : DK).fails = 0 := ⟨g10.1, g10.2.1, g10.2.2.1, rfl, g10.2.2.2.2⟩
            generalize ({ D10 with left := some left } : DK) = D12 at w12 R12 f12 g12
            walk_at "go"
            refine forJ_range0 (fun i σ' H' => (∃ x1 x2 x3 x4, σ' = [some (.ref sc), some (.ref a), some (.int n), some (.int m), some (.ref (L10 .obj)), some (.ref (LM10 .obj)), x1, x2, x3, x4, some (.int left), none, none]) ∧
              ∃ F' Rs' st D' W', We C H' F' Rs' (upd S0 a st) L10 D' LM10 W' ∧ DrawAt (upd S0 a st) a l ∧ RelW D' W' ∧ FewW D' i ∧ (D'.n = n ∧ D'.m = m ∧ D'.on = true ∧ D'.left = some (left - i) ∧ D'.fails = 0) ∧ W'.secs = secs ∧ W'.sz ≤ 200 ∧ W'.aw.length ≤ 200) ⟨⟨_, _, _, _, rfl⟩, F10, Rs11, st11, D12, W10, w12, dr11, R12, f12, g12, c101, by omega, by omega⟩ (fun i σ' H' hi hp' => ?_) (fun σ' H' hp' => ?_)
            · rw [Int.toNat_natCast] at hi
              obtain ⟨⟨x1, x2, x3, x4, rfl⟩, F', Rs', st, D', W', w2, dr, R2, f2, g2, e1, e2, e3⟩ := hp'
              walk_at "go"
              refine j_lwrite w2 dr R2 f2 (by omega) g2.2.2.1 (by rw [g2.2.2.2.1]; intro z; injection z with z; omega) fun H5 F5 Rs5 st5 D5 W5 ef w5 dr5 R5 f5 on5 l5 n5 m5 fa5 iu5 sc5 sz5 aw5 => ?_
              rw [upd_upd] at w5 dr5
              walk_at "go"
              exact ⟨⟨_, _, _, _, rfl⟩, F5, Rs5, st5, D5, W5, w5, dr5, R5, f5, ⟨n5.trans g2.1, m5.trans g2.2.1, on5, by rw [l5, g2.2.2.2.1]; rfl, fa5.trans g2.2.2.2.2⟩, sc5.trans e1, sz5.symm ▸ e2, aw5.symm ▸ e3⟩
            · rw [Int.toNat_natCast] at hp'
              obtain ⟨⟨x1, x2, x3, x4, rfl⟩, F13, Rs13, st13, D13, W13, w13, dr13, R13, f13, g13, e131, e132, e133⟩ := hp'
              have f13' : FewW D13 12 := fun d hd => Nat.le_trans (f13 d hd) (by omega)
              have f13 : FewW D13 80000 := fun d hd => Nat.le_trans (f13' d hd) (by omega)
              walk_at "go"
              refine j_right w13 R13 f13 fun H14 e14 => ?_
              have w14 := w13.ex e14
              obtain ⟨dx14, szs14, hO14, -⟩ := w14.d.obj
              walk_at "go"
              refine j_is_on w14.d ?_
              rw [g13.2.2.1]
              walk_at "go"
              refine j_dark w14 dr13 (by omega) (by omega) f13 (fun _ => by rw [g13.2.2.2.1, Nat.sub_self]) (fun z => (by rw [g13.2.2.1] at z; cases z)) fun H15 Rs15 st15 w15 dr15 => ?_
              rw [upd_upd] at w15 dr15
              have ed : darkD D13 = D13.fail := by unfold darkD; rw [g13.2.2.1]; rfl
              rw [ed] at w15
              have R15 := R13.fail
              have f15 : FewW D13.fail 80000 := f13
              have f15' : FewW D13.fail 12 := f13'
              have g15 : D13.fail.n = n ∧ D13.fail.m = m ∧ D13.fail.on = false ∧ D13.fail.inuse = false ∧ D13.fail.fails = 1 := ⟨g13.1, g13.2.1, rfl, rfl, by show D13.fails + 1 = 1; rw [g13.2.2.2.2]⟩
              generalize D13.fail = D15 at w15 R15 f15 f15' g15
              walk_at "go"
              refine j_right w15 R15 f15 fun H16 e16 => ?_
              have w16 := w15.ex e16
              obtain ⟨dx16, szs16, hO16, -⟩ := w16.d.obj
              walk_at "go"
              refine j_losses w16.d ?_
              rw [g15.2.2.2.2]
              walk_at "go"
              refine j_nextW w16 dr15 (by decide) (by decide) fun v17 H17 Rs17 st17 hv17 w17 dr17 => ?_
              rw [upd_upd] at w17 dr17
              walk_at "go"
              refine forJ_range0 (fun i σ' H' => (∃ x1 x2 x3 x4 x5, σ' = [some (.ref sc), some (.ref a), some (.int n), some (.int m), some (.ref (L10 .obj)), some (.ref (LM10 .obj)), x1, x2, x3, x4, some (.int left), x5, none]) ∧
                ∃ F' Rs' st L' D' LM' W', L' .obj = L10 .obj ∧ LM' .obj = LM10 .obj ∧ We C H' F' Rs' (upd S0 a st) L' D' LM' W' ∧ DrawAt (upd S0 a st) a l ∧ RelW D' W' ∧ FewW D' 12 ∧ (D'.n = n ∧ D'.m = m ∧ D'.on = false ∧ D'.inuse = false ∧ D'.fails = 1) ∧ W'.secs = secs ∧ W'.sz ≤ 200 + i ∧ W'.aw.length ≤ 200 + i) ⟨⟨_, _, _, _, _, rfl⟩, F13, Rs17, st17, L10, D15, LM10, W13, rfl, rfl, w17, dr17, R15, f15', g15, e131, e132, e133⟩ (fun i σ' H' hi hp' => ?_) (fun σ' H' hp' => ?_)
              · rw [Int.toNat_natCast] at hi
                obtain ⟨⟨x1, x2, x3, x4, x5, rfl⟩, F', Rs', st, L', D', LM', W', el, em, w10, dr, R10, f10, g10, c1, c2, c3⟩ := hp'
                rw [← el, ← em]
                walk_at "go"
                refine j_lfault w10 dr R10 f10 (by omega) (by omega) (by omega) fun H5 F5 Rs5 st5 L5 D5 LM5 W5 ef w5 dr5 R5 f5 sd el5 em5 sc5 sz5 aw5 => ?_
                rw [upd_upd] at w5 dr5
                have en5 := sd.n.trans g10.1
                have em5' := sd.m.trans g10.2.1
                rw [← el5, ← em5]
                walk_at "go"
                refine j_nextW w5 dr5 (by omega) (by omega) fun d H6 Rs6 st6 hd w6 dr6 => ?_
                rw [upd_upd] at w6 dr6
                have hdD : d < D5.n := by omega
                have hdW : d < W5.n := by rw [R5.n]; exact hdD
                have n8 : W5.n ≤ 8 := by obtain ⟨cm, cw, m⟩ := id w6.m; exact m.n8
                obtain ⟨dx6, szs6, hO6, -⟩ := w6.d.obj
                walk_at "go"
                refine j_ask (j := 0) w6.d hdD (by omega) fun v1 H7 H8 D8 e8 n8' => ?_
                have w8 : We C H8 F5 Rs6 (upd S0 a st6) L5 (D5.ask d) LM5 W5 := (⟨D8, w6.m⟩ : We C H7 F5 Rs6 (upd S0 a st6) L5 (D5.ask d) LM5 W5).ex e8
                walk_at "go"
                refine j_lcell (j := 0) w8.rs w8.d.fs w8.m hdW (by rw [R5.wait d hdD]; have := f5 d hdD; omega) fun u H9 e9 c9 => ?_
                rw [R5.cell hdD (by rw [sc5, c1]; exact hs0)] at c9
                have w9 := w8.ex e9
                obtain ⟨dt, h1, h2⟩ := atN_cell (n8'.ex e9) (R5.sec hdD) u (c9.ex w9.d.fs)
                walk_at "go"
                refine ⟨_, _, dt, rfl, h1, h2, ?_⟩
                obtain ⟨cm9, cw9, m9⟩ := id w9.m
                have hO9 := w9.rs _ _ m9.hO
                have hC9 := w9.rs _ _ m9.hC
                have hA9 := w9.rs _ _ m9.hA
                walk_at "go"
                refine iDGs hO9 rfl ?_
                walk_at "go"
                refine iDGs hO9 rfl ?_
                walk_at "go"
                refine iNinNat hA9 ?_
                walk_at "go"
                have R9 := R5.ask hdD
                have k9 : (D5.ask d).n = D5.n ∧ (D5.ask d).m = D5.m ∧ (D5.ask d).on = D5.on ∧ (D5.ask d).inuse = D5.inuse ∧ (D5.ask d).fails = D5.fails ∧ (D5.ask d).wait = D5.wait := by unfold DK.ask; split <;> exact ⟨rfl, rfl, rfl, rfl, rfl, rfl⟩
                have f9 : FewW (D5.ask d) 12 := fun e he => by rw [k9.2.2.2.2.2]; exact f5 e (k9.1 ▸ he)
                have f9' : FewW (D5.ask d) 80000 := fun e he => Nat.le_trans (f9 e he) (by omega)
                have m10 := m9.setCounts (a := W5.c0 + (if d ∈ W5.aw then 0 else 1)) (b := W5.c1) (c := W5.c2)
                have D10 := w9.d.put (o' := .lst [.int ((W5.c0 + (if d ∈ W5.aw then 0 else 1) : Nat) : Int), .int (W5.c1 : Nat), .int (W5.c2 : Nat)]) m9.hC
                have ec : (W5.c0 : Int) + (if (!decide (d ∈ W5.aw)) = true then 1 else 0) = ((W5.c0 + (if d ∈ W5.aw then 0 else 1) : Nat) : Int) := by
                  by_cases z : d ∈ W5.aw
                  · simp [z]
                  · simp [z]
                rw [ec]
                generalize hH10 : upd H9 (LM5 .counts) _ = H10
                generalize upd Rs6 (LM5 .counts) _ = Rs10 at D10 m10
                have w10' : We C H10 F5 Rs10 (upd S0 a st6) L5 (D5.ask d) LM5 { W5 with c0 := W5.c0 + (if d ∈ W5.aw then 0 else 1) } := by rw [← hH10]; exact ⟨D10, m10.at_⟩
                clear hH10
                walk_at "go"
                refine j_right w10' R9 f9' fun H11 e11 => ?_
                have w11 := w10'.ex e11
                walk_at "go"
                have don : (D5.ask d).on = false := k9.2.2.1.trans (sd.on.trans g10.2.2.1)
                refine j_dark w11 dr6 (by omega) (by omega) f9' (fun z => (by rw [don] at z; cases z)) (fun _ => k9.2.2.2.1.trans (sd.inuse.trans g10.2.2.2.1)) fun H12 Rs12 st12 w12 dr12 => ?_
                rw [upd_upd] at w12 dr12
                have ed : darkD (D5.ask d) = D5.ask d := by unfold darkD; rw [don]; rfl
                rw [ed] at w12
                walk_at "go"
                exact ⟨⟨_, _, _, _, _, rfl⟩, F5, Rs12, st12, L5, D5.ask d, LM5, _, rfl, rfl, w12, dr12, R9, f9, ⟨k9.1.trans en5, k9.2.1.trans em5', don, k9.2.2.2.1.trans (sd.inuse.trans g10.2.2.2.1), k9.2.2.2.2.1.trans (sd.fails.trans g10.2.2.2.2)⟩, sc5.trans c1, Nat.le_trans sz5 (by omega), Nat.le_trans aw5 (by omega)⟩
              · rw [Int.toNat_natCast] at hp'
                obtain ⟨⟨x1, x2, x3, x4, x5, rfl⟩, F20, Rs20, st20, L20, D20, LM20, W20, el20, em20, w20, dr20, R20, f20, g20, c201, c202, c203⟩ := hp'
                rw [← el20, ← em20]
                walk_at "go"
                refine iNewL (by simp) fun kp hkp => ?_
                have w21 := w20.new2 (o := .lst []) hkp
                have hkS : (upd S0 a st20) kp = none := Evl.fresh_back w20.r2h hkp
                obtain ⟨nsS, iS, rS, qS, haS, hlS, -⟩ := id dr20
                have nka : kp ≠ a := (ne_of_none (w20.r2h _ _ haS) hkp).symm
                have nkl0 : l ≠ kp := ne_of_none (w20.r2h _ _ hlS) hkp
                have dr21 := dr20.exR (Evl.Ex.new (o := .lst []) hkS)
                have k21 : KeptA (upd (upd S0 a st20) kp (.lst [])) a kp [] := ⟨nka, [], upd_same, rfl, fun i v k h => by simp at h⟩
                generalize upd (upd S0 a st20) kp (.lst []) = Rk0 at w21 dr21 k21
                generalize upd Rs20 kp (.lst []) = Rs21 at w21
                have n8 : W20.n ≤ 8 := by obtain ⟨cm, cw, m⟩ := id w20.m; exact m.n8
                have enW : W20.n = n := R20.n.trans g20.1
                walk_at "go"
                refine forJ_range0 (fun i σ' H' => (∃ x1 x2 x3 x4 x5, σ' = [some (.ref sc), some (.ref a), some (.int n), some (.int m), some (.ref (L20 .obj)), some (.ref (LM20 .obj)), x1, x2, x3, x4, some (.int left), x5, some (.ref kp)]) ∧
                  ∃ Rs' Rk LM' s ks, LM' .obj = LM20 .obj ∧ We C H' F20 Rs' Rk L20 D20 LM' (W20.settles (fun d => ks.getD d []) i s) ∧ DrawAt Rk a l ∧ KeptA Rk a kp ks ∧ ks.length = i ∧ s ≤ 300 + 12 * i) ⟨⟨_, _, _, _, _, rfl⟩, Rs21, Rk0, LM20, W20.sz, [], rfl, ?_, dr21, k21, rfl, by omega⟩ (fun i σ' H' hi hp' => ?_) (fun σ' H' hp' => ?_)
                · rw [WM.settles0]; exact w21
                · rw [Int.toNat_natCast] at hi
                  obtain ⟨⟨x1, x2, x3, x4, x5, rfl⟩, Rs', Rk, LM', s, ks, elm, w22, dr22, hk, lk, hs⟩ := hp'
                  have hiD : i < D20.n := by omega
                  have lwi := f20 i hiD
                  have ewt : (W20.settles (fun d => ks.getD d []) i s).wait i = D20.wait i := (if_neg (Nat.lt_irrefl i)).trans (R20.wait i hiD)
                  have snn : (W20.settles (fun d => ks.getD d []) i s).n = W20.n := rfl
                  have ssz : (W20.settles (fun d => ks.getD d []) i s).sz = s := rfl
                  have fin : ∀ kk, (W20.settles (fun d => ks.getD d []) i s).done i kk = W20.settles (fun d => (ks ++ [kk]).getD d []) (i + 1) (s + (D20.wait i).length) := fun kk => by
                    have e1 : W20.settles (fun d => ks.getD d []) i s = W20.settles (fun d => (ks ++ [kk]).getD d []) i s := WM.settles_congr fun d hd => by
                      rw [List.getD_eq_getElem?_getD, List.getD_eq_getElem?_getD, List.getElem?_append_left (by omega)]
                    have e2 : kk = (ks ++ [kk]).getD i [] := by rw [List.getD_eq_getElem?_getD, List.getElem?_append_right (by omega), lk, Nat.sub_self]; rfl
                    have := @WM.settles_done W20 (fun d => (ks ++ [kk]).getD d []) i s
                    rw [R20.wait i hiD] at this
                    rw [e1, ← this]
                    show _ = (W20.settles (fun d => (ks ++ [kk]).getD d []) i s).done i ((ks ++ [kk]).getD i [])
                    rw [← e2]
                  generalize W20.settles (fun d => ks.getD d []) i s = Wi at w22 ewt snn ssz fin
                  have hk0 := hk
                  obtain ⟨-, xs, hxs, lxs, -⟩ := hk0
                  have hxH := w22.r2h _ _ hxs
                  rw [← elm]
                  walk_at "go"
                  refine iMt rfl hxH ?_
                  walk_at "go"
                  refine j_nextW w22 dr22 (by decide) (by decide) fun cnt H23 Rs23 st23 hcnt w23 dr23 => ?_
                  walk_at "go"
                  refine lc_r0 (by repeat constructor) (fun D' i' acc H => ∃ Rs' st bs, We C H F20 Rs' (upd Rk a st) L20 D20 LM' Wi ∧ DrawAt (upd Rk a st) a l ∧ acc = (bs : List Bool).map V.bl ∧ bs.length = i' ∧ Rs' D' = none ∧ F20 D' = none ∧ (∀ y, dom D20.n y → L20 y ≠ D')) (fun D' hD => ?_) (fun D' i' acc H' hD hi' hacc hl hp => ?_) (fun D' acc H24 hD hacc hl hp => ?_)
                  · have fr := w23.lfree hD
                    exact ⟨Rs23, st23, [], w23.alt fr.1 fr.2.1 fr.2.2, dr23, rfl, rfl, fr.2.1, fr.1, fr.2.2⟩
                  · obtain ⟨Rs', st, bs, w24, dr24, rfl, lb, a1, a2, a3⟩ := hp
                    have hi' : i' < cnt := by rw [Int.toNat_natCast] at hi'; exact hi'
                    obtain ⟨nsS, iS, rS, qS, haS4, -⟩ := id dr24
                    have nDa : D' ≠ a := fun z => by
                      have := w24.r2 _ _ haS4
                      rw [← z, a1] at this; cases this
                    walk_at "go"
                    refine ⟨a, l, 2, rfl, dr24.exR w24.r2h, by decide, by decide, fun b st2 b0 b1 Db => ?_⟩
                    have w25 := w24.put2 (o' := st2) haS4
                    have dr25 := dr24.down w24.r2h Db
                    rw [upd_upd] at w25 dr25
                    walk_at "go"
                    have hacc2 : (upd H' a st2) D' = some (.lst (bs.map V.bl)) := (upd_ne nDa).trans hacc
                    refine iLcE hacc2 hl (by omega) ⟨_, st2, bs ++ [decide (b = 1)], w25.alt a2 ((upd_ne nDa).trans a1) a3, dr25, by rw [List.map_append]; rfl, by rw [List.length_append, lb]; rfl, (upd_ne nDa).trans a1, a2, a3⟩
                  · obtain ⟨Rs24, st24, kk, w24, dr24, rfl, lb, a1, a2, a3⟩ := hp
                    rw [Int.toNat_natCast] at lb
                    have hDR : (upd Rk a st24) D' = none := Evl.fresh_back w24.r2 a1
                    have w25 := w24.joinAt a2 a1 a3 hacc
                    have hk5 := hk.st (o := st24)
                    have hxs5 : (upd Rk a st24) kp = some (.lst xs) := (upd_ne nka).trans hxs
                    have nDk : kp ≠ D' := ne_of_none hxs5 hDR
                    obtain ⟨nsS, iS, rS, qS, haS4, -⟩ := id dr24
                    walk_at "go"
                    refine iApp (w25.r2h _ _ ((upd_ne nDk).trans hxs5)) (by omega) ?_
                    have w26 := w25.put2 (o' := .lst (xs ++ [V.ref D'])) ((upd_ne nDk).trans hxs5)
                    have hk6 := hk5.snoc (kk := kk) hDR haS4 hxs5
                    have dr26 : DrawAt (upd (upd (upd Rk a st24) D' (.lst (kk.map V.bl))) kp (.lst (xs ++ [V.ref D']))) a l := by
                      obtain ⟨ns, i, r, qq, h1, h2, k⟩ := dr24
                      have nkl : l ≠ kp := nkl0
                      exact ⟨ns, i, r, qq, (upd_ne nka.symm).trans ((upd_ne (ne_of_none h1 hDR)).trans h1), (upd_ne nkl).trans ((upd_ne (ne_of_none h2 hDR)).trans h2), k⟩
                    have hD26 : (upd (upd (upd Rk a st24) D' (.lst (kk.map V.bl))) kp (.lst (xs ++ [V.ref D']))) D' = some (.lst (kk.map V.bl)) := (upd_ne nDk.symm).trans upd_same
                    have hk26 : (upd (upd (upd Rk a st24) D' (.lst (kk.map V.bl))) kp (.lst (xs ++ [V.ref D']))) kp = some (.lst (xs ++ [V.ref D'])) := upd_same
                    generalize upd (upd (upd Rk a st24) D' (.lst (kk.map V.bl))) kp (.lst (xs ++ [V.ref D'])) = Rk6 at w26 hk6 dr26 hD26 hk26
                    generalize upd H24 kp _ = H26 at w26 ⊢
                    generalize upd (upd Rs24 D' _) kp _ = Rs26 at w26
                    obtain ⟨cm8, cw8, m8⟩ := id w26.m
                    have hO8 := w26.rs _ _ m8.hO
                    have hW8 := w26.rs _ _ m8.hW
                    have hiI : i < Wi.n := by rw [snn]; omega
                    have hw8 := w26.rs _ _ (m8.hw hiI)
                    have lw8 := (m8.wai i hiI).len
                    rw [ewt] at lw8
                    have gk : (xs ++ [V.ref D'])[i]? = some (.ref D') := by
                      rw [List.getElem?_append_right (by omega), lxs, lk, Nat.sub_self]; rfl
                    walk_at "go"
                    refine iDGs hO8 rfl ?_
                    walk_at "go"
                    refine iIxL hW8 ((atI_natL _ _).trans (waiW_get hiI)) ?_
                    walk_at "go"
                    rw [lw8]
                    walk_at "go"
                    refine forJ_range0 (fun t σ' H'' => (∃ x2 x3 x4 x5, σ' = [some (.ref sc), some (.ref a), some (.int n), some (.int m), some (.ref (L20 .obj)), some (.ref (LM' .obj)), some (.int i), x2, x3, x4, some (.int left), x5, some (.ref kp)]) ∧
                      ∃ Rs9 cm9, DAt C H'' F20 Rs9 L20 D20 ∧ WRep Rs9 F20 Rk6 LM' (Wi.lay i kk t) cm9 cw8) ⟨⟨_, _, _, _, rfl⟩, Rs26, cm8, w26.d, WM.lay0.symm ▸ m8⟩ (fun t σ' H'' ht hp9 => ?_) (fun σ' H'' hp9 => ?_)
                    · rw [Int.toNat_natCast] at ht
                      obtain ⟨⟨z2, z3, z4, z5, rfl⟩, Rs9, cm9, D9, m9⟩ := hp9
                      have htl : t < (Wi.wait i).length := by rw [ewt]; exact ht
                      have hz : (Wi.wait i)[t]? = some ((Wi.wait i)[t]'htl) := List.getElem?_eq_getElem htl
                      have hk9 := D9.rs _ _ (m9.own.r _ _ hk26)
                      have hD9 := D9.rs _ _ (m9.own.r _ _ hD26)
                      walk_at "go"
                      refine iIxL hk9 ((atI_natL _ _).trans gk) ?_
                      walk_at "go"
                      rw [List.length_map]
                      refine ifD (fun hl1 => ?_) (fun hl1 => ?_)
                      · have hl1 : t < kk.length := by omega
                        have hb : kk[t]? = some (kk[t]'hl1) := List.getElem?_eq_getElem hl1
                        walk_at "go"
                        refine iIxL hk9 ((atI_natL _ _).trans gk) ?_
                        walk_at "go"
                        refine iIxL hD9 (v := .bl (kk[t]'hl1)) ((atI_natL _ _).trans (by rw [List.getElem?_map, hb]; rfl)) ?_
                        walk_at "go"
                        cases eb : (kk[t]'hl1) with
                        | true =>
                          obtain ⟨u, hu⟩ : ∃ u, (cw8 i)[t]? = some u := ⟨_, List.getElem?_eq_getElem (by omega)⟩
                          obtain ⟨hj, t2, p2, rfl, ht2, hp2⟩ := (m8.wai i hiI).at_ t u _ hu hz
                          have ht2' := D9.fs _ _ ht2
                          have hO9 := D9.rs _ _ m9.hO
                          have hW9 := D9.rs _ _ m9.hW
                          have hM9 := D9.rs _ _ m9.hM
                          have hw9 := D9.rs _ _ (m9.hw (d := i) hiI)
                          have hm9 := D9.rs _ _ (m9.hm (d := i) hiI)
                          have ls9 : (cm9 i).length ≤ Wi.sz + t := (m9.med i hiI).len
                          walk_at "go"
                          refine iDGs hO9 rfl ?_
                          walk_at "go"
                          refine iIxL hW9 ((atI_natL _ _).trans (waiW_get hiI)) ?_
                          walk_at "go"
                          refine iIxL hw9 ((atI_natL _ _).trans hu) ?_
                          walk_at "go"
                          refine iDGs hO9 rfl ?_
                          walk_at "go"
                          refine iIxL hM9 ((atI_natL _ _).trans (medW_get hiI)) ?_
                          walk_at "go"
                          refine iDPi hm9 (by omega) ?_
                          exact ⟨⟨_, _, _, _, rfl⟩, _, _, D9.put (m9.hm (d := i) hiI), m9.layOne hiI hz (hb.trans (congrArg some eb)) hp2⟩
                        | false =>
                          walk_at "go"
                          exact ⟨⟨_, _, _, _, rfl⟩, Rs9, cm9, D9, m9.layNo htl (by rw [hb, eb]; rintro ⟨_, z⟩; cases z)⟩
                      · walk_at "go"
                        exact ⟨⟨_, _, _, _, rfl⟩, Rs9, cm9, D9, m9.layNo htl (by rintro ⟨z, _⟩; omega)⟩
                    · rw [Int.toNat_natCast, ← ewt] at hp9
                      obtain ⟨⟨z2, z3, z4, z5, rfl⟩, Rs9, cm9, D9, m9⟩ := hp9
                      have hO9 := D9.rs _ _ m9.hO
                      have hW9 := D9.rs _ _ m9.hW
                      walk_at "go"
                      refine iNewL (by simp) fun u hu => ?_
                      have hu' := Evl.fresh_back D9.rs hu
                      have fr := m9.own.free hu'
                      walk_at "go"
                      refine iDGs ((upd_ne (fr.2.2 .obj trivial)).trans hO9) rfl ?_
                      walk_at "go"
                      refine iSetL ((upd_ne (fr.2.2 .wait trivial)).trans hW9) (k := i) (by rw [ixN_natL, waiW_len]; exact if_pos hiI) ?_
                      have m10 := m9.layEnd (ks := kk) hiI hu'
                      rw [fin] at m10
                      exact ⟨⟨_, _, _, _, _, rfl⟩, _, Rk6, _, s + (D20.wait i).length, ks ++ [kk], chg_ne (x := WL.wai i) (by intro y; cases y), ⟨(D9.newR hu).put ((upd_ne (fr.2.2 .wait trivial)).trans m9.hW), m10.at_⟩, dr26, hk6, by rw [List.length_append, lk]; rfl, by omega⟩
                · rw [Int.toNat_natCast] at hp'
                  obtain ⟨⟨x1, x2, x3, x4, x5, rfl⟩, Rs30, Rk, LM30, s30, ks, elm, w30, dr30, hk, lk, hs⟩ := hp'
                  obtain ⟨dx30, szs30, hO30, -⟩ := w30.d.obj
                  walk_at "go"
                  refine ⟨F20, Rs30, L20, D20, kp, ks, rfl, w30.d, hk.kept w30.r2, fun H31 L31 el31 D31 => ?_⟩
                  have w31 := w30.step (Ex.refl _) D31
                  have epw : (D20.power fun d => ks.getD d []) = { D20.settles (fun d => ks.getD d []) D20.n with on := true } := by unfold DK.power; rw [g20.2.2.1]; rfl
                  have R31 := R20.settles (fun d => ks.getD d []) s30 (D20.power fun d => ks.getD d []) W20.c2 (by rw [epw]; rfl) (by rw [epw]; rfl) (by rw [epw]; rfl) (by rw [epw]) (by rw [epw]) (by rw [epw]; rfl) (by rw [epw]; rfl) (by rw [epw]; exact R20.c2.symm)
                  have R31 : RelW (D20.power fun d => ks.getD d []) (W20.settles (fun d => ks.getD d []) n s30) := by rw [g20.1] at R31; exact R31
                  have f31 : FewW (D20.power fun d => ks.getD d []) 80000 := fun d hd => by
                    rw [epw] at hd ⊢
                    show (if d < D20.n then [] else _ : List (Nat × Sec)).length ≤ _
                    rw [if_pos (show d < D20.n from hd)]; exact Nat.zero_le _
                  have g31 : (D20.power fun d => ks.getD d []).on = true ∧ (D20.power fun d => ks.getD d []).fails = 1 := ⟨by rw [epw], by rw [epw]; exact g20.2.2.2.2⟩
                  generalize (D20.power fun d => ks.getD d []) = D31' at w31 R31 f31 g31
                  rw [← el31, ← elm]
                  obtain ⟨dx31, szs31, hO31, -⟩ := w31.d.obj
                  walk_at "go"
                  refine j_is_on w31.d ?_
                  rw [g31.1]
                  walk_at "go"
                  refine j_losses w31.d ?_
                  rw [g31.2]
                  walk_at "go"
                  refine j_right w31 R31 f31 fun H32 e32 => ?_
                  walk_at "go"
                  exact q _
end
theorem all_mk {l : PySem.W.OpenLaw} {w : World} {K : PySem.W.Frag} {h : Heap} {mg : Str → Option Value} {fa : Addr} (X : K.In h) (G : h.Ns mainGlobals mg) (hfa : mg "law" = some (.ref fa))
    {f1 f2 f3 f4 f5 f6 f7 f8 f9 f10 f11 f12 f13 f14 f15 f16 f17 f18 f19 f20 f21 f22 f23 f24 f25 f26 f27 f28 f29 f30 f31 : Addr} {od1 od2 od3 od4 od5 od6 od7 od8 od9 od10 od11 od12 od13 od14 od15 od16 od17 od18 od19 od20 od21 od22 od23 od24 od25 od26 od27 od28 od29 od30 od31 an1 an2 an3 an4 an5 an6 an7 an8 an9 an10 an11 an12 an13 an14 an15 an16 an17 an18 an19 an20 an21 an22 an23 an24 an25 an26 an27 an28 an29 an30 an31 : Option Addr} {sl1 sl2 sl3 sl4 sl5 sl6 sl7 sl8 sl9 sl10 sl11 sl12 sl13 sl14 sl15 sl16 sl17 sl18 sl19 sl20 sl21 sl22 sl23 sl24 sl25 sl26 sl27 sl28 sl29 sl30 sl31 : Array (Option Value)} {oc1 oc2 oc3 oc4 oc5 oc6 oc7 oc8 oc9 oc10 oc11 oc12 oc13 oc14 oc15 oc16 oc17 oc18 oc19 oc20 oc21 oc22 oc23 oc24 oc25 oc26 oc27 oc28 oc29 oc30 oc31 kV1 kV2 kV3 kV4 kV5 kV6 kV7 kV8 kV9 kV10 kV11 kV12 kV13 kV14 kV15 kV16 kV17 kV18 kV19 kV20 kV21 kV22 kV23 kV24 kV25 kV26 kV27 kV28 kV29 kV30 kV31 dc1 dc2 dc3 dc4 dc5 dc6 dc7 dc8 dc9 dc10 dc11 dc12 dc13 dc14 dc15 dc16 dc17 dc18 dc19 dc20 dc21 dc22 dc23 dc24 dc25 dc26 dc27 dc28 dc29 dc30 dc31 pm1 pm2 pm3 pm4 pm5 pm6 pm7 pm8 pm9 pm10 pm11 pm12 pm13 pm14 pm15 pm16 pm17 pm18 pm19 pm20 pm21 pm22 pm23 pm24 pm25 pm26 pm27 pm28 pm29 pm30 pm31 cd1 cd2 cd3 cd4 cd5 cd6 cd7 cd8 cd9 cd10 cd11 cd12 cd13 cd14 cd15 cd16 cd17 cd18 cd19 cd20 cd21 cd22 cd23 cd24 cd25 cd26 cd27 cd28 cd29 cd30 cd31 ct1 ct2 ct3 ct4 ct5 ct6 ct7 ct8 ct9 ct10 ct11 ct12 ct13 ct14 ct15 ct16 ct17 ct18 ct19 ct20 ct21 ct22 ct23 ct24 ct25 ct26 ct27 ct28 ct29 ct30 ct31 : Value} {C_Disks : Addr} {C_InvalidArgument : Addr} {C_PowerOff : Addr}
    (a1 : PySem.W.nsIn K mainGlobals "is_number" = some (some (.ref f1)))
    (l1 : K.lookup f1 = some ⟨oc1, od1, .func (PySem.W.fnOf "is_number" "is_number" (defArgs s_is_number) (defBody s_is_number) (defScope s_is_number) .none kV1 dc1 pm1 an1 cd1 ct1), sl1⟩) (c1 : PySem.W.codeIn K cd1 "is_number" = true) (k1 : PySem.W.keepIn K (.ref f1) = true)
    (a2 : PySem.W.nsIn K mainGlobals "check_sizes" = some (some (.ref f2)))
    (l2 : K.lookup f2 = some ⟨oc2, od2, .func (PySem.W.fnOf "check_sizes" "check_sizes" (defArgs s_check_sizes) (defBody s_check_sizes) (defScope s_check_sizes) .none kV2 dc2 pm2 an2 cd2 ct2), sl2⟩) (c2 : PySem.W.codeIn K cd2 "check_sizes" = true) (k2 : PySem.W.keepIn K (.ref f2) = true)
    (a3 : PySem.W.findIn K (.ref C_Disks) "__init__" = some (some (.ref f3))) (i3 : PySem.W.isFn K (.ref f3) = true)
    (l3 : K.lookup f3 = some ⟨oc3, od3, .func (PySem.W.fnOf "__init__" "Disks.__init__" (defArgs s_Disks___init__) (defBody s_Disks___init__) (defScope s_Disks___init__) .none kV3 dc3 pm3 an3 cd3 ct3), sl3⟩) (c3 : PySem.W.codeIn K cd3 "Disks.__init__" = true) (k3 : PySem.W.keepIn K (.ref f3) = true)
    (a4 : PySem.W.findIn K (.ref C_Disks) "counts" = some (some (.ref f4))) (i4 : PySem.W.isFn K (.ref f4) = true)
    (l4 : K.lookup f4 = some ⟨oc4, od4, .func (PySem.W.fnOf "counts" "Disks.counts" (defArgs s_Disks_counts) (defBody s_Disks_counts) (defScope s_Disks_counts) .none kV4 dc4 pm4 an4 cd4 ct4), sl4⟩) (c4 : PySem.W.codeIn K cd4 "Disks.counts" = true) (k4 : PySem.W.keepIn K (.ref f4) = true)
    (a5 : PySem.W.findIn K (.ref C_Disks) "is_on" = some (some (.ref f5))) (i5 : PySem.W.isFn K (.ref f5) = true)
    (l5 : K.lookup f5 = some ⟨oc5, od5, .func (PySem.W.fnOf "is_on" "Disks.is_on" (defArgs s_Disks_is_on) (defBody s_Disks_is_on) (defScope s_Disks_is_on) .none kV5 dc5 pm5 an5 cd5 ct5), sl5⟩) (c5 : PySem.W.codeIn K cd5 "Disks.is_on" = true) (k5 : PySem.W.keepIn K (.ref f5) = true)
    (a6 : PySem.W.findIn K (.ref C_Disks) "losses" = some (some (.ref f6))) (i6 : PySem.W.isFn K (.ref f6) = true)
    (l6 : K.lookup f6 = some ⟨oc6, od6, .func (PySem.W.fnOf "losses" "Disks.losses" (defArgs s_Disks_losses) (defBody s_Disks_losses) (defScope s_Disks_losses) .none kV6 dc6 pm6 an6 cd6 ct6), sl6⟩) (c6 : PySem.W.codeIn K cd6 "Disks.losses" = true) (k6 : PySem.W.keepIn K (.ref f6) = true)
    (a7 : PySem.W.findIn K (.ref C_Disks) "is_there" = some (some (.ref f7))) (i7 : PySem.W.isFn K (.ref f7) = true)
    (l7 : K.lookup f7 = some ⟨oc7, od7, .func (PySem.W.fnOf "is_there" "Disks.is_there" (defArgs s_Disks_is_there) (defBody s_Disks_is_there) (defScope s_Disks_is_there) .none kV7 dc7 pm7 an7 cd7 ct7), sl7⟩) (c7 : PySem.W.codeIn K cd7 "Disks.is_there" = true) (k7 : PySem.W.keepIn K (.ref f7) = true)
    (a8 : PySem.W.findIn K (.ref C_Disks) "cell" = some (some (.ref f8))) (i8 : PySem.W.isFn K (.ref f8) = true)
    (l8 : K.lookup f8 = some ⟨oc8, od8, .func (PySem.W.fnOf "cell" "Disks.cell" (defArgs s_Disks_cell) (defBody s_Disks_cell) (defScope s_Disks_cell) .none kV8 dc8 pm8 an8 cd8 ct8), sl8⟩) (c8 : PySem.W.codeIn K cd8 "Disks.cell" = true) (k8 : PySem.W.keepIn K (.ref f8) = true)
    (a9 : PySem.W.findIn K (.ref C_Disks) "pending" = some (some (.ref f9))) (i9 : PySem.W.isFn K (.ref f9) = true)
    (l9 : K.lookup f9 = some ⟨oc9, od9, .func (PySem.W.fnOf "pending" "Disks.pending" (defArgs s_Disks_pending) (defBody s_Disks_pending) (defScope s_Disks_pending) .none kV9 dc9 pm9 an9 cd9 ct9), sl9⟩) (c9 : PySem.W.codeIn K cd9 "Disks.pending" = true) (k9 : PySem.W.keepIn K (.ref f9) = true)
    (a10 : PySem.W.findIn K (.ref C_Disks) "ask" = some (some (.ref f10))) (i10 : PySem.W.isFn K (.ref f10) = true)
    (l10 : K.lookup f10 = some ⟨oc10, od10, .func (PySem.W.fnOf "ask" "Disks.ask" (defArgs s_Disks_ask) (defBody s_Disks_ask) (defScope s_Disks_ask) .none kV10 dc10 pm10 an10 cd10 ct10), sl10⟩) (c10 : PySem.W.codeIn K cd10 "Disks.ask" = true) (k10 : PySem.W.keepIn K (.ref f10) = true)
    (a11 : PySem.W.findIn K (.ref C_Disks) "write" = some (some (.ref f11))) (i11 : PySem.W.isFn K (.ref f11) = true)
    (l11 : K.lookup f11 = some ⟨oc11, od11, .func (PySem.W.fnOf "write" "Disks.write" (defArgs s_Disks_write) (defBody s_Disks_write) (defScope s_Disks_write) .none kV11 dc11 pm11 an11 cd11 ct11), sl11⟩) (c11 : PySem.W.codeIn K cd11 "Disks.write" = true) (k11 : PySem.W.keepIn K (.ref f11) = true)
    (a12 : PySem.W.findIn K (.ref C_Disks) "sync" = some (some (.ref f12))) (i12 : PySem.W.isFn K (.ref f12) = true)
    (l12 : K.lookup f12 = some ⟨oc12, od12, .func (PySem.W.fnOf "sync" "Disks.sync" (defArgs s_Disks_sync) (defBody s_Disks_sync) (defScope s_Disks_sync) .none kV12 dc12 pm12 an12 cd12 ct12), sl12⟩) (c12 : PySem.W.codeIn K cd12 "Disks.sync" = true) (k12 : PySem.W.keepIn K (.ref f12) = true)
    (a13 : PySem.W.findIn K (.ref C_Disks) "rot" = some (some (.ref f13))) (i13 : PySem.W.isFn K (.ref f13) = true)
    (l13 : K.lookup f13 = some ⟨oc13, od13, .func (PySem.W.fnOf "rot" "Disks.rot" (defArgs s_Disks_rot) (defBody s_Disks_rot) (defScope s_Disks_rot) .none kV13 dc13 pm13 an13 cd13 ct13), sl13⟩) (c13 : PySem.W.codeIn K cd13 "Disks.rot" = true) (k13 : PySem.W.keepIn K (.ref f13) = true)
    (a14 : PySem.W.findIn K (.ref C_Disks) "bad" = some (some (.ref f14))) (i14 : PySem.W.isFn K (.ref f14) = true)
    (l14 : K.lookup f14 = some ⟨oc14, od14, .func (PySem.W.fnOf "bad" "Disks.bad" (defArgs s_Disks_bad) (defBody s_Disks_bad) (defScope s_Disks_bad) .none kV14 dc14 pm14 an14 cd14 ct14), sl14⟩) (c14 : PySem.W.codeIn K cd14 "Disks.bad" = true) (k14 : PySem.W.keepIn K (.ref f14) = true)
    (a15 : PySem.W.findIn K (.ref C_Disks) "away" = some (some (.ref f15))) (i15 : PySem.W.isFn K (.ref f15) = true)
    (l15 : K.lookup f15 = some ⟨oc15, od15, .func (PySem.W.fnOf "away" "Disks.away" (defArgs s_Disks_away) (defBody s_Disks_away) (defScope s_Disks_away) .none kV15 dc15 pm15 an15 cd15 ct15), sl15⟩) (c15 : PySem.W.codeIn K cd15 "Disks.away" = true) (k15 : PySem.W.keepIn K (.ref f15) = true)
    (a16 : PySem.W.findIn K (.ref C_Disks) "blank" = some (some (.ref f16))) (i16 : PySem.W.isFn K (.ref f16) = true)
    (l16 : K.lookup f16 = some ⟨oc16, od16, .func (PySem.W.fnOf "blank" "Disks.blank" (defArgs s_Disks_blank) (defBody s_Disks_blank) (defScope s_Disks_blank) .none kV16 dc16 pm16 an16 cd16 ct16), sl16⟩) (c16 : PySem.W.codeIn K cd16 "Disks.blank" = true) (k16 : PySem.W.keepIn K (.ref f16) = true)
    (a17 : PySem.W.findIn K (.ref C_Disks) "fail_after" = some (some (.ref f17))) (i17 : PySem.W.isFn K (.ref f17) = true)
    (l17 : K.lookup f17 = some ⟨oc17, od17, .func (PySem.W.fnOf "fail_after" "Disks.fail_after" (defArgs s_Disks_fail_after) (defBody s_Disks_fail_after) (defScope s_Disks_fail_after) .none kV17 dc17 pm17 an17 cd17 ct17), sl17⟩) (c17 : PySem.W.codeIn K cd17 "Disks.fail_after" = true) (k17 : PySem.W.keepIn K (.ref f17) = true)
    (a18 : PySem.W.findIn K (.ref C_Disks) "power" = some (some (.ref f18))) (i18 : PySem.W.isFn K (.ref f18) = true)
    (l18 : K.lookup f18 = some ⟨oc18, od18, .func (PySem.W.fnOf "power" "Disks.power" (defArgs s_Disks_power) (defBody s_Disks_power) (defScope s_Disks_power) .none kV18 dc18 pm18 an18 cd18 ct18), sl18⟩) (c18 : PySem.W.codeIn K cd18 "Disks.power" = true) (k18 : PySem.W.keepIn K (.ref f18) = true)
    (a19 : PySem.W.findIn K (.ref C_Disks) "_operate" = some (some (.ref f19))) (i19 : PySem.W.isFn K (.ref f19) = true)
    (l19 : K.lookup f19 = some ⟨oc19, od19, .func (PySem.W.fnOf "_operate" "Disks._operate" (defArgs s_Disks__operate) (defBody s_Disks__operate) (defScope s_Disks__operate) .none kV19 dc19 pm19 an19 cd19 ct19), sl19⟩) (c19 : PySem.W.codeIn K cd19 "Disks._operate" = true) (k19 : PySem.W.keepIn K (.ref f19) = true)
    (a20 : PySem.W.findIn K (.ref C_Disks) "_fail" = some (some (.ref f20))) (i20 : PySem.W.isFn K (.ref f20) = true)
    (l20 : K.lookup f20 = some ⟨oc20, od20, .func (PySem.W.fnOf "_fail" "Disks._fail" (defArgs s_Disks__fail) (defBody s_Disks__fail) (defScope s_Disks__fail) .none kV20 dc20 pm20 an20 cd20 ct20), sl20⟩) (c20 : PySem.W.codeIn K cd20 "Disks._fail" = true) (k20 : PySem.W.keepIn K (.ref f20) = true)
    (a21 : PySem.W.findIn K (.ref C_Disks) "_settle" = some (some (.ref f21))) (i21 : PySem.W.isFn K (.ref f21) = true)
    (l21 : K.lookup f21 = some ⟨oc21, od21, .func (PySem.W.fnOf "_settle" "Disks._settle" (defArgs s_Disks__settle) (defBody s_Disks__settle) (defScope s_Disks__settle) .none kV21 dc21 pm21 an21 cd21 ct21), sl21⟩) (c21 : PySem.W.codeIn K cd21 "Disks._settle" = true) (k21 : PySem.W.keepIn K (.ref f21) = true)
    (a22 : PySem.W.findIn K (.ref C_Disks) "_empty" = some (some (.ref f22))) (i22 : PySem.W.isFn K (.ref f22) = true)
    (l22 : K.lookup f22 = some ⟨oc22, od22, .func (PySem.W.fnOf "_empty" "Disks._empty" (defArgs s_Disks__empty) (defBody s_Disks__empty) (defScope s_Disks__empty) .none kV22 dc22 pm22 an22 cd22 ct22), sl22⟩) (c22 : PySem.W.codeIn K cd22 "Disks._empty" = true) (k22 : PySem.W.keepIn K (.ref f22) = true)
    (a23 : PySem.W.nsIn K mainGlobals "_law_next" = some (some (.ref f23)))
    (l23 : K.lookup f23 = some ⟨oc23, od23, .func (PySem.W.fnOf "_law_next" "_law_next" (defArgs s__law_next) (defBody s__law_next) (defScope s__law_next) .none kV23 dc23 pm23 an23 cd23 ct23), sl23⟩) (c23 : PySem.W.codeIn K cd23 "_law_next" = true) (k23 : PySem.W.keepIn K (.ref f23) = true)
    (a24 : PySem.W.nsIn K mainGlobals "_law_same" = some (some (.ref f24)))
    (l24 : K.lookup f24 = some ⟨oc24, od24, .func (PySem.W.fnOf "_law_same" "_law_same" (defArgs s__law_same) (defBody s__law_same) (defScope s__law_same) .none kV24 dc24 pm24 an24 cd24 ct24), sl24⟩) (c24 : PySem.W.codeIn K cd24 "_law_same" = true) (k24 : PySem.W.keepIn K (.ref f24) = true)
    (a25 : PySem.W.nsIn K mainGlobals "_law_sector" = some (some (.ref f25)))
    (l25 : K.lookup f25 = some ⟨oc25, od25, .func (PySem.W.fnOf "_law_sector" "_law_sector" (defArgs s__law_sector) (defBody s__law_sector) (defScope s__law_sector) .none kV25 dc25 pm25 an25 cd25 ct25), sl25⟩) (c25 : PySem.W.codeIn K cd25 "_law_sector" = true) (k25 : PySem.W.keepIn K (.ref f25) = true)
    (a26 : PySem.W.nsIn K mainGlobals "_law_cell" = some (some (.ref f26)))
    (l26 : K.lookup f26 = some ⟨oc26, od26, .func (PySem.W.fnOf "_law_cell" "_law_cell" (defArgs s__law_cell) (defBody s__law_cell) (defScope s__law_cell) .none kV26 dc26 pm26 an26 cd26 ct26), sl26⟩) (c26 : PySem.W.codeIn K cd26 "_law_cell" = true) (k26 : PySem.W.keepIn K (.ref f26) = true)
    (a27 : PySem.W.nsIn K mainGlobals "_law_is_right" = some (some (.ref f27)))
    (l27 : K.lookup f27 = some ⟨oc27, od27, .func (PySem.W.fnOf "_law_is_right" "_law_is_right" (defArgs s__law_is_right) (defBody s__law_is_right) (defScope s__law_is_right) .none kV27 dc27 pm27 an27 cd27 ct27), sl27⟩) (c27 : PySem.W.codeIn K cd27 "_law_is_right" = true) (k27 : PySem.W.keepIn K (.ref f27) = true)
    (a28 : PySem.W.nsIn K mainGlobals "_law_fault" = some (some (.ref f28)))
    (l28 : K.lookup f28 = some ⟨oc28, od28, .func (PySem.W.fnOf "_law_fault" "_law_fault" (defArgs s__law_fault) (defBody s__law_fault) (defScope s__law_fault) .none kV28 dc28 pm28 an28 cd28 ct28), sl28⟩) (c28 : PySem.W.codeIn K cd28 "_law_fault" = true) (k28 : PySem.W.keepIn K (.ref f28) = true)
    (a29 : PySem.W.nsIn K mainGlobals "_law_dark" = some (some (.ref f29)))
    (l29 : K.lookup f29 = some ⟨oc29, od29, .func (PySem.W.fnOf "_law_dark" "_law_dark" (defArgs s__law_dark) (defBody s__law_dark) (defScope s__law_dark) .none kV29 dc29 pm29 an29 cd29 ct29), sl29⟩) (c29 : PySem.W.codeIn K cd29 "_law_dark" = true) (k29 : PySem.W.keepIn K (.ref f29) = true)
    (a30 : PySem.W.nsIn K mainGlobals "_law_write" = some (some (.ref f30)))
    (l30 : K.lookup f30 = some ⟨oc30, od30, .func (PySem.W.fnOf "_law_write" "_law_write" (defArgs s__law_write) (defBody s__law_write) (defScope s__law_write) .none kV30 dc30 pm30 an30 cd30 ct30), sl30⟩) (c30 : PySem.W.codeIn K cd30 "_law_write" = true) (k30 : PySem.W.keepIn K (.ref f30) = true)
    (a31 : PySem.W.nsIn K mainGlobals "law" = some (some (.ref f31)))
    (l31 : K.lookup f31 = some ⟨oc31, od31, .func (PySem.W.fnOf "law" "law" (defArgs s_law) (defBody s_law) (defScope s_law) .none kV31 dc31 pm31 an31 cd31 ct31), sl31⟩) (c31 : PySem.W.codeIn K cd31 "law" = true) (k31 : PySem.W.keepIn K (.ref f31) = true)
    (aC_Disks : PySem.W.nsIn K mainGlobals "Disks" = some (some (.ref C_Disks))) (pg_Disks : PySem.W.plainGet K C_Disks Str.empty = true) (hd_Disks : PySem.W.hasDictIn K C_Disks = true) (po_Disks : PySem.W.plainOver K C_Disks = true) (sa_Disks : PySem.W.findIn K (.ref C_Disks) "__setattr__" = some (some (.builtin "object.__setattr__"))) (mk_Disks : PySem.W.makesIn K C_Disks = true) (kc_Disks : PySem.W.keepIn K (.ref C_Disks) = true)
    (n_Disks_in_use : PySem.W.findIn K (.ref C_Disks) "in_use" = some none)
    (n_Disks_formatted : PySem.W.findIn K (.ref C_Disks) "formatted" = some none)
    (n_Disks_scrub_place : PySem.W.findIn K (.ref C_Disks) "scrub_place" = some none)
    (n_Disks__sizes : PySem.W.findIn K (.ref C_Disks) "_sizes" = some none)
    (n_Disks__there : PySem.W.findIn K (.ref C_Disks) "_there" = some none)
    (n_Disks__media : PySem.W.findIn K (.ref C_Disks) "_media" = some none)
    (n_Disks__waiting : PySem.W.findIn K (.ref C_Disks) "_waiting" = some none)
    (n_Disks__on : PySem.W.findIn K (.ref C_Disks) "_on" = some none)
    (n_Disks__left : PySem.W.findIn K (.ref C_Disks) "_left" = some none)
    (n_Disks__failures : PySem.W.findIn K (.ref C_Disks) "_failures" = some none)
    (n_Disks__reads : PySem.W.findIn K (.ref C_Disks) "_reads" = some none)
    (n_Disks__writes : PySem.W.findIn K (.ref C_Disks) "_writes" = some none)
    (n_Disks__syncs : PySem.W.findIn K (.ref C_Disks) "_syncs" = some none)
    (aX_InvalidArgument : PySem.W.nsIn K mainGlobals "InvalidArgument" = some (some (.ref C_InvalidArgument))) (xP_InvalidArgument : PySem.W.excIn K C_InvalidArgument [.type "ValueError", .type "Exception", .type "BaseException", .type "object"] "ValueError.__new__" = true) (kP_InvalidArgument : PySem.W.keepIn K (.ref C_InvalidArgument) = true) (bP_InvalidArgument : PySem.W.subIn K (.ref C_InvalidArgument) (.type "BaseException") = some true) (tP_InvalidArgument : PySem.W.typeIn K (.ref C_InvalidArgument) = some (.type "type")) (iP_InvalidArgument : PySem.W.isClsIn K C_InvalidArgument = true) (sP_InvalidArgument : PySem.W.subIn K (.ref C_InvalidArgument) (.ref C_InvalidArgument) = some true)
    (aX_PowerOff : PySem.W.nsIn K mainGlobals "PowerOff" = some (some (.ref C_PowerOff))) (xP_PowerOff : PySem.W.excIn K C_PowerOff [.type "ValueError", .type "Exception", .type "BaseException", .type "object"] "ValueError.__new__" = true) (kP_PowerOff : PySem.W.keepIn K (.ref C_PowerOff) = true) (bP_PowerOff : PySem.W.subIn K (.ref C_PowerOff) (.type "BaseException") = some true) (tP_PowerOff : PySem.W.typeIn K (.ref C_PowerOff) = some (.type "type")) (iP_PowerOff : PySem.W.isClsIn K C_PowerOff = true) (sP_PowerOff : PySem.W.subIn K (.ref C_PowerOff) (.ref C_PowerOff) = some true)
    (z_bool : PySem.W.nsIn K mainGlobals "bool" = some none)
    (z_int : PySem.W.nsIn K mainGlobals "int" = some none)
    (z_isinstance : PySem.W.nsIn K mainGlobals "isinstance" = some none)
    (z_len : PySem.W.nsIn K mainGlobals "len" = some none)
    (z_list : PySem.W.nsIn K mainGlobals "list" = some none)
    (z_range : PySem.W.nsIn K mainGlobals "range" = some none)
    (z_reversed : PySem.W.nsIn K mainGlobals "reversed" = some none)
    (z_str : PySem.W.nsIn K mainGlobals "str" = some none)
    (z_tuple : PySem.W.nsIn K mainGlobals "tuple" = some none)
    (z_zip : PySem.W.nsIn K mainGlobals "zip" = some none) :
    ∃ fd : FuncData, (∀ (s : Shared) (v : Value), BindsTo s fd ⟨[v], []⟩ [("script", v)]) ∧ ∀ base : Heap, K.In base → base.Ns mainGlobals mg → FnOk l.prog w K mg base CX0 5 fa fd ["script"] (sp_law K) := by
  have e := hfa.symm.trans (PySem.W.mg_of X G a31)
  cases e
  have F_is_number := fun_mk (st := s_is_number) l1 c1 k1
  have g_is_number := PySem.W.mg_of X G a1
  have b_is_number := F_is_number.binds (ps := ["value", "low", "high"]) fun _ _ _ _ _ _ us hl => match us, hl with | [_, _, _], _ => rfl
  have F_check_sizes := fun_mk (st := s_check_sizes) l2 c2 k2
  have g_check_sizes := PySem.W.mg_of X G a2
  have b_check_sizes := F_check_sizes.binds (ps := ["disks", "sectors", "carrying", "depth"]) fun _ _ _ _ _ _ us hl => match us, hl with | [_, _, _, _], _ => rfl
  have F_Disks___init__ := fun_mk (st := s_Disks___init__) l3 c3 k3
  have b_Disks___init__ := F_Disks___init__.binds (ps := ["self", "disks", "sectors", "carrying", "depth"]) fun _ _ _ _ _ _ us hl => match us, hl with | [_, _, _, _, _], _ => rfl
  have F_Disks_counts := fun_mk (st := s_Disks_counts) l4 c4 k4
  have m_Disks_counts : Meth K C_Disks "counts" f4 := ⟨a4, i4, k4⟩
  have b_Disks_counts := F_Disks_counts.binds (ps := ["self"]) fun _ _ _ _ _ _ us hl => match us, hl with | [_], _ => rfl
  have F_Disks_is_on := fun_mk (st := s_Disks_is_on) l5 c5 k5
  have m_Disks_is_on : Meth K C_Disks "is_on" f5 := ⟨a5, i5, k5⟩
  have b_Disks_is_on := F_Disks_is_on.binds (ps := ["self"]) fun _ _ _ _ _ _ us hl => match us, hl with | [_], _ => rfl
  have F_Disks_losses := fun_mk (st := s_Disks_losses) l6 c6 k6
  have m_Disks_losses : Meth K C_Disks "losses" f6 := ⟨a6, i6, k6⟩
  have b_Disks_losses := F_Disks_losses.binds (ps := ["self"]) fun _ _ _ _ _ _ us hl => match us, hl with | [_], _ => rfl
  have F_Disks_is_there := fun_mk (st := s_Disks_is_there) l7 c7 k7
  have m_Disks_is_there : Meth K C_Disks "is_there" f7 := ⟨a7, i7, k7⟩
  have b_Disks_is_there := F_Disks_is_there.binds (ps := ["self", "disk"]) fun _ _ _ _ _ _ us hl => match us, hl with | [_, _], _ => rfl
  have F_Disks_cell := fun_mk (st := s_Disks_cell) l8 c8 k8
  have m_Disks_cell : Meth K C_Disks "cell" f8 := ⟨a8, i8, k8⟩
  have b_Disks_cell := F_Disks_cell.binds (ps := ["self", "disk", "sector"]) fun _ _ _ _ _ _ us hl => match us, hl with | [_, _, _], _ => rfl
  have F_Disks_pending := fun_mk (st := s_Disks_pending) l9 c9 k9
  have m_Disks_pending : Meth K C_Disks "pending" f9 := ⟨a9, i9, k9⟩
  have b_Disks_pending := F_Disks_pending.binds (ps := ["self", "disk"]) fun _ _ _ _ _ _ us hl => match us, hl with | [_, _], _ => rfl
  have F_Disks_ask := fun_mk (st := s_Disks_ask) l10 c10 k10
  have m_Disks_ask : Meth K C_Disks "ask" f10 := ⟨a10, i10, k10⟩
  have b_Disks_ask := F_Disks_ask.binds (ps := ["self", "disk", "sector"]) fun _ _ _ _ _ _ us hl => match us, hl with | [_, _, _], _ => rfl
  have F_Disks_write := fun_mk (st := s_Disks_write) l11 c11 k11
  have m_Disks_write : Meth K C_Disks "write" f11 := ⟨a11, i11, k11⟩
  have b_Disks_write := F_Disks_write.binds (ps := ["self", "disk", "sector", "data"]) fun _ _ _ _ _ _ us hl => match us, hl with | [_, _, _, _], _ => rfl
  have F_Disks_sync := fun_mk (st := s_Disks_sync) l12 c12 k12
  have m_Disks_sync : Meth K C_Disks "sync" f12 := ⟨a12, i12, k12⟩
  have b_Disks_sync := F_Disks_sync.binds (ps := ["self"]) fun _ _ _ _ _ _ us hl => match us, hl with | [_], _ => rfl
  have F_Disks_rot := fun_mk (st := s_Disks_rot) l13 c13 k13
  have m_Disks_rot : Meth K C_Disks "rot" f13 := ⟨a13, i13, k13⟩
  have b_Disks_rot := F_Disks_rot.binds (ps := ["self", "disk", "sector", "data"]) fun _ _ _ _ _ _ us hl => match us, hl with | [_, _, _, _], _ => rfl
  have F_Disks_bad := fun_mk (st := s_Disks_bad) l14 c14 k14
  have m_Disks_bad : Meth K C_Disks "bad" f14 := ⟨a14, i14, k14⟩
  have b_Disks_bad := F_Disks_bad.binds (ps := ["self", "disk", "sector"]) fun _ _ _ _ _ _ us hl => match us, hl with | [_, _, _], _ => rfl
  have F_Disks_away := fun_mk (st := s_Disks_away) l15 c15 k15
  have m_Disks_away : Meth K C_Disks "away" f15 := ⟨a15, i15, k15⟩
  have b_Disks_away := F_Disks_away.binds (ps := ["self", "disk"]) fun _ _ _ _ _ _ us hl => match us, hl with | [_, _], _ => rfl
  have F_Disks_blank := fun_mk (st := s_Disks_blank) l16 c16 k16
  have m_Disks_blank : Meth K C_Disks "blank" f16 := ⟨a16, i16, k16⟩
  have b_Disks_blank := F_Disks_blank.binds (ps := ["self", "disk"]) fun _ _ _ _ _ _ us hl => match us, hl with | [_, _], _ => rfl
  have F_Disks_fail_after := fun_mk (st := s_Disks_fail_after) l17 c17 k17
  have m_Disks_fail_after : Meth K C_Disks "fail_after" f17 := ⟨a17, i17, k17⟩
  have b_Disks_fail_after := F_Disks_fail_after.binds (ps := ["self", "operations"]) fun _ _ _ _ _ _ us hl => match us, hl with | [_, _], _ => rfl
  have F_Disks_power := fun_mk (st := s_Disks_power) l18 c18 k18
  have m_Disks_power : Meth K C_Disks "power" f18 := ⟨a18, i18, k18⟩
  have b_Disks_power := F_Disks_power.binds (ps := ["self", "kept"]) fun _ _ _ _ _ _ us hl => match us, hl with | [_, _], _ => rfl
  have F_Disks__operate := fun_mk (st := s_Disks__operate) l19 c19 k19
  have m_Disks__operate : Meth K C_Disks "_operate" f19 := ⟨a19, i19, k19⟩
  have b_Disks__operate := F_Disks__operate.binds (ps := ["self"]) fun _ _ _ _ _ _ us hl => match us, hl with | [_], _ => rfl
  have F_Disks__fail := fun_mk (st := s_Disks__fail) l20 c20 k20
  have m_Disks__fail : Meth K C_Disks "_fail" f20 := ⟨a20, i20, k20⟩
  have b_Disks__fail := F_Disks__fail.binds (ps := ["self"]) fun _ _ _ _ _ _ us hl => match us, hl with | [_], _ => rfl
  have F_Disks__settle := fun_mk (st := s_Disks__settle) l21 c21 k21
  have m_Disks__settle : Meth K C_Disks "_settle" f21 := ⟨a21, i21, k21⟩
  have b_Disks__settle := F_Disks__settle.binds (ps := ["self", "disk", "kept"]) fun _ _ _ _ _ _ us hl => match us, hl with | [_, _, _], _ => rfl
  have F_Disks__empty := fun_mk (st := s_Disks__empty) l22 c22 k22
  have m_Disks__empty : Meth K C_Disks "_empty" f22 := ⟨a22, i22, k22⟩
  have b_Disks__empty := F_Disks__empty.binds (ps := ["self", "disk"]) fun _ _ _ _ _ _ us hl => match us, hl with | [_, _], _ => rfl
  have F__law_next := fun_mk (st := s__law_next) l23 c23 k23
  have g__law_next := PySem.W.mg_of X G a23
  have b__law_next := F__law_next.binds (ps := ["state", "limit"]) fun _ _ _ _ _ _ us hl => match us, hl with | [_, _], _ => rfl
  have F__law_same := fun_mk (st := s__law_same) l24 c24 k24
  have g__law_same := PySem.W.mg_of X G a24
  have b__law_same := F__law_same.binds (ps := ["actual", "expected"]) fun _ _ _ _ _ _ us hl => match us, hl with | [_, _], _ => rfl
  have F__law_sector := fun_mk (st := s__law_sector) l25 c25 k25
  have g__law_sector := PySem.W.mg_of X G a25
  have b__law_sector := F__law_sector.binds (ps := ["state"]) fun _ _ _ _ _ _ us hl => match us, hl with | [_], _ => rfl
  have F__law_cell := fun_mk (st := s__law_cell) l26 c26 k26
  have g__law_cell := PySem.W.mg_of X G a26
  have b__law_cell := F__law_cell.binds (ps := ["world", "disk", "sector"]) fun _ _ _ _ _ _ us hl => match us, hl with | [_, _, _], _ => rfl
  have F__law_is_right := fun_mk (st := s__law_is_right) l27 c27 k27
  have g__law_is_right := PySem.W.mg_of X G a27
  have b__law_is_right := F__law_is_right.binds (ps := ["world", "disks"]) fun _ _ _ _ _ _ us hl => match us, hl with | [_, _], _ => rfl
  have F__law_fault := fun_mk (st := s__law_fault) l28 c28 k28
  have g__law_fault := PySem.W.mg_of X G a28
  have b__law_fault := F__law_fault.binds (ps := ["state", "world", "disks"]) fun _ _ _ _ _ _ us hl => match us, hl with | [_, _, _], _ => rfl
  have F__law_dark := fun_mk (st := s__law_dark) l29 c29 k29
  have g__law_dark := PySem.W.mg_of X G a29
  have b__law_dark := F__law_dark.binds (ps := ["state", "disks"]) fun _ _ _ _ _ _ us hl => match us, hl with | [_, _], _ => rfl
  have F__law_write := fun_mk (st := s__law_write) l30 c30 k30
  have g__law_write := PySem.W.mg_of X G a30
  have b__law_write := F__law_write.binds (ps := ["state", "world", "disks"]) fun _ _ _ _ _ _ us hl => match us, hl with | [_, _, _], _ => rfl
  have F_law := fun_mk (st := s_law) l31 c31 k31
  have g_law := PySem.W.mg_of X G a31
  have b_law := F_law.binds (ps := ["script"]) fun _ _ _ _ _ _ us hl => match us, hl with | [_], _ => rfl
  have T_Disks : Tx_Disks K C_Disks := ⟨⟨pg_Disks, hd_Disks, po_Disks, sa_Disks⟩, n_Disks_in_use, n_Disks_formatted, n_Disks_scrub_place, n_Disks__sizes, n_Disks__there, n_Disks__media, n_Disks__waiting, n_Disks__on, n_Disks__left, n_Disks__failures, n_Disks__reads, n_Disks__writes, n_Disks__syncs⟩
  have K_Disks : Mk K C_Disks f3 := ⟨mk_Disks, a3, i3, kc_Disks⟩
  have gC_Disks := PySem.W.mg_of X G aC_Disks
  have e_InvalidArgument : ExT K mg "InvalidArgument" C_InvalidArgument := ⟨PySem.W.mg_of X G aX_InvalidArgument, xP_InvalidArgument, kP_InvalidArgument, bP_InvalidArgument, tP_InvalidArgument, iP_InvalidArgument, sP_InvalidArgument⟩
  have e_PowerOff : ExT K mg "PowerOff" C_PowerOff := ⟨PySem.W.mg_of X G aX_PowerOff, xP_PowerOff, kP_PowerOff, bP_PowerOff, tP_PowerOff, iP_PowerOff, sP_PowerOff⟩
  have M : Mg mg := ⟨PySem.W.mg_none_of X G z_bool, PySem.W.mg_none_of X G z_int, PySem.W.mg_none_of X G z_isinstance, PySem.W.mg_none_of X G z_len, PySem.W.mg_none_of X G z_list, PySem.W.mg_none_of X G z_range, PySem.W.mg_none_of X G z_reversed, PySem.W.mg_none_of X G z_str, PySem.W.mg_none_of X G z_tuple, PySem.W.mg_none_of X G z_zip⟩
  refine ⟨(PySem.W.fnOf "law" "law" (defArgs s_law) (defBody s_law) (defScope s_law) .none kV31 dc31 pm31 an31 cd31 ct31), fun s v => .of_eq rfl, fun base _ _ => ?_⟩

  have ci : Cal l.prog w K mg base 1 "is_number" ["value", "low", "high"] sp_is_number := .mk' F_is_number g_is_number b_is_number (ok_is_number M F_is_number)
  have cs : CalX l.prog w K mg base 2 "check_sizes" ["disks", "sectors", "carrying", "depth"] (sp_check_sizes C_InvalidArgument) := ⟨_, _, ok_check_sizes M e_InvalidArgument F_check_sizes ci, g_check_sizes, F_check_sizes.kp, b_check_sizes⟩
  have cD : MakX l.prog w K mg base 3 C_Disks "Disks" ["self", "disks", "sectors", "carrying", "depth"] (sp_init C_Disks C_InvalidArgument) := ⟨_, _, ok_init M T_Disks F_Disks___init__ cs, K_Disks, gC_Disks, b_Disks___init__⟩
  have c_th : MetX l.prog w K mg base 1 C_Disks "is_there" ["self", "disk"] (sp_is_there C_Disks) := ⟨_, _, R.FnOk.toX (ok_is_there T_Disks F_Disks_is_there), T_Disks.cl, m_Disks_is_there, b_Disks_is_there⟩
  have c_pe : MetX l.prog w K mg base 1 C_Disks "pending" ["self", "disk"] (sp_pending C_Disks) := ⟨_, _, R.FnOk.toX (ok_pending M T_Disks F_Disks_pending), T_Disks.cl, m_Disks_pending, b_Disks_pending⟩
  have c_ce : MetX l.prog w K mg base 1 C_Disks "cell" ["self", "disk", "sector"] (sp_cell C_Disks) := ⟨_, _, R.FnOk.toX (ok_cell M T_Disks F_Disks_cell), T_Disks.cl, m_Disks_cell, b_Disks_cell⟩
  have c_fa : MetX l.prog w K mg base 1 C_Disks "_fail" ["self"] (sp_fail C_Disks) := ⟨_, _, R.FnOk.toX (ok_fail M T_Disks F_Disks__fail), T_Disks.cl, m_Disks__fail, b_Disks__fail⟩
  have c_op : MetX l.prog w K mg base 2 C_Disks "_operate" ["self"] (sp_operate C_Disks C_PowerOff) := ⟨_, _, ok_operate M T_Disks e_PowerOff F_Disks__operate c_fa, T_Disks.cl, m_Disks__operate, b_Disks__operate⟩
  have c_as : MetX l.prog w K mg base 2 C_Disks "ask" ["self", "disk", "sector"] (sp_ask C_Disks) := ⟨_, _, R.FnOk.toX (ok_ask M T_Disks F_Disks_ask c_ce), T_Disks.cl, m_Disks_ask, b_Disks_ask⟩
  have c_wr : MetX l.prog w K mg base 3 C_Disks "write" ["self", "disk", "sector", "data"] (sp_write C_Disks C_PowerOff) := ⟨_, _, ok_write M T_Disks F_Disks_write c_op, T_Disks.cl, m_Disks_write, b_Disks_write⟩
  have c_se : MetX l.prog w K mg base 1 C_Disks "_settle" ["self", "disk", "kept"] (sp_settle C_Disks) := ⟨_, _, R.FnOk.toX (ok_settle M T_Disks F_Disks__settle), T_Disks.cl, m_Disks__settle, b_Disks__settle⟩
  have c_sy : MetX l.prog w K mg base 3 C_Disks "sync" ["self"] (sp_sync C_Disks C_PowerOff) := ⟨_, _, ok_sync M T_Disks F_Disks_sync c_op c_se, T_Disks.cl, m_Disks_sync, b_Disks_sync⟩
  have c_ro : MetX l.prog w K mg base 1 C_Disks "rot" ["self", "disk", "sector", "data"] (sp_rot C_Disks) := ⟨_, _, R.FnOk.toX (ok_rot M T_Disks F_Disks_rot), T_Disks.cl, m_Disks_rot, b_Disks_rot⟩
  have c_ba : MetX l.prog w K mg base 1 C_Disks "bad" ["self", "disk", "sector"] (sp_bad C_Disks) := ⟨_, _, R.FnOk.toX (ok_bad M T_Disks F_Disks_bad), T_Disks.cl, m_Disks_bad, b_Disks_bad⟩
  have c_em : MetX l.prog w K mg base 1 C_Disks "_empty" ["self", "disk"] (sp_empty C_Disks) := ⟨_, _, R.FnOk.toX (ok_empty M T_Disks F_Disks__empty), T_Disks.cl, m_Disks__empty, b_Disks__empty⟩
  have c_aw : MetX l.prog w K mg base 2 C_Disks "away" ["self", "disk"] (sp_away C_Disks) := ⟨_, _, R.FnOk.toX (ok_away M T_Disks F_Disks_away c_em), T_Disks.cl, m_Disks_away, b_Disks_away⟩
  have c_bl : MetX l.prog w K mg base 2 C_Disks "blank" ["self", "disk"] (sp_blank C_Disks) := ⟨_, _, R.FnOk.toX (ok_blank M T_Disks F_Disks_blank c_em), T_Disks.cl, m_Disks_blank, b_Disks_blank⟩
  have c_po : MetX l.prog w K mg base 2 C_Disks "power" ["self", "kept"] (sp_power C_Disks) := ⟨_, _, R.FnOk.toX (ok_power M T_Disks F_Disks_power c_fa c_se), T_Disks.cl, m_Disks_power, b_Disks_power⟩
  have c_on : MetX l.prog w K mg base 1 C_Disks "is_on" ["self"] (sp_is_on C_Disks) := ⟨_, _, R.FnOk.toX (ok_is_on M T_Disks F_Disks_is_on), T_Disks.cl, m_Disks_is_on, b_Disks_is_on⟩
  have c_lo : MetX l.prog w K mg base 1 C_Disks "losses" ["self"] (sp_losses C_Disks) := ⟨_, _, R.FnOk.toX (ok_losses M T_Disks F_Disks_losses), T_Disks.cl, m_Disks_losses, b_Disks_losses⟩
  have c_co : MetX l.prog w K mg base 1 C_Disks "counts" ["self"] (sp_counts C_Disks) := ⟨_, _, R.FnOk.toX (ok_counts M T_Disks F_Disks_counts), T_Disks.cl, m_Disks_counts, b_Disks_counts⟩
  have c_fl : MetX l.prog w K mg base 1 C_Disks "fail_after" ["self", "operations"] (sp_fail_after C_Disks C_PowerOff) := ⟨_, _, ok_fail_after M T_Disks e_PowerOff F_Disks_fail_after, T_Disks.cl, m_Disks_fail_after, b_Disks_fail_after⟩
  have cn : Cal l.prog w K mg base 1 "_law_next" ["state", "limit"] sp__law_next := .mk' F__law_next g__law_next b__law_next (ok__law_next M F__law_next)
  have s2 : Cal l.prog w K mg base 2 "_law_same" ["actual", "expected"] (sp__law_same 2) := .mk' F__law_same g__law_same b__law_same (ok__law_same M F__law_same g__law_same b__law_same 2)
  have cse : Cal l.prog w K mg base 2 "_law_sector" ["state"] sp_sector := .mk' F__law_sector g__law_sector b__law_sector (ok_sector M F__law_sector cn)
  have cce : Cal l.prog w K mg base 1 "_law_cell" ["world", "disk", "sector"] sp_lcell := .mk' F__law_cell g__law_cell b__law_cell (ok_lcell M F__law_cell)
  have cri : Cal l.prog w K mg base 3 "_law_is_right" ["world", "disks"] (sp_right C_Disks) := .mk' F__law_is_right g__law_is_right b__law_is_right (ok_right M T_Disks F__law_is_right s2 cce c_pe c_th c_ce c_co)
  have cda : Cal l.prog w K mg base 4 "_law_dark" ["state", "disks"] (sp_dark C_Disks) := .mk' F__law_dark g__law_dark b__law_dark (ok_dark M T_Disks e_PowerOff F__law_dark cn c_wr c_sy c_fl c_on)
  have cwr : Cal l.prog w K mg base 4 "_law_write" ["state", "world", "disks"] (sp_lwrite C_Disks) := .mk' F__law_write g__law_write b__law_write (ok_lwrite M T_Disks F__law_write cn cse c_wr)
  have cfa : Cal l.prog w K mg base 3 "_law_fault" ["state", "world", "disks"] (sp_lfault C_Disks) := .mk' F__law_fault g__law_fault b__law_fault (ok_lfault M T_Disks F__law_fault cn cse c_ro c_ba c_aw c_bl)
  exact ok_law M T_Disks F_law cn s2 cwr cfa cri cda cce cD c_sy c_fl c_on c_lo c_as c_po
end R
open PySem PySem.W PyProof.Rows
set_option maxHeartbeats 0 in
theorem PySem.Challenge.cw_rotward_k34_disks_while_power_is_off_holds : PySem.Challenge.rw_rotward_k34_disks_while_power_is_off.Holds := by
  w_on; o_law; k_head; (case hw => w_witness2)
  k_fill
  refine L2.walk_of (l := PySem.Challenge.rw_rotward_k34_disks_while_power_is_off) (n := 63) (k := 5) (x := "script") (CX := fun _ => L2.CX0) (sp := fun w => R.sp_law _) rfl (by decide) rfl ⟨rfl, by decide, by decide⟩ (fun w h Y => PySem.W.kIn_of Y) ?F (fun _ _ a ns hl _ hS => ⟨a, ns, rfl, hS, hl, fun _ => rfl⟩) (fun _ _ _ _ _ h => h)
  case F =>
    intro w mg fa h KX G hmg
    refine' R.all_mk KX G hmg ?a1 ?l1 ?c1 ?k1 ?a2 ?l2 ?c2 ?k2 ?a3 ?i3 ?l3 ?c3 ?k3 ?a4 ?i4 ?l4 ?c4 ?k4 ?a5 ?i5 ?l5 ?c5 ?k5 ?a6 ?i6 ?l6 ?c6 ?k6 ?a7 ?i7 ?l7 ?c7 ?k7 ?a8 ?i8 ?l8 ?c8 ?k8 ?a9 ?i9 ?l9 ?c9 ?k9 ?a10 ?i10 ?l10 ?c10 ?k10 ?a11 ?i11 ?l11 ?c11 ?k11 ?a12 ?i12 ?l12 ?c12 ?k12 ?a13 ?i13 ?l13 ?c13 ?k13 ?a14 ?i14 ?l14 ?c14 ?k14 ?a15 ?i15 ?l15 ?c15 ?k15 ?a16 ?i16 ?l16 ?c16 ?k16 ?a17 ?i17 ?l17 ?c17 ?k17 ?a18 ?i18 ?l18 ?c18 ?k18 ?a19 ?i19 ?l19 ?c19 ?k19 ?a20 ?i20 ?l20 ?c20 ?k20 ?a21 ?i21 ?l21 ?c21 ?k21 ?a22 ?i22 ?l22 ?c22 ?k22 ?a23 ?l23 ?c23 ?k23 ?a24 ?l24 ?c24 ?k24 ?a25 ?l25 ?c25 ?k25 ?a26 ?l26 ?c26 ?k26 ?a27 ?l27 ?c27 ?k27 ?a28 ?l28 ?c28 ?k28 ?a29 ?l29 ?c29 ?k29 ?a30 ?l30 ?c30 ?k30 ?a31 ?l31 ?c31 ?k31 ?aC_Disks ?pg_Disks ?hd_Disks ?po_Disks ?sa_Disks ?mk_Disks ?kc_Disks ?n_Disks_in_use ?n_Disks_formatted ?n_Disks_scrub_place ?n_Disks__sizes ?n_Disks__there ?n_Disks__media ?n_Disks__waiting ?n_Disks__on ?n_Disks__left ?n_Disks__failures ?n_Disks__reads ?n_Disks__writes ?n_Disks__syncs ?aX_InvalidArgument ?xP_InvalidArgument ?kP_InvalidArgument ?bP_InvalidArgument ?tP_InvalidArgument ?iP_InvalidArgument ?sP_InvalidArgument ?aX_PowerOff ?xP_PowerOff ?kP_PowerOff ?bP_PowerOff ?tP_PowerOff ?iP_PowerOff ?sP_PowerOff ?z_bool ?z_int ?z_isinstance ?z_len ?z_list ?z_range ?z_reversed ?z_str ?z_tuple ?z_zip
    (first | (case aC_Disks => k_is) | exact bad_aC_Disks); (first | (case aX_InvalidArgument => k_is) | exact bad_aX_InvalidArgument); (first | (case aX_PowerOff => k_is) | exact bad_aX_PowerOff); (first | (case a1 => k_is) | exact bad_a1); (first | (case l1 => k_is) | exact bad_l1); (first | (case c1 => k_is) | exact bad_c1); (first | (case k1 => k_is) | exact bad_k1); (first | (case a2 => k_is) | exact bad_a2); (first | (case l2 => k_is) | exact bad_l2); (first | (case c2 => k_is) | exact bad_c2); (first | (case k2 => k_is) | exact bad_k2); (first | (case a3 => k_is) | exact bad_a3); (first | (case i3 => k_is) | exact bad_i3); (first | (case l3 => k_is) | exact bad_l3); (first | (case c3 => k_is) | exact bad_c3); (first | (case k3 => k_is) | exact bad_k3); (first | (case a4 => k_is) | exact bad_a4); (first | (case i4 => k_is) | exact bad_i4); (first | (case l4 => k_is) | exact bad_l4); (first | (case c4 => k_is) | exact bad_c4); (first | (case k4 => k_is) | exact bad_k4); (first | (case a5 => k_is) | exact bad_a5); (first | (case i5 => k_is) | exact bad_i5); (first | (case l5 => k_is) | exact bad_l5); (first | (case c5 => k_is) | exact bad_c5); (first | (case k5 => k_is) | exact bad_k5); (first | (case a6 => k_is) | exact bad_a6); (first | (case i6 => k_is) | exact bad_i6); (first | (case l6 => k_is) | exact bad_l6); (first | (case c6 => k_is) | exact bad_c6); (first | (case k6 => k_is) | exact bad_k6); (first | (case a7 => k_is) | exact bad_a7); (first | (case i7 => k_is) | exact bad_i7); (first | (case l7 => k_is) | exact bad_l7); (first | (case c7 => k_is) | exact bad_c7); (first | (case k7 => k_is) | exact bad_k7); (first | (case a8 => k_is) | exact bad_a8); (first | (case i8 => k_is) | exact bad_i8); (first | (case l8 => k_is) | exact bad_l8); (first | (case c8 => k_is) | exact bad_c8); (first | (case k8 => k_is) | exact bad_k8); (first | (case a9 => k_is) | exact bad_a9); (first | (case i9 => k_is) | exact bad_i9); (first | (case l9 => k_is) | exact bad_l9); (first | (case c9 => k_is) | exact bad_c9); (first | (case k9 => k_is) | exact bad_k9); (first | (case a10 => k_is) | exact bad_a10); (first | (case i10 => k_is) | exact bad_i10); (first | (case l10 => k_is) | exact bad_l10); (first | (case c10 => k_is) | exact bad_c10); (first | (case k10 => k_is) | exact bad_k10); (first | (case a11 => k_is) | exact bad_a11); (first | (case i11 => k_is) | exact bad_i11); (first | (case l11 => k_is) | exact bad_l11); (first | (case c11 => k_is) | exact bad_c11); (first | (case k11 => k_is) | exact bad_k11); (first | (case a12 => k_is) | exact bad_a12); (first | (case i12 => k_is) | exact bad_i12); (first | (case l12 => k_is) | exact bad_l12); (first | (case c12 => k_is) | exact bad_c12); (first | (case k12 => k_is) | exact bad_k12); (first | (case a13 => k_is) | exact bad_a13); (first | (case i13 => k_is) | exact bad_i13); (first | (case l13 => k_is) | exact bad_l13); (first | (case c13 => k_is) | exact bad_c13); (first | (case k13 => k_is) | exact bad_k13); (first | (case a14 => k_is) | exact bad_a14); (first | (case i14 => k_is) | exact bad_i14); (first | (case l14 => k_is) | exact bad_l14); (first | (case c14 => k_is) | exact bad_c14); (first | (case k14 => k_is) | exact bad_k14); (first | (case a15 => k_is) | exact bad_a15); (first | (case i15 => k_is) | exact bad_i15); (first | (case l15 => k_is) | exact bad_l15); (first | (case c15 => k_is) | exact bad_c15); (first | (case k15 => k_is) | exact bad_k15); (first | (case a16 => k_is) | exact bad_a16); (first | (case i16 => k_is) | exact bad_i16); (first | (case l16 => k_is) | exact bad_l16); (first | (case c16 => k_is) | exact bad_c16); (first | (case k16 => k_is) | exact bad_k16); (first | (case a17 => k_is) | exact bad_a17); (first | (case i17 => k_is) | exact bad_i17); (first | (case l17 => k_is) | exact bad_l17); (first | (case c17 => k_is) | exact bad_c17); (first | (case k17 => k_is) | exact bad_k17); (first | (case a18 => k_is) | exact bad_a18); (first | (case i18 => k_is) | exact bad_i18); (first | (case l18 => k_is) | exact bad_l18); (first | (case c18 => k_is) | exact bad_c18); (first | (case k18 => k_is) | exact bad_k18); (first | (case a19 => k_is) | exact bad_a19); (first | (case i19 => k_is) | exact bad_i19); (first | (case l19 => k_is) | exact bad_l19); (first | (case c19 => k_is) | exact bad_c19); (first | (case k19 => k_is) | exact bad_k19); (first | (case a20 => k_is) | exact bad_a20); (first | (case i20 => k_is) | exact bad_i20); (first | (case l20 => k_is) | exact bad_l20); (first | (case c20 => k_is) | exact bad_c20); (first | (case k20 => k_is) | exact bad_k20); (first | (case a21 => k_is) | exact bad_a21); (first | (case i21 => k_is) | exact bad_i21); (first | (case l21 => k_is) | exact bad_l21); (first | (case c21 => k_is) | exact bad_c21); (first | (case k21 => k_is) | exact bad_k21); (first | (case a22 => k_is) | exact bad_a22); (first | (case i22 => k_is) | exact bad_i22); (first | (case l22 => k_is) | exact bad_l22); (first | (case c22 => k_is) | exact bad_c22); (first | (case k22 => k_is) | exact bad_k22); (first | (case a23 => k_is) | exact bad_a23); (first | (case l23 => k_is) | exact bad_l23); (first | (case c23 => k_is) | exact bad_c23); (first | (case k23 => k_is) | exact bad_k23); (first | (case a24 => k_is) | exact bad_a24); (first | (case l24 => k_is) | exact bad_l24); (first | (case c24 => k_is) | exact bad_c24); (first | (case k24 => k_is) | exact bad_k24); (first | (case a25 => k_is) | exact bad_a25); (first | (case l25 => k_is) | exact bad_l25); (first | (case c25 => k_is) | exact bad_c25); (first | (case k25 => k_is) | exact bad_k25); (first | (case a26 => k_is) | exact bad_a26); (first | (case l26 => k_is) | exact bad_l26); (first | (case c26 => k_is) | exact bad_c26); (first | (case k26 => k_is) | exact bad_k26); (first | (case a27 => k_is) | exact bad_a27); (first | (case l27 => k_is) | exact bad_l27); (first | (case c27 => k_is) | exact bad_c27); (first | (case k27 => k_is) | exact bad_k27); (first | (case a28 => k_is) | exact bad_a28); (first | (case l28 => k_is) | exact bad_l28); (first | (case c28 => k_is) | exact bad_c28); (first | (case k28 => k_is) | exact bad_k28); (first | (case a29 => k_is) | exact bad_a29); (first | (case l29 => k_is) | exact bad_l29); (first | (case c29 => k_is) | exact bad_c29); (first | (case k29 => k_is) | exact bad_k29); (first | (case a30 => k_is) | exact bad_a30); (first | (case l30 => k_is) | exact bad_l30); (first | (case c30 => k_is) | exact bad_c30); (first | (case k30 => k_is) | exact bad_k30); (first | (case a31 => k_is) | exact bad_a31); (first | (case l31 => k_is) | exact bad_l31); (first | (case c31 => k_is) | exact bad_c31); (first | (case k31 => k_is) | exact bad_k31); (first | (case pg_Disks => k_is) | exact bad_pg_Disks); (first | (case hd_Disks => k_is) | exact bad_hd_Disks); (first | (case po_Disks => k_is) | exact bad_po_Disks); (first | (case sa_Disks => k_is) | exact bad_sa_Disks); (first | (case mk_Disks => k_is) | exact bad_mk_Disks); (first | (case kc_Disks => k_is) | exact bad_kc_Disks); (first | (case n_Disks_in_use => k_is) | exact bad_n_Disks_in_use); (first | (case n_Disks_formatted => k_is) | exact bad_n_Disks_formatted); (first | (case n_Disks_scrub_place => k_is) | exact bad_n_Disks_scrub_place); (first | (case n_Disks__sizes => k_is) | exact bad_n_Disks__sizes); (first | (case n_Disks__there => k_is) | exact bad_n_Disks__there); (first | (case n_Disks__media => k_is) | exact bad_n_Disks__media); (first | (case n_Disks__waiting => k_is) | exact bad_n_Disks__waiting); (first | (case n_Disks__on => k_is) | exact bad_n_Disks__on); (first | (case n_Disks__left => k_is) | exact bad_n_Disks__left); (first | (case n_Disks__failures => k_is) | exact bad_n_Disks__failures); (first | (case n_Disks__reads => k_is) | exact bad_n_Disks__reads); (first | (case n_Disks__writes => k_is) | exact bad_n_Disks__writes); (first | (case n_Disks__syncs => k_is) | exact bad_n_Disks__syncs); (first | (case xP_InvalidArgument => k_exc) | exact bad_xP_InvalidArgument); (first | (case kP_InvalidArgument => k_is) | exact bad_kP_InvalidArgument); (first | (case bP_InvalidArgument => k_is) | exact bad_bP_InvalidArgument); (first | (case tP_InvalidArgument => k_is) | exact bad_tP_InvalidArgument); (first | (case iP_InvalidArgument => k_is) | exact bad_iP_InvalidArgument); (first | (case sP_InvalidArgument => first | rfl | k_is) | exact bad_sP_InvalidArgument); (first | (case xP_PowerOff => k_exc) | exact bad_xP_PowerOff); (first | (case kP_PowerOff => k_is) | exact bad_kP_PowerOff); (first | (case bP_PowerOff => k_is) | exact bad_bP_PowerOff); (first | (case tP_PowerOff => k_is) | exact bad_tP_PowerOff); (first | (case iP_PowerOff => k_is) | exact bad_iP_PowerOff); (first | (case sP_PowerOff => first | rfl | k_is) | exact bad_sP_PowerOff); (first | (case z_bool => k_is) | exact bad_z_bool); (first | (case z_int => k_is) | exact bad_z_int); (first | (case z_isinstance => k_is) | exact bad_z_isinstance); (first | (case z_len => k_is) | exact bad_z_len); (first | (case z_list => k_is) | exact bad_z_list); (first | (case z_range => k_is) | exact bad_z_range); (first | (case z_reversed => k_is) | exact bad_z_reversed); (first | (case z_str => k_is) | exact bad_z_str); (first | (case z_tuple => k_is) | exact bad_z_tuple); (first | (case z_zip => k_is) | exact bad_z_zip)

