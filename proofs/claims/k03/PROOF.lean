import PyProof.Rows.All
import Wide.All
import OpenK.AllK
import Wide.FinOn
import HandS.ForMost
import HandS.IsInst
import HandS.Steps
import HandS.Evl
import HandS.Walk
import HandS.Conv
import HandS.WordsDict
import KE.KDictZip
import HandS.RevRange
import HandS.Zip
import HandS.TryOnly
import KE.OsArith
import HandS.NoneIn
import PySem.Challenge.RW_rotward_k03_log_blocks_and_tails
set_option Elab.async false
set_option linter.all false
set_option maxRecDepth 100000
set_option maxHeartbeats 4000000
namespace R
open PySem PySem.Spec L2

/-! ### rules that the layer lacks -/
section
variable {X : Cx}
/-- xs[i] read for an operation in place -/
theorem get_list : PGet X (rIxL X.K) := by
  intro pins s σ H o i ov iv Q I ro ri h
  obtain ⟨p, xs, k, z, rfl, rfl, hq, he, q⟩ := h
  cases ro
  obtain ⟨t, rfl⟩ := ri
  obtain ⟨us, vs, pl, hz⟩ := I.list hq
  obtain ⟨j, g1, g2, g3, g4, g5⟩ := atI_get he
  obtain ⟨u, eu, ru⟩ := vs.get g2
  have ln := vs.length
  have l63 := line63
  have dn : EP X pins σ Q u s := ⟨z, H, I, ru, q⟩
  rcases Int.lt_or_le k 0 with k0 | k0
  · rw [seqIndex_neg k0 g4] at g1
    have g1' := Option.some.inj g1
    refine wpAny_getItem_list_neg pl.isList k0 ?_ (by omega) ?_ dn
    · rw [List.size_toArray] <;> omega
    · rw [List.size_toArray, ← ln, g1']
      simpa using eu
  · rw [seqIndex_of k0 g5] at g1
    have g1' := Option.some.inj g1
    refine wpAny_getItem_list pl.isList k0 (by omega) ?_ dn
    rw [g1']
    simpa using eu
theorem pe_globC {x : Str} {i : Int} {pos : Pos} (hg : Gl X x) (h : ∃ t, X.mg x = some (.int i t)) (hd : (x == ("__debug__" : Str)) = false := by decide) : PE X (.Name x pos) (tC (.int i)) := by
  obtain ⟨t, h⟩ := h
  exact pe_glob hg h ⟨t, rfl⟩ hd
end

theorem pe_ty {X : Cx} {x : Str} {n : String} {pos : Pos} (hg : Gl X x) (hm : X.mg x = none) (hv : bootBuiltins x = some (.type n)) (hn : x ≠ "__name__" := by decide) (hd : (x == ("__debug__" : Str)) = false := by decide) : PE X (.Name x pos) (tC (.ty n)) := pe_bltn hg hm hv rfl hn hd
/-! ### a def that may be called -/
def Cal (P : Program) (w : World) (K : PySem.W.Frag) (mg : Str → Option Value) (base : Heap) (k : Nat) (x : Str) (ps : List Str) (sp : Sp) : Prop :=
  ∃ (f : Addr) (fd : FuncData), FnOk P w K mg base CX0 k f fd ps sp ∧ mg x = some (.ref f) ∧ PySem.W.keepIn K (.ref f) = true ∧ Binds K fd ps []
section
variable {P : Program} {w : World} {K : PySem.W.Frag} {mg : Str → Option Value} {base : Heap} {k : Nat} {x : Str} {ps : List Str} {sp : Sp}
theorem Cal.mk' {q : Str} {st : Stmt} {f : Addr} {fd : FuncData} (F : Fun K x q st f fd) (g : mg x = some (.ref f)) (b : Binds K fd ps []) (G : FnOk P w K mg base CX0 k f fd ps sp) : Cal P w K mg base k x ps sp := ⟨f, fd, G, g, F.kp, b⟩
theorem Cal.imp {sp' : Sp} (c : Cal P w K mg base k x ps sp) (h : ∀ vs H Q E, sp' vs H Q E → sp vs H Q E) : Cal P w K mg base k x ps sp' := by
  obtain ⟨f, fd, G, g, kp, b⟩ := c
  exact ⟨f, fd, G.imp h, g, kp, b⟩
theorem Cal.mono {j : Nat} (c : Cal P w K mg base k x ps sp) (h : k ≤ j) : Cal P w K mg base j x ps sp := by
  obtain ⟨f, fd, G, g, kp, b⟩ := c
  exact ⟨f, fd, G.mono h, g, kp, b⟩
end
section
variable {X : Cx} {k : Nat} {x : Str} {ps : List Str} {sp : Sp} {t : TA} {e : Expr} {es : List Expr} {p pos : Pos}
/-- the value of a call -/
def tCal (sp : Sp) (t : TA) : TE := fun σ H Q => t σ H fun vs H1 => sp vs H1 Q E0
theorem tCall_nil (sp : Sp) (t : TA) : tCall sp [] E0 t = tCal sp t := by
  funext σ H Q
  show (t σ H fun vs H1 => sp (vs ++ []) H1 Q E0) = (t σ H fun vs H1 => sp vs H1 Q E0)
  simp only [List.append_nil]
theorem pe_cal (c : Cal X.prog X.w X.K X.mg X.base k x ps sp) (hr : Room k X.A) (hg : Gl X x) (ha : PA X (e :: es) t)
    (hdb : (x == ("__debug__" : Str)) = false := by decide) (he : starEach (e :: es) X.env = (false, eval e X.env) :: starEach es X.env := by rfl) (hpl : (backTo pos (starEach es X.env)).any (·.1) = false := by rfl) :
    PE X (.Call (.Name x p) (e :: es) [] pos) (tCal sp t) := by
  obtain ⟨f, fd, G, g, kp, b⟩ := c
  have h := pe_call (p := p) (pos := pos) G hr hg g kp b .nil pass0 ha hdb he hpl
  rw [tCall_nil] at h
  exact h
theorem pe_cal0 (c : Cal X.prog X.w X.K X.mg X.base k x ps sp) (hr : Room k X.A) (hg : Gl X x) (hdb : (x == ("__debug__" : Str)) = false := by decide) : PE X (.Call (.Name x p) [] [] pos) (tCal sp tNil) := by
  obtain ⟨f, fd, G, g, kp, b⟩ := c
  have h := pe_call0 (p := p) (pos := pos) G hr hg g kp b .nil pass0 hdb
  rw [tCall_nil] at h
  exact h
end

/-! ### rules over what is tracked: their readings open by simp alone -/
section
variable {X : Cx} {e a b : Expr}
theorem PE.imp {t t' : TE} (h : PE X e t) (i : ∀ σ H Q, t' σ H Q → t σ H Q) : PE X e t' := ⟨fun pins s σ H Q I q => h.run pins s σ H Q I (i σ H Q q)⟩
theorem PT.imp {t t' : TT} (h : PT X e t) (i : ∀ σ H Q, t' σ H Q → t σ H Q) : PT X e t' := ⟨fun pins s σ H Q I q => h.run pins s σ H Q I (i σ H Q q)⟩
theorem PS.imp {st : Stmt} {t t' : TS} (h : PS X st t) (i : ∀ D σ H, t' D σ H → t D σ H) : PS X st t' := ⟨fun pins s σ H D I q => h.run pins s σ H D I (i D σ H q)⟩
theorem CallR.imp {f : Value} {r r' : List V → Hp → VK → Prop} (h : CallR X f r) (i : ∀ xs H Q, r' xs H Q → r xs H Q) : CallR X f r' := fun pins s σ H xs us Q I rv q => h pins s σ H xs us Q I rv (i xs H Q q)
theorem IxR.imp {r r' : R2} (h : IxR X r) (i : ∀ x y H Q, r' x y H Q → r x y H Q) : IxR X r' := fun value slice pins s σ H x y v u Q I rx ry q hs => h value slice pins s σ H x y v u Q I rx ry (i x y H Q q) hs
theorem SqL.tr {K : PySem.W.Frag} {H : Hp} {p : Addr} {xs : List V} (h : H p = some (.lst xs)) : SqL K H p xs := .inl (.inl h)
theorem SqT.tr {K : PySem.W.Frag} {H : Hp} {p : Addr} {xs : List V} (h : H p = some (.tup xs)) : SqT K H p xs := .inl (.inl h)

/-- xs[i], a tracked list | tuple -/
def kIxL : R2 := fun x y H Q => ∃ p i xs v, x = .ref p ∧ y = .int i ∧ H p = some (.lst xs) ∧ atI xs i = some v ∧ Q v H
def kIxT : R2 := fun x y H Q => ∃ p i xs v, x = .ref p ∧ y = .int i ∧ H p = some (.tup xs) ∧ atI xs i = some v ∧ Q v H
theorem ix_l : IxR X kIxL := IxR.imp ix_list fun _ _ _ _ ⟨p, i, xs, v, e1, e2, h, ha, q⟩ => ⟨p, xs, i, v, e1, e2, SqL.tr h, ha, q⟩
theorem ix_t : IxR X kIxT := IxR.imp ix_tup fun _ _ _ _ ⟨p, i, xs, v, e1, e2, h, ha, q⟩ => ⟨p, xs, i, v, e1, e2, SqT.tr h, ha, q⟩
theorem get_l : PGet X kIxL := fun pins s σ H o i ov iv Q I ro ri ⟨p, i', xs, v, e1, e2, h, ha, q⟩ => get_list pins s σ H o i ov iv Q I ro ri ⟨p, xs, i', v, e1, e2, SqL.tr h, ha, q⟩
/-- len -/
def kLenL : List V → Hp → VK → Prop := fun vs H Q => ∃ p xs, vs = [.ref p] ∧ H p = some (.lst xs) ∧ Q (.int xs.length) H
def kLenT : List V → Hp → VK → Prop := fun vs H Q => ∃ p xs, vs = [.ref p] ∧ H p = some (.tup xs) ∧ Q (.int xs.length) H
theorem len_l : CallR X (.builtin "len") kLenL := CallR.imp call_len_seq fun _ _ _ ⟨p, xs, e, h, q⟩ => ⟨p, xs, e, .inl (SqL.tr h), q⟩
theorem len_t : CallR X (.builtin "len") kLenT := CallR.imp call_len_seq fun _ _ _ ⟨p, xs, e, h, q⟩ => ⟨p, xs, e, .inr (SqT.tr h), q⟩
/-- list or tuple -/
def kIxS : R2 := fun x y H Q => ∃ p i xs v, x = .ref p ∧ y = .int i ∧ (H p = some (.lst xs) ∨ H p = some (.tup xs)) ∧ atI xs i = some v ∧ Q v H
theorem ix_s : IxR X kIxS := IxR.imp ix_seq fun _ _ _ _ ⟨p, i, xs, v, e1, e2, h, ha, q⟩ => h.elim (fun h => .inl ⟨p, xs, i, v, e1, e2, SqL.tr h, ha, q⟩) fun h => .inr (.inl ⟨p, xs, i, v, e1, e2, SqT.tr h, ha, q⟩)
def kLenS : List V → Hp → VK → Prop := fun vs H Q => ∃ p xs, vs = [.ref p] ∧ (H p = some (.lst xs) ∨ H p = some (.tup xs)) ∧ Q (.int xs.length) H
theorem len_s : CallR X (.builtin "len") kLenS := CallR.imp call_len_seq fun _ _ _ ⟨p, xs, e, h, q⟩ => ⟨p, xs, e, h.elim (fun h => .inl (SqL.tr h)) (fun h => .inr (SqT.tr h)), q⟩
/-- int(i) -/
def kInt : List V → Hp → VK → Prop := fun vs H Q => ∃ i, vs = [.int i] ∧ Q (.int i) H
theorem int_i : CallR X (.type "int") kInt := CallR.imp call_int1 fun _ _ _ ⟨i, e, q⟩ => .inl ⟨i, e, q⟩
/-- list(xs): a new one -/
def kListL : List V → Hp → VK → Prop := fun vs H Q => ∃ p xs, vs = [.ref p] ∧ H p = some (.lst xs) ∧ ∀ l, H l = none → Q (.ref l) (upd H l (.lst xs))
theorem list_l : CallR X (.type "list") kListL := CallR.imp call_list_of fun _ _ _ ⟨p, xs, e, h, q⟩ => ⟨p, xs, e, .inl (SqL.tr h), q⟩
def kListT : List V → Hp → VK → Prop := fun vs H Q => ∃ p xs, vs = [.ref p] ∧ H p = some (.tup xs) ∧ ∀ l, H l = none → Q (.ref l) (upd H l (.lst xs))
theorem list_t : CallR X (.type "list") kListT := CallR.imp call_list_of fun _ _ _ ⟨p, xs, e, h, q⟩ => ⟨p, xs, e, .inr (SqT.tr h), q⟩
def kTupL : List V → Hp → VK → Prop := fun vs H Q => ∃ p xs, vs = [.ref p] ∧ H p = some (.lst xs) ∧ ∀ l, H l = none → Q (.ref l) (upd H l (.tup xs))
theorem tup_l : CallR X (.type "tuple") kTupL := CallR.imp call_tuple_of fun _ _ _ ⟨p, xs, e, h, q⟩ => ⟨p, xs, e, .inl ⟨SqL.tr h, q⟩⟩
/-- isinstance(x, T), T built in -/
def tyN (H : Hp) : V → Option String
  | .non => some "NoneType"
  | .bl _ => some "bool"
  | .int _ => some "int"
  | .str _ => some "str"
  | .ref a => match H a with
    | some (.lst _) => some "list"
    | some (.tup _) => some "tuple"
    | some (.dK _) => some "dict"
    | some (.dT _) => some "dict"
    | _ => none
  | _ => none
theorem tyN_of {K : PySem.W.Frag} {H : Hp} {x : V} {n : String} (h : tyN H x = some n) : TyX K H x (.type n) := by
  cases x with
  | non => cases h; exact .base .non
  | bl b => cases h; exact .base (.bl b)
  | int i => cases h; exact .base (.int i)
  | str z => cases h; exact .base (.str z)
  | byt b => cases h
  | flt b => cases h
  | ty b => cases h
  | ref a =>
    have h' : (match H a with
      | some (.lst _) => some "list"
      | some (.tup _) => some "tuple"
      | some (.dK _) => some "dict"
      | some (.dT _) => some "dict"
      | _ => none) = some n := h
    cases e : H a with
    | none => rw [e] at h'; cases h'
    | some o =>
      rw [e] at h'
      cases o with
      | lst xs => cases h'; exact .base (.lst e)
      | tup xs => cases h'; exact .base (.tup e)
      | dK xs => cases h'; exact .base (.dK e)
      | dT xs => cases h'; exact .base (.dT e)
      | _ => cases h'
theorem tyN_lst {H : Hp} {a : Addr} {xs : List V} (h : H a = some (.lst xs)) : tyN H (.ref a) = some "list" := by
  show (match H a with
      | some (.lst _) => some "list"
      | some (.tup _) => some "tuple"
      | some (.dK _) => some "dict"
      | some (.dT _) => some "dict"
      | _ => none) = some "list"
  rw [h]
theorem tyN_tup {H : Hp} {a : Addr} {xs : List V} (h : H a = some (.tup xs)) : tyN H (.ref a) = some "tuple" := by
  show (match H a with
      | some (.lst _) => some "list"
      | some (.tup _) => some "tuple"
      | some (.dK _) => some "dict"
      | some (.dT _) => some "dict"
      | _ => none) = some "tuple"
  rw [h]
theorem tyN_int {H : Hp} {i : Int} : tyN H (.int i) = some "int" := rfl
theorem tyN_bl {H : Hp} {i : Bool} : tyN H (.bl i) = some "bool" := rfl
theorem tyN_non {H : Hp} : tyN H .non = some "NoneType" := rfl
theorem tyN_str {H : Hp} {i : Str} : tyN H (.str i) = some "str" := rfl
def kIsi : List V → Hp → VK → Prop := fun vs H Q => ∃ x c n b, vs = [x, .ty c] ∧ tyN H x = some n ∧ kitB n c = some b ∧ Q (.bl b) H
theorem isi_b : CallR X (.builtin "isinstance") kIsi := CallR.imp call_isi fun _ _ _ ⟨x, c, n, b, e, h, k, q⟩ => ⟨x, .ty c, .type n, .type c, b, e, .ty c, tyN_of h, kit_ty k, q⟩
theorem kb_NoneType_bool : kitB "NoneType" "bool" = some false := by decide +kernel
theorem kb_NoneType_int : kitB "NoneType" "int" = some false := by decide +kernel
theorem kb_NoneType_str : kitB "NoneType" "str" = some false := by decide +kernel
theorem kb_NoneType_tuple : kitB "NoneType" "tuple" = some false := by decide +kernel
theorem kb_NoneType_list : kitB "NoneType" "list" = some false := by decide +kernel
theorem kb_bool_bool : kitB "bool" "bool" = some true := by decide +kernel
theorem kb_bool_int : kitB "bool" "int" = some true := by decide +kernel
theorem kb_bool_str : kitB "bool" "str" = some false := by decide +kernel
theorem kb_bool_tuple : kitB "bool" "tuple" = some false := by decide +kernel
theorem kb_bool_list : kitB "bool" "list" = some false := by decide +kernel
theorem kb_int_bool : kitB "int" "bool" = some false := by decide +kernel
theorem kb_int_int : kitB "int" "int" = some true := by decide +kernel
theorem kb_int_str : kitB "int" "str" = some false := by decide +kernel
theorem kb_int_tuple : kitB "int" "tuple" = some false := by decide +kernel
theorem kb_int_list : kitB "int" "list" = some false := by decide +kernel
theorem kb_str_bool : kitB "str" "bool" = some false := by decide +kernel
theorem kb_str_int : kitB "str" "int" = some false := by decide +kernel
theorem kb_str_str : kitB "str" "str" = some true := by decide +kernel
theorem kb_str_tuple : kitB "str" "tuple" = some false := by decide +kernel
theorem kb_str_list : kitB "str" "list" = some false := by decide +kernel
theorem kb_tuple_bool : kitB "tuple" "bool" = some false := by decide +kernel
theorem kb_tuple_int : kitB "tuple" "int" = some false := by decide +kernel
theorem kb_tuple_str : kitB "tuple" "str" = some false := by decide +kernel
theorem kb_tuple_tuple : kitB "tuple" "tuple" = some true := by decide +kernel
theorem kb_tuple_list : kitB "tuple" "list" = some false := by decide +kernel
theorem kb_list_bool : kitB "list" "bool" = some false := by decide +kernel
theorem kb_list_int : kitB "list" "int" = some false := by decide +kernel
theorem kb_list_str : kitB "list" "str" = some false := by decide +kernel
theorem kb_list_tuple : kitB "list" "tuple" = some false := by decide +kernel
theorem kb_list_list : kitB "list" "list" = some true := by decide +kernel
theorem op_isNV : OpR X (compareOp .Is) (fun x y H Q => y = .non ∧ Q (.bl (decide (x = .non))) H) := fun pins s σ H x y v u Q I rx ry ⟨e, q⟩ => op_isN pins s σ H x y v u Q I rx ry ⟨e, q⟩
/-- o.m(..), o a tracked list -/
def kBM (r : V → List V → Hp → VK → Prop) (to : TE) (t : TA) : TE := fun σ H Q => to σ H fun x H1 => ∃ p xs, x = .ref p ∧ H1 p = some (.lst xs) ∧ t σ H1 fun ys H2 => r x ys H2 Q
def kBM0 (r : V → List V → Hp → VK → Prop) (to : TE) : TE := fun σ H Q => to σ H fun x H1 => ∃ p xs, x = .ref p ∧ H1 p = some (.lst xs) ∧ r x [] H1 Q
theorem pe_bmL {o e : Expr} {es : List Expr} {to : TE} {t : TA} {name : Str} {apos cpos : Pos} {id : String} {r : V → List V → Hp → VK → Prop}
    (slot : Slot "list" name id) (hty : typeOf (.builtin id) = pure (.type "method_descriptor")) (hm : MtR X id r) (ho : PE X o to) (ha : PA X (e :: es) t)
    (hbase : attributeBase o name X.env (eval o X.env) = eval o X.env := by rfl)
    (hfew : ((backTo cpos (starEach (e :: es) X.env)).all (fun x => !x.1) && (backToKw cpos (keywordEach [] X.env)).all (fun x => x.1.isSome)
      && decide ((e :: es).length + ([] : List Keyword).length + (if ([] : List Keyword).isEmpty then 0 else 1) < 30)) = true := by rfl)
    (hline : (apos.endLine == cpos.line) = true := by rfl) (hs : starEach (e :: es) X.env = (false, eval e X.env) :: starEach es X.env := by rfl) (hplain : (backTo cpos (starEach es X.env)).any (·.1) = false := by rfl) :
    PE X (.Call (.Attribute o name apos) (e :: es) [] cpos) (tBM X.K "list" r to t) := pe_bm PySem.F.plainAttrs_list slot hty hm ho ha hbase hfew hline hs hplain
/-- o is a name (or anything whose value's reading is monotone) -/
def Mono (t : TE) : Prop := ∀ σ H (Q Q' : VK), (∀ v H', Q v H' → Q' v H') → t σ H Q → t σ H Q'
theorem mono_var {i : Nat} : Mono (tVar i) := fun _ _ _ _ m ⟨v, e, q⟩ => ⟨v, e, m _ _ q⟩
/-- x.append(..) and the like, x a local name -/
def kMt (r : V → List V → Hp → VK → Prop) (i : Nat) (t : TA) : TE := fun σ H Q => ∃ p xs, σ[i]? = some (some (V.ref p)) ∧ H p = some (.lst xs) ∧ t σ H fun ys H2 => r (V.ref p) ys H2 Q
def kMt0 (r : V → List V → Hp → VK → Prop) (i : Nat) : TE := fun σ H Q => ∃ p xs, σ[i]? = some (some (V.ref p)) ∧ H p = some (.lst xs) ∧ r (V.ref p) [] H Q
theorem pe_mt {i : Nat} {o e : Expr} {es : List Expr} {t : TA} {name : Str} {apos cpos : Pos} {id : String} {r : V → List V → Hp → VK → Prop}
    (slot : Slot "list" name id) (hty : typeOf (.builtin id) = pure (.type "method_descriptor")) (hm : MtR X id r) (ho : PE X o (tVar i)) (ha : PA X (e :: es) t)
    (hbase : attributeBase o name X.env (eval o X.env) = eval o X.env := by rfl)
    (hfew : ((backTo cpos (starEach (e :: es) X.env)).all (fun x => !x.1) && (backToKw cpos (keywordEach [] X.env)).all (fun x => x.1.isSome)
      && decide ((e :: es).length + ([] : List Keyword).length + (if ([] : List Keyword).isEmpty then 0 else 1) < 30)) = true := by rfl)
    (hline : (apos.endLine == cpos.line) = true := by rfl) (hs : starEach (e :: es) X.env = (false, eval e X.env) :: starEach es X.env := by rfl) (hplain : (backTo cpos (starEach es X.env)).any (·.1) = false := by rfl) :
    PE X (.Call (.Attribute o name apos) (e :: es) [] cpos) (kMt r i t) := PE.imp (pe_bm PySem.F.plainAttrs_list slot hty hm ho ha hbase hfew hline hs hplain) fun _ _ _ ⟨p, xs, e, h, q⟩ => ⟨.ref p, e, .inl ⟨rfl, xs, SqL.tr h⟩, q⟩
theorem pe_mt0 {i : Nat} {o : Expr} {name : Str} {apos cpos : Pos} {id : String} {r : V → List V → Hp → VK → Prop}
    (slot : Slot "list" name id) (hty : typeOf (.builtin id) = pure (.type "method_descriptor")) (hm : MtR X id r) (ho : PE X o (tVar i))
    (hbase : attributeBase o name X.env (eval o X.env) = eval o X.env := by rfl) (hline : (apos.endLine == cpos.line) = true := by rfl) : PE X (.Call (.Attribute o name apos) [] [] cpos) (kMt0 r i) :=
  PE.imp (pe_bm0 PySem.F.plainAttrs_list slot hty hm ho hbase hline) fun _ _ _ ⟨p, xs, e, h, q⟩ => ⟨.ref p, e, .inl ⟨rfl, xs, SqL.tr h⟩, q⟩
end
/-! ### for loops over tracked things -/
section
variable {X : Cx}
/-- what is wanted may be weakened -/
def tMo (t : TE) : TE := fun σ H Q => ∃ A : VK, t σ H A ∧ ∀ v H', A v H' → Q v H'
theorem pe_mo {e : Expr} {t : TE} (h : PE X e t) : PE X e (tMo t) := ⟨fun pins s σ H Q I ⟨A, q, m⟩ => thn (h.run pins s σ H A I q) fun _ _ ⟨v, H', I', r, z⟩ => ⟨v, H', I', r, m v H' z⟩⟩
def kIterL (K : PySem.W.Frag) (tl : TE) : TI := fun σ H R => tl σ H fun x H1 => ∃ a xs, x = .ref a ∧ H1 a = some (.lst xs) ∧ R (Itl K a) H1
def kIterT (K : PySem.W.Frag) (tl : TE) : TI := fun σ H R => tl σ H fun x H1 => ∃ a xs, x = .ref a ∧ H1 a = some (.tup xs) ∧ R (Itt K a) H1
theorem pi_l {tg l : Expr} {tl : TE} (hl : PE X l tl) : PI X tg l (kIterL X.K tl) := ⟨fun pins s σ H R I q => (pi_list (pe_mo hl)).run pins s σ H R I ⟨_, q, fun _ _ ⟨a, xs, e, h, z⟩ => ⟨a, e, ⟨xs, SqL.tr h⟩, z⟩⟩⟩
theorem pi_t {tg l : Expr} {tl : TE} (hl : PE X l tl) : PI X tg l (kIterT X.K tl) := ⟨fun pins s σ H R I q => (pi_tup (pe_mo hl)).run pins s σ H R I ⟨_, q, fun _ _ ⟨a, xs, e, h, z⟩ => ⟨a, e, ⟨xs, SqT.tr h⟩, z⟩⟩⟩
def tForJ (J : It) (g : TG) (tb : TS) (D : Ends) (σ : St) (H : Hp) : Prop := ∃ W : Nat → Nat → St → Hp → Prop, (∃ m, W 0 m σ H) ∧ ∀ i m σ H, W i m σ H →
  (J.stop i H ∧ D.nx σ H) ∨ (J.go i H ∧ ∃ N : St → Hp → Prop, (∀ σ' H', N σ' H' → ∃ m', m' < m ∧ W (i + 1) m' σ' H') ∧ ∀ x H', J.yld i H x H' → g x σ H' fun σ2 H2 => tb { D with nx := N, ct := N, bk := D.nx } σ2 H2)
theorem forJ_range {lo : Int} {m : Nat} {g : TG} {tb : TS} {n b c : St → Hp → Prop} {r : VK} {σ : L2.St} {H : Hp} (Pv : Nat → St → Hp → Prop) (h0 : Pv 0 σ H)
    (hs : ∀ i σ H, i < m → Pv i σ H → g (.int (lo + i)) σ H fun σ2 H2 => tb ⟨Pv (i + 1), r, n, Pv (i + 1)⟩ σ2 H2) (hd : ∀ σ H, Pv m σ H → n σ H) : tForJ (Itr lo m) g tb ⟨n, r, b, c⟩ σ H := for_range Pv h0 hs hd
theorem forJ_range0 {m : Nat} {g : TG} {tb : TS} {n b c : St → Hp → Prop} {r : VK} {σ : L2.St} {H : Hp} (Pv : Nat → St → Hp → Prop) (h0 : Pv 0 σ H)
    (hs : ∀ i σ H, i < m → Pv i σ H → g (.int (i : Int)) σ H fun σ2 H2 => tb ⟨Pv (i + 1), r, n, Pv (i + 1)⟩ σ2 H2) (hd : ∀ σ H, Pv m σ H → n σ H) : tForJ (Itr 0 m) g tb ⟨n, r, b, c⟩ σ H := for_range Pv h0 (fun i σ H h p => by
      rw [Int.zero_add]
      exact hs i σ H h p) hd
theorem forJ_list {K : PySem.W.Frag} {a : Addr} (xs : List V) {g : TG} {tb : TS} {n b c : St → Hp → Prop} {r : VK} {σ : L2.St} {H : Hp} (Pv : Nat → St → Hp → Prop) (h0 : Pv 0 σ H) (hl : ∀ i σ H, i ≤ xs.length → Pv i σ H → H a = some (.lst xs))
    (hs : ∀ i x σ H, xs[i]? = some x → Pv i σ H → g x σ H fun σ2 H2 => tb ⟨Pv (i + 1), r, n, Pv (i + 1)⟩ σ2 H2) (hd : ∀ σ H, Pv xs.length σ H → n σ H) : tForJ (Itl K a) g tb ⟨n, r, b, c⟩ σ H :=
  for_list Pv h0 (fun i σ H h p => SqL.tr (hl i σ H h p)) hs hd
theorem forJ_tup {K : PySem.W.Frag} {a : Addr} (xs : List V) {g : TG} {tb : TS} {n b c : St → Hp → Prop} {r : VK} {σ : L2.St} {H : Hp} (Pv : Nat → St → Hp → Prop) (h0 : Pv 0 σ H) (hl : ∀ i σ H, i ≤ xs.length → Pv i σ H → H a = some (.tup xs))
    (hs : ∀ i x σ H, xs[i]? = some x → Pv i σ H → g x σ H fun σ2 H2 => tb ⟨Pv (i + 1), r, n, Pv (i + 1)⟩ σ2 H2) (hd : ∀ σ H, Pv xs.length σ H → n σ H) : tForJ (Itt K a) g tb ⟨n, r, b, c⟩ σ H :=
  for_tup Pv h0 (fun i σ H h p => SqT.tr (hl i σ H h p)) hs hd
end
/-! ### places of lists -/
theorem ixN_natL (n i : Nat) : ixN n (i : Int) = if i < n then some i else none := by
  unfold ixN
  by_cases h : i < n
  · rw [if_pos (by omega), if_pos (by omega), if_pos h]
    simp
  · rw [if_pos (by omega), if_neg (by omega), if_neg h]
theorem atI_natL {α : Type} (xs : List α) (i : Nat) : atI xs (i : Int) = xs[i]? := by
  unfold atI
  rw [ixN_natL]
  by_cases h : i < xs.length
  · rw [if_pos h]
    rfl
  · rw [if_neg h]
    exact (List.getElem?_eq_none (by omega)).symm
theorem atI_map {ns : List Int} {i : Int} (h0 : 0 ≤ i) (h : i < ns.length) : ∃ x, atI (ns.map V.int) i = some (.int x) := by
  refine ⟨ns[i.toNat]'(by omega), ?_⟩
  obtain ⟨k, rfl⟩ : ∃ k : Nat, i = (k : Int) := ⟨i.toNat, by omega⟩
  rw [atI_natL, List.getElem?_map, List.getElem?_eq_getElem (by omega)]
  simp
theorem atI_m1 {α : Type} (xs : List α) : atI xs (-1) = xs.getLast? := by
  unfold atI ixN
  rw [List.getLast?_eq_getElem?, if_neg (by decide)]
  by_cases h : xs = []
  · subst h; rfl
  · have : 0 < xs.length := by cases xs with | nil => exact absurd rfl h | cons _ _ => simp
    rw [if_pos (by omega)]
    show xs[(-1 + (xs.length : Int)).toNat]? = _
    rw [show (-1 + (xs.length : Int)).toNat = xs.length - 1 by omega]
theorem atI_0 {α : Type} (xs : List α) : atI xs 0 = xs[0]? := atI_natL xs 0
theorem ixN_0 (n : Nat) : ixN n 0 = if 0 < n then some 0 else none := ixN_natL n 0
theorem atI_1 {α : Type} (xs : List α) : atI xs 1 = xs[1]? := atI_natL xs 1
theorem ixN_1 (n : Nat) : ixN n 1 = if 1 < n then some 1 else none := ixN_natL n 1
theorem atI_2 {α : Type} (xs : List α) : atI xs 2 = xs[2]? := atI_natL xs 2
theorem ixN_2 (n : Nat) : ixN n 2 = if 2 < n then some 2 else none := ixN_natL n 2
theorem atI_3 {α : Type} (xs : List α) : atI xs 3 = xs[3]? := atI_natL xs 3
theorem ixN_3 (n : Nat) : ixN n 3 = if 3 < n then some 3 else none := ixN_natL n 3
theorem atI_4 {α : Type} (xs : List α) : atI xs 4 = xs[4]? := atI_natL xs 4
theorem ixN_4 (n : Nat) : ixN n 4 = if 4 < n then some 4 else none := ixN_natL n 4
theorem atI_5 {α : Type} (xs : List α) : atI xs 5 = xs[5]? := atI_natL xs 5
theorem ixN_5 (n : Nat) : ixN n 5 = if 5 < n then some 5 else none := ixN_natL n 5
theorem atI_6 {α : Type} (xs : List α) : atI xs 6 = xs[6]? := atI_natL xs 6
theorem ixN_6 (n : Nat) : ixN n 6 = if 6 < n then some 6 else none := ixN_natL n 6
theorem atI_7 {α : Type} (xs : List α) : atI xs 7 = xs[7]? := atI_natL xs 7
theorem ixN_7 (n : Nat) : ixN n 7 = if 7 < n then some 7 else none := ixN_natL n 7
theorem atI_8 {α : Type} (xs : List α) : atI xs 8 = xs[8]? := atI_natL xs 8
theorem ixN_8 (n : Nat) : ixN n 8 = if 8 < n then some 8 else none := ixN_natL n 8
theorem atI_9 {α : Type} (xs : List α) : atI xs 9 = xs[9]? := atI_natL xs 9
theorem ixN_9 (n : Nat) : ixN n 9 = if 9 < n then some 9 else none := ixN_natL n 9
theorem atI_10 {α : Type} (xs : List α) : atI xs 10 = xs[10]? := atI_natL xs 10
theorem ixN_10 (n : Nat) : ixN n 10 = if 10 < n then some 10 else none := ixN_natL n 10
theorem atI_11 {α : Type} (xs : List α) : atI xs 11 = xs[11]? := atI_natL xs 11
theorem ixN_11 (n : Nat) : ixN n 11 = if 11 < n then some 11 else none := ixN_natL n 11
theorem atI_12 {α : Type} (xs : List α) : atI xs 12 = xs[12]? := atI_natL xs 12
theorem ixN_12 (n : Nat) : ixN n 12 = if 12 < n then some 12 else none := ixN_natL n 12

/-! ### readings step by step, from the root -/
theorem upd_id {H : Hp} {a : Addr} {o : HO} (h : H a = some o) : upd H a o = H := by
  funext b
  unfold upd
  split
  · next e => rw [e, h]
  · rfl
theorem exAt {H H' : Hp} (e : Evl.Ex H H') {a : Addr} {o : HO} (h : H a = some o) : H' a = some o := e a o h
theorem ne_fresh {H : Hp} {a b : Addr} {o : HO} (h' : H b = none) (h : H a = some o) : a ≠ b := ne_of_none h h'
inductive SetAt : L2.St → Nat → V → L2.St → Prop
  | zero {x : Option V} {σ : L2.St} {v : V} : SetAt (x :: σ) 0 v (some v :: σ)
  | succ {x : Option V} {σ σ' : L2.St} {i : Nat} {v : V} (h : SetAt σ i v σ') : SetAt (x :: σ) (i + 1) v (x :: σ')
theorem SetAt.eq {σ σ' : L2.St} {i : Nat} {v : V} (h : SetAt σ i v σ') : σ.set i (some v) = σ' := by
  induction h with
  | zero => rfl
  | succ _ ih => rw [List.set_cons_succ, ih]
inductive StartAt : List Str → List V → L2.St → Prop
  | nil : StartAt [] [] []
  | pad {n : Str} {N : List Str} {σ : L2.St} (h : StartAt N [] σ) : StartAt (n :: N) [] (none :: σ)
  | val {n : Str} {N : List Str} {v : V} {vs : List V} {σ : L2.St} (h : StartAt N vs σ) : StartAt (n :: N) (v :: vs) (some v :: σ)
theorem StartAt.eq {N : List Str} {vs : List V} {σ : L2.St} (h : StartAt N vs σ) : L2.start N vs = σ := by
  induction h with
  | nil => rfl
  | pad _ ih =>
    rw [← ih]
    unfold L2.start
    simp [List.replicate_succ]
  | val _ ih =>
    rw [← ih]
    unfold L2.start
    simp
theorem iBody {N : List Str} {vs : List V} {σ : L2.St} {t : TS} {D : Ends} {H : Hp} (h : StartAt N vs σ) (q : t D σ H) : t D (L2.start N vs) H := by
  rw [h.eq]
  exact q
section
variable {K : PySem.W.Frag} {σ σ' : L2.St} {H : Hp} {Q : VK} {ta tb te td : TE} {tt tu : TT} {n b c : St → Hp → Prop} {r : VK} {ts us : TS} {x y v : V} {i j : Int} {tA tR : TA} {QB : Bool → Hp → Prop} {QA : List V → Hp → Prop} {f : Int → Int → V} {R : It → Hp → Prop}
theorem iSeq (q : ts ⟨us ⟨n, r, b, c⟩, r, b, c⟩ σ H) : tSeq ts us ⟨n, r, b, c⟩ σ H := q
theorem iCut (Mid : L2.St → Hp → Prop) (q1 : ts ⟨Mid, r, b, c⟩ σ H) (q2 : ∀ σ' H', Mid σ' H' → us ⟨n, r, b, c⟩ σ' H') : Evl.tCut ts us ⟨n, r, b, c⟩ σ H := ⟨Mid, q1, q2⟩
theorem iNext (q : n σ H) : tNext ⟨n, r, b, c⟩ σ H := q
theorem iBreak (q : b σ H) : tBreak ⟨n, r, b, c⟩ σ H := q
theorem iCont (q : c σ H) : tCont ⟨n, r, b, c⟩ σ H := q
theorem iAsg {g : TG} (q : te σ H fun x H1 => g x σ H1 n) : tAsg te g ⟨n, r, b, c⟩ σ H := q
theorem iName {i : Nat} {QS : St → Hp → Prop} (h : SetAt σ i v σ') (q : QS σ' H) : gName i v σ H QS := by
  show QS (σ.set i (some v)) H
  rw [h.eq]
  exact q
theorem iDrop (q : te σ H fun _ H1 => n σ H1) : tDrop te ⟨n, r, b, c⟩ σ H := q
theorem iRet (q : te σ H r) : tRet te ⟨n, r, b, c⟩ σ H := q
theorem iRetN (q : r .non H) : tRetN ⟨n, r, b, c⟩ σ H := q
theorem iIfS (q : tt σ H fun k H1 => if k = true then ts ⟨n, r, b, c⟩ σ H1 else us ⟨n, r, b, c⟩ σ H1) : tIfS tt ts us ⟨n, r, b, c⟩ σ H := q
theorem iAug {i : Nat} {ti : TIp} (h : σ[i]? = some (some x)) (q : te σ H fun y H1 => ti x y H1 fun z H2 => ∃ σ', SetAt σ i z σ' ∧ n σ' H2) (m : ∀ y H1 (A B : VK), (∀ z H2, A z H2 → B z H2) → ti x y H1 A → ti x y H1 B) (mt : ∀ (A B : VK), (∀ z H2, A z H2 → B z H2) → te σ H A → te σ H B) : tAug i te ti ⟨n, r, b, c⟩ σ H :=
  ⟨x, h, mt _ _ (fun y H1 q1 => m y H1 _ _ (fun z H2 ⟨σ', e, q2⟩ => by
    show n (σ.set i (some z)) H2
    rw [e.eq]
    exact q2) q1) q⟩
/-- x += e, ints -/
theorem iAugI {i : Nat} {f : Int → Int → Int} {a : Int} (h : σ[i]? = some (some (.int a))) (q : te σ H fun y H1 => ∃ d, y = .int d ∧ n (σ.set i (some (.int (f a d)))) H1) (mt : ∀ (A B : VK), (∀ z H2, A z H2 → B z H2) → te σ H A → te σ H B) : tAug i te (ipI f) ⟨n, r, b, c⟩ σ H :=
  ⟨_, h, mt _ _ (fun y H1 ⟨d, e, q1⟩ => ⟨a, d, rfl, e, q1⟩) q⟩
def kAug (i : Nat) (f : Int → Int → Int) (a : Int) (σ : St) (n : St → Hp → Prop) : VK := fun y H1 => ∃ d, y = .int d ∧ n (σ.set i (some (.int (f a d)))) H1
theorem iAugK {i : Nat} {f : Int → Int → Int} {a : Int} (h : σ[i]? = some (some (.int a))) (q : te σ H fun y H1 => (ipI f) (.int a) y H1 fun z H2 => gName i z σ H2 n) : tAug i te (ipI f) ⟨n, r, b, c⟩ σ H := ⟨_, h, q⟩
theorem iIpI {f : Int → Int → Int} (q : Q (.int (f i j)) H) : ipI f (.int i) (.int j) H Q := ⟨i, j, rfl, rfl, q⟩
theorem iAugS {to ti te : TE} {tget : V → V → Hp → VK → Prop} {tip : TIp} {tset : TSet} (q : to σ H fun o H1 => ti σ H1 fun i H2 => tget o i H2 fun x H3 => te σ H3 fun y H4 => tip x y H4 fun z H5 => tset o i z H5 fun H6 => n σ H6) : tAugS to ti te tget tip tset ⟨n, r, b, c⟩ σ H := q
theorem iFor {wi : TI} {g : TG} (q : wi σ H fun J H1 => tForJ J g ts ⟨n, r, b, c⟩ σ H1) : tFor wi g ts ⟨n, r, b, c⟩ σ H := q
/-- targets -/
theorem iSub {to ti : TE} {t : TSet} {QS : St → Hp → Prop} (q : to σ H fun o H1 => ti σ H1 fun i H2 => t o i v H2 fun H3 => QS σ H3) : gSub to ti t v σ H QS := q
theorem iSetL {p : Addr} {xs : List V} {k : Nat} {QH : Hp → Prop} (h : H p = some (.lst xs)) (hi : ixN xs.length i = some k) (q : QH (upd H p (.lst (xs.set k v)))) : rSetL (.ref p) (.int i) v H QH := ⟨p, xs, i, k, rfl, rfl, h, hi, q⟩
/-- expressions -/
theorem iVar {i : Nat} (h : σ[i]? = some (some v)) (q : Q v H) : tVar i σ H Q := ⟨v, h, q⟩
theorem iC (q : Q v H) : tC v σ H Q := q
theorem iOp {rr : R2} (q : ta σ H fun x H1 => tb σ H1 fun y H2 => rr x y H2 Q) : tOp rr ta tb σ H Q := q
theorem iUn {rr : V → Hp → VK → Prop} (q : ta σ H fun x H1 => rr x H1 Q) : tUn rr ta σ H Q := q
theorem iI0 (q : Q (f i j) H) : rI0 f (.int i) (.int j) H Q := ⟨i, j, rfl, rfl, q⟩
theorem iI {C : Int → Int → Prop} (q : Q (f i j) H) (hc : C i j) : rI C f (.int i) (.int j) H Q := ⟨i, j, rfl, rfl, hc, q⟩
theorem iU {g : Int → V} (q : Q (g i) H) : rU g (.int i) H Q := ⟨i, rfl, q⟩
theorem dec_int (i j : Int) : decide (V.int i = V.int j) = decide (i = j) := by
  by_cases h : i = j
  · subst h; rw [decide_eq_true rfl, decide_eq_true rfl]
  · rw [decide_eq_false h, decide_eq_false (fun z => h (V.int.inj z))]
theorem dec_bl (i j : Bool) : decide (V.bl i = V.bl j) = decide (i = j) := by cases i <;> cases j <;> rfl
theorem dec_str (i j : Str) : decide (V.str i = V.str j) = decide (i = j) := by
  by_cases h : i = j
  · subst h; rw [decide_eq_true rfl, decide_eq_true rfl]
  · rw [decide_eq_false h, decide_eq_false (fun z => h (V.str.inj z))]
theorem iEqI (q : Q (.bl (decide (i = j))) H) : rEq (.int i) (.int j) H Q := ⟨rfl, by rw [dec_int]; exact q⟩
theorem iNeI (q : Q (.bl (!decide (i = j))) H) : rNe (.int i) (.int j) H Q := ⟨rfl, by rw [dec_int]; exact q⟩
theorem iEqB {k l : Bool} (q : Q (.bl (decide (k = l))) H) : rEq (.bl k) (.bl l) H Q := ⟨rfl, by rw [dec_bl]; exact q⟩
theorem iNeB {k l : Bool} (q : Q (.bl (!decide (k = l))) H) : rNe (.bl k) (.bl l) H Q := ⟨rfl, by rw [dec_bl]; exact q⟩
theorem iEqS {k l : Str} (q : Q (.bl (decide (k = l))) H) : rEq (.str k) (.str l) H Q := ⟨rfl, by rw [dec_str]; exact q⟩
theorem iNeS {k l : Str} (q : Q (.bl (!decide (k = l))) H) : rNe (.str k) (.str l) H Q := ⟨rfl, by rw [dec_str]; exact q⟩
theorem iIsN (q : Q (.bl (decide (x = .non))) H) : rIsN x .non H Q := ⟨rfl, q⟩
theorem iNotN (q : Q (.bl (!decide (x = .non))) H) : rNotN x .non H Q := ⟨rfl, q⟩
def kBl (QB : Bool → Hp → Prop) : VK := fun x H => ∃ k, x = .bl k ∧ QB k H
theorem iBl {k : Bool} (q : QB k H) : kBl QB (.bl k) H := ⟨k, rfl, q⟩
theorem iTest (q : te σ H (kBl QB)) : tTest te σ H QB := q
theorem iB (q : te σ H (kBl QB)) : tB te σ H QB := q
theorem iAnd (q : tt σ H fun k H1 => if k = true then tu σ H1 QB else QB false H1) : tAnd tt tu σ H QB := q
theorem iOr (q : tt σ H fun k H1 => if k = true then QB true H1 else tu σ H1 QB) : tOr tt tu σ H QB := q
theorem iNot (q : tt σ H fun k H1 => QB (!k) H1) : tNot tt σ H QB := q
theorem iAndV (q : ta σ H (kBl fun k H1 => if k = true then tb σ H1 Q else Q (.bl false) H1)) : tAndV ta tb σ H Q := q
theorem iOrV (q : ta σ H (kBl fun k H1 => if k = true then Q (.bl true) H1 else tb σ H1 Q)) : tOrV ta tb σ H Q := q
theorem iNotV (q : ta σ H (kBl fun k H1 => Q (.bl (!k)) H1)) : tNotV ta σ H Q := q
theorem iIf (q : tt σ H fun k H1 => if k = true then ta σ H1 Q else tb σ H1 Q) : tIf tt ta tb σ H Q := q
theorem iChain {rr rr' : R2} (q : ta σ H fun x H1 => tb σ H1 fun y H2 => rr x y H2 (kBl fun k H3 => if k = true then te σ H3 fun w' H4 => rr' y w' H4 Q else Q (.bl false) H3)) : tChain rr rr' ta tb te σ H Q :=
  q
theorem iCons (q : ta σ H fun x H1 => tR σ H1 fun xs H2 => QA (x :: xs) H2) : tCons ta tR σ H QA := q
theorem iNil (q : QA [] H) : tNil σ H QA := q
theorem iCB {rr : List V → Hp → VK → Prop} (q : tA σ H fun vs H1 => rr vs H1 Q) : tCB rr tA σ H Q := q
theorem iCal {sp : Sp} (q : tA σ H fun vs H1 => sp vs H1 Q E0) : tCal sp tA σ H Q := q
def kNewL (Q : VK) : List V → Hp → Prop := fun xs H1 => xs.length ≤ sizeLine ∧ ∀ p, H1 p = none → Q (.ref p) (upd H1 p (.lst xs))
def kNewT (Q : VK) : List V → Hp → Prop := fun xs H1 => xs.length ≤ sizeLine ∧ ∀ p, H1 p = none → Q (.ref p) (upd H1 p (.tup xs))
theorem iNewL {xs : List V} (h : xs.length ≤ 100000) (q : ∀ p, H p = none → Q (.ref p) (upd H p (.lst xs))) : kNewL Q xs H := ⟨Evl.sz_of h, q⟩
theorem iNewT {xs : List V} (h : xs.length ≤ 100000) (q : ∀ p, H p = none → Q (.ref p) (upd H p (.tup xs))) : kNewT Q xs H := ⟨Evl.sz_of h, q⟩
theorem iApp {p : Addr} {xs : List V} (h : H p = some (.lst xs)) (hz : xs.length < 100000) (q : Q .non (upd H p (.lst (xs ++ [v])))) : rAppend (.ref p) [v] H Q := ⟨p, xs, v, rfl, rfl, h, Evl.sz_lt hz, q⟩
theorem iLst (q : tA σ H (kNewL Q)) : tLst tA σ H Q := q
theorem iTup (q : tA σ H (kNewT Q)) : tTup tA σ H Q := q
theorem iIxL {p : Addr} {xs : List V} (h : H p = some (.lst xs)) (ha : atI xs i = some v) (q : Q v H) : kIxL (.ref p) (.int i) H Q := ⟨p, i, xs, v, rfl, rfl, h, ha, q⟩
theorem iIxT {p : Addr} {xs : List V} (h : H p = some (.tup xs)) (ha : atI xs i = some v) (q : Q v H) : kIxT (.ref p) (.int i) H Q := ⟨p, i, xs, v, rfl, rfl, h, ha, q⟩
theorem iLenL {p : Addr} {xs : List V} (h : H p = some (.lst xs)) (q : Q (.int xs.length) H) : kLenL [.ref p] H Q := ⟨p, xs, rfl, h, q⟩
theorem iLenT {p : Addr} {xs : List V} (h : H p = some (.tup xs)) (q : Q (.int xs.length) H) : kLenT [.ref p] H Q := ⟨p, xs, rfl, h, q⟩
theorem iIxS {p : Addr} {xs : List V} (h : H p = some (.lst xs) ∨ H p = some (.tup xs)) (ha : atI xs i = some v) (q : Q v H) : kIxS (.ref p) (.int i) H Q := ⟨p, i, xs, v, rfl, rfl, h, ha, q⟩
theorem iLenS {p : Addr} {xs : List V} (h : H p = some (.lst xs) ∨ H p = some (.tup xs)) (q : Q (.int xs.length) H) : kLenS [.ref p] H Q := ⟨p, xs, rfl, h, q⟩
theorem iInt (q : Q (.int i) H) : kInt [.int i] H Q := ⟨i, rfl, q⟩
theorem iIsi {cn tn : String} {k : Bool} (h : tyN H x = some tn) (e : kitB tn cn = some k) (q : Q (.bl k) H) : kIsi [x, .ty cn] H Q := ⟨x, cn, tn, k, rfl, h, e, q⟩
theorem iMt {rr : V → List V → Hp → VK → Prop} {i : Nat} {p : Addr} {xs : List V} (e : σ[i]? = some (some (V.ref p))) (h : H p = some (.lst xs)) (q : tA σ H fun ys H2 => rr (V.ref p) ys H2 Q) : kMt rr i tA σ H Q := ⟨p, xs, e, h, q⟩
theorem iAppend {p : Addr} {xs : List V} (h : H p = some (.lst xs)) (hz : xs.length < sizeLine) (q : Q .non (upd H p (.lst (xs ++ [v])))) : rAppend (.ref p) [v] H Q := ⟨p, xs, v, rfl, rfl, h, hz, q⟩
/-- loops' sources -/
def kRng (R : It → Hp → Prop) : List V → Hp → Prop := fun vs H1 => ∃ j : Int, vs = [.int j] ∧ -(2 ^ 62) ≤ j ∧ j < 2 ^ 62 ∧ R (Itr 0 j.toNat) H1
theorem iRng (q : tA σ H (kRng R)) : iRng1 tA σ H R := q
theorem iRngI (h1 : -(2 ^ 62) ≤ i) (h2 : i < 2 ^ 62) (q : R (Itr 0 i.toNat) H) : kRng R [.int i] H := ⟨i, rfl, h1, h2, q⟩
def kItL (K : PySem.W.Frag) (R : It → Hp → Prop) : VK := fun x H1 => ∃ a xs, x = .ref a ∧ H1 a = some (.lst xs) ∧ R (Itl K a) H1
theorem iIterL (q : ta σ H (kItL K R)) : kIterL K ta σ H R := q
theorem iItL {p : Addr} {xs : List V} (h : H p = some (.lst xs)) (q : R (Itl K p) H) : kItL K R (.ref p) H := ⟨p, xs, rfl, h, q⟩
theorem ifT {A B : Prop} {k : Bool} (h : k = true) (q : A) : if k = true then A else B := by rw [if_pos h]; exact q
theorem ifF {A B : Prop} {k : Bool} (h : k = false) (q : B) : if k = true then A else B := by rw [if_neg (by rw [h]; decide)]; exact q
theorem ifD {A B p : Prop} [Decidable p] (h1 : p → A) (h2 : ¬ p → B) : if decide p = true then A else B := by
  by_cases h : p
  · rw [if_pos (decide_eq_true h)]; exact h1 h
  · rw [if_neg (by rw [decide_eq_false h]; decide)]; exact h2 h
theorem ifND {A B p : Prop} [Decidable p] (h1 : ¬ p → A) (h2 : p → B) : if (!decide p) = true then A else B := by
  by_cases h : p
  · rw [decide_eq_true h]; exact h2 h
  · rw [decide_eq_false h]; exact h1 h
theorem iI0n {a d : Nat} {g : Nat → Nat → Nat} {f : Int → Int → V} (e : f (a : Int) (d : Int) = .int ((g a d : Nat) : Int)) (q : Q (.int ((g a d : Nat) : Int)) H) : rI0 f (.int (a : Int)) (.int (d : Int)) H Q := ⟨_, _, rfl, rfl, by rw [e]; exact q⟩
theorem ifNDr {α : Type} {A B : Prop} {a : α} {d : Decidable (a = a)} (q : B) : if (!decide (a = a)) = true then A else B := by rw [decide_eq_true rfl]; exact q
theorem ifDr {α : Type} {A B : Prop} {a : α} {d : Decidable (a = a)} (q : A) : if decide (a = a) = true then A else B := by rw [decide_eq_true rfl]; exact q
theorem ifNp {A B p : Prop} {d : Decidable p} (h : p) (q : B) : if (!decide p) = true then A else B := by rw [decide_eq_true h]; exact q
theorem ifNn {A B p : Prop} {d : Decidable p} (h : ¬ p) (q : A) : if (!decide p) = true then A else B := by rw [decide_eq_false h]; exact q
theorem iTruI {QB : Bool → Prop} (q : QB (i != 0)) : ∃ k, TruV K (.int i) H k ∧ QB k := ⟨_, rfl, q⟩
theorem vInt (e : j = i) (q : Q (.int i) H) : Q (.int j) H := by rw [e]; exact q
end
end R
set_option Elab.async false
set_option linter.all false
set_option maxRecDepth 100000
set_option maxHeartbeats 4000000
namespace R
open PySem PySem.Spec L2
/-! ### dict(enumerate(xs)) -/
/-- the pairs of dict(enumerate(xs)) -/
def enumFrom (n : Nat) : List V → List (Key × V)
  | [] => []
  | x :: xs => (.inl (n : Int), x) :: enumFrom (n + 1) xs
def enumVal (n : Nat) : List Value → List (Key × Value)
  | [] => []
  | x :: xs => (.inl (n : Int), x) :: enumVal (n + 1) xs
theorem enum_KV : ∀ {xs : List V} {us : List Value} (n : Nat), Vals xs us → KV (enumFrom n xs) (enumVal n us)
  | _, _, _, .nil => .nil
  | _, _, n, .cons r t => .cons ⟨rfl, r⟩ (enum_KV (n + 1) t)
theorem enumVal_get : ∀ (us : List Value) (n i : Nat) (u : Value), us[i]? = some u → (enumVal n us)[i]? = some (.inl ((n + i : Nat) : Int), u)
  | [], _, _, _, h => by simp at h
  | x :: us, n, 0, u, h => by
    simp at h
    subst h
    rfl
  | x :: us, n, i + 1, u, h => by
    have e := enumVal_get us (n + 1) i u (by simpa using h)
    rw [show n + 1 + i = n + (i + 1) by omega] at e
    simpa [enumVal] using e
theorem enumVal_len : ∀ (us : List Value) (n : Nat), (enumVal n us).length = us.length
  | [], _ => rfl
  | x :: us, n => by simp [enumVal, enumVal_len us (n + 1)]
theorem enumFrom_len : ∀ (us : List V) (n : Nat), (enumFrom n us).length = us.length
  | [], _ => rfl
  | x :: us, n => by simp [enumFrom, enumFrom_len us (n + 1)]
def kDE (ta : TA) : TE := fun σ H Q => ta σ H fun vs H1 => ∃ a xs, vs = [.ref a] ∧ H1 a = some (.lst xs) ∧ ∀ d, H1 d = none → Q (.ref d) (upd H1 d (.dK (mergeK [] (enumFrom 0 xs))))
section
variable {X : Cx}
theorem pe_dictEnum {e : Expr} {ta : TA} {p p2 pos pos2 : Pos} (hc : X.calm = true) (hg : Gl X "dict") (hm : X.mg "dict" = none) (hg2 : Gl X "enumerate") (hm2 : X.mg "enumerate" = none) (ha : PA X [e] ta) (hs : starEach [e] X.env = [(false, eval e X.env)] := by rfl)
    (hs2 : starEach [Expr.Call (.Name "enumerate" p2) [e] [] pos2] X.env = [(false, eval (.Call (.Name "enumerate" p2) [e] [] pos2) X.env)] := by rfl) :
    PE X (.Call (.Name "dict" p) [.Call (.Name "enumerate" p2) [e] [] pos2] [] pos) (kDE ta) := by
  refine ⟨fun pins s σ H Q I h => ?_⟩
  refine wpAny_Call_Name_kw (ld_blt I hg hm PyProof.Rows.boot_dict ?_ (by decide) (by decide))
  refine PyProof.Rows.callWith_type1 ?_ hs2 rfl
  rw [hs2]
  refine Calls.spliced_cons ?_
  show wpAny _ _ (eval (.Call (.Name "enumerate" p2) [e] [] pos2) X.env) _ _ _
  refine PyProof.Rows.Call_ (ld_blt I hg2 hm2 PyProof.Rows.boot_enumerate (PyProof.Rows.callWith_type1 (thn (ha.run pos2 pins s σ H _ I h) fun us s1 ⟨vs, H1, I1, r1, q1⟩ => ?_) hs rfl))
  obtain ⟨a, xs, rfl, hq, q⟩ := q1
  cases r1 with
  | cons r rr =>
    cases rr
    cases r
    obtain ⟨its, rv, pl, hz⟩ := I1.list (SqL.tr hq)
    obtain ⟨o, no, ho, oc, od, odat⟩ := pl
    have isl : s1.heap.IsList a its.toArray := ⟨o, ho, oc, no, odat⟩
    have la : a < s1.heap.objs.size := Heap.lt_size ho
    refine call_enumerate_list isl fun h' he hit hsz hk => ?_
    refine Calls.spliced_nil ?_
    have ln := rv.length
    refine call_dict_pairs (knd := mixKind X.prog X.w) (kvs := enumVal 0 its) (PairArg.enumerate (s1.heap.objs.size + 1) s1.heap.objs.size a (Nat.succ_ne_self _) (Nat.ne_of_lt (Nat.lt_succ_of_lt la)) (Nat.ne_of_lt la) its.toArray) (I1.ok.hd hc) ⟨⟨.none, he⟩, hit, isl.at fun b hb => hk _ b hb⟩ ⟨?_, ?_⟩ ?_ fun h'' tk hd' hk' => ?_
    · rw [enumVal_len, List.size_toArray]
    · intro i key v hi
      obtain ⟨⟨t, rfl⟩, hv⟩ := hi
      refine ⟨.inl (i : Int), ?_, keyIs_int _ t⟩
      have e := enumVal_get its 0 i v (by simpa using hv)
      rw [Nat.zero_add] at e
      exact e
    · rw [List.size_toArray, ← ln]
      exact hz
    · have hlt : s1.heap.objs.size ≤ h'.objs.size := by omega
      have big := I1.big
      have hm : (h'.objs.size == sysModules) = false := beq_eq_false_iff_ne.mpr (Nat.ne_of_gt (Nat.lt_of_lt_of_le big hlt))
      have hln : (mergeK [] (enumFrom 0 xs)).length ≤ sizeLine := by
        refine Nat.le_trans (length_mergeK _ []) ?_
        rw [List.length_nil, Nat.zero_add, enumFrom_len]
        exact hz
      have keep : ∀ b u, s1.heap.get? b = some u → h''.get? b = some u := fun b u hb => by
        have hb' := Heap.lt_size hb
        refine hk' b u ?_ (hk b u hb)
        simp only [List.mem_cons, List.not_mem_nil, or_false, not_or]
        exact ⟨Nat.ne_of_lt (Nat.lt_succ_of_lt hb'), Nat.ne_of_lt hb'⟩
      refine ⟨.ref h'.objs.size, upd H1 h'.objs.size (.dK (mergeK [] (enumFrom 0 xs))), ?_, rfl, q _ (I1.hok.fresh hlt)⟩
      exact I1.laid (t' := tk) keep hlt (show ObjOk X.prog X.w _ _ _ (.dK _) from ⟨hln, hm, merged [] (enumVal 0 its), KV.merge (enum_KV 0 rv) .nil, hd'⟩)
end
def kDEv (Q : VK) : List V → Hp → Prop := fun vs H1 => ∃ a xs, vs = [.ref a] ∧ H1 a = some (.lst xs) ∧ ∀ d, H1 d = none → Q (.ref d) (upd H1 d (.dK (mergeK [] (enumFrom 0 xs))))
theorem iDEa {ta : TA} {σ : L2.St} {H : Hp} {Q : VK} (q : ta σ H (kDEv Q)) : kDE ta σ H Q := q
theorem iDE {H : Hp} {Q : VK} {a : Addr} {xs : List V} (h : H a = some (.lst xs)) (q : ∀ d, H d = none → Q (.ref d) (upd H d (.dK (mergeK [] (enumFrom 0 xs))))) : kDEv Q [V.ref a] H := ⟨a, xs, rfl, h, q⟩
/-! ### comprehensions -/
def tLcJ (J : It) (g : TG) (tt : TT) (te : TE) (vs : List Nat) (σ : L2.St) (H1 : Hp) (Q : VK) : Prop := ∀ D, H1 D = none → ∃ W : Nat → Nat → Hp → Prop, (∃ m, W 0 m (upd H1 D (.lst []))) ∧ ∀ i m H, W i m H →
  (J.stop i H ∧ Q (.ref D) H) ∨ (J.go i H ∧ ∃ Nx : Hp → Prop, (∀ H', Nx H' → ∃ m', m' < m ∧ W (i + 1) m' H') ∧ ∀ x H', J.yld i H x H' → g x (wipe σ vs) H' fun σ2 H2 => wipe σ2 vs = wipe σ vs ∧ tt σ2 H2 fun b H3 =>
    if b = true then te σ2 H3 fun y H4 => ∃ acc, H4 D = some (.lst acc) ∧ acc.length < sizeLine ∧ Nx (upd H4 D (.lst (acc ++ [y]))) else Nx H3)
inductive NoneAt : L2.St → Nat → L2.St → Prop
  | zero {x : Option V} {σ : L2.St} : NoneAt (x :: σ) 0 (none :: σ)
  | succ {x : Option V} {σ σ' : L2.St} {i : Nat} (h : NoneAt σ i σ') : NoneAt (x :: σ) (i + 1) (x :: σ')
theorem NoneAt.eq {σ σ' : L2.St} {i : Nat} (h : NoneAt σ i σ') : σ.set i none = σ' := by
  induction h with
  | zero => rfl
  | succ _ ih => rw [List.set_cons_succ, ih]
inductive Wip : L2.St → List Nat → L2.St → Prop
  | nil {σ : L2.St} : Wip σ [] σ
  | cons {σ σ1 σ2 : L2.St} {v : Nat} {vs : List Nat} (h : Wip σ vs σ1) (k : NoneAt σ1 v σ2) : Wip σ (v :: vs) σ2
theorem Wip.eq {σ σ' : L2.St} {vs : List Nat} (h : Wip σ vs σ') : wipe σ vs = σ' := by
  induction h with
  | nil => rfl
  | cons _ k ih =>
    unfold wipe
    rw [ih, k.eq]
/-- what a turn is to reach: the new list at D with at most so many items, and the word -/
def LcW (D : Addr) (i : Nat) (Pv : Nat → List V → Hp → Prop) (H : Hp) : Prop := ∃ acc, H D = some (.lst acc) ∧ acc.length ≤ i ∧ Pv i acc H
def kLcE (D : Addr) (i : Nat) (Pv : Nat → List V → Hp → Prop) : VK := fun y H4 => ∃ acc, H4 D = some (.lst acc) ∧ acc.length < sizeLine ∧ LcW D (i + 1) Pv (upd H4 D (.lst (acc ++ [y])))
def kLc (vs : List Nat) (σ' : L2.St) (tt : TT) (te : TE) (D : Addr) (i : Nat) (Pv : Nat → List V → Hp → Prop) : L2.St → Hp → Prop := fun σ2 H2 => wipe σ2 vs = σ' ∧ tt σ2 H2 fun b H3 => if b = true then te σ2 H3 (kLcE D i Pv) else LcW D (i + 1) Pv H3
theorem iLcB {vs : List Nat} {σ' σ2 : L2.St} {tt : TT} {te : TE} {D : Addr} {i : Nat} {Pv : Nat → List V → Hp → Prop} {H2 : Hp} (h : wipe σ2 vs = σ') (q : tt σ2 H2 fun b H3 => if b = true then te σ2 H3 (kLcE D i Pv) else LcW D (i + 1) Pv H3) : kLc vs σ' tt te D i Pv σ2 H2 := ⟨h, q⟩
theorem iLcE {D : Addr} {i : Nat} {Pv : Nat → List V → Hp → Prop} {H : Hp} {y : V} {acc : List V} (h : H D = some (.lst acc)) (hl : acc.length ≤ i) (hi : i < 100000) (q : Pv (i + 1) (acc ++ [y]) (upd H D (.lst (acc ++ [y])))) : kLcE D i Pv y H :=
  ⟨acc, h, Evl.sz_lt (by omega), acc ++ [y], upd_same, by rw [List.length_append, List.length_singleton]; omega, q⟩
theorem iLcN {D : Addr} {i : Nat} {Pv : Nat → List V → Hp → Prop} {H : Hp} {acc : List V} (h : H D = some (.lst acc)) (hl : acc.length ≤ i) (q : Pv (i + 1) acc H) : LcW D (i + 1) Pv H := ⟨acc, h, by omega, q⟩
theorem iYes {σ : L2.St} {H : Hp} {QB : Bool → Hp → Prop} (q : QB true H) : tYes σ H QB := q
theorem iLc {wi : TI} {g : TG} {tt : TT} {te : TE} {vs : List Nat} {σ : L2.St} {H : Hp} {Q : VK} (q : wi σ H fun J H1 => tLcJ J g tt te vs σ H1 Q) : tLc wi g tt te vs σ H Q := q
/-- a comprehension over what is walked in n turns -/
theorem lcJ {J : It} {n : Nat} {G : Hp → Prop} {Y : Nat → Hp → V → Hp → Prop} (w : Walk J n G Y) {g : TG} {tt : TT} {te : TE} {vs : List Nat} {σ σ' : L2.St} {H1 : Hp} {Q : VK} (hw : Wip σ vs σ') (Pv : Addr → Nat → List V → Hp → Prop)
    (h0 : ∀ D, H1 D = none → Pv D 0 [] (upd H1 D (.lst []))) (hG : ∀ D i acc H, H1 D = none → H D = some (.lst acc) → Pv D i acc H → G H)
    (hs : ∀ D i acc x H H', H1 D = none → i < n → H D = some (.lst acc) → acc.length ≤ i → Pv D i acc H → Y i H x H' → g x σ' H' (kLc vs σ' tt te D i (Pv D)))
    (hd : ∀ D acc H, H1 D = none → H D = some (.lst acc) → acc.length ≤ n → Pv D n acc H → Q (.ref D) H) : tLcJ J g tt te vs σ H1 Q := by
  intro D hD
  have hb := lc_it w (g := g) (tt := tt) (te := te) (vs := vs) (σ := σ) (H1 := H1) (D := D) (Qd := Q (.ref D)) (fun i H => LcW D i (Pv D) H) ⟨[], upd_same, Nat.le_refl _, h0 D hD⟩ (fun i H _ ⟨acc, e, _, p⟩ => hG D i acc H hD e p)
    (fun i x H H' hi ⟨acc, e, l, p⟩ y => by
      rw [hw.eq]
      exact hs D i acc x H H' hD hi e l p y) (fun H ⟨acc, e, l, p⟩ => hd D acc H hD e l p)
  exact hb
section
variable {K : PySem.W.Frag} {g : TG} {tt : TT} {te : TE} {vs : List Nat} {σ σ' : L2.St} {H1 : Hp} {Q : VK}
theorem lc_r {lo : Int} {n : Nat} (hw : Wip σ vs σ') (Pv : Addr → Nat → List V → Hp → Prop) (h0 : ∀ D, H1 D = none → Pv D 0 [] (upd H1 D (.lst [])))
    (hs : ∀ D i acc H, H1 D = none → i < n → H D = some (.lst acc) → acc.length ≤ i → Pv D i acc H → g (.int (lo + (i : Int))) σ' H (kLc vs σ' tt te D i (Pv D)))
    (hd : ∀ D acc H, H1 D = none → H D = some (.lst acc) → acc.length ≤ n → Pv D n acc H → Q (.ref D) H) : tLcJ (Itr lo n) g tt te vs σ H1 Q :=
  lcJ walk_range hw Pv h0 (fun _ _ _ _ _ _ _ => trivial) (fun D i acc x H H' a b c d e ⟨y1, y2⟩ => by rw [y1, y2]; exact hs D i acc H a b c d e) hd
theorem lc_r0 {n : Nat} (hw : Wip σ vs σ') (Pv : Addr → Nat → List V → Hp → Prop) (h0 : ∀ D, H1 D = none → Pv D 0 [] (upd H1 D (.lst [])))
    (hs : ∀ D i acc H, H1 D = none → i < n → H D = some (.lst acc) → acc.length ≤ i → Pv D i acc H → g (.int (i : Int)) σ' H (kLc vs σ' tt te D i (Pv D)))
    (hd : ∀ D acc H, H1 D = none → H D = some (.lst acc) → acc.length ≤ n → Pv D n acc H → Q (.ref D) H) : tLcJ (Itr 0 n) g tt te vs σ H1 Q :=
  lc_r hw Pv h0 (fun D i acc H a b c d e => by rw [Int.zero_add]; exact hs D i acc H a b c d e) hd
theorem lc_l {a : Addr} (xs : List V) (hw : Wip σ vs σ') (Pv : Addr → Nat → List V → Hp → Prop) (h0 : ∀ D, H1 D = none → Pv D 0 [] (upd H1 D (.lst []))) (hl : ∀ D i acc H, H1 D = none → H D = some (.lst acc) → Pv D i acc H → H a = some (.lst xs))
    (hs : ∀ D i acc x H, H1 D = none → xs[i]? = some x → H D = some (.lst acc) → acc.length ≤ i → Pv D i acc H → g x σ' H (kLc vs σ' tt te D i (Pv D)))
    (hd : ∀ D acc H, H1 D = none → H D = some (.lst acc) → acc.length ≤ xs.length → Pv D xs.length acc H → Q (.ref D) H) : tLcJ (Itl K a) g tt te vs σ H1 Q :=
  lcJ walk_list hw Pv h0 (fun D i acc H h e p => SqL.tr (hl D i acc H h e p)) (fun D i acc x H H' a b c d e ⟨y1, y2⟩ => by rw [y1]; exact hs D i acc x H a y2 c d e) hd
theorem lc_z {a b : Addr} (xs ys : List V) (he : xs.length = ys.length) (hw : Wip σ vs σ') (Pv : Addr → Nat → List V → Hp → Prop) (h0 : ∀ D, H1 D = none → Pv D 0 [] (upd H1 D (.lst [])))
    (hl : ∀ D i acc H, H1 D = none → H D = some (.lst acc) → Pv D i acc H → H a = some (.lst xs) ∧ H b = some (.lst ys))
    (hs : ∀ D i acc x y T H, H1 D = none → xs[i]? = some x → ys[i]? = some y → H D = some (.lst acc) → acc.length ≤ i → Pv D i acc H → H T = none → g (.ref T) σ' (upd H T (.tup [x, y])) (kLc vs σ' tt te D i (Pv D)))
    (hd : ∀ D acc H, H1 D = none → H D = some (.lst acc) → acc.length ≤ xs.length → Pv D xs.length acc H → Q (.ref D) H) : tLcJ (Itz K a b) g tt te vs σ H1 Q :=
  lcJ (walk_zip (xs := xs) (ys := ys) (n := xs.length) (by omega)) hw Pv h0 (fun D i acc H h e p => ⟨SqL.tr (hl D i acc H h e p).1, SqL.tr (hl D i acc H h e p).2⟩)
    (fun D i acc x H H' a b c d e ⟨T, u, v, y1, y2, y3, y4, y5⟩ => by rw [y1, y3]; exact hs D i acc u v T H a y4 y5 c d e y2) hd
end
/-! ### x in xs, tracked -/
theorem OpR.imp {X : Cx} {f : Value → Value → Sem Value} {r r' : R2} (h : OpR X f r) (i : ∀ x y H Q, r' x y H Q → r x y H Q) : OpR X f r' := fun pins s σ H x y v u Q I rx ry q => h pins s σ H x y v u Q I rx ry (i x y H Q q)
def kIn (neg : Bool) : R2 := fun x y H Q => ∃ p xs, y = .ref p ∧ (H p = some (.lst xs) ∨ H p = some (.tup xs)) ∧ flatV x = true ∧ xs.all flatV = true ∧ Q (.bl (if neg then !inV x xs else inV x xs)) H
theorem op_inS {X : Cx} : OpR X (compareOp .In) (kIn false) := OpR.imp op_in_seq fun _ _ _ _ ⟨p, xs, e, h, f, g, q⟩ => ⟨p, xs, e, h.elim (fun h => .inl (SqL.tr h)) (fun h => .inr (SqT.tr h)), f, g, q⟩
theorem op_ninS {X : Cx} : OpR X (compareOp .NotIn) (kIn true) := OpR.imp op_notIn_seq fun _ _ _ _ ⟨p, xs, e, h, f, g, q⟩ => ⟨p, xs, e, h.elim (fun h => .inl (SqL.tr h)) (fun h => .inr (SqT.tr h)), f, g, q⟩
/-! ### dicts, lists made anew, tuples taken apart -/
section
variable {K : PySem.W.Frag} {σ σ' : L2.St} {H : Hp} {Q : VK} {ta tb td ty tv : TE} {n b c : L2.St → Hp → Prop} {r : VK} {x y v : V} {i j : Int} {tA : TA} {R : It → Hp → Prop} {QB : Bool → Hp → Prop}
def kDG (Q : VK) (x y : V) (H : Hp) : Prop := ∃ a v, x = .ref a ∧ DGet H a y (some v) ∧ Q v H
theorem iDGet (q : td σ H fun x H1 => ty σ H1 fun y H2 => kDG Q x y H2) : tDGet td ty σ H Q := q
theorem iDGi {a : Addr} {kvs : List (Key × V)} (h : H a = some (.dK kvs)) (e : valV kvs (.inl i : Key) = some v) (q : Q v H) : kDG Q (.ref a) (.int i) H := ⟨a, v, rfl, e ▸ DGet.k (k := Sum.inl i) h, q⟩
theorem iDGs {a : Addr} {kvs : List (Key × V)} {z : Str} (h : H a = some (.dK kvs)) (e : valV kvs (.inr z : Key) = some v) (q : Q v H) : kDG Q (.ref a) (.str z) H := ⟨a, v, rfl, e ▸ DGet.k (k := Sum.inr z) h, q⟩
def kDI (Q : VK) (y x : V) (H : Hp) : Prop := ∃ a o, x = .ref a ∧ DGet H a y o ∧ Q (.bl o.isSome) H
theorem iDIn (q : ty σ H fun y H1 => td σ H1 fun x H2 => kDI Q y x H2) : tDIn ty td σ H Q := q
theorem iDIi {a : Addr} {kvs : List (Key × V)} (h : H a = some (.dK kvs)) (q : Q (.bl (valV kvs (.inl i : Key)).isSome) H) : kDI Q (.int i) (.ref a) H := ⟨a, _, rfl, DGet.k (k := Sum.inl i) h, q⟩
def kDN (Q : VK) (y x : V) (H : Hp) : Prop := ∃ a o, x = .ref a ∧ DGet H a y o ∧ Q (.bl (!o.isSome)) H
theorem iDNotIn (q : ty σ H fun y H1 => td σ H1 fun x H2 => kDN Q y x H2) : tDNotIn ty td σ H Q := q
theorem iDNi {a : Addr} {kvs : List (Key × V)} (h : H a = some (.dK kvs)) (q : Q (.bl (!(valV kvs (.inl i : Key)).isSome)) H) : kDN Q (.int i) (.ref a) H := ⟨a, _, rfl, DGet.k (k := Sum.inl i) h, q⟩
def kDP (n : L2.St → Hp → Prop) (σ : L2.St) (v x y : V) (H : Hp) : Prop := ∃ a H4, x = .ref a ∧ DPut H a y v H4 ∧ n σ H4
theorem iDPut (q : tv σ H fun v H1 => td σ H1 fun x H2 => ty σ H2 fun y H3 => kDP n σ v x y H3) : sDPut td ty tv ⟨n, r, b, c⟩ σ H := q
theorem iDPi {a : Addr} {kvs : List (Key × V)} (h : H a = some (.dK kvs)) (hl : kvs.length < 100000) (q : n σ (upd H a (.dK (putK kvs (.inl i) v)))) : kDP n σ v (.ref a) (.int i) H := ⟨a, _, rfl, DPut.k (k := Sum.inl i) h (Evl.sz_lt hl), q⟩
theorem iDNew {Q : VK} (q : ∀ d, H d = none → Q (.ref d) (upd H d (.dK []))) : tDNewK σ H Q := q
theorem iListD {a : Addr} {kvs : List (Key × V)} (h : H a = some (.dK kvs)) (q : ∀ p, H p = none → Q (.ref p) (upd H p (.lst (kvs.map fun kv => kV kv.1)))) : rListD [.ref a] H Q := ⟨a, kvs, rfl, h, q⟩
theorem iListL {p : Addr} {xs : List V} (h : H p = some (.lst xs)) (q : ∀ l, H l = none → Q (.ref l) (upd H l (.lst xs))) : kListL [.ref p] H Q := ⟨p, xs, rfl, h, q⟩
theorem iTupL {p : Addr} {xs : List V} (h : H p = some (.lst xs)) (q : ∀ l, H l = none → Q (.ref l) (upd H l (.tup xs))) : kTupL [.ref p] H Q := ⟨p, xs, rfl, h, q⟩
theorem iSorted {a : Addr} {ns : List Int} (h : H a = some (.lst (ns.map V.int))) (hl : ns.length < 64) (q : ∀ (ns' : List Int) (p : Addr), ns'.Perm ns → ns'.Pairwise (· ≤ ·) → H p = none → Q (.ref p) (upd H p (.lst (ns'.map V.int)))) : rSorted K [.ref a] H Q := ⟨a, ns, rfl, SqL.tr h, hl, q⟩
theorem iCat {l m : Addr} {xs ys : List V} (h : H l = some (.lst xs)) (h2 : H m = some (.lst ys)) (hz : xs.length + ys.length ≤ 100000) (q : ∀ p, H p = none → Q (.ref p) (upd H p (.lst (xs ++ ys)))) : rCat (.ref l) (.ref m) H Q := ⟨l, m, xs, ys, rfl, rfl, h, h2, Evl.sz_of hz, q⟩
theorem iRngB (h1 : -(2 ^ 62) ≤ i) (h2 : i < 2 ^ 62) (h3 : -(2 ^ 62) ≤ j) (h4 : j < 2 ^ 62) (q : R (Itr i (j - i).toNat) H) : ∃ i' j' : Int, [V.int i, V.int j] = [V.int i', V.int j'] ∧ (-(2 ^ 62) ≤ i' ∧ i' < 2 ^ 62 ∧ -(2 ^ 62) ≤ j' ∧ j' < 2 ^ 62) ∧ R (Itr i' (j' - i').toNat) H := ⟨i, j, rfl, ⟨h1, h2, h3, h4⟩, q⟩
def kRng2 (R : It → Hp → Prop) : List V → Hp → Prop := fun vs H1 => ∃ i j : Int, vs = [.int i, .int j] ∧ (-(2 ^ 62) ≤ i ∧ i < 2 ^ 62 ∧ -(2 ^ 62) ≤ j ∧ j < 2 ^ 62) ∧ R (Itr i (j - i).toNat) H1
theorem iRng2 (q : tA σ H (kRng2 R)) : iRng2 tA σ H R := q
theorem iRng2I (h1 : -(2 ^ 62) ≤ i) (h2 : i < 2 ^ 62) (h3 : -(2 ^ 62) ≤ j) (h4 : j < 2 ^ 62) (q : R (Itr i (j - i).toNat) H) : kRng2 R [.int i, .int j] H := ⟨i, j, rfl, ⟨h1, h2, h3, h4⟩, q⟩
/-- zip of two tracked lists -/
def kZ (K : PySem.W.Frag) (R : It → Hp → Prop) : List V → Hp → Prop := fun vs H1 => ∃ a b xs ys, vs = [.ref a, .ref b] ∧ SqL K H1 a xs ∧ SqL K H1 b ys ∧ R (Itz K a b) H1
theorem iZipK (q : tA σ H (kZ K R)) : iZip K tA σ H R := q
theorem iZL {p m : Addr} {xs ys : List V} (h : H p = some (.lst xs)) (h2 : H m = some (.lst ys)) (q : R (Itz K p m) H) : kZ K R [.ref p, .ref m] H := ⟨p, m, xs, ys, rfl, SqL.tr h, SqL.tr h2, q⟩
/-- targets of several names -/
theorem iGTup {k : Nat} {t : TGs} {a : Addr} {xs : List V} {QS : L2.St → Hp → Prop} (h : H a = some (.tup xs)) (hl : xs.length = k) (q : t xs σ H QS) : gTup K k t (.ref a) σ H QS := ⟨a, xs, rfl, SqT.tr h, hl, q⟩
theorem iGCons {t : TG} {u : TGs} {vs : List V} {QS : L2.St → Hp → Prop} (q : t v σ H fun σ' H' => u vs σ' H' QS) : gCons t u (v :: vs) σ H QS := ⟨v, vs, rfl, q⟩
theorem iGNil {QS : L2.St → Hp → Prop} (q : QS σ H) : gNil [] σ H QS := ⟨rfl, q⟩
/-- [x, ..] * n -/
theorem iRep {l : Addr} {xs : List V} (h : H l = some (.lst xs)) (h0 : 0 ≤ i) (h1 : i < 100000) (hz : xs.length * i.toNat ≤ 100000) (q : ∀ p, H p = none → Q (.ref p) (upd H p (.lst (List.replicate i.toNat xs).flatten))) : rRep (.ref l) (.int i) H Q :=
  ⟨l, i, xs, rfl, rfl, h, by omega, by omega, Evl.sz_of hz, q⟩
end
end R
set_option Elab.async false
set_option linter.all false
set_option maxRecDepth 100000
set_option maxHeartbeats 4000000
namespace R
open PySem PySem.Spec L2
open Evl (Ex)
/-! ### heaps that grow -/
theorem Ex.rfl' (H : Hp) : Ex H H := fun _ _ h => h
/-- the heap without one address -/
def mk (D : Addr) (H : Hp) : Hp := fun p => if p = D then none else H p
theorem mk_at {D p : Addr} {H : Hp} (h : p ≠ D) : mk D H p = H p := if_neg h
theorem mk_ex (D : Addr) (H : Hp) : Ex (mk D H) H := fun p o h => by
  by_cases e : p = D
  · unfold mk at h; rw [if_pos e] at h; cases h
  · rw [mk_at e] at h; exact h
theorem mk_mono {D : Addr} {H H' : Hp} (e : Ex H H') : Ex (mk D H) (mk D H') := fun p o h => by
  by_cases q : p = D
  · unfold mk at h; rw [if_pos q] at h; cases h
  · rw [mk_at q] at h ⊢; exact e p o h
theorem mk_upd {D : Addr} {H : Hp} {o : HO} : mk D (upd H D o) = mk D H := by
  funext p
  by_cases q : p = D
  · unfold mk; rw [if_pos q, if_pos q]
  · rw [mk_at q, mk_at q, upd_ne q]
theorem ex_mk {D : Addr} {H H' : Hp} (h : H D = none) (e : Ex H H') : Ex H (mk D H') := fun p o q => by
  rw [mk_at (ne_of_none q h)]
  exact e p o q
theorem ex_upd {D : Addr} {H H' : Hp} {o : HO} (h : H D = none) (e : Ex H H') : Ex H (upd H' D o) := fun p u q => by
  rw [upd_ne (ne_of_none q h)]
  exact e p u q
theorem Ex.new {H : Hp} {p : Addr} {o : HO} (h : H p = none) : Ex H (upd H p o) := ex_upd h (Ex.rfl' _)
/-- all but a stay -/
def ExB (a : Addr) (H H' : Hp) : Prop := ∀ p o, p ≠ a → H p = some o → H' p = some o
theorem ExB.of {a : Addr} {H H' : Hp} (e : Ex H H') : ExB a H H' := fun p o _ h => e p o h
theorem ExB.trans {a : Addr} {H H1 H2 : Hp} (x : ExB a H H1) (y : ExB a H1 H2) : ExB a H H2 := fun p o n h => y p o n (x p o n h)
/-- what is told of a new list -/
def NewL (H : Hp) (Q : VK) (xs : List V) : Prop := ∀ p H', H p = none → Ex H H' → H' p = some (.lst xs) → Q (.ref p) H'
/-! ### comprehensions whose items are reckoned, the heap growing -/
def PvF (H1 : Hp) (f : Nat → V) (D : Addr) (i : Nat) (acc : List V) (H : Hp) : Prop := Ex H1 H ∧ acc = (List.range i).map f
theorem iLcF {H1 H : Hp} {f : Nat → V} {D : Addr} {i : Nat} {y : V} (hD : H1 D = none) (hi : i < 100000) (e : Ex H1 H) (h : H D = some (.lst ((List.range i).map f))) (q : y = f i) : kLcE D i (PvF H1 f D) y H :=
  iLcE h (by rw [List.length_map, List.length_range]; exact Nat.le_refl _) hi ⟨ex_upd hD e, by rw [List.range_succ, List.map_append, q]; rfl⟩
section
variable {K : PySem.W.Frag} {g : TG} {tt : TT} {te : TE} {vs : List Nat} {σ σ' : L2.St} {H1 : Hp} {Q : VK}
theorem lcF_l {a : Addr} (xs : List V) (f : Nat → V) (hw : Wip σ vs σ') (h : H1 a = some (.lst xs)) (hs : ∀ D i x H, H1 D = none → xs[i]? = some x → H D = some (.lst ((List.range i).map f)) → Ex H1 H → g x σ' H (kLc vs σ' tt te D i (PvF H1 f D)))
    (hd : ∀ D H, H1 D = none → Ex H1 H → H D = some (.lst ((List.range xs.length).map f)) → Q (.ref D) H) : tLcJ (Itl K a) g tt te vs σ H1 Q :=
  lc_l xs hw (PvF H1 f) (fun D hD => ⟨ex_upd hD (Ex.rfl' _), rfl⟩) (fun D i acc H hD _ p => p.1 _ _ h) (fun D i acc x H hD hx e l p => by
    obtain ⟨p1, rfl⟩ := p
    exact hs D i x H hD hx e p1) (fun D acc H hD e l p => by
    obtain ⟨p1, rfl⟩ := p
    exact hd D H hD p1 e)
theorem lcF_r0 {n : Nat} (f : Nat → V) (hw : Wip σ vs σ') (hs : ∀ D i H, H1 D = none → i < n → H D = some (.lst ((List.range i).map f)) → Ex H1 H → g (.int (i : Int)) σ' H (kLc vs σ' tt te D i (PvF H1 f D)))
    (hd : ∀ D H, H1 D = none → Ex H1 H → H D = some (.lst ((List.range n).map f)) → Q (.ref D) H) : tLcJ (Itr 0 n) g tt te vs σ H1 Q :=
  lc_r0 hw (PvF H1 f) (fun D hD => ⟨ex_upd hD (Ex.rfl' _), rfl⟩) (fun D i acc H hD hx e l p => by
    obtain ⟨p1, rfl⟩ := p
    exact hs D i H hD hx e p1) (fun D acc H hD e l p => by
    obtain ⟨p1, rfl⟩ := p
    exact hd D H hD p1 e)
theorem lcF_z {a b : Addr} (xs ys : List V) (f : Nat → V) (he : xs.length = ys.length) (hw : Wip σ vs σ') (h : H1 a = some (.lst xs)) (h2 : H1 b = some (.lst ys))
    (hs : ∀ D i x y T H, H1 D = none → xs[i]? = some x → ys[i]? = some y → H D = some (.lst ((List.range i).map f)) → Ex H1 H → H T = none → g (.ref T) σ' (upd H T (.tup [x, y])) (kLc vs σ' tt te D i (PvF H1 f D)))
    (hd : ∀ D H, H1 D = none → Ex H1 H → H D = some (.lst ((List.range xs.length).map f)) → Q (.ref D) H) : tLcJ (Itz K a b) g tt te vs σ H1 Q :=
  lc_z xs ys he hw (PvF H1 f) (fun D hD => ⟨ex_upd hD (Ex.rfl' _), rfl⟩) (fun D i acc H hD _ p => ⟨p.1 _ _ h, p.1 _ _ h2⟩) (fun D i acc x y T H hD hx hy e l p hT => by
    obtain ⟨p1, rfl⟩ := p
    exact hs D i x y T H hD hx hy e p1 hT) (fun D acc H hD e l p => by
    obtain ⟨p1, rfl⟩ := p
    exact hd D H hD p1 e)
end
/-- items that are told by a word R of the list so far, which growing keeps -/
def PvR (H1 : Hp) (R : Nat → List V → Hp → Prop) (D : Addr) (i : Nat) (acc : List V) (H : Hp) : Prop := Ex H1 H ∧ R i acc (mk D H)
theorem iLcR {H1 H : Hp} {R : Nat → List V → Hp → Prop} {D : Addr} {i : Nat} {y : V} {acc : List V} (hD : H1 D = none) (hi : i < 100000) (hl : acc.length ≤ i) (e : Ex H1 H) (h : H D = some (.lst acc)) (q : R (i + 1) (acc ++ [y]) (mk D H)) : kLcE D i (PvR H1 R D) y H :=
  iLcE h hl hi ⟨ex_upd hD e, by rw [mk_upd]; exact q⟩
section
variable {K : PySem.W.Frag} {g : TG} {tt : TT} {te : TE} {vs : List Nat} {σ σ' : L2.St} {H1 : Hp} {Q : VK}
theorem lcR_r {lo : Int} {n : Nat} (R : Nat → List V → Hp → Prop) (hw : Wip σ vs σ') (m : ∀ i acc H H', Ex H H' → R i acc H → R i acc H') (h0 : R 0 [] H1)
    (hs : ∀ D i acc H, H1 D = none → i < n → H D = some (.lst acc) → acc.length ≤ i → Ex H1 H → R i acc (mk D H) → g (.int (lo + (i : Int))) σ' H (kLc vs σ' tt te D i (PvR H1 R D)))
    (hd : ∀ D acc H, H1 D = none → Ex H1 H → H D = some (.lst acc) → R n acc H → Q (.ref D) H) : tLcJ (Itr lo n) g tt te vs σ H1 Q :=
  lc_r hw (PvR H1 R) (fun D hD => ⟨ex_upd hD (Ex.rfl' _), by rw [mk_upd]; exact m _ _ _ _ (ex_mk hD (Ex.rfl' _)) h0⟩) (fun D i acc H hD hx e l p => hs D i acc H hD hx e l p.1 p.2) (fun D acc H hD e l p => hd D acc H hD p.1 e (m _ _ _ _ (mk_ex D H) p.2))
theorem lcR_r0 {n : Nat} (R : Nat → List V → Hp → Prop) (hw : Wip σ vs σ') (m : ∀ i acc H H', Ex H H' → R i acc H → R i acc H') (h0 : R 0 [] H1)
    (hs : ∀ D i acc H, H1 D = none → i < n → H D = some (.lst acc) → acc.length ≤ i → Ex H1 H → R i acc (mk D H) → g (.int (i : Int)) σ' H (kLc vs σ' tt te D i (PvR H1 R D)))
    (hd : ∀ D acc H, H1 D = none → Ex H1 H → H D = some (.lst acc) → R n acc H → Q (.ref D) H) : tLcJ (Itr 0 n) g tt te vs σ H1 Q :=
  lcR_r R hw m h0 (fun D i acc H a b c d e f => by rw [Int.zero_add]; exact hs D i acc H a b c d e f) hd
theorem lcR_l {a : Addr} (xs : List V) (R : Nat → List V → Hp → Prop) (hw : Wip σ vs σ') (h : H1 a = some (.lst xs)) (m : ∀ i acc H H', Ex H H' → R i acc H → R i acc H') (h0 : R 0 [] H1)
    (hs : ∀ D i acc x H, H1 D = none → xs[i]? = some x → H D = some (.lst acc) → acc.length ≤ i → Ex H1 H → R i acc (mk D H) → g x σ' H (kLc vs σ' tt te D i (PvR H1 R D)))
    (hd : ∀ D acc H, H1 D = none → Ex H1 H → H D = some (.lst acc) → R xs.length acc H → Q (.ref D) H) : tLcJ (Itl K a) g tt te vs σ H1 Q :=
  lc_l xs hw (PvR H1 R) (fun D hD => ⟨ex_upd hD (Ex.rfl' _), by rw [mk_upd]; exact m _ _ _ _ (ex_mk hD (Ex.rfl' _)) h0⟩) (fun D i acc H hD _ p => p.1 _ _ h) (fun D i acc x H hD hx e l p => hs D i acc x H hD hx e l p.1 p.2) (fun D acc H hD e l p => hd D acc H hD p.1 e (m _ _ _ _ (mk_ex D H) p.2))
end
theorem exb_mk' {a : Addr} {H H' : Hp} (e : ExB a H H') : Ex (mk a H) (mk a H') := fun p o h => by
  by_cases q : p = a
  · unfold mk at h; rw [if_pos q] at h; cases h
  · rw [mk_at q] at h ⊢; exact e p o q h
/-! ### == of lists of ints -/
theorem dp_ints {K : PySem.W.Frag} {H : Hp} : ∀ ns : List Int, DpAll K H (ns.map V.int) (ns.map PyData.int)
  | [] => .nil
  | n :: ns => .cons (.int n) (dp_ints ns)
theorem dp_lst {K : PySem.W.Frag} {H : Hp} {a : Addr} {ns : List Int} (h : H a = some (.lst (ns.map V.int))) : Dp K H (.ref a) (.list (ns.map PyData.int)) := .lst (SqL.tr h) (dp_ints ns)
theorem lay_ints : ∀ ns : List Int, PyData.canLayAll0 (ns.map PyData.int) = true
  | [] => by rw [List.map_nil, PyData.canLayAll0]
  | n :: ns => by rw [List.map_cons, PyData.canLayAll0, PyData.canLay0, lay_ints ns]; rfl
theorem depth_ints : ∀ ns : List Int, PyData.depthAll (ns.map PyData.int) ≤ 5
  | [] => by rw [List.map_nil, PyData.depthAll]; omega
  | n :: ns => by
    have := depth_ints ns
    rw [List.map_cons, PyData.depthAll]
    simp only [PyData.depth]
    omega
theorem shaped_ints (ns : List Int) : SeqAt.shaped (.list (ns.map PyData.int)) = true := by
  have := depth_ints ns
  unfold SeqAt.shaped
  rw [PyData.canLay0, lay_ints, decide_eq_true (by rw [PyData.depth]; omega)]
  rfl
theorem shaped_non : SeqAt.shaped .none = true := by
  unfold SeqAt.shaped
  rw [PyData.canLay0, decide_eq_true (by simp [PyData.depth])]
  rfl
theorem eqvAll_ints : ∀ ns ms : List Int, PyData.eqvAll (ns.map PyData.int) (ms.map PyData.int) = decide (ns = ms)
  | [], [] => by simp [PyData.eqvAll]
  | [], m :: ms => by simp [PyData.eqvAll]
  | n :: ns, [] => by simp [PyData.eqvAll]
  | n :: ns, m :: ms => by
    rw [List.map_cons, List.map_cons, PyData.eqvAll, eqvAll_ints ns ms, PyData.eqv]
    by_cases h : n = m
    · subst h; simp
    · have : (n == m) = false := beq_eq_false_iff_ne.mpr h
      simp [this, h]
theorem eqv_ints (ns ms : List Int) : PyData.eqv (.list (ns.map PyData.int)) (.list (ms.map PyData.int)) = decide (ns = ms) := by rw [PyData.eqv, eqvAll_ints]
end R
set_option Elab.async false
set_option linter.all false
set_option maxRecDepth 100000
set_option maxHeartbeats 4000000
namespace R
open PySem PySem.Spec L2
open Evl (Ex)
/-! ### data of any depth at a value -/
mutual
inductive At (H : Hp) : V → PyData → Prop
  | non : At H .non .none
  | bl (b : Bool) : At H (.bl b) (.bool b)
  | int (i : Int) : At H (.int i) (.int i)
  | str (x : Str) (ok : PyData.canLay0 (.str x) = true) : At H (.str x) (.str x)
  | lst {a : Addr} {xs : List V} {ds : List PyData} (h : H a = some (.lst xs)) (q : AtAll H xs ds) : At H (.ref a) (.list ds)
  | tup {a : Addr} {xs : List V} {ds : List PyData} (h : H a = some (.tup xs)) (q : AtAll H xs ds) : At H (.ref a) (.tuple ds)
inductive AtAll (H : Hp) : List V → List PyData → Prop
  | nil : AtAll H [] []
  | cons {v : V} {vs : List V} {d : PyData} {ds : List PyData} (h : At H v d) (t : AtAll H vs ds) : AtAll H (v :: vs) (d :: ds)
end
mutual
theorem At.ex {H H' : Hp} (e : Ex H H') : ∀ (d : PyData) {v : V}, At H v d → At H' v d
  | .none, _, h => by cases h; exact .non
  | .bool b, _, h => by cases h; exact .bl b
  | .int i, _, h => by cases h; exact .int i
  | .str x, _, h => by cases h with | str _ ok => exact .str x ok
  | .list ds, _, h => by cases h with | lst h q => exact .lst (e _ _ h) (AtAll.ex e ds q)
  | .tuple ds, _, h => by cases h with | tup h q => exact .tup (e _ _ h) (AtAll.ex e ds q)
  | .dict _, _, h => by cases h
theorem AtAll.ex {H H' : Hp} (e : Ex H H') : ∀ (ds : List PyData) {vs : List V}, AtAll H vs ds → AtAll H' vs ds
  | [], _, h => by cases h; exact .nil
  | d :: ds, _, h => by cases h with | cons h t => exact .cons (At.ex e d h) (AtAll.ex e ds t)
end
mutual
theorem At.dp {K : PySem.W.Frag} {H : Hp} : ∀ (d : PyData) {v : V}, At H v d → Dp K H v d
  | .none, _, h => by cases h; exact .non
  | .bool b, _, h => by cases h; exact .bl b
  | .int i, _, h => by cases h; exact .int i
  | .str x, _, h => by cases h with | str _ ok => exact .str x
  | .list ds, _, h => by cases h with | lst h q => exact .lst (SqL.tr h) (AtAll.dp ds q)
  | .tuple ds, _, h => by cases h with | tup h q => exact .tup (SqT.tr h) (AtAll.dp ds q)
  | .dict _, _, h => by cases h
theorem AtAll.dp {K : PySem.W.Frag} {H : Hp} : ∀ (ds : List PyData) {vs : List V}, AtAll H vs ds → DpAll K H vs ds
  | [], _, h => by cases h; exact .nil
  | d :: ds, _, h => by cases h with | cons h t => exact .cons (At.dp d h) (AtAll.dp ds t)
end
mutual
theorem At.lay {H : Hp} : ∀ (d : PyData) {v : V}, At H v d → PyData.canLay0 d = true
  | .none, _, h => by simp only [PyData.canLay0]
  | .bool b, _, h => by simp only [PyData.canLay0]
  | .int i, _, h => by simp only [PyData.canLay0]
  | .str x, _, h => by cases h with | str _ ok => exact ok
  | .list ds, _, h => by
    cases h with | lst h q => simp only [PyData.canLay0]; exact AtAll.lay ds q
  | .tuple ds, _, h => by
    cases h with | tup h q => simp only [PyData.canLay0]; exact AtAll.lay ds q
  | .dict _, _, h => by cases h
theorem AtAll.lay {H : Hp} : ∀ (ds : List PyData) {vs : List V}, AtAll H vs ds → PyData.canLayAll0 ds = true
  | [], _, h => by simp only [PyData.canLayAll0]
  | d :: ds, _, h => by
    cases h with | cons h t => simp only [PyData.canLayAll0, At.lay d h, AtAll.lay ds t, Bool.and_self]
end
mutual
theorem At.eqv {H : Hp} : ∀ (d : PyData) {v : V}, At H v d → PyData.eqv d d = true
  | .none, _, h => by simp only [PyData.eqv]
  | .bool b, _, h => by simp only [PyData.eqv, beq_self_eq_true]
  | .int i, _, h => by simp only [PyData.eqv, beq_self_eq_true]
  | .str x, _, h => by simp only [PyData.eqv, beq_self_eq_true]
  | .list ds, _, h => by
    cases h with | lst h q => simp only [PyData.eqv]; exact AtAll.eqv ds q
  | .tuple ds, _, h => by
    cases h with | tup h q => simp only [PyData.eqv]; exact AtAll.eqv ds q
  | .dict _, _, h => by cases h
theorem AtAll.eqv {H : Hp} : ∀ (ds : List PyData) {vs : List V}, AtAll H vs ds → PyData.eqvAll ds ds = true
  | [], _, h => by simp only [PyData.eqvAll]
  | d :: ds, _, h => by
    cases h with | cons h t => simp only [PyData.eqvAll, At.eqv d h, AtAll.eqv ds t, Bool.and_self]
end
theorem AtAll.length {H : Hp} : ∀ {ds : List PyData} {vs : List V}, AtAll H vs ds → vs.length = ds.length
  | _, _, .nil => rfl
  | _, _, .cons _ t => by rw [List.length_cons, List.length_cons, AtAll.length t]
theorem AtAll.get {H : Hp} : ∀ {ds : List PyData} {vs : List V} {i : Nat} {d : PyData}, AtAll H vs ds → ds[i]? = some d → ∃ v, vs[i]? = some v ∧ At H v d
  | _, _, i, _, .nil, e => by simp at e
  | _, _, 0, _, .cons h t, e => by
    simp at e; subst e
    exact ⟨_, rfl, h⟩
  | _, _, i + 1, _, .cons h t, e => by
    obtain ⟨v, h1, h2⟩ := AtAll.get t (show _ = some _ from by simpa using e)
    exact ⟨v, by simpa using h1, h2⟩
theorem AtAll.getV {H : Hp} {ds : List PyData} {vs : List V} {i : Nat} {v : V} (h : AtAll H vs ds) (e : vs[i]? = some v) : ∃ d, ds[i]? = some d ∧ At H v d := by
  have hi := (List.getElem?_eq_some_iff.mp e).1
  have hl := h.length
  have hd : ds[i]? = some (ds[i]'(by omega)) := List.getElem?_eq_getElem (by omega)
  obtain ⟨v', h1, h2⟩ := h.get hd
  rw [h1] at e
  cases e
  exact ⟨_, hd, h2⟩
theorem AtAll.append {H : Hp} : ∀ {ds es : List PyData} {vs us : List V}, AtAll H vs ds → AtAll H us es → AtAll H (vs ++ us) (ds ++ es)
  | _, _, _, _, .nil, q => q
  | _, _, _, _, .cons h t, q => .cons h (AtAll.append t q)
theorem AtAll.one {H : Hp} {v : V} {d : PyData} (h : At H v d) : AtAll H [v] [d] := .cons h .nil
theorem AtAll.drop {H : Hp} : ∀ (n : Nat) {ds : List PyData} {vs : List V}, AtAll H vs ds → AtAll H (vs.drop n) (ds.drop n)
  | 0, _, _, h => by simpa using h
  | n + 1, _, _, .nil => by simpa using AtAll.nil
  | n + 1, _, _, .cons _ t => by simpa using AtAll.drop n t
theorem AtAll.take {H : Hp} : ∀ (n : Nat) {ds : List PyData} {vs : List V}, AtAll H vs ds → AtAll H (vs.take n) (ds.take n)
  | 0, _, _, h => by simpa using AtAll.nil
  | n + 1, _, _, .nil => by simpa using AtAll.nil
  | n + 1, _, _, .cons h t => by simpa using AtAll.cons h (AtAll.take n t)
/-! ### what is new; what is left without some addresses -/
def dif (H H' : Hp) : Hp := fun p => match H p with
  | none => H' p
  | some _ => none
theorem dif_of {H H' : Hp} {p : Addr} {o : HO} (h : H p = none) (h' : H' p = some o) : dif H H' p = some o := by
  unfold dif
  rw [h]
  exact h'
theorem dif_to {H H' : Hp} {p : Addr} {o : HO} (h : dif H H' p = some o) : H p = none ∧ H' p = some o := by
  unfold dif at h
  cases e : H p with
  | none => rw [e] at h; exact ⟨rfl, h⟩
  | some u => rw [e] at h; cases h
theorem dif_ex {H H' : Hp} : Ex (dif H H') H' := fun p o h => (dif_to h).2
theorem dif_mono {H H' H'' : Hp} (e : Ex H' H'') : Ex (dif H H') (dif H H'') := fun p o h => dif_of (dif_to h).1 (e _ _ (dif_to h).2)
theorem back_none {H H' : Hp} {p : Addr} (e : Ex H H') (h : H' p = none) : H p = none := by
  cases z : H p with
  | none => rfl
  | some o => rw [e _ _ z] at h; cases h
theorem dif_back {H H1 H' : Hp} (e : Ex H H1) : Ex (dif H1 H') (dif H H') := fun p o h => dif_of (back_none e (dif_to h).1) (dif_to h).2
def mks (A : List Addr) (H : Hp) : Hp := fun p => if p ∈ A then none else H p
theorem mks_at {A : List Addr} {H : Hp} {p : Addr} (h : p ∉ A) : mks A H p = H p := if_neg h
theorem mks_in {A : List Addr} {H : Hp} {p : Addr} (h : p ∈ A) : mks A H p = none := if_pos h
theorem mks_to {A : List Addr} {H : Hp} {p : Addr} {o : HO} (h : mks A H p = some o) : p ∉ A ∧ H p = some o := by
  by_cases q : p ∈ A
  · rw [mks_in q] at h; cases h
  · rw [mks_at q] at h; exact ⟨q, h⟩
theorem mks_ex {A : List Addr} {H : Hp} : Ex (mks A H) H := fun p o h => (mks_to h).2
theorem mks_mono {A : List Addr} {H H' : Hp} (e : Ex H H') : Ex (mks A H) (mks A H') := fun p o h => by
  rw [mks_at (mks_to h).1]
  exact e _ _ (mks_to h).2
theorem mks_upd {A : List Addr} {H : Hp} {p : Addr} {o : HO} (h : p ∈ A) : mks A (upd H p o) = mks A H := by
  funext q
  by_cases z : q ∈ A
  · rw [mks_in z, mks_in z]
  · rw [mks_at z, mks_at z, upd_ne (fun e => z (by rw [e]; exact h))]
/-- what is new is apart from what was there -/
theorem dif_mks {A : List Addr} {H H' : Hp} (h : ∀ a ∈ A, H a ≠ none) : Ex (dif H H') (mks A H') := fun p o q => by
  rw [mks_at fun z => h p z (dif_to q).1]
  exact (dif_to q).2
theorem ex_mks {A : List Addr} {H H' : Hp} (h : ∀ a ∈ A, H a = none) (e : Ex H H') : Ex H (mks A H') := fun p o q => by
  rw [mks_at fun z => by rw [h p z] at q; cases q]
  exact e _ _ q
theorem mks_none {A : List Addr} {H H' : Hp} {p : Addr} (h : mks A H p = none) (hA : p ∉ A) : H p = none := by rwa [mks_at hA] at h
/-- new data: all of it is new -/
def NewD (H : Hp) (Q : VK) (d : PyData) : Prop := ∀ v H', Ex H H' → At (dif H H') v d → Q v H'
theorem At.nw {H H' : Hp} {v : V} {d : PyData} (h : At (dif H H') v d) : At H' v d := h.ex dif_ex
/-! ### bytes -/
def nL (ns : List Nat) : List V := ns.map fun n : Nat => V.int (n : Int)
def nD (ns : List Nat) : PyData := .list (ns.map fun n : Nat => PyData.int (n : Int))
theorem nL_len (ns : List Nat) : (nL ns).length = ns.length := List.length_map ..
theorem nL_app (ns ms : List Nat) : nL (ns ++ ms) = nL ns ++ nL ms := List.map_append
theorem nL_atAll {H : Hp} : ∀ ns : List Nat, AtAll H (nL ns) (ns.map fun n : Nat => PyData.int (n : Int))
  | [] => .nil
  | n :: ns => .cons (.int n) (nL_atAll ns)
theorem nL_at {H : Hp} {p : Addr} {ns : List Nat} (h : H p = some (.lst (nL ns))) : At H (.ref p) (nD ns) := .lst h (nL_atAll ns)
theorem nL_inj : ∀ {vs : List V} {H : Hp} {ns : List Nat}, AtAll H vs (ns.map fun n : Nat => PyData.int (n : Int)) → vs = nL ns
  | _, _, [], h => by cases h; rfl
  | _, _, n :: ns, h => by
    cases h with
    | cons h t =>
      cases h
      rw [nL_inj t]
      rfl
theorem At.nL {H : Hp} {v : V} {ns : List Nat} (h : At H v (nD ns)) : ∃ p, v = .ref p ∧ H p = some (.lst (nL ns)) := by
  cases h with | lst h q => exact ⟨_, rfl, nL_inj q ▸ h⟩
theorem nL_get {ns : List Nat} {i : Nat} {v : V} (h : (nL ns)[i]? = some v) : ∃ n, ns[i]? = some n ∧ v = .int (n : Int) := by
  unfold nL at h
  rw [List.getElem?_map] at h
  cases e : ns[i]? with
  | none => rw [e] at h; cases h
  | some b => rw [e] at h; exact ⟨b, rfl, (Option.some.inj h).symm⟩
theorem nL_at_some {ns : List Nat} {i n : Nat} (h : ns[i]? = some n) : (nL ns)[i]? = some (.int (n : Int)) := by
  unfold nL
  rw [List.getElem?_map, h]
  rfl
theorem nL_take (k : Nat) (ns : List Nat) : (nL ns).take k = nL (ns.take k) := by unfold nL; rw [List.map_take]
theorem nL_drop (k : Nat) (ns : List Nat) : (nL ns).drop k = nL (ns.drop k) := by unfold nL; rw [List.map_drop]
theorem nL_rep (k n : Nat) : (List.replicate k [V.int (n : Int)]).flatten = nL (List.replicate k n) := by
  induction k with
  | zero => rfl
  | succ k ih => rw [List.replicate_succ, List.flatten_cons, ih, List.replicate_succ]; rfl
/-- lists of lists of bytes -/
def sD (S : List (List Nat)) : PyData := .list (S.map nD)
theorem At.sec {H : Hp} {v : V} {S : List (List Nat)} (h : At H v (sD S)) : ∃ p vs, v = .ref p ∧ H p = some (.lst vs) ∧ AtAll H vs (S.map nD) := by
  cases h with | lst h q => exact ⟨_, _, rfl, h, q⟩
theorem AtAll.secs {H : Hp} {vs : List V} {S : List (List Nat)} (h : AtAll H vs (S.map nD)) : vs.length = S.length := by rw [h.length, List.length_map]
theorem AtAll.sec {H : Hp} {vs : List V} {S : List (List Nat)} (h : AtAll H vs (S.map nD)) {i : Nat} {ns : List Nat} (e : S[i]? = some ns) : ∃ p, vs[i]? = some (.ref p) ∧ H p = some (.lst (R.nL ns)) := by
  obtain ⟨v, h1, h2⟩ := h.get (i := i) (d := nD ns) (by rw [List.getElem?_map, e]; rfl)
  obtain ⟨p, rfl, h3⟩ := h2.nL
  exact ⟨p, h1, h3⟩
theorem AtAll.secV {H : Hp} {vs : List V} {S : List (List Nat)} (h : AtAll H vs (S.map nD)) {i : Nat} {v : V} (e : vs[i]? = some v) : ∃ ns p, S[i]? = some ns ∧ v = .ref p ∧ H p = some (.lst (R.nL ns)) := by
  obtain ⟨d, h1, h2⟩ := h.getV e
  rw [List.getElem?_map] at h1
  cases e2 : S[i]? with
  | none => rw [e2] at h1; cases h1
  | some ns =>
    rw [e2] at h1
    cases h1
    obtain ⟨p, rfl, h3⟩ := h2.nL
    exact ⟨ns, p, rfl, rfl, h3⟩
/-! ### == -/
/-- at most so deep -/
def Dep (n : Nat) (d : PyData) : Prop := PyData.depth d ≤ n
theorem Dep.non {n : Nat} : Dep n .none := by simp [Dep, PyData.depth]
theorem Dep.int {n : Nat} {i : Int} : Dep n (.int i) := by simp [Dep, PyData.depth]
theorem Dep.str {n : Nat} {i : Str} : Dep n (.str i) := by simp [Dep, PyData.depth]
theorem Dep.bl {n : Nat} {i : Bool} : Dep n (.bool i) := by simp [Dep, PyData.depth]
theorem depAll {n : Nat} : ∀ {ds : List PyData}, (∀ d ∈ ds, Dep n d) → PyData.depthAll ds ≤ n
  | [], _ => by simp [PyData.depthAll]
  | d :: ds, h => by
    have h1 := h d (List.mem_cons_self ..)
    have h2 := depAll fun e he => h e (List.mem_cons_of_mem _ he)
    unfold Dep at h1
    rw [PyData.depthAll]
    omega
theorem Dep.list {n : Nat} {ds : List PyData} (h : ∀ d ∈ ds, Dep n d) : Dep (n + 1) (.list ds) := by
  have := depAll h
  unfold Dep
  rw [PyData.depth]
  omega
theorem Dep.tuple {n : Nat} {ds : List PyData} (h : ∀ d ∈ ds, Dep n d) : Dep (n + 1) (.tuple ds) := by
  have := depAll h
  unfold Dep
  rw [PyData.depth]
  omega
theorem Dep.nD {n : Nat} {ns : List Nat} : Dep (n + 1) (nD ns) := Dep.list fun d hd => by
  obtain ⟨m, _, rfl⟩ := List.mem_map.mp hd
  exact Dep.int
theorem Dep.sD {n : Nat} {S : List (List Nat)} : Dep (n + 2) (sD S) := Dep.list fun d hd => by
  obtain ⟨m, _, rfl⟩ := List.mem_map.mp hd
  exact Dep.nD
theorem At.shaped {H : Hp} {v : V} {d : PyData} (h : At H v d) (hd : Dep 64 d) : SeqAt.shaped d = true := by
  unfold SeqAt.shaped
  rw [h.lay, decide_eq_true (show d.depth ≤ 64 from hd)]
  rfl
section
variable {K : PySem.W.Frag} {σ : L2.St} {H : Hp} {Q : VK} {x y : V} {d e : PyData}
theorem iEqAt (h1 : At H x d) (h2 : At H y d) (hd : Dep 64 d) (q : Q (.bl true) H) : rEqD K x y H Q := ⟨d, d, h1.dp, h2.dp, h1.shaped hd, h1.shaped hd, by rw [h1.eqv]; exact q⟩
theorem iNeAt (h1 : At H x d) (h2 : At H y d) (hd : Dep 64 d) (q : Q (.bl false) H) : rNeD K x y H Q := ⟨d, d, h1.dp, h2.dp, h1.shaped hd, h1.shaped hd, by rw [h1.eqv]; exact q⟩
theorem iEqAtD (h1 : At H x d) (h2 : At H y e) (hd : Dep 64 d) (he : Dep 64 e) (q : Q (.bl (PyData.eqv d e)) H) : rEqD K x y H Q := ⟨d, e, h1.dp, h2.dp, h1.shaped hd, h2.shaped he, q⟩
theorem iNeAtD (h1 : At H x d) (h2 : At H y e) (hd : Dep 64 d) (he : Dep 64 e) (q : Q (.bl (!PyData.eqv d e)) H) : rNeD K x y H Q := ⟨d, e, h1.dp, h2.dp, h1.shaped hd, h2.shaped he, q⟩
theorem eqv_nD (ns ms : List Nat) : PyData.eqv (nD ns) (nD ms) = decide (ns = ms) := by
  have a : (ns.map fun n : Nat => PyData.int (n : Int)) = (ns.map (fun n : Nat => (n : Int))).map PyData.int := by rw [List.map_map]; rfl
  have b : (ms.map fun n : Nat => PyData.int (n : Int)) = (ms.map (fun n : Nat => (n : Int))).map PyData.int := by rw [List.map_map]; rfl
  unfold nD
  rw [a, b, eqv_ints]
  by_cases h : ns = ms
  · subst h; rw [decide_eq_true rfl, decide_eq_true rfl]
  · rw [decide_eq_false h, decide_eq_false fun z => h (List.map_inj_right (fun a b hab => by omega) |>.mp z)]
theorem iNeN {p m : Addr} {ns ms : List Nat} (h1 : H p = some (.lst (nL ns))) (h2 : H m = some (.lst (nL ms))) (q : Q (.bl (!decide (ns = ms))) H) : rNeD K (.ref p) (.ref m) H Q :=
  iNeAtD (nL_at h1) (nL_at h2) Dep.nD Dep.nD (by rw [eqv_nD]; exact q)
theorem iEqN {p m : Addr} {ns ms : List Nat} (h1 : H p = some (.lst (nL ns))) (h2 : H m = some (.lst (nL ms))) (q : Q (.bl (decide (ns = ms))) H) : rEqD K (.ref p) (.ref m) H Q :=
  iEqAtD (nL_at h1) (nL_at h2) Dep.nD Dep.nD (by rw [eqv_nD]; exact q)
/-! ### slices -/
def kPart (Q : Option Int → Hp → Prop) : VK := fun x H1 => ∃ i, x = .int i ∧ Q (some i) H1
theorem iPart {te : TE} {QO : Option Int → Hp → Prop} (q : te σ H (kPart QO)) : tPart te σ H QO := q
theorem iPartI {i : Int} {QO : Option Int → Hp → Prop} (q : QO (some i) H) : kPart QO (.int i) H := ⟨i, rfl, q⟩
theorem iNoPart {QO : Option Int → Hp → Prop} (q : QO none H) : tNoPart σ H QO := q
theorem iSl {r : V → Option Int → Option Int → Hp → VK → Prop} {te : TE} {tl th : TO} (q : te σ H fun x H1 => tl σ H1 fun l H2 => th σ H2 fun u H3 => r x l u H3 Q) : tSl r te tl th σ H Q := q
/-- xs[i:j], tracked -/
def kSlL : V → Option Int → Option Int → Hp → VK → Prop := fun x lo hi H Q => ∃ a xs, x = .ref a ∧ H a = some (.lst xs) ∧ ∀ p, H p = none → Q (.ref p) (upd H p (.lst (cutV xs lo hi)))
theorem sl_l {X : Cx} : SlR X kSlL := fun pins s σ H x v vl vu lo hi sl Q I rx hs pl pu h => by
  obtain ⟨a, xs, e, hx, q⟩ := h
  exact sl_list pins s σ H x v vl vu lo hi sl Q I rx hs pl pu ⟨a, xs, e, SqL.tr hx, q⟩
theorem iSlL {a : Addr} {xs : List V} {lo hi : Option Int} (h : H a = some (.lst xs)) (q : ∀ p, H p = none → Q (.ref p) (upd H p (.lst (cutV xs lo hi)))) : kSlL (.ref a) lo hi H Q := ⟨a, xs, rfl, h, q⟩
theorem cut_to (xs : List V) (k : Nat) : cutV xs none (some (k : Int)) = xs.take k := by
  unfold cutV
  rw [HT.sIx_none, HT.sIx_nat, List.drop_zero, Nat.sub_zero]
  rcases Nat.le_total k xs.length with h | h
  · rw [Nat.min_eq_left h]
  · rw [Nat.min_eq_right h, List.take_of_length_le (Nat.le_refl _), List.take_of_length_le h]
theorem cut_from (xs : List V) (k : Nat) : cutV xs (some (k : Int)) none = xs.drop k := by
  unfold cutV
  rw [HT.sIx_none, HT.sIx_nat]
  rcases Nat.le_total k xs.length with h | h
  · rw [Nat.min_eq_left h, List.take_of_length_le (by rw [List.length_drop]; omega)]
  · rw [Nat.min_eq_right h, List.drop_length, List.drop_eq_nil_of_le h]
    simp
theorem cut_ft (xs : List V) (i j : Nat) : cutV xs (some (i : Int)) (some (j : Int)) = (xs.take j).drop i := by
  unfold cutV
  rw [HT.sIx_nat, HT.sIx_nat, List.drop_take]
  rcases Nat.le_total i xs.length with h | h
  · rw [Nat.min_eq_left h]
    rcases Nat.le_total j xs.length with h2 | h2
    · rw [Nat.min_eq_left h2]
    · rw [Nat.min_eq_right h2, List.take_of_length_le (by rw [List.length_drop]; omega), List.take_of_length_le (by rw [List.length_drop]; omega)]
  · rw [Nat.min_eq_right h, List.drop_length, List.drop_eq_nil_of_le h]
    simp
/-! ### list.extend, reversed ranges, ranges with a step -/
theorem iExt {p m : Addr} {xs ys : List V} (h : H p = some (.lst xs)) (h2 : H m = some (.lst ys)) (hz : xs.length + ys.length ≤ 100000) (q : Q .non (upd H p (.lst (xs ++ ys)))) : rExtend (.ref p) [.ref m] H Q := ⟨p, m, xs, ys, rfl, rfl, h, h2, Evl.sz_of hz, q⟩
def kRv (R : It → Hp → Prop) : VK := fun x H1 => ∃ n, x = .int n ∧ (-(2 ^ 62) ≤ (0:Int) ∧ (0:Int) < 2 ^ 62 ∧ -(2 ^ 62) ≤ n ∧ n < 2 ^ 62 ∧ R (Itc (0 + (((n - 0).toNat : Nat) : Int) - 1) (-1) (n - 0).toNat) H1)
theorem iRv {ta : TE} {R : It → Hp → Prop} (q : ta σ H (kRv R)) : iRevR (tRg1 ta) σ H R := q
theorem iRvI {R : It → Hp → Prop} {n : Nat} (h : n < 1000000) (q : R (Itc ((n : Int) - 1) (-1) n) H) : kRv R (.int (n : Int)) H := by
  refine ⟨n, rfl, by decide, by decide, by omega, by omega, ?_⟩
  have e1 : ((n : Int) - 0).toNat = n := by omega
  rw [e1, show (0 : Int) + (n : Int) - 1 = (n : Int) - 1 by omega]
  exact q
theorem rgUp32 {b : Nat} (hb : b < 1000000) : RgC (0 : Int) (b : Int) (32 : Int) ((b + 31) / 32) := by
  refine ⟨by decide, by decide, ?_, ?_⟩
  · unfold Builtin.Range.small Builtin.Range.rangeFitsLong Builtin.Range.rangeSize
    rw [if_pos (show (32 : Int) > 0 by decide)]
    by_cases h : (0 : Int) < (b : Int)
    · rw [if_pos h]
      simp only [Bool.and_eq_true, decide_eq_true_eq, Bool.or_eq_true]
      refine ⟨⟨⟨⟨by decide, by omega⟩, by decide⟩, by omega⟩, .inr ?_⟩
      rw [if_pos (by decide)]
      simp only [Bool.and_eq_true, decide_eq_true_eq]
      omega
    · rw [if_neg h]
      simp only [Bool.and_eq_true, decide_eq_true_eq, Bool.or_eq_true]
      exact ⟨⟨⟨⟨by decide, by omega⟩, by decide⟩, by decide⟩, .inl (by decide)⟩
  · unfold Builtin.Range.rangeSize
    rw [if_pos (by decide)]
    by_cases h : (0 : Int) < (b : Int)
    · rw [if_pos h]; omega
    · rw [if_neg h]; omega
def kRg3 (R : It → Hp → Prop) : List V → Hp → Prop := fun vs H1 => ∃ (i j c : Int) (n : Nat), vs = [.int i, .int j, .int c] ∧ RgC i j c n ∧ R (Itc i c n) H1
theorem iRg3 {ta : TA} {R : It → Hp → Prop} (q : ta σ H (kRg3 R)) : iRng3 ta σ H R := q
theorem iRg3I {R : It → Hp → Prop} {i j c : Int} {n : Nat} (h : RgC i j c n) (q : R (Itc i c n) H) : kRg3 R [.int i, .int j, .int c] H := ⟨i, j, c, n, rfl, h, q⟩
end
section
variable {K : PySem.W.Frag} {g : TG} {tt : TT} {te : TE} {vs : List Nat} {σ σ' : L2.St} {H1 : Hp} {Q : VK}
theorem lcF_rc {lo c : Int} {n : Nat} (f : Nat → V) (hw : Wip σ vs σ') (hs : ∀ D i H, H1 D = none → i < n → H D = some (.lst ((List.range i).map f)) → Ex H1 H → g (.int (lo + (i : Int) * c)) σ' H (kLc vs σ' tt te D i (PvF H1 f D)))
    (hd : ∀ D H, H1 D = none → Ex H1 H → H D = some (.lst ((List.range n).map f)) → Q (.ref D) H) : tLcJ (Itc lo c n) g tt te vs σ H1 Q :=
  lcJ walk_rangeC hw (PvF H1 f) (fun D hD => ⟨ex_upd hD (Ex.rfl' _), rfl⟩) (fun _ _ _ _ _ _ _ => trivial) (fun D i acc x H H' hD hi e l p y => by
    obtain ⟨y1, y2⟩ := y
    obtain ⟨p1, rfl⟩ := p
    rw [y1, y2]
    exact hs D i H hD hi e p1) (fun D acc H hD e l p => by
    obtain ⟨p1, rfl⟩ := p
    exact hd D H hD p1 e)
theorem lcR_rc {lo c : Int} {n : Nat} (R : Nat → List V → Hp → Prop) (hw : Wip σ vs σ') (m : ∀ i acc H H', Ex H H' → R i acc H → R i acc H') (h0 : R 0 [] H1)
    (hs : ∀ D i acc H, H1 D = none → i < n → H D = some (.lst acc) → acc.length ≤ i → Ex H1 H → R i acc (mk D H) → g (.int (lo + (i : Int) * c)) σ' H (kLc vs σ' tt te D i (PvR H1 R D)))
    (hd : ∀ D acc H, H1 D = none → Ex H1 H → H D = some (.lst acc) → R n acc H → Q (.ref D) H) : tLcJ (Itc lo c n) g tt te vs σ H1 Q :=
  lcJ walk_rangeC hw (PvR H1 R) (fun D hD => ⟨ex_upd hD (Ex.rfl' _), by rw [mk_upd]; exact m _ _ _ _ (ex_mk hD (Ex.rfl' _)) h0⟩) (fun _ _ _ _ _ _ _ => trivial) (fun D i acc x H H' hD hi e l p y => by
    obtain ⟨y1, y2⟩ := y
    rw [y1, y2]
    exact hs D i acc H hD hi e l p.1 p.2) (fun D acc H hD e l p => hd D acc H hD p.1 e (m _ _ _ _ (mk_ex D H) p.2))
end
def kZA (K : PySem.W.Frag) (R : It → Hp → Prop) : List V → Hp → Prop := fun vs H1 => ∃ a b xs ys, vs = [.ref a, .ref b] ∧ ((SqL K H1 a xs ∧ SqL K H1 b ys ∧ R (Itz K a b) H1) ∨ (SqT K H1 a xs ∧ SqT K H1 b ys ∧ R (RZ.ItzT K a b) H1))
theorem iZA {K : PySem.W.Frag} {tA : TA} {σ : L2.St} {H : Hp} {R : It → Hp → Prop} (q : tA σ H (kZA K R)) : RZ.iZipA K tA σ H R := q
theorem iZAT {K : PySem.W.Frag} {a b : Addr} {xs ys : List V} {H : Hp} {R : It → Hp → Prop} (h : SqT K H a xs) (h2 : SqT K H b ys) (q : R (RZ.ItzT K a b) H) : kZA K R [.ref a, .ref b] H := ⟨a, b, xs, ys, rfl, .inr ⟨h, h2, q⟩⟩
theorem forJ_zT {K : PySem.W.Frag} {a b : Addr} {xs ys : List V} {g : TG} {tb : TS} {n bk c : L2.St → Hp → Prop} {r : VK} {σ : L2.St} {H : Hp} (hl : xs.length = ys.length) (Pv : Nat → L2.St → Hp → Prop) (h0 : Pv 0 σ H) (hq : ∀ i σ H, Pv i σ H → SqT K H a xs ∧ SqT K H b ys)
    (hs : ∀ (i : Nat) (x y : V) (T : Addr) (σ : L2.St) (H : Hp), xs[i]? = some x → ys[i]? = some y → Pv i σ H → H T = none → g (.ref T) σ (upd H T (.tup [x, y])) fun σ2 H2 => tb ⟨Pv (i + 1), r, n, Pv (i + 1)⟩ σ2 H2) (hd : ∀ σ H, Pv xs.length σ H → n σ H) : tForJ (RZ.ItzT K a b) g tb ⟨n, r, bk, c⟩ σ H :=
  RZ.for_zipT hl Pv h0 hq hs hd
theorem forJ_tW {K : PySem.W.Frag} {a : Addr} {xs : List V} {g : TG} {tb : TS} {n bk c : L2.St → Hp → Prop} {r : VK} {σ : L2.St} {H : Hp} (ha : ∀ H : Hp, SqT K H a xs) (Pv : Nat → L2.St → Hp → Prop) (h0 : Pv 0 σ H)
    (hs : ∀ i x σ H, xs[i]? = some x → Pv i σ H → g x σ H fun σ2 H2 => tb ⟨Pv (i + 1), r, n, Pv (i + 1)⟩ σ2 H2) (hd : ∀ σ H, Pv xs.length σ H → n σ H) : tForJ (Itt K a) g tb ⟨n, r, bk, c⟩ σ H :=
  for_tup Pv h0 (fun i σ H h p => ha H) hs hd
/-! ### constants of the module that are tuples -/
def WTup (K : PySem.W.Frag) (mg : Str → Option Value) (x : Str) (xs : List V) : Prop := ∃ a, mg x = some (.ref a) ∧ ∀ H : Hp, SqT K H a xs
def tW (K : PySem.W.Frag) (xs : List V) : TE := fun σ H Q => ∀ a, (∀ H : Hp, SqT K H a xs) → Q (.ref a) H
theorem pe_globW {X : Cx} {x : Str} {xs : List V} {pos : Pos} (hg : Gl X x) (h : WTup X.K X.mg x xs) (hd : (x == ("__debug__" : Str)) = false := by decide) : PE X (.Name x pos) (tW X.K xs) := by
  obtain ⟨a, h, hs⟩ := h
  exact PE.imp (pe_glob (v := V.ref a) hg h rfl hd) fun σ H Q q => q a hs
theorem WTup.mk' {K : PySem.W.Frag} {mg : Str → Option Value} {x : Str} {xs : List V} {a : Addr} {od : Option Addr} {its : Array Value} {n : Nat} {sl : Array (Option Value)} (h : mg x = some (.ref a)) (l : K.lookup a = some ⟨.type "tuple", od, .seq its n, sl⟩) (hz : its.size ≤ 1000) (v : Vals xs its.toList) : WTup K mg x xs :=
  ⟨a, h, fun H => .inr ⟨_, its, n, l, rfl, rfl, Evl.sz_of (by omega), v⟩⟩
theorem iW {K : PySem.W.Frag} {xs : List V} {σ : L2.St} {H : Hp} {Q : VK} (q : ∀ a, (∀ H : Hp, SqT K H a xs) → Q (.ref a) H) : tW K xs σ H Q := q
end R
set_option Elab.async false
set_option linter.all false
set_option maxRecDepth 100000
set_option maxHeartbeats 4000000
namespace R
/-! ### numbers of a fixed number of bytes; log blocks -/
def fx (n w : Nat) : List Nat := (List.range w).map fun i => n / 256 ^ (w - 1 - i) % 256
theorem fx_zero (n : Nat) : fx n 0 = [] := rfl
theorem fx_succ (n w : Nat) : fx n (w + 1) = n / 256 ^ w % 256 :: fx n w := by
  unfold fx
  rw [List.range_succ_eq_map, List.map_cons, List.map_map]
  refine congr (congrArg _ ?_) (List.map_congr_left fun i hi => ?_)
  · rw [show w + 1 - 1 - 0 = w by omega]
  · show n / 256 ^ (w + 1 - 1 - (i + 1)) % 256 = _
    rw [show w + 1 - 1 - (i + 1) = w - 1 - i by omega]
theorem fx_len (n w : Nat) : (fx n w).length = w := by unfold fx; rw [List.length_map, List.length_range]
theorem fx_lt (n w : Nat) : ∀ b ∈ fx n w, b < 256 := fun b hb => by
  unfold fx at hb
  obtain ⟨i, _, rfl⟩ := List.mem_map.mp hb
  exact Nat.mod_lt _ (by decide)
def numA (a : Nat) (bs : List Nat) : Nat := bs.foldl (fun n b => n * 256 + b) a
theorem numA_snoc (a : Nat) (bs : List Nat) (b : Nat) : numA a (bs ++ [b]) = numA a bs * 256 + b := by unfold numA; rw [List.foldl_append]; rfl
theorem numA_fx (n : Nat) : ∀ (w a : Nat), numA a (fx n w) = a * 256 ^ w + n % 256 ^ w
  | 0, a => by rw [fx_zero]; show a = _; rw [Nat.pow_zero, Nat.mod_one]; omega
  | w + 1, a => by
    rw [fx_succ]
    show numA (a * 256 + n / 256 ^ w % 256) (fx n w) = _
    rw [numA_fx n w, Nat.pow_succ, Nat.mod_mul, Nat.add_mul, Nat.mul_comm (256 ^ w) (n / 256 ^ w % 256), Nat.mul_comm (256 ^ w) 256, Nat.mul_assoc]
    omega
/-- bytes are told by their number -/
theorem numA_lt : ∀ (bs : List Nat) (a : Nat), (∀ b ∈ bs, b < 256) → a * 256 ^ bs.length ≤ numA a bs ∧ numA a bs < (a + 1) * 256 ^ bs.length
  | [], a, _ => by show a * 1 ≤ a ∧ a < (a + 1) * 1; omega
  | b :: bs, a, h => by
    have ih := numA_lt bs (a * 256 + b) fun c hc => h c (List.mem_cons_of_mem _ hc)
    have hb := h b (List.mem_cons_self ..)
    show a * 256 ^ (bs.length + 1) ≤ numA (a * 256 + b) bs ∧ numA (a * 256 + b) bs < (a + 1) * 256 ^ (bs.length + 1)
    have e1 : a * 256 ^ (bs.length + 1) = a * 256 * 256 ^ bs.length := by rw [Nat.pow_succ, Nat.mul_comm (256 ^ bs.length) 256, Nat.mul_assoc]
    have e2 : (a + 1) * 256 ^ (bs.length + 1) = (a * 256 + 256) * 256 ^ bs.length := by rw [Nat.pow_succ, Nat.mul_comm (256 ^ bs.length) 256, ← Nat.mul_assoc, Nat.add_mul]
    rw [e1, e2]
    refine ⟨Nat.le_trans (Nat.mul_le_mul_right _ (by omega)) ih.1, Nat.lt_of_lt_of_le ih.2 (Nat.mul_le_mul_right _ (by omega))⟩
theorem fx_numA : ∀ (bs : List Nat) (a : Nat), (∀ b ∈ bs, b < 256) → fx (numA a bs) bs.length = bs
  | [], a, _ => rfl
  | b :: bs, a, h => by
    have h' : ∀ c ∈ bs, c < 256 := fun c hc => h c (List.mem_cons_of_mem _ hc)
    have hb := h b (List.mem_cons_self ..)
    show fx (numA (a * 256 + b) bs) (bs.length + 1) = _
    rw [fx_succ, fx_numA bs _ h']
    have e : numA (a * 256 + b) bs / 256 ^ bs.length = a * 256 + b := by
      obtain ⟨l, u⟩ := numA_lt bs (a * 256 + b) h'
      exact Nat.div_eq_of_lt_le l u
    rw [e]
    congr 1
    omega
def padN (n : Nat) : Nat := (32 - n % 32) % 32
def wholeOf (data : List Nat) : List Nat := fx data.length 4 ++ data ++ List.replicate (padN (4 + data.length)) 0
theorem wholeOf_len (data : List Nat) : (wholeOf data).length = (4 + data.length + 31) / 32 * 32 := by
  unfold wholeOf padN
  rw [List.length_append, List.length_append, fx_len, List.length_replicate]
  omega
def chunk (xs : List Nat) (i : Nat) : List Nat := (xs.take (32 * i + 32)).drop (32 * i)
def chunks (xs : List Nat) : List (List Nat) := (List.range (xs.length / 32)).map (chunk xs)
theorem chunks_len (xs : List Nat) : (chunks xs).length = xs.length / 32 := by unfold chunks; rw [List.length_map, List.length_range]
theorem chunk_len {xs : List Nat} {i : Nat} (h : i < xs.length / 32) : (chunk xs i).length = 32 := by
  unfold chunk
  rw [List.length_drop, List.length_take]
  omega
theorem chunks_at {xs : List Nat} {i : Nat} {s : List Nat} (h : (chunks xs)[i]? = some s) : s = chunk xs i ∧ s.length = 32 := by
  have hi := (List.getElem?_eq_some_iff.mp h).1
  rw [chunks_len] at hi
  unfold chunks at h
  rw [List.getElem?_map, List.getElem?_range hi] at h
  have := (Option.some.inj h).symm
  subst this
  exact ⟨rfl, chunk_len hi⟩
theorem chunks_all {xs : List Nat} : ∀ s ∈ chunks xs, s.length = 32 := fun s hs => by
  obtain ⟨i, hi, e⟩ := List.getElem_of_mem hs
  exact (chunks_at (i := i) (by rw [List.getElem?_eq_getElem hi, e])).2
theorem chunks_flat0 (xs : List Nat) : ∀ c, ((List.range c).map (chunk xs)).flatten = xs.take (32 * c)
  | 0 => by simp
  | c + 1 => by
    rw [List.range_succ, List.map_append, List.flatten_append, chunks_flat0 xs c]
    show xs.take (32 * c) ++ ([chunk xs c]).flatten = _
    rw [List.flatten_cons, List.flatten_nil, List.append_nil]
    unfold chunk
    rw [List.drop_take, show 32 * c + 32 - 32 * c = 32 by omega, show 32 * (c + 1) = 32 * c + 32 by omega, List.take_add]
theorem chunks_flat {xs : List Nat} (h : xs.length % 32 = 0) : (chunks xs).flatten = xs := by
  unfold chunks
  rw [chunks_flat0, List.take_of_length_le (by omega)]
/-- the sectors of a log block -/
def blk (data : List Nat) : List (List Nat) := chunks (wholeOf data)
theorem blk_len (data : List Nat) : (blk data).length = (4 + data.length + 31) / 32 := by
  unfold blk
  rw [chunks_len, wholeOf_len]
  omega
theorem blk_flat (data : List Nat) : (blk data).flatten = wholeOf data := chunks_flat (by rw [wholeOf_len]; omega)
/-- reading one -/
def readB (S : List (List Nat)) (start : Nat) : Option (List Nat × Nat) :=
  match S[start]? with
  | none => none
  | some s =>
    let e := 4 + numA 0 (s.take 4)
    let b := start + (e + 31) / 32
    if S.length < b then none else some ((((S.take b).drop start).flatten.take e).drop 4, b)
theorem readB_none {S : List (List Nat)} {start : Nat} (h : S.length ≤ start) : readB S start = none := by
  unfold readB
  rw [List.getElem?_eq_none h]
theorem flat_len {S : List (List Nat)} (h : ∀ s ∈ S, s.length = 32) : S.flatten.length = 32 * S.length := by
  induction S with
  | nil => rfl
  | cons s S ih =>
    rw [List.flatten_cons, List.length_append, ih fun t ht => h t (List.mem_cons_of_mem _ ht), h s (List.mem_cons_self ..), List.length_cons]
    omega
theorem blk_head {data : List Nat} (h : data.length < 256 ^ 4) : ∃ s, (blk data)[0]? = some s ∧ numA 0 (s.take 4) = data.length := by
  have hl := blk_len data
  have h0 : 0 < (wholeOf data).length / 32 := by rw [wholeOf_len]; omega
  refine ⟨chunk (wholeOf data) 0, ?_, ?_⟩
  · show ((List.range ((wholeOf data).length / 32)).map (chunk (wholeOf data)))[0]? = _
    rw [List.getElem?_map, List.getElem?_range h0]
    rfl
  · have e : (chunk (wholeOf data) 0).take 4 = fx data.length 4 := by
      unfold chunk wholeOf
      rw [show 32 * 0 = 0 from rfl, List.drop_zero, List.take_take, List.append_assoc, show min 4 (0 + 32) = 4 from rfl, List.take_append_of_le_length (by rw [fx_len]; exact Nat.le_refl _), List.take_of_length_le (by rw [fx_len]; exact Nat.le_refl _)]
    rw [e, numA_fx, Nat.mod_eq_of_lt h]
    omega
theorem readB_blk {A B : List (List Nat)} {data : List Nat} (h : data.length < 256 ^ 4) : readB (A ++ blk data ++ B) A.length = some (data, A.length + (blk data).length) := by
  obtain ⟨s, hs, hn⟩ := blk_head h
  have hl := blk_len data
  have e0 : (A ++ blk data ++ B)[A.length]? = some s := by
    rw [List.append_assoc, List.getElem?_append_right (Nat.le_refl _), Nat.sub_self, List.getElem?_append_left (by have := (List.getElem?_eq_some_iff.mp hs).1; exact this)]
    exact hs
  unfold readB
  rw [e0]
  show (if (A ++ blk data ++ B).length < A.length + (4 + numA 0 (s.take 4) + 31) / 32 then none else some (((((A ++ blk data ++ B).take (A.length + (4 + numA 0 (s.take 4) + 31) / 32)).drop A.length).flatten.take (4 + numA 0 (s.take 4))).drop 4, A.length + (4 + numA 0 (s.take 4) + 31) / 32)) = _
  rw [hn, ← hl, if_neg (by rw [List.length_append, List.length_append]; omega)]
  have e1 : (A ++ blk data ++ B).take (A.length + (blk data).length) = A ++ blk data := by
    rw [List.take_append_of_le_length (by rw [List.length_append]; exact Nat.le_refl _), List.take_of_length_le (by rw [List.length_append]; exact Nat.le_refl _)]
  rw [e1, List.drop_append_of_le_length (Nat.le_refl _), List.drop_length, List.nil_append, blk_flat]
  have e2 : ((wholeOf data).take (4 + data.length)).drop 4 = data := by
    unfold wholeOf
    rw [List.take_append_of_le_length (by rw [List.length_append, fx_len]; exact Nat.le_refl _), List.take_of_length_le (by rw [List.length_append, fx_len]; exact Nat.le_refl _), List.drop_append_of_le_length (by rw [fx_len]; exact Nat.le_refl _), List.drop_eq_nil_of_le (by rw [fx_len]; exact Nat.le_refl _), List.nil_append]
  rw [e2]
theorem readB_cut {A : List (List Nat)} {data : List Nat} (h : data.length < 256 ^ 4) : readB ((A ++ blk data).take (A.length + (blk data).length - 1)) A.length = none := by
  obtain ⟨s, hs, hn⟩ := blk_head h
  have hl := blk_len data
  have h1 : 1 ≤ (blk data).length := by omega
  by_cases hb : (blk data).length = 1
  · exact readB_none (by rw [List.length_take]; omega)
  · have e0 : ((A ++ blk data).take (A.length + (blk data).length - 1))[A.length]? = some s := by
      rw [List.getElem?_take, if_pos (by omega), List.getElem?_append_right (Nat.le_refl _), Nat.sub_self]
      exact hs
    unfold readB
    rw [e0]
    show (if _ < A.length + (4 + numA 0 (s.take 4) + 31) / 32 then none else _) = _
    rw [hn, ← hl, if_pos (by rw [List.length_take, List.length_append]; omega)]
/-! ### tails -/
def signN : List Nat := [70, 73, 76, 69]
def tailOf (n a i c : Nat) : List Nat := signN ++ (fx n 6 ++ (fx a 1 ++ (fx i 4 ++ (fx c 4 ++ List.replicate 13 0))))
theorem tailOf_len (n a i c : Nat) : (tailOf n a i c).length = 32 := rfl
def tn0 (ns : List Nat) : Nat := numA 0 ((ns.take 10).drop 4)
def tn1 (ns : List Nat) : Nat := numA 0 ((ns.take 11).drop 10)
def tn2 (ns : List Nat) : Nat := numA 0 ((ns.take 15).drop 11)
def tn3 (ns : List Nat) : Nat := numA 0 ((ns.take 19).drop 15)
def readT (ns : List Nat) : Option (Nat × Nat × Nat × Nat) := if tn1 ns ≤ 1 ∧ tailOf (tn0 ns) (tn1 ns) (tn2 ns) (tn3 ns) = ns then some (tn0 ns, tn1 ns, tn2 ns, tn3 ns) else none
theorem readT_tail {n a i c : Nat} (hn : n < 256 ^ 6) (ha : a ≤ 1) (hi : i < 256 ^ 4) (hc : c < 256 ^ 4) : readT (tailOf n a i c) = some (n, a, i, c) := by
  have e0 : tn0 (tailOf n a i c) = n := by
    show numA 0 (fx n 6) = n
    rw [numA_fx, Nat.mod_eq_of_lt hn]; omega
  have e1 : tn1 (tailOf n a i c) = a := by
    show numA 0 (fx a 1) = a
    rw [numA_fx, Nat.mod_eq_of_lt (by omega)]; omega
  have e2 : tn2 (tailOf n a i c) = i := by
    show numA 0 (fx i 4) = i
    rw [numA_fx, Nat.mod_eq_of_lt hi]; omega
  have e3 : tn3 (tailOf n a i c) = c := by
    show numA 0 (fx c 4) = c
    rw [numA_fx, Nat.mod_eq_of_lt hc]; omega
  unfold readT
  rw [e0, e1, e2, e3, if_pos ⟨ha, rfl⟩]
theorem readT_at {ns : List Nat} {p d b : Nat} (hd : ∀ n a i c, (tailOf n a i c)[p]? = some d) (hb : ns[p]? = some b) (h : b ≠ d) : readT ns = none := by
  unfold readT
  rw [if_neg]
  rintro ⟨_, e⟩
  have := hd (tn0 ns) (tn1 ns) (tn2 ns) (tn3 ns)
  rw [e, hb] at this
  exact h (Option.some.inj this)
theorem tail_fix {p : Nat} (h : p ∈ [0, 1, 2, 3, 19, 25, 31]) : ∃ d, ∀ n a i c, (tailOf n a i c)[p]? = some d := by
  simp only [List.mem_cons, List.not_mem_nil, or_false] at h
  rcases h with rfl | rfl | rfl | rfl | rfl | rfl | rfl
  · exact ⟨70, fun _ _ _ _ => rfl⟩
  · exact ⟨73, fun _ _ _ _ => rfl⟩
  · exact ⟨76, fun _ _ _ _ => rfl⟩
  · exact ⟨69, fun _ _ _ _ => rfl⟩
  · exact ⟨0, fun _ _ _ _ => rfl⟩
  · exact ⟨0, fun _ _ _ _ => rfl⟩
  · exact ⟨0, fun _ _ _ _ => rfl⟩
theorem readT_area {ns : List Nat} {b : Nat} (h : ns[10]? = some b) (hb : 1 < b) : readT ns = none := by
  unfold readT
  rw [if_neg]
  rintro ⟨e, _⟩
  obtain ⟨hl, hg⟩ := List.getElem?_eq_some_iff.mp h
  have : (ns.take 11).drop 10 = [b] := by
    rw [List.take_succ_eq_append_getElem hl, List.drop_append_of_le_length (by rw [List.length_take]; omega), List.drop_eq_nil_of_le (by rw [List.length_take]; omega), hg]
    rfl
  unfold tn1 at e
  rw [this] at e
  have e' : 0 * 256 + b ≤ 1 := e
  omega
end R
set_option Elab.async false
set_option linter.all false
set_option maxRecDepth 100000
set_option maxHeartbeats 4000000
namespace R
open PySem PySem.Spec L2
open Evl (Ex)
def topS (i : Nat) : Stmt := PySem.Challenge.pw_rotward_k03_log_blocks_and_tails.main.body.getD i (.Pass ⟨0, 0, 0, 0⟩)
abbrev s_area_size : Stmt := topS 6
theorem sc_area_size : FnScope ["sectors"] ["sectors"] (defScope s_area_size) := ⟨rfl, rfl, rfl, by decide +kernel, rfl, by decide +kernel, by decide +kernel⟩
abbrev s_area_start : Stmt := topS 7
theorem sc_area_start : FnScope ["sectors", "area"] ["sectors", "area"] (defScope s_area_start) := ⟨rfl, rfl, rfl, by decide +kernel, rfl, by decide +kernel, by decide +kernel⟩
abbrev s_region_start : Stmt := topS 8
theorem sc_region_start : FnScope ["sectors"] ["sectors"] (defScope s_region_start) := ⟨rfl, rfl, rfl, by decide +kernel, rfl, by decide +kernel, by decide +kernel⟩
abbrev s_stripe_count : Stmt := topS 9
theorem sc_stripe_count : FnScope ["sectors"] ["sectors"] (defScope s_stripe_count) := ⟨rfl, rfl, rfl, by decide +kernel, rfl, by decide +kernel, by decide +kernel⟩
abbrev s_fixed : Stmt := topS 10
theorem sc_fixed : FnScope ["number", "width", "place"] ["number", "width"] (defScope s_fixed) := ⟨rfl, rfl, rfl, by decide +kernel, rfl, by decide +kernel, by decide +kernel⟩
abbrev s_number_of : Stmt := topS 11
theorem sc_number_of : FnScope ["data", "number", "byte"] ["data"] (defScope s_number_of) := ⟨rfl, rfl, rfl, by decide +kernel, rfl, by decide +kernel, by decide +kernel⟩
abbrev s_log_block : Stmt := topS 12
theorem sc_log_block : FnScope ["data", "whole", "at"] ["data"] (defScope s_log_block) := ⟨rfl, rfl, rfl, by decide +kernel, rfl, by decide +kernel, by decide +kernel⟩
abbrev s_read_block : Stmt := topS 13
theorem sc_read_block : FnScope ["sectors", "start", "end", "behind", "whole", "sector"] ["sectors", "start"] (defScope s_read_block) := ⟨rfl, rfl, rfl, by decide +kernel, rfl, by decide +kernel, by decide +kernel⟩
abbrev s_tail : Stmt := topS 14
theorem sc_tail : FnScope ["commits", "area", "image", "counting", "sector", "number", "width"] ["commits", "area", "image", "counting"] (defScope s_tail) := ⟨rfl, rfl, rfl, by decide +kernel, rfl, by decide +kernel, by decide +kernel⟩
abbrev s_read_tail : Stmt := topS 15
theorem sc_read_tail : FnScope ["sector", "numbers", "at", "width", "commits", "area", "image", "counting"] ["sector"] (defScope s_read_tail) := ⟨rfl, rfl, rfl, by decide +kernel, rfl, by decide +kernel, by decide +kernel⟩
structure Mg (mg : Str → Option Value) : Prop where
  n_int : mg "int" = none
  n_len : mg "len" = none
  n_list : mg "list" = none
  n_min : mg "min" = none
  n_range : mg "range" = none
  n_reversed : mg "reversed" = none
  n_zip : mg "zip" = none
  c_HEAD : ∃ t, mg "HEAD" = some (.int 4 t)
  c_SECTOR : ∃ t, mg "SECTOR" = some (.int 32 t)
  c_TAILS : ∃ t, mg "TAILS" = some (.int 2 t)
local macro_rules | `(tactic| walk_at "ne") => `(tactic| (first | assumption | (apply Ne.symm; assumption) | (apply ne_fresh; (· assumption); (· walk_at "look")) | (apply Ne.symm; apply ne_fresh; (· assumption); (· walk_at "look"))))
local macro_rules | `(tactic| walk_at "look") => `(tactic| (first | assumption | exact upd_same | (refine (upd_ne ?_).trans ?_; (· walk_at "ne"); (· walk_at "look")) | (refine exAt (by assumption) ?_; walk_at "look")))
local macro_rules | `(tactic| walk_at "side") => `(tactic| (first | (exact Or.inl ⟨by omega, by omega⟩) | (exact Or.inr ⟨by omega, by omega⟩) | (show (0:Int) < _; omega) | (show (0:Int) ≤ _; omega) | (exact ⟨by omega, by omega⟩) | (exact ⟨by decide, by decide, by decide⟩)))
local macro_rules | `(tactic| walk_at "go") => `(tactic| (repeat (first | (with_reducible refine iSeq ?_) | (with_reducible refine iAsg ?_) | ((with_reducible apply iName); (· repeat constructor)) | ((with_reducible apply iVar); (· rfl)) | (with_reducible refine iC ?_) | (with_reducible refine iOp ?_) | (with_reducible refine iI0 ?_) | (with_reducible refine iCons ?_) | (with_reducible refine iNil ?_) | (with_reducible refine iCB ?_) | (with_reducible refine iIfS ?_) | (with_reducible refine iTest ?_) | (with_reducible refine iBl ?_) | (with_reducible refine iRet ?_) | (with_reducible refine iNext ?_) | (with_reducible refine iDrop ?_) | (with_reducible refine iEqI ?_) | (with_reducible refine iNeI ?_) | (with_reducible refine iInt ?_) | (with_reducible refine iFor ?_) | (with_reducible refine iRng ?_) | (with_reducible refine iCal ?_) | (with_reducible refine iAnd ?_) | (with_reducible refine iOr ?_) | (with_reducible refine iNot ?_) | (with_reducible refine iB ?_) | (with_reducible refine iIf ?_) | (with_reducible refine iChain ?_) | (with_reducible refine iUn ?_) | (with_reducible refine iU ?_) | (with_reducible refine iRetN ?_) | (with_reducible refine iIsN ?_) | (with_reducible refine iNotN ?_) | (with_reducible refine iTruI ?_) | (with_reducible refine ifNDr ?_) | (with_reducible refine ifDr ?_) | (with_reducible refine iCalE ?_) | (with_reducible refine iMet ?_) | (with_reducible refine iMak ?_) | (with_reducible refine iFld ?_) | (with_reducible refine iSto ?_) | (with_reducible refine iAugF ?_) | (with_reducible refine iBM ?_) | (with_reducible refine iRev1 ?_) | (with_reducible refine iRai ?_) | (with_reducible refine iPr ?_) | (with_reducible refine iPn ?_) | (with_reducible refine iIntB ?_) | (with_reducible refine iIsB ?_) | (with_reducible refine iNotBl ?_) | (with_reducible refine iDGet1 ?_) | (with_reducible refine iAndV ?_) | (with_reducible refine iOrV ?_) | (with_reducible refine iNotV ?_) | (with_reducible refine iAugS ?_) | (with_reducible refine iIpI ?_) | (with_reducible refine iSub ?_) | (with_reducible refine iLst ?_) | (with_reducible refine iTup ?_) | (with_reducible refine iIterL ?_) | (with_reducible refine iBreak ?_) | (with_reducible refine iCont ?_) | (with_reducible refine iEqB ?_) | (with_reducible refine iNeB ?_) | (with_reducible refine iEqS ?_) | (with_reducible refine iNeS ?_) | (with_reducible refine iLc ?_) | (with_reducible refine iYes ?_) | (with_reducible refine iDGet ?_) | (with_reducible refine iDIn ?_) | (with_reducible refine iDNotIn ?_) | (with_reducible refine iDPut ?_) | (with_reducible refine iRng2 ?_) | (with_reducible refine iZipK ?_) | (with_reducible refine iGCons ?_) | (with_reducible refine iGNil ?_) | (with_reducible refine iDEa ?_) | (with_reducible refine iSl ?_) | (with_reducible refine iPart ?_) | (with_reducible refine iPartI ?_) | (with_reducible refine iNoPart ?_) | (with_reducible refine iRv ?_) | (with_reducible refine iRg3 ?_) | (with_reducible refine iZA ?_) | ((with_reducible apply iRngI); (· first | decide | omega); (· first | decide | omega)) | ((with_reducible apply iAugK); (· rfl)) | ((with_reducible apply iI); rotate_left; (· (first | (exact Or.inl ⟨by omega, by omega⟩) | (exact Or.inr ⟨by omega, by omega⟩) | (show (0:Int) < _; omega) | (show (0:Int) ≤ _; omega) | (exact ⟨by omega, by omega⟩) | (exact ⟨by decide, by decide, by decide⟩)))) | ((with_reducible apply iIxL); (· walk_at "look"); (· rfl)) | ((with_reducible apply iLenL); (· walk_at "look")) | ((with_reducible apply iSetL); (· walk_at "look"); (· rfl)) | ((with_reducible apply iIxT); (· walk_at "look"); (· rfl)) | ((with_reducible apply iIsi); (· first | exact tyN_int | exact tyN_bl | exact tyN_non | exact tyN_str | exact tyN_lst (by walk_at "look") | exact tyN_tup (by walk_at "look")); (· (first | exact kb_NoneType_bool | exact kb_NoneType_int | exact kb_NoneType_str | exact kb_NoneType_tuple | exact kb_NoneType_list | exact kb_bool_bool | exact kb_bool_int | exact kb_bool_str | exact kb_bool_tuple | exact kb_bool_list | exact kb_int_bool | exact kb_int_int | exact kb_int_str | exact kb_int_tuple | exact kb_int_list | exact kb_str_bool | exact kb_str_int | exact kb_str_str | exact kb_str_tuple | exact kb_str_list | exact kb_tuple_bool | exact kb_tuple_int | exact kb_tuple_str | exact kb_tuple_tuple | exact kb_tuple_list | exact kb_list_bool | exact kb_list_int | exact kb_list_str | exact kb_list_tuple | exact kb_list_list))) | ((with_reducible apply iLenT); (· walk_at "look")) | ((with_reducible apply iLenS); (· first | exact Or.inl (by walk_at "look") | exact Or.inr (by walk_at "look"))) | ((with_reducible apply ifT); (· rfl)) | ((with_reducible apply ifF); (· rfl)) | ((with_reducible apply ifT); (· apply decide_eq_true; omega)) | ((with_reducible apply ifF); (· apply decide_eq_false; omega)) | ((with_reducible apply ifNp); (· omega)) | ((with_reducible apply ifNn); (· omega)) | ((with_reducible apply iLcB); (· rfl)) | ((with_reducible apply iGTup); (· walk_at "look"); (· rfl)) | ((with_reducible apply iDIi); (· walk_at "look")) | ((with_reducible apply iDNi); (· walk_at "look")) | ((with_reducible apply iRng2I); (· omega); (· omega); (· omega); (· omega)) | ((with_reducible apply iItL); (· walk_at "look")) | ((with_reducible apply iZL); (· walk_at "look"); (· walk_at "look")))))
section
variable {P : Program} {w : World} {K : PySem.W.Frag} {mg : Str → Option Value} {base : Heap}
/-! ### the parts of a disk -/
def sp_area_size : Sp := fun vs H Q _ => ∃ m : Int, vs = [.int m] ∧ Q (.int ((m - 2) / 4)) H
theorem ok_area_size (M : Mg mg) {f : Addr} {fd : FuncData} (F : Fun K "area_size" "area_size" s_area_size f fd) : FnOk P w K mg base CX0 1 f fd ["sectors"] sp_area_size := by
  refine F.ok sc_area_size (fun vs H Q E h => ?_) (fun cdv A outer s H vs Q E hr h => ?_)
  · obtain ⟨m, rfl, _⟩ := h; rfl
  · obtain ⟨m, rfl, q⟩ := h
    refine ⟨_, (pss_one (ps_ret (pe_op op_fdiv (pe_op op_sub (pv 0) (pe_globC (by rfl) M.c_TAILS)) pe_int))), ?_⟩
    refine iBody (by repeat constructor) ?_
    walk_at "go"
    exact q
def sp_area_start : Sp := fun vs H Q _ => ∃ m a : Int, vs = [.int m, .int a] ∧ 0 ≤ a ∧ a < 1000 ∧ Q (.int (2 + a * ((m - 2) / 4))) H
theorem ok_area_start (M : Mg mg) {f : Addr} {fd : FuncData} (F : Fun K "area_start" "area_start" s_area_start f fd) (c_area_size : Cal P w K mg base 1 "area_size" ["sectors"] sp_area_size) : FnOk P w K mg base CX0 2 f fd ["sectors", "area"] sp_area_start := by
  refine F.ok sc_area_start (fun vs H Q E h => ?_) (fun cdv A outer s H vs Q E hr h => ?_)
  · obtain ⟨m, a, rfl, _⟩ := h; rfl
  · obtain ⟨m, a, rfl, a0, a1, q⟩ := h
    refine ⟨_, (pss_one (ps_ret (pe_op op_add (pe_globC (by rfl) M.c_TAILS) (pe_op op_mul (pv 1) (pe_cal c_area_size (hr.mono (by omega)) (by rfl) (pa_cons (pv 0) pa_nil)))))), ?_⟩
    refine iBody (by repeat constructor) ?_
    walk_at "go"
    refine ⟨_, rfl, ?_⟩
    walk_at "go"
    exact q
def sp_region_start : Sp := fun vs H Q _ => ∃ m : Int, vs = [.int m] ∧ Q (.int (2 + 2 * ((m - 2) / 4))) H
theorem ok_region_start (M : Mg mg) {f : Addr} {fd : FuncData} (F : Fun K "region_start" "region_start" s_region_start f fd) (c_area_start : Cal P w K mg base 2 "area_start" ["sectors", "area"] sp_area_start) : FnOk P w K mg base CX0 3 f fd ["sectors"] sp_region_start := by
  refine F.ok sc_region_start (fun vs H Q E h => ?_) (fun cdv A outer s H vs Q E hr h => ?_)
  · obtain ⟨m, rfl, _⟩ := h; rfl
  · obtain ⟨m, rfl, q⟩ := h
    refine ⟨_, (pss_one (ps_ret (pe_cal c_area_start (hr.mono (by omega)) (by rfl) (pa_cons (pv 0) (pa_cons pe_int pa_nil))))), ?_⟩
    refine iBody (by repeat constructor) ?_
    walk_at "go"
    refine ⟨_, _, rfl, by decide, by decide, ?_⟩
    walk_at "go"
    exact q
def sp_stripe_count : Sp := fun vs H Q _ => ∃ m : Int, vs = [.int m] ∧ Q (.int (m - (2 + 2 * ((m - 2) / 4)))) H
theorem ok_stripe_count (M : Mg mg) {f : Addr} {fd : FuncData} (F : Fun K "stripe_count" "stripe_count" s_stripe_count f fd) (c_region_start : Cal P w K mg base 3 "region_start" ["sectors"] sp_region_start) : FnOk P w K mg base CX0 4 f fd ["sectors"] sp_stripe_count := by
  refine F.ok sc_stripe_count (fun vs H Q E h => ?_) (fun cdv A outer s H vs Q E hr h => ?_)
  · obtain ⟨m, rfl, _⟩ := h; rfl
  · obtain ⟨m, rfl, q⟩ := h
    refine ⟨_, (pss_one (ps_ret (pe_op op_sub (pv 0) (pe_cal c_region_start (hr.mono (by omega)) (by rfl) (pa_cons (pv 0) pa_nil))))), ?_⟩
    refine iBody (by repeat constructor) ?_
    walk_at "go"
    refine ⟨_, rfl, ?_⟩
    walk_at "go"
    exact q
/-! ### numbers in bytes -/
theorem NewL.of {H : Hp} {Q : VK} {ns : List Nat} (q : NewD H Q (nD ns)) : NewL H Q (nL ns) := fun p H' hp e h => q (.ref p) H' e (nL_at (dif_of hp h))
theorem shr_and (n k : Nat) : Builtin.bitAnd ((n : Int) / 2 ^ (8 * (k : Int)).toNat) 255 = ((n / 256 ^ k % 256 : Nat) : Int) := by
  have e0 : (8 * (k : Int)).toNat = 8 * k := by omega
  have e1 : (2 : Int) ^ (8 * k) = ((256 ^ k : Nat) : Int) := by
    rw [Int.pow_mul]; push_cast; rfl
  rw [e0, e1, ← Int.natCast_ediv, show (255 : Int) = ((2 ^ 8 - 1 : Nat) : Int) from rfl, PySem.W.os_band, Nat.and_two_pow_sub_one_eq_mod]
def sp_fixed : Sp := fun vs H Q _ => ∃ n w : Nat, vs = [.int n, .int w] ∧ w ≤ 8 ∧ NewD H Q (nD (fx n w))
theorem ok_fixed (M : Mg mg) {f : Addr} {fd : FuncData} (F : Fun K "fixed" "fixed" s_fixed f fd) : FnOk P w K mg base CX0 1 f fd ["number", "width"] sp_fixed := by
  refine F.ok sc_fixed (fun vs H Q E h => ?_) (fun cdv A outer s H vs Q E hr h => ?_)
  · obtain ⟨n, w, rfl, _⟩ := h; rfl
  · obtain ⟨n, w, rfl, hw, q⟩ := h
    refine ⟨_, (pss_one (ps_ret (pe_lc (own := [("place", 2)]) (g := (gName 2)) (tt := tYes) (by rfl) sc_fixed.nd (pi_revR (by rfl) M.n_reversed (prg_1 (by rfl) M.n_range (pv 1))) (blkOk_by (own := [("place", 2)]) (N := ["number", "width", "place"]) (sc := defScope s_fixed) (by decide +kernel)) (fun _ _ _ _ _ => (pg_name (i := 2) sc_fixed.nd rfl (Or.inl rfl))) (fun _ _ _ _ _ => pts_nil) (fun _ _ _ _ _ => (pe_op op_and (pe_op op_shr (pv 0) (pe_op op_mul pe_int (pv 2))) pe_int))))), ?_⟩
    refine iBody (by repeat constructor) ?_
    walk_at "go"
    refine iRvI (n := w) (by omega) ?_
    refine lcF_rc (fun i => V.int ((n / 256 ^ (w - 1 - i) % 256 : Nat) : Int)) (by repeat constructor) (fun D i H1 hD hi hacc e1 => ?_) (fun D H1 hD e1 hacc => ?_)
    · rw [show ((w : Int) - 1 + (i : Int) * (-1)) = ((w - 1 - i : Nat) : Int) by omega]
      walk_at "go"
      refine iLcF hD (by omega) e1 hacc ?_
      exact congrArg V.int (shr_and n (w - 1 - i))
    · walk_at "go"
      refine NewL.of q D H1 hD e1 ?_
      rw [hacc]
      unfold nL fx
      rw [List.map_map]
      rfl
def sp_number_of : Sp := fun vs H Q _ => ∃ (p : Addr) (ns : List Nat), vs = [.ref p] ∧ H p = some (.lst (nL ns)) ∧ Q (.int (numA 0 ns : Nat)) H
theorem ok_number_of (M : Mg mg) {f : Addr} {fd : FuncData} (F : Fun K "number_of" "number_of" s_number_of f fd) : FnOk P w K mg base CX0 1 f fd ["data"] sp_number_of := by
  refine F.ok sc_number_of (fun vs H Q E h => ?_) (fun cdv A outer s H vs Q E hr h => ?_)
  · obtain ⟨p, ns, rfl, _⟩ := h; rfl
  · obtain ⟨p, ns, rfl, hp, q⟩ := h
    refine ⟨_, (pss_cons (ps_set (i := 1) sc_number_of.nd rfl (Or.inl rfl) pe_int) (pss_cons (ps_for PassesOwn.never rfl (pi_l (pv 0)) (pg_name (i := 2) sc_number_of.nd rfl (Or.inl rfl)) (pss_one (ps_set (i := 1) sc_number_of.nd rfl (Or.inl rfl) (pe_op op_add (pe_op op_mul (pv 1) pe_int) (pv 2))))) (pss_one (ps_ret (pv 1))))), ?_⟩
    refine iBody (by repeat constructor) ?_
    walk_at "go"
    refine forJ_list (nL ns) (fun i σ' H' => (∃ u, σ' = [some (.ref p), some (.int (numA 0 (ns.take i) : Nat)), u]) ∧ H' = H) ⟨⟨none, rfl⟩, rfl⟩ (fun i σ' H' _ h => h.2 ▸ hp) (fun i x σ' H' hx h => ?_) (fun σ' H' h => ?_)
    · obtain ⟨⟨u, rfl⟩, rfl⟩ := h
      obtain ⟨n, hn, rfl⟩ := nL_get hx
      walk_at "go"
      refine ⟨⟨some (.int (n : Int)), ?_⟩, rfl⟩
      obtain ⟨hi, rfl⟩ := List.getElem?_eq_some_iff.mp hn
      rw [List.take_succ_eq_append_getElem hi, numA_snoc]
      rfl
    · obtain ⟨⟨u, rfl⟩, rfl⟩ := h
      rw [nL_len, List.take_of_length_le (Nat.le_refl _)]
      walk_at "go"
      exact q
/-! ### log blocks -/
def ChR (xs : List Nat) (i : Nat) (acc : List V) (H : Hp) : Prop := AtAll H acc (((List.range i).map (chunk xs)).map nD)
def sp_log_block : Sp := fun vs H Q _ => ∃ (p : Addr) (ns : List Nat), vs = [.ref p] ∧ H p = some (.lst (nL ns)) ∧ ns.length ≤ 50000 ∧ NewD H Q (sD (blk ns))
theorem ok_log_block (M : Mg mg) {f : Addr} {fd : FuncData} (F : Fun K "log_block" "log_block" s_log_block f fd) (c_fixed : Cal P w K mg base 1 "fixed" ["number", "width"] sp_fixed) : FnOk P w K mg base CX0 2 f fd ["data"] sp_log_block := by
  refine F.ok sc_log_block (fun vs H Q E h => ?_) (fun cdv A outer s H vs Q E hr h => ?_)
  · obtain ⟨p, ns, rfl, _⟩ := h; rfl
  · obtain ⟨p, ns, rfl, hp, hl, q⟩ := h
    refine ⟨_, (pss_cons (ps_set (i := 1) sc_log_block.nd rfl (Or.inr rfl) (pe_op op_cat (pe_cal c_fixed (hr.mono (by omega)) (by rfl) (pa_cons (pe_callB len_l (by rfl) M.n_len PySem.boot_len (pa_cons (pv 0) pa_nil)) (pa_cons (pe_globC (by rfl) M.c_HEAD) pa_nil))) (pe_callTy list_l (by rfl) M.n_list (by decide +kernel) (pa_cons (pv 0) pa_nil)))) (pss_cons (ps_set (i := 1) sc_log_block.nd rfl (Or.inr rfl) (pe_op op_cat (pv 1) (pe_op op_rep (pe_lst (pa_cons pe_int pa_nil)) (pe_op op_mod (pe_un un_neg (pe_callB len_l (by rfl) M.n_len PySem.boot_len (pa_cons (pv 1) pa_nil))) (pe_globC (by rfl) M.c_SECTOR))))) (pss_one (ps_ret (pe_lc (own := [("at", 2)]) (g := (gName 2)) (tt := tYes) (by rfl) sc_log_block.nd (pi_range3 (by rfl) M.n_range (pa_cons pe_int (pa_cons (pe_callB len_l (by rfl) M.n_len PySem.boot_len (pa_cons (pv 1) pa_nil)) (pa_cons (pe_globC (by rfl) M.c_SECTOR) pa_nil)))) (blkOk_by (own := [("at", 2)]) (N := ["data", "whole", "at"]) (sc := defScope s_log_block) (by decide +kernel)) (fun _ _ _ _ _ => (pg_name (i := 2) sc_log_block.nd rfl (Or.inl rfl))) (fun _ _ _ _ _ => pts_nil) (fun _ _ _ _ _ => (pe_slice sl_l (pv 1) (po_some (pv 2)) (po_some (pe_op op_add (pv 2) (pe_globC (by rfl) M.c_SECTOR)))))))))), ?_⟩
    refine iBody (by repeat constructor) ?_
    walk_at "go"
    rw [nL_len]
    refine ⟨_, 4, rfl, by decide, fun v H1 e1 a1 => ?_⟩
    obtain ⟨v1, rfl, h1⟩ := a1.nw.nL
    walk_at "go"
    refine iListL (e1 _ _ hp) fun l hl2 => ?_
    walk_at "go"
    refine iCat ((upd_ne (ne_of_none h1 hl2)).trans h1) upd_same (by rw [nL_len, nL_len, fx_len]; omega) fun w1 hw1 => ?_
    rw [← nL_app]
    have x2 : Ex H (upd (upd H1 l (.lst (nL ns))) w1 (.lst (nL (fx ns.length 4 ++ ns)))) := e1.trans ((Ex.new hl2).trans (Ex.new hw1))
    generalize hH2 : upd (upd H1 l (.lst (nL ns))) w1 (.lst (nL (fx ns.length 4 ++ ns))) = H2 at x2 ⊢
    have hw : H2 w1 = some (.lst (nL (fx ns.length 4 ++ ns))) := by rw [← hH2]; exact upd_same
    walk_at "go"
    refine iNewL (by simp) fun z hz => ?_
    walk_at "go"
    have epad : (-(((nL (fx ns.length 4 ++ ns)).length : Nat) : Int)) % 32 = ((padN (4 + ns.length) : Nat) : Int) := by
      rw [nL_len, List.length_append, fx_len]
      unfold padN
      omega
    rw [epad]
    refine iRep upd_same (by omega) (by unfold padN; omega) (by unfold padN; simp; omega) fun r hr2 => ?_
    rw [Int.toNat_natCast, show V.int 0 = V.int ((0 : Nat) : Int) from rfl, nL_rep]
    refine iCat ((upd_ne (ne_of_none ((upd_ne (ne_of_none hw hz)).trans hw) hr2)).trans ((upd_ne (ne_of_none hw hz)).trans hw)) upd_same (by rw [nL_len, nL_len, List.length_append, fx_len, List.length_replicate]; unfold padN; omega) fun w2 hw2 => ?_
    rw [← nL_app, show fx ns.length 4 ++ ns ++ List.replicate (padN (4 + ns.length)) 0 = wholeOf ns from rfl]
    have x3 : Ex H (upd (upd (upd H2 z (.lst [V.int ((0 : Nat) : Int)])) r (.lst (nL (List.replicate (padN (4 + ns.length)) 0)))) w2 (.lst (nL (wholeOf ns)))) := x2.trans ((Ex.new hz).trans ((Ex.new hr2).trans (Ex.new hw2)))
    generalize hH3 : upd (upd (upd H2 z (.lst [V.int ((0 : Nat) : Int)])) r (.lst (nL (List.replicate (padN (4 + ns.length)) 0)))) w2 (.lst (nL (wholeOf ns))) = H3 at x3 ⊢
    have hw3 : H3 w2 = some (.lst (nL (wholeOf ns))) := by rw [← hH3]; exact upd_same
    walk_at "go"
    rw [nL_len]
    have hwl := wholeOf_len ns
    refine iRg3I (rgUp32 (by omega)) ?_
    have en : ((wholeOf ns).length + 31) / 32 = (wholeOf ns).length / 32 := by omega
    rw [en]
    refine lcR_rc (lo := (0 : Int)) (c := 32) (fun i acc H => ChR (wholeOf ns) i acc (dif H3 H)) (by repeat constructor) (fun i acc H H' e h => h.ex (dif_mono e)) .nil (fun D i acc H4 hD hi hacc hl4 e4 r => ?_) (fun D acc H4 hD e4 hacc r => ?_)
    · walk_at "go"
      walk_at "go"
      refine iSlL (e4 _ _ hw3) fun y hy => ?_
      have e5 : (0 : Int) + (i : Int) * 32 = ((32 * i : Nat) : Int) := by omega
      have e6 : ((32 * i : Nat) : Int) + 32 = ((32 * i + 32 : Nat) : Int) := by omega
      rw [e5, e6, cut_ft, nL_take, nL_drop, show ((wholeOf ns).take (32 * i + 32)).drop (32 * i) = chunk (wholeOf ns) i from rfl]
      have nD' : D ≠ y := ne_of_none hacc hy
      refine iLcR hD (by omega) hl4 (e4.trans (Ex.new hy)) ((upd_ne nD').trans hacc) ?_
      show ChR _ _ _ _
      unfold ChR
      rw [List.range_succ, List.map_append, List.map_append]
      refine (AtAll.ex (dif_mono (mk_mono (Ex.new hy))) _ r).append (.one (nL_at ?_))
      refine dif_of (back_none e4 hy) ?_
      rw [mk_at nD'.symm]
      exact upd_same
    · walk_at "go"
      refine q (.ref D) H4 (x3.trans e4) ?_
      refine .lst (dif_of (back_none x3 hD) hacc) (AtAll.ex (dif_back x3) _ r)
/-! ### reading a log block -/
def ResB (H : Hp) (Q : VK) : Option (List Nat × Nat) → Prop
  | none => ∀ H', Ex H H' → Q .non H'
  | some (d, b) => NewD H Q (.tuple [nD d, .int (b : Nat)])
def sp_read_block : Sp := fun vs H Q _ => ∃ (v : V) (S : List (List Nat)) (start : Nat), vs = [v, .int start] ∧ At H v (sD S) ∧ (∀ s ∈ S, s.length = 32) ∧ S.length ≤ 3000 ∧ ResB H Q (readB S start)
theorem flat_snoc (S : List (List Nat)) (i : Nat) {s : List Nat} (h : S[i]? = some s) : (S.take (i + 1)).flatten = (S.take i).flatten ++ s := by
  obtain ⟨hi, rfl⟩ := List.getElem?_eq_some_iff.mp h
  rw [List.take_succ_eq_append_getElem hi, List.flatten_append, List.flatten_cons, List.flatten_nil, List.append_nil]
theorem ok_read_block (M : Mg mg) {f : Addr} {fd : FuncData} (F : Fun K "read_block" "read_block" s_read_block f fd) (c_number_of : Cal P w K mg base 1 "number_of" ["data"] sp_number_of) : FnOk P w K mg base CX0 2 f fd ["sectors", "start"] sp_read_block := by
  refine F.ok sc_read_block (fun vs H Q E h => ?_) (fun cdv A outer s H vs Q E hr h => ?_)
  · obtain ⟨v, S, start, rfl, _⟩ := h; rfl
  · obtain ⟨v, S, start, rfl, hv, h32, hl, q⟩ := h
    obtain ⟨p, vs, rfl, hp, ha⟩ := hv.sec
    have hln := ha.secs
    refine ⟨_, (pss_cons (ps_if (pt_cmpR op_ge (pv 1) (pe_callB len_l (by rfl) M.n_len PySem.boot_len (pa_cons (pv 0) pa_nil)) (nomark _)) (pss_one (ps_ret pe_non)) pss_nil) (pss_cons (ps_set (i := 2) sc_read_block.nd rfl (Or.inl rfl) (pe_op op_add (pe_globC (by rfl) M.c_HEAD) (pe_cal c_number_of (hr.mono (by omega)) (by rfl) (pa_cons (pe_slice sl_l (pe_ix ix_l (pv 0) (pv 1) (fun _ _ => rfl)) po_none (po_some (pe_globC (by rfl) M.c_HEAD))) pa_nil)))) (pss_cons (ps_set (i := 3) sc_read_block.nd rfl (Or.inl rfl) (pe_op op_add (pv 1) (pe_op op_fdiv (pe_op op_sub (pe_op op_add (pv 2) (pe_globC (by rfl) M.c_SECTOR)) pe_int) (pe_globC (by rfl) M.c_SECTOR)))) (pss_cons (ps_if (pt_cmpR op_gt (pv 3) (pe_callB len_l (by rfl) M.n_len PySem.boot_len (pa_cons (pv 0) pa_nil)) (nomark _)) (pss_one (ps_ret pe_non)) pss_nil) (pss_cons (ps_set (i := 4) sc_read_block.nd rfl (Or.inl rfl) (pe_lst pa_nil)) (pss_cons (ps_for PassesOwn.never rfl (pi_l (pe_slice sl_l (pv 0) (po_some (pv 1)) (po_some (pv 3)))) (pg_name (i := 5) sc_read_block.nd rfl (Or.inl rfl)) (pss_one (ps_expr (pe_mt PySem.F.slot_list_extend PySem.F.type_list_extend mt_extend (pv 4) (pa_cons (pv 5) pa_nil))))) (pss_one (ps_ret (pe_tup (pa_cons (pe_slice sl_l (pv 4) (po_some (pe_globC (by rfl) M.c_HEAD)) (po_some (pv 2))) (pa_cons (pv 3) pa_nil))))))))))), ?_⟩
    refine iBody (by repeat constructor) ?_
    walk_at "go"
    refine ifD (fun h => ?_) (fun h => ?_)
    · rw [readB_none (by omega)] at q
      walk_at "go"
      exact q H (Ex.rfl' _)
    · have hst : start < S.length := by omega
      obtain ⟨s0, hs0⟩ : ∃ s0, S[start]? = some s0 := ⟨_, List.getElem?_eq_getElem hst⟩
      obtain ⟨p0, hp0, hq0⟩ := ha.sec hs0
      walk_at "go"
      refine iIxL hp ((atI_natL vs start).trans hp0) ?_
      walk_at "go"
      refine iSlL hq0 fun y hy => ?_
      rw [show (4 : Int) = ((4 : Nat) : Int) from rfl, cut_to, nL_take]
      walk_at "go"
      refine ⟨y, s0.take 4, rfl, upd_same, ?_⟩
      generalize hn : numA 0 (s0.take 4) = n
      have q' : ResB H Q (if S.length < start + (4 + n + 31) / 32 then none else some ((((S.take (start + (4 + n + 31) / 32)).drop start).flatten.take (4 + n)).drop 4, start + (4 + n + 31) / 32)) := by
        have := q
        unfold readB at this
        rw [hs0] at this
        show ResB H Q _
        rw [← hn]
        exact this
      have x1 : Ex H (upd H y (.lst (nL (s0.take 4)))) := Ex.new hy
      generalize upd H y (.lst (nL (s0.take 4))) = H1 at x1 ⊢
      walk_at "go"
      rw [show (start : Int) + (((4 : Nat) : Int) + (n : Int) + 32 - 1) / 32 = ((start + (4 + n + 31) / 32 : Nat) : Int) by omega, show ((4 : Nat) : Int) + (n : Int) = ((4 + n : Nat) : Int) by omega]
      generalize hb : start + (4 + n + 31) / 32 = b at q' ⊢
      rw [hln]
      refine ifD (fun h2 => ?_) (fun h2 => ?_)
      · rw [if_pos (by omega)] at q'
        walk_at "go"
        exact q' H1 x1
      · rw [if_neg (by omega)] at q'
        have hbl : b ≤ S.length := by omega
        walk_at "go"
        refine iNewL (by simp) fun w0 hw0 => ?_
        walk_at "go"
        refine iSlL ((upd_ne (ne_of_none (x1 _ _ hp) hw0)).trans (x1 _ _ hp)) fun y2 hy2 => ?_
        rw [cut_ft]
        have n1 : w0 ≠ y2 := ne_of_none upd_same hy2
        have hw0' : H w0 = none := back_none x1 hw0
        have a2 := (AtAll.take b ha).drop start
        have x2 : Ex H (upd (upd H1 w0 (.lst [])) y2 (.lst ((vs.take b).drop start))) := x1.trans ((Ex.new hw0).trans (Ex.new hy2))
        have hy20 : H y2 = none := back_none (x1.trans (Ex.new hw0)) hy2
        have hww : (upd (upd H1 w0 (.lst [])) y2 (.lst ((vs.take b).drop start))) w0 = some (.lst []) := (upd_ne n1).trans upd_same
        have hyy : (upd (upd H1 w0 (.lst [])) y2 (.lst ((vs.take b).drop start))) y2 = some (.lst ((vs.take b).drop start)) := upd_same
        generalize upd (upd H1 w0 (.lst [])) y2 (.lst ((vs.take b).drop start)) = H2 at x2 hww hyy ⊢
        refine iItL hyy ?_
        have lnv : ((vs.take b).drop start).length = b - start := by rw [List.length_drop, List.length_take]; omega
        have h32' : ∀ s ∈ (S.take b).drop start, s.length = 32 := fun s hs => h32 s (List.mem_of_mem_take (List.mem_of_mem_drop hs))
        have a2' : AtAll H ((vs.take b).drop start) (((S.take b).drop start).map nD) := by
          rw [List.map_drop, List.map_take]
          exact a2
        refine forJ_list ((vs.take b).drop start) (fun i σ' H' => (∃ u, σ' = [some (.ref p), some (.int start), some (.int ((4 + n : Nat) : Int)), some (.int b), some (.ref w0), u]) ∧ Ex H H' ∧ H' y2 = some (.lst ((vs.take b).drop start)) ∧ H' w0 = some (.lst (nL (((S.take b).drop start).take i).flatten))) ⟨⟨none, rfl⟩, x2, hyy, hww⟩ (fun i σ' H' _ h => h.2.2.1) (fun i x σ' H' hx h => ?_) (fun σ' H' h => ?_)
        · obtain ⟨⟨u, rfl⟩, x3, hy3, hw3⟩ := h
          obtain ⟨ns, pn, hns, rfl, hpn⟩ := a2'.secV hx
          have hpn3 := x3 _ _ hpn
          have hni := (List.getElem?_eq_some_iff.mp hns).1
          have fl : ((((S.take b).drop start).take i).flatten).length = 32 * i := by
            rw [flat_len fun s hs => h32' s (List.mem_of_mem_take hs), List.length_take]
            omega
          have nl := h32' ns (List.mem_of_getElem? hns)
          have hdl : ((S.take b).drop start).length ≤ 3000 := by rw [List.length_drop, List.length_take]; omega
          walk_at "go"
          refine iMt rfl hw3 ?_
          walk_at "go"
          refine iExt hw3 hpn3 (by rw [nL_len, nL_len, fl]; omega) ?_
          walk_at "go"
          refine ⟨⟨_, rfl⟩, ex_upd hw0' x3, (upd_ne n1.symm).trans hy3, ?_⟩
          rw [upd_same, ← nL_app, flat_snoc _ _ hns]
        · obtain ⟨⟨u, rfl⟩, x3, hy3, hw3⟩ := h
          have hdl : ((vs.take b).drop start).length = ((S.take b).drop start).length := by rw [List.length_drop, List.length_take, List.length_drop, List.length_take]; omega
          rw [hdl, List.take_of_length_le (Nat.le_refl _)] at hw3
          walk_at "go"
          refine iSlL hw3 fun y4 hy4 => ?_
          rw [cut_ft, nL_take, nL_drop]
          walk_at "go"
          refine iNewT (by simp) fun t ht => ?_
          have x4 := x3.trans ((Ex.new hy4).trans (Ex.new (p := t) (o := .tup [V.ref y4, V.int b]) ht))
          refine q' (.ref t) _ x4 ?_
          have n4 : y4 ≠ t := ne_of_none upd_same ht
          refine .tup (dif_of (back_none (x3.trans (Ex.new hy4)) ht) upd_same) (.cons (nL_at (dif_of (back_none x3 hy4) ((upd_ne n4).trans upd_same))) (.cons (.int _) .nil))
theorem j_read_block {v : V} {S : List (List Nat)} {start : Nat} {H : Hp} {Q : VK} {E : XK} (h : At H v (sD S)) (h32 : ∀ s ∈ S, s.length = 32) (hl : S.length ≤ 3000) (q : ResB H Q (readB S start)) : sp_read_block [v, .int start] H Q E := ⟨v, S, start, rfl, h, h32, hl, q⟩
/-! ### tails -/
def sp_tail : Sp := fun vs H Q _ => ∃ n a i c : Nat, vs = [.int n, .int a, .int i, .int c] ∧ NewD H Q (nD (tailOf n a i c))
def tl4 (n a i c : Nat) : List (Nat × Nat) := [(n, 6), (a, 1), (i, 4), (c, 4)]
theorem ok_tail (M : Mg mg) {f : Addr} {fd : FuncData} (F : Fun K "tail" "tail" s_tail f fd) (c_fixed : Cal P w K mg base 1 "fixed" ["number", "width"] sp_fixed) (g_SIGN : WTup K mg "SIGN" [.int 70, .int 73, .int 76, .int 69]) (g_WIDTHS : WTup K mg "WIDTHS" [.int 6, .int 1, .int 4, .int 4]) : FnOk P w K mg base CX0 2 f fd ["commits", "area", "image", "counting"] sp_tail := by
  refine F.ok sc_tail (fun vs H Q E h => ?_) (fun cdv A outer s H vs Q E hr h => ?_)
  · obtain ⟨n, a, i, c, rfl, _⟩ := h; rfl
  · obtain ⟨n, a, i, c, rfl, q⟩ := h
    refine ⟨_, (pss_cons (ps_set (i := 4) sc_tail.nd rfl (Or.inl rfl) (pe_callTy call_list_of (by rfl) M.n_list (by decide +kernel) (pa_cons (pe_globW (by rfl) g_SIGN) pa_nil))) (pss_cons (ps_for PassesOwn.never rfl (RZ.pi_zipA (by rfl) M.n_zip (pa_cons (pe_tup (pa_cons (pv 0) (pa_cons (pv 1) (pa_cons (pv 2) (pa_cons (pv 3) pa_nil))))) (pa_cons (pe_globW (by rfl) g_WIDTHS) pa_nil))) (pg_tup (by rfl) (pgs_cons (pg_name (i := 5) sc_tail.nd rfl (Or.inl rfl)) (pgs_cons (pg_name (i := 6) sc_tail.nd rfl (Or.inl rfl)) pgs_nil))) (pss_one (ps_expr (pe_mt PySem.F.slot_list_extend PySem.F.type_list_extend mt_extend (pv 4) (pa_cons (pe_cal c_fixed (hr.mono (by omega)) (by rfl) (pa_cons (pv 5) (pa_cons (pv 6) pa_nil))) pa_nil))))) (pss_one (ps_ret (pe_op op_cat (pv 4) (pe_op op_rep (pe_lst (pa_cons pe_int pa_nil)) (pe_op op_sub (pe_globC (by rfl) M.c_SECTOR) (pe_callB len_l (by rfl) M.n_len PySem.boot_len (pa_cons (pv 4) pa_nil))))))))), ?_⟩
    refine iBody (by repeat constructor) ?_
    walk_at "go"
    refine iW fun sg hsg => ?_
    walk_at "go"
    refine ⟨sg, _, rfl, .inr (hsg _), fun p hp => ?_⟩
    rw [show [V.int 70, V.int 73, V.int 76, V.int 69] = nL signN from rfl]
    walk_at "go"
    refine iNewT (by simp) fun T hT => ?_
    walk_at "go"
    refine iW fun wd hwd => ?_
    walk_at "go"
    have n1 : p ≠ T := ne_of_none upd_same hT
    have hpp : (upd (upd H p (.lst (nL signN))) T (.tup [V.int n, V.int a, V.int i, V.int c])) p = some (.lst (nL signN)) := (upd_ne n1).trans upd_same
    have hTT : (upd (upd H p (.lst (nL signN))) T (.tup [V.int n, V.int a, V.int i, V.int c])) T = some (.tup [V.int n, V.int a, V.int i, V.int c]) := upd_same
    have x1 : Ex H (upd (upd H p (.lst (nL signN))) T (.tup [V.int n, V.int a, V.int i, V.int c])) := (Ex.new hp).trans (Ex.new hT)
    generalize upd (upd H p (.lst (nL signN))) T (.tup [V.int n, V.int a, V.int i, V.int c]) = H1 at hpp hTT x1 ⊢
    refine iZAT (SqT.tr hTT) (hwd _) ?_
    refine forJ_zT (xs := [V.int n, V.int a, V.int i, V.int c]) (ys := [V.int 6, V.int 1, V.int 4, V.int 4]) rfl (fun j σ' H' => (∃ u1 u2, σ' = [some (.int n), some (.int a), some (.int i), some (.int c), some (.ref p), u1, u2]) ∧ Ex H H' ∧ H' T = some (.tup [V.int n, V.int a, V.int i, V.int c]) ∧ H' p = some (.lst (nL (signN ++ ((tl4 n a i c).take j).flatMap fun z => fx z.1 z.2)))) ⟨⟨none, none, rfl⟩, x1, hTT, by simpa using hpp⟩ (fun j σ' H' h => ⟨SqT.tr h.2.2.1, hwd _⟩) (fun j x y Z σ' H' hx hy h hZ => ?_) (fun σ' H' h => ?_)
    · obtain ⟨⟨u1, u2, rfl⟩, x2, hT2, hp2⟩ := h
      obtain ⟨m, wn, hj, rfl, rfl, hw8⟩ : ∃ m wn : Nat, (tl4 n a i c)[j]? = some (m, wn) ∧ x = .int m ∧ y = .int wn ∧ wn ≤ 8 := by
        match j, hx, hy with
        | 0, hx, hy => cases hx; cases hy; exact ⟨n, 6, rfl, rfl, rfl, by decide⟩
        | 1, hx, hy => cases hx; cases hy; exact ⟨a, 1, rfl, rfl, rfl, by decide⟩
        | 2, hx, hy => cases hx; cases hy; exact ⟨i, 4, rfl, rfl, rfl, by decide⟩
        | 3, hx, hy => cases hx; cases hy; exact ⟨c, 4, rfl, rfl, rfl, by decide⟩
        | j + 4, hx, hy => simp at hx
      have nZ : p ≠ Z := ne_of_none hp2 hZ
      have nZ2 : T ≠ Z := ne_of_none hT2 hZ
      walk_at "go"
      refine iMt rfl ((upd_ne nZ).trans hp2) ?_
      walk_at "go"
      refine ⟨m, wn, rfl, hw8, fun v H3 e3 a3 => ?_⟩
      obtain ⟨v1, rfl, h3⟩ := a3.nw.nL
      have hp3 := e3 _ _ ((upd_ne nZ).trans hp2)
      walk_at "go"
      have fl : ∀ L : List (Nat × Nat), (∀ z ∈ L, z.2 ≤ 6) → (L.flatMap fun z => fx z.1 z.2).length ≤ 6 * L.length := by
        intro L hL
        induction L with
        | nil => simp
        | cons z L ih =>
          rw [List.flatMap_cons, List.length_append, fx_len, List.length_cons]
          have := ih fun y hy => hL y (List.mem_cons_of_mem _ hy)
          have := hL z (List.mem_cons_self ..)
          omega
      have fl2 := fl ((tl4 n a i c).take j) (fun z hz => by
        have := List.mem_of_mem_take hz
        simp only [tl4, List.mem_cons, List.not_mem_nil, or_false] at this
        rcases this with rfl | rfl | rfl | rfl <;> simp)
      have fl3 : ((tl4 n a i c).take j).length ≤ 4 := by rw [List.length_take]; exact Nat.min_le_right _ _
      refine iExt hp3 h3 (by rw [nL_len, nL_len, fx_len, List.length_append, show signN.length = 4 from rfl]; omega) ?_
      walk_at "go"
      refine ⟨⟨_, _, rfl⟩, ex_upd hp (x2.trans ((Ex.new hZ).trans e3)), (upd_ne n1.symm).trans (e3 _ _ ((upd_ne nZ2).trans hT2)), ?_⟩
      rw [upd_same, ← nL_app, List.append_assoc]
      obtain ⟨hj2, hj3⟩ := List.getElem?_eq_some_iff.mp hj
      rw [List.take_succ_eq_append_getElem hj2, List.flatMap_append, hj3, List.flatMap_singleton]
    · obtain ⟨⟨u1, u2, rfl⟩, x2, hT2, hp2⟩ := h
      have e4 : (tl4 n a i c).take 4 = tl4 n a i c := rfl
      have hp2 : H' p = some (.lst (nL (signN ++ (tl4 n a i c).flatMap fun z => fx z.1 z.2))) := hp2
      walk_at "go"
      refine iNewL (by simp) fun z hz => ?_
      have nz : p ≠ z := ne_of_none hp2 hz
      walk_at "go"
      have ez : (32 : Int) - (((nL (signN ++ (tl4 n a i c).flatMap fun z => fx z.1 z.2)).length : Nat) : Int) = 13 := by
        rw [nL_len]
        rfl
      rw [ez]
      refine iRep upd_same (by decide) (by decide) (by decide) fun r hr2 => ?_
      have nr : p ≠ r := ne_of_none ((upd_ne nz).trans hp2) hr2
      rw [show V.int 0 = V.int ((0 : Nat) : Int) from rfl, nL_rep]
      refine iCat ((upd_ne nr).trans ((upd_ne nz).trans hp2)) upd_same (by rw [nL_len, nL_len]; exact Nat.le_of_ble_eq_true rfl) fun w2 hw2 => ?_
      rw [← nL_app]
      refine NewL.of q w2 _ (back_none (x2.trans ((Ex.new hz).trans (Ex.new hr2))) hw2) (x2.trans ((Ex.new hz).trans ((Ex.new hr2).trans (Ex.new hw2)))) ?_
      rw [upd_same]
      rfl
theorem j_tail {n a i c : Nat} {H : Hp} {Q : VK} {E : XK} (q : NewD H Q (nD (tailOf n a i c))) : sp_tail [.int n, .int a, .int i, .int c] H Q E := ⟨n, a, i, c, rfl, q⟩
def tD (t : Nat × Nat × Nat × Nat) : PyData := .tuple [.int (t.1 : Nat), .int (t.2.1 : Nat), .int (t.2.2.1 : Nat), .int (t.2.2.2 : Nat)]
def ResT (H : Hp) (Q : VK) : Option (Nat × Nat × Nat × Nat) → Prop
  | none => ∀ H', Ex H H' → Q .non H'
  | some t => NewD H Q (tD t)
def sp_read_tail : Sp := fun vs H Q _ => (vs = [.non] ∧ Q .non H) ∨ ∃ (p : Addr) (ns : List Nat), vs = [.ref p] ∧ H p = some (.lst (nL ns)) ∧ ResT H Q (readT ns)
def wids : List Nat := [6, 1, 4, 4]
def tnL (ns : List Nat) : List Nat := [tn0 ns, tn1 ns, tn2 ns, tn3 ns]
def tAt : Nat → Nat
  | 0 => 4 | 1 => 10 | 2 => 11 | 3 => 15 | _ => 19
theorem tnL_at (ns : List Nat) : ∀ {i wn : Nat}, wids[i]? = some wn → tAt (i + 1) = tAt i + wn ∧ (tnL ns)[i]? = some (numA 0 ((ns.take (tAt (i + 1))).drop (tAt i)))
  | 0, _, h => by cases h; exact ⟨rfl, rfl⟩
  | 1, _, h => by cases h; exact ⟨rfl, rfl⟩
  | 2, _, h => by cases h; exact ⟨rfl, rfl⟩
  | 3, _, h => by cases h; exact ⟨rfl, rfl⟩
  | i + 4, _, h => by simp [wids] at h
theorem ok_read_tail (M : Mg mg) {f : Addr} {fd : FuncData} (F : Fun K "read_tail" "read_tail" s_read_tail f fd) (c_number_of : Cal P w K mg base 1 "number_of" ["data"] sp_number_of) (c_tail : Cal P w K mg base 2 "tail" ["commits", "area", "image", "counting"] sp_tail) (g_SIGN : WTup K mg "SIGN" [.int 70, .int 73, .int 76, .int 69]) (g_WIDTHS : WTup K mg "WIDTHS" [.int 6, .int 1, .int 4, .int 4]) : FnOk P w K mg base CX0 3 f fd ["sector"] sp_read_tail := by
  refine F.ok sc_read_tail (fun vs H Q E h => ?_) (fun cdv A outer s H vs Q E hr h => ?_)
  · rcases h with ⟨rfl, _⟩ | ⟨p, ns, rfl, _⟩ <;> rfl
  · refine ⟨_, (pss_cons (ps_if (pt_cmpR op_isN1 (pv 0) pe_non (nomark _)) (pss_one (ps_ret pe_non)) pss_nil) (pss_cons (ps_set (i := 1) sc_read_tail.nd rfl (Or.inl rfl) (pe_lst pa_nil)) (pss_cons (ps_set (i := 2) sc_read_tail.nd rfl (Or.inl rfl) (pe_callB call_len_seq (by rfl) M.n_len PySem.boot_len (pa_cons (pe_globW (by rfl) g_SIGN) pa_nil))) (pss_cons (ps_for PassesOwn.never rfl (pi_tup (pe_globW (by rfl) g_WIDTHS)) (pg_name (i := 3) sc_read_tail.nd rfl (Or.inl rfl)) (pss_cons (ps_expr (pe_mt PySem.F.slot_list_append PySem.F.type_list_append mt_append (pv 1) (pa_cons (pe_cal c_number_of (hr.mono (by omega)) (by rfl) (pa_cons (pe_slice sl_l (pv 0) (po_some (pv 2)) (po_some (pe_op op_add (pv 2) (pv 3)))) pa_nil)) pa_nil))) (pss_one (ps_aug (i := 2) sc_read_tail.nd rfl (Or.inl rfl) (pv 3) ip_add)))) (pss_cons (ps_asg (pv 1) (pg_unl (by rfl) (pgs_cons (pg_name (i := 4) sc_read_tail.nd rfl (Or.inl rfl)) (pgs_cons (pg_name (i := 5) sc_read_tail.nd rfl (Or.inl rfl)) (pgs_cons (pg_name (i := 6) sc_read_tail.nd rfl (Or.inl rfl)) (pgs_cons (pg_name (i := 7) sc_read_tail.nd rfl (Or.inl rfl)) pgs_nil)))))) (pss_cons (ps_if (PW.pt (pw_or (pt_cmpR op_gt (pv 5) pe_int (nomark _)) (pw_or1 (pt_cmpR (op_neD hr.units) (pe_cal c_tail (hr.mono (by omega)) (by rfl) (pa_cons (pv 4) (pa_cons (pv 5) (pa_cons (pv 6) (pa_cons (pv 7) pa_nil))))) (pv 0) (nomark _))))) (pss_one (ps_ret pe_non)) pss_nil) (pss_one (ps_ret (pe_tup (pa_cons (pv 4) (pa_cons (pv 5) (pa_cons (pv 6) (pa_cons (pv 7) pa_nil))))))))))))), ?_⟩
    rcases h with ⟨rfl, q⟩ | ⟨p, ns, rfl, hp, q⟩
    · refine iBody (by repeat constructor) ?_
      walk_at "go"
      exact q
    · refine iBody (by repeat constructor) ?_
      walk_at "go"
      refine iNewL (by simp) fun l hl => ?_
      walk_at "go"
      refine iW fun sg hsg => ?_
      walk_at "go"
      refine ⟨sg, _, rfl, .inr (hsg _), ?_⟩
      walk_at "go"
      refine iW fun wd hwd => ?_
      walk_at "go"
      refine ⟨wd, rfl, ⟨_, hwd _⟩, ?_⟩
      refine forJ_tW (xs := nL wids) hwd (fun i σ' H' => (∃ u, σ' = [some (.ref p), some (.ref l), some (.int (tAt i : Nat)), u, none, none, none, none]) ∧ Ex H H' ∧ H' l = some (.lst (nL ((tnL ns).take i)))) ⟨⟨none, rfl⟩, Ex.new hl, upd_same⟩ (fun i x σ' H' hx h => ?_) (fun σ' H' h => ?_)
      · obtain ⟨⟨u, rfl⟩, x1, hl1⟩ := h
        obtain ⟨wn, hwn, rfl⟩ := nL_get hx
        obtain ⟨ea, eb⟩ := tnL_at ns hwn
        walk_at "go"
        refine iMt rfl hl1 ?_
        walk_at "go"
        refine iSlL (x1 _ _ hp) fun y hy => ?_
        rw [show (tAt i : Int) + (wn : Int) = (tAt (i + 1) : Nat) by rw [ea]; push_cast; rfl, cut_ft, nL_take, nL_drop]
        walk_at "go"
        refine ⟨y, _, rfl, upd_same, ?_⟩
        have ny : l ≠ y := ne_of_none hl1 hy
        walk_at "go"
        refine iApp ((upd_ne ny).trans hl1) (by rw [nL_len, List.length_take, show (tnL ns).length = 4 from rfl]; omega) ?_
        walk_at "go"
        rw [show (tAt i : Int) + (wn : Int) = (tAt (i + 1) : Nat) by rw [ea]; push_cast; rfl]
        refine ⟨⟨_, rfl⟩, ex_upd hl (x1.trans (Ex.new hy)), ?_⟩
        obtain ⟨hi, hg⟩ := List.getElem?_eq_some_iff.mp eb
        rw [upd_same, List.take_succ_eq_append_getElem hi, nL_app, hg]
        rfl
      · obtain ⟨⟨u, rfl⟩, x1, hl1⟩ := h
        have hl1 : H' l = some (.lst [V.int (tn0 ns : Nat), .int (tn1 ns : Nat), .int (tn2 ns : Nat), .int (tn3 ns : Nat)]) := hl1
        walk_at "go"
        refine ⟨l, _, rfl, SqL.tr hl1, rfl, ?_⟩
        walk_at "go"
        refine ifD (fun h1 => ?_) (fun h1 => ?_)
        · have e : readT ns = none := by unfold readT; rw [if_neg (by omega)]
          rw [e] at q
          walk_at "go"
          exact q H' x1
        · walk_at "go"
          refine j_tail fun v H2 e2 a2 => ?_
          obtain ⟨v1, rfl, h2⟩ := a2.nw.nL
          walk_at "go"
          refine iNeN h2 (e2 _ _ (x1 _ _ hp)) ?_
          walk_at "go"
          refine ifND (fun h3 => ?_) (fun h3 => ?_)
          · have e : readT ns = none := by unfold readT; rw [if_neg (fun z => h3 z.2)]
            rw [e] at q
            walk_at "go"
            exact q H2 (x1.trans e2)
          · have e : readT ns = some (tn0 ns, tn1 ns, tn2 ns, tn3 ns) := by unfold readT; rw [if_pos ⟨by omega, h3⟩]
            rw [e] at q
            walk_at "go"
            refine iNewT (by simp) fun t ht => ?_
            refine q (.ref t) _ ((x1.trans e2).trans (Ex.new ht)) (.tup (dif_of (back_none (x1.trans e2) ht) upd_same) (.cons (.int _) (.cons (.int _) (.cons (.int _) (.cons (.int _) .nil)))))
theorem j_read_tail {p : Addr} {ns : List Nat} {H : Hp} {Q : VK} {E : XK} (h : H p = some (.lst (nL ns))) (q : ResT H Q (readT ns)) : sp_read_tail [.ref p] H Q E := .inr ⟨p, ns, rfl, h, q⟩
end
end R
set_option Elab.async false
set_option linter.all false
set_option maxRecDepth 100000
set_option maxHeartbeats 4000000
namespace R
open PySem PySem.Spec L2
open Evl (Ex)
abbrev s__law_draw : Stmt := topS 17
theorem sc__law_draw : FnScope ["script", "k", "cell", "turn", "step"] ["script", "k"] (defScope s__law_draw) := ⟨rfl, rfl, rfl, by decide +kernel, rfl, by decide +kernel, by decide +kernel⟩
abbrev s__law_data : Stmt := topS 18
theorem sc__law_data : FnScope ["number", "k"] ["number"] (defScope s__law_data) := ⟨rfl, rfl, rfl, by decide +kernel, rfl, by decide +kernel, by decide +kernel⟩
abbrev s__law_fixed : Stmt := topS 19
theorem sc__law_fixed : FnScope ["number", "count", "data", "k"] ["number", "count"] (defScope s__law_fixed) := ⟨rfl, rfl, rfl, by decide +kernel, rfl, by decide +kernel, by decide +kernel⟩
abbrev s__law_parts : Stmt := topS 22
theorem sc__law_parts : FnScope ["sectors", "size"] ["sectors"] (defScope s__law_parts) := ⟨rfl, rfl, rfl, by decide +kernel, rfl, by decide +kernel, by decide +kernel⟩

local macro_rules | `(tactic| walk_at "ne") => `(tactic| (first | assumption | (apply Ne.symm; assumption) | (apply ne_fresh; (· assumption); (· walk_at "look")) | (apply Ne.symm; apply ne_fresh; (· assumption); (· walk_at "look"))))
local macro_rules | `(tactic| walk_at "look") => `(tactic| (first | assumption | exact upd_same | (refine (upd_ne ?_).trans ?_; (· walk_at "ne"); (· walk_at "look")) | (refine exAt (by assumption) ?_; walk_at "look")))
local macro_rules | `(tactic| walk_at "side") => `(tactic| (first | (exact Or.inl ⟨by omega, by omega⟩) | (exact Or.inr ⟨by omega, by omega⟩) | (show (0:Int) < _; omega) | (show (0:Int) ≤ _; omega) | (exact ⟨by omega, by omega⟩) | (exact ⟨by decide, by decide, by decide⟩)))
local macro_rules | `(tactic| walk_at "go") => `(tactic| (repeat (first | (with_reducible refine iSeq ?_) | (with_reducible refine iAsg ?_) | ((with_reducible apply iName); (· repeat constructor)) | ((with_reducible apply iVar); (· rfl)) | (with_reducible refine iC ?_) | (with_reducible refine iOp ?_) | (with_reducible refine iI0 ?_) | (with_reducible refine iCons ?_) | (with_reducible refine iNil ?_) | (with_reducible refine iCB ?_) | (with_reducible refine iIfS ?_) | (with_reducible refine iTest ?_) | (with_reducible refine iBl ?_) | (with_reducible refine iRet ?_) | (with_reducible refine iNext ?_) | (with_reducible refine iDrop ?_) | (with_reducible refine iEqI ?_) | (with_reducible refine iNeI ?_) | (with_reducible refine iInt ?_) | (with_reducible refine iFor ?_) | (with_reducible refine iRng ?_) | (with_reducible refine iCal ?_) | (with_reducible refine iAnd ?_) | (with_reducible refine iOr ?_) | (with_reducible refine iNot ?_) | (with_reducible refine iB ?_) | (with_reducible refine iIf ?_) | (with_reducible refine iChain ?_) | (with_reducible refine iUn ?_) | (with_reducible refine iU ?_) | (with_reducible refine iRetN ?_) | (with_reducible refine iIsN ?_) | (with_reducible refine iNotN ?_) | (with_reducible refine iTruI ?_) | (with_reducible refine ifNDr ?_) | (with_reducible refine ifDr ?_) | (with_reducible refine iCalE ?_) | (with_reducible refine iMet ?_) | (with_reducible refine iMak ?_) | (with_reducible refine iFld ?_) | (with_reducible refine iSto ?_) | (with_reducible refine iAugF ?_) | (with_reducible refine iBM ?_) | (with_reducible refine iRev1 ?_) | (with_reducible refine iRai ?_) | (with_reducible refine iPr ?_) | (with_reducible refine iPn ?_) | (with_reducible refine iIntB ?_) | (with_reducible refine iIsB ?_) | (with_reducible refine iNotBl ?_) | (with_reducible refine iDGet1 ?_) | (with_reducible refine iAndV ?_) | (with_reducible refine iOrV ?_) | (with_reducible refine iNotV ?_) | (with_reducible refine iAugS ?_) | (with_reducible refine iIpI ?_) | (with_reducible refine iSub ?_) | (with_reducible refine iLst ?_) | (with_reducible refine iTup ?_) | (with_reducible refine iIterL ?_) | (with_reducible refine iBreak ?_) | (with_reducible refine iCont ?_) | (with_reducible refine iEqB ?_) | (with_reducible refine iNeB ?_) | (with_reducible refine iEqS ?_) | (with_reducible refine iNeS ?_) | (with_reducible refine iLc ?_) | (with_reducible refine iYes ?_) | (with_reducible refine iDGet ?_) | (with_reducible refine iDIn ?_) | (with_reducible refine iDNotIn ?_) | (with_reducible refine iDPut ?_) | (with_reducible refine iRng2 ?_) | (with_reducible refine iZipK ?_) | (with_reducible refine iGCons ?_) | (with_reducible refine iGNil ?_) | (with_reducible refine iDEa ?_) | (with_reducible refine iSl ?_) | (with_reducible refine iPart ?_) | (with_reducible refine iPartI ?_) | (with_reducible refine iNoPart ?_) | (with_reducible refine iRv ?_) | (with_reducible refine iRg3 ?_) | (with_reducible refine iZA ?_) | ((with_reducible apply iRngI); (· first | decide | omega); (· first | decide | omega)) | ((with_reducible apply iAugK); (· rfl)) | ((with_reducible apply iI); rotate_left; (· (first | (exact Or.inl ⟨by omega, by omega⟩) | (exact Or.inr ⟨by omega, by omega⟩) | (show (0:Int) < _; omega) | (show (0:Int) ≤ _; omega) | (exact ⟨by omega, by omega⟩) | (exact ⟨by decide, by decide, by decide⟩)))) | ((with_reducible apply iIxL); (· walk_at "look"); (· rfl)) | ((with_reducible apply iLenL); (· walk_at "look")) | ((with_reducible apply iSetL); (· walk_at "look"); (· rfl)) | ((with_reducible apply iIxT); (· walk_at "look"); (· rfl)) | ((with_reducible apply iIsi); (· first | exact tyN_int | exact tyN_bl | exact tyN_non | exact tyN_str | exact tyN_lst (by walk_at "look") | exact tyN_tup (by walk_at "look")); (· (first | exact kb_NoneType_bool | exact kb_NoneType_int | exact kb_NoneType_str | exact kb_NoneType_tuple | exact kb_NoneType_list | exact kb_bool_bool | exact kb_bool_int | exact kb_bool_str | exact kb_bool_tuple | exact kb_bool_list | exact kb_int_bool | exact kb_int_int | exact kb_int_str | exact kb_int_tuple | exact kb_int_list | exact kb_str_bool | exact kb_str_int | exact kb_str_str | exact kb_str_tuple | exact kb_str_list | exact kb_tuple_bool | exact kb_tuple_int | exact kb_tuple_str | exact kb_tuple_tuple | exact kb_tuple_list | exact kb_list_bool | exact kb_list_int | exact kb_list_str | exact kb_list_tuple | exact kb_list_list))) | ((with_reducible apply iLenT); (· walk_at "look")) | ((with_reducible apply iLenS); (· first | exact Or.inl (by walk_at "look") | exact Or.inr (by walk_at "look"))) | ((with_reducible apply ifT); (· rfl)) | ((with_reducible apply ifF); (· rfl)) | ((with_reducible apply ifT); (· apply decide_eq_true; omega)) | ((with_reducible apply ifF); (· apply decide_eq_false; omega)) | ((with_reducible apply ifNp); (· omega)) | ((with_reducible apply ifNn); (· omega)) | ((with_reducible apply iLcB); (· rfl)) | ((with_reducible apply iGTup); (· walk_at "look"); (· rfl)) | ((with_reducible apply iDIi); (· walk_at "look")) | ((with_reducible apply iDNi); (· walk_at "look")) | ((with_reducible apply iRng2I); (· omega); (· omega); (· omega); (· omega)) | ((with_reducible apply iItL); (· walk_at "look")) | ((with_reducible apply iZL); (· walk_at "look"); (· walk_at "look")))))
section
variable {P : Program} {w : World} {K : PySem.W.Frag} {mg : Str → Option Value} {base : Heap}
/-! ### the law's draws -/
def sp__law_draw (K : PySem.W.Frag) : Sp := fun vs H Q _ => ∃ (a : Addr) (ns : List Int) (k : Nat), vs = [.ref a, .int k] ∧ SqL K H a (ns.map V.int) ∧ ns.length ≤ 63 ∧ k < 1000 ∧ ∀ v : Nat, Q (.int v) H
theorem ok__law_draw (M : Mg mg) {f : Addr} {fd : FuncData} (F : Fun K "_law_draw" "_law_draw" s__law_draw f fd) : FnOk P w K mg base CX0 1 f fd ["script", "k"] (sp__law_draw K) := by
  refine F.ok sc__law_draw (fun vs H Q E h => ?_) (fun cdv A outer s H vs Q E hr h => ?_)
  · obtain ⟨a, ns, k, rfl, _⟩ := h; rfl
  · obtain ⟨a, ns, k, rfl, hS, hn, hk, q⟩ := h
    have q' : ∀ v : Int, 0 ≤ v → Q (.int v) H := fun v hv => by
      obtain ⟨m, rfl⟩ := Int.eq_ofNat_of_zero_le hv
      exact q m
    refine ⟨_, (pss_cons (ps_if (pt_not (pt_truth (pv 0) (by intro _; rfl))) (pss_one (ps_ret (pe_op op_mod (pe_op op_mul (pv 1) pe_int) pe_int))) pss_nil) (pss_cons (ps_set (i := 2) sc__law_draw.nd rfl (Or.inl rfl) (pe_callTy int_i (by rfl) M.n_int (by decide +kernel) (pa_cons (pe_ix ix_list (pv 0) (pe_op op_mod (pv 1) (pe_callB call_len_seq (by rfl) M.n_len PySem.boot_len (pa_cons (pv 0) pa_nil))) (fun _ _ => rfl)) pa_nil))) (pss_cons (ps_set (i := 3) sc__law_draw.nd rfl (Or.inl rfl) (pe_op op_fdiv (pv 1) (pe_callB call_len_seq (by rfl) M.n_len PySem.boot_len (pa_cons (pv 0) pa_nil)))) (pss_cons (ps_if (pt_cmpR op_ge (pv 2) pe_int (nomark _)) (pss_cons (ps_for PassesOwn.never rfl (pi_range1 (by rfl) M.n_range (pa_cons (pe_callB (call_min2 rfl) (by rfl) M.n_min (by decide +kernel) (pa_cons (pv 3) (pa_cons pe_int pa_nil))) pa_nil)) (pg_name (i := 4) sc__law_draw.nd rfl (Or.inl rfl)) (pss_one (ps_set (i := 2) sc__law_draw.nd rfl (Or.inl rfl) (pe_op op_fdiv (pv 2) pe_int)))) (pss_one (ps_ret (pe_op op_mod (pv 2) pe_int)))) pss_nil) (pss_one (ps_ret (pe_op op_mod (pe_op op_mul (pe_op op_mod (pe_op op_add (pe_op op_add (pe_op op_mul (pv 2) pe_int) (pe_op op_mul (pv 1) pe_int)) pe_int) pe_int) pe_int) pe_int))))))), ?_⟩
    refine iBody (by repeat constructor) ?_
    walk_at "go"
    refine ⟨_, .inl ⟨_, hS, rfl⟩, ?_⟩
    cases ns with
    | nil =>
      walk_at "go"
      exact q' _ (Int.emod_nonneg _ (by decide))
    | cons n0 ns =>
      walk_at "go"
      refine ⟨a, _, rfl, .inl hS, ?_⟩
      have hlen : (((n0 :: ns).map V.int).length : Int) = (ns.length : Int) + 1 := by rw [List.length_map, List.length_cons]; push_cast; rfl
      rw [hlen]
      have hn' : ns.length + 1 ≤ 63 := hn
      walk_at "go"
      have m0 := Int.emod_nonneg (k : Int) (show ((ns.length : Int) + 1) ≠ 0 by omega)
      have m1 := Int.emod_lt_of_pos (k : Int) (show 0 < ((ns.length : Int) + 1) by omega)
      obtain ⟨x, hx⟩ := atI_map (ns := n0 :: ns) m0 (by rw [List.length_cons]; push_cast; exact m1)
      refine ⟨a, _, _, _, rfl, rfl, hS, hx, ?_⟩
      walk_at "go"
      refine ⟨a, _, rfl, .inl hS, ?_⟩
      rw [hlen]
      walk_at "go"
      have t0 : (0 : Int) ≤ (k : Int) / ((ns.length : Int) + 1) := Int.ediv_nonneg (by omega) (by omega)
      have t1 : (k : Int) / ((ns.length : Int) + 1) ≤ (k : Int) := Int.ediv_le_self _ (by omega)
      generalize (k : Int) / ((ns.length : Int) + 1) = t at t0 t1 ⊢
      refine ifD (fun h => ?_) (fun h => ?_)
      · walk_at "go"
        refine ⟨t, 60, rfl, ?_⟩
        have b0 : 0 ≤ (if (60 : Int) < t then 60 else t) ∧ (if (60 : Int) < t then 60 else t) < 100 := by split <;> omega
        generalize (if (60 : Int) < t then 60 else t) = mm at b0 ⊢
        obtain ⟨b0, b1⟩ := b0
        walk_at "go"
        refine forJ_range0 (fun i σ' H' => (∃ c u, σ' = [some (.ref a), some (.int (k : Int)), some (.int c), some (.int t), u] ∧ 0 ≤ c) ∧ H' = H) ⟨⟨x, none, rfl, by omega⟩, rfl⟩ (fun i σ' H' hi h => ?_) (fun σ' H' h => ?_)
        · obtain ⟨⟨c, u, rfl, hc⟩, rfl⟩ := h
          walk_at "go"
          exact ⟨⟨_, _, rfl, Int.ediv_nonneg hc (by decide)⟩, rfl⟩
        · obtain ⟨⟨c, u, rfl, hc⟩, rfl⟩ := h
          walk_at "go"
          exact q' _ (Int.emod_nonneg _ (by decide))
      · walk_at "go"
        refine q' _ (Int.emod_nonneg _ (by decide))
theorem j_draw {a : Addr} {ns : List Int} {k : Nat} {H : Hp} {Q : VK} {E : XK} (h : SqL K H a (ns.map V.int)) (hn : ns.length ≤ 63) (hk : k < 1000) (q : ∀ v : Nat, Q (.int v) H) : sp__law_draw K [.ref a, .int k] H Q E := ⟨a, ns, k, rfl, h, hn, hk, q⟩
def dataOf (n : Nat) : List Nat := (List.range (n % 301)).map fun k => (n / (1 + k % 7) + 3 * k) % 256
def sp__law_data : Sp := fun vs H Q _ => ∃ n : Nat, vs = [.int n] ∧ NewD H Q (nD (dataOf n))
theorem ok__law_data (M : Mg mg) {f : Addr} {fd : FuncData} (F : Fun K "_law_data" "_law_data" s__law_data f fd) : FnOk P w K mg base CX0 1 f fd ["number"] sp__law_data := by
  refine F.ok sc__law_data (fun vs H Q E h => ?_) (fun cdv A outer s H vs Q E hr h => ?_)
  · obtain ⟨n, rfl, _⟩ := h; rfl
  · obtain ⟨n, rfl, q⟩ := h
    refine ⟨_, (pss_one (ps_ret (pe_lc (own := [("k", 1)]) (g := (gName 1)) (tt := tYes) (by rfl) sc__law_data.nd (pi_range1 (by rfl) M.n_range (pa_cons (pe_op op_mod (pv 0) pe_int) pa_nil)) (blkOk_by (own := [("k", 1)]) (N := ["number", "k"]) (sc := defScope s__law_data) (by decide +kernel)) (fun _ _ _ _ _ => (pg_name (i := 1) sc__law_data.nd rfl (Or.inl rfl))) (fun _ _ _ _ _ => pts_nil) (fun _ _ _ _ _ => (pe_op op_mod (pe_op op_add (pe_op op_fdiv (pv 0) (pe_op op_add pe_int (pe_op op_mod (pv 1) pe_int))) (pe_op op_mul pe_int (pv 1))) pe_int))))), ?_⟩
    refine iBody (by repeat constructor) ?_
    walk_at "go"
    rw [show ((n : Int) % 301).toNat = n % 301 by omega]
    refine lcF_r0 (fun k => V.int (((n / (1 + k % 7) + 3 * k) % 256 : Nat) : Int)) (by repeat constructor) (fun D i H1 hD hi hacc e1 => ?_) (fun D H1 hD e1 hacc => ?_)
    · walk_at "go"
      refine iLcF hD (by omega) e1 hacc ?_
      refine congrArg V.int ?_
      push_cast
      rfl
    · refine NewL.of q D H1 hD e1 ?_
      rw [hacc]
      unfold nL dataOf
      rw [List.map_map]
      rfl
theorem j_data {n : Nat} {H : Hp} {Q : VK} {E : XK} (q : ∀ p H', H p = none → Ex H H' → H' p = some (.lst (nL (dataOf n))) → Q (.ref p) H') : sp__law_data [.int n] H Q E := ⟨n, rfl, fun v H' e a => by
  cases a with
  | lst h t =>
    have := nL_inj t
    subst this
    exact q _ H' (dif_to h).1 e (dif_to h).2⟩
def sp__law_fixed : Sp := fun vs H Q _ => ∃ n c : Nat, vs = [.int n, .int c] ∧ c ≤ 8 ∧ NewD H Q (nD (fx n c))
theorem fx_more (n i : Nat) : n / 256 ^ i % 256 :: fx n i = fx n (i + 1) := (fx_succ n i).symm
theorem ok__law_fixed (M : Mg mg) {f : Addr} {fd : FuncData} (F : Fun K "_law_fixed" "_law_fixed" s__law_fixed f fd) : FnOk P w K mg base CX0 1 f fd ["number", "count"] sp__law_fixed := by
  refine F.ok sc__law_fixed (fun vs H Q E h => ?_) (fun cdv A outer s H vs Q E hr h => ?_)
  · obtain ⟨n, c, rfl, _⟩ := h; rfl
  · obtain ⟨n, c, rfl, hc, q⟩ := h
    refine ⟨_, (pss_cons (ps_set (i := 2) sc__law_fixed.nd rfl (Or.inl rfl) (pe_lst pa_nil)) (pss_cons (ps_for PassesOwn.never rfl (pi_range1 (by rfl) M.n_range (pa_cons (pv 1) pa_nil)) (pg_name (i := 3) sc__law_fixed.nd rfl (Or.inl rfl)) (pss_cons (ps_set (i := 2) sc__law_fixed.nd rfl (Or.inl rfl) (pe_op op_cat (pe_lst (pa_cons (pe_op op_mod (pv 0) pe_int) pa_nil)) (pv 2))) (pss_one (ps_set (i := 0) sc__law_fixed.nd rfl (Or.inl rfl) (pe_op op_fdiv (pv 0) pe_int))))) (pss_one (ps_ret (pv 2))))), ?_⟩
    refine iBody (by repeat constructor) ?_
    walk_at "go"
    refine iNewL (by simp) fun p hp => ?_
    walk_at "go"
    rw [Int.toNat_natCast]
    refine forJ_range0 (fun i σ' H' => (∃ p u, σ' = [some (.int (n / 256 ^ i : Nat)), some (.int c), some (.ref p), u] ∧ H p = none ∧ H' p = some (.lst (nL (fx n i)))) ∧ Ex H H') ⟨⟨p, none, by simp, hp, upd_same⟩, Ex.new hp⟩ (fun i σ' H' hi h => ?_) (fun σ' H' h => ?_)
    · obtain ⟨⟨p, u, rfl, hp, hp'⟩, x1⟩ := h
      walk_at "go"
      refine iNewL (by simp) fun z hz => ?_
      walk_at "go"
      have e : [V.int (((n / 256 ^ i : Nat) : Int) % 256)] = nL [n / 256 ^ i % 256] := by
        unfold nL
        rw [List.map_singleton]
        push_cast
        rfl
      rw [e]
      refine iCat upd_same ((upd_ne (ne_of_none hp' hz)).trans hp') (by rw [nL_len, nL_len, fx_len]; simp; omega) fun y hy => ?_
      rw [← nL_app, List.singleton_append, fx_more]
      walk_at "go"
      have e2 : ((n / 256 ^ i : Nat) : Int) / 256 = ((n / 256 ^ (i + 1) : Nat) : Int) := by
        rw [Nat.pow_succ, ← Nat.div_div_eq_div_mul]
        push_cast
        rfl
      rw [e2]
      exact ⟨⟨y, _, rfl, back_none (x1.trans (Ex.new hz)) hy, upd_same⟩, x1.trans ((Ex.new hz).trans (Ex.new hy))⟩
    · obtain ⟨⟨p, u, rfl, hp, hp'⟩, x1⟩ := h
      walk_at "go"
      exact NewL.of q p H' hp x1 hp'
theorem j_fixed {n c : Nat} (hc : c ≤ 8) {H : Hp} {Q : VK} {E : XK} (q : ∀ p H', H p = none → Ex H H' → H' p = some (.lst (nL (fx n c))) → Q (.ref p) H') : sp__law_fixed [.int n, .int c] H Q E := ⟨n, c, rfl, hc, fun v H' e a => by
  cases a with
  | lst h t =>
    have := nL_inj t
    subst this
    exact q _ H' (dif_to h).1 e (dif_to h).2⟩
def sp__law_parts : Sp := fun vs H Q _ => ∃ m : Int, vs = [.int m] ∧ 0 ≤ m ∧ m < 1000000 ∧ Q (.bl true) H
theorem ok__law_parts (M : Mg mg) {f : Addr} {fd : FuncData} (F : Fun K "_law_parts" "_law_parts" s__law_parts f fd) (c_area_size : Cal P w K mg base 1 "area_size" ["sectors"] sp_area_size) (c_area_start : Cal P w K mg base 2 "area_start" ["sectors", "area"] sp_area_start)
    (c_region_start : Cal P w K mg base 3 "region_start" ["sectors"] sp_region_start) (c_stripe_count : Cal P w K mg base 4 "stripe_count" ["sectors"] sp_stripe_count) : FnOk P w K mg base CX0 5 f fd ["sectors"] sp__law_parts := by
  refine F.ok sc__law_parts (fun vs H Q E h => ?_) (fun cdv A outer s H vs Q E hr h => ?_)
  · obtain ⟨m, rfl, _⟩ := h; rfl
  · obtain ⟨m, rfl, h0, h1, q⟩ := h
    refine ⟨_, (pss_cons (ps_set (i := 1) sc__law_parts.nd rfl (Or.inl rfl) (pe_op op_fdiv (pe_op op_sub (pv 0) pe_int) pe_int)) (pss_cons (ps_if (PW.pt (pw_or (pt_cmpR op_ne (pe_cal c_area_size (hr.mono (by omega)) (by rfl) (pa_cons (pv 0) pa_nil)) (pv 1) (nomark _)) (pw_or (pt_cmpR op_ne (pe_cal c_area_start (hr.mono (by omega)) (by rfl) (pa_cons (pv 0) (pa_cons pe_int pa_nil))) pe_int (nomark _)) (pw_or1 (pt_cmpR op_ne (pe_cal c_area_start (hr.mono (by omega)) (by rfl) (pa_cons (pv 0) (pa_cons pe_int pa_nil))) (pe_op op_add pe_int (pv 1)) (nomark _)))))) (pss_one (ps_ret pe_bl)) pss_nil) (pss_one (ps_ret (pe_and (pe_cmpR op_eq (pe_cal c_region_start (hr.mono (by omega)) (by rfl) (pa_cons (pv 0) pa_nil)) (pe_op op_add pe_int (pe_op op_mul pe_int (pv 1))) (nomark _)) (pe_one (pe_cmpR op_eq (pe_cal c_stripe_count (hr.mono (by omega)) (by rfl) (pa_cons (pv 0) pa_nil)) (pe_op op_sub (pe_op op_sub (pv 0) pe_int) (pe_op op_mul pe_int (pv 1))) (nomark _)))))))), ?_⟩
    refine iBody (by repeat constructor) ?_
    walk_at "go"
    refine ⟨_, rfl, ?_⟩
    walk_at "go"
    refine ⟨_, _, rfl, by decide, by decide, ?_⟩
    walk_at "go"
    refine ⟨_, _, rfl, by decide, by decide, ?_⟩
    walk_at "go"
    refine ⟨_, rfl, ?_⟩
    walk_at "go"
    refine ⟨_, rfl, ?_⟩
    walk_at "go"
    have e : decide (m - (2 + 2 * ((m - 2) / 4)) = m - 2 - 2 * ((m - 2) / 4)) = true := decide_eq_true (by omega)
    rw [e]
    exact q
end
end R
set_option Elab.async false
set_option linter.all false
set_option maxRecDepth 100000
set_option maxHeartbeats 4000000
namespace R
open PySem PySem.Spec L2
open Evl (Ex)
abbrev s__law_blocks : Stmt := topS 20
theorem sc__law_blocks : FnScope ["script", "sectors", "starts", "rows", "k", "data", "block", "whole", "joined", "sector", "end", "place"] ["script"] (defScope s__law_blocks) := ⟨rfl, rfl, rfl, by decide +kernel, rfl, by decide +kernel, by decide +kernel⟩

local macro_rules | `(tactic| walk_at "ne") => `(tactic| (first | assumption | (apply Ne.symm; assumption) | (apply ne_fresh; (· assumption); (· walk_at "look")) | (apply Ne.symm; apply ne_fresh; (· assumption); (· walk_at "look"))))
local macro_rules | `(tactic| walk_at "look") => `(tactic| (first | assumption | exact upd_same | (refine (upd_ne ?_).trans ?_; (· walk_at "ne"); (· walk_at "look")) | (refine exAt (by assumption) ?_; walk_at "look")))
local macro_rules | `(tactic| walk_at "side") => `(tactic| (first | (exact Or.inl ⟨by omega, by omega⟩) | (exact Or.inr ⟨by omega, by omega⟩) | (show (0:Int) < _; omega) | (show (0:Int) ≤ _; omega) | (exact ⟨by omega, by omega⟩) | (exact ⟨by decide, by decide, by decide⟩)))
local macro_rules | `(tactic| walk_at "go") => `(tactic| (repeat (first | (with_reducible refine iSeq ?_) | (with_reducible refine iAsg ?_) | ((with_reducible apply iName); (· repeat constructor)) | ((with_reducible apply iVar); (· rfl)) | (with_reducible refine iC ?_) | (with_reducible refine iOp ?_) | (with_reducible refine iI0 ?_) | (with_reducible refine iCons ?_) | (with_reducible refine iNil ?_) | (with_reducible refine iCB ?_) | (with_reducible refine iIfS ?_) | (with_reducible refine iTest ?_) | (with_reducible refine iBl ?_) | (with_reducible refine iRet ?_) | (with_reducible refine iNext ?_) | (with_reducible refine iDrop ?_) | (with_reducible refine iEqI ?_) | (with_reducible refine iNeI ?_) | (with_reducible refine iInt ?_) | (with_reducible refine iFor ?_) | (with_reducible refine iRng ?_) | (with_reducible refine iCal ?_) | (with_reducible refine iAnd ?_) | (with_reducible refine iOr ?_) | (with_reducible refine iNot ?_) | (with_reducible refine iB ?_) | (with_reducible refine iIf ?_) | (with_reducible refine iChain ?_) | (with_reducible refine iUn ?_) | (with_reducible refine iU ?_) | (with_reducible refine iRetN ?_) | (with_reducible refine iIsN ?_) | (with_reducible refine iNotN ?_) | (with_reducible refine iTruI ?_) | (with_reducible refine ifNDr ?_) | (with_reducible refine ifDr ?_) | (with_reducible refine iCalE ?_) | (with_reducible refine iMet ?_) | (with_reducible refine iMak ?_) | (with_reducible refine iFld ?_) | (with_reducible refine iSto ?_) | (with_reducible refine iAugF ?_) | (with_reducible refine iBM ?_) | (with_reducible refine iRev1 ?_) | (with_reducible refine iRai ?_) | (with_reducible refine iPr ?_) | (with_reducible refine iPn ?_) | (with_reducible refine iIntB ?_) | (with_reducible refine iIsB ?_) | (with_reducible refine iNotBl ?_) | (with_reducible refine iDGet1 ?_) | (with_reducible refine iAndV ?_) | (with_reducible refine iOrV ?_) | (with_reducible refine iNotV ?_) | (with_reducible refine iAugS ?_) | (with_reducible refine iIpI ?_) | (with_reducible refine iSub ?_) | (with_reducible refine iLst ?_) | (with_reducible refine iTup ?_) | (with_reducible refine iIterL ?_) | (with_reducible refine iBreak ?_) | (with_reducible refine iCont ?_) | (with_reducible refine iEqB ?_) | (with_reducible refine iNeB ?_) | (with_reducible refine iEqS ?_) | (with_reducible refine iNeS ?_) | (with_reducible refine iLc ?_) | (with_reducible refine iYes ?_) | (with_reducible refine iDGet ?_) | (with_reducible refine iDIn ?_) | (with_reducible refine iDNotIn ?_) | (with_reducible refine iDPut ?_) | (with_reducible refine iRng2 ?_) | (with_reducible refine iZipK ?_) | (with_reducible refine iGCons ?_) | (with_reducible refine iGNil ?_) | (with_reducible refine iDEa ?_) | (with_reducible refine iSl ?_) | (with_reducible refine iPart ?_) | (with_reducible refine iPartI ?_) | (with_reducible refine iNoPart ?_) | (with_reducible refine iRv ?_) | (with_reducible refine iRg3 ?_) | (with_reducible refine iZA ?_) | ((with_reducible apply iRngI); (· first | decide | omega); (· first | decide | omega)) | ((with_reducible apply iAugK); (· rfl)) | ((with_reducible apply iI); rotate_left; (· (first | (exact Or.inl ⟨by omega, by omega⟩) | (exact Or.inr ⟨by omega, by omega⟩) | (show (0:Int) < _; omega) | (show (0:Int) ≤ _; omega) | (exact ⟨by omega, by omega⟩) | (exact ⟨by decide, by decide, by decide⟩)))) | ((with_reducible apply iIxL); (· walk_at "look"); (· rfl)) | ((with_reducible apply iLenL); (· walk_at "look")) | ((with_reducible apply iSetL); (· walk_at "look"); (· rfl)) | ((with_reducible apply iIxT); (· walk_at "look"); (· rfl)) | ((with_reducible apply iIsi); (· first | exact tyN_int | exact tyN_bl | exact tyN_non | exact tyN_str | exact tyN_lst (by walk_at "look") | exact tyN_tup (by walk_at "look")); (· (first | exact kb_NoneType_bool | exact kb_NoneType_int | exact kb_NoneType_str | exact kb_NoneType_tuple | exact kb_NoneType_list | exact kb_bool_bool | exact kb_bool_int | exact kb_bool_str | exact kb_bool_tuple | exact kb_bool_list | exact kb_int_bool | exact kb_int_int | exact kb_int_str | exact kb_int_tuple | exact kb_int_list | exact kb_str_bool | exact kb_str_int | exact kb_str_str | exact kb_str_tuple | exact kb_str_list | exact kb_tuple_bool | exact kb_tuple_int | exact kb_tuple_str | exact kb_tuple_tuple | exact kb_tuple_list | exact kb_list_bool | exact kb_list_int | exact kb_list_str | exact kb_list_tuple | exact kb_list_list))) | ((with_reducible apply iLenT); (· walk_at "look")) | ((with_reducible apply iLenS); (· first | exact Or.inl (by walk_at "look") | exact Or.inr (by walk_at "look"))) | ((with_reducible apply ifT); (· rfl)) | ((with_reducible apply ifF); (· rfl)) | ((with_reducible apply ifT); (· apply decide_eq_true; omega)) | ((with_reducible apply ifF); (· apply decide_eq_false; omega)) | ((with_reducible apply ifNp); (· omega)) | ((with_reducible apply ifNn); (· omega)) | ((with_reducible apply iLcB); (· rfl)) | ((with_reducible apply iGTup); (· walk_at "look"); (· rfl)) | ((with_reducible apply iDIi); (· walk_at "look")) | ((with_reducible apply iDNi); (· walk_at "look")) | ((with_reducible apply iRng2I); (· omega); (· omega); (· omega); (· omega)) | ((with_reducible apply iItL); (· walk_at "look")) | ((with_reducible apply iZL); (· walk_at "look"); (· walk_at "look")))))
section
variable {P : Program} {w : World} {K : PySem.W.Frag} {mg : Str → Option Value} {base : Heap}
theorem j_log_block {p : Addr} {ns : List Nat} {H : Hp} {Q : VK} {E : XK} (h : H p = some (.lst (nL ns))) (hl : ns.length ≤ 50000) (q : NewD H Q (sD (blk ns))) : sp_log_block [.ref p] H Q E := ⟨p, ns, rfl, h, hl, q⟩
theorem blks_32 {ds : List (List Nat)} : ∀ s ∈ ds.flatMap blk, s.length = 32 := fun s hs => by
  obtain ⟨d, _, h⟩ := List.mem_flatMap.mp hs
  exact chunks_all s h
theorem blks_len {ds : List (List Nat)} (h : ∀ d ∈ ds, d.length ≤ 300) : (ds.flatMap blk).length ≤ 11 * ds.length := by
  induction ds with
  | nil => simp
  | cons d ds ih =>
    rw [List.flatMap_cons, List.length_append, blk_len, List.length_cons]
    have := ih fun e he => h e (List.mem_cons_of_mem _ he)
    have := h d (List.mem_cons_self ..)
    omega
theorem blks_split {ds : List (List Nat)} {k : Nat} {d : List Nat} (h : ds[k]? = some d) : ds.flatMap blk = (ds.take k).flatMap blk ++ blk d ++ (ds.drop (k + 1)).flatMap blk ∧ (ds.take (k + 1)).flatMap blk = (ds.take k).flatMap blk ++ blk d := by
  obtain ⟨hk, rfl⟩ := List.getElem?_eq_some_iff.mp h
  have e : (ds.take (k + 1)).flatMap blk = (ds.take k).flatMap blk ++ blk ds[k] := by rw [List.take_succ_eq_append_getElem hk, List.flatMap_append, List.flatMap_singleton]
  refine ⟨?_, e⟩
  rw [← e, ← List.flatMap_append, List.take_append_drop]
def stV (ds : List (List Nat)) (i : Nat) : List V := (List.range i).map fun k => V.int ((((ds.take k).flatMap blk).length : Nat) : Int)
def sp__law_blocks (K : PySem.W.Frag) : Sp := fun vs H Q _ => ∃ (a : Addr) (ns : List Int), vs = [.ref a] ∧ SqL K H a (ns.map V.int) ∧ ns.length ≤ 63 ∧ ∀ H', Ex H H' → Q (.bl true) H'
theorem ok__law_blocks (M : Mg mg) {f : Addr} {fd : FuncData} (F : Fun K "_law_blocks" "_law_blocks" s__law_blocks f fd) (c__law_draw : Cal P w K mg base 1 "_law_draw" ["script", "k"] (sp__law_draw K)) (c__law_data : Cal P w K mg base 1 "_law_data" ["number"] sp__law_data) (c__law_fixed : Cal P w K mg base 1 "_law_fixed" ["number", "count"] sp__law_fixed)
    (c_log_block : Cal P w K mg base 2 "log_block" ["data"] sp_log_block) (c_read_block : Cal P w K mg base 2 "read_block" ["sectors", "start"] sp_read_block) : FnOk P w K mg base CX0 3 f fd ["script"] (sp__law_blocks K) := by
  refine F.ok sc__law_blocks (fun vs H Q E h => ?_) (fun cdv A outer s H vs Q E hr h => ?_)
  · obtain ⟨a, ns, rfl, _⟩ := h; rfl
  · obtain ⟨a, ns, rfl, hS, hn, q⟩ := h
    refine ⟨_, (pss_cons (ps_set (i := 1) sc__law_blocks.nd rfl (Or.inl rfl) (pe_lst pa_nil)) (pss_cons (ps_set (i := 2) sc__law_blocks.nd rfl (Or.inl rfl) (pe_lst pa_nil)) (pss_cons (ps_set (i := 3) sc__law_blocks.nd rfl (Or.inl rfl) (pe_lst pa_nil)) (pss_cons (ps_for PassesOwn.never rfl (pi_range1 (by rfl) M.n_range (pa_cons pe_int pa_nil)) (pg_name (i := 4) sc__law_blocks.nd rfl (Or.inl rfl)) (pss_cons (ps_set (i := 5) sc__law_blocks.nd rfl (Or.inl rfl) (pe_cal c__law_data (hr.mono (by omega)) (by rfl) (pa_cons (pe_cal c__law_draw (hr.mono (by omega)) (by rfl) (pa_cons (pv 0) (pa_cons (pv 4) pa_nil))) pa_nil))) (pss_cons (ps_set (i := 6) sc__law_blocks.nd rfl (Or.inl rfl) (pe_cal c_log_block (hr.mono (by omega)) (by rfl) (pa_cons (pe_callTy list_l (by rfl) M.n_list (by decide +kernel) (pa_cons (pv 5) pa_nil)) pa_nil))) (pss_cons (ps_set (i := 7) sc__law_blocks.nd rfl (Or.inl rfl) (pe_op op_cat (pe_cal c__law_fixed (hr.mono (by omega)) (by rfl) (pa_cons (pe_callB len_l (by rfl) M.n_len PySem.boot_len (pa_cons (pv 5) pa_nil)) (pa_cons pe_int pa_nil))) (pv 5))) (pss_cons (ps_set (i := 7) sc__law_blocks.nd rfl (Or.inl rfl) (pe_op op_cat (pv 7) (pe_lc (own := [("place", 11)]) (g := (gName 11)) (tt := tYes) (by rfl) sc__law_blocks.nd (pi_range1 (by rfl) M.n_range (pa_cons (pe_op op_mod (pe_op op_sub pe_int (pe_op op_mod (pe_callB len_l (by rfl) M.n_len PySem.boot_len (pa_cons (pv 7) pa_nil)) pe_int)) pe_int) pa_nil)) (blkOk_by (own := [("place", 11)]) (N := ["script", "sectors", "starts", "rows", "k", "data", "block", "whole", "joined", "sector", "end", "place"]) (sc := defScope s__law_blocks) (by decide +kernel)) (fun _ _ _ _ _ => (pg_name (i := 11) sc__law_blocks.nd rfl (Or.inl rfl))) (fun _ _ _ _ _ => pts_nil) (fun _ _ _ _ _ => pe_int)))) (pss_cons (ps_set (i := 8) sc__law_blocks.nd rfl (Or.inl rfl) (pe_lst pa_nil)) (pss_cons (ps_for PassesOwn.never rfl (pi_l (pv 6)) (pg_name (i := 9) sc__law_blocks.nd rfl (Or.inl rfl)) (pss_cons (ps_if (pt_cmpR op_ne (pe_callB len_l (by rfl) M.n_len PySem.boot_len (pa_cons (pv 9) pa_nil)) pe_int (nomark _)) (pss_one (ps_ret pe_bl)) pss_nil) (pss_one (ps_set (i := 8) sc__law_blocks.nd rfl (Or.inl rfl) (pe_op op_cat (pv 8) (pv 9)))))) (pss_cons (ps_if (pt_cmpR (op_neD hr.units) (pv 8) (pv 7) (nomark _)) (pss_one (ps_ret pe_bl)) pss_nil) (pss_cons (ps_expr (pe_mt PySem.F.slot_list_append PySem.F.type_list_append mt_append (pv 2) (pa_cons (pe_callB len_l (by rfl) M.n_len PySem.boot_len (pa_cons (pv 1) pa_nil)) pa_nil))) (pss_cons (ps_expr (pe_mt PySem.F.slot_list_append PySem.F.type_list_append mt_append (pv 3) (pa_cons (pv 5) pa_nil))) (pss_one (ps_set (i := 1) sc__law_blocks.nd rfl (Or.inl rfl) (pe_op op_cat (pv 1) (pv 6)))))))))))))) (pss_cons (ps_for PassesOwn.never rfl (pi_range1 (by rfl) M.n_range (pa_cons pe_int pa_nil)) (pg_name (i := 4) sc__law_blocks.nd rfl (Or.inl rfl)) (pss_cons (ps_set (i := 10) sc__law_blocks.nd rfl (Or.inl rfl) (pe_ix ix_l (pe_op op_cat (pv 2) (pe_lst (pa_cons (pe_callB len_l (by rfl) M.n_len PySem.boot_len (pa_cons (pv 1) pa_nil)) pa_nil))) (pe_op op_add (pv 4) pe_int) (fun _ _ => rfl))) (pss_one (ps_if (PW.pt (pw_or (pt_cmpR (op_neD hr.units) (pe_cal c_read_block (hr.mono (by omega)) (by rfl) (pa_cons (pe_callTy list_l (by rfl) M.n_list (by decide +kernel) (pa_cons (pv 1) pa_nil)) (pa_cons (pe_ix ix_l (pv 2) (pv 4) (fun _ _ => rfl)) pa_nil))) (pe_tup (pa_cons (pe_ix ix_l (pv 3) (pv 4) (fun _ _ => rfl)) (pa_cons (pv 10) pa_nil))) (nomark _)) (pw_or1 (pt_cmpR op_notN1 (pe_cal c_read_block (hr.mono (by omega)) (by rfl) (pa_cons (pe_slice sl_l (pv 1) po_none (po_some (pe_op op_sub (pv 10) pe_int))) (pa_cons (pe_ix ix_l (pv 2) (pv 4) (fun _ _ => rfl)) pa_nil))) pe_non (nomark _))))) (pss_one (ps_ret pe_bl)) pss_nil)))) (pss_one (ps_ret (pe_cmpR op_isN1 (pe_cal c_read_block (hr.mono (by omega)) (by rfl) (pa_cons (pv 1) (pa_cons (pe_callB len_l (by rfl) M.n_len PySem.boot_len (pa_cons (pv 1) pa_nil)) pa_nil))) pe_non (nomark _))))))))), ?_⟩
    refine iBody (by repeat constructor) ?_
    walk_at "go"
    refine iNewL (by simp) fun p0 hp0 => ?_
    walk_at "go"
    refine iNewL (by simp) fun st hst => ?_
    walk_at "go"
    refine iNewL (by simp) fun rw0 hrw => ?_
    walk_at "go"
    have n1 : p0 ≠ st := ne_of_none upd_same hst
    have n2 : p0 ≠ rw0 := ne_of_none ((upd_ne n1).trans upd_same) hrw
    have n3 : st ≠ rw0 := ne_of_none upd_same hrw
    have x0 : Ex H (upd (upd (upd H p0 (.lst [])) st (.lst [])) rw0 (.lst [])) := (Ex.new hp0).trans ((Ex.new hst).trans (Ex.new hrw))
    have s0 : H st = none := back_none (Ex.new hp0) hst
    have r0 : H rw0 = none := back_none ((Ex.new hp0).trans (Ex.new hst)) hrw
    have mA : ∀ p, p ∈ [st, rw0] ↔ p = st ∨ p = rw0 := fun p => by simp
    refine forJ_range0 (fun i σ' H' => ∃ (ds : List (List Nat)) (v : V) (rvs : List V) (u1 u2 u3 u4 u5 u6 u7 u8 : Option V), (σ' = [some (.ref a), some v, some (.ref st), some (.ref rw0), u1, u2, u3, u4, u5, u6, u7, u8]) ∧ Ex H H' ∧ ds.length = i ∧ (∀ d ∈ ds, d.length ≤ 300) ∧ H' st = some (.lst (stV ds i)) ∧ H' rw0 = some (.lst rvs) ∧ AtAll (mks [st, rw0] H') rvs (ds.map nD) ∧ At (mks [st, rw0] H') v (sD (ds.flatMap blk))) ?_ (fun i σ' H' hi h => ?_) (fun σ' H' h => ?_)
    · refine ⟨[], .ref p0, [], none, none, none, none, none, none, none, none, rfl, x0, rfl, fun d hd => by simp at hd, (upd_ne n3).trans upd_same, upd_same, .nil, ?_⟩
      refine .lst (xs := []) ?_ .nil
      rw [mks_at (by rw [mA]; rintro (z | z); exact n1 z; exact n2 z)]
      exact (upd_ne n2).trans ((upd_ne n1).trans upd_same)
    · obtain ⟨ds, v, rvs, u1, u2, u3, u4, u5, u6, u7, u8, rfl, x1, hdl, hds, hst1, hrw1, hrv, hv⟩ := h
      have hi : i < 3 := hi
      have hne : ∀ p ∈ [st, rw0], H' p ≠ none := fun p hp => by
        rcases (mA p).mp hp with rfl | rfl
        · rw [hst1]; exact fun z => by cases z
        · rw [hrw1]; exact fun z => by cases z
      walk_at "go"
      refine j_draw (Evl.ex_l x1 hS) hn (by omega) fun number => ?_
      walk_at "go"
      refine j_data fun pd H1 hpd e1 hd1 => ?_
      generalize hD : dataOf number = d at hd1
      have hd300 : d.length ≤ 300 := by rw [← hD]; unfold dataOf; rw [List.length_map, List.length_range]; omega
      walk_at "go"
      refine iListL hd1 fun pl hpl => ?_
      walk_at "go"
      refine j_log_block upd_same (by omega) fun vb H2 e2 ab => ?_
      have e12 : Ex H' H2 := e1.trans ((Ex.new hpl).trans e2)
      have ab' : At (dif H' H2) vb (sD (blk d)) := ab.ex (dif_back (e1.trans (Ex.new hpl)))
      obtain ⟨pb, bvs, rfl, hpb, hbv⟩ := ab'.sec
      have hpb' := (dif_to hpb).2
      have hd2 : H2 pd = some (.lst (nL d)) := e2 _ _ ((upd_ne (ne_of_none hd1 hpl)).trans hd1)
      walk_at "go"
      rw [nL_len]
      refine j_fixed (c := 4) (by decide) fun pw H3 hpw e3 hw3 => ?_
      have hd3 := e3 _ _ hd2
      walk_at "go"
      refine iCat hw3 hd3 (by rw [nL_len, nL_len, fx_len]; omega) fun pw2 hpw2 => ?_
      rw [← nL_app]
      walk_at "go"
      rw [nL_len, List.length_append, fx_len]
      have e24 : Ex H2 (upd H3 pw2 (.lst (nL (fx d.length 4 ++ d)))) := e3.trans (Ex.new hpw2)
      have hw4 : (upd H3 pw2 (.lst (nL (fx d.length 4 ++ d)))) pw2 = some (.lst (nL (fx d.length 4 ++ d))) := upd_same
      generalize upd H3 pw2 (.lst (nL (fx d.length 4 ++ d))) = H4 at e24 hw4 ⊢
      rw [show (((32 : Int) - ((4 + d.length : Nat) : Int) % 32) % 32).toNat = padN (4 + d.length) by unfold padN; omega]
      refine lcF_r0 (fun _ => V.int ((0 : Nat) : Int)) (by repeat constructor) (fun D j H5 hD hj hacc e5 => ?_) (fun D H5 hD e5 hacc => ?_)
      · walk_at "go"
        exact iLcF hD (by unfold padN at hj; omega) e5 hacc rfl
      · have hz : (List.range (padN (4 + d.length))).map (fun _ => V.int ((0 : Nat) : Int)) = nL (List.replicate (padN (4 + d.length)) 0) := by
          unfold nL
          rw [List.map_replicate, List.map_const', List.length_range]
        rw [hz] at hacc
        walk_at "go"
        refine iCat (e5 _ _ hw4) hacc (by rw [nL_len, nL_len, List.length_append, fx_len, List.length_replicate]; unfold padN; omega) fun pw3 hpw3 => ?_
        rw [← nL_app, show fx d.length 4 ++ d ++ List.replicate (padN (4 + d.length)) 0 = wholeOf d from rfl]
        walk_at "go"
        refine iNewL (by simp) fun pj hpj => ?_
        walk_at "go"
        have hw6 : (upd (upd H5 pw3 (.lst (nL (wholeOf d)))) pj (.lst [])) pw3 = some (.lst (nL (wholeOf d))) := (upd_ne (ne_of_none upd_same hpj)).trans upd_same
        have hj6 : (upd (upd H5 pw3 (.lst (nL (wholeOf d)))) pj (.lst [])) pj = some (.lst (nL [])) := upd_same
        have e26 : Ex H2 (upd (upd H5 pw3 (.lst (nL (wholeOf d)))) pj (.lst [])) := e24.trans (e5.trans ((Ex.new hpw3).trans (Ex.new hpj)))
        generalize upd (upd H5 pw3 (.lst (nL (wholeOf d)))) pj (.lst []) = H6 at hw6 hj6 e26 ⊢
        refine iItL (e26 _ _ hpb') ?_
        refine forJ_list bvs (fun j σ' H7 => (∃ pj u, σ' = [some (.ref a), some v, some (.ref st), some (.ref rw0), some (.int i), some (.ref pd), some (.ref pb), some (.ref pw3), some (.ref pj), u, u7, u8] ∧ H7 pj = some (.lst (nL ((blk d).take j).flatten))) ∧ Ex H6 H7) ⟨⟨pj, _, rfl, hj6⟩, Ex.rfl' _⟩ (fun j σ' H7 _ h => h.2 _ _ (e26 _ _ hpb')) (fun j x σ' H7 hx h => ?_) (fun σ' H7 h => ?_)
        · obtain ⟨⟨pj, u, rfl, hj7⟩, e67⟩ := h
          obtain ⟨s1, pn, hs1, rfl, hpn⟩ := hbv.secV hx
          have hpn7 := e67 _ _ (e26 _ _ ((dif_to hpn).2))
          have l32 := (chunks_at hs1).2
          have l32' : ((nL s1).length : Int) = 32 := by rw [nL_len, l32]; rfl
          have hjl := (List.getElem?_eq_some_iff.mp hs1).1
          have hbl := blk_len d
          have fl : ((blk d).take j).flatten.length = 32 * j := by
            rw [flat_len (S := (blk d).take j) fun s hs => chunks_all (xs := wholeOf d) s (List.mem_of_mem_take hs), List.length_take]
            omega
          walk_at "go"
          refine iCat hj7 hpn7 (by rw [nL_len, nL_len, fl]; omega) fun pj2 hpj2 => ?_
          rw [← nL_app, ← flat_snoc _ _ hs1]
          walk_at "go"
          exact ⟨⟨pj2, _, rfl, upd_same⟩, e67.trans (Ex.new hpj2)⟩
        · obtain ⟨⟨pj, u, rfl, hj7⟩, e67⟩ := h
          have e17 : Ex H' H7 := e12.trans (e26.trans e67)
          have hw7 := e67 _ _ hw6
          rw [hbv.secs, List.take_of_length_le (Nat.le_refl _), blk_flat] at hj7
          walk_at "go"
          refine iNeN hj7 hw7 ?_
          walk_at "go"
          obtain ⟨ps, svs, rfl, hps, hsv⟩ := hv.sec
          have hsl := hsv.secs
          have hsA := (mks_to hps).1
          have hps7 := e17 _ _ (mks_to hps).2
          have hst7 := e17 _ _ hst1
          have hrw7 := e17 _ _ hrw1
          have hll := blks_len hds
          have hrl := hrv.length
          rw [List.length_map] at hrl
          have hs1 : ps ≠ st := fun z => hsA ((mA ps).mpr (.inl z))
          have hs2 : ps ≠ rw0 := fun z => hsA ((mA ps).mpr (.inr z))
          have hb1 : pb ≠ st := fun z => hne st (by simp) (z ▸ (dif_to hpb).1)
          have hb2 : pb ≠ rw0 := fun z => hne rw0 (by simp) (z ▸ (dif_to hpb).1)
          refine iMt rfl hst7 ?_
          walk_at "go"
          refine iApp hst7 (by unfold stV; rw [List.length_map, List.length_range]; omega) ?_
          walk_at "go"
          refine iMt rfl ((upd_ne n3.symm).trans hrw7) ?_
          walk_at "go"
          refine iApp ((upd_ne n3.symm).trans hrw7) (by omega) ?_
          walk_at "go"
          have em : mks [st, rw0] (upd (upd H7 st (.lst (stV ds i ++ [V.int svs.length]))) rw0 (.lst (rvs ++ [V.ref pd]))) = mks [st, rw0] H7 := by rw [mks_upd (by simp), mks_upd (by simp)]
          have hG1 : (upd (upd H7 st (.lst (stV ds i ++ [V.int svs.length]))) rw0 (.lst (rvs ++ [V.ref pd]))) ps = some (.lst svs) := (upd_ne hs2).trans ((upd_ne hs1).trans hps7)
          have hG2 : (upd (upd H7 st (.lst (stV ds i ++ [V.int svs.length]))) rw0 (.lst (rvs ++ [V.ref pd]))) pb = some (.lst bvs) := (upd_ne hb2).trans ((upd_ne hb1).trans (e67 _ _ (e26 _ _ hpb')))
          have hG3 : (upd (upd H7 st (.lst (stV ds i ++ [V.int svs.length]))) rw0 (.lst (rvs ++ [V.ref pd]))) st = some (.lst (stV ds i ++ [V.int svs.length])) := (upd_ne n3).trans upd_same
          have hG4 : (upd (upd H7 st (.lst (stV ds i ++ [V.int svs.length]))) rw0 (.lst (rvs ++ [V.ref pd]))) rw0 = some (.lst (rvs ++ [V.ref pd])) := upd_same
          have hG5 : Ex H (upd (upd H7 st (.lst (stV ds i ++ [V.int svs.length]))) rw0 (.lst (rvs ++ [V.ref pd]))) := ex_upd r0 (ex_upd s0 (x1.trans e17))
          generalize upd (upd H7 st (.lst (stV ds i ++ [V.int svs.length]))) rw0 (.lst (rvs ++ [V.ref pd])) = G at em hG1 hG2 hG3 hG4 hG5 ⊢
          refine iCat hG1 hG2 (by rw [hsl, hbv.secs, blk_len]; omega) fun px hpx => ?_
          walk_at "go"
          have eA : Ex (mks [st, rw0] H') (mks [st, rw0] (upd G px (.lst (svs ++ bvs)))) := by
            refine Ex.trans (mks_mono e17) ?_
            rw [← em]
            exact mks_mono (Ex.new hpx)
          have eB : Ex (dif H' H7) (mks [st, rw0] (upd G px (.lst (svs ++ bvs)))) := by
            refine Ex.trans (dif_mks hne) ?_
            rw [← em]
            exact mks_mono (Ex.new hpx)
          have hpxA : px ∉ [st, rw0] := by
            rw [mA]
            rintro (rfl | rfl)
            · rw [hG3] at hpx; cases hpx
            · rw [hG4] at hpx; cases hpx
          have hst5 : stV (ds ++ [d]) (i + 1) = stV ds i ++ [V.int svs.length] := by
            unfold stV
            rw [List.range_succ, List.map_append, List.map_singleton, hsl]
            refine congr (congrArg _ (List.map_congr_left fun k hk => ?_)) ?_
            · have := List.mem_range.mp hk
              rw [List.take_append_of_le_length (by omega)]
            · rw [List.take_append_of_le_length (by omega), List.take_of_length_le (by omega)]
          have hd7 : H7 pd = some (.lst (nL d)) := e67 _ _ (e26 _ _ hd2)
          refine ⟨ds ++ [d], .ref px, rvs ++ [.ref pd], _, _, _, _, _, _, _, _, rfl, hG5.trans (Ex.new hpx), by rw [List.length_append, hdl]; rfl, fun e he => ?_, ?_, ?_, ?_, ?_⟩
          · rcases List.mem_append.mp he with h | h
            · exact hds e h
            · rw [List.mem_singleton] at h; subst h; exact hd300
          · rw [hst5]
            exact (upd_ne (ne_of_none hG3 hpx)).trans hG3
          · exact (upd_ne (ne_of_none hG4 hpx)).trans hG4
          · rw [List.map_append, List.map_singleton]
            exact (AtAll.ex eA _ hrv).append (.one (At.ex eB _ (nL_at (dif_of hpd hd7))))
          · refine .lst ((mks_at hpxA).trans upd_same) ?_
            rw [List.flatMap_append, List.flatMap_singleton, List.map_append]
            exact (AtAll.ex eA _ hsv).append (AtAll.ex (Ex.trans (dif_mono (e26.trans e67)) eB) _ hbv)
    · obtain ⟨ds, v, rvs, u1, u2, u3, u4, u5, u6, u7, u8, rfl, x1, hdl, hds, hst1, hrw1, hrv, hv⟩ := h
      have hdl : ds.length = 3 := hdl
      have hst1 : H' st = some (.lst (stV ds 3)) := hst1
      obtain ⟨ps, svs, rfl, hps, hsv⟩ := (hv.ex mks_ex).sec
      have hrv := AtAll.ex mks_ex _ hrv
      have hv : At H' (.ref ps) (sD (ds.flatMap blk)) := .lst hps hsv
      have hsl := hsv.secs
      have hll := blks_len hds
      have hst4 : stV ds 3 ++ [V.int svs.length] = stV ds 4 := by
        unfold stV
        rw [List.range_succ (n := 3), List.map_append, List.map_singleton, hsl, List.take_of_length_le (i := 3) (by omega)]
      have hstk : ∀ k n : Nat, k < n → (stV ds n)[k]? = some (V.int ((((ds.take k).flatMap blk).length : Nat) : Int)) := fun k n hk => by
        unfold stV
        rw [List.getElem?_map, List.getElem?_range hk]
        rfl
      walk_at "go"
      refine forJ_range0 (fun i σ' H'' => (∃ u1 u7, σ' = [some (.ref a), some (.ref ps), some (.ref st), some (.ref rw0), u1, u2, u3, u4, u5, u6, u7, u8]) ∧ Ex H' H'') ?_ (fun k σ' H2 hk h => ?_) (fun σ' H2 h => ?_)
      · exact ⟨⟨_, _, rfl⟩, Ex.rfl' _⟩
      · obtain ⟨⟨u1, u7, rfl⟩, x2⟩ := h
        have hk : k < 3 := hk
        obtain ⟨d, hdk⟩ : ∃ d, ds[k]? = some d := ⟨_, List.getElem?_eq_getElem (by omega)⟩
        have hd300 := hds d (List.mem_of_getElem? hdk)
        obtain ⟨sp1, sp2⟩ := blks_split hdk
        have hps2 := x2 _ _ hps
        walk_at "go"
        refine iNewL (by simp) fun z hz => ?_
        walk_at "go"
        have hst2 := x2 _ _ hst1
        refine iCat ((upd_ne (ne_of_none hst2 hz)).trans hst2) upd_same (by unfold stV; rw [List.length_map, List.length_range]; simp) fun z2 hz2 => ?_
        rw [hst4]
        have x3 : Ex H2 (upd (upd H2 z (.lst [V.int svs.length])) z2 (.lst (stV ds 4))) := (Ex.new hz).trans (Ex.new hz2)
        have hz22 : (upd (upd H2 z (.lst [V.int svs.length])) z2 (.lst (stV ds 4))) z2 = some (.lst (stV ds 4)) := upd_same
        generalize upd (upd H2 z (.lst [V.int svs.length])) z2 (.lst (stV ds 4)) = H3 at x3 hz22 ⊢
        walk_at "go"
        rw [show (k : Int) + 1 = ((k + 1 : Nat) : Int) by push_cast; rfl]
        refine iIxL hz22 ((atI_natL _ _).trans (hstk (k + 1) 4 (by omega))) ?_
        walk_at "go"
        refine iListL (x3 _ _ hps2) fun pl hpl => ?_
        have x4 : Ex H' (upd H3 pl (.lst svs)) := x2.trans (x3.trans (Ex.new hpl))
        walk_at "go"
        refine iIxL (x4 _ _ hst1) ((atI_natL _ _).trans (hstk k 3 hk)) ?_
        walk_at "go"
        refine j_read_block (.lst (xs := svs) upd_same (AtAll.ex x4 _ hsv)) blks_32 (by omega) ?_
        have hb1 : readB (ds.flatMap blk) ((ds.take k).flatMap blk).length = some (d, ((ds.take k).flatMap blk).length + (blk d).length) := by
          rw [sp1]
          exact readB_blk (by omega)
        rw [hb1]
        intro v H5 e5 a5
        have x5 := x4.trans e5
        obtain ⟨rv, hrv1, hrv2⟩ := hrv.get (i := k) (d := nD d) (by rw [List.getElem?_map, hdk]; rfl)
        walk_at "go"
        refine iIxL (x5 _ _ hrw1) ((atI_natL _ _).trans hrv1) ?_
        walk_at "go"
        refine iNewT (by simp) fun T hT => ?_
        have x6 := x5.trans (Ex.new (o := .tup [rv, V.int ((((ds.take (k + 1)).flatMap blk).length : Nat) : Int)]) hT)
        have em : ((ds.take k).flatMap blk).length + (blk d).length = ((ds.take (k + 1)).flatMap blk).length := by rw [sp2, List.length_append]
        rw [em] at a5
        refine iNeAt (a5.nw.ex (Ex.new hT)) (.tup upd_same (.cons (hrv2.ex x6) (.cons (.int _) .nil))) (Dep.tuple fun e he => by
          simp only [List.mem_cons, List.not_mem_nil, or_false] at he
          rcases he with rfl | rfl
          · exact Dep.nD
          · exact Dep.int) ?_
        walk_at "go"
        generalize upd H5 T (.tup [rv, V.int ((((ds.take (k + 1)).flatMap blk).length : Nat) : Int)]) = H6 at x6 ⊢
        have hpos : 1 ≤ ((ds.take (k + 1)).flatMap blk).length := by
          have := blk_len d
          omega
        refine iSlL (x6 _ _ hps) fun y hy => ?_
        rw [show ((((ds.take (k + 1)).flatMap blk).length : Nat) : Int) - 1 = ((((ds.take (k + 1)).flatMap blk).length - 1 : Nat) : Int) by omega, cut_to]
        walk_at "go"
        refine iIxL ((upd_ne (ne_of_none (x6 _ _ hst1) hy)).trans (x6 _ _ hst1)) ((atI_natL _ _).trans (hstk k 3 hk)) ?_
        walk_at "go"
        refine j_read_block (S := (ds.flatMap blk).take (((ds.take (k + 1)).flatMap blk).length - 1)) (.lst upd_same (by
          rw [List.map_take]
          exact AtAll.take _ (AtAll.ex (x6.trans (Ex.new hy)) _ hsv))) (fun s hs => blks_32 s (List.mem_of_mem_take hs)) (by rw [List.length_take]; omega) ?_
        have hb2 : readB ((ds.flatMap blk).take (((ds.take (k + 1)).flatMap blk).length - 1)) ((ds.take k).flatMap blk).length = none := by
          rw [sp1, List.take_append_of_le_length (by rw [← em, List.length_append]; omega), ← em]
          exact readB_cut (by omega)
        rw [hb2]
        intro H7 e7
        walk_at "go"
        exact ⟨⟨_, _, rfl⟩, x6.trans ((Ex.new hy).trans e7)⟩
      · obtain ⟨⟨u1, u7, rfl⟩, x2⟩ := h
        walk_at "go"
        refine j_read_block (hv.ex x2) blks_32 (by omega) ?_
        rw [readB_none (by omega)]
        intro H3 e3
        walk_at "go"
        rw [decide_eq_true rfl]
        exact q H3 (x1.trans (x2.trans e3))
end
end R
set_option Elab.async false
set_option linter.all false
set_option maxRecDepth 100000
set_option maxHeartbeats 4000000
namespace R
open PySem PySem.Spec L2
open Evl (Ex)
abbrev s__law_tails : Stmt := topS 21
theorem sc__law_tails : FnScope ["number", "commits", "told", "sector", "due", "place", "changed", "k"] ["number"] (defScope s__law_tails) := ⟨rfl, rfl, rfl, by decide +kernel, rfl, by decide +kernel, by decide +kernel⟩
abbrev s_law : Stmt := topS 23
theorem sc_law : FnScope ["script", "number"] ["script"] (defScope s_law) := ⟨rfl, rfl, rfl, by decide +kernel, rfl, by decide +kernel, by decide +kernel⟩

local macro_rules | `(tactic| walk_at "ne") => `(tactic| (first | assumption | (apply Ne.symm; assumption) | (apply ne_fresh; (· assumption); (· walk_at "look")) | (apply Ne.symm; apply ne_fresh; (· assumption); (· walk_at "look"))))
local macro_rules | `(tactic| walk_at "look") => `(tactic| (first | assumption | exact upd_same | (refine (upd_ne ?_).trans ?_; (· walk_at "ne"); (· walk_at "look")) | (refine exAt (by assumption) ?_; walk_at "look")))
local macro_rules | `(tactic| walk_at "side") => `(tactic| (first | (exact Or.inl ⟨by omega, by omega⟩) | (exact Or.inr ⟨by omega, by omega⟩) | (show (0:Int) < _; omega) | (show (0:Int) ≤ _; omega) | (exact ⟨by omega, by omega⟩) | (exact ⟨by decide, by decide, by decide⟩)))
local macro_rules | `(tactic| walk_at "go") => `(tactic| (repeat (first | (with_reducible refine iSeq ?_) | (with_reducible refine iAsg ?_) | ((with_reducible apply iName); (· repeat constructor)) | ((with_reducible apply iVar); (· rfl)) | (with_reducible refine iC ?_) | (with_reducible refine iOp ?_) | (with_reducible refine iI0 ?_) | (with_reducible refine iCons ?_) | (with_reducible refine iNil ?_) | (with_reducible refine iCB ?_) | (with_reducible refine iIfS ?_) | (with_reducible refine iTest ?_) | (with_reducible refine iBl ?_) | (with_reducible refine iRet ?_) | (with_reducible refine iNext ?_) | (with_reducible refine iDrop ?_) | (with_reducible refine iEqI ?_) | (with_reducible refine iNeI ?_) | (with_reducible refine iInt ?_) | (with_reducible refine iFor ?_) | (with_reducible refine iRng ?_) | (with_reducible refine iCal ?_) | (with_reducible refine iAnd ?_) | (with_reducible refine iOr ?_) | (with_reducible refine iNot ?_) | (with_reducible refine iB ?_) | (with_reducible refine iIf ?_) | (with_reducible refine iChain ?_) | (with_reducible refine iUn ?_) | (with_reducible refine iU ?_) | (with_reducible refine iRetN ?_) | (with_reducible refine iIsN ?_) | (with_reducible refine iNotN ?_) | (with_reducible refine iTruI ?_) | (with_reducible refine ifNDr ?_) | (with_reducible refine ifDr ?_) | (with_reducible refine iCalE ?_) | (with_reducible refine iMet ?_) | (with_reducible refine iMak ?_) | (with_reducible refine iFld ?_) | (with_reducible refine iSto ?_) | (with_reducible refine iAugF ?_) | (with_reducible refine iBM ?_) | (with_reducible refine iRev1 ?_) | (with_reducible refine iRai ?_) | (with_reducible refine iPr ?_) | (with_reducible refine iPn ?_) | (with_reducible refine iIntB ?_) | (with_reducible refine iIsB ?_) | (with_reducible refine iNotBl ?_) | (with_reducible refine iDGet1 ?_) | (with_reducible refine iAndV ?_) | (with_reducible refine iOrV ?_) | (with_reducible refine iNotV ?_) | (with_reducible refine iAugS ?_) | (with_reducible refine iIpI ?_) | (with_reducible refine iSub ?_) | (with_reducible refine iLst ?_) | (with_reducible refine iTup ?_) | (with_reducible refine iIterL ?_) | (with_reducible refine iBreak ?_) | (with_reducible refine iCont ?_) | (with_reducible refine iEqB ?_) | (with_reducible refine iNeB ?_) | (with_reducible refine iEqS ?_) | (with_reducible refine iNeS ?_) | (with_reducible refine iLc ?_) | (with_reducible refine iYes ?_) | (with_reducible refine iDGet ?_) | (with_reducible refine iDIn ?_) | (with_reducible refine iDNotIn ?_) | (with_reducible refine iDPut ?_) | (with_reducible refine iRng2 ?_) | (with_reducible refine iZipK ?_) | (with_reducible refine iGCons ?_) | (with_reducible refine iGNil ?_) | (with_reducible refine iDEa ?_) | (with_reducible refine iSl ?_) | (with_reducible refine iPart ?_) | (with_reducible refine iPartI ?_) | (with_reducible refine iNoPart ?_) | (with_reducible refine iRv ?_) | (with_reducible refine iRg3 ?_) | (with_reducible refine iZA ?_) | ((with_reducible apply iRngI); (· first | decide | omega); (· first | decide | omega)) | ((with_reducible apply iAugK); (· rfl)) | ((with_reducible apply iI); rotate_left; (· (first | (exact Or.inl ⟨by omega, by omega⟩) | (exact Or.inr ⟨by omega, by omega⟩) | (show (0:Int) < _; omega) | (show (0:Int) ≤ _; omega) | (exact ⟨by omega, by omega⟩) | (exact ⟨by decide, by decide, by decide⟩)))) | ((with_reducible apply iIxL); (· walk_at "look"); (· rfl)) | ((with_reducible apply iLenL); (· walk_at "look")) | ((with_reducible apply iSetL); (· walk_at "look"); (· rfl)) | ((with_reducible apply iIxT); (· walk_at "look"); (· rfl)) | ((with_reducible apply iIsi); (· first | exact tyN_int | exact tyN_bl | exact tyN_non | exact tyN_str | exact tyN_lst (by walk_at "look") | exact tyN_tup (by walk_at "look")); (· (first | exact kb_NoneType_bool | exact kb_NoneType_int | exact kb_NoneType_str | exact kb_NoneType_tuple | exact kb_NoneType_list | exact kb_bool_bool | exact kb_bool_int | exact kb_bool_str | exact kb_bool_tuple | exact kb_bool_list | exact kb_int_bool | exact kb_int_int | exact kb_int_str | exact kb_int_tuple | exact kb_int_list | exact kb_str_bool | exact kb_str_int | exact kb_str_str | exact kb_str_tuple | exact kb_str_list | exact kb_tuple_bool | exact kb_tuple_int | exact kb_tuple_str | exact kb_tuple_tuple | exact kb_tuple_list | exact kb_list_bool | exact kb_list_int | exact kb_list_str | exact kb_list_tuple | exact kb_list_list))) | ((with_reducible apply iLenT); (· walk_at "look")) | ((with_reducible apply iLenS); (· first | exact Or.inl (by walk_at "look") | exact Or.inr (by walk_at "look"))) | ((with_reducible apply ifT); (· rfl)) | ((with_reducible apply ifF); (· rfl)) | ((with_reducible apply ifT); (· apply decide_eq_true; omega)) | ((with_reducible apply ifF); (· apply decide_eq_false; omega)) | ((with_reducible apply ifNp); (· omega)) | ((with_reducible apply ifNn); (· omega)) | ((with_reducible apply iLcB); (· rfl)) | ((with_reducible apply iGTup); (· walk_at "look"); (· rfl)) | ((with_reducible apply iDIi); (· walk_at "look")) | ((with_reducible apply iDNi); (· walk_at "look")) | ((with_reducible apply iRng2I); (· omega); (· omega); (· omega); (· omega)) | ((with_reducible apply iItL); (· walk_at "look")) | ((with_reducible apply iZL); (· walk_at "look"); (· walk_at "look")))))
section
variable {P : Program} {w : World} {K : PySem.W.Frag} {mg : Str → Option Value} {base : Heap}
def sp__law_tails : Sp := fun vs H Q _ => ∃ n : Nat, vs = [.int n] ∧ n < 1000000 ∧ ∀ H', Ex H H' → Q (.bl true) H'
theorem ok__law_tails (M : Mg mg) {f : Addr} {fd : FuncData} (F : Fun K "_law_tails" "_law_tails" s__law_tails f fd) (c__law_fixed : Cal P w K mg base 1 "_law_fixed" ["number", "count"] sp__law_fixed)
    (c_tail : Cal P w K mg base 2 "tail" ["commits", "area", "image", "counting"] sp_tail) (c_read_tail : Cal P w K mg base 3 "read_tail" ["sector"] sp_read_tail) : FnOk P w K mg base CX0 4 f fd ["number"] sp__law_tails := by
  refine F.ok sc__law_tails (fun vs H Q E h => ?_) (fun cdv A outer s H vs Q E hr h => ?_)
  · obtain ⟨n, rfl, _⟩ := h; rfl
  · obtain ⟨n, rfl, hn, q⟩ := h
    refine ⟨_, (pss_cons (ps_set (i := 1) sc__law_tails.nd rfl (Or.inl rfl) (pe_op op_mul (pv 0) (pv 0))) (pss_cons (ps_set (i := 2) sc__law_tails.nd rfl (Or.inl rfl) (pe_tup (pa_cons (pv 1) (pa_cons (pe_op op_mod (pv 0) pe_int) (pa_cons (pe_op op_mod (pe_op op_fdiv (pv 0) pe_int) pe_int) (pa_cons (pe_op op_mod (pe_op op_fdiv (pv 0) pe_int) pe_int) pa_nil)))))) (pss_cons (ps_set (i := 3) sc__law_tails.nd rfl (Or.inl rfl) (pe_cal c_tail (hr.mono (by omega)) (by rfl) (pa_cons (pe_ix ix_t (pv 2) pe_int (fun _ _ => rfl)) (pa_cons (pe_ix ix_t (pv 2) pe_int (fun _ _ => rfl)) (pa_cons (pe_ix ix_t (pv 2) pe_int (fun _ _ => rfl)) (pa_cons (pe_ix ix_t (pv 2) pe_int (fun _ _ => rfl)) pa_nil)))))) (pss_cons (ps_set (i := 4) sc__law_tails.nd rfl (Or.inl rfl) (pe_op op_cat (pe_op op_cat (pe_op op_cat (pe_op op_cat (pe_lst (pa_cons pe_int (pa_cons pe_int (pa_cons pe_int (pa_cons pe_int pa_nil))))) (pe_cal c__law_fixed (hr.mono (by omega)) (by rfl) (pa_cons (pv 1) (pa_cons pe_int pa_nil)))) (pe_lst (pa_cons (pe_op op_mod (pv 0) pe_int) pa_nil))) (pe_cal c__law_fixed (hr.mono (by omega)) (by rfl) (pa_cons (pe_ix ix_t (pv 2) pe_int (fun _ _ => rfl)) (pa_cons pe_int pa_nil)))) (pe_cal c__law_fixed (hr.mono (by omega)) (by rfl) (pa_cons (pe_ix ix_t (pv 2) pe_int (fun _ _ => rfl)) (pa_cons pe_int pa_nil))))) (pss_cons (ps_set (i := 4) sc__law_tails.nd rfl (Or.inl rfl) (pe_op op_cat (pv 4) (pe_lc (own := [("k", 7)]) (g := (gName 7)) (tt := tYes) (by rfl) sc__law_tails.nd (pi_range1 (by rfl) M.n_range (pa_cons pe_int pa_nil)) (blkOk_by (own := [("k", 7)]) (N := ["number", "commits", "told", "sector", "due", "place", "changed", "k"]) (sc := defScope s__law_tails) (by decide +kernel)) (fun _ _ _ _ _ => (pg_name (i := 7) sc__law_tails.nd rfl (Or.inl rfl))) (fun _ _ _ _ _ => pts_nil) (fun _ _ _ _ _ => pe_int)))) (pss_cons (ps_if (PW.pt (pw_or (pt_cmpR (op_neD hr.units) (pv 3) (pv 4) (nomark _)) (pw_or (pt_cmpR (op_neD hr.units) (pe_cal c_read_tail (hr.mono (by omega)) (by rfl) (pa_cons (pe_callTy list_l (by rfl) M.n_list (by decide +kernel) (pa_cons (pv 3) pa_nil)) pa_nil)) (pv 2) (nomark _)) (pw_or1 (pt_cmpR op_notN1 (pe_cal c_read_tail (hr.mono (by omega)) (by rfl) (pa_cons pe_non pa_nil)) pe_non (nomark _)))))) (pss_one (ps_ret pe_bl)) pss_nil) (pss_cons (ps_for PassesOwn.never rfl (pi_l (pe_lst (pa_cons pe_int (pa_cons pe_int (pa_cons pe_int (pa_cons pe_int (pa_cons pe_int (pa_cons pe_int (pa_cons pe_int pa_nil))))))))) (pg_name (i := 5) sc__law_tails.nd rfl (Or.inl rfl)) (pss_cons (ps_set (i := 6) sc__law_tails.nd rfl (Or.inl rfl) (pe_callTy list_l (by rfl) M.n_list (by decide +kernel) (pa_cons (pv 3) pa_nil))) (pss_cons (ps_asg (pe_op op_mod (pe_op op_add (pe_op op_add (pe_ix ix_l (pv 6) (pv 5) (fun _ _ => rfl)) pe_int) (pe_op op_mod (pv 0) pe_int)) pe_int) (pg_sub (pv 6) (pv 5) set_list)) (pss_one (ps_if (pt_cmpR op_notN1 (pe_cal c_read_tail (hr.mono (by omega)) (by rfl) (pa_cons (pv 6) pa_nil)) pe_non (nomark _)) (pss_one (ps_ret pe_bl)) pss_nil))))) (pss_cons (ps_set (i := 6) sc__law_tails.nd rfl (Or.inl rfl) (pe_callTy list_l (by rfl) M.n_list (by decide +kernel) (pa_cons (pv 3) pa_nil))) (pss_cons (ps_asg (pe_op op_add pe_int (pe_op op_mod (pv 0) pe_int)) (pg_sub (pv 6) pe_int set_list)) (pss_one (ps_ret (pe_and (pe_cmpR op_isN1 (pe_cal c_read_tail (hr.mono (by omega)) (by rfl) (pa_cons (pv 6) pa_nil)) pe_non (nomark _)) (pe_one (pe_cmpR op_isN1 (pe_cal c_read_tail (hr.mono (by omega)) (by rfl) (pa_cons (pe_lc (own := [("k", 7)]) (g := (gName 7)) (tt := tYes) (by rfl) sc__law_tails.nd (pi_range1 (by rfl) M.n_range (pa_cons pe_int pa_nil)) (blkOk_by (own := [("k", 7)]) (N := ["number", "commits", "told", "sector", "due", "place", "changed", "k"]) (sc := defScope s__law_tails) (by decide +kernel)) (fun _ _ _ _ _ => (pg_name (i := 7) sc__law_tails.nd rfl (Or.inl rfl))) (fun _ _ _ _ _ => pts_nil) (fun _ _ _ _ _ => pe_int)) pa_nil)) pe_non (nomark _))))))))))))))), ?_⟩
    refine iBody (by repeat constructor) ?_
    walk_at "go"
    have en : (n : Int) * (n : Int) = ((n * n : Nat) : Int) := by push_cast; rfl
    have e2 : (n : Int) % 2 = ((n % 2 : Nat) : Int) := by omega
    have e3 : (n : Int) / 2 % 70000 = ((n / 2 % 70000 : Nat) : Int) := by omega
    have e4 : (n : Int) / 3 % 70000 = ((n / 3 % 70000 : Nat) : Int) := by omega
    rw [en, e2, e3, e4]
    refine iNewT (by simp) fun T hT => ?_
    have x1 : Ex H (upd H T (.tup [V.int ((n * n : Nat) : Int), .int ((n % 2 : Nat) : Int), .int ((n / 2 % 70000 : Nat) : Int), .int ((n / 3 % 70000 : Nat) : Int)])) := Ex.new hT
    have hTT : (upd H T (.tup [V.int ((n * n : Nat) : Int), .int ((n % 2 : Nat) : Int), .int ((n / 2 % 70000 : Nat) : Int), .int ((n / 3 % 70000 : Nat) : Int)])) T = some (.tup [V.int ((n * n : Nat) : Int), .int ((n % 2 : Nat) : Int), .int ((n / 2 % 70000 : Nat) : Int), .int ((n / 3 % 70000 : Nat) : Int)]) := upd_same
    generalize upd H T (.tup [V.int ((n * n : Nat) : Int), .int ((n % 2 : Nat) : Int), .int ((n / 2 % 70000 : Nat) : Int), .int ((n / 3 % 70000 : Nat) : Int)]) = H1 at x1 hTT ⊢
    have hnn : n * n < 256 ^ 6 := Nat.lt_of_lt_of_le (Nat.mul_lt_mul'' hn hn) (by decide)
    generalize hc : n * n = c at hTT hnn ⊢
    generalize ha : n % 2 = ar at hTT ⊢
    generalize hi : n / 2 % 70000 = im at hTT ⊢
    generalize hcc : n / 3 % 70000 = co at hTT ⊢
    have har : ar ≤ 1 := by omega
    have him : im < 256 ^ 4 := by omega
    have hco : co < 256 ^ 4 := by omega
    walk_at "go"
    refine j_tail fun v H2 ex2 a2 => ?_
    obtain ⟨ps, rfl, hps⟩ := a2.nw.nL
    have x2 := x1.trans ex2
    have hT2 := ex2 _ _ hTT
    walk_at "go"
    refine iNewL (by simp) fun p1 hp1 => ?_
    walk_at "go"
    refine j_fixed (c := 6) (by decide) fun p2 H3 hp2 ex3 h3 => ?_
    walk_at "go"
    refine iCat (ex3 _ _ upd_same) h3 (by rw [nL_len, fx_len]; simp) fun p3 hp3 => ?_
    rw [show [V.int 70, V.int 73, V.int 76, V.int 69] = nL signN from rfl, ← nL_app]
    have x3 : Ex H2 (upd H3 p3 (.lst (nL (signN ++ fx c 6)))) := (Ex.new hp1).trans (ex3.trans (Ex.new hp3))
    have h33 : (upd H3 p3 (.lst (nL (signN ++ fx c 6)))) p3 = some (.lst (nL (signN ++ fx c 6))) := upd_same
    generalize upd H3 p3 (.lst (nL (signN ++ fx c 6))) = H4 at x3 h33 ⊢
    walk_at "go"
    rw [show (n : Int) % 2 = ((ar : Nat) : Int) by rw [← ha]; push_cast; rfl]
    refine iNewL (by simp) fun p4 hp4 => ?_
    rw [show [V.int (ar : Int)] = nL (fx ar 1) by
      have : fx ar 1 = [ar] := by
        show [ar / 256 ^ 0 % 256] = [ar]
        rw [Nat.pow_zero, Nat.div_one, Nat.mod_eq_of_lt (by omega)]
      rw [this]; rfl]
    refine iCat ((upd_ne (ne_of_none h33 hp4)).trans h33) upd_same (by rw [nL_len, nL_len, List.length_append, fx_len, fx_len]; decide) fun p5 hp5 => ?_
    rw [← nL_app]
    have x5 : Ex H2 (upd (upd H4 p4 (.lst (nL (fx ar 1)))) p5 (.lst (nL (signN ++ fx c 6 ++ fx ar 1)))) := x3.trans ((Ex.new hp4).trans (Ex.new hp5))
    have h55 : (upd (upd H4 p4 (.lst (nL (fx ar 1)))) p5 (.lst (nL (signN ++ fx c 6 ++ fx ar 1)))) p5 = some (.lst (nL (signN ++ fx c 6 ++ fx ar 1))) := upd_same
    generalize upd (upd H4 p4 (.lst (nL (fx ar 1)))) p5 (.lst (nL (signN ++ fx c 6 ++ fx ar 1))) = H5 at x5 h55 ⊢
    walk_at "go"
    refine j_fixed (c := 4) (by decide) fun p6 H6 hp6 ex6 h6 => ?_
    walk_at "go"
    refine iCat (ex6 _ _ h55) h6 (by rw [nL_len, nL_len, List.length_append, List.length_append, fx_len, fx_len, fx_len]; decide) fun p7 hp7 => ?_
    rw [← nL_app]
    have x7 : Ex H2 (upd H6 p7 (.lst (nL (signN ++ fx c 6 ++ fx ar 1 ++ fx im 4)))) := x5.trans (ex6.trans (Ex.new hp7))
    have h77 : (upd H6 p7 (.lst (nL (signN ++ fx c 6 ++ fx ar 1 ++ fx im 4)))) p7 = some (.lst (nL (signN ++ fx c 6 ++ fx ar 1 ++ fx im 4))) := upd_same
    generalize upd H6 p7 (.lst (nL (signN ++ fx c 6 ++ fx ar 1 ++ fx im 4))) = H7 at x7 h77 ⊢
    walk_at "go"
    refine j_fixed (c := 4) (by decide) fun p8 H8 hp8 ex8 h8 => ?_
    walk_at "go"
    refine iCat (ex8 _ _ h77) h8 (by rw [nL_len, nL_len, List.length_append, List.length_append, List.length_append, fx_len, fx_len, fx_len, fx_len]; decide) fun p9 hp9 => ?_
    rw [← nL_app]
    have x9 : Ex H2 (upd H8 p9 (.lst (nL (signN ++ fx c 6 ++ fx ar 1 ++ fx im 4 ++ fx co 4)))) := x7.trans (ex8.trans (Ex.new hp9))
    have h99 : (upd H8 p9 (.lst (nL (signN ++ fx c 6 ++ fx ar 1 ++ fx im 4 ++ fx co 4)))) p9 = some (.lst (nL (signN ++ fx c 6 ++ fx ar 1 ++ fx im 4 ++ fx co 4))) := upd_same
    generalize upd H8 p9 (.lst (nL (signN ++ fx c 6 ++ fx ar 1 ++ fx im 4 ++ fx co 4))) = H9 at x9 h99 ⊢
    walk_at "go"
    rw [show (13 : Int).toNat = 13 from rfl]
    refine lcF_r0 (fun _ => V.int ((0 : Nat) : Int)) (by repeat constructor) (fun D j H5 hD hj hacc e5 => ?_) (fun D H10 hD e10 hacc => ?_)
    · walk_at "go"
      exact iLcF hD (by omega) e5 hacc rfl
    · rw [show (List.range 13).map (fun _ => V.int ((0 : Nat) : Int)) = nL (List.replicate 13 0) from rfl] at hacc
      walk_at "go"
      refine iCat (e10 _ _ h99) hacc (by rw [nL_len, nL_len, List.length_append, List.length_append, List.length_append, List.length_append, fx_len, fx_len, fx_len, fx_len]; decide) fun p11 hp11 => ?_
      rw [← nL_app, show signN ++ fx c 6 ++ fx ar 1 ++ fx im 4 ++ fx co 4 ++ List.replicate 13 0 = tailOf c ar im co by unfold tailOf; simp only [List.append_assoc]]
      have x11 : Ex H2 (upd H10 p11 (.lst (nL (tailOf c ar im co)))) := x9.trans (e10.trans (Ex.new hp11))
      have h11 : (upd H10 p11 (.lst (nL (tailOf c ar im co)))) p11 = some (.lst (nL (tailOf c ar im co))) := upd_same
      generalize upd H10 p11 (.lst (nL (tailOf c ar im co))) = H11 at x11 h11 ⊢
      walk_at "go"
      refine iNeN (x11 _ _ hps) h11 ?_
      walk_at "go"
      refine iListL (x11 _ _ hps) fun p12 hp12 => ?_
      walk_at "go"
      refine j_read_tail upd_same ?_
      rw [readT_tail hnn har him hco]
      intro v H12 e12 a12
      have x12 : Ex H2 H12 := x11.trans ((Ex.new hp12).trans e12)
      walk_at "go"
      refine iNeAt a12.nw (.tup (x12 _ _ hT2) (.cons (.int _) (.cons (.int _) (.cons (.int _) (.cons (.int _) .nil))))) (Dep.tuple fun e he => by
        simp only [List.mem_cons, List.not_mem_nil, or_false] at he
        rcases he with rfl | rfl | rfl | rfl <;> exact Dep.int) ?_
      walk_at "go"
      refine .inl ⟨rfl, ?_⟩
      walk_at "go"
      refine iNewL (by simp) fun p13 hp13 => ?_
      walk_at "go"
      have x13 := x12.trans (Ex.new (o := .lst [V.int 0, .int 1, .int 2, .int 3, .int 19, .int 25, .int 31]) hp13)
      have h13 : (upd H12 p13 (.lst [V.int 0, .int 1, .int 2, .int 3, .int 19, .int 25, .int 31])) p13 = some (.lst (nL [0, 1, 2, 3, 19, 25, 31])) := upd_same
      generalize upd H12 p13 (.lst [V.int 0, .int 1, .int 2, .int 3, .int 19, .int 25, .int 31]) = H13 at x13 h13 ⊢
      have hlen := tailOf_len c ar im co
      refine forJ_list (nL [0, 1, 2, 3, 19, 25, 31]) (fun j σ' H' => (∃ u1 u2, σ' = [some (.int n), some (.int c), some (.ref T), some (.ref ps), some (.ref p11), u1, u2, none]) ∧ Ex H13 H') ⟨⟨_, _, rfl⟩, Ex.rfl' _⟩ (fun j σ' H' _ h => h.2 _ _ h13) (fun j x σ' H' hx h => ?_) (fun σ' H' h => ?_)
      · obtain ⟨⟨u1, u2, rfl⟩, x14⟩ := h
        obtain ⟨pl, hpl, rfl⟩ := nL_get hx
        have hpm := List.mem_of_getElem? hpl
        have hp32 : pl < 32 := by
          simp only [List.mem_cons, List.not_mem_nil, or_false] at hpm
          omega
        obtain ⟨d, hd⟩ := tail_fix hpm
        obtain ⟨b, hb⟩ : ∃ b, (tailOf c ar im co)[pl]? = some b := ⟨_, List.getElem?_eq_getElem (by omega)⟩
        have hbd : b = d := by have := hd c ar im co; rw [hb] at this; exact Option.some.inj this
        have hb256 : d < 256 := by
          have hm := List.mem_of_getElem? (hd 0 0 0 0)
          have : ∀ z ∈ tailOf 0 0 0 0, z < 256 := by decide +kernel
          exact this d hm
        walk_at "go"
        refine iListL (x14 _ _ (x13 _ _ hps)) fun y hy => ?_
        walk_at "go"
        refine iIxL upd_same ((atI_natL _ _).trans (nL_at_some hb)) ?_
        walk_at "go"
        rw [show ((b : Int) + 1 + (n : Int) % 255) % 256 = (((b + 1 + n % 255) % 256 : Nat) : Int) by omega]
        refine iSetL upd_same (by rw [nL_len, hlen, ixN_natL, if_pos hp32]) ?_
        rw [upd_upd, show (nL (tailOf c ar im co)).set pl (V.int (((b + 1 + n % 255) % 256 : Nat) : Int)) = nL ((tailOf c ar im co).set pl ((b + 1 + n % 255) % 256)) by unfold nL; rw [List.map_set]]
        walk_at "go"
        refine j_read_tail upd_same ?_
        rw [readT_at (p := pl) (b := (b + 1 + n % 255) % 256) hd (List.getElem?_set_self (by omega)) (by omega)]
        intro H15 e15
        walk_at "go"
        exact ⟨⟨_, _, rfl⟩, x14.trans ((Ex.new hy).trans e15)⟩
      · obtain ⟨⟨u1, u2, rfl⟩, x14⟩ := h
        walk_at "go"
        refine iListL (x14 _ _ (x13 _ _ hps)) fun y hy => ?_
        walk_at "go"
        rw [show (2 : Int) + (n : Int) % 254 = ((2 + n % 254 : Nat) : Int) by omega]
        rw [upd_upd, show (nL (tailOf c ar im co)).set (Int.toNat 10) (V.int ((2 + n % 254 : Nat) : Int)) = nL ((tailOf c ar im co).set 10 (2 + n % 254)) by unfold nL; rw [List.map_set]; rfl]
        walk_at "go"
        refine j_read_tail upd_same ?_
        rw [readT_area (b := 2 + n % 254) (List.getElem?_set_self (by omega)) (by omega)]
        intro H15 e15
        walk_at "go"
        rw [show (32 : Int).toNat = 32 from rfl]
        refine lcF_r0 (fun _ => V.int ((0 : Nat) : Int)) (by repeat constructor) (fun D j H5 hD hj hacc e5 => ?_) (fun D H16 hD e16 hacc => ?_)
        · walk_at "go"
          exact iLcF hD (by omega) e5 hacc rfl
        · rw [show (List.range 32).map (fun _ => V.int ((0 : Nat) : Int)) = nL (List.replicate 32 0) from rfl] at hacc
          walk_at "go"
          refine j_read_tail hacc ?_
          rw [readT_at (p := 0) (b := 0) (d := 70) (fun _ _ _ _ => rfl) rfl (by decide)]
          intro H17 e17
          walk_at "go"
          rw [decide_eq_true rfl]
          exact q H17 (x2.trans (x13.trans (x14.trans ((Ex.new hy).trans (e15.trans (e16.trans e17))))))
def sp_law (K : PySem.W.Frag) : Sp := fun vs H Q _ => ∃ (a : Addr) (ns : List Int), vs = [.ref a] ∧ SqL K H a (ns.map V.int) ∧ ns.length ≤ 63 ∧ ∀ H', Q (.bl true) H'
theorem ok_law (M : Mg mg) {f : Addr} {fd : FuncData} (F : Fun K "law" "law" s_law f fd) (c__law_draw : Cal P w K mg base 1 "_law_draw" ["script", "k"] (sp__law_draw K)) (c__law_blocks : Cal P w K mg base 3 "_law_blocks" ["script"] (sp__law_blocks K)) (c__law_tails : Cal P w K mg base 4 "_law_tails" ["number"] sp__law_tails)
    (c__law_parts : Cal P w K mg base 5 "_law_parts" ["sectors"] sp__law_parts) : FnOk P w K mg base CX0 6 f fd ["script"] (sp_law K) := by
  refine F.ok sc_law (fun vs H Q E h => ?_) (fun cdv A outer s H vs Q E hr h => ?_)
  · obtain ⟨a, ns, rfl, _⟩ := h; rfl
  · obtain ⟨a, ns, rfl, hS, hn, q⟩ := h
    refine ⟨_, (pss_cons (ps_set (i := 1) sc_law.nd rfl (Or.inl rfl) (pe_op op_mod (pe_cal c__law_draw (hr.mono (by omega)) (by rfl) (pa_cons (pv 0) (pa_cons pe_int pa_nil))) pe_int)) (pss_one (ps_ret (pe_and (pe_cal c__law_blocks (hr.mono (by omega)) (by rfl) (pa_cons (pv 0) pa_nil)) (pe_and (pe_cal c__law_tails (hr.mono (by omega)) (by rfl) (pa_cons (pv 1) pa_nil)) (pe_one (pe_cal c__law_parts (hr.mono (by omega)) (by rfl) (pa_cons (pe_op op_add pe_int (pe_op op_mod (pv 1) pe_int)) pa_nil)))))))), ?_⟩
    refine iBody (by repeat constructor) ?_
    walk_at "go"
    refine j_draw (k := 4) hS hn (by decide) fun v => ?_
    walk_at "go"
    refine ⟨a, ns, rfl, hS, hn, fun H1 e1 => ?_⟩
    rw [show (v : Int) % 1000000 = ((v % 1000000 : Nat) : Int) by omega]
    walk_at "go"
    refine ⟨v % 1000000, rfl, Nat.mod_lt _ (by decide), fun H2 e2 => ?_⟩
    walk_at "go"
    refine ⟨_, rfl, by omega, by omega, ?_⟩
    exact q H2
end
end R
set_option Elab.async false
set_option linter.all false
set_option maxRecDepth 100000
set_option maxHeartbeats 4000000
namespace R
open PySem PySem.Spec L2
open Evl (Ex)


local macro_rules | `(tactic| walk_at "ne") => `(tactic| (first | assumption | (apply Ne.symm; assumption) | (apply ne_fresh; (· assumption); (· walk_at "look")) | (apply Ne.symm; apply ne_fresh; (· assumption); (· walk_at "look"))))
local macro_rules | `(tactic| walk_at "look") => `(tactic| (first | assumption | exact upd_same | (refine (upd_ne ?_).trans ?_; (· walk_at "ne"); (· walk_at "look")) | (refine exAt (by assumption) ?_; walk_at "look")))
local macro_rules | `(tactic| walk_at "side") => `(tactic| (first | (exact Or.inl ⟨by omega, by omega⟩) | (exact Or.inr ⟨by omega, by omega⟩) | (show (0:Int) < _; omega) | (show (0:Int) ≤ _; omega) | (exact ⟨by omega, by omega⟩) | (exact ⟨by decide, by decide, by decide⟩)))
local macro_rules | `(tactic| walk_at "go") => `(tactic| (repeat (first | (with_reducible refine iSeq ?_) | (with_reducible refine iAsg ?_) | ((with_reducible apply iName); (· repeat constructor)) | ((with_reducible apply iVar); (· rfl)) | (with_reducible refine iC ?_) | (with_reducible refine iOp ?_) | (with_reducible refine iI0 ?_) | (with_reducible refine iCons ?_) | (with_reducible refine iNil ?_) | (with_reducible refine iCB ?_) | (with_reducible refine iIfS ?_) | (with_reducible refine iTest ?_) | (with_reducible refine iBl ?_) | (with_reducible refine iRet ?_) | (with_reducible refine iNext ?_) | (with_reducible refine iDrop ?_) | (with_reducible refine iEqI ?_) | (with_reducible refine iNeI ?_) | (with_reducible refine iInt ?_) | (with_reducible refine iFor ?_) | (with_reducible refine iRng ?_) | (with_reducible refine iCal ?_) | (with_reducible refine iAnd ?_) | (with_reducible refine iOr ?_) | (with_reducible refine iNot ?_) | (with_reducible refine iB ?_) | (with_reducible refine iIf ?_) | (with_reducible refine iChain ?_) | (with_reducible refine iUn ?_) | (with_reducible refine iU ?_) | (with_reducible refine iRetN ?_) | (with_reducible refine iIsN ?_) | (with_reducible refine iNotN ?_) | (with_reducible refine iTruI ?_) | (with_reducible refine ifNDr ?_) | (with_reducible refine ifDr ?_) | (with_reducible refine iCalE ?_) | (with_reducible refine iMet ?_) | (with_reducible refine iMak ?_) | (with_reducible refine iFld ?_) | (with_reducible refine iSto ?_) | (with_reducible refine iAugF ?_) | (with_reducible refine iBM ?_) | (with_reducible refine iRev1 ?_) | (with_reducible refine iRai ?_) | (with_reducible refine iPr ?_) | (with_reducible refine iPn ?_) | (with_reducible refine iIntB ?_) | (with_reducible refine iIsB ?_) | (with_reducible refine iNotBl ?_) | (with_reducible refine iDGet1 ?_) | (with_reducible refine iAndV ?_) | (with_reducible refine iOrV ?_) | (with_reducible refine iNotV ?_) | (with_reducible refine iAugS ?_) | (with_reducible refine iIpI ?_) | (with_reducible refine iSub ?_) | (with_reducible refine iLst ?_) | (with_reducible refine iTup ?_) | (with_reducible refine iIterL ?_) | (with_reducible refine iBreak ?_) | (with_reducible refine iCont ?_) | (with_reducible refine iEqB ?_) | (with_reducible refine iNeB ?_) | (with_reducible refine iEqS ?_) | (with_reducible refine iNeS ?_) | (with_reducible refine iLc ?_) | (with_reducible refine iYes ?_) | (with_reducible refine iDGet ?_) | (with_reducible refine iDIn ?_) | (with_reducible refine iDNotIn ?_) | (with_reducible refine iDPut ?_) | (with_reducible refine iRng2 ?_) | (with_reducible refine iZipK ?_) | (with_reducible refine iGCons ?_) | (with_reducible refine iGNil ?_) | (with_reducible refine iDEa ?_) | (with_reducible refine iSl ?_) | (with_reducible refine iPart ?_) | (with_reducible refine iPartI ?_) | (with_reducible refine iNoPart ?_) | (with_reducible refine iRv ?_) | (with_reducible refine iRg3 ?_) | (with_reducible refine iZA ?_) | ((with_reducible apply iRngI); (· first | decide | omega); (· first | decide | omega)) | ((with_reducible apply iAugK); (· rfl)) | ((with_reducible apply iI); rotate_left; (· (first | (exact Or.inl ⟨by omega, by omega⟩) | (exact Or.inr ⟨by omega, by omega⟩) | (show (0:Int) < _; omega) | (show (0:Int) ≤ _; omega) | (exact ⟨by omega, by omega⟩) | (exact ⟨by decide, by decide, by decide⟩)))) | ((with_reducible apply iIxL); (· walk_at "look"); (· rfl)) | ((with_reducible apply iLenL); (· walk_at "look")) | ((with_reducible apply iSetL); (· walk_at "look"); (· rfl)) | ((with_reducible apply iIxT); (· walk_at "look"); (· rfl)) | ((with_reducible apply iIsi); (· first | exact tyN_int | exact tyN_bl | exact tyN_non | exact tyN_str | exact tyN_lst (by walk_at "look") | exact tyN_tup (by walk_at "look")); (· (first | exact kb_NoneType_bool | exact kb_NoneType_int | exact kb_NoneType_str | exact kb_NoneType_tuple | exact kb_NoneType_list | exact kb_bool_bool | exact kb_bool_int | exact kb_bool_str | exact kb_bool_tuple | exact kb_bool_list | exact kb_int_bool | exact kb_int_int | exact kb_int_str | exact kb_int_tuple | exact kb_int_list | exact kb_str_bool | exact kb_str_int | exact kb_str_str | exact kb_str_tuple | exact kb_str_list | exact kb_tuple_bool | exact kb_tuple_int | exact kb_tuple_str | exact kb_tuple_tuple | exact kb_tuple_list | exact kb_list_bool | exact kb_list_int | exact kb_list_str | exact kb_list_tuple | exact kb_list_list))) | ((with_reducible apply iLenT); (· walk_at "look")) | ((with_reducible apply iLenS); (· first | exact Or.inl (by walk_at "look") | exact Or.inr (by walk_at "look"))) | ((with_reducible apply ifT); (· rfl)) | ((with_reducible apply ifF); (· rfl)) | ((with_reducible apply ifT); (· apply decide_eq_true; omega)) | ((with_reducible apply ifF); (· apply decide_eq_false; omega)) | ((with_reducible apply ifNp); (· omega)) | ((with_reducible apply ifNn); (· omega)) | ((with_reducible apply iLcB); (· rfl)) | ((with_reducible apply iGTup); (· walk_at "look"); (· rfl)) | ((with_reducible apply iDIi); (· walk_at "look")) | ((with_reducible apply iDNi); (· walk_at "look")) | ((with_reducible apply iRng2I); (· omega); (· omega); (· omega); (· omega)) | ((with_reducible apply iItL); (· walk_at "look")) | ((with_reducible apply iZL); (· walk_at "look"); (· walk_at "look")))))
section
variable {P : Program} {w : World} {K : PySem.W.Frag} {mg : Str → Option Value} {base : Heap}
end
theorem all_mk {l : PySem.W.OpenLaw} {w : World} {K : PySem.W.Frag} {h : Heap} {mg : Str → Option Value} {fa : Addr} (X : K.In h) (G : h.Ns mainGlobals mg) (hfa : mg "law" = some (.ref fa))
    {f1 f2 f3 f4 f5 f6 f7 f8 f9 f10 f11 f12 f13 f14 f15 f16 f17 : Addr} {od1 od2 od3 od4 od5 od6 od7 od8 od9 od10 od11 od12 od13 od14 od15 od16 od17 an1 an2 an3 an4 an5 an6 an7 an8 an9 an10 an11 an12 an13 an14 an15 an16 an17 : Option Addr} {sl1 sl2 sl3 sl4 sl5 sl6 sl7 sl8 sl9 sl10 sl11 sl12 sl13 sl14 sl15 sl16 sl17 : Array (Option Value)} {oc1 oc2 oc3 oc4 oc5 oc6 oc7 oc8 oc9 oc10 oc11 oc12 oc13 oc14 oc15 oc16 oc17 kV1 kV2 kV3 kV4 kV5 kV6 kV7 kV8 kV9 kV10 kV11 kV12 kV13 kV14 kV15 kV16 kV17 dc1 dc2 dc3 dc4 dc5 dc6 dc7 dc8 dc9 dc10 dc11 dc12 dc13 dc14 dc15 dc16 dc17 pm1 pm2 pm3 pm4 pm5 pm6 pm7 pm8 pm9 pm10 pm11 pm12 pm13 pm14 pm15 pm16 pm17 cd1 cd2 cd3 cd4 cd5 cd6 cd7 cd8 cd9 cd10 cd11 cd12 cd13 cd14 cd15 cd16 cd17 ct1 ct2 ct3 ct4 ct5 ct6 ct7 ct8 ct9 ct10 ct11 ct12 ct13 ct14 ct15 ct16 ct17 : Value} {A_SIGN : Addr} {od_SIGN : Option Addr} {n_SIGN : Nat} {sl_SIGN : Array (Option Value)} {t_SIGN_0 t_SIGN_1 t_SIGN_2 t_SIGN_3 : Tok} {A_WIDTHS : Addr} {od_WIDTHS : Option Addr} {n_WIDTHS : Nat} {sl_WIDTHS : Array (Option Value)} {t_WIDTHS_0 t_WIDTHS_1 t_WIDTHS_2 t_WIDTHS_3 : Tok} {t_HEAD : Tok} {t_SECTOR : Tok} {t_TAILS : Tok}
    (a1 : PySem.W.nsIn K mainGlobals "area_size" = some (some (.ref f1)))
    (l1 : K.lookup f1 = some ⟨oc1, od1, .func (PySem.W.fnOf "area_size" "area_size" (defArgs s_area_size) (defBody s_area_size) (defScope s_area_size) .none kV1 dc1 pm1 an1 cd1 ct1), sl1⟩) (c1 : PySem.W.codeIn K cd1 "area_size" = true) (k1 : PySem.W.keepIn K (.ref f1) = true)
    (a2 : PySem.W.nsIn K mainGlobals "area_start" = some (some (.ref f2)))
    (l2 : K.lookup f2 = some ⟨oc2, od2, .func (PySem.W.fnOf "area_start" "area_start" (defArgs s_area_start) (defBody s_area_start) (defScope s_area_start) .none kV2 dc2 pm2 an2 cd2 ct2), sl2⟩) (c2 : PySem.W.codeIn K cd2 "area_start" = true) (k2 : PySem.W.keepIn K (.ref f2) = true)
    (a3 : PySem.W.nsIn K mainGlobals "region_start" = some (some (.ref f3)))
    (l3 : K.lookup f3 = some ⟨oc3, od3, .func (PySem.W.fnOf "region_start" "region_start" (defArgs s_region_start) (defBody s_region_start) (defScope s_region_start) .none kV3 dc3 pm3 an3 cd3 ct3), sl3⟩) (c3 : PySem.W.codeIn K cd3 "region_start" = true) (k3 : PySem.W.keepIn K (.ref f3) = true)
    (a4 : PySem.W.nsIn K mainGlobals "stripe_count" = some (some (.ref f4)))
    (l4 : K.lookup f4 = some ⟨oc4, od4, .func (PySem.W.fnOf "stripe_count" "stripe_count" (defArgs s_stripe_count) (defBody s_stripe_count) (defScope s_stripe_count) .none kV4 dc4 pm4 an4 cd4 ct4), sl4⟩) (c4 : PySem.W.codeIn K cd4 "stripe_count" = true) (k4 : PySem.W.keepIn K (.ref f4) = true)
    (a5 : PySem.W.nsIn K mainGlobals "fixed" = some (some (.ref f5)))
    (l5 : K.lookup f5 = some ⟨oc5, od5, .func (PySem.W.fnOf "fixed" "fixed" (defArgs s_fixed) (defBody s_fixed) (defScope s_fixed) .none kV5 dc5 pm5 an5 cd5 ct5), sl5⟩) (c5 : PySem.W.codeIn K cd5 "fixed" = true) (k5 : PySem.W.keepIn K (.ref f5) = true)
    (a6 : PySem.W.nsIn K mainGlobals "number_of" = some (some (.ref f6)))
    (l6 : K.lookup f6 = some ⟨oc6, od6, .func (PySem.W.fnOf "number_of" "number_of" (defArgs s_number_of) (defBody s_number_of) (defScope s_number_of) .none kV6 dc6 pm6 an6 cd6 ct6), sl6⟩) (c6 : PySem.W.codeIn K cd6 "number_of" = true) (k6 : PySem.W.keepIn K (.ref f6) = true)
    (a7 : PySem.W.nsIn K mainGlobals "log_block" = some (some (.ref f7)))
    (l7 : K.lookup f7 = some ⟨oc7, od7, .func (PySem.W.fnOf "log_block" "log_block" (defArgs s_log_block) (defBody s_log_block) (defScope s_log_block) .none kV7 dc7 pm7 an7 cd7 ct7), sl7⟩) (c7 : PySem.W.codeIn K cd7 "log_block" = true) (k7 : PySem.W.keepIn K (.ref f7) = true)
    (a8 : PySem.W.nsIn K mainGlobals "read_block" = some (some (.ref f8)))
    (l8 : K.lookup f8 = some ⟨oc8, od8, .func (PySem.W.fnOf "read_block" "read_block" (defArgs s_read_block) (defBody s_read_block) (defScope s_read_block) .none kV8 dc8 pm8 an8 cd8 ct8), sl8⟩) (c8 : PySem.W.codeIn K cd8 "read_block" = true) (k8 : PySem.W.keepIn K (.ref f8) = true)
    (a9 : PySem.W.nsIn K mainGlobals "tail" = some (some (.ref f9)))
    (l9 : K.lookup f9 = some ⟨oc9, od9, .func (PySem.W.fnOf "tail" "tail" (defArgs s_tail) (defBody s_tail) (defScope s_tail) .none kV9 dc9 pm9 an9 cd9 ct9), sl9⟩) (c9 : PySem.W.codeIn K cd9 "tail" = true) (k9 : PySem.W.keepIn K (.ref f9) = true)
    (a10 : PySem.W.nsIn K mainGlobals "read_tail" = some (some (.ref f10)))
    (l10 : K.lookup f10 = some ⟨oc10, od10, .func (PySem.W.fnOf "read_tail" "read_tail" (defArgs s_read_tail) (defBody s_read_tail) (defScope s_read_tail) .none kV10 dc10 pm10 an10 cd10 ct10), sl10⟩) (c10 : PySem.W.codeIn K cd10 "read_tail" = true) (k10 : PySem.W.keepIn K (.ref f10) = true)
    (a11 : PySem.W.nsIn K mainGlobals "_law_draw" = some (some (.ref f11)))
    (l11 : K.lookup f11 = some ⟨oc11, od11, .func (PySem.W.fnOf "_law_draw" "_law_draw" (defArgs s__law_draw) (defBody s__law_draw) (defScope s__law_draw) .none kV11 dc11 pm11 an11 cd11 ct11), sl11⟩) (c11 : PySem.W.codeIn K cd11 "_law_draw" = true) (k11 : PySem.W.keepIn K (.ref f11) = true)
    (a12 : PySem.W.nsIn K mainGlobals "_law_data" = some (some (.ref f12)))
    (l12 : K.lookup f12 = some ⟨oc12, od12, .func (PySem.W.fnOf "_law_data" "_law_data" (defArgs s__law_data) (defBody s__law_data) (defScope s__law_data) .none kV12 dc12 pm12 an12 cd12 ct12), sl12⟩) (c12 : PySem.W.codeIn K cd12 "_law_data" = true) (k12 : PySem.W.keepIn K (.ref f12) = true)
    (a13 : PySem.W.nsIn K mainGlobals "_law_fixed" = some (some (.ref f13)))
    (l13 : K.lookup f13 = some ⟨oc13, od13, .func (PySem.W.fnOf "_law_fixed" "_law_fixed" (defArgs s__law_fixed) (defBody s__law_fixed) (defScope s__law_fixed) .none kV13 dc13 pm13 an13 cd13 ct13), sl13⟩) (c13 : PySem.W.codeIn K cd13 "_law_fixed" = true) (k13 : PySem.W.keepIn K (.ref f13) = true)
    (a14 : PySem.W.nsIn K mainGlobals "_law_parts" = some (some (.ref f14)))
    (l14 : K.lookup f14 = some ⟨oc14, od14, .func (PySem.W.fnOf "_law_parts" "_law_parts" (defArgs s__law_parts) (defBody s__law_parts) (defScope s__law_parts) .none kV14 dc14 pm14 an14 cd14 ct14), sl14⟩) (c14 : PySem.W.codeIn K cd14 "_law_parts" = true) (k14 : PySem.W.keepIn K (.ref f14) = true)
    (a15 : PySem.W.nsIn K mainGlobals "_law_blocks" = some (some (.ref f15)))
    (l15 : K.lookup f15 = some ⟨oc15, od15, .func (PySem.W.fnOf "_law_blocks" "_law_blocks" (defArgs s__law_blocks) (defBody s__law_blocks) (defScope s__law_blocks) .none kV15 dc15 pm15 an15 cd15 ct15), sl15⟩) (c15 : PySem.W.codeIn K cd15 "_law_blocks" = true) (k15 : PySem.W.keepIn K (.ref f15) = true)
    (a16 : PySem.W.nsIn K mainGlobals "_law_tails" = some (some (.ref f16)))
    (l16 : K.lookup f16 = some ⟨oc16, od16, .func (PySem.W.fnOf "_law_tails" "_law_tails" (defArgs s__law_tails) (defBody s__law_tails) (defScope s__law_tails) .none kV16 dc16 pm16 an16 cd16 ct16), sl16⟩) (c16 : PySem.W.codeIn K cd16 "_law_tails" = true) (k16 : PySem.W.keepIn K (.ref f16) = true)
    (a17 : PySem.W.nsIn K mainGlobals "law" = some (some (.ref f17)))
    (l17 : K.lookup f17 = some ⟨oc17, od17, .func (PySem.W.fnOf "law" "law" (defArgs s_law) (defBody s_law) (defScope s_law) .none kV17 dc17 pm17 an17 cd17 ct17), sl17⟩) (c17 : PySem.W.codeIn K cd17 "law" = true) (k17 : PySem.W.keepIn K (.ref f17) = true)
    (aW_SIGN : PySem.W.nsIn K mainGlobals "SIGN" = some (some (.ref A_SIGN))) (lW_SIGN : K.lookup A_SIGN = some ⟨.type "tuple", od_SIGN, .seq #[PySem.Value.int 70 t_SIGN_0, PySem.Value.int 73 t_SIGN_1, PySem.Value.int 76 t_SIGN_2, PySem.Value.int 69 t_SIGN_3] n_SIGN, sl_SIGN⟩)
    (aW_WIDTHS : PySem.W.nsIn K mainGlobals "WIDTHS" = some (some (.ref A_WIDTHS))) (lW_WIDTHS : K.lookup A_WIDTHS = some ⟨.type "tuple", od_WIDTHS, .seq #[PySem.Value.int 6 t_WIDTHS_0, PySem.Value.int 1 t_WIDTHS_1, PySem.Value.int 4 t_WIDTHS_2, PySem.Value.int 4 t_WIDTHS_3] n_WIDTHS, sl_WIDTHS⟩)
    (z_int : PySem.W.nsIn K mainGlobals "int" = some none)
    (z_len : PySem.W.nsIn K mainGlobals "len" = some none)
    (z_list : PySem.W.nsIn K mainGlobals "list" = some none)
    (z_min : PySem.W.nsIn K mainGlobals "min" = some none)
    (z_range : PySem.W.nsIn K mainGlobals "range" = some none)
    (z_reversed : PySem.W.nsIn K mainGlobals "reversed" = some none)
    (z_zip : PySem.W.nsIn K mainGlobals "zip" = some none)
    (v_HEAD : PySem.W.nsIn K mainGlobals "HEAD" = some (some (.int 4 t_HEAD)))
    (v_SECTOR : PySem.W.nsIn K mainGlobals "SECTOR" = some (some (.int 32 t_SECTOR)))
    (v_TAILS : PySem.W.nsIn K mainGlobals "TAILS" = some (some (.int 2 t_TAILS))) :
    ∃ fd : FuncData, (∀ (s : Shared) (v : Value), BindsTo s fd ⟨[v], []⟩ [("script", v)]) ∧ ∀ base : Heap, K.In base → base.Ns mainGlobals mg → FnOk l.prog w K mg base CX0 6 fa fd ["script"] (sp_law K) := by
  have e := hfa.symm.trans (PySem.W.mg_of X G a17)
  cases e
  have F_area_size := fun_mk (st := s_area_size) l1 c1 k1
  have g_area_size := PySem.W.mg_of X G a1
  have b_area_size := F_area_size.binds (ps := ["sectors"]) fun _ _ _ _ _ _ us hl => match us, hl with | [_], _ => rfl
  have F_area_start := fun_mk (st := s_area_start) l2 c2 k2
  have g_area_start := PySem.W.mg_of X G a2
  have b_area_start := F_area_start.binds (ps := ["sectors", "area"]) fun _ _ _ _ _ _ us hl => match us, hl with | [_, _], _ => rfl
  have F_region_start := fun_mk (st := s_region_start) l3 c3 k3
  have g_region_start := PySem.W.mg_of X G a3
  have b_region_start := F_region_start.binds (ps := ["sectors"]) fun _ _ _ _ _ _ us hl => match us, hl with | [_], _ => rfl
  have F_stripe_count := fun_mk (st := s_stripe_count) l4 c4 k4
  have g_stripe_count := PySem.W.mg_of X G a4
  have b_stripe_count := F_stripe_count.binds (ps := ["sectors"]) fun _ _ _ _ _ _ us hl => match us, hl with | [_], _ => rfl
  have F_fixed := fun_mk (st := s_fixed) l5 c5 k5
  have g_fixed := PySem.W.mg_of X G a5
  have b_fixed := F_fixed.binds (ps := ["number", "width"]) fun _ _ _ _ _ _ us hl => match us, hl with | [_, _], _ => rfl
  have F_number_of := fun_mk (st := s_number_of) l6 c6 k6
  have g_number_of := PySem.W.mg_of X G a6
  have b_number_of := F_number_of.binds (ps := ["data"]) fun _ _ _ _ _ _ us hl => match us, hl with | [_], _ => rfl
  have F_log_block := fun_mk (st := s_log_block) l7 c7 k7
  have g_log_block := PySem.W.mg_of X G a7
  have b_log_block := F_log_block.binds (ps := ["data"]) fun _ _ _ _ _ _ us hl => match us, hl with | [_], _ => rfl
  have F_read_block := fun_mk (st := s_read_block) l8 c8 k8
  have g_read_block := PySem.W.mg_of X G a8
  have b_read_block := F_read_block.binds (ps := ["sectors", "start"]) fun _ _ _ _ _ _ us hl => match us, hl with | [_, _], _ => rfl
  have F_tail := fun_mk (st := s_tail) l9 c9 k9
  have g_tail := PySem.W.mg_of X G a9
  have b_tail := F_tail.binds (ps := ["commits", "area", "image", "counting"]) fun _ _ _ _ _ _ us hl => match us, hl with | [_, _, _, _], _ => rfl
  have F_read_tail := fun_mk (st := s_read_tail) l10 c10 k10
  have g_read_tail := PySem.W.mg_of X G a10
  have b_read_tail := F_read_tail.binds (ps := ["sector"]) fun _ _ _ _ _ _ us hl => match us, hl with | [_], _ => rfl
  have F__law_draw := fun_mk (st := s__law_draw) l11 c11 k11
  have g__law_draw := PySem.W.mg_of X G a11
  have b__law_draw := F__law_draw.binds (ps := ["script", "k"]) fun _ _ _ _ _ _ us hl => match us, hl with | [_, _], _ => rfl
  have F__law_data := fun_mk (st := s__law_data) l12 c12 k12
  have g__law_data := PySem.W.mg_of X G a12
  have b__law_data := F__law_data.binds (ps := ["number"]) fun _ _ _ _ _ _ us hl => match us, hl with | [_], _ => rfl
  have F__law_fixed := fun_mk (st := s__law_fixed) l13 c13 k13
  have g__law_fixed := PySem.W.mg_of X G a13
  have b__law_fixed := F__law_fixed.binds (ps := ["number", "count"]) fun _ _ _ _ _ _ us hl => match us, hl with | [_, _], _ => rfl
  have F__law_parts := fun_mk (st := s__law_parts) l14 c14 k14
  have g__law_parts := PySem.W.mg_of X G a14
  have b__law_parts := F__law_parts.binds (ps := ["sectors"]) fun _ _ _ _ _ _ us hl => match us, hl with | [_], _ => rfl
  have F__law_blocks := fun_mk (st := s__law_blocks) l15 c15 k15
  have g__law_blocks := PySem.W.mg_of X G a15
  have b__law_blocks := F__law_blocks.binds (ps := ["script"]) fun _ _ _ _ _ _ us hl => match us, hl with | [_], _ => rfl
  have F__law_tails := fun_mk (st := s__law_tails) l16 c16 k16
  have g__law_tails := PySem.W.mg_of X G a16
  have b__law_tails := F__law_tails.binds (ps := ["number"]) fun _ _ _ _ _ _ us hl => match us, hl with | [_], _ => rfl
  have F_law := fun_mk (st := s_law) l17 c17 k17
  have g_law := PySem.W.mg_of X G a17
  have b_law := F_law.binds (ps := ["script"]) fun _ _ _ _ _ _ us hl => match us, hl with | [_], _ => rfl
  have g_SIGN : WTup K mg "SIGN" [.int 70, .int 73, .int 76, .int 69] := .mk' (PySem.W.mg_of X G aW_SIGN) lW_SIGN (Nat.le_of_ble_eq_true rfl) (.cons ⟨_, rfl⟩ (.cons ⟨_, rfl⟩ (.cons ⟨_, rfl⟩ (.cons ⟨_, rfl⟩ .nil))))
  have g_WIDTHS : WTup K mg "WIDTHS" [.int 6, .int 1, .int 4, .int 4] := .mk' (PySem.W.mg_of X G aW_WIDTHS) lW_WIDTHS (Nat.le_of_ble_eq_true rfl) (.cons ⟨_, rfl⟩ (.cons ⟨_, rfl⟩ (.cons ⟨_, rfl⟩ (.cons ⟨_, rfl⟩ .nil))))
  have M : Mg mg := ⟨PySem.W.mg_none_of X G z_int, PySem.W.mg_none_of X G z_len, PySem.W.mg_none_of X G z_list, PySem.W.mg_none_of X G z_min, PySem.W.mg_none_of X G z_range, PySem.W.mg_none_of X G z_reversed, PySem.W.mg_none_of X G z_zip, ⟨_, PySem.W.mg_of X G v_HEAD⟩, ⟨_, PySem.W.mg_of X G v_SECTOR⟩, ⟨_, PySem.W.mg_of X G v_TAILS⟩⟩
  refine ⟨(PySem.W.fnOf "law" "law" (defArgs s_law) (defBody s_law) (defScope s_law) .none kV17 dc17 pm17 an17 cd17 ct17), fun s v => .of_eq rfl, fun base _ _ => ?_⟩

  have cas : Cal l.prog w K mg base 1 "area_size" ["sectors"] sp_area_size := .mk' F_area_size g_area_size b_area_size (ok_area_size M F_area_size)
  have cat : Cal l.prog w K mg base 2 "area_start" ["sectors", "area"] sp_area_start := .mk' F_area_start g_area_start b_area_start (ok_area_start M F_area_start cas)
  have crs : Cal l.prog w K mg base 3 "region_start" ["sectors"] sp_region_start := .mk' F_region_start g_region_start b_region_start (ok_region_start M F_region_start cat)
  have csc : Cal l.prog w K mg base 4 "stripe_count" ["sectors"] sp_stripe_count := .mk' F_stripe_count g_stripe_count b_stripe_count (ok_stripe_count M F_stripe_count crs)
  have cfx : Cal l.prog w K mg base 1 "fixed" ["number", "width"] sp_fixed := .mk' F_fixed g_fixed b_fixed (ok_fixed M F_fixed)
  have cno : Cal l.prog w K mg base 1 "number_of" ["data"] sp_number_of := .mk' F_number_of g_number_of b_number_of (ok_number_of M F_number_of)
  have clb : Cal l.prog w K mg base 2 "log_block" ["data"] sp_log_block := .mk' F_log_block g_log_block b_log_block (ok_log_block M F_log_block cfx)
  have crb : Cal l.prog w K mg base 2 "read_block" ["sectors", "start"] sp_read_block := .mk' F_read_block g_read_block b_read_block (ok_read_block M F_read_block cno)
  have cta : Cal l.prog w K mg base 2 "tail" ["commits", "area", "image", "counting"] sp_tail := .mk' F_tail g_tail b_tail (ok_tail M F_tail cfx g_SIGN g_WIDTHS)
  have crt : Cal l.prog w K mg base 3 "read_tail" ["sector"] sp_read_tail := .mk' F_read_tail g_read_tail b_read_tail (ok_read_tail M F_read_tail cno cta g_SIGN g_WIDTHS)
  have cdr : Cal l.prog w K mg base 1 "_law_draw" ["script", "k"] (sp__law_draw K) := .mk' F__law_draw g__law_draw b__law_draw (ok__law_draw M F__law_draw)
  have cda : Cal l.prog w K mg base 1 "_law_data" ["number"] sp__law_data := .mk' F__law_data g__law_data b__law_data (ok__law_data M F__law_data)
  have clf : Cal l.prog w K mg base 1 "_law_fixed" ["number", "count"] sp__law_fixed := .mk' F__law_fixed g__law_fixed b__law_fixed (ok__law_fixed M F__law_fixed)
  have cpa : Cal l.prog w K mg base 5 "_law_parts" ["sectors"] sp__law_parts := .mk' F__law_parts g__law_parts b__law_parts (ok__law_parts M F__law_parts cas cat crs csc)
  have cbl : Cal l.prog w K mg base 3 "_law_blocks" ["script"] (sp__law_blocks K) := .mk' F__law_blocks g__law_blocks b__law_blocks (ok__law_blocks M F__law_blocks cdr cda clf clb crb)
  have clt : Cal l.prog w K mg base 4 "_law_tails" ["number"] sp__law_tails := .mk' F__law_tails g__law_tails b__law_tails (ok__law_tails M F__law_tails clf cta crt)
  exact ok_law M F_law cdr cbl clt cpa
end R
open PySem PySem.W PyProof.Rows
set_option maxHeartbeats 0 in
theorem PySem.Challenge.cw_rotward_k03_log_blocks_and_tails_holds : PySem.Challenge.rw_rotward_k03_log_blocks_and_tails.Holds := by
  w_on; o_law; k_head; (case hw => w_witness2)
  k_fill
  refine L2.walk_of (l := PySem.Challenge.rw_rotward_k03_log_blocks_and_tails) (n := 63) (k := 6) (x := "script") (CX := fun _ => L2.CX0) (sp := fun w => R.sp_law _) rfl (by decide) rfl ⟨rfl, by decide, by decide⟩ (fun w h Y => PySem.W.kIn_of Y) ?F (fun _ _ a ns hl _ hS => ⟨a, ns, rfl, hS, hl, fun _ => rfl⟩) (fun _ _ _ _ _ h => h)
  case F =>
    intro w mg fa h KX G hmg
    refine' R.all_mk KX G hmg ?a1 ?l1 ?c1 ?k1 ?a2 ?l2 ?c2 ?k2 ?a3 ?l3 ?c3 ?k3 ?a4 ?l4 ?c4 ?k4 ?a5 ?l5 ?c5 ?k5 ?a6 ?l6 ?c6 ?k6 ?a7 ?l7 ?c7 ?k7 ?a8 ?l8 ?c8 ?k8 ?a9 ?l9 ?c9 ?k9 ?a10 ?l10 ?c10 ?k10 ?a11 ?l11 ?c11 ?k11 ?a12 ?l12 ?c12 ?k12 ?a13 ?l13 ?c13 ?k13 ?a14 ?l14 ?c14 ?k14 ?a15 ?l15 ?c15 ?k15 ?a16 ?l16 ?c16 ?k16 ?a17 ?l17 ?c17 ?k17 ?aW_SIGN ?lW_SIGN ?aW_WIDTHS ?lW_WIDTHS ?z_int ?z_len ?z_list ?z_min ?z_range ?z_reversed ?z_zip ?v_HEAD ?v_SECTOR ?v_TAILS
    (first | (case aW_SIGN => k_is) | exact bad_aW_SIGN); (first | (case aW_WIDTHS => k_is) | exact bad_aW_WIDTHS); (first | (case a1 => k_is) | exact bad_a1); (first | (case l1 => k_is) | exact bad_l1); (first | (case c1 => k_is) | exact bad_c1); (first | (case k1 => k_is) | exact bad_k1); (first | (case a2 => k_is) | exact bad_a2); (first | (case l2 => k_is) | exact bad_l2); (first | (case c2 => k_is) | exact bad_c2); (first | (case k2 => k_is) | exact bad_k2); (first | (case a3 => k_is) | exact bad_a3); (first | (case l3 => k_is) | exact bad_l3); (first | (case c3 => k_is) | exact bad_c3); (first | (case k3 => k_is) | exact bad_k3); (first | (case a4 => k_is) | exact bad_a4); (first | (case l4 => k_is) | exact bad_l4); (first | (case c4 => k_is) | exact bad_c4); (first | (case k4 => k_is) | exact bad_k4); (first | (case a5 => k_is) | exact bad_a5); (first | (case l5 => k_is) | exact bad_l5); (first | (case c5 => k_is) | exact bad_c5); (first | (case k5 => k_is) | exact bad_k5); (first | (case a6 => k_is) | exact bad_a6); (first | (case l6 => k_is) | exact bad_l6); (first | (case c6 => k_is) | exact bad_c6); (first | (case k6 => k_is) | exact bad_k6); (first | (case a7 => k_is) | exact bad_a7); (first | (case l7 => k_is) | exact bad_l7); (first | (case c7 => k_is) | exact bad_c7); (first | (case k7 => k_is) | exact bad_k7); (first | (case a8 => k_is) | exact bad_a8); (first | (case l8 => k_is) | exact bad_l8); (first | (case c8 => k_is) | exact bad_c8); (first | (case k8 => k_is) | exact bad_k8); (first | (case a9 => k_is) | exact bad_a9); (first | (case l9 => k_is) | exact bad_l9); (first | (case c9 => k_is) | exact bad_c9); (first | (case k9 => k_is) | exact bad_k9); (first | (case a10 => k_is) | exact bad_a10); (first | (case l10 => k_is) | exact bad_l10); (first | (case c10 => k_is) | exact bad_c10); (first | (case k10 => k_is) | exact bad_k10); (first | (case a11 => k_is) | exact bad_a11); (first | (case l11 => k_is) | exact bad_l11); (first | (case c11 => k_is) | exact bad_c11); (first | (case k11 => k_is) | exact bad_k11); (first | (case a12 => k_is) | exact bad_a12); (first | (case l12 => k_is) | exact bad_l12); (first | (case c12 => k_is) | exact bad_c12); (first | (case k12 => k_is) | exact bad_k12); (first | (case a13 => k_is) | exact bad_a13); (first | (case l13 => k_is) | exact bad_l13); (first | (case c13 => k_is) | exact bad_c13); (first | (case k13 => k_is) | exact bad_k13); (first | (case a14 => k_is) | exact bad_a14); (first | (case l14 => k_is) | exact bad_l14); (first | (case c14 => k_is) | exact bad_c14); (first | (case k14 => k_is) | exact bad_k14); (first | (case a15 => k_is) | exact bad_a15); (first | (case l15 => k_is) | exact bad_l15); (first | (case c15 => k_is) | exact bad_c15); (first | (case k15 => k_is) | exact bad_k15); (first | (case a16 => k_is) | exact bad_a16); (first | (case l16 => k_is) | exact bad_l16); (first | (case c16 => k_is) | exact bad_c16); (first | (case k16 => k_is) | exact bad_k16); (first | (case a17 => k_is) | exact bad_a17); (first | (case l17 => k_is) | exact bad_l17); (first | (case c17 => k_is) | exact bad_c17); (first | (case k17 => k_is) | exact bad_k17); (first | (case lW_SIGN => k_is) | exact bad_lW_SIGN); (first | (case lW_WIDTHS => k_is) | exact bad_lW_WIDTHS); (first | (case z_int => k_is) | exact bad_z_int); (first | (case z_len => k_is) | exact bad_z_len); (first | (case z_list => k_is) | exact bad_z_list); (first | (case z_min => k_is) | exact bad_z_min); (first | (case z_range => k_is) | exact bad_z_range); (first | (case z_reversed => k_is) | exact bad_z_reversed); (first | (case z_zip => k_is) | exact bad_z_zip); (first | (case v_HEAD => k_is) | exact bad_v_HEAD); (first | (case v_SECTOR => k_is) | exact bad_v_SECTOR); (first | (case v_TAILS => k_is) | exact bad_v_TAILS)

