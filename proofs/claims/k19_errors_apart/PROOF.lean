import PyProof.Rows.All
import Wide.All
import OpenK.AllK
import Wide.FinOn
import HandS.ForMost
import HandS.Property
import HandS.Defaults
import HandS.IsInst
import HandS.SortInts
import HandS.StrMore
import HandS.Style
import HandS.TupAny
import HandS.ReplaceLit
import HandS.ReplaceList
import HandS.Walk
import HandS.HeadHook1
import HandS.HeadHook2
import HandS.HeadNt
import HandS.FStr
import HandS.FStrTup
import HandS.ExcInit
import HandS.ExcValue
import HandS.ExcIs
import HandS.ExcField
import HandS.Nested
import KE.KExcSuper
import KE.KExcIs
import PyProof.FString2
import KE.KSuper
import PySem.Challenge.RW_meansinprint_k19_errors_apart
import HandS.HeadEnd
import HandS.Head0
import HandS.Head1
import HandS.Head2
set_option Elab.async false
set_option linter.all false
set_option maxRecDepth 100000
set_option maxHeartbeats 4000000
/-! Rules of our own over the hand layer, that speak of no program. -/
namespace Mn
open PySem L2

/-- a def of the text that lets nothing out, by its name -/
structure Cal (P : Program) (w : World) (K : PySem.W.Frag) (mg : Str → Option Value) (base : Heap) (x : Str) (k : Nat) (ps : List Str) (sp : Sp) : Prop where
  ex : ∃ f fd, FnOk P w K mg base CX0 k f fd ps sp ∧ Binds K fd ps [] ∧ PySem.W.keepIn K (.ref f) = true ∧ mg x = some (.ref f)
section
variable {X : Cx}
theorem pe_own {k : Nat} {x : Str} {ps : List Str} {sp : Sp} {e : Expr} {es : List Expr} {p pos : Pos} {t : TA} (C : Cal X.prog X.w X.K X.mg X.base x k ps sp) (hr : Room k X.A) (ha : PA X (e :: es) t) (hg : Gl X x := by rfl)
    (hdb : (x == ("__debug__" : Str)) = false := by decide) (hs : starEach (e :: es) X.env = (false, eval e X.env) :: starEach es X.env := by rfl) (hpl : (backTo pos (starEach es X.env)).any (·.1) = false := by rfl) :
    PE X (.Call (.Name x p) (e :: es) [] pos) (tCall sp [] E0 t) := by
  obtain ⟨f, fd, F, b, kp, hm⟩ := C.ex
  exact pe_call F hr hg hm kp b .nil pass0 ha hdb hs hpl

/-! ### readings made handier -/
theorem pe_imp {e : Expr} {t t' : TE} (h : PE X e t) (i : ∀ σ H Q, t' σ H Q → t σ H Q) : PE X e t' := ⟨fun pins s σ H Q I q => h.run pins s σ H Q I (i σ H Q q)⟩
theorem callR_imp {f : Value} {r r' : List V → Hp → VK → Prop} (h : CallR X f r) (i : ∀ xs H Q, r' xs H Q → r xs H Q) : CallR X f r' := fun pins s σ H xs us Q I rv q => h pins s σ H xs us Q I rv (i _ _ _ q)

/-- ways that meet: an expression, a statement, with a word between it and what follows -/
def tJ (t : TE) : TE := fun σ H Q => ∃ M : VK, t σ H M ∧ ∀ v H', M v H' → Q v H'
theorem pe_j {e : Expr} {t : TE} (h : PE X e t) : PE X e (tJ t) := by
  refine ⟨fun pins s σ H Q I q => ?_⟩
  obtain ⟨M, h1, h2⟩ := q
  exact thn (h.run pins s σ H M I h1) fun u s' ⟨v, H', I', r, m⟩ => ⟨v, H', I', r, h2 v H' m⟩
def tJs (t u : TS) : TS := fun D σ H => ∃ Mid : L2.St → Hp → Prop, t { D with nx := Mid } σ H ∧ ∀ σ' H', Mid σ' H' → u D σ' H'
theorem pss_j {st : Stmt} {rest : List Stmt} {t u : TS} (h1 : PS X st t) (h2 : PSs X rest u) : PSs X (st :: rest) (tJs t u) := by
  refine ⟨fun pins s σ H D I h => ?_⟩
  obtain ⟨Mid, hm, hu⟩ := h
  refine wpAny_execs_cons (thn (h1.run pins s σ H { D with nx := Mid } I hm) fun f s1 q => ?_)
  cases f with
  | next =>
    obtain ⟨σ', H', I', q⟩ := q
    exact h2.run pins s1 σ' H' D I' (hu σ' H' q)
  | ret v => exact q
  | brk => exact q
  | cont => exact q

/-! ### text times number -/
def rMulS : R2 := fun x y H Q => ∃ (z : Str) (n : Int), x = .str z ∧ y = .int n ∧ PySem.MulOk z n ∧ Q (.str (Txt.mul z n)) H
theorem op_mul_strint : OpR X (binaryOp .Mult) rMulS := by
  intro pins s σ H x y v u Q I rx ry h
  obtain ⟨z, n, rfl, rfl, hok, q⟩ := h
  obtain ⟨t, rfl⟩ := rx
  obtain ⟨t', rfl⟩ := ry
  exact PySem.SB.mul hok fun t2 k => ⟨.str _, H, I.tok k, ⟨t2, rfl⟩, q⟩

/-! ### the module's constants -/
theorem pe_gi {x : Str} {i : Int} {pos : Pos} (h : ∃ t, X.mg x = some (.int i t)) (hg : Gl X x := by rfl) (hd : (x == ("__debug__" : Str)) = false := by decide) : PE X (.Name x pos) (tC (.int i)) := by
  obtain ⟨t, h⟩ := h
  exact pe_glob hg h ⟨t, rfl⟩ hd
theorem pe_gs {x : Str} {z : Str} {pos : Pos} (h : ∃ t, X.mg x = some (.str z t)) (hg : Gl X x := by rfl) (hd : (x == ("__debug__" : Str)) = false := by decide) : PE X (.Name x pos) (tC (.str z)) := by
  obtain ⟨t, h⟩ := h
  exact pe_glob hg h ⟨t, rfl⟩ hd
theorem pe_gr {x : Str} {a : Addr} {pos : Pos} (h : X.mg x = some (.ref a)) (hg : Gl X x := by rfl) (hd : (x == ("__debug__" : Str)) = false := by decide) : PE X (.Name x pos) (tC (.ref a)) := pe_glob hg h rfl hd

/-! ### isinstance of plain values against a built-in class -/
def tyN : V → String
  | .non => "NoneType" | .bl _ => "bool" | .int _ => "int" | .str _ => "str" | .byt _ => "bytes" | .flt _ => "float" | .ref _ => "object" | .ty _ => "type"
end
end Mn
set_option Elab.async false
set_option linter.all false
set_option maxRecDepth 100000
set_option maxHeartbeats 4000000
/-! Error objects of own classes as values: made, asked by isinstance, their fields read. -/
namespace Mn
open PySem L2
/-- at a: an error of the class at C, with its own dict or none -/
def ErrAt (H : Hp) (a C : Addr) : Prop := H a = some (exo a C none) ∨ ∃ (dx : Addr) (fs : List (Str × V)), H a = some (exo a C (some dx)) ∧ H dx = some (exd dx fs)
section
variable {X : Cx} {pins : List (Addr × Obj)} {σ : L2.St} {H : Hp} {s : Shared}
theorem err_inst {a C : Addr} (I : Inv X pins σ H s) (h : ErrAt H a C) : ∃ (ox : Obj) (od : Option Obj), PySem.W.InstAt s.heap a ox C od := by
  rcases h with h | ⟨dx, fs, h, hd⟩
  · obtain ⟨t, e⟩ := exo_at I.hok h
    exact ⟨_, none, e, rfl, rfl, trivial⟩
  · obtain ⟨t, e⟩ := exo_at I.hok h
    obtain ⟨mA, hn, _⟩ := exd_at I.hok hd
    obtain ⟨od, ho, _⟩ := lookIn_ns hn
    exact ⟨_, some od, e, rfl, rfl, ho⟩
/-- isinstance(e, D) of such an error -/
def rIsx (K : PySem.W.Frag) : List V → Hp → VK → Prop := fun xs H Q => ∃ (a C : Addr) (c : V) (cv : Value) (b : Bool), xs = [.ref a, c] ∧ ErrAt H a C ∧ ExcC K C ∧ (∀ u, RelV c u → u = cv) ∧ PySem.W.kitOne K (.ref C) cv = some b ∧ Q (.bl b) H
theorem call_isx : CallR X (.builtin "isinstance") (rIsx X.K) := by
  intro pins s σ H xs us Q I r h
  obtain ⟨a, C, c, cv, b, rfl, hE, C1, hcv, e, q⟩ := h
  cases r with
  | cons rx rr =>
    cases rr with
    | cons rt rr =>
      cases rr
      cases rx
      have ec := hcv _ rt
      subst ec
      obtain ⟨ox, od, J⟩ := err_inst I hE
      have hcl : (PySem.W.clsIn X.K C).isSome = true := by
        obtain ⟨cd, hc, _⟩ := PySem.W.any_some C1.hd
        rw [hc] <;> rfl
      exact PySem.W.kia_one (PySem.W.kitx_exc (od := od) (ox := ox) hcl C1.hg C1.hk C1.hs C1.ha C1.hn C1.ht C1.hm) I.kIn J e (fun z => nomatch z) fun tk => ⟨.bl b, H, I.tok tk, rfl, q⟩
theorem call_isxK {K : PySem.W.Frag} (h : X.K = K) : CallR X (.builtin "isinstance") (rIsx K) := h ▸ call_isx
/-- e.f of such an error -/
def tXfV (K : PySem.W.Frag) (f : Str) (te : TE) : TE := fun σ H Q => te σ H fun x H1 => ∃ (a C dx : Addr) (fs : List (Str × V)) (v : V), x = .ref a ∧ XfC K C ∧ PySem.W.findIn K (.ref C) f = some none ∧ H1 a = some (exo a C (some dx)) ∧ H1 dx = some (exd dx fs) ∧ fs.lookup f = some v ∧ Q v H1
theorem pe_xfV {e : Expr} {te : TE} {pos : Pos} {n : Str} (he : PE X e te) (hb : attributeBase e n X.env (eval e X.env) = eval e X.env := by rfl) : PE X (.Attribute e n pos) (tXfV X.K n te) := by
  refine ⟨fun pins s σ H Q I h => ?_⟩
  refine attr_of hb (thn (he.run pins s σ H _ I h) fun u s1 hh => ?_)
  obtain ⟨x, H1, I1, rx, a, C, dx, fs, v, ex, T, hno, ea, ed, l, q⟩ := hh
  subst ex
  obtain rfl : u = Value.ref a := rx
  obtain ⟨t, ho⟩ := exo_at I1.hok ea
  obtain ⟨mA, hn, hr⟩ := exd_at I1.hok ed
  obtain ⟨od, hod, hl⟩ := lookIn_ns hn
  obtain ⟨u, hu, ru⟩ := RelO.some_of (v := v) (o := mA n) (by rw [← l]; exact hr n)
  have J : PySem.W.InstAt s1.heap a _ C (some od) := ⟨ho, rfl, rfl, hod⟩
  exact PySem.HandSPX.exc_get I1.kIn J T.ga T.gg T.exC (PySem.W.findObj_own T.hdC hno rfl (by rw [hl, hu])) (handed_of ru) ⟨v, H1, I1.tok _, ru, q⟩
/-- C(), an own class without own __init__ -/
theorem pe_mk0 {C : Addr} {bmB : List Value} {B newId initId : String} {x : Str} {p pos : Pos} (F : ExcBaseFacts B newId initId bmB) (q : PySem.W.excIn X.K C bmB newId = true) (kC : PySem.W.keepIn X.K (.ref C) = true) (gC : X.mg x = some (.ref C)) (hg : Gl X x)
    (hdb : (x == ("__debug__" : Str)) = false := by decide) :
    PE X (.Call (.Name x p) [] [] pos) (fun _ H Q => ∀ a, H a = none → Q (.ref a) (upd H a (exo a C none))) := by
  refine ⟨fun pins s σ H Q I h => ?_⟩
  refine wpAny_Call_Name_kw (ld_glob I hg gC ?_ hdb)
  refine PySem.W.callWith_K0 I.kIn kC ?_
  show wpAny _ _ (call (.ref C) []) _ _ _
  obtain ⟨bm, N, nm, qn, bs, hdct, sn, sub, ab, col, dd, k0, k1, k2, k3, k5, mN, hC, hN, hni, T⟩ := exc_obj I.kIn q
  refine wpAny_call_exc_subT F T hC hN hni (fun h' a hm => ?_) (by show 0 ≤ sizeLine; exact Nat.zero_le _)
  have hn : H a = none := I.hok.gone hm.new
  obtain ⟨t, ht, _, _⟩ := hm.there
  exact ⟨.ref a, upd H a (exo a C none), I.laidN hm.keeps hm.new hn (exo_ok ht), rfl, h a hn⟩
/-- C(e, ..), C's own __init__ keeping sp, as a value -/
def tMkV (C : Addr) (sp : Sp) (dvs : List V) (ta : TA) : TE := fun σ H Q => ta σ H fun vs H1 => vs.length ≤ 1000 ∧ ∀ a, H1 a = none → sp (.ref a :: (vs ++ dvs)) (upd H1 a (exo a C none)) (fun v H2 => v = .non ∧ Q (.ref a) H2) (fun _ _ _ => False)
theorem pe_mkV {e : Expr} {es : List Expr} {ta : TA} {p pos : Pos} {CX : CXT} {x : Str} {C fI : Addr} {k : Nat} {fd : FuncData} {ps : List Str} {sp : Sp} {ds : List Value} {dvs : List V} (T : OexC X.K C) (iC : PySem.W.findIn X.K (.ref C) "__init__" = some (some (.ref fI))) (tI : PySem.W.typeIn X.K (.ref fI) = some (.type "function"))
    (F1 : FnOk X.prog X.w X.K X.mg X.base CX k fI fd ps sp) (hr : Room (k + 1) X.A) (hb : Binds X.K fd ps ds) (hd : Vals dvs ds) (hx : Passes CX X (fun _ _ _ => False)) (hg : Gl X x) (hm : X.mg x = some (.ref C)) (ha : PA X (e :: es) ta)
    (hdb : (x == ("__debug__" : Str)) = false := by decide) (he : starEach (e :: es) X.env = (false, eval e X.env) :: starEach es X.env := by rfl) (hpl : (backTo pos (starEach es X.env)).any (·.1) = false := by rfl) :
    PE X (.Call (.Name x p) (e :: es) [] pos) (tMkV C sp dvs ta) := by
  refine ⟨fun pins s σ H Q I h => ?_⟩
  have T0 := T
  obtain ⟨nm, q, N, bs, bm, sn, sub, ab, col, dd, k0, k1, k2, k3, k5, hC, hbm⟩ := T.cls
  refine wpAny_Call_Name_kw (ld_glob I hg hm ?_ hdb)
  refine PySem.W.callWith_K (h₀ := X.base) I.ok.mod.kin T.kC (thn (ha.run pos pins s σ H _ I h) fun us s1 ⟨vs, H1, I1, r1, hz, q1⟩ => ⟨I1.kIn, ?_⟩) he hpl
  show wpAny _ _ (call (.ref C) us) _ _ _
  obtain ⟨hp, g, dr, tk, os⟩ := s1
  generalize hid : hp.objs.size + 1 = id0
  have sz : hp.objs.size ≤ id0 := by omega
  have nid : H1 id0 = none := I1.hok.fresh sz
  have hq := q1 id0 nid
  have kp : ∀ b o, hp.get? b = some o → ((hp.push (PySem.W.kdv_tup us)).push (PySem.HandSPX.excO C hp.objs.size)).get? b = some o := fun b o eb => Heap.get?_push_of_some _ (Heap.get?_push_of_some _ eb)
  have at0 : ((hp.push (PySem.W.kdv_tup us)).push (PySem.HandSPX.excO C hp.objs.size)).get? id0 = some (PySem.HandSPX.excO C hp.objs.size) := by
    subst hid
    heap_get
  have I2 := I1.laid (t' := tk) (a := id0) (o := exo id0 C none) (h' := (hp.push (PySem.W.kdv_tup us)).push (PySem.HandSPX.excO C hp.objs.size)) kp sz (exo_ok at0)
  have r2 : Vals (V.ref id0 :: (vs ++ dvs)) (Value.ref id0 :: (us ++ ds)) := .cons rfl (r1.append hd)
  have hl : (Value.ref id0 :: us ++ ds).length = ps.length := by
    have z := r2.length
    rw [F1.len _ _ _ _ hq] at z
    exact z.symm
  have hus : us.length ≤ sizeLine := by
    rw [← Paired.length r1, sizeLine_eq]
    omega
  refine wpAny_call (PySem.HandSPX.call_own F.excBase_ValueError (fun Y => PySem.HandSPX.refsVE_contains Y bm hbm) (I1.kIn _ _ hC) (PySem.W.looks_findIn I1.kIn iC) (fun self => PySem.W.bind_fn I1.kIn self tI) hus ?_)
  rw [hid]
  refine codeAny_mono (F1.run _ X.stack _ _ ⟨Value.ref id0 :: us, []⟩ (Value.ref id0 :: (us ++ ds)) _ _ (fun _ _ _ => False) (hr.make C us []) (I2.env0.make C us []) (hb _ (Value.ref id0 :: us) I2.kIn hl) r2 hq) fun r s' hq' => ?_
  cases r with
  | error er => exact hx pins σ _ _ er s' I2 hq'
  | ok fl =>
    cases fl with
    | ret u =>
      obtain ⟨v, H2, J2, rv, ev, q2⟩ := I2.after hq'
      subst ev
      exact ⟨rv, .ref id0, H2, J2, rfl, q2⟩
    | next => exact False.elim hq'
    | brk => exact False.elim hq'
    | cont => exact False.elim hq'
/-- {x} of an int, a text, None, or the empty tuple: some text -/
def FmtV (K : PySem.W.Frag) (H : Hp) : V → Prop
  | .int i => i = 0 ∨ i = -1
  | .str z => z.length ≤ 100
  | .non => True
  | .ref p => SqT K H p []
  | _ => False
def tFmtV (K : PySem.W.Frag) (te : TE) : TE := fun σ H Q => te σ H fun x H1 => FmtV K H1 x ∧ ∀ m : Str, m.length ≤ 1000 → Q (.str m) H1
theorem pe_fmtV {e : Expr} {te : TE} {pos : Pos} {k : Nat} (hr : Room k X.A) (he : PE X e te) : PE X (.FormattedValue e (-1) none pos) (tFmtV X.K te) := by
  refine ⟨fun pins s σ H Q I h => ?_⟩
  refine wpAny_FormattedValue_plain (thn (he.run pins s σ H _ I h) fun v s1 hv => ?_)
  obtain ⟨x, H1, I1, r1, hf, q⟩ := hv
  cases x with
  | int i =>
    obtain ⟨t, rfl⟩ := r1
    rcases hf with hf | hf
    · subst hf
      exact wpAny_formatField_int (by decide +kernel) ⟨.str (toString (0 : Int)), H1, I1.tok _, ⟨_, rfl⟩, q _ (by decide +kernel)⟩
    · subst hf
      exact wpAny_formatField_int (by decide +kernel) ⟨.str (toString (-1 : Int)), H1, I1.tok _, ⟨_, rfl⟩, q _ (by decide +kernel)⟩
  | str z =>
    obtain ⟨t, rfl⟩ := r1
    have hz : z.length ≤ 100 := hf
    exact wpAny_formatField_str ⟨.str z, H1, I1, ⟨t, rfl⟩, q z (by omega)⟩ ⟨.str z, H1, I1.tok _, ⟨_, rfl⟩, q z (by omega)⟩ (by rw [sizeLine_eq]; omega)
  | non =>
    cases r1
    exact wpAny_formatField_none ⟨.str "None", H1, I1.tok _, ⟨_, rfl⟩, q _ (by decide +kernel)⟩
  | ref p =>
    cases r1
    obtain ⟨its, rv, ⟨o, ho, hcl, n, hd⟩, _⟩ := I1.tuple hf
    cases rv
    have hu := hr.units
    refine fmt_tuple (ts := []) (by omega) ho hcl hd .nil (by decide +kernel) fun m u tk hm => ⟨.str m, H1, I1.tok _, ⟨u, rfl⟩, q m (Nat.le_trans hm (by decide +kernel))⟩
  | bl _ => exact hf.elim
  | byt _ => exact hf.elim
  | flt _ => exact hf.elim
  | ty _ => exact hf.elim
end
end Mn
set_option Elab.async false
set_option linter.all false
set_option maxRecDepth 100000
set_option maxHeartbeats 4000000
/-! An __init__ of an own error class that asks super().__init__(text) first. -/
namespace Mn
open PySem PySem.W PySem.Calls PyProof.Rows
section
variable {prog : Program} {w : World} {A : Around} {E : Value → Shared → Prop} {h : Heap} {g : Array GenState} {d : Drawn} {t : Nat} {os : OsState} {B i newId : String} {bmB : List Value}
/-- the bound built-in __init__, called -/
theorem call_mw {u e t0 C N : Addr} {nm q : Str} {bs bm : List Value} {hdct : Bool} {sn : List Str} {sub : List Value} {ab : Bool} {col : Option Bool} {dd : Option Addr} {k0 k1 k2 k3 k5 : Option Value} {ys : List Value} {Q : Value → Shared → Prop} (FB : ExcBaseFacts B newId i bmB)
    (hC : h.get? C = some (excClassObj nm q C N bs bm hdct sn sub ab col dd k0 k1 k2 k3 k5 newId)) (he : h.get? e = some (excObj C t0 none .none)) (hu : h.get? u = some (kxs_mw i e)) (hz : ys.length ≤ sizeLine)
    (hq : ∀ h', (∀ b o, b ≠ e → h.get? b = some o → h'.get? b = some o) → h'.get? e = some (excObj C h.objs.size none .none) → Q .none ⟨h', g, d, t, os⟩) : wpAny (model prog w) A (call (.ref u) ys) Q E ⟨h, g, d, t, os⟩ := by
  have isMw : (Value.type "method-wrapper" == Value.type "method" || Value.type "method-wrapper" == Value.type "builtin_function_or_method" || Value.type "method-wrapper" == Value.type "method-wrapper") = true := by decide
  refine wpAny_call (codeAny_of_tree (show wpAny _ A.in1 (callAny (.ref u) ⟨ys, []⟩) _ _ _ from ?_))
  simp only [callAny]; refine wpAny_bind (wpAny_load hu ?_)
  simp only [kxs_mw, isMw, if_true]; refine KFB.if_so (by decide) (wpAny_bind (check_bound_init FB.toExcCallFacts hC he rfl (wpAny_bind (wpAny_pure (wpAny_pure ⟨plainId_quiet FB.init.plain _, codeAny_builtin FB.initEntry ?_⟩)))))
  exact exc_init_tree (cls := .ref C) (t0 := t0) (dv := none) (c2 := .none) (c3 := .none) (b4 := .bool false) he hz fun h' k e' _ => hq h' k e'
end
end Mn
namespace Mn
open PySem L2
/-- what the written part must say of such a class and its __init__ -/
structure SupC (P : Program) (K : PySem.W.Frag) (mg : Str → Option Value) (C f cc cda : Addr) (qual : Str) : Prop where
  ox : OexC K C
  ini : ∃ bmB, ExcBaseFacts "ValueError" "ValueError.__new__" "ValueError.__init__" bmB ∧ PySem.W.excInitIn K C bmB "ValueError.__new__" = true
  sup : PySem.W.ks_superIn K C C "__init__" = some (some (.builtin "ValueError.__init__"))
  subV : PySem.W.subIn K (.ref C) (.type "ValueError") = some true
  mroC : PySem.W.mroIn K C (.ref C) = some true
  op : PySem.W.nsIn K cStatics "thirdparty.any" = some none
  mgS : mg "super" = none
  code : PySem.W.codeIn K (.ref cda) qual = true
  cell : ∃ cl cld csl, K.lookup cc = some ⟨cl, cld, .cell (some (.ref C)), csl⟩
  file : ∃ ccl cdd vs ccs fl tf, K.lookup cda = some ⟨ccl, cdd, .fields vs, ccs⟩ ∧ vs[2]? = some (.str fl tf) ∧ ((P.main.file : Str) == fl) = true
  top : (P.main.scope.names.lookup ("super" : Str)).isSome = false
  fno : PySem.W.findIn K (.ref C) "fact" = some none ∨ True
/-- the body -/
def SupBody (st0 : Stmt) (fe : Expr) (env : Addr → Env) : Prop := ∃ (p0 p1 p2 p3 p4 : Pos) (pl : Sem Bool), st0 = .Expr (.Call (.Attribute (.Call (.Name "super" p0) [] [] p1) "__init__" p2) [fe] [] p3) p4 ∧ ∀ L : Addr,
  interactive (env L) = false ∧ starEach [fe] (env L) = (false, eval fe (env L)) :: starEach [] (env L) ∧
  eval (.Call (.Attribute (.Call (.Name "super" p0) [] [] p1) "__init__" p2) [fe] [] p3) (env L) = (do
      let ov ← attributeBase (.Call (.Name "super" p0) [] [] p1) "__init__" (env L) (eval (.Call (.Name "super" p0) [] [] p1) (env L))
      standAt p2.atName
      let (m, first) ← holding [ov] (getMethod ov "__init__" pl)
      callWith p3 m first (backTo p3 (starEach [fe] (env L))) [])
/-- such an __init__, with the cell of its class -/
abbrev sF (name qual : Str) (params : Arguments) (body : List Stmt) (scope : Scope) (cc cda : Addr) : NdefX.NF := ⟨name, qual, params, body, scope, [("__class__", cc)], cda⟩
theorem look1 {x0 y : Str} {c0 c : Addr} (e : [(x0, c0)].lookup y = some c) : y = x0 ∧ c = c0 := by
  simp only [List.lookup] at e
  split at e
  · rename_i q
    cases e
    exact ⟨by simpa using q, rfl⟩
  · cases e
section
variable {P : Program} {w : World} {K : PySem.W.Frag} {mg : Str → Option Value} {base : Heap}
theorem ok_sup {CX : CXT} {C f cc cda : Addr} {name qual nm : Str} {params : Arguments} {st0 st1 : Stmt} {fe : Expr} {scope : Scope} {kV doc pm ct oc : Value} {an od : Option Addr} {osl : Array (Option Value)} {N : List Str} {k : Nat}
    (lk : K.lookup f = some ⟨oc, od, .func (PySem.W.ksFn name qual params [st0, st1] scope .none kV doc pm an (.ref cda) ct cc), osl⟩) (T : SupC P K mg C f cc cda qual) (S : NdefX.NScope N ["self", nm] ["__class__"] scope) (hN : N = [("self" : Str), nm, "__class__"])
    (hself : ∃ ar : Arg, (params.posonlyargs ++ params.args).head? = some ar ∧ ar.arg = ("self" : Str)) (hks : scope.names.lookup ("super" : Str) = some .globalImplicit) (hkc : scope.names.lookup ("__class__" : Str) = some .free) (hka : scope.names.lookup ("self" : Str) = some NameKind.local)
    (B : SupBody st0 fe fun L => PySem.W.ksEnv qual scope L f (.ref cda) cc) {sp : Sp} (len : ∀ vs H Q E, sp vs H Q E → vs.length = 2)
    (hbody : ∀ (A : Around) (outer : List Env) (s : Shared) (H : Hp) (vs : List V) (Q : VK) (E : XK), Room k (A.deeper (PySem.W.ksEnv qual scope s.heap.objs.size f (.ref cda) cc)) → sp vs H Q E →
      ∃ (a : Addr) (y : V) (ta : TA) (u : TS), vs = [.ref a, y] ∧ H a = some (exo a C none) ∧ PA (NdefX.ncx CX P w K mg base N (sF name qual params [st0, st1] scope cc cda) f A outer s H E) [fe] ta ∧
        PSs (NdefX.ncx CX P w K mg base N (sF name qual params [st0, st1] scope cc cda) f A outer s H E) [st1] u ∧
        ta [some (.ref a), some y, some (.ref C)] H fun xs H1 => xs.length ≤ 1 ∧ H1 a = some (exo a C none) ∧ u { nx := fun _ H' => Q .non H', rt := Q } [some (.ref a), some y, some (.ref C)] H1) :
    FnOk P w K mg base CX (k + 1) f (PySem.W.ksFn name qual params [st0, st1] scope .none kV doc pm an (.ref cda) ct cc) ["self", nm] sp := by
  refine ⟨len, fun A outer s H args us vs Q E hr e0 hb r hsp => ?_⟩
  have kI : K.In s.heap := e0.mod.kin.keeps fun b o e => (e0.bs b o e).1
  have nlim : s.heap.NoLimit := e0.mod.nolimit.keeps fun b o e => (e0.bs b o e).1
  have hl := len _ _ _ _ hsp
  refine codeAny_call_function hr.depth (kI _ _ lk) rfl S.co S.gen rfl (PySem.W.codeRec_of kI T.code) (hb _ _ _ _ ?_)
  refine wpAny_newFunctionEnv S.nocell (fun ⟨n, _⟩ hy => S.par n (List.of_mem_zip hy).1) (fun h₁ hns hsb => ⟨nlim.fresh _ hsb, ?_⟩) S.kind
  show codeAny _ _ (.func [st0, st1] (PySem.W.ksEnv qual scope s.heap.objs.size f (.ref cda) cc)) _ _
  have kp : ∀ b o, s.heap.get? b = some o → h₁.get? b = some o := fun b o e => hsb.extBut b o (Nat.ne_of_lt (Heap.lt_size e)) (Heap.get?_push_of_some _ e)
  obtain ⟨a, y, ta, u, ev, ha, hfe, hst1, hta⟩ := hbody A outer s H vs Q E (hr.deeper _) hsp
  subst ev
  obtain ⟨cl, cld, csl, hcell⟩ := T.cell
  have CA : NdefX.CellsAt [("__class__", cc)] ["__class__"] [some (.ref C)] s.heap H := by
    have inb : base.get? cc = some ⟨cl, cld, .cell (some (.ref C)), csl⟩ := e0.mod.kin _ _ hcell
    have hc := e0.bs _ _ inb
    refine ⟨rfl, fun x c e => ?_, fun x z c e1 e2 => (look1 e1).1.trans (look1 e2).1.symm, fun j x hj => ?_⟩
    · rw [(look1 e).2]
      exact ⟨hc.2, _, _, hc.1, rfl⟩
    · cases j with
      | zero =>
        cases hj
        refine ⟨cc, rfl, fun v hv => ?_⟩
        have hv := Option.some.inj (Option.some.inj hv)
        subst hv
        exact ⟨.ref C, rfl, _, hc.1, rfl⟩
      | succ j => simp at hj
  have I := NdefX.inv_startN (CX := CX) (F := sF name qual params [st0, st1] scope cc cda) (f := f) (E := E) (tk := s.toks + ([("self" : Str), nm].zip us).length) S hr.hd e0 hl r CA hns kp
  have est : NdefX.startF N [.ref a, y] [some (.ref C)] = [some (.ref a), some y, some (.ref C)] := by
    subst hN
    rfl
  rw [est] at I
  obtain ⟨p0, p1, p2, p3, p4, pl, eb, BL⟩ := B
  obtain ⟨hia, hse, hev⟩ := BL s.heap.objs.size
  subst eb
  refine PySem.ks_codeAny_funcAt ?_
  refine PySem.ks_wpAt_execs_cons ?_
  refine PySem.ks_wpAt_Expr_any ?_ hia
  refine PySem.ks_wpAt_MethodCall (pl := pl) ?_ hev
  obtain ⟨ar, har, earg⟩ := hself
  obtain ⟨ccl, cdd, vs2, ccs, fl, tf, hcode, hvs, hfile⟩ := T.file
  have bk : ∀ b o, base.get? b = some o → h₁.get? b = some o := fun b o e => kp b o (e0.bs b o e).1
  have kI1 : K.In h₁ := kI.keeps kp
  obtain ⟨nm0, q0, N0, bs0, bm0, sn0, sub0, ab0, col0, dd0, k0, k1, k2, k3, k5, hCl, hbm⟩ := T.ox.cls
  have hcl : PySem.W.clsIn K C = some { name := nm0, bases := bs0, mro := .ref C :: bm0, ns := N0, qualname := q0, hasDict := true, slotNames := sn0, subclasses := sub0, abstract := ab0, collection := col0, hasDel := false } := by
    unfold PySem.W.clsIn; rw [hCl] <;> rfl
  have ndp : [("self" : Str), nm].Nodup := by
    have z := S.nd
    rw [hN] at z
    exact z.sublist (by simp)
  obtain ⟨t1, hx⟩ := exo_at I.hok ha
  refine PySem.ks_wpAt_super_base hks hkc (by decide) rfl (kI1 _ _ lk) rfl har rfl (kI1 _ _ hcode) rfl hvs hfile T.top ?_
  obtain ⟨mb, hmb, hmv⟩ := e0.mod.blt
  refine PySem.W.ks_loadName_global S.kind hks (PySem.Calls.loadGlobal_builtin (e0.mod.glob.keeps bk) T.mgS (hmb.keeps bk) ((hmv "super" (by decide)).trans (by decide +kernel)) ⟨rfl, ?_⟩)
  refine wpAny_loadName_free S.kind hkc rfl ⟨_, kI1 _ _ hcell, rfl⟩ ?_
  rw [earg]
  cases r with
  | @cons _ u0 _ ur ra r2 =>
    obtain rfl : u0 = Value.ref a := ra
    refine wpAny_loadName_local S.kind hka hns (NdefX.zip_look (i := 0) ndp rfl rfl) ?_
    refine ks_wpAny_isType_cls (kI1 _ _ hCl) rfl ⟨rfl, ?_⟩
    refine ks_wpAny_call_super (kI1 _ _ hCl) rfl hx rfl (fun c e => by cases e) (PySem.W.looks_mroIn kI1 T.mroC) (fun h2 e2 kk2 => ?_)
    have I2 := I.kept (t' := s.toks + ([("self" : Str), nm].zip (Value.ref a :: ur)).length) kk2
    have kI2 := I2.kIn
    obtain ⟨t2, hx2⟩ := exo_at I2.hok ha
    have J2 : PySem.W.InstAt h2 a _ C none := ⟨hx2, rfl, rfl, trivial⟩
    have hsup := T.sup
    unfold PySem.W.ks_superIn at hsup
    rw [hcl, Option.bind_some] at hsup
    refine PySem.W.kxs_getMethod PySem.W.kxs_ValueError e2 (PySem.W.looks_opaque kI2 T.op) (l₀ := .ref C :: bm0) ((PySem.W.looks_clsIn kI2 hcl).andThen .now) rfl kI2 hsup (J2.type.andThen (PySem.W.looks_subIn kI2 T.subV)) (PySem.W.ks_ne kI2 J2 hcl) (by decide) ?_
    -- the wrapper stands while the text is made
    have gu : (h2.push (PySem.W.kxs_mw "ValueError.__init__" a)).get? h2.objs.size = some (PySem.W.kxs_mw "ValueError.__init__" a) := Heap.get?_push_at rfl rfl
    have I3 := I2.kept (h' := h2.push (PySem.W.kxs_mw "ValueError.__init__" a)) (t' := s.toks + ([("self" : Str), nm].zip (Value.ref a :: ur)).length + 1) fun b o e => Heap.get?_push_of_some _ e
    have fu : H h2.objs.size = none := I2.hok.fresh (Nat.le_refl _)
    have lu : s.heap.objs.size < h2.objs.size := I2.lt
    have I4 := I3.pins_of (pins' := [(h2.objs.size, PySem.W.kxs_mw "ValueError.__init__" a)]) fun p hp => by
      have ep : p = (h2.objs.size, PySem.W.kxs_mw "ValueError.__init__" a) := by simpa using hp
      subst ep
      refine ⟨gu, fu, Nat.ne_of_gt lu, fun hb => ?_, fun v z => by cases z⟩
      obtain ⟨_, o, ho, _⟩ := e0.funs.mem hb
      exact absurd (Heap.lt_size ho) (Nat.not_lt.mpr (Nat.le_of_lt lu))
    have nb : base.get? h2.objs.size = none := by
      cases z : base.get? h2.objs.size with
      | none => rfl
      | some o => exact absurd (Heap.lt_size (e0.bs _ _ z).1) (Nat.not_lt.mpr (Nat.le_of_lt lu))
    refine PySem.W.kxs_callWith1 (i := "ValueError.__init__") (x := a) (news_all (g := base) (L := s.heap.objs.size)) (mem_allNews (Nat.ne_of_gt lu) nb gu) ?_ hse (by rfl)
    refine wpAny_mono (hfe.run p3 _ _ _ H _ I4 hta) (fun us' s5 hs5 => ?_) fun e s' hs => hs
    obtain ⟨xs, H5, I5, r5, hxl, hH5, hu5⟩ := hs5
    obtain ⟨hp5, g5, d5, tk5, os5⟩ := s5
    have p5 := (I5.pin (h2.objs.size, PySem.W.kxs_mw "ValueError.__init__" a) (List.mem_append_right _ (by simp))).1
    refine ⟨p5, ?_⟩
    obtain ⟨bmB, FB, hin⟩ := T.ini
    obtain ⟨nm6, N6, q6, bs6, bm6, hd6, sn6, sub6, ab6, col6, dd6, a0, a1, a2, a3, a5, hC6, _⟩ := PySem.W.excInit_of I5.kIn hin
    obtain ⟨t5, hx5⟩ := exo_at I5.hok hH5
    refine call_mw FB hC6 hx5 p5 (by rw [← Paired.length r5, sizeLine_eq]; omega) fun h6 k6 e6 => ?_
    have J6 := I5.write (t' := tk5) (x := a) (e := a) (o := exo a C none) (by rw [hH5]; exact True.intro) (.inl rfl) k6 ⟨_, e6⟩ (exo_ok e6)
    have eu : upd H5 a (exo a C none) = H5 := by
      funext b
      by_cases hb : b = a
      · rw [hb, upd_same, hH5]
      · rw [upd_ne hb]
    rw [eu] at J6
    have J7 := J6.pins_of (pins' := []) fun p hp => absurd hp (by simp)
    refine wpAt_of_wpAny (wpAny_mono (hst1.run [] _ _ H5 _ J7 hu5) (fun fl s' hs => ?_) fun e s' hs => hs)
    cases fl with
    | ret u =>
      obtain ⟨v, σ', H', J, rv, q⟩ := hs
      exact ⟨v, H', J.os, J.bare, J.base, J.hok, rv, q⟩
    | next =>
      obtain ⟨σ', H', J, q⟩ := hs
      exact ⟨.non, H', J.os, J.bare, J.base, J.hok, rfl, q⟩
    | brk =>
      obtain ⟨_, _, _, q⟩ := hs
      exact q.elim
    | cont =>
      obtain ⟨_, _, _, q⟩ := hs
      exact q.elim
end
end Mn
set_option Elab.async false
set_option linter.all false
set_option maxRecDepth 100000
set_option maxHeartbeats 4000000
/-! What the top has written of error classes, as one Bool that the kernel computes. -/
namespace Mn
open PySem L2
section
variable {K : PySem.W.Frag} {C : Addr}
def oexB (K : PySem.W.Frag) (C : Addr) : Bool := (match K.lookup C with
  | some ⟨.type "type", _, .cls cd, sl⟩ => (match cd.mro, sl.toList with
    | .ref D :: bm, [_, _, _, _, some (.builtin n), _] => (D == C && n == "ValueError.__new__") && ((!cd.hasDel && cd.hasDict) && PySem.HandSPX.refsVE bm)
    | _, _ => false)
  | _ => false) && (He.eqO (PySem.W.findIn K (.ref C) "__setattr__") (some (some (.builtin "object.__setattr__"))) && (decide (PySem.W.subIn K (.ref C) (.type "BaseException") = some true) && (decide (PySem.W.typeIn K (.ref C) = some (.type "type")) && PySem.W.keepIn K (.ref C))))
theorem oexB_ok (h : oexB K C = true) : OexC K C := by
  unfold oexB at h
  obtain ⟨h1, h⟩ := He.ba h
  obtain ⟨h2, h⟩ := He.ba h
  obtain ⟨h3, h⟩ := He.ba h
  obtain ⟨h4, h5⟩ := He.ba h
  refine ⟨?_, He.eqO_ok h2, of_decide_eq_true h3, of_decide_eq_true h4, h5⟩
  split at h1
  · rename_i dd cd sl ho
    split at h1
    · rename_i D bm b0 b1 b2 b3 n b5 hm hs
      simp only [Bool.and_eq_true, beq_iff_eq, Bool.not_eq_true'] at h1
      obtain ⟨⟨rfl, rfl⟩, ⟨hdel, hdct⟩, hv⟩ := h1
      obtain ⟨nm, bs, mro, ns, qn, hd, sn, sb, ab, col, del⟩ := cd
      dsimp only at hm hdel hdct
      subst hm hdel hdct
      have es : sl = #[b0, b1, b2, b3, some (.builtin "ValueError.__new__"), b5] := by
        obtain ⟨l⟩ := sl
        simp only at hs
        rw [hs]
      subst es
      exact ⟨nm, qn, ns, bs, bm, sn, sb, ab, col, dd, b0, b1, b2, b3, b5, ho, hv⟩
    · cases h1
  · cases h1
def excB (K : PySem.W.Frag) (C : Addr) : Bool := He.eqO (PySem.W.findIn K (.ref C) "__getattribute__") (some (some (.builtin "BaseException.__getattribute__"))) && (He.eqO (PySem.W.findIn K (.ref C) "__getattr__") (some none) && (decide (PySem.W.subIn K (.ref C) (.type "BaseException") = some true) &&
  (PySem.W.hasDictIn K C && (He.eqO (PySem.W.findIn K (.ref C) "__class__") (some (some (.builtin "object.__class__"))) && (He.eqO (PySem.W.specialIn K (.builtin "object.__class__") "__get__") (some (some (.builtin "getset_descriptor.__get__"))) &&
  (decide (PySem.W.takesIn K (.builtin "object.__class__") = some true) && decide (PySem.W.mroIn K C (.type "object") = some true)))))))
theorem excB_ok (h : excB K C = true) : ExcC K C := by
  unfold excB at h
  obtain ⟨h1, h⟩ := He.ba h
  obtain ⟨h2, h⟩ := He.ba h
  obtain ⟨h3, h⟩ := He.ba h
  obtain ⟨h4, h⟩ := He.ba h
  obtain ⟨h5, h⟩ := He.ba h
  obtain ⟨h6, h⟩ := He.ba h
  obtain ⟨h7, h8⟩ := He.ba h
  exact ⟨He.eqO_ok h1, He.eqO_ok h2, of_decide_eq_true h3, h4, He.eqO_ok h5, He.eqO_ok h6, of_decide_eq_true h7, of_decide_eq_true h8⟩
theorem ExcC.xf (h : ExcC K C) : XfC K C := ⟨h.hg, h.hk, h.hs, h.hd⟩
/-- the __init__ of the class at C, its cell, its code object -/
def ccOf (K : PySem.W.Frag) (f : Addr) : Addr := match K.lookup f with
  | some ⟨_, _, .func fd, _⟩ => (match fd.closure with
    | [(_, c)] => c
    | _ => 0)
  | _ => 0
def cdOf (K : PySem.W.Frag) (f : Addr) : Addr := match K.lookup f with
  | some ⟨_, _, .func fd, _⟩ => (match fd.code with
    | .ref c => c
    | _ => 0)
  | _ => 0
abbrev FnX : Type := Option (Str × Str × Arguments × FuncBody × Scope × Addr × List Str × Addr)
def fnX0 (K : PySem.W.Frag) (a : Addr) : FnX := match K.lookup a with
  | some ⟨_, _, .func fd, _⟩ => some (fd.name, fd.qualname, fd.params, fd.body, fd.scope, fd.globals, fd.closure.map (·.1), fd.builtins)
  | _ => none
def supB (file : Str) (K : PySem.W.Frag) (C f : Addr) (qual nm : Str) : Bool := (match K.lookup f with
  | some ⟨_, _, .func fd, _⟩ => decide (fd.defaults = .none) && decide (fd.code = .ref (cdOf K f)) && PySem.W.codeIn K (.ref (cdOf K f)) qual
  | _ => false) && ((match K.lookup (ccOf K f) with
  | some ⟨_, _, .cell (some (.ref D)), _⟩ => decide (D = C)
  | _ => false) && ((match K.lookup (cdOf K f) with
  | some ⟨_, _, .fields vs, _⟩ => (match (vs[2]? : Option Value) with
    | some (Value.str fl _) => file == fl
    | _ => false)
  | _ => false) && (PySem.W.excInitIn K C He.veBase "ValueError.__new__" && (He.eqO (PySem.W.ks_superIn K C C "__init__") (some (some (.builtin "ValueError.__init__"))) && (decide (PySem.W.subIn K (.ref C) (.type "ValueError") = some true) &&
  (decide (PySem.W.mroIn K C (.ref C) = some true) && (He.eqO (PySem.W.nsIn K cStatics "thirdparty.any") (some none) && (He.eqO (PySem.W.findIn K (.ref C) "__init__") (some (some (.ref f))) && (decide (PySem.W.typeIn K (.ref f) = some (.type "function")) && He.eqO (PySem.W.findIn K (.ref C) nm) (some none)))))))))) 
structure SupOk (P : Program) (K : PySem.W.Frag) (mg : Str → Option Value) (C f : Addr) (qual nm : Str) : Prop where
  sup : SupC P K mg C f (ccOf K f) (cdOf K f) qual
  ini : PySem.W.findIn K (.ref C) "__init__" = some (some (.ref f))
  fn : PySem.W.typeIn K (.ref f) = some (.type "function")
  no : PySem.W.findIn K (.ref C) nm = some none
  ex : ∃ oc od fd osl, K.lookup f = some ⟨oc, od, .func fd, osl⟩ ∧ fd.defaults = .none ∧ fd.code = .ref (cdOf K f)
theorem supB_ok {P : Program} {mg : Str → Option Value} {f : Addr} {qual nm : Str} (hO : oexB K C = true) (h : supB P.main.file K C f qual nm = true) (hs : mg "super" = none) (ht : (P.main.scope.names.lookup ("super" : Str)).isSome = false) : SupOk P K mg C f qual nm := by
  unfold supB at h
  obtain ⟨h1, h⟩ := He.ba h
  obtain ⟨h2, h⟩ := He.ba h
  obtain ⟨h3, h⟩ := He.ba h
  obtain ⟨h4, h⟩ := He.ba h
  obtain ⟨h5, h⟩ := He.ba h
  obtain ⟨h6, h⟩ := He.ba h
  obtain ⟨h7, h⟩ := He.ba h
  obtain ⟨h8, h⟩ := He.ba h
  obtain ⟨h9, h⟩ := He.ba h
  obtain ⟨h10, h11⟩ := He.ba h
  have ex : ∃ oc od fd osl, K.lookup f = some ⟨oc, od, .func fd, osl⟩ ∧ fd.defaults = .none ∧ fd.code = .ref (cdOf K f) ∧ PySem.W.codeIn K (.ref (cdOf K f)) qual = true := by
    split at h1
    · rename_i oc od fd osl ho
      obtain ⟨a, c⟩ := He.ba h1
      obtain ⟨a, b⟩ := He.ba a
      exact ⟨oc, od, fd, osl, ho, of_decide_eq_true a, of_decide_eq_true b, c⟩
    · cases h1
  obtain ⟨oc, od, fd, osl, e1, e2, e3, e4⟩ := ex
  refine ⟨⟨oexB_ok hO, ⟨He.veBase, PySem.F.excBase_ValueError, h4⟩, He.eqO_ok h5, of_decide_eq_true h6, of_decide_eq_true h7, He.eqO_ok h8, hs, e4, ?_, ?_, ht, .inr trivial⟩, He.eqO_ok h9, of_decide_eq_true h10, He.eqO_ok h11, oc, od, fd, osl, e1, e2, e3⟩
  · split at h2
    · rename_i cl cld D csl ho
      rw [of_decide_eq_true h2] at ho
      exact ⟨cl, cld, csl, ho⟩
    · cases h2
  · split at h3
    · rename_i ccl cdd vs ccs ho
      split at h3
      · rename_i fl tf hv
        exact ⟨ccl, cdd, vs, ccs, fl, tf, ho, hv, h3⟩
      · cases h3
    · cases h3
end
/-! the hook -/
structure DefX where
  at_ : PySem.W.Frag → Addr
  val : FnX
abbrev Al2 : Type := Bool × (List He5.FnW × List FnX)
def obsX (ex : PySem.W.Frag → Bool) (fa : List He.Fa) (fn : List He5.DefA) (fx : List DefX) (K : PySem.W.Frag) : Al2 := (ex K && ((fa.all fun f => f.ok K) && fn.all fun d => d.ok K), fn.map (fun d => He5.fnA K (d.at_ K)), fx.map fun d => fnX0 K (d.at_ K))
def valX (fn : List He5.DefA) (fx : List DefX) : Al2 := (true, fn.map He5.DefA.val, fx.map DefX.val)
def SaysX (ex : PySem.W.Frag → Bool) (fa : List He.Fa) (fn : List He5.DefA) (fx : List DefX) (K : PySem.W.Frag) : Prop := obsX ex fa fn fx K = valX fn fx
section
variable {ex : PySem.W.Frag → Bool} {fa : List He.Fa} {fn : List He5.DefA} {fx : List DefX} {K : PySem.W.Frag}
theorem SaysX.more (c : SaysX ex fa fn fx K) : ex K = true := (He.ba (congrArg (fun z : Al2 => z.1) c)).1
theorem SaysX.fact (c : SaysX ex fa fn fx K) (i : Nat) {f : He.Fa} (h : fa[i]? = some f := by rfl) : f.ok K = true :=
  List.all_eq_true.mp (He.ba (He.ba (congrArg (fun z : Al2 => z.1) c)).2).1 f (List.mem_of_getElem? h)
theorem SaysX.def_ (c : SaysX ex fa fn fx K) (i : Nat) {d : He5.DefA} (h : fn[i]? = some d := by rfl) : ∃ fd, L2.FunD K d.name d.qual d.params d.body d.scope (d.dvs K) (d.kws K) (d.at_ K) fd := by
  have c2 := (He.ba (He.ba (congrArg (fun z : Al2 => z.1) c)).2).2
  have e : fn.map (fun d => He5.fnA K (d.at_ K)) = fn.map He5.DefA.val := congrArg (fun z : Al2 => z.2.1) c
  have e2 : (fn.map fun d => He5.fnA K (d.at_ K))[i]? = (fn.map He5.DefA.val)[i]? := by rw [e]
  rw [List.getElem?_map, List.getElem?_map, h] at e2
  exact He5.DefA.funD (Option.some.inj e2) (List.all_eq_true.mp c2 d (List.mem_of_getElem? h))
theorem SaysX.defx (c : SaysX ex fa fn fx K) (i : Nat) {d : DefX} (h : fx[i]? = some d := by rfl) : fnX0 K (d.at_ K) = d.val := by
  have e : fx.map (fun d => fnX0 K (d.at_ K)) = fx.map DefX.val := congrArg (fun z : Al2 => z.2.2) c
  have e2 : (fx.map fun d => fnX0 K (d.at_ K))[i]? = (fx.map DefX.val)[i]? := by rw [e]
  rw [List.getElem?_map, List.getElem?_map, h] at e2
  exact Option.some.inj e2
end
def obsXG (n : Nat) (ex : PySem.W.Frag → Bool) (fa : List He.Fa) (fn : List He5.DefA) (fx : List DefX) (g : Addr → Option Obj) : Al2 := obsX ex fa fn fx (He.frG g (He5.asA g n))
def hookX (n : Nat) (ex : PySem.W.Frag → Bool) (fa : List He.Fa) (fn : List He5.DefA) (fx : List DefX) : PySem.W.Hook where
  α := Al2
  obs := fun s => obsXG n ex fa fn fx s.heap.get?
  val := fun _ => valX fn fx
  says := fun _ h => ∃ K : PySem.W.Frag, K.In h ∧ SaysX ex fa fn fx K
  of := fun _ _ e => ⟨_, He.frG_in, e⟩
  keeps := fun _ _ _ ⟨K, hK, c⟩ k => ⟨K, PySem.W.Frag.In.keeps hK k, c⟩
theorem obsXG_eq {n : Nat} {ex : PySem.W.Frag → Bool} {fa : List He.Fa} {fn : List He5.DefA} {fx : List DefX} {g : Addr → Option Obj} {s : Shared} (h : ∀ a, g a = s.heap.get? a) : obsXG n ex fa fn fx g = (hookX n ex fa fn fx).obs s := by
  have e : g = s.heap.get? := funext h
  rw [e] <;> rfl
/-- such an __init__ is the function that the text says -/
theorem ks_of {K : PySem.W.Frag} {f : Addr} {name qual : Str} {params : Arguments} {body : List Stmt} {scope : Scope} (e : fnX0 K f = some (name, qual, params, .stmts body, scope, mainGlobals, [("__class__" : Str)], builtinsNs)) (x : ∃ oc od fd osl, K.lookup f = some ⟨oc, od, .func fd, osl⟩ ∧ fd.defaults = .none ∧ fd.code = .ref (cdOf K f)) :
    ∃ oc od kV doc pm an ct osl, K.lookup f = some ⟨oc, od, .func (PySem.W.ksFn name qual params body scope .none kV doc pm an (.ref (cdOf K f)) ct (ccOf K f)), osl⟩ := by
  obtain ⟨oc, od, fd, osl, ho, hd, hc⟩ := x
  have hcc : ∀ cl, fd.closure = cl → ccOf K f = (match cl with
    | [(_, c)] => c
    | _ => 0) := fun cl q => by
    unfold ccOf
    rw [ho]
    dsimp only
    rw [q]
  unfold fnX0 at e
  rw [ho] at e
  obtain ⟨n1, n2, n3, n4, n5, n6, n7, n8, n9, n10, n11, n12, n13, n14, n15⟩ := fd
  simp only [Option.some.injEq, Prod.mk.injEq] at e
  obtain ⟨h1, h2, h3, h4, h5, h6, h7, h8⟩ := e
  dsimp only at hd hc hcc
  cases n7 with
  | nil => cases h7
  | cons p r =>
    obtain ⟨y, c⟩ := p
    cases r with
    | cons p2 r2 => cases h7
    | nil =>
      have ey : y = ("__class__" : Str) := by simpa using h7
      have ec := hcc _ rfl
      dsimp only at ec
      refine ⟨oc, od, n9, n10, n11, n12, n14, osl, ?_⟩
      subst h1 h2 h3 h4 h5 h6 h8 ey
      rw [ho, ec, ← hc, hd]
end Mn
set_option Elab.async false
set_option linter.all false
set_option maxRecDepth 100000
namespace Mn
open PySem L2
def topS (i : Nat) : Stmt := PySem.Challenge.pw_meansinprint_k19_errors_apart.main.body.getD i (.Pass ⟨0, 0, 0, 0⟩)
-- __init__: pe: JoinedStr(values=[Constant(value='the '), FormattedValue(value=Name(id='fact
-- __init__: pe: JoinedStr(values=[Constant(value='the '), FormattedValue(value=Name(id='fact
-- __init__: pe: JoinedStr(values=[Constant(value='the text is that of no report, by word '),
abbrev s_l_random : Stmt := topS 18
abbrev N_l_random : List Str := ["_law_script", "_law_salt", "_law_seed", "_law_cell"]
abbrev P_l_random : List Str := ["_law_script", "_law_salt"]
theorem sc_l_random : FnScope N_l_random P_l_random (defScope s_l_random) := ⟨rfl, rfl, rfl, by decide +kernel, rfl, by decide +kernel, by decide +kernel⟩
abbrev s_l_below : Stmt := topS 19
abbrev N_l_below : List Str := ["_law_d", "_law_size", "_law_result"]
abbrev P_l_below : List Str := ["_law_d", "_law_size"]
theorem sc_l_below : FnScope N_l_below P_l_below (defScope s_l_below) := ⟨rfl, rfl, rfl, by decide +kernel, rfl, by decide +kernel, by decide +kernel⟩
abbrev s_l_pick : Stmt := topS 20
abbrev N_l_pick : List Str := ["_law_d", "_law_items"]
abbrev P_l_pick : List Str := ["_law_d", "_law_items"]
theorem sc_l_pick : FnScope N_l_pick P_l_pick (defScope s_l_pick) := ⟨rfl, rfl, rfl, by decide +kernel, rfl, by decide +kernel, by decide +kernel⟩
abbrev s_l_one : Stmt := topS 21
abbrev N_l_one : List Str := ["_law_d", "_law_one_here", "_law_kind", "_law_error"]
abbrev P_l_one : List Str := ["_law_d"]
theorem sc_l_one : FnScope N_l_one P_l_one (defScope s_l_one) := ⟨rfl, rfl, rfl, by decide +kernel, rfl, by decide +kernel, by decide +kernel⟩
abbrev s_l_classes : Stmt := topS 22
abbrev N_l_classes : List Str := ["_law_error", "_law_found", "_law_one_here"]
abbrev P_l_classes : List Str := ["_law_error"]
theorem sc_l_classes : FnScope N_l_classes P_l_classes (defScope s_l_classes) := ⟨rfl, rfl, rfl, by decide +kernel, rfl, by decide +kernel, by decide +kernel⟩
abbrev s_law : Stmt := topS 23
abbrev N_law : List Str := ["_law_script", "_law_d", "_law_turn", "_law_errors", "_law_error", "_law_is_right", "_law_one_here"]
abbrev P_law : List Str := ["_law_script"]
theorem sc_law : FnScope N_law P_law (defScope s_law) := ⟨rfl, rfl, rfl, by decide +kernel, rfl, by decide +kernel, by decide +kernel⟩
end Mn
set_option Elab.async false
set_option linter.all false
set_option maxRecDepth 100000
set_option maxHeartbeats 4000000
/-! The law's draws: what the list of them keeps. -/
namespace Mn
open PySem L2
/-- names of built-ins that the text binds nowhere -/
structure Blt (mg : Str → Option Value) : Prop where
  len : mg "len" = none
  abs : mg "abs" = none
  int : mg "int" = none
  str : mg "str" = none
  sum : mg "sum" = none
  min : mg "min" = none
  max : mg "max" = none
  all : mg "all" = none
  any : mg "any" = none
  range : mg "range" = none
  sorted : mg "sorted" = none
  tuple : mg "tuple" = none
  list : mg "list" = none
  set : mg "set" = none
  bool : mg "bool" = none
  dict : mg "dict" = none
  isinstance : mg "isinstance" = none
/-- the list of draws at d -/
def Dr (H : Hp) (d : Addr) : Prop := ∃ (a b : Int) (r : List Int), H d = some (.lst (.int a :: .int b :: r.map V.int)) ∧ 0 ≤ a ∧ a < 2147483647 ∧ 0 ≤ b ∧ (∀ x ∈ r, 0 ≤ x) ∧ r.length ≤ 63
/-- all but d stands -/
def Kp (d : Addr) (H H' : Hp) : Prop := ∀ b o, b ≠ d → H b = some o → H' b = some o
theorem Kp.refl (d : Addr) (H : Hp) : Kp d H H := fun _ _ _ h => h
theorem Kp.trans {d : Addr} {H H1 H2 : Hp} (a : Kp d H H1) (b : Kp d H1 H2) : Kp d H H2 := fun c o n h => b c o n (a c o n h)
theorem Kp.upd (d : Addr) (H : Hp) (o : HO) : Kp d H (upd H d o) := fun b _ n h => by rw [upd_ne n]; exact h
theorem Kp.new {d p : Addr} {H : Hp} {o : HO} (h : H p = none) : Kp d H (L2.upd H p o) := fun b _ _ e => by rw [upd_ne (ne_of_none e h)]; exact e
theorem Kp.free {d p : Addr} {H H' : Hp} (k : Kp d H H') (hd : Dr H' d) (h : H' p = none) : H p = none := by
  cases q : H p with
  | none => rfl
  | some o =>
    have np : p ≠ d := fun e => by
      obtain ⟨_, _, _, e2, _⟩ := hd
      rw [e, e2] at h
      cases h
    rw [k p o np q] at h
    cases h
theorem Dr.ne {H : Hp} {d p : Addr} (h : Dr H d) (e : H p = none) : d ≠ p := by
  obtain ⟨_, _, _, e2, _⟩ := h
  exact ne_of_none e2 e
theorem Dr.new {H : Hp} {d p : Addr} {o : HO} (h : Dr H d) (e : H p = none) : Dr (L2.upd H p o) d := by
  have n := h.ne e
  obtain ⟨a, b, r, e2, q⟩ := h
  exact ⟨a, b, r, by rw [upd_ne n]; exact e2, q⟩
theorem Dr.ne_tup {H : Hp} {d p : Addr} {xs : List V} (h : Dr H d) (e : H p = some (.tup xs)) : p ≠ d := by
  obtain ⟨_, _, _, e2, _⟩ := h
  exact ne_of e e2 (by intro q; cases q)
theorem Dr.ne_ins {H : Hp} {d p C dx : Addr} {fs : List (Str × V)} (h : Dr H d) (e : H p = some (.ins C dx fs)) : p ≠ d := by
  obtain ⟨_, _, _, e2, _⟩ := h
  exact ne_of e e2 (by intro q; cases q)
theorem fmod_in {x n : Int} (h : 0 < n) : 0 ≤ x.fmod n ∧ x.fmod n < n := ⟨Int.fmod_nonneg_of_pos x h, Int.fmod_lt_of_pos x h⟩
theorem at0 {x : V} {xs : List V} : atI (x :: xs) 0 = some x := atI_nat (j := 0) rfl
theorem at1 {x y : V} {xs : List V} : atI (x :: y :: xs) 1 = some y := atI_nat (j := 1) rfl
theorem ix0 {x : V} {xs : List V} : ixN (x :: xs).length 0 = some 0 := by
  unfold ixN
  rw [if_pos (by decide), if_pos (by simp only [List.length_cons]; omega)]; rfl
theorem ix1 {x y : V} {xs : List V} : ixN (x :: y :: xs).length 1 = some 1 := by
  unfold ixN
  rw [if_pos (by decide), if_pos (by simp only [List.length_cons]; omega)]; rfl
/-- _law_below(d, n) -/
def spBelow : Sp := fun vs H Q _ => ∃ (d : Addr) (n : Int), vs = [.ref d, .int n] ∧ Dr H d ∧ 0 < n ∧ n < 1073741824 ∧ ∀ (r : Int) (H' : Hp), 0 ≤ r → r < n → Dr H' d → Kp d H H' → Q (.int r) H'
section
variable {P : Program} {w : World} {K : PySem.W.Frag} {mg : Str → Option Value} {base : Heap}
theorem ok_below {f : Addr} {fd : FuncData} (F : Fun K "_law_below" "_law_below" s_l_below f fd) (T : Blt mg) : FnOk P w K mg base CX0 1 f fd P_l_below spBelow := by
  refine F.ok sc_l_below (fun vs H Q E h => ?_) (fun cdv A outer s H vs Q E hr h => ?_)
  · obtain ⟨d, n, rfl, _⟩ := h
    rfl
  · obtain ⟨d, n, rfl, ⟨a, b, r, hd, ha0, ha, hb, hrr, hl⟩, hn0, hn, k⟩ := h
    refine ⟨_, (pss_j
  (ps_if (PW.pt (pw_and (pt_cmpR op_eq (pe_ix ix_list (pv 0) pe_int (fun _ _ => rfl)) pe_int (nomark _)) (pw_and1 (pt_cmpR op_gt (pe_callB call_len_seq (by rfl) T.len (by decide +kernel) (pa_cons (pv 0) pa_nil)) pe_int (nomark _))))) (pss_one
  (ps_asg (pe_bm PySem.F.plainAttrs_list PySem.F.slot_list_pop PySem.F.type_list_pop mt_popAt (pv 0) (pa_cons pe_int pa_nil)) (pg_sub (pv 0) pe_int set_list))) pss_nil)
  (pss_cons
  (ps_if (pt_cmpR op_gt (pe_ix ix_list (pv 0) pe_int (fun _ _ => rfl)) pe_int (nomark _)) (pss_cons
  (ps_set (i := 2) sc_l_below.nd rfl (Or.inl rfl) (pe_op op_modN (pe_callTy call_int1 (by rfl) T.int (by decide +kernel) (pa_cons (pe_ix ix_list (pv 0) pe_int (fun _ _ => rfl)) pa_nil)) (pv 1)))
  (pss_cons
  (ps_asg (pe_op op_fdivN (pe_ix ix_list (pv 0) pe_int (fun _ _ => rfl)) (pv 1)) (pg_sub (pv 0) pe_int set_list))
  (pss_one
  (ps_ret (pv 2))))) pss_nil)
  (pss_cons
  (ps_asg (pe_op op_modN (pe_callTy call_int1 (by rfl) T.int (by decide +kernel) (pa_cons (pe_op op_add (pe_op op_mul (pe_ix ix_list (pv 0) pe_int (fun _ _ => rfl)) pe_int) pe_int) pa_nil)) pe_int) (pg_sub (pv 0) pe_int set_list))
  (pss_one
  (ps_ret (pe_op op_modN (pe_callTy call_int1 (by rfl) T.int (by decide +kernel) (pa_cons (pe_op op_fdivN (pe_ix ix_list (pv 0) pe_int (fun _ _ => rfl)) pe_int) pa_nil)) (pv 1))))))), ?_⟩
    -- if d[1] == 0 and len(d) > 2: d[1] = d.pop(2)
    refine ⟨fun σ1 H1 => σ1 = L2.start N_l_below [V.ref d, V.int n] ∧ Kp d H H1 ∧ ∃ (b : Int) (r : List Int), H1 d = some (.lst (.int a :: .int b :: r.map V.int)) ∧ 0 ≤ b ∧ (∀ x ∈ r, 0 ≤ x) ∧ r.length ≤ 63, ?_, ?_⟩
    · refine ⟨_, rfl, _, _, _, _, rfl, rfl, SqL.of hd, at1, rfl, _, rfl, ?_⟩
      refine ite2 (fun _ => ?_) (fun _ => ?_)
      · refine ⟨_, rfl, _, _, rfl, .inl (SqL.of hd), _, _, rfl, rfl, _, rfl, ?_⟩
        refine ite2 (fun c => ?_) (fun _ => ?_)
        · cases r with
          | nil => exact absurd (of_decide_eq_true c) (by simp)
          | cons z r =>
            refine ⟨_, rfl, .inl ⟨rfl, _, SqL.of hd⟩, _, _, _, 2, _, rfl, rfl, hd, by decide, by decide, ?_, rfl, ?_⟩
            · exact seqIndex_of (by decide) (by simp only [List.length_cons, List.length_map]; omega)
            · refine ⟨_, rfl, _, _, _, 1, rfl, rfl, upd_same, ?_, ?_⟩
              · exact ix1
              · exact ⟨rfl, (Kp.upd _ _ _).trans (Kp.upd _ _ _), z, r, upd_same, hrr z List.mem_cons_self, fun x hx => hrr x (List.mem_cons_of_mem _ hx), by simp only [List.length_cons] at hl; omega⟩
        · exact ⟨rfl, Kp.refl _ _, b, r, hd, hb, hrr, hl⟩
      · exact ⟨rfl, Kp.refl _ _, b, r, hd, hb, hrr, hl⟩
    · rintro σ1 H1 ⟨rfl, kp, b, r, e1, hb, hrr, hl⟩
      refine ⟨_, rfl, _, _, _, _, rfl, rfl, SqL.of e1, at1, _, _, rfl, rfl, _, rfl, ?_⟩
      refine ite2 (fun _ => ?_) (fun _ => ?_)
      · refine ⟨_, rfl, _, _, _, _, rfl, rfl, SqL.of e1, at1, .inl ⟨_, rfl, _, rfl, _, _, rfl, rfl, by omega, ?_⟩⟩
        refine ⟨_, rfl, _, _, _, _, rfl, rfl, SqL.of e1, at1, _, rfl, _, _, rfl, rfl, ⟨by omega, by omega⟩, ?_⟩
        refine ⟨_, rfl, _, _, _, 1, rfl, rfl, e1, ix1, ?_⟩
        refine ⟨_, rfl, ?_⟩
        refine k _ _ (fmod_in hn0).1 (fmod_in hn0).2 ⟨a, _, r, upd_same, ha0, ha, Int.fdiv_nonneg hb (Int.le_of_lt hn0), hrr, hl⟩ (kp.trans (Kp.upd _ _ _))
      · refine ⟨_, rfl, _, _, _, _, rfl, rfl, SqL.of e1, at0, _, _, rfl, rfl, .inl ⟨by omega, by omega⟩, _, _, rfl, rfl, .inl ⟨_, rfl, _, _, rfl, rfl, (by show (2147483647 : Int) ≠ 0; decide), ?_⟩⟩
        refine ⟨_, rfl, _, _, _, 0, rfl, rfl, e1, ix0, ?_⟩
        refine ⟨_, rfl, _, _, _, _, rfl, rfl, SqL.of upd_same, at0, _, _, rfl, rfl, ⟨by decide, by decide⟩, .inl ⟨_, rfl, _, rfl, _, _, rfl, rfl, by omega, ?_⟩⟩
        refine k _ _ (fmod_in hn0).1 (fmod_in hn0).2 ⟨_, b, r, upd_same, (fmod_in (by decide)).1, (fmod_in (by decide)).2, hb, hrr, hl⟩ (kp.trans (Kp.upd _ _ _))
theorem cal_below {f : Addr} {fd : FuncData} (F : Fun K "_law_below" "_law_below" s_l_below f fd) (hm : mg "_law_below" = some (.ref f)) (T : Blt mg) : Cal P w K mg base "_law_below" 1 P_l_below spBelow :=
  ⟨f, fd, ok_below F T, F.binds fun _ _ _ _ _ _ us hl => match us, hl with | [_, _], _ => rfl, F.kp, hm⟩
/-- _law_pick(d, l): one of the items -/
def spPick (K : PySem.W.Frag) : Sp := fun vs H Q _ => ∃ (d l : Addr) (xs : List V), vs = [.ref d, .ref l] ∧ Dr H d ∧ H l = some (.lst xs) ∧ l ≠ d ∧ 0 < xs.length ∧ xs.length < 1000 ∧ ∀ (x : V) (H' : Hp), x ∈ xs → Dr H' d → Kp d H H' → Q x H'
theorem ok_pick {f : Addr} {fd : FuncData} (F : Fun K "_law_pick" "_law_pick" s_l_pick f fd) (T : Blt mg) (C_l_below : Cal P w K mg base "_law_below" 1 P_l_below spBelow) : FnOk P w K mg base CX0 2 f fd P_l_pick (spPick K) := by
  refine F.ok sc_l_pick (fun vs H Q E h => ?_) (fun cdv A outer s H vs Q E hr h => ?_)
  · obtain ⟨d, l, xs, rfl, _⟩ := h
    rfl
  · obtain ⟨d, l, xs, rfl, D, hl, ne, h0, h1, k⟩ := h
    refine ⟨_, (pss_one
  (ps_ret (pe_ix ix_list (pv 1) (pe_own C_l_below (hr.mono (by decide)) (pa_cons (pv 0) (pa_cons (pe_callB call_len_seq (by rfl) T.len (by decide +kernel) (pa_cons (pv 1) pa_nil)) pa_nil))) (fun _ _ => rfl)))), ?_⟩
    refine ⟨_, rfl, _, rfl, _, rfl, _, _, rfl, .inl (SqL.of hl), d, _, rfl, D, by omega, by omega, fun r H' r0 rn D' kp => ?_⟩
    have hi : r.toNat < xs.length := by omega
    exact ⟨_, _, _, xs[r.toNat], rfl, rfl, SqL.of (kp _ _ ne hl), at_of (j := r.toNat) (by omega) (List.getElem?_eq_getElem hi), k _ _ (List.getElem_mem hi) D' kp⟩
theorem cal_pick {f : Addr} {fd : FuncData} (F : Fun K "_law_pick" "_law_pick" s_l_pick f fd) (hm : mg "_law_pick" = some (.ref f)) (T : Blt mg) (C_l_below : Cal P w K mg base "_law_below" 1 P_l_below spBelow) : Cal P w K mg base "_law_pick" 2 P_l_pick (spPick K) :=
  ⟨f, fd, ok_pick F T C_l_below, F.binds fun _ _ _ _ _ _ us hl => match us, hl with | [_, _], _ => rfl, F.kp, hm⟩
/-- _law_random(script, salt) -/
def spRandom (K : PySem.W.Frag) : Sp := fun vs H Q _ => ∃ (a : Addr) (ns : List Int) (z : Int), vs = [.ref a, .int z] ∧ SqL K H a (ns.map V.int) ∧ ns.length ≤ 63 ∧ 0 ≤ z ∧ z < 2147483647 ∧ ∀ (p : Addr) (H' : Hp), H p = none → Dr H' p → Same H H' → Q (.ref p) H'
theorem map_at {ns : List Int} {i : Nat} {y : V} (hi : (ns.map V.int)[i]? = some y) : ∃ u, ns[i]? = some u ∧ y = V.int u := by
  rw [List.getElem?_map] at hi
  cases e : ns[i]? with
  | none =>
    rw [e] at hi
    cases hi
  | some u =>
    rw [e] at hi
    exact ⟨u, rfl, (Option.some.inj hi).symm⟩
theorem Same.new {H : Hp} {p : Addr} {o : HO} (h : H p = none) : Same H (upd H p o) := fun b _ e => by rw [upd_ne (ne_of_none e h)]; exact e
theorem ok_random {f : Addr} {fd : FuncData} (F : Fun K "_law_random" "_law_random" s_l_random f fd) (T : Blt mg) : FnOk P w K mg base CX0 1 f fd P_l_random (spRandom K) := by
  refine F.ok sc_l_random (fun vs H Q E h => ?_) (fun cdv A outer s H vs Q E hr h => ?_)
  · obtain ⟨a, ns, z, rfl, _⟩ := h
    rfl
  · obtain ⟨a, ns, z, rfl, hS, hl, z0, zn, k⟩ := h
    refine ⟨_, (pss_cons
  (ps_set (i := 2) sc_l_random.nd rfl (Or.inl rfl) (pv 1))
  (pss_cons
  (ps_for PassesOwn.never rfl (pi_list (pv 0)) (pg_name (i := 3) sc_l_random.nd rfl (Or.inl rfl))
  (pss_one
  (ps_set (i := 2) sc_l_random.nd rfl (Or.inl rfl) (pe_op op_modN (pe_callTy call_int1 (by rfl) T.int (by decide +kernel) (pa_cons (pe_op op_add (pe_op op_mul (pv 2) pe_int) (pe_callB call_abs (by rfl) T.abs (by decide +kernel) (pa_cons (pv 3) pa_nil))) pa_nil)) pe_int))))
  (pss_one
  (ps_ret (pe_op op_cat (pe_lst (pa_cons (pv 2) (pa_cons pe_int pa_nil))) (pe_lc (own := [("_law_cell", 3)]) (g := gName 3) rfl sc_l_random.nd (pi_list (pv 0)) (blkOk_by (own := [("_law_cell", 3)]) (N := N_l_random) (sc := defScope s_l_random) (by decide +kernel)) (fun _ _ _ _ _ => (pg_name (i := 3) sc_l_random.nd rfl (Or.inl rfl))) (fun _ _ _ _ _ => (pts_one (pt_cmpR op_ge (pv 3) (pe_op op_pow pe_int pe_int) (nomark _)))) (fun _ _ _ _ _ => (pv 3)))))))), ?_⟩
    refine ⟨_, rfl, ?_⟩
    refine ⟨_, rfl, a, rfl, ⟨_, hS⟩, for_list (K := K) (a := a) (xs := ns.map V.int) (fun i σ H' => ∃ (c : Int) (v : Option V), σ = [some (.ref a), some (.int z), some (.int c), v] ∧ H' = H ∧ 0 ≤ c ∧ c < 2147483647)
      ⟨z, none, rfl, rfl, z0, zn⟩ (fun i σ H' _ ⟨_, _, _, e, _⟩ => by rw [e]; exact hS) ?_ ?_⟩
    · rintro i y σ H' hi ⟨c, v, rfl, rfl, c0, cn⟩
      obtain ⟨u, _, rfl⟩ := map_at hi
      refine ⟨_, rfl, _, _, rfl, rfl, .inl ⟨by omega, by omega⟩, _, rfl, _, rfl, _, _, rfl, rfl, .inl ⟨_, rfl, _, _, rfl, rfl, (by show (2147483647 : Int) ≠ 0; decide), ?_⟩⟩
      exact ⟨_, _, rfl, rfl, (fmod_in (by decide)).1, (fmod_in (by decide)).2⟩
    · rintro σ H' ⟨c, v, rfl, rfl, c0, cn⟩
      refine ⟨_, rfl, (by show 2 ≤ sizeLine; decide), fun p hp => ?_⟩
      have s0 := Same.new (o := .lst [V.int c, V.int 0]) hp
      refine ⟨_, rfl, a, rfl, ⟨_, s0.seq hS⟩, fun D hD => ?_⟩
      refine lc_list (K := K) (a := a) (xs := ns.map V.int) (fun i H1 => Same (upd H' p (.lst [V.int c, V.int 0])) H1 ∧ ∃ r : List Int, H1 D = some (.lst (r.map V.int)) ∧ r.length ≤ i ∧ ∀ x ∈ r, 0 ≤ x)
        ⟨Same.new hD, [], upd_same, Nat.le_refl _, by simp⟩ (fun i H1 _ ⟨q, _⟩ => q.seq (s0.seq hS)) ?_ ?_
      · rintro i y H1 hi ⟨sm, r, e1, hr1, hr0⟩
        obtain ⟨u, _, rfl⟩ := map_at hi
        refine ⟨rfl, _, rfl, _, _, rfl, rfl, ⟨by decide, by decide, by decide⟩, _, _, rfl, rfl, _, rfl, ?_⟩
        refine ite2 (fun c => ?_) (fun _ => ?_)
        · refine ⟨_, rfl, _, e1, ?_, fun b o e => ?_, r ++ [u], ?_, ?_, ?_⟩
          · rw [List.length_map]
            have : i < ns.length := by
              have q := (List.getElem?_eq_some_iff.mp hi).1
              rw [List.length_map] at q
              exact q
            exact Nat.lt_of_le_of_lt (show r.length ≤ 63 by omega) (by decide)
          · rw [upd_ne (ne_of_none e hD)]
            exact sm b o e
          · rw [upd_same, List.map_append] <;> rfl
          · rw [List.length_append, List.length_singleton]; omega
          · intro x hx
            rcases List.mem_append.mp hx with hx | hx
            · exact hr0 x hx
            · have ex : x = u := by simpa using hx
              have c2 := of_decide_eq_true c
              rw [ex]
              have : (10 : Int) ^ (Int.toNat 18) = 1000000000000000000 := by decide
              omega
        · exact ⟨sm, r, e1, by omega, hr0⟩
      · rintro H1 ⟨sm, r, e1, hr1, hr0⟩
        rw [List.length_map] at hr1
        refine ⟨_, _, _, _, rfl, rfl, sm _ _ upd_same, e1, ?_, fun p2 hp2 => ?_⟩
        · rw [List.length_map]
          exact Nat.le_trans (show 2 + r.length ≤ 65 by omega) (by decide)
        · exact k _ _ (s0.free (sm.free hp2)) ⟨c, 0, r, upd_same, c0, cn, by omega, hr0, by omega⟩ (s0.trans (sm.trans (Same.new hp2)))
theorem cal_random {f : Addr} {fd : FuncData} (F : Fun K "_law_random" "_law_random" s_l_random f fd) (hm : mg "_law_random" = some (.ref f)) (T : Blt mg) : Cal P w K mg base "_law_random" 1 P_l_random (spRandom K) :=
  ⟨f, fd, ok_random F T, F.binds fun _ _ _ _ _ _ us hl => match us, hl with | [_, _], _ => rfl, F.kp, hm⟩
end
end Mn
set_option Elab.async false
set_option linter.all false
set_option maxRecDepth 100000
set_option maxHeartbeats 4000000
/-! The three error classes with a field: made, they keep it. -/
namespace Mn
open PySem L2
/-- __init__(self, y) -/
def spErr (K : PySem.W.Frag) (C : Addr) (nm : Str) : Sp := fun vs H Q _ => ∃ (a : Addr) (y : V), vs = [.ref a, y] ∧ H a = some (exo a C none) ∧ FmtV K H y ∧ ∀ dx, H dx = none → dx ≠ a → Q .non (upd (upd H dx (exd dx [(nm, y)])) a (exo a C (some dx)))
def stAt (s : Stmt) (i : Nat) : Stmt := (defBody s).getD i (.Pass ⟨0, 0, 0, 0⟩)
def feOf (s : Stmt) : Expr := match stAt s 0 with
  | .Expr (.Call _ [e] _ _) _ => e
  | _ => .Name "x" ⟨0, 0, 0, 0⟩
theorem len_le {a b : Str} {m n : Nat} (ha : a.length ≤ m) (hb : b.length ≤ n) (h : m + n ≤ 16777216) : (a ++ b).length ≤ sizeLine := by
  rw [strLen_append, sizeLine_eq]
  omega
/-- an error class with its __init__ -/
def InitOk (P : Program) (w : World) (K : PySem.W.Frag) (mg : Str → Option Value) (base : Heap) (C f : Addr) (nm : Str) : Prop := ∃ fd, FnOk P w K mg base CX0 1 f fd ["self", nm] (spErr K C nm) ∧ Binds K fd ["self", nm] []
section
variable {P : Program} {w : World} {K : PySem.W.Frag} {mg : Str → Option Value} {base : Heap} {C f : Addr}
abbrev s_BadPrint_init : Stmt := inClass (topS 4) 0
abbrev v_BadPrint : FnX := some ("__init__", "BadPrint.__init__", defArgs s_BadPrint_init, .stmts (defBody s_BadPrint_init), defScope s_BadPrint_init, mainGlobals, [("__class__" : Str)], builtinsNs)
theorem ok_BadPrint (Z : SupOk P K mg C f "BadPrint.__init__" "fact") (e : fnX0 K f = v_BadPrint) : InitOk P w K mg base C f "fact" := by
  obtain ⟨oc, od, kV, doc, pm, an, ct, osl, lk⟩ := ks_of e Z.ex
  have eb : defBody s_BadPrint_init = [stAt s_BadPrint_init 0, stAt s_BadPrint_init 1] := rfl
  rw [eb] at lk
  refine ⟨_, ok_sup (fe := feOf s_BadPrint_init) (N := [("self" : Str), "fact", "__class__"]) lk Z.sup (NdefX.nscope_by (by decide +kernel)) rfl ⟨_, rfl, rfl⟩ (by decide +kernel) (by decide +kernel) (by decide +kernel) ⟨_, _, _, _, _, _, rfl, fun L => ⟨rfl, rfl, rfl⟩⟩ (fun vs H Q E h => ?_) (fun A outer s H vs Q E hr h => ?_), ?_⟩
  · obtain ⟨a, y, rfl, _⟩ := h
    rfl
  · obtain ⟨a, y, rfl, ha, hf, k⟩ := h
    refine ⟨a, y, _, _, rfl, ha, pa_cons (pe_joined (PJ.cons pe_str (PJ.cons (pe_fmtV hr (pv 1)) (PJ.cons pe_str .nil)))) pa_nil, pss_one (ps_ost (pv 0) (pv 1)), ?_⟩
    refine ⟨_, rfl, by decide +kernel, _, rfl, hf, fun m hm => ⟨m, rfl, len_le (m := 1000) (by decide +kernel) hm (by decide), _, rfl, len_le (m := 2000) (n := 1000) (by rw [strLen_append]; exact Nat.add_le_add (b := 1000) (by decide +kernel) hm) (by decide +kernel) (by decide), ?_⟩⟩
    refine ⟨by show 1 ≤ 1; exact Nat.le_refl _, ha, _, rfl, _, rfl, a, C, rfl, Z.sup.ox, Z.no, .inl ⟨ha, fun dx h1 h2 => k dx h1 h2⟩⟩
  · exact .all fun us hl => match us, hl with | [_, _], _ => rfl
abbrev s_BadEnd_init : Stmt := inClass (topS 6) 0
abbrev v_BadEnd : FnX := some ("__init__", "BadEnd.__init__", defArgs s_BadEnd_init, .stmts (defBody s_BadEnd_init), defScope s_BadEnd_init, mainGlobals, [("__class__" : Str)], builtinsNs)
theorem ok_BadEnd (Z : SupOk P K mg C f "BadEnd.__init__" "fact") (e : fnX0 K f = v_BadEnd) : InitOk P w K mg base C f "fact" := by
  obtain ⟨oc, od, kV, doc, pm, an, ct, osl, lk⟩ := ks_of e Z.ex
  have eb : defBody s_BadEnd_init = [stAt s_BadEnd_init 0, stAt s_BadEnd_init 1] := rfl
  rw [eb] at lk
  refine ⟨_, ok_sup (fe := feOf s_BadEnd_init) (N := [("self" : Str), "fact", "__class__"]) lk Z.sup (NdefX.nscope_by (by decide +kernel)) rfl ⟨_, rfl, rfl⟩ (by decide +kernel) (by decide +kernel) (by decide +kernel) ⟨_, _, _, _, _, _, rfl, fun L => ⟨rfl, rfl, rfl⟩⟩ (fun vs H Q E h => ?_) (fun A outer s H vs Q E hr h => ?_), ?_⟩
  · obtain ⟨a, y, rfl, _⟩ := h
    rfl
  · obtain ⟨a, y, rfl, ha, hf, k⟩ := h
    refine ⟨a, y, _, _, rfl, ha, pa_cons (pe_joined (PJ.cons pe_str (PJ.cons (pe_fmtV hr (pv 1)) (PJ.cons pe_str .nil)))) pa_nil, pss_one (ps_ost (pv 0) (pv 1)), ?_⟩
    refine ⟨_, rfl, by decide +kernel, _, rfl, hf, fun m hm => ⟨m, rfl, len_le (m := 1000) (by decide +kernel) hm (by decide), _, rfl, len_le (m := 2000) (n := 1000) (by rw [strLen_append]; exact Nat.add_le_add (b := 1000) (by decide +kernel) hm) (by decide +kernel) (by decide), ?_⟩⟩
    refine ⟨by show 1 ≤ 1; exact Nat.le_refl _, ha, _, rfl, _, rfl, a, C, rfl, Z.sup.ox, Z.no, .inl ⟨ha, fun dx h1 h2 => k dx h1 h2⟩⟩
  · exact .all fun us hl => match us, hl with | [_, _], _ => rfl
abbrev s_BadText_init : Stmt := inClass (topS 16) 0
abbrev v_BadText : FnX := some ("__init__", "BadText.__init__", defArgs s_BadText_init, .stmts (defBody s_BadText_init), defScope s_BadText_init, mainGlobals, [("__class__" : Str)], builtinsNs)
theorem ok_BadText (Z : SupOk P K mg C f "BadText.__init__" "word") (e : fnX0 K f = v_BadText) : InitOk P w K mg base C f "word" := by
  obtain ⟨oc, od, kV, doc, pm, an, ct, osl, lk⟩ := ks_of e Z.ex
  have eb : defBody s_BadText_init = [stAt s_BadText_init 0, stAt s_BadText_init 1] := rfl
  rw [eb] at lk
  refine ⟨_, ok_sup (fe := feOf s_BadText_init) (N := [("self" : Str), "word", "__class__"]) lk Z.sup (NdefX.nscope_by (by decide +kernel)) rfl ⟨_, rfl, rfl⟩ (by decide +kernel) (by decide +kernel) (by decide +kernel) ⟨_, _, _, _, _, _, rfl, fun L => ⟨rfl, rfl, rfl⟩⟩ (fun vs H Q E h => ?_) (fun A outer s H vs Q E hr h => ?_), ?_⟩
  · obtain ⟨a, y, rfl, _⟩ := h
    rfl
  · obtain ⟨a, y, rfl, ha, hf, k⟩ := h
    refine ⟨a, y, _, _, rfl, ha, pa_cons (pe_joined (PJ.cons pe_str (PJ.cons (pe_fmtV hr (pv 1)) .nil))) pa_nil, pss_one (ps_ost (pv 0) (pv 1)), ?_⟩
    refine ⟨_, rfl, by decide +kernel, _, rfl, hf, fun m hm => ⟨m, rfl, len_le (m := 1000) (by decide +kernel) hm (by decide), ?_⟩⟩
    refine ⟨by show 1 ≤ 1; exact Nat.le_refl _, ha, _, rfl, _, rfl, a, C, rfl, Z.sup.ox, Z.no, .inl ⟨ha, fun dx h1 h2 => k dx h1 h2⟩⟩
  · exact .all fun us hl => match us, hl with | [_, _], _ => rfl
end
end Mn
set_option Elab.async false
set_option linter.all false
set_option maxRecDepth 100000
set_option maxHeartbeats 4000000
/-! The law's own helpers: one drawn error; of how many classes an error is. -/
namespace Mn
open PySem L2
def errNames : List Str := ["BadDigits", "BadEnd", "BadKind", "BadMark", "BadMost", "BadNumber", "BadPrint", "BadReports", "BadScale", "BadSize", "BadSum", "BadText", "Full", "TooMany", "Unlike"]
def emptyNames : List Str := ["BadScale", "BadSize", "BadKind", "BadSum", "BadMark", "BadDigits", "BadMost", "BadNumber", "BadReports", "TooMany", "Unlike", "Full"]
/-- what the text's error classes are -/
structure Errs (K : PySem.W.Frag) (mg : Str → Option Value) : Prop where
  gl : ∀ x, x ∈ errNames → mg x = some (.ref (He.ga K x))
  gR : mg "ReportError" = some (.ref (He.ga K "ReportError"))
  mV : mg "ValueError" = none
  ex : ∀ x ∈ errNames, ExcC K (He.ga K x)
  kit : ∀ x ∈ errNames, ∀ y ∈ errNames, PySem.W.kitOne K (.ref (He.ga K x)) (.ref (He.ga K y)) = some (decide (x = y))
  kR : ∀ x ∈ errNames, PySem.W.kitOne K (.ref (He.ga K x)) (.ref (He.ga K "ReportError")) = some true
  kV : ∀ x ∈ errNames, PySem.W.kitOne K (.ref (He.ga K x)) (.type "ValueError") = some true
  mkE : ∀ x ∈ emptyNames, PySem.W.excIn K (He.ga K x) He.veBase "ValueError.__new__" = true ∧ PySem.W.keepIn K (.ref (He.ga K x)) = true
/-- at a: an error of one of the classes -/
def AnErr (K : PySem.W.Frag) (H : Hp) (a : Addr) : Prop := ∃ x ∈ errNames, ErrAt H a (He.ga K x)
theorem ErrAt.mono {H H' : Hp} {a C : Addr} (h : ErrAt H a C) (s : Same H H') : ErrAt H' a C := by
  rcases h with h | ⟨dx, fs, h1, h2⟩
  · exact .inl (s _ _ h)
  · exact .inr ⟨dx, fs, s _ _ h1, s _ _ h2⟩
theorem one_class : ∀ x ∈ errNames, ((errNames.map fun y => decide (x = y)).filter id).length = 1 := by decide +kernel
def spClasses (K : PySem.W.Frag) : Sp := fun vs H Q _ => ∃ a, vs = [.ref a] ∧ AnErr K H a ∧ ∀ H', Same H H' → Q (.int 1) H'
section
variable {P : Program} {w : World} {K : PySem.W.Frag} {mg : Str → Option Value} {base : Heap}
theorem filt_take (bs : List Bool) (i : Nat) (b : Bool) (h : bs[i]? = some b) : (bs.take (i + 1)).filter id = if b = true then (bs.take i).filter id ++ [b] else (bs.take i).filter id := by
  rw [List.take_add_one, h, List.filter_append]
  cases b <;> simp
theorem ok_classes {f : Addr} {fd : FuncData} (F : Fun K "_law_classes" "_law_classes" s_l_classes f fd) (T : Blt mg) (E : Errs K mg) : FnOk P w K mg base CX0 1 f fd P_l_classes (spClasses K) := by
  refine F.ok sc_l_classes (fun vs H Q E h => ?_) (fun cdv A outer s H vs Q E2 hr h => ?_)
  · obtain ⟨a, rfl, _⟩ := h
    rfl
  · obtain ⟨a, rfl, ⟨x, hx, hE⟩, k⟩ := h
    have hX := E.ex x hx
    refine ⟨_, (pss_cons
  (ps_set (i := 1) sc_l_classes.nd rfl (Or.inl rfl) (pe_lst pa_nil))
  (pss_cons
  (ps_set (i := 1) sc_l_classes.nd rfl (Or.inl rfl) (pe_op op_cat (pv 1) (pe_lst (pa_cons (pe_callB (call_isxK (K := K) rfl) (by rfl) T.isinstance (by decide +kernel) (pa_cons (pv 0) (pa_cons (pe_gr (E.gl "BadDigits" (by decide +kernel))) pa_nil))) (pa_cons (pe_callB (call_isxK (K := K) rfl) (by rfl) T.isinstance (by decide +kernel) (pa_cons (pv 0) (pa_cons (pe_gr (E.gl "BadEnd" (by decide +kernel))) pa_nil))) (pa_cons (pe_callB (call_isxK (K := K) rfl) (by rfl) T.isinstance (by decide +kernel) (pa_cons (pv 0) (pa_cons (pe_gr (E.gl "BadKind" (by decide +kernel))) pa_nil))) pa_nil))))))
  (pss_cons
  (ps_set (i := 1) sc_l_classes.nd rfl (Or.inl rfl) (pe_op op_cat (pv 1) (pe_lst (pa_cons (pe_callB (call_isxK (K := K) rfl) (by rfl) T.isinstance (by decide +kernel) (pa_cons (pv 0) (pa_cons (pe_gr (E.gl "BadMark" (by decide +kernel))) pa_nil))) (pa_cons (pe_callB (call_isxK (K := K) rfl) (by rfl) T.isinstance (by decide +kernel) (pa_cons (pv 0) (pa_cons (pe_gr (E.gl "BadMost" (by decide +kernel))) pa_nil))) (pa_cons (pe_callB (call_isxK (K := K) rfl) (by rfl) T.isinstance (by decide +kernel) (pa_cons (pv 0) (pa_cons (pe_gr (E.gl "BadNumber" (by decide +kernel))) pa_nil))) pa_nil))))))
  (pss_cons
  (ps_set (i := 1) sc_l_classes.nd rfl (Or.inl rfl) (pe_op op_cat (pv 1) (pe_lst (pa_cons (pe_callB (call_isxK (K := K) rfl) (by rfl) T.isinstance (by decide +kernel) (pa_cons (pv 0) (pa_cons (pe_gr (E.gl "BadPrint" (by decide +kernel))) pa_nil))) (pa_cons (pe_callB (call_isxK (K := K) rfl) (by rfl) T.isinstance (by decide +kernel) (pa_cons (pv 0) (pa_cons (pe_gr (E.gl "BadReports" (by decide +kernel))) pa_nil))) (pa_cons (pe_callB (call_isxK (K := K) rfl) (by rfl) T.isinstance (by decide +kernel) (pa_cons (pv 0) (pa_cons (pe_gr (E.gl "BadScale" (by decide +kernel))) pa_nil))) pa_nil))))))
  (pss_cons
  (ps_set (i := 1) sc_l_classes.nd rfl (Or.inl rfl) (pe_op op_cat (pv 1) (pe_lst (pa_cons (pe_callB (call_isxK (K := K) rfl) (by rfl) T.isinstance (by decide +kernel) (pa_cons (pv 0) (pa_cons (pe_gr (E.gl "BadSize" (by decide +kernel))) pa_nil))) (pa_cons (pe_callB (call_isxK (K := K) rfl) (by rfl) T.isinstance (by decide +kernel) (pa_cons (pv 0) (pa_cons (pe_gr (E.gl "BadSum" (by decide +kernel))) pa_nil))) (pa_cons (pe_callB (call_isxK (K := K) rfl) (by rfl) T.isinstance (by decide +kernel) (pa_cons (pv 0) (pa_cons (pe_gr (E.gl "BadText" (by decide +kernel))) pa_nil))) pa_nil))))))
  (pss_cons
  (ps_set (i := 1) sc_l_classes.nd rfl (Or.inl rfl) (pe_op op_cat (pv 1) (pe_lst (pa_cons (pe_callB (call_isxK (K := K) rfl) (by rfl) T.isinstance (by decide +kernel) (pa_cons (pv 0) (pa_cons (pe_gr (E.gl "Full" (by decide +kernel))) pa_nil))) (pa_cons (pe_callB (call_isxK (K := K) rfl) (by rfl) T.isinstance (by decide +kernel) (pa_cons (pv 0) (pa_cons (pe_gr (E.gl "TooMany" (by decide +kernel))) pa_nil))) (pa_cons (pe_callB (call_isxK (K := K) rfl) (by rfl) T.isinstance (by decide +kernel) (pa_cons (pv 0) (pa_cons (pe_gr (E.gl "Unlike" (by decide +kernel))) pa_nil))) pa_nil))))))
  (pss_one
  (ps_ret (pe_callB call_len_seq (by rfl) T.len (by decide +kernel) (pa_cons (pe_lc (own := [("_law_one_here", 2)]) (g := gName 2) rfl sc_l_classes.nd (pi_list (pv 1)) (blkOk_by (own := [("_law_one_here", 2)]) (N := N_l_classes) (sc := defScope s_l_classes) (by decide +kernel)) (fun _ _ _ _ _ => (pg_name (i := 2) sc_l_classes.nd rfl (Or.inl rfl))) (fun _ _ _ _ _ => (pts_one (pt_val (pv 2)))) (fun _ _ _ _ _ => (pv 2))) pa_nil)))))))))), ?_⟩
    refine ⟨by show 0 ≤ sizeLine; exact Nat.zero_le _, fun p0 hp0 => ?_⟩
    have s0 := Same.new (o := .lst []) hp0
    have e0 : upd H p0 (.lst []) p0 = some (.lst []) := upd_same
    generalize upd H p0 (.lst []) = H0 at s0 e0 ⊢
    refine ⟨_, rfl, ?_⟩
    refine ⟨_, rfl, a, _, _, _, _, rfl, hE.mono s0, hX, fun u h => h, E.kit x hx "BadDigits" (by decide +kernel), ?_⟩
    refine ⟨_, rfl, a, _, _, _, _, rfl, hE.mono s0, hX, fun u h => h, E.kit x hx "BadEnd" (by decide +kernel), ?_⟩
    refine ⟨_, rfl, a, _, _, _, _, rfl, hE.mono s0, hX, fun u h => h, E.kit x hx "BadKind" (by decide +kernel), ?_⟩
    refine ⟨by show 3 ≤ sizeLine; decide, fun q0 hq0 => ?_⟩
    have t0 := Same.new (o := .lst [V.bl (decide (x = "BadDigits")), V.bl (decide (x = "BadEnd")), V.bl (decide (x = "BadKind"))]) hq0
    refine ⟨_, _, _, _, rfl, rfl, t0 _ _ e0, upd_same, by show 0 + 3 ≤ sizeLine; decide, fun p1 hp1 => ?_⟩
    have s1 := s0.trans (t0.trans (Same.new (o := .lst ([] ++ [V.bl (decide (x = "BadDigits")), V.bl (decide (x = "BadEnd")), V.bl (decide (x = "BadKind"))])) hp1))
    have e1 := upd_same (H := upd H0 q0 (.lst [V.bl (decide (x = "BadDigits")), V.bl (decide (x = "BadEnd")), V.bl (decide (x = "BadKind"))])) (a := p1) (o := .lst ([] ++ [V.bl (decide (x = "BadDigits")), V.bl (decide (x = "BadEnd")), V.bl (decide (x = "BadKind"))]))
    generalize upd (upd H0 q0 (.lst [V.bl (decide (x = "BadDigits")), V.bl (decide (x = "BadEnd")), V.bl (decide (x = "BadKind"))])) p1 (.lst ([] ++ [V.bl (decide (x = "BadDigits")), V.bl (decide (x = "BadEnd")), V.bl (decide (x = "BadKind"))])) = H1 at s1 e1 ⊢
    refine ⟨_, rfl, ?_⟩
    refine ⟨_, rfl, a, _, _, _, _, rfl, hE.mono s1, hX, fun u h => h, E.kit x hx "BadMark" (by decide +kernel), ?_⟩
    refine ⟨_, rfl, a, _, _, _, _, rfl, hE.mono s1, hX, fun u h => h, E.kit x hx "BadMost" (by decide +kernel), ?_⟩
    refine ⟨_, rfl, a, _, _, _, _, rfl, hE.mono s1, hX, fun u h => h, E.kit x hx "BadNumber" (by decide +kernel), ?_⟩
    refine ⟨by show 3 ≤ sizeLine; decide, fun q1 hq1 => ?_⟩
    have t1 := Same.new (o := .lst [V.bl (decide (x = "BadMark")), V.bl (decide (x = "BadMost")), V.bl (decide (x = "BadNumber"))]) hq1
    refine ⟨_, _, _, _, rfl, rfl, t1 _ _ e1, upd_same, by show 3 + 3 ≤ sizeLine; decide, fun p2 hp2 => ?_⟩
    have s2 := s1.trans (t1.trans (Same.new (o := .lst ([] ++ [V.bl (decide (x = "BadDigits")), V.bl (decide (x = "BadEnd")), V.bl (decide (x = "BadKind"))] ++ [V.bl (decide (x = "BadMark")), V.bl (decide (x = "BadMost")), V.bl (decide (x = "BadNumber"))])) hp2))
    have e2 := upd_same (H := upd H1 q1 (.lst [V.bl (decide (x = "BadMark")), V.bl (decide (x = "BadMost")), V.bl (decide (x = "BadNumber"))])) (a := p2) (o := .lst ([] ++ [V.bl (decide (x = "BadDigits")), V.bl (decide (x = "BadEnd")), V.bl (decide (x = "BadKind"))] ++ [V.bl (decide (x = "BadMark")), V.bl (decide (x = "BadMost")), V.bl (decide (x = "BadNumber"))]))
    generalize upd (upd H1 q1 (.lst [V.bl (decide (x = "BadMark")), V.bl (decide (x = "BadMost")), V.bl (decide (x = "BadNumber"))])) p2 (.lst ([] ++ [V.bl (decide (x = "BadDigits")), V.bl (decide (x = "BadEnd")), V.bl (decide (x = "BadKind"))] ++ [V.bl (decide (x = "BadMark")), V.bl (decide (x = "BadMost")), V.bl (decide (x = "BadNumber"))])) = H2 at s2 e2 ⊢
    refine ⟨_, rfl, ?_⟩
    refine ⟨_, rfl, a, _, _, _, _, rfl, hE.mono s2, hX, fun u h => h, E.kit x hx "BadPrint" (by decide +kernel), ?_⟩
    refine ⟨_, rfl, a, _, _, _, _, rfl, hE.mono s2, hX, fun u h => h, E.kit x hx "BadReports" (by decide +kernel), ?_⟩
    refine ⟨_, rfl, a, _, _, _, _, rfl, hE.mono s2, hX, fun u h => h, E.kit x hx "BadScale" (by decide +kernel), ?_⟩
    refine ⟨by show 3 ≤ sizeLine; decide, fun q2 hq2 => ?_⟩
    have t2 := Same.new (o := .lst [V.bl (decide (x = "BadPrint")), V.bl (decide (x = "BadReports")), V.bl (decide (x = "BadScale"))]) hq2
    refine ⟨_, _, _, _, rfl, rfl, t2 _ _ e2, upd_same, by show 6 + 3 ≤ sizeLine; decide, fun p3 hp3 => ?_⟩
    have s3 := s2.trans (t2.trans (Same.new (o := .lst ([] ++ [V.bl (decide (x = "BadDigits")), V.bl (decide (x = "BadEnd")), V.bl (decide (x = "BadKind"))] ++ [V.bl (decide (x = "BadMark")), V.bl (decide (x = "BadMost")), V.bl (decide (x = "BadNumber"))] ++ [V.bl (decide (x = "BadPrint")), V.bl (decide (x = "BadReports")), V.bl (decide (x = "BadScale"))])) hp3))
    have e3 := upd_same (H := upd H2 q2 (.lst [V.bl (decide (x = "BadPrint")), V.bl (decide (x = "BadReports")), V.bl (decide (x = "BadScale"))])) (a := p3) (o := .lst ([] ++ [V.bl (decide (x = "BadDigits")), V.bl (decide (x = "BadEnd")), V.bl (decide (x = "BadKind"))] ++ [V.bl (decide (x = "BadMark")), V.bl (decide (x = "BadMost")), V.bl (decide (x = "BadNumber"))] ++ [V.bl (decide (x = "BadPrint")), V.bl (decide (x = "BadReports")), V.bl (decide (x = "BadScale"))]))
    generalize upd (upd H2 q2 (.lst [V.bl (decide (x = "BadPrint")), V.bl (decide (x = "BadReports")), V.bl (decide (x = "BadScale"))])) p3 (.lst ([] ++ [V.bl (decide (x = "BadDigits")), V.bl (decide (x = "BadEnd")), V.bl (decide (x = "BadKind"))] ++ [V.bl (decide (x = "BadMark")), V.bl (decide (x = "BadMost")), V.bl (decide (x = "BadNumber"))] ++ [V.bl (decide (x = "BadPrint")), V.bl (decide (x = "BadReports")), V.bl (decide (x = "BadScale"))])) = H3 at s3 e3 ⊢
    refine ⟨_, rfl, ?_⟩
    refine ⟨_, rfl, a, _, _, _, _, rfl, hE.mono s3, hX, fun u h => h, E.kit x hx "BadSize" (by decide +kernel), ?_⟩
    refine ⟨_, rfl, a, _, _, _, _, rfl, hE.mono s3, hX, fun u h => h, E.kit x hx "BadSum" (by decide +kernel), ?_⟩
    refine ⟨_, rfl, a, _, _, _, _, rfl, hE.mono s3, hX, fun u h => h, E.kit x hx "BadText" (by decide +kernel), ?_⟩
    refine ⟨by show 3 ≤ sizeLine; decide, fun q3 hq3 => ?_⟩
    have t3 := Same.new (o := .lst [V.bl (decide (x = "BadSize")), V.bl (decide (x = "BadSum")), V.bl (decide (x = "BadText"))]) hq3
    refine ⟨_, _, _, _, rfl, rfl, t3 _ _ e3, upd_same, by show 9 + 3 ≤ sizeLine; decide, fun p4 hp4 => ?_⟩
    have s4 := s3.trans (t3.trans (Same.new (o := .lst ([] ++ [V.bl (decide (x = "BadDigits")), V.bl (decide (x = "BadEnd")), V.bl (decide (x = "BadKind"))] ++ [V.bl (decide (x = "BadMark")), V.bl (decide (x = "BadMost")), V.bl (decide (x = "BadNumber"))] ++ [V.bl (decide (x = "BadPrint")), V.bl (decide (x = "BadReports")), V.bl (decide (x = "BadScale"))] ++ [V.bl (decide (x = "BadSize")), V.bl (decide (x = "BadSum")), V.bl (decide (x = "BadText"))])) hp4))
    have e4 := upd_same (H := upd H3 q3 (.lst [V.bl (decide (x = "BadSize")), V.bl (decide (x = "BadSum")), V.bl (decide (x = "BadText"))])) (a := p4) (o := .lst ([] ++ [V.bl (decide (x = "BadDigits")), V.bl (decide (x = "BadEnd")), V.bl (decide (x = "BadKind"))] ++ [V.bl (decide (x = "BadMark")), V.bl (decide (x = "BadMost")), V.bl (decide (x = "BadNumber"))] ++ [V.bl (decide (x = "BadPrint")), V.bl (decide (x = "BadReports")), V.bl (decide (x = "BadScale"))] ++ [V.bl (decide (x = "BadSize")), V.bl (decide (x = "BadSum")), V.bl (decide (x = "BadText"))]))
    generalize upd (upd H3 q3 (.lst [V.bl (decide (x = "BadSize")), V.bl (decide (x = "BadSum")), V.bl (decide (x = "BadText"))])) p4 (.lst ([] ++ [V.bl (decide (x = "BadDigits")), V.bl (decide (x = "BadEnd")), V.bl (decide (x = "BadKind"))] ++ [V.bl (decide (x = "BadMark")), V.bl (decide (x = "BadMost")), V.bl (decide (x = "BadNumber"))] ++ [V.bl (decide (x = "BadPrint")), V.bl (decide (x = "BadReports")), V.bl (decide (x = "BadScale"))] ++ [V.bl (decide (x = "BadSize")), V.bl (decide (x = "BadSum")), V.bl (decide (x = "BadText"))])) = H4 at s4 e4 ⊢
    refine ⟨_, rfl, ?_⟩
    refine ⟨_, rfl, a, _, _, _, _, rfl, hE.mono s4, hX, fun u h => h, E.kit x hx "Full" (by decide +kernel), ?_⟩
    refine ⟨_, rfl, a, _, _, _, _, rfl, hE.mono s4, hX, fun u h => h, E.kit x hx "TooMany" (by decide +kernel), ?_⟩
    refine ⟨_, rfl, a, _, _, _, _, rfl, hE.mono s4, hX, fun u h => h, E.kit x hx "Unlike" (by decide +kernel), ?_⟩
    refine ⟨by show 3 ≤ sizeLine; decide, fun q4 hq4 => ?_⟩
    have t4 := Same.new (o := .lst [V.bl (decide (x = "Full")), V.bl (decide (x = "TooMany")), V.bl (decide (x = "Unlike"))]) hq4
    refine ⟨_, _, _, _, rfl, rfl, t4 _ _ e4, upd_same, by show 12 + 3 ≤ sizeLine; decide, fun p5 hp5 => ?_⟩
    have s5 := s4.trans (t4.trans (Same.new (o := .lst ([] ++ [V.bl (decide (x = "BadDigits")), V.bl (decide (x = "BadEnd")), V.bl (decide (x = "BadKind"))] ++ [V.bl (decide (x = "BadMark")), V.bl (decide (x = "BadMost")), V.bl (decide (x = "BadNumber"))] ++ [V.bl (decide (x = "BadPrint")), V.bl (decide (x = "BadReports")), V.bl (decide (x = "BadScale"))] ++ [V.bl (decide (x = "BadSize")), V.bl (decide (x = "BadSum")), V.bl (decide (x = "BadText"))] ++ [V.bl (decide (x = "Full")), V.bl (decide (x = "TooMany")), V.bl (decide (x = "Unlike"))])) hp5))
    have e5 := upd_same (H := upd H4 q4 (.lst [V.bl (decide (x = "Full")), V.bl (decide (x = "TooMany")), V.bl (decide (x = "Unlike"))])) (a := p5) (o := .lst ([] ++ [V.bl (decide (x = "BadDigits")), V.bl (decide (x = "BadEnd")), V.bl (decide (x = "BadKind"))] ++ [V.bl (decide (x = "BadMark")), V.bl (decide (x = "BadMost")), V.bl (decide (x = "BadNumber"))] ++ [V.bl (decide (x = "BadPrint")), V.bl (decide (x = "BadReports")), V.bl (decide (x = "BadScale"))] ++ [V.bl (decide (x = "BadSize")), V.bl (decide (x = "BadSum")), V.bl (decide (x = "BadText"))] ++ [V.bl (decide (x = "Full")), V.bl (decide (x = "TooMany")), V.bl (decide (x = "Unlike"))]))
    generalize upd (upd H4 q4 (.lst [V.bl (decide (x = "Full")), V.bl (decide (x = "TooMany")), V.bl (decide (x = "Unlike"))])) p5 (.lst ([] ++ [V.bl (decide (x = "BadDigits")), V.bl (decide (x = "BadEnd")), V.bl (decide (x = "BadKind"))] ++ [V.bl (decide (x = "BadMark")), V.bl (decide (x = "BadMost")), V.bl (decide (x = "BadNumber"))] ++ [V.bl (decide (x = "BadPrint")), V.bl (decide (x = "BadReports")), V.bl (decide (x = "BadScale"))] ++ [V.bl (decide (x = "BadSize")), V.bl (decide (x = "BadSum")), V.bl (decide (x = "BadText"))] ++ [V.bl (decide (x = "Full")), V.bl (decide (x = "TooMany")), V.bl (decide (x = "Unlike"))])) = H5 at s5 e5 ⊢
    have el : H5 p5 = some (.lst ((errNames.map fun y => decide (x = y)).map V.bl)) := e5
    have h1 := one_class x hx
    have hl : (errNames.map fun y => decide (x = y)).length = 15 := rfl
    generalize (errNames.map fun y => decide (x = y)) = bs at el h1 hl
    refine ⟨_, rfl, _, rfl, ⟨_, SqL.of el⟩, fun D hD => ?_⟩
    refine lc_list (K := K) (a := p5) (xs := bs.map V.bl) (fun i H6 => Same H5 H6 ∧ H6 D = some (.lst (((bs.take i).filter id).map V.bl))) ⟨Same.new hD, upd_same⟩ (fun i H6 _ ⟨q, _⟩ => SqL.of (q _ _ el)) ?_ ?_
    · rintro i y H6 hi ⟨sm, e6⟩
      rw [List.getElem?_map] at hi
      cases eb : bs[i]? with
      | none =>
        rw [eb] at hi
        cases hi
      | some b =>
        rw [eb] at hi
        have ey : V.bl b = y := Option.some.inj hi
        subst ey
        have ft := filt_take bs i b eb
        refine ⟨rfl, _, rfl, _, rfl, ite2 (fun c => ?_) (fun c => ?_)⟩
        · rw [if_pos c] at ft
          refine ⟨_, rfl, _, e6, ?_, fun c2 o2 e2 => ?_, ?_⟩
          · rw [List.length_map]
            have z1 := List.length_filter_le id (bs.take i)
            have z2 := List.length_take_le i bs
            have z3 : (bs.take i).length ≤ bs.length := by rw [List.length_take]; exact Nat.min_le_right _ _
            exact Nat.lt_of_le_of_lt (Nat.le_trans z1 (Nat.le_trans z3 (Nat.le_of_eq hl))) (by decide)
          · rw [upd_ne (ne_of_none e2 hD)]
            exact sm c2 o2 e2
          · rw [upd_same, ft, List.map_append] <;> rfl
        · rw [if_neg c] at ft
          exact ⟨sm, by rw [ft]; exact e6⟩
    · rintro H6 ⟨sm, e6⟩
      rw [List.length_map, List.take_length] at e6
      refine ⟨_, _, rfl, .inl (SqL.of e6), ?_⟩
      rw [List.length_map, h1]
      exact k _ (s5.trans sm)
theorem cal_classes {f : Addr} {fd : FuncData} (F : Fun K "_law_classes" "_law_classes" s_l_classes f fd) (hm : mg "_law_classes" = some (.ref f)) (T : Blt mg) (E : Errs K mg) : Cal P w K mg base "_law_classes" 1 P_l_classes (spClasses K) :=
  ⟨f, fd, ok_classes F T E, F.binds fun _ _ _ _ _ _ us hl => match us, hl with | [_], _ => rfl, F.kp, hm⟩
end
end Mn
set_option Elab.async false
set_option linter.all false
set_option maxRecDepth 100000
set_option maxHeartbeats 4000000
/-! One drawn error, and whether it keeps its field. -/
namespace Mn
open PySem L2
theorem AnErr.mono {K : PySem.W.Frag} {H H' : Hp} {a : Addr} (h : AnErr K H a) (s : Same H H') : AnErr K H' a := by
  obtain ⟨x, hx, e⟩ := h
  exact ⟨x, hx, e.mono s⟩
/-- what the law draws for the field -/
def Dx (H : Hp) (x : V) : Prop := x = .int 0 ∨ x = .int (-1) ∨ x = .non ∨ x = .str "a" ∨ ∃ t, x = .ref t ∧ H t = some (.tup [])
theorem Dx.mono {H H' : Hp} {x : V} (h : Dx H x) (s : Same H H') : Dx H' x := by
  rcases h with h | h | h | h | ⟨t, h, e⟩
  · exact .inl h
  · exact .inr (.inl h)
  · exact .inr (.inr (.inl h))
  · exact .inr (.inr (.inr (.inl h)))
  · exact .inr (.inr (.inr (.inr ⟨t, h, s _ _ e⟩)))
theorem Dx.fmt {K : PySem.W.Frag} {H : Hp} {x : V} (h : Dx H x) : FmtV K H x := by
  rcases h with rfl | rfl | rfl | rfl | ⟨t, rfl, e⟩
  · exact .inl rfl
  · exact .inr rfl
  · exact trivial
  · show (("a" : Str)).length ≤ 100
    decide +kernel
  · exact SqT.of e
theorem Dx.dat {K : PySem.W.Frag} {H : Hp} {x : V} (h : Dx H x) : ∃ d, Dp K H x d ∧ SeqAt.shaped d = true ∧ PyData.eqv d d = true := by
  rcases h with rfl | rfl | rfl | rfl | ⟨t, rfl, e⟩
  · exact ⟨_, .int 0, rfl, by decide +kernel⟩
  · exact ⟨_, .int (-1), rfl, by decide +kernel⟩
  · exact ⟨_, .non, rfl, by decide +kernel⟩
  · exact ⟨_, .str "a", by decide +kernel, by decide +kernel⟩
  · exact ⟨_, .tup (SqT.of e) .nil, rfl, by decide +kernel⟩
theorem err_heap {H : Hp} {a C dx : Addr} {nm : Str} {y : V} (ha : H a = none) (hd : upd H a (exo a C none) dx = none) (ne : dx ≠ a) :
    Same H (upd (upd (upd H a (exo a C none)) dx (exd dx [(nm, y)])) a (exo a C (some dx))) ∧ upd (upd (upd H a (exo a C none)) dx (exd dx [(nm, y)])) a (exo a C (some dx)) a = some (exo a C (some dx)) ∧ upd (upd (upd H a (exo a C none)) dx (exd dx [(nm, y)])) a (exo a C (some dx)) dx = some (exd dx [(nm, y)]) := by
  refine ⟨fun b o e => ?_, upd_same, by rw [upd_ne ne, upd_same]⟩
  have n1 : b ≠ a := ne_of_none e ha
  have hd2 : H dx = none := by rw [upd_ne ne] at hd; exact hd
  rw [upd_ne n1, upd_ne (ne_of_none e hd2), upd_ne n1]
  exact e
theorem Dr.same {H H' : Hp} {d : Addr} (h : Dr H d) (s : Same H H') : Dr H' d := by
  obtain ⟨a, b, r, e, q⟩ := h
  exact ⟨a, b, r, s _ _ e, q⟩
def spOne (K : PySem.W.Frag) : Sp := fun vs H Q _ => ∃ (d : Addr), vs = [.ref d] ∧ Dr H d ∧ ∀ (p a : Addr) (H' : Hp), Dr H' d → Kp d H H' → AnErr K H' a → H' p = some (.tup [.ref a, .bl true]) → Q (.ref p) H'
section
variable {P : Program} {w : World} {K : PySem.W.Frag} {mg : Str → Option Value} {base : Heap} {f1 f2 f3 : Addr}
theorem ok_one {f : Addr} {fd : FuncData} (F : Fun K "_law_one" "_law_one" s_l_one f fd) (T : Blt mg) (E : Errs K mg) (C_l_below : Cal P w K mg base "_law_below" 1 P_l_below spBelow) (C_l_pick : Cal P w K mg base "_law_pick" 2 P_l_pick (spPick K))
    (Z_BadPrint : SupOk P K mg (He.ga K "BadPrint") f1 "BadPrint.__init__" "fact") (Z_BadEnd : SupOk P K mg (He.ga K "BadEnd") f2 "BadEnd.__init__" "fact") (Z_BadText : SupOk P K mg (He.ga K "BadText") f3 "BadText.__init__" "word")
    (W1 : InitOk P w K mg base (He.ga K "BadPrint") f1 "fact") (W2 : InitOk P w K mg base (He.ga K "BadEnd") f2 "fact") (W3 : InitOk P w K mg base (He.ga K "BadText") f3 "word") : FnOk P w K mg base CX0 3 f fd P_l_one (spOne K) := by
  obtain ⟨fd1, J_BadPrint, B_BadPrint⟩ := W1
  obtain ⟨fd2, J_BadEnd, B_BadEnd⟩ := W2
  obtain ⟨fd3, J_BadText, B_BadText⟩ := W3
  refine F.ok sc_l_one (fun vs H Q E h => ?_) (fun cdv A outer s H vs Q E2 hr h => ?_)
  · obtain ⟨d, rfl, _⟩ := h
    rfl
  · obtain ⟨d, rfl, D, k⟩ := h
    refine ⟨_, (pss_cons
  (ps_par (i := 1) (j := 2) rfl sc_l_one.nd rfl rfl (by decide) rfl rfl (pa_cons (pe_own C_l_pick (hr.mono (by decide)) (pa_cons (pv 0) (pa_cons (pe_lst (pa_cons pe_int (pa_cons (pe_un un_neg pe_int) (pa_cons pe_non (pa_cons pe_str (pa_cons (pe_tup pa_nil) pa_nil)))))) pa_nil))) (pa_cons (pe_own C_l_below (hr.mono (by decide)) (pa_cons (pv 0) (pa_cons pe_int pa_nil))) pa_nil)) (by rfl))
  (pss_cons
  (ps_if (pt_cmpR op_eq (pv 2) pe_int (nomark _)) (pss_cons
  (ps_set (i := 3) sc_l_one.nd rfl (Or.inl rfl) (pe_mkV Z_BadPrint.sup.ox Z_BadPrint.ini Z_BadPrint.fn J_BadPrint (hr.mono (by decide)) B_BadPrint .nil pass0 rfl (E.gl "BadPrint" (by decide +kernel)) (pa_cons (pv 1) pa_nil)))
  (pss_one
  (ps_ret (pe_tup (pa_cons (pv 3) (pa_cons (pe_cmpR (op_eqD hr.units) (pe_xfV (pv 3)) (pv 1) (nomark _)) pa_nil)))))) pss_nil)
  (pss_cons
  (ps_if (pt_cmpR op_eq (pv 2) pe_int (nomark _)) (pss_cons
  (ps_set (i := 3) sc_l_one.nd rfl (Or.inl rfl) (pe_mkV Z_BadEnd.sup.ox Z_BadEnd.ini Z_BadEnd.fn J_BadEnd (hr.mono (by decide)) B_BadEnd .nil pass0 rfl (E.gl "BadEnd" (by decide +kernel)) (pa_cons (pv 1) pa_nil)))
  (pss_one
  (ps_ret (pe_tup (pa_cons (pv 3) (pa_cons (pe_cmpR (op_eqD hr.units) (pe_xfV (pv 3)) (pv 1) (nomark _)) pa_nil)))))) pss_nil)
  (pss_cons
  (ps_set (i := 3) sc_l_one.nd rfl (Or.inl rfl) (pe_mkV Z_BadText.sup.ox Z_BadText.ini Z_BadText.fn J_BadText (hr.mono (by decide)) B_BadText .nil pass0 rfl (E.gl "BadText" (by decide +kernel)) (pa_cons (pv 1) pa_nil)))
  (pss_one
  (ps_ret (pe_tup (pa_cons (pv 3) (pa_cons (pe_cmpR (op_eqD hr.units) (pe_xfV (pv 3)) (pv 1) (nomark _)) pa_nil))))))))), ?_⟩
    refine ⟨_, rfl, ⟨1, rfl, ?_⟩⟩
    refine ⟨by show 0 ≤ sizeLine; exact Nat.zero_le _, fun t ht => ?_⟩
    refine ⟨by show 5 ≤ sizeLine; decide, fun l hl => ?_⟩
    have sT := Same.new (o := .tup []) ht
    have et : upd H t (.tup []) t = some (.tup []) := upd_same
    have sL := Same.new (o := .lst [V.int 0, V.int (-1), V.non, V.str "a", V.ref t]) hl
    have el : upd (upd H t (.tup [])) l (.lst [V.int 0, V.int (-1), V.non, V.str "a", V.ref t]) l = some (.lst [V.int 0, V.int (-1), V.non, V.str "a", V.ref t]) := upd_same
    have D0 := D.same (sT.trans sL)
    have nt : t ≠ d := fun z => by
      obtain ⟨_, _, _, e, _⟩ := D
      rw [← z, ht] at e
      cases e
    have nl : l ≠ d := fun z => by
      obtain ⟨_, _, _, e, _⟩ := D.same sT
      rw [← z, hl] at e
      cases e
    have et2 := sL _ _ et
    have sA : Kp d H (upd (upd H t (.tup [])) l (.lst [V.int 0, V.int (-1), V.non, V.str "a", V.ref t])) := fun b o _ e => (sT.trans sL) _ _ e
    refine ⟨d, l, _, rfl, D0, el, nl, by show 0 < 5; decide, by show 5 < 1000; decide, fun x H1 hx D1 kp1 => ?_⟩
    have dx1 : Dx H1 x := by
      simp only [List.mem_cons, List.not_mem_nil, or_false] at hx
      rcases hx with h | h | h | h | h
      · exact .inl h
      · exact .inr (.inl h)
      · exact .inr (.inr (.inl h))
      · exact .inr (.inr (.inr (.inl h)))
      · exact .inr (.inr (.inr (.inr ⟨t, h, kp1 _ _ nt et2⟩)))
    have kp := sA.trans kp1
    refine ⟨_, rfl, d, 3, rfl, D1, by decide, by decide, fun r H2 r0 rn D2 kp2 => ?_⟩
    have dx : Dx H2 x := by
      rcases dx1 with h | h | h | h | ⟨t2, h, e⟩
      · exact .inl h
      · exact .inr (.inl h)
      · exact .inr (.inr (.inl h))
      · exact .inr (.inr (.inr (.inl h)))
      · exact .inr (.inr (.inr (.inr ⟨t2, h, kp2 _ _ (D1.ne_tup e) e⟩)))
    refine ⟨_, _, rfl, ?_⟩
    refine ⟨_, rfl, rfl, _, rfl, ite2 (fun c => ?_) (fun c => ?_)⟩
    · refine ⟨_, rfl, by show 1 ≤ 1000; decide, fun a ha => ⟨a, x, rfl, upd_same, (dx.mono (Same.new ha)).fmt, fun dx1 hd1 ne1 => ⟨rfl, ?_⟩⟩⟩
      obtain ⟨s3, ea, ed⟩ := err_heap (C := He.ga K "BadPrint") (nm := "fact") (y := x) ha hd1 ne1
      have an : AnErr K (upd (upd (upd H2 a (exo a (He.ga K "BadPrint") none)) dx1 (exd dx1 [("fact", x)])) a (exo a (He.ga K "BadPrint") (some dx1))) a := ⟨"BadPrint", by decide +kernel, .inr ⟨dx1, _, ea, ed⟩⟩
      generalize upd (upd (upd H2 a (exo a (He.ga K "BadPrint") none)) dx1 (exd dx1 [("fact", x)])) a (exo a (He.ga K "BadPrint") (some dx1)) = H3 at s3 ea ed an ⊢
      obtain ⟨dd, h1, h2, h3⟩ := (dx.mono s3).dat (K := K)
      refine ⟨_, rfl, _, rfl, a, _, dx1, _, x, rfl, ExcC.xf (E.ex "BadPrint" (by decide +kernel)), Z_BadPrint.no, ea, ed, rfl, _, rfl, dd, dd, h1, h1, h2, h2, by show 2 ≤ sizeLine; decide, fun p hp => ?_⟩
      rw [h3]
      have s4 := s3.trans (Same.new (o := .tup [V.ref a, V.bl true]) hp)
      exact k p a _ (D2.same s4) (kp.trans (kp2.trans fun b o _ e => s4 _ _ e)) (an.mono (Same.new hp)) upd_same
    · refine ⟨_, rfl, rfl, _, rfl, ite2 (fun c2 => ?_) (fun c2 => ?_)⟩
      · refine ⟨_, rfl, by show 1 ≤ 1000; decide, fun a ha => ⟨a, x, rfl, upd_same, (dx.mono (Same.new ha)).fmt, fun dx1 hd1 ne1 => ⟨rfl, ?_⟩⟩⟩
        obtain ⟨s3, ea, ed⟩ := err_heap (C := He.ga K "BadEnd") (nm := "fact") (y := x) ha hd1 ne1
        have an : AnErr K (upd (upd (upd H2 a (exo a (He.ga K "BadEnd") none)) dx1 (exd dx1 [("fact", x)])) a (exo a (He.ga K "BadEnd") (some dx1))) a := ⟨"BadEnd", by decide +kernel, .inr ⟨dx1, _, ea, ed⟩⟩
        generalize upd (upd (upd H2 a (exo a (He.ga K "BadEnd") none)) dx1 (exd dx1 [("fact", x)])) a (exo a (He.ga K "BadEnd") (some dx1)) = H3 at s3 ea ed an ⊢
        obtain ⟨dd, h1, h2, h3⟩ := (dx.mono s3).dat (K := K)
        refine ⟨_, rfl, _, rfl, a, _, dx1, _, x, rfl, ExcC.xf (E.ex "BadEnd" (by decide +kernel)), Z_BadEnd.no, ea, ed, rfl, _, rfl, dd, dd, h1, h1, h2, h2, by show 2 ≤ sizeLine; decide, fun p hp => ?_⟩
        rw [h3]
        have s4 := s3.trans (Same.new (o := .tup [V.ref a, V.bl true]) hp)
        exact k p a _ (D2.same s4) (kp.trans (kp2.trans fun b o _ e => s4 _ _ e)) (an.mono (Same.new hp)) upd_same
      · refine ⟨_, rfl, by show 1 ≤ 1000; decide, fun a ha => ⟨a, x, rfl, upd_same, (dx.mono (Same.new ha)).fmt, fun dx1 hd1 ne1 => ⟨rfl, ?_⟩⟩⟩
        obtain ⟨s3, ea, ed⟩ := err_heap (C := He.ga K "BadText") (nm := "word") (y := x) ha hd1 ne1
        have an : AnErr K (upd (upd (upd H2 a (exo a (He.ga K "BadText") none)) dx1 (exd dx1 [("word", x)])) a (exo a (He.ga K "BadText") (some dx1))) a := ⟨"BadText", by decide +kernel, .inr ⟨dx1, _, ea, ed⟩⟩
        generalize upd (upd (upd H2 a (exo a (He.ga K "BadText") none)) dx1 (exd dx1 [("word", x)])) a (exo a (He.ga K "BadText") (some dx1)) = H3 at s3 ea ed an ⊢
        obtain ⟨dd, h1, h2, h3⟩ := (dx.mono s3).dat (K := K)
        refine ⟨_, rfl, _, rfl, a, _, dx1, _, x, rfl, ExcC.xf (E.ex "BadText" (by decide +kernel)), Z_BadText.no, ea, ed, rfl, _, rfl, dd, dd, h1, h1, h2, h2, by show 2 ≤ sizeLine; decide, fun p hp => ?_⟩
        rw [h3]
        have s4 := s3.trans (Same.new (o := .tup [V.ref a, V.bl true]) hp)
        exact k p a _ (D2.same s4) (kp.trans (kp2.trans fun b o _ e => s4 _ _ e)) (an.mono (Same.new hp)) upd_same
theorem cal_one {f : Addr} {fd : FuncData} (F : Fun K "_law_one" "_law_one" s_l_one f fd) (hm : mg "_law_one" = some (.ref f)) (T : Blt mg) (E : Errs K mg) (C_l_below : Cal P w K mg base "_law_below" 1 P_l_below spBelow) (C_l_pick : Cal P w K mg base "_law_pick" 2 P_l_pick (spPick K))
    (Z1 : SupOk P K mg (He.ga K "BadPrint") f1 "BadPrint.__init__" "fact") (Z2 : SupOk P K mg (He.ga K "BadEnd") f2 "BadEnd.__init__" "fact") (Z3 : SupOk P K mg (He.ga K "BadText") f3 "BadText.__init__" "word")
    (W1 : InitOk P w K mg base (He.ga K "BadPrint") f1 "fact") (W2 : InitOk P w K mg base (He.ga K "BadEnd") f2 "fact") (W3 : InitOk P w K mg base (He.ga K "BadText") f3 "word") : Cal P w K mg base "_law_one" 3 P_l_one (spOne K) :=
  ⟨f, fd, ok_one F T E C_l_below C_l_pick Z1 Z2 Z3 W1 W2 W3, F.binds fun _ _ _ _ _ _ us hl => match us, hl with | [_], _ => rfl, F.kp, hm⟩
end
end Mn
set_option Elab.async false
set_option linter.all false
set_option maxRecDepth 100000
set_option maxHeartbeats 8000000
/-! law k19: the law itself. -/
namespace Mn
open PySem L2
def spLaw (K : PySem.W.Frag) : Sp := fun vs H Q _ => ∃ (a : Addr) (ns : List Int), vs = [.ref a] ∧ SqL K H a (ns.map V.int) ∧ ns.length ≤ 63 ∧ ∀ H', Q (.bl true) H'
/-- all of a list are errors -/
def Alls (K : PySem.W.Frag) (H : Hp) (xs : List V) : Prop := ∀ v ∈ xs, ∃ a, v = .ref a ∧ AnErr K H a
theorem Alls.mono {K : PySem.W.Frag} {H H' : Hp} {xs : List V} (h : Alls K H xs) (s : Same H H') : Alls K H' xs := fun v hv => by
  obtain ⟨a, e, q⟩ := h v hv
  exact ⟨a, e, q.mono s⟩
theorem Alls.snoc {K : PySem.W.Frag} {H : Hp} {xs : List V} {a : Addr} {x : Str} (h : Alls K H xs) (ha : H a = none) (hx : x ∈ errNames) : Alls K (upd H a (exo a (He.ga K x) none)) (xs ++ [.ref a]) := fun v hv => by
  rcases List.mem_append.mp hv with hv | hv
  · obtain ⟨b, e, q⟩ := h v hv
    exact ⟨b, e, q.mono (Same.new ha)⟩
  · exact ⟨a, by simpa using hv, x, hx, .inl upd_same⟩
theorem Alls.app {K : PySem.W.Frag} {H : Hp} {xs ys : List V} (h : Alls K H xs) (g : Alls K H ys) : Alls K H (xs ++ ys) := fun v hv => (List.mem_append.mp hv).elim (h v) (g v)
section
variable {P : Program} {w : World} {K : PySem.W.Frag} {mg : Str → Option Value} {base : Heap}
theorem ok_law {f : Addr} {fd : FuncData} (F : Fun K "law" "law" s_law f fd) (T : Blt mg) (E : Errs K mg) (C_l_random : Cal P w K mg base "_law_random" 1 P_l_random (spRandom K)) (C_l_one : Cal P w K mg base "_law_one" 3 P_l_one (spOne K))
    (C_l_classes : Cal P w K mg base "_law_classes" 1 P_l_classes (spClasses K)) : FnOk P w K mg base CX0 4 f fd P_law (spLaw K) := by
  refine F.ok sc_law (fun vs H Q E h => ?_) (fun cdv A outer s H vs Q E2 hr h => ?_)
  · obtain ⟨a, ns, rfl, _⟩ := h
    rfl
  · obtain ⟨a, ns, rfl, hS, hl, k⟩ := h
    refine ⟨_, (pss_cons
  (ps_set (i := 1) sc_law.nd rfl (Or.inl rfl) (pe_own C_l_random (hr.mono (by decide)) (pa_cons (pv 0) (pa_cons pe_int pa_nil))))
  (pss_cons
  (ps_for PassesOwn.never rfl (pi_range1 rfl T.range (pa_cons pe_int pa_nil)) (pg_name (i := 2) sc_law.nd rfl (Or.inl rfl))
  (pss_cons
  (ps_asg (pe_own C_l_one (hr.mono (by decide)) (pa_cons (pv 1) pa_nil)) (pg_tup rfl (pgs_cons (pg_name (i := 4) sc_law.nd rfl (Or.inl rfl)) (pgs_cons (pg_name (i := 5) sc_law.nd rfl (Or.inl rfl)) pgs_nil))))
  (pss_cons
  (ps_if (PW.pt (pw_or (pt_not (pt_val (pv 5))) (pw_or (pt_cmpR op_ne (pe_own C_l_classes (hr.mono (by decide)) (pa_cons (pv 4) pa_nil)) pe_int (nomark _)) (pw_or1 (pt_not (pt_val (pe_callB (call_isxK (K := K) rfl) (by rfl) T.isinstance (by decide +kernel) (pa_cons (pv 4) (pa_cons (pe_gr E.gR) pa_nil))))))))) (pss_one
  (ps_ret pe_bl)) pss_nil)
  (pss_one
  (ps_if (pt_not (pt_val (pe_callB (call_isxK (K := K) rfl) (by rfl) T.isinstance (by decide +kernel) (pa_cons (pv 4) (pa_cons (pe_bltn (v := .ty "ValueError") (u := .type "ValueError") (by rfl) E.mV (by decide +kernel) rfl) pa_nil))))) (pss_one
  (ps_ret pe_bl)) pss_nil)))))
  (pss_cons
  (ps_set (i := 3) sc_law.nd rfl (Or.inl rfl) (pe_lst (pa_cons (pe_mk0 PySem.F.excBase_ValueError (E.mkE "BadScale" (by decide +kernel)).1 (E.mkE "BadScale" (by decide +kernel)).2 (E.gl "BadScale" (by decide +kernel)) rfl) (pa_cons (pe_mk0 PySem.F.excBase_ValueError (E.mkE "BadSize" (by decide +kernel)).1 (E.mkE "BadSize" (by decide +kernel)).2 (E.gl "BadSize" (by decide +kernel)) rfl) (pa_cons (pe_mk0 PySem.F.excBase_ValueError (E.mkE "BadKind" (by decide +kernel)).1 (E.mkE "BadKind" (by decide +kernel)).2 (E.gl "BadKind" (by decide +kernel)) rfl) (pa_cons (pe_mk0 PySem.F.excBase_ValueError (E.mkE "BadSum" (by decide +kernel)).1 (E.mkE "BadSum" (by decide +kernel)).2 (E.gl "BadSum" (by decide +kernel)) rfl) (pa_cons (pe_mk0 PySem.F.excBase_ValueError (E.mkE "BadMark" (by decide +kernel)).1 (E.mkE "BadMark" (by decide +kernel)).2 (E.gl "BadMark" (by decide +kernel)) rfl) (pa_cons (pe_mk0 PySem.F.excBase_ValueError (E.mkE "BadDigits" (by decide +kernel)).1 (E.mkE "BadDigits" (by decide +kernel)).2 (E.gl "BadDigits" (by decide +kernel)) rfl) (pa_cons (pe_mk0 PySem.F.excBase_ValueError (E.mkE "BadMost" (by decide +kernel)).1 (E.mkE "BadMost" (by decide +kernel)).2 (E.gl "BadMost" (by decide +kernel)) rfl) pa_nil)))))))))
  (pss_cons
  (ps_set (i := 3) sc_law.nd rfl (Or.inl rfl) (pe_op op_cat (pv 3) (pe_lst (pa_cons (pe_mk0 PySem.F.excBase_ValueError (E.mkE "BadNumber" (by decide +kernel)).1 (E.mkE "BadNumber" (by decide +kernel)).2 (E.gl "BadNumber" (by decide +kernel)) rfl) (pa_cons (pe_mk0 PySem.F.excBase_ValueError (E.mkE "BadReports" (by decide +kernel)).1 (E.mkE "BadReports" (by decide +kernel)).2 (E.gl "BadReports" (by decide +kernel)) rfl) (pa_cons (pe_mk0 PySem.F.excBase_ValueError (E.mkE "TooMany" (by decide +kernel)).1 (E.mkE "TooMany" (by decide +kernel)).2 (E.gl "TooMany" (by decide +kernel)) rfl) (pa_cons (pe_mk0 PySem.F.excBase_ValueError (E.mkE "Unlike" (by decide +kernel)).1 (E.mkE "Unlike" (by decide +kernel)).2 (E.gl "Unlike" (by decide +kernel)) rfl) (pa_cons (pe_mk0 PySem.F.excBase_ValueError (E.mkE "Full" (by decide +kernel)).1 (E.mkE "Full" (by decide +kernel)).2 (E.gl "Full" (by decide +kernel)) rfl) pa_nil))))))))
  (pss_one
  (ps_ret (pe_cmpR (op_eqD hr.units) (pe_lc (own := [("_law_one_here", 6)]) (g := gName 6) rfl sc_law.nd (pi_list (pv 3)) (blkOk_by (own := [("_law_one_here", 6)]) (N := N_law) (sc := defScope s_law) (by decide +kernel)) (fun _ _ _ _ _ => (pg_name (i := 6) sc_law.nd rfl (Or.inl rfl))) (fun _ _ _ _ _ => (pts_one (PW.pt (pw_or (pt_cmpR op_ne (pe_own C_l_classes (hr.mono (by decide)) (pa_cons (pv 6) pa_nil)) pe_int (nomark _)) (pw_or1 (pt_not (pt_val (pe_callB (call_isxK (K := K) rfl) (by rfl) T.isinstance (by decide +kernel) (pa_cons (pv 6) (pa_cons (pe_gr E.gR) pa_nil)))))))))) (fun _ _ _ _ _ => (pv 6))) (pe_lst pa_nil) (nomark _)))))))), ?_⟩
    refine ⟨_, rfl, a, ns, 3019, rfl, hS, hl, by decide, by decide, fun d H1 _ D1 _ => ?_⟩
    refine ⟨4, rfl, by decide, by decide, for_range (lo := 0) (n := 4) (fun i σ H' => Dr H' d ∧ ∃ v2 v3 v4 v5 v6 : Option V, σ = [some (.ref a), some (.ref d), v2, v3, v4, v5, v6]) ⟨D1, none, none, none, none, none, rfl⟩ ?_ ?_⟩
    · rintro i σ H2 hi ⟨D2, v2, v3, v4, v5, v6, rfl⟩
      refine ⟨_, rfl, d, rfl, D2, fun q e H3 D3 kp an hq => ⟨q, _, rfl, SqT.of hq, rfl, _, _, rfl, _, _, rfl, rfl, ?_⟩⟩
      refine ⟨_, rfl, true, rfl, iteF ?_⟩
      refine ⟨_, rfl, e, rfl, an, fun H4 s4 => ?_⟩
      refine ⟨rfl, _, rfl, ite2 (fun c => absurd c (by decide)) (fun _ => ?_)⟩
      obtain ⟨x, hx, hE⟩ := an.mono s4
      refine ⟨_, rfl, e, _, _, _, true, rfl, hE, E.ex x hx, fun u h => h, E.kR x hx, true, rfl, iteF ?_⟩
      refine ⟨_, rfl, e, _, _, _, true, rfl, hE, E.ex x hx, fun u h => h, E.kV x hx, true, rfl, iteF ?_⟩
      exact ⟨D3.same s4, _, _, _, _, _, rfl⟩
    · rintro σ H2 ⟨D2, v2, v3, v4, v5, v6, rfl⟩
      have A0 : Alls K H2 [] := fun v hv => absurd hv List.not_mem_nil
      refine fun a0 h0 => ?_
      have A1 := A0.snoc (x := "BadScale") h0 (by decide +kernel)
      refine fun a1 h1 => ?_
      have A2 := A1.snoc (x := "BadSize") h1 (by decide +kernel)
      refine fun a2 h2 => ?_
      have A3 := A2.snoc (x := "BadKind") h2 (by decide +kernel)
      refine fun a3 h3 => ?_
      have A4 := A3.snoc (x := "BadSum") h3 (by decide +kernel)
      refine fun a4 h4 => ?_
      have A5 := A4.snoc (x := "BadMark") h4 (by decide +kernel)
      refine fun a5 h5 => ?_
      have A6 := A5.snoc (x := "BadDigits") h5 (by decide +kernel)
      refine fun a6 h6 => ?_
      have A7 := A6.snoc (x := "BadMost") h6 (by decide +kernel)
      have A8 : Alls K (upd (upd (upd (upd (upd (upd (upd H2 a0 (exo a0 (He.ga K "BadScale") none)) a1 (exo a1 (He.ga K "BadSize") none)) a2 (exo a2 (He.ga K "BadKind") none)) a3 (exo a3 (He.ga K "BadSum") none)) a4 (exo a4 (He.ga K "BadMark") none)) a5 (exo a5 (He.ga K "BadDigits") none)) a6 (exo a6 (He.ga K "BadMost") none)) [V.ref a0, V.ref a1, V.ref a2, V.ref a3, V.ref a4, V.ref a5, V.ref a6] := A7
      clear A0 A1 A2 A3 A4 A5 A6 A7
      generalize (upd (upd (upd (upd (upd (upd (upd H2 a0 (exo a0 (He.ga K "BadScale") none)) a1 (exo a1 (He.ga K "BadSize") none)) a2 (exo a2 (He.ga K "BadKind") none)) a3 (exo a3 (He.ga K "BadSum") none)) a4 (exo a4 (He.ga K "BadMark") none)) a5 (exo a5 (He.ga K "BadDigits") none)) a6 (exo a6 (He.ga K "BadMost") none)) = H7 at A8 ⊢
      refine ⟨by show 7 ≤ sizeLine; decide, fun l hl2 => ?_⟩
      have B0 := A8.mono (Same.new (o := .lst [V.ref a0, V.ref a1, V.ref a2, V.ref a3, V.ref a4, V.ref a5, V.ref a6]) hl2)
      have el : upd H7 l (.lst [V.ref a0, V.ref a1, V.ref a2, V.ref a3, V.ref a4, V.ref a5, V.ref a6]) l = some (.lst [V.ref a0, V.ref a1, V.ref a2, V.ref a3, V.ref a4, V.ref a5, V.ref a6]) := upd_same
      generalize upd H7 l (.lst [V.ref a0, V.ref a1, V.ref a2, V.ref a3, V.ref a4, V.ref a5, V.ref a6]) = H8 at B0 el ⊢
      have sm0 := Same.refl H8
      have C0 : Alls K H8 [] := fun v hv => absurd hv List.not_mem_nil
      refine ⟨_, rfl, ?_⟩
      refine fun b0 g0 => ?_
      have C1 := C0.snoc (x := "BadNumber") g0 (by decide +kernel)
      have sm1 := sm0.trans (Same.new (o := exo b0 (He.ga K "BadNumber") none) g0)
      refine fun b1 g1 => ?_
      have C2 := C1.snoc (x := "BadReports") g1 (by decide +kernel)
      have sm2 := sm1.trans (Same.new (o := exo b1 (He.ga K "BadReports") none) g1)
      refine fun b2 g2 => ?_
      have C3 := C2.snoc (x := "TooMany") g2 (by decide +kernel)
      have sm3 := sm2.trans (Same.new (o := exo b2 (He.ga K "TooMany") none) g2)
      refine fun b3 g3 => ?_
      have C4 := C3.snoc (x := "Unlike") g3 (by decide +kernel)
      have sm4 := sm3.trans (Same.new (o := exo b3 (He.ga K "Unlike") none) g3)
      refine fun b4 g4 => ?_
      have C5 := C4.snoc (x := "Full") g4 (by decide +kernel)
      have sm5 := sm4.trans (Same.new (o := exo b4 (He.ga K "Full") none) g4)
      have C6 : Alls K (upd (upd (upd (upd (upd H8 b0 (exo b0 (He.ga K "BadNumber") none)) b1 (exo b1 (He.ga K "BadReports") none)) b2 (exo b2 (He.ga K "TooMany") none)) b3 (exo b3 (He.ga K "Unlike") none)) b4 (exo b4 (He.ga K "Full") none)) [V.ref b0, V.ref b1, V.ref b2, V.ref b3, V.ref b4] := C5
      have sm6 : Same H8 (upd (upd (upd (upd (upd H8 b0 (exo b0 (He.ga K "BadNumber") none)) b1 (exo b1 (He.ga K "BadReports") none)) b2 (exo b2 (He.ga K "TooMany") none)) b3 (exo b3 (He.ga K "Unlike") none)) b4 (exo b4 (He.ga K "Full") none)) := sm5
      clear C0 C1 C2 C3 C4 C5 sm0 sm1 sm2 sm3 sm4 sm5
      generalize (upd (upd (upd (upd (upd H8 b0 (exo b0 (He.ga K "BadNumber") none)) b1 (exo b1 (He.ga K "BadReports") none)) b2 (exo b2 (He.ga K "TooMany") none)) b3 (exo b3 (He.ga K "Unlike") none)) b4 (exo b4 (He.ga K "Full") none)) = H9 at C6 sm6 ⊢
      refine ⟨by show 5 ≤ sizeLine; decide, fun l2 hl3 => ?_⟩
      have s9 := Same.new (o := .lst [V.ref b0, V.ref b1, V.ref b2, V.ref b3, V.ref b4]) hl3
      refine ⟨_, _, _, _, rfl, rfl, s9 _ _ (sm6 _ _ el), upd_same, by show 7 + 5 ≤ sizeLine; decide, fun q hq => ?_⟩
      have G0 := ((B0.mono (sm6.trans s9)).app (C6.mono s9)).mono (Same.new (o := .lst ([V.ref a0, V.ref a1, V.ref a2, V.ref a3, V.ref a4, V.ref a5, V.ref a6] ++ [V.ref b0, V.ref b1, V.ref b2, V.ref b3, V.ref b4])) hq)
      have eq := upd_same (H := upd H9 l2 (.lst [V.ref b0, V.ref b1, V.ref b2, V.ref b3, V.ref b4])) (a := q) (o := .lst ([V.ref a0, V.ref a1, V.ref a2, V.ref a3, V.ref a4, V.ref a5, V.ref a6] ++ [V.ref b0, V.ref b1, V.ref b2, V.ref b3, V.ref b4]))
      have hlen : ([V.ref a0, V.ref a1, V.ref a2, V.ref a3, V.ref a4, V.ref a5, V.ref a6] ++ [V.ref b0, V.ref b1, V.ref b2, V.ref b3, V.ref b4]).length = 12 := rfl
      generalize upd (upd H9 l2 (.lst [V.ref b0, V.ref b1, V.ref b2, V.ref b3, V.ref b4])) q (.lst ([V.ref a0, V.ref a1, V.ref a2, V.ref a3, V.ref a4, V.ref a5, V.ref a6] ++ [V.ref b0, V.ref b1, V.ref b2, V.ref b3, V.ref b4])) = Ha at G0 eq ⊢
      generalize [V.ref a0, V.ref a1, V.ref a2, V.ref a3, V.ref a4, V.ref a5, V.ref a6] ++ [V.ref b0, V.ref b1, V.ref b2, V.ref b3, V.ref b4] = xs at G0 eq hlen ⊢
      refine ⟨_, rfl, q, rfl, ⟨_, SqL.of eq⟩, fun Da hDa => ?_⟩
      refine lc_list (K := K) (a := q) (xs := xs) (fun i H6 => Same Ha H6 ∧ H6 Da = some (.lst [])) ⟨Same.new hDa, upd_same⟩ (fun i H6 _ ⟨z, _⟩ => SqL.of (z _ _ eq)) ?_ ?_
      · rintro i y H6 hi ⟨sm, e6⟩
        obtain ⟨e, rfl, an⟩ := G0 y (List.mem_of_getElem? hi)
        refine ⟨rfl, ?_⟩
        refine ⟨_, rfl, e, rfl, an.mono sm, fun H4 s4 => ?_⟩
        refine ⟨rfl, _, rfl, ite2 (fun c => absurd c (by decide)) (fun _ => ?_)⟩
        obtain ⟨x, hx, hE⟩ := an.mono (sm.trans s4)
        refine ⟨_, rfl, e, _, _, _, true, rfl, hE, E.ex x hx, fun u h => h, E.kR x hx, true, rfl, iteF ?_⟩
        exact ⟨sm.trans s4, s4 _ _ e6⟩
      · rintro H6 ⟨sm, e6⟩
        refine ⟨by show 0 ≤ sizeLine; exact Nat.zero_le _, fun z hz => ?_⟩
        have e7 := Same.new (o := .lst []) hz _ _ e6
        refine ⟨.list [], .list [], .lst (SqL.of e7) .nil, .lst (SqL.of upd_same) .nil, rfl, rfl, ?_⟩
        have ee : PyData.eqv (.list []) (.list []) = true := by decide +kernel
        rw [ee]
        exact k _
end
end Mn
set_option Elab.async false
set_option linter.all false
set_option maxRecDepth 100000
set_option maxHeartbeats 4000000
/-! What the top has written, as one equation that the kernel computes. -/
namespace Mn
open PySem L2
def propAt (K : PySem.W.Frag) (C : Addr) (f : Str) : Addr := match PySem.W.findIn K (.ref C) f with
  | some (some (.ref p)) => p
  | _ => 0
def getAt (K : PySem.W.Frag) (C : Addr) (f : Str) : Addr := match PySem.W.recIn K (propAt K C f) "property" with
  | some (.ref g :: _) => g
  | _ => 0
def propB (K : PySem.W.Frag) (C : Addr) (f : Str) : Bool := He.eqO (PySem.W.findIn K (.ref C) f) (some (some (.ref (propAt K C f)))) && (He.eqO (PySem.W.specialIn K (.ref (propAt K C f)) "__get__") (some (some (.builtin "property.__get__"))) && (decide (PySem.W.takesIn K (.ref (propAt K C f)) = some true) &&
  (match PySem.W.recIn K (propAt K C f) "property" with
    | some (.ref g :: _) => decide (g = getAt K C f)
    | _ => false)))
theorem propB_ok {K : PySem.W.Frag} {C : Addr} {f : Str} (h : propB K C f = true) : PropOf K C f (propAt K C f) (getAt K C f) := by
  unfold propB at h
  obtain ⟨h1, h⟩ := He.ba h
  obtain ⟨h2, h⟩ := He.ba h
  obtain ⟨h3, h4⟩ := He.ba h
  refine ⟨He.eqO_ok h1, He.eqO_ok h2, of_decide_eq_true h3, ?_⟩
  cases e : PySem.W.recIn K (propAt K C f) "property" with
  | none =>
    rw [e] at h4
    cases h4
  | some l =>
    rw [e] at h4
    cases l with
    | nil => cases h4
    | cons v r =>
      cases v with
      | ref g => exact ⟨r, by rw [of_decide_eq_true h4]⟩
      | _ => cases h4
abbrev Al : Type := Bool × List He5.FnW
def obsM (ex : PySem.W.Frag → Bool) (fa : List He.Fa) (fn : List He5.DefA) (K : PySem.W.Frag) : Al := (ex K && ((fa.all fun f => f.ok K) && fn.all fun d => d.ok K), fn.map fun d => He5.fnA K (d.at_ K))
def SaysM (ex : PySem.W.Frag → Bool) (fa : List He.Fa) (fn : List He5.DefA) (K : PySem.W.Frag) : Prop := obsM ex fa fn K = (true, fn.map He5.DefA.val)
section
variable {ex : PySem.W.Frag → Bool} {fa : List He.Fa} {fn : List He5.DefA} {K : PySem.W.Frag}
theorem SaysM.more (c : SaysM ex fa fn K) : ex K = true := (He.ba (congrArg (fun z : Al => z.1) c)).1
theorem SaysM.fact (c : SaysM ex fa fn K) (i : Nat) {f : He.Fa} (h : fa[i]? = some f := by rfl) : f.ok K = true :=
  List.all_eq_true.mp (He.ba (He.ba (congrArg (fun z : Al => z.1) c)).2).1 f (List.mem_of_getElem? h)
theorem SaysM.def_ (c : SaysM ex fa fn K) (i : Nat) {d : He5.DefA} (h : fn[i]? = some d := by rfl) : ∃ fd, L2.FunD K d.name d.qual d.params d.body d.scope (d.dvs K) (d.kws K) (d.at_ K) fd := by
  have c2 := (He.ba (He.ba (congrArg (fun z : Al => z.1) c)).2).2
  have e : fn.map (fun d => He5.fnA K (d.at_ K)) = fn.map He5.DefA.val := congrArg (fun z : Al => z.2) c
  have e2 : (fn.map fun d => He5.fnA K (d.at_ K))[i]? = (fn.map He5.DefA.val)[i]? := by rw [e]
  rw [List.getElem?_map, List.getElem?_map, h] at e2
  exact He5.DefA.funD (Option.some.inj e2) (List.all_eq_true.mp c2 d (List.mem_of_getElem? h))
end
/-! the head: the facts off the top's heap as a tree -/
def obsMG (n : Nat) (ex : PySem.W.Frag → Bool) (fa : List He.Fa) (fn : List He5.DefA) (g : Addr → Option Obj) : Al := obsM ex fa fn (He.frG g (He5.asA g n))
def hookM (n : Nat) (ex : PySem.W.Frag → Bool) (fa : List He.Fa) (fn : List He5.DefA) : PySem.W.Hook where
  α := Al
  obs := fun s => obsMG n ex fa fn s.heap.get?
  val := fun _ => (true, fn.map He5.DefA.val)
  says := fun _ h => ∃ K : PySem.W.Frag, K.In h ∧ SaysM ex fa fn K
  of := fun _ _ e => ⟨_, He.frG_in, e⟩
  keeps := fun _ _ _ ⟨K, hK, c⟩ k => ⟨K, PySem.W.Frag.In.keeps hK k, c⟩
theorem obsMG_eq {n : Nat} {ex : PySem.W.Frag → Bool} {fa : List He.Fa} {fn : List He5.DefA} {g : Addr → Option Obj} {s : Shared} (h : ∀ a, g a = s.heap.get? a) : obsMG n ex fa fn g = (hookM n ex fa fn).obs s := by
  have e : g = s.heap.get? := funext h
  rw [e] <;> rfl
end Mn
set_option Elab.async false
set_option linter.all false
set_option maxRecDepth 100000
namespace Mn
open PySem L2
def theFns : List He5.DefA := [⟨fun K => He.ga K "_law_random", "_law_random", "_law_random", defArgs s_l_random, defBody s_l_random, defScope s_l_random, [], []⟩,
  ⟨fun K => He.ga K "_law_below", "_law_below", "_law_below", defArgs s_l_below, defBody s_l_below, defScope s_l_below, [], []⟩,
  ⟨fun K => He.ga K "_law_pick", "_law_pick", "_law_pick", defArgs s_l_pick, defBody s_l_pick, defScope s_l_pick, [], []⟩,
  ⟨fun K => He.ga K "_law_one", "_law_one", "_law_one", defArgs s_l_one, defBody s_l_one, defScope s_l_one, [], []⟩,
  ⟨fun K => He.ga K "_law_classes", "_law_classes", "_law_classes", defArgs s_l_classes, defBody s_l_classes, defScope s_l_classes, [], []⟩,
  ⟨fun K => He.ga K "law", "law", "law", defArgs s_law, defBody s_law, defScope s_law, [], []⟩]
def theFacts : List He.Fa := [.glo "_law_random",
  .glo "_law_below",
  .glo "_law_pick",
  .glo "_law_one",
  .glo "_law_classes",
  .glo "law",
  .free "len",
  .free "abs",
  .free "int",
  .free "str",
  .free "sum",
  .free "min",
  .free "max",
  .free "all",
  .free "any",
  .free "range",
  .free "sorted",
  .free "tuple",
  .free "list",
  .free "set",
  .free "bool",
  .free "dict",
  .free "isinstance"]
def theMore (K : PySem.W.Frag) : Bool := true
end Mn
set_option Elab.async false
set_option linter.all false
set_option maxRecDepth 100000
set_option maxHeartbeats 8000000
/-! law k19: the end. -/
namespace Mn
open PySem L2
def file19 : Str := PySem.Challenge.pw_meansinprint_k19_errors_apart.main.file
def kitB (K : PySem.W.Frag) (x y : Str) : Bool := decide (PySem.W.kitOne K (.ref (He.ga K x)) (.ref (He.ga K y)) = some (decide (x = y)))
def more19 (K : PySem.W.Frag) : Bool := errNames.all (fun x => He.eqO (PySem.W.nsIn K mainGlobals x) (some (some (.ref (He.ga K x)))) && excB K (He.ga K x)) && (errNames.all (fun x => errNames.all fun y => kitB K x y) && (errNames.all (fun x => decide (PySem.W.kitOne K (.ref (He.ga K x)) (.ref (He.ga K "ReportError")) = some true)) &&
  (errNames.all (fun x => decide (PySem.W.kitOne K (.ref (He.ga K x)) (.type "ValueError") = some true)) && (emptyNames.all (fun x => PySem.W.excIn K (He.ga K x) He.veBase "ValueError.__new__" && PySem.W.keepIn K (.ref (He.ga K x))) && ((oexB K (He.ga K "BadPrint") && supB file19 K (He.ga K "BadPrint") (He.ma K (He.ga K "BadPrint") "__init__") "BadPrint.__init__" "fact") && ((oexB K (He.ga K "BadEnd") && supB file19 K (He.ga K "BadEnd") (He.ma K (He.ga K "BadEnd") "__init__") "BadEnd.__init__" "fact") && (oexB K (He.ga K "BadText") && supB file19 K (He.ga K "BadText") (He.ma K (He.ga K "BadText") "__init__") "BadText.__init__" "word")))))))
def facts19 : List He.Fa := theFacts ++ [.free "super", .free "ValueError", .glo "ReportError"]
def fx19 : List DefX := [⟨fun K => He.ma K (He.ga K "BadPrint") "__init__", v_BadPrint⟩, ⟨fun K => He.ma K (He.ga K "BadEnd") "__init__", v_BadEnd⟩, ⟨fun K => He.ma K (He.ga K "BadText") "__init__", v_BadText⟩]
theorem all_mk {P : Program} {w : World} {K : PySem.W.Frag} {h : Heap} {mg : Str → Option Value} {fa : Addr} (hfl : P.main.file = file19) (htp : (P.main.scope.names.lookup ("super" : Str)).isSome = false) (X : K.In h) (G : h.Ns mainGlobals mg) (hfa : mg "law" = some (.ref fa)) (c : SaysX more19 facts19 theFns fx19 K) :
    ∃ fd : FuncData, (∀ (s : Shared) (v : Value), BindsTo s fd ⟨[v], []⟩ [("_law_script", v)]) ∧ ∀ base : Heap, FnOk P w K mg base CX0 4 fa fd P_law (spLaw K) := by
  obtain ⟨_, F_l_random⟩ := c.def_ 0 rfl
  have F_l_random := He5.fun_of (x := "_law_random") (qual := "_law_random") (st := s_l_random) (kws := []) F_l_random
  have m_l_random := He.glo_ok X G (c.fact 0 (f := .glo "_law_random") rfl)
  obtain ⟨_, F_l_below⟩ := c.def_ 1 rfl
  have F_l_below := He5.fun_of (x := "_law_below") (qual := "_law_below") (st := s_l_below) (kws := []) F_l_below
  have m_l_below := He.glo_ok X G (c.fact 1 (f := .glo "_law_below") rfl)
  obtain ⟨_, F_l_pick⟩ := c.def_ 2 rfl
  have F_l_pick := He5.fun_of (x := "_law_pick") (qual := "_law_pick") (st := s_l_pick) (kws := []) F_l_pick
  have m_l_pick := He.glo_ok X G (c.fact 2 (f := .glo "_law_pick") rfl)
  obtain ⟨_, F_l_one⟩ := c.def_ 3 rfl
  have F_l_one := He5.fun_of (x := "_law_one") (qual := "_law_one") (st := s_l_one) (kws := []) F_l_one
  have m_l_one := He.glo_ok X G (c.fact 3 (f := .glo "_law_one") rfl)
  obtain ⟨_, F_l_classes⟩ := c.def_ 4 rfl
  have F_l_classes := He5.fun_of (x := "_law_classes") (qual := "_law_classes") (st := s_l_classes) (kws := []) F_l_classes
  have m_l_classes := He.glo_ok X G (c.fact 4 (f := .glo "_law_classes") rfl)
  obtain ⟨_, F_law⟩ := c.def_ 5 rfl
  have F_law := He5.fun_of (x := "law") (qual := "law") (st := s_law) (kws := []) F_law
  have m_law := He.glo_ok X G (c.fact 5 (f := .glo "law") rfl)
  have T : Blt mg := ⟨He.free_ok X G (c.fact 6 (f := .free "len") rfl), He.free_ok X G (c.fact 7 (f := .free "abs") rfl), He.free_ok X G (c.fact 8 (f := .free "int") rfl), He.free_ok X G (c.fact 9 (f := .free "str") rfl), He.free_ok X G (c.fact 10 (f := .free "sum") rfl), He.free_ok X G (c.fact 11 (f := .free "min") rfl), He.free_ok X G (c.fact 12 (f := .free "max") rfl), He.free_ok X G (c.fact 13 (f := .free "all") rfl), He.free_ok X G (c.fact 14 (f := .free "any") rfl), He.free_ok X G (c.fact 15 (f := .free "range") rfl), He.free_ok X G (c.fact 16 (f := .free "sorted") rfl), He.free_ok X G (c.fact 17 (f := .free "tuple") rfl), He.free_ok X G (c.fact 18 (f := .free "list") rfl), He.free_ok X G (c.fact 19 (f := .free "set") rfl), He.free_ok X G (c.fact 20 (f := .free "bool") rfl), He.free_ok X G (c.fact 21 (f := .free "dict") rfl), He.free_ok X G (c.fact 22 (f := .free "isinstance") rfl)⟩
  have mS := He.free_ok X G (c.fact 23 (f := .free "super") rfl)
  have mV := He.free_ok X G (c.fact 24 (f := .free "ValueError") rfl)
  have mR := He.glo_ok X G (c.fact 25 (f := .glo "ReportError") rfl)
  have mo := c.more
  unfold more19 at mo
  obtain ⟨q1, mo⟩ := He.ba mo
  obtain ⟨q2, mo⟩ := He.ba mo
  obtain ⟨q3, mo⟩ := He.ba mo
  obtain ⟨q4, mo⟩ := He.ba mo
  obtain ⟨q5, mo⟩ := He.ba mo
  obtain ⟨q6, mo⟩ := He.ba mo
  obtain ⟨q7, q8⟩ := He.ba mo
  have E : Errs K mg := ⟨fun x hx => PySem.W.mg_of X G (He.eqO_ok (He.ba (List.all_eq_true.mp q1 x hx)).1), mR, mV, fun x hx => excB_ok (He.ba (List.all_eq_true.mp q1 x hx)).2,
    fun x hx y hy => of_decide_eq_true (List.all_eq_true.mp (List.all_eq_true.mp q2 x hx) y hy), fun x hx => of_decide_eq_true (List.all_eq_true.mp q3 x hx), fun x hx => of_decide_eq_true (List.all_eq_true.mp q4 x hx), fun x hx => He.ba (List.all_eq_true.mp q5 x hx)⟩
  have Z0 : SupOk P K mg (He.ga K "BadPrint") (He.ma K (He.ga K "BadPrint") "__init__") "BadPrint.__init__" "fact" := supB_ok (He.ba q6).1 (by rw [hfl]; exact (He.ba q6).2) mS htp
  have Z1 : SupOk P K mg (He.ga K "BadEnd") (He.ma K (He.ga K "BadEnd") "__init__") "BadEnd.__init__" "fact" := supB_ok (He.ba q7).1 (by rw [hfl]; exact (He.ba q7).2) mS htp
  have Z2 : SupOk P K mg (He.ga K "BadText") (He.ma K (He.ga K "BadText") "__init__") "BadText.__init__" "word" := supB_ok (He.ba q8).1 (by rw [hfl]; exact (He.ba q8).2) mS htp
  have e := hfa.symm.trans m_law
  cases e
  have F_law0 := F_law
  obtain ⟨oc, od, kV, doc, pm, an, cdv, ct, osl, rfl, lk, hcd⟩ := F_law.ex
  refine ⟨PySem.W.fnOf "law" "law" (defArgs s_law) (defBody s_law) (defScope s_law) .none kV doc pm an cdv ct, fun s v => .of_eq rfl, fun base => ?_⟩
  have C_rand : Cal P w K mg base "_law_random" 1 P_l_random (spRandom K) := cal_random F_l_random m_l_random T
  have C_below : Cal P w K mg base "_law_below" 1 P_l_below spBelow := cal_below F_l_below m_l_below T
  have C_pick := cal_pick F_l_pick m_l_pick T C_below
  have C_classes : Cal P w K mg base "_law_classes" 1 P_l_classes (spClasses K) := cal_classes F_l_classes m_l_classes T E
  have C_one := cal_one F_l_one m_l_one T E C_below C_pick Z0 Z1 Z2 (ok_BadPrint Z0 (c.defx 0 rfl)) (ok_BadEnd Z1 (c.defx 1 rfl)) (ok_BadText Z2 (c.defx 2 rfl))
  exact ok_law F_law0 T E C_rand C_one C_classes
theorem walkE {l : PySem.W.OpenLaw} {n : Nat} {q : Program} {loose : List Str} {XP : (Str → Option Value) → Heap → Prop} {d : DefRec} (hfl : l.prog.main.file = file19) (htp : (l.prog.main.scope.names.lookup ("super" : Str)).isSome = false) (hn : l.most = some 63) (hdf : d.params.defaults = []) (hname : d.name = "law") :
    PySem.W.WalkO q loose XP (hookX n more19 facts19 theFns fx19).says l.row.toRowW d [] (fun f vs => PySem.call f vs) :=
  L2.walk_ofE (n := 63) (k := 4) (x := "_law_script") (CX := CX0) hn (by decide) hdf ⟨rfl, by decide, by decide⟩
    (fun w mg fa h Y G hmg => by
      obtain ⟨K, KX, c⟩ := Y
      have hfa : mg "law" = some (.ref fa) := by rw [← hname]; exact hmg
      obtain ⟨fd, hb, h2⟩ := all_mk (P := l.prog) (w := w) hfl htp KX G hfa c
      exact ⟨K, fd, spLaw K, KX, hb, fun _ a ns hl _ hS => ⟨a, ns, rfl, hS, hl, fun _ => rfl⟩, fun base _ _ => h2 base⟩) (fun _ _ _ _ z => z)
end Mn
open PySem PySem.W PyProof.Rows
set_option Elab.async false
set_option linter.all false
set_option maxRecDepth 100000
set_option maxHeartbeats 0
namespace Mn
abbrev hR : PySem.W.OpenRow := PySem.W.OpenLaw.row PySem.Challenge.rw_meansinprint_k19_errors_apart
abbrev hq : Program := PySem.W.view hR.prog [23]
abbrev hk : PySem.W.Hook := hookX 6 more19 facts19 theFns fx19
def hob (s : PySem.W.SharedT) : Al2 := obsXG 6 more19 facts19 theFns fx19 (HandSHeadRun.getT s)
theorem hob_eq (s : PySem.W.SharedT) : hob s = hk.obs s.abs := obsXG_eq (HandSHeadRun.getT_eq s)
def hloose : List Str := ["ReportError", "BadScale", "BadSize", "BadPrint", "BadKind", "BadEnd", "BadSum", "BadMark", "BadNumber", "BadDigits", "BadMost", "BadReports", "TooMany", "Unlike", "Full", "BadText", "_law_random", "_law_below", "_law_pick", "_law_one", "_law_classes"]
theorem hrun (w : World) : HandSHeadRun.RunEq hR hq hk hob 8000 hloose w := by
  intro os
  kernel_rfl
end Mn
theorem PySem.Challenge.cw_meansinprint_k19_errors_apart_holds : PySem.Challenge.rw_meansinprint_k19_errors_apart.Holds := by
  w_on; o_law
  refine HandSHeadRun.head_any (r := OpenLaw.row PySem.Challenge.rw_meansinprint_k19_errors_apart) (q := Mn.hq) (H := Mn.hk) (ob := Mn.hob) (M := 8000) (loose := Mn.hloose) (d := HandSHeadRun.topDef (OpenLaw.row PySem.Challenge.rw_meansinprint_k19_errors_apart).prog 23) (kwd := []) Mn.hob_eq
    (by kernel_rfl) (fun s => by kernel_rfl) Mn.hrun (by kernel_rfl) (by kernel_rfl) (by kernel_rfl) (by rfl) (by first | assumption | decide +kernel) (by decide +kernel) ⟨rfl, rfl, rfl, rfl, rfl, by decide +kernel⟩ ?hw ?hc
  case hw => w_witness2
  case hc =>
    exact Mn.walkE rfl (by decide +kernel) rfl (by kernel_rfl) (by kernel_rfl)
