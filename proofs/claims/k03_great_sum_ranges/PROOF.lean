import PyProof.Rows.All
import Wide.All
import OpenK.AllK
import Wide.FinOn
import HandS.ForMost
import HandS.Property
import HandS.Defaults
import HandS.IsInst
import HandS.SortInts
import HandS.StrMore
import HandS.Style
import HandS.TupAny
import HandS.ReplaceLit
import HandS.ReplaceList
import HandS.Walk
import HandS.HeadHook1
import HandS.HeadHook2
import HandS.HeadNt
import PySem.Challenge.RW_meansinprint_k03_great_sum_ranges
import HandS.HeadEnd
import HandS.Head0
import HandS.Head1
import HandS.Head2
set_option Elab.async false
set_option linter.all false
set_option maxRecDepth 100000
set_option maxHeartbeats 4000000
/-! Rules of our own over the hand layer, that speak of no program. -/
namespace Mn
open PySem L2

/-- a def of the text that lets nothing out, by its name -/
structure Cal (P : Program) (w : World) (K : PySem.W.Frag) (mg : Str → Option Value) (base : Heap) (x : Str) (k : Nat) (ps : List Str) (sp : Sp) : Prop where
  ex : ∃ f fd, FnOk P w K mg base CX0 k f fd ps sp ∧ Binds K fd ps [] ∧ PySem.W.keepIn K (.ref f) = true ∧ mg x = some (.ref f)
section
variable {X : Cx}
theorem pe_own {k : Nat} {x : Str} {ps : List Str} {sp : Sp} {e : Expr} {es : List Expr} {p pos : Pos} {t : TA} (C : Cal X.prog X.w X.K X.mg X.base x k ps sp) (hr : Room k X.A) (ha : PA X (e :: es) t) (hg : Gl X x := by rfl)
    (hdb : (x == ("__debug__" : Str)) = false := by decide) (hs : starEach (e :: es) X.env = (false, eval e X.env) :: starEach es X.env := by rfl) (hpl : (backTo pos (starEach es X.env)).any (·.1) = false := by rfl) :
    PE X (.Call (.Name x p) (e :: es) [] pos) (tCall sp [] E0 t) := by
  obtain ⟨f, fd, F, b, kp, hm⟩ := C.ex
  exact pe_call F hr hg hm kp b .nil pass0 ha hdb hs hpl

/-! ### readings made handier -/
theorem pe_imp {e : Expr} {t t' : TE} (h : PE X e t) (i : ∀ σ H Q, t' σ H Q → t σ H Q) : PE X e t' := ⟨fun pins s σ H Q I q => h.run pins s σ H Q I (i σ H Q q)⟩
theorem callR_imp {f : Value} {r r' : List V → Hp → VK → Prop} (h : CallR X f r) (i : ∀ xs H Q, r' xs H Q → r xs H Q) : CallR X f r' := fun pins s σ H xs us Q I rv q => h pins s σ H xs us Q I rv (i _ _ _ q)

/-- ways that meet: an expression, a statement, with a word between it and what follows -/
def tJ (t : TE) : TE := fun σ H Q => ∃ M : VK, t σ H M ∧ ∀ v H', M v H' → Q v H'
theorem pe_j {e : Expr} {t : TE} (h : PE X e t) : PE X e (tJ t) := by
  refine ⟨fun pins s σ H Q I q => ?_⟩
  obtain ⟨M, h1, h2⟩ := q
  exact thn (h.run pins s σ H M I h1) fun u s' ⟨v, H', I', r, m⟩ => ⟨v, H', I', r, h2 v H' m⟩
def tJs (t u : TS) : TS := fun D σ H => ∃ Mid : L2.St → Hp → Prop, t { D with nx := Mid } σ H ∧ ∀ σ' H', Mid σ' H' → u D σ' H'
theorem pss_j {st : Stmt} {rest : List Stmt} {t u : TS} (h1 : PS X st t) (h2 : PSs X rest u) : PSs X (st :: rest) (tJs t u) := by
  refine ⟨fun pins s σ H D I h => ?_⟩
  obtain ⟨Mid, hm, hu⟩ := h
  refine wpAny_execs_cons (thn (h1.run pins s σ H { D with nx := Mid } I hm) fun f s1 q => ?_)
  cases f with
  | next =>
    obtain ⟨σ', H', I', q⟩ := q
    exact h2.run pins s1 σ' H' D I' (hu σ' H' q)
  | ret v => exact q
  | brk => exact q
  | cont => exact q

/-! ### text times number -/
def rMulS : R2 := fun x y H Q => ∃ (z : Str) (n : Int), x = .str z ∧ y = .int n ∧ PySem.MulOk z n ∧ Q (.str (Txt.mul z n)) H
theorem op_mul_strint : OpR X (binaryOp .Mult) rMulS := by
  intro pins s σ H x y v u Q I rx ry h
  obtain ⟨z, n, rfl, rfl, hok, q⟩ := h
  obtain ⟨t, rfl⟩ := rx
  obtain ⟨t', rfl⟩ := ry
  exact PySem.SB.mul hok fun t2 k => ⟨.str _, H, I.tok k, ⟨t2, rfl⟩, q⟩

/-! ### the module's constants -/
theorem pe_gi {x : Str} {i : Int} {pos : Pos} (h : ∃ t, X.mg x = some (.int i t)) (hg : Gl X x := by rfl) (hd : (x == ("__debug__" : Str)) = false := by decide) : PE X (.Name x pos) (tC (.int i)) := by
  obtain ⟨t, h⟩ := h
  exact pe_glob hg h ⟨t, rfl⟩ hd
theorem pe_gs {x : Str} {z : Str} {pos : Pos} (h : ∃ t, X.mg x = some (.str z t)) (hg : Gl X x := by rfl) (hd : (x == ("__debug__" : Str)) = false := by decide) : PE X (.Name x pos) (tC (.str z)) := by
  obtain ⟨t, h⟩ := h
  exact pe_glob hg h ⟨t, rfl⟩ hd
theorem pe_gr {x : Str} {a : Addr} {pos : Pos} (h : X.mg x = some (.ref a)) (hg : Gl X x := by rfl) (hd : (x == ("__debug__" : Str)) = false := by decide) : PE X (.Name x pos) (tC (.ref a)) := pe_glob hg h rfl hd

/-! ### isinstance of plain values against a built-in class -/
def tyN : V → String
  | .non => "NoneType" | .bl _ => "bool" | .int _ => "int" | .str _ => "str" | .byt _ => "bytes" | .flt _ => "float" | .ref _ => "object" | .ty _ => "type"
end
end Mn
set_option Elab.async false
set_option linter.all false
set_option maxRecDepth 100000
set_option maxHeartbeats 4000000
/-! Prints as lists of signs. -/
namespace Mn
open PySem L2 TL PySem.NumText PySem.StrLaws
/-- the last k figures of n -/
def fr : Nat → Nat → List Nat
  | _, 0 => []
  | n, k + 1 => fr (n / 10) k ++ [48 + n % 10]
theorem fr_len : ∀ (k n : Nat), (fr n k).length = k
  | 0, _ => rfl
  | k + 1, n => by rw [fr, List.length_append, fr_len k]; rfl
theorem fr_digits : ∀ (k n : Nat), AllDigits (fr n k)
  | 0, _ => fun c hc => nomatch hc
  | k + 1, n => fun c hc => by
    rw [fr] at hc
    rcases List.mem_append.mp hc with h | h
    · exact fr_digits k _ c h
    · have e : c = 48 + n % 10 := by simpa using h
      omega
theorem val_snoc (cs : List Nat) (c : Nat) : digitsVal (cs ++ [c]) = digitsVal cs * 10 + (c - 48) := by
  unfold digitsVal
  rw [List.foldl_append] <;> rfl
theorem fr_val (cs : List Nat) : ∀ (k n : Nat), digitsVal (cs ++ fr n k) = digitsVal cs * 10 ^ k + n % 10 ^ k
  | 0, n => by rw [fr, List.append_nil, Nat.pow_zero, Nat.mul_one, Nat.mod_one, Nat.add_zero]
  | k + 1, n => by
    rw [fr, ← List.append_assoc, val_snoc, fr_val cs k (n / 10)]
    have e1 : 48 + n % 10 - 48 = n % 10 := by omega
    have e2 : n % (10 * 10 ^ k) = n % 10 + 10 * (n / 10 % 10 ^ k) := Nat.mod_mul
    have e3 : (10 : Nat) ^ (k + 1) = 10 * 10 ^ k := by rw [Nat.pow_succ, Nat.mul_comm]
    rw [e1, e3, e2, Nat.add_mul]
    have e4 : digitsVal cs * (10 * 10 ^ k) = digitsVal cs * 10 ^ k * 10 := by rw [Nat.mul_comm 10, Nat.mul_assoc]
    rw [e4]
    omega
theorem div_div10 (n d : Nat) : n / 10 / 10 ^ d = n / 10 ^ (d + 1) := by
  rw [Nat.div_div_eq_div_mul, Nat.pow_succ, Nat.mul_comm]
/-- padded to d + 1 figures at least -/
def padL (d n : Nat) : List Nat := if d + 1 ≤ (numL n).length then numL n else List.replicate (d + 1 - (numL n).length) 48 ++ numL n
theorem pad_eq : ∀ (d n : Nat), padL d n = numL (n / 10 ^ d) ++ fr n d
  | 0, n => by
    have h : 0 + 1 ≤ (numL n).length := List.length_pos_iff.mpr (numL_ne n)
    unfold padL
    rw [if_pos h, fr, List.append_nil, Nat.pow_zero, Nat.div_one]
  | d + 1, n => by
    rw [fr, ← List.append_assoc, ← div_div10, ← pad_eq d (n / 10)]
    by_cases h : 10 ≤ n
    · unfold padL
      rw [numL_step h, List.length_append, List.length_singleton]
      by_cases h2 : d + 1 ≤ (numL (n / 10)).length
      · rw [if_pos (by omega), if_pos h2]
      · rw [if_neg (by omega), if_neg h2, List.append_assoc]
        congr 2
        omega
    · have h1 : n < 10 := by omega
      have e0 : n / 10 = 0 := by omega
      unfold padL
      rw [e0, numL_lt h1, show numL 0 = [48] from rfl, List.length_singleton, List.length_singleton, if_neg (by omega), show n % 10 = n by omega]
      by_cases h2 : d + 1 ≤ 1
      · rw [if_pos h2, show d = 0 by omega] <;> rfl
      · rw [if_neg h2]
        have e : d + 1 + 1 - 1 = (d + 1 - 1) + 1 := by omega
        rw [e, List.replicate_succ'] <;> rfl
/-- the print of u units of 10 ^ -d -/
def sg (u : Int) : List Nat := if u < 0 then [45] else []
def tU (u : Int) (d : Nat) : List Nat := sg u ++ (numL (u.natAbs / 10 ^ d) ++ (if d = 0 then [] else 46 :: fr u.natAbs d))
def T (u : Int) (d : Nat) : Str := ⟨(tU u d).toArray⟩
theorem tl_T (u : Int) (d : Nat) : tl (T u d) = tU u d := rfl
theorem no46 {l : List Nat} (h : AllDigits l) : 46 ∉ l := fun hm => by have := h _ hm; omega
theorem sg46 (u : Int) : 46 ∉ sg u := by unfold sg; split <;> simp
theorem head46 (u : Int) (d : Nat) : 46 ∉ sg u ++ numL (u.natAbs / 10 ^ d) := by
  intro hm
  rcases List.mem_append.mp hm with h | h
  · exact sg46 u h
  · exact no46 (numL_digits _) h
theorem T_head {u : Int} {d : Nat} (h : d ≠ 0) : tU u d = (sg u ++ numL (u.natAbs / 10 ^ d)) ++ ([46] ++ fr u.natAbs d) := by
  unfold tU
  rw [if_neg h, List.append_assoc] <;> rfl
theorem T_head0 (u : Int) : tU u 0 = sg u ++ numL (u.natAbs / 10 ^ 0) := by
  unfold tU
  rw [if_pos rfl, List.append_nil]
theorem dot_mem {u : Int} {d : Nat} : 46 ∈ tl (T u d) ↔ d ≠ 0 := by
  rw [tl_T]
  constructor
  · intro h e
    rw [e, T_head0] at h
    exact head46 u 0 h
  · intro h
    rw [T_head h]
    simp
theorem ndigs (n k : Nat) : (n / 10 ^ k) * 10 ^ k + n % 10 ^ k = n := Nat.div_add_mod' n (10 ^ k)
theorem replL_dot : ∀ l : List Nat, replL [46] [] l = l.filter (fun c => decide (c ≠ 46))
  | [] => replL_nil
  | c :: r => by
    by_cases h : c = 46
    · subst h
      rw [replL_hit (by simp) rfl]
      show [] ++ replL [46] [] r = _
      rw [List.nil_append, replL_dot r, List.filter_cons]
      simp
    · rw [replL_miss (by intro q; simp at q; exact h q), replL_dot r, List.filter_cons]
      simp [h]
theorem filter_no {l : List Nat} (h : 46 ∉ l) : l.filter (fun c => decide (c ≠ 46)) = l := List.filter_eq_self.mpr fun a ha => decide_eq_true fun e => h (e ▸ ha)
/-- the text without its point -/
def tP (u : Int) (d : Nat) : List Nat := sg u ++ (numL (u.natAbs / 10 ^ d) ++ fr u.natAbs d)
theorem replace_T (u : Int) (d : Nat) : Txt.replace (T u d) "." "" = ⟨(tP u d).toArray⟩ := by
  refine ext_tl ?_
  rw [show tl (Txt.replace (T u d) "." "") = replL [46] [] (tU u d) from replace_list (by decide +kernel), replL_dot]
  show _ = tP u d
  unfold tP
  by_cases h : d = 0
  · subst h
    rw [T_head0, filter_no (head46 u 0), fr, List.append_nil]
  · rw [T_head h, List.filter_append, filter_no (head46 u d), List.filter_append, filter_no (no46 (fr_digits d _)), List.append_assoc] <;> rfl
theorem digs_num (u : Int) (d : Nat) : AllDigits (numL (u.natAbs / 10 ^ d) ++ fr u.natAbs d) := fun c hc => by
  rcases List.mem_append.mp hc with h | h
  · exact numL_digits _ c h
  · exact fr_digits d _ c h
theorem digs_val (u : Int) (d : Nat) : digitsVal (numL (u.natAbs / 10 ^ d) ++ fr u.natAbs d) = u.natAbs := by
  rw [fr_val, numL_val, ndigs]
theorem digs_ne (u : Int) (d : Nat) : numL (u.natAbs / 10 ^ d) ++ fr u.natAbs d ≠ [] := by
  intro h
  exact numL_ne _ (List.append_eq_nil_iff.mp h).1
theorem int_T {u : Int} {d : Nat} (h : (tP u d).length ≤ 640) : intText? ⟨(tP u d).toArray⟩ = some u := by
  have hl : (⟨(tP u d).toArray⟩ : Str).length ≤ 4300 := by
    rw [len_tl]
    exact Nat.le_trans h (by decide)
  by_cases c : u < 0
  · have e : tP u d = 45 :: (numL (u.natAbs / 10 ^ d) ++ fr u.natAbs d) := by
      unfold tP sg
      rw [if_pos c] <;> rfl
    rw [intText_neg (x := ⟨(tP u d).toArray⟩) (cs := numL (u.natAbs / 10 ^ d) ++ fr u.natAbs d) e (digs_num u d) (digs_ne u d) hl, digs_val]
    congr 1
    omega
  · have e : tP u d = numL (u.natAbs / 10 ^ d) ++ fr u.natAbs d := by
      unfold tP sg
      rw [if_neg c] <;> rfl
    have h1 : AllDigits (⟨(tP u d).toArray⟩ : Str).cps.toList := by
      show AllDigits (tP u d)
      rw [e]
      exact digs_num u d
    rw [intText_digits h1 (by show tP u d ≠ []; rw [e]; exact digs_ne u d) hl]
    show some ((digitsVal (tP u d) : Nat) : Int) = some u
    rw [e, digs_val]
    congr 1
    omega
theorem sg_len (u : Int) : (sg u).length ≤ 1 := by unfold sg; split <;> simp
theorem tP_len {u : Int} {d k : Nat} (hk : 0 < k) (h : u.natAbs / 10 ^ d < 10 ^ k) : (tP u d).length ≤ 1 + k + d := by
  unfold tP
  rw [List.length_append, List.length_append, fr_len]
  have h1 := sg_len u
  have h2 := numL_len hk h
  omega
theorem tU_len {u : Int} {d k : Nat} (hk : 0 < k) (h : u.natAbs / 10 ^ d < 10 ^ k) : (tU u d).length ≤ 2 + k + d := by
  unfold tU
  rw [List.length_append, List.length_append]
  have h1 := sg_len u
  have h2 := numL_len hk h
  split
  · rw [List.length_nil]; omega
  · rw [List.length_cons, fr_len]; omega
/-- the point's place -/
theorem index_T {u : Int} {d : Nat} (h : d ≠ 0) : ∃ r, Builtin.Str.occurrences (T u d) "." 0 (T u d).length 1 = (sg u ++ numL (u.natAbs / 10 ^ d)).length :: r := by
  have hy : tl ("." : Str) ≠ [] := by decide +kernel
  have ey : tl ("." : Str) = [46] := by decide +kernel
  have at0 : At (T u d) "." (T u d).length (sg u ++ numL (u.natAbs / 10 ^ d)).length := by
    refine (at_iff hy _).mpr ?_
    rw [tl_T, T_head h, List.drop_left, ey] <;> exact pre_self _ _
  have no : ∀ k, k < (sg u ++ numL (u.natAbs / 10 ^ d)).length → ¬ At (T u d) "." (T u d).length k := by
    intro k hk a
    have q := (at_iff hy k).mp a
    rw [tl_T, T_head h, ey, free_of (S := []) (head46 u d) k hk] at q
    cases q
  rcases StrLaws.occ_head (T u d) "." 1 (Nat.le_refl 1) with ⟨_, hn⟩ | ⟨i, r, h0, hi, hn⟩
  · exact absurd at0 (hn _)
  · have e : i = (sg u ++ numL (u.natAbs / 10 ^ d)).length := by
      rcases Nat.lt_trichotomy i (sg u ++ numL (u.natAbs / 10 ^ d)).length with a | a | a
      · exact absurd hi (no i a)
      · exact a
      · exact absurd at0 (hn _ a)
    exact ⟨r, by rw [h0, e]⟩
theorem T_len {u : Int} {d : Nat} (h : d ≠ 0) : (T u d).length = (sg u ++ numL (u.natAbs / 10 ^ d)).length + 1 + d := by
  rw [len_tl, tl_T, T_head h, List.length_append, List.length_append, List.length_append, fr_len, List.length_singleton]
  omega
theorem part_T {u : Int} {d : Nat} (h : d ≠ 0) : Txt.partition (T u d) "." = ((⟨(sg u ++ numL (u.natAbs / 10 ^ d)).toArray⟩ : Str), ("." : Str), (⟨(fr u.natAbs d).toArray⟩ : Str)) := by
  have e : T u d = (⟨(sg u ++ numL (u.natAbs / 10 ^ d)).toArray⟩ : Str) ++ ("." : Str) ++ (⟨(fr u.natAbs d).toArray⟩ : Str) := by
    refine ext_tl ?_
    rw [tl_append, tl_append, tl_T, T_head h, show tl ("." : Str) = [46] by decide +kernel, tl_mk, tl_mk]
    simp only [List.append_assoc]
  rw [e]
  exact partition_app (s := 46) (S := []) (a := ⟨(sg u ++ numL (u.natAbs / 10 ^ d)).toArray⟩) (by decide +kernel) (head46 u d)
theorem part_T0 (u : Int) : Txt.partition (T u 0) "." = (T u 0, Str.empty, Str.empty) := partition_none (s := 46) (S := []) (by decide +kernel) (by rw [tl_T, T_head0]; exact head46 u 0)
theorem tl_cut (z : Str) (lo hi : Option Int) : tl (cutS z lo hi) = ((tl z).drop (HT.sIx (tl z).length 0 lo)).take (HT.sIx (tl z).length (tl z).length hi - HT.sIx (tl z).length 0 lo) := by
  unfold cutS
  rw [tl_mk, len_tl]
theorem sIx_neg (n d k : Nat) (h : 0 < k) : HT.sIx n d (some (-(k : Int))) = n - k := by
  show (if -(k : Int) < 0 then (-(k : Int) + (n : Int)).toNat else min (-(k : Int)).toNat n) = n - k
  rw [if_pos (by omega)]
  omega
/-- z[-k:] -/
theorem cut_last {z : Str} {k : Nat} {a b : List Nat} (h : 0 < k) (e : tl z = a ++ b) (hb : b.length = k) : cutS z (some (-(k : Int))) none = ⟨b.toArray⟩ := by
  refine ext_tl ?_
  rw [tl_cut, sIx_neg _ _ _ h, HT.sIx_none, e, List.length_append, hb, Nat.add_sub_cancel, List.drop_left, tl_mk]
  exact List.take_of_length_le (by omega)
/-- z[:-k] -/
theorem cut_first {z : Str} {k : Nat} {a b : List Nat} (h : 0 < k) (e : tl z = a ++ b) (hb : b.length = k) : cutS z none (some (-(k : Int))) = ⟨a.toArray⟩ := by
  refine ext_tl ?_
  rw [tl_cut, sIx_neg _ _ _ h, HT.sIx_none, e, List.length_append, hb, Nat.add_sub_cancel, List.drop_zero, Nat.sub_zero, tl_mk]
  exact List.take_left
/-- noughts -/
theorem mul0 : ∀ d : Nat, d ≤ 8 → PySem.MulOk "0" (d : Int) ∧ tl (Txt.mul "0" (d : Int)) = List.replicate d 48 := by
  intro d hd
  have h : ∀ e : Nat, e < 9 → tl (Txt.mul "0" ((e : Nat) : Int)) = List.replicate e 48 := by decide +kernel
  have l1 : ("0" : Str).length = 1 := by decide +kernel
  refine ⟨⟨?_, fun h1 _ => ?_, fun h1 _ => ?_⟩, h d (by omega)⟩
  · rw [decide_eq_false (by omega), decide_eq_false (by omega)] <;> rfl
  · rw [l1]
    intro q
    have h2 : (d : Int) * ((2 ^ 63 - 1) / (d : Int)) ≥ 2 ^ 63 - 1 - (d - 1) := by
      have := Int.emod_lt_of_pos (2 ^ 63 - 1) (show (0 : Int) < d by omega)
      have e := Int.mul_ediv_add_emod (2 ^ 63 - 1) (d : Int)
      omega
    have h3 : (2 ^ 63 - 1) / (d : Int) < 1 := q
    have h4 : (2 ^ 63 - 1) / (d : Int) ≤ 0 := by omega
    have h5 : (d : Int) * ((2 ^ 63 - 1) / (d : Int)) ≤ 0 := Int.mul_nonpos_of_nonneg_of_nonpos (by omega) h4
    omega
  · rw [l1, Nat.one_mul, Int.toNat_natCast]
    unfold PySem.Builtin.Str.tooLong
    rw [PySem.sizeLine_eq]
    exact decide_eq_false (by omega)
end Mn
set_option Elab.async false
set_option linter.all false
set_option maxRecDepth 100000
set_option maxHeartbeats 4000000
/-! Rules for texts behind replace: a token has been given out. -/
namespace Mn
open PySem PySem.Spec PyProof.Rows L2 CwR
section
variable {X : Cx}
/-- as PE, and a token is out behind it -/
def PE1 (X : Cx) (e : Expr) (t : TE) : Prop := ∀ (pins : List (Addr × Obj)) (s : Shared) (σ : L2.St) (H : Hp) (Q : VK), Inv X pins σ H s → t σ H Q → wpAny (model X.prog X.w) X.A (eval e X.env) (fun v s' => 1 ≤ s'.toks ∧ EP X pins σ Q v s') X.xe s
def PT1 (X : Cx) (e : Expr) (t : TT) : Prop := ∀ (pins : List (Addr × Obj)) (s : Shared) (σ : L2.St) (H : Hp) (Q : Bool → Hp → Prop), Inv X pins σ H s → t σ H Q → wpAny (model X.prog X.w) X.A (isTrue e X.env (eval e X.env)) (fun d s' => 1 ≤ s'.toks ∧ TP X pins σ Q d s') X.xe s
theorem tks {α : Type} {t : Sem α} {Q : α → Shared → Prop} {R : α → Shared → Prop} {s : Shared} (hn : 1 ≤ s.toks) (h : wpAny (model X.prog X.w) X.A t Q X.xe s) (i : ∀ a s', 1 ≤ s'.toks → Q a s' → R a s') : wpAny (model X.prog X.w) X.A t R X.xe s :=
  wpAny_mono (PySem.wpAny_toks_of (n := 1) hn h) (fun a s' q => i a s' q.1 q.2) fun _ _ x => x.2
theorem pt_cmp1 {c : Str} {j : Nat} {cp : Pos} {op : CmpOp} {b : Expr} {pos : Pos} {r : R2} {tb : TE} (ho : OpR X (compareOp op) r) (hb : PE X b tb) (hm : behindInMarks op b = false) :
    PT1 X (.Compare (.Constant (.str c) j cp) [op] [b] pos) (tTest (tOp r (tC (.str c)) tb)) := by
  intro pins s σ H Q I h
  refine wpAny_isTrue_Compare1 (Calls.Constant_str ?_) hm
  have h1 : 1 ≤ s.toks + 1 := by omega
  refine tks (s := { s with toks := s.toks + 1 }) h1 (hb.run pins { s with toks := s.toks + 1 } σ H _ (I.tok _) h) fun u s2 k2 ⟨y, H2, I2, r2, q2⟩ => ?_
  refine tks k2 (ho pins s2 σ H2 (.str c) y (.str c s.toks) u _ I2 ⟨s.toks, rfl⟩ r2 q2) fun d s3 k3 ⟨z, H3, I3, r3, k, e, q3⟩ => ?_
  subst e
  cases r3
  exact wpAny_truthy_bool ⟨k3, H3, I3, q3⟩
theorem pe_if1 {c a b : Expr} {pos : Pos} {tc : TT} {ta tb : TE} (hc : PT1 X c tc) (ha : PE X a ta) (hb : PE X b tb) : PE1 X (.IfExp c a b pos) (tIf tc ta tb) := by
  intro pins s σ H Q I h
  refine wpAny_IfExp (thn (hc pins s σ H _ I h) fun d s1 ⟨k1, H1, I1, q1⟩ => ?_)
  cases d with
  | true => exact tks k1 (ha.run pins s1 σ H1 Q I1 q1) fun _ _ k q => ⟨k, q⟩
  | false => exact tks k1 (hb.run pins s1 σ H1 Q I1 q1) fun _ _ k q => ⟨k, q⟩
theorem pe_j1 {e : Expr} {t : TE} (h : PE1 X e t) : PE1 X e (tJ t) := by
  intro pins s σ H Q I q
  obtain ⟨M, h1, h2⟩ := q
  exact thn (h pins s σ H M I h1) fun u s' ⟨k, v, H', I', r, m⟩ => ⟨k, v, H', I', r, h2 v H' m⟩
/-- x = e, behind which a token is out -/
theorem pss_set1 {i : Nat} {x : Str} {e : Expr} {te : TE} {pos pos' : Pos} {rest : List Stmt} {u : TS} (hN : X.N.Nodup) (hi : X.N[i]? = some x) (hx : Loc X.env.scope x) (he : PE1 X e te) (h2 : PSsT X rest u)
    (hs : swapsWith e (some (.Name x pos')) pos.line X.env = pure false := by rfl) (hf : X.fn x = true ∨ X.env.scope.names.lookup x = some .local := by first | exact .inl rfl | exact .inr rfl | assumption) :
    PSs X (.Assign [.Name x pos'] e pos :: rest) (tSeq (tAsg te (gName i)) u) := by
  refine ⟨fun pins s σ H D I h => ?_⟩
  have h : te σ H (fun y H1 => u D (σ.set i (some y)) H1) := h
  refine wpAny_execs_cons (wpAny_Assign_Name (thn (he pins s σ H _ I h) fun v s1 ⟨k1, y, H1, I1, r1, q1⟩ => ?_) hs)
  refine tks k1 (store_ok (v := y) (u := v) (Q := fun _ s2 => Inv X pins (σ.set i (some y)) H1 s2) I1 hN hi hx r1 (fun _ I2 => I2) hf) fun _ s2 k2 I2 => ?_
  exact h2 pins s2 _ H1 D k2 I2 q1
theorem pst_set {i : Nat} {x : Str} {e : Expr} {te : TE} {pos pos' : Pos} (hN : X.N.Nodup) (hi : X.N[i]? = some x) (hx : Loc X.env.scope x) (he : PET X e te)
    (hs : swapsWith e (some (.Name x pos')) pos.line X.env = pure false := by rfl) (hf : X.fn x = true ∨ X.env.scope.names.lookup x = some .local := by first | exact .inl rfl | exact .inr rfl | assumption) :
    PST X (.Assign [.Name x pos'] e pos) (tAsg te (gName i)) := by
  intro pins s σ H D h0 I h
  refine wpAny_Assign_Name (thn (he pins s σ H _ h0 I h) fun v s1 ⟨y, H1, I1, r1, q1⟩ => ?_) hs
  exact store_ok I1 hN hi hx r1 (fun s2 I2 => ⟨_, H1, I2, q1⟩) hf
theorem pet_callTy {T : String} {r : List V → Hp → VK → Prop} {x : Str} {e : Expr} {es : List Expr} {t : TA} {p pos : Pos} (hc : CallR X (.type T) r) (hg : Gl X x) (hm : X.mg x = none) (hv : bootBuiltins x = some (.type T)) (ha : PAT X (e :: es) t) (hn : x ≠ "__name__" := by decide) (hdb : (x == ("__debug__" : Str)) = false := by decide)
    (he : starEach (e :: es) X.env = (false, eval e X.env) :: starEach es X.env := by rfl) (hpl : (backTo pos (starEach es X.env)).any (·.1) = false := by rfl) : PET X (.Call (.Name x p) (e :: es) [] pos) (tCB r t) := by
  intro pins s σ H Q h0 I h
  refine wpAny_Call_Name_kw (ld_blt I hg hm hv ?_ hn hdb)
  exact PyProof.Rows.callWith_type1 (thn (ha pos pins s σ H _ h0 I h) fun us s1 ⟨vs, H1, I1, r1, q1⟩ => hc pins s1 σ H1 vs us Q I1 r1 q1) he hpl
end
end Mn
set_option Elab.async false
set_option linter.all false
set_option maxRecDepth 100000
set_option maxHeartbeats 4000000
/-! sum of a tuple of whole numbers. -/
namespace Mn
open PySem PySem.Spec PyProof.Rows L2
section
variable {prog : Program} {w : World} {A : Around} {E : Value → Shared → Prop} {s : Shared} {l : Addr} {its : List Value} {ns : List Int} {Q : Value → Shared → Prop}
theorem sum_rawT (hh : A.handled = none) (hl : s.heap.IsTuple l its.toArray) (hi : IntsAre its ns)
    (h : ∀ h' tk t', (∀ b o, s.heap.get? b = some o → h'.get? b = some o) → Q (.int ns.sum t') { s with heap := h', toks := tk }) : wpAny (model prog w) A (call (.builtin "sum") [.ref l]) Q E s := by
  obtain ⟨xs, e⟩ := hi.allInts.items
  have hn : numsOf (intItems xs).toList = ns := by rw [← e]; exact hi.numsOf
  rw [nums_intItems] at hn
  rw [e] at hl
  have hlt : l < s.heap.objs.size := by obtain ⟨_, e, _⟩ := hl; exact Heap.lt_size e
  refine call_sum_walkG (wpAny_pyIter_tuple hl ?_)
  have hit : (s.heap.push { cls := .type "tuple_iterator", data := .fields #[.ref l, .int 0 0] }).IsTupleIter s.heap.objs.size l 0 := ⟨_, Heap.get?_push_size _ rfl, rfl, rfl⟩
  refine ⟨_, _, _, _, _, _, numAt xs, rfl, Walks.tuple (A := A.in1) hh s.heap.objs.size l (Nat.ne_of_lt hlt) (intItems xs), ⟨hit, hl.at fun o q => Heap.get?_push_of_some _ q⟩, (fun b hb => ?_), (fun _ _ => intItems_at), fun h' tk t' hk => ?_⟩
  · show b < (s.heap.push _).objs.size
    rw [Heap.size_push]
    rcases List.mem_cons.mp hb with rfl | hb
    · exact Nat.lt_succ_self _
    · rcases List.mem_cons.mp hb with rfl | hb
      · exact Nat.lt_succ_of_lt hlt
      · cases hb
  · have q := h h' tk t' fun b o e => by
      refine hk b o (fun hm => ?_) (Heap.get?_push_of_some _ e)
      rcases List.mem_cons.mp hm with e1 | hm
      · exact absurd (e1 ▸ Heap.lt_size e) (Nat.lt_irrefl _)
      · cases hm
    rw [preSum_eq, List.take_of_length_le (by simp [intItems]), hn]
    exact q
end
section
variable {X : Cx}
/-- sum(t), sum(xs) -/
def rSumS (K : PySem.W.Frag) : List V → Hp → VK → Prop := fun vs H Q => ∃ (a : Addr) (ns : List Int), vs = [V.ref a] ∧ (SqL K H a (ns.map V.int) ∨ SqT K H a (ns.map V.int)) ∧ Q (.int ns.sum) H
theorem cr_sumS (hc : X.calm = true) : CallR X (.builtin "sum") (rSumS X.K) := by
  intro pins s σ H vs us Q I r h
  obtain ⟨a, ns, rfl, hs, q⟩ := h
  rcases hs with hs | hs
  · exact cr_sum hc pins s σ H _ us Q I r ⟨a, ns, rfl, hs, q⟩
  · obtain ⟨its, rv, hl, _⟩ := I.tuple hs
    rw [Vals.ref1 r]
    exact sum_rawT (I.ok.hd hc) hl rv.ints fun h' tk t' hk => ⟨.int _, H, I.kept hk, ⟨_, rfl⟩, q⟩
end
end Mn
set_option Elab.async false
set_option linter.all false
set_option maxRecDepth 100000
set_option maxHeartbeats 4000000
/-! What the top has written, as one equation that the kernel computes. -/
namespace Mn
open PySem L2
def propAt (K : PySem.W.Frag) (C : Addr) (f : Str) : Addr := match PySem.W.findIn K (.ref C) f with
  | some (some (.ref p)) => p
  | _ => 0
def getAt (K : PySem.W.Frag) (C : Addr) (f : Str) : Addr := match PySem.W.recIn K (propAt K C f) "property" with
  | some (.ref g :: _) => g
  | _ => 0
def propB (K : PySem.W.Frag) (C : Addr) (f : Str) : Bool := He.eqO (PySem.W.findIn K (.ref C) f) (some (some (.ref (propAt K C f)))) && (He.eqO (PySem.W.specialIn K (.ref (propAt K C f)) "__get__") (some (some (.builtin "property.__get__"))) && (decide (PySem.W.takesIn K (.ref (propAt K C f)) = some true) &&
  (match PySem.W.recIn K (propAt K C f) "property" with
    | some (.ref g :: _) => decide (g = getAt K C f)
    | _ => false)))
theorem propB_ok {K : PySem.W.Frag} {C : Addr} {f : Str} (h : propB K C f = true) : PropOf K C f (propAt K C f) (getAt K C f) := by
  unfold propB at h
  obtain ⟨h1, h⟩ := He.ba h
  obtain ⟨h2, h⟩ := He.ba h
  obtain ⟨h3, h4⟩ := He.ba h
  refine ⟨He.eqO_ok h1, He.eqO_ok h2, of_decide_eq_true h3, ?_⟩
  cases e : PySem.W.recIn K (propAt K C f) "property" with
  | none =>
    rw [e] at h4
    cases h4
  | some l =>
    rw [e] at h4
    cases l with
    | nil => cases h4
    | cons v r =>
      cases v with
      | ref g => exact ⟨r, by rw [of_decide_eq_true h4]⟩
      | _ => cases h4
abbrev Al : Type := Bool × List He5.FnW
def obsM (ex : PySem.W.Frag → Bool) (fa : List He.Fa) (fn : List He5.DefA) (K : PySem.W.Frag) : Al := (ex K && ((fa.all fun f => f.ok K) && fn.all fun d => d.ok K), fn.map fun d => He5.fnA K (d.at_ K))
def SaysM (ex : PySem.W.Frag → Bool) (fa : List He.Fa) (fn : List He5.DefA) (K : PySem.W.Frag) : Prop := obsM ex fa fn K = (true, fn.map He5.DefA.val)
section
variable {ex : PySem.W.Frag → Bool} {fa : List He.Fa} {fn : List He5.DefA} {K : PySem.W.Frag}
theorem SaysM.more (c : SaysM ex fa fn K) : ex K = true := (He.ba (congrArg (fun z : Al => z.1) c)).1
theorem SaysM.fact (c : SaysM ex fa fn K) (i : Nat) {f : He.Fa} (h : fa[i]? = some f := by rfl) : f.ok K = true :=
  List.all_eq_true.mp (He.ba (He.ba (congrArg (fun z : Al => z.1) c)).2).1 f (List.mem_of_getElem? h)
theorem SaysM.def_ (c : SaysM ex fa fn K) (i : Nat) {d : He5.DefA} (h : fn[i]? = some d := by rfl) : ∃ fd, L2.FunD K d.name d.qual d.params d.body d.scope (d.dvs K) (d.kws K) (d.at_ K) fd := by
  have c2 := (He.ba (He.ba (congrArg (fun z : Al => z.1) c)).2).2
  have e : fn.map (fun d => He5.fnA K (d.at_ K)) = fn.map He5.DefA.val := congrArg (fun z : Al => z.2) c
  have e2 : (fn.map fun d => He5.fnA K (d.at_ K))[i]? = (fn.map He5.DefA.val)[i]? := by rw [e]
  rw [List.getElem?_map, List.getElem?_map, h] at e2
  exact He5.DefA.funD (Option.some.inj e2) (List.all_eq_true.mp c2 d (List.mem_of_getElem? h))
end
/-! the head: the facts off the top's heap as a tree -/
def obsMG (n : Nat) (ex : PySem.W.Frag → Bool) (fa : List He.Fa) (fn : List He5.DefA) (g : Addr → Option Obj) : Al := obsM ex fa fn (He.frG g (He5.asA g n))
def hookM (n : Nat) (ex : PySem.W.Frag → Bool) (fa : List He.Fa) (fn : List He5.DefA) : PySem.W.Hook where
  α := Al
  obs := fun s => obsMG n ex fa fn s.heap.get?
  val := fun _ => (true, fn.map He5.DefA.val)
  says := fun _ h => ∃ K : PySem.W.Frag, K.In h ∧ SaysM ex fa fn K
  of := fun _ _ e => ⟨_, He.frG_in, e⟩
  keeps := fun _ _ _ ⟨K, hK, c⟩ k => ⟨K, PySem.W.Frag.In.keeps hK k, c⟩
theorem obsMG_eq {n : Nat} {ex : PySem.W.Frag → Bool} {fa : List He.Fa} {fn : List He5.DefA} {g : Addr → Option Obj} {s : Shared} (h : ∀ a, g a = s.heap.get? a) : obsMG n ex fa fn g = (hookM n ex fa fn).obs s := by
  have e : g = s.heap.get? := funext h
  rw [e] <;> rfl
end Mn
set_option Elab.async false
set_option linter.all false
set_option maxRecDepth 100000
namespace Mn
open PySem L2
def topS (i : Nat) : Stmt := PySem.Challenge.pw_meansinprint_k03_great_sum_ranges.main.body.getD i (.Pass ⟨0, 0, 0, 0⟩)
abbrev s_told_marks : Stmt := topS 1
abbrev N_told_marks : List Str := ["report", "size", "told", "mark"]
abbrev P_told_marks : List Str := ["report", "size"]
theorem sc_told_marks : FnScope N_told_marks P_told_marks (defScope s_told_marks) := ⟨rfl, rfl, rfl, by decide +kernel, rfl, by decide +kernel, by decide +kernel⟩
abbrev s_mark_range : Stmt := topS 2
abbrev N_mark_range : List Str := ["report", "least", "greatest"]
abbrev P_mark_range : List Str := ["report"]
theorem sc_mark_range : FnScope N_mark_range P_mark_range (defScope s_mark_range) := ⟨rfl, rfl, rfl, by decide +kernel, rfl, by decide +kernel, by decide +kernel⟩
-- __init__: pe: JoinedStr(values=[Constant(value='the '), FormattedValue(value=Name(id='fact
-- __init__: pe: JoinedStr(values=[Constant(value='the '), FormattedValue(value=Name(id='fact
abbrev s_is_int : Stmt := topS 11
abbrev N_is_int : List Str := ["value"]
abbrev P_is_int : List Str := ["value"]
theorem sc_is_int : FnScope N_is_int P_is_int (defScope s_is_int) := ⟨rfl, rfl, rfl, by decide +kernel, rfl, by decide +kernel, by decide +kernel⟩
abbrev s_is_int_within : Stmt := topS 12
abbrev N_is_int_within : List Str := ["value", "least", "most"]
abbrev P_is_int_within : List Str := ["value", "least", "most"]
theorem sc_is_int_within : FnScope N_is_int_within P_is_int_within (defScope s_is_int_within) := ⟨rfl, rfl, rfl, by decide +kernel, rfl, by decide +kernel, by decide +kernel⟩
abbrev s_is_print : Stmt := topS 17
abbrev N_is_print : List Str := ["value", "unsigned", "whole", "point", "digits"]
abbrev P_is_print : List Str := ["value"]
theorem sc_is_print : FnScope N_is_print P_is_print (defScope s_is_print) := ⟨rfl, rfl, rfl, by decide +kernel, rfl, by decide +kernel, by decide +kernel⟩
abbrev s_is_print_from_zero : Stmt := topS 18
abbrev N_is_print_from_zero : List Str := ["value"]
abbrev P_is_print_from_zero : List Str := ["value"]
theorem sc_is_print_from_zero : FnScope N_is_print_from_zero P_is_print_from_zero (defScope s_is_print_from_zero) := ⟨rfl, rfl, rfl, by decide +kernel, rfl, by decide +kernel, by decide +kernel⟩
abbrev s_print_bounds : Stmt := topS 19
abbrev N_print_bounds : List Str := ["text", "whole", "_", "digits", "written"]
abbrev P_print_bounds : List Str := ["text"]
theorem sc_print_bounds : FnScope N_print_bounds P_print_bounds (defScope s_print_bounds) := ⟨rfl, rfl, rfl, by decide +kernel, rfl, by decide +kernel, by decide +kernel⟩
abbrev s__is_whole : Stmt := topS 20
abbrev N__is_whole : List Str := ["text"]
abbrev P__is_whole : List Str := ["text"]
theorem sc__is_whole : FnScope N__is_whole P__is_whole (defScope s__is_whole) := ⟨rfl, rfl, rfl, by decide +kernel, rfl, by decide +kernel, by decide +kernel⟩
abbrev s__are_figures : Stmt := topS 21
abbrev N__are_figures : List Str := ["text", "letter"]
abbrev P__are_figures : List Str := ["text"]
theorem sc__are_figures : FnScope N__are_figures P__are_figures (defScope s__are_figures) := ⟨rfl, rfl, rfl, by decide +kernel, rfl, by decide +kernel, by decide +kernel⟩
abbrev s__has_worth : Stmt := topS 22
abbrev N__has_worth : List Str := ["unsigned", "letter"]
abbrev P__has_worth : List Str := ["unsigned"]
theorem sc__has_worth : FnScope N__has_worth P__has_worth (defScope s__has_worth) := ⟨rfl, rfl, rfl, by decide +kernel, rfl, by decide +kernel, by decide +kernel⟩
abbrev s_sum_range : Stmt := topS 24
abbrev N_sum_range : List Str := ["report"]
abbrev P_sum_range : List Str := ["report"]
theorem sc_sum_range : FnScope N_sum_range P_sum_range (defScope s_sum_range) := ⟨rfl, rfl, rfl, by decide +kernel, rfl, by decide +kernel, by decide +kernel⟩
abbrev s_can_mean : Stmt := topS 25
abbrev N_can_mean : List Str := ["report"]
abbrev P_can_mean : List Str := ["report"]
theorem sc_can_mean : FnScope N_can_mean P_can_mean (defScope s_can_mean) := ⟨rfl, rfl, rfl, by decide +kernel, rfl, by decide +kernel, by decide +kernel⟩
abbrev s_sums_with : Stmt := topS 26
abbrev N_sums_with : List Str := ["report", "size", "mean", "found", "below", "above", "parts", "least", "greatest"]
abbrev P_sums_with : List Str := ["report", "size", "mean"]
theorem sc_sums_with : FnScope N_sums_with P_sums_with (defScope s_sums_with) := ⟨rfl, rfl, rfl, by decide +kernel, rfl, by decide +kernel, by decide +kernel⟩
abbrev s_end_sums : Stmt := topS 27
abbrev N_end_sums : List Str := ["report", "size", "told", "low", "high", "many"]
abbrev P_end_sums : List Str := ["report", "size"]
theorem sc_end_sums : FnScope N_end_sums P_end_sums (defScope s_end_sums) := ⟨rfl, rfl, rfl, by decide +kernel, rfl, by decide +kernel, by decide +kernel⟩
abbrev s_Report___init__ : Stmt := inClass (topS 34) 0
abbrev N_Report___init__ : List Str := ["self", "low", "high", "size", "mean", "spread", "kind", "least", "greatest", "middle"]
abbrev P_Report___init__ : List Str := ["self", "low", "high", "size", "mean", "spread", "kind", "least", "greatest", "middle"]
theorem sc_Report___init__ : FnScope N_Report___init__ P_Report___init__ (defScope s_Report___init__) := ⟨rfl, rfl, rfl, by decide +kernel, rfl, by decide +kernel, by decide +kernel⟩
abbrev s_Report___eq__ : Stmt := inClass (topS 34) 1
abbrev N_Report___eq__ : List Str := ["self", "other"]
abbrev P_Report___eq__ : List Str := ["self", "other"]
theorem sc_Report___eq__ : FnScope N_Report___eq__ P_Report___eq__ (defScope s_Report___eq__) := ⟨rfl, rfl, rfl, by decide +kernel, rfl, by decide +kernel, by decide +kernel⟩
abbrev s_Report_low : Stmt := inClass (topS 34) 2
abbrev N_Report_low : List Str := ["self"]
abbrev P_Report_low : List Str := ["self"]
theorem sc_Report_low : FnScope N_Report_low P_Report_low (defScope s_Report_low) := ⟨rfl, rfl, rfl, by decide +kernel, rfl, by decide +kernel, by decide +kernel⟩
abbrev s_Report_high : Stmt := inClass (topS 34) 3
abbrev N_Report_high : List Str := ["self"]
abbrev P_Report_high : List Str := ["self"]
theorem sc_Report_high : FnScope N_Report_high P_Report_high (defScope s_Report_high) := ⟨rfl, rfl, rfl, by decide +kernel, rfl, by decide +kernel, by decide +kernel⟩
abbrev s_Report_size : Stmt := inClass (topS 34) 4
abbrev N_Report_size : List Str := ["self"]
abbrev P_Report_size : List Str := ["self"]
theorem sc_Report_size : FnScope N_Report_size P_Report_size (defScope s_Report_size) := ⟨rfl, rfl, rfl, by decide +kernel, rfl, by decide +kernel, by decide +kernel⟩
abbrev s_Report_mean : Stmt := inClass (topS 34) 5
abbrev N_Report_mean : List Str := ["self"]
abbrev P_Report_mean : List Str := ["self"]
theorem sc_Report_mean : FnScope N_Report_mean P_Report_mean (defScope s_Report_mean) := ⟨rfl, rfl, rfl, by decide +kernel, rfl, by decide +kernel, by decide +kernel⟩
abbrev s_Report_spread : Stmt := inClass (topS 34) 6
abbrev N_Report_spread : List Str := ["self"]
abbrev P_Report_spread : List Str := ["self"]
theorem sc_Report_spread : FnScope N_Report_spread P_Report_spread (defScope s_Report_spread) := ⟨rfl, rfl, rfl, by decide +kernel, rfl, by decide +kernel, by decide +kernel⟩
abbrev s_Report_kind : Stmt := inClass (topS 34) 7
abbrev N_Report_kind : List Str := ["self"]
abbrev P_Report_kind : List Str := ["self"]
theorem sc_Report_kind : FnScope N_Report_kind P_Report_kind (defScope s_Report_kind) := ⟨rfl, rfl, rfl, by decide +kernel, rfl, by decide +kernel, by decide +kernel⟩
abbrev s_Report_least : Stmt := inClass (topS 34) 8
abbrev N_Report_least : List Str := ["self"]
abbrev P_Report_least : List Str := ["self"]
theorem sc_Report_least : FnScope N_Report_least P_Report_least (defScope s_Report_least) := ⟨rfl, rfl, rfl, by decide +kernel, rfl, by decide +kernel, by decide +kernel⟩
abbrev s_Report_greatest : Stmt := inClass (topS 34) 9
abbrev N_Report_greatest : List Str := ["self"]
abbrev P_Report_greatest : List Str := ["self"]
theorem sc_Report_greatest : FnScope N_Report_greatest P_Report_greatest (defScope s_Report_greatest) := ⟨rfl, rfl, rfl, by decide +kernel, rfl, by decide +kernel, by decide +kernel⟩
abbrev s_Report_middle : Stmt := inClass (topS 34) 10
abbrev N_Report_middle : List Str := ["self"]
abbrev P_Report_middle : List Str := ["self"]
theorem sc_Report_middle : FnScope N_Report_middle P_Report_middle (defScope s_Report_middle) := ⟨rfl, rfl, rfl, by decide +kernel, rfl, by decide +kernel, by decide +kernel⟩
abbrev s_most_high : Stmt := topS 35
abbrev N_most_high : List Str := ["low"]
abbrev P_most_high : List Str := ["low"]
theorem sc_most_high : FnScope N_most_high P_most_high (defScope s_most_high) := ⟨rfl, rfl, rfl, by decide +kernel, rfl, by decide +kernel, by decide +kernel⟩
abbrev s__check_scale : Stmt := topS 36
abbrev N__check_scale : List Str := ["low", "high"]
abbrev P__check_scale : List Str := ["low", "high"]
theorem sc__check_scale : FnScope N__check_scale P__check_scale (defScope s__check_scale) := ⟨rfl, rfl, rfl, by decide +kernel, rfl, by decide +kernel, by decide +kernel⟩
abbrev s__check_size : Stmt := topS 37
abbrev N__check_size : List Str := ["size"]
abbrev P__check_size : List Str := ["size"]
theorem sc__check_size : FnScope N__check_size P__check_size (defScope s__check_size) := ⟨rfl, rfl, rfl, by decide +kernel, rfl, by decide +kernel, by decide +kernel⟩
abbrev s__check_prints : Stmt := topS 38
abbrev N__check_prints : List Str := ["mean", "spread", "middle"]
abbrev P__check_prints : List Str := ["mean", "spread", "middle"]
theorem sc__check_prints : FnScope N__check_prints P__check_prints (defScope s__check_prints) := ⟨rfl, rfl, rfl, by decide +kernel, rfl, by decide +kernel, by decide +kernel⟩
abbrev s__check_kind : Stmt := topS 39
abbrev N__check_kind : List Str := ["kind", "spread", "size"]
abbrev P__check_kind : List Str := ["kind", "spread", "size"]
theorem sc__check_kind : FnScope N__check_kind P__check_kind (defScope s__check_kind) := ⟨rfl, rfl, rfl, by decide +kernel, rfl, by decide +kernel, by decide +kernel⟩
abbrev s__check_ends : Stmt := topS 40
abbrev N__check_ends : List Str := ["low", "high", "least", "greatest", "lowest"]
abbrev P__check_ends : List Str := ["low", "high", "least", "greatest"]
theorem sc__check_ends : FnScope N__check_ends P__check_ends (defScope s__check_ends) := ⟨rfl, rfl, rfl, by decide +kernel, rfl, by decide +kernel, by decide +kernel⟩
abbrev s_l_random : Stmt := topS 42
abbrev N_l_random : List Str := ["_law_script", "_law_salt", "_law_seed", "_law_cell"]
abbrev P_l_random : List Str := ["_law_script", "_law_salt"]
theorem sc_l_random : FnScope N_l_random P_l_random (defScope s_l_random) := ⟨rfl, rfl, rfl, by decide +kernel, rfl, by decide +kernel, by decide +kernel⟩
abbrev s_l_below : Stmt := topS 43
abbrev N_l_below : List Str := ["_law_d", "_law_size", "_law_result"]
abbrev P_l_below : List Str := ["_law_d", "_law_size"]
theorem sc_l_below : FnScope N_l_below P_l_below (defScope s_l_below) := ⟨rfl, rfl, rfl, by decide +kernel, rfl, by decide +kernel, by decide +kernel⟩
abbrev s_l_pick : Stmt := topS 44
abbrev N_l_pick : List Str := ["_law_d", "_law_items"]
abbrev P_l_pick : List Str := ["_law_d", "_law_items"]
theorem sc_l_pick : FnScope N_l_pick P_l_pick (defScope s_l_pick) := ⟨rfl, rfl, rfl, by decide +kernel, rfl, by decide +kernel, by decide +kernel⟩
abbrev s_l_equal : Stmt := topS 45
abbrev N_l_equal : List Str := ["_law_actual", "_law_expected", "_law_k", "_law_key"]
abbrev P_l_equal : List Str := ["_law_actual", "_law_expected"]
theorem sc_l_equal : FnScope N_l_equal P_l_equal (defScope s_l_equal) := ⟨rfl, rfl, rfl, by decide +kernel, rfl, by decide +kernel, by decide +kernel⟩
abbrev s_l_ten : Stmt := topS 46
abbrev N_l_ten : List Str := ["_law_digits", "_law_found", "_law_k"]
abbrev P_l_ten : List Str := ["_law_digits"]
theorem sc_l_ten : FnScope N_l_ten P_l_ten (defScope s_l_ten) := ⟨rfl, rfl, rfl, by decide +kernel, rfl, by decide +kernel, by decide +kernel⟩
abbrev s_l_text : Stmt := topS 47
abbrev N_l_text : List Str := ["_law_units", "_law_digits", "_law_plain", "_law_sign"]
abbrev P_l_text : List Str := ["_law_units", "_law_digits"]
theorem sc_l_text : FnScope N_l_text P_l_text (defScope s_l_text) := ⟨rfl, rfl, rfl, by decide +kernel, rfl, by decide +kernel, by decide +kernel⟩
abbrev s_l_printed : Stmt := topS 48
abbrev N_l_printed : List Str := ["_law_over", "_law_under", "_law_told", "_law_digits", "_law_units"]
abbrev P_l_printed : List Str := ["_law_over", "_law_under", "_law_told"]
theorem sc_l_printed : FnScope N_l_printed P_l_printed (defScope s_l_printed) := ⟨rfl, rfl, rfl, by decide +kernel, rfl, by decide +kernel, by decide +kernel⟩
abbrev s_l_mean : Stmt := topS 49
abbrev N_l_mean : List Str := ["_law_d", "_law_over", "_law_under", "_law_digits", "_law_units"]
abbrev P_l_mean : List Str := ["_law_d", "_law_over", "_law_under"]
theorem sc_l_mean : FnScope N_l_mean P_l_mean (defScope s_l_mean) := ⟨rfl, rfl, rfl, by decide +kernel, rfl, by decide +kernel, by decide +kernel⟩
abbrev s_l_can : Stmt := topS 50
abbrev N_l_can : List Str := ["_law_report", "_law_total", "_law_low", "_law_high", "_law_least", "_law_most"]
abbrev P_l_can : List Str := ["_law_report", "_law_total"]
theorem sc_l_can : FnScope N_l_can P_l_can (defScope s_l_can) := ⟨rfl, rfl, rfl, by decide +kernel, rfl, by decide +kernel, by decide +kernel⟩
abbrev s_law : Stmt := topS 51
abbrev N_law : List Str := ["_law_script", "_law_d", "_law_turn", "_law_low", "_law_size", "_law_high", "_law_mean_here", "_law_least", "_law_greatest", "_law_report", "_law_told", "_law_digits", "_law_middle", "_law_near", "_law_total", "_law_one"]
abbrev P_law : List Str := ["_law_script"]
theorem sc_law : FnScope N_law P_law (defScope s_law) := ⟨rfl, rfl, rfl, by decide +kernel, rfl, by decide +kernel, by decide +kernel⟩
end Mn
set_option Elab.async false
set_option linter.all false
set_option maxRecDepth 100000
set_option maxHeartbeats 4000000
/-! The law's draws: what the list of them keeps. -/
namespace Mn
open PySem L2
/-- names of built-ins that the text binds nowhere -/
structure Blt (mg : Str → Option Value) : Prop where
  len : mg "len" = none
  abs : mg "abs" = none
  int : mg "int" = none
  str : mg "str" = none
  sum : mg "sum" = none
  min : mg "min" = none
  max : mg "max" = none
  all : mg "all" = none
  any : mg "any" = none
  range : mg "range" = none
  sorted : mg "sorted" = none
  tuple : mg "tuple" = none
  list : mg "list" = none
  set : mg "set" = none
  bool : mg "bool" = none
  dict : mg "dict" = none
  isinstance : mg "isinstance" = none
/-- the list of draws at d -/
def Dr (H : Hp) (d : Addr) : Prop := ∃ (a b : Int) (r : List Int), H d = some (.lst (.int a :: .int b :: r.map V.int)) ∧ 0 ≤ a ∧ a < 2147483647 ∧ 0 ≤ b ∧ (∀ x ∈ r, 0 ≤ x) ∧ r.length ≤ 63
/-- all but d stands -/
def Kp (d : Addr) (H H' : Hp) : Prop := ∀ b o, b ≠ d → H b = some o → H' b = some o
theorem Kp.refl (d : Addr) (H : Hp) : Kp d H H := fun _ _ _ h => h
theorem Kp.trans {d : Addr} {H H1 H2 : Hp} (a : Kp d H H1) (b : Kp d H1 H2) : Kp d H H2 := fun c o n h => b c o n (a c o n h)
theorem Kp.upd (d : Addr) (H : Hp) (o : HO) : Kp d H (upd H d o) := fun b _ n h => by rw [upd_ne n]; exact h
theorem Kp.new {d p : Addr} {H : Hp} {o : HO} (h : H p = none) : Kp d H (L2.upd H p o) := fun b _ _ e => by rw [upd_ne (ne_of_none e h)]; exact e
theorem Kp.free {d p : Addr} {H H' : Hp} (k : Kp d H H') (hd : Dr H' d) (h : H' p = none) : H p = none := by
  cases q : H p with
  | none => rfl
  | some o =>
    have np : p ≠ d := fun e => by
      obtain ⟨_, _, _, e2, _⟩ := hd
      rw [e, e2] at h
      cases h
    rw [k p o np q] at h
    cases h
theorem Dr.ne {H : Hp} {d p : Addr} (h : Dr H d) (e : H p = none) : d ≠ p := by
  obtain ⟨_, _, _, e2, _⟩ := h
  exact ne_of_none e2 e
theorem Dr.new {H : Hp} {d p : Addr} {o : HO} (h : Dr H d) (e : H p = none) : Dr (L2.upd H p o) d := by
  have n := h.ne e
  obtain ⟨a, b, r, e2, q⟩ := h
  exact ⟨a, b, r, by rw [upd_ne n]; exact e2, q⟩
theorem Dr.ne_tup {H : Hp} {d p : Addr} {xs : List V} (h : Dr H d) (e : H p = some (.tup xs)) : p ≠ d := by
  obtain ⟨_, _, _, e2, _⟩ := h
  exact ne_of e e2 (by intro q; cases q)
theorem Dr.ne_ins {H : Hp} {d p C dx : Addr} {fs : List (Str × V)} (h : Dr H d) (e : H p = some (.ins C dx fs)) : p ≠ d := by
  obtain ⟨_, _, _, e2, _⟩ := h
  exact ne_of e e2 (by intro q; cases q)
theorem fmod_in {x n : Int} (h : 0 < n) : 0 ≤ x.fmod n ∧ x.fmod n < n := ⟨Int.fmod_nonneg_of_pos x h, Int.fmod_lt_of_pos x h⟩
theorem at0 {x : V} {xs : List V} : atI (x :: xs) 0 = some x := atI_nat (j := 0) rfl
theorem at1 {x y : V} {xs : List V} : atI (x :: y :: xs) 1 = some y := atI_nat (j := 1) rfl
theorem ix0 {x : V} {xs : List V} : ixN (x :: xs).length 0 = some 0 := by
  unfold ixN
  rw [if_pos (by decide), if_pos (by simp only [List.length_cons]; omega)]; rfl
theorem ix1 {x y : V} {xs : List V} : ixN (x :: y :: xs).length 1 = some 1 := by
  unfold ixN
  rw [if_pos (by decide), if_pos (by simp only [List.length_cons]; omega)]; rfl
/-- _law_below(d, n) -/
def spBelow : Sp := fun vs H Q _ => ∃ (d : Addr) (n : Int), vs = [.ref d, .int n] ∧ Dr H d ∧ 0 < n ∧ n < 1073741824 ∧ ∀ (r : Int) (H' : Hp), 0 ≤ r → r < n → Dr H' d → Kp d H H' → Q (.int r) H'
section
variable {P : Program} {w : World} {K : PySem.W.Frag} {mg : Str → Option Value} {base : Heap}
theorem ok_below {f : Addr} {fd : FuncData} (F : Fun K "_law_below" "_law_below" s_l_below f fd) (T : Blt mg) : FnOk P w K mg base CX0 1 f fd P_l_below spBelow := by
  refine F.ok sc_l_below (fun vs H Q E h => ?_) (fun cdv A outer s H vs Q E hr h => ?_)
  · obtain ⟨d, n, rfl, _⟩ := h
    rfl
  · obtain ⟨d, n, rfl, ⟨a, b, r, hd, ha0, ha, hb, hrr, hl⟩, hn0, hn, k⟩ := h
    refine ⟨_, (pss_j
  (ps_if (PW.pt (pw_and (pt_cmpR op_eq (pe_ix ix_list (pv 0) pe_int (fun _ _ => rfl)) pe_int (nomark _)) (pw_and1 (pt_cmpR op_gt (pe_callB call_len_seq (by rfl) T.len (by decide +kernel) (pa_cons (pv 0) pa_nil)) pe_int (nomark _))))) (pss_one
  (ps_asg (pe_bm PySem.F.plainAttrs_list PySem.F.slot_list_pop PySem.F.type_list_pop mt_popAt (pv 0) (pa_cons pe_int pa_nil)) (pg_sub (pv 0) pe_int set_list))) pss_nil)
  (pss_cons
  (ps_if (pt_cmpR op_gt (pe_ix ix_list (pv 0) pe_int (fun _ _ => rfl)) pe_int (nomark _)) (pss_cons
  (ps_set (i := 2) sc_l_below.nd rfl (Or.inl rfl) (pe_op op_modN (pe_callTy call_int1 (by rfl) T.int (by decide +kernel) (pa_cons (pe_ix ix_list (pv 0) pe_int (fun _ _ => rfl)) pa_nil)) (pv 1)))
  (pss_cons
  (ps_asg (pe_op op_fdivN (pe_ix ix_list (pv 0) pe_int (fun _ _ => rfl)) (pv 1)) (pg_sub (pv 0) pe_int set_list))
  (pss_one
  (ps_ret (pv 2))))) pss_nil)
  (pss_cons
  (ps_asg (pe_op op_modN (pe_callTy call_int1 (by rfl) T.int (by decide +kernel) (pa_cons (pe_op op_add (pe_op op_mul (pe_ix ix_list (pv 0) pe_int (fun _ _ => rfl)) pe_int) pe_int) pa_nil)) pe_int) (pg_sub (pv 0) pe_int set_list))
  (pss_one
  (ps_ret (pe_op op_modN (pe_callTy call_int1 (by rfl) T.int (by decide +kernel) (pa_cons (pe_op op_fdivN (pe_ix ix_list (pv 0) pe_int (fun _ _ => rfl)) pe_int) pa_nil)) (pv 1))))))), ?_⟩
    -- if d[1] == 0 and len(d) > 2: d[1] = d.pop(2)
    refine ⟨fun σ1 H1 => σ1 = L2.start N_l_below [V.ref d, V.int n] ∧ Kp d H H1 ∧ ∃ (b : Int) (r : List Int), H1 d = some (.lst (.int a :: .int b :: r.map V.int)) ∧ 0 ≤ b ∧ (∀ x ∈ r, 0 ≤ x) ∧ r.length ≤ 63, ?_, ?_⟩
    · refine ⟨_, rfl, _, _, _, _, rfl, rfl, SqL.of hd, at1, rfl, _, rfl, ?_⟩
      refine ite2 (fun _ => ?_) (fun _ => ?_)
      · refine ⟨_, rfl, _, _, rfl, .inl (SqL.of hd), _, _, rfl, rfl, _, rfl, ?_⟩
        refine ite2 (fun c => ?_) (fun _ => ?_)
        · cases r with
          | nil => exact absurd (of_decide_eq_true c) (by simp)
          | cons z r =>
            refine ⟨_, rfl, .inl ⟨rfl, _, SqL.of hd⟩, _, _, _, 2, _, rfl, rfl, hd, by decide, by decide, ?_, rfl, ?_⟩
            · exact seqIndex_of (by decide) (by simp only [List.length_cons, List.length_map]; omega)
            · refine ⟨_, rfl, _, _, _, 1, rfl, rfl, upd_same, ?_, ?_⟩
              · exact ix1
              · exact ⟨rfl, (Kp.upd _ _ _).trans (Kp.upd _ _ _), z, r, upd_same, hrr z List.mem_cons_self, fun x hx => hrr x (List.mem_cons_of_mem _ hx), by simp only [List.length_cons] at hl; omega⟩
        · exact ⟨rfl, Kp.refl _ _, b, r, hd, hb, hrr, hl⟩
      · exact ⟨rfl, Kp.refl _ _, b, r, hd, hb, hrr, hl⟩
    · rintro σ1 H1 ⟨rfl, kp, b, r, e1, hb, hrr, hl⟩
      refine ⟨_, rfl, _, _, _, _, rfl, rfl, SqL.of e1, at1, _, _, rfl, rfl, _, rfl, ?_⟩
      refine ite2 (fun _ => ?_) (fun _ => ?_)
      · refine ⟨_, rfl, _, _, _, _, rfl, rfl, SqL.of e1, at1, .inl ⟨_, rfl, _, rfl, _, _, rfl, rfl, by omega, ?_⟩⟩
        refine ⟨_, rfl, _, _, _, _, rfl, rfl, SqL.of e1, at1, _, rfl, _, _, rfl, rfl, ⟨by omega, by omega⟩, ?_⟩
        refine ⟨_, rfl, _, _, _, 1, rfl, rfl, e1, ix1, ?_⟩
        refine ⟨_, rfl, ?_⟩
        refine k _ _ (fmod_in hn0).1 (fmod_in hn0).2 ⟨a, _, r, upd_same, ha0, ha, Int.fdiv_nonneg hb (Int.le_of_lt hn0), hrr, hl⟩ (kp.trans (Kp.upd _ _ _))
      · refine ⟨_, rfl, _, _, _, _, rfl, rfl, SqL.of e1, at0, _, _, rfl, rfl, .inl ⟨by omega, by omega⟩, _, _, rfl, rfl, .inl ⟨_, rfl, _, _, rfl, rfl, (by show (2147483647 : Int) ≠ 0; decide), ?_⟩⟩
        refine ⟨_, rfl, _, _, _, 0, rfl, rfl, e1, ix0, ?_⟩
        refine ⟨_, rfl, _, _, _, _, rfl, rfl, SqL.of upd_same, at0, _, _, rfl, rfl, ⟨by decide, by decide⟩, .inl ⟨_, rfl, _, rfl, _, _, rfl, rfl, by omega, ?_⟩⟩
        refine k _ _ (fmod_in hn0).1 (fmod_in hn0).2 ⟨_, b, r, upd_same, (fmod_in (by decide)).1, (fmod_in (by decide)).2, hb, hrr, hl⟩ (kp.trans (Kp.upd _ _ _))
theorem cal_below {f : Addr} {fd : FuncData} (F : Fun K "_law_below" "_law_below" s_l_below f fd) (hm : mg "_law_below" = some (.ref f)) (T : Blt mg) : Cal P w K mg base "_law_below" 1 P_l_below spBelow :=
  ⟨f, fd, ok_below F T, F.binds fun _ _ _ _ _ _ us hl => match us, hl with | [_, _], _ => rfl, F.kp, hm⟩
/-- _law_pick(d, l): one of the items -/
def spPick (K : PySem.W.Frag) : Sp := fun vs H Q _ => ∃ (d l : Addr) (xs : List V), vs = [.ref d, .ref l] ∧ Dr H d ∧ H l = some (.lst xs) ∧ l ≠ d ∧ 0 < xs.length ∧ xs.length < 1000 ∧ ∀ (x : V) (H' : Hp), x ∈ xs → Dr H' d → Kp d H H' → Q x H'
theorem ok_pick {f : Addr} {fd : FuncData} (F : Fun K "_law_pick" "_law_pick" s_l_pick f fd) (T : Blt mg) (C_l_below : Cal P w K mg base "_law_below" 1 P_l_below spBelow) : FnOk P w K mg base CX0 2 f fd P_l_pick (spPick K) := by
  refine F.ok sc_l_pick (fun vs H Q E h => ?_) (fun cdv A outer s H vs Q E hr h => ?_)
  · obtain ⟨d, l, xs, rfl, _⟩ := h
    rfl
  · obtain ⟨d, l, xs, rfl, D, hl, ne, h0, h1, k⟩ := h
    refine ⟨_, (pss_one
  (ps_ret (pe_ix ix_list (pv 1) (pe_own C_l_below (hr.mono (by decide)) (pa_cons (pv 0) (pa_cons (pe_callB call_len_seq (by rfl) T.len (by decide +kernel) (pa_cons (pv 1) pa_nil)) pa_nil))) (fun _ _ => rfl)))), ?_⟩
    refine ⟨_, rfl, _, rfl, _, rfl, _, _, rfl, .inl (SqL.of hl), d, _, rfl, D, by omega, by omega, fun r H' r0 rn D' kp => ?_⟩
    have hi : r.toNat < xs.length := by omega
    exact ⟨_, _, _, xs[r.toNat], rfl, rfl, SqL.of (kp _ _ ne hl), at_of (j := r.toNat) (by omega) (List.getElem?_eq_getElem hi), k _ _ (List.getElem_mem hi) D' kp⟩
theorem cal_pick {f : Addr} {fd : FuncData} (F : Fun K "_law_pick" "_law_pick" s_l_pick f fd) (hm : mg "_law_pick" = some (.ref f)) (T : Blt mg) (C_l_below : Cal P w K mg base "_law_below" 1 P_l_below spBelow) : Cal P w K mg base "_law_pick" 2 P_l_pick (spPick K) :=
  ⟨f, fd, ok_pick F T C_l_below, F.binds fun _ _ _ _ _ _ us hl => match us, hl with | [_, _], _ => rfl, F.kp, hm⟩
/-- _law_random(script, salt) -/
def spRandom (K : PySem.W.Frag) : Sp := fun vs H Q _ => ∃ (a : Addr) (ns : List Int) (z : Int), vs = [.ref a, .int z] ∧ SqL K H a (ns.map V.int) ∧ ns.length ≤ 63 ∧ 0 ≤ z ∧ z < 2147483647 ∧ ∀ (p : Addr) (H' : Hp), H p = none → Dr H' p → Same H H' → Q (.ref p) H'
theorem map_at {ns : List Int} {i : Nat} {y : V} (hi : (ns.map V.int)[i]? = some y) : ∃ u, ns[i]? = some u ∧ y = V.int u := by
  rw [List.getElem?_map] at hi
  cases e : ns[i]? with
  | none =>
    rw [e] at hi
    cases hi
  | some u =>
    rw [e] at hi
    exact ⟨u, rfl, (Option.some.inj hi).symm⟩
theorem Same.new {H : Hp} {p : Addr} {o : HO} (h : H p = none) : Same H (upd H p o) := fun b _ e => by rw [upd_ne (ne_of_none e h)]; exact e
theorem ok_random {f : Addr} {fd : FuncData} (F : Fun K "_law_random" "_law_random" s_l_random f fd) (T : Blt mg) : FnOk P w K mg base CX0 1 f fd P_l_random (spRandom K) := by
  refine F.ok sc_l_random (fun vs H Q E h => ?_) (fun cdv A outer s H vs Q E hr h => ?_)
  · obtain ⟨a, ns, z, rfl, _⟩ := h
    rfl
  · obtain ⟨a, ns, z, rfl, hS, hl, z0, zn, k⟩ := h
    refine ⟨_, (pss_cons
  (ps_set (i := 2) sc_l_random.nd rfl (Or.inl rfl) (pv 1))
  (pss_cons
  (ps_for PassesOwn.never rfl (pi_list (pv 0)) (pg_name (i := 3) sc_l_random.nd rfl (Or.inl rfl))
  (pss_one
  (ps_set (i := 2) sc_l_random.nd rfl (Or.inl rfl) (pe_op op_modN (pe_callTy call_int1 (by rfl) T.int (by decide +kernel) (pa_cons (pe_op op_add (pe_op op_mul (pv 2) pe_int) (pe_callB call_abs (by rfl) T.abs (by decide +kernel) (pa_cons (pv 3) pa_nil))) pa_nil)) pe_int))))
  (pss_one
  (ps_ret (pe_op op_cat (pe_lst (pa_cons (pv 2) (pa_cons pe_int pa_nil))) (pe_lc (own := [("_law_cell", 3)]) (g := gName 3) rfl sc_l_random.nd (pi_list (pv 0)) (blkOk_by (own := [("_law_cell", 3)]) (N := N_l_random) (sc := defScope s_l_random) (by decide +kernel)) (fun _ _ _ _ _ => (pg_name (i := 3) sc_l_random.nd rfl (Or.inl rfl))) (fun _ _ _ _ _ => (pts_one (pt_cmpR op_ge (pv 3) (pe_op op_pow pe_int pe_int) (nomark _)))) (fun _ _ _ _ _ => (pv 3)))))))), ?_⟩
    refine ⟨_, rfl, ?_⟩
    refine ⟨_, rfl, a, rfl, ⟨_, hS⟩, for_list (K := K) (a := a) (xs := ns.map V.int) (fun i σ H' => ∃ (c : Int) (v : Option V), σ = [some (.ref a), some (.int z), some (.int c), v] ∧ H' = H ∧ 0 ≤ c ∧ c < 2147483647)
      ⟨z, none, rfl, rfl, z0, zn⟩ (fun i σ H' _ ⟨_, _, _, e, _⟩ => by rw [e]; exact hS) ?_ ?_⟩
    · rintro i y σ H' hi ⟨c, v, rfl, rfl, c0, cn⟩
      obtain ⟨u, _, rfl⟩ := map_at hi
      refine ⟨_, rfl, _, _, rfl, rfl, .inl ⟨by omega, by omega⟩, _, rfl, _, rfl, _, _, rfl, rfl, .inl ⟨_, rfl, _, _, rfl, rfl, (by show (2147483647 : Int) ≠ 0; decide), ?_⟩⟩
      exact ⟨_, _, rfl, rfl, (fmod_in (by decide)).1, (fmod_in (by decide)).2⟩
    · rintro σ H' ⟨c, v, rfl, rfl, c0, cn⟩
      refine ⟨_, rfl, (by show 2 ≤ sizeLine; decide), fun p hp => ?_⟩
      have s0 := Same.new (o := .lst [V.int c, V.int 0]) hp
      refine ⟨_, rfl, a, rfl, ⟨_, s0.seq hS⟩, fun D hD => ?_⟩
      refine lc_list (K := K) (a := a) (xs := ns.map V.int) (fun i H1 => Same (upd H' p (.lst [V.int c, V.int 0])) H1 ∧ ∃ r : List Int, H1 D = some (.lst (r.map V.int)) ∧ r.length ≤ i ∧ ∀ x ∈ r, 0 ≤ x)
        ⟨Same.new hD, [], upd_same, Nat.le_refl _, by simp⟩ (fun i H1 _ ⟨q, _⟩ => q.seq (s0.seq hS)) ?_ ?_
      · rintro i y H1 hi ⟨sm, r, e1, hr1, hr0⟩
        obtain ⟨u, _, rfl⟩ := map_at hi
        refine ⟨rfl, _, rfl, _, _, rfl, rfl, ⟨by decide, by decide, by decide⟩, _, _, rfl, rfl, _, rfl, ?_⟩
        refine ite2 (fun c => ?_) (fun _ => ?_)
        · refine ⟨_, rfl, _, e1, ?_, fun b o e => ?_, r ++ [u], ?_, ?_, ?_⟩
          · rw [List.length_map]
            have : i < ns.length := by
              have q := (List.getElem?_eq_some_iff.mp hi).1
              rw [List.length_map] at q
              exact q
            exact Nat.lt_of_le_of_lt (show r.length ≤ 63 by omega) (by decide)
          · rw [upd_ne (ne_of_none e hD)]
            exact sm b o e
          · rw [upd_same, List.map_append] <;> rfl
          · rw [List.length_append, List.length_singleton]; omega
          · intro x hx
            rcases List.mem_append.mp hx with hx | hx
            · exact hr0 x hx
            · have ex : x = u := by simpa using hx
              have c2 := of_decide_eq_true c
              rw [ex]
              have : (10 : Int) ^ (Int.toNat 18) = 1000000000000000000 := by decide
              omega
        · exact ⟨sm, r, e1, by omega, hr0⟩
      · rintro H1 ⟨sm, r, e1, hr1, hr0⟩
        rw [List.length_map] at hr1
        refine ⟨_, _, _, _, rfl, rfl, sm _ _ upd_same, e1, ?_, fun p2 hp2 => ?_⟩
        · rw [List.length_map]
          exact Nat.le_trans (show 2 + r.length ≤ 65 by omega) (by decide)
        · exact k _ _ (s0.free (sm.free hp2)) ⟨c, 0, r, upd_same, c0, cn, by omega, hr0, by omega⟩ (s0.trans (sm.trans (Same.new hp2)))
theorem cal_random {f : Addr} {fd : FuncData} (F : Fun K "_law_random" "_law_random" s_l_random f fd) (hm : mg "_law_random" = some (.ref f)) (T : Blt mg) : Cal P w K mg base "_law_random" 1 P_l_random (spRandom K) :=
  ⟨f, fd, ok_random F T, F.binds fun _ _ _ _ _ _ us hl => match us, hl with | [_, _], _ => rfl, F.kp, hm⟩
end
end Mn
set_option Elab.async false
set_option linter.all false
set_option maxRecDepth 100000
set_option maxHeartbeats 4000000
/-! The law's own texts. -/
namespace Mn
open PySem L2 TL
section
variable {P : Program} {w : World} {K : PySem.W.Frag} {mg : Str → Option Value} {base : Heap}
/-- _law_ten(d) -/
def spTen : Sp := fun vs H Q _ => ∃ d : Nat, vs = [.int (d : Int)] ∧ d ≤ 12 ∧ Q (.int ((10 ^ d : Nat) : Int)) H
theorem ok_ten {f : Addr} {fd : FuncData} (F : Fun K "_law_ten" "_law_ten" s_l_ten f fd) (T : Blt mg) : FnOk P w K mg base CX0 1 f fd P_l_ten spTen := by
  refine F.ok sc_l_ten (fun vs H Q E h => ?_) (fun cdv A outer s H vs Q E hr h => ?_)
  · obtain ⟨d, rfl, _⟩ := h
    rfl
  · obtain ⟨d, rfl, hd, k⟩ := h
    refine ⟨_, (pss_cons
  (ps_set (i := 1) sc_l_ten.nd rfl (Or.inl rfl) pe_int)
  (pss_cons
  (ps_for PassesOwn.never rfl (pi_range1 rfl T.range (pa_cons (pv 0) pa_nil)) (pg_name (i := 2) sc_l_ten.nd rfl (Or.inl rfl))
  (pss_one
  (ps_set (i := 1) sc_l_ten.nd rfl (Or.inl rfl) (pe_op op_mul (pv 1) pe_int))))
  (pss_one
  (ps_ret (pv 1))))), ?_⟩
    refine ⟨_, rfl, _, rfl, by omega, by omega, for_range (lo := 0) (n := (d : Int).toNat) (fun i σ H' => H' = H ∧ ∃ v, σ = [some (.int (d : Int)), some (.int ((10 ^ i : Nat) : Int)), v]) ⟨rfl, _, rfl⟩ ?_ ?_⟩
    · rintro i σ H' hi ⟨rfl, v, rfl⟩
      refine ⟨_, rfl, _, _, rfl, rfl, .inr ⟨by decide, by decide⟩, rfl, some (.int (0 + (i : Int))), ?_⟩
      have e : ((10 ^ i : Nat) : Int) * 10 = ((10 ^ (i + 1) : Nat) : Int) := by rw [Nat.pow_succ]; omega
      show [some (V.int (d : Int)), some (V.int (((10 ^ i : Nat) : Int) * 10)), _] = _
      rw [e] <;> rfl
    · rintro σ H' ⟨rfl, v, rfl⟩
      rw [Int.toNat_natCast]
      exact ⟨_, rfl, k⟩
theorem cal_ten {f : Addr} {fd : FuncData} (F : Fun K "_law_ten" "_law_ten" s_l_ten f fd) (hm : mg "_law_ten" = some (.ref f)) (T : Blt mg) : Cal P w K mg base "_law_ten" 1 P_l_ten spTen :=
  ⟨f, fd, ok_ten F T, F.binds fun _ _ _ _ _ _ us hl => match us, hl with | [_], _ => rfl, F.kp, hm⟩
theorem abs_cast (u : Int) : (if u < 0 then -u else u) = ((u.natAbs : Nat) : Int) := by split <;> omega
theorem log_ok {n : Nat} (h : n < 10 ^ 20) : n.log2 < 1920 := by
  by_cases z : n = 0
  · rw [z]; decide
  · exact Nat.lt_trans ((Nat.log2_lt z).mpr (Nat.lt_of_lt_of_le h (show 10 ^ 20 ≤ 2 ^ 67 by decide))) (by decide)
/-- (.. + str(abs(u)))[-max(..):] -/
theorem cut_pad {z : Str} {d n : Nat} {m : Int} (e : tl z = List.replicate d 48 ++ numL n) (h1 : (d : Int) + 1 ≤ m) (h2 : ((numL n).length : Int) ≤ m) (h3 : m = (d : Int) + 1 ∨ m = ((numL n).length : Int)) : cutS z (some (-m)) none = ⟨(padL d n).toArray⟩ := by
  have hp : 0 < (numL n).length := List.length_pos_iff.mpr (numL_ne n)
  unfold padL
  by_cases c : d + 1 ≤ (numL n).length
  · have em : m = ((numL n).length : Int) := by omega
    rw [if_pos c, em]
    exact cut_last hp e rfl
  · have em : m = ((d + 1 : Nat) : Int) := by omega
    rw [if_neg c, em]
    refine cut_last (a := List.replicate ((numL n).length - 1) 48) (by omega) ?_ ?_
    · rw [e, ← List.append_assoc, List.replicate_append_replicate]
      congr 2
      omega
    · rw [List.length_append, List.length_replicate]
      omega
/-- _law_text(u, d) -/
def spText : Sp := fun vs H Q _ => ∃ (u : Int) (d : Nat), vs = [.int u, .int (d : Int)] ∧ d ≤ 8 ∧ u.natAbs < 10 ^ 20 ∧ ∀ H', Same H H' → Q (.str (Mn.T u d)) H'
theorem small_line {n : Nat} (h : n ≤ 1000) : n ≤ sizeLine := Nat.le_trans h (by decide)
theorem ok_text {f : Addr} {fd : FuncData} (F : Fun K "_law_text" "_law_text" s_l_text f fd) (T : Blt mg) : FnOk P w K mg base CX0 1 f fd P_l_text spText := by
  refine F.ok sc_l_text (fun vs H Q E h => ?_) (fun cdv A outer s H vs Q E hr h => ?_)
  · obtain ⟨u, d, rfl, _⟩ := h
    rfl
  · obtain ⟨u, d, rfl, hd, hu, k⟩ := h
    have hlen : (numL u.natAbs).length ≤ 20 := numL_len (by decide) hu
    have enum : ∀ i : Int, i = ((u.natAbs : Nat) : Int) → tl (Str.ofString (toString i)) = numL u.natAbs := fun i e => by rw [e]; exact tl_num _
    refine ⟨_, (pss_cons
  (ps_set (i := 2) sc_l_text.nd rfl (Or.inl rfl) (pe_slice sl_str (pe_op op_add_str (pe_op op_mul_strint pe_str (pv 1)) (pe_callTy call_str_int (by rfl) T.str (by decide +kernel) (pa_cons (pe_callB call_abs (by rfl) T.abs (by decide +kernel) (pa_cons (pv 0) pa_nil)) pa_nil))) (po_some (pe_un un_neg (pe_callB (cr_max rfl) (by rfl) T.max (by decide +kernel) (pa_cons (pe_lst (pa_cons (pe_op op_add (pv 1) pe_int) (pa_cons (pe_callB call_len_str (by rfl) T.len (by decide +kernel) (pa_cons (pe_callTy call_str_int (by rfl) T.str (by decide +kernel) (pa_cons (pe_callB call_abs (by rfl) T.abs (by decide +kernel) (pa_cons (pv 0) pa_nil)) pa_nil)) pa_nil)) pa_nil))) pa_nil)))) po_none))
  (pss_cons
  (ps_set (i := 3) sc_l_text.nd rfl (Or.inl rfl) (pe_j (pe_ifExp (pt_cmpR op_lt (pv 0) pe_int (nomark _)) pe_str pe_str)))
  (pss_one
  (ps_ret (pe_j (pe_ifExp (pt_cmpR op_eq (pv 1) pe_int (nomark _)) (pe_op op_add_str (pv 3) (pv 2)) (pe_op op_add_str (pe_op op_add_str (pe_op op_add_str (pv 3) (pe_slice sl_str (pv 2) po_none (po_some (pe_un un_neg (pv 1))))) pe_str) (pe_slice sl_str (pv 2) (po_some (pe_un un_neg (pv 1))) po_none)))))))), ?_⟩
    -- plain
    refine ⟨_, rfl, _, _, rfl, rfl, (mul0 d hd).1, _, rfl, _, rfl, _, rfl, by rw [abs_cast]; exact log_ok hu, ?_⟩
    have ez : tl (Txt.mul "0" (d : Int) ++ Str.ofString (toString (if u < 0 then -u else u))) = List.replicate d 48 ++ numL u.natAbs := by rw [tl_append, (mul0 d hd).2, enum _ (abs_cast u)]
    have lz : (Txt.mul "0" (d : Int)).length + (Str.ofString (toString (if u < 0 then -u else u))).length = d + (numL u.natAbs).length := by
      rw [len_tl, len_tl, (mul0 d hd).2, enum _ (abs_cast u), List.length_replicate]
    have ln : (Str.ofString (toString (if u < 0 then -u else u))).length = (numL u.natAbs).length := by rw [len_tl, enum _ (abs_cast u)]
    refine ⟨_, _, rfl, rfl, by rw [lz]; exact small_line (by omega), ?_⟩
    refine ⟨_, rfl, _, _, rfl, rfl, _, rfl, _, rfl, _, rfl, by rw [abs_cast]; exact log_ok hu, _, rfl, by rw [ln]; exact small_line (by omega), ?_⟩
    refine ⟨by show 2 ≤ sizeLine; decide, fun p hp => ?_⟩
    refine ⟨_, [(d : Int) + 1, ((Str.ofString (toString (if u < 0 then -u else u))).length : Int)], rfl, SqL.of upd_same, by simp, fun m hm hle => ?_⟩
    have h1 : (d : Int) + 1 ≤ m := hle _ (by simp)
    have h2 : ((numL u.natAbs).length : Int) ≤ m := by rw [← ln]; exact hle _ (by simp)
    have h3 : m = (d : Int) + 1 ∨ m = ((numL u.natAbs).length : Int) := by rw [← ln]; simpa using hm
    refine ⟨_, rfl, _, rfl, _, rfl, ?_, ?_⟩
    · rw [len_tl, ez, List.length_append, List.length_replicate]
      exact small_line (by omega)
    rw [cut_pad ez h1 h2 h3, pad_eq]
    have ePl : tl (⟨(numL (u.natAbs / 10 ^ d) ++ fr u.natAbs d).toArray⟩ : Str) = numL (u.natAbs / 10 ^ d) ++ fr u.natAbs d := rfl
    have lPl : (numL (u.natAbs / 10 ^ d)).length + d ≤ 100 := by
      have := numL_len (n := u.natAbs / 10 ^ d) (k := 20) (by decide) (Nat.lt_of_le_of_lt (Nat.div_le_self _ _) hu)
      omega
    have sm := Same.new (o := .lst [V.int ((d : Int) + 1), V.int ((Str.ofString (toString (if u < 0 then -u else u))).length : Int)]) hp
    -- sign
    refine ⟨fun v H' => v = V.str ⟨(sg u).toArray⟩ ∧ H' = upd H p (.lst [V.int ((d : Int) + 1), V.int ((Str.ofString (toString (if u < 0 then -u else u))).length : Int)]), ?_, ?_⟩
    · refine ⟨_, rfl, _, _, rfl, rfl, _, rfl, ite2 (fun c => ?_) (fun c => ?_)⟩
      · refine ⟨congrArg V.str (ext_tl ?_), rfl⟩
        have c2 := of_decide_eq_true c
        show tl ("-" : Str) = sg u
        unfold sg
        rw [if_pos c2] <;> decide +kernel
      · refine ⟨congrArg V.str (ext_tl ?_), rfl⟩
        have c2 : ¬ u < 0 := fun z => c (decide_eq_true z)
        show tl ("" : Str) = sg u
        unfold sg
        rw [if_neg c2] <;> decide +kernel
    rintro v H' ⟨rfl, rfl⟩
    have lsg := sg_len u
    refine ⟨fun v H' => v = V.str (Mn.T u d) ∧ H' = upd H p (.lst [V.int ((d : Int) + 1), V.int ((Str.ofString (toString (if u < 0 then -u else u))).length : Int)]), ?_, ?_⟩
    · refine ⟨_, rfl, rfl, _, rfl, ite2 (fun c => ?_) (fun c => ?_)⟩
      · have ed : d = 0 := by
          have q := of_decide_eq_true c
          have q2 : (d : Int) = 0 := by injection q
          omega
        subst ed
        refine ⟨_, rfl, _, rfl, _, _, rfl, rfl, ?_, congrArg V.str (ext_tl ?_), rfl⟩
        · rw [len_tl, len_tl, tl_mk, tl_mk, List.length_append, fr_len]
          exact small_line (by omega)
        · rw [tl_append, tl_T, T_head0, tl_mk, tl_mk, fr, List.append_nil]
      · have ed : d ≠ 0 := fun z => c (by rw [z]; exact decide_eq_true rfl)
        have dpos : 0 < d := by omega
        have e46 : tl (Str.ofString ".") = [46] := by decide +kernel
        have e1 := cut_first (z := ⟨(numL (u.natAbs / 10 ^ d) ++ fr u.natAbs d).toArray⟩) dpos ePl (fr_len d u.natAbs)
        have e2 := cut_last (z := ⟨(numL (u.natAbs / 10 ^ d) ++ fr u.natAbs d).toArray⟩) dpos ePl (fr_len d u.natAbs)
        have lz2 : (⟨(numL (u.natAbs / 10 ^ d) ++ fr u.natAbs d).toArray⟩ : Str).length ≤ sizeLine := by
          rw [len_tl, tl_mk, List.length_append, fr_len]
          exact small_line (by omega)
        refine ⟨_, rfl, _, rfl, _, rfl, _, rfl, _, rfl, _, rfl, lz2, ?_⟩
        rw [e1]
        have l3 : (⟨(sg u).toArray⟩ : Str).length + (⟨(numL (u.natAbs / 10 ^ d)).toArray⟩ : Str).length ≤ 101 := by
          rw [len_tl, len_tl, tl_mk, tl_mk]
          omega
        refine ⟨_, _, rfl, rfl, small_line (by omega), _, _, rfl, rfl, ?_, _, rfl, _, rfl, _, rfl, _, rfl, _, rfl, lz2, ?_⟩
        · rw [len_tl, tl_append, List.length_append, ← len_tl, ← len_tl]
          exact small_line (by have : (Str.ofString ".").length = 1 := by decide +kernel
                               omega)
        rw [e2]
        refine ⟨_, _, rfl, rfl, ?_, congrArg V.str (ext_tl ?_), rfl⟩
        · rw [len_tl, len_tl, tl_append, tl_append, e46, List.length_append, List.length_append, List.length_singleton]
          show (sg u).length + (numL (u.natAbs / 10 ^ d)).length + 1 + (fr u.natAbs d).length ≤ sizeLine
          rw [fr_len]
          exact small_line (by omega)
        · rw [tl_append, tl_append, tl_append, tl_T, T_head ed, e46]
          show sg u ++ numL (u.natAbs / 10 ^ d) ++ [46] ++ fr u.natAbs d = _
          simp only [List.append_assoc]
    rintro v H' ⟨rfl, rfl⟩
    exact k _ sm
theorem cal_text {f : Addr} {fd : FuncData} (F : Fun K "_law_text" "_law_text" s_l_text f fd) (hm : mg "_law_text" = some (.ref f)) (T : Blt mg) : Cal P w K mg base "_law_text" 1 P_l_text spText :=
  ⟨f, fd, ok_text F T, F.binds fun _ _ _ _ _ _ us hl => match us, hl with | [_, _], _ => rfl, F.kp, hm⟩
/-- _law_printed(o, n, text of u and d) -/
def spPrinted : Sp := fun vs H Q _ => ∃ (o n u : Int) (d : Nat), vs = [.int o, .int n, .str (Mn.T u d)] ∧ d ≤ 8 ∧ u.natAbs < 10 ^ 19 ∧ 0 < n ∧ n < 10 ^ 10 ∧
  Q (.bl (decide (-n ≤ 2 * (o * ((10 ^ d : Nat) : Int) - u * n) ∧ 2 * (o * ((10 ^ d : Nat) : Int) - u * n) ≤ n))) H
theorem tU_small {u : Int} {d : Nat} (hd : d ≤ 8) (hu : u.natAbs < 10 ^ 20) : (tU u d).length ≤ 30 ∧ (tP u d).length ≤ 30 := by
  have h : u.natAbs / 10 ^ d < 10 ^ 20 := Nat.lt_of_le_of_lt (Nat.div_le_self _ _) hu
  have h1 := tU_len (u := u) (d := d) (k := 20) (by decide) h
  have h2 := tP_len (u := u) (d := d) (k := 20) (by decide) h
  omega
theorem ok_printed {f : Addr} {fd : FuncData} (F : Fun K "_law_printed" "_law_printed" s_l_printed f fd) (T : Blt mg) (C_l_ten : Cal P w K mg base "_law_ten" 1 P_l_ten spTen) : FnOk P w K mg base CX0 2 f fd P_l_printed spPrinted := by
  refine F.ok sc_l_printed (fun vs H Q E h => ?_) (fun cdv A outer s H vs Q E hr h => ?_)
  · obtain ⟨o, n, u, d, rfl, _⟩ := h
    rfl
  · obtain ⟨o, n, u, d, rfl, hd, hu, n0, n1, k⟩ := h
    have sm := tU_small hd (Nat.lt_trans hu (by decide : 10 ^ 19 < 10 ^ 20))
    have l1 : (Mn.T u d).length ≤ sizeLine := by rw [len_tl, tl_T]; exact small_line (by omega)
    refine ⟨_, (pss_set1 (i := 3) sc_l_printed.nd rfl (Or.inl rfl) (pe_j1 (pe_if1 (pt_cmp1 op_in_sign (pv 2) rfl) (pe_op op_sub (pe_op op_sub (pe_callB call_len_str (by rfl) T.len (by decide +kernel) (pa_cons (pv 2) pa_nil)) (pe_bm PySem.F.plainAttrs_str PySem.F.slot_str_index PySem.F.type_str_index mt_sindex (pv 2) (pa_cons pe_str pa_nil))) pe_int) pe_int))
  (psst_cons
  (pst_set (i := 4) sc_l_printed.nd rfl (Or.inl rfl) (pet_callTy call_int_str (by rfl) T.int (by decide +kernel) (pat_cons (CwR.pet_replC (pv 2)) pat_nil)))
  (PSsT.of (pss_one
  (ps_ret (pe_chain op_le op_le (pe_op op_mul (pe_un un_neg pe_int) (pv 1)) (pe_op op_mul pe_int (pe_op op_sub (pe_op op_mul (pv 0) (pe_own C_l_ten (hr.mono (by decide)) (pa_cons (pv 3) pa_nil))) (pe_op op_mul (pv 4) (pv 1)))) (pv 1))))))), ?_⟩
    refine ⟨fun v H' => v = V.int (d : Int) ∧ H' = H, ?_, ?_⟩
    · refine ⟨_, rfl, 46, Mn.T u d, ?_, rfl, _, rfl, ite2 (fun c => ?_) (fun c => ?_)⟩
      · exact congrArg V.str (ext_tl (by decide +kernel))
      · have hd0 : d ≠ 0 := dot_mem.mp (of_decide_eq_true c)
        obtain ⟨r, hr⟩ := index_T (u := u) hd0
        refine ⟨_, rfl, _, rfl, l1, _, rfl, rfl, _, _, _, r, rfl, rfl, hr, _, _, rfl, rfl, _, _, rfl, rfl, ?_, rfl⟩
        · rw [T_len hd0]
          exact congrArg V.int (by omega)
      · have hd0 : d = 0 := Classical.byContradiction fun z => c (decide_eq_true (dot_mem.mpr z))
        exact ⟨by rw [hd0] <;> rfl, rfl⟩
    rintro v H' ⟨rfl, rfl⟩
    refine ⟨_, rfl, _, rfl, ?_, ?_⟩
    · rw [show ("" : Str).length = 0 by decide +kernel, len_tl, tl_T]
      omega
    rw [replace_T]
    refine ⟨_, _, rfl, int_T (by omega), by rw [len_tl, tl_mk]; omega, ?_⟩
    have p10 : ((10 ^ d : Nat) : Int) < 2 ^ 64 := by
      have h1 : (10 : Nat) ^ d ≤ 10 ^ 8 := Nat.pow_le_pow_right (by decide) hd
      omega
    have p0 : (0 : Int) ≤ ((10 ^ d : Nat) : Int) := Int.natCast_nonneg _
    refine ⟨_, rfl, _, rfl, _, _, rfl, rfl, .inl ⟨by decide, by decide⟩, _, rfl, _, rfl, d, rfl, by omega, _, _, rfl, rfl, .inr ⟨by omega, p10⟩, _, rfl, _, rfl, _, _, rfl, rfl, .inr ⟨by omega, by omega⟩, _, _, rfl, rfl, _, _, rfl, rfl, .inl ⟨by decide, by decide⟩, _, _, rfl, rfl, _, rfl, ?_⟩
    generalize eX : 2 * (o * ((10 ^ d : Nat) : Int) - u * n) = X at k
    refine ite2 (fun c => ?_) (fun c => ?_)
    · have c1 : -n ≤ X := by have := of_decide_eq_true c; omega
      refine ⟨_, rfl, _, _, rfl, rfl, ?_⟩
      rw [show decide (-n ≤ X ∧ X ≤ n) = decide (X ≤ n) from decide_eq_decide.mpr ⟨fun q => q.2, fun q => ⟨c1, q⟩⟩] at k
      subst eX
      exact k
    · rw [show decide (-n ≤ X ∧ X ≤ n) = false from decide_eq_false fun q => c (decide_eq_true (by omega))] at k
      exact k
theorem cal_printed {f : Addr} {fd : FuncData} (F : Fun K "_law_printed" "_law_printed" s_l_printed f fd) (hm : mg "_law_printed" = some (.ref f)) (T : Blt mg) (C_l_ten : Cal P w K mg base "_law_ten" 1 P_l_ten spTen) : Cal P w K mg base "_law_printed" 2 P_l_printed spPrinted :=
  ⟨f, fd, ok_printed F T C_l_ten, F.binds fun _ _ _ _ _ _ us hl => match us, hl with | [_, _, _], _ => rfl, F.kp, hm⟩
/-- _law_mean(d, o, n): some print near o / n -/
def spMean : Sp := fun vs H Q _ => ∃ (a : Addr) (o n : Int), vs = [.ref a, .int o, .int n] ∧ Dr H a ∧ -(10 ^ 10) < o ∧ o < 10 ^ 10 ∧ 0 < n ∧ n ≤ 10 ^ 6 ∧
  ∀ (u : Int) (d : Nat) (H' : Hp), d ≤ 3 → -(5 * n) ≤ u * n - o * ((10 ^ d : Nat) : Int) → u * n - o * ((10 ^ d : Nat) : Int) ≤ 5 * n → Dr H' a → Kp a H H' → Q (.str (Mn.T u d)) H'
theorem ok_mean {f : Addr} {fd : FuncData} (F : Fun K "_law_mean" "_law_mean" s_l_mean f fd) (T : Blt mg) (C_l_below : Cal P w K mg base "_law_below" 1 P_l_below spBelow) (C_l_pick : Cal P w K mg base "_law_pick" 2 P_l_pick (spPick K))
    (C_l_ten : Cal P w K mg base "_law_ten" 1 P_l_ten spTen) (C_l_text : Cal P w K mg base "_law_text" 1 P_l_text spText) : FnOk P w K mg base CX0 3 f fd P_l_mean spMean := by
  refine F.ok sc_l_mean (fun vs H Q E h => ?_) (fun cdv A outer s H vs Q E hr h => ?_)
  · obtain ⟨a, o, n, rfl, _⟩ := h
    rfl
  · obtain ⟨a, o, n, rfl, D, o0, o1, n0, n1, k⟩ := h
    refine ⟨_, (pss_cons
  (ps_set (i := 3) sc_l_mean.nd rfl (Or.inl rfl) (pe_own C_l_pick (hr.mono (by decide)) (pa_cons (pv 0) (pa_cons (pe_lst (pa_cons pe_int (pa_cons pe_int (pa_cons pe_int (pa_cons pe_int (pa_cons pe_int (pa_cons pe_int pa_nil))))))) pa_nil))))
  (pss_cons
  (ps_set (i := 4) sc_l_mean.nd rfl (Or.inl rfl) (pe_op op_fdivN (pe_op op_add (pe_op op_mul (pe_op op_mul pe_int (pv 1)) (pe_own C_l_ten (hr.mono (by decide)) (pa_cons (pv 3) pa_nil))) (pv 2)) (pe_op op_mul pe_int (pv 2))))
  (pss_one
  (ps_ret (pe_own C_l_text (hr.mono (by decide)) (pa_cons (pe_op op_add (pv 4) (pe_own C_l_pick (hr.mono (by decide)) (pa_cons (pv 0) (pa_cons (pe_lst (pa_cons pe_int (pa_cons pe_int (pa_cons pe_int (pa_cons pe_int (pa_cons pe_int (pa_cons (pe_un un_neg pe_int) (pa_cons (pe_op op_sub (pe_own C_l_below (hr.mono (by decide)) (pa_cons (pv 0) (pa_cons pe_int pa_nil))) pe_int) pa_nil)))))))) pa_nil)))) (pa_cons (pv 3) pa_nil))))))), ?_⟩
    -- digits
    refine ⟨_, rfl, by show 6 ≤ sizeLine; decide, fun p hp => ?_⟩
    refine ⟨_, p, _, rfl, D.new hp, upd_same, (D.ne hp).symm, by decide, by decide, fun x H1 hx D1 k1 => ?_⟩
    obtain ⟨d, hd, rfl⟩ : ∃ d : Nat, d ≤ 3 ∧ x = V.int (d : Int) := by
      simp only [List.mem_cons, List.not_mem_nil, or_false] at hx
      rcases hx with rfl | rfl | rfl | rfl | rfl | rfl
      · exact ⟨0, by decide, rfl⟩
      · exact ⟨1, by decide, rfl⟩
      · exact ⟨1, by decide, rfl⟩
      · exact ⟨2, by decide, rfl⟩
      · exact ⟨2, by decide, rfl⟩
      · exact ⟨3, by decide, rfl⟩
    have p10 : ((10 ^ d : Nat) : Int) ≤ 1000 := by
      have h1 : (10 : Nat) ^ d ≤ 10 ^ 3 := Nat.pow_le_pow_right (by decide) hd
      omega
    have p0 : (0 : Int) < ((10 ^ d : Nat) : Int) := by
      have : 0 < (10 : Nat) ^ d := Nat.pow_pos (by decide)
      omega
    -- units
    refine ⟨_, rfl, _, _, rfl, rfl, .inl ⟨by decide, by decide⟩, _, rfl, d, rfl, by omega, _, _, rfl, rfl, .inr ⟨by omega, by omega⟩, _, rfl, _, _, rfl, rfl, _, rfl, _, _, rfl, rfl, .inl ⟨by decide, by decide⟩, _, _, rfl, rfl, ⟨by omega, by omega⟩, ?_⟩

    refine ⟨_, rfl, _, rfl, _, rfl, _, rfl, a, 9, rfl, D1, by decide, by decide, fun r H2 r0 r9 D2 k2 => ⟨_, _, rfl, rfl, by show 7 ≤ sizeLine; decide, fun p2 hp2 => ?_⟩⟩
    refine ⟨a, p2, _, rfl, D2.new hp2, upd_same, (D2.ne hp2).symm, by simp, by simp, fun x H3 hx3 D3 k3 => ?_⟩
    obtain ⟨y, y0, y4, rfl⟩ : ∃ y : Int, -4 ≤ y ∧ y ≤ 4 ∧ x = V.int y := by
      simp only [List.mem_cons, List.not_mem_nil, or_false] at hx3
      rcases hx3 with rfl | rfl | rfl | rfl | rfl | rfl | rfl
      · exact ⟨0, by decide, by decide, rfl⟩
      · exact ⟨0, by decide, by decide, rfl⟩
      · exact ⟨0, by decide, by decide, rfl⟩
      · exact ⟨0, by decide, by decide, rfl⟩
      · exact ⟨1, by decide, by decide, rfl⟩
      · exact ⟨-1, by decide, by decide, rfl⟩
      · exact ⟨r - 4, by omega, by omega, rfl⟩
    have kk : Kp a H H3 := fun b o2 nb e => k3 b o2 nb ((Kp.new hp2) b o2 nb (k2 b o2 nb (k1 b o2 nb ((Kp.new hp) b o2 nb e))))
    have b1 : 2 * o * ((10 ^ d : Nat) : Int) ≤ 2 * 10 ^ 10 * 1000 := by
      have e1 : 2 * o ≤ 2 * 10 ^ 10 := by omega
      have e2 := Int.mul_le_mul_of_nonneg_right e1 (Int.le_of_lt p0)
      omega
    have b2 : -(2 * 10 ^ 10 * 1000) ≤ 2 * o * ((10 ^ d : Nat) : Int) := by
      have e1 : -(2 * 10 ^ 10) ≤ 2 * o := by omega
      have e2 := Int.mul_le_mul_of_nonneg_right e1 (Int.le_of_lt p0)
      omega
    have eA : 2 * o * ((10 ^ d : Nat) : Int) = 2 * (o * ((10 ^ d : Nat) : Int)) := Int.mul_assoc _ _ _
    generalize hA : o * ((10 ^ d : Nat) : Int) = A at eA k
    have ef : (2 * o * ((10 ^ d : Nat) : Int) + n).fdiv (2 * n) = (2 * A + n) / (2 * n) := by rw [eA, Int.fdiv_eq_ediv_of_nonneg _ (by omega)]
    have q1 := Int.mul_ediv_add_emod (2 * A + n) (2 * n)
    have q2 := Int.emod_nonneg (2 * A + n) (show 2 * n ≠ 0 by omega)
    have q3 := Int.emod_lt_of_pos (2 * A + n) (show 0 < 2 * n by omega)
    have q4 : ((2 * A + n) / (2 * n)).natAbs ≤ (2 * A + n).natAbs := Int.natAbs_ediv_le_natAbs _ _
    refine ⟨_, _, rfl, rfl, _, rfl, ?_⟩
    show spText ([V.int ((2 * o * ((10 ^ d : Nat) : Int) + n).fdiv (2 * n) + y), V.int (d : Int)] ++ []) H3 Q E0
    rw [ef]
    generalize (2 * A + n) / (2 * n) = q at q1 q4
    refine ⟨q + y, d, rfl, by omega, by omega, fun H4 s4 => ?_⟩
    have y1 : -4 * n ≤ y * n := Int.mul_le_mul_of_nonneg_right y0 (Int.le_of_lt n0)
    have y2 : y * n ≤ 4 * n := Int.mul_le_mul_of_nonneg_right y4 (Int.le_of_lt n0)
    have eq1 : 2 * n * q = 2 * (q * n) := by rw [Int.mul_assoc, Int.mul_comm n q]
    have eq2 : (q + y) * n = q * n + y * n := Int.add_mul _ _ _
    refine k (q + y) d H4 hd ?_ ?_ ?_ (fun b o2 nb e => s4 _ _ (kk b o2 nb e))
    · rw [eq2]; omega
    · rw [eq2]; omega
    · obtain ⟨c1, c2, c3, c4, c5⟩ := D3
      exact ⟨c1, c2, c3, s4 _ _ c4, c5⟩
theorem cal_mean {f : Addr} {fd : FuncData} (F : Fun K "_law_mean" "_law_mean" s_l_mean f fd) (hm : mg "_law_mean" = some (.ref f)) (T : Blt mg) (C_l_below : Cal P w K mg base "_law_below" 1 P_l_below spBelow) (C_l_pick : Cal P w K mg base "_law_pick" 2 P_l_pick (spPick K))
    (C_l_ten : Cal P w K mg base "_law_ten" 1 P_l_ten spTen) (C_l_text : Cal P w K mg base "_law_text" 1 P_l_text spText) : Cal P w K mg base "_law_mean" 3 P_l_mean spMean :=
  ⟨f, fd, ok_mean F T C_l_below C_l_pick C_l_ten C_l_text, F.binds fun _ _ _ _ _ _ us hl => match us, hl with | [_, _, _], _ => rfl, F.kp, hm⟩
end
end Mn
set_option Elab.async false
set_option linter.all false
set_option maxRecDepth 100000
set_option maxHeartbeats 4000000
/-! The program's prints: what is one, its bounds. -/
namespace Mn
open PySem L2 TL
/-- the program's constants -/
structure Con (K : PySem.W.Frag) (mg : Str → Option Value) : Prop where
  FIGURES : ∃ t, mg "FIGURES" = some (.str "0123456789" t)
  MOST_FIGURES : ∃ t, mg "MOST_FIGURES" = some (.int 4 t)
  UNITS : mg "UNITS" = some (.ref (He.ga K "UNITS"))
  UNITS_at : ∀ H, SqT K H (He.ga K "UNITS") [.int 1, .int 10, .int 100, .int 1000, .int 10000]
  LEAST_LOW : ∃ t, mg "LEAST_LOW" = some (.int (-50) t)
  MOST_HIGH : ∃ t, mg "MOST_HIGH" = some (.int 50 t)
  MOST_WIDTH : ∃ t, mg "MOST_WIDTH" = some (.int 11 t)
  MOST_SIZE : ∃ t, mg "MOST_SIZE" = some (.int 1000000 t)
  KINDS : mg "KINDS" = some (.ref (He.ga K "KINDS"))
  KINDS_at : ∀ H, SqT K H (He.ga K "KINDS") [.str "sample", .str "whole"]
/-! ### the mirror -/
def isFig (c : Nat) : Bool := decide (c ∈ tl ("0123456789" : Str))
def areFig (l : List Nat) : Bool := decide (1 ≤ l.length ∧ l.length ≤ 4) && l.all isFig
def isWhole (l : List Nat) : Bool := areFig l && (decide (l.length = 1) || decide (l.head? ≠ some 48))
def hasWorth (l : List Nat) : Bool := l.any fun c => !decide (c ∈ tl ("0." : Str))
def unsig (l : List Nat) : List Nat := match l with
  | 45 :: r => r
  | l => l
/-- is_print, by its unsigned part's three parts -/
def isPr3 (z un : List Nat) (a p b : List Nat) : Bool := if !isWhole a || (!p.isEmpty && !areFig b) then false else decide (un = z) || hasWorth un
def isPr (z : Str) : Bool := isPr3 (tl z) (unsig (tl z)) (tl (Txt.partition ⟨(unsig (tl z)).toArray⟩ ".").1) (tl (Txt.partition ⟨(unsig (tl z)).toArray⟩ ".").2.1) (tl (Txt.partition ⟨(unsig (tl z)).toArray⟩ ".").2.2)
section
variable {P : Program} {w : World} {K : PySem.W.Frag} {mg : Str → Option Value} {base : Heap}
/-- a def from a text to a truth value -/
def spTB (g : List Nat → Bool) : Sp := fun vs H Q _ => ∃ z : Str, vs = [.str z] ∧ z.length ≤ 1000 ∧ ∀ H', Same H H' → Q (.bl (g (tl z))) H'
theorem all_take {p : Nat → Bool} {l : List Nat} : (l.map p).all id = l.all p := by
  rw [List.all_map] <;> rfl
theorem any_take {p : Nat → Bool} {l : List Nat} : (l.map p).any id = l.any p := by
  rw [List.any_map] <;> rfl
/-- [p(letter) for letter in z] -/
theorem lc_signs {z : Str} {p : Nat → Bool} {g : TG} {tt : TT} {te : TE} {vs : List Nat} {σ : St} {H1 : Hp} {D : Addr} {Qd : Hp → Prop} (hz : z.length ≤ 1000) (hD : H1 D = none)
    (hs : ∀ (c : Nat) H, g (.str ⟨#[c]⟩) (wipe σ vs) H fun σ2 H2 => wipe σ2 vs = wipe σ vs ∧ tt σ2 H2 fun b H3 => b = true ∧ H3 = H ∧ te σ2 H3 fun y H4 => y = .bl (p c) ∧ H4 = H)
    (mono : ∀ (c : Nat) H (R R' : St → Hp → Prop), (∀ σ H, R σ H → R' σ H) → g (.str ⟨#[c]⟩) (wipe σ vs) H R → g (.str ⟨#[c]⟩) (wipe σ vs) H R')
    (monT : ∀ σ H (R R' : Bool → Hp → Prop), (∀ b H, R b H → R' b H) → tt σ H R → tt σ H R') (monE : ∀ σ H (R R' : VK), (∀ b H, R b H → R' b H) → te σ H R → te σ H R')
    (hd : ∀ H, Same H1 H → H D = some (.lst (((tl z).map p).map V.bl)) → Qd H) :
    ∃ W : Nat → Nat → Hp → Prop, (∃ m, W 0 m (upd H1 D (.lst []))) ∧ ∀ i m H, W i m H →
      ((Its z).stop i H ∧ Qd H) ∨ ((Its z).go i H ∧ ∃ Nx : Hp → Prop, (∀ H', Nx H' → ∃ m', m' < m ∧ W (i + 1) m' H') ∧ ∀ x H', (Its z).yld i H x H' → g x (wipe σ vs) H' fun σ2 H2 => wipe σ2 vs = wipe σ vs ∧ tt σ2 H2 fun b H3 =>
        if b = true then te σ2 H3 fun y H4 => ∃ acc, H4 D = some (.lst acc) ∧ acc.length < sizeLine ∧ Nx (upd H4 D (.lst (acc ++ [y]))) else Nx H3) := by
  refine lc_it walk_str (fun i H => Same H1 H ∧ H D = some (.lst ((((tl z).take i).map p).map V.bl))) ⟨Same.new hD, upd_same⟩ (fun _ _ _ _ => trivial) ?_ ?_
  · rintro i x H H' hi ⟨sm, e⟩ ⟨rfl, c, hc, rfl⟩
    refine mono c H' _ _ (fun σ2 H2 q => ⟨q.1, ?_⟩) (hs c H')
    refine monT σ2 H2 _ _ (fun b H3 q3 => ?_) q.2
    obtain ⟨rfl, rfl, q4⟩ := q3
    rw [if_pos rfl]
    refine monE σ2 H3 _ _ (fun y H4 q5 => ?_) q4
    obtain ⟨rfl, rfl⟩ := q5
    have hc2 : (tl z)[i]? = some c := by rw [Array.getElem?_toList]; exact hc
    refine ⟨_, e, ?_, fun b o eb => ?_, ?_⟩
    · rw [List.length_map, List.length_map, List.length_take, ← len_tl]
      exact Nat.lt_of_le_of_lt (Nat.le_trans (Nat.min_le_right _ _) hz) (by decide)
    · rw [upd_ne (ne_of_none eb hD)]
      exact sm b o eb
    · rw [upd_same, List.take_succ, hc2]
      simp
  · rintro H ⟨sm, e⟩
    refine hd H sm ?_
    rw [e, List.take_of_length_le]
    rw [← len_tl] <;> exact Nat.le_refl _
theorem ok_are {f : Addr} {fd : FuncData} (F : Fun K "_are_figures" "_are_figures" s__are_figures f fd) (T : Blt mg) (G : Con K mg) : FnOk P w K mg base CX0 1 f fd P__are_figures (spTB areFig) := by
  refine F.ok sc__are_figures (fun vs H Q E h => ?_) (fun cdv A outer s H vs Q E hr h => ?_)
  · obtain ⟨z, rfl, _⟩ := h
    rfl
  · obtain ⟨z, rfl, hz, k⟩ := h
    have hl := len_tl z
    refine ⟨_, (pss_one
  (ps_ret (pe_and (pe_chain op_le op_le pe_int (pe_callB call_len_str (by rfl) T.len (by decide +kernel) (pa_cons (pv 0) pa_nil)) (pe_gi G.MOST_FIGURES)) (pe_one (pe_callB (cr_all rfl) (by rfl) T.all (by decide +kernel) (pa_cons (pe_lc (own := [("letter", 1)]) (g := gName 1) rfl sc__are_figures.nd (pi_str (pv 0)) (blkOk_by (own := [("letter", 1)]) (N := N__are_figures) (sc := defScope s__are_figures) (by decide +kernel)) (fun _ _ _ _ _ => (pg_name (i := 1) sc__are_figures.nd rfl (Or.inl rfl))) (fun _ _ _ _ _ => pts_nil) (fun _ _ _ _ _ => (pe_cmpR op_in_sign (pv 1) (pe_gs G.FIGURES) rfl))) pa_nil)))))), ?_⟩
    refine ⟨_, rfl, _, rfl, small_line hz, _, _, rfl, rfl, _, rfl, ite2 (fun c => ?_) (fun c => ?_)⟩
    · have c1 := of_decide_eq_true c
      refine ⟨_, _, rfl, rfl, _, rfl, ite2 (fun c2 => ?_) (fun c2 => ?_)⟩
      · have c3 := of_decide_eq_true c2
        refine ⟨_, rfl, _, rfl, fun D hD => ?_⟩
        refine lc_signs (p := isFig) hz hD (fun c H1 => ⟨rfl, rfl, rfl, _, rfl, c, _, rfl, rfl, rfl, rfl⟩) (fun _ _ _ _ i q => i _ _ q) (fun _ _ _ _ i q => i _ _ q) ?_ fun H1 sm e => ?_
        · rintro σ H R R' i ⟨v, e, c, z, e1, e2, q⟩
          exact ⟨v, e, c, z, e1, e2, i _ _ q⟩
        · refine ⟨_, _, rfl, SqL.of e, ?_⟩
          have q := k H1 sm
          have e1 : areFig (tl z) = ((tl z).map isFig).all id := by
            unfold areFig
            rw [decide_eq_true (by omega), Bool.true_and, all_take]
          rw [e1] at q
          exact q
      · have q := k H (Same.refl H)
        have c3 : ¬ ((z.length : Int) ≤ 4) := fun z => c2 (decide_eq_true z)
        rw [show areFig (tl z) = false by unfold areFig; rw [decide_eq_false (by omega)] <;> rfl] at q
        exact q
    · have q := k H (Same.refl H)
      have c3 : ¬ ((1 : Int) ≤ (z.length : Int)) := fun z => c (decide_eq_true z)
      rw [show areFig (tl z) = false by unfold areFig; rw [decide_eq_false (by omega)] <;> rfl] at q
      exact ⟨_, rfl, iteF q⟩
theorem cal_are {f : Addr} {fd : FuncData} (F : Fun K "_are_figures" "_are_figures" s__are_figures f fd) (hm : mg "_are_figures" = some (.ref f)) (T : Blt mg) (G : Con K mg) : Cal P w K mg base "_are_figures" 1 P__are_figures (spTB areFig) :=
  ⟨f, fd, ok_are F T G, F.binds fun _ _ _ _ _ _ us hl => match us, hl with | [_], _ => rfl, F.kp, hm⟩
theorem ok_worth {f : Addr} {fd : FuncData} (F : Fun K "_has_worth" "_has_worth" s__has_worth f fd) (T : Blt mg) : FnOk P w K mg base CX0 1 f fd P__has_worth (spTB hasWorth) := by
  refine F.ok sc__has_worth (fun vs H Q E h => ?_) (fun cdv A outer s H vs Q E hr h => ?_)
  · obtain ⟨z, rfl, _⟩ := h
    rfl
  · obtain ⟨z, rfl, hz, k⟩ := h
    refine ⟨_, (pss_one
  (ps_ret (pe_callB (cr_any rfl) (by rfl) T.any (by decide +kernel) (pa_cons (pe_lc (own := [("letter", 1)]) (g := gName 1) rfl sc__has_worth.nd (pi_str (pv 0)) (blkOk_by (own := [("letter", 1)]) (N := N__has_worth) (sc := defScope s__has_worth) (by decide +kernel)) (fun _ _ _ _ _ => (pg_name (i := 1) sc__has_worth.nd rfl (Or.inl rfl))) (fun _ _ _ _ _ => pts_nil) (fun _ _ _ _ _ => (pe_cmpR op_notIn_sign (pv 1) pe_str rfl))) pa_nil)))), ?_⟩
    refine ⟨_, rfl, _, rfl, fun D hD => ?_⟩
    refine lc_signs (p := fun c => !decide (c ∈ tl ("0." : Str))) hz hD (fun c H1 => ⟨rfl, rfl, rfl, _, rfl, c, _, rfl, rfl, rfl, rfl⟩) (fun _ _ _ _ i q => i _ _ q) (fun _ _ _ _ i q => i _ _ q) ?_ fun H1 sm e => ?_
    · rintro σ H R R' i ⟨v, e, c, z, e1, e2, q⟩
      exact ⟨v, e, c, z, e1, e2, i _ _ q⟩
    · refine ⟨_, _, rfl, SqL.of e, ?_⟩
      have q := k H1 sm
      have e1 : hasWorth (tl z) = ((tl z).map fun c => !decide (c ∈ tl ("0." : Str))).any id := by
        unfold hasWorth
        rw [any_take]
      rw [e1] at q
      exact q
theorem cal_worth {f : Addr} {fd : FuncData} (F : Fun K "_has_worth" "_has_worth" s__has_worth f fd) (hm : mg "_has_worth" = some (.ref f)) (T : Blt mg) : Cal P w K mg base "_has_worth" 1 P__has_worth (spTB hasWorth) :=
  ⟨f, fd, ok_worth F T, F.binds fun _ _ _ _ _ _ us hl => match us, hl with | [_], _ => rfl, F.kp, hm⟩
theorem ok_whole {f : Addr} {fd : FuncData} (F : Fun K "_is_whole" "_is_whole" s__is_whole f fd) (T : Blt mg) (C__are_figures : Cal P w K mg base "_are_figures" 1 P__are_figures (spTB areFig)) : FnOk P w K mg base CX0 2 f fd P__is_whole (spTB isWhole) := by
  refine F.ok sc__is_whole (fun vs H Q E h => ?_) (fun cdv A outer s H vs Q E hr h => ?_)
  · obtain ⟨z, rfl, _⟩ := h
    rfl
  · obtain ⟨z, rfl, hz, k⟩ := h
    have hl := len_tl z
    refine ⟨_, (pss_one
  (ps_ret (pe_and (pe_own C__are_figures (hr.mono (by decide)) (pa_cons (pv 0) pa_nil)) (pe_one (pe_or (pe_cmpR op_eq (pe_callB call_len_str (by rfl) T.len (by decide +kernel) (pa_cons (pv 0) pa_nil)) pe_int (nomark _)) (pe_one (pe_cmpR op_ne (pe_ix ix_str (pv 0) pe_int (fun _ _ => rfl)) pe_str (nomark _)))))))), ?_⟩
    refine ⟨_, rfl, z, rfl, hz, fun H1 s1 => ⟨_, rfl, ite2 (fun c => ?_) (fun c => ?_)⟩⟩
    · have k := k H1 s1
      unfold isWhole at k
      rw [c, Bool.true_and] at k
      refine ⟨_, rfl, _, rfl, small_line hz, rfl, _, rfl, ite2 (fun c2 => ?_) (fun c2 => ?_)⟩
      · have c3 : (tl z).length = 1 := by
          have q := of_decide_eq_true c2
          have q2 : (z.length : Int) = 1 := by injection q
          omega
        rw [decide_eq_true c3, Bool.true_or] at k
        exact k
      · have c3 : ¬ (tl z).length = 1 := fun q => c2 (decide_eq_true (by rw [hl, q] <;> rfl))
        rw [decide_eq_false c3, Bool.false_or] at k
        cases e : tl z with
        | nil =>
          rw [e] at c
          cases c
        | cons a r =>
          rw [e] at k
          refine ⟨_, rfl, _, _, a, rfl, rfl, small_line hz, ?_, rfl, ?_⟩
          · show atI (tl z) 0 = some a
            rw [e]
            exact atI_nat (j := 0) rfl
          have e2 : (!decide (V.str ⟨#[a]⟩ = V.str "0")) = decide ((a :: r).head? ≠ some 48) := by
            have h0 : ("0" : Str) = ⟨#[48]⟩ := ext_tl (by decide +kernel)
            by_cases q : a = 48
            · subst q
              rw [h0] <;> rfl
            · rw [decide_eq_true (show (a :: r).head? ≠ some 48 by simpa using q), decide_eq_false (fun z => q ?_)]
              · rfl
              · rw [h0] at z
                injection z with z
                have z2 := congrArg tl z
                simpa [tl] using z2
          rw [← e2] at k
          exact k
    · have k := k H1 s1
      unfold isWhole at k
      have c2 : areFig (tl z) = false := by
        cases q : areFig (tl z) with
        | false => rfl
        | true => exact absurd q c
      rw [c2, Bool.false_and] at k
      exact k
theorem cal_whole {f : Addr} {fd : FuncData} (F : Fun K "_is_whole" "_is_whole" s__is_whole f fd) (hm : mg "_is_whole" = some (.ref f)) (T : Blt mg) (C__are_figures : Cal P w K mg base "_are_figures" 1 P__are_figures (spTB areFig)) : Cal P w K mg base "_is_whole" 2 P__is_whole (spTB isWhole) :=
  ⟨f, fd, ok_whole F T C__are_figures, F.binds fun _ _ _ _ _ _ us hl => match us, hl with | [_], _ => rfl, F.kp, hm⟩
/-- is_print(v), any plain value -/
def spIsPrint (K : PySem.W.Frag) : Sp := fun vs H Q _ => ∃ v : V, vs = [v] ∧ ((∃ z : Str, v = .str z ∧ z.length ≤ 900 ∧ ∀ H', Same H H' → Q (.bl (isPr z)) H') ∨ ∃ t, TyX K H v (.type t) ∧ kitB t "str" = some false ∧ Q (.bl false) H)
theorem unsig_eq (z : Str) : Txt.removeprefix z "-" = ⟨(unsig (tl z)).toArray⟩ := by
  have e45 : tl ("-" : Str) = [45] := by decide +kernel
  have l1 : ("-" : Str).length = 1 := by decide +kernel
  unfold Txt.removeprefix
  rw [StrLaws.subAt_eq, List.drop_zero, l1, show ("-" : Str).cps.toList = [45] from e45]
  cases e : tl z with
  | nil =>
    rw [show z.cps.toList = [] from e]
    refine ext_tl ?_
    show tl (Txt.affix z none) = []
    exact e
  | cons c r =>
    rw [show z.cps.toList = c :: r from e]
    have hl := len_tl z
    rw [e, List.length_cons] at hl
    by_cases q : c = 45
    · subst q
      refine ext_tl ?_
      show tl (Txt.affix z (some (1, z.length))) = r
      show tl (if (z.length - 1 == z.length) = true then z else PySem.Builtin.Str.strSub z 1 z.length) = r
      rw [if_neg (by simp only [beq_iff_eq]; omega), tl_strSub, e, List.drop_one, List.tail_cons]
      exact List.take_of_length_le (by omega)
    · have e2 : ((c :: r).take 1 == [45]) = false := by simp [q]
      rw [e2]
      refine ext_tl ?_
      show tl z = tl ⟨(unsig (c :: r)).toArray⟩
      rw [e, tl_mk]
      unfold unsig
      split
      · rename_i h
        injection h with h1
        exact absurd h1 q
      · rfl
theorem unsig_len (l : List Nat) : (unsig l).length ≤ l.length := by
  unfold unsig
  split
  · simp
  · exact Nat.le_refl _
theorem part_len (x : Str) : (Txt.partition x ".").1.length ≤ x.length ∧ (Txt.partition x ".").2.1.length ≤ 1 ∧ (Txt.partition x ".").2.2.length ≤ x.length := by
  have hy : tl ("." : Str) ≠ [] := by decide +kernel
  have hl := len_tl x
  rcases PyProof.Rows.partition_whole x "." with ⟨e, _⟩ | ⟨i, e, hi, _⟩
  · rw [e]
    exact ⟨Nat.le_refl _, Nat.zero_le _, Nat.zero_le _⟩
  · rw [e]
    refine ⟨?_, (show ("." : Str).length ≤ 1 by decide +kernel), ?_⟩
    · show (PySem.Builtin.Str.strSub x 0 i).length ≤ _
      rw [len_tl, tl_strSub, List.length_take, List.length_drop]
      omega
    · show (PySem.Builtin.Str.strSub x (i + ("." : Str).length) x.length).length ≤ _
      rw [len_tl, tl_strSub, List.length_take, List.length_drop]
      omega
theorem ok_isprint {f : Addr} {fd : FuncData} (F : Fun K "is_print" "is_print" s_is_print f fd) (T : Blt mg) (C__is_whole : Cal P w K mg base "_is_whole" 2 P__is_whole (spTB isWhole)) (C__are_figures : Cal P w K mg base "_are_figures" 1 P__are_figures (spTB areFig))
    (C__has_worth : Cal P w K mg base "_has_worth" 1 P__has_worth (spTB hasWorth)) : FnOk P w K mg base CX0 3 f fd P_is_print (spIsPrint K) := by
  refine F.ok sc_is_print (fun vs H Q E h => ?_) (fun cdv A outer s H vs Q E hr h => ?_)
  · obtain ⟨v, rfl, _⟩ := h
    rfl
  · obtain ⟨v, rfl, h⟩ := h
    refine ⟨_, (pss_cons
  (ps_if (pt_not (pt_val (pe_callB call_isi (by rfl) T.isinstance (by decide +kernel) (pa_cons (pv 0) (pa_cons (pe_bltn (v := .ty "str") (u := .type "str") (by rfl) T.str (by decide +kernel) rfl) pa_nil))))) (pss_one
  (ps_ret pe_bl)) pss_nil)
  (pss_cons
  (ps_set (i := 1) sc_is_print.nd rfl (Or.inl rfl) (pe_bm PySem.F.plainAttrs_str PySem.F.slot_str_removeprefix PySem.F.type_str_removeprefix mt_removeprefix (pv 0) (pa_cons pe_str pa_nil)))
  (pss_cons
  (ps_asg (pe_bm PySem.F.plainAttrs_str PySem.F.slot_str_partition PySem.F.type_str_partition mt_partition (pv 1) (pa_cons pe_str pa_nil)) (pg_tup rfl (pgs_cons (pg_name (i := 2) sc_is_print.nd rfl (Or.inl rfl)) (pgs_cons (pg_name (i := 3) sc_is_print.nd rfl (Or.inl rfl)) (pgs_cons (pg_name (i := 4) sc_is_print.nd rfl (Or.inl rfl)) pgs_nil)))))
  (pss_cons
  (ps_if (PW.pt (pw_or (pt_not (pt_val (pe_own C__is_whole (hr.mono (by decide)) (pa_cons (pv 2) pa_nil)))) (pw_or1 (PW.pt (pw_and (pt_truth (pv 3) (by intro _; rfl)) (pw_and1 (pt_not (pt_val (pe_own C__are_figures (hr.mono (by decide)) (pa_cons (pv 4) pa_nil)))))))))) (pss_one
  (ps_ret pe_bl)) pss_nil)
  (pss_one
  (ps_ret (pe_or (pe_cmpR op_eq (pv 1) (pv 0) (nomark _)) (pe_one (pe_own C__has_worth (hr.mono (by decide)) (pa_cons (pv 1) pa_nil)))))))))), ?_⟩
    rcases h with ⟨z, rfl, hz, k⟩ | ⟨t, ty, kt, k⟩
    · refine ⟨_, rfl, _, _, _, _, true, rfl, .ty _, .base (.str z), kit_ty (by decide +kernel), _, rfl, iteF ?_⟩
      have hl := len_tl z
      have l0 := unsig_len (tl z)
      refine ⟨_, rfl, rfl, _, _, rfl, rfl, small_line (by omega), ?_⟩
      rw [unsig_eq]
      have lun : (⟨(unsig (tl z)).toArray⟩ : Str).length ≤ 900 := by rw [len_tl, tl_mk]; omega
      have lp := part_len ⟨(unsig (tl z)).toArray⟩
      unfold isPr at k
      refine ⟨_, rfl, rfl, _, _, rfl, rfl, by decide +kernel, small_line (by omega), fun p hp => ⟨p, _, rfl, SqT.of upd_same, rfl, ?_⟩⟩
      generalize Txt.partition ⟨(unsig (tl z)).toArray⟩ "." = pp at lp k
      obtain ⟨a, pt, b⟩ := pp
      dsimp only at lp k
      have s0 := Same.new (o := .tup [V.str a, V.str pt, V.str b]) hp
      generalize upd H p (.tup [V.str a, V.str pt, V.str b]) = H0 at s0
      -- the rest, once the test is false
      have rest : ∀ H1, Same H H1 → (¬ ((!isWhole (tl a) || (!(tl pt).isEmpty && !areFig (tl b))) = true)) → (tOrV (tOp rEq (tVar 1) (tVar 0)) (tCall (spTB hasWorth) [] E0 (tCons (tVar 1) tNil))) [some (.str z), some (.str ⟨(unsig (tl z)).toArray⟩), some (.str a), some (.str pt), some (.str b)] H1 Q := by
        intro H1 s1 c
        have c2 : (!isWhole (tl a) || (!(tl pt).isEmpty && !areFig (tl b))) = false := by
          cases q : (!isWhole (tl a) || (!(tl pt).isEmpty && !areFig (tl b))) with
          | false => rfl
          | true => exact absurd q c
        have k : ∀ H', Same H H' → Q (.bl (decide (unsig (tl z) = tl z) || hasWorth (unsig (tl z)))) H' := fun H' s' => by
          have q := k H' s'
          unfold isPr3 at q
          rw [c2, if_neg Bool.false_ne_true] at q
          exact q
        refine ⟨_, rfl, _, rfl, rfl, _, rfl, ite2 (fun c => ?_) (fun c => ?_)⟩
        · have e : unsig (tl z) = tl z := by
            have q := of_decide_eq_true c
            injection q with q
            exact congrArg tl q
          have q := k H1 s1
          rw [decide_eq_true e, Bool.true_or] at q
          exact q
        · have e : ¬ unsig (tl z) = tl z := fun q => c (decide_eq_true (congrArg V.str (ext_tl (by rw [tl_mk]; exact q))))
          refine ⟨_, rfl, _, rfl, by omega, fun H2 s2 => ?_⟩
          have q := k H2 (s1.trans s2)
          rw [decide_eq_false e, Bool.false_or] at q
          exact q
      have no : (!isWhole (tl a) || (!(tl pt).isEmpty && !areFig (tl b))) = true → ∀ H1, Same H H1 → Q (.bl false) H1 := fun c H1 s1 => by
        have q := k H1 s1
        unfold isPr3 at q
        rw [if_pos c] at q
        exact q
      refine ⟨_, _, rfl, _, _, rfl, _, _, rfl, rfl, ?_⟩
      refine ⟨_, rfl, _, rfl, Nat.le_trans lp.1 (by omega), fun H1 s1 => ⟨_, rfl, ite2 (fun c => ?_) (fun c => ?_)⟩⟩
      · refine iteT (no ?_ _ (s0.trans s1))
        rw [c, Bool.true_or]
      · have cw : isWhole (tl a) = true := by
          cases q : isWhole (tl a) with
          | true => rfl
          | false => exact absurd (by rw [q] <;> rfl) c
        have ep : ((pt.length : Int) != 0) = !(tl pt).isEmpty := by
          rw [len_tl]
          cases tl pt with
          | nil => rfl
          | cons x r => exact bne_iff_ne.mpr (by rw [List.length_cons]; omega)
        refine ⟨_, rfl, _, ⟨small_line (Nat.le_trans lp.2.1 (by decide)), rfl⟩, ?_⟩
        rw [ep]
        refine ite2 (fun c2 => ?_) (fun c2 => ?_)
        · refine ⟨_, rfl, _, rfl, Nat.le_trans lp.2.2 (by omega), fun H2 s2 => ⟨_, rfl, ?_⟩⟩
          refine ite2 (fun c3 => ?_) (fun c3 => ?_)
          · exact no (by rw [c2, c3, Bool.true_and, Bool.or_true]) _ (s0.trans (s1.trans s2))
          · refine rest _ (s0.trans (s1.trans s2)) ?_
            rw [cw]
            intro q
            rw [Bool.not_true, Bool.false_or, c2, Bool.true_and] at q
            exact c3 q
        · refine iteF (rest _ (s0.trans s1) ?_)
          rw [cw]
          intro q
          rw [Bool.not_true, Bool.false_or] at q
          exact c2 (Bool.and_eq_true_iff.mp q).1
    · exact ⟨_, rfl, _, _, _, _, false, rfl, .ty _, ty, kit_ty kt, _, rfl, iteT k⟩
theorem cal_isprint {f : Addr} {fd : FuncData} (F : Fun K "is_print" "is_print" s_is_print f fd) (hm : mg "is_print" = some (.ref f)) (T : Blt mg) (C__is_whole : Cal P w K mg base "_is_whole" 2 P__is_whole (spTB isWhole)) (C__are_figures : Cal P w K mg base "_are_figures" 1 P__are_figures (spTB areFig))
    (C__has_worth : Cal P w K mg base "_has_worth" 1 P__has_worth (spTB hasWorth)) : Cal P w K mg base "is_print" 3 P_is_print (spIsPrint K) :=
  ⟨f, fd, ok_isprint F T C__is_whole C__are_figures C__has_worth, F.binds fun _ _ _ _ _ _ us hl => match us, hl with | [_], _ => rfl, F.kp, hm⟩
end
end Mn
set_option Elab.async false
set_option linter.all false
set_option maxRecDepth 100000
set_option maxHeartbeats 4000000
/-! Integers among any values; the bounds of a print; a written print is one. -/
namespace Mn
open PySem L2 TL PySem.NumText
section
variable {P : Program} {w : World} {K : PySem.W.Frag} {mg : Str → Option Value} {base : Heap}
/-- what is_int tells -/
def isIntV : V → Bool
  | .int _ => true
  | _ => false
/-- a plain value whose type is known, and no subclass of int but bool -/
def PlainV (K : PySem.W.Frag) (H : Hp) (v : V) : Prop := (∃ i, v = .int i) ∨ (∃ b, v = .bl b) ∨ ∃ t, TyX K H v (.type t) ∧ kitB t "int" = some false
theorem PlainV.int {H : Hp} {i : Int} : PlainV K H (.int i) := .inl ⟨i, rfl⟩
theorem PlainV.non {H : Hp} : PlainV K H .non := .inr (.inr ⟨"NoneType", .base .non, by decide +kernel⟩)
theorem PlainV.str {H : Hp} {z : Str} : PlainV K H (.str z) := .inr (.inr ⟨"str", .base (.str z), by decide +kernel⟩)
def spIsInt (K : PySem.W.Frag) : Sp := fun vs H Q _ => ∃ v : V, vs = [v] ∧ PlainV K H v ∧ Q (.bl (isIntV v)) H
theorem ok_isint {f : Addr} {fd : FuncData} (F : Fun K "is_int" "is_int" s_is_int f fd) (T : Blt mg) : FnOk P w K mg base CX0 1 f fd P_is_int (spIsInt K) := by
  refine F.ok sc_is_int (fun vs H Q E h => ?_) (fun cdv A outer s H vs Q E hr h => ?_)
  · obtain ⟨v, rfl, _⟩ := h
    rfl
  · obtain ⟨v, rfl, h, k⟩ := h
    refine ⟨_, (pss_one
  (ps_ret (pe_and (pe_callB call_isi (by rfl) T.isinstance (by decide +kernel) (pa_cons (pv 0) (pa_cons (pe_bltn (v := .ty "int") (u := .type "int") (by rfl) T.int (by decide +kernel) rfl) pa_nil))) (pe_one (pe_not (pe_callB call_isi (by rfl) T.isinstance (by decide +kernel) (pa_cons (pv 0) (pa_cons (pe_bltn (v := .ty "bool") (u := .type "bool") (by rfl) T.bool (by decide +kernel) rfl) pa_nil)))))))), ?_⟩
    rcases h with ⟨i, rfl⟩ | ⟨b, rfl⟩ | ⟨t, ty, kt⟩
    · refine ⟨_, rfl, _, _, _, _, true, rfl, .ty _, .base (.int i), kit_ty (by decide +kernel), _, rfl, iteT ?_⟩
      exact ⟨_, rfl, _, _, _, _, false, rfl, .ty _, .base (.int i), kit_ty (by decide +kernel), _, rfl, k⟩
    · refine ⟨_, rfl, _, _, _, _, true, rfl, .ty _, .base (.bl b), kit_ty (by decide +kernel), _, rfl, iteT ?_⟩
      exact ⟨_, rfl, _, _, _, _, true, rfl, .ty _, .base (.bl b), kit_ty (by decide +kernel), _, rfl, k⟩
    · have e : isIntV v = false := by
        cases v with
        | int i =>
          exfalso
          cases ty with
          | base h => cases h; revert kt; decide +kernel
        | _ => rfl
      rw [e] at k
      exact ⟨_, rfl, _, _, _, _, false, rfl, .ty _, ty, kit_ty kt, _, rfl, iteF k⟩
theorem cal_isint {f : Addr} {fd : FuncData} (F : Fun K "is_int" "is_int" s_is_int f fd) (hm : mg "is_int" = some (.ref f)) (T : Blt mg) : Cal P w K mg base "is_int" 1 P_is_int (spIsInt K) :=
  ⟨f, fd, ok_isint F T, F.binds fun _ _ _ _ _ _ us hl => match us, hl with | [_], _ => rfl, F.kp, hm⟩
def withinV (v : V) (a b : Int) : Bool := match v with
  | .int i => decide (a ≤ i ∧ i ≤ b)
  | _ => false
def spWithin (K : PySem.W.Frag) : Sp := fun vs H Q _ => ∃ (v : V) (a b : Int), vs = [v, .int a, .int b] ∧ PlainV K H v ∧ Q (.bl (withinV v a b)) H
theorem ok_within {f : Addr} {fd : FuncData} (F : Fun K "is_int_within" "is_int_within" s_is_int_within f fd) (T : Blt mg) (C_is_int : Cal P w K mg base "is_int" 1 P_is_int (spIsInt K)) : FnOk P w K mg base CX0 2 f fd P_is_int_within (spWithin K) := by
  refine F.ok sc_is_int_within (fun vs H Q E h => ?_) (fun cdv A outer s H vs Q E hr h => ?_)
  · obtain ⟨v, a, b, rfl, _⟩ := h
    rfl
  · obtain ⟨v, a, b, rfl, h, k⟩ := h
    refine ⟨_, (pss_one
  (ps_ret (pe_and (pe_own C_is_int (hr.mono (by decide)) (pa_cons (pv 0) pa_nil)) (pe_one (pe_chain op_le op_le (pv 1) (pv 0) (pv 2)))))), ?_⟩
    refine ⟨_, rfl, v, rfl, h, _, rfl, ite2 (fun c => ?_) (fun c => ?_)⟩
    · cases v with
      | int i =>
        refine ⟨_, rfl, _, rfl, _, _, rfl, rfl, _, rfl, ite2 (fun c1 => ?_) (fun c1 => ?_)⟩
        · refine ⟨_, rfl, _, _, rfl, rfl, ?_⟩
          have c2 := of_decide_eq_true c1
          have e : withinV (.int i) a b = decide (i ≤ b) := decide_eq_decide.mpr ⟨fun q => q.2, fun q => ⟨c2, q⟩⟩
          rw [e] at k
          exact k
        · have c2 : ¬ a ≤ i := fun z => c1 (decide_eq_true z)
          have e : withinV (.int i) a b = false := decide_eq_false fun q => c2 q.1
          rw [e] at k
          exact k
      | _ => cases c
    · cases v with
      | int i => exact absurd rfl c
      | _ => exact k
theorem cal_within {f : Addr} {fd : FuncData} (F : Fun K "is_int_within" "is_int_within" s_is_int_within f fd) (hm : mg "is_int_within" = some (.ref f)) (T : Blt mg) (C_is_int : Cal P w K mg base "is_int" 1 P_is_int (spIsInt K)) : Cal P w K mg base "is_int_within" 2 P_is_int_within (spWithin K) :=
  ⟨f, fd, ok_within F T C_is_int, F.binds fun _ _ _ _ _ _ us hl => match us, hl with | [_, _, _], _ => rfl, F.kp, hm⟩

/-! ### a written print -/
theorem isFig_iff (c : Nat) : isFig c = true ↔ 48 ≤ c ∧ c ≤ 57 := by
  have e : tl ("0123456789" : Str) = [48, 49, 50, 51, 52, 53, 54, 55, 56, 57] := by decide +kernel
  unfold isFig
  rw [decide_eq_true_eq, e]
  simp only [List.mem_cons, List.not_mem_nil, or_false]
  omega
theorem all_fig {l : List Nat} (h : AllDigits l) : l.all isFig = true := List.all_eq_true.mpr fun c hc => (isFig_iff c).mpr (h c hc)
theorem are_num {n : Nat} (h : n < 10000) : areFig (numL n) = true := by
  unfold areFig
  rw [all_fig (numL_digits n), Bool.and_true]
  exact decide_eq_true ⟨List.length_pos_iff.mpr (numL_ne n), numL_len (by decide) (show n < 10 ^ 4 from h)⟩
theorem head_num : ∀ (k n : Nat), n < 10 ^ (k + 1) → n ≠ 0 → (numL n).head? ≠ some 48
  | 0, n, h, h0 => by
    rw [numL_lt (by omega)]
    intro q
    have q2 : 48 + n = 48 := by simpa using q
    omega
  | k + 1, n, h, h0 => by
    by_cases c : 10 ≤ n
    · rw [numL_step c]
      have ih := head_num k (n / 10) (by rw [Nat.pow_succ] at h; omega) (by omega)
      cases e : numL (n / 10) with
      | nil => exact absurd e (numL_ne _)
      | cons a r =>
        rw [e] at ih
        exact ih
    · rw [numL_lt (by omega)]
      intro q
      have q2 : 48 + n = 48 := by simpa using q
      omega
theorem whole_num {n : Nat} (h : n < 10000) : isWhole (numL n) = true := by
  unfold isWhole
  rw [are_num h, Bool.true_and]
  by_cases c : n = 0
  · subst c
    rfl
  · rw [decide_eq_true (head_num 3 n h c), Bool.or_true]
theorem fr_are {n d : Nat} (h0 : d ≠ 0) (h : d ≤ 4) : areFig (fr n d) = true := by
  unfold areFig
  rw [all_fig (fr_digits d n), Bool.and_true]
  exact decide_eq_true (by rw [fr_len]; omega)
theorem head_ne45 (n : Nat) : (numL n).head? ≠ some 45 := by
  cases e : numL n with
  | nil => simp
  | cons a r =>
    have := numL_digits n a (by rw [e]; exact List.mem_cons_self)
    intro q
    have q2 : a = 45 := by simpa using q
    omega
/-- the unsigned part -/
theorem unsig_T (u : Int) (d : Nat) : unsig (tU u d) = tU (u.natAbs : Int) d := by
  unfold tU sg
  rw [if_neg (show ¬ ((u.natAbs : Nat) : Int) < 0 by omega), Int.natAbs_natCast, List.nil_append]
  by_cases c : u < 0
  · rw [if_pos c] <;> rfl
  · rw [if_neg c, List.nil_append]
    have h := head_ne45 (u.natAbs / 10 ^ d)
    cases e : numL (u.natAbs / 10 ^ d) with
    | nil => exact absurd e (numL_ne _)
    | cons a r =>
      rw [e] at h
      rw [List.cons_append]
      unfold unsig
      split
      · rename_i q
        injection q with q1
        rw [q1] at h
        exact absurd rfl h
      · rfl
/-- a number that is not nought has a figure that is not -/
theorem worth_of {l : List Nat} (h : AllDigits l) (hv : digitsVal l ≠ 0) : ∃ c ∈ l, c ≠ 48 := by
  refine Classical.byContradiction fun q => hv ?_
  have all : ∀ c ∈ l, c = 48 := fun c hc => Classical.byContradiction fun z => q ⟨c, hc, z⟩
  have key : ∀ (m : List Nat), (∀ c ∈ m, c = 48) → ∀ a, m.foldl (fun acc c => acc * 10 + (c - 48)) a = a * 10 ^ m.length := by
    intro m
    induction m with
    | nil => intro _ a; simp
    | cons x r ih =>
      intro hm a
      rw [List.foldl_cons, ih (fun c hc => hm c (List.mem_cons_of_mem _ hc)), hm x List.mem_cons_self, List.length_cons, Nat.pow_succ]
      show (a * 10 + 0) * 10 ^ r.length = a * (10 ^ r.length * 10)
      rw [Nat.add_zero, Nat.mul_assoc, Nat.mul_comm 10]
  unfold digitsVal
  rw [key l all 0, Nat.zero_mul]
theorem worth_T {n d : Nat} (h : n ≠ 0) : hasWorth (tU (n : Int) d) = true := by
  obtain ⟨c, hc, h48⟩ := worth_of (digs_num (n : Int) d) (by rw [digs_val, Int.natAbs_natCast]; exact h)
  have e : tl ("0." : Str) = [48, 46] := by decide +kernel
  unfold hasWorth
  rw [List.any_eq_true]
  refine ⟨c, ?_, ?_⟩
  · unfold tU
    refine List.mem_append_right _ ?_
    rcases List.mem_append.mp hc with q | q
    · exact List.mem_append_left _ q
    · refine List.mem_append_right _ ?_
      by_cases z : d = 0
      · subst z
        cases q
      · rw [if_neg z]
        exact List.mem_cons_of_mem _ q
  · have := digs_num (n : Int) d c hc
    rw [e]
    simp only [List.mem_cons, List.not_mem_nil, or_false, Bool.not_eq_true', decide_eq_false_iff_not, not_or]
    omega
theorem isPr_T {u : Int} {d : Nat} (hd : d ≤ 4) (hu : u.natAbs / 10 ^ d < 10000) : isPr (Mn.T u d) = true := by
  have e0 : (⟨(unsig (tl (Mn.T u d))).toArray⟩ : Str) = Mn.T (u.natAbs : Int) d := ext_tl (by rw [tl_mk, tl_T, unsig_T, tl_T])
  have fin : (decide (unsig (tl (Mn.T u d)) = tl (Mn.T u d)) || hasWorth (unsig (tl (Mn.T u d)))) = true := by
    rw [tl_T, unsig_T]
    by_cases c : u < 0
    · rw [worth_T (by omega), Bool.or_true]
    · rw [show ((u.natAbs : Nat) : Int) = u by omega, decide_eq_true rfl, Bool.true_or]
  have key : ∀ a p b, isWhole a = true → (p.isEmpty = true ∨ areFig b = true) → isPr3 (tl (Mn.T u d)) (unsig (tl (Mn.T u d))) a p b = true := by
    intro a p b ha hb
    unfold isPr3
    have e : (!isWhole a || (!p.isEmpty && !areFig b)) = false := by
      rw [ha]
      rcases hb with hb | hb <;> rw [hb] <;> simp
    rw [e, if_neg Bool.false_ne_true]
    exact fin
  unfold isPr
  rw [e0]
  have sg0 : sg (u.natAbs : Int) = [] := if_neg (by omega)
  by_cases z : d = 0
  · subst z
    rw [part_T0]
    refine key _ _ _ ?_ (.inl rfl)
    show isWhole (tU (u.natAbs : Int) 0) = true
    rw [T_head0, sg0, List.nil_append, Int.natAbs_natCast]
    exact whole_num hu
  · rw [part_T z]
    refine key _ _ _ ?_ (.inr ?_)
    · show isWhole (sg (u.natAbs : Int) ++ numL ((u.natAbs : Int).natAbs / 10 ^ d)) = true
      rw [sg0, List.nil_append, Int.natAbs_natCast]
      exact whole_num hu
    · show areFig (fr (u.natAbs : Int).natAbs d) = true
      exact fr_are z hd

/-! ### its bounds -/
def spBounds : Sp := fun vs H Q _ => ∃ (u : Int) (d : Nat), vs = [.str (Mn.T u d)] ∧ d ≤ 4 ∧ u.natAbs < 10 ^ 19 ∧ ∀ (p : Addr) (H' : Hp), H p = none → Same H H' → H' p = some (.tup [.int (2 * u - 1), .int (2 * u + 1), .int (2 * ((10 ^ d : Nat) : Int))]) → Q (.ref p) H'
theorem units_at {d : Nat} (h : d ≤ 4) : atI [V.int 1, .int 10, .int 100, .int 1000, .int 10000] (d : Int) = some (.int ((10 ^ d : Nat) : Int)) := by
  have hall : ∀ e, e < 5 → ([V.int 1, .int 10, .int 100, .int 1000, .int 10000] : List V)[e]? = some (.int ((10 ^ e : Nat) : Int)) := by decide
  exact atI_nat (hall d (by omega))
theorem ok_bounds {f : Addr} {fd : FuncData} (F : Fun K "print_bounds" "print_bounds" s_print_bounds f fd) (T : Blt mg) (G : Con K mg) : FnOk P w K mg base CX0 1 f fd P_print_bounds spBounds := by
  refine F.ok sc_print_bounds (fun vs H Q E h => ?_) (fun cdv A outer s H vs Q E hr h => ?_)
  · obtain ⟨u, d, rfl, _⟩ := h
    rfl
  · obtain ⟨u, d, rfl, hd, hu, k⟩ := h
    have sm := tU_small (u := u) (d := d) (by omega) (Nat.lt_trans hu (by decide))
    refine ⟨_, (pss_cons
  (ps_asg (pe_bm PySem.F.plainAttrs_str PySem.F.slot_str_partition PySem.F.type_str_partition mt_partition (pv 0) (pa_cons pe_str pa_nil)) (pg_tup rfl (pgs_cons (pg_name (i := 1) sc_print_bounds.nd rfl (Or.inl rfl)) (pgs_cons (pg_name (i := 2) sc_print_bounds.nd rfl (Or.inl rfl)) (pgs_cons (pg_name (i := 3) sc_print_bounds.nd rfl (Or.inl rfl)) pgs_nil)))))
  (pss_cons
  (ps_set (i := 4) sc_print_bounds.nd rfl (Or.inl rfl) (pe_op op_mul pe_int (pe_callTy call_int_str (by rfl) T.int (by decide +kernel) (pa_cons (pe_op op_add_str (pv 1) (pv 3)) pa_nil))))
  (pss_one
  (ps_ret (pe_tup (pa_cons (pe_op op_sub (pv 4) pe_int) (pa_cons (pe_op op_add (pv 4) pe_int) (pa_cons (pe_op op_mul pe_int (pe_ix ix_tup (pe_gr G.UNITS) (pe_callB call_len_str (by rfl) T.len (by decide +kernel) (pa_cons (pv 3) pa_nil)) (fun _ _ => rfl))) pa_nil)))))))), ?_⟩
    refine ⟨_, rfl, rfl, _, _, rfl, rfl, by decide +kernel, by rw [len_tl, tl_T]; exact small_line (by omega), fun p hp => ⟨p, _, rfl, SqT.of upd_same, rfl, ?_⟩⟩
    have s0 := Same.new (o := .tup [V.str (Txt.partition (Mn.T u d) ".").1, V.str (Txt.partition (Mn.T u d) ".").2.1, V.str (Txt.partition (Mn.T u d) ".").2.2]) hp
    have parts : ∃ a b : Str, (Txt.partition (Mn.T u d) ".").1 = a ∧ (Txt.partition (Mn.T u d) ".").2.2 = b ∧ tl a ++ tl b = tP u d ∧ (tl b).length = d := by
      by_cases z : d = 0
      · subst z
        rw [part_T0]
        refine ⟨_, _, rfl, rfl, ?_, rfl⟩
        rw [tl_T, T_head0]
        unfold tP
        rw [fr, List.append_nil]
        exact List.append_nil _
      · rw [part_T z]
        refine ⟨_, _, rfl, rfl, ?_, ?_⟩
        · rw [tl_mk, tl_mk, List.append_assoc] <;> rfl
        · rw [tl_mk, fr_len]
    obtain ⟨a, b, ea, eb, eab, hb⟩ := parts
    rw [ea, eb] at s0 ⊢
    generalize (Txt.partition (Mn.T u d) ".").2.1 = pt at s0 ⊢
    generalize upd H p (.tup [V.str a, V.str pt, V.str b]) = H0 at s0 ⊢
    have lab := congrArg List.length eab
    rw [List.length_append] at lab
    have la := len_tl a
    have lb := len_tl b
    refine ⟨_, _, rfl, _, _, rfl, _, _, rfl, rfl, ?_⟩
    have eS : a ++ b = ⟨(tP u d).toArray⟩ := ext_tl (by rw [tl_append, eab])
    refine ⟨_, rfl, _, rfl, _, _, rfl, rfl, small_line (by omega), _, u, rfl, by rw [eS]; exact int_T (by omega), by rw [eS, len_tl, tl_mk]; omega, _, _, rfl, rfl, .inl ⟨by decide, by decide⟩, ?_⟩
    refine ⟨_, rfl, _, _, rfl, rfl, _, rfl, _, _, rfl, rfl, _, rfl, b, rfl, small_line (by omega), _, _, _, _, rfl, rfl, G.UNITS_at _, by rw [show ((b.length : Nat) : Int) = (d : Int) by omega]; exact units_at hd, _, _, rfl, rfl, .inl ⟨by decide, by decide⟩, by show 3 ≤ sizeLine; decide, fun q hq => ?_⟩
    exact k q _ (s0.free hq) (s0.trans (Same.new hq)) upd_same
theorem cal_bounds {f : Addr} {fd : FuncData} (F : Fun K "print_bounds" "print_bounds" s_print_bounds f fd) (hm : mg "print_bounds" = some (.ref f)) (T : Blt mg) (G : Con K mg) : Cal P w K mg base "print_bounds" 1 P_print_bounds spBounds :=
  ⟨f, fd, ok_bounds F T G, F.binds fun _ _ _ _ _ _ us hl => match us, hl with | [_], _ => rfl, F.kp, hm⟩
end
end Mn
set_option Elab.async false
set_option linter.all false
set_option maxRecDepth 100000
set_option maxHeartbeats 4000000
/-! Reports: the object, its making where nothing is refused, its properties. -/
namespace Mn
open PySem L2 TL
/-- a report's nine values -/
structure Rep where
  low : Int
  high : Int
  size : Int
  mean : Int × Nat
  spread : Option (Int × Nat)
  whole : Bool
  least : Option Int
  greatest : Option Int
  middle : Option (Int × Nat)
def oT : Option (Int × Nat) → V
  | none => .non
  | some (u, d) => .str (Mn.T u d)
def oI : Option Int → V
  | none => .non
  | some i => .int i
def kV (b : Bool) : V := .str (if b then "whole" else "sample")
def okT (p : Int × Nat) : Prop := p.2 ≤ 4 ∧ p.1.natAbs / 10 ^ p.2 < 10000
structure Rep.ok (r : Rep) : Prop where
  low0 : -50 ≤ r.low
  low1 : r.low ≤ 49
  high0 : r.low + 1 ≤ r.high
  high1 : r.high ≤ r.low + 11
  high2 : r.high ≤ 50
  size0 : 1 ≤ r.size
  size1 : r.size ≤ 1000000
  mean : okT r.mean
  spread : ∀ p, r.spread = some p → okT p ∧ 0 ≤ p.1
  kind : r.whole = false → r.spread ≠ none → r.size ≠ 1
  least : ∀ i, r.least = some i → r.low ≤ i ∧ i ≤ r.high
  greatest : ∀ i, r.greatest = some i → r.low ≤ i ∧ i ≤ r.high ∧ ∀ j, r.least = some j → j ≤ i
  middle : ∀ p, r.middle = some p → okT p
def Rep.args (r : Rep) : List V := [.int r.low, .int r.high, .int r.size, .str (Mn.T r.mean.1 r.mean.2), oT r.spread, kV r.whole, oI r.least, oI r.greatest, oT r.middle]
def repFs (r : Rep) : List (Str × V) := [("_low", .int r.low), ("_high", .int r.high), ("_size", .int r.size), ("_mean", .str (Mn.T r.mean.1 r.mean.2)), ("_spread", oT r.spread), ("_kind", kV r.whole), ("_least", oI r.least), ("_greatest", oI r.greatest), ("_middle", oT r.middle)]
def RepAt (C : Addr) (H : Hp) (a : Addr) (r : Rep) : Prop := ∃ dx, H a = some (.ins C dx (repFs r))
theorem putF_app (f : Str) (v : V) : ∀ {fs : List (Str × V)}, (fs.map (·.1)).all (fun k => decide (k ≠ f)) = true → putF f v fs = fs ++ [(f, v)]
  | [], _ => rfl
  | (g, x) :: r, h => by
    rw [List.map_cons, List.all_cons, Bool.and_eq_true_iff] at h
    have h1 : g ≠ f := of_decide_eq_true h.1
    show (if g = f then (g, v) :: r else (g, x) :: putF f v r) = _
    rw [if_neg h1, putF_app f v h.2] <;> rfl
section
variable {P : Program} {w : World} {K : PySem.W.Frag} {mg : Str → Option Value} {base : Heap}
/-! ### the checks, where nothing is refused -/
def mostM (a : Int) : Int := if (50 : Int) < (fun i j => i + j) a 11 then 50 else (fun i j => i + j) a 11
def spMost : Sp := fun vs H Q _ => ∃ a : Int, vs = [.int a] ∧ Q (.int (mostM a)) H
theorem ok_most {f : Addr} {fd : FuncData} (F : Fun K "most_high" "most_high" s_most_high f fd) (T : Blt mg) (G : Con K mg) : FnOk P w K mg base CX0 1 f fd P_most_high spMost := by
  refine F.ok sc_most_high (fun vs H Q E h => ?_) (fun cdv A outer s H vs Q E hr h => ?_)
  · obtain ⟨a, rfl, _⟩ := h
    rfl
  · obtain ⟨a, rfl, k⟩ := h
    refine ⟨_, (pss_one
  (ps_ret (pe_callB (call_min2 rfl) (by rfl) T.min (by decide +kernel) (pa_cons (pe_op op_add (pv 0) (pe_gi G.MOST_WIDTH)) (pa_cons (pe_gi G.MOST_HIGH) pa_nil))))), ?_⟩
    exact ⟨_, rfl, _, _, rfl, rfl, _, _, rfl, k⟩
theorem cal_most {f : Addr} {fd : FuncData} (F : Fun K "most_high" "most_high" s_most_high f fd) (hm : mg "most_high" = some (.ref f)) (T : Blt mg) (G : Con K mg) : Cal P w K mg base "most_high" 1 P_most_high spMost :=
  ⟨f, fd, ok_most F T G, F.binds fun _ _ _ _ _ _ us hl => match us, hl with | [_], _ => rfl, F.kp, hm⟩
def spScale : Sp := fun vs H Q _ => ∃ (a b : Int), vs = [.int a, .int b] ∧ -50 ≤ a ∧ a ≤ 49 ∧ a + 1 ≤ b ∧ b ≤ a + 11 ∧ b ≤ 50 ∧ Q .non H
theorem ok_scale {f : Addr} {fd : FuncData} (F : Fun K "_check_scale" "_check_scale" s__check_scale f fd) (T : Blt mg) (G : Con K mg) (C_is_int_within : Cal P w K mg base "is_int_within" 2 P_is_int_within (spWithin K)) (C_most_high : Cal P w K mg base "most_high" 1 P_most_high spMost) : FnOk P w K mg base CX0 3 f fd P__check_scale spScale := by
  refine F.ok sc__check_scale (fun vs H Q E h => ?_) (fun cdv A outer s H vs Q E hr h => ?_)
  · obtain ⟨a, b, rfl, _⟩ := h
    rfl
  · obtain ⟨a, b, rfl, h1, h2, h3, h4, h5, k⟩ := h
    refine ⟨_, (pss_cons
  (ps_if (pt_not (pt_val (pe_own C_is_int_within (hr.mono (by decide)) (pa_cons (pv 0) (pa_cons (pe_gi G.LEAST_LOW) (pa_cons (pe_op op_sub (pe_gi G.MOST_HIGH) pe_int) pa_nil)))))) (pss_one
  (ps_never)) pss_nil)
  (pss_one
  (ps_if (pt_not (pt_val (pe_own C_is_int_within (hr.mono (by decide)) (pa_cons (pv 1) (pa_cons (pe_op op_add (pv 0) pe_int) (pa_cons (pe_own C_most_high (hr.mono (by decide)) (pa_cons (pv 0) pa_nil)) pa_nil)))))) (pss_one
  (ps_never)) pss_nil))), ?_⟩
    refine ⟨_, rfl, _, _, rfl, rfl, _, _, _, rfl, .int, ?_⟩
    refine ⟨_, rfl, ?_⟩
    rw [show withinV (.int a) (-50) ((fun i j => i - j) 50 1) = true from decide_eq_true ⟨h1, h2⟩]
    refine iteF ⟨_, rfl, _, rfl, _, _, rfl, rfl, _, rfl, a, rfl, _, _, _, rfl, .int, ?_⟩
    refine ⟨_, rfl, ?_⟩
    rw [show withinV (.int b) ((fun i j => i + j) a 1) (mostM a) = true from decide_eq_true ⟨h3, by
      show b ≤ if (50 : Int) < a + 11 then 50 else a + 11
      split <;> omega⟩]
    exact iteF k
theorem cal_scale {f : Addr} {fd : FuncData} (F : Fun K "_check_scale" "_check_scale" s__check_scale f fd) (hm : mg "_check_scale" = some (.ref f)) (T : Blt mg) (G : Con K mg) (C_is_int_within : Cal P w K mg base "is_int_within" 2 P_is_int_within (spWithin K)) (C_most_high : Cal P w K mg base "most_high" 1 P_most_high spMost) : Cal P w K mg base "_check_scale" 3 P__check_scale spScale :=
  ⟨f, fd, ok_scale F T G C_is_int_within C_most_high, F.binds fun _ _ _ _ _ _ us hl => match us, hl with | [_, _], _ => rfl, F.kp, hm⟩
def spSize : Sp := fun vs H Q _ => ∃ (a : Int), vs = [.int a] ∧ 1 ≤ a ∧ a ≤ 1000000 ∧ Q .non H
theorem ok_size {f : Addr} {fd : FuncData} (F : Fun K "_check_size" "_check_size" s__check_size f fd) (T : Blt mg) (G : Con K mg) (C_is_int_within : Cal P w K mg base "is_int_within" 2 P_is_int_within (spWithin K)) : FnOk P w K mg base CX0 3 f fd P__check_size spSize := by
  refine F.ok sc__check_size (fun vs H Q E h => ?_) (fun cdv A outer s H vs Q E hr h => ?_)
  · obtain ⟨a, rfl, _⟩ := h
    rfl
  · obtain ⟨a, rfl, h1, h2, k⟩ := h
    refine ⟨_, (pss_one
  (ps_if (pt_not (pt_val (pe_own C_is_int_within (hr.mono (by decide)) (pa_cons (pv 0) (pa_cons pe_int (pa_cons (pe_gi G.MOST_SIZE) pa_nil)))))) (pss_one
  (ps_never)) pss_nil)), ?_⟩
    refine ⟨_, rfl, _, _, _, rfl, .int, _, rfl, ?_⟩
    rw [show withinV (.int a) 1 1000000 = true from decide_eq_true ⟨h1, h2⟩]
    exact iteF k
theorem cal_size {f : Addr} {fd : FuncData} (F : Fun K "_check_size" "_check_size" s__check_size f fd) (hm : mg "_check_size" = some (.ref f)) (T : Blt mg) (G : Con K mg) (C_is_int_within : Cal P w K mg base "is_int_within" 2 P_is_int_within (spWithin K)) : Cal P w K mg base "_check_size" 3 P__check_size spSize :=
  ⟨f, fd, ok_size F T G C_is_int_within, F.binds fun _ _ _ _ _ _ us hl => match us, hl with | [_], _ => rfl, F.kp, hm⟩
/-- is_print_from_zero(v) -/
def spFrom0 (K : PySem.W.Frag) : Sp := fun vs H Q _ => ∃ v : V, vs = [v] ∧ ((∃ z : Str, v = .str z ∧ z.length ≤ 900 ∧ ∀ H', Same H H' → Q (.bl (isPr z && !Txt.startswith z "-")) H') ∨ ∃ t, TyX K H v (.type t) ∧ kitB t "str" = some false ∧ Q (.bl false) H)
theorem ok_from0 {f : Addr} {fd : FuncData} (F : Fun K "is_print_from_zero" "is_print_from_zero" s_is_print_from_zero f fd) (C_is_print : Cal P w K mg base "is_print" 3 P_is_print (spIsPrint K)) : FnOk P w K mg base CX0 4 f fd P_is_print_from_zero (spFrom0 K) := by
  refine F.ok sc_is_print_from_zero (fun vs H Q E h => ?_) (fun cdv A outer s H vs Q E hr h => ?_)
  · obtain ⟨v, rfl, _⟩ := h
    rfl
  · obtain ⟨v, rfl, h⟩ := h
    refine ⟨_, (pss_one
  (ps_ret (pe_and (pe_own C_is_print (hr.mono (by decide)) (pa_cons (pv 0) pa_nil)) (pe_one (pe_not (pe_bm PySem.F.plainAttrs_str PySem.F.slot_str_startswith PySem.F.type_str_startswith mt_startswith (pv 0) (pa_cons pe_str pa_nil))))))), ?_⟩
    rcases h with ⟨z, rfl, hz, k⟩ | ⟨t, ty, kt, k⟩
    · refine ⟨_, rfl, _, rfl, .inl ⟨z, rfl, hz, fun H1 s1 => ⟨_, rfl, ite2 (fun c => ?_) (fun c => ?_)⟩⟩⟩
      · have q := k H1 s1
        rw [c, Bool.true_and] at q
        exact ⟨_, rfl, rfl, _, _, rfl, rfl, _, rfl, q⟩
      · have q := k H1 s1
        have c2 : isPr z = false := by
          cases y : isPr z with
          | false => rfl
          | true => exact absurd y c
        rw [c2, Bool.false_and] at q
        exact q
    · exact ⟨_, rfl, _, rfl, .inr ⟨t, ty, kt, _, rfl, iteF k⟩⟩
theorem cal_from0 {f : Addr} {fd : FuncData} (F : Fun K "is_print_from_zero" "is_print_from_zero" s_is_print_from_zero f fd) (hm : mg "is_print_from_zero" = some (.ref f)) (C_is_print : Cal P w K mg base "is_print" 3 P_is_print (spIsPrint K)) : Cal P w K mg base "is_print_from_zero" 4 P_is_print_from_zero (spFrom0 K) :=
  ⟨f, fd, ok_from0 F C_is_print, F.binds fun _ _ _ _ _ _ us hl => match us, hl with | [_], _ => rfl, F.kp, hm⟩
theorem okT_len {p : Int × Nat} (h : okT p) : (Mn.T p.1 p.2).length ≤ 900 := by
  obtain ⟨h1, h2⟩ := h
  have q := tU_len (u := p.1) (d := p.2) (k := 4) (by decide) h2
  rw [len_tl, tl_T]
  omega
theorem starts_T {u : Int} {d : Nat} (h : 0 ≤ u) : Txt.startswith (Mn.T u d) "-" = false := by
  have e45 : tl ("-" : Str) = [45] := by decide +kernel
  have l1 : ("-" : Str).length = 1 := by decide +kernel
  unfold Txt.startswith
  rw [StrLaws.subAt_eq, List.drop_zero, l1, show ("-" : Str).cps.toList = [45] from e45, show (Mn.T u d).cps.toList = tU u d from rfl]
  have e : ((tU u d).take 1 == [45]) = false := by
    unfold tU sg
    rw [if_neg (by omega), List.nil_append]
    have h := head_ne45 (u.natAbs / 10 ^ d)
    cases e : numL (u.natAbs / 10 ^ d) with
    | nil => exact absurd e (numL_ne _)
    | cons a r =>
      rw [e] at h
      have ha : a ≠ 45 := by simpa using h
      simp [ha]
  rw [e, Bool.and_false]
def spPrints : Sp := fun vs H Q _ => ∃ (m : Int × Nat) (a b : Option (Int × Nat)), vs = [.str (Mn.T m.1 m.2), oT a, oT b] ∧ okT m ∧ (∀ p, a = some p → okT p ∧ 0 ≤ p.1) ∧ (∀ p, b = some p → okT p) ∧ ∀ H', Same H H' → Q .non H'
theorem ok_prints {f : Addr} {fd : FuncData} (F : Fun K "_check_prints" "_check_prints" s__check_prints f fd) (C_is_print : Cal P w K mg base "is_print" 3 P_is_print (spIsPrint K)) (C_is_print_from_zero : Cal P w K mg base "is_print_from_zero" 4 P_is_print_from_zero (spFrom0 K)) : FnOk P w K mg base CX0 5 f fd P__check_prints spPrints := by
  refine F.ok sc__check_prints (fun vs H Q E h => ?_) (fun cdv A outer s H vs Q E hr h => ?_)
  · obtain ⟨m, a, b, rfl, _⟩ := h
    rfl
  · obtain ⟨m, a, b, rfl, h1, h2, h3, k⟩ := h
    refine ⟨_, (pss_cons
  (ps_if (pt_not (pt_val (pe_own C_is_print (hr.mono (by decide)) (pa_cons (pv 0) pa_nil)))) (pss_one
  (ps_never)) pss_nil)
  (pss_cons
  (ps_if (PW.pt (pw_and (pt_cmpR op_notN (pv 1) pe_non (nomark _)) (pw_and1 (pt_not (pt_val (pe_own C_is_print_from_zero (hr.mono (by decide)) (pa_cons (pv 1) pa_nil))))))) (pss_one
  (ps_never)) pss_nil)
  (pss_one
  (ps_if (PW.pt (pw_and (pt_cmpR op_notN (pv 2) pe_non (nomark _)) (pw_and1 (pt_not (pt_val (pe_own C_is_print (hr.mono (by decide)) (pa_cons (pv 2) pa_nil))))))) (pss_one
  (ps_never)) pss_nil)))), ?_⟩
    refine ⟨_, rfl, _, rfl, .inl ⟨_, rfl, okT_len h1, fun H1 s1 => ⟨_, rfl, ?_⟩⟩⟩
    rw [isPr_T h1.1 h1.2]
    refine iteF ?_
    have rest : ∀ H2, Same H H2 → (tIfS (tAnd (tTest (tOp (fun x y H Q => y = .non ∧ Q (.bl (!decide (x = .non))) H) (tVar 2) (tC .non))) (tNot (tB (tCall (spIsPrint K) [] E0 (tCons (tVar 2) tNil))))) tNever tNext) { nx := fun _ H' => Q .non H', rt := Q } (L2.start N__check_prints [.str (Mn.T m.1 m.2), oT a, oT b]) H2 := by
      intro H2 s2
      refine ⟨_, rfl, rfl, _, rfl, ?_⟩
      cases b with
      | none => exact iteF (iteF (k _ s2))
      | some p =>
        refine iteT ⟨_, rfl, _, rfl, .inl ⟨_, rfl, okT_len (h3 p rfl), fun H3 s3 => ⟨_, rfl, ?_⟩⟩⟩
        rw [isPr_T (h3 p rfl).1 (h3 p rfl).2]
        exact iteF (k _ (s2.trans s3))
    refine ⟨_, rfl, rfl, _, rfl, ?_⟩
    cases a with
    | none => exact iteF (iteF (rest _ s1))
    | some p =>
      refine iteT ⟨_, rfl, _, rfl, .inl ⟨_, rfl, okT_len (h2 p rfl).1, fun H3 s3 => ⟨_, rfl, ?_⟩⟩⟩
      rw [isPr_T (h2 p rfl).1.1 (h2 p rfl).1.2, starts_T (h2 p rfl).2]
      exact iteF (rest _ (s1.trans s3))
theorem cal_prints {f : Addr} {fd : FuncData} (F : Fun K "_check_prints" "_check_prints" s__check_prints f fd) (hm : mg "_check_prints" = some (.ref f)) (C_is_print : Cal P w K mg base "is_print" 3 P_is_print (spIsPrint K)) (C_is_print_from_zero : Cal P w K mg base "is_print_from_zero" 4 P_is_print_from_zero (spFrom0 K)) : Cal P w K mg base "_check_prints" 5 P__check_prints spPrints :=
  ⟨f, fd, ok_prints F C_is_print C_is_print_from_zero, F.binds fun _ _ _ _ _ _ us hl => match us, hl with | [_, _, _], _ => rfl, F.kp, hm⟩
def spKind : Sp := fun vs H Q _ => ∃ (b : Bool) (a : Option (Int × Nat)) (n : Int), vs = [kV b, oT a, .int n] ∧ (b = false → a ≠ none → n ≠ 1) ∧ Q .non H
theorem ok_kind {f : Addr} {fd : FuncData} (F : Fun K "_check_kind" "_check_kind" s__check_kind f fd) (G : Con K mg) : FnOk P w K mg base CX0 1 f fd P__check_kind spKind := by
  refine F.ok sc__check_kind (fun vs H Q E h => ?_) (fun cdv A outer s H vs Q E hr h => ?_)
  · obtain ⟨b, a, n, rfl, _⟩ := h
    rfl
  · obtain ⟨b, a, n, rfl, h1, k⟩ := h
    refine ⟨_, (pss_cons
  (ps_if (pt_cmpR op_notIn_seq (pv 0) (pe_gr G.KINDS) rfl) (pss_one
  (ps_never)) pss_nil)
  (pss_one
  (ps_if (PW.pt (pw_and (pt_cmpR op_eq (pv 0) pe_str (nomark _)) (pw_and (pt_cmpR op_notN (pv 1) pe_non (nomark _)) (pw_and1 (pt_cmpR op_eq (pv 2) pe_int (nomark _)))))) (pss_one
  (ps_never)) pss_nil))), ?_⟩
    refine ⟨_, rfl, _, _, rfl, .inr (G.KINDS_at _), by cases b <;> rfl, rfl, ?_⟩
    refine ⟨_, rfl, ?_⟩
    rw [show inV (kV b) [V.str "sample", V.str "whole"] = true by cases b <;> decide +kernel]
    refine iteF ⟨_, rfl, by cases b <;> rfl, _, rfl, ?_⟩
    cases b with
    | true =>
      rw [show decide (kV true = V.str "sample") = false by decide +kernel]
      exact iteF (iteF k)
    | false =>
      rw [show decide (kV false = V.str "sample") = true by decide +kernel]
      refine iteT ⟨_, rfl, rfl, _, rfl, ?_⟩
      cases a with
      | none => exact iteF (iteF k)
      | some p =>
        refine iteT ⟨_, rfl, rfl, _, rfl, ?_⟩
        rw [show decide (V.int n = V.int 1) = false from decide_eq_false fun q => h1 rfl (by simp) (by injection q)]
        exact iteF k
theorem cal_kind {f : Addr} {fd : FuncData} (F : Fun K "_check_kind" "_check_kind" s__check_kind f fd) (hm : mg "_check_kind" = some (.ref f)) (G : Con K mg) : Cal P w K mg base "_check_kind" 1 P__check_kind spKind :=
  ⟨f, fd, ok_kind F G, F.binds fun _ _ _ _ _ _ us hl => match us, hl with | [_, _, _], _ => rfl, F.kp, hm⟩
def spEnds : Sp := fun vs H Q _ => ∃ (a b : Int) (l g : Option Int), vs = [.int a, .int b, oI l, oI g] ∧ (∀ i, l = some i → a ≤ i ∧ i ≤ b) ∧ (∀ i, g = some i → a ≤ i ∧ i ≤ b ∧ ∀ j, l = some j → j ≤ i) ∧ Q .non H
theorem ok_ends {f : Addr} {fd : FuncData} (F : Fun K "_check_ends" "_check_ends" s__check_ends f fd) (C_is_int_within : Cal P w K mg base "is_int_within" 2 P_is_int_within (spWithin K)) : FnOk P w K mg base CX0 3 f fd P__check_ends spEnds := by
  refine F.ok sc__check_ends (fun vs H Q E h => ?_) (fun cdv A outer s H vs Q E hr h => ?_)
  · obtain ⟨a, b, l, g, rfl, _⟩ := h
    rfl
  · obtain ⟨a, b, l, g, rfl, h1, h2, k⟩ := h
    refine ⟨_, (pss_cons
  (ps_if (PW.pt (pw_and (pt_cmpR op_notN (pv 2) pe_non (nomark _)) (pw_and1 (pt_not (pt_val (pe_own C_is_int_within (hr.mono (by decide)) (pa_cons (pv 2) (pa_cons (pv 0) (pa_cons (pv 1) pa_nil))))))))) (pss_one
  (ps_never)) pss_nil)
  (pss_cons
  (ps_set (i := 4) sc__check_ends.nd rfl (Or.inl rfl) (pe_j (pe_ifExp (pt_cmpR op_isN (pv 2) pe_non (nomark _)) (pv 0) (pv 2))))
  (pss_one
  (ps_if (PW.pt (pw_and (pt_cmpR op_notN (pv 3) pe_non (nomark _)) (pw_and1 (pt_not (pt_val (pe_own C_is_int_within (hr.mono (by decide)) (pa_cons (pv 3) (pa_cons (pv 4) (pa_cons (pv 1) pa_nil))))))))) (pss_one
  (ps_never)) pss_nil)))), ?_⟩
    have rest : ∀ c : Int, (∀ i, g = some i → c ≤ i ∧ i ≤ b) → (tIfS (tAnd (tTest (tOp (fun x y H Q => y = .non ∧ Q (.bl (!decide (x = .non))) H) (tVar 3) (tC .non))) (tNot (tB (tCall (spWithin K) [] E0 (tCons (tVar 3) (tCons (tVar 4) (tCons (tVar 1) tNil))))))) tNever tNext) { nx := fun _ H' => Q .non H', rt := Q } [some (.int a), some (.int b), some (oI l), some (oI g), some (.int c)] H := by
      intro c hc
      refine ⟨_, rfl, rfl, _, rfl, ?_⟩
      cases g with
      | none => exact iteF (iteF k)
      | some i =>
        refine iteT ⟨_, rfl, _, rfl, _, rfl, _, _, _, rfl, .int, _, rfl, ?_⟩
        rw [show withinV (oI (some i)) c b = true from decide_eq_true (hc i rfl)]
        exact iteF k
    refine ⟨_, rfl, rfl, _, rfl, ?_⟩
    cases l with
    | none =>
      refine iteF (iteF ⟨fun v H' => v = .int a ∧ H' = H, ⟨_, rfl, rfl, _, rfl, iteT ⟨_, rfl, rfl, rfl⟩⟩, ?_⟩)
      rintro v H' ⟨rfl, rfl⟩
      exact rest a fun i hi => ⟨(h2 i hi).1, (h2 i hi).2.1⟩
    | some j =>
      refine iteT ⟨_, rfl, _, rfl, _, rfl, _, _, _, rfl, .int, _, rfl, ?_⟩
      rw [show withinV (oI (some j)) a b = true from decide_eq_true (h1 j rfl)]
      refine iteF ⟨fun v H' => v = .int j ∧ H' = H, ⟨_, rfl, rfl, _, rfl, iteF ⟨_, rfl, rfl, rfl⟩⟩, ?_⟩
      rintro v H' ⟨rfl, rfl⟩
      exact rest j fun i hi => ⟨(h2 i hi).2.2 j rfl, (h2 i hi).2.1⟩
theorem cal_ends {f : Addr} {fd : FuncData} (F : Fun K "_check_ends" "_check_ends" s__check_ends f fd) (hm : mg "_check_ends" = some (.ref f)) (C_is_int_within : Cal P w K mg base "is_int_within" 2 P_is_int_within (spWithin K)) : Cal P w K mg base "_check_ends" 3 P__check_ends spEnds :=
  ⟨f, fd, ok_ends F C_is_int_within, F.binds fun _ _ _ _ _ _ us hl => match us, hl with | [_, _, _, _], _ => rfl, F.kp, hm⟩
end
end Mn
set_option Elab.async false
set_option linter.all false
set_option maxRecDepth 100000
set_option maxHeartbeats 4000000
/-! A report's making, its properties. -/
namespace Mn
open PySem L2 TL
/-- no class of a report has these names -/
structure NoAt (K : PySem.W.Frag) (C : Addr) : Prop where
  low : NoAttr K C "_low"
  high : NoAttr K C "_high"
  size : NoAttr K C "_size"
  mean : NoAttr K C "_mean"
  spread : NoAttr K C "_spread"
  kind : NoAttr K C "_kind"
  least : NoAttr K C "_least"
  greatest : NoAttr K C "_greatest"
  middle : NoAttr K C "_middle"
abbrev dflR : List V := [.non, .str "sample", .non, .non, .non]
abbrev FunI (K : PySem.W.Frag) (f : Addr) (fd : FuncData) : Prop := FunD K "__init__" "Report.__init__" (defArgs s_Report___init__) (defBody s_Report___init__) (defScope s_Report___init__) dflR [] f fd
section
variable {P : Program} {w : World} {K : PySem.W.Frag} {mg : Str → Option Value} {base : Heap}
theorem fld_step {C dx p : Addr} {fs : List (Str × V)} {f : Str} {v : V} {D : Ends} {σ : L2.St} {H : Hp} (cl : Cls K C) (na : NoAttr K C f) (hp : H p = some (.ins C dx fs)) (hl : fs.length < 1000) (hk : (fs.map (·.1)).all (fun k => decide (k ≠ f)) = true)
    (next : D.nx σ (upd H p (.ins C dx (fs ++ [(f, v)])))) :
    ∃ a C' dx' fs', V.ref p = .ref a ∧ H a = some (.ins C' dx' fs') ∧ Cls K C' ∧ NoAttr K C' f ∧ fs'.length < 1000 ∧ D.nx σ (upd H a (.ins C' dx' (putF f v fs'))) := ⟨p, C, dx, fs, rfl, hp, cl, na, hl, by rw [putF_app f v hk]; exact next⟩
def spInit (C : Addr) : Sp := fun vs H Q _ => ∃ (p dx : Addr) (r : Rep), vs = .ref p :: r.args ∧ r.ok ∧ H p = some (.ins C dx []) ∧ ∀ H', (∀ b o, H b = some o → b ≠ p → H' b = some o) → H' p = some (.ins C dx (repFs r)) → Q .non H'
theorem ok_init {f C : Addr} {fd : FuncData} (F : FunI K f fd) (cl : Cls K C) (A : NoAt K C)
    (C__check_scale : Cal P w K mg base "_check_scale" 3 P__check_scale spScale) (C__check_size : Cal P w K mg base "_check_size" 3 P__check_size spSize) (C__check_prints : Cal P w K mg base "_check_prints" 5 P__check_prints spPrints)
    (C__check_kind : Cal P w K mg base "_check_kind" 1 P__check_kind spKind) (C__check_ends : Cal P w K mg base "_check_ends" 3 P__check_ends spEnds) : FnOk P w K mg base CX0 6 f fd P_Report___init__ (spInit C) := by
  refine F.ok (CX := CX0) sc_Report___init__ (fun vs H Q E h => ?_) (fun cdv A' outer s H vs Q E hr h => ?_)
  · obtain ⟨p, dx, r, rfl, _⟩ := h
    rfl
  · obtain ⟨p, dx, r, rfl, ok, hp, k⟩ := h
    refine ⟨_, (pss_cons
  (ps_expr (pe_own C__check_scale (hr.mono (by decide)) (pa_cons (pv 1) (pa_cons (pv 2) pa_nil))))
  (pss_cons
  (ps_expr (pe_own C__check_size (hr.mono (by decide)) (pa_cons (pv 3) pa_nil)))
  (pss_cons
  (ps_expr (pe_own C__check_prints (hr.mono (by decide)) (pa_cons (pv 4) (pa_cons (pv 5) (pa_cons (pv 9) pa_nil)))))
  (pss_cons
  (ps_expr (pe_own C__check_kind (hr.mono (by decide)) (pa_cons (pv 6) (pa_cons (pv 5) (pa_cons (pv 3) pa_nil)))))
  (pss_cons
  (ps_expr (pe_own C__check_ends (hr.mono (by decide)) (pa_cons (pv 1) (pa_cons (pv 2) (pa_cons (pv 7) (pa_cons (pv 8) pa_nil))))))
  (pss_cons
  (ps_fld (pv 0) (pv 1) rfl)
  (pss_cons
  (ps_fld (pv 0) (pv 2) rfl)
  (pss_cons
  (ps_fld (pv 0) (pv 3) rfl)
  (pss_cons
  (ps_fld (pv 0) (pv 4) rfl)
  (pss_cons
  (ps_fld (pv 0) (pv 5) rfl)
  (pss_cons
  (ps_fld (pv 0) (pv 6) rfl)
  (pss_cons
  (ps_fld (pv 0) (pv 7) rfl)
  (pss_cons
  (ps_fld (pv 0) (pv 8) rfl)
  (pss_one
  (ps_fld (pv 0) (pv 9) rfl))))))))))))))), ?_⟩
    refine ⟨_, rfl, _, rfl, _, _, rfl, ok.low0, ok.low1, ok.high0, ok.high1, ok.high2, ?_⟩
    refine ⟨_, rfl, _, rfl, ok.size0, ok.size1, ?_⟩
    refine ⟨_, rfl, _, rfl, _, rfl, r.mean, r.spread, r.middle, rfl, ok.mean, ok.spread, ok.middle, fun H1 s1 => ?_⟩
    refine ⟨_, rfl, _, rfl, _, rfl, r.whole, r.spread, r.size, rfl, ok.kind, ?_⟩
    refine ⟨_, rfl, _, rfl, _, rfl, _, rfl, r.low, r.high, r.least, r.greatest, rfl, ok.least, ok.greatest, ?_⟩
    have hp1 := s1 _ _ hp
    refine ⟨_, rfl, _, rfl, fld_step cl A.low hp1 (by show 0 < 1000; decide) rfl ?_⟩
    refine ⟨_, rfl, _, rfl, fld_step cl A.high upd_same (by show 1 < 1000; decide) (by show (["_low"] : List Str).all (fun k => decide (k ≠ "_high")) = true; decide +kernel) ?_⟩
    refine ⟨_, rfl, _, rfl, fld_step cl A.size upd_same (by show 2 < 1000; decide) (by show (["_low", "_high"] : List Str).all (fun k => decide (k ≠ "_size")) = true; decide +kernel) ?_⟩
    refine ⟨_, rfl, _, rfl, fld_step cl A.mean upd_same (by show 3 < 1000; decide) (by show (["_low", "_high", "_size"] : List Str).all (fun k => decide (k ≠ "_mean")) = true; decide +kernel) ?_⟩
    refine ⟨_, rfl, _, rfl, fld_step cl A.spread upd_same (by show 4 < 1000; decide) (by show (["_low", "_high", "_size", "_mean"] : List Str).all (fun k => decide (k ≠ "_spread")) = true; decide +kernel) ?_⟩
    refine ⟨_, rfl, _, rfl, fld_step cl A.kind upd_same (by show 5 < 1000; decide) (by show (["_low", "_high", "_size", "_mean", "_spread"] : List Str).all (fun k => decide (k ≠ "_kind")) = true; decide +kernel) ?_⟩
    refine ⟨_, rfl, _, rfl, fld_step cl A.least upd_same (by show 6 < 1000; decide) (by show (["_low", "_high", "_size", "_mean", "_spread", "_kind"] : List Str).all (fun k => decide (k ≠ "_least")) = true; decide +kernel) ?_⟩
    refine ⟨_, rfl, _, rfl, fld_step cl A.greatest upd_same (by show 7 < 1000; decide) (by show (["_low", "_high", "_size", "_mean", "_spread", "_kind", "_least"] : List Str).all (fun k => decide (k ≠ "_greatest")) = true; decide +kernel) ?_⟩
    refine ⟨_, rfl, _, rfl, fld_step cl A.middle upd_same (by show 8 < 1000; decide) (by show (["_low", "_high", "_size", "_mean", "_spread", "_kind", "_least", "_greatest"] : List Str).all (fun k => decide (k ≠ "_middle")) = true; decide +kernel) ?_⟩
    refine k _ (fun b o e nb => ?_) upd_same
    simp only [upd_ne nb]
    exact s1 b o e
/-! ### properties -/
/-- f is a property that hands the field g back -/
def Prp (P : Program) (w : World) (K : PySem.W.Frag) (mg : Str → Option Value) (base : Heap) (C : Addr) (f g : Str) : Prop := ∃ p a fd, PropOf K C f p a ∧ FnOk P w K mg base CX0 1 a fd ["self"] (getSp C g) ∧ Binds K fd ["self"] []
theorem prp_mk {C p a : Addr} {f g : Str} {q : Str} {st : Stmt} {fd : FuncData} {p1 p2 p3 : Pos} (h : PropOf K C f p a) (F : Fun K f q st a fd) (S : FnScope ["self"] ["self"] (defScope st)) (hb : defBody st = [.Return (some (.Attribute (.Name "self" p1) g p2)) p3])
    (b : ∀ (kV doc pm : Value) (an : Option Addr) (cdv ct : Value) (us : List Value), us.length = (["self"] : List Str).length → bindArgs (PySem.W.fnOf f q (defArgs st) (defBody st) (defScope st) .none kV doc pm an cdv ct) ⟨us, []⟩ = pure ((["self"] : List Str).zip us))
    (cl : Cls K C) (na : NoAttr K C g) : Prp P w K mg base C f g := by
  obtain ⟨oc, od, kV, doc, pm, an, cdv, ct, osl, rfl, lk, hcd⟩ := F.ex
  exact ⟨p, a, _, h, fn_getter (k := 0) lk hcd S rfl hb cl na, Binds.all (b kV doc pm an cdv ct)⟩
/-- reports as the walk asks for them -/
structure RepT (P : Program) (w : World) (K : PySem.W.Frag) (mg : Str → Option Value) (base : Heap) : Prop where
  cl : Cls K (He.ga K "Report")
  low : Prp P w K mg base (He.ga K "Report") "low" "_low"
  high : Prp P w K mg base (He.ga K "Report") "high" "_high"
  size : Prp P w K mg base (He.ga K "Report") "size" "_size"
  mean : Prp P w K mg base (He.ga K "Report") "mean" "_mean"
  spread : Prp P w K mg base (He.ga K "Report") "spread" "_spread"
  kind : Prp P w K mg base (He.ga K "Report") "kind" "_kind"
  least : Prp P w K mg base (He.ga K "Report") "least" "_least"
  greatest : Prp P w K mg base (He.ga K "Report") "greatest" "_greatest"
  middle : Prp P w K mg base (He.ga K "Report") "middle" "_middle"
end
/-- the value of a property of a report -/
def tRep (K : PySem.W.Frag) (sel : Rep → V) (ta : TE) : TE := fun σ H Q => ta σ H fun x H1 => ∃ (a : Addr) (r : Rep), x = .ref a ∧ RepAt (He.ga K "Report") H1 a r ∧ Q (sel r) H1
section
variable {X : Cx} {e : Expr} {ta : TE} {pos : Pos}
theorem pe_rep {f g : Str} {sel : Rep → V} (cl : Cls X.K (He.ga X.K "Report")) (pr : Prp X.prog X.w X.K X.mg X.base (He.ga X.K "Report") f g) (hl : ∀ r, (repFs r).lookup g = some (sel r)) (hr : Room 2 X.A) (he : PE X e ta) (hab : attributeBase e f X.env (eval e X.env) = eval e X.env) :
    PE X (.Attribute e f pos) (tRep X.K sel ta) := by
  obtain ⟨p, a, fd, hp, F, b⟩ := pr
  have h : PE X (.Attribute e f pos) (tProp (He.ga X.K "Report") (getSp (He.ga X.K "Report") g) [] E0 ta) := pe_prop he cl hp F hr b .nil pass0 hab
  refine ⟨fun pins s σ H Q I q => ?_⟩
  refine wpAny_mono (attr_of hab (thn (he.run pins s σ H _ I q) fun u s1 ⟨x, H1, I1, rx, a2, r, ex, ⟨dx, ea⟩, q2⟩ => ?_)) (fun _ _ z => z) fun _ _ z => z
  subst ex
  obtain rfl : u = Value.ref a2 := rx
  exact getprop_ok I1 ea cl hp F hr b .nil pass0 ⟨a2, dx, _, _, rfl, ea, hl r, q2⟩
theorem p_low (R : RepT X.prog X.w X.K X.mg X.base) (hr : Room 2 X.A) (he : PE X e ta) (hab : attributeBase e "low" X.env (eval e X.env) = eval e X.env := by rfl) : PE X (.Attribute e "low" pos) (tRep X.K (fun r => .int r.low) ta) := pe_rep R.cl R.low (fun r => by kernel_rfl) hr he hab
theorem p_high (R : RepT X.prog X.w X.K X.mg X.base) (hr : Room 2 X.A) (he : PE X e ta) (hab : attributeBase e "high" X.env (eval e X.env) = eval e X.env := by rfl) : PE X (.Attribute e "high" pos) (tRep X.K (fun r => .int r.high) ta) := pe_rep R.cl R.high (fun r => by kernel_rfl) hr he hab
theorem p_size (R : RepT X.prog X.w X.K X.mg X.base) (hr : Room 2 X.A) (he : PE X e ta) (hab : attributeBase e "size" X.env (eval e X.env) = eval e X.env := by rfl) : PE X (.Attribute e "size" pos) (tRep X.K (fun r => .int r.size) ta) := pe_rep R.cl R.size (fun r => by kernel_rfl) hr he hab
theorem p_mean (R : RepT X.prog X.w X.K X.mg X.base) (hr : Room 2 X.A) (he : PE X e ta) (hab : attributeBase e "mean" X.env (eval e X.env) = eval e X.env := by rfl) : PE X (.Attribute e "mean" pos) (tRep X.K (fun r => .str (Mn.T r.mean.1 r.mean.2)) ta) := pe_rep R.cl R.mean (fun r => by kernel_rfl) hr he hab
theorem p_spread (R : RepT X.prog X.w X.K X.mg X.base) (hr : Room 2 X.A) (he : PE X e ta) (hab : attributeBase e "spread" X.env (eval e X.env) = eval e X.env := by rfl) : PE X (.Attribute e "spread" pos) (tRep X.K (fun r => oT r.spread) ta) := pe_rep R.cl R.spread (fun r => by kernel_rfl) hr he hab
theorem p_kind (R : RepT X.prog X.w X.K X.mg X.base) (hr : Room 2 X.A) (he : PE X e ta) (hab : attributeBase e "kind" X.env (eval e X.env) = eval e X.env := by rfl) : PE X (.Attribute e "kind" pos) (tRep X.K (fun r => kV r.whole) ta) := pe_rep R.cl R.kind (fun r => by kernel_rfl) hr he hab
theorem p_least (R : RepT X.prog X.w X.K X.mg X.base) (hr : Room 2 X.A) (he : PE X e ta) (hab : attributeBase e "least" X.env (eval e X.env) = eval e X.env := by rfl) : PE X (.Attribute e "least" pos) (tRep X.K (fun r => oI r.least) ta) := pe_rep R.cl R.least (fun r => by kernel_rfl) hr he hab
theorem p_greatest (R : RepT X.prog X.w X.K X.mg X.base) (hr : Room 2 X.A) (he : PE X e ta) (hab : attributeBase e "greatest" X.env (eval e X.env) = eval e X.env := by rfl) : PE X (.Attribute e "greatest" pos) (tRep X.K (fun r => oI r.greatest) ta) := pe_rep R.cl R.greatest (fun r => by kernel_rfl) hr he hab
theorem p_middle (R : RepT X.prog X.w X.K X.mg X.base) (hr : Room 2 X.A) (he : PE X e ta) (hab : attributeBase e "middle" X.env (eval e X.env) = eval e X.env := by rfl) : PE X (.Attribute e "middle" pos) (tRep X.K (fun r => oT r.middle) ta) := pe_rep R.cl R.middle (fun r => by kernel_rfl) hr he hab

/-! ### making -/
/-- Report(..) of n arguments, the others by default -/
def MkR (P : Program) (w : World) (K : PySem.W.Frag) (mg : Str → Option Value) (base : Heap) (dvs : List V) : Prop := ∃ f fd ds, Mk K (He.ga K "Report") f ∧ FnOk P w K mg base CX0 6 f fd P_Report___init__ (spInit (He.ga K "Report")) ∧ Binds K fd P_Report___init__ ds ∧ Vals dvs ds ∧ mg "Report" = some (.ref (He.ga K "Report"))
def tNew (K : PySem.W.Frag) (dvs : List V) (t : TA) : TE := fun σ H Q => t σ H fun vs H1 => ∃ r : Rep, vs ++ dvs = r.args ∧ r.ok ∧ ∀ x H2, H1 x = none → Same H1 H2 → RepAt (He.ga K "Report") H2 x r → Q (.ref x) H2
theorem c_Report {dvs : List V} {es : List Expr} {t : TA} {p : Pos} (M : MkR X.prog X.w X.K X.mg X.base dvs) (hr : Room 7 X.A) (ha : PA X (e :: es) t) (hg : Gl X "Report" := by rfl)
    (he : starEach (e :: es) X.env = (false, eval e X.env) :: starEach es X.env := by rfl) (hpl : (backTo pos (starEach es X.env)).any (·.1) = false := by rfl) : PE X (.Call (.Name "Report" p) (e :: es) [] pos) (tNew X.K dvs t) := by
  obtain ⟨f, fd, ds, hM, F, b, hv, hm⟩ := M
  refine ⟨fun pins s σ H Q I h => ?_⟩
  refine PySem.wpAny_Call_Name_kw (ld_glob I hg hm ?_)
  refine PySem.W.callWith_K (h₀ := X.base) I.ok.mod.kin hM.kp (thn (ha.run pos pins s σ H _ I h) fun us s1 ⟨vs, H1, I1, r, q⟩ => ⟨I1.kIn, ?_⟩) he hpl
  obtain ⟨rp, e1, ok, k⟩ := q
  refine run_make hM F hr b hv pass0 I1 r fun x dx nx nd ne => ?_
  refine ⟨x, dx, rp, by rw [e1], ok, upd_same, fun H2 keep at_ => ⟨rfl, ?_⟩⟩
  exact k x H2 nx (Same.made nx nd keep) ⟨dx, at_⟩
end
end Mn
set_option Elab.async false
set_option linter.all false
set_option maxRecDepth 100000
set_option maxHeartbeats 4000000
/-! The program's sums. -/
namespace Mn
open PySem L2 TL
def told (r : Rep) : List Int := r.least.toList ++ r.greatest.toList
def toldM (r : Rep) (n : Int) : Option (List Int) := if ((told r).length : Int) ≤ n then some (told r) else if r.least = r.greatest then some r.least.toList else none
def loR (r : Rep) : Int := r.least.getD r.low
def hiR (r : Rep) : Int := r.greatest.getD r.high
theorem oI_inj {a b : Option Int} (h : oI a = oI b) : a = b := by
  cases a with
  | none => cases b with
    | none => rfl
    | some j => cases h
  | some i => cases b with
    | none => cases h
    | some j =>
      have e : i = j := by injection h
      rw [e]
theorem oI_non {o : Option Int} : oI o = .non ↔ o = none := by cases o <;> simp [oI]
theorem oI_some {o : Option Int} (c : ¬ decide (oI o = .non) = true) : ∃ j, o = some j := by
  cases o with
  | none => exact absurd (decide_eq_true (oI_non.mpr rfl)) c
  | some j => exact ⟨j, rfl⟩
theorem scal_oI (a b : Option Int) : scal (oI a) (oI b) = true := by cases a <;> cases b <;> rfl
section
variable {P : Program} {w : World} {K : PySem.W.Frag} {mg : Str → Option Value} {base : Heap}
/-- a value that may be None, or a new tuple of whole numbers -/
def Out (Q : VK) (H : Hp) (o : Option (List Int)) : Prop := (o = none → ∀ H', Same H H' → Q .non H') ∧ ∀ l, o = some l → ∀ (p : Addr) (H' : Hp), Same H H' → H p = none → H' p = some (.tup (l.map V.int)) → Q (.ref p) H'
theorem RepAt.mono {C : Addr} {H H' : Hp} {a : Addr} {r : Rep} (h : RepAt C H a r) (s : Same H H') : RepAt C H' a r := by
  obtain ⟨dx, e⟩ := h
  exact ⟨dx, s _ _ e⟩
def spTold (K : PySem.W.Frag) : Sp := fun vs H Q _ => ∃ (a : Addr) (r : Rep) (n : Int), vs = [.ref a, .int n] ∧ RepAt (He.ga K "Report") H a r ∧ 0 ≤ n ∧ Out Q H (toldM r n)
theorem ok_told {f : Addr} {fd : FuncData} (F : Fun K "told_marks" "told_marks" s_told_marks f fd) (T : Blt mg) (R : RepT P w K mg base) : FnOk P w K mg base CX0 3 f fd P_told_marks (spTold K) := by
  refine F.ok sc_told_marks (fun vs H Q E h => ?_) (fun cdv A outer s H vs Q E hr h => ?_)
  · obtain ⟨a, r, n, rfl, _⟩ := h
    rfl
  · obtain ⟨a, r, n, rfl, hR, hn, k⟩ := h
    refine ⟨_, (pss_cons
  (ps_setLc (i := 2) rfl sc_told_marks.nd rfl rfl (sw_true rfl rfl rfl (by decide +kernel)) (own := [("mark", 3)]) (g := gName 3) (pi_tup (pe_tup (pa_cons (p_least R (hr.mono (by decide)) (pv 0)) (pa_cons (p_greatest R (hr.mono (by decide)) (pv 0)) pa_nil)))) (blkOk_by (own := [("mark", 3)]) (N := N_told_marks) (sc := defScope s_told_marks) (by decide +kernel)) (fun _ _ _ _ _ => (pg_name (i := 3) sc_told_marks.nd rfl (Or.inl rfl))) (fun _ _ _ _ _ => (pts_one (pt_cmpR op_notN (pv 3) pe_non (nomark _)))) (fun _ _ _ _ _ => (pv 3)))
  (pss_cons
  (ps_if (pt_cmpR op_le (pe_callB call_len_seq (by rfl) T.len (by decide +kernel) (pa_cons (pv 2) pa_nil)) (pv 1) (nomark _)) (pss_one
  (ps_ret (pe_callTy call_tuple_of (by rfl) T.tuple (by decide +kernel) (pa_cons (pv 2) pa_nil)))) pss_nil)
  (pss_one
  (ps_ret (pe_j (pe_ifExp (pt_cmpR op_eq (p_least R (hr.mono (by decide)) (pv 0)) (p_greatest R (hr.mono (by decide)) (pv 0)) (nomark _)) (pe_tup (pa_cons (p_least R (hr.mono (by decide)) (pv 0)) pa_nil)) pe_non)))))), ?_⟩
    refine ⟨_, rfl, a, r, rfl, hR, _, rfl, a, r, rfl, hR, by show 2 ≤ sizeLine; decide, fun p hp => ⟨p, rfl, ⟨_, SqT.of upd_same⟩, fun D hD => ?_⟩⟩
    have s0 := Same.new (o := .tup [oI r.least, oI r.greatest]) hp
    have hpt : upd H p (.tup [oI r.least, oI r.greatest]) p = some (.tup [oI r.least, oI r.greatest]) := upd_same
    have hD : upd H p (.tup [oI r.least, oI r.greatest]) D = none := hD
    show ∃ W : Nat → Nat → Hp → Prop, (∃ m, W 0 m (upd (upd H p (.tup [oI r.least, oI r.greatest])) D (.lst []))) ∧ _
    generalize upd H p (.tup [oI r.least, oI r.greatest]) = H0 at s0 hpt hD
    have l1 : r.least.toList.length ≤ 1 := by cases r.least <;> simp
    refine lc_tup (K := K) (a := p) (xs := [oI r.least, oI r.greatest]) (fun i H1 => Same H0 H1 ∧ H1 D = some (.lst ((match i with | 0 => [] | 1 => r.least.toList | _ => told r).map V.int)))
      ⟨Same.new hD, upd_same⟩ (fun i H1 _ ⟨q, _⟩ => .inl (.inl (q _ _ hpt))) ?_ ?_
    · rintro i x H1 hi ⟨sm, e⟩
      match i, hi with
      | 0, hi =>
        have ex : oI r.least = x := Option.some.inj hi
        subst ex
        refine ⟨rfl, _, rfl, rfl, _, rfl, ?_⟩
        cases el : r.least with
        | none => exact iteF ⟨sm, by rw [e]; simp [el]⟩
        | some j =>
          refine iteT ⟨_, rfl, _, e, by show 0 < sizeLine; decide, fun b o eb => ?_, ?_⟩
          · rw [upd_ne (ne_of_none eb hD)]
            exact sm b o eb
          · rw [upd_same] <;> simp [el, oI]
      | 1, hi =>
        have ex : oI r.greatest = x := Option.some.inj hi
        subst ex
        refine ⟨rfl, _, rfl, rfl, _, rfl, ?_⟩
        cases eg : r.greatest with
        | none => exact iteF ⟨sm, by rw [e]; simp [told, eg]⟩
        | some j =>
          refine iteT ⟨_, rfl, _, e, ?_, fun b o eb => ?_, ?_⟩
          · show (r.least.toList.map V.int).length < sizeLine
            rw [List.length_map]
            exact Nat.lt_of_le_of_lt l1 (by decide)
          · rw [upd_ne (ne_of_none eb hD)]
            exact sm b o eb
          · rw [upd_same] <;> simp [told, eg, oI]
      | i + 2, hi => simp at hi
    · rintro H1 ⟨sm, e⟩
      have s1 : Same H H1 := s0.trans sm
      have e : H1 D = some (.lst ((told r).map V.int)) := e
      refine ⟨_, rfl, _, _, rfl, .inl (SqL.of e), _, rfl, _, _, rfl, rfl, _, rfl, ite2 (fun c => ?_) (fun c => ?_)⟩
      · have c1 : ((told r).length : Int) ≤ n := by simpa using of_decide_eq_true c
        refine ⟨_, rfl, _, _, rfl, .inl ⟨SqL.of e, fun l hl => ?_⟩⟩
        exact k.2 _ (if_pos c1) l _ (s1.trans (Same.new hl)) (s1.free hl) upd_same
      · have c1 : ¬ ((told r).length : Int) ≤ n := fun z => c (decide_eq_true (by simpa using z))
        refine ⟨fun v H2 => (v = .non ∧ r.least ≠ r.greatest ∧ Same H H2) ∨ (∃ q, v = .ref q ∧ r.least = r.greatest ∧ H q = none ∧ Same H H2 ∧ H2 q = some (.tup [oI r.least])), ?_, ?_⟩
        · refine ⟨_, rfl, a, r, rfl, hR.mono s1, _, rfl, a, r, rfl, hR.mono s1, ?_, _, rfl, ite2 (fun c => ?_) (fun c => ?_)⟩
          · exact scal_oI _ _
          · refine ⟨_, rfl, a, r, rfl, hR.mono s1, by show 1 ≤ sizeLine; decide, fun q hq => .inr ⟨q, rfl, oI_inj (of_decide_eq_true c), s1.free hq, s1.trans (Same.new hq), upd_same⟩⟩
          · exact .inl ⟨rfl, fun z => c (decide_eq_true (congrArg oI z)), s1⟩
        · rintro v H2 (⟨rfl, ne, s2⟩ | ⟨q, rfl, eq, hq, s2, e2⟩)
          · refine k.1 ?_ _ s2
            unfold toldM
            rw [if_neg c1, if_neg ne]
          · cases el : r.least with
            | none =>
              exfalso
              have eg : r.greatest = none := by rw [← eq, el]
              refine c1 ?_
              unfold told
              rw [el, eg]
              exact hn
            | some j =>
              refine k.2 r.least.toList ?_ q _ s2 hq ?_
              · unfold toldM
                rw [if_neg c1, if_pos eq]
              · rw [e2, el] <;> rfl
theorem cal_told {f : Addr} {fd : FuncData} (F : Fun K "told_marks" "told_marks" s_told_marks f fd) (hm : mg "told_marks" = some (.ref f)) (T : Blt mg) (R : RepT P w K mg base) : Cal P w K mg base "told_marks" 3 P_told_marks (spTold K) :=
  ⟨f, fd, ok_told F T R, F.binds fun _ _ _ _ _ _ us hl => match us, hl with | [_, _], _ => rfl, F.kp, hm⟩
def spRange (K : PySem.W.Frag) : Sp := fun vs H Q _ => ∃ (a : Addr) (r : Rep), vs = [.ref a] ∧ RepAt (He.ga K "Report") H a r ∧ ∀ (p : Addr) (H' : Hp), Same H H' → H p = none → H' p = some (.tup [.int (loR r), .int (hiR r)]) → Q (.ref p) H'
theorem ok_range {f : Addr} {fd : FuncData} (F : Fun K "mark_range" "mark_range" s_mark_range f fd) (R : RepT P w K mg base) : FnOk P w K mg base CX0 3 f fd P_mark_range (spRange K) := by
  refine F.ok sc_mark_range (fun vs H Q E h => ?_) (fun cdv A outer s H vs Q E hr h => ?_)
  · obtain ⟨a, r, rfl, _⟩ := h
    rfl
  · obtain ⟨a, r, rfl, hR, k⟩ := h
    refine ⟨_, (pss_cons
  (ps_set (i := 1) sc_mark_range.nd rfl (Or.inl rfl) (pe_j (pe_ifExp (pt_cmpR op_isN (p_least R (hr.mono (by decide)) (pv 0)) pe_non (nomark _)) (p_low R (hr.mono (by decide)) (pv 0)) (p_least R (hr.mono (by decide)) (pv 0)))))
  (pss_cons
  (ps_set (i := 2) sc_mark_range.nd rfl (Or.inl rfl) (pe_j (pe_ifExp (pt_cmpR op_isN (p_greatest R (hr.mono (by decide)) (pv 0)) pe_non (nomark _)) (p_high R (hr.mono (by decide)) (pv 0)) (p_greatest R (hr.mono (by decide)) (pv 0)))))
  (pss_one
  (ps_ret (pe_tup (pa_cons (pv 1) (pa_cons (pv 2) pa_nil))))))), ?_⟩
    refine ⟨fun v H' => v = .int (loR r) ∧ H' = H, ⟨_, rfl, a, r, rfl, hR, rfl, _, rfl, ?_⟩, ?_⟩
    · refine ite2 (fun c => ⟨_, rfl, a, r, rfl, hR, ?_, rfl⟩) (fun c => ⟨_, rfl, a, r, rfl, hR, ?_, rfl⟩)
      · have e := oI_non.mp (of_decide_eq_true c)
        show V.int r.low = V.int (loR r)
        unfold loR
        rw [e] <;> rfl
      · obtain ⟨j, e⟩ := oI_some c
        show oI r.least = V.int (loR r)
        unfold loR
        rw [e] <;> rfl
    rintro v H' ⟨rfl, rfl⟩
    refine ⟨fun v H2 => v = .int (hiR r) ∧ H2 = H', ⟨_, rfl, a, r, rfl, hR, rfl, _, rfl, ?_⟩, ?_⟩
    · refine ite2 (fun c => ⟨_, rfl, a, r, rfl, hR, ?_, rfl⟩) (fun c => ⟨_, rfl, a, r, rfl, hR, ?_, rfl⟩)
      · have e := oI_non.mp (of_decide_eq_true c)
        show V.int r.high = V.int (hiR r)
        unfold hiR
        rw [e] <;> rfl
      · obtain ⟨j, e⟩ := oI_some c
        show oI r.greatest = V.int (hiR r)
        unfold hiR
        rw [e] <;> rfl
    rintro v H2 ⟨rfl, rfl⟩
    exact ⟨_, rfl, _, rfl, by show 2 ≤ sizeLine; decide, fun p hp => k p _ (Same.new hp) hp upd_same⟩
theorem cal_range {f : Addr} {fd : FuncData} (F : Fun K "mark_range" "mark_range" s_mark_range f fd) (hm : mg "mark_range" = some (.ref f)) (R : RepT P w K mg base) : Cal P w K mg base "mark_range" 3 P_mark_range (spRange K) :=
  ⟨f, fd, ok_range F R, F.binds fun _ _ _ _ _ _ us hl => match us, hl with | [_], _ => rfl, F.kp, hm⟩
end
end Mn
set_option Elab.async false
set_option linter.all false
set_option maxRecDepth 100000
set_option maxHeartbeats 4000000
/-! sum_range, can_mean. -/
namespace Mn
open PySem L2 TL
/-- sums_with(report, n, report.mean) -/
def sumsM (r : Rep) (n : Int) : Option (List Int) := match toldM r n with
  | none => none
  | some l =>
    let a := l.sum + (n - (l.length : Int)) * loR r
    let b := -((-n * (2 * r.mean.1 - 1)).fdiv (2 * ((10 ^ r.mean.2 : Nat) : Int)))
    let c := l.sum + (n - (l.length : Int)) * hiR r
    let d := (n * (2 * r.mean.1 + 1)).fdiv (2 * ((10 ^ r.mean.2 : Nat) : Int))
    if (if b > a then b else a) ≤ (if d < c then d else c) then some [if b > a then b else a, if d < c then d else c] else none
theorem Rep.ok.lo {r : Rep} (h : r.ok) : -50 ≤ loR r ∧ loR r ≤ 50 := by
  have h1 := h.low0
  have h2 := h.low1
  have h3 := h.high2
  unfold loR
  cases e : r.least with
  | none => exact ⟨h1, by show r.low ≤ 50; omega⟩
  | some i =>
    have := h.least i e
    exact ⟨by show -50 ≤ i; omega, by show i ≤ 50; omega⟩
theorem Rep.ok.hi {r : Rep} (h : r.ok) : -50 ≤ hiR r ∧ hiR r ≤ 50 := by
  have h1 := h.low0
  have h2 := h.high0
  have h3 := h.high2
  unfold hiR
  cases e : r.greatest with
  | none => exact ⟨by show -50 ≤ r.high; omega, h3⟩
  | some i =>
    have := h.greatest i e
    exact ⟨by show -50 ≤ i; omega, by show i ≤ 50; omega⟩
theorem okT_abs {p : Int × Nat} (h : okT p) : p.1.natAbs < 100000000 := by
  obtain ⟨h1, h2⟩ := h
  have h3 : (10 : Nat) ^ p.2 ≤ 10 ^ 4 := Nat.pow_le_pow_right (by decide) h1
  have h4 := Nat.div_add_mod p.1.natAbs (10 ^ p.2)
  have h5 := Nat.mod_lt p.1.natAbs (show 0 < 10 ^ p.2 from Nat.pow_pos (by decide))
  have h6 : 10 ^ p.2 * (p.1.natAbs / 10 ^ p.2) ≤ 10 ^ p.2 * 9999 := Nat.mul_le_mul_left _ (by omega)
  have h7 : 10 ^ p.2 * 9999 + 10 ^ p.2 ≤ 10 ^ 4 * 10000 := by omega
  omega
theorem told_le {r : Rep} {n : Int} {l : List Int} (h : toldM r n = some l) : (l.length : Int) ≤ 2 := by
  unfold toldM at h
  split at h
  · cases h
    unfold told
    cases r.least <;> cases r.greatest <;> simp
  · split at h
    · cases h
      cases r.least <;> simp
    · cases h
section
variable {P : Program} {w : World} {K : PySem.W.Frag} {mg : Str → Option Value} {base : Heap}
theorem Out.mono {Q : VK} {H H' : Hp} {o : Option (List Int)} (k : Out Q H o) (s : Same H H') : Out Q H' o := ⟨fun e H2 s2 => k.1 e H2 (s.trans s2), fun l e p H2 s2 hp q => k.2 l e p H2 (s.trans s2) (s.free hp) q⟩
def spSums (K : PySem.W.Frag) : Sp := fun vs H Q _ => ∃ (a : Addr) (r : Rep) (n : Int), vs = [.ref a, .int n, .str (Mn.T r.mean.1 r.mean.2)] ∧ RepAt (He.ga K "Report") H a r ∧ r.ok ∧ 0 ≤ n ∧ n ≤ 1000000 ∧ Out Q H (sumsM r n)
/-- end_sums(report, n) -/
def endM (r : Rep) (n : Int) : Option (List Int) := match toldM r n with
  | none => none
  | some l => some [l.sum + (n - (l.length : Int)) * loR r, l.sum + (n - (l.length : Int)) * hiR r]
def spEnd (K : PySem.W.Frag) : Sp := fun vs H Q _ => ∃ (a : Addr) (r : Rep) (n : Int), vs = [.ref a, .int n] ∧ RepAt (He.ga K "Report") H a r ∧ r.ok ∧ 0 ≤ n ∧ n ≤ 1000000 ∧ Out Q H (endM r n)
theorem ok_end {f : Addr} {fd : FuncData} (F : Fun K "end_sums" "end_sums" s_end_sums f fd) (T : Blt mg) (R : RepT P w K mg base) (C_told_marks : Cal P w K mg base "told_marks" 3 P_told_marks (spTold K)) (C_mark_range : Cal P w K mg base "mark_range" 3 P_mark_range (spRange K)) :
    FnOk P w K mg base CX0 4 f fd P_end_sums (spEnd K) := by
  refine F.ok sc_end_sums (fun vs H Q E h => ?_) (fun cdv A outer s H vs Q E hr h => ?_)
  · obtain ⟨a, r, n, rfl, _⟩ := h
    rfl
  · obtain ⟨a, r, n, rfl, hR, ok, n0, n1, k⟩ := h
    refine ⟨_, (pss_cons
  (ps_set (i := 2) sc_end_sums.nd rfl (Or.inl rfl) (pe_own C_told_marks (hr.mono (by decide)) (pa_cons (pv 0) (pa_cons (pv 1) pa_nil))))
  (pss_cons
  (ps_if (pt_cmpR op_isN (pv 2) pe_non (nomark _)) (pss_one
  (ps_ret pe_non)) pss_nil)
  (pss_cons
  (ps_asg (pe_own C_mark_range (hr.mono (by decide)) (pa_cons (pv 0) pa_nil)) (pg_tup rfl (pgs_cons (pg_name (i := 3) sc_end_sums.nd rfl (Or.inl rfl)) (pgs_cons (pg_name (i := 4) sc_end_sums.nd rfl (Or.inl rfl)) pgs_nil))))
  (pss_cons
  (ps_set (i := 5) sc_end_sums.nd rfl (Or.inl rfl) (pe_op op_sub (pv 1) (pe_callB call_len_seq (by rfl) T.len (by decide +kernel) (pa_cons (pv 2) pa_nil))))
  (pss_one
  (ps_ret (pe_tup (pa_cons (pe_op op_add (pe_callB (cr_sumS rfl) (by rfl) T.sum (by decide +kernel) (pa_cons (pv 2) pa_nil)) (pe_op op_mul (pv 5) (pv 3))) (pa_cons (pe_op op_add (pe_callB (cr_sumS rfl) (by rfl) T.sum (by decide +kernel) (pa_cons (pv 2) pa_nil)) (pe_op op_mul (pv 5) (pv 4))) pa_nil))))))))), ?_⟩
    refine ⟨_, rfl, _, rfl, a, r, n, rfl, hR, n0, ?_⟩
    cases e : toldM r n with
    | none =>
      refine ⟨fun _ H1 s1 => ?_, fun l z => nomatch z⟩
      refine ⟨_, rfl, rfl, _, rfl, iteT ?_⟩
      exact k.1 (by unfold endM; rw [e]) H1 s1
    | some l =>
      refine ⟨fun z => (nomatch z), fun l' e' p H1 s1 hp hl => ?_⟩
      cases e'
      have l2 := told_le e
      have lb := ok.lo
      have hb := ok.hi
      refine ⟨_, rfl, rfl, _, rfl, iteF ?_⟩
      refine ⟨_, rfl, a, r, rfl, hR.mono s1, fun q H2 s2 hq hm => ?_⟩
      refine ⟨q, _, rfl, SqT.of hm, rfl, _, _, rfl, _, _, rfl, rfl, ?_⟩
      have hl2 := s2 _ _ hl
      refine ⟨_, rfl, _, rfl, _, _, rfl, .inr (SqT.of hl2), _, _, rfl, rfl, ?_⟩
      have s12 := s1.trans s2
      have el : (l.map V.int).length = l.length := List.length_map ..
      refine ⟨_, rfl, _, _, rfl, .inr (SqT.of hl2), _, rfl, _, rfl, _, _, rfl, rfl, .inr ⟨by omega, by omega⟩, _, _, rfl, rfl, ?_⟩
      refine ⟨_, rfl, _, _, rfl, .inr (SqT.of hl2), _, rfl, _, rfl, _, _, rfl, rfl, .inr ⟨by omega, by omega⟩, _, _, rfl, rfl, ?_⟩
      have k2 := k.mono s12
      unfold endM at k2
      rw [e] at k2
      dsimp only at k2
      rw [el]
      refine ⟨by show 2 ≤ sizeLine; decide, fun z hz => ?_⟩
      exact k2.2 _ rfl z _ (Same.new hz) hz upd_same
theorem cal_end {f : Addr} {fd : FuncData} (F : Fun K "end_sums" "end_sums" s_end_sums f fd) (hm : mg "end_sums" = some (.ref f)) (T : Blt mg) (R : RepT P w K mg base) (C_told_marks : Cal P w K mg base "told_marks" 3 P_told_marks (spTold K)) (C_mark_range : Cal P w K mg base "mark_range" 3 P_mark_range (spRange K)) :
    Cal P w K mg base "end_sums" 4 P_end_sums (spEnd K) :=
  ⟨f, fd, ok_end F T R C_told_marks C_mark_range, F.binds fun _ _ _ _ _ _ us hl => match us, hl with | [_, _], _ => rfl, F.kp, hm⟩
theorem ok_sums {f : Addr} {fd : FuncData} (F : Fun K "sums_with" "sums_with" s_sums_with f fd) (T : Blt mg) (R : RepT P w K mg base) (C_end_sums : Cal P w K mg base "end_sums" 4 P_end_sums (spEnd K))
    (C_print_bounds : Cal P w K mg base "print_bounds" 1 P_print_bounds spBounds) : FnOk P w K mg base CX0 5 f fd P_sums_with (spSums K) := by
  refine F.ok sc_sums_with (fun vs H Q E h => ?_) (fun cdv A outer s H vs Q E hr h => ?_)
  · obtain ⟨a, r, n, rfl, _⟩ := h
    rfl
  · obtain ⟨a, r, n, rfl, hR, ok, n0, n1, k⟩ := h
    refine ⟨_, (pss_cons
  (ps_set (i := 3) sc_sums_with.nd rfl (Or.inl rfl) (pe_own C_end_sums (hr.mono (by decide)) (pa_cons (pv 0) (pa_cons (pv 1) pa_nil))))
  (pss_cons
  (ps_if (pt_cmpR op_isN (pv 3) pe_non (nomark _)) (pss_one
  (ps_ret pe_non)) pss_nil)
  (pss_cons
  (ps_asg (pe_own C_print_bounds (hr.mono (by decide)) (pa_cons (pv 2) pa_nil)) (pg_tup rfl (pgs_cons (pg_name (i := 4) sc_sums_with.nd rfl (Or.inl rfl)) (pgs_cons (pg_name (i := 5) sc_sums_with.nd rfl (Or.inl rfl)) (pgs_cons (pg_name (i := 6) sc_sums_with.nd rfl (Or.inl rfl)) pgs_nil)))))
  (pss_cons
  (ps_set (i := 7) sc_sums_with.nd rfl (Or.inl rfl) (pe_callB (call_max2 rfl) (by rfl) T.max (by decide +kernel) (pa_cons (pe_ix ix_tup (pv 3) pe_int (fun _ _ => rfl)) (pa_cons (pe_un un_neg (pe_op op_fdivN (pe_op op_mul (pe_un un_neg (pv 1)) (pv 4)) (pv 6))) pa_nil))))
  (pss_cons
  (ps_set (i := 8) sc_sums_with.nd rfl (Or.inl rfl) (pe_callB (call_min2 rfl) (by rfl) T.min (by decide +kernel) (pa_cons (pe_ix ix_tup (pv 3) pe_int (fun _ _ => rfl)) (pa_cons (pe_op op_fdivN (pe_op op_mul (pv 1) (pv 5)) (pv 6)) pa_nil))))
  (pss_one
  (ps_ret (pe_j (pe_ifExp (pt_cmpR op_le (pv 7) (pv 8) (nomark _)) (pe_tup (pa_cons (pv 7) (pa_cons (pv 8) pa_nil))) pe_non))))))))), ?_⟩
    refine ⟨_, rfl, _, rfl, a, r, n, rfl, hR, ok, n0, n1, ?_⟩
    unfold endM
    cases e : toldM r n with
    | none =>
      refine ⟨fun _ H1 s1 => ?_, fun l z => nomatch z⟩
      refine ⟨_, rfl, rfl, _, rfl, iteT ?_⟩
      exact k.1 (by unfold sumsM; rw [e]) H1 s1
    | some l =>
      refine ⟨fun z => (nomatch z), fun l' e' p H1 s1 hp hl => ?_⟩
      cases e'
      have l2 := told_le e
      have lb := ok.lo
      have hb := ok.hi
      have ub := okT_abs ok.mean
      have p10 : ((10 ^ r.mean.2 : Nat) : Int) ≤ 10000 := by
        have h1 : (10 : Nat) ^ r.mean.2 ≤ 10 ^ 4 := Nat.pow_le_pow_right (by decide) ok.mean.1
        omega
      have p0 : (0 : Int) < ((10 ^ r.mean.2 : Nat) : Int) := by
        have : 0 < (10 : Nat) ^ r.mean.2 := Nat.pow_pos (by decide)
        omega
      refine ⟨_, rfl, rfl, _, rfl, iteF ?_⟩
      refine ⟨_, rfl, r.mean.1, r.mean.2, rfl, ok.mean.1, by omega, fun q3 H3 hq3 s3 hb3 => ?_⟩
      refine ⟨q3, _, rfl, SqT.of hb3, rfl, _, _, rfl, _, _, rfl, _, _, rfl, rfl, ?_⟩
      have hl3 := s3 _ _ hl
      have s13 := s1.trans s3
      -- least
      refine ⟨_, rfl, p, _, _, _, rfl, rfl, SqT.of hl3, rfl, _, rfl, _, rfl, _, rfl, _, _, rfl, rfl, .inl ⟨by omega, by omega⟩, _, rfl, _, _, rfl, rfl, ⟨by omega, by omega⟩, _, rfl, _, _, rfl, ?_⟩
      -- greatest
      refine ⟨_, rfl, p, _, _, _, rfl, rfl, SqT.of hl3, rfl, _, rfl, _, rfl, _, _, rfl, rfl, .inl ⟨by omega, by omega⟩, _, rfl, _, _, rfl, rfl, ⟨by omega, by omega⟩, _, _, rfl, ?_⟩
      have k2 := k.mono s13
      unfold sumsM at k2
      rw [e] at k2
      dsimp only at k2
      generalize (if -((-n * (2 * r.mean.1 - 1)).fdiv (2 * ((10 ^ r.mean.2 : Nat) : Int))) > l.sum + (n - (l.length : Int)) * loR r then -((-n * (2 * r.mean.1 - 1)).fdiv (2 * ((10 ^ r.mean.2 : Nat) : Int))) else l.sum + (n - (l.length : Int)) * loR r) = A at k2 ⊢
      generalize (if (n * (2 * r.mean.1 + 1)).fdiv (2 * ((10 ^ r.mean.2 : Nat) : Int)) < l.sum + (n - (l.length : Int)) * hiR r then (n * (2 * r.mean.1 + 1)).fdiv (2 * ((10 ^ r.mean.2 : Nat) : Int)) else l.sum + (n - (l.length : Int)) * hiR r) = B at k2 ⊢
      refine ⟨Q, ⟨_, rfl, _, rfl, _, _, rfl, rfl, _, rfl, ite2 (fun c => ?_) (fun c => ?_)⟩, fun _ _ z => z⟩
      · refine ⟨_, rfl, _, rfl, by show 2 ≤ sizeLine; decide, fun z hz => ?_⟩
        exact k2.2 [A, B] (if_pos (of_decide_eq_true c)) z _ (Same.new hz) hz upd_same
      · exact k2.1 (if_neg fun q => c (decide_eq_true q)) _ (Same.refl _)
theorem cal_sums {f : Addr} {fd : FuncData} (F : Fun K "sums_with" "sums_with" s_sums_with f fd) (hm : mg "sums_with" = some (.ref f)) (T : Blt mg) (R : RepT P w K mg base) (C_end_sums : Cal P w K mg base "end_sums" 4 P_end_sums (spEnd K))
    (C_print_bounds : Cal P w K mg base "print_bounds" 1 P_print_bounds spBounds) : Cal P w K mg base "sums_with" 5 P_sums_with (spSums K) :=
  ⟨f, fd, ok_sums F T R C_end_sums C_print_bounds, F.binds fun _ _ _ _ _ _ us hl => match us, hl with | [_, _, _], _ => rfl, F.kp, hm⟩
def spSumRange (K : PySem.W.Frag) : Sp := fun vs H Q _ => ∃ (a : Addr) (r : Rep), vs = [.ref a] ∧ RepAt (He.ga K "Report") H a r ∧ r.ok ∧ Out Q H (sumsM r r.size)
theorem ok_sumrange {f : Addr} {fd : FuncData} (F : Fun K "sum_range" "sum_range" s_sum_range f fd) (R : RepT P w K mg base) (C_sums_with : Cal P w K mg base "sums_with" 5 P_sums_with (spSums K)) : FnOk P w K mg base CX0 6 f fd P_sum_range (spSumRange K) := by
  refine F.ok sc_sum_range (fun vs H Q E h => ?_) (fun cdv A outer s H vs Q E hr h => ?_)
  · obtain ⟨a, r, rfl, _⟩ := h
    rfl
  · obtain ⟨a, r, rfl, hR, ok, k⟩ := h
    refine ⟨_, (pss_one
  (ps_ret (pe_own C_sums_with (hr.mono (by decide)) (pa_cons (pv 0) (pa_cons (p_size R (hr.mono (by decide)) (pv 0)) (pa_cons (p_mean R (hr.mono (by decide)) (pv 0)) pa_nil)))))), ?_⟩
    have h1 := ok.size0
    exact ⟨_, rfl, _, rfl, a, r, rfl, hR, _, rfl, a, r, rfl, hR, a, r, r.size, rfl, hR, ok, by omega, ok.size1, k⟩
theorem cal_sumrange {f : Addr} {fd : FuncData} (F : Fun K "sum_range" "sum_range" s_sum_range f fd) (hm : mg "sum_range" = some (.ref f)) (R : RepT P w K mg base) (C_sums_with : Cal P w K mg base "sums_with" 5 P_sums_with (spSums K)) : Cal P w K mg base "sum_range" 6 P_sum_range (spSumRange K) :=
  ⟨f, fd, ok_sumrange F R C_sums_with, F.binds fun _ _ _ _ _ _ us hl => match us, hl with | [_], _ => rfl, F.kp, hm⟩
end
end Mn
set_option Elab.async false
set_option linter.all false
set_option maxRecDepth 100000
set_option maxHeartbeats 4000000
/-! can_mean. -/
namespace Mn
open PySem L2 TL
section
variable {P : Program} {w : World} {K : PySem.W.Frag} {mg : Str → Option Value} {base : Heap}
def spCanMean (K : PySem.W.Frag) : Sp := fun vs H Q _ => ∃ (a : Addr) (r : Rep), vs = [.ref a] ∧ RepAt (He.ga K "Report") H a r ∧ r.ok ∧ ∀ H', Same H H' → Q (.bl (sumsM r r.size).isSome) H'
theorem ok_canmean {f : Addr} {fd : FuncData} (F : Fun K "can_mean" "can_mean" s_can_mean f fd) (C_sum_range : Cal P w K mg base "sum_range" 6 P_sum_range (spSumRange K)) : FnOk P w K mg base CX0 7 f fd P_can_mean (spCanMean K) := by
  refine F.ok sc_can_mean (fun vs H Q E h => ?_) (fun cdv A outer s H vs Q E hr h => ?_)
  · obtain ⟨a, r, rfl, _⟩ := h
    rfl
  · obtain ⟨a, r, rfl, hR, ok, k⟩ := h
    refine ⟨_, (pss_one
  (ps_ret (pe_cmpR op_notN (pe_own C_sum_range (hr.mono (by decide)) (pa_cons (pv 0) pa_nil)) pe_non (nomark _)))), ?_⟩
    refine ⟨_, rfl, a, r, rfl, hR, ok, fun e H1 s1 => ⟨rfl, ?_⟩, fun l e p H1 s1 hp hl => ⟨rfl, ?_⟩⟩
    · have q := k H1 s1
      rw [e] at q
      exact q
    · have q := k H1 s1
      rw [e] at q
      exact q
theorem cal_canmean {f : Addr} {fd : FuncData} (F : Fun K "can_mean" "can_mean" s_can_mean f fd) (hm : mg "can_mean" = some (.ref f)) (C_sum_range : Cal P w K mg base "sum_range" 6 P_sum_range (spSumRange K)) : Cal P w K mg base "can_mean" 7 P_can_mean (spCanMean K) :=
  ⟨f, fd, ok_canmean F C_sum_range, F.binds fun _ _ _ _ _ _ us hl => match us, hl with | [_], _ => rfl, F.kp, hm⟩
end
end Mn
set_option Elab.async false
set_option linter.all false
set_option maxRecDepth 100000
set_option maxHeartbeats 8000000
/-! law k03. -/
namespace Mn
open PySem L2 TL
/-! ### mathematics -/
def canM (r : Rep) (t : Int) : Bool := decide (loR r * r.size + (if r.greatest = none then 0 else hiR r - loR r) ≤ t ∧ t ≤ hiR r * r.size - (if r.least = none then 0 else hiR r - loR r))
def prM (r : Rep) (t : Int) : Bool := decide (-r.size ≤ 2 * (t * ((10 ^ r.mean.2 : Nat) : Int) - r.mean.1 * r.size) ∧ 2 * (t * ((10 ^ r.mean.2 : Nat) : Int) - r.mean.1 * r.size) ≤ r.size)
theorem pr_iff {p S u t : Int} (p0 : 0 < p) : (-S ≤ 2 * (t * p - u * S) ∧ 2 * (t * p - u * S) ≤ S) ↔ (-((-S * (2 * u - 1)).fdiv (2 * p)) ≤ t ∧ t ≤ (S * (2 * u + 1)).fdiv (2 * p)) := by
  have hP : 0 < 2 * p := by omega
  rw [Int.fdiv_eq_ediv_of_nonneg _ (by omega), Int.fdiv_eq_ediv_of_nonneg _ (by omega)]
  have q1 := Int.le_ediv_iff_mul_le (a := -t) (b := -S * (2 * u - 1)) hP
  have e1 : -t * (2 * p) = -(2 * (t * p)) := by rw [Int.neg_mul, Int.mul_left_comm]
  have e2 : -S * (2 * u - 1) = -(2 * (u * S)) + S := by rw [Int.mul_sub, Int.mul_one, Int.neg_mul, Int.mul_left_comm, Int.mul_comm S u]; omega
  have q2 := Int.le_ediv_iff_mul_le (a := t) (b := S * (2 * u + 1)) hP
  have e3 : t * (2 * p) = 2 * (t * p) := Int.mul_left_comm _ _ _
  have e4 : S * (2 * u + 1) = 2 * (u * S) + S := by rw [Int.mul_add, Int.mul_one, Int.mul_left_comm, Int.mul_comm S u]
  rw [e1, e2] at q1
  rw [e3, e4] at q2
  rw [e2, e4]
  generalize (-(2 * (u * S)) + S) / (2 * p) = x at q1 ⊢
  generalize (2 * (u * S) + S) / (2 * p) = y at q2 ⊢
  generalize u * S = a at q1 q2 ⊢
  generalize t * p = b at q1 q2 ⊢
  constructor
  · intro h
    have h1 := q1.mpr (by omega)
    have h2 := q2.mpr (by omega)
    omega
  · intro h
    have h1 := q1.mp (by omega)
    have h2 := q2.mp (by omega)
    omega
theorem can_iff {r : Rep} {t : Int} : (loR r * r.size + (if r.greatest = none then 0 else hiR r - loR r) ≤ t ∧ t ≤ hiR r * r.size - (if r.least = none then 0 else hiR r - loR r)) ↔
    ((told r).sum + (r.size - ((told r).length : Int)) * loR r ≤ t ∧ t ≤ (told r).sum + (r.size - ((told r).length : Int)) * hiR r) := by
  have e1 : ∀ k x : Int, (r.size - k) * x = x * r.size - k * x := fun k x => by rw [Int.sub_mul, Int.mul_comm]
  rw [e1, e1]
  unfold told loR hiR
  cases hl : r.least <;> cases hg : r.greatest <;> simp <;> omega
/-- the least and the greatest sum, as the program works them out for two marks or more -/
theorem sums_math {r : Rep} (h2 : 2 ≤ r.size) : ∃ A B : Int, (sumsM r r.size = if A ≤ B then some [A, B] else none) ∧ ∀ t, (canM r t && prM r t) = decide (A ≤ t ∧ t ≤ B) := by
  have tl2 : ((told r).length : Int) ≤ r.size := by
    unfold told
    cases r.least <;> cases r.greatest <;> simp <;> omega
  have p0 : (0 : Int) < ((10 ^ r.mean.2 : Nat) : Int) := by
    have : 0 < (10 : Nat) ^ r.mean.2 := Nat.pow_pos (by decide)
    omega
  have e1 : toldM r r.size = some (told r) := if_pos tl2
  refine ⟨_, _, by unfold sumsM; rw [e1], fun t => ?_⟩
  unfold canM prM
  rw [decide_eq_decide.mpr (can_iff (r := r) (t := t)), decide_eq_decide.mpr (pr_iff (p := ((10 ^ r.mean.2 : Nat) : Int)) (S := r.size) (u := r.mean.1) (t := t) p0), ← Bool.decide_and]
  refine decide_eq_decide.mpr ?_
  generalize (told r).sum + (r.size - ((told r).length : Int)) * loR r = a
  generalize (told r).sum + (r.size - ((told r).length : Int)) * hiR r = c
  generalize -((-r.size * (2 * r.mean.1 - 1)).fdiv (2 * ((10 ^ r.mean.2 : Nat) : Int))) = b
  generalize (r.size * (2 * r.mean.1 + 1)).fdiv (2 * ((10 ^ r.mean.2 : Nat) : Int)) = d
  split <;> split <;> omega
section
variable {P : Program} {w : World} {K : PySem.W.Frag} {mg : Str → Option Value} {base : Heap}
/-- _law_can(report, t) -/
def spCan (K : PySem.W.Frag) : Sp := fun vs H Q _ => ∃ (a : Addr) (r : Rep) (t : Int), vs = [.ref a, .int t] ∧ RepAt (He.ga K "Report") H a r ∧ r.ok ∧ Q (.bl (canM r t)) H
theorem ok_can {f : Addr} {fd : FuncData} (F : Fun K "_law_can" "_law_can" s_l_can f fd) (R : RepT P w K mg base) : FnOk P w K mg base CX0 3 f fd P_l_can (spCan K) := by
  refine F.ok sc_l_can (fun vs H Q E h => ?_) (fun cdv A outer s H vs Q E hr h => ?_)
  · obtain ⟨a, r, t, rfl, _⟩ := h
    rfl
  · obtain ⟨a, r, t, rfl, hR, ok, k⟩ := h
    have lb := ok.lo
    have hb := ok.hi
    have h1 := ok.size0
    have h2 := ok.size1
    refine ⟨_, (pss_cons
  (ps_set (i := 2) sc_l_can.nd rfl (Or.inl rfl) (pe_j (pe_ifExp (pt_cmpR op_isN (p_least R (hr.mono (by decide)) (pv 0)) pe_non (nomark _)) (p_low R (hr.mono (by decide)) (pv 0)) (p_least R (hr.mono (by decide)) (pv 0)))))
  (pss_cons
  (ps_set (i := 3) sc_l_can.nd rfl (Or.inl rfl) (pe_j (pe_ifExp (pt_cmpR op_isN (p_greatest R (hr.mono (by decide)) (pv 0)) pe_non (nomark _)) (p_high R (hr.mono (by decide)) (pv 0)) (p_greatest R (hr.mono (by decide)) (pv 0)))))
  (pss_cons
  (ps_set (i := 4) sc_l_can.nd rfl (Or.inl rfl) (pe_op op_add (pe_op op_mul (pv 2) (p_size R (hr.mono (by decide)) (pv 0))) (pe_j (pe_ifExp (pt_cmpR op_isN (p_greatest R (hr.mono (by decide)) (pv 0)) pe_non (nomark _)) pe_int (pe_op op_sub (pv 3) (pv 2))))))
  (pss_cons
  (ps_set (i := 5) sc_l_can.nd rfl (Or.inl rfl) (pe_op op_sub (pe_op op_mul (pv 3) (p_size R (hr.mono (by decide)) (pv 0))) (pe_j (pe_ifExp (pt_cmpR op_isN (p_least R (hr.mono (by decide)) (pv 0)) pe_non (nomark _)) pe_int (pe_op op_sub (pv 3) (pv 2))))))
  (pss_one
  (ps_ret (pe_chain op_le op_le (pv 4) (pv 1) (pv 5)))))))), ?_⟩
    refine ⟨fun v H' => v = .int (loR r) ∧ H' = H, ⟨_, rfl, a, r, rfl, hR, rfl, _, rfl, ?_⟩, ?_⟩
    · refine ite2 (fun c => ⟨_, rfl, a, r, rfl, hR, ?_, rfl⟩) (fun c => ⟨_, rfl, a, r, rfl, hR, ?_, rfl⟩)
      · have e := oI_non.mp (of_decide_eq_true c)
        show V.int r.low = V.int (loR r)
        unfold loR
        rw [e] <;> rfl
      · obtain ⟨j, e⟩ := oI_some c
        show oI r.least = V.int (loR r)
        unfold loR
        rw [e] <;> rfl
    rintro v H' ⟨rfl, rfl⟩
    refine ⟨fun v H2 => v = .int (hiR r) ∧ H2 = H', ⟨_, rfl, a, r, rfl, hR, rfl, _, rfl, ?_⟩, ?_⟩
    · refine ite2 (fun c => ⟨_, rfl, a, r, rfl, hR, ?_, rfl⟩) (fun c => ⟨_, rfl, a, r, rfl, hR, ?_, rfl⟩)
      · have e := oI_non.mp (of_decide_eq_true c)
        show V.int r.high = V.int (hiR r)
        unfold hiR
        rw [e] <;> rfl
      · obtain ⟨j, e⟩ := oI_some c
        show oI r.greatest = V.int (hiR r)
        unfold hiR
        rw [e] <;> rfl
    rintro v H2 ⟨rfl, rfl⟩
    -- least
    refine ⟨_, rfl, _, rfl, a, r, rfl, hR, _, _, rfl, rfl, .inl ⟨by omega, by omega⟩, ?_⟩
    refine ⟨fun v H3 => v = .int (if r.greatest = none then 0 else hiR r - loR r) ∧ H3 = H2, ⟨_, rfl, a, r, rfl, hR, rfl, _, rfl, ite2 (fun c => ?_) (fun c => ?_)⟩, ?_⟩
    · have e := oI_non.mp (of_decide_eq_true c)
      exact ⟨by rw [if_pos e], rfl⟩
    · have e : ¬ r.greatest = none := fun z => c (decide_eq_true (oI_non.mpr z))
      exact ⟨_, rfl, _, rfl, _, _, rfl, rfl, by rw [if_neg e], rfl⟩
    rintro v H3 ⟨rfl, rfl⟩
    refine ⟨_, _, rfl, rfl, ?_⟩
    -- most
    refine ⟨_, rfl, _, rfl, a, r, rfl, hR, _, _, rfl, rfl, .inl ⟨by omega, by omega⟩, ?_⟩
    refine ⟨fun v H4 => v = .int (if r.least = none then 0 else hiR r - loR r) ∧ H4 = H3, ⟨_, rfl, a, r, rfl, hR, rfl, _, rfl, ite2 (fun c => ?_) (fun c => ?_)⟩, ?_⟩
    · have e := oI_non.mp (of_decide_eq_true c)
      exact ⟨by rw [if_pos e], rfl⟩
    · have e : ¬ r.least = none := fun z => c (decide_eq_true (oI_non.mpr z))
      exact ⟨_, rfl, _, rfl, _, _, rfl, rfl, by rw [if_neg e], rfl⟩
    rintro v H4 ⟨rfl, rfl⟩
    refine ⟨_, _, rfl, rfl, _, rfl, _, rfl, _, _, rfl, rfl, _, rfl, ?_⟩
    unfold canM at k
    refine ite2 (fun c => ?_) (fun c => ?_)
    · have c1 := of_decide_eq_true c
      refine ⟨_, rfl, _, _, rfl, rfl, ?_⟩
      rw [decide_eq_decide.mpr ⟨fun q => q.2, fun q => ⟨c1, q⟩⟩] at k
      exact k
    · have c1 : ¬ _ := fun z => c (decide_eq_true z)
      rw [decide_eq_false fun q => c1 q.1] at k
      exact k
theorem cal_can {f : Addr} {fd : FuncData} (F : Fun K "_law_can" "_law_can" s_l_can f fd) (hm : mg "_law_can" = some (.ref f)) (R : RepT P w K mg base) : Cal P w K mg base "_law_can" 3 P_l_can (spCan K) :=
  ⟨f, fd, ok_can F R, F.binds fun _ _ _ _ _ _ us hl => match us, hl with | [_, _], _ => rfl, F.kp, hm⟩
end
end Mn
set_option Elab.async false
set_option linter.all false
set_option maxRecDepth 100000
set_option maxHeartbeats 16000000
/-! law k03: the law itself. -/
namespace Mn
open PySem L2 TL
section
variable {P : Program} {w : World} {K : PySem.W.Frag} {mg : Str → Option Value} {base : Heap}
theorem Dr.same {H H' : Hp} {d : Addr} (h : Dr H d) (s : Same H H') : Dr H' d := by
  obtain ⟨a, b, r, e2, q⟩ := h
  exact ⟨a, b, r, s _ _ e2, q⟩
theorem mean_ok {u o S : Int} {dg : Nat} (hdg : dg ≤ 3) (hS : 1 ≤ S) (h1 : -(5 * S) ≤ u * S - o * ((10 ^ dg : Nat) : Int)) (h2 : u * S - o * ((10 ^ dg : Nat) : Int) ≤ 5 * S) (o0 : -(100 * S) ≤ o) (o1 : o ≤ 100 * S) : okT (u, dg) := by
  have p0 : (0 : Int) < ((10 ^ dg : Nat) : Int) := by
    have : 0 < (10 : Nat) ^ dg := Nat.pow_pos (by decide)
    omega
  have b1 : o * ((10 ^ dg : Nat) : Int) ≤ 100 * S * ((10 ^ dg : Nat) : Int) := Int.mul_le_mul_of_nonneg_right o1 (Int.le_of_lt p0)
  have b2 : -(100 * S) * ((10 ^ dg : Nat) : Int) ≤ o * ((10 ^ dg : Nat) : Int) := Int.mul_le_mul_of_nonneg_right o0 (Int.le_of_lt p0)
  have e1 : 100 * S * ((10 ^ dg : Nat) : Int) = (100 * ((10 ^ dg : Nat) : Int)) * S := by rw [Int.mul_assoc, Int.mul_comm S, ← Int.mul_assoc]
  have e2 : -(100 * S) * ((10 ^ dg : Nat) : Int) = -((100 * ((10 ^ dg : Nat) : Int)) * S) := by rw [Int.neg_mul, e1]
  rw [e1] at b1
  rw [e2] at b2
  have hS0 : 0 < S := by omega
  have c1 : u * S ≤ (100 * ((10 ^ dg : Nat) : Int) + 5) * S := by rw [Int.add_mul]; omega
  have c2 : -(100 * ((10 ^ dg : Nat) : Int) + 5) * S ≤ u * S := by rw [Int.neg_mul, Int.add_mul]; omega
  have d1 := Int.le_of_mul_le_mul_right c1 hS0
  have d2 := Int.le_of_mul_le_mul_right c2 hS0
  refine ⟨by show dg ≤ 4; omega, ?_⟩
  show u.natAbs / 10 ^ dg < 10000
  have hp : 0 < 10 ^ dg := Nat.pow_pos (by decide)
  rw [Nat.div_lt_iff_lt_mul hp]
  omega
def spLaw (K : PySem.W.Frag) : Sp := fun vs H Q _ => ∃ (a : Addr) (ns : List Int), vs = [.ref a] ∧ SqL K H a (ns.map V.int) ∧ ns.length ≤ 63 ∧ ∀ H', Q (.bl true) H'
theorem ok_law {f : Addr} {fd : FuncData} (F : Fun K "law" "law" s_law f fd) (T : Blt mg) (R : RepT P w K mg base) (M8 : MkR P w K mg base [.non])
    (C_l_random : Cal P w K mg base "_law_random" 1 P_l_random (spRandom K)) (C_l_below : Cal P w K mg base "_law_below" 1 P_l_below spBelow) (C_l_pick : Cal P w K mg base "_law_pick" 2 P_l_pick (spPick K))
    (C_l_ten : Cal P w K mg base "_law_ten" 1 P_l_ten spTen) (C_l_printed : Cal P w K mg base "_law_printed" 2 P_l_printed spPrinted) (C_l_mean : Cal P w K mg base "_law_mean" 3 P_l_mean spMean) (C_l_can : Cal P w K mg base "_law_can" 3 P_l_can (spCan K))
    (C_sum_range : Cal P w K mg base "sum_range" 6 P_sum_range (spSumRange K)) (C_can_mean : Cal P w K mg base "can_mean" 7 P_can_mean (spCanMean K)) : FnOk P w K mg base CX0 9 f fd P_law (spLaw K) := by
  refine F.ok sc_law (fun vs H Q E h => ?_) (fun cdv A outer s H vs Q E hr h => ?_)
  · obtain ⟨a, ns, rfl, _⟩ := h
    rfl
  · obtain ⟨a, ns, rfl, hS, hl, k⟩ := h
    refine ⟨_, (pss_cons
  (ps_set (i := 1) sc_law.nd rfl (Or.inl rfl) (pe_own C_l_random (hr.mono (by decide)) (pa_cons (pv 0) (pa_cons pe_int pa_nil))))
  (pss_cons
  (ps_for PassesOwn.never rfl (pi_range1 rfl T.range (pa_cons pe_int pa_nil)) (pg_name (i := 2) sc_law.nd rfl (Or.inl rfl))
  (pss_cons
  (ps_asg (pe_tup (pa_cons (pe_op op_sub (pe_own C_l_below (hr.mono (by decide)) (pa_cons (pv 1) (pa_cons pe_int pa_nil))) pe_int) (pa_cons (pe_op op_add pe_int (pe_own C_l_pick (hr.mono (by decide)) (pa_cons (pv 1) (pa_cons (pe_lst (pa_cons (pe_own C_l_below (hr.mono (by decide)) (pa_cons (pv 1) (pa_cons pe_int pa_nil))) (pa_cons (pe_own C_l_below (hr.mono (by decide)) (pa_cons (pv 1) (pa_cons (pe_op op_sub (pe_op op_pow pe_int pe_int) pe_int) pa_nil))) pa_nil))) pa_nil)))) pa_nil))) (pg_tup rfl (pgs_cons (pg_name (i := 3) sc_law.nd rfl (Or.inl rfl)) (pgs_cons (pg_name (i := 4) sc_law.nd rfl (Or.inr rfl)) pgs_nil))))
  (pss_cons
  (ps_set (i := 5) sc_law.nd rfl (Or.inl rfl) (pe_op op_add (pe_op op_add (pv 3) pe_int) (pe_own C_l_below (hr.mono (by decide)) (pa_cons (pv 1) (pa_cons pe_int pa_nil)))))
  (pss_cons
  (ps_set (i := 6) sc_law.nd rfl (Or.inr rfl) (pe_own C_l_mean (hr.mono (by decide)) (pa_cons (pv 1) (pa_cons (pe_op op_add (pe_op op_mul (pv 3) (pv 4)) (pe_own C_l_below (hr.mono (by decide)) (pa_cons (pv 1) (pa_cons (pe_op op_add (pe_op op_mul (pv 4) (pe_op op_sub (pv 5) (pv 3))) pe_int) pa_nil)))) (pa_cons (pv 4) pa_nil)))))
  (pss_cons
  (ps_par (i := 7) (j := 8) rfl sc_law.nd rfl rfl (by decide) rfl rfl (pa_cons (pe_own C_l_pick (hr.mono (by decide)) (pa_cons (pv 1) (pa_cons (pe_lst (pa_cons pe_non (pa_cons (pv 3) (pa_cons (pe_op op_add (pv 3) pe_int) pa_nil)))) pa_nil))) (pa_cons (pe_own C_l_pick (hr.mono (by decide)) (pa_cons (pv 1) (pa_cons (pe_lst (pa_cons pe_non (pa_cons (pv 5) pa_nil))) pa_nil))) pa_nil)) (by rfl))
  (pss_cons
  (ps_set (i := 9) sc_law.nd rfl (Or.inr rfl) (c_Report M8 (hr.mono (by decide)) (pa_cons (pv 3) (pa_cons (pv 5) (pa_cons (pv 4) (pa_cons (pv 6) (pa_cons pe_non (pa_cons pe_str (pa_cons (pv 7) (pa_cons (pv 8) pa_nil))))))))))
  (pss_cons
  (ps_set (i := 10) sc_law.nd rfl (Or.inl rfl) (pe_own C_sum_range (hr.mono (by decide)) (pa_cons (pv 9) pa_nil)))
  (pss_j
  (ps_if (pt_cmpR op_isN (pv 10) pe_non (nomark _)) (pss_set1 (i := 11) sc_law.nd rfl (Or.inl rfl) (pe_j1 (pe_if1 (pt_cmp1 op_in_sign (pv 6) rfl) (pe_op op_sub (pe_op op_sub (pe_callB call_len_str (by rfl) T.len (by decide +kernel) (pa_cons (pv 6) pa_nil)) (pe_bm PySem.F.plainAttrs_str PySem.F.slot_str_index PySem.F.type_str_index mt_sindex (pv 6) (pa_cons pe_str pa_nil))) pe_int) pe_int))
  (psst_cons
  (pst_set (i := 12) sc_law.nd rfl (Or.inl rfl) (CwR.pet_op op_fdivN (CwR.pet_op op_mul (pet_callTy call_int_str (by rfl) T.int (by decide +kernel) (pat_cons (CwR.pet_replC (pv 6)) pat_nil)) (CwR.PET.of (pv 4))) (CwR.PET.of (pe_own C_l_ten (hr.mono (by decide)) (pa_cons (pv 11) pa_nil)))))
  (PSsT.of (pss_cons
  (ps_set (i := 13) sc_law.nd rfl (Or.inl rfl) (pe_lst (pa_cons (pe_op op_sub (pv 12) pe_int) (pa_cons (pv 12) (pa_cons (pe_op op_add (pv 12) pe_int) pa_nil)))))
  (pss_one
  (ps_if (pt_cmpR (op_neD hr.units) (pe_lc (own := [("_law_one", 15)]) (g := gName 15) rfl sc_law.nd (pi_list (pv 13)) (blkOk_by (own := [("_law_one", 15)]) (N := N_law) (sc := defScope s_law) (by decide +kernel)) (fun _ _ _ _ _ => (pg_name (i := 15) sc_law.nd rfl (Or.inl rfl))) (fun _ _ _ _ _ => (pts_one (PW.pt (pw_and (pt_val (pe_own C_l_can (hr.mono (by decide)) (pa_cons (pv 9) (pa_cons (pv 15) pa_nil)))) (pw_and1 (pt_val (pe_own C_l_printed (hr.mono (by decide)) (pa_cons (pv 15) (pa_cons (pv 4) (pa_cons (pv 6) pa_nil)))))))))) (fun _ _ _ _ _ => (pv 15))) (pe_lst pa_nil) (nomark _)) (pss_one
  (ps_ret pe_bl)) pss_nil)))))) (pss_cons
  (ps_for PassesOwn.never rfl (pi_list (pe_lst (pa_cons (pe_ix ix_tup (pv 10) pe_int (fun _ _ => rfl)) (pa_cons (pe_ix ix_tup (pv 10) pe_int (fun _ _ => rfl)) (pa_cons (pe_op op_fdivN (pe_op op_add (pe_ix ix_tup (pv 10) pe_int (fun _ _ => rfl)) (pe_ix ix_tup (pv 10) pe_int (fun _ _ => rfl))) pe_int) pa_nil))))) (pg_name (i := 14) sc_law.nd rfl (Or.inl rfl))
  (pss_one
  (ps_if (PW.pt (pw_or (pt_not (pt_val (pe_own C_l_can (hr.mono (by decide)) (pa_cons (pv 9) (pa_cons (pv 14) pa_nil))))) (pw_or1 (pt_not (pt_val (pe_own C_l_printed (hr.mono (by decide)) (pa_cons (pv 14) (pa_cons (pv 4) (pa_cons (pv 6) pa_nil))))))))) (pss_one
  (ps_ret pe_bl)) pss_nil)))
  (pss_one
  (ps_for PassesOwn.never rfl (pi_list (pe_lst (pa_cons (pe_op op_sub (pe_ix ix_tup (pv 10) pe_int (fun _ _ => rfl)) pe_int) (pa_cons (pe_op op_add (pe_ix ix_tup (pv 10) pe_int (fun _ _ => rfl)) pe_int) pa_nil)))) (pg_name (i := 14) sc_law.nd rfl (Or.inl rfl))
  (pss_one
  (ps_if (PW.pt (pw_and (pt_val (pe_own C_l_can (hr.mono (by decide)) (pa_cons (pv 9) (pa_cons (pv 14) pa_nil)))) (pw_and1 (pt_val (pe_own C_l_printed (hr.mono (by decide)) (pa_cons (pv 14) (pa_cons (pv 4) (pa_cons (pv 6) pa_nil)))))))) (pss_one
  (ps_ret pe_bl)) pss_nil))))))
  (pss_one
  (ps_if (pt_cmpR op_ne (pe_own C_can_mean (hr.mono (by decide)) (pa_cons (pv 9) pa_nil)) (pe_cmpR op_notN (pv 10) pe_non (nomark _)) (nomark _)) (pss_one
  (ps_ret pe_bl)) pss_nil))))))))))
  (pss_one
  (ps_ret pe_bl)))), ?_⟩
    refine ⟨_, rfl, a, ns, 3003, rfl, hS, hl, by decide, by decide, fun d H1 _ D1 _ => ?_⟩
    refine ⟨4, rfl, by decide, by decide, for_range (lo := 0) (n := 4) (fun i σ H' => Dr H' d ∧ ∃ v2 v3 v4 v5 v6 v7 v8 v9 v10 v11 v12 v13 v14 v15 : Option V, σ = [some (.ref a), some (.ref d), v2, v3, v4, v5, v6, v7, v8, v9, v10, v11, v12, v13, v14, v15]) ⟨D1, none, none, none, none, none, none, none, none, none, none, none, none, none, none, rfl⟩ ?_ ?_⟩
    · rintro i σ H2 hi ⟨D2, v2, v3, v4, v5, v6, v7, v8, v9, v10, v11, v12, v13, v14, v15, rfl⟩
      -- low, size
      refine ⟨_, rfl, d, 50, rfl, D2, by decide, by decide, fun r1 H3 r10 r11 D3 k3 => ⟨_, _, rfl, rfl, ?_⟩⟩
      refine ⟨_, rfl, _, rfl, d, 99, rfl, D3, by decide, by decide, fun r2 H4 r20 r21 D4 k4 => ?_⟩
      refine ⟨_, rfl, _, _, rfl, rfl, ⟨by decide, by decide, by decide⟩, _, _, rfl, rfl, d, 999998, rfl, D4, by decide, by decide, fun r3 H5 r30 r31 D5 k5 => ?_⟩
      refine ⟨by show 2 ≤ sizeLine; decide, fun p hp => ?_⟩
      refine ⟨d, p, _, rfl, D5.new hp, upd_same, (D5.ne hp).symm, by simp, by simp, fun x H6 hx D6 k6 => ?_⟩
      obtain ⟨z, z0, z1, rfl⟩ : ∃ z : Int, 0 ≤ z ∧ z ≤ 999997 ∧ x = V.int z := by
        simp only [List.mem_cons, List.not_mem_nil, or_false] at hx
        rcases hx with rfl | rfl
        · exact ⟨r2, r20, by omega, rfl⟩
        · exact ⟨r3, r30, by omega, rfl⟩
      refine ⟨_, _, rfl, rfl, by show 2 ≤ sizeLine; decide, fun q hq => ⟨q, _, rfl, SqT.of upd_same, rfl, _, _, rfl, _, _, rfl, rfl, ?_⟩⟩
      have D7 := D6.new (o := .tup [V.int (r1 - 40), V.int (2 + z)]) hq
      obtain ⟨L, hL, L0, L1⟩ : ∃ L, r1 - 40 = L ∧ -40 ≤ L ∧ L ≤ 9 := ⟨_, rfl, by omega, by omega⟩
      obtain ⟨S, hS2, S0, S1⟩ : ∃ S, 2 + z = S ∧ 2 ≤ S ∧ S ≤ 999999 := ⟨_, rfl, by omega, by omega⟩
      simp only [hL, hS2] at D7 ⊢
      generalize upd H6 q (.tup [V.int L, V.int S]) = H7 at D7
      -- high
      refine ⟨_, rfl, _, _, rfl, rfl, _, rfl, d, 11, rfl, D7, by decide, by decide, fun r4 H8 r40 r41 D8 k8 => ⟨_, _, rfl, rfl, ?_⟩⟩
      obtain ⟨U, hU, U0, U1⟩ : ∃ U, L + 1 + r4 = U ∧ L + 1 ≤ U ∧ U ≤ L + 11 := ⟨_, rfl, by omega, by omega⟩
      simp only [hU]
      have W1 : S * (U - L) ≤ S * 11 := Int.mul_le_mul_of_nonneg_left (by omega) (by omega)
      have W0 : S * 1 ≤ S * (U - L) := Int.mul_le_mul_of_nonneg_left (by omega) (by omega)
      have LS0 : -40 * S ≤ L * S := Int.mul_le_mul_of_nonneg_right L0 (by omega)
      have LS1 : L * S ≤ 9 * S := Int.mul_le_mul_of_nonneg_right L1 (by omega)
      -- the mean
      refine ⟨_, rfl, _, rfl, _, rfl, _, _, rfl, rfl, .inl ⟨by omega, by omega⟩, ?_⟩
      refine ⟨_, rfl, _, rfl, _, rfl, _, rfl, _, _, rfl, rfl, _, _, rfl, rfl, .inr ⟨by omega, by omega⟩, _, _, rfl, rfl, d, _, rfl, D8, by omega, by omega, fun r5 H9 r50 r51 D9 k9 => ?_⟩
      refine ⟨_, _, rfl, rfl, _, rfl, d, _, _, rfl, D9, by omega, by omega, by omega, by omega, fun u dg H10 hdg hu1 hu2 D10 k10 => ?_⟩
      have p10 : ((10 ^ dg : Nat) : Int) ≤ 1000 := by
        have h1 : (10 : Nat) ^ dg ≤ 10 ^ 3 := Nat.pow_le_pow_right (by decide) hdg
        omega
      have p0 : (0 : Int) < ((10 ^ dg : Nat) : Int) := by
        have : 0 < (10 : Nat) ^ dg := Nat.pow_pos (by decide)
        omega
      have hmean : okT (u, dg) := mean_ok hdg (by omega) hu1 hu2 (by omega) (by omega)
      have hus := okT_abs hmean
      dsimp only at hus
      -- the ends
      refine ⟨_, rfl, _, rfl, _, rfl, _, _, rfl, rfl, by show 3 ≤ sizeLine; decide, fun p1 hp1 => ?_⟩
      refine ⟨d, p1, _, rfl, D10.new hp1, upd_same, (D10.ne hp1).symm, by simp, by simp, fun x1 H11 hx1 D11 k11 => ?_⟩
      refine ⟨_, rfl, _, rfl, by show 2 ≤ sizeLine; decide, fun p2 hp2 => ?_⟩
      refine ⟨d, p2, _, rfl, D11.new hp2, upd_same, (D11.ne hp2).symm, by simp, by simp, fun x2 H12 hx2 D12 k12 => ⟨_, _, rfl, ?_⟩⟩
      obtain ⟨lo, hlo, rfl⟩ : ∃ lo : Option Int, (∀ i, lo = some i → i = L ∨ i = L + 1) ∧ x1 = oI lo := by
        simp only [List.mem_cons, List.not_mem_nil, or_false] at hx1
        rcases hx1 with rfl | rfl | rfl
        · exact ⟨none, (fun i e => nomatch e), rfl⟩
        · exact ⟨some L, fun i e => .inl (by cases e; rfl), rfl⟩
        · exact ⟨some (L + 1), fun i e => .inr (by cases e; rfl), rfl⟩
      obtain ⟨gr, hgr, rfl⟩ : ∃ gr : Option Int, (∀ i, gr = some i → i = U) ∧ x2 = oI gr := by
        simp only [List.mem_cons, List.not_mem_nil, or_false] at hx2
        rcases hx2 with rfl | rfl
        · exact ⟨none, (fun i e => nomatch e), rfl⟩
        · exact ⟨some U, fun i e => by cases e; rfl, rfl⟩
      -- the report
      have ok : Rep.ok ⟨L, U, S, (u, dg), none, false, lo, gr, none⟩ := {
        low0 := by show -50 ≤ L; omega
        low1 := by show L ≤ 49; omega
        high0 := U0
        high1 := U1
        high2 := by show U ≤ 50; omega
        size0 := by show 1 ≤ S; omega
        size1 := by show S ≤ 1000000; omega
        mean := hmean
        spread := fun p e => nomatch e
        kind := fun _ e => absurd rfl e
        least := fun i e => by
          show L ≤ i ∧ i ≤ U
          rcases hlo i e with rfl | rfl <;> omega
        greatest := fun i e => by
          have := hgr i e
          refine ⟨by show L ≤ i; omega, by show i ≤ U; omega, fun j ej => ?_⟩
          rcases hlo j ej with rfl | rfl <;> omega
        middle := fun p e => nomatch e }
      refine ⟨_, rfl, _, rfl, _, rfl, _, rfl, _, rfl, _, rfl, ⟨L, U, S, (u, dg), none, false, lo, gr, none⟩, rfl, ok, fun rp H13 hrp s13 hR => ?_⟩
      have D13 : Dr H13 d := D12.same s13
      obtain ⟨A, B, eAB, hAB⟩ := sums_math (r := ⟨L, U, S, (u, dg), none, false, lo, gr, none⟩) S0
      generalize hr0 : (⟨L, U, S, (u, dg), none, false, lo, gr, none⟩ : Rep) = r0 at ok hR eAB hAB
      have eS : r0.size = S := by rw [← hr0]
      have em : r0.mean = (u, dg) := by rw [← hr0]
      have pr_eq : ∀ t : Int, decide (-S ≤ 2 * (t * ((10 ^ dg : Nat) : Int) - u * S) ∧ 2 * (t * ((10 ^ dg : Nat) : Int) - u * S) ≤ S) = prM r0 t := fun t => by
        unfold prM
        rw [eS, em]
      rw [eS] at eAB
      have sw : ∀ (o : Option (List Int)), sumsM r0 r0.size = o → sumsM r0 S = o := fun o e => by rw [← eS]; exact e
      -- the last test of a turn
      have tail : ∀ (D : Ends) (tv : V) (H' : Hp) (v2 v11 v12 v13 v14 v15 : Option V), RepAt (He.ga K "Report") H' rp r0 → ((!decide (tv = .non)) = (sumsM r0 S).isSome) →
          (∀ H'', Same H' H'' → D.nx [some (.ref a), some (.ref d), v2, some (.int L), some (.int S), some (.int U), some (.str (Mn.T u dg)), some (oI lo), some (oI gr), some (.ref rp), some tv, v11, v12, v13, v14, v15] H'') →
          (tIfS (tTest (tOp rNe (tCall (spCanMean K) [] E0 (tCons (tVar 9) tNil)) (tOp (fun x y H Q => y = .non ∧ Q (.bl (!decide (x = .non))) H) (tVar 10) (tC .non)))) (tRet (tC (.bl false))) tNext) D [some (.ref a), some (.ref d), v2, some (.int L), some (.int S), some (.int U), some (.str (Mn.T u dg)), some (oI lo), some (oI gr), some (.ref rp), some tv, v11, v12, v13, v14, v15] H' := by
        intro D tv H' v2 v11 v12 v13 v14 v15 hR' e nx
        refine ⟨_, rfl, rp, r0, rfl, hR', ok, fun H'' s'' => ⟨_, rfl, rfl, rfl, _, rfl, ?_⟩⟩
        rw [e, eS, decide_eq_true rfl]
        exact iteF (nx H'' s'')
      refine ⟨_, rfl, rp, r0, rfl, hR, ok, ?_⟩
      rw [eS, eAB]
      have fin : ∀ (tv : V), (!decide (tv = .non)) = (sumsM r0 S).isSome → ∀ σ' H', (Dr H' d ∧ RepAt (He.ga K "Report") H' rp r0 ∧ ∃ w2 w11 w12 w13 w14 w15 : Option V, σ' = [some (.ref a), some (.ref d), w2, some (.int L), some (.int S), some (.int U), some (.str (Mn.T u dg)), some (oI lo), some (oI gr), some (.ref rp), some tv, w11, w12, w13, w14, w15]) → ∀ D : Ends, (∀ H'' w2 w11 w12 w13 w14 w15, Dr H'' d → D.nx [some (.ref a), some (.ref d), w2, some (.int L), some (.int S), some (.int U), some (.str (Mn.T u dg)), some (oI lo), some (oI gr), some (.ref rp), some tv, w11, w12, w13, w14, w15] H'') →
          (tIfS (tTest (tOp rNe (tCall (spCanMean K) [] E0 (tCons (tVar 9) tNil)) (tOp (fun x y H Q => y = .non ∧ Q (.bl (!decide (x = .non))) H) (tVar 10) (tC .non)))) (tRet (tC (.bl false))) tNext) D σ' H' := by
        rintro tv e σ' H' ⟨D', hR', w2, w11, w12, w13, w14, w15, rfl⟩ D nx
        exact tail D tv H' w2 w11 w12 w13 w14 w15 hR' e fun H'' s'' => nx H'' w2 w11 w12 w13 w14 w15 (D'.same s'')
      have hlT : (Mn.T u dg).length ≤ sizeLine := by
        have := okT_len hmean
        exact small_line (by dsimp only at this; omega)
      by_cases hle : A ≤ B
      · rw [if_pos hle]
        refine ⟨fun e => (nomatch e), fun l e tp H14 s14 htp hm => ?_⟩
        cases e
        have hR14 := hR.mono s14
        have D14 := D13.same s14
        refine ⟨fun σ' H' => Dr H' d ∧ RepAt (He.ga K "Report") H' rp r0 ∧ ∃ w2 w11 w12 w13 w14 w15 : Option V, σ' = [some (.ref a), some (.ref d), w2, some (.int L), some (.int S), some (.int U), some (.str (Mn.T u dg)), some (oI lo), some (oI gr), some (.ref rp), some (.ref tp), w11, w12, w13, w14, w15], ?_, fun σ' H' q => fin (.ref tp) (by rw [eAB, if_pos hle] <;> rfl) σ' H' q _ fun H'' w2 w11 w12 w13 w14 w15 q => ⟨q, w2, _, _, _, _, _, _, _, _, w11, w12, w13, w14, w15, rfl⟩⟩
        refine ⟨_, rfl, rfl, _, rfl, iteF ?_⟩
        -- the ends and the middle can be
        refine ⟨_, rfl, _, _, _, _, rfl, rfl, SqT.of hm, at0, _, rfl, _, _, _, _, rfl, rfl, SqT.of hm, at1, _, rfl, _, _, _, _, rfl, rfl, SqT.of hm, at0, _, rfl, _, _, _, _, rfl, rfl, SqT.of hm, at1, _, _, rfl, rfl, _, _, rfl, rfl, ⟨by decide, by decide⟩, by show 3 ≤ sizeLine; decide, fun p3 hp3 => ?_⟩
        have s15 := Same.new (o := .lst [V.int A, V.int B, V.int ((A + B).fdiv 2)]) hp3
        have hl15 : upd H14 p3 (.lst [V.int A, V.int B, V.int ((A + B).fdiv 2)]) p3 = some (.lst ([A, B, (A + B).fdiv 2].map V.int)) := upd_same
        refine ⟨p3, rfl, ⟨_, SqL.of upd_same⟩, ?_⟩
        show ∃ W : Nat → Nat → St → Hp → Prop, (∃ m, W 0 m _ (upd H14 p3 (.lst [V.int A, V.int B, V.int ((A + B).fdiv 2)]))) ∧ _
        generalize upd H14 p3 (.lst [V.int A, V.int B, V.int ((A + B).fdiv 2)]) = H15 at s15 hl15
        refine for_list (K := K) (a := p3) (xs := [A, B, (A + B).fdiv 2].map V.int) (fun i σ' H' => Same H15 H' ∧ ∃ w2 w14, σ' = [some (.ref a), some (.ref d), w2, some (.int L), some (.int S), some (.int U), some (.str (Mn.T u dg)), some (oI lo), some (oI gr), some (.ref rp), some (.ref tp), v11, v12, v13, w14, v15]) ⟨Same.refl _, _, _, rfl⟩ (fun i σ' H' _ q => SqL.of (q.1 _ _ hl15)) ?_ ?_
        · rintro j y σ' H' hj ⟨sm, w2, w14, rfl⟩
          obtain ⟨t, ht, rfl⟩ := map_at hj
          have htm : A ≤ t ∧ t ≤ B := by
            have q := List.mem_of_getElem? ht
            simp only [List.mem_cons, List.not_mem_nil, or_false] at q
            have e2 : (A + B).fdiv 2 = (A + B) / 2 := Int.fdiv_eq_ediv_of_nonneg _ (by decide)
            rcases q with rfl | rfl | rfl
            · omega
            · omega
            · rw [e2]; omega
          have q := hAB t
          rw [decide_eq_true htm, Bool.and_eq_true_iff] at q
          refine ⟨_, rfl, _, rfl, rp, r0, t, rfl, (hR14.mono s15).mono sm, ok, _, rfl, ?_⟩
          rw [q.1]
          refine iteF ⟨_, rfl, _, rfl, _, rfl, t, S, u, dg, rfl, by omega, by omega, by omega, by omega, _, rfl, ?_⟩
          rw [pr_eq, q.2]
          exact iteF ⟨sm, _, _, rfl⟩
        · rintro σ' H' ⟨sm, w2, w14, rfl⟩
          have hm' := sm _ _ (s15 _ _ hm)
          have hR' := (hR14.mono s15).mono sm
          have D' := (D14.same s15).same sm
          -- one less, one more cannot
          refine ⟨_, rfl, _, _, _, _, rfl, rfl, SqT.of hm', at0, _, _, rfl, rfl, _, rfl, _, _, _, _, rfl, rfl, SqT.of hm', at1, _, _, rfl, rfl, by show 2 ≤ sizeLine; decide, fun p4 hp4 => ?_⟩
          have s16 := Same.new (o := .lst [V.int (A - 1), V.int (B + 1)]) hp4
          have hl16 : upd H' p4 (.lst [V.int (A - 1), V.int (B + 1)]) p4 = some (.lst ([A - 1, B + 1].map V.int)) := upd_same
          refine ⟨p4, rfl, ⟨_, SqL.of upd_same⟩, ?_⟩
          show ∃ W : Nat → Nat → St → Hp → Prop, (∃ m, W 0 m _ (upd H' p4 (.lst [V.int (A - 1), V.int (B + 1)]))) ∧ _
          generalize upd H' p4 (.lst [V.int (A - 1), V.int (B + 1)]) = H16 at s16 hl16
          refine for_list (K := K) (a := p4) (xs := [A - 1, B + 1].map V.int) (fun i σ' H' => Same H16 H' ∧ ∃ w2 w14, σ' = [some (.ref a), some (.ref d), w2, some (.int L), some (.int S), some (.int U), some (.str (Mn.T u dg)), some (oI lo), some (oI gr), some (.ref rp), some (.ref tp), v11, v12, v13, w14, v15]) ⟨Same.refl _, _, _, rfl⟩ (fun i σ' H' _ q => SqL.of (q.1 _ _ hl16)) ?_ ?_
          · rintro j y σ' H'' hj ⟨sm2, w2, w14, rfl⟩
            obtain ⟨t, ht, rfl⟩ := map_at hj
            have htm : ¬ (A ≤ t ∧ t ≤ B) := by
              have q := List.mem_of_getElem? ht
              simp only [List.mem_cons, List.not_mem_nil, or_false] at q
              rcases q with rfl | rfl <;> omega
            have q := hAB t
            rw [decide_eq_false htm] at q
            refine ⟨_, rfl, _, rfl, rp, r0, t, rfl, (hR'.mono s16).mono sm2, ok, _, rfl, ite2 (fun c => ?_) (fun _ => iteF ⟨sm2, _, _, rfl⟩)⟩
            refine ⟨_, rfl, _, rfl, _, rfl, t, S, u, dg, rfl, by omega, by omega, by omega, by omega, _, rfl, ?_⟩
            rw [c, Bool.true_and] at q
            rw [pr_eq, q]
            exact iteF ⟨sm2, _, _, rfl⟩
          · rintro σ' H'' ⟨sm2, w2, w14, rfl⟩
            exact ⟨(D'.same s16).same sm2, (hR'.mono s16).mono sm2, w2, _, _, _, w14, _, rfl⟩
      · rw [if_neg hle]
        refine ⟨fun _ H14 s14 => ?_, fun l e => (nomatch e)⟩
        have hR14 := hR.mono s14
        have D14 := D13.same s14
        refine ⟨fun σ' H' => Dr H' d ∧ RepAt (He.ga K "Report") H' rp r0 ∧ ∃ w2 w11 w12 w13 w14 w15 : Option V, σ' = [some (.ref a), some (.ref d), w2, some (.int L), some (.int S), some (.int U), some (.str (Mn.T u dg)), some (oI lo), some (oI gr), some (.ref rp), some .non, w11, w12, w13, w14, w15], ?_, fun σ' H' q => fin .non (by rw [eAB, if_neg hle] <;> rfl) σ' H' q _ fun H'' w2 w11 w12 w13 w14 w15 q => ⟨q, w2, _, _, _, _, _, _, _, _, w11, w12, w13, w14, w15, rfl⟩⟩
        refine ⟨_, rfl, rfl, _, rfl, iteT ?_⟩
        refine ⟨fun v H' => v = V.int (dg : Int) ∧ H' = H14, ?_, ?_⟩
        · refine ⟨_, rfl, 46, Mn.T u dg, ?_, rfl, _, rfl, ite2 (fun c => ?_) (fun c => ?_)⟩
          · exact congrArg V.str (ext_tl (by decide +kernel))
          · have hd0 : dg ≠ 0 := dot_mem.mp (of_decide_eq_true c)
            obtain ⟨r, hr⟩ := index_T (u := u) hd0
            refine ⟨_, rfl, _, rfl, hlT, _, rfl, rfl, _, _, _, r, rfl, rfl, hr, _, _, rfl, rfl, _, _, rfl, rfl, ?_, rfl⟩
            rw [T_len hd0]
            exact congrArg V.int (by omega)
          · have hd0 : dg = 0 := Classical.byContradiction fun z => c (decide_eq_true (dot_mem.mpr z))
            exact ⟨by rw [hd0] <;> rfl, rfl⟩
        rintro v H' ⟨rfl, rfl⟩
        have sm := tU_small (u := u) (d := dg) (by omega) (by omega)
        refine ⟨_, rfl, _, rfl, ?_, ?_⟩
        · rw [show ("" : Str).length = 0 by decide +kernel, len_tl, tl_T]
          omega
        rw [replace_T]
        refine ⟨_, _, rfl, int_T (by omega), by rw [len_tl, tl_mk]; omega, _, rfl, _, _, rfl, rfl, .inr ⟨by omega, by omega⟩, _, rfl, dg, rfl, by omega, _, _, rfl, rfl, ⟨by omega, by omega⟩, ?_⟩
        refine ⟨_, rfl, _, _, rfl, rfl, _, rfl, _, rfl, _, _, rfl, rfl, by show 3 ≤ sizeLine; decide, fun p3 hp3 => ?_⟩
        have s15 := Same.new (o := .lst [V.int (((u * S).fdiv ((10 ^ dg : Nat) : Int)) - 1), V.int ((u * S).fdiv ((10 ^ dg : Nat) : Int)), V.int (((u * S).fdiv ((10 ^ dg : Nat) : Int)) + 1)]) hp3
        have hl15 : upd H' p3 (.lst [V.int (((u * S).fdiv ((10 ^ dg : Nat) : Int)) - 1), V.int ((u * S).fdiv ((10 ^ dg : Nat) : Int)), V.int (((u * S).fdiv ((10 ^ dg : Nat) : Int)) + 1)]) p3 = some (.lst ([((u * S).fdiv ((10 ^ dg : Nat) : Int)) - 1, ((u * S).fdiv ((10 ^ dg : Nat) : Int)), ((u * S).fdiv ((10 ^ dg : Nat) : Int)) + 1].map V.int)) := upd_same
        refine ⟨_, rfl, p3, rfl, ⟨_, SqL.of upd_same⟩, fun E2 hE2 => ?_⟩
        have hE2 : upd H' p3 (.lst [V.int (((u * S).fdiv ((10 ^ dg : Nat) : Int)) - 1), V.int ((u * S).fdiv ((10 ^ dg : Nat) : Int)), V.int (((u * S).fdiv ((10 ^ dg : Nat) : Int)) + 1)]) E2 = none := hE2
        show ∃ W : Nat → Nat → Hp → Prop, (∃ m2, W 0 m2 (upd (upd H' p3 (.lst [V.int (((u * S).fdiv ((10 ^ dg : Nat) : Int)) - 1), V.int ((u * S).fdiv ((10 ^ dg : Nat) : Int)), V.int (((u * S).fdiv ((10 ^ dg : Nat) : Int)) + 1)])) E2 (.lst []))) ∧ _
        generalize upd H' p3 (.lst [V.int (((u * S).fdiv ((10 ^ dg : Nat) : Int)) - 1), V.int ((u * S).fdiv ((10 ^ dg : Nat) : Int)), V.int (((u * S).fdiv ((10 ^ dg : Nat) : Int)) + 1)]) = H15 at s15 hl15 hE2
        refine lc_list (K := K) (a := p3) (xs := [((u * S).fdiv ((10 ^ dg : Nat) : Int)) - 1, ((u * S).fdiv ((10 ^ dg : Nat) : Int)), ((u * S).fdiv ((10 ^ dg : Nat) : Int)) + 1].map V.int) (fun i H'' => Same H15 H'' ∧ H'' E2 = some (.lst [])) ⟨Same.new hE2, upd_same⟩ (fun i H'' _ q => SqL.of (q.1 _ _ hl15)) ?_ ?_
        · rintro j y H'' hj ⟨sm2, e2⟩
          obtain ⟨t, ht, rfl⟩ := map_at hj
          have htm : ¬ (A ≤ t ∧ t ≤ B) := fun z => hle (Int.le_trans z.1 z.2)
          have q := hAB t
          rw [decide_eq_false htm] at q
          refine ⟨rfl, _, rfl, _, rfl, rp, r0, t, rfl, (hR14.mono s15).mono sm2, ok, _, rfl, ite2 (fun c => ?_) (fun _ => iteF ⟨sm2, e2⟩)⟩
          refine ⟨_, rfl, _, rfl, _, rfl, t, S, u, dg, rfl, by omega, by omega, by omega, by omega, _, rfl, ?_⟩
          rw [c, Bool.true_and] at q
          rw [pr_eq, q]
          exact iteF ⟨sm2, e2⟩
        · rintro H'' ⟨sm2, e2⟩
          refine ⟨Nat.zero_le _, fun z2 hz2 => ?_⟩
          have s17 := Same.new (o := .lst []) hz2
          refine ⟨.list [], .list [], .lst (SqL.of (s17 _ _ e2)) .nil, .lst (SqL.of upd_same) .nil, rfl, rfl, _, rfl, iteF ?_⟩
          exact ⟨((D14.same s15).same sm2).same s17, ((hR14.mono s15).mono sm2).mono s17, _, _, _, _, _, _, rfl⟩
    · rintro σ H' ⟨D2, v2, v3, v4, v5, v6, v7, v8, v9, v10, v11, v12, v13, v14, v15, rfl⟩
      exact k _
end
end Mn
set_option Elab.async false
set_option linter.all false
set_option maxRecDepth 100000
namespace Mn
open PySem L2
def theFns : List He5.DefA := [⟨fun K => He.ga K "told_marks", "told_marks", "told_marks", defArgs s_told_marks, defBody s_told_marks, defScope s_told_marks, [], []⟩,
  ⟨fun K => He.ga K "mark_range", "mark_range", "mark_range", defArgs s_mark_range, defBody s_mark_range, defScope s_mark_range, [], []⟩,
  ⟨fun K => He.ga K "is_int", "is_int", "is_int", defArgs s_is_int, defBody s_is_int, defScope s_is_int, [], []⟩,
  ⟨fun K => He.ga K "is_int_within", "is_int_within", "is_int_within", defArgs s_is_int_within, defBody s_is_int_within, defScope s_is_int_within, [], []⟩,
  ⟨fun K => He.ga K "is_print", "is_print", "is_print", defArgs s_is_print, defBody s_is_print, defScope s_is_print, [], []⟩,
  ⟨fun K => He.ga K "is_print_from_zero", "is_print_from_zero", "is_print_from_zero", defArgs s_is_print_from_zero, defBody s_is_print_from_zero, defScope s_is_print_from_zero, [], []⟩,
  ⟨fun K => He.ga K "print_bounds", "print_bounds", "print_bounds", defArgs s_print_bounds, defBody s_print_bounds, defScope s_print_bounds, [], []⟩,
  ⟨fun K => He.ga K "_is_whole", "_is_whole", "_is_whole", defArgs s__is_whole, defBody s__is_whole, defScope s__is_whole, [], []⟩,
  ⟨fun K => He.ga K "_are_figures", "_are_figures", "_are_figures", defArgs s__are_figures, defBody s__are_figures, defScope s__are_figures, [], []⟩,
  ⟨fun K => He.ga K "_has_worth", "_has_worth", "_has_worth", defArgs s__has_worth, defBody s__has_worth, defScope s__has_worth, [], []⟩,
  ⟨fun K => He.ga K "sum_range", "sum_range", "sum_range", defArgs s_sum_range, defBody s_sum_range, defScope s_sum_range, [], []⟩,
  ⟨fun K => He.ga K "can_mean", "can_mean", "can_mean", defArgs s_can_mean, defBody s_can_mean, defScope s_can_mean, [], []⟩,
  ⟨fun K => He.ga K "sums_with", "sums_with", "sums_with", defArgs s_sums_with, defBody s_sums_with, defScope s_sums_with, [], []⟩,
  ⟨fun K => He.ga K "end_sums", "end_sums", "end_sums", defArgs s_end_sums, defBody s_end_sums, defScope s_end_sums, [], []⟩,
  ⟨fun K => He.ga K "most_high", "most_high", "most_high", defArgs s_most_high, defBody s_most_high, defScope s_most_high, [], []⟩,
  ⟨fun K => He.ga K "_check_scale", "_check_scale", "_check_scale", defArgs s__check_scale, defBody s__check_scale, defScope s__check_scale, [], []⟩,
  ⟨fun K => He.ga K "_check_size", "_check_size", "_check_size", defArgs s__check_size, defBody s__check_size, defScope s__check_size, [], []⟩,
  ⟨fun K => He.ga K "_check_prints", "_check_prints", "_check_prints", defArgs s__check_prints, defBody s__check_prints, defScope s__check_prints, [], []⟩,
  ⟨fun K => He.ga K "_check_kind", "_check_kind", "_check_kind", defArgs s__check_kind, defBody s__check_kind, defScope s__check_kind, [], []⟩,
  ⟨fun K => He.ga K "_check_ends", "_check_ends", "_check_ends", defArgs s__check_ends, defBody s__check_ends, defScope s__check_ends, [], []⟩,
  ⟨fun K => He.ga K "_law_random", "_law_random", "_law_random", defArgs s_l_random, defBody s_l_random, defScope s_l_random, [], []⟩,
  ⟨fun K => He.ga K "_law_below", "_law_below", "_law_below", defArgs s_l_below, defBody s_l_below, defScope s_l_below, [], []⟩,
  ⟨fun K => He.ga K "_law_pick", "_law_pick", "_law_pick", defArgs s_l_pick, defBody s_l_pick, defScope s_l_pick, [], []⟩,
  ⟨fun K => He.ga K "_law_equal", "_law_equal", "_law_equal", defArgs s_l_equal, defBody s_l_equal, defScope s_l_equal, [], []⟩,
  ⟨fun K => He.ga K "_law_ten", "_law_ten", "_law_ten", defArgs s_l_ten, defBody s_l_ten, defScope s_l_ten, [], []⟩,
  ⟨fun K => He.ga K "_law_text", "_law_text", "_law_text", defArgs s_l_text, defBody s_l_text, defScope s_l_text, [], []⟩,
  ⟨fun K => He.ga K "_law_printed", "_law_printed", "_law_printed", defArgs s_l_printed, defBody s_l_printed, defScope s_l_printed, [], []⟩,
  ⟨fun K => He.ga K "_law_mean", "_law_mean", "_law_mean", defArgs s_l_mean, defBody s_l_mean, defScope s_l_mean, [], []⟩,
  ⟨fun K => He.ga K "_law_can", "_law_can", "_law_can", defArgs s_l_can, defBody s_l_can, defScope s_l_can, [], []⟩,
  ⟨fun K => He.ga K "law", "law", "law", defArgs s_law, defBody s_law, defScope s_law, [], []⟩,
  ⟨fun K => He.ma K (He.ga K "Report") "__init__", "__init__", "Report.__init__", defArgs s_Report___init__, defBody s_Report___init__, defScope s_Report___init__, [.non, .str "sample", .non, .non, .non], []⟩,
  ⟨fun K => getAt K (He.ga K "Report") "low", "low", "Report.low", defArgs s_Report_low, defBody s_Report_low, defScope s_Report_low, [], []⟩,
  ⟨fun K => getAt K (He.ga K "Report") "high", "high", "Report.high", defArgs s_Report_high, defBody s_Report_high, defScope s_Report_high, [], []⟩,
  ⟨fun K => getAt K (He.ga K "Report") "size", "size", "Report.size", defArgs s_Report_size, defBody s_Report_size, defScope s_Report_size, [], []⟩,
  ⟨fun K => getAt K (He.ga K "Report") "mean", "mean", "Report.mean", defArgs s_Report_mean, defBody s_Report_mean, defScope s_Report_mean, [], []⟩,
  ⟨fun K => getAt K (He.ga K "Report") "spread", "spread", "Report.spread", defArgs s_Report_spread, defBody s_Report_spread, defScope s_Report_spread, [], []⟩,
  ⟨fun K => getAt K (He.ga K "Report") "kind", "kind", "Report.kind", defArgs s_Report_kind, defBody s_Report_kind, defScope s_Report_kind, [], []⟩,
  ⟨fun K => getAt K (He.ga K "Report") "least", "least", "Report.least", defArgs s_Report_least, defBody s_Report_least, defScope s_Report_least, [], []⟩,
  ⟨fun K => getAt K (He.ga K "Report") "greatest", "greatest", "Report.greatest", defArgs s_Report_greatest, defBody s_Report_greatest, defScope s_Report_greatest, [], []⟩,
  ⟨fun K => getAt K (He.ga K "Report") "middle", "middle", "Report.middle", defArgs s_Report_middle, defBody s_Report_middle, defScope s_Report_middle, [], []⟩]
def theFacts : List He.Fa := [.glo "told_marks",
  .glo "mark_range",
  .glo "is_int",
  .glo "is_int_within",
  .glo "is_print",
  .glo "is_print_from_zero",
  .glo "print_bounds",
  .glo "_is_whole",
  .glo "_are_figures",
  .glo "_has_worth",
  .glo "sum_range",
  .glo "can_mean",
  .glo "sums_with",
  .glo "end_sums",
  .glo "most_high",
  .glo "_check_scale",
  .glo "_check_size",
  .glo "_check_prints",
  .glo "_check_kind",
  .glo "_check_ends",
  .glo "_law_random",
  .glo "_law_below",
  .glo "_law_pick",
  .glo "_law_equal",
  .glo "_law_ten",
  .glo "_law_text",
  .glo "_law_printed",
  .glo "_law_mean",
  .glo "_law_can",
  .glo "law",
  .free "len",
  .free "abs",
  .free "int",
  .free "str",
  .free "sum",
  .free "min",
  .free "max",
  .free "all",
  .free "any",
  .free "range",
  .free "sorted",
  .free "tuple",
  .free "list",
  .free "set",
  .free "bool",
  .free "dict",
  .free "isinstance",
  .glo "Report",
  .cls "Report",
  .mkr "Report",
  .noat "Report" "_low",
  .noat "Report" "_high",
  .noat "Report" "_size",
  .noat "Report" "_mean",
  .noat "Report" "_spread",
  .noat "Report" "_kind",
  .noat "Report" "_least",
  .noat "Report" "_greatest",
  .noat "Report" "_middle",
  .str "FIGURES" "0123456789",
  .int "MOST_FIGURES" (4),
  .glo "UNITS",
  .int "LEAST_LOW" (-50),
  .int "MOST_HIGH" (50),
  .int "MOST_WIDTH" (11),
  .int "MOST_SIZE" (1000000),
  .glo "KINDS"]
def theMore (K : PySem.W.Frag) : Bool := propB K (He.ga K "Report") "low" && (propB K (He.ga K "Report") "high" && (propB K (He.ga K "Report") "size" && (propB K (He.ga K "Report") "mean" && (propB K (He.ga K "Report") "spread" && (propB K (He.ga K "Report") "kind" && (propB K (He.ga K "Report") "least" && (propB K (He.ga K "Report") "greatest" && (propB K (He.ga K "Report") "middle" && (He.tupB K "UNITS" [.int (1), .int (10), .int (100), .int (1000), .int (10000)] && (He.tupB K "KINDS" [.str "sample", .str "whole"]))))))))))
end Mn
set_option Elab.async false
set_option linter.all false
set_option maxRecDepth 100000
set_option maxHeartbeats 8000000
/-! law k03: the end. -/
namespace Mn
open PySem L2
theorem all_mk {P : Program} {w : World} {K : PySem.W.Frag} {h : Heap} {mg : Str → Option Value} {fa : Addr} (X : K.In h) (G : h.Ns mainGlobals mg) (hfa : mg "law" = some (.ref fa)) (c : SaysM theMore theFacts theFns K) :
    ∃ fd : FuncData, (∀ (s : Shared) (v : Value), BindsTo s fd ⟨[v], []⟩ [("_law_script", v)]) ∧ ∀ base : Heap, FnOk P w K mg base CX0 9 fa fd P_law (spLaw K) := by
  obtain ⟨_, F_told_marks⟩ := c.def_ 0 rfl
  have F_told_marks := He5.fun_of (x := "told_marks") (qual := "told_marks") (st := s_told_marks) (kws := []) F_told_marks
  have m_told_marks := He.glo_ok X G (c.fact 0 (f := .glo "told_marks") rfl)
  obtain ⟨_, F_mark_range⟩ := c.def_ 1 rfl
  have F_mark_range := He5.fun_of (x := "mark_range") (qual := "mark_range") (st := s_mark_range) (kws := []) F_mark_range
  have m_mark_range := He.glo_ok X G (c.fact 1 (f := .glo "mark_range") rfl)
  obtain ⟨_, F_is_int⟩ := c.def_ 2 rfl
  have F_is_int := He5.fun_of (x := "is_int") (qual := "is_int") (st := s_is_int) (kws := []) F_is_int
  have m_is_int := He.glo_ok X G (c.fact 2 (f := .glo "is_int") rfl)
  obtain ⟨_, F_is_int_within⟩ := c.def_ 3 rfl
  have F_is_int_within := He5.fun_of (x := "is_int_within") (qual := "is_int_within") (st := s_is_int_within) (kws := []) F_is_int_within
  have m_is_int_within := He.glo_ok X G (c.fact 3 (f := .glo "is_int_within") rfl)
  obtain ⟨_, F_is_print⟩ := c.def_ 4 rfl
  have F_is_print := He5.fun_of (x := "is_print") (qual := "is_print") (st := s_is_print) (kws := []) F_is_print
  have m_is_print := He.glo_ok X G (c.fact 4 (f := .glo "is_print") rfl)
  obtain ⟨_, F_is_print_from_zero⟩ := c.def_ 5 rfl
  have F_is_print_from_zero := He5.fun_of (x := "is_print_from_zero") (qual := "is_print_from_zero") (st := s_is_print_from_zero) (kws := []) F_is_print_from_zero
  have m_is_print_from_zero := He.glo_ok X G (c.fact 5 (f := .glo "is_print_from_zero") rfl)
  obtain ⟨_, F_print_bounds⟩ := c.def_ 6 rfl
  have F_print_bounds := He5.fun_of (x := "print_bounds") (qual := "print_bounds") (st := s_print_bounds) (kws := []) F_print_bounds
  have m_print_bounds := He.glo_ok X G (c.fact 6 (f := .glo "print_bounds") rfl)
  obtain ⟨_, F__is_whole⟩ := c.def_ 7 rfl
  have F__is_whole := He5.fun_of (x := "_is_whole") (qual := "_is_whole") (st := s__is_whole) (kws := []) F__is_whole
  have m__is_whole := He.glo_ok X G (c.fact 7 (f := .glo "_is_whole") rfl)
  obtain ⟨_, F__are_figures⟩ := c.def_ 8 rfl
  have F__are_figures := He5.fun_of (x := "_are_figures") (qual := "_are_figures") (st := s__are_figures) (kws := []) F__are_figures
  have m__are_figures := He.glo_ok X G (c.fact 8 (f := .glo "_are_figures") rfl)
  obtain ⟨_, F__has_worth⟩ := c.def_ 9 rfl
  have F__has_worth := He5.fun_of (x := "_has_worth") (qual := "_has_worth") (st := s__has_worth) (kws := []) F__has_worth
  have m__has_worth := He.glo_ok X G (c.fact 9 (f := .glo "_has_worth") rfl)
  obtain ⟨_, F_sum_range⟩ := c.def_ 10 rfl
  have F_sum_range := He5.fun_of (x := "sum_range") (qual := "sum_range") (st := s_sum_range) (kws := []) F_sum_range
  have m_sum_range := He.glo_ok X G (c.fact 10 (f := .glo "sum_range") rfl)
  obtain ⟨_, F_can_mean⟩ := c.def_ 11 rfl
  have F_can_mean := He5.fun_of (x := "can_mean") (qual := "can_mean") (st := s_can_mean) (kws := []) F_can_mean
  have m_can_mean := He.glo_ok X G (c.fact 11 (f := .glo "can_mean") rfl)
  obtain ⟨_, F_sums_with⟩ := c.def_ 12 rfl
  have F_sums_with := He5.fun_of (x := "sums_with") (qual := "sums_with") (st := s_sums_with) (kws := []) F_sums_with
  have m_sums_with := He.glo_ok X G (c.fact 12 (f := .glo "sums_with") rfl)
  obtain ⟨_, F_end_sums⟩ := c.def_ 13 rfl
  have F_end_sums := He5.fun_of (x := "end_sums") (qual := "end_sums") (st := s_end_sums) (kws := []) F_end_sums
  have m_end_sums := He.glo_ok X G (c.fact 13 (f := .glo "end_sums") rfl)
  obtain ⟨_, F_most_high⟩ := c.def_ 14 rfl
  have F_most_high := He5.fun_of (x := "most_high") (qual := "most_high") (st := s_most_high) (kws := []) F_most_high
  have m_most_high := He.glo_ok X G (c.fact 14 (f := .glo "most_high") rfl)
  obtain ⟨_, F__check_scale⟩ := c.def_ 15 rfl
  have F__check_scale := He5.fun_of (x := "_check_scale") (qual := "_check_scale") (st := s__check_scale) (kws := []) F__check_scale
  have m__check_scale := He.glo_ok X G (c.fact 15 (f := .glo "_check_scale") rfl)
  obtain ⟨_, F__check_size⟩ := c.def_ 16 rfl
  have F__check_size := He5.fun_of (x := "_check_size") (qual := "_check_size") (st := s__check_size) (kws := []) F__check_size
  have m__check_size := He.glo_ok X G (c.fact 16 (f := .glo "_check_size") rfl)
  obtain ⟨_, F__check_prints⟩ := c.def_ 17 rfl
  have F__check_prints := He5.fun_of (x := "_check_prints") (qual := "_check_prints") (st := s__check_prints) (kws := []) F__check_prints
  have m__check_prints := He.glo_ok X G (c.fact 17 (f := .glo "_check_prints") rfl)
  obtain ⟨_, F__check_kind⟩ := c.def_ 18 rfl
  have F__check_kind := He5.fun_of (x := "_check_kind") (qual := "_check_kind") (st := s__check_kind) (kws := []) F__check_kind
  have m__check_kind := He.glo_ok X G (c.fact 18 (f := .glo "_check_kind") rfl)
  obtain ⟨_, F__check_ends⟩ := c.def_ 19 rfl
  have F__check_ends := He5.fun_of (x := "_check_ends") (qual := "_check_ends") (st := s__check_ends) (kws := []) F__check_ends
  have m__check_ends := He.glo_ok X G (c.fact 19 (f := .glo "_check_ends") rfl)
  obtain ⟨_, F_l_random⟩ := c.def_ 20 rfl
  have F_l_random := He5.fun_of (x := "_law_random") (qual := "_law_random") (st := s_l_random) (kws := []) F_l_random
  have m_l_random := He.glo_ok X G (c.fact 20 (f := .glo "_law_random") rfl)
  obtain ⟨_, F_l_below⟩ := c.def_ 21 rfl
  have F_l_below := He5.fun_of (x := "_law_below") (qual := "_law_below") (st := s_l_below) (kws := []) F_l_below
  have m_l_below := He.glo_ok X G (c.fact 21 (f := .glo "_law_below") rfl)
  obtain ⟨_, F_l_pick⟩ := c.def_ 22 rfl
  have F_l_pick := He5.fun_of (x := "_law_pick") (qual := "_law_pick") (st := s_l_pick) (kws := []) F_l_pick
  have m_l_pick := He.glo_ok X G (c.fact 22 (f := .glo "_law_pick") rfl)
  obtain ⟨_, F_l_equal⟩ := c.def_ 23 rfl
  have F_l_equal := He5.fun_of (x := "_law_equal") (qual := "_law_equal") (st := s_l_equal) (kws := []) F_l_equal
  have m_l_equal := He.glo_ok X G (c.fact 23 (f := .glo "_law_equal") rfl)
  obtain ⟨_, F_l_ten⟩ := c.def_ 24 rfl
  have F_l_ten := He5.fun_of (x := "_law_ten") (qual := "_law_ten") (st := s_l_ten) (kws := []) F_l_ten
  have m_l_ten := He.glo_ok X G (c.fact 24 (f := .glo "_law_ten") rfl)
  obtain ⟨_, F_l_text⟩ := c.def_ 25 rfl
  have F_l_text := He5.fun_of (x := "_law_text") (qual := "_law_text") (st := s_l_text) (kws := []) F_l_text
  have m_l_text := He.glo_ok X G (c.fact 25 (f := .glo "_law_text") rfl)
  obtain ⟨_, F_l_printed⟩ := c.def_ 26 rfl
  have F_l_printed := He5.fun_of (x := "_law_printed") (qual := "_law_printed") (st := s_l_printed) (kws := []) F_l_printed
  have m_l_printed := He.glo_ok X G (c.fact 26 (f := .glo "_law_printed") rfl)
  obtain ⟨_, F_l_mean⟩ := c.def_ 27 rfl
  have F_l_mean := He5.fun_of (x := "_law_mean") (qual := "_law_mean") (st := s_l_mean) (kws := []) F_l_mean
  have m_l_mean := He.glo_ok X G (c.fact 27 (f := .glo "_law_mean") rfl)
  obtain ⟨_, F_l_can⟩ := c.def_ 28 rfl
  have F_l_can := He5.fun_of (x := "_law_can") (qual := "_law_can") (st := s_l_can) (kws := []) F_l_can
  have m_l_can := He.glo_ok X G (c.fact 28 (f := .glo "_law_can") rfl)
  obtain ⟨_, F_law⟩ := c.def_ 29 rfl
  have F_law := He5.fun_of (x := "law") (qual := "law") (st := s_law) (kws := []) F_law
  have m_law := He.glo_ok X G (c.fact 29 (f := .glo "law") rfl)
  have T : Blt mg := ⟨He.free_ok X G (c.fact 30 (f := .free "len") rfl), He.free_ok X G (c.fact 31 (f := .free "abs") rfl), He.free_ok X G (c.fact 32 (f := .free "int") rfl), He.free_ok X G (c.fact 33 (f := .free "str") rfl), He.free_ok X G (c.fact 34 (f := .free "sum") rfl), He.free_ok X G (c.fact 35 (f := .free "min") rfl), He.free_ok X G (c.fact 36 (f := .free "max") rfl), He.free_ok X G (c.fact 37 (f := .free "all") rfl), He.free_ok X G (c.fact 38 (f := .free "any") rfl), He.free_ok X G (c.fact 39 (f := .free "range") rfl), He.free_ok X G (c.fact 40 (f := .free "sorted") rfl), He.free_ok X G (c.fact 41 (f := .free "tuple") rfl), He.free_ok X G (c.fact 42 (f := .free "list") rfl), He.free_ok X G (c.fact 43 (f := .free "set") rfl), He.free_ok X G (c.fact 44 (f := .free "bool") rfl), He.free_ok X G (c.fact 45 (f := .free "dict") rfl), He.free_ok X G (c.fact 46 (f := .free "isinstance") rfl)⟩
  obtain ⟨fd_init, F_init⟩ := c.def_ 30 rfl
  have F_init : FunI K (He.ma K (He.ga K "Report") "__init__") fd_init := F_init
  have m_Report := He.glo_ok X G (c.fact 47 (f := .glo "Report") rfl)
  have clR := He.cls_ok (c.fact 48 (f := .cls "Report") rfl)
  have mkR := He.mkr_ok (c.fact 49 (f := .mkr "Report") rfl)
  have naR : NoAt K (He.ga K "Report") := ⟨He.noat_ok (c.fact 50 (f := .noat "Report" "_low") rfl), He.noat_ok (c.fact 51 (f := .noat "Report" "_high") rfl), He.noat_ok (c.fact 52 (f := .noat "Report" "_size") rfl), He.noat_ok (c.fact 53 (f := .noat "Report" "_mean") rfl), He.noat_ok (c.fact 54 (f := .noat "Report" "_spread") rfl), He.noat_ok (c.fact 55 (f := .noat "Report" "_kind") rfl), He.noat_ok (c.fact 56 (f := .noat "Report" "_least") rfl), He.noat_ok (c.fact 57 (f := .noat "Report" "_greatest") rfl), He.noat_ok (c.fact 58 (f := .noat "Report" "_middle") rfl)⟩
  obtain ⟨_, G_low⟩ := c.def_ 31 rfl
  have G_low := He5.fun_of (x := "low") (qual := "Report.low") (st := s_Report_low) (kws := []) G_low
  obtain ⟨_, G_high⟩ := c.def_ 32 rfl
  have G_high := He5.fun_of (x := "high") (qual := "Report.high") (st := s_Report_high) (kws := []) G_high
  obtain ⟨_, G_size⟩ := c.def_ 33 rfl
  have G_size := He5.fun_of (x := "size") (qual := "Report.size") (st := s_Report_size) (kws := []) G_size
  obtain ⟨_, G_mean⟩ := c.def_ 34 rfl
  have G_mean := He5.fun_of (x := "mean") (qual := "Report.mean") (st := s_Report_mean) (kws := []) G_mean
  obtain ⟨_, G_spread⟩ := c.def_ 35 rfl
  have G_spread := He5.fun_of (x := "spread") (qual := "Report.spread") (st := s_Report_spread) (kws := []) G_spread
  obtain ⟨_, G_kind⟩ := c.def_ 36 rfl
  have G_kind := He5.fun_of (x := "kind") (qual := "Report.kind") (st := s_Report_kind) (kws := []) G_kind
  obtain ⟨_, G_least⟩ := c.def_ 37 rfl
  have G_least := He5.fun_of (x := "least") (qual := "Report.least") (st := s_Report_least) (kws := []) G_least
  obtain ⟨_, G_greatest⟩ := c.def_ 38 rfl
  have G_greatest := He5.fun_of (x := "greatest") (qual := "Report.greatest") (st := s_Report_greatest) (kws := []) G_greatest
  obtain ⟨_, G_middle⟩ := c.def_ 39 rfl
  have G_middle := He5.fun_of (x := "middle") (qual := "Report.middle") (st := s_Report_middle) (kws := []) G_middle
  have mo := c.more
  unfold theMore at mo
  obtain ⟨x_low, mo⟩ := He.ba mo
  obtain ⟨x_high, mo⟩ := He.ba mo
  obtain ⟨x_size, mo⟩ := He.ba mo
  obtain ⟨x_mean, mo⟩ := He.ba mo
  obtain ⟨x_spread, mo⟩ := He.ba mo
  obtain ⟨x_kind, mo⟩ := He.ba mo
  obtain ⟨x_least, mo⟩ := He.ba mo
  obtain ⟨x_greatest, mo⟩ := He.ba mo
  obtain ⟨x_middle, mo⟩ := He.ba mo
  obtain ⟨x_UNITS, mo⟩ := He.ba mo
  have x_KINDS := mo
  have k_FIGURES := He.str_ok X G (c.fact 59 (f := .str "FIGURES" "0123456789") rfl)
  have k_MOST_FIGURES := He.int_ok X G (c.fact 60 (f := .int "MOST_FIGURES" (4)) rfl)
  have k_UNITS := He.glo_ok X G (c.fact 61 (f := .glo "UNITS") rfl)
  have k_LEAST_LOW := He.int_ok X G (c.fact 62 (f := .int "LEAST_LOW" (-50)) rfl)
  have k_MOST_HIGH := He.int_ok X G (c.fact 63 (f := .int "MOST_HIGH" (50)) rfl)
  have k_MOST_WIDTH := He.int_ok X G (c.fact 64 (f := .int "MOST_WIDTH" (11)) rfl)
  have k_MOST_SIZE := He.int_ok X G (c.fact 65 (f := .int "MOST_SIZE" (1000000)) rfl)
  have k_KINDS := He.glo_ok X G (c.fact 66 (f := .glo "KINDS") rfl)
  have G0 : Con K mg := ⟨k_FIGURES, k_MOST_FIGURES, k_UNITS, fun H => He.tupB_ok x_UNITS H, k_LEAST_LOW, k_MOST_HIGH, k_MOST_WIDTH, k_MOST_SIZE, k_KINDS, fun H => He.tupB_ok x_KINDS H⟩
  have e := hfa.symm.trans m_law
  cases e
  have F_law0 := F_law
  obtain ⟨oc, od, kV, doc, pm, an, cdv, ct, osl, rfl, lk, hcd⟩ := F_law.ex
  refine ⟨PySem.W.fnOf "law" "law" (defArgs s_law) (defBody s_law) (defScope s_law) .none kV doc pm an cdv ct, fun s v => .of_eq rfl, fun base => ?_⟩
  have R : RepT P w K mg base := ⟨clR, prp_mk (propB_ok x_low) G_low sc_Report_low rfl (fun _ _ _ _ _ _ us hl => match us, hl with | [_], _ => rfl) clR naR.low, prp_mk (propB_ok x_high) G_high sc_Report_high rfl (fun _ _ _ _ _ _ us hl => match us, hl with | [_], _ => rfl) clR naR.high, prp_mk (propB_ok x_size) G_size sc_Report_size rfl (fun _ _ _ _ _ _ us hl => match us, hl with | [_], _ => rfl) clR naR.size, prp_mk (propB_ok x_mean) G_mean sc_Report_mean rfl (fun _ _ _ _ _ _ us hl => match us, hl with | [_], _ => rfl) clR naR.mean, prp_mk (propB_ok x_spread) G_spread sc_Report_spread rfl (fun _ _ _ _ _ _ us hl => match us, hl with | [_], _ => rfl) clR naR.spread, prp_mk (propB_ok x_kind) G_kind sc_Report_kind rfl (fun _ _ _ _ _ _ us hl => match us, hl with | [_], _ => rfl) clR naR.kind, prp_mk (propB_ok x_least) G_least sc_Report_least rfl (fun _ _ _ _ _ _ us hl => match us, hl with | [_], _ => rfl) clR naR.least, prp_mk (propB_ok x_greatest) G_greatest sc_Report_greatest rfl (fun _ _ _ _ _ _ us hl => match us, hl with | [_], _ => rfl) clR naR.greatest, prp_mk (propB_ok x_middle) G_middle sc_Report_middle rfl (fun _ _ _ _ _ _ us hl => match us, hl with | [_], _ => rfl) clR naR.middle⟩
  have C_is_int : Cal P w K mg base "is_int" 1 P_is_int (spIsInt K) := cal_isint F_is_int m_is_int T
  have C_is_int_within := cal_within F_is_int_within m_is_int_within T C_is_int
  have C_are : Cal P w K mg base "_are_figures" 1 P__are_figures (spTB areFig) := cal_are F__are_figures m__are_figures T G0
  have C_worth : Cal P w K mg base "_has_worth" 1 P__has_worth (spTB hasWorth) := cal_worth F__has_worth m__has_worth T
  have C_whole := cal_whole F__is_whole m__is_whole T C_are
  have C_isp := cal_isprint F_is_print m_is_print T C_whole C_are C_worth
  have C_fz := cal_from0 F_is_print_from_zero m_is_print_from_zero C_isp
  have C_b : Cal P w K mg base "print_bounds" 1 P_print_bounds spBounds := cal_bounds F_print_bounds m_print_bounds T G0
  have C_sc := cal_scale F__check_scale m__check_scale T G0 C_is_int_within (cal_most F_most_high m_most_high T G0)
  have C_sz := cal_size F__check_size m__check_size T G0 C_is_int_within
  have C_pr := cal_prints F__check_prints m__check_prints C_isp C_fz
  have C_ki : Cal P w K mg base "_check_kind" 1 P__check_kind spKind := cal_kind F__check_kind m__check_kind G0
  have C_en := cal_ends F__check_ends m__check_ends C_is_int_within
  have I := ok_init F_init clR naR C_sc C_sz C_pr C_ki C_en
  obtain ⟨ds8, v8, b8⟩ := F_init.binds1 (ps := P_Report___init__) 9 4 (by simp) rfl fun T kV doc pm an cdv ct us its h1 h2 => match us, its, h1, h2 with | [_, _, _, _, _, _, _, _, _], [_, _, _, _, _], _, _ => ⟨_, rfl, rfl⟩
  have M8 : MkR P w K mg base [.non] := ⟨_, _, ds8, mkR, I, b8, v8, m_Report⟩
  have C_told := cal_told F_told_marks m_told_marks T R
  have C_rng := cal_range F_mark_range m_mark_range R
  have C_sums := cal_sums F_sums_with m_sums_with T R (cal_end F_end_sums m_end_sums T R C_told C_rng) C_b
  have C_sr := cal_sumrange F_sum_range m_sum_range R C_sums
  have C_cm := cal_canmean F_can_mean m_can_mean C_sr
  have C_rand : Cal P w K mg base "_law_random" 1 P_l_random (spRandom K) := cal_random F_l_random m_l_random T
  have C_below : Cal P w K mg base "_law_below" 1 P_l_below spBelow := cal_below F_l_below m_l_below T
  have C_pick := cal_pick F_l_pick m_l_pick T C_below
  have C_ten : Cal P w K mg base "_law_ten" 1 P_l_ten spTen := cal_ten F_l_ten m_l_ten T
  have C_text : Cal P w K mg base "_law_text" 1 P_l_text spText := cal_text F_l_text m_l_text T
  have C_prd := cal_printed F_l_printed m_l_printed T C_ten
  have C_mean := cal_mean F_l_mean m_l_mean T C_below C_pick C_ten C_text
  have C_can := cal_can F_l_can m_l_can R
  exact ok_law F_law0 T R M8 C_rand C_below C_pick C_ten C_prd C_mean C_can C_sr C_cm
theorem walkE {l : PySem.W.OpenLaw} {n : Nat} {q : Program} {loose : List Str} {XP : (Str → Option Value) → Heap → Prop} {d : DefRec} (hn : l.most = some 63) (hdf : d.params.defaults = []) (hname : d.name = "law") :
    PySem.W.WalkO q loose XP (hookM n theMore theFacts theFns).says l.row.toRowW d [] (fun f vs => PySem.call f vs) :=
  L2.walk_ofE (n := 63) (k := 9) (x := "_law_script") (CX := CX0) hn (by decide) hdf ⟨rfl, by decide, by decide⟩
    (fun w mg fa h Y G hmg => by
      obtain ⟨K, KX, c⟩ := Y
      have hfa : mg "law" = some (.ref fa) := by rw [← hname]; exact hmg
      obtain ⟨fd, hb, h2⟩ := all_mk (P := l.prog) (w := w) KX G hfa c
      exact ⟨K, fd, spLaw K, KX, hb, fun _ a ns hl _ hS => ⟨a, ns, rfl, hS, hl, fun _ => rfl⟩, fun base _ _ => h2 base⟩) (fun _ _ _ _ z => z)
end Mn
open PySem PySem.W PyProof.Rows
set_option Elab.async false
set_option linter.all false
set_option maxRecDepth 100000
set_option maxHeartbeats 0
namespace Mn
abbrev hR : PySem.W.OpenRow := PySem.W.OpenLaw.row PySem.Challenge.rw_meansinprint_k03_great_sum_ranges
abbrev hq : Program := PySem.W.view hR.prog [51]
abbrev hk : PySem.W.Hook := hookM 6 theMore theFacts theFns
def hob (s : PySem.W.SharedT) : Al := obsMG 6 theMore theFacts theFns (HandSHeadRun.getT s)
theorem hob_eq (s : PySem.W.SharedT) : hob s = hk.obs s.abs := obsMG_eq (HandSHeadRun.getT_eq s)
def hl0 : List Str := ["told_marks", "mark_range", "ReportError", "BadScale", "BadSize", "BadPrint", "BadKind", "BadEnd", "is_int", "is_int_within", "FIGURES", "MOST_FIGURES", "UNITS", "is_print", "is_print_from_zero", "print_bounds", "_is_whole", "_are_figures", "_has_worth", "sum_range", "can_mean", "sums_with", "end_sums", "LEAST_LOW", "MOST_HIGH", "MOST_WIDTH"]
def hl1 : List Str := ["MOST_SIZE", "KINDS", "Report", "most_high", "_check_scale", "_check_size", "_check_prints", "_check_kind", "_check_ends", "_law_random", "_law_below", "_law_pick", "_law_equal", "_law_ten", "_law_text", "_law_printed", "_law_mean", "_law_can"]
def hloose : List Str := hl0 ++ hl1
theorem hrun (w : World) : HandSHeadRun.RunEq hR hq hk hob 4200 hloose w := by
  intro os
  kernel_rfl
end Mn
theorem PySem.Challenge.cw_meansinprint_k03_great_sum_ranges_holds : PySem.Challenge.rw_meansinprint_k03_great_sum_ranges.Holds := by
  w_on; o_law
  refine HandSHeadRun.head_any (r := OpenLaw.row PySem.Challenge.rw_meansinprint_k03_great_sum_ranges) (q := Mn.hq) (H := Mn.hk) (ob := Mn.hob) (M := 4200) (loose := Mn.hloose) (d := HandSHeadRun.topDef (OpenLaw.row PySem.Challenge.rw_meansinprint_k03_great_sum_ranges).prog 51) (kwd := []) Mn.hob_eq
    (by kernel_rfl) (fun s => by kernel_rfl) Mn.hrun (by kernel_rfl) (by kernel_rfl) (by kernel_rfl) (by rfl) (by first | assumption | decide +kernel) (by decide +kernel) ⟨rfl, rfl, rfl, rfl, rfl, by decide +kernel⟩ ?hw ?hc
  case hw => w_witness2
  case hc =>
    exact Mn.walkE rfl (by kernel_rfl) (by kernel_rfl)
