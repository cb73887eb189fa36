import PyProof.Rows.All
import Wide.All
import OpenK.AllK
import Wide.FinOn
import HandS.ForMost
import HandS.Wide
import HandS.Gcd
import HandS.IsInst
import HandS.Walk
import HandS.Conv
import HandS.Style
import PyProof.Rows.RuleB_pow
import PySem.Challenge.RW_huebill_k08_whole_charges_told
import KE.KOpsOwn
import KE.KCallOwn
import KE.KOwnIter
import HandS.Property
import HandS.MakeKwOnly
import HandS.DictComp
import HandS.ListItems
import PyProof.InstNe
import HandS.IterVal
import HandS.IterNext
import PyProof.Rows.TmSorted
import PyProof.Rows.StrMeet
import HandS.More
import HandS.FStr
import HandS.StrMore
import PyProof.Rows.StrDigitsNeg
import HandS.TupAny
import HandS.Zip
import PyProof.StrBlockL
import HandS.Small
import HandS.WordsDict
import HandS.Finally
import HandS.DeepEq
import HandS.ListEq
import KE.KExcLine
set_option Elab.async false
set_option linter.all false
set_option maxRecDepth 100000
set_option maxHeartbeats 4000000
namespace V0
open PySem PySem.Spec PyProof.Rows L2
/-! ### rules of my own -/
/-- a ** n of great a -/
def CPowB (i j : Int) : Prop := 0 ≤ j ∧ (Builtin.Int.intBits i : Int) * j ≤ 2 ^ 27
/-- a name of the module that holds a plain value -/
def GV (mg : Str → Option Value) (x : Str) (v : V) : Prop := ∃ u, mg x = some u ∧ RelV v u
section
variable {X : Cx}
theorem op_powB : OpR X (binaryOp .Pow) (rI CPowB fun i j => .int (i ^ j.toNat)) := opI fun _ _ _ _ _ _ _ hc q => pow_int hc.1 hc.2 q
theorem pe_gv {x : Str} {v : V} {pos : Pos} (hg : Gl X x) (h : GV X.mg x v) (hd : (x == ("__debug__" : Str)) = false := by decide) : PE X (.Name x pos) (tC v) := by
  obtain ⟨u, hm, r⟩ := h
  exact pe_glob hg hm r hd
/-- a built-in class as a value -/
theorem pe_ty {x : Str} {n : String} {pos : Pos} (hg : Gl X x) (hm : X.mg x = none) (hv : bootBuiltins x = some (.type n)) (hn : x ≠ "__name__" := by decide) (hd : (x == ("__debug__" : Str)) = false := by decide) : PE X (.Name x pos) (tC (.ty n)) := pe_bltn hg hm hv rfl hn hd
end
/-- a def of the text that stands under its own name -/
structure Df (K : PySem.W.Frag) (mg : Str → Option Value) (x : Str) (st : Stmt) (ps : List Str) (f : Addr) (fd : FuncData) : Prop where
  F : Fun K x x st f fd
  b : Binds K fd ps []
  g : mg x = some (.ref f)
/-- the built-in names -/
structure Bl (mg : Str → Option Value) : Prop where
  b_len : mg "len" = none
  b_abs : mg "abs" = none
  b_max : mg "max" = none
  b_min : mg "min" = none
  b_int : mg "int" = none
  b_bool : mg "bool" = none
  b_str : mg "str" = none
  b_tuple : mg "tuple" = none
  b_list : mg "list" = none
  b_dict : mg "dict" = none
  b_all : mg "all" = none
  b_any : mg "any" = none
  b_sum : mg "sum" = none
  b_repr : mg "repr" = none
  b_isinstance : mg "isinstance" = none
  b_range : mg "range" = none
/-- all but the object at p is as it was -/
def But (p : Addr) (H H' : Hp) : Prop := ∀ b o, H b = some o → b ≠ p → H' b = some o
theorem But.of {H H' : Hp} {p : Addr} (s : Same H H') : But p H H' := fun b o e _ => s b o e
theorem But.trans {p : Addr} {H H1 H2 : Hp} (a : But p H H1) (b : But p H1 H2) : But p H H2 := fun c o e h => b c o (a c o e h) h
theorem But.refl {p : Addr} {H : Hp} : But p H H := fun _ _ e _ => e
theorem But.upd {p : Addr} {H : Hp} {o : HO} : But p H (upd H p o) := fun b u e h => by rw [upd_ne h]; exact e
theorem But.new {p q : Addr} {H : Hp} {o : HO} (h : H q = none) : But p H (L2.upd H q o) := fun b u e _ => by rw [upd_ne (ne_of_none e h)]; exact e
theorem Same.new {q : Addr} {H : Hp} {o : HO} (h : H q = none) : Same H (upd H q o) := fun b u e => by rw [upd_ne (ne_of_none e h)]; exact e
theorem at_g {α : Type} {xs : List α} {i : Int} {v : α} (h0 : 0 ≤ i) (h : xs[i.toNat]? = some v) : atI xs i = some v := by
  obtain ⟨n, rfl⟩ : ∃ n : Nat, i = (n : Int) := ⟨i.toNat, by omega⟩
  exact atI_nat h
/-! ### kinds of values -/
inductive Kd where
  | non | bl | int | str | lst | tup | dct
  deriving DecidableEq
def Kd.nm : Kd → String
  | .non => "NoneType" | .bl => "bool" | .int => "int" | .str => "str" | .lst => "list" | .tup => "tuple" | .dct => "dict"
def Kd.is : Kd → Kd → Bool
  | .bl, .int => true
  | .non, .non => true | .bl, .bl => true | .int, .int => true | .str, .str => true | .lst, .lst => true | .tup, .tup => true | .dct, .dct => true
  | _, _ => false
inductive Kn (H : Hp) : V → Kd → Prop
  | non : Kn H .non .non
  | bl (b : Bool) : Kn H (.bl b) .bl
  | int (i : Int) : Kn H (.int i) .int
  | str (x : Str) : Kn H (.str x) .str
  | lst {a : Addr} {xs : List V} (h : H a = some (.lst xs)) : Kn H (.ref a) .lst
  | tup {a : Addr} {xs : List V} (h : H a = some (.tup xs)) : Kn H (.ref a) .tup
  | dct {a : Addr} {kvs : List (Key × V)} (h : H a = some (.dK kvs)) : Kn H (.ref a) .dct
theorem Kn.same {H H' : Hp} {x : V} {t : Kd} (s : Same H H') : Kn H x t → Kn H' x t
  | .non => .non
  | .bl b => .bl b
  | .int i => .int i
  | .str z => .str z
  | .lst h => .lst (s _ _ h)
  | .tup h => .tup (s _ _ h)
  | .dct h => .dct (s _ _ h)
theorem Kn.tyx {K : PySem.W.Frag} {H : Hp} {x : V} {t : Kd} (h : Kn H x t) : TyX K H x (.type t.nm) := by
  cases h with
  | non => exact .base .non
  | bl b => exact .base (.bl b)
  | int i => exact .base (.int i)
  | str z => exact .base (.str z)
  | lst h => exact .base (.lst h)
  | tup h => exact .base (.tup h)
  | dct h => exact .base (.dK h)
theorem kd_kit (t c : Kd) (hc : c ≠ .non) : kitB t.nm c.nm = some (t.is c) := by
  cases t <;> cases c <;> first | exact absurd rfl hc | decide +kernel
section
variable {X : Cx}
/-- isinstance(x, c), c a built-in class -/
def rIs : List V → Hp → VK → Prop := fun xs H Q => ∃ (x : V) (t c : Kd), xs = [x, .ty c.nm] ∧ Kn H x t ∧ c ≠ .non ∧ Q (.bl (t.is c)) H
theorem call_is : CallR X (.builtin "isinstance") rIs := by
  intro pins s σ H xs us Q I r h
  obtain ⟨x, t, c, rfl, k, hc, q⟩ := h
  exact call_isi pins s σ H _ us Q I r ⟨x, .ty c.nm, _, _, _, rfl, .ty _, k.tyx, kit_ty (kd_kit t c hc), q⟩
end
/-! ### the draws -/
/-- the pot of draws -/
def Pot (H : Hp) (p : Addr) : Prop := ∃ a b c : Int, H p = some (.lst [.int a, .int b, .int c]) ∧ 0 ≤ a ∧ 0 ≤ b ∧ b < 2 ^ 62 ∧ 0 ≤ c
theorem Pot.same {H H' : Hp} {p : Addr} (s : Same H H') (h : Pot H p) : Pot H' p := by
  obtain ⟨a, b, c, hp, r⟩ := h
  exact ⟨a, b, c, s _ _ hp, r⟩
def spPot (K : PySem.W.Frag) : Sp := fun vs H Q _ => ∃ (a : Addr) (ns : List Int) (j : Nat), vs = [.ref a, .int j] ∧ SqL K H a (ns.map V.int) ∧ ns.length ≤ 1000 ∧ j < 1000 ∧
  ∀ (p : Addr) (H' : Hp), H p = none → Pot H' p → Same H H' → Q (.ref p) H'
def spStir : Sp := fun vs H Q _ => ∃ (p : Addr) (t : Int), vs = [.ref p, .int t] ∧ Pot H p ∧ 0 < t ∧ t < 2 ^ 200 ∧
  ∀ (r : Int) (H' : Hp), 0 ≤ r → r < t → Pot H' p → But p H H' → Q (.int r) H'
/-- one of the items of a list, or of the signs of a text -/
def spOneOf (K : PySem.W.Frag) : Sp := fun vs H Q _ => ∃ (p : Addr) (o : V), vs = [.ref p, o] ∧ Pot H p ∧
  ((∃ (l : Addr) (xs : List V), o = .ref l ∧ l ≠ p ∧ H l = some (.lst xs) ∧ xs ≠ [] ∧ xs.length ≤ 1000 ∧ ∀ x, x ∈ xs → ∀ H', Pot H' p → But p H H' → Q x H') ∨
   (∃ z : Str, o = .str z ∧ z.length ≠ 0 ∧ z.length ≤ 1000 ∧ ∀ c, c ∈ z.cps.toList → ∀ H', Pot H' p → But p H H' → Q (.str ⟨#[c]⟩) H'))
end V0

namespace V0
open PySem PySem.Spec PyProof.Rows L2
def top (i : Nat) : Stmt := PySem.Challenge.pw_huebill_k08_whole_charges_told.main.body.getD i (.Pass ⟨0, 0, 0, 0⟩)
section
variable {P : Program} {w : World} {K : PySem.W.Frag} {mg : Str → Option Value} {base : Heap}
abbrev s_pot : Stmt := top 31
abbrev N_pot : List Str := ["_law_script", "_law_at", "_law_cell", "_law_great", "_law_mixed"]
abbrev P_pot : List Str := ["_law_script", "_law_at"]
theorem sc_pot : FnScope N_pot P_pot (defScope s_pot) := ⟨rfl, rfl, rfl, by decide +kernel, rfl, by decide +kernel, by decide +kernel⟩
theorem ok_pot {f : Addr} {fd : FuncData} (B : Bl mg) (D : Df K mg "_law_pot" s_pot P_pot f fd) : FnOk P w K mg base CX0 1 f fd P_pot (spPot K) := by
  refine D.F.ok sc_pot (fun vs H Q E h => ?_) (fun cdv A outer s H vs Q E hr h => ?_)
  · obtain ⟨a, ns, j, rfl, _⟩ := h
    rfl
  · obtain ⟨a, ns, j, rfl, hS, hl, hj, k⟩ := h
    refine ⟨_, (pss_cons (ps_set (i := 2) sc_pot.nd rfl (Or.inl rfl) (pe_ifExp (pt_cmpR op_lt (pv 1) (pe_callB call_len_seq (by rfl) B.b_len (by decide +kernel) (pa_cons (pv 0) pa_nil)) (nomark _)) (pe_ix ix_list (pv 0) (pv 1) (fun _ _ => rfl)) (pe_op op_add (pe_op op_mul pe_int (pv 1)) pe_int)))
      (pss_cons (ps_set (i := 3) sc_pot.nd rfl (Or.inl rfl) (pe_op op_mod (pe_callTy call_int1 (by rfl) B.b_int (by decide +kernel) (pa_cons (pe_callB call_abs (by rfl) B.b_abs (by decide +kernel) (pa_cons (pv 2) pa_nil)) pa_nil)) (pe_op op_powB (pe_op op_pow pe_int pe_int) pe_int)))
      (pss_cons (ps_set (i := 4) sc_pot.nd rfl (Or.inl rfl) (pe_op op_add (pe_op op_add (pe_op op_add (pe_op op_mul (pe_op op_mod (pe_callTy call_int1 (by rfl) B.b_int (by decide +kernel) (pa_cons (pv 3) pa_nil)) pe_int) pe_int) (pe_op op_mul pe_int (pv 1))) (pe_op op_mul pe_int (pe_callTy call_int1 (by rfl) B.b_int (by decide +kernel) (pa_cons (pe_cmpR op_lt (pv 2) pe_int (nomark _)) pa_nil)))) pe_int))
      (pss_one (ps_ret (pe_lst (pa_cons (pe_callB (call_max2 rfl) (by rfl) B.b_max (by decide +kernel) (pa_cons pe_int (pa_cons (pe_op op_sub (pv 3) (pe_op op_pow pe_int pe_int)) pa_nil))) (pa_cons (pe_op op_mod (pe_callTy call_int1 (by rfl) B.b_int (by decide +kernel) (pa_cons (pv 4) pa_nil)) pe_int) (pa_cons pe_int pa_nil))))))))), ?_⟩
    -- cell: any int
    refine ⟨_, rfl, _, rfl, a, _, rfl, .inl hS, _, _, rfl, rfl, _, rfl, ?_⟩
    refine ite2 (fun e => ?_) (fun e => ?_)
    all_goals first
      | (have hlt : j < ns.length := by
          have e' := of_decide_eq_true e
          rw [List.length_map] at e'
          omega
         refine ⟨_, rfl, _, rfl, a, _, _, .int ns[j], rfl, rfl, hS, at_of (j := j) rfl (by rw [List.getElem?_map, List.getElem?_eq_getElem hlt]; rfl), ?_⟩
         generalize ns[j] = z)
      | (refine ⟨_, rfl, _, _, rfl, rfl, .inl ⟨by decide, by decide⟩, _, _, rfl, rfl, ?_⟩
         generalize 97 * (j : Int) + 59 = z)
    all_goals (
      -- great, mixed, the pot
      refine ⟨_, rfl, _, rfl, .inl ⟨_, rfl, _, _, rfl, rfl, ⟨by decide, by decide, by decide⟩, _, _, rfl, rfl, ⟨by decide, by decide +kernel⟩, _, _, rfl, rfl, (by show (0 : Int) < _; decide +kernel), ?_⟩⟩
      generalize hg : (if z < 0 then -z else z) % ((10 ^ Int.toNat 59) ^ Int.toNat 9) = g
      refine ⟨_, rfl, .inl ⟨_, rfl, _, _, rfl, rfl, (by show (0 : Int) < 2305843009213693921; decide), _, _, rfl, rfl, .inr ⟨by decide, by decide⟩, _, rfl, _, _, rfl, rfl, .inl ⟨by decide, by decide⟩, _, _, rfl, rfl, _, rfl, _, _, rfl, rfl, .inr ⟨_, rfl, _, _, rfl, rfl, .inl ⟨by decide, by decide⟩, _, _, rfl, rfl, _, _, rfl, rfl, ?_⟩⟩⟩
      refine ⟨_, rfl, _, _, rfl, rfl, ⟨by decide, by decide, by decide⟩, _, _, rfl, rfl, _, _, rfl, _, rfl, .inl ⟨_, rfl, _, _, rfl, rfl, (by show (0 : Int) < 2305843009213693951; decide), (by show 3 ≤ sizeLine; decide), fun p hp => ?_⟩⟩
      refine k p _ hp ⟨_, _, _, upd_same, ?_, Int.emod_nonneg _ (by decide), ?_, by decide⟩ (Same.new hp)
      · split <;> omega
      · exact Int.lt_of_lt_of_le (Int.emod_lt_of_pos _ (by decide)) (by decide))
abbrev s_stir : Stmt := top 32
abbrev N_stir : List Str := ["_law_pot_here", "_law_total", "_law_found", "_law_one", "_law_two"]
abbrev P_stir : List Str := ["_law_pot_here", "_law_total"]
theorem sc_stir : FnScope N_stir P_stir (defScope s_stir) := ⟨rfl, rfl, rfl, by decide +kernel, rfl, by decide +kernel, by decide +kernel⟩
theorem ok_stir {f : Addr} {fd : FuncData} (B : Bl mg) (D : Df K mg "_law_stir" s_stir P_stir f fd) : FnOk P w K mg base CX0 1 f fd P_stir spStir := by
  refine D.F.ok sc_stir (fun vs H Q E h => ?_) (fun cdv A outer s H vs Q E hr h => ?_)
  · obtain ⟨p, t, rfl, _⟩ := h
    rfl
  · obtain ⟨p, t, rfl, ⟨a, b, c, hp, ha, hb, hb2, hc⟩, ht, ht2, k⟩ := h
    refine ⟨_, (pss_cons (ps_if (pt_cmpR op_gt (pe_ix ix_list (pv 0) pe_int (fun _ _ => rfl)) pe_int (nomark _)) (pss_cons (ps_set (i := 2) sc_stir.nd rfl (Or.inl rfl) (pe_op op_mod (pe_callTy call_int1 (by rfl) B.b_int (by decide +kernel) (pa_cons (pe_ix ix_list (pv 0) pe_int (fun _ _ => rfl)) pa_nil)) (pv 1)))
      (pss_cons (ps_asg (pe_op op_fdivW (pe_ix ix_list (pv 0) pe_int (fun _ _ => rfl)) (pv 1)) (pg_sub (pv 0) pe_int set_list))
      (pss_one (ps_ret (pv 2))))) pss_nil)
      (pss_cons (ps_asg (pe_op op_add (pe_ix ix_list (pv 0) pe_int (fun _ _ => rfl)) pe_int) (pg_sub (pv 0) pe_int set_list))
      (pss_cons (ps_set (i := 3) sc_stir.nd rfl (Or.inl rfl) (pe_op op_mod (pe_callTy call_int1 (by rfl) B.b_int (by decide +kernel) (pa_cons (pe_op op_add (pe_ix ix_list (pv 0) pe_int (fun _ _ => rfl)) (pe_op op_mul pe_int (pe_ix ix_list (pv 0) pe_int (fun _ _ => rfl)))) pa_nil)) pe_int))
      (pss_cons (ps_set (i := 4) sc_stir.nd rfl (Or.inl rfl) (pe_op op_add (pe_op op_mul (pe_op op_mod (pe_callTy call_int1 (by rfl) B.b_int (by decide +kernel) (pa_cons (pe_op op_mul (pv 3) (pv 3)) pa_nil)) pe_int) (pv 3)) (pe_op op_mul pe_int (pe_ix ix_list (pv 0) pe_int (fun _ _ => rfl)))))
      (pss_one (ps_ret (pe_op op_mod (pe_callTy call_int1 (by rfl) B.b_int (by decide +kernel) (pa_cons (pe_op op_fdivW (pe_op op_mod (pe_callTy call_int1 (by rfl) B.b_int (by decide +kernel) (pa_cons (pv 4) pa_nil)) pe_int) pe_int) pa_nil)) (pv 1)))))))), ?_⟩
    -- if pot[0] > 0
    refine ⟨_, rfl, p, _, 0, .int a, rfl, rfl, SqL.of hp, rfl, _, _, rfl, rfl, _, rfl, ite2 (fun e => ?_) (fun e => ?_)⟩
    · -- found = pot[0] % total; pot[0] = pot[0] // total; return found
      refine ⟨_, rfl, p, _, 0, .int a, rfl, rfl, SqL.of hp, rfl, .inl ⟨_, rfl, ?_⟩⟩
      refine ⟨_, rfl, _, _, rfl, rfl, ht, ?_⟩
      refine ⟨_, rfl, p, _, 0, .int a, rfl, rfl, SqL.of hp, rfl, _, rfl, _, _, rfl, rfl, wide_div ht (b := 200) (by omega) (by decide) (by decide), ?_⟩
      refine ⟨_, rfl, p, _, 0, 0, rfl, rfl, hp, rfl, ?_⟩
      refine ⟨_, rfl, ?_⟩
      exact k _ _ (Int.emod_nonneg _ (by omega)) (Int.emod_lt_of_pos _ ht) ⟨a / t, b, c, upd_same, Int.ediv_nonneg ha (by omega), hb, hb2, hc⟩ But.upd
    · -- pot[2] = pot[2] + 1
      refine ⟨_, rfl, p, _, 2, .int c, rfl, rfl, SqL.of hp, rfl, _, _, rfl, rfl, _, rfl, p, _, 2, 2, rfl, rfl, hp, rfl, ?_⟩
      have hp2 : (upd H p (.lst [.int a, .int b, .int (c + 1)])) p = some (.lst [.int a, .int b, .int (c + 1)]) := upd_same
      -- one = int(pot[1] + 1048583 * pot[2]) % ..
      refine ⟨_, rfl, p, _, 1, .int b, rfl, rfl, SqL.of hp2, rfl, _, rfl, p, _, 2, .int (c + 1), rfl, rfl, SqL.of hp2, rfl, _, _, rfl, rfl, .inl ⟨by decide, by decide⟩, _, _, rfl, rfl, .inl ⟨_, rfl, _, _, rfl, rfl, (by show (0 : Int) < 2305843009213693951; decide), ?_⟩⟩
      generalize hx : (b + 1048583 * (c + 1)) % 2305843009213693951 = x
      have x0 : 0 ≤ x := by rw [← hx]; exact Int.emod_nonneg _ (by decide)
      have x1 : x < 2305843009213693951 := by rw [← hx]; exact Int.emod_lt_of_pos _ (by decide)
      -- two = int(one * one) % .. * one + 8101 * pot[2]
      refine ⟨_, rfl, _, rfl, _, _, rfl, rfl, .inl ⟨by omega, by omega⟩, .inl ⟨_, rfl, _, _, rfl, rfl, (by show (0 : Int) < 2305843009213693907; decide), ?_⟩⟩
      have y1 : (x * x) % 2305843009213693907 < 2305843009213693907 := Int.emod_lt_of_pos _ (by decide)
      have y0 : 0 ≤ (x * x) % 2305843009213693907 := Int.emod_nonneg _ (by decide)
      refine ⟨_, rfl, _, _, rfl, rfl, .inl ⟨by omega, by omega⟩, _, rfl, p, _, 2, .int (c + 1), rfl, rfl, SqL.of hp2, rfl, _, _, rfl, rfl, .inl ⟨by decide, by decide⟩, _, _, rfl, rfl, ?_⟩
      -- return int(int(two) % .. // 16384) % total
      refine ⟨_, rfl, .inl ⟨_, rfl, _, _, rfl, rfl, (by show (0 : Int) < 2305843009213693921; decide), _, _, rfl, rfl, ⟨by decide, by decide⟩, .inl ⟨_, rfl, _, rfl, _, _, rfl, rfl, ht, ?_⟩⟩⟩
      exact k _ _ (Int.emod_nonneg _ (by omega)) (Int.emod_lt_of_pos _ ht) ⟨a, b, c + 1, hp2, ha, hb, hb2, by omega⟩ But.upd
end
end V0
namespace V0
open PySem PySem.Spec PyProof.Rows L2
section
variable {P : Program} {w : World} {K : PySem.W.Frag} {mg : Str → Option Value} {base : Heap}
abbrev s_one_of : Stmt := top 33
abbrev N_one_of : List Str := ["_law_pot_here", "_law_items"]
abbrev P_one_of : List Str := ["_law_pot_here", "_law_items"]
theorem sc_one_of : FnScope N_one_of P_one_of (defScope s_one_of) := ⟨rfl, rfl, rfl, by decide +kernel, rfl, by decide +kernel, by decide +kernel⟩
theorem ok_one_of {f f1 : Addr} {fd fd1 : FuncData} (B : Bl mg) (D_stir : Df K mg "_law_stir" s_stir P_stir f1 fd1) (D : Df K mg "_law_one_of" s_one_of P_one_of f fd) : FnOk P w K mg base CX0 2 f fd P_one_of (spOneOf K) := by
  have G_stir : FnOk P w K mg base CX0 1 f1 fd1 P_stir spStir := ok_stir B D_stir
  refine D.F.ok sc_one_of (fun vs H Q E h => ?_) (fun cdv A outer s H vs Q E hr h => ?_)
  · obtain ⟨p, o, rfl, _⟩ := h
    rfl
  · obtain ⟨p, o, rfl, hp, ⟨l, xs, rfl, hlp, hl, hne, hn, k⟩ | ⟨z, rfl, hne, hn, k⟩⟩ := h
    · refine ⟨_, (pss_one (ps_ret (pe_ix ix_seq (pv 1) (pe_call G_stir (hr.mono (by decide)) (by rfl) D_stir.g D_stir.F.kp D_stir.b .nil pass0 (pa_cons (pv 0) (pa_cons (pe_callB call_len (by rfl) B.b_len (by decide +kernel) (pa_cons (pv 1) pa_nil)) pa_nil))) (fun _ _ => rfl)))), ?_⟩
      have h0 : 0 < xs.length := List.length_pos_iff.mpr hne
      refine ⟨_, rfl, _, rfl, _, rfl, _, xs.length, rfl, .inl ⟨_, SqL.of hl, rfl⟩, p, _, rfl, hp, by omega, by omega, fun r H' r0 r1 hp' hb => ?_⟩
      have hr : r.toNat < xs.length := by omega
      exact .inl ⟨l, xs, r, xs[r.toNat], rfl, rfl, SqL.of (hb _ _ hl hlp), at_of (j := r.toNat) (by omega) (List.getElem?_eq_getElem hr), k _ (List.getElem_mem hr) H' hp' hb⟩
    · refine ⟨_, (pss_one (ps_ret (pe_ix ix_seq (pv 1) (pe_call G_stir (hr.mono (by decide)) (by rfl) D_stir.g D_stir.F.kp D_stir.b .nil pass0 (pa_cons (pv 0) (pa_cons (pe_callB call_len (by rfl) B.b_len (by decide +kernel) (pa_cons (pv 1) pa_nil)) pa_nil))) (fun _ _ => rfl)))), ?_⟩
      have hz : (1000 : Nat) ≤ sizeLine := by decide
      refine ⟨_, rfl, _, rfl, _, rfl, _, z.length, rfl, ⟨by omega, rfl⟩, p, _, rfl, hp, by omega, by omega, fun r H' r0 r1 hp' hb => ?_⟩
      have hl : z.cps.toList.length = z.length := rfl
      have hr : r.toNat < z.cps.toList.length := by omega
      refine .inr (.inr ⟨z, r, z.cps.toList[r.toNat], rfl, rfl, by omega, ?_, k _ (List.getElem_mem hr) H' hp' hb⟩)
      exact at_g r0 (List.getElem?_eq_getElem hr)
end
end V0

namespace V0
open PySem PySem.Spec PyProof.Rows L2
/-! ### data that can be shown -/
theorem SqT.same {K : PySem.W.Frag} {H H' : Hp} {a : Addr} {xs : List V} (e : Same H H') (h : SqT K H a xs) : SqT K H' a xs := by
  rcases h with (h | ⟨o, h⟩) | h
  · exact .inl (.inl (e _ _ h))
  · exact .inl (.inr ⟨o, e _ _ h⟩)
  · exact .inr h
mutual
theorem Dp.same {K : PySem.W.Frag} {H H' : Hp} (s : Same H H') : ∀ (d : PyData) (v : V), Dp K H v d → Dp K H' v d
  | .none, _, h => by cases h; exact .non
  | .bool b, _, h => by cases h; exact .bl b
  | .int i, _, h => by cases h; exact .int i
  | .str x, _, h => by cases h; exact .str x
  | .list ds, _, h => by
    cases h with
    | lst a b => exact .lst (Same.seq s a) (Dp.sameAll s ds _ b)
  | .tuple ds, _, h => by
    cases h with
    | tup a b => exact .tup (SqT.same s a) (Dp.sameAll s ds _ b)
  | .dict _, _, h => by cases h
theorem Dp.sameAll {K : PySem.W.Frag} {H H' : Hp} (s : Same H H') : ∀ (ds : List PyData) (vs : List V), DpAll K H vs ds → DpAll K H' vs ds
  | [], _, h => by cases h; exact .nil
  | d :: ds, _, h => by
    cases h with
    | cons a b => exact .cons (Dp.same s d _ a) (Dp.sameAll s ds _ b)
end
mutual
theorem Dp.noDict {K : PySem.W.Frag} {H : Hp} : ∀ (d : PyData) (v : V), Dp K H v d → d.hasDict = false
  | .none, _, _ => rfl
  | .bool _, _, _ => rfl
  | .int _, _, _ => rfl
  | .str _, _, _ => rfl
  | .list ds, _, h => by
    cases h with
    | lst a b =>
      show PyData.hasDictAll ds = false
      exact Dp.noDictAll ds _ b
  | .tuple ds, _, h => by
    cases h with
    | tup a b =>
      show PyData.hasDictAll ds = false
      exact Dp.noDictAll ds _ b
  | .dict _, _, h => by cases h
theorem Dp.noDictAll {K : PySem.W.Frag} {H : Hp} : ∀ (ds : List PyData) (vs : List V), DpAll K H vs ds → PyData.hasDictAll ds = false
  | [], _, _ => rfl
  | d :: ds, _, h => by
    cases h with
    | cons a b =>
      show (PyData.hasDict d || PyData.hasDictAll ds) = false
      rw [Dp.noDict d _ a, Dp.noDictAll ds _ b]
      rfl
end
/-- not too deep, not too large -/
structure Sm (k : Nat) (d : PyData) : Prop where
  sh : d.showable = true
  lv : d.leavesShort 100 = true
  dp : d.depth ≤ k
  wt : d.weight ≤ 1000 * 4 ^ k
theorem Sm.up {k : Nat} {d : PyData} (h : Sm k d) : Sm (k + 1) d := ⟨h.sh, h.lv, by have := h.dp; omega, by have := h.wt; rw [Nat.pow_succ]; omega⟩
theorem Sm.int {i : Int} (h : i.natAbs < 10 ^ 90) : Sm 0 (.int i) := by
  have h2 : i.natAbs < 2 ^ 900 := Nat.lt_trans h (by decide +kernel)
  have hl : i.natAbs.log2 < 900 := by
    by_cases h0 : i.natAbs = 0
    · rw [h0]; decide
    · exact (Nat.log2_lt h0).mpr h2
  refine ⟨?_, ?_, Nat.le_refl _, ?_⟩
  · show decide (i.natAbs.log2 < 1920) = true
    exact decide_eq_true (by omega)
  · show decide ((PyData.shown (.int i)).length ≤ 100) = true
    have e := int_text_length_le10 (a := i) (k := 90) (by decide) h
    have e2 : (PyData.shown (.int i)).length = (toString i).length := by
      show (Str.ofString (toString i)).length = _
      rw [PySem.ofString_length]
    exact decide_eq_true (by omega)
  · show (if i == 0 then 0 else i.natAbs.log2 + 1) ≤ 1000 * 4 ^ 0
    split <;> omega
theorem Sm.str {z : Str} (h : z.length ≤ 900) (ho : PyData.strOk z = true) : Sm 0 (.str z) := by
  refine ⟨rfl, ?_, Nat.le_refl _, ?_⟩
  · show (z.cps.toList.all fun c => decide (c < 16 ^ 8)) = true
    rw [List.all_eq_true]
    intro c hc
    have q : c < 0x110000 := of_decide_eq_true (Array.all_eq_true_iff_forall_mem.mp ho c (by rw [← Array.mem_toList_iff]; exact hc))
    exact decide_eq_true (by omega)
  · show z.cps.size ≤ 1000 * 4 ^ 0
    have : z.cps.size = z.length := rfl
    omega
theorem Sm.non : Sm 0 .none := ⟨rfl, rfl, Nat.le_refl _, Nat.zero_le _⟩
theorem Sm.bl (b : Bool) : Sm 0 (.bool b) := ⟨rfl, rfl, Nat.le_refl _, Nat.zero_le _⟩
theorem sm_all {k : Nat} : ∀ ds : List PyData, (∀ d ∈ ds, Sm k d) → PyData.showableAll ds = true ∧ PyData.leavesShortAll 100 ds = true ∧ PyData.depthAll ds ≤ k ∧ PyData.weightAll ds ≤ ds.length * (1000 * 4 ^ k + 1)
  | [], _ => ⟨rfl, rfl, Nat.zero_le _, Nat.zero_le _⟩
  | d :: ds, h => by
    obtain ⟨a, b, c, e⟩ := sm_all ds fun x hx => h x (by simp [hx])
    have q := h d (by simp)
    refine ⟨?_, ?_, ?_, ?_⟩
    · show (PyData.showable d && PyData.showableAll ds) = true
      rw [q.sh, a]; rfl
    · show (PyData.leavesShort 100 d && PyData.leavesShortAll 100 ds) = true
      rw [q.lv, b]; rfl
    · show max (PyData.depth d) (PyData.depthAll ds) ≤ k
      exact Nat.max_le.mpr ⟨q.dp, c⟩
    · show PyData.weight d + 1 + PyData.weightAll ds ≤ (ds.length + 1) * (1000 * 4 ^ k + 1)
      have w := q.wt
      rw [Nat.succ_mul]
      omega
theorem Sm.seq {k : Nat} {ds : List PyData} (h : ∀ d ∈ ds, Sm k d) (hn : ds.length ≤ 3) : Sm (k + 1) (.list ds) ∧ Sm (k + 1) (.tuple ds) := by
  obtain ⟨a, b, c, e⟩ := sm_all ds h
  have w : PyData.weightAll ds ≤ 1000 * 4 ^ (k + 1) := by
    have e2 : ds.length * (1000 * 4 ^ k + 1) ≤ 3 * (1000 * 4 ^ k + 1) := Nat.mul_le_mul_right _ hn
    have p : 0 < 4 ^ k := Nat.pow_pos (by decide)
    rw [Nat.pow_succ]
    omega
  exact ⟨⟨a, b, Nat.succ_le_succ c, w⟩, ⟨a, b, Nat.succ_le_succ c, w⟩⟩
theorem Sm.size {k : Nat} {d : PyData} (h : Sm k d) (hk : k ≤ 3) : d.shown.length ≤ sizeLine := by
  have q := PyData.shown_le 100 (by decide) d h.lv
  have w := h.wt
  have p : 4 ^ k ≤ 4 ^ 3 := Nat.pow_le_pow_right (by decide) hk
  have hs : sizeLine = 16777216 := sizeLine_eq
  omega
/-- a dict of ints at a -/
def ikv (ks : List (Int × Int)) : List (Key × V) := ks.map fun p => (.inl p.1, .int p.2)
def idd (ks : List (Int × Int)) : PyData := .dict (ks.map fun p => (.int p.1, .int p.2))
/-- what repr can show -/
inductive Rp (K : PySem.W.Frag) (H : Hp) : V → PyData → Prop
  | dp {x : V} {d : PyData} (h : Dp K H x d) : Rp K H x d
  | dct {a : Addr} {ks : List (Int × Int)} (h : H a = some (.dK (ikv ks))) : Rp K H (.ref a) (idd ks)
  | pair {a b : Addr} {z : Str} {ks : List (Int × Int)} (h : H a = some (.tup [.str z, .ref b])) (h2 : H b = some (.dK (ikv ks))) : Rp K H (.ref a) (.tuple [.str z, idd ks])
section
variable {X : Cx} {pins : List (Addr × Obj)} {σ : L2.St} {H : Hp} {s : Shared}
theorem pairs_ints {P : Program} {w : World} : ∀ {es : List DictEntry} {ks : List (Int × Int)} {vs : List (Key × Value)}, KV (ikv ks) vs → Pairs (mixKind P w) es vs →
    (∃ as, ReadsAll s.heap (es.map (·.key)) (ks.map fun p => PyData.int p.1) as ∧ as = []) ∧ (∃ as, ReadsAll s.heap (es.map (·.val)) (ks.map fun p => PyData.int p.2) as ∧ as = [])
  | es, [], _, kv, p => by
    cases kv
    cases p
    exact ⟨⟨_, .nil, rfl⟩, ⟨_, .nil, rfl⟩⟩
  | es, k :: ks, _, kv, p => by
    cases kv with
    | @cons _ q _ qs e1 e2 =>
      cases p with
      | @cons e _ es' _ p1 p2 p3 =>
        obtain ⟨⟨as, r1, rfl⟩, ⟨bs, r2, rfl⟩⟩ := pairs_ints e2 p3
        obtain ⟨q1, q2⟩ := q
        obtain ⟨e1, t, e3⟩ := e1
        have e1' : Sum.inl k.1 = q1 := e1
        subst e1'
        obtain ⟨t2, e4⟩ := Value.isInt_shape (k := k.1) (v := e.key) p1
        refine ⟨⟨_, ?_, rfl⟩, ⟨_, ?_, rfl⟩⟩
        · rw [List.map_cons, e4]
          exact ReadsAll.cons (.int _ _) r1
        · rw [List.map_cons, p2]
          have e3' : q2 = Value.int k.2 t := e3
          show ReadsAll s.heap (q2 :: _) _ _
          rw [e3']
          exact ReadsAll.cons (.int _ _) r2
theorem dict_reads (I : Inv X pins σ H s) {a : Addr} {ks : List (Int × Int)} (h : H a = some (.dK (ikv ks))) : Reads s.heap (.ref a) (idd ks) [a] ∧ sysModules ≠ a := by
  obtain ⟨hz, hS, vs, r, o, es, ep, h1, h2, h3, h4, h5, h6⟩ := (show ObjOk X.prog X.w H s.heap a (.dK (ikv ks)) from I.hok a _ h)
  obtain ⟨⟨as, r1, rfl⟩, ⟨bs, r2, rfl⟩⟩ := pairs_ints (s := s) r h5
  refine ⟨?_, fun z => by rw [z] at hS; simp at hS⟩
  have q := Reads.dict (h := s.heap) (a := a) (o := o) (es := es) (n := ep) (kvs := ks.map fun p => (PyData.int p.1, PyData.int p.2)) (as := []) (bs := []) h1 h2.1 h3 (by rw [List.map_map]; exact r1) (by rw [List.map_map]; exact r2)
  exact q
theorem Rp.reads (I : Inv X pins σ H s) {x : V} {d : PyData} {u : Value} (h : Rp X.K H x d) (r : RelV x u) : ∃ as, Reads s.heap u d as ∧ (d.hasDict = true → sysModules ∉ as) := by
  cases h with
  | dp h =>
    obtain ⟨as, q⟩ := Dp.reads I d x u h r
    exact ⟨as, q, fun z => by rw [Dp.noDict d x h] at z; cases z⟩
  | dct h =>
    cases r
    obtain ⟨q, n⟩ := dict_reads I h
    exact ⟨_, q, fun _ z => n (by simpa using z)⟩
  | @pair a b z ks h h2 =>
    cases r
    obtain ⟨q, n⟩ := dict_reads I h2
    obtain ⟨its, rv, ⟨o, ho, hc, m, hd⟩, _⟩ := I.tuple (SqT.of h)
    cases rv with
    | cons r1 r2 =>
      cases r2 with
      | cons r2 r3 =>
        cases r3
        obtain ⟨t, e1⟩ := r1
        subst e1
        cases r2
        have ra := ReadsAll.cons (Reads.str (h := s.heap) z t) (ReadsAll.cons q ReadsAll.nil)
        exact ⟨_, Reads.tuple ho hc hd ra, fun _ z => n (by simpa using z)⟩
end
/-- repr, where no other repr is under way -/
def rRepr (K : PySem.W.Frag) : List V → Hp → VK → Prop := fun xs H Q => ∃ (x : V) (d : PyData) (k : Nat), xs = [x] ∧ Rp K H x d ∧ Sm k d ∧ k ≤ 3 ∧ (∃ a, x = .ref a) ∧ Q (.str d.shown) H
theorem call_repr {X : Cx} (hg : X.A.guards = some []) (hu : X.A.units + 64 < cLine) : CallR X (.builtin "repr") (rRepr X.K) := by
  intro pins s σ H xs us Q I r h
  obtain ⟨x, d, k, rfl, hr, hs, hk, ⟨a, rfl⟩, q⟩ := h
  obtain ⟨u, rfl, rx⟩ := vals1 r
  obtain ⟨as, rd, hn⟩ := hr.reads I rx
  cases rx
  have hd := hs.dp
  refine repr_of_reads' rd hs.sh hn hg (by omega) (fun _ _ e => e) (fun h' u tk kk => ?_) (hs.size hk)
  exact ⟨.str d.shown, H, I.kept kk, ⟨_, rfl⟩, q⟩
end V0
namespace V0
open PySem PySem.Spec PyProof.Rows L2
/-! ### own methods under their special names -/
structure OwnM (P : Program) (w : World) (K : PySem.W.Frag) (mg : Str → Option Value) (base : Heap) (CX : CXT) (k : Nat) (C : Addr) (name : Str) (sp : Sp) : Prop where
  ex : ∃ (g : Addr) (fd : FuncData) (ps : List Str), PySem.W.findIn K (.ref C) name = some (some (.ref g)) ∧ PySem.W.isFn K (.ref g) = true ∧ Binds K fd ps [] ∧ FnOk P w K mg base CX k g fd ps sp
section
variable {X : Cx} {CX : CXT} {k : Nat} {C a dx : Addr} {name : Str} {sp : Sp} {E : XK} {pins : List (Addr × Obj)} {σ : L2.St} {H : Hp} {s : Shared} {fs : List (Str × V)}
theorem OwnM.run (O : OwnM X.prog X.w X.K X.mg X.base CX k C name sp) {A : Around} {vs : List V} {us : List Value} {Q : VK} (hr : Room k A) (hf : A.frames = X.A.frames) (hx : Passes CX X E) (I : Inv X pins σ H s) (r : Vals vs us) (h : sp vs H Q E) :
    ∃ g, PySem.W.findIn X.K (.ref C) name = some (some (.ref g)) ∧ PySem.W.isFn X.K (.ref g) = true ∧ wpAny (model X.prog X.w) A (call (.ref g) us) (EP X pins σ Q) X.xe s := by
  obtain ⟨g, fd, ps, h1, h2, hb, F⟩ := O.ex
  refine ⟨g, h1, h2, ?_⟩
  have e0 : Env0 X.prog X.w X.K X.mg X.base A X.stack s H := by
    have e := I.env0
    exact ⟨by rw [hf]; exact e.frames, e.mod, e.bs, e.bsz, e.funs, e.frf, e.hok, e.bare⟩
  have hl : us.length = ps.length := by rw [← r.length]; exact F.len _ _ _ _ h
  have b := hb s us I.kIn (by rw [List.append_nil]; exact hl)
  rw [List.append_nil] at b
  refine wpAny_call (codeAny_mono (F.run A X.stack s H ⟨us, []⟩ us vs Q E hr e0 b r h) fun r s' hq => ?_)
  cases r with
  | error e => exact hx pins σ H s e s' I hq
  | ok fl =>
    cases fl with
    | ret u => exact I.after hq
    | next => exact False.elim hq
    | brk => exact False.elim hq
    | cont => exact False.elim hq
theorem inst_of (I : Inv X pins σ H s) (ha : H a = some (.ins C dx fs)) : ∃ ox od, PySem.W.InstAt s.heap a ox C (some od) := by
  obtain ⟨mA, O, _⟩ := ins_get I.hok ha
  obtain ⟨od, J, _⟩ := O.look
  exact ⟨_, od, J⟩
/-- len(o) -/
def rLenO (C : Addr) (sp : Sp) (E : XK) : List V → Hp → VK → Prop := fun xs H Q => ∃ a dx fs, xs = [.ref a] ∧ H a = some (.ins C dx fs) ∧ sp [.ref a] H (fun v H' => ∃ n : Int, v = .int n ∧ 0 ≤ n ∧ n < 2 ^ 63 ∧ Q (.int n) H') E
theorem call_lenO (O : OwnM X.prog X.w X.K X.mg X.base CX k C "__len__" sp) (hr : Room (k + 1) X.A) (hx : Passes CX X E) : CallR X (.builtin "len") (rLenO C sp E) := by
  intro pins s σ H xs us Q I r h
  obtain ⟨a, dx, fs, rfl, ha, q⟩ := h
  obtain ⟨u, rfl, ru⟩ := vals1 r
  cases (show u = Value.ref a from ru)
  obtain ⟨ox, od, J⟩ := inst_of I ha
  obtain ⟨m, hF⟩ := I.fr
  obtain ⟨g, h1, h2, hw⟩ := O.run (A := X.A.in1) (vs := [.ref a]) (us := [.ref a]) hr.in1 rfl hx I (.cons rfl .nil) q
  refine PySem.W.len_K hF I.ok.mod.kin J h1 h2 (wpAny_mono hw (fun v s' z => ?_) fun _ _ x => x)
  obtain ⟨v', H', I', rv, n, rfl, n0, n1, q'⟩ := z
  obtain ⟨t, rfl⟩ := (show ∃ t, v = Value.int n t from rv)
  exact ⟨⟨n0, n1⟩, .int n, H', I'.tok _, ⟨_, rfl⟩, q'⟩
/-- x in o -/
def rInO (C : Addr) (sp : Sp) (E : XK) (neg : Bool) : R2 := fun x y H Q => ∃ a dx fs, y = .ref a ∧ H a = some (.ins C dx fs) ∧ sp [.ref a, x] H (fun v H' => ∃ b : Bool, v = .bl b ∧ Q (.bl (if neg then !b else b)) H') E
theorem op_inO (O : OwnM X.prog X.w X.K X.mg X.base CX k C "__contains__" sp) (hr : Room k X.A) (hx : Passes CX X E) : OpR X (compareOp .In) (rInO C sp E false) := by
  intro pins s σ H x y v u Q I rx ry h
  obtain ⟨a, dx, fs, rfl, ha, q⟩ := h
  cases (show u = Value.ref a from ry)
  obtain ⟨ox, od, J⟩ := inst_of I ha
  obtain ⟨m, hF⟩ := I.fr
  obtain ⟨g, h1, h2, hw⟩ := O.run (A := X.A) (vs := [.ref a, x]) (us := [.ref a, v]) hr rfl hx I (.cons rfl (.cons rx .nil)) q
  refine PySem.W.in_K hF I.ok.mod.kin J h1 h2 (wpAny_mono hw (fun w s' z => ?_) fun _ _ x => x)
  obtain ⟨v', H', I', rv, b, rfl, q'⟩ := z
  cases (show w = Value.bool b from rv)
  exact wpAny_truthy_bool ⟨.bl b, H', I', rfl, q'⟩
theorem op_notInO (O : OwnM X.prog X.w X.K X.mg X.base CX k C "__contains__" sp) (hr : Room k X.A) (hx : Passes CX X E) : OpR X (compareOp .NotIn) (rInO C sp E true) := by
  intro pins s σ H x y v u Q I rx ry h
  obtain ⟨a, dx, fs, rfl, ha, q⟩ := h
  cases (show u = Value.ref a from ry)
  obtain ⟨ox, od, J⟩ := inst_of I ha
  obtain ⟨m, hF⟩ := I.fr
  obtain ⟨g, h1, h2, hw⟩ := O.run (A := X.A) (vs := [.ref a, x]) (us := [.ref a, v]) hr rfl hx I (.cons rfl (.cons rx .nil)) q
  refine PySem.W.notIn_K hF I.ok.mod.kin J h1 h2 (wpAny_mono hw (fun w s' z => ?_) fun _ _ x => x)
  obtain ⟨v', H', I', rv, b, rfl, q'⟩ := z
  cases (show w = Value.bool b from rv)
  exact wpAny_truthy_bool ⟨.bl (!b), H', I', rfl, q'⟩
/-- o[x] -/
def rIxO (C : Addr) (sp : Sp) (E : XK) : R2 := fun x y H Q => ∃ a dx fs, x = .ref a ∧ H a = some (.ins C dx fs) ∧ sp [.ref a, y] H Q E
theorem pe_ixO {e i : Expr} {te ti : TE} {pos : Pos} (O : OwnM X.prog X.w X.K X.mg X.base CX k C "__getitem__" sp) (hfn : ∀ g, PySem.W.findIn X.K (.ref C) "__getitem__" = some (some (.ref g)) → PySem.W.fnIn X.K g = true) (hr : Room (k + 1) X.A) (hx : Passes CX X E) (he : PE X e te) (hi : PE X i ti)
    (hsl : ∀ x y, subscripted i true (.ref x) y = runValue (.builtin "lifetime.subscript" ⟨[.ref x, y], []⟩) := by intro _ _; rfl) : PE X (.Subscript e i pos) (tOp (rIxO C sp E) te ti) := by
  refine ⟨fun pins s σ H Q I h => ?_⟩
  refine Subscript_ (binT he hi I h fun v u s2 x y H2 I2 rx ry q => ?_)
  obtain ⟨a, dx, fs, rfl, ha, q⟩ := q
  cases (show v = Value.ref a from rx)
  obtain ⟨ox, od, J⟩ := inst_of I2 ha
  obtain ⟨m, hF⟩ := I2.fr
  obtain ⟨g, h1, h2, hw⟩ := O.run (A := X.A.in1) (vs := [.ref a, y]) (us := [.ref a, u]) hr.in1 rfl hx I2 (.cons rfl (.cons ry .nil)) q
  exact PySem.W.sub_K hF I2.ok.mod.kin J h1 (hfn g h1) h2 hw (hsl _ _)
/-- str(o) -/
def rStrO (C : Addr) (sp : Sp) (E : XK) : List V → Hp → VK → Prop := fun xs H Q => ∃ a dx fs, xs = [.ref a] ∧ H a = some (.ins C dx fs) ∧ sp [.ref a] H (fun v H' => ∃ z : Str, v = .str z ∧ Q (.str z) H') E
theorem call_strO (O : OwnM X.prog X.w X.K X.mg X.base CX k C "__str__" sp) (hr : Room (k + 2) X.A) (hx : Passes CX X E) : CallR X (.type "str") (rStrO C sp E) := by
  intro pins s σ H xs us Q I r h
  obtain ⟨a, dx, fs, rfl, ha, q⟩ := h
  obtain ⟨u, rfl, ru⟩ := vals1 r
  cases (show u = Value.ref a from ru)
  obtain ⟨ox, od, J⟩ := inst_of I ha
  obtain ⟨g, h1, h2, hw⟩ := O.run (A := X.A.in1.in1) (vs := [.ref a]) (us := [.ref a]) (show Room (k + 1) X.A.in1 from hr.in1).in1 rfl hx I (.cons rfl .nil) q
  have un := hr.un
  refine PySem.W.kso_call (by show X.A.units + 1 + 1 < _; omega) I.kIn J h1 h2 (wpAny_mono hw (fun v s' z => ?_) fun _ _ x => x)
  obtain ⟨v', H', I', rv, z, rfl, q'⟩ := z
  obtain ⟨t, rfl⟩ := (show ∃ t, v = Value.str z t from rv)
  exact ⟨.str z, H', I', ⟨t, rfl⟩, q'⟩
/-- ~o -/
def rInvO (C : Addr) (sp : Sp) (E : XK) : V → Hp → VK → Prop := fun x H Q => ∃ a dx fs, x = .ref a ∧ H a = some (.ins C dx fs) ∧ sp [.ref a] H Q E
theorem un_invO (O : OwnM X.prog X.w X.K X.mg X.base CX k C "__invert__" sp) (hr : Room k X.A) (hx : Passes CX X E) : UnR X (unaryOp .Invert) (rInvO C sp E) := by
  intro pins s σ H x v Q I rx h
  obtain ⟨a, dx, fs, rfl, ha, q⟩ := h
  cases (show v = Value.ref a from rx)
  obtain ⟨ox, od, J⟩ := inst_of I ha
  obtain ⟨m, hF⟩ := I.fr
  obtain ⟨g, h1, h2, hw⟩ := O.run (A := X.A) (vs := [.ref a]) (us := [.ref a]) hr rfl hx I (.cons rfl .nil) q
  exact PySem.W.ksp_inv hF I.ok.mod.kin J h1 h2 hw
end
end V0
namespace V0
open PySem PySem.Spec PyProof.Rows L2
/-! ### own classes: isinstance, ==, != -/
structure Kls (K : PySem.W.Frag) (mg : Str → Option Value) (x : Str) (C : Addr) : Prop where
  g : mg x = some (.ref C)
  cl : Cls K C
  ha : PySem.W.findIn K (.ref C) "__class__" = some (some (.builtin "object.__class__"))
  hn : PySem.W.specialIn K (.builtin "object.__class__") "__get__" = some (some (.builtin "getset_descriptor.__get__"))
  htk : PySem.W.takesIn K (.builtin "object.__class__") = some true
  hm : PySem.W.mroIn K C (.type "object") = some true
  ty : PySem.W.typeIn K (.ref C) = some (.type "type")
  ne : PySem.W.findIn K (.ref C) "__ne__" = some (some (.builtin "object.__ne__"))
theorem Kls.gv {K : PySem.W.Frag} {mg : Str → Option Value} {x : Str} {C : Addr} (k : Kls K mg x C) : GV mg x (.ref C) := ⟨_, k.g, rfl⟩
theorem Kls.ins {K : PySem.W.Frag} {mg : Str → Option Value} {x : Str} {C : Addr} (k : Kls K mg x C) {H : Hp} {a dx : Addr} {fs : List (Str × V)} (e : H a = some (.ins C dx fs)) : TyX K H (.ref a) (.ref C) := .base (.ins e k.cl k.ha k.hn k.htk k.hm)
theorem Kls.self {K : PySem.W.Frag} {C : Addr} : PySem.W.kitOne K (.ref C) (.ref C) = some true := by
  unfold PySem.W.kitOne
  simp
theorem nf_self {K : PySem.W.Frag} {C : Addr} : PySem.W.notFirst K C (.ref C) = true := by
  unfold PySem.W.notFirst
  simp
theorem sub_kd {K : PySem.W.Frag} {C : Addr} (t : Kd) : PySem.W.subIn K (.type t.nm) (.ref C) = some false := by
  have go : ∀ (l : List Value), (∀ v ∈ l, ∃ n, v = .type n) → l.contains (.ref C) = false := fun l hl => by
    refine Bool.eq_false_iff.mpr fun z => ?_
    obtain ⟨n, e⟩ := hl _ (List.contains_iff_mem.mp z)
    cases e
  have mro : ∃ l, PySem.fastBuiltinMro t.nm = some l ∧ l.all (fun v => match v with | .type _ => true | _ => false) = true := by
    have q : (PySem.fastBuiltinMro t.nm).any (fun l => l.all (fun v => match v with | .type _ => true | _ => false)) = true := by cases t <;> decide +kernel
    cases e : PySem.fastBuiltinMro t.nm with
    | none => rw [e] at q; cases q
    | some l => rw [e] at q; exact ⟨l, rfl, q⟩
  obtain ⟨l, e, h⟩ := mro
  show (PySem.fastBuiltinMro t.nm).map (·.contains (.ref C)) = some false
  rw [e]
  show some (l.contains (.ref C)) = some false
  rw [go l fun v hv => ?_]
  have q := List.all_eq_true.mp h v hv
  cases v <;> first | exact ⟨_, rfl⟩ | exact absurd q Bool.false_ne_true
theorem nf_kd {K : PySem.W.Frag} {C : Addr} (t : Kd) : PySem.W.notFirst K C (.type t.nm) = true := by
  unfold PySem.W.notFirst
  rw [sub_kd t]
  simp
theorem Kls.kd {K : PySem.W.Frag} {mg : Str → Option Value} {x : Str} {C : Addr} (k : Kls K mg x C) (t : Kd) : PySem.W.kitOne K (.type t.nm) (.ref C) = some false := by
  obtain ⟨cd, hc, _⟩ := PySem.W.any_some k.cl.hd
  unfold PySem.W.kitOne PySem.W.kitCls
  have n : (Value.type t.nm == Value.ref C) = false := Bool.eq_false_iff.mpr fun z => by
    have := beq_iff_eq.mp z
    cases this
  rw [n, if_neg Bool.false_ne_true]
  have h2 : ((PySem.W.clsIn K C).isSome && PySem.W.typeIn K (.ref C) == some (.type "type")) = true := by
    rw [hc, k.ty]
    simp
  simp only [h2, if_true]
  exact sub_kd t
section
variable {X : Cx} {CX : CXT} {k : Nat} {C a dx : Addr} {sp : Sp} {E : XK} {pins : List (Addr × Obj)} {σ : L2.St} {H : Hp} {s : Shared} {fs : List (Str × V)}
/-- o == y -/
def rEqO (K : PySem.W.Frag) (C : Addr) (sp : Sp) (E : XK) (neg : Bool) : R2 := fun x y H Q => ∃ a dx fs tb, x = .ref a ∧ H a = some (.ins C dx fs) ∧ TyX K H y tb ∧ PySem.W.notFirst K C tb = true ∧ sp [.ref a, y] H (fun v H' => ∃ b : Bool, v = .bl b ∧ Q (.bl (if neg then !b else b)) H') E
theorem op_eqO (O : OwnM X.prog X.w X.K X.mg X.base CX k C "__eq__" sp) (hr : Room k X.A) (hx : Passes CX X E) : OpR X (compareOp .Eq) (rEqO X.K C sp E false) := by
  intro pins s σ H x y v u Q I rx ry h
  obtain ⟨a, dx, fs, tb, rfl, ha, hty, hnf, q⟩ := h
  cases (show v = Value.ref a from rx)
  obtain ⟨ox, od, J⟩ := inst_of I ha
  obtain ⟨m, hF⟩ := I.fr
  obtain ⟨P, Z, p, _⟩ := kit_of I ry hty
  obtain ⟨g, h1, h2, hw⟩ := O.run (A := X.A) (vs := [.ref a, y]) (us := [.ref a, u]) hr rfl hx I (.cons rfl (.cons ry .nil)) q
  show wpAny _ _ (richCompare .Eq (.ref a) u) _ _ s
  refine PySem.W.cmp_K (op := .Eq) hr.units0 hF I.ok.mod.kin J (Z.ty _ _ I.kIn p) hnf h1 h2 (wpAny_mono hw (fun w s' z => ?_) fun _ _ x => x)
  obtain ⟨v', H', I', rv, b, rfl, q'⟩ := z
  cases (show w = Value.bool b from rv)
  exact ⟨.bl b, H', I', rfl, q'⟩
theorem objNe_own {A : Around} {M : Model} {E : Value → Shared → Prop} {K : PySem.W.Frag} {ox : Obj} {od : Option Obj} {g : Addr} {b : Value} (hu : A.units < cLine) (X : K.In s.heap) (I : PySem.W.InstAt s.heap a ox C od) (hs : PySem.W.findIn K (.ref C) "__eq__" = some (some (.ref g))) (hf : PySem.W.isFn K (.ref g) = true)
    {Q : PySem.Fin → Shared → Prop} (h : wpAny M A (call (.ref g) [.ref a, b]) (fun v s' => ∃ c, v = .bool c ∧ Q (.done (.ret (.bool (!c)))) s') E s) : wpAny M A (Builtin.«object.__ne__» ⟨[.ref a, b], []⟩) Q E s := by
  unfold Builtin.«object.__ne__»
  repeat (first
    | with_reducible refine wpAny_cRoomFor hu ?_
    | (refine wpAny_bind (m := callSpecialIfBound? (.ref a) (Str.ofString "__eq__") [b])
        (PySem.W.ifBound_K X I hs hf (wpAny_mono h (fun r s' hr => by
          obtain ⟨c, rfl, hq⟩ := hr
          repeat (first | exact hq | exact wpAny_pure hq | exact wpAny_truthy_bool hq | (refine wpAny_bind (m := truthy (.bool _)) (wpAny_truthy_bool ?_)) | wp_step)) fun _ _ e => e)))
    | wp_step)
theorem ifBound_objNe {A : Around} {M : Model} {E : Value → Shared → Prop} {K : PySem.W.Frag} {ox : Obj} {od : Option Obj} {args : List Value} {Q : Option Value → Shared → Prop} (X : K.In s.heap) (I : PySem.W.InstAt s.heap a ox C od) (hs : PySem.W.findIn K (.ref C) "__ne__" = some (some (.builtin "object.__ne__")))
    (h : wpAny M A (call (.builtin "object.__ne__") (.ref a :: args)) (fun v => Q (some v)) E s) : wpAny M A (callSpecialIfBound? (.ref a) "__ne__" args) Q E s := by
  have fin : wpAny M A (call (.builtin "object.__ne__") ([.ref a] ++ args) >>= fun v => pure (some v)) Q E s := wpAny_bind (wpAny_mono h (fun v s' z => wpAny_pure z) fun _ _ z => z)
  simp only [callSpecialIfBound?, bindSpecialIfBound?]
  refine wpAny_holding (wpAny_bind (wpAny_bind (wpAny_bind (I.type.here ((PySem.W.looks_findIn X hs).here ?_)))))
  refine wpAny_bind (wpAny_askSetting (wpAny_ite ?_))
  split
  · exact wpAny_bind (wpAny_of_eq (F.cmp_object.ne.bind _) (wpAny_pure (by exact fin)))
  · exact wpAny_tryCatch (wpAny_bind (wpAny_of_eq (F.cmp_object.ne.bind _) (wpAny_pure (by exact fin))))
/-- o != y, != not told by the class -/
theorem op_neO (O : OwnM X.prog X.w X.K X.mg X.base CX k C "__eq__" sp) (hne : PySem.W.findIn X.K (.ref C) "__ne__" = some (some (.builtin "object.__ne__"))) (hm : PySem.W.mroIn X.K C (.type "object") = some true) (hr : Room (k + 1) X.A) (hx : Passes CX X E) : OpR X (compareOp .NotEq) (rEqO X.K C sp E true) := by
  intro pins s σ H x y v u Q I rx ry h
  obtain ⟨a, dx, fs, tb, rfl, ha, hty, hnf, q⟩ := h
  cases (show v = Value.ref a from rx)
  obtain ⟨ox, od, J⟩ := inst_of I ha
  obtain ⟨P, Z, p, _⟩ := kit_of I ry hty
  have hb := Z.ty (model X.prog X.w) _ I.kIn p
  obtain ⟨g, h1, h2, hw⟩ := O.run (A := X.A.in1) (vs := [.ref a, y]) (us := [.ref a, u]) hr.in1 rfl hx I (.cons rfl (.cons ry .nil)) q
  have un := hr.un
  have one : wpAny (model X.prog X.w) X.A (tryCompare (.ref a) "__ne__" u) (fun r s' => ∃ v, r = some v ∧ EP X pins σ Q v s') X.xe s := by
    unfold tryCompare
    refine wpAny_bind (ifBound_objNe I.kIn J hne ?_)
    refine wpAny_call (codeAny_call_builtin F.cmp_object.ne.plain F.cmpEntry_ne (PySem.W.check_slot F.cmpKind_ne F.cmpSplit_ne (J.type.andThen (PySem.W.looks_mroIn I.kIn hm)) (F.cmpArgs_ne _ _) (objNe_own (by show X.A.units + 1 < _; omega) I.kIn J h1 h2 (wpAny_mono hw (fun w s' z => ?_) fun _ _ x => x))))
    obtain ⟨v', H', I', rv, b, rfl, q'⟩ := z
    cases (show w = Value.bool b from rv)
    have fin : EP X pins σ Q (.bool (!b)) s' := ⟨.bl (!b), H', I', rfl, q'⟩
    first
      | exact ⟨b, rfl, ⟨_, rfl, wpAny_pure ⟨_, rfl, fin⟩⟩⟩
      | exact ⟨b, rfl, wpAny_pure ⟨_, rfl, fin⟩⟩
      | exact ⟨b, rfl, ⟨_, rfl, ⟨_, rfl, fin⟩⟩⟩
  show wpAny _ _ (richCompare .NotEq (.ref a) u) _ _ s
  unfold richCompare
  simp only [oneThing_ref]
  refine wpAny_holding (wpAny_bind (wpAny_cRoomFor hr.units0 ?_))
  refine wpAny_bind (J.type.here (wpAny_bind (hb.here ?_)))
  split
  · rename_i qq
    have e : PySem.W.subIn X.K tb (.ref C) = some false := by
      rcases Bool.or_eq_true_iff.mp hnf with e | e
      · rw [beq_iff_eq.mp e] at qq; simp at qq
      · exact beq_iff_eq.mp e
    refine wpAny_bind ((PySem.W.looks_subIn I.kIn e).here ?_)
    simp only [Bool.false_eq_true, if_false]
    refine wpAny_bind (wpAny_mono one (fun r s' z => ?_) fun _ _ e => e)
    obtain ⟨v, rfl, hq⟩ := z
    exact wpAny_pure hq
  · refine wpAny_bind (wpAny_pure ?_)
    simp only [Bool.false_eq_true, if_false]
    refine wpAny_bind (wpAny_mono one (fun r s' z => ?_) fun _ _ e => e)
    obtain ⟨v, rfl, hq⟩ := z
    exact wpAny_pure hq
end
end V0
namespace V0
open PySem PySem.Spec PyProof.Rows L2
/-! ### an own class that walks a tuple of its own -/
def ItT (t p : Addr) : HO := .ext fun h => h.IsTupleIter p t 0
theorem itT_ok {P : Program} {w : World} {H : Hp} {h : Heap} {t p : Addr} (R : h.IsTupleIter p t 0) : ObjOk P w H h p (ItT t p) := by
  have ⟨o, ho, _⟩ := R
  refine ⟨R, ⟨o, ho⟩, fun h1 h2 q k => ?_⟩
  obtain ⟨o1, e1, r1⟩ := q
  exact ⟨o1, k o1 e1, r1⟩
theorem itT_get {X : Cx} {pins : List (Addr × Obj)} {σ : L2.St} {H : Hp} {s : Shared} {t p : Addr} (I : Inv X pins σ H s) (h : H p = some (ItT t p)) : s.heap.IsTupleIter p t 0 := (I.hok p _ h).1
/-- iter(t) -/
def rIterT (K : PySem.W.Frag) (n : Nat) : List V → Hp → VK → Prop := fun xs H Q => ∃ (t : Addr) (zs : List V), xs = [.ref t] ∧ SqT K H t zs ∧ ∀ it, H it = none → n ≤ it → Q (.ref it) (upd H it (ItT t it))
theorem call_iterT {X : Cx} : CallR X (.builtin "iter") (rIterT X.K X.s_0.heap.objs.size) := by
  intro pins s σ H xs us Q I r h
  obtain ⟨t, zs, rfl, hq, q⟩ := h
  obtain ⟨u, rfl, ru⟩ := vals1 r
  cases ru
  obtain ⟨its, rv, pl, hz⟩ := I.tuple hq
  refine Calls.call_function_entry (by decide +kernel) (by decide +kernel) PySem.W.kdk_entry_iter (PySem.W.kdk_args_iter _) ?_
  unfold Builtin.«iter»
  refine wpAny_bind (m := someArgs "iter" 1 2 _) (wpAny_of_eq (a := [Value.ref t]) (by first | rfl | kernel_rfl!) ?_)
  show wpAny _ _ (pyIter (.ref t) >>= _) _ _ _
  refine wpAny_bind (wpAny_pyIter_tuple (show s.heap.IsTuple t its.toArray from pl) ?_)
  exact wpAny_pure ⟨_, rfl, .ref s.heap.objs.size, _, I.laid (t' := s.toks) (fun b u e => Heap.get?_push_of_some _ e) (Nat.le_refl _) (itT_ok ⟨_, Heap.get?_push_size _ rfl, rfl, rfl⟩), rfl, q _ (I.hok.fresh (Nat.le_refl _)) I.sz⟩
/-- what the class's __iter__ does: a new iterator of the tuple kept as f -/
structure ItM (P : Program) (w : World) (K : PySem.W.Frag) (mg : Str → Option Value) (base : Heap) (k : Nat) (C : Addr) (f : Str) : Prop where
  ex : ∃ g : Addr, PySem.W.findIn K (.ref C) "__iter__" = some (some (.ref g)) ∧ PySem.W.isFn K (.ref g) = true ∧
    ∀ (A : Around) (outer : List Env) (s : Shared) (H : Hp) (a dx t : Addr) (fs : List (Str × V)) (xs : List V), Room k A → Env0 P w K mg base A outer s H → H a = some (.ins C dx fs) → fs.lookup f = some (.ref t) → SqT K H t xs →
      codeAny (model P w) A (.call (.ref g) ⟨[.ref a], []⟩) (CR CX0 outer P w H s (fun v H' => ∃ p, v = .ref p ∧ s.heap.objs.size ≤ p ∧ H p = none ∧ H' = upd H p (ItT t p)) E0) s
section
variable {X : Cx} {k : Nat} {C a dx t : Addr} {f : Str} {pins : List (Addr × Obj)} {σ : L2.St} {H : Hp} {s : Shared} {fs : List (Str × V)} {xs : List V}
theorem iter_own {A : Around} {Q : Value → Shared → Prop} {E : Value → Shared → Prop} (O : ItM X.prog X.w X.K X.mg X.base k C f) (hr : Room k A) (hf : A.frames = X.A.frames) (I : Inv X pins σ H s) (ha : H a = some (.ins C dx fs)) (hl : fs.lookup f = some (.ref t)) (ht : SqT X.K H t xs)
    (h : ∀ p s', H p = none → X.s_0.heap.objs.size ≤ p → Inv X pins σ (upd H p (ItT t p)) s' → Q (.ref p) s') : wpAny (model X.prog X.w) A (pyIter (.ref a)) Q E s := by
  obtain ⟨g, h1, h2, R⟩ := O.ex
  obtain ⟨ox, od, J⟩ := inst_of I ha
  obtain ⟨m, hF⟩ := I.fr
  have e0 : Env0 X.prog X.w X.K X.mg X.base A X.stack s H := by
    have e := I.env0
    exact ⟨by rw [hf]; exact e.frames, e.mod, e.bs, e.bsz, e.funs, e.frf, e.hok, e.bare⟩
  refine PySem.W.owit_iter hF I.ok.mod.kin J h1 h2 (wpAny_call (codeAny_mono (R A X.stack s H a dx t fs xs hr e0 ha hl ht) fun r s' hq => ?_))
  cases r with
  | error e => exact False.elim hq
  | ok fl =>
    cases fl with
    | ret u =>
      obtain ⟨v, H', I', rv, p, rfl, hp, hn, rfl⟩ := I.after hq
      cases rv
      have st := itT_get I' upd_same
      unfold PySem.W.OwitIt
      exact wpAny_specialOf st.typeIs PySem.F.slot_tuple_iterator_next.lookup (h p s' hn (Nat.le_trans I.sz hp) I')
    | next => exact False.elim hq
    | brk => exact False.elim hq
    | cont => exact False.elim hq
/-- for x in o -/
def iOwn (K : PySem.W.Frag) (C : Addr) (f : Str) (te : TE) : TI := fun σ H R => te σ H fun x H1 => ∃ a dx fs t, x = .ref a ∧ H1 a = some (.ins C dx fs) ∧ fs.lookup f = some (.ref t) ∧ (∃ xs, SqT K H1 t xs) ∧ R (Itt K t) H1
theorem pi_own {tg e : Expr} {te : TE} (O : ItM X.prog X.w X.K X.mg X.base k C f) (hr : Room k X.A) (he : PE X e te) : PI X tg e (iOwn X.K C f te) := by
  refine ⟨fun pins s σ H R I h => ?_⟩
  refine thn (he.run pins s σ H _ I h) fun v s1 ⟨x, H1, I1, r1, q1⟩ => ?_
  obtain ⟨a, dx, fs, t, rfl, ha, hl, ⟨xs, ht⟩, q⟩ := q1
  cases r1
  refine iter_own O hr rfl I1 ha hl ht fun p s2 hn hp I2 => ?_
  have st := itT_get I2 upd_same
  have eH : ItX.dropH (upd H1 p (ItT t p)) p = H1 := ItX.dropH_upd hn
  have I3 := ItX.inv_drop I2 (show (upd H1 p (ItT t p)) p = some (.ext _) from upd_same)
  have F3 := ItX.inv_fp I2 (show (upd H1 p (ItT t p)) p = some (ItT t p) from upd_same) hp
  rw [eH] at I3 F3
  refine ⟨p, [p], _, _, H1, rfl, I3, turn_tuple t p, st, fun b hb => ?_, q⟩
  have e : b = p := by simpa using hb
  subst e
  exact F3
end
end V0
namespace V0
open PySem PySem.Spec PyProof.Rows L2
section
variable {X : Cx} {k : Nat} {C a dx t q : Addr} {f : Str} {pins : List (Addr × Obj)} {σ : L2.St} {s : Shared} {fs : List (Str × V)} {xs : List V}
theorem take_one' {α : Type} {l : List α} {i : Nat} (h : i < l.length) : l.take (i + 1) = l.take i ++ [l[i]] := by
  rw [List.take_add_one, List.getElem?_eq_getElem h]
  rfl
/-- list.extend's loop over a tuple's iterator -/
theorem ext_loop {A1 : Around} {it : Addr} {Rs : Result → Shared → Prop} (hh : A1.handled = none) (hqt : q ≠ t) (hz : xs.length ≤ sizeLine) :
    ∀ (m i : Nat) (H : Hp) (s : Shared), m = xs.length - i → i ≤ xs.length → Inv X pins σ H s → SqT X.K H t xs → H q = some (.lst (xs.take i)) → FpOk X pins H it → s.heap.IsTupleIter it t i →
      (∀ H' s', Inv X pins σ H' s' → H' q = some (.lst xs) → (∃ H0, H0 = H' ∧ ∀ b, b ≠ q → H' b = H b) → Rs (.ok (.ret .none)) s') →
      codeAny (model X.prog X.w) A1 (.builtin "list.extend.loop" ⟨[.ref q, .ref it, .none], []⟩) Rs s := by
  intro m
  induction m with
  | zero =>
    intro i H s hm hi I ht hq hf st hR
    have e : i = xs.length := by omega
    subst e
    refine codeAny_builtin PySem.F.entry_extend_loop ?_
    rw [Around.under_plainId PySem.F.plain_extend_loop _]
    show wpAny _ A1.in1 (pyNext (.ref it) >>= _) _ _ s
    obtain ⟨its, rv, p, hz2⟩ := I.tuple ht
    obtain ⟨f0, f1, f2, f3, f4, f5⟩ := hf
    have hl := rv.length
    refine wpAny_bind (wpAny_pyNext_tuple_end hh st (show s.heap.IsTuple t its.toArray from p) (by simp; omega) fun h' eb => ?_)
    have I1 : Inv X pins σ H { s with heap := h' } := I.turned (t' := s.toks) (fun b o hb e => eb b o hb e) f0 f1 f3 f4 f5
    rw [List.take_length] at hq
    exact wpAny_pure (hR H _ I1 hq ⟨H, rfl, fun b _ => rfl⟩)
  | succ m ih =>
    intro i H s hm hi I ht hq hf st hR
    have hlt : i < xs.length := by omega
    refine codeAny_builtin PySem.F.entry_extend_loop ?_
    rw [Around.under_plainId PySem.F.plain_extend_loop _]
    show wpAny _ A1.in1 (pyNext (.ref it) >>= _) _ _ s
    obtain ⟨its, rv, p, hz2⟩ := I.tuple ht
    obtain ⟨u, hu, ru⟩ := rv.get (List.getElem?_eq_getElem hlt)
    have hf' := hf
    obtain ⟨f0, f1, f2, f3, f4, f5⟩ := hf
    refine wpAny_bind (wpAny_pyNext_tuple_item st (show s.heap.IsTuple t its.toArray from p) (x := u) (by simpa using hu) fun h' st' sb => ?_)
    have I1 : Inv X pins σ H { s with heap := h' } := I.turned (t' := s.toks) (fun b o hb e => (sb.2 b hb).trans e) f0 f1 f3 f4 f5
    show wpAny _ A1.in1 (updateSeq q (·.push u) >>= _) _ _ _
    obtain ⟨z, its2, k2, r2, hl2, e2⟩ := I1.lstM hq
    have hl3 : its2.length = i := by rw [← r2.length, List.length_take]; omega
    refine wpAny_bind (wpAny_updateSeq e2 rfl (wpAny_pure ⟨plainId_quiet PySem.F.plain_extend_loop _, ?_⟩) (by rw [List.size_toArray]; omega) (by show (its2.toArray.push u).size ≤ sizeLine + 1; rw [Array.size_push, List.size_toArray]; omega))
    have I2 := I1.lset (f := (·.push u)) (its' := its2 ++ [u]) (ys := xs.take (i + 1)) (t' := s.toks) hq e2 (by simp) (by rw [take_one' hlt]; exact r2.append (.cons ru .nil)) (by rw [List.length_take]; omega)
    have hiq : it ≠ q := fun z => by rw [z] at f0; rw [f0] at hq; cases hq
    refine ih (i + 1) _ _ (by omega) hlt I2 ?_ upd_same ⟨by rw [upd_ne hiq]; exact f0, f1, f2, f3, f4, f5⟩ ?_ fun H' s' I' hq' ⟨H0, _, hb⟩ => hR H' s' I' hq' ⟨H', rfl, fun b hb' => by rw [hb b hb', upd_ne hb']⟩
    · unfold SqT Rd at ht ⊢
      simp only [upd_ne (Ne.symm hqt)]
      exact ht
    · obtain ⟨o, ho, r⟩ := st'
      exact ⟨o, (by
        have := Heap.get?_update_ne
        exact (Heap.get?_update_ne _ _ _ _ hiq).trans ho), r⟩
theorem OwnM.run0 {name : Str} {sp : Sp} {H : Hp} (O : OwnM X.prog X.w X.K X.mg X.base CX0 k C name sp) {A : Around} {vs : List V} {us : List Value} {Q : VK} {EE : Value → Shared → Prop} (hr : Room k A) (hf : A.frames = X.A.frames) (I : Inv X pins σ H s) (r : Vals vs us) (h : sp vs H Q E0) :
    ∃ g, PySem.W.findIn X.K (.ref C) name = some (some (.ref g)) ∧ PySem.W.isFn X.K (.ref g) = true ∧ wpAny (model X.prog X.w) A (call (.ref g) us) (EP X pins σ Q) EE s := by
  obtain ⟨g, fd, ps, h1, h2, hb, F⟩ := O.ex
  refine ⟨g, h1, h2, ?_⟩
  have e0 : Env0 X.prog X.w X.K X.mg X.base A X.stack s H := by
    have e := I.env0
    exact ⟨by rw [hf]; exact e.frames, e.mod, e.bs, e.bsz, e.funs, e.frf, e.hok, e.bare⟩
  have hl : us.length = ps.length := by rw [← r.length]; exact F.len _ _ _ _ h
  have b := hb s us I.kIn (by rw [List.append_nil]; exact hl)
  rw [List.append_nil] at b
  refine wpAny_call (codeAny_mono (F.run A X.stack s H ⟨us, []⟩ us vs Q E0 hr e0 b r h) fun r s' hq => ?_)
  cases r with
  | error e => exact False.elim hq
  | ok fl =>
    cases fl with
    | ret u => exact I.after hq
    | next => exact False.elim hq
    | brk => exact False.elim hq
    | cont => exact False.elim hq
theorem if_yes {α : Type} {M : Model} {A : Around} {E : Value → Shared → Prop} {s : Shared} {c : Bool} {a b : Sem α} {Q : α → Shared → Prop} (hc : c = true) (h : wpAny M A a Q E s) : wpAny M A (if c = true then a else b) Q E s := by
  rw [if_pos hc]
  exact h
/-- list(o) -/
def rListO (K : PySem.W.Frag) (C : Addr) (f : Str) (sp : Sp) : List V → Hp → VK → Prop := fun xs H Q => ∃ a dx fs t zs, xs = [.ref a] ∧ H a = some (.ins C dx fs) ∧ fs.lookup f = some (.ref t) ∧ SqT K H t zs ∧ zs.length ≤ sizeLine ∧
  (∀ H', Same H H' → sp [.ref a] H' (fun v H2 => H2 = H' ∧ ∃ n : Int, v = .int n ∧ 0 < n ∧ n < 1000) E0) ∧ ∀ q, H q = none → Q (.ref q) (upd H q (.lst zs))
theorem hint_own {H : Hp} {A : Around} {sp : Sp} {Q : Bool → Shared → Prop} {EE : Value → Shared → Prop} (L : OwnM X.prog X.w X.K X.mg X.base CX0 k C "__len__" sp) (hr : Room (k + 1) A) (hf : A.frames = X.A.frames) (I : Inv X pins σ H s) (ha : H a = some (.ins C dx fs)) (hs : sp [.ref a] H (fun v H2 => H2 = H ∧ ∃ n : Int, v = .int n ∧ 0 < n ∧ n < 1000) E0)
    (h : ∀ s', Inv X pins σ H s' → Q true s') : wpAny (model X.prog X.w) A (Builtin.List.listLengthHint (.ref a)) Q EE s := by
  obtain ⟨ox, od, J⟩ := inst_of I ha
  obtain ⟨m, hF⟩ := I.fr
  obtain ⟨g, h1, h2, hw⟩ := L.run0 (A := A.in1) (EE := fun e s' => False) (vs := [.ref a]) (us := [.ref a]) hr.in1 hf I (.cons rfl .nil) hs
  unfold Builtin.List.listLengthHint
  refine wpAny_bind (wpAny_bind (J.type.here ((PySem.W.looks_findIn I.kIn h1).here ?_)))
  refine PySem.W.KFB.if_not rfl ?_
  refine if_yes rfl ?_
  refine wpAny_bind (wpAny_rule (wpAny_bind (wpAny_attempt ?_)))
  refine PySem.W.len_K hF I.ok.mod.kin J h1 h2 (wpAny_mono hw (fun v s' z => ?_) fun _ _ x => x.elim)
  obtain ⟨v', H', I', rv, rfl, n, rfl, n0, n1⟩ := z
  obtain ⟨t, rfl⟩ := (show ∃ t, v = Value.int n t from rv)
  refine ⟨⟨by omega, by omega⟩, ?_⟩
  dsimp only
  refine wpAny_bind (wpAny_of_eq (a := some n) rfl ?_)
  dsimp only
  refine PySem.W.KFB.if_not (by unfold Builtin.List.listTooLong; rw [sizeLine_eq]; exact decide_eq_false (by omega)) ?_
  have e : (n != 0) = true := by rw [bne_iff_ne]; omega
  rw [e]
  exact wpAny_pure (h _ (I'.tok _))
theorem call_listO {sp : Sp} {kl : Nat} (O : ItM X.prog X.w X.K X.mg X.base k C f) (L : OwnM X.prog X.w X.K X.mg X.base CX0 kl C "__len__" sp) (hc : X.calm = true) (hr : Room (k + 2) X.A) (hrl : Room (kl + 4) X.A) : CallR X (.type "list") (rListO X.K C f sp) := by
  intro pins s σ H xs us Q I rv h
  obtain ⟨a, dx, fs, t, zs, rfl, ha, hl, ht, hz, hsp, hq⟩ := h
  obtain ⟨u, rfl, ru⟩ := rv.one
  cases ru
  have r2 : Room k X.A.in1.in1 := (show Room (k + 1) X.A.in1 from hr.in1).in1
  have rl2 : Room (kl + 1) X.A.in1.in1 := ((show Room (kl + 3) X.A.in1 from hrl.in1).in1).mono (by omega)
  refine callType_codes (Q₁ := fun obj s₁ => obj = .ref s.heap.objs.size ∧ s₁ = { s with heap := s.heap.push { cls := .type "list", data := .seq #[] } }) PySem.F.called_list (PySem.F.typeCall_list_1 _) PySem.F.entry_list_init
    (code_list_new _ ⟨rfl, rfl⟩) fun obj s₁ h₁ => ?_
  obtain ⟨rfl, rfl⟩ := h₁
  have hS : (s.heap.push { cls := .type "list", data := .seq #[] }).get? s.heap.objs.size = some { cls := .type "list", data := .seq #[] } := Heap.get?_push_size _ rfl
  refine ⟨⟨_, hS, rfl⟩, PySem.F.args_list_init_2 _ _, ?_⟩
  have fr : H s.heap.objs.size = none := I.hok.fresh (Nat.le_refl _)
  have I1 : Inv X pins σ (upd H s.heap.objs.size (.lst [])) { s with heap := s.heap.push { cls := .type "list", data := .seq #[] } } := I.lnew (its := []) (t' := s.toks) .nil (Nat.zero_le _)
  show wpAny _ _ (do let old ← Builtin.List.listItems (.ref s.heap.objs.size); Builtin.List.listUpdate (.ref s.heap.objs.size) (fun _ => #[]); letGo old.toList.reverse; Builtin.List.listExtendWith (.ref s.heap.objs.size) (.ref a) .none) _ _ _
  refine wpAny_bind ?_
  unfold Builtin.List.listItems
  refine wpAny_bind (wpAny_seqItems hS rfl (wpAny_pure ?_))
  show wpAny _ _ (updateSeq s.heap.objs.size (fun _ => #[]) >>= fun _ => letGo (#[] : Array Value).toList.reverse >>= fun _ => Builtin.List.listExtendWith (.ref s.heap.objs.size) (.ref a) .none) _ _ _
  refine wpAny_bind (wpAny_updateSeq hS rfl ?_)
  have I2 := I1.lset (f := fun _ => #[]) (its := []) (its' := []) (ys := []) (t' := s.toks) upd_same hS rfl .nil (Nat.zero_le _)
  rw [upd_upd] at I2
  refine wpAny_bind (wpAny_letGo ?_)
  generalize hqe : s.heap.objs.size = q at I2 fr ⊢
  clear hS I1
  have ha2 : upd H q (.lst []) a = some (.ins C dx fs) := by rw [upd_ne (ne_of_none ha fr)]; exact ha
  have hqt : q ≠ t := fun z => by
    subst z
    rcases ht with (e | ⟨o, e⟩) | ⟨o, e⟩
    · rw [fr] at e; cases e
    · rw [fr] at e; cases e
    · obtain ⟨its, n, e1, _⟩ := e
      have := Heap.lt_size (I.kIn _ _ e1)
      rw [hqe] at this
      exact absurd this (Nat.lt_irrefl _)
  have ht2 : SqT X.K (upd H q (.lst [])) t zs := by
    unfold SqT Rd at ht ⊢
    simp only [upd_ne (Ne.symm hqt)]
    exact ht
  have hne : q ≠ a := fun z => by rw [z, ha] at fr; cases fr
  have hqq : (upd H q (.lst [])) q = some (.lst []) := upd_same
  have same : Same H (upd H q (.lst [])) := fun b o e => by rw [upd_ne (ne_of_none e fr)]; exact e
  generalize hH2 : upd H q (.lst []) = H2 at I2 ha2 ht2 hqq same
  generalize hs2 : ({ s with heap := (s.heap.push { cls := .type "list", data := .seq #[] }).update q (Obj.mapSeq fun _ => #[]), toks := s.toks } : Shared) = s2 at I2
  obtain ⟨ox, od, J⟩ := inst_of I2 ha2
  unfold Builtin.List.listExtendWith
  refine wpAny_bind (J.type.here ?_)
  have h1 : Builtin.List.listSameRef (.ref q) (.ref a) = false := by simp [Builtin.List.listSameRef, hne]
  have h2 : (Value.ref C == Value.type "list") = false := rfl
  have h3 : (Value.ref C == Value.type "tuple") = false := rfl
  simp only [h1, h2, h3, Bool.or_false, Bool.false_eq_true, if_false]
  refine wpAny_bind (iter_own O r2 rfl I2 ha2 hl ht2 fun p s3 hp hsz I3 => ?_)
  have hpq : p ≠ q := fun z => by rw [z, hqq] at hp; cases hp
  have same3 : Same H (upd H2 p (ItT t p)) := fun b o e => by rw [upd_ne (ne_of_none (same b o e) hp)]; exact same b o e
  have ha3 : (upd H2 p (ItT t p)) a = some (.ins C dx fs) := same3 _ _ ha
  refine wpAny_bind (wpAny_holding (hint_own L rl2 rfl I3 ha3 (hsp _ same3) fun s4 I4 => ?_))
  have st := itT_get I4 (show (upd H2 p (ItT t p)) p = some (ItT t p) from upd_same)
  have eH : ItX.dropH (upd H2 p (ItT t p)) p = H2 := ItX.dropH_upd hp
  have I5 := ItX.inv_drop I4 (show (upd H2 p (ItT t p)) p = some (.ext _) from upd_same)
  have F5 := ItX.inv_fp I4 (show (upd H2 p (ItT t p)) p = some (ItT t p) from upd_same) hsz
  rw [eH] at I5 F5
  obtain ⟨z5, its5, k5, r5, hl5, e5⟩ := I5.lstM hqq
  cases r5
  simp only [Bool.true_or, if_true]
  refine wpAny_bind (wpAny_rule ?_)
  refine wpAny_bind ?_
  show wpAny _ _ (updateSeq q (·.push .none) >>= fun _ => updateSeq q (·.pop)) _ _ _
  refine wpAny_bind (wpAny_updateSeq e5 rfl ?_)
  have I6 := I5.lset (f := (·.push Value.none)) (its' := [Value.none]) (ys := [.non]) (t' := s4.toks) hqq e5 (by simp) (.cons rfl .nil) (by rw [List.length_singleton, sizeLine_eq]; decide)
  obtain ⟨z7, its7, k7, r7, hl7, e7⟩ := I6.lstM upd_same
  obtain ⟨u7, rfl, ru7⟩ := r7.one
  refine wpAny_updateSeq e7 rfl ?_ (by show 1 ≤ sizeLine; rw [sizeLine_eq]; decide) (by show 0 ≤ sizeLine + 1; exact Nat.zero_le _)
  have I8 := I6.lset (f := (·.pop)) (its := [u7]) (its' := []) (ys := []) (t' := s4.toks) upd_same e7 (by rfl) .nil (Nat.zero_le _)
  rw [upd_upd] at I8
  have hHH : upd H2 q (.lst []) = H2 := by
    funext b
    by_cases hb : b = q
    · rw [hb, upd_same, hqq]
    · rw [upd_ne hb]
  rw [hHH] at I8
  have st8 : ((s4.heap.update q (Obj.mapSeq (·.push Value.none))).update q (Obj.mapSeq (·.pop))).IsTupleIter p t 0 := by
    obtain ⟨o, ho, r⟩ := st
    exact ⟨o, (Heap.get?_update_ne _ _ _ _ hpq).trans ((Heap.get?_update_ne _ _ _ _ hpq).trans ho), r⟩
  refine wpAny_pure ⟨plainId_quiet PySem.F.plain_extend_loop _, ?_⟩
  refine ext_loop (X := X) (A1 := X.A.in1) (Rs := wants (fun r s₂ => r = .none ∧ EP X pins σ Q (.ref q) s₂) X.xe) (I8.ok.hd hc) hqt hz zs.length 0 H2 _ (by omega) (Nat.zero_le _) I8 ht2 hqq F5 st8 fun H' s' I' hq' ⟨H0, e0, hb⟩ => ⟨rfl, .ref q, H', I', rfl, ?_⟩
  subst e0
  have eF : H0 = upd H q (.lst zs) := by
    funext b
    by_cases hbq : b = q
    · rw [hbq, upd_same, hq']
    · rw [hb b hbq, ← hH2, upd_ne hbq, upd_ne hbq]
  rw [eF]
  exact hq q fr
end
end V0
namespace V0
open PySem PySem.Spec PyProof.Rows L2
def TL : Int := 10 ^ 60
def CH : Int := 10 ^ 64
def LET : Str := "abcdefghijklmnopqrstuvwxyz"
/-- the module's values -/
structure Nm (mg : Str → Option Value) : Prop where
  g__TOO_LONG : GV mg "_TOO_LONG" (.int TL)
  g__CHUNK : GV mg "_CHUNK" (.int CH)
  g__CHUNK_DIGITS : GV mg "_CHUNK_DIGITS" (.int 64)
  g_MAX_NAME : GV mg "MAX_NAME" (.int 8)
  g_MAX_THINGS : GV mg "MAX_THINGS" (.int 8)
  g__LETTERS : GV mg "_LETTERS" (.str LET)
  g_gcd : mg "gcd" = some (.builtin "math.gcd")
end V0

namespace V0
open PySem PySem.Spec PyProof.Rows L2
/-! ### what the judges of huebill.base.numbers say, by values -/
def intB : V → Bool
  | .int i => decide (i.natAbs < 10 ^ 60)
  | _ => false
def low26 (c : Nat) : Bool := decide (97 ≤ c ∧ c ≤ 122)
def nameB : V → Bool
  | .str z => decide (1 ≤ z.length ∧ z.length ≤ 8) && z.cps.toList.all low26
  | _ => false
/-- of the items of a tuple -/
def fracL : List V → Bool
  | [.int i, .int j] => decide (i.natAbs < 10 ^ 60) && (decide (j.natAbs < 10 ^ 60) && (decide (1 ≤ j) && decide (Nat.gcd i.natAbs j.natAbs = 1)))
  | _ => false
theorem let_is : LET.cps.toList = [97, 98, 99, 100, 101, 102, 103, 104, 105, 106, 107, 108, 109, 110, 111, 112, 113, 114, 115, 116, 117, 118, 119, 120, 121, 122] := by decide +kernel
theorem let_low (c : Nat) : decide (c ∈ LET.cps.toList) = low26 c := by
  rw [let_is]
  unfold low26
  apply decide_eq_decide.mpr
  simp only [List.mem_cons, List.not_mem_nil, or_false]
  omega
theorem abs_lt (i : Int) : decide ((if i < 0 then -i else i) < TL) = intB (.int i) := by
  unfold intB TL
  apply decide_eq_decide.mpr
  split <;> omega
theorem take_one {α : Type} {l : List α} {i : Nat} {x : α} (h : l[i]? = some x) : l.take (i + 1) = l.take i ++ [x] := by
  rw [List.take_add_one, h]
  rfl
def spIsWhole : Sp := fun vs H Q _ => ∃ (x : V) (t : Kd), vs = [x] ∧ Kn H x t ∧ Q (.bl (decide (t = .int))) H
def spIsInteger : Sp := fun vs H Q _ => ∃ (x : V) (t : Kd), vs = [x] ∧ Kn H x t ∧ Q (.bl (intB x)) H
def spIsName : Sp := fun vs H Q _ => ∃ (x : V) (t : Kd), vs = [x] ∧ Kn H x t ∧ (∀ z, x = .str z → z.length ≤ 1000) ∧ ∀ H', Same H H' → Q (.bl (nameB x)) H'
/-- what is_fraction says of a value of this kind -/
inductive Fr (H : Hp) : V → Bool → Prop
  | no {x : V} {t : Kd} (h : Kn H x t) (ht : t ≠ .tup) : Fr H x false
  | tup {a : Addr} {xs : List V} (h : H a = some (.tup xs)) (k : ∀ x ∈ xs, ∃ t, Kn H x t) : Fr H (.ref a) (fracL xs)
theorem Fr.same {H H' : Hp} {x : V} {b : Bool} (s : Same H H') (f : Fr H x b) : Fr H' x b := by
  cases f with
  | no h ht => exact .no (h.same s) ht
  | tup h k => exact .tup (s _ _ h) fun x hx => let ⟨t, z⟩ := k x hx; ⟨t, z.same s⟩
def spIsFraction : Sp := fun vs H Q _ => ∃ (x : V) (b : Bool), vs = [x] ∧ Fr H x b ∧ Q (.bl b) H
def spReduced : Sp := fun vs H Q _ => ∃ (i j : Int), vs = [.int i, .int j] ∧ j ≠ 0 ∧ i.natAbs < 2 ^ 2000 ∧ j.natAbs < 2 ^ 2000 ∧
  ∀ p, H p = none → Q (.ref p) (upd H p (.tup [.int (if j < 0 then -(i / (Nat.gcd i.natAbs j.natAbs : Nat)) else i / (Nat.gcd i.natAbs j.natAbs : Nat)), .int (j.natAbs / Nat.gcd i.natAbs j.natAbs : Nat)]))
/-- the items of a pair that is none of two great ints -/
theorem frac_of (x y : V) (hx : intB x = false ∨ intB y = false) : fracL [x, y] = false := by
  unfold fracL
  split
  · rename_i i j e
    cases e
    rcases hx with h | h
    · rw [show decide (i.natAbs < 10 ^ 60) = false from h]; rfl
    · rw [show decide (j.natAbs < 10 ^ 60) = false from h]; simp
  · rfl
theorem frac_len {xs : List V} (h : xs.length ≠ 2) : fracL xs = false := by
  unfold fracL
  split
  · exact absurd rfl h
  · rfl
theorem intB_int {x : V} (h : intB x = true) : ∃ i, x = .int i ∧ i.natAbs < 10 ^ 60 := by
  cases x with
  | int i => exact ⟨i, rfl, of_decide_eq_true h⟩
  | _ => cases h
section
variable {P : Program} {w : World} {K : PySem.W.Frag} {mg : Str → Option Value} {base : Heap}
abbrev s_is_whole : Stmt := top 16
abbrev N_is_whole : List Str := ["value"]
abbrev P_is_whole : List Str := ["value"]
theorem sc_is_whole : FnScope N_is_whole P_is_whole (defScope s_is_whole) := ⟨rfl, rfl, rfl, by decide +kernel, rfl, by decide +kernel, by decide +kernel⟩
theorem ok_is_whole {f : Addr} {fd : FuncData} (B : Bl mg) (D : Df K mg "is_whole" s_is_whole P_is_whole f fd) : FnOk P w K mg base CX0 1 f fd P_is_whole spIsWhole := by
  refine D.F.ok sc_is_whole (fun vs H Q E h => ?_) (fun cdv A outer s H vs Q E hr h => ?_)
  · obtain ⟨x, t, rfl, _⟩ := h
    rfl
  · obtain ⟨x, t, rfl, hk, k⟩ := h
    refine ⟨_, (pss_one (ps_ret (pe_and (pe_callB call_is (by rfl) B.b_isinstance (by decide +kernel) (pa_cons (pv 0) (pa_cons (pe_ty (n := "int") (by rfl) B.b_int (by decide +kernel)) pa_nil))) (pe_one (pe_not (pe_callB call_is (by rfl) B.b_isinstance (by decide +kernel) (pa_cons (pv 0) (pa_cons (pe_ty (n := "bool") (by rfl) B.b_bool (by decide +kernel)) pa_nil)))))))), ?_⟩
    refine ⟨_, rfl, x, t, .int, rfl, hk, by decide, _, rfl, ?_⟩
    cases hk with
    | int i => exact iteT ⟨_, rfl, _, .int, .bl, rfl, .int i, by decide, _, rfl, k⟩
    | bl b => exact iteT ⟨_, rfl, _, .bl, .bl, rfl, .bl b, by decide, _, rfl, k⟩
    | _ => exact iteF k
abbrev s_is_integer : Stmt := top 17
abbrev N_is_integer : List Str := ["value"]
abbrev P_is_integer : List Str := ["value"]
theorem sc_is_integer : FnScope N_is_integer P_is_integer (defScope s_is_integer) := ⟨rfl, rfl, rfl, by decide +kernel, rfl, by decide +kernel, by decide +kernel⟩
theorem ok_is_integer {f f1 : Addr} {fd fd1 : FuncData} (B : Bl mg) (C : Nm mg) (D_is_whole : Df K mg "is_whole" s_is_whole P_is_whole f1 fd1) (D : Df K mg "is_integer" s_is_integer P_is_integer f fd) :
    FnOk P w K mg base CX0 2 f fd P_is_integer spIsInteger := by
  have G_is_whole : FnOk P w K mg base CX0 1 f1 fd1 P_is_whole spIsWhole := ok_is_whole B D_is_whole
  refine D.F.ok sc_is_integer (fun vs H Q E h => ?_) (fun cdv A outer s H vs Q E hr h => ?_)
  · obtain ⟨x, t, rfl, _⟩ := h
    rfl
  · obtain ⟨x, t, rfl, hk, k⟩ := h
    refine ⟨_, (pss_one (ps_ret (pe_and (pe_call G_is_whole (hr.mono (by decide)) (by rfl) D_is_whole.g D_is_whole.F.kp D_is_whole.b .nil pass0 (pa_cons (pv 0) pa_nil)) (pe_one (pe_cmpR op_lt (pe_callB call_abs (by rfl) B.b_abs (by decide +kernel) (pa_cons (pv 0) pa_nil)) (pe_gv rfl C.g__TOO_LONG) (nomark _)))))), ?_⟩
    refine ⟨_, rfl, x, t, rfl, hk, _, rfl, ?_⟩
    cases hk with
    | int i =>
      refine iteT ⟨_, rfl, _, rfl, _, _, rfl, rfl, ?_⟩
      show Q (.bl (decide ((if i < 0 then -i else i) < TL))) H
      rw [abs_lt]
      exact k
    | _ => exact iteF k
abbrev s_is_name : Stmt := top 18
abbrev N_is_name : List Str := ["value", "letter"]
abbrev P_is_name : List Str := ["value"]
theorem sc_is_name : FnScope N_is_name P_is_name (defScope s_is_name) := ⟨rfl, rfl, rfl, by decide +kernel, rfl, by decide +kernel, by decide +kernel⟩
theorem ok_is_name {f : Addr} {fd : FuncData} (B : Bl mg) (C : Nm mg) (D : Df K mg "is_name" s_is_name P_is_name f fd) : FnOk P w K mg base CX0 1 f fd P_is_name spIsName := by
  refine D.F.ok sc_is_name (fun vs H Q E h => ?_) (fun cdv A outer s H vs Q E hr h => ?_)
  · obtain ⟨x, t, rfl, _⟩ := h
    rfl
  · obtain ⟨x, t, rfl, hk, hz, k⟩ := h
    refine ⟨_, (pss_cons (ps_if (PW.pt (pw_or (pt_not (pt_val (pe_callB call_is (by rfl) B.b_isinstance (by decide +kernel) (pa_cons (pv 0) (pa_cons (pe_ty (n := "str") (by rfl) B.b_str (by decide +kernel)) pa_nil))))) (pw_or1 (pt_not (pt_chain op_le op_le pe_int (pe_callB call_len (by rfl) B.b_len (by decide +kernel) (pa_cons (pv 0) pa_nil)) (pe_gv rfl C.g_MAX_NAME)))))) (pss_one (ps_ret pe_bl)) pss_nil)
      (pss_one (ps_ret (pe_callB (cr_all rfl) (by rfl) B.b_all (by decide +kernel) (pa_cons (pe_lc (own := [("letter", 1)]) (g := gName 1) (tt := tYes) rfl sc_is_name.nd (pi_str (pv 0)) (blkOk_by (own := [("letter", 1)]) (N := N_is_name) (sc := defScope s_is_name) (by decide +kernel)) (fun _ _ _ _ _ => (pg_name (i := 1) sc_is_name.nd rfl (Or.inl rfl))) (fun _ _ _ _ _ => pts_nil) (fun _ _ _ _ _ => (pe_cmpR op_in_sign (pv 1) (pe_gv rfl C.g__LETTERS) (by rfl)))) pa_nil))))), ?_⟩
    refine ⟨_, rfl, x, t, .str, rfl, hk, by decide, _, rfl, ?_⟩
    cases hk with
    | str z =>
      have hz := hz z rfl
      have hl : (1000 : Nat) ≤ sizeLine := by decide
      have hk : nameB (.str z) = (decide (1 ≤ z.length ∧ z.length ≤ 8) && z.cps.toList.all low26) := rfl
      refine iteF ⟨_, rfl, _, z.length, rfl, ⟨by omega, rfl⟩, _, _, rfl, rfl, _, rfl, ?_⟩
      refine ite2 (fun e1 => ?_) (fun e1 => ?_)
      · have e1' := of_decide_eq_true e1
        refine ⟨_, _, rfl, rfl, _, rfl, ite2 (fun e2 => ?_) (fun e2 => ?_)⟩
        · have e2' : ¬ (z.length : Int) ≤ 8 := fun q => by
            rw [decide_eq_true q] at e2
            exact Bool.false_ne_true e2
          have ek : nameB (.str z) = false := by
            rw [hk, decide_eq_false (by omega)]
            rfl
          rw [ek] at k
          exact k H (Same.refl H)
        · have e2' : (z.length : Int) ≤ 8 := by
            cases hd : decide ((z.length : Int) ≤ 8) with
            | true => exact of_decide_eq_true hd
            | false =>
              rw [hd] at e2
              exact absurd rfl e2
          have ek : nameB (.str z) = z.cps.toList.all low26 := by
            rw [hk, decide_eq_true (by omega)]
            rfl
          rw [ek] at k
          refine ⟨_, rfl, z, rfl, fun L hL => ?_⟩
          refine lc_it walk_str (fun i H' => Same H H' ∧ H' L = some (.lst (((z.cps.toList.take i).map low26).map V.bl))) ⟨Same.new hL, upd_same⟩ (fun _ _ _ _ => trivial) ?_ ?_
          · rintro i x H1 H2 hi ⟨s1, h1⟩ ⟨rfl, c, hc, rfl⟩
            have hc' : z.cps.toList[i]? = some c := by rw [Array.getElem?_toList]; exact hc
            refine ⟨rfl, _, rfl, c, LET, rfl, rfl, _, h1, ?_, ?_, ?_⟩
            · rw [List.length_map, List.length_map, List.length_take]
              have hl2 : z.cps.toList.length = z.length := rfl
              omega
            · exact fun b o e => by rw [upd_ne (ne_of_none e hL)]; exact s1 b o e
            · rw [upd_same, let_low, take_one hc', List.map_append, List.map_append]
              rfl
          · rintro H1 ⟨s1, h1⟩
            have et : z.cps.toList.take z.cps.size = z.cps.toList := List.take_of_length_le (by rw [Array.length_toList]; exact Nat.le_refl _)
            rw [et] at h1
            refine ⟨L, _, rfl, SqL.of h1, ?_⟩
            have ea : (z.cps.toList.map low26).all id = z.cps.toList.all low26 := by rw [List.all_map]; rfl
            rw [ea]
            exact k H1 s1
      · have e1' : ¬ (1 : Int) ≤ z.length := fun q => e1 (decide_eq_true q)
        have ek : nameB (.str z) = false := by
          rw [hk, decide_eq_false (by omega)]
          rfl
        rw [ek] at k
        exact ⟨_, rfl, iteT (k H (Same.refl H))⟩
    | _ => exact iteT (iteT (k H (Same.refl H)))
end
end V0
namespace V0
open PySem PySem.Spec PyProof.Rows L2
/-! ### texts in their order -/
def leS (a b : Str) : Prop := ltCps b.cps.toList a.cps.toList = false
theorem leS_iff {a b : Str} : leS a b ↔ a.cps.toList ≤ b.cps.toList := by
  unfold leS
  rw [ltCps_eq, decide_eq_false_iff_not]
  exact List.not_lt
theorem leS_trans {a b c : Str} (h : leS a b) (k : leS b c) : leS a c := leS_iff.mpr (List.le_trans (leS_iff.mp h) (leS_iff.mp k))
theorem str_ext {a b : Str} (h : a.cps.toList = b.cps.toList) : a = b := by
  cases a; cases b
  simp at h
  rw [h]
theorem leS_antisymm {a b : Str} (h : leS a b) (k : leS b a) : a = b := str_ext (List.le_antisymm (leS_iff.mp h) (leS_iff.mp k))
theorem rising_pw : ∀ (p : Str) (l : List Str), risingS p l = true → (p :: l).Pairwise leS
  | p, [], _ => by simp
  | p, x :: l, h => by
    have h' : (!ltCps x.cps.toList p.cps.toList && risingS x l) = true := h
    obtain ⟨h1, h2⟩ := Bool.and_eq_true_iff.mp h'
    have ih := rising_pw x l h2
    have px : leS p x := by
      unfold leS
      simpa using h1
    refine List.pairwise_cons.mpr ⟨fun y hy => ?_, ih⟩
    rcases List.mem_cons.mp hy with rfl | hy
    · exact px
    · exact leS_trans px ((List.pairwise_cons.mp ih).1 y hy)
theorem sorted_pw : ∀ (l : List Str), sortedS l = true → l.Pairwise leS
  | [], _ => List.Pairwise.nil
  | x :: l, h => rising_pw x l h
theorem sorted_one {xs ys : List Str} (p : xs.Perm ys) (hx : sortedS xs = true) (hy : sortedS ys = true) : xs = ys :=
  List.Perm.eq_of_pairwise (le := leS) (fun a b _ _ h k => leS_antisymm h k) (sorted_pw _ hx) (sorted_pw _ hy) p
/-! ### what things pay, in whole numbers -/
abbrev Bag := List (Str × Int)
def kvs (ps : Bag) : List (Key × V) := ps.map fun p => (.inr p.1, .int p.2)
def nms (ps : Bag) : List Str := ps.map (·.1)
def look (ps : Bag) (z : Str) : Int := ((ps.find? fun p => decide (p.1 = z)).map (·.2)).getD 0
theorem kvs_keys (ps : Bag) : (kvs ps).map (·.1) = (nms ps).map Sum.inr := by
  unfold kvs nms
  rw [List.map_map, List.map_map]
  rfl
theorem valV_kvs : ∀ (ps : Bag) (z : Str), valV (kvs ps) (.inr z) = (ps.find? fun p => decide (p.1 = z)).map fun p => V.int p.2
  | [], _ => rfl
  | p :: ps, z => by
    by_cases h : p.1 = z
    · rw [show kvs (p :: ps) = (.inr p.1, .int p.2) :: kvs ps from rfl, valV_pos (by rw [h]), List.find?_cons_of_pos (by simpa using h)]
      rfl
    · rw [show kvs (p :: ps) = (.inr p.1, .int p.2) :: kvs ps from rfl, valV_neg (by intro e; injection e with e; exact h e), List.find?_cons_of_neg (by simpa using h)]
      exact valV_kvs ps z
theorem find_some {ps : Bag} {z : Str} (h : z ∈ nms ps) : ∃ p, ps.find? (fun p => decide (p.1 = z)) = some p ∧ p ∈ ps ∧ p.1 = z := by
  obtain ⟨q, hq, e⟩ := List.mem_map.mp h
  cases f : ps.find? (fun p => decide (p.1 = z)) with
  | none =>
    have := List.find?_eq_none.mp f q hq
    simp [e] at this
  | some p => exact ⟨p, rfl, List.mem_of_find?_eq_some f, by simpa using List.find?_some f⟩
theorem valV_in {ps : Bag} {z : Str} (h : z ∈ nms ps) : valV (kvs ps) (.inr z) = some (.int (look ps z)) := by
  obtain ⟨p, f, _, _⟩ := find_some h
  rw [valV_kvs, look, f]
  rfl
theorem valV_out {ps : Bag} {z : Str} (h : z ∉ nms ps) : valV (kvs ps) (.inr z) = none := by
  rw [valV_kvs]
  cases f : ps.find? (fun p => decide (p.1 = z)) with
  | none => rfl
  | some p => exact absurd (List.mem_map.mpr ⟨p, List.mem_of_find?_eq_some f, by simpa using List.find?_some f⟩) h
theorem look_of {ps : Bag} {z : Str} {i : Int} (nd : (nms ps).Nodup) (h : (z, i) ∈ ps) : look ps z = i := by
  induction ps with
  | nil => cases h
  | cons p ps ih =>
    have nd' := List.nodup_cons.mp nd
    unfold look
    by_cases e : p.1 = z
    · rw [List.find?_cons_of_pos (by simpa using e)]
      rcases List.mem_cons.mp h with h | h
      · rw [← h]; rfl
      · exact absurd (List.mem_map.mpr ⟨_, h, e.symm⟩) nd'.1
    · rw [List.find?_cons_of_neg (by simpa using e)]
      rcases List.mem_cons.mp h with h | h
      · exact absurd (by rw [← h]) e
      · exact ih nd'.2 h
theorem look_mem {ps : Bag} {z : Str} (h : z ∈ nms ps) : (z, look ps z) ∈ ps := by
  obtain ⟨p, f, hp, e⟩ := find_some h
  have : look ps z = p.2 := by rw [look, f]; rfl
  rw [this, ← e]
  exact hp
theorem look_perm {ps qs : Bag} (nd : (nms ps).Nodup) (p : ps.Perm qs) (z : Str) : look ps z = look qs z := by
  have nd2 : (nms qs).Nodup := (p.map (fun q : Str × Int => q.1)).nodup_iff.mp nd
  by_cases h : z ∈ nms ps
  · exact (look_of nd2 (p.mem_iff.mp (look_mem h))).symm
  · have h2 : z ∉ nms qs := fun k => h ((p.map (fun q : Str × Int => q.1)).mem_iff.mpr k)
    have none_of : ∀ {rs : Bag}, z ∉ nms rs → look rs z = 0 := fun {rs} k => by
      unfold look
      cases f : rs.find? (fun p => decide (p.1 = z)) with
      | none => rfl
      | some p => exact absurd (List.mem_map.mpr ⟨p, List.mem_of_find?_eq_some f, by simpa using List.find?_some f⟩) k
    rw [none_of h, none_of h2]
theorem look_map (f : Int → Int) (h0 : f 0 = 0) : ∀ (ps : Bag) (z : Str), look (ps.map fun p => (p.1, f p.2)) z = f (look ps z)
  | [], _ => h0.symm
  | p :: ps, z => by
    have ih := look_map f h0 ps z
    unfold look at ih ⊢
    by_cases e : p.1 = z
    · rw [List.map_cons, List.find?_cons_of_pos (by simpa using e), List.find?_cons_of_pos (by simpa using e)]
      rfl
    · rw [List.map_cons, List.find?_cons_of_neg (by simpa using e), List.find?_cons_of_neg (by simpa using e)]
      exact ih
/-- the bag told anew in its own order -/
theorem look_self {ps : Bag} (nd : (nms ps).Nodup) : (nms ps).map (fun z => (z, look ps z)) = ps := by
  unfold nms
  rw [List.map_map]
  conv => rhs; rw [← List.map_id ps]
  exact List.map_congr_left fun p hp => by
    show (p.1, look ps p.1) = p
    rw [look_of nd (z := p.1) (i := p.2) hp]
/-! ### the greatest common divisor -/
def gcdB (u : Int) (ps : Bag) : Nat := ps.foldl (fun g p => Nat.gcd g p.2.natAbs) u.natAbs
theorem dvd_foldl (ps : Bag) : ∀ (g d : Nat), d ∣ ps.foldl (fun g p => Nat.gcd g p.2.natAbs) g ↔ d ∣ g ∧ ∀ p ∈ ps, d ∣ p.2.natAbs := by
  induction ps with
  | nil => intro g d; simp
  | cons p ps ih =>
    intro g d
    rw [List.foldl_cons, ih, Nat.dvd_gcd_iff]
    constructor
    · rintro ⟨⟨h1, h2⟩, h3⟩
      exact ⟨h1, fun q hq => (List.mem_cons.mp hq).elim (fun e => e ▸ h2) (h3 q)⟩
    · rintro ⟨h1, h2⟩
      exact ⟨⟨h1, h2 p (by simp)⟩, fun q hq => h2 q (by simp [hq])⟩
theorem dvd_gcdB {u : Int} {ps : Bag} {d : Nat} : d ∣ gcdB u ps ↔ d ∣ u.natAbs ∧ ∀ p ∈ ps, d ∣ p.2.natAbs := dvd_foldl ps _ d
theorem gcdB_u (u : Int) (ps : Bag) : gcdB u ps ∣ u.natAbs := (dvd_gcdB.mp (Nat.dvd_refl _)).1
theorem gcdB_p {u : Int} {ps : Bag} {p : Str × Int} (h : p ∈ ps) : gcdB u ps ∣ p.2.natAbs := (dvd_gcdB.mp (Nat.dvd_refl _)).2 p h
theorem gcdB_pos {u : Int} {ps : Bag} (hu : u ≠ 0) : 0 < gcdB u ps := by
  rcases Nat.eq_zero_or_pos (gcdB u ps) with h | h
  · have := gcdB_u u ps
    rw [h, Nat.zero_dvd] at this
    omega
  · exact h
theorem gcdB_le {u : Int} {ps : Bag} (hu : u ≠ 0) : gcdB u ps ≤ u.natAbs := Nat.le_of_dvd (by omega) (gcdB_u u ps)
theorem gcdB_perm {u : Int} {ps qs : Bag} (p : ps.Perm qs) : gcdB u ps = gcdB u qs :=
  Nat.dvd_antisymm (dvd_gcdB.mpr ⟨gcdB_u u ps, fun q hq => gcdB_p (p.mem_iff.mpr hq)⟩) (dvd_gcdB.mpr ⟨gcdB_u u qs, fun q hq => gcdB_p (p.mem_iff.mp hq)⟩)
theorem gcdB_mul (m : Int) (u : Int) (ps : Bag) : gcdB (u * m) (ps.map fun p => (p.1, p.2 * m)) = gcdB u ps * m.natAbs := by
  unfold gcdB
  rw [List.foldl_map, Int.natAbs_mul]
  generalize u.natAbs = g
  induction ps generalizing g with
  | nil => rfl
  | cons p ps ih =>
    rw [List.foldl_cons, List.foldl_cons, Int.natAbs_mul, Nat.gcd_mul_right]
    exact ih _
/-- the charge that is kept: each number divided by what all share -/
def nfU (u : Int) (ps : Bag) : Int := u / (gcdB u ps : Int)
def nfB (u : Int) (ps : Bag) : Bag := ps.map fun p => (p.1, p.2 / (gcdB u ps : Int))
theorem nfB_nms (u : Int) (ps : Bag) : nms (nfB u ps) = nms ps := by
  unfold nms nfB
  rw [List.map_map]
  rfl
theorem nf_mul {m u : Int} {ps : Bag} (hm : 0 < m) (hu : u ≠ 0) : nfU (u * m) (ps.map fun p => (p.1, p.2 * m)) = nfU u ps ∧ nfB (u * m) (ps.map fun p => (p.1, p.2 * m)) = nfB u ps := by
  have e : ((gcdB (u * m) (ps.map fun p => (p.1, p.2 * m)) : Nat) : Int) = (gcdB u ps : Int) * m := by
    rw [gcdB_mul, Int.natCast_mul]
    congr 1
    omega
  constructor
  · unfold nfU
    rw [e, Int.mul_ediv_mul_of_pos_left _ _ hm]
  · unfold nfB
    rw [List.map_map]
    refine List.map_congr_left fun p hp => ?_
    show (p.1, p.2 * m / _) = _
    rw [e, Int.mul_ediv_mul_of_pos_left _ _ hm]
theorem nf_inj {u : Int} {ps qs : Bag} (hu : 0 < u) (h1 : nfU u ps = nfU u qs) (h2 : nfB u ps = nfB u qs) : ps = qs := by
  have gp : (0 : Int) < (gcdB u ps : Int) := by have := gcdB_pos (u := u) (ps := ps) (by omega); omega
  have gq : (0 : Int) < (gcdB u qs : Int) := by have := gcdB_pos (u := u) (ps := qs) (by omega); omega
  have d1 : (gcdB u ps : Int) ∣ u := Int.ofNat_dvd_left.mpr (gcdB_u u ps)
  have d2 : (gcdB u qs : Int) ∣ u := Int.ofNat_dvd_left.mpr (gcdB_u u qs)
  have eg : (gcdB u ps : Int) = (gcdB u qs : Int) := by
    unfold nfU at h1
    have a1 := Int.ediv_mul_cancel d1
    have a2 := Int.ediv_mul_cancel d2
    rw [← h1] at a2
    have pos : u / (gcdB u ps : Int) ≠ 0 := fun z => by rw [z] at a1; omega
    exact Int.eq_of_mul_eq_mul_left pos (a1.trans a2.symm)
  have back : ∀ rs : Bag, (nfB u rs).map (fun p => (p.1, p.2 * (gcdB u rs : Int))) = rs := fun rs => by
    unfold nfB
    rw [List.map_map]
    conv => rhs; rw [← List.map_id rs]
    exact List.map_congr_left fun p hp => by
      show (p.1, p.2 / _ * _) = p
      rw [Int.ediv_mul_cancel (Int.ofNat_dvd_left.mpr (gcdB_p hp))]
  rw [← back ps, ← back qs, h2, eg]
end V0
namespace V0
open PySem PySem.Spec PyProof.Rows L2
/-- // by any divisor but 0, below 2 ^ 9000 -/
def CDivZ (_ j : Int) : Prop := j ≠ 0 ∧ j.natAbs.log2 < 9000
section
variable {X : Cx}
theorem op_fdivZ : OpR X (binaryOp .FloorDiv) (rI CDivZ fun i j => .int (i.fdiv j)) := opI fun _ _ _ _ _ _ _ hc q => floordiv_int hc.1 q (.inl (PyProof.noPylong_of_log2 hc.2))
end
theorem div_z {j : Int} {b : Nat} (i : Int) (h : j ≠ 0) (hb : j.natAbs < 2 ^ b) (h0 : 0 < b) (h9 : b ≤ 9000) : CDivZ i j := ⟨h, Nat.lt_of_lt_of_le (PySem.Flt.log2_lt_of h0 hb) h9⟩
/-- by what reduced divides -/
def redG (i j : Int) : Int := if j < 0 then -((Nat.gcd i.natAbs j.natAbs : Nat) : Int) else ((Nat.gcd i.natAbs j.natAbs : Nat) : Int)
def spRed : Sp := fun vs H Q _ => ∃ (i j : Int), vs = [.int i, .int j] ∧ j ≠ 0 ∧ j.natAbs < 2 ^ 3000 ∧
  ∀ p, H p = none → Q (.ref p) (upd H p (.tup [.int (i.fdiv (redG i j)), .int (j.fdiv (redG i j))]))
theorem gcd_pos {i j : Int} (hj : j ≠ 0) : 0 < Nat.gcd i.natAbs j.natAbs := Nat.gcd_pos_of_pos_right _ (by omega)
theorem gcd_le {i j : Int} (hj : j ≠ 0) : Nat.gcd i.natAbs j.natAbs ≤ j.natAbs := Nat.le_of_dvd (by omega) (Nat.gcd_dvd_right _ _)
theorem bnot_false {b : Bool} (h : ¬ (!b) = true) : b = true := by cases b <;> simp_all
theorem bnot_true {b : Bool} (h : (!b) = true) : b = false := by cases b <;> simp_all
section
variable {P : Program} {w : World} {K : PySem.W.Frag} {mg : Str → Option Value} {base : Heap}
abbrev s_reduced : Stmt := top 19
abbrev N_reduced : List Str := ["numerator", "denominator", "shared"]
abbrev P_reduced : List Str := ["numerator", "denominator"]
theorem sc_reduced : FnScope N_reduced P_reduced (defScope s_reduced) := ⟨rfl, rfl, rfl, by decide +kernel, rfl, by decide +kernel, by decide +kernel⟩
theorem ok_reduced {f : Addr} {fd : FuncData} (C : Nm mg) (D : Df K mg "reduced" s_reduced P_reduced f fd) : FnOk P w K mg base CX0 1 f fd P_reduced spRed := by
  refine D.F.ok sc_reduced (fun vs H Q E h => ?_) (fun cdv A outer s H vs Q E hr h => ?_)
  · obtain ⟨i, j, rfl, _⟩ := h
    rfl
  · obtain ⟨i, j, rfl, hj, hb, k⟩ := h
    refine ⟨_, (pss_cons (ps_set (i := 2) sc_reduced.nd rfl (Or.inl rfl) (pe_callBfun cr_gcd (by rfl) C.g_gcd (pa_cons (pv 0) (pa_cons (pv 1) pa_nil))))
      (pss_cons (ps_if (pt_cmpR op_lt (pv 1) pe_int (nomark _)) (pss_one (ps_set (i := 2) sc_reduced.nd rfl (Or.inl rfl) (pe_un un_neg (pv 2)))) pss_nil)
      (pss_one (ps_ret (pe_tup (pa_cons (pe_op op_fdivZ (pv 0) (pv 2)) (pa_cons (pe_op op_fdivZ (pv 1) (pv 2)) pa_nil))))))), ?_⟩
    have g0 := gcd_pos (i := i) hj
    have g1 := gcd_le (i := i) hj
    have gb : (Nat.gcd i.natAbs j.natAbs) < 2 ^ 3000 := Nat.lt_of_le_of_lt g1 hb
    refine ⟨_, rfl, _, rfl, _, _, rfl, _, rfl, _, _, rfl, rfl, _, rfl, ite2 (fun e => ?_) (fun e => ?_)⟩
    · have e' := of_decide_eq_true e
      refine ⟨_, rfl, _, rfl, _, rfl, _, rfl, _, _, rfl, rfl, div_z (b := 3000) _ (by omega) (by omega) (by decide) (by decide), _, rfl, _, rfl, _, _, rfl, rfl, div_z (b := 3000) _ (by omega) (by omega) (by decide) (by decide), (by show 2 ≤ sizeLine; decide), fun p hp => ?_⟩
      have q := k p hp
      rw [show redG i j = -((Nat.gcd i.natAbs j.natAbs : Nat) : Int) from if_pos e'] at q
      exact q
    · have e' : ¬ j < 0 := fun z => e (decide_eq_true z)
      refine ⟨_, rfl, _, rfl, _, _, rfl, rfl, div_z (b := 3000) _ (by omega) (by omega) (by decide) (by decide), _, rfl, _, rfl, _, _, rfl, rfl, div_z (b := 3000) _ (by omega) (by omega) (by decide) (by decide), (by show 2 ≤ sizeLine; decide), fun p hp => ?_⟩
      have q := k p hp
      rw [show redG i j = ((Nat.gcd i.natAbs j.natAbs : Nat) : Int) from if_neg e'] at q
      exact q
end
end V0

namespace V0
open PySem PySem.Spec PyProof.Rows L2
/-- more built-in names -/
structure Bm (mg : Str → Option Value) : Prop where
  b_sorted : mg "sorted" = none
  b_zip : mg "zip" = none
  b_iter : mg "iter" = none
theorem upd_lock {H : Hp} {d : Addr} {u x : HO} (h : H d = some u) : upd (upd H d x) d u = H := by
  funext b
  by_cases hb : b = d
  · rw [hb, upd_same, h]
  · rw [upd_ne hb, upd_ne hb]
theorem kvs_at {ps : Bag} {i : Nat} {k : Key} {v : V} (h : (kvs ps)[i]? = some (k, v)) : ∃ p, ps[i]? = some p ∧ k = .inr p.1 ∧ v = .int p.2 := by
  unfold kvs at h
  rw [List.getElem?_map] at h
  cases e : ps[i]? with
  | none => rw [e] at h; cases h
  | some p =>
    rw [e] at h
    injection h with h
    injection h with h1 h2
    exact ⟨p, rfl, h1.symm, h2.symm⟩
theorem nms_at {ps : Bag} {i : Nat} {p : Str × Int} (h : ps[i]? = some p) : p.1 ∈ nms ps := List.mem_map.mpr ⟨p, List.mem_of_getElem? h, rfl⟩
theorem look_at {ps : Bag} {i : Nat} {p : Str × Int} (nd : (nms ps).Nodup) (h : ps[i]? = some p) : look ps p.1 = p.2 := look_of nd (List.mem_of_getElem? h)
theorem DGet.bag {H : Hp} {d : Addr} {ps : Bag} {z : Str} (h : Rd H d (.dK (kvs ps))) (hz : z ∈ nms ps) : DGet H d (.str z) (some (.int (look ps z))) := .inl ⟨kvs ps, .inr z, h, rfl, (valV_in hz).symm⟩
theorem gcdB_take {u : Int} {ps : Bag} {i : Nat} {p : Str × Int} (h : ps[i]? = some p) : gcdB u (ps.take (i + 1)) = Nat.gcd (gcdB u (ps.take i)) p.2.natAbs := by
  unfold gcdB
  rw [take_one h, List.foldl_append]
  rfl
def spDivisor : Sp := fun vs H Q _ => ∃ (d : Addr) (ps : Bag) (u : Int), vs = [.ref d, .int u] ∧ H d = some (.dK (kvs ps)) ∧ (nms ps).Nodup ∧ 0 ≤ u ∧ Q (.int (gcdB u ps : Nat)) H
section
variable {P : Program} {w : World} {K : PySem.W.Frag} {mg : Str → Option Value} {base : Heap}
abbrev s__shared_divisor : Stmt := top 28
abbrev N__shared_divisor : List Str := ["pays", "unit", "shared", "thing"]
abbrev P__shared_divisor : List Str := ["pays", "unit"]
theorem sc__shared_divisor : FnScope N__shared_divisor P__shared_divisor (defScope s__shared_divisor) := ⟨rfl, rfl, rfl, by decide +kernel, rfl, by decide +kernel, by decide +kernel⟩
theorem ok_shared {f : Addr} {fd : FuncData} (C : Nm mg) (D : Df K mg "_shared_divisor" s__shared_divisor P__shared_divisor f fd) : FnOk P w K mg base CX0 1 f fd P__shared_divisor spDivisor := by
  refine D.F.ok sc__shared_divisor (fun vs H Q E h => ?_) (fun cdv A outer s H vs Q E hr h => ?_)
  · obtain ⟨d, ps, u, rfl, _⟩ := h
    rfl
  · obtain ⟨d, ps, u, rfl, hd, nd, hu, k⟩ := h
    refine ⟨_, (pss_cons (ps_set (i := 2) sc__shared_divisor.nd rfl (Or.inl rfl) (pv 1))
      (pss_cons (ps_lock (ps_for PassesOwn.never rfl (pi_keys (pv 0)) (pg_name (i := 3) sc__shared_divisor.nd rfl (Or.inl rfl)) (pss_one (ps_set (i := 2) sc__shared_divisor.nd rfl (Or.inl rfl) (pe_callBfun cr_gcd (by rfl) C.g_gcd (pa_cons (pv 2) (pa_cons (pe_dget (hu_of hr) (pv 0) (pv 3) (fun _ _ => rfl)) pa_nil)))))))
      (pss_one (ps_ret (pv 2))))), ?_⟩
    refine ⟨_, rfl, d, _, hd, trivial, fun od => ?_⟩
    refine ⟨_, rfl, d, od, rfl, .inl ⟨_, upd_same, ?_⟩⟩
    refine for_it walk_keys (fun i σ H' => H' = upd H d (.frz od (.dK (kvs ps))) ∧ ∃ o, σ = [some (.ref d), some (.int u), some (.int (gcdB u (ps.take i) : Nat)), o]) ⟨rfl, none, ?_⟩ ?_ ?_ ?_
    · show ([some (.ref d), some (.int u), some (.int u), none] : List (Option V)) = _
      rw [List.take_zero, show gcdB u [] = u.natAbs from rfl, Int.natAbs_of_nonneg hu]
    · rintro i σ H' hi ⟨rfl, _⟩
      exact upd_same
    · rintro i x σ H1 H2 hi ⟨rfl, o, rfl⟩ ⟨rfl, kk, v, hk, rfl⟩
      obtain ⟨p, hp, rfl, rfl⟩ := kvs_at hk
      refine ⟨_, rfl, _, rfl, _, rfl, d, _, rfl, DGet.bag (.inr ⟨_, upd_same⟩) (nms_at hp), _, _, rfl, ⟨rfl, some (.str p.1), ?_⟩⟩
      rw [look_at nd hp, gcdB_take hp]
      rfl
    · rintro σ H' ⟨rfl, o, rfl⟩
      rw [show ps.take (kvs ps).length = ps from by unfold kvs; rw [List.length_map, List.take_length]]
      refine ⟨upd_same, _, rfl, ?_⟩
      rw [upd_lock hd]
      exact k
/-- what is asked of plain charges: names, small numbers, one to eight things -/
structure Bg (b : Nat) (ps : Bag) : Prop where
  nd : (nms ps).Nodup
  nm : ∀ z ∈ nms ps, nameB (.str z) = true ∧ z.length ≤ 8
  nb : ∀ p ∈ ps, p.2.natAbs < b
  l1 : 1 ≤ ps.length
  l8 : ps.length ≤ 8
theorem Bg.look {b : Nat} {ps : Bag} (g : Bg b ps) {z : Str} (h : z ∈ nms ps) : (look ps z).natAbs < b := g.nb _ (look_mem h)
theorem kvs_len (ps : Bag) : (kvs ps).length = ps.length := by unfold kvs; rw [List.length_map]
def spArePays : Sp := fun vs H Q _ => ∃ (d : Addr) (ps : Bag), vs = [.ref d] ∧ H d = some (.dK (kvs ps)) ∧ Bg (10 ^ 60) ps ∧ ∀ H', Same H H' → Q (.bl true) H'
abbrev s__are_pays : Stmt := top 27
abbrev N__are_pays : List Str := ["value", "thing"]
abbrev P__are_pays : List Str := ["value"]
theorem sc__are_pays : FnScope N__are_pays P__are_pays (defScope s__are_pays) := ⟨rfl, rfl, rfl, by decide +kernel, rfl, by decide +kernel, by decide +kernel⟩
theorem ok_are_pays {f f1 f2 f3 : Addr} {fd fd1 fd2 fd3 : FuncData} (B : Bl mg) (C : Nm mg) (D_is_whole : Df K mg "is_whole" s_is_whole P_is_whole f1 fd1) (D_is_integer : Df K mg "is_integer" s_is_integer P_is_integer f2 fd2) (D_is_name : Df K mg "is_name" s_is_name P_is_name f3 fd3)
    (D : Df K mg "_are_pays" s__are_pays P__are_pays f fd) : FnOk P w K mg base CX0 3 f fd P__are_pays spArePays := by
  have G_is_integer : FnOk P w K mg base CX0 2 f2 fd2 P_is_integer spIsInteger := ok_is_integer B C D_is_whole D_is_integer
  have G_is_name : FnOk P w K mg base CX0 1 f3 fd3 P_is_name spIsName := ok_is_name B C D_is_name
  refine D.F.ok sc__are_pays (fun vs H Q E h => ?_) (fun cdv A outer s H vs Q E hr h => ?_)
  · obtain ⟨d, ps, rfl, _⟩ := h
    rfl
  · obtain ⟨d, ps, rfl, hd, g, k⟩ := h
    refine ⟨_, (pss_cons (ps_if (PW.pt (pw_or (pt_not (pt_val (pe_callB call_is (by rfl) B.b_isinstance (by decide +kernel) (pa_cons (pv 0) (pa_cons (pe_ty (n := "dict") (by rfl) B.b_dict (by decide +kernel)) pa_nil))))) (pw_or1 (pt_not (pt_chain op_le op_le pe_int (pe_callB call_lenD (by rfl) B.b_len (by decide +kernel) (pa_cons (pv 0) pa_nil)) (pe_gv rfl C.g_MAX_THINGS)))))) (pss_one (ps_ret pe_bl)) pss_nil)
      (pss_one (ps_ret (pe_callB (cr_all rfl) (by rfl) B.b_all (by decide +kernel) (pa_cons (pe_lock (pe_lc (own := [("thing", 1)]) (g := gName 1) (tt := tYes) rfl sc__are_pays.nd (pi_keys (pv 0)) (blkOk_by (own := [("thing", 1)]) (N := N__are_pays) (sc := defScope s__are_pays) (by decide +kernel)) (fun _ _ _ _ _ => (pg_name (i := 1) sc__are_pays.nd rfl (Or.inl rfl))) (fun _ _ _ _ _ => pts_nil) (fun _ _ _ _ _ => (pe_and (pe_call G_is_name (hr.mono (by decide)) (by rfl) D_is_name.g D_is_name.F.kp D_is_name.b .nil pass0 (pa_cons (pv 1) pa_nil)) (pe_one (pe_call G_is_integer (hr.mono (by decide)) (by rfl) D_is_integer.g D_is_integer.F.kp D_is_integer.b .nil pass0 (pa_cons (pe_dget (hu_of hr) (pv 0) (pv 1) (fun _ _ => rfl)) pa_nil))))))) pa_nil))))), ?_⟩
    refine ⟨_, rfl, _, .dct, .dct, rfl, .dct hd, by decide, _, rfl, iteF ?_⟩
    have l1 := g.l1
    have l8 := g.l8
    refine ⟨_, rfl, d, _, rfl, hd, _, _, rfl, rfl, _, rfl, ?_⟩
    rw [show decide (1 ≤ ((kvs ps).length : Int)) = true from decide_eq_true (by rw [kvs_len]; omega)]
    refine iteT ⟨_, _, rfl, rfl, _, rfl, ?_⟩
    rw [show decide (((kvs ps).length : Int) ≤ 8) = true from decide_eq_true (by rw [kvs_len]; omega)]
    refine iteF ?_
    refine ⟨d, _, hd, trivial, fun od => ⟨_, rfl, d, od, rfl, .inl ⟨_, upd_same, fun L hL => ?_⟩⟩⟩
    have hdL := ne_of_none (upd_same (H := H) (a := d) (o := .frz od (.dK (kvs ps)))) hL
    refine lc_it walk_keys (fun i H' => Same (upd H d (.frz od (.dK (kvs ps)))) H' ∧ H' L = some (.lst ((List.replicate i true).map V.bl))) ⟨Same.new hL, upd_same⟩ ?_ ?_ ?_
    · rintro i H' hi ⟨s1, _⟩
      exact s1 _ _ upd_same
    · rintro i x H1 H2 hi ⟨s1, h1⟩ ⟨rfl, kk, v, hk, rfl⟩
      obtain ⟨p, hp, rfl, rfl⟩ := kvs_at hk
      have hm := nms_at hp
      obtain ⟨n1, n2⟩ := g.nm _ hm
      rw [kvs_len] at hi
      refine ⟨rfl, _, rfl, _, .str, rfl, .str _, fun z e => (by injection e with e; rw [← e]; omega), fun H3 s3 => ?_⟩
      have s13 := s1.trans s3
      have hl2 : (look ps p.1).natAbs < 10 ^ 60 := g.look hm
      refine ⟨_, rfl, ?_⟩
      rw [show nameB (kV (Sum.inr p.1)) = true from n1]
      refine iteT ⟨_, rfl, _, rfl, d, _, rfl, DGet.bag (.inr ⟨_, s13 _ _ upd_same⟩) hm, _, .int, rfl, .int _, ?_⟩
      rw [show intB (.int (look ps p.1)) = true from decide_eq_true hl2]
      refine ⟨_, s3 _ _ h1, ?_, fun b o e => ?_, ?_⟩
      · rw [List.length_map, List.length_replicate]
        show i < sizeLine
        rw [sizeLine_eq]
        omega
      · rw [upd_ne (ne_of_none e hL)]
        exact s13 b o e
      · rw [upd_same, List.replicate_succ', List.map_append]
        rfl
    · rintro H1 ⟨s1, h1⟩
      refine ⟨s1 _ _ upd_same, L, _, rfl, SqL.of (by rw [upd_ne hdL.symm]; exact h1), ?_⟩
      have ea : (List.replicate (kvs ps).length true).all id = true := by simp
      rw [ea]
      refine k _ fun b o e => ?_
      by_cases hb : b = d
      · subst hb
        rw [hd] at e
        rw [upd_same, ← e]
      · rw [upd_ne hb]
        exact s1 b o (by rw [upd_ne hb]; exact e)
end
end V0
namespace V0
open PySem PySem.Spec PyProof.Rows L2
def itx (n : Int) : Str := (toString n : String)
theorem ofString_app (a b : String) : Str.ofString (a ++ b) = Str.ofString a ++ Str.ofString b := by
  refine str_ext ?_
  rw [PySem.Str.cps_append, Str.ofString_eq_toList, Str.ofString_eq_toList, Str.ofString_eq_toList, String.toList_append]
  simp
theorem itx_neg {n : Int} (h : n < 0) : Str.empty ++ (Str.ofString "-") ++ itx (n.natAbs : Int) = itx n := by
  unfold itx
  rw [PyProof.Rows.toString_neg h, ofString_app]
  rw [show (n.natAbs : Int) = 0 - n by omega]
  refine str_ext ?_
  rw [PySem.Str.cps_append, PySem.Str.cps_append, PySem.Str.cps_append]
  simp [Str.empty]
theorem abs_nn (i : Int) : (if i < 0 then -i else i) = (i.natAbs : Int) := by split <;> omega
def spIntText : Sp := fun vs H Q _ => ∃ (n : Int), vs = [.int n] ∧ n.natAbs < 10 ^ 64 ∧ ∀ H', Same H H' → Q (.str (itx n)) H'
section
variable {P : Program} {w : World} {K : PySem.W.Frag} {mg : Str → Option Value} {base : Heap}
abbrev s_integer_text : Stmt := top 20
abbrev N_integer_text : List Str := ["number", "chunks", "rest", "digits"]
abbrev P_integer_text : List Str := ["number"]
theorem sc_integer_text : FnScope N_integer_text P_integer_text (defScope s_integer_text) := ⟨rfl, rfl, rfl, by decide +kernel, rfl, by decide +kernel, by decide +kernel⟩
theorem ok_int_text {f : Addr} {fd : FuncData} (B : Bl mg) (C : Nm mg) (D : Df K mg "integer_text" s_integer_text P_integer_text f fd) : FnOk P w K mg base CX0 1 f fd P_integer_text spIntText := by
  refine D.F.ok sc_integer_text (fun vs H Q E h => ?_) (fun cdv A outer s H vs Q E hr h => ?_)
  · obtain ⟨n, rfl, _⟩ := h
    rfl
  · obtain ⟨n, rfl, hn, k⟩ := h
    refine ⟨_, (pss_cons (ps_set (i := 1) sc_integer_text.nd rfl (Or.inl rfl) (pe_lst pa_nil))
      (pss_cons (ps_set (i := 2) sc_integer_text.nd rfl (Or.inl rfl) (pe_callB call_abs (by rfl) B.b_abs (by decide +kernel) (pa_cons (pv 0) pa_nil)))
      (pss_cons (ps_while PassesOwn.never (pt_cmpR op_ge (pv 2) (pe_gv rfl C.g__CHUNK) (nomark _)) (pss_cons ps_never (pss_one ps_never)))
      (pss_cons (ps_expr (pe_bm PySem.F.plainAttrs_list PySem.F.slot_list_append PySem.F.type_list_append mt_append (pv 1) (pa_cons (pe_callTy call_str_int (by rfl) B.b_str (by decide +kernel) (pa_cons (pv 2) pa_nil)) pa_nil)))
      (pss_cons (ps_set (i := 3) sc_integer_text.nd rfl (Or.inl rfl) (pe_join pe_str (pe_revL (pv 1))))
      (pss_one (ps_ret (pe_ifExp (pt_cmpR op_lt (pv 0) pe_int (nomark _)) (pe_joined (.cons pe_str (.cons (pe_fmt (pv 3)) .nil))) (pv 3))))))))), ?_⟩
    refine ⟨Nat.zero_le _, fun l hl => ?_⟩
    refine ⟨_, rfl, _, rfl, ?_⟩
    rw [abs_nn]
    have e1 : (upd H l (.lst [])) l = some (.lst []) := upd_same
    have s1 := Same.new (o := .lst []) hl
    refine while_by (fun σ H' => σ = [some (.int n), some (.ref l), some (.int (n.natAbs : Int)), none] ∧ H' = upd H l (.lst [])) (fun _ _ => 0) ⟨rfl, rfl⟩ ?_ (by rintro σ H Q Q' hq ⟨v, h1, i, j, h2, h3, k, h4, h5⟩; exact ⟨v, h1, i, j, h2, h3, k, h4, hq _ _ h5⟩)
    rintro σ H' ⟨rfl, rfl⟩
    refine ⟨_, rfl, _, _, rfl, rfl, _, rfl, ?_⟩
    rw [show decide (CH ≤ (n.natAbs : Int)) = false from decide_eq_false (by unfold CH; omega)]
    refine iteF ?_
    have hlog : (n.natAbs : Int).natAbs.log2 < 1920 := by
      rw [Int.natAbs_natCast]
      by_cases h0 : n.natAbs = 0
      · rw [h0]; decide
      · exact (Nat.log2_lt h0).mpr (Nat.lt_trans hn (by decide +kernel))
    refine ⟨_, rfl, .inl ⟨rfl, _, SqL.of e1⟩, _, rfl, _, rfl, hlog, l, _, _, rfl, rfl, e1, by show 0 < sizeLine; rw [sizeLine_eq]; decide, ?_⟩
    rw [upd_upd]
    have e2 : (upd H l (.lst [.str (itx (n.natAbs : Int))])) l = some (.lst ([itx (n.natAbs : Int)].map V.str)) := upd_same
    have s2 := Same.new (o := .lst [.str (itx (n.natAbs : Int))]) hl
    refine ⟨⟨_, rfl⟩, _, rfl, l, _, rfl, SqL.of e2, fun p hp => ?_⟩
    have s3 := s2.trans (Same.new (o := .lst [.str (itx (n.natAbs : Int))]) hp)
    have hlen : (itx (n.natAbs : Int)).length ≤ 70 := by
      have e := int_text_length_le10 (a := (n.natAbs : Int)) (k := 64) (by decide) (by rw [Int.natAbs_natCast]; exact hn)
      unfold itx
      rw [PySem.ofString_length]
      omega
    refine ⟨_, p, [itx (n.natAbs : Int)], rfl, rfl, .inl (SqL.of upd_same), ?_, ?_⟩
    · show ([itx (n.natAbs : Int)].map (·.length)).sum + 1 * _ ≤ 16777216
      simp only [List.map_cons, List.map_nil, List.sum_cons, List.sum_nil]
      show (itx (n.natAbs : Int)).length + 0 + 1 * 0 ≤ _
      omega
    · rw [show Txt.join (Str.ofString "") [itx (n.natAbs : Int)] = itx (n.natAbs : Int) from TL.join_eq _ _]
      refine ⟨_, rfl, _, _, rfl, rfl, _, rfl, ite2 (fun e => ?_) (fun e => ?_)⟩
      · have e' := of_decide_eq_true e
        refine ⟨_, rfl, by decide, _, rfl, .inl ⟨_, rfl, by rw [sizeLine_eq]; omega, _, rfl, ?_, ?_⟩⟩
        · rw [PySem.Str.length_append, sizeLine_eq]
          have h1 : (Str.empty ++ (Str.ofString "-")).length = 1 := by decide +kernel
          omega
        · show Q (.str (Str.empty ++ (Str.ofString "-") ++ itx (n.natAbs : Int))) _
          rw [itx_neg e']
          exact k _ s3
      · have e' : ¬ n < 0 := fun z => e (decide_eq_true z)
        refine ⟨_, rfl, ?_⟩
        have : (n.natAbs : Int) = n := by omega
        rw [this] at s3 ⊢
        exact k _ s3
end
end V0
namespace V0
open PySem PySem.Spec PyProof.Rows L2
/-- the fraction n / d in lowest terms -/
def fg (n d : Int) : Int := (Nat.gcd n.natAbs d.natAbs : Nat)
def ftx (a b : Int) : Str := if b = 1 then itx a else itx a ++ Str.ofString "/" ++ itx b
def spFr : Sp := fun vs H Q _ => ∃ (i j : Int), vs = [.int i, .int j] ∧ 0 < j ∧ j.natAbs < 2 ^ 3000 ∧ ∀ p, H p = none → Q (.ref p) (upd H p (.tup [.int (i / fg i j), .int (j / fg i j)]))
def spFrText : Sp := fun vs H Q _ => ∃ (i j : Int), vs = [.int i, .int j] ∧ 0 < j ∧ i.natAbs < 10 ^ 64 ∧ j.natAbs < 10 ^ 64 ∧ ∀ H', Same H H' → Q (.str (ftx (i / fg i j) (j / fg i j))) H'
theorem fg_pos {i j : Int} (h : 0 < j) : 0 < fg i j := by
  have := gcd_pos (i := i) (j := j) (by omega)
  unfold fg
  omega
theorem div_le {i g : Int} (h : 0 < g) : (i / g).natAbs ≤ i.natAbs := by
  have h1 : g.natAbs = g := by omega
  have e := Int.natAbs_ediv_le_natAbs i g
  exact e
theorem empty_app (a : Str) : Str.empty ++ a = a := by
  refine str_ext ?_
  rw [PySem.Str.cps_append]
  simp [Str.empty]
theorem itx_len {n : Int} (h : n.natAbs < 10 ^ 64) : (itx n).length ≤ 70 := by
  have e := int_text_length_le10 (a := n) (k := 64) (by decide) h
  unfold itx
  rw [PySem.ofString_length]
  omega
section
variable {P : Program} {w : World} {K : PySem.W.Frag} {mg : Str → Option Value} {base : Heap}
theorem ok_fr {f : Addr} {fd : FuncData} (C : Nm mg) (D : Df K mg "reduced" s_reduced P_reduced f fd) : FnOk P w K mg base CX0 1 f fd P_reduced spFr := by
  refine (ok_reduced C D).imp fun vs H Q E h => ?_
  obtain ⟨i, j, rfl, hj, hb, k⟩ := h
  refine ⟨i, j, rfl, by omega, hb, fun p hp => ?_⟩
  have e : redG i j = fg i j := if_neg (by omega)
  have g0 := fg_pos (i := i) hj
  rw [e, Int.fdiv_eq_ediv_of_nonneg _ (by omega), Int.fdiv_eq_ediv_of_nonneg _ (by omega)]
  exact k p hp
abbrev s_fraction_text : Stmt := top 21
abbrev N_fraction_text : List Str := ["numerator", "denominator", "over", "under"]
abbrev P_fraction_text : List Str := ["numerator", "denominator"]
theorem sc_fraction_text : FnScope N_fraction_text P_fraction_text (defScope s_fraction_text) := ⟨rfl, rfl, rfl, by decide +kernel, rfl, by decide +kernel, by decide +kernel⟩
theorem ok_fr_text {f f1 f2 : Addr} {fd fd1 fd2 : FuncData} (B : Bl mg) (C : Nm mg) (D_reduced : Df K mg "reduced" s_reduced P_reduced f1 fd1) (D_integer_text : Df K mg "integer_text" s_integer_text P_integer_text f2 fd2)
    (D : Df K mg "fraction_text" s_fraction_text P_fraction_text f fd) : FnOk P w K mg base CX0 2 f fd P_fraction_text spFrText := by
  have G_reduced : FnOk P w K mg base CX0 1 f1 fd1 P_reduced spFr := ok_fr C D_reduced
  have G_integer_text : FnOk P w K mg base CX0 1 f2 fd2 P_integer_text spIntText := ok_int_text B C D_integer_text
  refine D.F.ok sc_fraction_text (fun vs H Q E h => ?_) (fun cdv A outer s H vs Q E hr h => ?_)
  · obtain ⟨i, j, rfl, _⟩ := h
    rfl
  · obtain ⟨i, j, rfl, hj, hi, hb, k⟩ := h
    refine ⟨_, (pss_cons (ps_asg (pe_call G_reduced (hr.mono (by decide)) (by rfl) D_reduced.g D_reduced.F.kp D_reduced.b .nil pass0 (pa_cons (pv 0) (pa_cons (pv 1) pa_nil))) (pg_tup rfl (pgs_cons (pg_name (i := 2) sc_fraction_text.nd rfl (Or.inl rfl)) (pgs_cons (pg_name (i := 3) sc_fraction_text.nd rfl (Or.inl rfl)) pgs_nil))))
      (pss_cons (ps_if (pt_cmpR op_eq (pv 3) pe_int (nomark _)) (pss_one (ps_ret (pe_call G_integer_text (hr.mono (by decide)) (by rfl) D_integer_text.g D_integer_text.F.kp D_integer_text.b .nil pass0 (pa_cons (pv 2) pa_nil)))) pss_nil)
      (pss_one (ps_ret (pe_joined (.cons (pe_fmt (pe_call G_integer_text (hr.mono (by decide)) (by rfl) D_integer_text.g D_integer_text.F.kp D_integer_text.b .nil pass0 (pa_cons (pv 2) pa_nil))) (.cons pe_str (.cons (pe_fmt (pe_call G_integer_text (hr.mono (by decide)) (by rfl) D_integer_text.g D_integer_text.F.kp D_integer_text.b .nil pass0 (pa_cons (pv 3) pa_nil))) .nil)))))))), ?_⟩
    have g0 := fg_pos (i := i) hj
    have a1 : (i / fg i j).natAbs < 10 ^ 64 := Nat.lt_of_le_of_lt (div_le g0) hi
    have a2 : (j / fg i j).natAbs < 10 ^ 64 := Nat.lt_of_le_of_lt (div_le g0) hb
    refine ⟨_, rfl, _, rfl, i, j, rfl, hj, Nat.lt_trans hb (by decide +kernel), fun p hp => ?_⟩
    have s1 := Same.new (o := .tup [.int (i / fg i j), .int (j / fg i j)]) hp
    refine ⟨p, _, rfl, SqT.of upd_same, rfl, ?_⟩
    refine ⟨_, _, rfl, _, _, rfl, rfl, _, rfl, rfl, _, rfl, ite2 (fun e => ?_) (fun e => ?_)⟩
    · have e' : j / fg i j = 1 := by have := of_decide_eq_true e; injection this
      refine ⟨_, rfl, _, rfl, a1, fun H' s2 => ?_⟩
      have k' := k H' (s1.trans s2)
      rw [ftx, if_pos e'] at k'
      exact k'
    · have e' : ¬ j / fg i j = 1 := fun z => e (decide_eq_true (by rw [z]))
      have l1 := itx_len a1
      have l2 := itx_len a2
      refine ⟨_, rfl, _, rfl, a1, fun H1 s2 => .inl ⟨_, rfl, by rw [sizeLine_eq]; omega, _, rfl, ?_, _, rfl, ?_, _, rfl, _, rfl, a2, fun H2 s3 => .inl ⟨_, rfl, by rw [sizeLine_eq]; omega, _, rfl, ?_, ?_⟩⟩⟩
      · rw [empty_app, sizeLine_eq]; omega
      · rw [empty_app, PySem.Str.length_append, sizeLine_eq]
        have h1 : (Str.ofString "/").length = 1 := by decide +kernel
        omega
      · rw [empty_app, PySem.Str.length_append, PySem.Str.length_append, sizeLine_eq]
        have h1 : (Str.ofString "/").length = 1 := by decide +kernel
        omega
      · have k' := k H2 ((s1.trans s2).trans s3)
        rw [ftx, if_neg e'] at k'
        rw [empty_app]
        exact k'
/-! ### groups -/
/-- a tuple of texts at t -/
def spIsGroup (K : PySem.W.Frag) : Sp := fun vs H Q _ => ∃ (t g : Addr) (zs ys : List Str), vs = [.ref t, .ref g] ∧ H t = some (.tup (zs.map .str)) ∧ H g = some (.tup (ys.map .str)) ∧ (∀ y ∈ ys, y ∈ zs) ∧ ys.Pairwise (fun a b => a.cps.toList < b.cps.toList) ∧ ys.length ≤ 1000 ∧ ∀ H', Same H H' → Q (.bl true) H'
end
end V0
namespace V0
open PySem PySem.Spec PyProof.Rows L2
theorem walk_zipT {K : PySem.W.Frag} {a b : Addr} {xs ys : List V} {n : Nat} (hn : n = min xs.length ys.length) : Walk (RZ.ItzT K a b) n (fun H => SqT K H a xs ∧ SqT K H b ys) (YPair (fun i => xs[i]?) (fun i => ys[i]?)) := by
  refine ⟨fun i H hi q => ⟨xs, ys, xs[i]'(by omega), ys[i]'(by omega), q.1, q.2, List.getElem?_eq_getElem _, List.getElem?_eq_getElem _⟩, fun H q => ⟨xs, ys, q.1, q.2, by omega⟩, fun i H x H' _ q y => ?_⟩
  obtain ⟨T, u, v, e1, e2, e3, e4, e5⟩ := y
  exact ⟨T, u, v, e1, e2, e3, e4 xs q.1, e5 ys q.2⟩
theorem SqT.same' {K : PySem.W.Frag} {H H' : Hp} {a : Addr} {xs : List V} (h : SqT K H a xs) (e : Same H H') : SqT K H' a xs := SqT.same e h
theorem cut1 (xs : List V) : cutV xs (some 1) none = xs.drop 1 := by
  unfold cutV
  rw [show (1 : Int) = ((1 : Nat) : Int) from rfl, HT.sIx_nat, HT.sIx_none]
  rcases Nat.lt_or_ge xs.length 1 with h | h
  · have : xs = [] := List.length_eq_zero_iff.mp (by omega)
    rw [this]
    rfl
  · rw [Nat.min_eq_left h, List.take_of_length_le (by rw [List.length_drop]; omega)]
theorem inV_str (y : Str) : ∀ zs : List Str, inV (.str y) (zs.map .str) = decide (y ∈ zs)
  | [] => rfl
  | z :: zs => by
    have ih := inV_str y zs
    unfold inV at ih ⊢
    rw [List.map_cons, List.any_cons, ih]
    have e : eqV (.str z) (.str y) = decide (z = y) := by
      first | rfl | (unfold eqV; rfl) | (show decide (V.str z = V.str y) = _; exact decide_eq_decide.mpr ⟨fun q => by injection q, fun q => by rw [q]⟩)
    rw [e]
    by_cases h : z = y
    · subst h; simp
    · simp [h, Ne.symm h]
theorem flat_map (zs : List Str) : (zs.map V.str).all flatV = true := by
  rw [List.all_map, List.all_eq_true]
  intro z _
  rfl
section
variable {P : Program} {w : World} {K : PySem.W.Frag} {mg : Str → Option Value} {base : Heap}
abbrev s_is_group_of : Stmt := top 23
abbrev N_is_group_of : List Str := ["things", "value", "thing", "one", "other"]
abbrev P_is_group_of : List Str := ["things", "value"]
theorem sc_is_group_of : FnScope N_is_group_of P_is_group_of (defScope s_is_group_of) := ⟨rfl, rfl, rfl, by decide +kernel, rfl, by decide +kernel, by decide +kernel⟩
theorem ok_is_group {f : Addr} {fd : FuncData} (B : Bl mg) (M : Bm mg) (D : Df K mg "is_group_of" s_is_group_of P_is_group_of f fd) : FnOk P w K mg base CX0 1 f fd P_is_group_of (spIsGroup K) := by
  refine D.F.ok sc_is_group_of (fun vs H Q E h => ?_) (fun cdv A outer s H vs Q E hr h => ?_)
  · obtain ⟨t, g, zs, ys, rfl, _⟩ := h
    rfl
  · obtain ⟨t, g, zs, ys, rfl, ht, hg, hin, hpw, hlen, k⟩ := h
    refine ⟨_, (pss_cons (ps_if (pt_not (pt_val (pe_callB call_is (by rfl) B.b_isinstance (by decide +kernel) (pa_cons (pv 1) (pa_cons (pe_ty (n := "tuple") (by rfl) B.b_tuple (by decide +kernel)) pa_nil))))) (pss_one (ps_ret pe_bl)) pss_nil)
      (pss_cons (ps_if (pt_not (pt_val (pe_callB (cr_all rfl) (by rfl) B.b_all (by decide +kernel) (pa_cons (pe_lc (own := [("thing", 2)]) (g := gName 2) (tt := tYes) rfl sc_is_group_of.nd (pi_tup (pv 1)) (blkOk_by (own := [("thing", 2)]) (N := N_is_group_of) (sc := defScope s_is_group_of) (by decide +kernel)) (fun _ _ _ _ _ => (pg_name (i := 2) sc_is_group_of.nd rfl (Or.inl rfl))) (fun _ _ _ _ _ => pts_nil) (fun _ _ _ _ _ => (pe_and (pe_callB call_is (by rfl) B.b_isinstance (by decide +kernel) (pa_cons (pv 2) (pa_cons (pe_ty (n := "str") (by rfl) B.b_str (by decide +kernel)) pa_nil))) (pe_one (show PE _ _ (tOp (rIn K false) (tVar 2) (tVar 0)) from by exact (pe_cmpR op_in_seq (pv 2) (pv 0) (by rfl))))))) pa_nil)))) (pss_one (ps_ret pe_bl)) pss_nil)
      (pss_one (ps_ret (pe_callB (cr_all rfl) (by rfl) B.b_all (by decide +kernel) (pa_cons (pe_lc (own := [("one", 3), ("other", 4)]) (g := gTup K 2 (gCons (gName 3) (gCons (gName 4) (gNil)))) (tt := tYes) rfl sc_is_group_of.nd (RZ.pi_zipA (by rfl) M.b_zip (pa_cons (pv 1) (pa_cons (pe_slice sl_tupA (pv 1) (po_some pe_int) po_none) pa_nil))) (blkOk_by (own := [("one", 3), ("other", 4)]) (N := N_is_group_of) (sc := defScope s_is_group_of) (by decide +kernel)) (fun _ _ _ _ _ => (pg_tup rfl (pgs_cons (pg_name (i := 3) sc_is_group_of.nd rfl (Or.inl rfl)) (pgs_cons (pg_name (i := 4) sc_is_group_of.nd rfl (Or.inl rfl)) pgs_nil)))) (fun _ _ _ _ _ => pts_nil) (fun _ _ _ _ _ => (pe_cmpR op_lt_str (pv 3) (pv 4) (nomark _)))) pa_nil)))))), ?_⟩
    have hz : (1000 : Nat) ≤ sizeLine := by decide
    refine ⟨_, rfl, _, .tup, .tup, rfl, .tup hg, by decide, _, rfl, iteF ?_⟩
    refine ⟨_, rfl, g, rfl, ⟨_, SqT.of hg⟩, fun L hL => ?_⟩
    refine lc_it (walk_tup (xs := ys.map V.str)) (fun i H' => Same H H' ∧ H' L = some (.lst ((List.replicate i true).map V.bl))) ⟨Same.new hL, upd_same⟩ ?_ ?_ ?_
    · rintro i H' hi ⟨s1, _⟩
      exact SqT.of (s1 _ _ hg)
    · rintro i x H1 H2 hi ⟨s1, h1⟩ ⟨rfl, hx⟩
      rw [List.length_map] at hi
      rw [List.getElem?_map] at hx
      have hy : ys[i]? = some ys[i] := List.getElem?_eq_getElem hi
      rw [hy] at hx
      injection hx with hx
      subst hx
      refine ⟨rfl, _, rfl, _, .str, .str, rfl, .str _, by decide, _, rfl, iteT ⟨_, rfl, _, rfl, t, _, rfl, .inr (SqT.of (s1 _ _ ht)), rfl, flat_map zs, _, h1, ?_, ?_, ?_⟩⟩
      · rw [List.length_map, List.length_replicate]
        omega
      · exact fun b o e => by rw [upd_ne (ne_of_none e hL)]; exact s1 b o e
      · rw [upd_same, List.replicate_succ', List.map_append, inV_str, decide_eq_true (hin _ (List.getElem_mem hi))]
        rfl
    · rintro H1 ⟨s1, h1⟩
      have hg1 := s1 _ _ hg
      refine ⟨L, _, rfl, SqL.of h1, ?_⟩
      rw [List.length_map, show (List.replicate ys.length true).all id = true by simp]
      refine ⟨true, rfl, iteF ?_⟩
      -- the second half
      refine ⟨_, rfl, _, rfl, _, rfl, g, _, rfl, SqT.of hg1, fun e => ?_, fun _ b hb => ?_⟩
      · have e0 : ys = [] := by
          have e1 := e.1
          rw [show (1 : Int) = ((1 : Nat) : Int) from rfl, HT.sIx_nat, List.length_map] at e1
          exact List.length_eq_zero_iff.mp (by omega)
        subst e0
        refine ⟨g, g, [], [], rfl, .inr ⟨SqT.of hg1, SqT.of hg1, fun D hD => ?_⟩⟩
        refine lc_it (walk_zipT (xs := []) (ys := []) (n := 0) rfl) (fun i H' => Same H H' ∧ H' D = some (.lst [])) ⟨s1.trans (Same.new hD), upd_same⟩ (fun i H' _ ⟨s2, _⟩ => ⟨SqT.of (s2 _ _ hg), SqT.of (s2 _ _ hg)⟩) (fun i x H2 H3 hi _ _ => absurd hi (by omega)) ?_
        rintro H2 ⟨s2, h2⟩
        exact ⟨D, [], rfl, SqL.of h2, k H2 s2⟩
      · rw [cut1] at *
        have s2 := s1.trans (Same.new (o := .tup ((ys.map V.str).drop 1)) hb)
        have eb : (upd H1 b (.tup ((ys.map V.str).drop 1))) b = some (.tup ((ys.map V.str).drop 1)) := upd_same
        generalize upd H1 b (.tup ((ys.map V.str).drop 1)) = H2 at s2 eb
        refine ⟨g, b, _, _, rfl, .inr ⟨SqT.of (s2 _ _ hg), SqT.of eb, fun D hD => ?_⟩⟩
        refine lc_it (walk_zipT (xs := ys.map V.str) (ys := (ys.map V.str).drop 1) (n := ys.length - 1) (by rw [List.length_drop, List.length_map]; omega)) (fun i H' => Same H2 H' ∧ H' D = some (.lst ((List.replicate i true).map V.bl))) ⟨Same.new hD, upd_same⟩ (fun i H' _ ⟨s3, _⟩ => ⟨SqT.of (s3 _ _ (s2 _ _ hg)), SqT.of (s3 _ _ eb)⟩) ?_ ?_
        · rintro i x H3 H4 hi ⟨s3, h3⟩ ⟨T, u, v, rfl, hT, rfl, hu, hv⟩
          have i1 : i < ys.length := by omega
          have i2 : i + 1 < ys.length := by omega
          have hu' : u = .str ys[i] := by
            dsimp only at hu
            rw [List.getElem?_map, List.getElem?_eq_getElem i1] at hu
            injection hu with hu
            exact hu.symm
          have hv' : v = .str ys[i + 1] := by
            dsimp only at hv
            rw [List.getElem?_drop, List.getElem?_map, Nat.add_comm 1 i, List.getElem?_eq_getElem i2] at hv
            injection hv with hv
            exact hv.symm
          subst hu' hv'
          have hDT := ne_of_none h3 hT
          refine ⟨T, _, rfl, SqT.of upd_same, rfl, _, _, rfl, _, _, rfl, rfl, rfl, _, rfl, _, rfl, _, _, rfl, rfl, _, by rw [upd_ne hDT]; exact h3, ?_, ?_, ?_⟩
          · rw [List.length_map, List.length_replicate]
            omega
          · intro c o e
            rw [upd_ne (ne_of_none e hD), upd_ne (ne_of_none (s3 _ _ e) hT)]
            exact s3 c o e
          · rw [upd_same, List.replicate_succ', List.map_append, decide_eq_true (List.pairwise_iff_getElem.mp hpw i (i + 1) i1 i2 (Nat.lt_succ_self i))]
            rfl
        · rintro H3 ⟨s3, h3⟩
          refine ⟨D, _, rfl, SqL.of h3, ?_⟩
          rw [show (List.replicate (ys.length - 1) true).all id = true by simp]
          exact k H3 (s2.trans s3)
end
end V0
namespace V0
open PySem PySem.Spec PyProof.Rows L2
/-! ### charges as objects -/
structure Md (K : PySem.W.Frag) (qual name : Str) (C : Addr) (st : Stmt) (ps : List Str) (f : Addr) (fd : FuncData) : Prop where
  F : Fun K name qual st f fd
  b : Binds K fd ps []
  m : Meth K C name f
structure Pr (K : PySem.W.Frag) (qual name : Str) (C : Addr) (st : Stmt) (ps : List Str) (p f : Addr) (fd : FuncData) : Prop where
  F : Fun K name qual st f fd
  b : Binds K fd ps []
  pr : PropOf K C name p f
/-- the attributes of charges are told by no class -/
structure ChN (K : PySem.W.Frag) (C : Addr) : Prop where
  n1 : NoAttr K C "_things"
  n2 : NoAttr K C "_unit"
  n3 : NoAttr K C "_pays"
def chF (t d : Addr) (u : Int) : List (Str × V) := [("_things", .ref t), ("_unit", .int u), ("_pays", .ref d)]
def tupS (zs : List Str) : HO := .tup (zs.map .str)
/-- the charge at a pays ps, in units u -/
def ChAt (C : Addr) (H : Hp) (a : Addr) (ps : Bag) (u : Int) : Prop := ∃ dx t d, H a = some (.ins C dx (chF t d u)) ∧ H t = some (tupS (nms ps)) ∧ H d = some (.dK (kvs ps))
theorem ChAt.same {C a : Addr} {H H' : Hp} {ps : Bag} {u : Int} (h : ChAt C H a ps u) (s : Same H H') : ChAt C H' a ps u := by
  obtain ⟨dx, t, d, h1, h2, h3⟩ := h
  exact ⟨dx, t, d, s _ _ h1, s _ _ h2, s _ _ h3⟩
/-- what a group pays, in units -/
def sumB (ps : Bag) (zs : List Str) : Int := (zs.map (look ps)).sum
def spSum (C : Addr) : Sp := fun vs H Q _ => ∃ (a g : Addr) (ps : Bag) (u : Int) (zs : List Str), vs = [.ref a, .ref g] ∧ ChAt C H a ps u ∧ 0 < u ∧ u.natAbs < 2 ^ 3000 ∧ H g = some (tupS zs) ∧ (∀ z ∈ zs, z ∈ nms ps) ∧ zs.length ≤ 1000 ∧
  ∀ (p : Addr) (H' : Hp), Same H H' → H p = none → H' p = some (.tup [.int (sumB ps zs / fg (sumB ps zs) u), .int (u / fg (sumB ps zs) u)]) → Q (.ref p) H'
theorem none_up {H H' : Hp} {b : Addr} (s : Same H H') (h : H' b = none) : H b = none := by
  cases e : H b with
  | none => rfl
  | some o => rw [s b o e] at h; cases h
theorem take_map_succ {α β : Type} (f : α → β) {l : List α} {i : Nat} {x : α} (h : l[i]? = some x) : (l.take (i + 1)).map f = (l.take i).map f ++ [f x] := by
  rw [take_one h, List.map_append]
  rfl
section
variable {P : Program} {w : World} {K : PySem.W.Frag} {mg : Str → Option Value} {base : Heap} {C : Addr}
abbrev s_Chargesum : Stmt := inClass (top 25) 20
abbrev N_Chargesum : List Str := ["self", "group", "thing"]
abbrev P_Chargesum : List Str := ["self", "group"]
theorem sc_Chargesum : FnScope N_Chargesum P_Chargesum (defScope s_Chargesum) := ⟨rfl, rfl, rfl, by decide +kernel, rfl, by decide +kernel, by decide +kernel⟩
theorem ok_sum {f f1 : Addr} {fd fd1 : FuncData} (B : Bl mg) (CN : Nm mg) (KCharge : Kls K mg "Charge" C) (N : ChN K C) (D_reduced : Df K mg "reduced" s_reduced P_reduced f1 fd1) (Y : Md K "Charge._sum" "_sum" C s_Chargesum P_Chargesum f fd) :
    FnOk P w K mg base CX0 2 f fd P_Chargesum (spSum C) := by
  have G_reduced : FnOk P w K mg base CX0 1 f1 fd1 P_reduced spFr := ok_fr CN D_reduced
  refine Y.F.ok sc_Chargesum (fun vs H Q E h => ?_) (fun cdv A outer s H vs Q E hr h => ?_)
  · obtain ⟨a, g, ps, u, zs, rfl, _⟩ := h
    rfl
  · obtain ⟨a, g, ps, u, zs, rfl, ⟨dx, t, d, h1, h2, h3⟩, hu, hub, hg, hin, hlen, k⟩ := h
    refine ⟨_, (pss_one (ps_ret (pe_call G_reduced (hr.mono (by decide)) (by rfl) D_reduced.g D_reduced.F.kp D_reduced.b .nil pass0 (pa_cons (pe_callB (cr_sum rfl) (by rfl) B.b_sum (by decide +kernel) (pa_cons (pe_lc (own := [("thing", 2)]) (g := gName 2) (tt := tYes) rfl sc_Chargesum.nd (pi_tup (pv 1)) (blkOk_by (own := [("thing", 2)]) (N := N_Chargesum) (sc := defScope s_Chargesum) (by decide +kernel)) (fun _ _ _ _ _ => (pg_name (i := 2) sc_Chargesum.nd rfl (Or.inl rfl))) (fun _ _ _ _ _ => pts_nil) (fun _ _ _ _ _ => (show PE _ _ (tDGet (tFld K (tVar 0) "_pays") (tVar 2)) from by exact (pe_dget (hu_of hr) (pe_fld (pv 0) rfl) (pv 2) (fun _ _ => rfl))))) pa_nil)) (pa_cons (pe_fld (pv 0) rfl) pa_nil))))), ?_⟩
    have hz : (1000 : Nat) ≤ sizeLine := by decide
    refine ⟨_, rfl, g, rfl, ⟨_, SqT.of hg⟩, fun L hL => ?_⟩
    refine lc_it (walk_tup (xs := zs.map V.str)) (fun i H' => Same H H' ∧ H' L = some (.lst (((zs.take i).map (look ps)).map V.int))) ⟨Same.new hL, upd_same⟩ (fun i H' _ ⟨s1, _⟩ => SqT.of (s1 _ _ hg)) ?_ ?_
    · rintro i x H1 H2 hi ⟨s1, e1⟩ ⟨rfl, hx⟩
      rw [List.length_map] at hi
      have hy : zs[i]? = some zs[i] := List.getElem?_eq_getElem hi
      rw [List.getElem?_map, hy] at hx
      injection hx with hx
      subst hx
      refine ⟨rfl, _, rfl, a, C, dx, _, _, rfl, s1 _ _ h1, KCharge.cl, N.n3, rfl, _, rfl, d, _, rfl, DGet.bag (.inl (s1 _ _ h3)) (hin _ (List.getElem_mem hi)), _, e1, ?_, ?_, ?_⟩
      · rw [List.length_map, List.length_map, List.length_take]
        omega
      · exact fun b o e => by rw [upd_ne (ne_of_none e hL)]; exact s1 b o e
      · rw [upd_same, take_map_succ _ hy, List.map_append]
        rfl
    · rintro H1 ⟨s1, e1⟩
      rw [List.length_map, List.take_length] at e1
      refine ⟨L, _, rfl, SqL.of e1, _, rfl, a, C, dx, _, _, rfl, s1 _ _ h1, KCharge.cl, N.n2, rfl, _, _, rfl, hu, hub, fun p hp => ?_⟩
      exact k p _ (s1.trans (Same.new hp)) (none_up s1 hp) upd_same
end
end V0

namespace V0
open PySem PySem.Spec PyProof.Rows L2
theorem md_own {P : Program} {w : World} {K : PySem.W.Frag} {mg : Str → Option Value} {base : Heap} {CX : CXT} {k : Nat} {C f : Addr} {fd : FuncData} {qual name : Str} {st : Stmt} {ps : List Str} {sp : Sp} (Y : Md K qual name C st ps f fd) (G : FnOk P w K mg base CX k f fd ps sp) : OwnM P w K mg base CX k C name sp :=
  ⟨f, fd, ps, Y.m.at_, Y.m.fn, Y.b, G⟩
/-- a dict comprehension over a walk -/
theorem dc_it {J : It} {n : Nat} {G : Hp → Prop} {Y : Nat → Hp → V → Hp → Prop} (wk : Walk J n G Y) {g : TG} {tt : TT} {tk tv : TE} {vs : List Nat} {σ : L2.St} {H1 : Hp} {D : Addr} {Qd : Hp → Prop} (Pv : Nat → Hp → Prop) (h0 : Pv 0 (upd H1 D (.dK []))) (hG : ∀ i H, i ≤ n → Pv i H → G H)
    (hs : ∀ i x H H', i < n → Pv i H → Y i H x H' → g x (wipe σ vs) H' fun σ2 H2 => wipe σ2 vs = wipe σ vs ∧ tt σ2 H2 fun b H3 =>
      if b = true then tk σ2 H3 fun y H4 => tv σ2 H4 fun z H5 => ∃ kvs k, y = kV k ∧ H5 D = some (.dK kvs) ∧ kvs.length < sizeLine ∧ Pv (i + 1) (upd H5 D (.dK (putK kvs k z))) else Pv (i + 1) H3) (hd : ∀ H, Pv n H → Qd H) :
    ∃ W : Nat → Nat → Hp → Prop, (∃ m, W 0 m (upd H1 D (.dK []))) ∧ ∀ i m H, W i m H →
      (J.stop i H ∧ Qd H) ∨ (J.go i H ∧ ∃ Nx : Hp → Prop, (∀ H', Nx H' → ∃ m', m' < m ∧ W (i + 1) m' H') ∧ ∀ x H', J.yld i H x H' → g x (wipe σ vs) H' fun σ2 H2 => wipe σ2 vs = wipe σ vs ∧ tt σ2 H2 fun b H3 =>
        if b = true then tk σ2 H3 fun y H4 => tv σ2 H4 fun z H5 => ∃ kvs k, y = kV k ∧ H5 D = some (.dK kvs) ∧ kvs.length < sizeLine ∧ Nx (upd H5 D (.dK (putK kvs k z))) else Nx H3) := by
  refine ⟨fun i m H => i ≤ n ∧ m = n - i ∧ Pv i H, ⟨n, Nat.zero_le _, rfl, h0⟩, fun i m H ⟨hi, hm, p⟩ => ?_⟩
  rcases Nat.lt_or_ge i n with hlt | hge
  · exact .inr ⟨wk.goes i H hlt (hG i H hi p), Pv (i + 1), fun H' p' => ⟨n - (i + 1), by omega, hlt, rfl, p'⟩, fun x H' y => hs i x H H' hlt p (wk.yields i H x H' hlt (hG i H hi p) y)⟩
  · obtain rfl : i = n := by omega
    exact .inl ⟨wk.stops H (hG i H hi p), hd H p⟩
theorem putK_new {ps : Bag} {z : Str} {i : Int} (h : z ∉ nms ps) : putK (kvs ps) (.inr z) (.int i) = kvs (ps ++ [(z, i)]) := by
  unfold putK
  have e : ((kvs ps).any fun kv => decide (kv.1 = Sum.inr z)) = false := by
    refine Bool.eq_false_iff.mpr fun q => h ?_
    obtain ⟨kv, hk, e⟩ := List.any_eq_true.mp q
    obtain ⟨p, hp, rfl⟩ := List.mem_map.mp hk
    have e' := of_decide_eq_true e
    injection e' with e'
    exact List.mem_map.mpr ⟨p, hp, e'⟩
  rw [e, if_neg Bool.false_ne_true]
  unfold kvs
  rw [List.map_append]
  rfl
/-- the dict of some names, each with f of it -/
def bagOf (f : Str → Int) (zs : List Str) : Bag := zs.map fun z => (z, f z)
theorem bagOf_nms (f : Str → Int) (zs : List Str) : nms (bagOf f zs) = zs := by
  unfold nms bagOf
  rw [List.map_map]
  exact List.map_id zs
theorem bagOf_succ (f : Str → Int) {zs : List Str} {i : Nat} {z : Str} (nd : zs.Nodup) (h : zs[i]? = some z) : putK (kvs (bagOf f (zs.take i))) (.inr z) (.int (f z)) = kvs (bagOf f (zs.take (i + 1))) := by
  rw [putK_new]
  · rw [take_one h]
    unfold bagOf
    rw [List.map_append]
    rfl
  · rw [bagOf_nms]
    intro hm
    rw [← List.take_append_drop i zs] at nd
    have hd : z ∈ zs.drop i := by
      have : (zs.drop i)[0]? = some z := by rw [List.getElem?_drop]; simpa using h
      exact List.mem_of_getElem? this
    exact (List.nodup_append.mp nd).2.2 z hm z hd rfl
theorem bagOf_len (f : Str → Int) (zs : List Str) : (kvs (bagOf f zs)).length = zs.length := by
  unfold kvs bagOf
  rw [List.length_map, List.length_map]
/-! ### small promises -/
def spThings (C : Addr) : Sp := fun vs H Q _ => ∃ (a dx t d : Addr) (u : Int), vs = [.ref a] ∧ H a = some (.ins C dx (chF t d u)) ∧ Q (.ref t) H
def spUnit (C : Addr) : Sp := fun vs H Q _ => ∃ (a dx t d : Addr) (u : Int), vs = [.ref a] ∧ H a = some (.ins C dx (chF t d u)) ∧ Q (.int u) H
def spPays (C : Addr) : Sp := fun vs H Q _ => ∃ (a : Addr) (ps : Bag) (u : Int), vs = [.ref a] ∧ ChAt C H a ps u ∧ (nms ps).Nodup ∧ ps.length ≤ 1000 ∧ ∀ p, H p = none → Q (.ref p) (upd H p (.dK (kvs ps)))
def spTotal (C : Addr) : Sp := fun vs H Q _ => ∃ (a : Addr) (ps : Bag) (u : Int), vs = [.ref a] ∧ ChAt C H a ps u ∧ 0 < u ∧ u.natAbs < 2 ^ 3000 ∧ ps.length ≤ 1000 ∧
  ∀ (p : Addr) (H' : Hp), Same H H' → H p = none → H' p = some (.tup [.int (sumB ps (nms ps) / fg (sumB ps (nms ps)) u), .int (u / fg (sumB ps (nms ps)) u)]) → Q (.ref p) H'
/-- a group of the charge -/
structure Gp (zs ys : List Str) : Prop where
  sub : ∀ y ∈ ys, y ∈ zs
  asc : ys.Pairwise (fun a b => a.cps.toList < b.cps.toList)
  len : ys.length ≤ 1000
def spCheck (C : Addr) : Sp := fun vs H Q _ => ∃ (a g : Addr) (ps : Bag) (u : Int) (ys : List Str), vs = [.ref a, .ref g] ∧ ChAt C H a ps u ∧ H g = some (tupS ys) ∧ Gp (nms ps) ys ∧ ∀ H', Same H H' → Q .non H'
def inN (ps : Bag) : V → Bool
  | .str z => decide (z ∈ nms ps)
  | _ => false
def spCont (C : Addr) : Sp := fun vs H Q _ => ∃ (a : Addr) (ps : Bag) (u : Int) (x : V) (t : Kd), vs = [.ref a, x] ∧ ChAt C H a ps u ∧ Kn H x t ∧ Q (.bl (inN ps x)) H
def spLen (C : Addr) : Sp := fun vs H Q _ => ∃ (a : Addr) (ps : Bag) (u : Int), vs = [.ref a] ∧ ChAt C H a ps u ∧ ps.length ≤ 1000 ∧ Q (.int (ps.length : Nat)) H
def spItem (C : Addr) : Sp := fun vs H Q _ => ∃ (a : Addr) (ps : Bag) (u : Int) (z : Str), vs = [.ref a, .str z] ∧ ChAt C H a ps u ∧ 0 < u ∧ u.natAbs < 2 ^ 3000 ∧ z ∈ nms ps ∧
  ∀ p, H p = none → Q (.ref p) (upd H p (.tup [.int (look ps z / fg (look ps z) u), .int (u / fg (look ps z) u)]))
theorem nms_len (ps : Bag) : (nms ps).length = ps.length := by unfold nms; rw [List.length_map]
section
variable {P : Program} {w : World} {K : PySem.W.Frag} {mg : Str → Option Value} {base : Heap} {C : Addr}
abbrev s_Charge_things : Stmt := inClass (top 25) 1
abbrev N_Charge_things : List Str := ["self"]
abbrev P_Charge_things : List Str := ["self"]
theorem sc_Charge_things : FnScope N_Charge_things P_Charge_things (defScope s_Charge_things) := ⟨rfl, rfl, rfl, by decide +kernel, rfl, by decide +kernel, by decide +kernel⟩
theorem ok_things {p f : Addr} {fd : FuncData} (KCharge : Kls K mg "Charge" C) (N : ChN K C) (Y : Pr K "Charge.things" "things" C s_Charge_things P_Charge_things p f fd) : FnOk P w K mg base CX0 1 f fd P_Charge_things (spThings C) := by
  refine Y.F.ok sc_Charge_things (fun vs H Q E h => ?_) (fun cdv A outer s H vs Q E hr h => ?_)
  · obtain ⟨a, dx, t, d, u, rfl, _⟩ := h
    rfl
  · obtain ⟨a, dx, t, d, u, rfl, ha, k⟩ := h
    exact ⟨_, (pss_one (ps_ret (pe_fld (pv 0) rfl))), _, rfl, a, C, dx, _, _, rfl, ha, KCharge.cl, N.n1, rfl, k⟩
abbrev s_Charge_unit : Stmt := inClass (top 25) 2
abbrev N_Charge_unit : List Str := ["self"]
abbrev P_Charge_unit : List Str := ["self"]
theorem sc_Charge_unit : FnScope N_Charge_unit P_Charge_unit (defScope s_Charge_unit) := ⟨rfl, rfl, rfl, by decide +kernel, rfl, by decide +kernel, by decide +kernel⟩
theorem ok_unit {p f : Addr} {fd : FuncData} (KCharge : Kls K mg "Charge" C) (N : ChN K C) (Y : Pr K "Charge.unit" "unit" C s_Charge_unit P_Charge_unit p f fd) : FnOk P w K mg base CX0 1 f fd P_Charge_unit (spUnit C) := by
  refine Y.F.ok sc_Charge_unit (fun vs H Q E h => ?_) (fun cdv A outer s H vs Q E hr h => ?_)
  · obtain ⟨a, dx, t, d, u, rfl, _⟩ := h
    rfl
  · obtain ⟨a, dx, t, d, u, rfl, ha, k⟩ := h
    exact ⟨_, (pss_one (ps_ret (pe_fld (pv 0) rfl))), _, rfl, a, C, dx, _, _, rfl, ha, KCharge.cl, N.n2, rfl, k⟩
abbrev s_Charge_pays : Stmt := inClass (top 25) 3
abbrev N_Charge_pays : List Str := ["self", "thing"]
abbrev P_Charge_pays : List Str := ["self"]
theorem sc_Charge_pays : FnScope N_Charge_pays P_Charge_pays (defScope s_Charge_pays) := ⟨rfl, rfl, rfl, by decide +kernel, rfl, by decide +kernel, by decide +kernel⟩
theorem ok_pays {p f : Addr} {fd : FuncData} (KCharge : Kls K mg "Charge" C) (N : ChN K C) (Y : Pr K "Charge.pays" "pays" C s_Charge_pays P_Charge_pays p f fd) : FnOk P w K mg base CX0 1 f fd P_Charge_pays (spPays C) := by
  refine Y.F.ok sc_Charge_pays (fun vs H Q E h => ?_) (fun cdv A outer s H vs Q E hr h => ?_)
  · obtain ⟨a, ps, u, rfl, _⟩ := h
    rfl
  · obtain ⟨a, ps, u, rfl, ⟨dx, t, d, h1, h2, h3⟩, nd, hlen, k⟩ := h
    refine ⟨_, (pss_one (ps_ret (pe_dc (own := [("thing", 1)]) (g := gName 1) (tt := tYes) rfl sc_Charge_pays.nd (pi_tup (pe_fld (pv 0) rfl)) (blkOk_by (own := [("thing", 1)]) (N := N_Charge_pays) (sc := defScope s_Charge_pays) (by decide +kernel)) (fun _ _ _ _ _ => (pg_name (i := 1) sc_Charge_pays.nd rfl (Or.inl rfl))) (fun _ _ _ _ _ => pts_nil) (fun _ _ _ _ _ => (pv 1)) (fun _ _ _ _ _ => (show PE _ _ (tDGet (tFld K (tVar 0) "_pays") (tVar 1)) from by exact (pe_dget (hu_of hr) (pe_fld (pv 0) rfl) (pv 1) (fun _ _ => rfl))))))), ?_⟩
    have hz : (1000 : Nat) ≤ sizeLine := by decide
    refine ⟨_, rfl, a, C, dx, _, _, rfl, h1, KCharge.cl, N.n1, rfl, t, rfl, ⟨_, SqT.of h2⟩, fun D hD => ?_⟩
    refine dc_it (walk_tup (xs := (nms ps).map V.str)) (fun i H' => H' = upd H D (.dK (kvs (bagOf (look ps) ((nms ps).take i))))) rfl (fun i H' _ e => by rw [e]; exact SqT.of (Same.new hD _ _ h2)) ?_ ?_
    · rintro i x H1 H2 hi rfl ⟨rfl, hx⟩
      rw [List.length_map] at hi
      have hy : (nms ps)[i]? = some (nms ps)[i] := List.getElem?_eq_getElem hi
      rw [List.getElem?_map, hy] at hx
      injection hx with hx
      subst hx
      have s1 := Same.new (o := .dK (kvs (bagOf (look ps) ((nms ps).take i)))) hD
      refine ⟨rfl, _, rfl, _, rfl, a, C, dx, _, _, rfl, s1 _ _ h1, KCharge.cl, N.n3, rfl, _, rfl, d, _, rfl, DGet.bag (.inl (s1 _ _ h3)) (List.getElem_mem hi), _, .inr _, rfl, upd_same, ?_, ?_⟩
      · rw [bagOf_len, List.length_take]
        rw [nms_len] at hi ⊢
        omega
      · rw [upd_upd, bagOf_succ _ nd hy]
    · rintro H1 rfl
      rw [List.length_map, List.take_length, show bagOf (look ps) (nms ps) = ps from look_self nd]
      exact k D hD
abbrev s_Chargecheck_group : Stmt := inClass (top 25) 19
abbrev N_Chargecheck_group : List Str := ["self", "group"]
abbrev P_Chargecheck_group : List Str := ["self", "group"]
theorem sc_Chargecheck_group : FnScope N_Chargecheck_group P_Chargecheck_group (defScope s_Chargecheck_group) := ⟨rfl, rfl, rfl, by decide +kernel, rfl, by decide +kernel, by decide +kernel⟩
theorem ok_check {f f1 : Addr} {fd fd1 : FuncData} (B : Bl mg) (M : Bm mg) (KCharge : Kls K mg "Charge" C) (N : ChN K C) (D_is_group_of : Df K mg "is_group_of" s_is_group_of P_is_group_of f1 fd1) (Y : Md K "Charge._check_group" "_check_group" C s_Chargecheck_group P_Chargecheck_group f fd) :
    FnOk P w K mg base CX0 2 f fd P_Chargecheck_group (spCheck C) := by
  have G_is_group_of : FnOk P w K mg base CX0 1 f1 fd1 P_is_group_of (spIsGroup K) := ok_is_group B M D_is_group_of
  refine Y.F.ok sc_Chargecheck_group (fun vs H Q E h => ?_) (fun cdv A outer s H vs Q E hr h => ?_)
  · obtain ⟨a, g, ps, u, ys, rfl, _⟩ := h
    rfl
  · obtain ⟨a, g, ps, u, ys, rfl, ⟨dx, t, d, h1, h2, h3⟩, hg, gp, k⟩ := h
    refine ⟨_, (pss_one (ps_if (pt_not (pt_val (pe_call G_is_group_of (hr.mono (by decide)) (by rfl) D_is_group_of.g D_is_group_of.F.kp D_is_group_of.b .nil pass0 (pa_cons (pe_fld (pv 0) rfl) (pa_cons (pv 1) pa_nil))))) (pss_one ps_never) pss_nil)), ?_⟩
    exact ⟨_, rfl, a, C, dx, _, _, rfl, h1, KCharge.cl, N.n1, rfl, _, rfl, t, g, _, _, rfl, h2, hg, gp.sub, gp.asc, gp.len, fun H' s1 => ⟨true, rfl, iteF (k H' s1)⟩⟩
abbrev s_Charge_contains : Stmt := inClass (top 25) 13
abbrev N_Charge_contains : List Str := ["self", "value"]
abbrev P_Charge_contains : List Str := ["self", "value"]
theorem sc_Charge_contains : FnScope N_Charge_contains P_Charge_contains (defScope s_Charge_contains) := ⟨rfl, rfl, rfl, by decide +kernel, rfl, by decide +kernel, by decide +kernel⟩
theorem ok_cont {f : Addr} {fd : FuncData} (B : Bl mg) (KCharge : Kls K mg "Charge" C) (N : ChN K C) (Y : Md K "Charge.__contains__" "__contains__" C s_Charge_contains P_Charge_contains f fd) : FnOk P w K mg base CX0 1 f fd P_Charge_contains (spCont C) := by
  refine Y.F.ok sc_Charge_contains (fun vs H Q E h => ?_) (fun cdv A outer s H vs Q E hr h => ?_)
  · obtain ⟨a, ps, u, x, t, rfl, _⟩ := h
    rfl
  · obtain ⟨a, ps, u, x, t, rfl, ⟨dx, tt, d, h1, h2, h3⟩, hk, k⟩ := h
    refine ⟨_, (pss_one (ps_ret (pe_and (pe_callB call_is (by rfl) B.b_isinstance (by decide +kernel) (pa_cons (pv 1) (pa_cons (pe_ty (n := "str") (by rfl) B.b_str (by decide +kernel)) pa_nil))) (pe_one (pe_cmpR op_in_seq (pv 1) (pe_fld (pv 0) rfl) (by rfl)))))), ?_⟩
    refine ⟨_, rfl, x, t, .str, rfl, hk, by decide, _, rfl, ?_⟩
    cases hk with
    | str z =>
      refine iteT ⟨_, rfl, _, rfl, a, C, dx, _, _, rfl, h1, KCharge.cl, N.n1, rfl, tt, _, rfl, .inr (SqT.of h2), rfl, flat_map _, ?_⟩
      rw [inV_str]
      exact k
    | _ => exact iteF k
abbrev s_Charge_len : Stmt := inClass (top 25) 14
abbrev N_Charge_len : List Str := ["self"]
abbrev P_Charge_len : List Str := ["self"]
theorem sc_Charge_len : FnScope N_Charge_len P_Charge_len (defScope s_Charge_len) := ⟨rfl, rfl, rfl, by decide +kernel, rfl, by decide +kernel, by decide +kernel⟩
theorem ok_len {f : Addr} {fd : FuncData} (B : Bl mg) (KCharge : Kls K mg "Charge" C) (N : ChN K C) (Y : Md K "Charge.__len__" "__len__" C s_Charge_len P_Charge_len f fd) : FnOk P w K mg base CX0 1 f fd P_Charge_len (spLen C) := by
  refine Y.F.ok sc_Charge_len (fun vs H Q E h => ?_) (fun cdv A outer s H vs Q E hr h => ?_)
  · obtain ⟨a, ps, u, rfl, _⟩ := h
    rfl
  · obtain ⟨a, ps, u, rfl, ⟨dx, t, d, h1, h2, h3⟩, hlen, k⟩ := h
    refine ⟨_, (pss_one (ps_ret (pe_callB call_len (by rfl) B.b_len (by decide +kernel) (pa_cons (pe_fld (pv 0) rfl) pa_nil)))), ?_⟩
    exact ⟨_, rfl, a, C, dx, _, _, rfl, h1, KCharge.cl, N.n1, rfl, _, ps.length, rfl, .inr ⟨_, SqT.of h2, by rw [List.length_map, nms_len]⟩, k⟩
end
end V0

namespace V0
open PySem PySem.Spec PyProof.Rows L2
/-- are two dicts of ints equal, by their entries -/
def eqBg (ps qs : Bag) : Bool := decide (ps.length = qs.length) && ps.all fun p => decide (p.1 ∈ nms qs) && decide (p.2 = look qs p.1)
theorem eqBg_self {ps : Bag} (nd : (nms ps).Nodup) : eqBg ps ps = true := by
  unfold eqBg
  rw [decide_eq_true rfl, Bool.true_and, List.all_eq_true]
  intro p hp
  rw [decide_eq_true (show p.1 ∈ nms ps from List.mem_map.mpr ⟨p, hp, rfl⟩), decide_eq_true (look_of nd (z := p.1) (i := p.2) hp).symm]
  rfl
theorem eqBg_len {ps qs : Bag} (h : ps.length ≠ qs.length) : eqBg ps qs = false := by
  unfold eqBg
  rw [decide_eq_false h, Bool.false_and]
theorem eqBg_names {ps qs : Bag} (nd : (nms ps).Nodup) (hn : nms ps = nms qs) (h : eqBg ps qs = true) : ps = qs := by
  unfold eqBg at h
  have h2 := List.all_eq_true.mp (Bool.and_eq_true_iff.mp h).2
  rw [← look_self nd, ← look_self (ps := qs) (hn ▸ nd), ← hn]
  refine List.map_congr_left fun z hz => ?_
  have q := h2 _ (look_mem hz)
  have q2 := of_decide_eq_true (Bool.and_eq_true_iff.mp q).2
  show (z, look ps z) = (z, look qs z)
  rw [show look ps z = look qs z from q2]
theorem hits_bag {A : Around} {s : Shared} {qs : Bag} {vb : List (Key × Value)} (rb : KV (kvs qs) vb) : ∀ {ps : Bag} {va : List (Key × Value)}, KV (kvs ps) va → PySem.W.KeqHits A s vb va (ps.all fun p => decide (p.1 ∈ nms qs) && decide (p.2 = look qs p.1))
  | [], _, .nil => .nil
  | p :: ps, _, @Paired.cons _ _ _ _ (k, v) _ _ ⟨h1, h2⟩ t => by
    have h1' : Sum.inr p.1 = k := h1
    subst h1'
    rw [List.all_cons]
    have vv := rb.val (Sum.inr p.1)
    by_cases hm : p.1 ∈ nms qs
    · rw [decide_eq_true hm, Bool.true_and]
      rw [valV_in hm] at vv
      obtain ⟨y, hy, ry⟩ := RelO.some_of vv
      have e := eqAt_V (A := A) (s := s) h2 ry rfl rfl
      refine .hit hy ?_ (hits_bag rb t)
      have e2 : eqV (.int p.2) (.int (look qs p.1)) = decide (p.2 = look qs p.1) := by
        first | rfl | (show decide (V.int p.2 = V.int (look qs p.1)) = _; exact decide_eq_decide.mpr ⟨fun q => by injection q, fun q => by rw [q]⟩)
      rw [← e2]
      exact e
    · rw [decide_eq_false hm, Bool.false_and, Bool.false_and]
      rw [valV_out hm] at vv
      cases e : valueAt vb (Sum.inr p.1) with
      | none => exact .miss e
      | some y => rw [e] at vv; exact (show False from vv).elim
def rEqBag (neg : Bool) : R2 := fun x y H Q => ∃ (a b : Addr) (ps qs : Bag), x = .ref a ∧ y = .ref b ∧ H a = some (.dK (kvs ps)) ∧ H b = some (.dK (kvs qs)) ∧ Q (.bl (if neg then !eqBg ps qs else eqBg ps qs)) H
theorem op_eqBag {X : Cx} (hu : X.A.units < cLine) : OpR X (compareOp .Eq) (rEqBag false) := by
  intro pins s σ H x y v u Q I rx ry h
  obtain ⟨a, b, ps, qs, rfl, rfl, ea, eb, q⟩ := h
  obtain rfl : v = Value.ref a := rx
  obtain rfl : u = Value.ref b := ry
  obtain ⟨_, ya, va, ra, da⟩ := (show ObjOk X.prog X.w H s.heap a (.dK (kvs ps)) from I.hok a _ ea)
  obtain ⟨_, yb, vb, rb, db⟩ := (show ObjOk X.prog X.w H s.heap b (.dK (kvs qs)) from I.hok b _ eb)
  refine PySem.W.keq_eq (knd := mixKind X.prog X.w) ya yb da db hu (fun _ => hits_bag rb ra) (fin_bl I q ?_)
  have hl : (va.length == vb.length) = decide (ps.length = qs.length) := by
    rw [← ra.length, ← rb.length, kvs_len, kvs_len]
    rfl
  rw [hl]
  rfl
/-! ### == of charges -/
/-- what a charge is compared with -/
def Eqd (K : PySem.W.Frag) (C : Addr) (H : Hp) (ps : Bag) (u : Int) (y : V) (b : Bool) : Prop :=
  (∃ t : Kd, TyX K H y (.type t.nm) ∧ b = false) ∨ ∃ c qs v, y = .ref c ∧ ChAt C H c qs v ∧ b = (decide (u = v) && eqBg ps qs)
def spEq (K : PySem.W.Frag) (C : Addr) : Sp := fun vs H Q _ => ∃ (a : Addr) (ps : Bag) (u : Int) (y : V) (b : Bool), vs = [.ref a, y] ∧ ChAt C H a ps u ∧ Eqd K C H ps u y b ∧ Q (.bl b) H
section
variable {P : Program} {w : World} {K : PySem.W.Frag} {mg : Str → Option Value} {base : Heap} {C : Addr}
abbrev s_Charge_eq : Stmt := inClass (top 25) 16
abbrev N_Charge_eq : List Str := ["self", "other"]
abbrev P_Charge_eq : List Str := ["self", "other"]
theorem sc_Charge_eq : FnScope N_Charge_eq P_Charge_eq (defScope s_Charge_eq) := ⟨rfl, rfl, rfl, by decide +kernel, rfl, by decide +kernel, by decide +kernel⟩
theorem ok_eq {f : Addr} {fd : FuncData} (B : Bl mg) (KCharge : Kls K mg "Charge" C) (N : ChN K C) (Y : Md K "Charge.__eq__" "__eq__" C s_Charge_eq P_Charge_eq f fd) : FnOk P w K mg base CX0 1 f fd P_Charge_eq (spEq K C) := by
  refine Y.F.ok sc_Charge_eq (fun vs H Q E h => ?_) (fun cdv A outer s H vs Q E hr h => ?_)
  · obtain ⟨a, ps, u, y, b, rfl, _⟩ := h
    rfl
  · obtain ⟨a, ps, u, y, b, rfl, ⟨dx, t, d, h1, h2, h3⟩, hy, k⟩ := h
    refine ⟨_, (pss_one (ps_ret (pe_and (pe_callB call_isi (by rfl) B.b_isinstance (by decide +kernel) (pa_cons (pv 1) (pa_cons (pe_gv rfl KCharge.gv) pa_nil))) (pe_and (pe_cmpR op_eq (pe_fld (pv 0) rfl) (pe_fld (pv 1) rfl) (nomark _)) (pe_one (pe_cmpR (op_eqBag (Nat.lt_of_le_of_lt (Nat.le_add_right _ _) (hu_of hr))) (pe_fld (pv 0) rfl) (pe_fld (pv 1) rfl) (nomark _))))))), ?_⟩
    rcases hy with ⟨tt, ty, rfl⟩ | ⟨c, qs, v, rfl, ⟨dx', t', d', g1, g2, g3⟩, rfl⟩
    · exact ⟨_, rfl, y, _, _, _, _, rfl, .own C, ty, KCharge.kd tt, _, rfl, iteF k⟩
    · refine ⟨_, rfl, _, _, _, _, _, rfl, .own C, KCharge.ins g1, Kls.self, _, rfl, iteT ?_⟩
      refine ⟨_, rfl, a, C, dx, _, _, rfl, h1, KCharge.cl, N.n2, rfl, _, rfl, c, C, dx', _, _, rfl, g1, KCharge.cl, N.n2, rfl, rfl, _, rfl, ite2 (fun e => ?_) (fun e => ?_)⟩
      · have e' : u = v := by have := of_decide_eq_true e; injection this
        refine ⟨_, rfl, a, C, dx, _, _, rfl, h1, KCharge.cl, N.n3, rfl, _, rfl, c, C, dx', _, _, rfl, g1, KCharge.cl, N.n3, rfl, d, d', ps, qs, rfl, rfl, h3, g3, ?_⟩
        rw [decide_eq_true e', Bool.true_and] at k
        exact k
      · have e' : ¬ u = v := fun z => e (decide_eq_true (by rw [z]))
        rw [decide_eq_false e', Bool.false_and] at k
        exact k
abbrev s_Charge_total : Stmt := inClass (top 25) 4
abbrev N_Charge_total : List Str := ["self"]
abbrev P_Charge_total : List Str := ["self"]
theorem sc_Charge_total : FnScope N_Charge_total P_Charge_total (defScope s_Charge_total) := ⟨rfl, rfl, rfl, by decide +kernel, rfl, by decide +kernel, by decide +kernel⟩
theorem ok_total {p f f1 f2 : Addr} {fd fd1 fd2 : FuncData} (B : Bl mg) (CN : Nm mg) (KCharge : Kls K mg "Charge" C) (N : ChN K C) (D_reduced : Df K mg "reduced" s_reduced P_reduced f1 fd1) (Y_Chargesum : Md K "Charge._sum" "_sum" C s_Chargesum P_Chargesum f2 fd2)
    (Y : Pr K "Charge.total" "total" C s_Charge_total P_Charge_total p f fd) : FnOk P w K mg base CX0 3 f fd P_Charge_total (spTotal C) := by
  have G_Chargesum : FnOk P w K mg base CX0 2 f2 fd2 P_Chargesum (spSum C) := ok_sum B CN KCharge N D_reduced Y_Chargesum
  refine Y.F.ok sc_Charge_total (fun vs H Q E h => ?_) (fun cdv A outer s H vs Q E hr h => ?_)
  · obtain ⟨a, ps, u, rfl, _⟩ := h
    rfl
  · obtain ⟨a, ps, u, rfl, ⟨dx, t, d, h1, h2, h3⟩, hu, hub, hlen, k⟩ := h
    refine ⟨_, (pss_one (ps_ret (pe_meth (pv 0) KCharge.cl Y_Chargesum.m G_Chargesum (hr.mono (by decide)) Y_Chargesum.b .nil pass0 (pa_cons (pe_fld (pv 0) rfl) pa_nil)))), ?_⟩
    exact ⟨_, rfl, a, dx, _, rfl, h1, rfl, _, rfl, a, C, dx, _, _, rfl, h1, KCharge.cl, N.n1, rfl, a, t, ps, u, nms ps, rfl, ⟨dx, t, d, h1, h2, h3⟩, hu, hub, h2, fun _ h => h, by rw [nms_len]; exact hlen, k⟩
def spOf (C : Addr) : Sp := fun vs H Q _ => ∃ (a g : Addr) (ps : Bag) (u : Int) (zs : List Str), vs = [.ref a, .ref g] ∧ ChAt C H a ps u ∧ 0 < u ∧ u.natAbs < 2 ^ 3000 ∧ H g = some (tupS zs) ∧ Gp (nms ps) zs ∧
  ∀ (p : Addr) (H' : Hp), Same H H' → H p = none → H' p = some (.tup [.int (sumB ps zs / fg (sumB ps zs) u), .int (u / fg (sumB ps zs) u)]) → Q (.ref p) H'
abbrev s_Charge_of : Stmt := inClass (top 25) 5
abbrev N_Charge_of : List Str := ["self", "group"]
abbrev P_Charge_of : List Str := ["self", "group"]
theorem sc_Charge_of : FnScope N_Charge_of P_Charge_of (defScope s_Charge_of) := ⟨rfl, rfl, rfl, by decide +kernel, rfl, by decide +kernel, by decide +kernel⟩
theorem ok_of {f f1 f2 f3 f4 : Addr} {fd fd1 fd2 fd3 fd4 : FuncData} (B : Bl mg) (M : Bm mg) (CN : Nm mg) (KCharge : Kls K mg "Charge" C) (N : ChN K C) (D_reduced : Df K mg "reduced" s_reduced P_reduced f1 fd1) (Y_Chargesum : Md K "Charge._sum" "_sum" C s_Chargesum P_Chargesum f2 fd2)
    (D_is_group_of : Df K mg "is_group_of" s_is_group_of P_is_group_of f3 fd3) (Y_Chargecheck_group : Md K "Charge._check_group" "_check_group" C s_Chargecheck_group P_Chargecheck_group f4 fd4)
    (Y : Md K "Charge.of" "of" C s_Charge_of P_Charge_of f fd) : FnOk P w K mg base CX0 3 f fd P_Charge_of (spOf C) := by
  have G_Chargesum : FnOk P w K mg base CX0 2 f2 fd2 P_Chargesum (spSum C) := ok_sum B CN KCharge N D_reduced Y_Chargesum
  have G_Chargecheck_group : FnOk P w K mg base CX0 2 f4 fd4 P_Chargecheck_group (spCheck C) := ok_check B M KCharge N D_is_group_of Y_Chargecheck_group
  refine Y.F.ok sc_Charge_of (fun vs H Q E h => ?_) (fun cdv A outer s H vs Q E hr h => ?_)
  · obtain ⟨a, g, ps, u, zs, rfl, _⟩ := h
    rfl
  · obtain ⟨a, g, ps, u, zs, rfl, hc, hu, hub, hg, gp, k⟩ := h
    obtain ⟨dx, t, d, h1, h2, h3⟩ := id hc
    refine ⟨_, (pss_cons (ps_expr (pe_meth (pv 0) KCharge.cl Y_Chargecheck_group.m G_Chargecheck_group (hr.mono (by decide)) Y_Chargecheck_group.b .nil pass0 (pa_cons (pv 1) pa_nil)))
      (pss_one (ps_ret (pe_meth (pv 0) KCharge.cl Y_Chargesum.m G_Chargesum (hr.mono (by decide)) Y_Chargesum.b .nil pass0 (pa_cons (pv 1) pa_nil))))), ?_⟩
    refine ⟨_, rfl, a, dx, _, rfl, h1, rfl, _, rfl, a, g, ps, u, zs, rfl, hc, hg, gp, fun H1 s1 => ?_⟩
    exact ⟨_, rfl, a, dx, _, rfl, s1 _ _ h1, rfl, _, rfl, a, g, ps, u, zs, rfl, hc.same s1, hu, hub, s1 _ _ hg, gp.sub, gp.len, fun p H' s2 hp e => k p H' (s1.trans s2) (none_up s1 hp) e⟩
abbrev s_Charge_getitem : Stmt := inClass (top 25) 12
abbrev N_Charge_getitem : List Str := ["self", "thing"]
abbrev P_Charge_getitem : List Str := ["self", "thing"]
theorem sc_Charge_getitem : FnScope N_Charge_getitem P_Charge_getitem (defScope s_Charge_getitem) := ⟨rfl, rfl, rfl, by decide +kernel, rfl, by decide +kernel, by decide +kernel⟩
theorem ok_item {f f1 f2 : Addr} {fd fd1 fd2 : FuncData} (B : Bl mg) (CN : Nm mg) (KCharge : Kls K mg "Charge" C) (N : ChN K C) (D_reduced : Df K mg "reduced" s_reduced P_reduced f1 fd1) (Y_cont : Md K "Charge.__contains__" "__contains__" C s_Charge_contains P_Charge_contains f2 fd2)
    (Y : Md K "Charge.__getitem__" "__getitem__" C s_Charge_getitem P_Charge_getitem f fd) : FnOk P w K mg base CX0 2 f fd P_Charge_getitem (spItem C) := by
  have G_reduced : FnOk P w K mg base CX0 1 f1 fd1 P_reduced spFr := ok_fr CN D_reduced
  have O_cont : OwnM P w K mg base CX0 1 C "__contains__" (spCont C) := md_own Y_cont (ok_cont B KCharge N Y_cont)
  refine Y.F.ok sc_Charge_getitem (fun vs H Q E h => ?_) (fun cdv A outer s H vs Q E hr h => ?_)
  · obtain ⟨a, ps, u, z, rfl, _⟩ := h
    rfl
  · obtain ⟨a, ps, u, z, rfl, hc, hu, hub, hz, k⟩ := h
    obtain ⟨dx, t, d, h1, h2, h3⟩ := id hc
    refine ⟨_, (pss_cons (ps_if (pt_cmpR (op_notInO O_cont (hr.mono (by decide)) pass0) (pv 1) (pv 0) (by rfl)) (pss_one ps_never) pss_nil)
      (pss_one (ps_ret (pe_call G_reduced (hr.mono (by decide)) (by rfl) D_reduced.g D_reduced.F.kp D_reduced.b .nil pass0 (pa_cons (pe_dget (hu_of hr) (pe_fld (pv 0) rfl) (pv 1) (fun _ _ => rfl)) (pa_cons (pe_fld (pv 0) rfl) pa_nil)))))), ?_⟩
    refine ⟨_, rfl, _, rfl, a, dx, _, rfl, h1, a, ps, u, _, .str, rfl, hc, .str z, _, rfl, _, rfl, ?_⟩
    rw [show inN ps (.str z) = true from decide_eq_true hz]
    refine iteF ?_
    exact ⟨_, rfl, a, C, dx, _, _, rfl, h1, KCharge.cl, N.n3, rfl, _, rfl, d, _, rfl, DGet.bag (.inl h3) hz, _, rfl, a, C, dx, _, _, rfl, h1, KCharge.cl, N.n2, rfl, _, _, rfl, hu, hub, k⟩
end
end V0

namespace V0
open PySem PySem.Spec PyProof.Rows L2
/-! ### the law's call, where it is known that no repr is under way -/
section
variable {P : Program} {w : World} {K : PySem.W.Frag} {mg mb : Str → Option Value}
/-- a body that is right at one place is right when the def is called there -/
theorem runs_at {base : Heap} {k : Nat} {f : Addr} {fd : FuncData} {x qual : Str} {st : Stmt} {N ps : List Str} {A : Around} {outer : List Env} {s : Shared} {H : Hp} {args : Args} {us : List Value} {vs : List V} {Q : VK}
    (F : Fun K x qual st f fd) (S : FnScope N ps (defScope st)) (hr : Room (k + 1) A) (e0 : Env0 P w K mg base A outer s H) (hb : BindsTo s fd args (ps.zip us)) (r : Vals vs us) (hl : vs.length = ps.length)
    (body : ∀ cdv : Value, Room k (A.deeper (envOfC qual (defScope st) s.heap.objs.size f cdv)) → ∃ t, PSs (cxOf CX0 P w K mg base N qual (defScope st) f cdv A outer s H E0).nox (defBody st) t ∧ t { nx := fun _ H' => Q .non H', rt := Q } (L2.start N vs) H) :
    codeAny (model P w) A (.call (.ref f) args) (CR CX0 outer P w H s Q E0) s := by
  obtain ⟨oc, od, kV, doc, pm, an, cdv, ct, osl, rfl, lk, hcd⟩ := F.ex
  have inBase : ∀ b o, base.get? b = some o → s.heap.get? b = some o := fun b o z => (e0.bs b o z).1
  have hK : K.In s.heap := e0.mod.kin.keeps inBase
  refine codeAny_call_function hr.depth (hK _ _ lk) rfl S.co S.gen rfl (PySem.W.codeRec_of hK hcd) (hb _ _ _ _ ?_)
  refine wpAny_newFunctionEnv_cells S.kind (fun ⟨n, v⟩ hy => ?_) fun env he s1 C => ?_
  · rcases S.par n (List.of_mem_zip hy).1 with q | q
    · exact .inl q
    · exact .inr ⟨q, PySem.W.cellsFrom_some _ _ _ (.inl q)⟩
  subst he
  refine ⟨(e0.mod.nolimit.keeps inBase).keeps C.toInCall.keep, codeAny_func ?_⟩
  obtain ⟨t, ht, hq⟩ := body cdv (hr.deeper _)
  have I := inv_start (CX := CX0) (P := P) (w := w) (K := K) (mg := mg) (E := E0) (N := N) S hr.hd e0 hl r C
  refine wpAny_mono (ht.nox.run [] s1 _ H _ I hq) (fun fl s' hs => ?_) fun e s' hs => hs
  cases fl with
  | ret u => exact let ⟨v, _, H', J, rv, q⟩ := hs; ⟨v, H', J.os, J.bare, J.base, J.hok, rv, q⟩
  | next => exact let ⟨_, H', J, q⟩ := hs; ⟨.non, H', J.os, J.bare, J.base, J.hok, rfl, q⟩
  | brk => exact let ⟨_, _, _, q⟩ := hs; q.elim
  | cont => exact let ⟨_, _, _, q⟩ := hs; q.elim
end
end V0

namespace V0
open PySem PySem.Spec PyProof.Rows L2
/-- what a charge keeps of the dict that it is made of -/
def chB (zs : List Str) (qs : Bag) (u : Int) : Bag := bagOf (fun z => look qs z / (gcdB u qs : Int)) zs
/-- sorted names of a dict -/
structure Sd (qs : Bag) (zs : List Str) : Prop where
  pm : zs.Perm (nms qs)
  ord : sortedS zs = true
/-- the instance at x becomes a charge -/
def spInit (C : Addr) : Sp := fun vs H Q _ => ∃ (x dx d : Addr) (qs : Bag) (u : Int), vs = [.ref x, .ref d, .int u] ∧ H x = some (.ins C dx []) ∧ H d = some (.dK (kvs qs)) ∧ Bg (10 ^ 60) qs ∧ 0 < u ∧ u.natAbs < 10 ^ 60 ∧
  ∀ (zs : List Str) (H' : Hp), Sd qs zs → But x H H' → ChAt C H' x (chB zs qs u) (nfU u qs) → Q .non H'
structure ChK (K : PySem.W.Frag) (C fi : Addr) (fdi : FuncData) (st : Stmt) (ps : List Str) : Prop where
  F : FunD K "__init__" "Charge.__init__" (defArgs st) (defBody st) (defScope st) [] [("unit", .int 1)] fi fdi
  mkC : Mk K C fi
  b1 : ∃ ds, Vals [.int 1] ds ∧ Binds K fdi ps ds
  bk : KBn K fdi ps 2 ["unit"] (fun us ws => us ++ ws) (fun vs zs => vs ++ zs)
theorem upd_upd_ne {H : Hp} {a b : Addr} {u v : HO} (h : a ≠ b) : upd (upd H a u) b v = upd (upd H b v) a u := by
  funext c
  by_cases h1 : c = a
  · subst h1
    rw [upd_same, upd_ne h, upd_same]
  · by_cases h2 : c = b
    · subst h2
      rw [upd_same, upd_ne h1, upd_same]
    · rw [upd_ne h1, upd_ne h2, upd_ne h2, upd_ne h1]
section
variable {P : Program} {w : World} {K : PySem.W.Frag} {mg : Str → Option Value} {base : Heap} {C : Addr}
abbrev s_Charge_iter : Stmt := inClass (top 25) 15
abbrev N_Charge_iter : List Str := ["self"]
abbrev P_Charge_iter : List Str := ["self"]
theorem sc_Charge_iter : FnScope N_Charge_iter P_Charge_iter (defScope s_Charge_iter) := ⟨rfl, rfl, rfl, by decide +kernel, rfl, by decide +kernel, by decide +kernel⟩
theorem ok_iter {f : Addr} {fd : FuncData} (M : Bm mg) (KCharge : Kls K mg "Charge" C) (N : ChN K C) (Y : Md K "Charge.__iter__" "__iter__" C s_Charge_iter P_Charge_iter f fd) : ItM P w K mg base 1 C "_things" := by
  refine ⟨f, Y.m.at_, Y.m.fn, fun A outer s H a dx t fs xs hr e0 ha hl ht => ?_⟩
  have inBase : ∀ b o, base.get? b = some o → s.heap.get? b = some o := fun b o z => (e0.bs b o z).1
  have b := Y.b s [.ref a] (e0.mod.kin.keeps inBase) rfl
  refine runs_at (k := 0) (vs := [.ref a]) (us := [.ref a]) Y.F sc_Charge_iter hr e0 b (.cons rfl .nil) rfl fun cdv hr' => ?_
  exact ⟨_, (pss_one (ps_ret (pe_callB call_iterT (by rfl) M.b_iter (by decide +kernel) (pa_cons (pe_fld (pv 0) rfl) pa_nil)))), _, rfl, a, C, dx, fs, _, rfl, ha, KCharge.cl, N.n1, hl, t, xs, rfl, ht, fun it hn hz => ⟨it, rfl, hz, hn, rfl⟩⟩
abbrev s_Charge_init : Stmt := inClass (top 25) 0
abbrev N_Charge_init : List Str := ["self", "pays", "unit", "shared", "thing"]
abbrev P_Charge_init : List Str := ["self", "pays", "unit"]
theorem sc_Charge_init : FnScope N_Charge_init P_Charge_init (defScope s_Charge_init) := ⟨rfl, rfl, rfl, by decide +kernel, rfl, by decide +kernel, by decide +kernel⟩
theorem ok_init {fi f1 f2 f3 f4 f5 : Addr} {fdi fd1 fd2 fd3 fd4 fd5 : FuncData} (B : Bl mg) (M : Bm mg) (CN : Nm mg) (KCharge : Kls K mg "Charge" C) (N : ChN K C) (D_is_whole : Df K mg "is_whole" s_is_whole P_is_whole f1 fd1) (D_is_integer : Df K mg "is_integer" s_is_integer P_is_integer f2 fd2) (D_is_name : Df K mg "is_name" s_is_name P_is_name f3 fd3)
    (D__are_pays : Df K mg "_are_pays" s__are_pays P__are_pays f4 fd4) (D__shared_divisor : Df K mg "_shared_divisor" s__shared_divisor P__shared_divisor f5 fd5) (Y : ChK K C fi fdi s_Charge_init P_Charge_init) : FnOk P w K mg base CX0 4 fi fdi P_Charge_init (spInit C) := by
  have G_is_integer : FnOk P w K mg base CX0 2 f2 fd2 P_is_integer spIsInteger := ok_is_integer B CN D_is_whole D_is_integer
  have G__are_pays : FnOk P w K mg base CX0 3 f4 fd4 P__are_pays spArePays := ok_are_pays B CN D_is_whole D_is_integer D_is_name D__are_pays
  have G__shared_divisor : FnOk P w K mg base CX0 1 f5 fd5 P__shared_divisor spDivisor := ok_shared CN D__shared_divisor
  refine Y.F.ok sc_Charge_init (fun vs H Q E h => ?_) (fun cdv A outer s H vs Q E hr h => ?_)
  · obtain ⟨x, dx, d, qs, u, rfl, _⟩ := h
    rfl
  · obtain ⟨x, dx, d, qs, u, rfl, hx, hd, g, hu, hub, k⟩ := h
    refine ⟨_, (pss_cons (ps_if (pt_not (pt_val (pe_call G__are_pays (hr.mono (by decide)) (by rfl) D__are_pays.g D__are_pays.F.kp D__are_pays.b .nil pass0 (pa_cons (pv 1) pa_nil)))) (pss_one ps_never) pss_nil)
      (pss_cons (ps_if (PW.pt (pw_or (pt_not (pt_val (pe_call G_is_integer (hr.mono (by decide)) (by rfl) D_is_integer.g D_is_integer.F.kp D_is_integer.b .nil pass0 (pa_cons (pv 2) pa_nil)))) (pw_or1 (pt_cmpR op_lt (pv 2) pe_int (nomark _))))) (pss_one ps_never) pss_nil)
      (pss_cons (ps_set (i := 3) sc_Charge_init.nd rfl (Or.inr rfl) (pe_call G__shared_divisor (hr.mono (by decide)) (by rfl) D__shared_divisor.g D__shared_divisor.F.kp D__shared_divisor.b .nil pass0 (pa_cons (pv 1) (pa_cons (pv 2) pa_nil))))
      (pss_cons (ps_fld (pv 0) (pe_callTy call_tuple_of (by rfl) B.b_tuple (by decide +kernel) (pa_cons (pe_callB (call_sortedD rfl) (by rfl) M.b_sorted (by decide +kernel) (pa_cons (pv 1) pa_nil)) pa_nil)) rfl)
      (pss_cons (ps_fld (pv 0) (pe_op op_fdivZ (pv 2) (pv 3)) rfl)
      (pss_one (ps_fld (pv 0) (pe_dc (own := [("thing", 4)]) (g := gName 4) (tt := tYes) rfl sc_Charge_init.nd (pi_list (pe_callB (call_sortedD rfl) (by rfl) M.b_sorted (by decide +kernel) (pa_cons (pv 1) pa_nil))) (blkOk_by (own := [("thing", 4)]) (N := N_Charge_init) (sc := defScope s_Charge_init) (by decide +kernel)) (fun _ _ _ _ _ => (pg_name (i := 4) sc_Charge_init.nd rfl (Or.inl rfl))) (fun _ _ _ _ _ => pts_nil) (fun _ _ _ _ _ => (pv 4)) (fun _ _ _ _ _ => (pe_op op_fdivZ (pe_dget (hu_of hr) (pv 1) (pv 4) (fun _ _ => rfl)) (pv 3)))) rfl))))))), ?_⟩
    have hxd : d ≠ x := ne_of hd hx (fun z => nomatch z)
    refine ⟨_, rfl, d, qs, rfl, hd, g, fun H1 s1 => ⟨true, rfl, iteF ?_⟩⟩
    refine ⟨_, rfl, _, .int, rfl, .int u, _, rfl, ?_⟩
    rw [show intB (.int u) = true from decide_eq_true hub]
    refine iteF ⟨_, rfl, _, _, rfl, rfl, _, rfl, ?_⟩
    rw [show decide (u < 1) = false from decide_eq_false (by omega)]
    refine iteF ?_
    refine ⟨_, rfl, _, rfl, d, qs, u, rfl, s1 _ _ hd, g.nd, by omega, ?_⟩
    -- self._things
    have g0 := gcdB_pos (u := u) (ps := qs) (by omega)
    have gl := gcdB_le (u := u) (ps := qs) (by omega)
    have hG : (gcdB u qs) < 2 ^ 3000 := Nat.lt_of_le_of_lt gl (Nat.lt_trans hub (by decide +kernel))
    have x1 := s1 _ _ hx
    have l8 := g.l8
    refine ⟨_, rfl, d, _, nms qs, rfl, .inl (s1 _ _ hd), kvs_keys qs, by rw [nms_len]; omega, fun zs p hp1 hp2 hp => ?_⟩
    have s2 := s1.trans (Same.new (o := .lst (zs.map V.str)) hp)
    refine ⟨p, _, rfl, .inl ⟨SqL.of upd_same, fun t ht => ?_⟩⟩
    have s3 := s2.trans (Same.new (o := .tup (zs.map V.str)) ht)
    have et : (upd (upd H1 p (.lst (zs.map V.str))) t (.tup (zs.map V.str))) t = some (tupS zs) := upd_same
    generalize upd (upd H1 p (.lst (zs.map V.str))) t (.tup (zs.map V.str)) = H2 at s3 et
    refine ⟨_, rfl, x, C, dx, _, rfl, s3 _ _ hx, KCharge.cl, N.n1, by show 0 < 1000; decide, ?_⟩
    -- self._unit
    have htx : t ≠ x := ne_of et (s3 _ _ hx) (fun z => nomatch z)
    refine ⟨_, rfl, _, rfl, _, _, rfl, rfl, div_z (b := 3000) _ (by omega) (by rw [Int.natAbs_natCast]; exact hG) (by decide) (by decide), _, rfl, x, C, dx, _, rfl, upd_same, KCharge.cl, N.n2, by show 1 < 1000; decide, ?_⟩
    rw [upd_upd]
    -- self._pays
    have eU : u.fdiv (gcdB u qs : Int) = nfU u qs := Int.fdiv_eq_ediv_of_nonneg _ (by omega)
    have b3 : But x H (upd H2 x (.ins C dx [("_things", .ref t), ("_unit", .int (u.fdiv (gcdB u qs : Int)))])) := (But.of s3).trans But.upd
    have e3 : (upd H2 x (.ins C dx [("_things", .ref t), ("_unit", .int (u.fdiv (gcdB u qs : Int)))])) x = some (.ins C dx [("_things", .ref t), ("_unit", .int (u.fdiv (gcdB u qs : Int)))]) := upd_same
    have et3 : (upd H2 x (.ins C dx [("_things", .ref t), ("_unit", .int (u.fdiv (gcdB u qs : Int)))])) t = some (tupS zs) := by rw [upd_ne htx]; exact et
    refine (fun (z : ∀ H3 : Hp, But x H H3 → H3 x = some (.ins C dx [("_things", .ref t), ("_unit", .int (u.fdiv (gcdB u qs : Int)))]) → H3 t = some (tupS zs) → _) => z _ b3 e3 et3) fun H3 b3 e3 et3 => ?_
    have hd3 := b3 _ _ hd hxd
    refine ⟨_, rfl, d, _, nms qs, rfl, .inl hd3, kvs_keys qs, by rw [nms_len]; omega, fun zs2 p2 hq1 hq2 hp2n => ?_⟩
    have ez : zs2 = zs := sorted_one (hq1.trans hp1.symm) hq2 hp2
    subst ez
    have s4 := Same.new (o := .lst (zs2.map V.str)) hp2n
    have e4 : (upd H3 p2 (.lst (zs2.map V.str))) p2 = some (.lst (zs2.map V.str)) := upd_same
    generalize upd H3 p2 (.lst (zs2.map V.str)) = H4 at s4 e4
    have nz : zs2.Nodup := hp1.nodup_iff.mpr g.nd
    have lz : zs2.length = qs.length := by rw [hp1.length_eq, nms_len]
    refine ⟨p2, rfl, ⟨_, SqL.of e4⟩, fun D hD => ?_⟩
    refine dc_it (walk_list (xs := zs2.map V.str)) (fun i H' => H' = upd H4 D (.dK (kvs (bagOf (fun z => look qs z / (gcdB u qs : Int)) (zs2.take i))))) rfl (fun i H' _ e => by rw [e]; exact SqL.of (Same.new hD _ _ e4)) ?_ ?_
    · rintro i y H5 H6 hi rfl ⟨rfl, hy⟩
      rw [List.length_map] at hi
      have hz : zs2[i]? = some zs2[i] := List.getElem?_eq_getElem hi
      rw [List.getElem?_map, hz] at hy
      injection hy with hy
      subst hy
      have s5 := Same.new (o := .dK (kvs (bagOf (fun z => look qs z / (gcdB u qs : Int)) (zs2.take i)))) hD
      have hm : zs2[i] ∈ nms qs := hp1.subset (List.getElem_mem hi)
      refine ⟨rfl, _, rfl, _, rfl, _, rfl, d, _, rfl, DGet.bag (.inl (s5 _ _ (s4 _ _ hd3))) hm, _, rfl, _, _, rfl, rfl, div_z (b := 3000) _ (by omega) (by rw [Int.natAbs_natCast]; exact hG) (by decide) (by decide), _, .inr _, rfl, upd_same, ?_, ?_⟩
      · rw [bagOf_len, List.length_take]
        show min i zs2.length < sizeLine
        rw [sizeLine_eq]
        omega
      · rw [upd_upd]
        dsimp only
        rw [Int.fdiv_eq_ediv_of_nonneg _ (by omega), bagOf_succ (fun z => look qs z / (gcdB u qs : Int)) nz hz]
    · rintro H5 rfl
      rw [List.length_map, List.take_length]
      have s5 := Same.new (o := .dK (kvs (bagOf (fun z => look qs z / (gcdB u qs : Int)) zs2))) hD
      have x5 := s5 _ _ (s4 _ _ e3)
      have hDx : D ≠ x := fun z => by
        have := s4 _ _ e3
        rw [← z, hD] at this
        cases this
      refine ⟨_, rfl, x, C, dx, _, rfl, x5, KCharge.cl, N.n3, by show 2 < 1000; decide, ?_⟩
      refine k zs2 _ ⟨hp1, hp2⟩ ?_ ⟨dx, t, D, ?_, ?_, ?_⟩
      · exact ((b3.trans (But.of s4)).trans (But.of s5)).trans But.upd
      · rw [upd_same, ← eU]
        rfl
      · rw [upd_ne htx, show nms (chB zs2 qs u) = zs2 from bagOf_nms _ _]
        exact s5 _ _ (s4 _ _ et3)
      · rw [upd_ne hDx]
        exact upd_same
end
end V0

namespace V0
open PySem PySem.Spec PyProof.Rows L2
/-- charge_over(pays, unit): the numbers can be of any size -/
structure Bh (qs : Bag) : Prop where
  nd : (nms qs).Nodup
  nm : ∀ z ∈ nms qs, nameB (.str z) = true ∧ z.length ≤ 8
  l1 : 1 ≤ qs.length
  l8 : qs.length ≤ 8
def spOver (C : Addr) : Sp := fun vs H Q _ => ∃ (d : Addr) (qs : Bag) (u : Int), vs = [.ref d, .int u] ∧ H d = some (.dK (kvs qs)) ∧ Bh qs ∧ 0 < u ∧ u.natAbs < 2 ^ 3000 ∧
  ∀ (x : Addr) (zs : List Str) (H' : Hp), Sd qs zs → Same H H' → H x = none → ChAt C H' x (chB zs qs u) (nfU u qs) → Q (.ref x) H'
theorem Bh.zero {qs : Bag} (g : Bh qs) : Bg (10 ^ 60) (bagOf (fun _ => 0) (nms qs)) := by
  refine ⟨by rw [bagOf_nms]; exact g.nd, fun z hz => g.nm z (by rw [bagOf_nms] at hz; exact hz), fun p hp => ?_, ?_, ?_⟩
  · obtain ⟨z, _, rfl⟩ := List.mem_map.mp hp
    show (0 : Int).natAbs < 10 ^ 60
    decide +kernel
  · have : (bagOf (fun _ => 0) (nms qs)).length = qs.length := by unfold bagOf; rw [List.length_map, nms_len]
    rw [this]; exact g.l1
  · have : (bagOf (fun _ => 0) (nms qs)).length = qs.length := by unfold bagOf; rw [List.length_map, nms_len]
    rw [this]; exact g.l8
section
variable {P : Program} {w : World} {K : PySem.W.Frag} {mg : Str → Option Value} {base : Heap} {C : Addr}
abbrev s_charge_over : Stmt := top 26
abbrev N_charge_over : List Str := ["pays", "unit", "thing", "charge", "shared"]
abbrev P_charge_over : List Str := ["pays", "unit"]
theorem sc_charge_over : FnScope N_charge_over P_charge_over (defScope s_charge_over) := ⟨rfl, rfl, rfl, by decide +kernel, rfl, by decide +kernel, by decide +kernel⟩
theorem ok_over {f fi f1 f2 f3 f4 f5 : Addr} {fd fdi fd1 fd2 fd3 fd4 fd5 : FuncData} (B : Bl mg) (M : Bm mg) (CN : Nm mg) (KCharge : Kls K mg "Charge" C) (N : ChN K C) (D_is_whole : Df K mg "is_whole" s_is_whole P_is_whole f1 fd1) (D_is_integer : Df K mg "is_integer" s_is_integer P_is_integer f2 fd2) (D_is_name : Df K mg "is_name" s_is_name P_is_name f3 fd3)
    (D__are_pays : Df K mg "_are_pays" s__are_pays P__are_pays f4 fd4) (D__shared_divisor : Df K mg "_shared_divisor" s__shared_divisor P__shared_divisor f5 fd5) (Y_init : ChK K C fi fdi s_Charge_init P_Charge_init) (D : Df K mg "charge_over" s_charge_over P_charge_over f fd) : FnOk P w K mg base CX0 6 f fd P_charge_over (spOver C) := by
  have G__shared_divisor : FnOk P w K mg base CX0 1 f5 fd5 P__shared_divisor spDivisor := ok_shared CN D__shared_divisor
  have G_init : FnOk P w K mg base CX0 4 fi fdi P_Charge_init (spInit C) := ok_init B M CN KCharge N D_is_whole D_is_integer D_is_name D__are_pays D__shared_divisor Y_init
  obtain ⟨ds, hds, b1⟩ := Y_init.b1
  refine D.F.ok sc_charge_over (fun vs H Q E h => ?_) (fun cdv A outer s H vs Q E hr h => ?_)
  · obtain ⟨d, qs, u, rfl, _⟩ := h
    rfl
  · obtain ⟨d, qs, u, rfl, hd, g, hu, hub, k⟩ := h
    refine ⟨_, (pss_cons (ps_set (i := 3) sc_charge_over.nd rfl (Or.inl rfl) (pe_make Y_init.mkC G_init (hr.mono (by decide)) (by rfl) KCharge.g b1 hds pass0 (pa_cons (pe_lock (pe_dc (own := [("thing", 2)]) (g := gName 2) (tt := tYes) rfl sc_charge_over.nd (pi_keys (pv 0)) (blkOk_by (own := [("thing", 2)]) (N := N_charge_over) (sc := defScope s_charge_over) (by decide +kernel)) (fun _ _ _ _ _ => (pg_name (i := 2) sc_charge_over.nd rfl (Or.inl rfl))) (fun _ _ _ _ _ => pts_nil) (fun _ _ _ _ _ => (pv 2)) (fun _ _ _ _ _ => pe_int))) pa_nil)))
      (pss_cons (ps_set (i := 4) sc_charge_over.nd rfl (Or.inr rfl) (pe_call G__shared_divisor (hr.mono (by decide)) (by rfl) D__shared_divisor.g D__shared_divisor.F.kp D__shared_divisor.b .nil pass0 (pa_cons (pv 0) (pa_cons (pv 1) pa_nil))))
      (pss_cons (ps_fld (pv 3) (pe_op op_fdivZ (pv 1) (pv 4)) rfl)
      (pss_cons (ps_fld (pv 3) (pe_dc (own := [("thing", 2)]) (g := gName 2) (tt := tYes) rfl sc_charge_over.nd (pi_list (pe_callB (call_sortedD rfl) (by rfl) M.b_sorted (by decide +kernel) (pa_cons (pv 0) pa_nil))) (blkOk_by (own := [("thing", 2)]) (N := N_charge_over) (sc := defScope s_charge_over) (by decide +kernel)) (fun _ _ _ _ _ => (pg_name (i := 2) sc_charge_over.nd rfl (Or.inl rfl))) (fun _ _ _ _ _ => pts_nil) (fun _ _ _ _ _ => (pv 2)) (fun _ _ _ _ _ => (pe_op op_fdivZ (pe_dget (hu_of hr) (pv 0) (pv 2) (fun _ _ => rfl)) (pv 4)))) rfl)
      (pss_one (ps_ret (pv 3))))))), ?_⟩
    have g0 := gcdB_pos (u := u) (ps := qs) (by omega)
    have gl := gcdB_le (u := u) (ps := qs) (by omega)
    have hG : (gcdB u qs) < 2 ^ 3000 := Nat.lt_of_le_of_lt gl hub
    have l8 := g.l8
    refine ⟨d, _, hd, trivial, fun od => ⟨_, rfl, d, od, rfl, .inl ⟨_, upd_same, fun D0 hD0 => ?_⟩⟩⟩
    have hdL := ne_of_none (upd_same (H := H) (a := d) (o := .frz od (.dK (kvs qs)))) hD0
    refine dc_it walk_keys (fun i H' => H' = upd (upd H d (.frz od (.dK (kvs qs)))) D0 (.dK (kvs (bagOf (fun _ => 0) ((nms qs).take i))))) rfl (fun i H' _ e => by rw [e, upd_ne hdL]; exact upd_same) ?_ ?_
    · rintro i y H5 H6 hi rfl ⟨rfl, kk, v, hk, rfl⟩
      obtain ⟨p, hp, rfl, rfl⟩ := kvs_at hk
      rw [kvs_len] at hi
      have hz : (nms qs)[i]? = some p.1 := by unfold nms; rw [List.getElem?_map, hp]; rfl
      refine ⟨rfl, _, rfl, _, .inr p.1, rfl, upd_same, ?_, ?_⟩
      · rw [bagOf_len, List.length_take, nms_len, sizeLine_eq]
        omega
      · rw [upd_upd]
        exact congrArg _ (congrArg _ (bagOf_succ (fun _ => 0) g.nd hz))
    · rintro H5 rfl
      rw [kvs_len, ← nms_len, List.take_length]
      refine ⟨by rw [upd_ne hdL]; exact upd_same, ?_⟩
      rw [upd_upd_ne hdL.symm, upd_lock hd]
      have hD0' : H D0 = none := by rw [upd_ne hdL.symm] at hD0; exact hD0
      have s1 := Same.new (o := .dK (kvs (bagOf (fun _ => 0) (nms qs)))) hD0'
      have e1 : (upd H D0 (.dK (kvs (bagOf (fun _ => 0) (nms qs))))) D0 = some (.dK (kvs (bagOf (fun _ => 0) (nms qs)))) := upd_same
      generalize upd H D0 (.dK (kvs (bagOf (fun _ => 0) (nms qs)))) = H1 at s1 e1
      intro x dx hx hdx hne
      have hxd : d ≠ x := ne_of_none (s1 _ _ hd) hx
      have hx0 : D0 ≠ x := ne_of_none e1 hx
      have hd0 : D0 ≠ dx := ne_of_none e1 hdx
      have same2 : Same H1 (upd (upd H1 dx (.own x)) x (.ins C dx [])) := fun b o e => by rw [upd_ne (ne_of_none e hx), upd_ne (ne_of_none e hdx)]; exact e
      refine ⟨x, dx, D0, _, 1, rfl, upd_same, same2 _ _ e1, g.zero, by decide, by decide +kernel, fun zs H2 sd b2 hc => ⟨rfl, ?_⟩⟩
      obtain ⟨dx2, t2, d2, c1, c2, c3⟩ := hc
      rw [show nms (chB zs (bagOf (fun _ => 0) (nms qs)) 1) = zs from bagOf_nms _ _] at c2
      have zp : zs.Perm (nms qs) := by have := sd.pm; rw [bagOf_nms] at this; exact this
      have s2 : Same H H2 := fun b o e => b2 b o (same2 b o (s1 b o e)) (ne_of_none (s1 b o e) hx)
      have ht2x : t2 ≠ x := ne_of c2 c1 (fun z => nomatch z)
      have hx_0 : H x = none := none_up s1 hx
      -- shared, _unit
      refine ⟨_, rfl, _, rfl, d, qs, u, rfl, s2 _ _ hd, g.nd, by omega, ?_⟩
      refine ⟨_, rfl, _, rfl, _, _, rfl, rfl, div_z (b := 3000) _ (by omega) (by rw [Int.natAbs_natCast]; exact hG) (by decide) (by decide), _, rfl, x, C, dx2, _, rfl, c1, KCharge.cl, N.n2, by show 3 < 1000; decide, ?_⟩
      have eU : u.fdiv (gcdB u qs : Int) = nfU u qs := Int.fdiv_eq_ediv_of_nonneg _ (by omega)
      have b3 : Same H (upd H2 x (.ins C dx2 (chF t2 d2 (u.fdiv (gcdB u qs : Int))))) := fun b o e => by rw [upd_ne (ne_of_none e hx_0)]; exact s2 b o e
      have e3 : (upd H2 x (.ins C dx2 (chF t2 d2 (u.fdiv (gcdB u qs : Int))))) x = some (.ins C dx2 (chF t2 d2 (u.fdiv (gcdB u qs : Int)))) := upd_same
      have et3 : (upd H2 x (.ins C dx2 (chF t2 d2 (u.fdiv (gcdB u qs : Int))))) t2 = some (tupS zs) := by rw [upd_ne ht2x]; exact c2
      refine (fun (z : ∀ H3 : Hp, Same H H3 → H3 x = some (.ins C dx2 (chF t2 d2 (u.fdiv (gcdB u qs : Int)))) → H3 t2 = some (tupS zs) → _) => z _ b3 e3 et3) fun H3 b3 e3 et3 => ?_
      have hd3 := b3 _ _ hd
      refine ⟨_, rfl, d, _, nms qs, rfl, .inl hd3, kvs_keys qs, by rw [nms_len]; omega, fun zs2 p2 hq1 hq2 hp2n => ?_⟩
      have ez : zs2 = zs := sorted_one (hq1.trans zp.symm) hq2 sd.ord
      subst ez
      have s4 := Same.new (o := .lst (zs2.map V.str)) hp2n
      have e4 : (upd H3 p2 (.lst (zs2.map V.str))) p2 = some (.lst (zs2.map V.str)) := upd_same
      generalize upd H3 p2 (.lst (zs2.map V.str)) = H4 at s4 e4
      have nz : zs2.Nodup := zp.nodup_iff.mpr g.nd
      have lz : zs2.length = qs.length := by rw [zp.length_eq, nms_len]
      refine ⟨p2, rfl, ⟨_, SqL.of e4⟩, fun D hD => ?_⟩
      refine dc_it (walk_list (xs := zs2.map V.str)) (fun i H' => H' = upd H4 D (.dK (kvs (bagOf (fun z => look qs z / (gcdB u qs : Int)) (zs2.take i))))) rfl (fun i H' _ e => by rw [e]; exact SqL.of (Same.new hD _ _ e4)) ?_ ?_
      · rintro i y H5 H6 hi rfl ⟨rfl, hy⟩
        rw [List.length_map] at hi
        have hz : zs2[i]? = some zs2[i] := List.getElem?_eq_getElem hi
        rw [List.getElem?_map, hz] at hy
        injection hy with hy
        subst hy
        have s5 := Same.new (o := .dK (kvs (bagOf (fun z => look qs z / (gcdB u qs : Int)) (zs2.take i)))) hD
        have hm : zs2[i] ∈ nms qs := zp.subset (List.getElem_mem hi)
        refine ⟨rfl, _, rfl, _, rfl, _, rfl, d, _, rfl, DGet.bag (.inl (s5 _ _ (s4 _ _ hd3))) hm, _, rfl, _, _, rfl, rfl, div_z (b := 3000) _ (by omega) (by rw [Int.natAbs_natCast]; exact hG) (by decide) (by decide), _, .inr _, rfl, upd_same, ?_, ?_⟩
        · rw [bagOf_len, List.length_take]
          show min i zs2.length < sizeLine
          rw [sizeLine_eq]
          omega
        · rw [upd_upd]
          dsimp only
          rw [Int.fdiv_eq_ediv_of_nonneg _ (by omega), bagOf_succ (fun z => look qs z / (gcdB u qs : Int)) nz hz]
      · rintro H5 rfl
        rw [List.length_map, List.take_length]
        have s5 := Same.new (o := .dK (kvs (bagOf (fun z => look qs z / (gcdB u qs : Int)) zs2))) hD
        have x5 := s5 _ _ (s4 _ _ e3)
        have hDx : D ≠ x := fun z => by
          have := s4 _ _ e3
          rw [← z, hD] at this
          cases this
        refine ⟨_, rfl, x, C, dx2, _, rfl, x5, KCharge.cl, N.n3, by show 3 < 1000; decide, _, rfl, ?_⟩
        refine k x zs2 _ ⟨zp, sd.ord⟩ (fun b o e => ?_) hx_0 ⟨dx2, t2, D, ?_, ?_, ?_⟩
        · rw [upd_ne (ne_of_none e hx_0)]
          exact s5 _ _ (s4 _ _ (b3 b o e))
        · rw [upd_same, ← eU]
          rfl
        · rw [upd_ne ht2x, show nms (chB zs2 qs u) = zs2 from bagOf_nms _ _]
          exact s5 _ _ (s4 _ _ et3)
        · rw [upd_ne hDx]
          exact upd_same
end
end V0

namespace V0
open PySem PySem.Spec PyProof.Rows L2
theorem dp_strs {K : PySem.W.Frag} {H : Hp} : ∀ zs : List Str, DpAll K H (zs.map V.str) (zs.map PyData.str)
  | [] => .nil
  | z :: zs => .cons (.str z) (dp_strs zs)
theorem low_ok {z : Str} (h : nameB (.str z) = true) : PyData.strOk z = true := by
  have hk : nameB (.str z) = (decide (1 ≤ z.length ∧ z.length ≤ 8) && z.cps.toList.all low26) := rfl
  rw [hk, Bool.and_eq_true] at h
  have q := List.all_eq_true.mp h.2
  show z.cps.all (· < 0x110000) = true
  rw [Array.all_eq_true_iff_forall_mem]
  intro c hc
  have qc := q c (Array.mem_toList_iff.mpr hc)
  unfold low26 at qc
  simp at qc ⊢
  omega
theorem canLay_strs : ∀ zs : List Str, (∀ z ∈ zs, PyData.strOk z = true) → PyData.canLayAll0 (zs.map PyData.str) = true
  | [], _ => rfl
  | z :: zs, h => by
    show (PyData.strOk z && PyData.canLayAll0 (zs.map PyData.str)) = true
    rw [h z (by simp), canLay_strs zs fun y hy => h y (by simp [hy])]
    rfl
theorem depth_strs : ∀ zs : List Str, PyData.depthAll (zs.map PyData.str) = 0
  | [] => rfl
  | z :: zs => by
    show max 0 (PyData.depthAll (zs.map PyData.str)) = 0
    rw [depth_strs zs]
    rfl
theorem sh_strs (zs : List Str) (h : ∀ z ∈ zs, nameB (.str z) = true) : SeqAt.shaped (.tuple (zs.map PyData.str)) = true := by
  show (PyData.canLayAll0 (zs.map PyData.str) && decide (PyData.depthAll (zs.map PyData.str) + 1 ≤ 64)) = true
  rw [canLay_strs zs fun z hz => low_ok (h z hz), depth_strs]
  rfl
theorem eqv_nil {z : PyData} {zs : List PyData} : PyData.eqv (.tuple (z :: zs)) (.tuple []) = false := by
  first
    | rfl
    | simp [PyData.eqv]
def spCut (C : Addr) : Sp := fun vs H Q _ => ∃ (a g : Addr) (ps : Bag) (u : Int) (ys : List Str), vs = [.ref a, .ref g] ∧ ChAt C H a ps u ∧ 0 < u ∧ u.natAbs < 2 ^ 3000 ∧ H g = some (tupS ys) ∧ Gp (nms ps) ys ∧ ys ≠ [] ∧ ys.length ≤ 8 ∧ (∀ z ∈ ys, nameB (.str z) = true ∧ z.length ≤ 8) ∧
  ∀ (x : Addr) (zs : List Str) (H' : Hp), Sd (bagOf (look ps) ys) zs → Same H H' → H x = none → ChAt C H' x (chB zs (bagOf (look ps) ys) u) (nfU u (bagOf (look ps) ys)) → Q (.ref x) H'
theorem asc_nodup {ys : List Str} (h : ys.Pairwise (fun a b => a.cps.toList < b.cps.toList)) : ys.Nodup := h.imp fun hab e => by
  subst e
  exact absurd hab (List.lt_irrefl _)
section
variable {P : Program} {w : World} {K : PySem.W.Frag} {mg : Str → Option Value} {base : Heap} {C : Addr}
abbrev s_Charge_cut : Stmt := inClass (top 25) 6
abbrev N_Charge_cut : List Str := ["self", "group", "thing"]
abbrev P_Charge_cut : List Str := ["self", "group"]
theorem sc_Charge_cut : FnScope N_Charge_cut P_Charge_cut (defScope s_Charge_cut) := ⟨rfl, rfl, rfl, by decide +kernel, rfl, by decide +kernel, by decide +kernel⟩
theorem ok_cut {f fi f1 f2 f3 f4 f5 f6 f7 f8 : Addr} {fd fdi fd1 fd2 fd3 fd4 fd5 fd6 fd7 fd8 : FuncData} (B : Bl mg) (M : Bm mg) (CN : Nm mg) (KCharge : Kls K mg "Charge" C) (N : ChN K C) (D_is_whole : Df K mg "is_whole" s_is_whole P_is_whole f1 fd1) (D_is_integer : Df K mg "is_integer" s_is_integer P_is_integer f2 fd2) (D_is_name : Df K mg "is_name" s_is_name P_is_name f3 fd3)
    (D__are_pays : Df K mg "_are_pays" s__are_pays P__are_pays f4 fd4) (D__shared_divisor : Df K mg "_shared_divisor" s__shared_divisor P__shared_divisor f5 fd5) (Y_init : ChK K C fi fdi s_Charge_init P_Charge_init) (D_charge_over : Df K mg "charge_over" s_charge_over P_charge_over f6 fd6)
    (D_is_group_of : Df K mg "is_group_of" s_is_group_of P_is_group_of f7 fd7) (Y_Chargecheck_group : Md K "Charge._check_group" "_check_group" C s_Chargecheck_group P_Chargecheck_group f8 fd8)
    (Y : Md K "Charge.cut" "cut" C s_Charge_cut P_Charge_cut f fd) : FnOk P w K mg base CX0 7 f fd P_Charge_cut (spCut C) := by
  have G_charge_over : FnOk P w K mg base CX0 6 f6 fd6 P_charge_over (spOver C) := ok_over B M CN KCharge N D_is_whole D_is_integer D_is_name D__are_pays D__shared_divisor Y_init D_charge_over
  have G_Chargecheck_group : FnOk P w K mg base CX0 2 f8 fd8 P_Chargecheck_group (spCheck C) := ok_check B M KCharge N D_is_group_of Y_Chargecheck_group
  refine Y.F.ok sc_Charge_cut (fun vs H Q E h => ?_) (fun cdv A outer s H vs Q E hr h => ?_)
  · obtain ⟨a, g, ps, u, ys, rfl, _⟩ := h
    rfl
  · obtain ⟨a, g, ps, u, ys, rfl, hc, hu, hub, hg, gp, hne, hl8, hnm, k⟩ := h
    obtain ⟨dx, t, d, h1, h2, h3⟩ := id hc
    refine ⟨_, (pss_cons (ps_expr (pe_meth (pv 0) KCharge.cl Y_Chargecheck_group.m G_Chargecheck_group (hr.mono (by decide)) Y_Chargecheck_group.b .nil pass0 (pa_cons (pv 1) pa_nil)))
      (pss_cons (ps_if (pt_cmpR (op_eqD hr.units) (pv 1) (pe_tup pa_nil) (nomark _)) (pss_one ps_never) pss_nil)
      (pss_one (ps_ret (pe_call G_charge_over (hr.mono (by decide)) (by rfl) D_charge_over.g D_charge_over.F.kp D_charge_over.b .nil pass0 (pa_cons (pe_dc (own := [("thing", 2)]) (g := gName 2) (tt := tYes) rfl sc_Charge_cut.nd (pi_tup (pv 1)) (blkOk_by (own := [("thing", 2)]) (N := N_Charge_cut) (sc := defScope s_Charge_cut) (by decide +kernel)) (fun _ _ _ _ _ => (pg_name (i := 2) sc_Charge_cut.nd rfl (Or.inl rfl))) (fun _ _ _ _ _ => pts_nil) (fun _ _ _ _ _ => (pv 2)) (fun _ _ _ _ _ => (show PE _ _ (tDGet (tFld K (tVar 0) "_pays") (tVar 2)) from by exact (pe_dget (hu_of hr) (pe_fld (pv 0) rfl) (pv 2) (fun _ _ => rfl))))) (pa_cons (pe_fld (pv 0) rfl) pa_nil))))))), ?_⟩
    refine ⟨_, rfl, a, dx, _, rfl, h1, rfl, _, rfl, a, g, ps, u, ys, rfl, hc, hg, gp, fun H1 s1 => ?_⟩
    refine ⟨_, rfl, Nat.zero_le _, fun e he => ?_⟩
    have s2 := s1.trans (Same.new (o := .tup []) he)
    have ee : (upd H1 e (.tup [])) e = some (.tup []) := upd_same
    generalize upd H1 e (.tup []) = H2 at s2 ee
    refine ⟨_, _, .tup (SqT.of (s2 _ _ hg)) (dp_strs ys), .tup (SqT.of ee) .nil, sh_strs ys (fun z hz => (hnm z hz).1), rfl, _, rfl, ?_⟩
    obtain ⟨y0, yr, rfl⟩ : ∃ y0 yr, ys = y0 :: yr := by cases ys with | nil => exact absurd rfl hne | cons a b => exact ⟨a, b, rfl⟩
    rw [show PyData.eqv (.tuple ((y0 :: yr).map PyData.str)) (.tuple []) = false from eqv_nil]
    refine iteF ?_
    generalize hys : y0 :: yr = ys at *
    refine ⟨_, rfl, g, rfl, ⟨_, SqT.of (s2 _ _ hg)⟩, fun D hD => ?_⟩
    have nd := asc_nodup gp.asc
    refine dc_it (walk_tup (xs := ys.map V.str)) (fun i H' => H' = upd H2 D (.dK (kvs (bagOf (look ps) (ys.take i))))) rfl (fun i H' _ e => by rw [e]; exact SqT.of (Same.new hD _ _ (s2 _ _ hg))) ?_ ?_
    · rintro i x H3 H4 hi rfl ⟨rfl, hx⟩
      rw [List.length_map] at hi
      have hy : ys[i]? = some ys[i] := List.getElem?_eq_getElem hi
      rw [List.getElem?_map, hy] at hx
      injection hx with hx
      subst hx
      have s3 := s2.trans (Same.new (o := .dK (kvs (bagOf (look ps) (ys.take i)))) hD)
      refine ⟨rfl, _, rfl, _, rfl, a, C, dx, _, _, rfl, s3 _ _ h1, KCharge.cl, N.n3, rfl, _, rfl, d, _, rfl, DGet.bag (.inl (s3 _ _ h3)) (gp.sub _ (List.getElem_mem hi)), _, .inr _, rfl, upd_same, ?_, ?_⟩
      · rw [bagOf_len, List.length_take, sizeLine_eq]
        omega
      · rw [upd_upd, bagOf_succ _ nd hy]
    · rintro H3 rfl
      rw [List.length_map, List.take_length]
      have s3 := s2.trans (Same.new (o := .dK (kvs (bagOf (look ps) ys))) hD)
      refine ⟨_, rfl, a, C, dx, _, _, rfl, s3 _ _ h1, KCharge.cl, N.n2, rfl, D, _, u, rfl, upd_same, ⟨by rw [bagOf_nms]; exact nd, fun z hz => hnm z (by rw [bagOf_nms] at hz; exact hz), ?_, ?_⟩, hu, hub, fun x zs H4 sd s4 hx hc4 => k x zs H4 sd (s3.trans s4) (none_up s3 hx) hc4⟩
      · unfold bagOf
        rw [List.length_map, ← hys]
        exact Nat.succ_le_succ (Nat.zero_le _)
      · unfold bagOf
        rw [List.length_map]
        exact hl8
/-! ### the text -/
def piece (u : Int) (p : Str × Int) : Str := p.1 ++ Str.ofString " " ++ ftx (p.2 / fg p.2 u) (u / fg p.2 u)
def chText (ps : Bag) (u : Int) : Str := Txt.join (Str.ofString ", ") (ps.map (piece u))
def tPiece (K : PySem.W.Frag) : TE := fun σ H Q => tJs [tFmt (tVar 1), tC (.str " "), tFmt (tCall spFrText [] E0 (tCons (tDGet (tFld K (tVar 0) "_pays") (tVar 1)) (tCons (tFld K (tVar 0) "_unit") tNil)))] Str.empty σ H fun out H1 => Q (.str out) H1
def spText (C : Addr) : Sp := fun vs H Q _ => ∃ (a : Addr) (ps : Bag) (u : Int), vs = [.ref a] ∧ ChAt C H a ps u ∧ 0 < u ∧ u.natAbs < 10 ^ 64 ∧ (nms ps).Nodup ∧ (∀ p ∈ ps, p.2.natAbs < 10 ^ 64 ∧ p.1.length ≤ 8) ∧ ps.length ≤ 8 ∧ ∀ H', Same H H' → Q (.str (chText ps u)) H'
theorem ftx_len {a b : Int} (ha : a.natAbs < 10 ^ 64) (hb : b.natAbs < 10 ^ 64) : (ftx a b).length ≤ 141 := by
  have l1 := itx_len ha
  have l2 := itx_len hb
  unfold ftx
  split
  · omega
  · rw [PySem.Str.length_append, PySem.Str.length_append]
    have h1 : (Str.ofString "/").length = 1 := by decide +kernel
    omega
abbrev s_Charge_str : Stmt := inClass (top 25) 17
abbrev N_Charge_str : List Str := ["self", "thing"]
abbrev P_Charge_str : List Str := ["self"]
theorem sc_Charge_str : FnScope N_Charge_str P_Charge_str (defScope s_Charge_str) := ⟨rfl, rfl, rfl, by decide +kernel, rfl, by decide +kernel, by decide +kernel⟩
theorem ok_text {f f1 f2 f3 : Addr} {fd fd1 fd2 fd3 : FuncData} (B : Bl mg) (CN : Nm mg) (KCharge : Kls K mg "Charge" C) (N : ChN K C) (D_reduced : Df K mg "reduced" s_reduced P_reduced f1 fd1) (D_integer_text : Df K mg "integer_text" s_integer_text P_integer_text f2 fd2) (D_fraction_text : Df K mg "fraction_text" s_fraction_text P_fraction_text f3 fd3)
    (Y : Md K "Charge.__str__" "__str__" C s_Charge_str P_Charge_str f fd) : FnOk P w K mg base CX0 3 f fd P_Charge_str (spText C) := by
  have G_fraction_text : FnOk P w K mg base CX0 2 f3 fd3 P_fraction_text spFrText := ok_fr_text B CN D_reduced D_integer_text D_fraction_text
  refine Y.F.ok sc_Charge_str (fun vs H Q E h => ?_) (fun cdv A outer s H vs Q E hr h => ?_)
  · obtain ⟨a, ps, u, rfl, _⟩ := h
    rfl
  · obtain ⟨a, ps, u, rfl, ⟨dx, t, d, h1, h2, h3⟩, hu, hub, nd, hb, hl8, k⟩ := h
    refine ⟨_, (pss_one (ps_ret (pe_join pe_str (pe_lc (own := [("thing", 1)]) (g := gName 1) (tt := tYes) rfl sc_Charge_str.nd (pi_tup (pe_fld (pv 0) rfl)) (blkOk_by (own := [("thing", 1)]) (N := N_Charge_str) (sc := defScope s_Charge_str) (by decide +kernel)) (fun _ _ _ _ _ => (pg_name (i := 1) sc_Charge_str.nd rfl (Or.inl rfl))) (fun _ _ _ _ _ => pts_nil) (fun _ _ _ _ _ => (show PE _ _ (tPiece K) from by exact (pe_joined (.cons (pe_fmt (pv 1)) (.cons pe_str (.cons (pe_fmt (pe_call G_fraction_text (hr.mono (by decide)) (by rfl) D_fraction_text.g D_fraction_text.F.kp D_fraction_text.b .nil pass0 (pa_cons (pe_dget (hu_of hr) (pe_fld (pv 0) rfl) (pv 1) (fun _ _ => rfl)) (pa_cons (pe_fld (pv 0) rfl) pa_nil)))) .nil)))))))))), ?_⟩
    refine ⟨⟨_, rfl⟩, _, rfl, a, C, dx, _, _, rfl, h1, KCharge.cl, N.n1, rfl, t, rfl, ⟨_, SqT.of h2⟩, fun L hL => ?_⟩
    refine lc_it (walk_tup (xs := (nms ps).map V.str)) (fun i H' => Same H H' ∧ H' L = some (.lst (((ps.take i).map (piece u)).map V.str))) ⟨Same.new hL, upd_same⟩ (fun i H' _ ⟨s1, _⟩ => SqT.of (s1 _ _ h2)) ?_ ?_
    · rintro i x H1 H2 hi ⟨s1, e1⟩ ⟨rfl, hx⟩
      rw [List.length_map, nms_len] at hi
      have hp : ps[i]? = some ps[i] := List.getElem?_eq_getElem hi
      have hx' : x = .str ps[i].1 := by
        rw [List.getElem?_map] at hx
        unfold nms at hx
        rw [List.getElem?_map, hp] at hx
        injection hx with hx
        exact hx.symm
      subst hx'
      obtain ⟨b1, b2⟩ := hb _ (List.getElem_mem hi)
      have hm := nms_at hp
      have e2 : look ps ps[i].1 = ps[i].2 := look_at nd hp
      have g0 := fg_pos (i := ps[i].2) hu
      have a1 : (ps[i].2 / fg ps[i].2 u).natAbs < 10 ^ 64 := Nat.lt_of_le_of_lt (div_le g0) b1
      have a2 : (u / fg ps[i].2 u).natAbs < 10 ^ 64 := Nat.lt_of_le_of_lt (div_le g0) hub
      have lf := ftx_len a1 a2
      have l1 : (Str.ofString " ").length = 1 := by decide +kernel
      refine ⟨rfl, _, rfl, .inl ⟨_, rfl, by rw [sizeLine_eq]; omega, _, rfl, by rw [empty_app, sizeLine_eq]; omega, ?_⟩⟩
      rw [empty_app]
      refine ⟨_, rfl, by rw [PySem.Str.length_append, sizeLine_eq]; omega, ?_⟩
      refine ⟨_, rfl, a, C, dx, _, _, rfl, s1 _ _ h1, KCharge.cl, N.n3, rfl, _, rfl, d, _, rfl, DGet.bag (.inl (s1 _ _ h3)) hm, _, rfl, a, C, dx, _, _, rfl, s1 _ _ h1, KCharge.cl, N.n2, rfl, _, _, rfl, hu, by rw [e2]; exact b1, hub, fun H3 s3 => ?_⟩
      rw [e2]
      refine .inl ⟨_, rfl, by rw [sizeLine_eq]; omega, _, rfl, by rw [PySem.Str.length_append, PySem.Str.length_append, sizeLine_eq]; omega, _, s3 _ _ e1, ?_, ?_, ?_⟩
      · rw [List.length_map, List.length_map, List.length_take, sizeLine_eq]
        omega
      · exact fun b o e => by rw [upd_ne (ne_of_none e hL)]; exact s3 _ _ (s1 b o e)
      · rw [upd_same, take_map_succ _ hp, List.map_append]
        rfl
    · rintro H1 ⟨s1, e1⟩
      rw [List.length_map, nms_len, List.take_length] at e1
      refine ⟨_, L, ps.map (piece u), rfl, rfl, .inl (SqL.of e1), ?_, k H1 s1⟩
      have key : ∀ qs : Bag, (∀ p ∈ qs, p ∈ ps) → ((qs.map (piece u)).map (·.length)).sum ≤ qs.length * 160 := fun qs => by
        induction qs with
        | nil => intro _; exact Nat.le_refl _
        | cons p qs ih =>
          intro hq
          have i1 := ih fun q h => hq q (by simp [h])
          obtain ⟨b1, b2⟩ := hb p (hq p (by simp))
          have g0 := fg_pos (i := p.2) hu
          have a1 : (p.2 / fg p.2 u).natAbs < 10 ^ 64 := Nat.lt_of_le_of_lt (div_le g0) b1
          have a2 : (u / fg p.2 u).natAbs < 10 ^ 64 := Nat.lt_of_le_of_lt (div_le g0) hub
          have lf := ftx_len a1 a2
          have l1 : (Str.ofString " ").length = 1 := by decide +kernel
          have lp : (piece u p).length ≤ 160 := by
            unfold piece
            rw [PySem.Str.length_append, PySem.Str.length_append]
            omega
          rw [List.map_cons, List.map_cons, List.sum_cons, List.length_cons, Nat.succ_mul]
          omega
      have q := key ps fun _ h => h
      have l2 : (Str.ofString ", ").length = 2 := by decide +kernel
      rw [List.length_map, l2]
      omega
end
end V0

namespace V0
open PySem PySem.Spec PyProof.Rows L2
def hide (p : Addr) (H : Hp) : Hp := fun b => if b = p then none else H b
theorem hide_ne {p b : Addr} {H : Hp} (h : b ≠ p) : hide p H b = H b := if_neg h
theorem hide_eq {p b : Addr} {H : Hp} {o : HO} (h : hide p H b = some o) : b ≠ p ∧ H b = some o := by
  by_cases e : b = p
  · have q : hide p H b = none := if_pos e
    rw [q] at h
    cases h
  · exact ⟨e, (hide_ne (H := H) e).symm.trans h⟩
theorem But.hide {p : Addr} {H H' : Hp} (b : But p H H') : Same (hide p H) (hide p H') := fun c o h => by
  obtain ⟨e, q⟩ := hide_eq h
  rw [hide_ne e]
  exact b c o q e
theorem hide_same {p : Addr} {H : Hp} : Same (hide p H) H := fun c o h => (hide_eq h).2
theorem Pot.but {H H' : Hp} {p q : Addr} (h : Pot H p) (b : But q H H') (n : p ≠ q) : Pot H' p := by
  obtain ⟨a, b', c, hp, r⟩ := h
  exact ⟨a, b', c, b _ _ hp n, r⟩
theorem Pot.some {H : Hp} {p : Addr} (h : Pot H p) : ∃ o, H p = some o := by
  obtain ⟨a, b, c, hp, _⟩ := h
  exact ⟨_, hp⟩
theorem pot_ne {H : Hp} {p q : Addr} (h : Pot H p) (n : H q = none) : q ≠ p := fun z => by
  obtain ⟨o, e⟩ := h.some
  rw [← z, n] at e
  cases e
theorem perm_at {α : Type} : ∀ (l : List α) (k : Nat) (h : k < l.length), (l[k] :: l.eraseIdx k).Perm l
  | x :: l, 0, _ => by simp
  | x :: l, k + 1, h => by
    have h' : k < l.length := Nat.lt_of_succ_lt_succ h
    show (l[k] :: x :: l.eraseIdx k).Perm (x :: l)
    exact (List.Perm.swap _ _ _).trans ((perm_at l k h').cons x)
def spShuffle : Sp := fun vs H Q _ => ∃ (p l : Addr) (xs : List V), vs = [.ref p, .ref l] ∧ Pot H p ∧ l ≠ p ∧ H l = some (.lst xs) ∧ xs.length ≤ 100 ∧
  ∀ (q : Addr) (ys : List V) (H' : Hp), ys.Perm xs → H' q = some (.lst ys) → q ≠ p → H q = none → Pot H' p → But p H H' → Q (.ref q) H'
section
variable {P : Program} {w : World} {K : PySem.W.Frag} {mg : Str → Option Value} {base : Heap}
def t_pop (K : PySem.W.Frag) : TE := tBM K "list" rPopAt (tVar 2) (tCons (tCall spStir [] E0 (tCons (tVar 0) (tCons (tCB (fun xs H Q => ∃ x n, xs = [x] ∧ LenV K x H n ∧ Q (.int n) H) (tCons (tVar 2) tNil)) tNil))) tNil)
abbrev s_shuffled : Stmt := top 34
abbrev N_shuffled : List Str := ["_law_pot_here", "_law_items", "_law_waits", "_law_turn"]
abbrev P_shuffled : List Str := ["_law_pot_here", "_law_items"]
theorem sc_shuffled : FnScope N_shuffled P_shuffled (defScope s_shuffled) := ⟨rfl, rfl, rfl, by decide +kernel, rfl, by decide +kernel, by decide +kernel⟩
theorem ok_shuffle {f f1 : Addr} {fd fd1 : FuncData} (B : Bl mg) (D_stir : Df K mg "_law_stir" s_stir P_stir f1 fd1) (D : Df K mg "_law_shuffled" s_shuffled P_shuffled f fd) : FnOk P w K mg base CX0 2 f fd P_shuffled spShuffle := by
  have G_stir : FnOk P w K mg base CX0 1 f1 fd1 P_stir spStir := ok_stir B D_stir
  refine D.F.ok sc_shuffled (fun vs H Q E h => ?_) (fun cdv A outer s H vs Q E hr h => ?_)
  · obtain ⟨p, l, xs, rfl, _⟩ := h
    rfl
  · obtain ⟨p, l, xs, rfl, hp, hlp, hl, hn, k⟩ := h
    refine ⟨_, (pss_cons (ps_set (i := 2) sc_shuffled.nd rfl (Or.inr rfl) (pe_callTy call_list_of (by rfl) B.b_list (by decide +kernel) (pa_cons (pv 1) pa_nil)))
      (pss_one (ps_ret (pe_lc (own := [("_law_turn", 3)]) (g := gName 3) (tt := tYes) rfl sc_shuffled.nd (pi_range1 rfl B.b_range (pa_cons (pe_callB call_len (by rfl) B.b_len (by decide +kernel) (pa_cons (pv 1) pa_nil)) pa_nil)) (blkOk_by (own := [("_law_turn", 3)]) (N := N_shuffled) (sc := defScope s_shuffled) (by decide +kernel)) (fun _ _ _ _ _ => (pg_name (i := 3) sc_shuffled.nd rfl (Or.inl rfl))) (fun _ _ _ _ _ => pts_nil) (fun _ _ _ _ _ => (show PE _ _ (t_pop K) from by exact (pe_bm PySem.F.plainAttrs_list PySem.F.slot_list_pop PySem.F.type_list_pop mt_popAt (pv 2) (pa_cons (by exact (pe_call G_stir (hr.mono (by decide)) (by rfl) D_stir.g D_stir.F.kp D_stir.b .nil pass0 (pa_cons (pv 0) (pa_cons (by exact (pe_callB call_len (by rfl) B.b_len (by decide +kernel) (pa_cons (pv 2) pa_nil))) pa_nil)))) pa_nil)))))))), ?_⟩
    refine ⟨_, rfl, l, xs, rfl, .inl (SqL.of hl), fun W hW => ?_⟩
    have sW := Same.new (o := .lst xs) hW
    have eW : (upd H W (.lst xs)) W = _ := upd_same
    have nWp := pot_ne hp hW
    generalize upd H W (.lst xs) = H1 at sW eW
    refine ⟨_, rfl, _, xs.length, rfl, .inl ⟨_, SqL.of (sW _ _ hl), rfl⟩, (xs.length : Int), rfl, by omega, by omega, fun D hD => ?_⟩
    have nDp := pot_ne (hp.same sW) hD
    have nDW := ne_of_none eW hD
    have nD0 : H D = none := by
      cases e : H D with
      | none => rfl
      | some o => rw [sW _ _ e] at hD; cases hD
    refine lc_range (lo := 0) (n := _) (fun m H' => Pot H' p ∧ But p H H' ∧ ∃ rs ys : List V, H' W = some (.lst rs) ∧ rs.length + m = xs.length ∧ H' D = some (.lst ys) ∧ ys.length = m ∧ (rs ++ ys).Perm xs)
      ⟨(hp.same sW).same (Same.new hD), But.of (sW.trans (Same.new hD)), xs, [], Same.new hD _ _ eW, rfl, upd_same, rfl, by rw [List.append_nil]⟩ (fun m H' hm ⟨pm, bm, rs, ys, e1, e2, e4, e5, e6⟩ => ?_) (fun H' ⟨pm, bm, rs, ys, e1, e2, e4, e5, e6⟩ => ?_)
    · refine ⟨rfl, ?_⟩
      dsimp only [tYes]
      rw [if_pos (show true = true from rfl)]
      refine ⟨_, rfl, .inl ⟨rfl, _, SqL.of e1⟩, _, rfl, _, rfl, _, rs.length, rfl, .inl ⟨_, SqL.of e1, rfl⟩, p, _, rfl, pm, by omega, by omega, fun r H2 r0 r1 p2 b2 => ?_⟩
      have e1' := b2 _ _ e1 nWp
      have e4' := b2 _ _ e4 nDp
      have hr : r.toNat < rs.length := by omega
      refine ⟨W, rs, r, r.toNat, rs[r.toNat], rfl, rfl, e1', by omega, by omega, seqIndex_of r0 r1, List.getElem?_eq_getElem hr, ys, ?_, by rw [e5]; show m < sizeLine; rw [sizeLine_eq]; omega, ?_⟩
      · rw [upd_ne nDW.symm]; exact e4'
      · refine ⟨?_, fun b o e hb => ?_, rs.eraseIdx r.toNat, ys ++ [rs[r.toNat]], ?_, ?_, upd_same, ?_, ?_⟩
        · obtain ⟨a, b', c, hp', r'⟩ := p2
          exact ⟨a, b', c, by rw [upd_ne nDp.symm, upd_ne nWp.symm]; exact hp', r'⟩
        · rw [upd_ne (fun z => by have := sW b o e; rw [z, hD] at this; cases this), upd_ne (ne_of_none e hW)]
          exact b2 b o (bm b o e hb) hb
        · rw [upd_ne nDW, upd_same]
        · rw [List.length_eraseIdx_of_lt hr]
          omega
        · rw [List.length_append, e5]
          rfl
        · refine List.Perm.trans ?_ e6
          rw [← List.append_assoc]
          refine List.Perm.trans (List.perm_append_comm) ?_
          show (rs[r.toNat] :: (rs.eraseIdx r.toNat ++ ys)).Perm _
          exact (perm_at rs r.toNat hr).append_right ys
    · have r0 : rs = [] := List.length_eq_zero_iff.mp (by omega)
      rw [r0] at e6
      exact k D ys H' e6 e4 nDp nD0 pm bm
end
end V0

namespace V0
open PySem PySem.Spec PyProof.Rows L2
/-- the words that name things -/
def wordsL : List Str := ["a", "b", "c", "d", "e", "f", "g", "h", "ab", "zz", "hue", "thing", "zzzzzzzz"]
/-- names of things: texts of one to eight small letters, all different, in their order -/
structure Ws (zs : List Str) : Prop where
  sub : ∀ z ∈ zs, z ∈ wordsL
  nodup : zs.Nodup
  ord : sortedS zs = true
def spWords : Sp := fun vs H Q _ => ∃ (p : Addr) (n : Nat), vs = [.ref p, .int n] ∧ Pot H p ∧ 1 ≤ n ∧ n ≤ 8 ∧
  ∀ (q : Addr) (zs : List Str) (H' : Hp), Ws zs → zs.length = n → H' q = some (.tup (zs.map .str)) → H q = none → Pot H' p → But p H H' → Q (.ref q) H'
theorem map_perm {ys : List V} {zs : List Str} (h : ys.Perm (zs.map .str)) : ∃ us : List Str, ys = us.map .str ∧ us.Perm zs := by
  have all : ∀ y ∈ ys, ∃ z : Str, y = .str z := fun y hy => by
    obtain ⟨z, _, e⟩ := List.mem_map.mp (h.subset hy)
    exact ⟨z, e.symm⟩
  have un : ∀ (l : List V), (∀ y ∈ l, ∃ z : Str, y = .str z) → ∃ us : List Str, l = us.map .str := fun l => by
    induction l with
    | nil => intro _; exact ⟨[], rfl⟩
    | cons x l ih =>
      intro hl
      obtain ⟨z, rfl⟩ := hl x (by simp)
      obtain ⟨us, rfl⟩ := ih fun y hy => hl y (by simp [hy])
      exact ⟨z :: us, rfl⟩
  obtain ⟨us, rfl⟩ := un ys all
  refine ⟨us, rfl, ?_⟩
  let g : V → Str := fun v => match v with | .str z => z | _ => ⟨#[]⟩
  have e : ∀ l : List Str, (l.map V.str).map g = l := fun l => by
    rw [List.map_map]
    show l.map (fun z => z) = l
    rw [List.map_id']
  have := h.map g
  rw [e, e] at this
  exact this
section
variable {P : Program} {w : World} {K : PySem.W.Frag} {mg : Str → Option Value} {base : Heap}
abbrev s_words : Stmt := top 35
abbrev N_words : List Str := ["_law_pot_here", "_law_size", "_law_some"]
abbrev P_words : List Str := ["_law_pot_here", "_law_size"]
theorem sc_words : FnScope N_words P_words (defScope s_words) := ⟨rfl, rfl, rfl, by decide +kernel, rfl, by decide +kernel, by decide +kernel⟩
theorem ok_words {f f1 f2 : Addr} {fd fd1 fd2 : FuncData} (B : Bl mg) (M : Bm mg) (D_stir : Df K mg "_law_stir" s_stir P_stir f1 fd1) (D_shuffled : Df K mg "_law_shuffled" s_shuffled P_shuffled f2 fd2)
    (D : Df K mg "_law_words" s_words P_words f fd) : FnOk P w K mg base CX0 3 f fd P_words spWords := by
  have G_shuffled : FnOk P w K mg base CX0 2 f2 fd2 P_shuffled spShuffle := ok_shuffle B D_stir D_shuffled
  refine D.F.ok sc_words (fun vs H Q E h => ?_) (fun cdv A outer s H vs Q E hr h => ?_)
  · obtain ⟨p, n, rfl, _⟩ := h
    rfl
  · obtain ⟨p, n, rfl, hp, h1, h8, k⟩ := h
    refine ⟨_, (pss_cons (ps_set (i := 2) sc_words.nd rfl (Or.inl rfl) (pe_lst (pa_cons pe_str (pa_cons pe_str (pa_cons pe_str (pa_cons pe_str (pa_cons pe_str (pa_cons pe_str (pa_cons pe_str (pa_cons pe_str (pa_cons pe_str (pa_cons pe_str (pa_cons pe_str (pa_cons pe_str (pa_cons pe_str pa_nil)))))))))))))))
      (pss_one (ps_ret (pe_callTy call_tuple_of (by rfl) B.b_tuple (by decide +kernel) (pa_cons (pe_callB cr_sortedS (by rfl) M.b_sorted (by decide +kernel) (pa_cons (pe_slice sl_list (pe_call G_shuffled (hr.mono (by decide)) (by rfl) D_shuffled.g D_shuffled.F.kp D_shuffled.b .nil pass0 (pa_cons (pv 0) (pa_cons (pv 2) pa_nil))) po_none (po_some (pv 1))) pa_nil)) pa_nil))))), ?_⟩
    refine ⟨by show 13 ≤ sizeLine; decide, fun l hl => ?_⟩
    have nl := pot_ne hp hl
    have s1 := Same.new (o := .lst (wordsL.map V.str)) hl
    have e1 : (upd H l (.lst (wordsL.map V.str))) l = _ := upd_same
    refine ⟨_, rfl, _, rfl, p, l, _, rfl, hp.same s1, nl, e1, by rw [List.length_map]; decide, fun q ys H2 hperm hq nqp nq p2 b2 => ?_⟩
    obtain ⟨us, rfl, hus⟩ := map_perm hperm
    have ul : us.length = 13 := hus.length_eq
    refine ⟨_, rfl, _, rfl, q, _, rfl, SqL.of hq, fun c hc => ?_⟩
    have s3 := Same.new (o := .lst (cutV (us.map V.str) none (some (n : Int)))) hc
    have e3 : (upd H2 c (.lst (cutV (us.map V.str) none (some (n : Int))))) c = _ := upd_same
    have ec : cutV (us.map V.str) none (some (n : Int)) = (us.take n).map V.str := by
      unfold cutV
      rw [HT.sIx_nat, HT.sIx_none, List.length_map, List.drop_zero, Nat.sub_zero, Nat.min_eq_left (by omega), List.map_take]
    rw [ec] at e3 s3
    rw [ec]
    refine ⟨c, us.take n, rfl, SqL.of e3, by rw [List.length_take]; omega, fun zs d hz hord hd => ?_⟩
    refine ⟨d, _, rfl, .inl ⟨SqL.of upd_same, fun u hu => ?_⟩⟩
    have s4 := Same.new (o := .lst (zs.map V.str)) hd
    have s5 := Same.new (o := .tup (zs.map V.str)) hu
    have p5 := ((p2.same s3).same s4).same s5
    have h2u : H2 u = none := none_up s3 (none_up s4 hu)
    have nup := pot_ne p2 h2u
    have hu0 : H u = none := none_up s1 (by
      cases e : (upd H l (.lst (wordsL.map V.str))) u with
      | none => rfl
      | some o => rw [b2 _ _ e nup] at h2u; cases h2u)
    have mem : ∀ z ∈ zs, z ∈ us := fun z h => List.mem_of_mem_take (hz.subset h)
    refine k u zs _ ⟨fun z h => hus.subset (mem z h), ?_, hord⟩ (by rw [hz.length_eq, List.length_take]; omega) upd_same hu0 p5 ((((But.of s1).trans b2).trans (But.of (s3.trans s4))).trans (But.of s5))
    exact hz.nodup_iff.mpr ((hus.nodup_iff.mpr (by decide +kernel)).sublist (List.take_sublist _ _))
end
end V0

namespace V0
open PySem PySem.Spec PyProof.Rows L2
/-! ### lists of pairs, of which dicts are made -/
def PairsV (H : Hp) (D : Addr) (kvs : List (Key × V)) : Prop := ∃ ts : List Addr, H D = some (.lst (ts.map V.ref)) ∧ Paired (fun t (q : Key × V) => H t = some (.tup [kV q.1, q.2])) ts kvs
theorem paired_mono {α β : Type} {R S : α → β → Prop} : ∀ {xs : List α} {ys : List β}, (∀ a b, R a b → S a b) → Paired R xs ys → Paired S xs ys
  | _, _, _, .nil => .nil
  | _, _, h, .cons a b => .cons (h _ _ a) (paired_mono h b)
theorem paired_snoc {α β : Type} {R : α → β → Prop} {a : α} {b : β} : ∀ {xs : List α} {ys : List β}, Paired R xs ys → R a b → Paired R (xs ++ [a]) (ys ++ [b])
  | _, _, .nil, h => .cons h .nil
  | _, _, .cons a b, h => .cons a (paired_snoc b h)
theorem PairsV.same {H H' : Hp} {D : Addr} {kvs : List (Key × V)} (h : PairsV H D kvs) (s : Same H H') : PairsV H' D kvs := by
  obtain ⟨ts, h1, h2⟩ := h
  exact ⟨ts, s _ _ h1, paired_mono (fun _ _ e => s _ _ e) h2⟩
theorem PairsV.but {H H' : Hp} {D p : Addr} {kvs : List (Key × V)} {xs : List V} (h : PairsV H D kvs) (s : But p H H') (hp : H p = some (.lst xs)) (n : D ≠ p) : PairsV H' D kvs := by
  obtain ⟨ts, h1, h2⟩ := h
  exact ⟨ts, s _ _ h1 n, paired_mono (fun t _ e => s _ _ e (ne_of e hp fun z => nomatch z)) h2⟩
theorem PairsV.nil {H : Hp} {D : Addr} (h : H D = some (.lst [])) : PairsV H D [] := ⟨[], h, .nil⟩
/-- one pair more -/
theorem PairsV.step {H : Hp} {D t : Addr} {kvs : List (Key × V)} {k : Key} {v : V} (h : PairsV H D kvs) (ht : H t = none) :
    ∃ acc, (upd H t (.tup [kV k, v])) D = some (.lst acc) ∧ acc.length = kvs.length ∧ PairsV (upd (upd H t (.tup [kV k, v])) D (.lst (acc ++ [.ref t]))) D (kvs ++ [(k, v)]) := by
  obtain ⟨ts, h1, h2⟩ := h
  have s := Same.new (o := .tup [kV k, v]) ht
  refine ⟨ts.map V.ref, s _ _ h1, by rw [List.length_map]; exact h2.length, ts ++ [t], by rw [upd_same, List.map_append]; rfl, ?_⟩
  refine paired_snoc (paired_mono (fun b q e => ?_) h2) ?_
  · rw [upd_ne (ne_of e h1 fun z => nomatch z)]
    exact s _ _ e
  · rw [upd_ne (ne_of_none h1 ht).symm, upd_same]
theorem mergeK_app : ∀ (more kvs : List (Key × V)), (kvs.map (·.1) ++ more.map (·.1)).Nodup → mergeK kvs more = kvs ++ more
  | [], kvs, _ => by simp [mergeK]
  | p :: more, kvs, h => by
    have hn : p.1 ∉ kvs.map (·.1) := fun z => by
      have := (List.nodup_append.mp h).2.2 _ z p.1 (by simp)
      exact this rfl
    have put : ∀ l : List (Key × V), p.1 ∉ l.map (·.1) → putK l p.1 p.2 = l ++ [p] := fun l hq => by
      have h1 : (l.any fun kv => decide (kv.1 = p.1)) = false := by
        rw [List.any_eq_false]
        intro q hm z
        exact hq (List.mem_map.mpr ⟨q, hm, of_decide_eq_true z⟩)
      unfold putK
      rw [if_neg (by rw [h1]; exact Bool.false_ne_true)]
    show mergeK (putK kvs p.1 p.2) more = _
    rw [put kvs hn, mergeK_app more (kvs ++ [p]) (by simpa using h)]
    simp
theorem mergeK_nil {kvs : List (Key × V)} (h : (kvs.map (·.1)).Nodup) : mergeK [] kvs = kvs := mergeK_app kvs [] (by simpa using h)
theorem kvs_nd {ps : Bag} (h : (nms ps).Nodup) : ((kvs ps).map (·.1)).Nodup := by
  rw [kvs_keys]
  exact List.Pairwise.map _ (fun a b e z => e (Sum.inr.inj z)) h
/-- what dict(..) asks of the list -/
theorem PairsV.dict {K : PySem.W.Frag} {H : Hp} {D : Addr} {kvs : List (Key × V)} {Q : VK} (h : PairsV H D kvs) (nd : (kvs.map (·.1)).Nodup) (k : ∀ p, H p = none → Q (.ref p) (upd H p (.dK kvs))) :
    ∃ (a : Addr) (ps : List Addr) (qs : List (Key × V)), [V.ref D] = [.ref a] ∧ SqL K H a (ps.map V.ref) ∧ Paired (fun p kv => SqT K H p [kV kv.1, kv.2]) ps qs ∧ ∀ p, H p = none → Q (.ref p) (upd H p (.dK (mergeK [] qs))) := by
  obtain ⟨ts, h1, h2⟩ := h
  exact ⟨D, ts, kvs, rfl, SqL.of h1, paired_mono (fun _ _ e => SqT.of e) h2, by rw [mergeK_nil nd]; exact k⟩
/-! ### the law's numbers -/
def spNumber : Sp := fun vs H Q _ => ∃ (p : Addr), vs = [.ref p] ∧ Pot H p ∧ ∀ (r : Int) (H' : Hp), r.natAbs < 10 ^ 30 → Pot H' p → But p H H' → Q (.int r) H'
section
variable {P : Program} {w : World} {K : PySem.W.Frag} {mg : Str → Option Value} {base : Heap}
abbrev s_number : Stmt := top 36
abbrev N_number : List Str := ["_law_pot_here", "_law_way", "_law_great"]
abbrev P_number : List Str := ["_law_pot_here"]
theorem sc_number : FnScope N_number P_number (defScope s_number) := ⟨rfl, rfl, rfl, by decide +kernel, rfl, by decide +kernel, by decide +kernel⟩
theorem ok_number {f f1 : Addr} {fd fd1 : FuncData} (B : Bl mg) (D_stir : Df K mg "_law_stir" s_stir P_stir f1 fd1) (D : Df K mg "_law_number" s_number P_number f fd) : FnOk P w K mg base CX0 2 f fd P_number spNumber := by
  have G_stir : FnOk P w K mg base CX0 1 f1 fd1 P_stir spStir := ok_stir B D_stir
  refine D.F.ok sc_number (fun vs H Q E h => ?_) (fun cdv A outer s H vs Q E hr h => ?_)
  · obtain ⟨p, rfl, _⟩ := h
    rfl
  · obtain ⟨p, rfl, hp, k⟩ := h
    refine ⟨_, (pss_cons (ps_set (i := 1) sc_number.nd rfl (Or.inl rfl) (pe_call G_stir (hr.mono (by decide)) (by rfl) D_stir.g D_stir.F.kp D_stir.b .nil pass0 (pa_cons (pv 0) (pa_cons pe_int pa_nil))))
      (pss_cons (ps_if (pt_cmpR op_lt (pv 1) pe_int (nomark _)) (pss_one (ps_ret (pe_op op_sub (pe_call G_stir (hr.mono (by decide)) (by rfl) D_stir.g D_stir.F.kp D_stir.b .nil pass0 (pa_cons (pv 0) (pa_cons pe_int pa_nil))) pe_int))) pss_nil)
      (pss_cons (ps_set (i := 2) sc_number.nd rfl (Or.inl rfl) (pe_op op_add (pe_op op_mul (pe_call G_stir (hr.mono (by decide)) (by rfl) D_stir.g D_stir.F.kp D_stir.b .nil pass0 (pa_cons (pv 0) (pa_cons (pe_op op_pow pe_int pe_int) pa_nil))) (pe_op op_pow pe_int pe_int)) (pe_call G_stir (hr.mono (by decide)) (by rfl) D_stir.g D_stir.F.kp D_stir.b .nil pass0 (pa_cons (pv 0) (pa_cons (pe_op op_pow pe_int pe_int) pa_nil)))))
      (pss_one (ps_ret (pe_ifExp (pt_cmpR op_eq (pv 1) pe_int (nomark _)) (pv 2) (pe_op op_sub pe_int (pv 2)))))))), ?_⟩
    refine ⟨_, rfl, p, 6, rfl, hp, by omega, by omega, fun r H1 r0 r1 p1 b1 => ?_⟩
    refine ⟨_, rfl, _, _, rfl, rfl, _, rfl, ite2 (fun e => ?_) (fun e => ?_)⟩
    · refine ⟨_, rfl, p, 9, rfl, p1, by omega, by omega, fun q H2 q0 q1 p2 b2 => ?_⟩
      exact ⟨_, _, rfl, rfl, k _ _ (by omega) p2 (b1.trans b2)⟩
    · refine ⟨_, rfl, _, _, rfl, rfl, ⟨by decide, by decide, by decide⟩, ?_⟩
      have t15 : (10 : Int) ^ Int.toNat 15 = 1000000000000000 := by decide +kernel
      refine ⟨p, _, rfl, p1, by rw [t15]; decide, by rw [t15]; decide, fun q H2 q0 q1 p2 b2 => ?_⟩
      rw [t15] at q1
      refine ⟨_, _, rfl, rfl, ⟨by decide, by decide, by decide⟩, _, _, rfl, rfl, .inl ⟨by omega, by omega⟩, ?_⟩
      refine ⟨_, rfl, _, _, rfl, rfl, ⟨by decide, by decide, by decide⟩, p, _, rfl, p2, by rw [t15]; decide, by rw [t15]; decide, fun q2 H3 z0 z1 p3 b3 => ?_⟩
      rw [t15] at z1 ⊢
      have bb := (b1.trans b2).trans b3
      refine ⟨_, _, rfl, rfl, _, rfl, rfl, _, rfl, ite2 (fun _ => ?_) (fun _ => ?_)⟩
      · exact ⟨_, rfl, k _ _ (by omega) p3 bb⟩
      · exact ⟨_, rfl, _, _, rfl, rfl, k _ _ (by omega) p3 bb⟩
end
end V0

namespace V0
open PySem PySem.Spec PyProof.Rows L2
/-- what the law draws for a charge -/
structure S8 (ps : Bag) (u : Int) : Prop where
  asc : (nms ps).Pairwise (fun a b => a.cps.toList < b.cps.toList)
  sub : ∀ z ∈ nms ps, z ∈ wordsL
  nm : ∀ z ∈ nms ps, nameB (.str z) = true ∧ z.length ≤ 8
  nb : ∀ p ∈ ps, p.2.natAbs < 10 ^ 40
  l1 : 1 ≤ ps.length
  l8 : ps.length ≤ 8
  u0 : 0 < u
  ub : u < 10 ^ 10
def SomeAt (H : Hp) (a : Addr) (ps : Bag) (u : Int) : Prop := ∃ d, H a = some (.tup [.ref d, .int u]) ∧ H d = some (.dK (kvs ps))
theorem SomeAt.same {H H' : Hp} {a : Addr} {ps : Bag} {u : Int} (h : SomeAt H a ps u) (s : Same H H') : SomeAt H' a ps u := by
  obtain ⟨d, h1, h2⟩ := h
  exact ⟨d, s _ _ h1, s _ _ h2⟩
theorem SomeAt.but {H H' : Hp} {a p : Addr} {ps : Bag} {u : Int} (h : SomeAt H a ps u) (s : But p H H') (hp : Pot H p) : SomeAt H' a ps u := by
  obtain ⟨_, _, _, hp, _⟩ := hp
  obtain ⟨d, h1, h2⟩ := h
  exact ⟨d, s _ _ h1 (ne_of h1 hp fun z => nomatch z), s _ _ h2 (ne_of h2 hp fun z => nomatch z)⟩
def spSums : Sp := fun vs H Q _ => ∃ (p l : Addr) (zs : List Str), vs = [.ref p, .ref l] ∧ Pot H p ∧ H l = some (tupS zs) ∧ zs.Nodup ∧ zs.length ≤ 8 ∧
  ∀ (a : Addr) (ps : Bag) (u : Int) (H' : Hp), nms ps = zs → (∀ q ∈ ps, q.2.natAbs < 10 ^ 30) → 0 < u → u < 10 ^ 10 → SomeAt H' a ps u → Pot H' p → But p H H' → Q (.ref a) H'
section
variable {P : Program} {w : World} {K : PySem.W.Frag} {mg : Str → Option Value} {base : Heap}
/-- the state of a walk that draws a number for each thing -/
def Dw (H : Hp) (p D : Addr) (zs : List Str) (i : Nat) (H' : Hp) : Prop := Pot H' p ∧ But p H H' ∧ ∃ ps : Bag, nms ps = zs.take i ∧ (∀ q ∈ ps, q.2.natAbs < 10 ^ 30) ∧ PairsV H' D (kvs ps)
theorem dw0 {H : Hp} {p D : Addr} {zs : List Str} (hp : Pot H p) (hD : H D = none) : Dw H p D zs 0 (upd H D (.lst [])) :=
  ⟨hp.same (Same.new hD), But.new hD, [], rfl, fun _ h => (by simp at h), PairsV.nil upd_same⟩
theorem dw1 {H H1 H2 : Hp} {p D t : Addr} {zs : List Str} {i : Nat} {z : Str} {r : Int} (hD : H D = none) (hz : zs[i]? = some z) (h : Dw H p D zs i H1) (nDp : D ≠ p) (hp : Pot H p) (p2 : Pot H2 p) (b2 : But p H1 H2) (hr : r.natAbs < 10 ^ 30) (ht : H2 t = none) (l8 : zs.length ≤ 8) :
    ∃ acc, (upd H2 t (.tup [.str z, .int r])) D = some (.lst acc) ∧ acc.length < sizeLine ∧ Dw H p D zs (i + 1) (upd (upd H2 t (.tup [.str z, .int r])) D (.lst (acc ++ [.ref t]))) := by
  obtain ⟨p1, b1, ps, e1, e2, e3⟩ := h
  obtain ⟨_, _, _, hp1, _⟩ := p1
  obtain ⟨acc, a1, a2, a3⟩ := (e3.but b2 hp1 nDp).step (k := .inr z) (v := .int r) ht
  have ln : ps.length ≤ 8 := by
    have := congrArg List.length e1
    rw [nms_len, List.length_take] at this
    omega
  refine ⟨acc, a1, by rw [a2, kvs_len, sizeLine_eq]; omega, ?_, ?_, ps ++ [(z, r)], ?_, ?_, ?_⟩
  · have := p2.same (Same.new (o := .tup [.str z, .int r]) ht)
    exact this.but But.upd nDp.symm
  · intro b o e hb
    have hbD : b ≠ D := fun q => by rw [q, hD] at e; cases e
    rw [upd_ne hbD]
    have e' := b2 _ _ (b1 _ _ e hb) hb
    exact Same.new (o := .tup [.str z, .int r]) ht _ _ e'
  · rw [List.take_add_one, hz, ← e1]
    unfold nms
    rw [List.map_append]
    rfl
  · intro q hq
    rcases List.mem_append.mp hq with hq | hq
    · exact e2 q hq
    · rw [List.mem_singleton] at hq
      subst hq
      exact hr
  · have : kvs (ps ++ [(z, r)]) = kvs ps ++ [(.inr z, .int r)] := by unfold kvs; rw [List.map_append]; rfl
    rw [this]
    exact a3
abbrev s_sums : Stmt := top 37
abbrev N_sums : List Str := ["_law_pot_here", "_law_things", "_law_way", "_law_one"]
abbrev P_sums : List Str := ["_law_pot_here", "_law_things"]
theorem sc_sums : FnScope N_sums P_sums (defScope s_sums) := ⟨rfl, rfl, rfl, by decide +kernel, rfl, by decide +kernel, by decide +kernel⟩
theorem ok_sums {f f1 f2 f3 : Addr} {fd fd1 fd2 fd3 : FuncData} (B : Bl mg) (D_stir : Df K mg "_law_stir" s_stir P_stir f1 fd1) (D_one_of : Df K mg "_law_one_of" s_one_of P_one_of f2 fd2) (D_number : Df K mg "_law_number" s_number P_number f3 fd3) (D : Df K mg "_law_sums" s_sums P_sums f fd) : FnOk P w K mg base CX0 3 f fd P_sums spSums := by
  have G_stir : FnOk P w K mg base CX0 1 f1 fd1 P_stir spStir := ok_stir B D_stir
  have G_one_of : FnOk P w K mg base CX0 2 f2 fd2 P_one_of (spOneOf K) := ok_one_of B D_stir D_one_of
  have G_number : FnOk P w K mg base CX0 2 f3 fd3 P_number spNumber := ok_number B D_stir D_number
  refine D.F.ok sc_sums (fun vs H Q E h => ?_) (fun cdv A outer s H vs Q E hr h => ?_)
  · obtain ⟨p, l, zs, rfl, _⟩ := h
    rfl
  · obtain ⟨p, l, zs, rfl, hp, hl, nd, l8, k⟩ := h
    refine ⟨_, (pss_cons (ps_set (i := 2) sc_sums.nd rfl (Or.inl rfl) (pe_call G_stir (hr.mono (by decide)) (by rfl) D_stir.g D_stir.F.kp D_stir.b .nil pass0 (pa_cons (pv 0) (pa_cons pe_int pa_nil))))
      (pss_cons (ps_if (pt_cmpR op_eq (pv 2) pe_int (nomark _)) (pss_one (ps_ret (pe_tup (pa_cons (pe_callTy (call_dictP rfl) (by rfl) B.b_dict (by decide +kernel) (pa_cons (pe_lc (own := [("_law_one", 3)]) (g := gName 3) (tt := tYes) rfl sc_sums.nd (pi_tup (pv 1)) (blkOk_by (own := [("_law_one", 3)]) (N := N_sums) (sc := defScope s_sums) (by decide +kernel)) (fun _ _ _ _ _ => (pg_name (i := 3) sc_sums.nd rfl (Or.inl rfl))) (fun _ _ _ _ _ => pts_nil) (fun _ _ _ _ _ => (pe_tup (pa_cons (pv 3) (pa_cons (pe_call G_stir (hr.mono (by decide)) (by rfl) D_stir.g D_stir.F.kp D_stir.b .nil pass0 (pa_cons (pv 0) (pa_cons pe_int pa_nil))) pa_nil))))) pa_nil)) (pa_cons pe_int pa_nil))))) pss_nil)
      (pss_cons (ps_if (pt_cmpR op_eq (pv 2) pe_int (nomark _)) (pss_one (ps_ret (pe_tup (pa_cons (pe_callTy (call_dictP rfl) (by rfl) B.b_dict (by decide +kernel) (pa_cons (pe_lc (own := [("_law_one", 3)]) (g := gName 3) (tt := tYes) rfl sc_sums.nd (pi_tup (pv 1)) (blkOk_by (own := [("_law_one", 3)]) (N := N_sums) (sc := defScope s_sums) (by decide +kernel)) (fun _ _ _ _ _ => (pg_name (i := 3) sc_sums.nd rfl (Or.inl rfl))) (fun _ _ _ _ _ => pts_nil) (fun _ _ _ _ _ => (pe_tup (pa_cons (pv 3) (pa_cons (pe_call G_stir (hr.mono (by decide)) (by rfl) D_stir.g D_stir.F.kp D_stir.b .nil pass0 (pa_cons (pv 0) (pa_cons pe_int pa_nil))) pa_nil))))) pa_nil)) (pa_cons (pe_op op_add pe_int (pe_call G_stir (hr.mono (by decide)) (by rfl) D_stir.g D_stir.F.kp D_stir.b .nil pass0 (pa_cons (pv 0) (pa_cons pe_int pa_nil)))) pa_nil))))) pss_nil)
      (pss_one (ps_ret (pe_tup (pa_cons (pe_callTy (call_dictP rfl) (by rfl) B.b_dict (by decide +kernel) (pa_cons (pe_lc (own := [("_law_one", 3)]) (g := gName 3) (tt := tYes) rfl sc_sums.nd (pi_tup (pv 1)) (blkOk_by (own := [("_law_one", 3)]) (N := N_sums) (sc := defScope s_sums) (by decide +kernel)) (fun _ _ _ _ _ => (pg_name (i := 3) sc_sums.nd rfl (Or.inl rfl))) (fun _ _ _ _ _ => pts_nil) (fun _ _ _ _ _ => (pe_tup (pa_cons (pv 3) (pa_cons (pe_call G_number (hr.mono (by decide)) (by rfl) D_number.g D_number.F.kp D_number.b .nil pass0 (pa_cons (pv 0) pa_nil)) pa_nil))))) pa_nil)) (pa_cons (pe_op op_add pe_int (pe_call G_stir (hr.mono (by decide)) (by rfl) D_stir.g D_stir.F.kp D_stir.b .nil pass0 (pa_cons (pv 0) (pa_cons (pe_call G_one_of (hr.mono (by decide)) (by rfl) D_one_of.g D_one_of.F.kp D_one_of.b .nil pass0 (pa_cons (pv 0) (pa_cons (pe_lst (pa_cons pe_int (pa_cons pe_int (pa_cons (pe_op op_pow pe_int pe_int) pa_nil)))) pa_nil))) pa_nil)))) pa_nil)))))))), ?_⟩
    have nlp : l ≠ p := by
      obtain ⟨_, _, _, hp, _⟩ := hp
      exact ne_of hl hp fun z => nomatch z
    refine ⟨_, rfl, p, 4, rfl, hp, by omega, by omega, fun r H1 r0 r1 p1 b1 => ?_⟩
    have hl1 := b1 _ _ hl nlp
    -- the end: a dict out of the pairs, a number
    have fin : ∀ (D : Addr) (H2 : Hp), H1 D = none → Dw H1 p D zs zs.length H2 → ∀ (u : Int) (H3 : Hp) (d a : Addr), H2 d = none → 0 < u → u < 10 ^ 10 →
        (∃ ps : Bag, nms ps = zs ∧ (∀ q ∈ ps, q.2.natAbs < 10 ^ 30) ∧ H3 d = some (.dK (kvs ps))) → Pot H3 p → But p H2 H3 → H3 a = none → Q (.ref a) (upd H3 a (.tup [.ref d, .int u])) := by
      rintro D H2 hD ⟨p2, b2, _⟩ u H3 d a hd hu hub ⟨ps, e1, e2, e3⟩ p3 b3 ha
      have s4 := Same.new (o := .tup [.ref d, .int u]) ha
      exact k a ps u _ e1 e2 hu hub ⟨d, upd_same, s4 _ _ e3⟩ (p3.same s4) (((b1.trans b2).trans b3).trans (But.of s4))
    have mk : ∀ (D : Addr) (H2 : Hp), Dw H1 p D zs zs.length H2 →
        ∃ (ts : List Addr) (ps : Bag), nms ps = zs ∧ (∀ q ∈ ps, q.2.natAbs < 10 ^ 30) ∧ SqL K H2 D (ts.map V.ref) ∧ Paired (fun p (kv : Key × V) => SqT K H2 p [kV kv.1, kv.2]) ts (kvs ps) ∧ mergeK [] (kvs ps) = kvs ps := by
      rintro D H2 ⟨p2, b2, ps, e1, e2, ts, t1, t2⟩
      rw [List.take_length] at e1
      exact ⟨ts, ps, e1, e2, SqL.of t1, paired_mono (fun _ _ e => SqT.of e) t2, mergeK_nil (kvs_nd (by rw [e1]; exact nd))⟩
    have item : ∀ {i : Nat} {x : V}, ((zs.map V.str)[i]? = some x) → ∃ z, zs[i]? = some z ∧ x = .str z := fun {i x} h => by
      rw [List.getElem?_map] at h
      cases e : zs[i]? with
      | none => rw [e] at h; cases h
      | some z => rw [e] at h; injection h with h; exact ⟨z, rfl, h.symm⟩
    refine ⟨_, rfl, rfl, _, rfl, ite2 (fun _ => ?_) (fun _ => ?_)⟩
    · refine ⟨_, rfl, l, rfl, ⟨_, SqT.of hl1⟩, fun D hD => ?_⟩
      have nDp := pot_ne p1 hD
      refine lc_it (walk_tup (xs := zs.map V.str)) (fun i H' => Dw H1 p D zs i H') (dw0 p1 hD) (fun i H' _ ⟨q1, q2, _⟩ => SqT.of (q2 _ _ hl1 nlp)) ?_ ?_
      · rintro i x H2 H3 hi dw ⟨rfl, hx⟩
        obtain ⟨z, hz, rfl⟩ := item hx
        refine ⟨rfl, _, rfl, _, rfl, p, 2, rfl, dw.1, by omega, by omega, fun q H4 q0 q1 p4 b4 => ⟨by show 2 ≤ sizeLine; decide, fun t ht => ?_⟩⟩
        exact dw1 hD hz dw nDp p1 p4 b4 (by omega) ht l8
      · intro H2 dw
        rw [List.length_map] at dw
        obtain ⟨ts, ps, e1, e2, t1, t2, t3⟩ := mk D H2 dw
        refine ⟨D, ts, kvs ps, rfl, t1, t2, fun d hd => ?_⟩
        rw [t3]
        have s3 := Same.new (o := .dK (kvs ps)) hd
        exact ⟨by show 2 ≤ sizeLine; decide, fun a ha => fin D H2 hD dw 1 _ d a hd (by decide) (by decide) ⟨ps, e1, e2, upd_same⟩ (dw.1.same s3) (But.of s3) ha⟩
    refine ⟨_, rfl, rfl, _, rfl, ite2 (fun _ => ?_) (fun _ => ?_)⟩
    · refine ⟨_, rfl, l, rfl, ⟨_, SqT.of hl1⟩, fun D hD => ?_⟩
      have nDp := pot_ne p1 hD
      refine lc_it (walk_tup (xs := zs.map V.str)) (fun i H' => Dw H1 p D zs i H') (dw0 p1 hD) (fun i H' _ ⟨q1, q2, _⟩ => SqT.of (q2 _ _ hl1 nlp)) ?_ ?_
      · rintro i x H2 H3 hi dw ⟨rfl, hx⟩
        obtain ⟨z, hz, rfl⟩ := item hx
        refine ⟨rfl, _, rfl, _, rfl, p, 5, rfl, dw.1, by omega, by omega, fun q H4 q0 q1 p4 b4 => ⟨by show 2 ≤ sizeLine; decide, fun t ht => ?_⟩⟩
        exact dw1 hD hz dw nDp p1 p4 b4 (by omega) ht l8
      · intro H2 dw
        rw [List.length_map] at dw
        obtain ⟨ts, ps, e1, e2, t1, t2, t3⟩ := mk D H2 dw
        refine ⟨D, ts, kvs ps, rfl, t1, t2, fun d hd => ?_⟩
        rw [t3]
        have s3 := Same.new (o := .dK (kvs ps)) hd
        have p3 := dw.1.same s3
        have ed : (upd H2 d (.dK (kvs ps))) d = some (.dK (kvs ps)) := upd_same
        generalize upd H2 d (.dK (kvs ps)) = H3 at s3 p3 ed
        refine ⟨_, rfl, p, 4, rfl, p3, by omega, by omega, fun q H4 q0 q1 p4 b4 => ⟨_, _, rfl, rfl, by show 2 ≤ sizeLine; decide, fun a ha => ?_⟩⟩
        obtain ⟨_, _, _, hp3, _⟩ := p3
        exact fin D H2 hD dw (1 + q) _ d a hd (by omega) (by omega) ⟨ps, e1, e2, b4 _ _ ed (ne_of ed hp3 fun z => nomatch z)⟩ p4 ((But.of s3).trans b4) ha
    · refine ⟨_, rfl, l, rfl, ⟨_, SqT.of hl1⟩, fun D hD => ?_⟩
      have nDp := pot_ne p1 hD
      refine lc_it (walk_tup (xs := zs.map V.str)) (fun i H' => Dw H1 p D zs i H') (dw0 p1 hD) (fun i H' _ ⟨q1, q2, _⟩ => SqT.of (q2 _ _ hl1 nlp)) ?_ ?_
      · rintro i x H2 H3 hi dw ⟨rfl, hx⟩
        obtain ⟨z, hz, rfl⟩ := item hx
        refine ⟨rfl, _, rfl, _, rfl, p, rfl, dw.1, fun q H4 q0 p4 b4 => ⟨by show 2 ≤ sizeLine; decide, fun t ht => ?_⟩⟩
        exact dw1 hD hz dw nDp p1 p4 b4 q0 ht l8
      · intro H2 dw
        rw [List.length_map] at dw
        obtain ⟨ts, ps, e1, e2, t1, t2, t3⟩ := mk D H2 dw
        refine ⟨D, ts, kvs ps, rfl, t1, t2, fun d hd => ?_⟩
        rw [t3]
        have s3 := Same.new (o := .dK (kvs ps)) hd
        have p3 := dw.1.same s3
        have ed : (upd H2 d (.dK (kvs ps))) d = some (.dK (kvs ps)) := upd_same
        generalize upd H2 d (.dK (kvs ps)) = H3 at s3 p3 ed
        have t9 : (10 : Int) ^ Int.toNat 9 = 1000000000 := by decide +kernel
        refine ⟨_, rfl, _, rfl, _, _, rfl, rfl, ⟨by decide, by decide, by decide⟩, by show 3 ≤ sizeLine; decide, fun o ho => ?_⟩
        have s4 := Same.new (o := .lst [.int 6, .int 12, .int ((10 : Int) ^ Int.toNat 9)]) ho
        refine ⟨p, .ref o, rfl, p3.same s4, .inl ⟨o, _, rfl, pot_ne p3 ho, upd_same, by simp, by show 3 ≤ 1000; decide, fun x hx H5 p5 b5 => ?_⟩⟩
        have hx' : ∃ n : Int, x = .int n ∧ 0 < n ∧ n ≤ 1000000000 := by
          dsimp only at hx
          rw [t9] at hx
          rcases List.mem_cons.mp hx with rfl | hx
          · exact ⟨_, rfl, by decide, by decide⟩
          rcases List.mem_cons.mp hx with rfl | hx
          · exact ⟨_, rfl, by decide, by decide⟩
          rw [List.mem_singleton] at hx
          exact ⟨_, hx, by decide, by decide⟩
        obtain ⟨n, rfl, n0, n1⟩ := hx'
        refine ⟨p, n, rfl, p5, n0, by omega, fun q H6 q0 q1 p6 b6 => ⟨_, _, rfl, rfl, by show 2 ≤ sizeLine; decide, fun a ha => ?_⟩⟩
        obtain ⟨_, _, _, hp3, _⟩ := p3
        have bb := ((But.of s4 (p := p)).trans b5).trans b6
        exact fin D H2 hD dw (1 + q) _ d a hd (by omega) (by omega) ⟨ps, e1, e2, bb _ _ ed (ne_of ed hp3 fun z => nomatch z)⟩ p6 ((But.of s3).trans bb) ha
end
end V0

namespace V0
open PySem PySem.Spec PyProof.Rows L2
theorem fg_pos' {i j : Int} (h : i ≠ 0 ∨ j ≠ 0) : 0 < fg i j := by
  unfold fg
  rcases h with h | h
  · have := Nat.gcd_pos_of_pos_left j.natAbs (show 0 < i.natAbs by omega); omega
  · have := Nat.gcd_pos_of_pos_right i.natAbs (show 0 < j.natAbs by omega); omega
def spPaid : Sp := fun vs H Q _ => ∃ (d g : Addr) (ps : Bag) (ys : List Str), vs = [.ref d, .ref g] ∧ H d = some (.dK (kvs ps)) ∧ H g = some (tupS ys) ∧ (∀ y ∈ ys, y ∈ nms ps) ∧ ys.length ≤ 1000 ∧
  ∀ H', Same H H' → Q (.int (sumB ps ys)) H'
/-- the least common multiple, step by step -/
def lcmL (ds : List Int) (f : Int) : Int := ds.foldl (fun f d => f * (d / fg f d)) f
def spCommon : Sp := fun vs H Q _ => ∃ (l : Addr) (ds : List Int), vs = [.ref l] ∧ H l = some (.lst (ds.map V.int)) ∧ (∀ d ∈ ds, 0 < d ∧ d < 2 ^ 64) ∧ ∀ H', Same H H' → Q (.int (lcmL ds 1)) H'
def spFracText : Sp := fun vs H Q _ => ∃ (a : Addr) (i j : Int), vs = [.ref a] ∧ H a = some (.tup [.int i, .int j]) ∧ i.natAbs < 10 ^ 64 ∧ j.natAbs < 10 ^ 64 ∧ Q (.str (ftx i j)) H
theorem log_txt {i : Int} (h : i.natAbs < 10 ^ 64) : i.natAbs.log2 < 1920 := by
  by_cases h0 : i.natAbs = 0
  · rw [h0]; decide
  · exact (Nat.log2_lt h0).mpr (Nat.lt_trans h (by decide +kernel))
section
variable {P : Program} {w : World} {K : PySem.W.Frag} {mg : Str → Option Value} {base : Heap}
abbrev s_low : Stmt := top 39
abbrev N_low : List Str := ["_law_top", "_law_bottom", "_law_first", "_law_second", "_law_sign"]
abbrev P_low : List Str := ["_law_top", "_law_bottom"]
theorem sc_low : FnScope N_low P_low (defScope s_low) := ⟨rfl, rfl, rfl, by decide +kernel, rfl, by decide +kernel, by decide +kernel⟩
theorem ok_low {f : Addr} {fd : FuncData} (B : Bl mg) (D : Df K mg "_law_low" s_low P_low f fd) : FnOk P w K mg base CX0 1 f fd P_low spFr := by
  refine D.F.ok sc_low (fun vs H Q E h => ?_) (fun cdv A outer s H vs Q E hr h => ?_)
  · obtain ⟨i, j, rfl, _⟩ := h
    rfl
  · obtain ⟨i, j, rfl, hj, hb, k⟩ := h
    refine ⟨_, (pss_cons (ps_par (i := 2) (j := 3) (by rfl) sc_low.nd rfl rfl (by decide) rfl rfl (pa_cons (pe_callB call_abs (by rfl) B.b_abs (by decide +kernel) (pa_cons (pv 0) pa_nil)) (pa_cons (pe_callB call_abs (by rfl) B.b_abs (by decide +kernel) (pa_cons (pv 1) pa_nil)) pa_nil)) (by rfl))
      (pss_cons (ps_while PassesOwn.never (pt_cmpR op_gt (pv 3) pe_int (nomark _)) (pss_one (ps_par (i := 2) (j := 3) (by rfl) sc_low.nd rfl rfl (by decide) rfl rfl (pa_cons (pv 3) (pa_cons (pe_op op_mod (pe_callTy call_int1 (by rfl) B.b_int (by decide +kernel) (pa_cons (pv 2) pa_nil)) (pv 3)) pa_nil)) (by rfl))))
      (pss_cons (ps_set (i := 4) sc_low.nd rfl (Or.inl rfl) (pe_ifExp (pt_cmpR op_gt (pv 1) pe_int (nomark _)) pe_int (pe_un un_neg pe_int)))
      (pss_one (ps_ret (pe_tup (pa_cons (pe_op op_mul (pe_callTy call_int1 (by rfl) B.b_int (by decide +kernel) (pa_cons (pe_op op_fdivZ (pv 0) (pv 2)) pa_nil)) (pv 4)) (pa_cons (pe_op op_mul (pe_callTy call_int1 (by rfl) B.b_int (by decide +kernel) (pa_cons (pe_op op_fdivZ (pv 1) (pv 2)) pa_nil)) (pv 4)) pa_nil)))))))), ?_⟩
    refine ⟨_, rfl, _, rfl, _, rfl, _, rfl, ?_⟩
    rw [abs_nn, abs_nn]
    refine ⟨_, _, rfl, ?_⟩
    have g0 := fg_pos (i := i) hj
    refine while_by (fun σ H' => H' = H ∧ ∃ a b : Nat, σ = [some (.int i), some (.int j), some (.int (a : Int)), some (.int (b : Int)), none] ∧ Nat.gcd a b = Nat.gcd i.natAbs j.natAbs) (fun σ _ => match σ with | [_, _, _, some (.int b), _] => b.natAbs | _ => 0) ⟨rfl, _, _, rfl, rfl⟩ ?_ ?_
    rotate_left
    · rintro σ H Q Q' hq ⟨v, h1, i, j, h2, h3, k, h4, h5⟩
      exact ⟨v, h1, i, j, h2, h3, k, h4, hq _ _ h5⟩
    rintro σ H' ⟨rfl, a, b, rfl, hg⟩
    refine ⟨_, rfl, _, _, rfl, rfl, _, rfl, ite2 (fun e => ?_) (fun e => ?_)⟩
    · have e' := of_decide_eq_true e
      have hb0 : 0 < b := by omega
      refine ⟨_, rfl, _, rfl, .inl ⟨_, rfl, _, rfl, _, _, rfl, rfl, e', ?_⟩⟩
      refine ⟨_, _, rfl, ⟨rfl, b, a % b, ?_, ?_⟩, ?_⟩
      · rw [Int.natCast_emod]; rfl
      · rw [← hg, Nat.gcd_comm a b]
        exact (Nat.gcd_comm _ _).trans (Nat.gcd_rec b a).symm
      · show (((a : Int) % (b : Int))).natAbs < ((b : Int)).natAbs
        rw [← Int.natCast_emod, Int.natAbs_natCast, Int.natAbs_natCast]
        exact Nat.mod_lt _ hb0
    · have e' : ¬ (0 : Int) < b := fun z => e (decide_eq_true z)
      have b0 : b = 0 := by omega
      subst b0
      rw [Nat.gcd_zero_right] at hg
      have ea : (a : Int) = fg i j := by rw [hg]; rfl
      rw [ea]
      have hz : CDivZ i (fg i j) ∧ CDivZ j (fg i j) := by
        have h1 : (fg i j).natAbs < 2 ^ 3000 := by
          have := gcd_le (i := i) (j := j) (by omega)
          show ((Nat.gcd i.natAbs j.natAbs : Nat) : Int).natAbs < _
          rw [Int.natAbs_natCast]
          omega
        exact ⟨div_z _ (by omega) h1 (by decide) (by decide), div_z _ (by omega) h1 (by decide) (by decide)⟩
      refine ⟨_, rfl, _, _, rfl, rfl, _, rfl, ite2 (fun _ => ?_) (fun z => absurd (decide_eq_true hj) z)⟩
      refine ⟨_, rfl, _, rfl, _, _, rfl, rfl, hz.1, .inl ⟨_, rfl, _, rfl, _, _, rfl, rfl, .inr ⟨by decide, by decide⟩, ?_⟩⟩
      refine ⟨_, rfl, _, rfl, _, _, rfl, rfl, hz.2, .inl ⟨_, rfl, _, rfl, _, _, rfl, rfl, .inr ⟨by decide, by decide⟩, by show 2 ≤ sizeLine; decide, fun p hp => ?_⟩⟩
      have q := k p hp
      rw [← Int.fdiv_eq_ediv_of_nonneg _ (show 0 ≤ fg i j by omega), ← Int.fdiv_eq_ediv_of_nonneg _ (show 0 ≤ fg i j by omega)] at q
      dsimp only
      rw [Int.mul_one, Int.mul_one]
      exact q
abbrev s_paid : Stmt := top 40
abbrev N_paid : List Str := ["_law_pays", "_law_group", "_law_one"]
abbrev P_paid : List Str := ["_law_pays", "_law_group"]
theorem sc_paid : FnScope N_paid P_paid (defScope s_paid) := ⟨rfl, rfl, rfl, by decide +kernel, rfl, by decide +kernel, by decide +kernel⟩
theorem ok_paid {f : Addr} {fd : FuncData} (B : Bl mg) (D : Df K mg "_law_paid" s_paid P_paid f fd) : FnOk P w K mg base CX0 1 f fd P_paid spPaid := by
  refine D.F.ok sc_paid (fun vs H Q E h => ?_) (fun cdv A outer s H vs Q E hr h => ?_)
  · obtain ⟨d, g, ps, ys, rfl, _⟩ := h
    rfl
  · obtain ⟨d, g, ps, ys, rfl, hd, hg, hin, hlen, k⟩ := h
    refine ⟨_, (pss_one (ps_ret (pe_callB (cr_sum rfl) (by rfl) B.b_sum (by decide +kernel) (pa_cons (pe_lc (own := [("_law_one", 2)]) (g := gName 2) (tt := tYes) rfl sc_paid.nd (pi_tup (pv 1)) (blkOk_by (own := [("_law_one", 2)]) (N := N_paid) (sc := defScope s_paid) (by decide +kernel)) (fun _ _ _ _ _ => (pg_name (i := 2) sc_paid.nd rfl (Or.inl rfl))) (fun _ _ _ _ _ => pts_nil) (fun _ _ _ _ _ => (show PE _ _ (tDGet (tVar 0) (tVar 2)) from by exact (pe_dget (hu_of hr) (pv 0) (pv 2) (fun _ _ => rfl))))) pa_nil)))), ?_⟩
    have hz : (1000 : Nat) ≤ sizeLine := by decide
    refine ⟨_, rfl, g, rfl, ⟨_, SqT.of hg⟩, fun L hL => ?_⟩
    refine lc_it (walk_tup (xs := ys.map V.str)) (fun i H' => Same H H' ∧ H' L = some (.lst (((ys.take i).map (look ps)).map V.int))) ⟨Same.new hL, upd_same⟩ (fun i H' _ ⟨s1, _⟩ => SqT.of (s1 _ _ hg)) ?_ ?_
    · rintro i x H1 H2 hi ⟨s1, e1⟩ ⟨rfl, hx⟩
      rw [List.length_map] at hi
      have hy : ys[i]? = some ys[i] := List.getElem?_eq_getElem hi
      rw [List.getElem?_map, hy] at hx
      injection hx with hx
      subst hx
      refine ⟨rfl, _, rfl, _, rfl, d, _, rfl, DGet.bag (.inl (s1 _ _ hd)) (hin _ (List.getElem_mem hi)), _, e1, ?_, ?_, ?_⟩
      · rw [List.length_map, List.length_map, List.length_take]
        omega
      · exact fun b o e => by rw [upd_ne (ne_of_none e hL)]; exact s1 b o e
      · rw [upd_same, take_map_succ _ hy, List.map_append]
        rfl
    · rintro H1 ⟨s1, e1⟩
      rw [List.length_map, List.take_length] at e1
      exact ⟨L, _, rfl, SqL.of e1, k H1 s1⟩
abbrev s_lfraction_text : Stmt := top 42
abbrev N_lfraction_text : List Str := ["_law_pair"]
abbrev P_lfraction_text : List Str := ["_law_pair"]
theorem sc_lfraction_text : FnScope N_lfraction_text P_lfraction_text (defScope s_lfraction_text) := ⟨rfl, rfl, rfl, by decide +kernel, rfl, by decide +kernel, by decide +kernel⟩
theorem ok_lfr_text {f : Addr} {fd : FuncData} (B : Bl mg) (D : Df K mg "_law_fraction_text" s_lfraction_text P_lfraction_text f fd) : FnOk P w K mg base CX0 1 f fd P_lfraction_text spFracText := by
  refine D.F.ok sc_lfraction_text (fun vs H Q E h => ?_) (fun cdv A outer s H vs Q E hr h => ?_)
  · obtain ⟨a, i, j, rfl, _⟩ := h
    rfl
  · obtain ⟨a, i, j, rfl, ha, hi, hj, k⟩ := h
    refine ⟨_, (pss_one (ps_ret (pe_ifExp (pt_cmpR op_eq (pe_ix ix_tup (pv 0) pe_int (fun _ _ => rfl)) pe_int (nomark _)) (pe_callTy call_str_int (by rfl) B.b_str (by decide +kernel) (pa_cons (pe_ix ix_tup (pv 0) pe_int (fun _ _ => rfl)) pa_nil)) (pe_op op_add_str (pe_op op_add_str (pe_callTy call_str_int (by rfl) B.b_str (by decide +kernel) (pa_cons (pe_ix ix_tup (pv 0) pe_int (fun _ _ => rfl)) pa_nil)) pe_str) (pe_callTy call_str_int (by rfl) B.b_str (by decide +kernel) (pa_cons (pe_ix ix_tup (pv 0) pe_int (fun _ _ => rfl)) pa_nil)))))), ?_⟩
    have l1 := itx_len hi
    have l2 := itx_len hj
    refine ⟨_, rfl, a, _, 1, .int j, rfl, rfl, SqT.of ha, rfl, rfl, _, rfl, ite2 (fun e => ?_) (fun e => ?_)⟩
    · have e' : j = 1 := by have := of_decide_eq_true e; injection this
      rw [ftx, if_pos e'] at k
      exact ⟨_, rfl, a, _, 0, .int i, rfl, rfl, SqT.of ha, rfl, _, rfl, log_txt hi, k⟩
    · have e' : ¬ j = 1 := fun z => e (decide_eq_true (by rw [z]))
      rw [ftx, if_neg e'] at k
      refine ⟨_, rfl, a, _, 0, .int i, rfl, rfl, SqT.of ha, rfl, ?_⟩
      have l3 : (Str.ofString "/").length = 1 := by decide +kernel
      refine ⟨_, rfl, log_txt hi, _, _, rfl, rfl, by show (itx i).length + _ ≤ _; rw [l3, sizeLine_eq]; omega, _, rfl, a, _, 1, .int j, rfl, rfl, SqT.of ha, rfl, _, rfl, log_txt hj, _, _, rfl, rfl, ?_, k⟩
      show (itx i ++ Str.ofString "/").length + (itx j).length ≤ _
      rw [PySem.Str.length_append, l3, sizeLine_eq]
      omega
abbrev s_common : Stmt := top 41
abbrev N_common : List Str := ["_law_bottoms", "_law_found", "_law_one"]
abbrev P_common : List Str := ["_law_bottoms"]
theorem sc_common : FnScope N_common P_common (defScope s_common) := ⟨rfl, rfl, rfl, by decide +kernel, rfl, by decide +kernel, by decide +kernel⟩
theorem ok_common {f f1 : Addr} {fd fd1 : FuncData} (B : Bl mg) (D_low : Df K mg "_law_low" s_low P_low f1 fd1) (D : Df K mg "_law_common" s_common P_common f fd) : FnOk P w K mg base CX0 2 f fd P_common spCommon := by
  have G_low : FnOk P w K mg base CX0 1 f1 fd1 P_low spFr := ok_low B D_low
  refine D.F.ok sc_common (fun vs H Q E h => ?_) (fun cdv A outer s H vs Q E hr h => ?_)
  · obtain ⟨l, ds, rfl, _⟩ := h
    rfl
  · obtain ⟨l, ds, rfl, hl, hd, k⟩ := h
    refine ⟨_, (pss_cons (ps_set (i := 1) sc_common.nd rfl (Or.inl rfl) pe_int)
      (pss_cons (ps_for PassesOwn.never rfl (pi_list (pv 0)) (pg_name (i := 2) sc_common.nd rfl (Or.inl rfl)) (pss_one (ps_set (i := 1) sc_common.nd rfl (Or.inl rfl) (pe_op op_mul (pv 1) (pe_ix ix_tup (pe_call G_low (hr.mono (by decide)) (by rfl) D_low.g D_low.F.kp D_low.b .nil pass0 (pa_cons (pv 1) (pa_cons (pv 2) pa_nil))) pe_int (fun _ _ => rfl))))))
      (pss_one (ps_ret (pv 1))))), ?_⟩
    refine ⟨_, rfl, l, rfl, ⟨_, SqL.of hl⟩, ?_⟩
    refine for_it (walk_list (xs := ds.map V.int)) (fun i σ H' => Same H H' ∧ ∃ o, σ = [some (.ref l), some (.int (lcmL (ds.take i) 1)), o]) ⟨fun _ _ e => e, none, rfl⟩ ?_ ?_ ?_
    · rintro i σ H' hi ⟨s1, _⟩
      exact SqL.of (s1 _ _ hl)
    · rintro i x σ H1 H2 hi ⟨s1, o, rfl⟩ ⟨rfl, hx⟩
      rw [List.length_map] at hi
      have hy : ds[i]? = some ds[i] := List.getElem?_eq_getElem hi
      rw [List.getElem?_map, hy] at hx
      injection hx with hx
      subst hx
      obtain ⟨d1, d2⟩ := hd _ (List.getElem_mem hi)
      have hb : (ds[i]).natAbs < 2 ^ 3000 := Nat.lt_trans (show _ < 2 ^ 64 by omega) (by decide +kernel)
      have g0 := fg_pos (i := lcmL (ds.take i) 1) d1
      have dl := div_le (i := ds[i]) g0
      have d0 : 0 ≤ ds[i] / fg (lcmL (ds.take i) 1) ds[i] := Int.ediv_nonneg (by omega) (by omega)
      refine ⟨_, rfl, _, rfl, _, rfl, _, _, rfl, d1, hb, fun p hp => ?_⟩
      have s2 := s1.trans (Same.new (o := .tup [.int (lcmL (ds.take i) 1 / fg (lcmL (ds.take i) 1) ds[i]), .int (ds[i] / fg (lcmL (ds.take i) 1) ds[i])]) hp)
      refine ⟨p, _, 1, _, rfl, rfl, SqT.of upd_same, rfl, _, _, rfl, rfl, .inr ⟨by omega, by omega⟩, s2, some (.int ds[i]), ?_⟩
      have e : ds.take (i + 1) = ds.take i ++ [ds[i]] := take_one hy
      rw [e]
      unfold lcmL
      rw [List.foldl_append]
      rfl
    · rintro σ H' ⟨s1, o, rfl⟩
      rw [List.length_map, List.take_length]
      exact ⟨_, rfl, k _ s1⟩
end
/-! ### the least common multiple of the denominators -/
theorem lcm_div {u G g : Nat} (hu : 0 < u) (h1 : G ∣ u) (h2 : g ∣ u) : (u / G) * ((u / g) / Nat.gcd (u / G) (u / g)) = u / Nat.gcd G g := by
  have hG : 0 < G := Nat.pos_of_dvd_of_pos h1 hu
  have hg : 0 < g := Nat.pos_of_dvd_of_pos h2 hu
  have hh : 0 < Nat.gcd G g := Nat.gcd_pos_of_pos_left _ hG
  obtain ⟨G', g', co, eG, eg⟩ := Nat.exists_coprime G g
  obtain ⟨a, ea⟩ := h1
  obtain ⟨b, eb⟩ := h2
  generalize hhd : Nat.gcd G g = h at *
  subst eG
  subst eg
  have a0 : u / (G' * h) = a := by rw [ea]; exact Nat.mul_div_cancel_left _ hG
  have b0 : u / (g' * h) = b := by rw [eb]; exact Nat.mul_div_cancel_left _ hg
  have e : G' * a = g' * b := by
    have : h * (G' * a) = h * (g' * b) := by
      rw [← Nat.mul_assoc, ← Nat.mul_assoc, Nat.mul_comm h G', Nat.mul_comm h g', ← ea, ← eb]
    exact Nat.eq_of_mul_eq_mul_left hh this
  have d : G' ∣ b := co.dvd_of_dvd_mul_left ⟨a, e.symm⟩
  obtain ⟨c, rfl⟩ := d
  have g0 : 0 < G' := by
    rcases Nat.eq_zero_or_pos G' with z | z
    · subst z; simp at hG
    · exact z
  have ac : a = g' * c := by
    have : G' * a = G' * (g' * c) := by rw [e, Nat.mul_left_comm]
    exact Nat.eq_of_mul_eq_mul_left g0 this
  have c0 : 0 < c := by
    rcases Nat.eq_zero_or_pos c with z | z
    · subst z; simp at eb; omega
    · exact z
  rw [a0, b0, ac, Nat.gcd_mul_right, (Nat.coprime_comm.mp co : Nat.gcd g' G' = 1), Nat.one_mul, Nat.mul_div_cancel _ c0]
  rw [ea, ac]
  have e2 : G' * h * (g' * c) = (g' * c * G') * h := by ac_rfl
  rw [e2, Nat.mul_div_cancel _ hh]
end V0

namespace V0
open PySem PySem.Spec PyProof.Rows L2
/-! ### the normal form, by numbers -/
theorem fg_mul {G i j : Int} (hG : 0 < G) : fg (G * i) (G * j) = G * fg i j := by
  unfold fg
  rw [Int.natAbs_mul, Int.natAbs_mul, Nat.gcd_mul_left, Int.natCast_mul]
  congr 1
  omega
/-- both parts of the lowest terms after a division of both -/
theorem low_div {G i j : Int} (hG : 0 < G) (hi : G ∣ i) (hj : G ∣ j) : (i / G) / fg (i / G) (j / G) = i / fg i j ∧ (j / G) / fg (i / G) (j / G) = j / fg i j := by
  obtain ⟨a, rfl⟩ := hi
  obtain ⟨b, rfl⟩ := hj
  rw [Int.mul_ediv_cancel_left _ (by omega), Int.mul_ediv_cancel_left _ (by omega), fg_mul hG, Int.mul_ediv_mul_of_pos _ _ hG, Int.mul_ediv_mul_of_pos _ _ hG]
  exact ⟨rfl, rfl⟩
theorem fg_l (i j : Int) : fg i j ∣ i := by
  unfold fg
  exact Int.ofNat_dvd_left.mpr (Nat.gcd_dvd_left _ _)
theorem fg_r (i j : Int) : fg i j ∣ j := by
  unfold fg
  exact Int.ofNat_dvd_left.mpr (Nat.gcd_dvd_right _ _)
theorem dvd_fg {G i j : Int} (hi : G ∣ i) (hj : G ∣ j) : G ∣ fg i j := by
  unfold fg
  rw [← Int.natAbs_dvd_natAbs, Int.natAbs_natCast]
  exact Nat.dvd_gcd (Int.natAbs_dvd_natAbs.mpr hi) (Int.natAbs_dvd_natAbs.mpr hj)
/-- a part by the least common denominator -/
theorem part_up {G i u : Int} (hG : 0 < G) (hu : 0 < u) (hi : G ∣ i) (hj : G ∣ u) : (i / fg i u) * ((u / G) / (u / fg i u)) = i / G := by
  have f0 := fg_pos (i := i) hu
  obtain ⟨m, hm⟩ := dvd_fg hi hj
  obtain ⟨i', hi'⟩ := fg_l i u
  obtain ⟨u', hu'⟩ := fg_r i u
  generalize hf : fg i u = f at *
  have u0 : 0 < u' := by
    rcases Int.lt_trichotomy 0 u' with z | z | z
    · exact z
    · rw [← z] at hu'; simp at hu'; omega
    · have := Int.mul_neg_of_pos_of_neg f0 z; omega
  subst hm
  have e1 : i / (G * m) = i' := by rw [hi']; exact Int.mul_ediv_cancel_left _ (by omega)
  have e2 : u / (G * m) = u' := by rw [hu']; exact Int.mul_ediv_cancel_left _ (by omega)
  have e3 : u / G = m * u' := by rw [hu', Int.mul_assoc]; exact Int.mul_ediv_cancel_left _ (by omega)
  have e4 : i / G = m * i' := by rw [hi', Int.mul_assoc]; exact Int.mul_ediv_cancel_left _ (by omega)
  rw [e1, e2, e3, e4, Int.mul_ediv_cancel _ (by omega), Int.mul_comm]
/-- and its second factor is no greater than u -/
theorem part_le {G i u : Int} (hG : 0 < G) (hu : 0 < u) : 0 ≤ (u / G) / (u / fg i u) ∧ (u / G) / (u / fg i u) ≤ u := by
  have a := Int.ediv_nonneg (a := u) (b := G) (by omega) (by omega)
  have f0 := fg_pos (i := i) hu
  have b := Int.ediv_nonneg (a := u) (b := fg i u) (by omega) (by omega)
  have c := Int.ediv_le_self (a := u) G (by omega)
  exact ⟨Int.ediv_nonneg a b, Int.le_trans (Int.ediv_le_self _ a) c⟩
theorem den_pos {i u : Int} (hu : 0 < u) : 0 < u / fg i u ∧ u / fg i u ≤ u := by
  have f0 := fg_pos (i := i) hu
  refine ⟨?_, Int.ediv_le_self _ (by omega)⟩
  have := fg_r i u
  exact Int.ediv_pos_of_pos_of_dvd hu (by omega) this
theorem lcm_fold {u : Int} (hu : 0 < u) : ∀ (ps : Bag) (g : Nat), g ∣ u.natAbs → lcmL (ps.map fun p => u / fg p.2 u) (u / (g : Int)) = u / ((ps.foldl (fun g p => Nat.gcd g p.2.natAbs) g : Nat) : Int)
  | [], _, _ => rfl
  | p :: ps, g, hg => by
    have hg' : Nat.gcd g p.2.natAbs ∣ u.natAbs := Nat.dvd_trans (Nat.gcd_dvd_left _ _) hg
    have st : (u / (g : Int)) * ((u / fg p.2 u) / fg (u / (g : Int)) (u / fg p.2 u)) = u / ((Nat.gcd g p.2.natAbs : Nat) : Int) := by
      obtain ⟨n, rfl⟩ : ∃ n : Nat, u = (n : Int) := ⟨u.toNat, by omega⟩
      rw [Int.natAbs_natCast] at hg
      have q := lcm_div (u := n) (G := g) (g := Nat.gcd p.2.natAbs n) (by omega) hg (Nat.gcd_dvd_right _ _)
      have e : Nat.gcd g (Nat.gcd p.2.natAbs n) = Nat.gcd g p.2.natAbs := by
        rw [Nat.gcd_comm p.2.natAbs n, ← Nat.gcd_assoc, Nat.gcd_eq_left hg]
      rw [e] at q
      unfold fg
      rw [Int.natAbs_natCast, ← Int.natCast_ediv, ← Int.natCast_ediv, Int.natAbs_natCast, Int.natAbs_natCast, ← Int.natCast_ediv, ← Int.natCast_mul, ← Int.natCast_ediv, q]
    show lcmL (ps.map fun p => u / fg p.2 u) ((u / (g : Int)) * ((u / fg p.2 u) / fg (u / (g : Int)) (u / fg p.2 u))) = _
    rw [st, lcm_fold hu ps _ hg']
    rfl
theorem lcm_nf {u : Int} {ps : Bag} (hu : 0 < u) : lcmL (ps.map fun p => u / fg p.2 u) 1 = nfU u ps := by
  have e := lcm_fold hu ps u.natAbs (Nat.dvd_refl _)
  have e1 : u / (u.natAbs : Int) = 1 := by
    rw [Int.natAbs_of_nonneg (by omega)]
    exact Int.ediv_self (by omega)
  rw [e1] at e
  exact e
section
variable {u : Int} {ps : Bag}
theorem gI (hu : 0 < u) : (0 : Int) < (gcdB u ps : Int) := by have := gcdB_pos (u := u) (ps := ps) (by omega); omega
theorem gU : (gcdB u ps : Int) ∣ u := Int.ofNat_dvd_left.mpr (gcdB_u u ps)
theorem gP {p : Str × Int} (h : p ∈ ps) : (gcdB u ps : Int) ∣ p.2 := Int.ofNat_dvd_left.mpr (gcdB_p h)
theorem gL (z : Str) : (gcdB u ps : Int) ∣ look ps z := by
  by_cases h : z ∈ nms ps
  · exact gP (look_mem h)
  · have : look ps z = 0 := by
      unfold look
      cases f : ps.find? (fun p => decide (p.1 = z)) with
      | none => rfl
      | some p => exact absurd (List.mem_map.mpr ⟨p, List.mem_of_find?_eq_some f, by simpa using List.find?_some f⟩) h
    rw [this]
    exact Int.dvd_zero _
theorem nfU_pos (hu : 0 < u) : 0 < nfU u ps := Int.ediv_pos_of_pos_of_dvd hu (by have := gI (ps := ps) hu; omega) gU
theorem nfU_le (hu : 0 < u) : nfU u ps ≤ u := Int.ediv_le_self _ (by omega)
theorem look_nf (z : Str) : look (nfB u ps) z = look ps z / (gcdB u ps : Int) := look_map (fun i => i / (gcdB u ps : Int)) (Int.zero_ediv _) ps z
theorem sumB_nf (hu : 0 < u) : ∀ zs : List Str, sumB ps zs = (gcdB u ps : Int) * sumB (nfB u ps) zs
  | [] => by simp [sumB]
  | z :: zs => by
    have ih := sumB_nf hu zs
    unfold sumB at ih ⊢
    rw [List.map_cons, List.map_cons, List.sum_cons, List.sum_cons, ih, Int.mul_add, look_nf, Int.mul_ediv_cancel' (gL z)]
/-- what a group pays, in lowest terms -/
theorem low_sum (hu : 0 < u) (zs : List Str) : sumB (nfB u ps) zs / fg (sumB (nfB u ps) zs) (nfU u ps) = sumB ps zs / fg (sumB ps zs) u ∧ nfU u ps / fg (sumB (nfB u ps) zs) (nfU u ps) = u / fg (sumB ps zs) u := by
  have g0 := gI (ps := ps) hu
  have e := sumB_nf (ps := ps) hu zs
  have q := low_div (G := (gcdB u ps : Int)) (i := sumB ps zs) (j := u) g0 ⟨_, e⟩ gU
  rw [show sumB ps zs / (gcdB u ps : Int) = sumB (nfB u ps) zs from by rw [e]; exact Int.mul_ediv_cancel_left _ (by omega)] at q
  exact q
theorem low_look (hu : 0 < u) (z : Str) : look (nfB u ps) z / fg (look (nfB u ps) z) (nfU u ps) = look ps z / fg (look ps z) u ∧ nfU u ps / fg (look (nfB u ps) z) (nfU u ps) = u / fg (look ps z) u := by
  rw [look_nf]
  exact low_div (gI hu) (gL z) gU
theorem nf_len : (nfB u ps).length = ps.length := by unfold nfB; rw [List.length_map]
theorem nf_bound {b : Nat} (hu : 0 < u) (h : ∀ p ∈ ps, p.2.natAbs < b) : ∀ p ∈ nfB u ps, p.2.natAbs < b := fun p hp => by
  obtain ⟨q, hq, rfl⟩ := List.mem_map.mp hp
  exact Nat.lt_of_le_of_lt (div_le (gI hu)) (h q hq)
/-- the text of a charge, by the numbers before they were divided -/
theorem text_nf (hu : 0 < u) : chText (nfB u ps) (nfU u ps) = Txt.join (Str.ofString ", ") (ps.map fun p => p.1 ++ Str.ofString " " ++ ftx (p.2 / fg p.2 u) (u / fg p.2 u)) := by
  unfold chText
  congr 1
  unfold nfB
  rw [List.map_map]
  refine List.map_congr_left fun p hp => ?_
  show piece (nfU u ps) (p.1, p.2 / (gcdB u ps : Int)) = _
  unfold piece
  have q := low_div (G := (gcdB u ps : Int)) (i := p.2) (j := u) (gI hu) (gP hp) gU
  show p.1 ++ _ ++ ftx (p.2 / (gcdB u ps : Int) / fg (p.2 / (gcdB u ps : Int)) (nfU u ps)) (nfU u ps / fg (p.2 / (gcdB u ps : Int)) (nfU u ps)) = _
  unfold nfU
  rw [q.1, q.2]
/-- a charge made of a dict in another order, all numbers times m -/
theorem chB_nf {m : Int} {qs : Bag} (hm : 0 < m) (hu : 0 < u) (nd : (nms ps).Nodup) (p : qs.Perm (ps.map fun p => (p.1, p.2 * m))) : nfU (u * m) qs = nfU u ps ∧ chB (nms ps) qs (u * m) = nfB u ps := by
  obtain ⟨e1, e2⟩ := nf_mul (u := u) (ps := ps) hm (by omega)
  have eg : gcdB (u * m) qs = gcdB (u * m) (ps.map fun p => (p.1, p.2 * m)) := gcdB_perm p
  have hn : nms (ps.map fun p => (p.1, p.2 * m)) = nms ps := by unfold nms; rw [List.map_map]; rfl
  have ndq : (nms qs).Nodup := (p.map (fun q : Str × Int => q.1)).nodup_iff.mpr (by
    show (nms (ps.map fun p => (p.1, p.2 * m))).Nodup
    rw [hn]; exact nd)
  refine ⟨?_, ?_⟩
  · rw [← e1]
    unfold nfU
    rw [eg]
  · rw [← e2]
    unfold chB bagOf
    rw [eg]
    rw [← look_self (ps := nfB (u * m) (ps.map fun p => (p.1, p.2 * m))) (by rw [nfB_nms, hn]; exact nd), nfB_nms, hn]
    refine List.map_congr_left fun z hz => ?_
    dsimp only
    rw [look_nf, look_perm ndq p]
end
end V0

namespace V0
open PySem PySem.Spec PyProof.Rows L2
/-! ### charges, as the law makes them -/
structure ChX (K : PySem.W.Frag) (C : Addr) : Prop where
  gi : ∀ g, PySem.W.findIn K (.ref C) "__getitem__" = some (some (.ref g)) → PySem.W.fnIn K g = true
  ne : PySem.W.findIn K (.ref C) "__ne__" = some (some (.builtin "object.__ne__"))
  ob : PySem.W.mroIn K C (.type "object") = some true
/-- all that the law uses of the class -/
structure Own (P : Program) (w : World) (K : PySem.W.Frag) (mg : Str → Option Value) (base : Heap) (C : Addr) (ad : Nat → Addr) (fdd : Nat → FuncData) : Prop where
  B : Bl mg
  M : Bm mg
  KCharge : Kls K mg "Charge" C
  N : ChN K C
  NX : ChX K C
  Y_init : ChK K C (ad 0) (fdd 0) s_Charge_init P_Charge_init
  G_init : FnOk P w K mg base CX0 4 (ad 0) (fdd 0) P_Charge_init (spInit C)
  Y_Charge_things : Pr K "Charge.things" "things" C s_Charge_things P_Charge_things (ad 20) (ad 1) (fdd 1)
  G_Charge_things : FnOk P w K mg base CX0 1 (ad 1) (fdd 1) P_Charge_things (spThings C)
  Y_Charge_unit : Pr K "Charge.unit" "unit" C s_Charge_unit P_Charge_unit (ad 21) (ad 2) (fdd 2)
  G_Charge_unit : FnOk P w K mg base CX0 1 (ad 2) (fdd 2) P_Charge_unit (spUnit C)
  Y_Charge_pays : Pr K "Charge.pays" "pays" C s_Charge_pays P_Charge_pays (ad 22) (ad 3) (fdd 3)
  G_Charge_pays : FnOk P w K mg base CX0 1 (ad 3) (fdd 3) P_Charge_pays (spPays C)
  Y_Charge_total : Pr K "Charge.total" "total" C s_Charge_total P_Charge_total (ad 23) (ad 4) (fdd 4)
  G_Charge_total : FnOk P w K mg base CX0 3 (ad 4) (fdd 4) P_Charge_total (spTotal C)
  Y_Charge_of : Md K "Charge.of" "of" C s_Charge_of P_Charge_of (ad 5) (fdd 5)
  G_Charge_of : FnOk P w K mg base CX0 3 (ad 5) (fdd 5) P_Charge_of (spOf C)
  Y_Charge_cut : Md K "Charge.cut" "cut" C s_Charge_cut P_Charge_cut (ad 6) (fdd 6)
  G_Charge_cut : FnOk P w K mg base CX0 7 (ad 6) (fdd 6) P_Charge_cut (spCut C)
  O_len : OwnM P w K mg base CX0 1 C "__len__" (spLen C)
  O_str : OwnM P w K mg base CX0 3 C "__str__" (spText C)
  O_iter : ItM P w K mg base 1 C "_things"
  O_item : OwnM P w K mg base CX0 2 C "__getitem__" (spItem C)
  O_cont : OwnM P w K mg base CX0 1 C "__contains__" (spCont C)
  O_eq : OwnM P w K mg base CX0 1 C "__eq__" (spEq K C)
theorem rising_asc : ∀ (p : Str) (l : List Str), (p :: l).Pairwise (fun a b => a.cps.toList < b.cps.toList) → risingS p l = true
  | _, [], _ => rfl
  | p, x :: l, h => by
    have h2 := List.pairwise_cons.mp h
    show (!ltCps x.cps.toList p.cps.toList && risingS x l) = true
    rw [rising_asc x l h2.2, Bool.and_true, ltCps_eq, decide_eq_false (List.not_lt.mpr (List.le_of_lt (h2.1 x (by simp))))]
    rfl
theorem sorted_asc : ∀ (l : List Str), l.Pairwise (fun a b => a.cps.toList < b.cps.toList) → sortedS l = true
  | [], _ => rfl
  | p :: l, h => rising_asc p l h
theorem Ws.asc {zs : List Str} (h : Ws zs) : zs.Pairwise (fun a b => a.cps.toList < b.cps.toList) := by
  have a := sorted_pw _ h.ord
  refine (a.and h.nodup).imp fun {x y} ⟨h1, h2⟩ => ?_
  rcases List.le_iff_lt_or_eq.mp (leS_iff.mp h1) with z | z
  · exact z
  · exact absurd (str_ext z) h2
theorem Sd.asc {ps : Bag} {zs : List Str} (h : Sd ps zs) (a : (nms ps).Pairwise (fun a b => a.cps.toList < b.cps.toList)) : zs = nms ps := sorted_one h.pm h.ord (sorted_asc _ a)
theorem S8.nd {ps : Bag} {u : Int} (h : S8 ps u) : (nms ps).Nodup := asc_nodup h.asc
theorem S8.bg {ps : Bag} {u : Int} (h : S8 ps u) : Bg (10 ^ 60) ps := ⟨h.nd, h.nm, fun p hp => Nat.lt_trans (h.nb p hp) (by decide +kernel), h.l1, h.l8⟩
theorem chB1 {ps : Bag} {u : Int} (hu : 0 < u) (nd : (nms ps).Nodup) : chB (nms ps) ps u = nfB u ps := by
  have e : ps.map (fun p => (p.1, p.2 * 1)) = ps := by
    conv => rhs; rw [← List.map_id ps]
    exact List.map_congr_left fun p _ => by rw [Int.mul_one]; rfl
  have := (chB_nf (m := 1) (u := u) (qs := ps) (by decide) hu nd (by rw [e])).2
  rw [Int.mul_one] at this
  exact this
/-- a charge of these numbers -/
def ChOf (C : Addr) (H : Hp) (x : Addr) (ps : Bag) (u : Int) : Prop := ChAt C H x (nfB u ps) (nfU u ps)
theorem ChOf.same {C x : Addr} {H H' : Hp} {ps : Bag} {u : Int} (h : ChOf C H x ps u) (s : Same H H') : ChOf C H' x ps u := ChAt.same h s
theorem ChAt.but {C x p : Addr} {H H' : Hp} {ps : Bag} {u : Int} (h : ChAt C H x ps u) (s : But p H H') (hp : Pot H p) : ChAt C H' x ps u := by
  obtain ⟨_, _, _, hp, _⟩ := hp
  obtain ⟨dx, t, d, h1, h2, h3⟩ := h
  exact ⟨dx, t, d, s _ _ h1 (ne_of h1 hp fun z => nomatch z), s _ _ h2 (ne_of h2 hp fun z => nomatch z), s _ _ h3 (ne_of h3 hp fun z => nomatch z)⟩
theorem made_same {H H' : Hp} {x dx C : Addr} (hx : H x = none) (hdx : H dx = none) (b : But x (upd (upd H dx (.own x)) x (.ins C dx [])) H') : Same H H' := fun a o e => by
  have n1 := ne_of_none e hx
  have n2 := ne_of_none e hdx
  exact b a o (by rw [upd_ne n1, upd_ne n2]; exact e) n1
def spMade (C : Addr) : Sp := fun vs H Q _ => ∃ (a : Addr) (ps : Bag) (u : Int), vs = [.ref a] ∧ SomeAt H a ps u ∧ Bg (10 ^ 60) ps ∧ (nms ps).Pairwise (fun a b => a.cps.toList < b.cps.toList) ∧ 0 < u ∧ u.natAbs < 10 ^ 60 ∧
  ∀ (x : Addr) (H' : Hp), Same H H' → ChOf C H' x ps u → Q (.ref x) H'
def spToldCh (C : Addr) : Sp := fun vs H Q _ => ∃ (p a : Addr) (ps : Bag) (u : Int), vs = [.ref p, .ref a] ∧ Pot H p ∧ SomeAt H a ps u ∧ S8 ps u ∧
  ∀ (x : Addr) (H' : Hp), Pot H' p → But p H H' → ChOf C H' x ps u → Q (.ref x) H'
section
variable {P : Program} {w : World} {K : PySem.W.Frag} {mg : Str → Option Value} {base : Heap} {C : Addr} {ad : Nat → Addr} {fdd : Nat → FuncData}
abbrev s_made_charge : Stmt := top 38
abbrev N_made_charge : List Str := ["_law_some"]
abbrev P_made_charge : List Str := ["_law_some"]
theorem sc_made_charge : FnScope N_made_charge P_made_charge (defScope s_made_charge) := ⟨rfl, rfl, rfl, by decide +kernel, rfl, by decide +kernel, by decide +kernel⟩
theorem ok_made {f : Addr} {fd : FuncData} (O : Own P w K mg base C ad fdd) (D : Df K mg "_law_made_charge" s_made_charge P_made_charge f fd) : FnOk P w K mg base CX0 6 f fd P_made_charge (spMade C) := by
  obtain ⟨B, M, KCharge, N, NX, Y_init, G_init, Y_Charge_things, G_Charge_things, Y_Charge_unit, G_Charge_unit, Y_Charge_pays, G_Charge_pays, Y_Charge_total, G_Charge_total, Y_Charge_of, G_Charge_of, Y_Charge_cut, G_Charge_cut, O_len, O_str, O_iter, O_item, O_cont, O_eq⟩ := id O
  refine D.F.ok sc_made_charge (fun vs H Q E h => ?_) (fun cdv A outer s H vs Q E hr h => ?_)
  · obtain ⟨a, ps, u, rfl, _⟩ := h
    rfl
  · obtain ⟨a, ps, u, rfl, ⟨d, h1, h2⟩, g, asc, hu, hub, k⟩ := h
    refine ⟨_, (pss_one (ps_ret (pe_makeK Y_init.mkC G_init (hr.mono (by decide)) (by rfl) KCharge.g Y_init.bk pass0 (pa_cons (pe_callTy (call_dictP rfl) (by rfl) B.b_dict (by decide +kernel) (pa_cons (LiI.pe_listItems rfl (pe_ix ix_tup (pv 0) pe_int (fun _ _ => rfl)) (by rfl) B.b_list (by rfl)) pa_nil)) pa_nil) (pk_cons (pe_ix ix_tup (pv 0) pe_int (fun _ _ => rfl)) pk_nil)))), ?_⟩
    refine ⟨_, rfl, a, _, 0, .ref d, rfl, rfl, SqT.of h1, rfl, d, kvs ps, rfl, h2, fun H1 l ts s1 hl hts nl e1 pr => ?_⟩
    refine ⟨l, ts, kvs ps, rfl, SqL.of e1, paired_mono (fun _ _ e => SqT.of e) pr, fun d2 hd2 => ?_⟩
    rw [mergeK_nil (kvs_nd g.nd)]
    have s2 := Same.trans s1 (Same.new (o := .dK (kvs ps)) hd2)
    have e2 : (upd H1 d2 (.dK (kvs ps))) d2 = some (.dK (kvs ps)) := upd_same
    generalize upd H1 d2 (.dK (kvs ps)) = H2 at s2 e2
    refine ⟨_, rfl, a, _, 1, .int u, rfl, rfl, SqT.of (s2 _ _ h1), rfl, rfl, rfl, fun x dx hx hdx hdd => ?_⟩
    refine ⟨x, dx, d2, ps, u, rfl, upd_same, ?_, g, hu, hub, fun zs H3 sd bt hc => ⟨rfl, ?_⟩⟩
    · rw [upd_ne (ne_of_none e2 hx), upd_ne (ne_of_none e2 hdx)]
      exact e2
    · rw [sd.asc asc, chB1 hu g.nd] at hc
      exact k x H3 (s2.trans (made_same hx hdx bt)) hc
end
end V0

namespace V0
open PySem PySem.Spec PyProof.Rows L2
section
variable {P : Program} {w : World} {K : PySem.W.Frag} {mg : Str → Option Value} {base : Heap} {C : Addr} {ad : Nat → Addr} {fdd : Nat → FuncData}
theorem kvs_snoc (ps : Bag) (z : Str) (i : Int) : kvs (ps ++ [(z, i)]) = kvs ps ++ [(.inr z, .int i)] := by unfold kvs; rw [List.map_append]; rfl
theorem bagOf_snoc (f : Str → Int) {zs : List Str} {i : Nat} {z : Str} (h : zs[i]? = some z) : bagOf f (zs.take (i + 1)) = bagOf f (zs.take i) ++ [(z, f z)] := by
  unfold bagOf
  exact take_map_succ (fun z => (z, f z)) h
theorem str_at {zs : List Str} {i : Nat} {x : V} (h : (zs.map V.str)[i]? = some x) : ∃ z, zs[i]? = some z ∧ x = .str z := by
  rw [List.getElem?_map] at h
  cases e : zs[i]? with
  | none => rw [e] at h; cases h
  | some z => rw [e] at h; injection h with h; exact ⟨z, rfl, h.symm⟩
/-- the state of a walk that makes pairs of a thing and a number -/
def Bw (H : Hp) (D : Addr) (f : Str → Int) (zs : List Str) (i : Nat) (H' : Hp) : Prop := Same H H' ∧ PairsV H' D (kvs (bagOf f (zs.take i)))
theorem bw0 {H : Hp} {D : Addr} {f : Str → Int} {zs : List Str} (hD : H D = none) : Bw H D f zs 0 (upd H D (.lst [])) := ⟨Same.new hD, PairsV.nil upd_same⟩
theorem bw1 {H H1 H2 : Hp} {D t : Addr} {f : Str → Int} {zs : List Str} {i : Nat} {z : Str} (hD : H D = none) (hz : zs[i]? = some z) (h : Bw H D f zs i H1) (s2 : Same H1 H2) (ht : H2 t = none) (l : zs.length ≤ 1000) :
    ∃ acc, (upd H2 t (.tup [.str z, .int (f z)])) D = some (.lst acc) ∧ acc.length < sizeLine ∧ Bw H D f zs (i + 1) (upd (upd H2 t (.tup [.str z, .int (f z)])) D (.lst (acc ++ [.ref t]))) := by
  obtain ⟨s1, e1⟩ := h
  obtain ⟨acc, a1, a2, a3⟩ := (e1.same s2).step (k := .inr z) (v := .int (f z)) ht
  refine ⟨acc, a1, ?_, ?_, ?_⟩
  · rw [a2, kvs_len, sizeLine_eq]
    unfold bagOf
    rw [List.length_map, List.length_take]
    omega
  · intro b o e
    have hbD : b ≠ D := fun q => by rw [q, hD] at e; cases e
    rw [upd_ne hbD]
    exact Same.new (o := .tup [.str z, .int (f z)]) ht _ _ (s2 _ _ (s1 _ _ e))
  · rw [bagOf_snoc f hz, kvs_snoc]
    exact a3
abbrev s_told_charge : Stmt := top 43
abbrev N_told_charge : List Str := ["_law_pot_here", "_law_some", "_law_much", "_law_one"]
abbrev P_told_charge : List Str := ["_law_pot_here", "_law_some"]
theorem sc_told_charge : FnScope N_told_charge P_told_charge (defScope s_told_charge) := ⟨rfl, rfl, rfl, by decide +kernel, rfl, by decide +kernel, by decide +kernel⟩
theorem ok_toldch {f f1 f2 : Addr} {fd fd1 fd2 : FuncData} (O : Own P w K mg base C ad fdd) (D_stir : Df K mg "_law_stir" s_stir P_stir f1 fd1) (D_shuffled : Df K mg "_law_shuffled" s_shuffled P_shuffled f2 fd2) (D : Df K mg "_law_told_charge" s_told_charge P_told_charge f fd) : FnOk P w K mg base CX0 6 f fd P_told_charge (spToldCh C) := by
  obtain ⟨B, M, KCharge, N, NX, Y_init, G_init, Y_Charge_things, G_Charge_things, Y_Charge_unit, G_Charge_unit, Y_Charge_pays, G_Charge_pays, Y_Charge_total, G_Charge_total, Y_Charge_of, G_Charge_of, Y_Charge_cut, G_Charge_cut, O_len, O_str, O_iter, O_item, O_cont, O_eq⟩ := id O
  have G_stir : FnOk P w K mg base CX0 1 f1 fd1 P_stir spStir := ok_stir B D_stir
  have G_shuffled : FnOk P w K mg base CX0 2 f2 fd2 P_shuffled spShuffle := ok_shuffle B D_stir D_shuffled
  refine D.F.ok sc_told_charge (fun vs H Q E h => ?_) (fun cdv A outer s H vs Q E hr h => ?_)
  · obtain ⟨p, a, ps, u, rfl, _⟩ := h
    rfl
  · obtain ⟨p, a, ps, u, rfl, hp, hs, g, k⟩ := h
    refine ⟨_, (pss_cons (ps_set (i := 2) sc_told_charge.nd rfl (Or.inr rfl) (pe_op op_add pe_int (pe_call G_stir (hr.mono (by decide)) (by rfl) D_stir.g D_stir.F.kp D_stir.b .nil pass0 (pa_cons (pv 0) (pa_cons pe_int pa_nil)))))
      (pss_one (ps_ret (pe_makeK Y_init.mkC G_init (hr.mono (by decide)) (by rfl) KCharge.g Y_init.bk pass0 (pa_cons (pe_callTy (call_dictP rfl) (by rfl) B.b_dict (by decide +kernel) (pa_cons (pe_lc (own := [("_law_one", 3)]) (g := gName 3) (tt := tYes) rfl sc_told_charge.nd (pi_list (pe_call G_shuffled (hr.mono (by decide)) (by rfl) D_shuffled.g D_shuffled.F.kp D_shuffled.b .nil pass0 (pa_cons (pv 0) (pa_cons (pe_callB (call_sortedD rfl) (by rfl) M.b_sorted (by decide +kernel) (pa_cons (pe_ix ix_tup (pv 1) pe_int (fun _ _ => rfl)) pa_nil)) pa_nil)))) (blkOk_by (own := [("_law_one", 3)]) (N := N_told_charge) (sc := defScope s_told_charge) (by decide +kernel)) (fun _ _ _ _ _ => (pg_name (i := 3) sc_told_charge.nd rfl (Or.inl rfl))) (fun _ _ _ _ _ => pts_nil) (fun _ _ _ _ _ => (pe_tup (pa_cons (pv 3) (pa_cons (pe_op op_mul (show PE _ _ (tDGet (tOp (rIxT K) (tVar 1) (tC (.int 0))) (tVar 3)) from by exact (pe_dget (hu_of hr) (pe_ix ix_tup (pv 1) pe_int (fun _ _ => rfl)) (pv 3) (fun _ _ => rfl))) (pv 2)) pa_nil))))) pa_nil)) pa_nil) (pk_cons (pe_op op_mul (pe_ix ix_tup (pv 1) pe_int (fun _ _ => rfl)) (pv 2)) pk_nil))))), ?_⟩
    refine ⟨_, rfl, p, 6, rfl, hp, by omega, by omega, fun r H1 r0 r1 p1 b1 => ?_⟩
    obtain ⟨d, h1, h2⟩ := hs.but b1 hp
    refine ⟨_, _, rfl, rfl, ?_⟩
    -- the things, in a drawn order
    have l8 := g.l8
    refine ⟨_, rfl, _, rfl, a, _, 0, .ref d, rfl, rfl, SqT.of h1, rfl, d, _, nms ps, rfl, .inl h2, kvs_keys ps, by rw [nms_len]; omega, fun zs l hp1 hp2 hl => ?_⟩
    have s2 := Same.new (o := .lst (zs.map V.str)) hl
    have e2 : (upd H1 l (.lst (zs.map V.str))) l = some (.lst (zs.map V.str)) := upd_same
    have nlp := pot_ne p1 hl
    generalize upd H1 l (.lst (zs.map V.str)) = H2 at s2 e2
    have lz : zs.length = ps.length := by rw [hp1.length_eq, nms_len]
    refine ⟨p, l, _, rfl, p1.same s2, nlp, e2, by rw [List.length_map]; omega, fun q ys H3 hperm hq nqp nq p3 b3 => ?_⟩
    obtain ⟨us, rfl, hus⟩ := map_perm hperm
    have b13 : But p H1 H3 := (But.of s2).trans b3
    obtain ⟨_, _, _, hpp, _⟩ := id p1
    have h1' := b13 _ _ h1 (ne_of h1 hpp fun z => nomatch z)
    have h2' := b13 _ _ h2 (ne_of h2 hpp fun z => nomatch z)
    have pu : us.Perm (nms ps) := hus.trans hp1
    have ul : us.length = ps.length := by rw [pu.length_eq, nms_len]
    have ndu : us.Nodup := pu.nodup_iff.mpr g.nd
    refine ⟨q, rfl, ⟨_, SqL.of hq⟩, fun D hD => ?_⟩
    refine lc_it (walk_list (xs := us.map V.str)) (Bw H3 D (fun z => look ps z * (1 + r)) us) (bw0 hD) (fun i H' _ ⟨s, _⟩ => SqL.of (s _ _ hq)) ?_ ?_
    · rintro i x H4 H5 hi dw ⟨rfl, hx⟩
      obtain ⟨z, hz, rfl⟩ := str_at hx
      have hzm : z ∈ nms ps := pu.subset (List.mem_of_getElem? hz)
      refine ⟨rfl, _, rfl, _, rfl, a, _, 0, .ref d, rfl, rfl, SqT.of (dw.1 _ _ h1'), rfl, _, rfl, d, _, rfl, DGet.bag (.inl (dw.1 _ _ h2')) hzm, _, rfl, _, _, rfl, rfl, .inr ⟨by omega, by omega⟩, by show 2 ≤ sizeLine; decide, fun t ht => ?_⟩
      exact bw1 hD hz dw (fun _ _ e => e) ht (by omega)
    · rintro H4 ⟨s4, ts, t1, t2⟩
      rw [List.length_map, List.take_length] at t2
      have nb : nms (bagOf (fun z => look ps z * (1 + r)) us) = us := bagOf_nms _ _
      refine ⟨D, ts, _, rfl, SqL.of t1, paired_mono (fun _ _ e => SqT.of e) t2, fun d2 hd2 => ?_⟩
      rw [mergeK_nil (kvs_nd (by rw [nb]; exact ndu))]
      generalize hqs : bagOf (fun z => look ps z * (1 + r)) us = qs
      have s5 := s4.trans (Same.new (o := .dK (kvs qs)) hd2)
      have e5 : (upd H4 d2 (.dK (kvs qs))) d2 = some (.dK (kvs qs)) := upd_same
      generalize upd H4 d2 (.dK (kvs qs)) = H5 at s5 e5
      have u0 := g.u0
      have ub := g.ub
      refine ⟨_, rfl, a, _, 1, .int u, rfl, rfl, SqT.of (s5 _ _ h1'), rfl, _, rfl, _, _, rfl, rfl, .inr ⟨by omega, by omega⟩, rfl, rfl, fun x dx hx hdx hdd => ?_⟩
      have um : 0 < u * (1 + r) := Int.mul_pos u0 (by omega)
      have umb : (u * (1 + r)).natAbs < 10 ^ 60 := by
        have : u * (1 + r) ≤ 10 ^ 10 * 6 := Int.mul_le_mul (by omega) (by omega) (by omega) (by decide)
        omega
      have bg : Bg (10 ^ 60) qs := by
        subst hqs
        refine ⟨by rw [nb]; exact ndu, fun z hz => g.nm z (pu.subset (by rw [nb] at hz; exact hz)), fun y hy => ?_, ?_, ?_⟩
        · obtain ⟨z, hz, rfl⟩ := List.mem_map.mp hy
          have q := g.nb _ (look_mem (pu.subset hz))
          show (look ps z * (1 + r)).natAbs < 10 ^ 60
          rw [Int.natAbs_mul]
          have q2 : (look ps z).natAbs < 10 ^ 40 := q
          have : (look ps z).natAbs * (1 + r).natAbs ≤ 10 ^ 40 * 6 := Nat.mul_le_mul (Nat.le_of_lt q2) (by omega)
          have z2 : (10 : Nat) ^ 40 * 6 < 10 ^ 60 := by decide +kernel
          omega
        · have := g.l1; unfold bagOf; rw [List.length_map]; omega
        · unfold bagOf; rw [List.length_map]; omega
      have pq : qs.Perm (ps.map fun p => (p.1, p.2 * (1 + r))) := by
        rw [← hqs]
        have e : ps.map (fun p => (p.1, p.2 * (1 + r))) = bagOf (fun z => look ps z * (1 + r)) (nms ps) := by
          conv => lhs; rw [← look_self g.nd]
          unfold bagOf
          rw [List.map_map]
          rfl
        rw [e]
        exact pu.map _
      obtain ⟨n1, n2⟩ := chB_nf (u := u) (m := 1 + r) (by omega) u0 g.nd pq
      refine ⟨x, dx, d2, qs, u * (1 + r), rfl, upd_same, ?_, bg, um, umb, fun zs2 H6 sd bt hc => ⟨rfl, ?_⟩⟩
      · rw [upd_ne (ne_of_none e5 hx), upd_ne (ne_of_none e5 hdx)]
        exact e5
      · have ez : zs2 = nms ps := by
          refine sorted_one (sd.pm.trans ?_) sd.ord (sorted_asc _ g.asc)
          rw [← hqs, nb]
          exact pu
        rw [ez, n1, n2] at hc
        have s6 := s5.trans (made_same hx hdx bt)
        exact k x H6 (p3.same s6) ((b1.trans b13).trans (But.of s6)) hc
end
end V0

namespace V0
open PySem PySem.Spec PyProof.Rows L2
/-! ### what is told of a charge, shown -/
theorem sk_app {a b : Str} (ha : PyData.strOk a = true) (hb : PyData.strOk b = true) : PyData.strOk (a ++ b) = true := by
  show (a.cps ++ b.cps).all (· < 0x110000) = true
  rw [Array.all_append, Bool.and_eq_true]
  exact ⟨ha, hb⟩
theorem sk_str (s : String) : PyData.strOk (Str.ofString s) = true := by
  rw [Str.ofString_eq_toList]
  show ((s.toList.map Char.toNat).toArray).all (· < 0x110000) = true
  rw [Array.all_eq_true_iff_forall_mem]
  intro c hc
  have hc' : c ∈ s.toList.map Char.toNat := by simpa using hc
  obtain ⟨ch, _, rfl⟩ := List.mem_map.mp hc'
  have v := ch.valid
  refine decide_eq_true ?_
  show ch.val.toNat < 0x110000
  rcases v with v | v
  · have : ch.val.toNat < 0xd800 := v
    omega
  · exact v.2
theorem sk_itx (n : Int) : PyData.strOk (itx n) = true := sk_str _
theorem sk_ftx (a b : Int) : PyData.strOk (ftx a b) = true := by
  unfold ftx
  split
  · exact sk_itx _
  · exact sk_app (sk_app (sk_itx _) (sk_str _)) (sk_itx _)
theorem sk_join {y : Str} (hy : PyData.strOk y = true) : ∀ (zs : List Str), (∀ z ∈ zs, PyData.strOk z = true) → PyData.strOk (Str.join y zs) = true
  | [], _ => by
    show PyData.strOk Str.empty = true
    decide +kernel
  | [z], h => h z (by simp)
  | z :: x :: r, h => by
    show PyData.strOk (z ++ y ++ Str.join y (x :: r)) = true
    exact sk_app (sk_app (h z (by simp)) hy) (sk_join hy (x :: r) fun w hw => h w (List.mem_cons_of_mem _ hw))
def toldD (zs : List Str) (u : Int) (qs : Bag) (i j n : Int) (x : Str) : PyData :=
  .list [.tuple (zs.map .str), .int u, .dict (qs.map fun p => (.str p.1, .int p.2)), .tuple [.int i, .int j], .list (zs.map .str), .int n, .str x]
def ToldAt (H : Hp) (a : Addr) (zs : List Str) (u : Int) (qs : Bag) (i j n : Int) (x : Str) : Prop := ∃ t d p l, H a = some (.lst [.ref t, .int u, .ref d, .ref p, .ref l, .int n, .str x]) ∧
  H t = some (tupS zs) ∧ H d = some (.dK (kvs qs)) ∧ H p = some (.tup [.int i, .int j]) ∧ H l = some (.lst (zs.map .str))
/-- small enough to be shown -/
structure TSm (zs : List Str) (u : Int) (qs : Bag) (i j n : Int) (x : Str) : Prop where
  z8 : zs.length ≤ 8
  zl : ∀ z ∈ zs, z.length ≤ 8 ∧ PyData.strOk z = true
  q8 : qs.length ≤ 8
  ql : ∀ p ∈ qs, p.1.length ≤ 8 ∧ PyData.strOk p.1 = true ∧ p.2.natAbs < 10 ^ 90
  hu : u.natAbs < 10 ^ 90
  hi : i.natAbs < 10 ^ 90
  hj : j.natAbs < 10 ^ 90
  hn : n.natAbs < 10 ^ 90
  xl : x.length ≤ 3000
  xo : PyData.strOk x = true
theorem Sm.upTo {k m : Nat} {d : PyData} (h : Sm k d) (hk : k ≤ m) : Sm m d := by
  induction hk with
  | refl => exact h
  | step _ ih => exact ih.up
theorem Sm.str1 {z : Str} (h : z.length ≤ 3000) (ho : PyData.strOk z = true) : Sm 1 (.str z) := by
  refine ⟨rfl, ?_, Nat.zero_le _, ?_⟩
  · show (z.cps.toList.all fun c => decide (c < 16 ^ 8)) = true
    rw [List.all_eq_true]
    intro c hc
    have q : c < 0x110000 := of_decide_eq_true (Array.all_eq_true_iff_forall_mem.mp ho c (by rw [← Array.mem_toList_iff]; exact hc))
    exact decide_eq_true (by omega)
  · show z.cps.size ≤ 1000 * 4 ^ 1
    have : z.cps.size = z.length := rfl
    omega
theorem w_strs : ∀ zs : List Str, (∀ z ∈ zs, z.length ≤ 8) → PyData.weightAll (zs.map .str) ≤ zs.length * 9
  | [], _ => Nat.le_refl _
  | z :: zs, h => by
    have ih := w_strs zs fun y hy => h y (by simp [hy])
    have := h z (by simp)
    show z.cps.size + 1 + PyData.weightAll (zs.map .str) ≤ (zs.length + 1) * 9
    have e : z.cps.size = z.length := rfl
    omega
theorem sm_strs {zs : List Str} (h8 : zs.length ≤ 8) (h : ∀ z ∈ zs, z.length ≤ 8 ∧ PyData.strOk z = true) : Sm 1 (.list (zs.map .str)) ∧ Sm 1 (.tuple (zs.map .str)) := by
  obtain ⟨a, b, c, _⟩ := sm_all (k := 0) (zs.map PyData.str) fun d hd => by
    obtain ⟨z, hz, rfl⟩ := List.mem_map.mp hd
    exact Sm.str (by have := (h z hz).1; omega) (h z hz).2
  have w : PyData.weightAll (zs.map .str) ≤ 1000 * 4 ^ 1 := by
    have := w_strs zs fun z hz => (h z hz).1
    omega
  exact ⟨⟨a, b, Nat.succ_le_succ c, w⟩, ⟨a, b, Nat.succ_le_succ c, w⟩⟩
theorem sm_kv : ∀ qs : Bag, (∀ p ∈ qs, p.1.length ≤ 8 ∧ PyData.strOk p.1 = true ∧ p.2.natAbs < 10 ^ 90) →
    PyData.showableKv (qs.map fun p => (PyData.str p.1, PyData.int p.2)) = true ∧ PyData.leavesShortKv 100 (qs.map fun p => (PyData.str p.1, PyData.int p.2)) = true ∧ PyData.depthKv (qs.map fun p => (PyData.str p.1, PyData.int p.2)) = 0 ∧ PyData.weightKv (qs.map fun p => (PyData.str p.1, PyData.int p.2)) ≤ qs.length * 1100
  | [], _ => ⟨rfl, rfl, rfl, Nat.le_refl _⟩
  | p :: qs, h => by
    obtain ⟨a, b, c, e⟩ := sm_kv qs fun q hq => h q (by simp [hq])
    obtain ⟨h1, h2, h3⟩ := h p (by simp)
    have s1 := Sm.str (z := p.1) (by omega) h2
    have s2 := Sm.int h3
    have w1 : PyData.weight (.str p.1) ≤ 8 := h1
    have w2 := s2.wt
    refine ⟨?_, ?_, ?_, ?_⟩
    · show (PyData.showable (.str p.1) && PyData.showable (.int p.2) && PyData.showableKv _) = true
      rw [s1.sh, s2.sh, a]; rfl
    · show (PyData.leavesShort 100 (.str p.1) && PyData.leavesShort 100 (.int p.2) && PyData.leavesShortKv 100 _) = true
      rw [s1.lv, s2.lv, b]; rfl
    · show max (max 0 0) (PyData.depthKv _) = 0
      rw [c]; rfl
    · show PyData.weight (.str p.1) + PyData.weight (.int p.2) + 2 + PyData.weightKv _ ≤ (qs.length + 1) * 1100
      omega
theorem TSm.smP {zs : List Str} {u : Int} {qs : Bag} {i j n : Int} {x : Str} (h : TSm zs u qs i j n x) : Sm 1 (.tuple [.int i, .int j]) :=
  (Sm.seq (k := 0) (ds := [.int i, .int j]) (fun d hd => by
    rcases List.mem_cons.mp hd with rfl | hd
    · exact Sm.int h.hi
    · rw [List.mem_singleton] at hd
      subst hd
      exact Sm.int h.hj) (by show 2 ≤ 3; decide)).2
theorem TSm.smD {zs : List Str} {u : Int} {qs : Bag} {i j n : Int} {x : Str} (h : TSm zs u qs i j n x) : Sm 2 (.dict (qs.map fun p => (.str p.1, .int p.2))) := by
  obtain ⟨b1, b2, b3, b4⟩ := sm_kv qs h.ql
  have := h.q8
  refine ⟨b1, b2, ?_, ?_⟩
  · show PyData.depthKv _ + 1 ≤ 2
    rw [b3]; decide
  · show PyData.weightKv _ ≤ 1000 * 4 ^ 2
    omega
theorem TSm.sm {zs : List Str} {u : Int} {qs : Bag} {i j n : Int} {x : Str} (h : TSm zs u qs i j n x) : Sm 3 (toldD zs u qs i j n x) := by
  have a1 := (sm_strs h.z8 h.zl).2.upTo (m := 2) (by decide)
  have a5 := (sm_strs h.z8 h.zl).1.upTo (m := 2) (by decide)
  have a2 := (Sm.int h.hu).upTo (m := 2) (by decide)
  have a6 := (Sm.int h.hn).upTo (m := 2) (by decide)
  have a7 := (Sm.str1 h.xl h.xo).upTo (m := 2) (by decide)
  have a4 := h.smP.upTo (m := 2) (by decide)
  have a3 := h.smD
  have all : ∀ d ∈ [PyData.tuple (zs.map .str), .int u, .dict (qs.map fun p => (.str p.1, .int p.2)), .tuple [.int i, .int j], .list (zs.map .str), .int n, .str x], Sm 2 d := fun d hd => by
    simp only [List.mem_cons, List.not_mem_nil, or_false] at hd
    rcases hd with rfl | rfl | rfl | rfl | rfl | rfl | rfl
    · exact a1
    · exact a2
    · exact a3
    · exact a4
    · exact a5
    · exact a6
    · exact a7
  obtain ⟨c1, c2, c3, _⟩ := sm_all _ all
  refine ⟨c1, c2, Nat.succ_le_succ c3, ?_⟩
  show PyData.weight _ + 1 + (PyData.weight _ + 1 + (PyData.weight _ + 1 + (PyData.weight _ + 1 + (PyData.weight _ + 1 + (PyData.weight _ + 1 + (PyData.weight _ + 1 + 0)))))) ≤ 1000 * 4 ^ 3
  have e2 : PyData.weight (.int u) ≤ 1000 := (Sm.int h.hu).wt
  have e6 : PyData.weight (.int n) ≤ 1000 := (Sm.int h.hn).wt
  have e7 : PyData.weight (.str x) ≤ 3000 := h.xl
  have e1 : PyData.weight (.tuple (zs.map .str)) ≤ 4000 := (sm_strs h.z8 h.zl).2.wt
  have e5 : PyData.weight (.list (zs.map .str)) ≤ 4000 := (sm_strs h.z8 h.zl).1.wt
  have e4 := a4.wt
  have e3 := a3.wt
  omega
section
variable {X : Cx} {pins : List (Addr × Obj)} {σ : L2.St} {H : Hp} {s : Shared}
theorem pairs_strs {P : Program} {w : World} : ∀ {es : List DictEntry} {ks : Bag} {vs : List (Key × Value)}, KV (kvs ks) vs → Pairs (mixKind P w) es vs →
    (∃ as, ReadsAll s.heap (es.map (·.key)) (ks.map fun p => PyData.str p.1) as ∧ as = []) ∧ (∃ as, ReadsAll s.heap (es.map (·.val)) (ks.map fun p => PyData.int p.2) as ∧ as = [])
  | es, [], _, kv, p => by
    cases kv
    cases p
    exact ⟨⟨_, .nil, rfl⟩, ⟨_, .nil, rfl⟩⟩
  | es, k :: ks, _, kv, p => by
    cases kv with
    | @cons _ q _ qs e1 e2 =>
      cases p with
      | @cons e _ es' _ p1 p2 p3 =>
        obtain ⟨⟨as, r1, rfl⟩, ⟨bs, r2, rfl⟩⟩ := pairs_strs e2 p3
        obtain ⟨q1, q2⟩ := q
        obtain ⟨e1, t, e3⟩ := e1
        have e1' : Sum.inr k.1 = q1 := e1
        subst e1'
        obtain ⟨t2, e4⟩ := Value.isStrOf_shape (x := k.1) (v := e.key) p1
        refine ⟨⟨_, ?_, rfl⟩, ⟨_, ?_, rfl⟩⟩
        · rw [List.map_cons, e4]
          exact ReadsAll.cons (.str _ _) r1
        · rw [List.map_cons, p2]
          have e3' : q2 = Value.int k.2 t := e3
          show ReadsAll s.heap (q2 :: _) _ _
          rw [e3']
          exact ReadsAll.cons (.int _ _) r2
theorem bag_reads (I : Inv X pins σ H s) {a : Addr} {ks : Bag} (h : H a = some (.dK (kvs ks))) : Reads s.heap (.ref a) (.dict (ks.map fun p => (.str p.1, .int p.2))) [a] ∧ sysModules ≠ a := by
  obtain ⟨hz, hS, vs, r, o, es, ep, h1, h2, h3, h4, h5, h6⟩ := (show ObjOk X.prog X.w H s.heap a (.dK (kvs ks)) from I.hok a _ h)
  obtain ⟨⟨as, r1, rfl⟩, ⟨bs, r2, rfl⟩⟩ := pairs_strs (s := s) r h5
  refine ⟨?_, fun z => by rw [z] at hS; simp at hS⟩
  have q := Reads.dict (h := s.heap) (a := a) (o := o) (es := es) (n := ep) (kvs := ks.map fun p => (PyData.str p.1, PyData.int p.2)) (as := []) (bs := []) h1 h2.1 h3 (by rw [List.map_map]; exact r1) (by rw [List.map_map]; exact r2)
  exact q
theorem reads_strs : ∀ {zs : List Str} {us : List Value}, Vals (zs.map V.str) us → ReadsAll s.heap us (zs.map PyData.str) []
  | [], _, h => by cases h; exact .nil
  | z :: zs, _, h => by
    cases h with
    | cons a b =>
      obtain ⟨t, rfl⟩ := a
      exact ReadsAll.cons (as := []) (.str z t) (reads_strs b)
/-- repr of what is told of a charge -/
def rReprT (K : PySem.W.Frag) : List V → Hp → VK → Prop := fun xs H Q => ∃ (a : Addr) (zs : List Str) (u : Int) (qs : Bag) (i j n : Int) (x : Str), xs = [.ref a] ∧ ToldAt H a zs u qs i j n x ∧ TSm zs u qs i j n x ∧ Q (.str (toldD zs u qs i j n x).shown) H
/-- the parts of a list, each shown -/
theorem rk_cons {prog : Program} {w : World} {h : Heap} {v : Value} {vs : List Value} {d : PyData} {ds : List PyData} (k1 : ∃ bs, ReadAtMost h d.depth bs ∧ ReprK prog w bs h d.depth v d.shown)
    (k2 : ∃ bs, ReadAtMost h (PyData.depthAll ds) bs ∧ ReprAllK prog w bs h (PyData.depthAll ds) vs (PyData.shownAll ds)) :
    ∃ bs, ReadAtMost h (PyData.depthAll (d :: ds)) bs ∧ ReprAllK prog w bs h (PyData.depthAll (d :: ds)) (v :: vs) (PyData.shownAll (d :: ds)) := by
  obtain ⟨b1, h1, q1⟩ := k1
  obtain ⟨b2, h2, q2⟩ := k2
  have l1 : d.depth ≤ PyData.depthAll (d :: ds) := Nat.le_max_left _ _
  have l2 : PyData.depthAll ds ≤ PyData.depthAll (d :: ds) := Nat.le_max_right _ _
  refine ⟨b1 ++ b2, (h1.mono l1).append (h2.mono l2), ?_⟩
  exact .cons ((q1.more fun b hb => List.mem_append_left _ hb).level_le l1) (q2.more_le (fun b hb => List.mem_append_right _ hb) l2)
theorem rk_of {prog : Program} {w : World} {h : Heap} {v : Value} {d : PyData} {as : List Addr} {k : Nat} (r : Reads h v d as) (sm : Sm k d) (hk : k ≤ 3) (hm : d.hasDict = true → sysModules ∉ as) :
    ∃ bs, ReadAtMost h d.depth bs ∧ ReprK prog w bs h d.depth v d.shown := ReprK.of_reads r sm.sh hm (sm.size hk)
theorem call_reprT (hg : X.A.guards = some []) (hu : X.A.units + 64 < cLine) : CallR X (.builtin "repr") (rReprT X.K) := by
  intro pins s σ H xs us Q I r h
  obtain ⟨a, zs, u, qs, i, j, n, x, rfl, ⟨t, d, p, l, h1, h2, h3, h4, h5⟩, sm, q⟩ := h
  obtain ⟨uu, rfl, rx⟩ := vals1 r
  cases rx
  obtain ⟨rd, nd⟩ := bag_reads I h3
  obtain ⟨i1, rv1, ⟨o1, ho1, hc1, n1, hd1⟩, _⟩ := I.tuple (SqT.of h2)
  obtain ⟨i2, rv2, ⟨o2, ho2, hc2, n2, hd2⟩, _⟩ := I.tuple (SqT.of h4)
  obtain ⟨i3, rv3, ⟨o3, n3, ho3, hc3, _, hd3⟩, _⟩ := I.list (SqL.of h5)
  obtain ⟨i4, rv4, ⟨o4, n4, ho4, hc4, _, hd4⟩, _⟩ := I.list (SqL.of h1)
  have r1 : Reads s.heap (.ref t) (.tuple (zs.map .str)) [] := Reads.tuple ho1 hc1 hd1 (reads_strs rv1)
  have r3 : Reads s.heap (.ref l) (.list (zs.map .str)) [l] := Reads.list ho3 hc3 hd3 (reads_strs rv3)
  have r2 : Reads s.heap (.ref p) (.tuple [.int i, .int j]) [] := by
    cases rv2 with
    | cons a1 b1 =>
      cases b1 with
      | cons a2 b2 =>
        cases b2
        obtain ⟨t1, rfl⟩ := a1
        obtain ⟨t2, rfl⟩ := a2
        exact Reads.tuple ho2 hc2 hd2 (ReadsAll.cons (as := []) (.int i t1) (ReadsAll.cons (as := []) (.int j t2) .nil))
  have noS : ∀ zs : List Str, PyData.hasDictAll (zs.map PyData.str) = false := fun zs => by
    induction zs with
    | nil => rfl
    | cons z zs ih =>
      show (PyData.hasDict (.str z) || PyData.hasDictAll (zs.map PyData.str)) = false
      rw [ih]
      rfl
  cases rv4 with
  | cons a1 b => cases b with
  | cons a2 b => cases b with
  | cons a3 b => cases b with
  | cons a4 b => cases b with
  | cons a5 b => cases b with
  | cons a6 b => cases b with
  | cons a7 b =>
    cases b
    cases a1
    obtain ⟨t2, rfl⟩ := a2
    cases a3
    cases a4
    cases a5
    obtain ⟨t6, rfl⟩ := a6
    obtain ⟨t7, rfl⟩ := a7
    have all := Reads.list ho4 hc4 hd4 (.cons r1 (.cons (.int u t2) (.cons rd (.cons r2 (.cons r3 (.cons (.int n t6) (.cons (.str x t7) .nil)))))))
    have k7 := rk_cons (h := s.heap) (vs := []) (ds := []) (rk_of (prog := X.prog) (w := X.w) (.str x t7) (Sm.str1 sm.xl sm.xo) (by decide) fun z => by cases z) ⟨[], (fun _ h => nomatch h), .nil⟩
    have k6 := rk_cons (h := s.heap) (rk_of (.int n t6) (Sm.int sm.hn) (by decide) fun z => by cases z) k7
    have k5 := rk_cons (rk_of r3 (sm_strs sm.z8 sm.zl).1 (by decide) fun z => by
      have z' : PyData.hasDictAll (zs.map PyData.str) = true := z
      rw [noS] at z'
      cases z') k6
    have k4 := rk_cons (rk_of r2 sm.smP (by decide) fun z => by cases z) k5
    have k3 := rk_cons (rk_of rd sm.smD (by decide) fun _ z => nd (by simpa using z)) k4
    have k2 := rk_cons (h := s.heap) (rk_of (.int u t2) (Sm.int sm.hu) (by decide) fun z => by cases z) k3
    obtain ⟨bs, hb, hk⟩ := rk_cons (rk_of r1 (sm_strs sm.z8 sm.zl).2 (by decide) fun z => by
      have z' : PyData.hasDictAll (zs.map PyData.str) = true := z
      rw [noS] at z'
      cases z') k2
    have hs := sm.sm
    have hd := hs.dp
    have hna : a ∉ bs := not_mem_of_deeper all (Nat.lt_succ_self _) hb
    have hz : (toldD zs u qs i j n x).shown.length ≤ sizeLine := hs.size (by decide)
    refine call_repr_slot (by omega) ⟨o4, ho4, hc4⟩ F.slot_list_repr.toG (call_list_reprK ho4 hc4 hd4 hna (by simpa using hk.length_eq) (fun i y e => hk.item i y (by simpa using e)) hg (fun b _ => Clear.nil b) ?_ (fun _ _ e => e) (fun h' u tk kk => ?_) hz)
    · show X.A.units + 1 + (toldD zs u qs i j n x).depth < cLine
      omega
    · exact ⟨_, _, rfl, .str (toldD _ _ _ _ _ _ _).shown, H, I.kept kk, ⟨_, rfl⟩, q⟩
end
end V0

namespace V0
open PySem PySem.Spec PyProof.Rows L2
/-! ### calls where no repr is under way -/
structure FnG (P : Program) (w : World) (K : PySem.W.Frag) (mg : Str → Option Value) (base : Heap) (k : Nat) (f : Addr) (fd : FuncData) (ps : List Str) (sp : Sp) : Prop where
  len : ∀ vs H Q, sp vs H Q E0 → vs.length = ps.length
  run : ∀ (A : Around) (outer : List Env) (s : Shared) (H : Hp) (args : Args) (us : List Value) (vs : List V) (Q : VK), A.guards = some [] → Room k A → Env0 P w K mg base A outer s H → BindsTo s fd args (ps.zip us) → Vals vs us → sp vs H Q E0 →
    codeAny (model P w) A (.call (.ref f) args) (CR CX0 outer P w H s Q E0) s
section
variable {P : Program} {w : World} {K : PySem.W.Frag} {mg : Str → Option Value} {base : Heap} {k : Nat} {f : Addr} {fd : FuncData} {ps : List Str} {sp : Sp}
theorem FnOk.g (F : FnOk P w K mg base CX0 k f fd ps sp) : FnG P w K mg base k f fd ps sp := ⟨fun vs H Q h => F.len vs H Q E0 h, fun A outer s H args us vs Q _ hr e0 hb r h => F.run A outer s H args us vs Q E0 hr e0 hb r h⟩
theorem FnG.mono {j : Nat} (F : FnG P w K mg base j f fd ps sp) (h : j ≤ k) : FnG P w K mg base k f fd ps sp := ⟨F.len, fun A outer s H args us vs Q g hr => F.run A outer s H args us vs Q g (hr.mono h)⟩
/-- a def whose body is right wherever no repr is under way -/
theorem g_of {x qual : Str} {st : Stmt} {N : List Str} (F : Fun K x qual st f fd) (S : FnScope N ps (defScope st)) (hl : ∀ vs H Q, sp vs H Q E0 → vs.length = ps.length)
    (body : ∀ (cdv : Value) (A : Around) (outer : List Env) (s : Shared) (H : Hp) (vs : List V) (Q : VK), A.guards = some [] → Room k (A.deeper (envOfC qual (defScope st) s.heap.objs.size f cdv)) → sp vs H Q E0 →
      ∃ t, PSs (cxOf CX0 P w K mg base N qual (defScope st) f cdv A outer s H E0).nox (defBody st) t ∧ t { nx := fun _ H' => Q .non H', rt := Q } (L2.start N vs) H) : FnG P w K mg base (k + 1) f fd ps sp :=
  ⟨hl, fun A outer s H args us vs Q g hr e0 hb r h => runs_at F S hr e0 hb r (hl vs H Q h) fun cdv hr' => body cdv A outer s H vs Q g hr' h⟩
end
section
variable {X : Cx} {k : Nat} {f : Addr} {fd : FuncData} {ps : List Str} {sp : Sp} {x : Str} {p pos : Pos} {e : Expr} {es : List Expr} {t : TA} {pins : List (Addr × Obj)} {σ : L2.St} {H : Hp} {s : Shared}
theorem pe_callG (F : FnG X.prog X.w X.K X.mg X.base k f fd ps sp) (g : X.A.guards = some []) (hr : Room k X.A) (hg : Gl X x) (hm : X.mg x = some (.ref f)) (hk : PySem.W.keepIn X.K (.ref f) = true) (hb : Binds X.K fd ps []) (ha : PA X (e :: es) t)
    (hdb : (x == ("__debug__" : Str)) = false := by decide) (he : starEach (e :: es) X.env = (false, eval e X.env) :: starEach es X.env := by rfl) (hpl : (backTo pos (starEach es X.env)).any (·.1) = false := by rfl) :
    PE X (.Call (.Name x p) (e :: es) [] pos) (tCall sp [] E0 t) := by
  refine ⟨fun pins s σ H Q I h => ?_⟩
  refine wpAny_Call_Name_kw (ld_glob I hg hm ?_ hdb)
  refine PySem.W.callWith_K (h₀ := X.base) I.ok.mod.kin hk (thn (ha.run pos pins s σ H _ I h) fun us s1 ⟨vs, H1, I1, r, q⟩ => ⟨I1.kIn, ?_⟩) he hpl
  have q' : sp (vs ++ []) H1 Q E0 := q
  rw [List.append_nil] at q'
  have hl : (us ++ []).length = ps.length := by rw [List.append_nil, ← r.length]; exact F.len _ _ _ q'
  have hbd := hb s1 us I1.kIn hl
  rw [List.append_nil] at hbd
  refine wpAny_call (codeAny_mono (F.run X.A X.stack s1 H1 ⟨us, []⟩ us vs Q g hr I1.env0 hbd r q') fun r s' hq => ?_)
  cases r with
  | error e => exact False.elim hq
  | ok fl =>
    cases fl with
    | ret u => exact I1.after hq
    | next => exact False.elim hq
    | brk => exact False.elim hq
    | cont => exact False.elim hq
end
end V0

namespace V0
open PySem PySem.Spec PyProof.Rows L2
/-! ### dicts whose values are pairs of integers in lowest terms -/
def LowAt (ps : Bag) (u : Int) (H : Hp) (z : Str) (p : Addr) : Prop := H p = some (.tup [.int (look ps z / fg (look ps z) u), .int (u / fg (look ps z) u)])
def lkv (zs : List Str) (as : List Addr) : List (Key × V) := (zs.zip as).map fun q => (.inr q.1, .ref q.2)
theorem lkv_keys : ∀ {zs : List Str} {as : List Addr}, zs.length = as.length → (lkv zs as).map (·.1) = zs.map Sum.inr
  | [], [], _ => rfl
  | z :: zs, a :: as, h => by
    have ih := lkv_keys (zs := zs) (as := as) (Nat.succ.inj h)
    show Sum.inr z :: (lkv zs as).map (·.1) = _
    rw [ih]
    rfl
theorem lkv_nd {zs : List Str} {as : List Addr} (h : zs.length = as.length) (nd : zs.Nodup) : ((lkv zs as).map (·.1)).Nodup := by
  rw [lkv_keys h]
  exact List.Pairwise.map _ (fun a b e z => e (Sum.inr.inj z)) nd
theorem lkv_at {R : Str → Addr → Prop} : ∀ {zs : List Str} {as : List Addr} {z : Str}, Paired R zs as → z ∈ zs → ∃ p, valV (lkv zs as) (.inr z) = some (.ref p) ∧ R z p
  | _, _, _, .nil, h => by cases h
  | _, _, z, .cons (a := y) (b := b) (l₁ := zs) (l₂ := as) r rs, h => by
    by_cases e : y = z
    · subst e
      exact ⟨b, valV_pos rfl, r⟩
    · have hz : z ∈ zs := by
        rcases List.mem_cons.mp h with q | q
        · exact absurd q.symm e
        · exact q
      obtain ⟨p, h1, h2⟩ := lkv_at rs hz
      exact ⟨p, by rw [← h1]; exact valV_neg (by intro q; exact e (Sum.inr.inj q)), h2⟩
theorem lkv_snoc {zs : List Str} {as : List Addr} {z : Str} {a : Addr} (h : zs.length = as.length) : lkv (zs ++ [z]) (as ++ [a]) = lkv zs as ++ [(.inr z, .ref a)] := by
  unfold lkv
  rw [List.zip_append h, List.map_append]
  rfl
theorem lkv_len {zs : List Str} {as : List Addr} (h : zs.length = as.length) : (lkv zs as).length = zs.length := by
  unfold lkv
  rw [List.length_map, List.length_zip]
  omega
/-- the state of the walk that makes them -/
def Lw (H : Hp) (D : Addr) (ps : Bag) (u : Int) (zs : List Str) (i : Nat) (H' : Hp) : Prop := Same H H' ∧ ∃ as, Paired (LowAt ps u H') (zs.take i) as ∧ PairsV H' D (lkv (zs.take i) as)
theorem lw0 {H : Hp} {D : Addr} {ps : Bag} {u : Int} {zs : List Str} (hD : H D = none) : Lw H D ps u zs 0 (upd H D (.lst [])) := ⟨Same.new hD, [], .nil, PairsV.nil upd_same⟩
theorem lw1 {H H1 : Hp} {D t p : Addr} {ps : Bag} {u : Int} {zs : List Str} {i : Nat} {z : Str} (hD : H D = none) (hz : zs[i]? = some z) (h : Lw H D ps u zs i H1) (hp : H1 p = none)
    (ht : (upd H1 p (.tup [.int (look ps z / fg (look ps z) u), .int (u / fg (look ps z) u)])) t = none) (l : zs.length ≤ 1000) :
    ∃ acc, (upd (upd H1 p (.tup [.int (look ps z / fg (look ps z) u), .int (u / fg (look ps z) u)])) t (.tup [.str z, .ref p])) D = some (.lst acc) ∧ acc.length < sizeLine ∧
      Lw H D ps u zs (i + 1) (upd (upd (upd H1 p (.tup [.int (look ps z / fg (look ps z) u), .int (u / fg (look ps z) u)])) t (.tup [.str z, .ref p])) D (.lst (acc ++ [.ref t]))) := by
  obtain ⟨s1, as, e1, e2⟩ := h
  have s2 := Same.new (o := .tup [.int (look ps z / fg (look ps z) u), .int (u / fg (look ps z) u)]) hp
  have ep : (upd H1 p (.tup [.int (look ps z / fg (look ps z) u), .int (u / fg (look ps z) u)])) p = _ := upd_same
  generalize upd H1 p (.tup [.int (look ps z / fg (look ps z) u), .int (u / fg (look ps z) u)]) = H2 at s2 ep ht
  obtain ⟨ts, hD1, _⟩ := id e2
  obtain ⟨acc, a1, a2, a3⟩ := (e2.same s2).step (k := .inr z) (v := .ref p) ht
  have s3 := Same.new (o := .tup [.str z, .ref p]) ht
  have hl : (zs.take i).length = as.length := e1.length
  have nD : ∀ b o, H2 b = some (.tup o) → b ≠ D := fun b o e => ne_of e (s2 _ _ hD1) fun z => nomatch z
  refine ⟨acc, a1, ?_, ?_, as ++ [p], ?_, ?_⟩
  · rw [a2, lkv_len hl, List.length_take, sizeLine_eq]
    omega
  · intro b o e
    have hbD : b ≠ D := fun q => by rw [q, hD] at e; cases e
    rw [upd_ne hbD]
    exact s3 _ _ (s2 _ _ (s1 _ _ e))
  · rw [List.take_add_one, hz]
    refine paired_snoc (paired_mono (fun y b e => ?_) e1) ?_
    · have e' := s2 _ _ e
      show (upd _ D _) b = _
      rw [upd_ne (nD _ _ e')]
      exact s3 _ _ e'
    · show (upd _ D _) p = _
      rw [upd_ne (nD _ _ ep)]
      exact s3 _ _ ep
  · rw [List.take_add_one, hz]
    show PairsV _ D (lkv (zs.take i ++ [z]) (as ++ [p]))
    rw [lkv_snoc hl]
    exact a3
theorem ToldAt.same {H H' : Hp} {a : Addr} {zs : List Str} {u : Int} {qs : Bag} {i j n : Int} {x : Str} (h : ToldAt H a zs u qs i j n x) (s : Same H H') : ToldAt H' a zs u qs i j n x := by
  obtain ⟨t, d, p, l, h1, h2, h3, h4, h5⟩ := h
  exact ⟨t, d, p, l, s _ _ h1, s _ _ h2, s _ _ h3, s _ _ h4, s _ _ h5⟩
theorem sum_bound {b : Nat} {ps : Bag} : ∀ zs : List Str, (∀ z ∈ zs, (look ps z).natAbs ≤ b) → (sumB ps zs).natAbs ≤ zs.length * b
  | [], _ => by simp [sumB]
  | z :: zs, h => by
    have ih := sum_bound zs fun y hy => h y (by simp [hy])
    have h1 := h z (by simp)
    unfold sumB at ih ⊢
    rw [List.map_cons, List.sum_cons, List.length_cons, Nat.succ_mul]
    omega
theorem tsm_of {ps : Bag} {u : Int} (g : S8 ps u) : TSm (nms ps) (nfU u ps) (nfB u ps) (sumB ps (nms ps) / fg (sumB ps (nms ps)) u) (u / fg (sumB ps (nms ps)) u) (ps.length : Nat) (chText (nfB u ps) (nfU u ps)) := by
  have l8 := g.l8
  have u0 := g.u0
  have ub := g.ub
  have n0 := nfU_pos (ps := ps) u0
  have n1 := nfU_le (ps := ps) u0
  have h90 : (10 : Nat) ^ 40 * 8 < 10 ^ 90 := by decide +kernel
  have h90' : (10 : Nat) ^ 11 < 10 ^ 90 := by decide +kernel
  have sb := sum_bound (b := 10 ^ 40) (ps := ps) (nms ps) fun z hz => Nat.le_of_lt (g.nb _ (look_mem hz))
  rw [nms_len] at sb
  have dp := den_pos (i := sumB ps (nms ps)) u0
  have dl := div_le (i := sumB ps (nms ps)) (fg_pos (i := sumB ps (nms ps)) u0)
  have nb := nf_bound u0 g.nb
  have mem : ∀ q ∈ nfB u ps, q.1 ∈ nms ps := fun q hq => by
    have : q.1 ∈ nms (nfB u ps) := List.mem_map.mpr ⟨q, hq, rfl⟩
    rw [nfB_nms] at this
    exact this
  have sb8 : (sumB ps (nms ps)).natAbs ≤ 8 * 10 ^ 40 := Nat.le_trans sb (Nat.mul_le_mul_right _ l8)
  refine ⟨by rw [nms_len]; exact l8, fun z hz => ⟨(g.nm z hz).2, low_ok (g.nm z hz).1⟩, by rw [nf_len]; exact l8, fun q hq => ⟨(g.nm _ (mem q hq)).2, low_ok (g.nm _ (mem q hq)).1, by have := nb q hq; omega⟩, by omega, by omega, by omega, by omega, ?_, ?_⟩
  · unfold chText
    have n64 : (nfU u ps).natAbs < 10 ^ 64 := Nat.lt_trans (show (nfU u ps).natAbs < 10 ^ 11 by omega) (by decide +kernel)
    have key : ∀ qs : Bag, (∀ q ∈ qs, q ∈ nfB u ps) → ((qs.map (piece (nfU u ps))).map (·.length)).sum ≤ qs.length * 160 := fun qs => by
      induction qs with
      | nil => intro _; exact Nat.le_refl _
      | cons q qs ih =>
        intro hq
        have i1 := ih fun r h => hq r (by simp [h])
        have hm := hq q (by simp)
        have a0 := fg_pos (i := q.2) n0
        have a1 : (q.2 / fg q.2 (nfU u ps)).natAbs < 10 ^ 64 := Nat.lt_of_le_of_lt (div_le a0) (Nat.lt_trans (nb q hm) (by decide +kernel))
        have a2 : (nfU u ps / fg q.2 (nfU u ps)).natAbs < 10 ^ 64 := Nat.lt_of_le_of_lt (div_le a0) n64
        have lf := ftx_len a1 a2
        have l1 : (Str.ofString " ").length = 1 := by decide +kernel
        have l2 := (g.nm _ (mem q hm)).2
        have lp : (piece (nfU u ps) q).length ≤ 160 := by
          unfold piece
          rw [PySem.Str.length_append, PySem.Str.length_append]
          omega
        rw [List.map_cons, List.map_cons, List.sum_cons, List.length_cons, Nat.succ_mul]
        omega
    have q := key (nfB u ps) fun _ h => h
    rw [TL.join_eq]
    have jl := PySem.StrLaws.join_length_le (Str.ofString ", ") ((nfB u ps).map (piece (nfU u ps)))
    have l2 : (Str.ofString ", ").length = 2 := by decide +kernel
    rw [List.length_map, nf_len, l2] at jl
    rw [nf_len] at q
    omega
  · unfold chText
    rw [TL.join_eq]
    refine sk_join (sk_str _) _ fun z hz => ?_
    obtain ⟨q, hq, rfl⟩ := List.mem_map.mp hz
    unfold piece
    exact sk_app (sk_app (low_ok (g.nm _ (mem q hq)).1) (sk_str _)) (sk_ftx _ _)
theorem dp_pair {K : PySem.W.Frag} {H : Hp} {p : Addr} {i j : Int} (h : H p = some (.tup [.int i, .int j])) : Dp K H (.ref p) (.tuple [.int i, .int j]) := .tup (SqT.of h) (.cons (.int i) (.cons (.int j) .nil))
theorem sh_pair (i j : Int) : SeqAt.shaped (.tuple [.int i, .int j]) = true := by
  show (PyData.canLayAll0 [.int i, .int j] && decide (PyData.depthAll [.int i, .int j] + 1 ≤ 64)) = true
  rfl
theorem eqv_pair (i j : Int) : PyData.eqv (.tuple [.int i, .int j]) (.tuple [.int i, .int j]) = true := by simp [PyData.eqv, PyData.eqvAll]
theorem eqv_nil2 : PyData.eqv (.list []) (.list []) = true := by simp [PyData.eqv, PyData.eqvAll]
theorem notin_words : ("q" : Str) ∉ wordsL ∧ ("" : Str) ∉ wordsL ∧ ("A" : Str) ∉ wordsL ∧ ("unlike" : Str) ∉ wordsL := by decide +kernel
def spIsTold (C : Addr) : Sp := fun vs H Q _ => ∃ (x a : Addr) (ps : Bag) (u : Int), vs = [.ref x, .ref a] ∧ ChOf C H x ps u ∧ SomeAt H a ps u ∧ S8 ps u ∧ ∀ H', Same H H' → Q (.bl true) H'
theorem DGet.low {H : Hp} {d : Addr} {ps : Bag} {u : Int} {zs : List Str} {as : List Addr} {z : Str} (h : H d = some (.dK (lkv zs as))) (pr : Paired (LowAt ps u H) zs as) (hz : z ∈ zs) : ∃ p, DGet H d (.str z) (some (.ref p)) ∧ LowAt ps u H z p := by
  obtain ⟨p, h1, h2⟩ := lkv_at pr hz
  exact ⟨p, .inl ⟨_, .inr z, .inl h, rfl, h1.symm⟩, h2⟩
section
variable {P : Program} {w : World} {K : PySem.W.Frag} {mg : Str → Option Value} {base : Heap} {C : Addr} {ad : Nat → Addr} {fdd : Nat → FuncData}
abbrev s_is_told : Stmt := top 44
abbrev N_is_told : List Str := ["_law_charge", "_law_some", "_law_one", "_law_things", "_law_parts_by", "_law_most", "_law_paid_here", "_law_told", "_law_words_here", "_law_due", "_law_odd"]
abbrev P_is_told : List Str := ["_law_charge", "_law_some"]
theorem sc_is_told : FnScope N_is_told P_is_told (defScope s_is_told) := ⟨rfl, rfl, rfl, by decide +kernel, rfl, by decide +kernel, by decide +kernel⟩
theorem ok_is_told {f f1 f2 f3 : Addr} {fd fd1 fd2 fd3 : FuncData} (O : Own P w K mg base C ad fdd) (D_low : Df K mg "_law_low" s_low P_low f1 fd1) (D_common : Df K mg "_law_common" s_common P_common f2 fd2)
    (D_lfraction_text : Df K mg "_law_fraction_text" s_lfraction_text P_lfraction_text f3 fd3) (D : Df K mg "_law_is_told" s_is_told P_is_told f fd) : FnG P w K mg base 8 f fd P_is_told (spIsTold C) := by
  obtain ⟨B, M, KCharge, N, NX, Y_init, G_init, Y_Charge_things, G_Charge_things, Y_Charge_unit, G_Charge_unit, Y_Charge_pays, G_Charge_pays, Y_Charge_total, G_Charge_total, Y_Charge_of, G_Charge_of, Y_Charge_cut, G_Charge_cut, O_len, O_str, O_iter, O_item, O_cont, O_eq⟩ := id O
  have G_low : FnOk P w K mg base CX0 1 f1 fd1 P_low spFr := ok_low B D_low
  have G_common : FnOk P w K mg base CX0 2 f2 fd2 P_common spCommon := ok_common B D_low D_common
  have G_lfraction_text : FnOk P w K mg base CX0 1 f3 fd3 P_lfraction_text spFracText := ok_lfr_text B D_lfraction_text
  refine g_of D.F sc_is_told (fun vs H Q h => ?_) (fun cdv A outer s H vs Q hgd0 hr h => ?_)
  · obtain ⟨x, a, ps, u, rfl, _⟩ := h
    rfl
  · obtain ⟨x, a, ps, u, rfl, hc, ⟨d, h1, h2⟩, g, k⟩ := h
    have hgd : (cxOf CX0 P w K mg base N_is_told "_law_is_told" (defScope s_is_told) f cdv A outer s H E0).nox.A.guards = some [] := hgd0
    refine ⟨_, (pss_cons (ps_asg (pe_tup (pa_cons (pe_callB (call_sortedD rfl) (by rfl) M.b_sorted (by decide +kernel) (pa_cons (pe_ix ix_tup (pv 1) pe_int (fun _ _ => rfl)) pa_nil)) (pa_cons (pe_callTy (call_dictP rfl) (by rfl) B.b_dict (by decide +kernel) (pa_cons (pe_lc (own := [("_law_one", 2)]) (g := gName 2) (tt := tYes) rfl sc_is_told.nd (pi_list (pe_callB (call_sortedD rfl) (by rfl) M.b_sorted (by decide +kernel) (pa_cons (pe_ix ix_tup (pv 1) pe_int (fun _ _ => rfl)) pa_nil))) (blkOk_by (own := [("_law_one", 2)]) (N := N_is_told) (sc := defScope s_is_told) (by decide +kernel)) (fun _ _ _ _ _ => (pg_name (i := 2) sc_is_told.nd rfl (Or.inl rfl))) (fun _ _ _ _ _ => pts_nil) (fun _ _ _ _ _ => (pe_tup (pa_cons (pv 2) (pa_cons (pe_call G_low (hr.mono (by decide)) (by rfl) D_low.g D_low.F.kp D_low.b .nil pass0 (pa_cons (show PE _ _ (tDGet (tOp (rIxT K) (tVar 1) (tC (.int 0))) (tVar 2)) from by exact (pe_dget (hu_of hr) (pe_ix ix_tup (pv 1) pe_int (fun _ _ => rfl)) (pv 2) (fun _ _ => rfl))) (pa_cons (show PE _ _ (tOp (rIxT K) (tVar 1) (tC (.int 1))) from by exact (pe_ix ix_tup (pv 1) pe_int (fun _ _ => rfl))) pa_nil))) pa_nil))))) pa_nil)) pa_nil))) (pg_tup rfl (pgs_cons (pg_name (i := 3) sc_is_told.nd rfl (Or.inl rfl)) (pgs_cons (pg_name (i := 4) sc_is_told.nd rfl (Or.inr rfl)) pgs_nil))))
      (pss_cons (ps_set (i := 5) sc_is_told.nd rfl (Or.inr rfl) (pe_call G_common (hr.mono (by decide)) (by rfl) D_common.g D_common.F.kp D_common.b .nil pass0 (pa_cons (pe_lc (own := [("_law_one", 2)]) (g := gName 2) (tt := tYes) rfl sc_is_told.nd (pi_list (pv 3)) (blkOk_by (own := [("_law_one", 2)]) (N := N_is_told) (sc := defScope s_is_told) (by decide +kernel)) (fun _ _ _ _ _ => (pg_name (i := 2) sc_is_told.nd rfl (Or.inl rfl))) (fun _ _ _ _ _ => pts_nil) (fun _ _ _ _ _ => (show PE _ _ (tOp (rIxT K) (tDGet (tVar 4) (tVar 2)) (tC (.int 1))) from by exact (pe_ix ix_tup (pe_dget (hu_of hr) (pv 4) (pv 2) (fun _ _ => rfl)) pe_int (fun _ _ => rfl))))) pa_nil)))
      (pss_cons (ps_set (i := 6) sc_is_told.nd rfl (Or.inl rfl) (pe_callTy (call_dictP rfl) (by rfl) B.b_dict (by decide +kernel) (pa_cons (pe_lc (own := [("_law_one", 2)]) (g := gName 2) (tt := tYes) rfl sc_is_told.nd (pi_list (pv 3)) (blkOk_by (own := [("_law_one", 2)]) (N := N_is_told) (sc := defScope s_is_told) (by decide +kernel)) (fun _ _ _ _ _ => (pg_name (i := 2) sc_is_told.nd rfl (Or.inl rfl))) (fun _ _ _ _ _ => pts_nil) (fun _ _ _ _ _ => (pe_tup (pa_cons (pv 2) (pa_cons (pe_op op_mul (show PE _ _ (tOp (rIxT K) (tDGet (tVar 4) (tVar 2)) (tC (.int 0))) from by exact (pe_ix ix_tup (pe_dget (hu_of hr) (pv 4) (pv 2) (fun _ _ => rfl)) pe_int (fun _ _ => rfl))) (pe_op op_fdivZ (pv 5) (show PE _ _ (tOp (rIxT K) (tDGet (tVar 4) (tVar 2)) (tC (.int 1))) from by exact (pe_ix ix_tup (pe_dget (hu_of hr) (pv 4) (pv 2) (fun _ _ => rfl)) pe_int (fun _ _ => rfl))))) pa_nil))))) pa_nil)))
      (pss_cons (ps_set (i := 7) sc_is_told.nd rfl (Or.inl rfl) (pe_lst (pa_cons (pe_prop (pv 0) KCharge.cl Y_Charge_things.pr G_Charge_things (hr.mono (by decide)) Y_Charge_things.b .nil pass0 rfl) (pa_cons (pe_prop (pv 0) KCharge.cl Y_Charge_unit.pr G_Charge_unit (hr.mono (by decide)) Y_Charge_unit.b .nil pass0 rfl) (pa_cons (pe_prop (pv 0) KCharge.cl Y_Charge_pays.pr G_Charge_pays (hr.mono (by decide)) Y_Charge_pays.b .nil pass0 rfl) (pa_cons (pe_prop (pv 0) KCharge.cl Y_Charge_total.pr G_Charge_total (hr.mono (by decide)) Y_Charge_total.b .nil pass0 rfl) (pa_cons (pe_callTy (call_listO O_iter O_len rfl (hr.mono (by decide)) (hr.mono (by decide))) (by rfl) B.b_list (by decide +kernel) (pa_cons (pv 0) pa_nil)) (pa_cons (pe_callB (call_lenO O_len (hr.mono (by decide)) pass0) (by rfl) B.b_len (by decide +kernel) (pa_cons (pv 0) pa_nil)) (pa_cons (pe_callTy (call_strO O_str (hr.mono (by decide)) pass0) (by rfl) B.b_str (by decide +kernel) (pa_cons (pv 0) pa_nil)) pa_nil)))))))))
      (pss_cons (ps_set (i := 8) sc_is_told.nd rfl (Or.inl rfl) (pe_join pe_str (pe_lc (own := [("_law_one", 2)]) (g := gName 2) (tt := tYes) rfl sc_is_told.nd (pi_list (pv 3)) (blkOk_by (own := [("_law_one", 2)]) (N := N_is_told) (sc := defScope s_is_told) (by decide +kernel)) (fun _ _ _ _ _ => (pg_name (i := 2) sc_is_told.nd rfl (Or.inl rfl))) (fun _ _ _ _ _ => pts_nil) (fun _ _ _ _ _ => (pe_op op_add_str (pe_op op_add_str (pv 2) pe_str) (pe_call G_lfraction_text (hr.mono (by decide)) (by rfl) D_lfraction_text.g D_lfraction_text.F.kp D_lfraction_text.b .nil pass0 (pa_cons (pe_dget (hu_of hr) (pv 4) (pv 2) (fun _ _ => rfl)) pa_nil)))))))
      (pss_cons (ps_set (i := 9) sc_is_told.nd rfl (Or.inl rfl) (pe_lst (pa_cons (pe_callTy call_tuple_of (by rfl) B.b_tuple (by decide +kernel) (pa_cons (pv 3) pa_nil)) (pa_cons (pv 5) (pa_cons (pv 6) (pa_cons (pe_call G_low (hr.mono (by decide)) (by rfl) D_low.g D_low.F.kp D_low.b .nil pass0 (pa_cons (pe_callB (cr_sum rfl) (by rfl) B.b_sum (by decide +kernel) (pa_cons (pe_lc (own := [("_law_one", 2)]) (g := gName 2) (tt := tYes) rfl sc_is_told.nd (pi_list (pv 3)) (blkOk_by (own := [("_law_one", 2)]) (N := N_is_told) (sc := defScope s_is_told) (by decide +kernel)) (fun _ _ _ _ _ => (pg_name (i := 2) sc_is_told.nd rfl (Or.inl rfl))) (fun _ _ _ _ _ => pts_nil) (fun _ _ _ _ _ => (show PE _ _ (tDGet (tOp (rIxT K) (tVar 1) (tC (.int 0))) (tVar 2)) from by exact (pe_dget (hu_of hr) (pe_ix ix_tup (pv 1) pe_int (fun _ _ => rfl)) (pv 2) (fun _ _ => rfl))))) pa_nil)) (pa_cons (pe_ix ix_tup (pv 1) pe_int (fun _ _ => rfl)) pa_nil))) (pa_cons (pv 3) (pa_cons (pe_callB call_len (by rfl) B.b_len (by decide +kernel) (pa_cons (pv 3) pa_nil)) (pa_cons (pv 8) pa_nil)))))))))
      (pss_cons (ps_if (PW.pt (pw_or (pt_cmpR op_ne (pe_callB (call_reprT hgd hr.units) (by rfl) B.b_repr (by decide +kernel) (pa_cons (pv 7) pa_nil)) (pe_callB (call_reprT hgd hr.units) (by rfl) B.b_repr (by decide +kernel) (pa_cons (pv 9) pa_nil)) (nomark _)) (pw_or1 (pt_cmpR (op_neD hr.units) (pe_lc (own := [("_law_one", 2)]) (g := gName 2) rfl sc_is_told.nd (pi_list (pv 3)) (blkOk_by (own := [("_law_one", 2)]) (N := N_is_told) (sc := defScope s_is_told) (by decide +kernel)) (fun _ _ _ _ _ => (pg_name (i := 2) sc_is_told.nd rfl (Or.inl rfl))) (fun _ _ _ _ _ => pts_one (PW.pt (pw_or (show PT _ _ (tTest (tOp (rNeD K) (tOp (rIxO C (spItem C) E0) (tVar 0) (tVar 2)) (tDGet (tVar 4) (tVar 2)))) from by exact (pt_cmpR (op_neD hr.units) (pe_ixO O_item NX.gi (hr.mono (by decide)) pass0 (pv 0) (pv 2)) (pe_dget (hu_of hr) (pv 4) (pv 2) (fun _ _ => rfl)) (nomark _))) (pw_or1 (pt_cmpR (op_notInO O_cont (hr.mono (by decide)) pass0) (pv 2) (pv 0) (by rfl)))))) (fun _ _ _ _ _ => (pv 2))) (pe_lst pa_nil) (nomark _))))) (pss_one (ps_ret pe_bl)) pss_nil)
      (pss_one (ps_ret (pe_cmpR (op_eqD hr.units) (pe_lc (own := [("_law_odd", 10)]) (g := gName 10) rfl sc_is_told.nd (pi_list (pe_lst (pa_cons pe_str (pa_cons pe_str (pa_cons pe_non (pa_cons pe_int (pa_cons (pv 3) (pa_cons (pe_callTy call_tuple_of (by rfl) B.b_tuple (by decide +kernel) (pa_cons (pv 3) pa_nil)) (pa_cons pe_bl (pa_cons pe_str pa_nil)))))))))) (blkOk_by (own := [("_law_odd", 10)]) (N := N_is_told) (sc := defScope s_is_told) (by decide +kernel)) (fun _ _ _ _ _ => (pg_name (i := 10) sc_is_told.nd rfl (Or.inl rfl))) (fun _ _ _ _ _ => pts_one (pt_cmpR (op_inO O_cont (hr.mono (by decide)) pass0) (pv 10) (pv 0) (by rfl))) (fun _ _ _ _ _ => (pv 10))) (pe_lst pa_nil) (nomark _))))))))))), ?_⟩
    have l8 := g.l8
    have u0 := g.u0
    have ub := g.ub
    have len64 : (nms ps).length < 64 := by rw [nms_len]; omega
    have zn : (nms ps).length = ps.length := nms_len ps
    -- the things, in their order
    refine ⟨_, rfl, a, _, 0, .ref d, rfl, rfl, SqT.of h1, rfl, d, _, nms ps, rfl, .inl h2, kvs_keys ps, len64, fun zs l p1 p2 hl => ?_⟩
    have ez : zs = nms ps := sorted_one p1 p2 (sorted_asc _ g.asc)
    subst ez
    have s1 := Same.new (o := .lst ((nms ps).map V.str)) hl
    have e1 : (upd H l (.lst ((nms ps).map V.str))) l = some (.lst ((nms ps).map V.str)) := upd_same
    generalize upd H l (.lst ((nms ps).map V.str)) = H1 at s1 e1
    refine ⟨_, rfl, a, _, 0, .ref d, rfl, rfl, SqT.of (s1 _ _ h1), rfl, d, _, nms ps, rfl, .inl (s1 _ _ h2), kvs_keys ps, len64, fun zs l2 p1 p2 hl2 => ?_⟩
    have ez : zs = nms ps := sorted_one p1 p2 (sorted_asc _ g.asc)
    subst ez
    have s2 := s1.trans (Same.new (o := .lst ((nms ps).map V.str)) hl2)
    have e2 : (upd H1 l2 (.lst ((nms ps).map V.str))) l2 = some (.lst ((nms ps).map V.str)) := upd_same
    have e1 := Same.new (o := .lst ((nms ps).map V.str)) hl2 _ _ e1
    generalize upd H1 l2 (.lst ((nms ps).map V.str)) = H2 at s2 e2 e1
    -- their numbers in lowest terms
    refine ⟨l2, rfl, ⟨_, SqL.of e2⟩, fun D hD => ?_⟩
    refine lc_it (walk_list (xs := (nms ps).map V.str)) (Lw H2 D ps u (nms ps)) (lw0 hD) (fun i H' _ ⟨s, _⟩ => SqL.of (s _ _ e2)) ?_ ?_
    · rintro i y H3 H4 hi lw ⟨rfl, hy⟩
      obtain ⟨z, hz, rfl⟩ := str_at hy
      have hzm := List.mem_of_getElem? hz
      have s3 := s2.trans lw.1
      refine ⟨rfl, _, rfl, _, rfl, a, _, 0, .ref d, rfl, rfl, SqT.of (s3 _ _ h1), rfl, _, rfl, d, _, rfl, DGet.bag (.inl (s3 _ _ h2)) hzm, _, rfl, a, _, 1, .int u, rfl, rfl, SqT.of (s3 _ _ h1), rfl, _, _, rfl, u0, Nat.lt_trans (show u.natAbs < 10 ^ 10 by omega) (by decide +kernel), fun p hp => ⟨by show 2 ≤ sizeLine; decide, fun t ht => ?_⟩⟩
      exact lw1 hD hz lw hp ht (by omega)
    rintro H3 ⟨s3, as, pr, ts, t1, t2⟩
    rw [List.length_map, List.take_length] at pr t2
    have hal : (nms ps).length = as.length := pr.length
    refine ⟨D, ts, _, rfl, SqL.of t1, paired_mono (fun _ _ e => SqT.of e) t2, fun pb hpb => ?_⟩
    rw [mergeK_nil (lkv_nd hal g.nd)]
    have s4 := Same.new (o := .dK (lkv (nms ps) as)) hpb
    have e4 : (upd H3 pb (.dK (lkv (nms ps) as))) pb = some (.dK (lkv (nms ps) as)) := upd_same
    have pr := paired_mono (fun _ _ (e : LowAt ps u H3 _ _) => (show LowAt ps u (upd H3 pb (.dK (lkv (nms ps) as))) _ _ from s4 _ _ e)) pr
    have s4 := (s2.trans s3).trans s4
    have e1 : (upd H3 pb (.dK (lkv (nms ps) as))) l = some (.lst ((nms ps).map V.str)) := Same.new hpb _ _ (s3 _ _ e1)
    generalize upd H3 pb (.dK (lkv (nms ps) as)) = H4 at s4 e4 pr e1
    clear s3 s2 s1 e2 t1 t2
    refine ⟨by show 2 ≤ sizeLine; decide, fun tp htp => ⟨tp, _, rfl, SqT.of upd_same, rfl, _, _, rfl, _, _, rfl, rfl, ?_⟩⟩
    have s5 := Same.new (o := .tup [.ref l, .ref pb]) htp
    have e1 := s5 _ _ e1
    have e4 := s5 _ _ e4
    have pr := paired_mono (fun _ _ (e : LowAt ps u H4 _ _) => (show LowAt ps u (upd H4 tp (.tup [.ref l, .ref pb])) _ _ from s5 _ _ e)) pr
    have s5 := s4.trans s5
    generalize upd H4 tp (.tup [.ref l, .ref pb]) = H5 at s5 e1 e4 pr
    clear s4
    have low : ∀ {H' : Hp}, Same H5 H' → ∀ {z : Str}, z ∈ nms ps → ∃ p, DGet H' pb (.str z) (some (.ref p)) ∧ LowAt ps u H' z p := by
      intro H' s z hz
      exact DGet.low (s _ _ e4) (paired_mono (fun _ _ e => s _ _ e) pr) hz
    -- the least common denominator
    refine ⟨_, rfl, l, rfl, ⟨_, SqL.of e1⟩, fun D2 hD2 => ?_⟩
    refine lc_it (walk_list (xs := (nms ps).map V.str)) (fun i H' => Same H5 H' ∧ H' D2 = some (.lst ((((nms ps).take i).map fun z => u / fg (look ps z) u).map V.int))) ⟨Same.new hD2, upd_same⟩ (fun i H' _ ⟨s, _⟩ => SqL.of (s _ _ e1)) ?_ ?_
    · rintro i y H6 H7 hi ⟨s6, e6⟩ ⟨rfl, hy⟩
      obtain ⟨z, hz, rfl⟩ := str_at hy
      obtain ⟨p, dg, lw⟩ := low s6 (List.mem_of_getElem? hz)
      refine ⟨rfl, _, rfl, _, rfl, pb, _, rfl, dg, p, _, 1, _, rfl, rfl, SqT.of lw, rfl, _, e6, ?_, ?_, ?_⟩
      · rw [List.length_map, List.length_map, List.length_take, sizeLine_eq]
        omega
      · exact fun b o e => by rw [upd_ne (ne_of_none e hD2)]; exact s6 b o e
      · rw [upd_same, take_map_succ _ hz, List.map_append]
        rfl
    rintro H6 ⟨s6, e6⟩
    rw [List.length_map, List.take_length] at e6
    refine ⟨D2, _, rfl, e6, fun y hy => ?_, fun H7 s7 => ?_⟩
    · obtain ⟨z, hz, rfl⟩ := List.mem_map.mp hy
      have := den_pos (i := look ps z) u0
      omega
    have elcm : lcmL ((nms ps).map fun z => u / fg (look ps z) u) 1 = nfU u ps := by
      rw [← lcm_nf u0]
      conv => rhs; rw [← look_self g.nd]
      rw [List.map_map]
      rfl
    rw [elcm]
    have e1 := s7 _ _ (s6 _ _ e1)
    have e4 := s7 _ _ (s6 _ _ e4)
    have pr := paired_mono (fun _ _ (e : LowAt ps u H5 _ _) => (show LowAt ps u H7 _ _ from s7 _ _ (s6 _ _ e))) pr
    have s7 := (s5.trans s6).trans s7
    clear s5 s6 e6 low elcm
    have low : ∀ {H' : Hp}, Same H7 H' → ∀ {z : Str}, z ∈ nms ps → ∃ p, DGet H' pb (.str z) (some (.ref p)) ∧ LowAt ps u H' z p := by
      intro H' s z hz
      exact DGet.low (s _ _ e4) (paired_mono (fun _ _ e => s _ _ e) pr) hz
    -- what each thing pays
    have n0 := nfU_pos (ps := ps) u0
    have n1 := nfU_le (ps := ps) u0
    refine ⟨_, rfl, l, rfl, ⟨_, SqL.of e1⟩, fun D3 hD3 => ?_⟩
    refine lc_it (walk_list (xs := (nms ps).map V.str)) (Bw H7 D3 (fun z => look ps z / (gcdB u ps : Int)) (nms ps)) (bw0 hD3) (fun i H' _ ⟨s, _⟩ => SqL.of (s _ _ e1)) ?_ ?_
    · rintro i y H8 H9 hi bw ⟨rfl, hy⟩
      obtain ⟨z, hz, rfl⟩ := str_at hy
      obtain ⟨p, dg, lw⟩ := low bw.1 (List.mem_of_getElem? hz)
      have dp := den_pos (i := look ps z) u0
      have pl := part_le (G := (gcdB u ps : Int)) (i := look ps z) (gI u0) u0
      have cd : CDivZ (nfU u ps) (u / fg (look ps z) u) := div_z (b := 3000) _ (by omega) (Nat.lt_trans (show (u / fg (look ps z) u).natAbs < 10 ^ 11 by omega) (by decide +kernel)) (by decide) (by decide)
      refine ⟨rfl, _, rfl, _, rfl, _, rfl, pb, _, rfl, dg, p, _, 0, _, rfl, rfl, SqT.of lw, rfl, _, rfl, _, rfl, _, rfl, pb, _, rfl, dg, p, _, 1, _, rfl, rfl, SqT.of lw, rfl, _, _, rfl, rfl, cd, _, _, rfl, rfl, ?_, by show 2 ≤ sizeLine; decide, fun t ht => ?_⟩
      · rw [Int.fdiv_eq_ediv_of_nonneg _ (by omega)]
        exact .inr ⟨by unfold nfU; omega, by unfold nfU; omega⟩
      · dsimp only
        rw [Int.fdiv_eq_ediv_of_nonneg _ (show 0 ≤ u / fg (look ps z) u by omega)]
        have e := part_up (G := (gcdB u ps : Int)) (i := look ps z) (u := u) (gI u0) u0 (gL z) gU
        unfold nfU
        rw [e]
        exact bw1 hD3 hz bw (fun _ _ e => e) ht (by omega)
    rintro H8 ⟨s8, ts, t1, t2⟩
    rw [List.length_map, List.take_length] at t2
    have ebag : bagOf (fun z => look ps z / (gcdB u ps : Int)) (nms ps) = nfB u ps := by
      conv => rhs; rw [← look_self (ps := nfB u ps) (by rw [nfB_nms]; exact g.nd), nfB_nms]
      unfold bagOf
      exact List.map_congr_left fun z _ => by rw [look_nf]
    rw [ebag] at t2
    refine ⟨D3, ts, _, rfl, SqL.of t1, paired_mono (fun _ _ e => SqT.of e) t2, fun pd hpd => ?_⟩
    rw [mergeK_nil (kvs_nd (by rw [nfB_nms]; exact g.nd))]
    have s9 := Same.new (o := .dK (kvs (nfB u ps))) hpd
    have e9 : (upd H8 pd (.dK (kvs (nfB u ps)))) pd = some (.dK (kvs (nfB u ps))) := upd_same
    have e1 := s9 _ _ (s8 _ _ e1)
    have e4 := s9 _ _ (s8 _ _ e4)
    have pr := paired_mono (fun _ _ (e : LowAt ps u H7 _ _) => (show LowAt ps u (upd H8 pd (.dK (kvs (nfB u ps)))) _ _ from s9 _ _ (s8 _ _ e))) pr
    have s9 := (s7.trans s8).trans s9
    generalize upd H8 pd (.dK (kvs (nfB u ps))) = H9 at s9 e9 e1 e4 pr
    clear s7 s8 t1 t2 ebag low
    have low : ∀ {H' : Hp}, Same H9 H' → ∀ {z : Str}, z ∈ nms ps → ∃ p, DGet H' pb (.str z) (some (.ref p)) ∧ LowAt ps u H' z p := by
      intro H' s z hz
      exact DGet.low (s _ _ e4) (paired_mono (fun _ _ e => s _ _ e) pr) hz
    -- what the program tells
    have hc9 : ChAt C H9 x (nfB u ps) (nfU u ps) := hc.same s9
    have nlen : (nfB u ps).length = ps.length := nf_len
    have ndn : (nms (nfB u ps)).Nodup := by rw [nfB_nms]; exact g.nd
    have nb : ∀ q ∈ nfB u ps, q.2.natAbs < 10 ^ 40 := nf_bound u0 g.nb
    have n3000 : (nfU u ps).natAbs < 2 ^ 3000 := Nat.lt_trans (show (nfU u ps).natAbs < 10 ^ 11 by omega) (by decide +kernel)
    have n64 : (nfU u ps).natAbs < 10 ^ 64 := Nat.lt_trans (show (nfU u ps).natAbs < 10 ^ 11 by omega) (by decide +kernel)
    obtain ⟨dx, tt, dd, c1, c2, c3⟩ := id hc9
    rw [nfB_nms] at c2
    refine ⟨_, rfl, x, dx, _, rfl, c1, x, dx, tt, dd, _, rfl, c1, _, rfl, x, dx, _, rfl, c1, x, dx, tt, dd, _, rfl, c1, _, rfl, x, dx, _, rfl, c1, x, _, _, rfl, hc9, ndn, by omega, fun pp hpp => ?_⟩
    have sA := Same.new (o := .dK (kvs (nfB u ps))) hpp
    have eA : (upd H9 pp (.dK (kvs (nfB u ps)))) pp = some (.dK (kvs (nfB u ps))) := upd_same
    generalize upd H9 pp (.dK (kvs (nfB u ps))) = HA at sA eA
    refine ⟨_, rfl, x, dx, _, rfl, sA _ _ c1, x, _, _, rfl, hc9.same sA, n0, n3000, by omega, fun pt HB sB _ eB => ?_⟩
    rw [nfB_nms, (low_sum u0 (nms ps)).1, (low_sum u0 (nms ps)).2] at eB
    have eA := sB _ _ eA
    have sB := sA.trans sB
    refine ⟨_, rfl, x, dx, _, tt, (nms ps).map V.str, rfl, sB _ _ c1, rfl, SqT.of (sB _ _ c2), by rw [List.length_map, sizeLine_eq]; omega, fun H' s' => ⟨x, _, _, rfl, (hc9.same sB).same s', by omega, rfl, _, rfl, by have := g.l1; omega, by omega⟩, fun pl hpl => ?_⟩
    have sC := Same.new (o := .lst ((nms ps).map V.str)) hpl
    have eC : (upd HB pl (.lst ((nms ps).map V.str))) pl = some (.lst ((nms ps).map V.str)) := upd_same
    have eA := sC _ _ eA
    have eB := sC _ _ eB
    have sC := sB.trans sC
    generalize upd HB pl (.lst ((nms ps).map V.str)) = HC at sC eC eA eB
    refine ⟨_, rfl, x, dx, _, rfl, sC _ _ c1, x, _, _, rfl, hc9.same sC, by omega, _, rfl, by omega, by omega, ?_⟩
    have h1064 : (10 : Nat) ^ 40 ≤ 10 ^ 64 := by decide +kernel
    refine ⟨_, rfl, x, dx, _, rfl, sC _ _ c1, x, _, _, rfl, hc9.same sC, n0, n64, ndn, fun q hq => ⟨Nat.lt_of_lt_of_le (nb q hq) h1064, ?_⟩, by omega, fun HD sD => ⟨_, rfl, by show 7 ≤ sizeLine; decide, fun lt hlt => ?_⟩⟩
    · refine (g.nm q.1 ?_).2
      have : q.1 ∈ nms (nfB u ps) := List.mem_map.mpr ⟨q, hq, rfl⟩
      rw [nfB_nms] at this
      exact this
    rw [nlen]
    generalize hS1 : sumB ps (nms ps) / fg (sumB ps (nms ps)) u = S1 at eB
    generalize hS2 : u / fg (sumB ps (nms ps)) u = S2 at eB
    generalize htx : chText (nfB u ps) (nfU u ps) = tx
    have sE := Same.new (o := .lst [.ref tt, .int (nfU u ps), .ref pp, .ref pt, .ref pl, .int (ps.length : Nat), .str tx]) hlt
    have sF := (sC.trans sD).trans sE
    have told : ToldAt (upd HD lt (.lst [.ref tt, .int (nfU u ps), .ref pp, .ref pt, .ref pl, .int (ps.length : Nat), .str tx])) lt (nms ps) (nfU u ps) (nfB u ps) S1 S2 (ps.length : Nat) tx :=
      ⟨tt, pp, pt, pl, upd_same, sF _ _ c2, sE _ _ (sD _ _ eA), sE _ _ (sD _ _ eB), sE _ _ (sD _ _ eC)⟩
    generalize upd HD lt (.lst [.ref tt, .int (nfU u ps), .ref pp, .ref pt, .ref pl, .int (ps.length : Nat), .str tx]) = HF at sF told
    clear sE sD eA eB eC sC sB sA
    -- the words
    have wl : ∀ z ∈ nms ps, z.length ≤ 8 := fun z hz => (g.nm z hz).2
    have lk : ∀ z, z ∈ nms ps → (look ps z).natAbs < 10 ^ 40 := fun z hz => g.nb _ (look_mem hz)
    have b1 : ∀ z, z ∈ nms ps → (look ps z / fg (look ps z) u).natAbs < 10 ^ 64 := fun z hz => Nat.lt_of_lt_of_le (Nat.lt_of_le_of_lt (div_le (fg_pos u0)) (lk z hz)) h1064
    have b2 : ∀ z, (u / fg (look ps z) u).natAbs < 10 ^ 64 := fun z => by
      have := den_pos (i := look ps z) u0
      exact Nat.lt_trans (show (u / fg (look ps z) u).natAbs < 10 ^ 11 by omega) (by decide +kernel)
    have tl : ∀ z, z ∈ nms ps → (z ++ Str.ofString " " ++ ftx (look ps z / fg (look ps z) u) (u / fg (look ps z) u)).length ≤ 160 := fun z hz => by
      have := ftx_len (b1 z hz) (b2 z)
      have l1 : (Str.ofString " ").length = 1 := by decide +kernel
      have := wl z hz
      rw [PySem.Str.length_append, PySem.Str.length_append]
      omega
    refine ⟨⟨_, rfl⟩, _, rfl, l, rfl, ⟨_, SqL.of (sF _ _ e1)⟩, fun D4 hD4 => ?_⟩
    refine lc_it (walk_list (xs := (nms ps).map V.str)) (fun i H' => Same HF H' ∧ H' D4 = some (.lst ((((nms ps).take i).map fun z => z ++ Str.ofString " " ++ ftx (look ps z / fg (look ps z) u) (u / fg (look ps z) u)).map V.str))) ⟨Same.new hD4, upd_same⟩ (fun i H' _ ⟨s, _⟩ => SqL.of (s _ _ (sF _ _ e1))) ?_ ?_
    · rintro i y H6 H7 hi ⟨s6, e6⟩ ⟨rfl, hy⟩
      obtain ⟨z, hz, rfl⟩ := str_at hy
      have hzm := List.mem_of_getElem? hz
      obtain ⟨p, dg, lw⟩ := low (sF.trans s6) hzm
      have l1 : (Str.ofString " ").length = 1 := by decide +kernel
      have l2 := wl z hzm
      have l3 := tl z hzm
      rw [PySem.Str.length_append, PySem.Str.length_append] at l3
      refine ⟨rfl, _, rfl, _, _, rfl, rfl, by rw [sizeLine_eq]; omega, _, rfl, _, rfl, pb, _, rfl, dg, p, _, _, rfl, lw, b1 z hzm, b2 z, _, _, rfl, rfl, by rw [PySem.Str.length_append, sizeLine_eq]; omega, _, e6, ?_, ?_, ?_⟩
      · rw [List.length_map, List.length_map, List.length_take, sizeLine_eq]
        omega
      · exact fun b o e => by rw [upd_ne (ne_of_none e hD4)]; exact s6 b o e
      · rw [upd_same, take_map_succ _ hz, List.map_append]
        rfl
    rintro HG ⟨sG, eG⟩
    rw [List.length_map, List.take_length] at eG
    refine ⟨_, D4, (nms ps).map fun z => z ++ Str.ofString " " ++ ftx (look ps z / fg (look ps z) u) (u / fg (look ps z) u), rfl, rfl, .inl (SqL.of eG), ?_, ?_⟩
    · have key : ∀ zs : List Str, (∀ z ∈ zs, z ∈ nms ps) → ((zs.map fun z => z ++ Str.ofString " " ++ ftx (look ps z / fg (look ps z) u) (u / fg (look ps z) u)).map (·.length)).sum ≤ zs.length * 160 := fun zs => by
        induction zs with
        | nil => intro _; exact Nat.le_refl _
        | cons z zs ih =>
          intro hq
          have i1 := ih fun q h => hq q (by simp [h])
          have := tl z (hq z (by simp))
          rw [List.map_cons, List.map_cons, List.sum_cons, List.length_cons, Nat.succ_mul]
          omega
      have q := key (nms ps) fun _ h => h
      have l2 : (Str.ofString ", ").length = 2 := by decide +kernel
      rw [List.length_map, l2]
      omega
    have etx : Txt.join (Str.ofString ", ") ((nms ps).map fun z => z ++ Str.ofString " " ++ ftx (look ps z / fg (look ps z) u) (u / fg (look ps z) u)) = tx := by
      rw [← htx, text_nf u0]
      congr 1
      conv => rhs; rw [← look_self g.nd]
      rw [List.map_map]
      rfl
    rw [etx]
    have told := told.same sG
    have sG := sF.trans sG
    clear sF low
    -- what the law wants
    refine ⟨_, rfl, l, _, rfl, .inl ⟨SqL.of (sG _ _ e1), fun tq htq => ?_⟩⟩
    have sH := Same.new (o := .tup ((nms ps).map V.str)) htq
    have eH : (upd HG tq (.tup ((nms ps).map V.str))) tq = some (tupS (nms ps)) := upd_same
    have told := told.same sH
    have sH := sG.trans sH
    generalize upd HG tq (.tup ((nms ps).map V.str)) = HH at sH eH told
    refine ⟨_, rfl, _, rfl, _, rfl, l, rfl, ⟨_, SqL.of (sH _ _ e1)⟩, fun D5 hD5 => ?_⟩
    refine lc_it (walk_list (xs := (nms ps).map V.str)) (fun i H' => Same HH H' ∧ H' D5 = some (.lst ((((nms ps).take i).map (look ps)).map V.int))) ⟨Same.new hD5, upd_same⟩ (fun i H' _ ⟨s, _⟩ => SqL.of (s _ _ (sH _ _ e1))) ?_ ?_
    · rintro i y H6 H7 hi ⟨s6, e6⟩ ⟨rfl, hy⟩
      obtain ⟨z, hz, rfl⟩ := str_at hy
      have sx := (s9.trans sH).trans s6
      refine ⟨rfl, _, rfl, a, _, 0, .ref d, rfl, rfl, SqT.of (sx _ _ h1), rfl, _, rfl, d, _, rfl, DGet.bag (.inl (sx _ _ h2)) (List.mem_of_getElem? hz), _, e6, ?_, ?_, ?_⟩
      · rw [List.length_map, List.length_map, List.length_take, sizeLine_eq]
        omega
      · exact fun b o e => by rw [upd_ne (ne_of_none e hD5)]; exact s6 b o e
      · rw [upd_same, take_map_succ _ hz, List.map_append]
        rfl
    rintro HI ⟨sI, eI⟩
    rw [List.length_map, List.take_length] at eI
    have eH := sI _ _ eH
    have told := told.same sI
    have sI := sH.trans sI
    have u3000 : u.natAbs < 2 ^ 3000 := Nat.lt_trans (show u.natAbs < 10 ^ 11 by omega) (by decide +kernel)
    refine ⟨D5, _, rfl, SqL.of eI, _, rfl, a, _, 1, .int u, rfl, rfl, SqT.of ((s9.trans sI) _ _ h1), rfl, _, _, rfl, u0, u3000, fun pq hpq => ?_⟩
    rw [show ((nms ps).map (look ps)).sum = sumB ps (nms ps) from rfl, hS1, hS2]
    have sJ := Same.new (o := .tup [.int S1, .int S2]) hpq
    have eJ : (upd HI pq (.tup [.int S1, .int S2])) pq = some (.tup [.int S1, .int S2]) := upd_same
    have eH := sJ _ _ eH
    have told := told.same sJ
    have sJ := sI.trans sJ
    generalize upd HI pq (.tup [.int S1, .int S2]) = HJ at sJ eJ eH told
    refine ⟨_, rfl, _, rfl, _, (nms ps).length, rfl, .inl ⟨_, SqL.of (sJ _ _ e1), by rw [List.length_map]⟩, _, rfl, by show 7 ≤ sizeLine; decide, fun ld hld => ?_⟩
    rw [nms_len]
    have sK := Same.new (o := .lst [.ref tq, .int (nfU u ps), .ref pd, .ref pq, .ref l, .int (ps.length : Nat), .str tx]) hld
    have due : ToldAt (upd HJ ld (.lst [.ref tq, .int (nfU u ps), .ref pd, .ref pq, .ref l, .int (ps.length : Nat), .str tx])) ld (nms ps) (nfU u ps) (nfB u ps) S1 S2 (ps.length : Nat) tx :=
      ⟨tq, pd, pq, l, upd_same, sK _ _ eH, sK _ _ (sJ _ _ e9), sK _ _ eJ, sK _ _ (sJ _ _ e1)⟩
    have told := told.same sK
    have sK := sJ.trans sK
    generalize upd HJ ld (.lst [.ref tq, .int (nfU u ps), .ref pd, .ref pq, .ref l, .int (ps.length : Nat), .str tx]) = HK at sK due told
    clear sJ sI sH sG eH eJ
    have tsm : TSm (nms ps) (nfU u ps) (nfB u ps) S1 S2 (ps.length : Nat) tx := by
      rw [← hS1, ← hS2, ← htx]
      exact tsm_of g
    refine ⟨_, rfl, lt, _, _, _, _, _, _, _, rfl, told, tsm, _, rfl, ld, _, _, _, _, _, _, _, rfl, due, tsm, rfl, ?_⟩
    refine ⟨_, rfl, ite2 (fun z => by simp at z) (fun _ => ?_)⟩
    have eK1 := sK _ _ e1
    have hcK := hc9.same sK
    have cK1 := sK _ _ c1
    have lowK : ∀ {H' : Hp}, Same HK H' → ∀ {z : Str}, z ∈ nms ps → ∃ p, DGet H' pb (.str z) (some (.ref p)) ∧ LowAt ps u H' z p := by
      intro H' s z hz
      exact DGet.low ((sK.trans s) _ _ e4) (paired_mono (fun _ _ e => (sK.trans s) _ _ e) pr) hz
    have sK9 := s9.trans sK
    clear told due tsm e9
    refine ⟨_, rfl, l, rfl, ⟨_, SqL.of eK1⟩, fun D6 hD6 => ?_⟩
    refine lc_it (walk_list (xs := (nms ps).map V.str)) (fun _ H' => Same HK H' ∧ H' D6 = some (.lst [])) ⟨Same.new hD6, upd_same⟩ (fun i H' _ ⟨s, _⟩ => SqL.of (s _ _ eK1)) ?_ ?_
    · rintro i y H6 H7 hi ⟨s6, e6⟩ ⟨rfl, hy⟩
      obtain ⟨z, hz, rfl⟩ := str_at hy
      have hzm := List.mem_of_getElem? hz
      have hzn : z ∈ nms (nfB u ps) := by rw [nfB_nms]; exact hzm
      refine ⟨rfl, _, rfl, _, rfl, x, dx, _, rfl, s6 _ _ cK1, x, _, _, z, rfl, hcK.same s6, n0, n3000, hzn, fun p' hp' => ?_⟩
      rw [(low_look u0 z).1, (low_look u0 z).2]
      have s7 := Same.new (o := .tup [.int (look ps z / fg (look ps z) u), .int (u / fg (look ps z) u)]) hp'
      have e7 : (upd H7 p' (.tup [.int (look ps z / fg (look ps z) u), .int (u / fg (look ps z) u)])) p' = some (.tup [.int (look ps z / fg (look ps z) u), .int (u / fg (look ps z) u)]) := upd_same
      have e6 := s7 _ _ e6
      have s7 := s6.trans s7
      generalize upd H7 p' (.tup [.int (look ps z / fg (look ps z) u), .int (u / fg (look ps z) u)]) = H8 at s7 e7 e6
      obtain ⟨p, dg, lw⟩ := lowK s7 hzm
      refine ⟨_, rfl, _, rfl, pb, _, rfl, dg, _, _, dp_pair e7, dp_pair lw, sh_pair _ _, sh_pair _ _, ?_⟩
      rw [eqv_pair]
      refine ⟨_, rfl, ite2 (fun z => by cases z) (fun _ => ?_)⟩
      refine ⟨_, rfl, _, rfl, x, dx, _, rfl, s7 _ _ cK1, x, _, _, .str z, .str, rfl, hcK.same s7, .str z, _, rfl, _, rfl, ?_⟩
      rw [show inN (nfB u ps) (.str z) = true from decide_eq_true hzn]
      dsimp only
      exact ite2 (fun z => by cases z) (fun _ => ⟨s7, e6⟩)
    rintro HL ⟨sL, eL⟩
    refine ⟨Nat.zero_le _, fun em hem => ?_⟩
    have eLm := Same.new (o := .lst []) hem _ _ eL
    have sLm := sL.trans (Same.new (o := .lst []) hem)
    have em1 : (upd HL em (.lst [])) em = some (.lst []) := upd_same
    generalize upd HL em (.lst []) = HM at eLm sLm em1
    refine ⟨_, _, .lst (SqL.of eLm) .nil, .lst (SqL.of em1) .nil, rfl, rfl, ?_⟩
    rw [eqv_nil2]
    refine ⟨_, rfl, ite2 (fun z => by cases z) (fun _ => ?_)⟩
    have eM1 := sLm _ _ eK1
    refine ⟨_, rfl, _, rfl, l, _, rfl, .inl ⟨SqL.of eM1, fun t8 ht8 => ?_⟩⟩
    have s8 := Same.new (o := .tup ((nms ps).map V.str)) ht8
    have e8 : (upd HM t8 (.tup ((nms ps).map V.str))) t8 = some (.tup ((nms ps).map V.str)) := upd_same
    have s8 := sLm.trans s8
    generalize upd HM t8 (.tup ((nms ps).map V.str)) = HN at s8 e8
    refine ⟨by show 8 ≤ sizeLine; decide, fun lo hlo => ?_⟩
    have sO := Same.new (o := .lst [.str "q", .str "", .non, .int 0, .ref l, .ref t8, .bl true, .str "A"]) hlo
    have eO : (upd HN lo (.lst [.str "q", .str "", .non, .int 0, .ref l, .ref t8, .bl true, .str "A"])) lo = some (.lst [.str "q", .str "", .non, .int 0, .ref l, .ref t8, .bl true, .str "A"]) := upd_same
    have e8 := sO _ _ e8
    have sO := s8.trans sO
    generalize upd HN lo (.lst [.str "q", .str "", .non, .int 0, .ref l, .ref t8, .bl true, .str "A"]) = HO' at sO eO e8
    refine ⟨lo, rfl, ⟨_, SqL.of eO⟩, fun D7 hD7 => ?_⟩
    have odd : ∀ {H' : Hp}, Same HO' H' → ∀ y ∈ [V.str "q", .str "", .non, .int 0, .ref l, .ref t8, .bl true, .str "A"], ∃ t, Kn H' y t ∧ inN (nfB u ps) y = false := by
      intro H' s' y hy
      obtain ⟨w1, w2, w3, w4⟩ := notin_words
      have out : ∀ z : Str, z ∉ wordsL → inN (nfB u ps) (.str z) = false := fun z hz => decide_eq_false fun q => hz (g.sub z (by rw [nfB_nms] at q; exact q))
      simp only [List.mem_cons, List.not_mem_nil, or_false] at hy
      rcases hy with rfl | rfl | rfl | rfl | rfl | rfl | rfl | rfl
      · exact ⟨_, .str _, out _ w1⟩
      · exact ⟨_, .str _, out _ w2⟩
      · exact ⟨_, .non, rfl⟩
      · exact ⟨_, .int _, rfl⟩
      · exact ⟨_, .lst (s' _ _ (sO _ _ eK1)), rfl⟩
      · exact ⟨_, .tup (s' _ _ e8), rfl⟩
      · exact ⟨_, .bl _, rfl⟩
      · exact ⟨_, .str _, out _ w3⟩
    refine lc_it (walk_list (xs := [V.str "q", .str "", .non, .int 0, .ref l, .ref t8, .bl true, .str "A"])) (fun _ H' => Same HO' H' ∧ H' D7 = some (.lst [])) ⟨Same.new hD7, upd_same⟩ (fun i H' _ ⟨s, _⟩ => SqL.of (s _ _ eO)) ?_ ?_
    · rintro i y H6 H7 hi ⟨s6, e6⟩ ⟨rfl, hy⟩
      obtain ⟨t, kn, ht⟩ := odd s6 y (List.mem_of_getElem? hy)
      refine ⟨rfl, _, rfl, _, rfl, x, dx, _, rfl, s6 _ _ (sO _ _ cK1), x, _, _, y, t, rfl, (hcK.same sO).same s6, kn, _, rfl, _, rfl, ?_⟩
      rw [ht]
      exact ite2 (fun z => by cases z) (fun _ => ⟨s6, e6⟩)
    rintro HP ⟨sP, eP⟩
    refine ⟨Nat.zero_le _, fun en hen => ?_⟩
    have sQ := Same.new (o := .lst []) hen
    refine ⟨_, _, .lst (SqL.of (sQ _ _ eP)) .nil, .lst (SqL.of upd_same) .nil, rfl, rfl, ?_⟩
    rw [eqv_nil2]
    exact k _ (((sK9.trans sO).trans sP).trans sQ)
end
end V0

namespace V0
open PySem PySem.Spec PyProof.Rows L2
theorem SomeAt.sub8 {ps : Bag} {u : Int} (g : S8 ps u) {ys : List Str} (hs : ys.Sublist (nms ps)) (hne : ys ≠ []) : S8 (bagOf (look ps) ys) u := by
  have e := bagOf_nms (look ps) ys
  have hl := hs.length_le
  rw [nms_len] at hl
  have l8 := g.l8
  have len : (bagOf (look ps) ys).length = ys.length := by unfold bagOf; rw [List.length_map]
  refine ⟨by rw [e]; exact g.asc.sublist hs, fun z hz => g.sub z (hs.subset (by rw [e] at hz; exact hz)), fun z hz => g.nm z (hs.subset (by rw [e] at hz; exact hz)), fun q hq => ?_, ?_, by omega, g.u0, g.ub⟩
  · obtain ⟨z, hz, rfl⟩ := List.mem_map.mp hq
    exact g.nb _ (look_mem (hs.subset hz))
  · rw [len]
    cases ys with
    | nil => exact absurd rfl hne
    | cons a b => exact Nat.succ_le_succ (Nat.zero_le _)
/-- the normal form of a part of a charge -/
theorem cut_nf {ps : Bag} {u : Int} (hu : 0 < u) {ys : List Str} (nd : ys.Nodup) : chB ys (bagOf (look (nfB u ps)) ys) (nfU u ps) = nfB u (bagOf (look ps) ys) ∧ nfU (nfU u ps) (bagOf (look (nfB u ps)) ys) = nfU u (bagOf (look ps) ys) := by
  have g0 := gI (ps := ps) hu
  have v0 := nfU_pos (ps := ps) hu
  have hn := bagOf_nms (look (nfB u ps)) ys
  have e1 : nfU u ps * (gcdB u ps : Int) = u := Int.ediv_mul_cancel gU
  have e2 : (bagOf (look (nfB u ps)) ys).map (fun p => (p.1, p.2 * (gcdB u ps : Int))) = bagOf (look ps) ys := by
    unfold bagOf
    rw [List.map_map]
    refine List.map_congr_left fun z _ => ?_
    show (z, look (nfB u ps) z * (gcdB u ps : Int)) = _
    rw [look_nf, Int.ediv_mul_cancel (gL z)]
  obtain ⟨q1, q2⟩ := nf_mul (m := (gcdB u ps : Int)) (u := nfU u ps) (ps := bagOf (look (nfB u ps)) ys) g0 (by omega)
  rw [e1, e2] at q1 q2
  have c := chB1 (ps := bagOf (look (nfB u ps)) ys) (u := nfU u ps) v0 (by rw [hn]; exact nd)
  rw [hn] at c
  exact ⟨c.trans q2.symm, q1.symm⟩
theorem bag_look {ps : Bag} (nd : (nms ps).Nodup) : bagOf (look ps) (nms ps) = ps := look_self nd
theorem eqv_cons {z : PyData} {zs : List PyData} : PyData.eqv (.tuple (z :: zs)) (.tuple []) = false := eqv_nil
theorem eqv_nilT : PyData.eqv (.tuple []) (.tuple []) = true := by simp [PyData.eqv, PyData.eqvAll]
/-- a charge is equal to one of the same numbers -/
theorem eqd_self {K : PySem.W.Frag} {C : Addr} {H : Hp} {ps : Bag} {u : Int} {c : Addr} (nd : (nms ps).Nodup) (h : ChAt C H c ps u) : Eqd K C H ps u (.ref c) true :=
  .inr ⟨c, ps, u, rfl, h, by rw [decide_eq_true rfl, eqBg_self nd]; rfl⟩
def spGroups (C : Addr) : Sp := fun vs H Q _ => ∃ (p x a : Addr) (ps : Bag) (u : Int), vs = [.ref p, .ref x, .ref a] ∧ Pot H p ∧ ChOf C H x ps u ∧ SomeAt H a ps u ∧ S8 ps u ∧ ∀ H', Pot H' p → But p H H' → Q (.bl true) H'
section
variable {P : Program} {w : World} {K : PySem.W.Frag} {mg : Str → Option Value} {base : Heap} {C : Addr} {ad : Nat → Addr} {fdd : Nat → FuncData}
abbrev s_groups_right : Stmt := top 45
abbrev N_groups_right : List Str := ["_law_pot_here", "_law_charge", "_law_some", "_law_turn", "_law_one", "_law_crowd"]
abbrev P_groups_right : List Str := ["_law_pot_here", "_law_charge", "_law_some"]
theorem sc_groups_right : FnScope N_groups_right P_groups_right (defScope s_groups_right) := ⟨rfl, rfl, rfl, by decide +kernel, rfl, by decide +kernel, by decide +kernel⟩
theorem ok_groups {f f1 f2 f3 f4 f5 f6 : Addr} {fd fd1 fd2 fd3 fd4 fd5 fd6 : FuncData} (O : Own P w K mg base C ad fdd) (D_low : Df K mg "_law_low" s_low P_low f1 fd1) (D_common : Df K mg "_law_common" s_common P_common f2 fd2)
    (D_lfraction_text : Df K mg "_law_fraction_text" s_lfraction_text P_lfraction_text f3 fd3) (D_is_told : Df K mg "_law_is_told" s_is_told P_is_told f4 fd4) (D_stir : Df K mg "_law_stir" s_stir P_stir f5 fd5) (D_paid : Df K mg "_law_paid" s_paid P_paid f6 fd6)
    (D : Df K mg "_law_groups_right" s_groups_right P_groups_right f fd) : FnG P w K mg base 9 f fd P_groups_right (spGroups C) := by
  obtain ⟨B, M, KCharge, N, NX, Y_init, G_init, Y_Charge_things, G_Charge_things, Y_Charge_unit, G_Charge_unit, Y_Charge_pays, G_Charge_pays, Y_Charge_total, G_Charge_total, Y_Charge_of, G_Charge_of, Y_Charge_cut, G_Charge_cut, O_len, O_str, O_iter, O_item, O_cont, O_eq⟩ := id O
  have G_low : FnOk P w K mg base CX0 1 f1 fd1 P_low spFr := ok_low B D_low
  have G_stir : FnOk P w K mg base CX0 1 f5 fd5 P_stir spStir := ok_stir B D_stir
  have G_paid : FnOk P w K mg base CX0 1 f6 fd6 P_paid spPaid := ok_paid B D_paid
  have G_is_told : FnG P w K mg base 8 f4 fd4 P_is_told (spIsTold C) := ok_is_told O D_low D_common D_lfraction_text D_is_told
  refine g_of D.F sc_groups_right (fun vs H Q h => ?_) (fun cdv A outer s H vs Q hgd0 hr h => ?_)
  · obtain ⟨p, x, a, ps, u, rfl, _⟩ := h
    rfl
  · obtain ⟨p, x, a, ps, u, rfl, hp, hc, hs, g, k⟩ := h
    have hgd : (cxOf CX0 P w K mg base N_groups_right "_law_groups_right" (defScope s_groups_right) f cdv A outer s H E0).nox.A.guards = some [] := hgd0
    refine ⟨_, (pss_cons (ps_for PassesOwn.never rfl (pi_range1 rfl B.b_range (pa_cons pe_int pa_nil)) (pg_name (i := 3) sc_groups_right.nd rfl (Or.inl rfl)) (pss_cons (ps_set (i := 5) sc_groups_right.nd rfl (Or.inl rfl) (pe_callTy call_tuple_of (by rfl) B.b_tuple (by decide +kernel) (pa_cons (pe_lc (own := [("_law_one", 4)]) (g := gName 4) rfl sc_groups_right.nd (pi_list (pe_callB (call_sortedD rfl) (by rfl) M.b_sorted (by decide +kernel) (pa_cons (pe_ix ix_tup (pv 2) pe_int (fun _ _ => rfl)) pa_nil))) (blkOk_by (own := [("_law_one", 4)]) (N := N_groups_right) (sc := defScope s_groups_right) (by decide +kernel)) (fun _ _ _ _ _ => (pg_name (i := 4) sc_groups_right.nd rfl (Or.inl rfl))) (fun _ _ _ _ _ => pts_one (pt_cmpR op_eq (pe_call G_stir (hr.mono (by decide)) (by rfl) D_stir.g D_stir.F.kp D_stir.b .nil pass0 (pa_cons (pv 0) (pa_cons pe_int pa_nil))) pe_int (nomark _))) (fun _ _ _ _ _ => (pv 4))) pa_nil)))
      (pss_cons (ps_if (pt_cmpR (op_neD hr.units) (pe_meth (pv 1) KCharge.cl Y_Charge_of.m G_Charge_of (hr.mono (by decide)) Y_Charge_of.b .nil pass0 (pa_cons (pv 5) pa_nil)) (pe_call G_low (hr.mono (by decide)) (by rfl) D_low.g D_low.F.kp D_low.b .nil pass0 (pa_cons (pe_call G_paid (hr.mono (by decide)) (by rfl) D_paid.g D_paid.F.kp D_paid.b .nil pass0 (pa_cons (pe_ix ix_tup (pv 2) pe_int (fun _ _ => rfl)) (pa_cons (pv 5) pa_nil))) (pa_cons (pe_ix ix_tup (pv 2) pe_int (fun _ _ => rfl)) pa_nil))) (nomark _)) (pss_one (ps_ret pe_bl)) pss_nil)
      (pss_one (ps_if (PW.pt (pw_and (pt_cmpR (op_neD hr.units) (pv 5) (pe_tup pa_nil) (nomark _)) (pw_and1 (pt_not (pt_val (pe_callG G_is_told hgd (hr.mono (by decide)) (by rfl) D_is_told.g D_is_told.F.kp D_is_told.b (pa_cons (pe_meth (pv 1) KCharge.cl Y_Charge_cut.m G_Charge_cut (hr.mono (by decide)) Y_Charge_cut.b .nil pass0 (pa_cons (pv 5) pa_nil)) (pa_cons (pe_tup (pa_cons (pe_callTy (call_dictP rfl) (by rfl) B.b_dict (by decide +kernel) (pa_cons (pe_lc (own := [("_law_one", 4)]) (g := gName 4) (tt := tYes) rfl sc_groups_right.nd (pi_tup (pv 5)) (blkOk_by (own := [("_law_one", 4)]) (N := N_groups_right) (sc := defScope s_groups_right) (by decide +kernel)) (fun _ _ _ _ _ => (pg_name (i := 4) sc_groups_right.nd rfl (Or.inl rfl))) (fun _ _ _ _ _ => pts_nil) (fun _ _ _ _ _ => (pe_tup (pa_cons (pv 4) (pa_cons (show PE _ _ (tDGet (tOp (rIxT K) (tVar 2) (tC (.int 0))) (tVar 4)) from by exact (pe_dget (hu_of hr) (pe_ix ix_tup (pv 2) pe_int (fun _ _ => rfl)) (pv 4) (fun _ _ => rfl))) pa_nil))))) pa_nil)) (pa_cons (pe_ix ix_tup (pv 2) pe_int (fun _ _ => rfl)) pa_nil))) pa_nil)))))))) (pss_one (ps_ret pe_bl)) pss_nil)))))
      (pss_one (ps_ret (pe_and (pe_cmpR (op_eqD hr.units) (pe_meth (pv 1) KCharge.cl Y_Charge_of.m G_Charge_of (hr.mono (by decide)) Y_Charge_of.b .nil pass0 (pa_cons (pe_tup pa_nil) pa_nil)) (pe_tup (pa_cons pe_int (pa_cons pe_int pa_nil))) (nomark _)) (pe_one (pe_cmpR (op_eqO O_eq (hr.mono (by decide)) pass0) (pe_meth (pv 1) KCharge.cl Y_Charge_cut.m G_Charge_cut (hr.mono (by decide)) Y_Charge_cut.b .nil pass0 (pa_cons (pe_prop (pv 1) KCharge.cl Y_Charge_things.pr G_Charge_things (hr.mono (by decide)) Y_Charge_things.b .nil pass0 rfl) pa_nil)) (pv 1) (nomark _))))))), ?_⟩
    have l8 := g.l8
    have u0 := g.u0
    have ub := g.ub
    have n0 := nfU_pos (ps := ps) u0
    have n1 := nfU_le (ps := ps) u0
    have n3000 : (nfU u ps).natAbs < 2 ^ 3000 := Nat.lt_trans (show (nfU u ps).natAbs < 10 ^ 11 by omega) (by decide +kernel)
    have u3000 : u.natAbs < 2 ^ 3000 := Nat.lt_trans (show u.natAbs < 10 ^ 11 by omega) (by decide +kernel)
    have len64 : (nms ps).length < 64 := by rw [nms_len]; omega
    have zn : (nms ps).length = ps.length := nms_len ps
    refine ⟨4, rfl, by omega, by omega, ?_⟩
    refine for_it walk_range (fun i σ H' => Pot H' p ∧ But p H H' ∧ ∃ x1 x2 x3 : Option V, σ = [some (.ref p), some (.ref x), some (.ref a), x1, x2, x3]) ⟨hp, But.refl, _, _, _, rfl⟩ (fun _ _ _ _ _ => trivial) ?_ ?_
    · rintro i y σ H0 H0' hi ⟨p0, b0, x1, x2, x3, rfl⟩ ⟨rfl, rfl⟩
      obtain ⟨d, h1, h2⟩ := hs.but b0 hp
      have hc0 : ChAt C H0' x (nfB u ps) (nfU u ps) := ChAt.but hc b0 hp
      refine ⟨_, rfl, a, _, 0, .ref d, rfl, rfl, SqT.of h1, rfl, d, _, nms ps, rfl, .inl h2, kvs_keys ps, len64, fun zs l q1 q2 hl => ?_⟩
      have ez : zs = nms ps := sorted_one q1 q2 (sorted_asc _ g.asc)
      subst ez
      have s1 := Same.new (o := .lst ((nms ps).map V.str)) hl
      have e1 : (upd H0' l (.lst ((nms ps).map V.str))) l = some (.lst ((nms ps).map V.str)) := upd_same
      have p1 := p0.same s1
      have nlp := pot_ne p0 hl
      generalize upd H0' l (.lst ((nms ps).map V.str)) = H1 at s1 e1 p1
      refine ⟨l, rfl, ⟨_, SqL.of e1⟩, fun D hD => ?_⟩
      have nDp := pot_ne p1 hD
      refine lc_it (walk_list (xs := (nms ps).map V.str)) (fun i H' => Pot H' p ∧ But p H1 H' ∧ ∃ ys : List Str, ys.Sublist ((nms ps).take i) ∧ H' D = some (.lst (ys.map V.str))) ⟨p1.same (Same.new hD), But.new hD, [], List.nil_sublist _, upd_same⟩ (fun i H' _ ⟨_, b, _⟩ => SqL.of (b _ _ e1 nlp)) ?_ ?_
      · rintro j y H2 H3 hj ⟨p2, b2, ys, sub, eD⟩ ⟨rfl, hy⟩
        obtain ⟨z, hz, rfl⟩ := str_at hy
        have tk : (nms ps).take (j + 1) = (nms ps).take j ++ [z] := take_one hz
        refine ⟨rfl, _, rfl, p, 2, rfl, p2, by omega, by omega, fun r H4 r0 r1 p4 b4 => ⟨rfl, _, rfl, ite2 (fun _ => ?_) (fun _ => ?_)⟩⟩
        · have eD4 := b4 _ _ eD nDp
          refine ⟨_, rfl, _, eD4, ?_, ?_⟩
          · have := sub.length_le
            rw [List.length_take] at this
            rw [List.length_map, sizeLine_eq]
            omega
          · refine ⟨p4.but But.upd nDp.symm, fun b o e hb => ?_, ys ++ [z], ?_, ?_⟩
            · have hbD : b ≠ D := fun q => by rw [q, hD] at e; cases e
              rw [upd_ne hbD]
              exact b4 _ _ (b2 _ _ e hb) hb
            · rw [tk]
              exact sub.append_right _
            · rw [upd_same, List.map_append]
              rfl
        · refine ⟨p4, b2.trans b4, ys, ?_, b4 _ _ eD nDp⟩
          rw [tk]
          exact sub.trans (List.sublist_append_left _ _)
      rintro H2 ⟨p2, b2, ys, sub, eD⟩
      rw [List.length_map, List.take_length] at sub
      refine ⟨D, _, rfl, .inl ⟨SqL.of eD, fun cr hcr => ?_⟩⟩
      have s3 := Same.new (o := .tup (ys.map V.str)) hcr
      have ecr : (upd H2 cr (.tup (ys.map V.str))) cr = some (tupS ys) := upd_same
      have p3 := p2.same s3
      have b3 : But p H (upd H2 cr (.tup (ys.map V.str))) := ((b0.trans (But.of s1)).trans b2).trans (But.of s3)
      have b03 : But p H0' (upd H2 cr (.tup (ys.map V.str))) := ((But.of s1).trans b2).trans (But.of s3)
      generalize upd H2 cr (.tup (ys.map V.str)) = H3 at s3 ecr p3 b3 b03
      clear s1 b2 s3 eD
      have yl : ys.length ≤ 8 := by have := sub.length_le; omega
      have hc3 : ChAt C H3 x (nfB u ps) (nfU u ps) := hc0.but b03 p0
      obtain ⟨d', h1', h2'⟩ := (show SomeAt H0' a ps u from ⟨d, h1, h2⟩).but b03 p0
      obtain ⟨dx, tt, dd, c1, c2, c3⟩ := id hc3
      have gp : Gp (nms (nfB u ps)) ys := ⟨fun y hy => by rw [nfB_nms]; exact sub.subset hy, g.asc.sublist sub, by omega⟩
      refine ⟨_, rfl, x, dx, _, rfl, c1, rfl, _, rfl, x, cr, _, _, ys, rfl, hc3, n0, n3000, ecr, gp, fun r1 H4 s4 _ e4 => ?_⟩
      rw [(low_sum u0 ys).1, (low_sum u0 ys).2] at e4
      refine ⟨_, rfl, a, _, 0, .ref d', rfl, rfl, SqT.of (s4 _ _ h1'), rfl, _, rfl, d', cr, ps, ys, rfl, s4 _ _ h2', s4 _ _ ecr, fun y hy => sub.subset hy, by omega, fun H5 s5 => ?_⟩
      have s45 := s5
      have s5 := s4.trans s5
      refine ⟨_, rfl, a, _, 1, .int u, rfl, rfl, SqT.of (s5 _ _ h1'), rfl, _, _, rfl, u0, u3000, fun r2 hr2 => ?_⟩
      have e45 : H5 r1 = some (.tup [.int (sumB ps ys / fg (sumB ps ys) u), .int (u / fg (sumB ps ys) u)]) := s45 _ _ e4
      have s6 := Same.new (o := .tup [.int (sumB ps ys / fg (sumB ps ys) u), .int (u / fg (sumB ps ys) u)]) hr2
      have e6 : (upd H5 r2 (.tup [.int (sumB ps ys / fg (sumB ps ys) u), .int (u / fg (sumB ps ys) u)])) r2 = some (.tup [.int (sumB ps ys / fg (sumB ps ys) u), .int (u / fg (sumB ps ys) u)]) := upd_same
      have e46 := s6 _ _ e45
      have s6 := s5.trans s6
      generalize upd H5 r2 (.tup [.int (sumB ps ys / fg (sumB ps ys) u), .int (u / fg (sumB ps ys) u)]) = H6 at s6 e6 e46
      refine ⟨_, _, dp_pair e46, dp_pair e6, sh_pair _ _, sh_pair _ _, ?_⟩
      rw [eqv_pair]
      refine ⟨_, rfl, ite2 (fun z => by cases z) (fun _ => ?_)⟩
      clear s45 e45 e46 e6 e4 s4 s5
      refine ⟨_, rfl, Nat.zero_le _, fun em hem => ?_⟩
      have s7 := Same.new (o := .tup []) hem
      have e7 : (upd H6 em (.tup [])) em = some (.tup []) := upd_same
      have s7 := s6.trans s7
      generalize upd H6 em (.tup []) = H7 at s7 e7
      refine ⟨_, _, .tup (SqT.of (s7 _ _ ecr)) (dp_strs ys), .tup (SqT.of e7) .nil, sh_strs ys (fun z hz => (g.nm z (sub.subset hz)).1), rfl, ?_⟩
      have p7 := p3.same s7
      have b7 := b3.trans (But.of s7)
      by_cases hne : ys = []
      · subst hne
        rw [show PyData.eqv (.tuple (([] : List Str).map PyData.str)) (.tuple []) = true from eqv_nilT]
        refine ⟨_, rfl, ite2 (fun z => by cases z) (fun _ => ?_)⟩
        exact ite2 (fun z => by cases z) (fun _ => ⟨p7, b7, _, _, _, rfl⟩)
      · have ey : PyData.eqv (.tuple (ys.map PyData.str)) (.tuple []) = false := by
          cases ys with
          | nil => exact absurd rfl hne
          | cons z zs => exact eqv_cons
        rw [ey]
        refine ⟨_, rfl, ite2 (fun _ => ?_) (fun z => absurd rfl z)⟩
        have hc7 := hc3.same s7
        refine ⟨_, rfl, x, dx, _, rfl, s7 _ _ c1, rfl, _, rfl, x, cr, _, _, ys, rfl, hc7, n0, n3000, s7 _ _ ecr, gp, hne, yl, fun z hz => g.nm z (sub.subset hz), fun xc zs H8 sd s8 hx8 hc8 => ?_⟩
        have ezs : zs = ys := by
          refine sorted_one (sd.pm.trans ?_) sd.ord (sorted_asc _ gp.asc)
          rw [bagOf_nms]
        obtain ⟨n2, n3⟩ := cut_nf (ps := ps) u0 (ys := ys) (asc_nodup gp.asc)
        rw [ezs, n2, n3] at hc8
        have s8 := s7.trans s8
        refine ⟨_, rfl, cr, rfl, ⟨_, SqT.of (s8 _ _ ecr)⟩, fun D2 hD2 => ?_⟩
        refine lc_it (walk_tup (xs := ys.map V.str)) (Bw H8 D2 (look ps) ys) (bw0 hD2) (fun i H' _ ⟨s, _⟩ => SqT.of (s _ _ (s8 _ _ ecr))) ?_ ?_
        · rintro j y H9 H10 hj bw ⟨rfl, hy⟩
          obtain ⟨z, hz, rfl⟩ := str_at hy
          have hzm := sub.subset (List.mem_of_getElem? hz)
          have s9 := s8.trans bw.1
          refine ⟨rfl, _, rfl, _, rfl, a, _, 0, .ref d', rfl, rfl, SqT.of (s9 _ _ h1'), rfl, _, rfl, d', _, rfl, DGet.bag (.inl (s9 _ _ h2')) hzm, by show 2 ≤ sizeLine; decide, fun t ht => ?_⟩
          exact bw1 hD2 hz bw (fun _ _ e => e) ht (by omega)
        rintro H9 ⟨s9, ts, t1, t2⟩
        rw [List.length_map, List.take_length] at t2
        refine ⟨D2, ts, _, rfl, SqL.of t1, paired_mono (fun _ _ e => SqT.of e) t2, fun pd hpd => ?_⟩
        rw [mergeK_nil (kvs_nd (by rw [bagOf_nms]; exact asc_nodup gp.asc))]
        have s10 := Same.new (o := .dK (kvs (bagOf (look ps) ys))) hpd
        have e10 : (upd H9 pd (.dK (kvs (bagOf (look ps) ys)))) pd = some (.dK (kvs (bagOf (look ps) ys))) := upd_same
        have s810 := s9.trans s10
        have s10 := s8.trans s810
        generalize upd H9 pd (.dK (kvs (bagOf (look ps) ys))) = H10 at s10 e10 s810
        refine ⟨_, rfl, a, _, 1, .int u, rfl, rfl, SqT.of (s10 _ _ h1'), rfl, by show 2 ≤ sizeLine; decide, fun tp htp => ?_⟩
        have s11 := Same.new (o := .tup [.ref pd, .int u]) htp
        refine ⟨xc, tp, bagOf (look ps) ys, u, rfl, ChAt.same hc8 (s810.trans s11), ⟨pd, upd_same, s11 _ _ e10⟩, SomeAt.sub8 g sub hne, fun H12 s12 => ?_⟩
        have s12 := (s10.trans s11).trans s12
        have p12 := p3.same s12
        have b12 := b3.trans (But.of s12)
        refine ⟨_, rfl, ?_⟩
        exact ite2 (fun z => by cases z) (fun _ => ⟨p12, b12, _, _, _, rfl⟩)
    rintro σ H1 ⟨p1, b1, x1, x2, x3, rfl⟩
    have hc1 : ChAt C H1 x (nfB u ps) (nfU u ps) := ChAt.but hc b1 hp
    obtain ⟨dx, tt, dd, c1, c2, c3⟩ := id hc1
    -- of(())
    refine ⟨_, rfl, x, dx, _, rfl, c1, rfl, Nat.zero_le _, fun e0 he0 => ?_⟩
    have s2 := Same.new (o := .tup []) he0
    have e2 : (upd H1 e0 (.tup [])) e0 = some (tupS []) := upd_same
    generalize upd H1 e0 (.tup []) = H2 at s2 e2
    refine ⟨x, e0, _, _, [], rfl, hc1.same s2, n0, n3000, e2, ⟨fun _ h => (by cases h), List.Pairwise.nil, by show 0 ≤ 1000; decide⟩, fun r1 H3 s3 _ e3 => ?_⟩
    have z0 : sumB (nfB u ps) [] = 0 := rfl
    have zf : fg 0 (nfU u ps) = nfU u ps := by
      unfold fg
      rw [show (0 : Int).natAbs = 0 from rfl, Nat.gcd_zero_left]
      omega
    rw [z0, zf, Int.zero_ediv, Int.ediv_self (by omega)] at e3
    have s3 := s2.trans s3
    refine ⟨by show 2 ≤ sizeLine; decide, fun e1 he1 => ?_⟩
    have s4 := Same.new (o := .tup [.int 0, .int 1]) he1
    refine ⟨_, _, dp_pair (s4 _ _ e3), dp_pair upd_same, sh_pair _ _, sh_pair _ _, ?_⟩
    rw [eqv_pair]
    have s4 := s3.trans s4
    generalize upd H3 e1 (.tup [.int 0, .int 1]) = H4 at s4
    refine ⟨_, rfl, ite2 (fun _ => ?_) (fun z => absurd rfl z)⟩
    have hc4 := hc1.same s4
    have c24 : H4 tt = some (tupS (nms ps)) := by
      have := s4 _ _ c2
      rw [nfB_nms] at this
      exact this
    have hne : nms ps ≠ [] := fun z => by
      have := g.l1
      rw [← nms_len, z] at this
      exact absurd this (by decide)
    refine ⟨_, rfl, x, dx, _, rfl, s4 _ _ c1, rfl, _, rfl, x, dx, _, rfl, s4 _ _ c1, x, dx, tt, dd, _, rfl, s4 _ _ c1, x, tt, _, _, nms ps, rfl, hc4, n0, n3000, c24, ⟨fun y hy => by rw [nfB_nms]; exact hy, g.asc, by omega⟩, hne, by omega, fun z hz => g.nm z hz, fun xc zs H5 sd s5 hx5 hc5 => ?_⟩
    have ezs : zs = nms ps := by
      refine sorted_one (sd.pm.trans ?_) sd.ord (sorted_asc _ g.asc)
      rw [bagOf_nms]
    obtain ⟨n2, n3⟩ := cut_nf (ps := ps) u0 (ys := nms ps) g.nd
    rw [ezs, n2, n3, bag_look g.nd] at hc5
    obtain ⟨dx5, t5, d5, k1, k2, k3⟩ := id hc5
    have c15 := s5 _ _ (s4 _ _ c1)
    have s15 := s4.trans s5
    refine ⟨_, rfl, xc, dx5, _, .ref C, rfl, k1, KCharge.ins c15, nf_self, xc, _, _, _, true, rfl, hc5, eqd_self (by rw [nfB_nms]; exact g.nd) (hc1.same s15), _, rfl, ?_⟩
    exact k _ (p1.same s15) (b1.trans (But.of s15))
end
end V0

namespace V0
open PySem PySem.Spec PyProof.Rows L2
theorem words_nm : ∀ z ∈ wordsL, nameB (.str z) = true ∧ z.length ≤ 8 := by decide +kernel
theorem Ws.s8 {ps : Bag} {u : Int} (h : Ws (nms ps)) (hn : ∀ q ∈ ps, q.2.natAbs < 10 ^ 30) (l1 : 1 ≤ ps.length) (l8 : ps.length ≤ 8) (u0 : 0 < u) (ub : u < 10 ^ 10) : S8 ps u :=
  ⟨h.asc, h.sub, fun z hz => words_nm z (h.sub z hz), fun q hq => Nat.lt_trans (hn q hq) (by decide +kernel), l1, l8, u0, ub⟩
/-- one number of a bag put anew -/
def setB (ps : Bag) (z : Str) (i : Int) : Bag := ps.map fun p => if p.1 = z then (p.1, i) else p
theorem putK_old {ps : Bag} {z : Str} {i : Int} (h : z ∈ nms ps) : putK (kvs ps) (.inr z) (.int i) = kvs (setB ps z i) := by
  unfold putK
  have e : ((kvs ps).any fun kv => decide (kv.1 = Sum.inr z)) = true := by
    obtain ⟨p, hp, e⟩ := List.mem_map.mp h
    exact List.any_eq_true.mpr ⟨_, List.mem_map.mpr ⟨p, hp, rfl⟩, decide_eq_true (by rw [← e])⟩
  rw [if_pos e]
  unfold kvs setB
  rw [List.map_map, List.map_map]
  refine List.map_congr_left fun p _ => ?_
  show (if (Sum.inr p.1 : Key) = Sum.inr z then (Sum.inr p.1, V.int i) else (Sum.inr p.1, V.int p.2)) = (Sum.inr (if p.1 = z then (p.1, i) else p).1, V.int (if p.1 = z then (p.1, i) else p).2)
  by_cases q : p.1 = z
  · rw [if_pos (by rw [q]), if_pos q]
  · rw [if_neg (fun e => q (Sum.inr.inj e)), if_neg q]
theorem setB_nms (ps : Bag) (z : Str) (i : Int) : nms (setB ps z i) = nms ps := by
  unfold nms setB
  rw [List.map_map]
  refine List.map_congr_left fun p _ => ?_
  show (if p.1 = z then (p.1, i) else p).1 = p.1
  split <;> rfl
theorem setB_len (ps : Bag) (z : Str) (i : Int) : (setB ps z i).length = ps.length := by unfold setB; rw [List.length_map]
theorem setB_look {ps : Bag} {z : Str} {i : Int} (nd : (nms ps).Nodup) (h : z ∈ nms ps) : look (setB ps z i) z = i := by
  refine look_of (by rw [setB_nms]; exact nd) ?_
  obtain ⟨p, hp, e⟩ := List.mem_map.mp h
  refine List.mem_map.mpr ⟨p, hp, ?_⟩
  rw [if_pos e, e]
theorem setB_nb {b : Nat} {ps : Bag} {z : Str} {i : Int} (h : ∀ p ∈ ps, p.2.natAbs < b) (hi : i.natAbs < b) : ∀ p ∈ setB ps z i, p.2.natAbs < b := fun p hp => by
  obtain ⟨q, hq, rfl⟩ := List.mem_map.mp hp
  by_cases e : q.1 = z
  · rw [if_pos e]; exact hi
  · rw [if_neg e]; exact h q hq
/-- no charge of other numbers over the same names is equal -/
theorem nf_other {ps qs : Bag} {u : Int} (hu : 0 < u) (nd : (nms ps).Nodup) (hn : nms ps = nms qs) (h : ps ≠ qs) : (decide (nfU u ps = nfU u qs) && eqBg (nfB u ps) (nfB u qs)) = false := by
  by_cases e : nfU u ps = nfU u qs
  · by_cases e2 : eqBg (nfB u ps) (nfB u qs) = true
    · exact absurd (nf_inj hu e (eqBg_names (by rw [nfB_nms]; exact nd) (by rw [nfB_nms, nfB_nms]; exact hn) e2)) h
    · rw [Bool.and_eq_false_iff]
      exact .inr (by simpa using e2)
  · rw [decide_eq_false e, Bool.false_and]
def spRight : Sp := fun vs H Q _ => ∃ (p : Addr), vs = [.ref p] ∧ Pot H p ∧ ∀ H', Pot H' p → But p H H' → Q (.bl true) H'
section
variable {P : Program} {w : World} {K : PySem.W.Frag} {mg : Str → Option Value} {base : Heap} {C : Addr} {ad : Nat → Addr} {fdd : Nat → FuncData}
abbrev s_right : Stmt := top 46
abbrev N_right : List Str := ["_law_pot_here", "_law_some", "_law_charge", "_law_again", "_law_sums_here", "_law_one", "_law_odd"]
abbrev P_right : List Str := ["_law_pot_here"]
theorem sc_right : FnScope N_right P_right (defScope s_right) := ⟨rfl, rfl, rfl, by decide +kernel, rfl, by decide +kernel, by decide +kernel⟩
theorem ok_right {f f1 f2 f3 f4 f5 f6 f7 f8 f9 f10 f11 f12 f13 f14 : Addr} {fd fd1 fd2 fd3 fd4 fd5 fd6 fd7 fd8 fd9 fd10 fd11 fd12 fd13 fd14 : FuncData} (O : Own P w K mg base C ad fdd) (D_low : Df K mg "_law_low" s_low P_low f1 fd1) (D_common : Df K mg "_law_common" s_common P_common f2 fd2)
    (D_lfraction_text : Df K mg "_law_fraction_text" s_lfraction_text P_lfraction_text f3 fd3) (D_is_told : Df K mg "_law_is_told" s_is_told P_is_told f4 fd4) (D_stir : Df K mg "_law_stir" s_stir P_stir f5 fd5) (D_paid : Df K mg "_law_paid" s_paid P_paid f6 fd6)
    (D_groups_right : Df K mg "_law_groups_right" s_groups_right P_groups_right f7 fd7) (D_one_of : Df K mg "_law_one_of" s_one_of P_one_of f8 fd8) (D_shuffled : Df K mg "_law_shuffled" s_shuffled P_shuffled f9 fd9) (D_words : Df K mg "_law_words" s_words P_words f10 fd10)
    (D_number : Df K mg "_law_number" s_number P_number f11 fd11) (D_sums : Df K mg "_law_sums" s_sums P_sums f12 fd12) (D_made_charge : Df K mg "_law_made_charge" s_made_charge P_made_charge f13 fd13) (D_told_charge : Df K mg "_law_told_charge" s_told_charge P_told_charge f14 fd14)
    (D : Df K mg "_law_right" s_right P_right f fd) : FnG P w K mg base 10 f fd P_right spRight := by
  obtain ⟨B, M, KCharge, N, NX, Y_init, G_init, Y_Charge_things, G_Charge_things, Y_Charge_unit, G_Charge_unit, Y_Charge_pays, G_Charge_pays, Y_Charge_total, G_Charge_total, Y_Charge_of, G_Charge_of, Y_Charge_cut, G_Charge_cut, O_len, O_str, O_iter, O_item, O_cont, O_eq⟩ := id O
  have G_stir : FnOk P w K mg base CX0 1 f5 fd5 P_stir spStir := ok_stir B D_stir
  have G_one_of : FnOk P w K mg base CX0 2 f8 fd8 P_one_of (spOneOf K) := ok_one_of B D_stir D_one_of
  have G_words : FnOk P w K mg base CX0 3 f10 fd10 P_words spWords := ok_words B M D_stir D_shuffled D_words
  have G_sums : FnOk P w K mg base CX0 3 f12 fd12 P_sums spSums := ok_sums B D_stir D_one_of D_number D_sums
  have G_made_charge : FnOk P w K mg base CX0 6 f13 fd13 P_made_charge (spMade C) := ok_made O D_made_charge
  have G_told_charge : FnOk P w K mg base CX0 6 f14 fd14 P_told_charge (spToldCh C) := ok_toldch O D_stir D_shuffled D_told_charge
  have G_is_told : FnG P w K mg base 8 f4 fd4 P_is_told (spIsTold C) := ok_is_told O D_low D_common D_lfraction_text D_is_told
  have G_groups_right : FnG P w K mg base 9 f7 fd7 P_groups_right (spGroups C) := ok_groups O D_low D_common D_lfraction_text D_is_told D_stir D_paid D_groups_right
  refine g_of D.F sc_right (fun vs H Q h => ?_) (fun cdv A outer s H vs Q hgd0 hr h => ?_)
  · obtain ⟨p, rfl, _⟩ := h
    rfl
  · obtain ⟨p, rfl, hp, k⟩ := h
    have hgd : (cxOf CX0 P w K mg base N_right "_law_right" (defScope s_right) f cdv A outer s H E0).nox.A.guards = some [] := hgd0
    refine ⟨_, (pss_cons (ps_set (i := 1) sc_right.nd rfl (Or.inl rfl) (pe_call G_sums (hr.mono (by decide)) (by rfl) D_sums.g D_sums.F.kp D_sums.b .nil pass0 (pa_cons (pv 0) (pa_cons (pe_call G_words (hr.mono (by decide)) (by rfl) D_words.g D_words.F.kp D_words.b .nil pass0 (pa_cons (pv 0) (pa_cons (pe_op op_add pe_int (pe_call G_stir (hr.mono (by decide)) (by rfl) D_stir.g D_stir.F.kp D_stir.b .nil pass0 (pa_cons (pv 0) (pa_cons pe_int pa_nil)))) pa_nil))) pa_nil))))
      (pss_cons (ps_asg (pe_tup (pa_cons (pe_call G_told_charge (hr.mono (by decide)) (by rfl) D_told_charge.g D_told_charge.F.kp D_told_charge.b .nil pass0 (pa_cons (pv 0) (pa_cons (pv 1) pa_nil))) (pa_cons (pe_call G_told_charge (hr.mono (by decide)) (by rfl) D_told_charge.g D_told_charge.F.kp D_told_charge.b .nil pass0 (pa_cons (pv 0) (pa_cons (pv 1) pa_nil))) pa_nil))) (pg_tup rfl (pgs_cons (pg_name (i := 2) sc_right.nd rfl (Or.inr rfl)) (pgs_cons (pg_name (i := 3) sc_right.nd rfl (Or.inl rfl)) pgs_nil))))
      (pss_cons (ps_if (PW.pt (pw_or (pt_not (pt_val (pe_callG G_is_told hgd (hr.mono (by decide)) (by rfl) D_is_told.g D_is_told.F.kp D_is_told.b (pa_cons (pv 2) (pa_cons (pv 1) pa_nil))))) (pw_or1 (pt_not (pt_val (pe_callG G_groups_right hgd (hr.mono (by decide)) (by rfl) D_groups_right.g D_groups_right.F.kp D_groups_right.b (pa_cons (pv 0) (pa_cons (pv 2) (pa_cons (pv 1) pa_nil))))))))) (pss_one (ps_ret pe_bl)) pss_nil)
      (pss_cons (ps_set (i := 4) sc_right.nd rfl (Or.inl rfl) (pe_callTy (call_dictP rfl) (by rfl) B.b_dict (by decide +kernel) (pa_cons (LiI.pe_listItems rfl (pe_ix ix_tup (pv 1) pe_int (fun _ _ => rfl)) (by rfl) B.b_list (by rfl)) pa_nil)))
      (pss_cons (ps_set (i := 5) sc_right.nd rfl (Or.inl rfl) (pe_call G_one_of (hr.mono (by decide)) (by rfl) D_one_of.g D_one_of.F.kp D_one_of.b .nil pass0 (pa_cons (pv 0) (pa_cons (pe_callB (call_sortedD rfl) (by rfl) M.b_sorted (by decide +kernel) (pa_cons (pv 4) pa_nil)) pa_nil))))
      (pss_cons (ps_asg (pe_op op_add (pe_dget (hu_of hr) (pv 4) (pv 5) (fun _ _ => rfl)) (pe_call G_one_of (hr.mono (by decide)) (by rfl) D_one_of.g D_one_of.F.kp D_one_of.b .nil pass0 (pa_cons (pv 0) (pa_cons (pe_lst (pa_cons pe_int (pa_cons (pe_un un_neg pe_int) (pa_cons (pe_op op_pow pe_int pe_int) pa_nil)))) pa_nil)))) (pg_sub (pv 4) (pv 5) (set_dict (hu_of hr))))
      (pss_cons (ps_if (PW.pt (pw_or (pt_cmpR (op_neO O_eq NX.ne NX.ob (hr.mono (by decide)) pass0) (pv 2) (pv 3) (nomark _)) (pw_or (pt_not (pt_cmpR (op_eqO O_eq (hr.mono (by decide)) pass0) (pv 2) (pv 3) (nomark _))) (pw_or1 (pt_cmpR (op_eqO O_eq (hr.mono (by decide)) pass0) (pv 2) (pe_call G_made_charge (hr.mono (by decide)) (by rfl) D_made_charge.g D_made_charge.F.kp D_made_charge.b .nil pass0 (pa_cons (pe_tup (pa_cons (pv 4) (pa_cons (pe_ix ix_tup (pv 1) pe_int (fun _ _ => rfl)) pa_nil))) pa_nil)) (nomark _)))))) (pss_one (ps_ret pe_bl)) pss_nil)
      (pss_cons (ps_if (PW.pt (pw_and (pt_cmpR op_lt (pe_callB call_lenD (by rfl) B.b_len (by decide +kernel) (pa_cons (pv 4) pa_nil)) pe_int (nomark _)) (pw_and1 (pt_cmpR (op_eqO O_eq (hr.mono (by decide)) pass0) (pv 2) (pe_makeK Y_init.mkC G_init (hr.mono (by decide)) (by rfl) KCharge.g Y_init.bk pass0 (pa_cons (pe_callTy (call_dictP rfl) (by rfl) B.b_dict (by decide +kernel) (pa_cons (pe_op op_cat (LiI.pe_listItems rfl (pe_ix ix_tup (pv 1) pe_int (fun _ _ => rfl)) (by rfl) B.b_list (by rfl)) (pe_lst (pa_cons (pe_tup (pa_cons pe_str (pa_cons pe_int pa_nil))) pa_nil))) pa_nil)) pa_nil) (pk_cons (pe_ix ix_tup (pv 1) pe_int (fun _ _ => rfl)) pk_nil)) (nomark _))))) (pss_one (ps_ret pe_bl)) pss_nil)
      (pss_cons (ps_if (pt_cmpR (op_neD hr.units) (pe_lc (own := [("_law_odd", 6)]) (g := gName 6) rfl sc_right.nd (pi_list (pe_lst (pa_cons pe_non (pa_cons (pe_ix ix_tup (pv 1) pe_int (fun _ _ => rfl)) (pa_cons (pv 1) (pa_cons (pe_callTy (call_strO O_str (hr.mono (by decide)) pass0) (by rfl) B.b_str (by decide +kernel) (pa_cons (pv 2) pa_nil)) (pa_cons (pe_prop (pv 2) KCharge.cl Y_Charge_pays.pr G_Charge_pays (hr.mono (by decide)) Y_Charge_pays.b .nil pass0 rfl) (pa_cons (pe_prop (pv 2) KCharge.cl Y_Charge_total.pr G_Charge_total (hr.mono (by decide)) Y_Charge_total.b .nil pass0 rfl) (pa_cons (pe_prop (pv 2) KCharge.cl Y_Charge_things.pr G_Charge_things (hr.mono (by decide)) Y_Charge_things.b .nil pass0 rfl) pa_nil))))))))) (blkOk_by (own := [("_law_odd", 6)]) (N := N_right) (sc := defScope s_right) (by decide +kernel)) (fun _ _ _ _ _ => (pg_name (i := 6) sc_right.nd rfl (Or.inl rfl))) (fun _ _ _ _ _ => pts_one (show PT _ _ (tTest (tOp (rEqO K C (spEq K C) E0 false) (tVar 2) (tVar 6))) from by exact (pt_cmpR (op_eqO O_eq (hr.mono (by decide)) pass0) (pv 2) (pv 6) (nomark _)))) (fun _ _ _ _ _ => (pv 6))) (pe_lst pa_nil) (nomark _)) (pss_one (ps_ret pe_bl)) pss_nil)
      (pss_cons (ps_expr (pe_dclear (pe_prop (pv 2) KCharge.cl Y_Charge_pays.pr G_Charge_pays (hr.mono (by decide)) Y_Charge_pays.b .nil pass0 rfl)))
      (pss_one (ps_ret (pe_and (pe_callG G_is_told hgd (hr.mono (by decide)) (by rfl) D_is_told.g D_is_told.F.kp D_is_told.b (pa_cons (pv 2) (pa_cons (pv 1) pa_nil))) (pe_one (pe_cmpR (op_eqO O_eq (hr.mono (by decide)) pass0) (pv 2) (pv 3) (nomark _)))))))))))))))), ?_⟩
    -- the drawn sums
    refine ⟨_, rfl, _, rfl, _, rfl, p, 8, rfl, hp, by omega, by omega, fun r H1 r0 r1 p1 b1 => ⟨_, _, rfl, rfl, ?_⟩⟩
    refine ⟨p, (1 + r).toNat, by dsimp only; rw [Int.toNat_of_nonneg (by omega)]; rfl, p1, by omega, by omega, fun q zs H2 ws lz hq nq p2 b2 => ?_⟩
    refine ⟨p, q, zs, rfl, p2, hq, ws.nodup, by omega, fun a ps u H3 en eb u0 ub hs p3 b3 => ?_⟩
    subst en
    have lps : (nms ps).length = ps.length := nms_len ps
    have g : S8 ps u := ws.s8 eb (by omega) (by omega) u0 ub
    have b3 := (b1.trans b2).trans b3
    clear b1 b2 p1 p2 hq nq
    -- the charges
    refine ⟨_, rfl, _, rfl, p, a, ps, u, rfl, p3, hs, g, fun x H4 p4 b4 hx => ?_⟩
    have hs4 := hs.but b4 p3
    refine ⟨_, rfl, _, rfl, p, a, ps, u, rfl, p4, hs4, g, fun y H5 p5 b5 hy => ⟨by show 2 ≤ sizeLine; decide, fun tp htp => ⟨tp, _, rfl, SqT.of upd_same, rfl, _, _, rfl, _, _, rfl, rfl, ?_⟩⟩⟩
    have s6 := Same.new (o := .tup [.ref x, .ref y]) htp
    have hx6 := (ChAt.but hx b5 p4).same s6
    have hy6 := ChOf.same hy s6
    have hs6 := (hs4.but b5 p4).same s6
    have p6 := p5.same s6
    have b6 := ((b3.trans b4).trans b5).trans (But.of s6)
    generalize upd H5 tp (.tup [.ref x, .ref y]) = H6 at hx6 hy6 hs6 p6 b6
    clear s6 hx hy hs hs4 p5 p4 p3 b3 b4 b5
    -- both judges
    refine ⟨_, rfl, _, rfl, x, a, ps, u, rfl, hx6, hs6, g, fun H7 s7 => ⟨_, rfl, ?_⟩⟩
    refine ite2 (fun z => by cases z) (fun _ => ?_)
    refine ⟨_, rfl, _, rfl, _, rfl, p, x, a, ps, u, rfl, p6.same s7, ChAt.same hx6 s7, hs6.same s7, g, fun H8 p8 b8 => ⟨_, rfl, ?_⟩⟩
    refine ite2 (fun z => by cases z) (fun _ => ?_)
    have b68 : But p H6 H8 := (But.of s7).trans b8
    have hx8 : ChAt C H8 x (nfB u ps) (nfU u ps) := ChAt.but hx6 b68 p6
    have hy8 : ChAt C H8 y (nfB u ps) (nfU u ps) := ChAt.but hy6 b68 p6
    obtain ⟨d, h1, h2⟩ := hs6.but b68 p6
    have b8 := b6.trans b68
    clear s7 b68 hx6 hy6 hs6 p6 b6
    -- other sums
    refine ⟨_, rfl, a, _, 0, .ref d, rfl, rfl, SqT.of h1, rfl, d, kvs ps, rfl, h2, fun H9 l ts s9 hl hts nl e9 pr => ?_⟩
    refine ⟨l, ts, kvs ps, rfl, SqL.of e9, paired_mono (fun _ _ e => SqT.of e) pr, fun d2 hd2 => ?_⟩
    rw [mergeK_nil (kvs_nd g.nd)]
    have s10 := Same.trans s9 (Same.new (o := .dK (kvs ps)) hd2)
    have e10 : (upd H9 d2 (.dK (kvs ps))) d2 = some (.dK (kvs ps)) := upd_same
    have nd2 : d2 ≠ d := fun z => by
      have := s9 _ _ h2
      rw [← z, hd2] at this
      cases this
    have hd28 : H8 d2 = none := none_up s9 hd2
    generalize upd H9 d2 (.dK (kvs ps)) = H10 at s10 e10
    -- one of the things
    refine ⟨_, rfl, _, rfl, d2, _, nms ps, rfl, .inl e10, kvs_keys ps, by have := g.l8; omega, fun zs l2 q1 q2 hl2 => ?_⟩
    have ez : zs = nms ps := sorted_one q1 q2 (sorted_asc _ g.asc)
    subst ez
    have p10 := p8.same s10
    have s11 := Same.new (o := .lst ((nms ps).map V.str)) hl2
    have e11 : (upd H10 l2 (.lst ((nms ps).map V.str))) l2 = some (.lst ((nms ps).map V.str)) := upd_same
    have p11 := p10.same s11
    have nl2 := pot_ne p10 hl2
    generalize upd H10 l2 (.lst ((nms ps).map V.str)) = H11 at s11 e11 p11
    have hne : (nms ps).map V.str ≠ [] := fun z => by
      have := g.l1
      rw [← lps, ← List.length_map (f := V.str), z] at this
      exact absurd this (by decide)
    refine ⟨p, .ref l2, rfl, p11, .inl ⟨l2, _, rfl, nl2, e11, hne, by rw [List.length_map]; have := g.l8; omega, fun v hv H12 p12 b12 => ?_⟩⟩
    obtain ⟨z, hz, rfl⟩ := List.mem_map.mp hv
    have e12 := b12 _ _ (s11 _ _ e10) (by
      obtain ⟨_, _, _, hpp, _⟩ := id p11
      exact ne_of (s11 _ _ e10) hpp fun z => nomatch z)
    have b812 : But p H8 H12 := (But.of (s10.trans s11)).trans b12
    clear s9 s10 s11 e9 pr e10 e11 b12 p11 p10 hd2 hl hl2 hts nl
    -- another number for it
    have t20 : (10 : Int) ^ Int.toNat 20 = 100000000000000000000 := by decide +kernel
    refine ⟨_, rfl, _, rfl, d2, _, rfl, DGet.bag (.inl e12) hz, _, rfl, _, rfl, _, _, rfl, rfl, ⟨by decide, by decide, by decide⟩, by show 3 ≤ sizeLine; decide, fun lo hlo => ?_⟩
    have s13 := Same.new (o := .lst [.int 1, .int (-1), .int ((10 : Int) ^ Int.toNat 20)]) hlo
    refine ⟨p, .ref lo, rfl, p12.same s13, .inl ⟨lo, _, rfl, pot_ne p12 hlo, upd_same, by simp, by show 3 ≤ 1000; decide, fun v hv H13 p13 b13 => ?_⟩⟩
    have hv' : ∃ n : Int, v = .int n ∧ n ≠ 0 ∧ n.natAbs ≤ 100000000000000000000 := by
      dsimp only at hv
      rw [t20] at hv
      rcases List.mem_cons.mp hv with rfl | hv
      · exact ⟨_, rfl, by decide, by decide⟩
      rcases List.mem_cons.mp hv with rfl | hv
      · exact ⟨_, rfl, by decide, by decide⟩
      rw [List.mem_singleton] at hv
      exact ⟨_, hv, by decide, by decide⟩
    obtain ⟨n, rfl, n0, n1⟩ := hv'
    have b1213 : But p H12 H13 := (But.of s13).trans b13
    have ne2 : d2 ≠ p := by
      obtain ⟨_, _, _, hpp, _⟩ := id p12
      exact ne_of e12 hpp fun z => nomatch z
    have e13 := b1213 _ _ e12 ne2
    have b813 := b812.trans b1213
    clear b812 b1213 b13 s13 e12 p12
    refine ⟨_, _, rfl, rfl, _, rfl, _, rfl, d2, _, rfl, .inl ⟨_, .inr z, e13, rfl, by rw [kvs_len, sizeLine_eq]; have := g.l8; omega, rfl⟩, ?_⟩
    rw [show putK (kvs ps) (Sum.inr z) (V.int (look ps z + n)) = kvs (setB ps z (look ps z + n)) from putK_old hz]
    generalize hqs : setB ps z (look ps z + n) = qs
    have qn : nms qs = nms ps := by rw [← hqs, setB_nms]
    have ql : qs.length = ps.length := by rw [← hqs, setB_len]
    have qd : ps ≠ qs := fun e => by
      have h1 : look qs z = look ps z + n := by rw [← hqs]; exact setB_look g.nd hz
      rw [← e] at h1
      omega
    have lz : (look ps z).natAbs < 10 ^ 40 := g.nb _ (look_mem hz)
    have qb : ∀ q ∈ qs, q.2.natAbs < 10 ^ 60 := by
      rw [← hqs]
      refine setB_nb (fun q hq => Nat.lt_trans (g.nb q hq) (by decide +kernel)) ?_
      have : (10 : Nat) ^ 40 + 100000000000000000000 < 10 ^ 60 := by decide +kernel
      omega
    have e14 : (upd H13 d2 (.dK (kvs qs))) d2 = some (.dK (kvs qs)) := upd_same
    have p14 : Pot (upd H13 d2 (.dK (kvs qs))) p := p13.but But.upd ne2.symm
    have b814 : But p H8 (upd H13 d2 (.dK (kvs qs))) := fun b o e hb => by
      rw [upd_ne (fun q => by rw [q, hd28] at e; cases e)]
      exact b813 b o e hb
    generalize upd H13 d2 (.dK (kvs qs)) = H14 at e14 p14 b814
    clear b813 e13 p13
    have hx14 : ChAt C H14 x (nfB u ps) (nfU u ps) := ChAt.but hx8 b814 p8
    have hy14 : ChAt C H14 y (nfB u ps) (nfU u ps) := ChAt.but hy8 b814 p8
    have hs14 : SomeAt H14 a ps u := (show SomeAt H8 a ps u from ⟨d, h1, h2⟩).but b814 p8
    have b14 := b8.trans b814
    clear hx8 hy8 h1 h2 b8 b814 p8 hd28 nd2
    obtain ⟨d, h1, h2⟩ := id hs14
    obtain ⟨dx, tx, ddx, c1, c2, c3⟩ := id hx14
    obtain ⟨dy, ty, ddy, y1, y2, y3⟩ := id hy14
    have ndn : (nms (nfB u ps)).Nodup := by rw [nfB_nms]; exact g.nd
    -- equal to its like, to no other
    refine ⟨_, rfl, _, rfl, x, dx, _, .ref C, rfl, c1, KCharge.ins y1, nf_self, x, _, _, _, true, rfl, hx14, eqd_self ndn hy14, _, rfl, _, rfl, ite2 (fun z => by cases z) (fun _ => ?_)⟩
    refine ⟨_, rfl, _, rfl, x, dx, _, .ref C, rfl, c1, KCharge.ins y1, nf_self, x, _, _, _, true, rfl, hx14, eqd_self ndn hy14, _, rfl, _, rfl, ite2 (fun z => by cases z) (fun _ => ?_)⟩
    refine ⟨_, rfl, _, rfl, _, rfl, a, _, 1, .int u, rfl, rfl, SqT.of h1, rfl, by show 2 ≤ sizeLine; decide, fun tq htq => ?_⟩
    have s15 := Same.new (o := .tup [.ref d2, .int u]) htq
    refine ⟨tq, qs, u, rfl, ⟨d2, upd_same, s15 _ _ e14⟩, ⟨by rw [qn]; exact g.nd, by rw [qn]; exact g.nm, qb, by rw [ql]; exact g.l1, by rw [ql]; exact g.l8⟩, by rw [qn]; exact g.asc, u0, Nat.lt_trans (show u.natAbs < 10 ^ 11 by omega) (by decide +kernel), fun w' H16 s16 hw => ?_⟩
    have s16 := s15.trans s16
    obtain ⟨dw, tw, ddw, w1, w2, w3⟩ := id hw
    refine ⟨x, dx, _, .ref C, rfl, s16 _ _ c1, KCharge.ins w1, nf_self, x, _, _, .ref w', _, rfl, hx14.same s16, .inr ⟨w', _, _, rfl, hw, rfl⟩, _, rfl, ?_⟩
    rw [nf_other u0 g.nd qn.symm qd]
    refine ⟨_, rfl, ite2 (fun z => by cases z) (fun _ => ?_)⟩
    refine ⟨_, rfl, d2, _, rfl, s16 _ _ e14, _, _, rfl, rfl, _, rfl, ite2 (fun e => ?less) (fun e => ?more)⟩
    case' less =>
      have e8 : ps.length < 8 := by
        have := of_decide_eq_true e
        rw [kvs_len, ql] at this
        omega
      refine ⟨_, rfl, _, rfl, a, _, 0, .ref d, rfl, rfl, SqT.of (s16 _ _ h1), rfl, d, kvs ps, rfl, s16 _ _ h2, fun H17 l ts s17 hl hts nl e17 pr => ⟨by show 2 ≤ sizeLine; decide, fun t2 ht2 => ⟨by show 1 ≤ sizeLine; decide, fun l3 hl3 => ?_⟩⟩⟩
      have s18 := Same.new (o := .tup [.str (Str.ofString "unlike"), .int 0]) ht2
      have e18 : (upd H17 t2 (.tup [.str (Str.ofString "unlike"), .int 0])) t2 = some (.tup [.str (Str.ofString "unlike"), .int 0]) := upd_same
      generalize upd H17 t2 (.tup [.str (Str.ofString "unlike"), .int 0]) = H18 at s18 e18 hl3
      have s19 := Same.new (o := .lst [.ref t2]) hl3
      have e19 : (upd H18 l3 (.lst [.ref t2])) l3 = some (.lst [.ref t2]) := upd_same
      have s1819 := Same.trans s18 s19
      have e18 := s19 _ _ e18
      generalize upd H18 l3 (.lst [.ref t2]) = H19 at s19 e19 s1819 e18
      have tl : ts.length = ps.length := by rw [pr.length, kvs_len]
      refine ⟨l, l3, _, _, rfl, rfl, s1819 _ _ e17, e19, by rw [List.length_map, sizeLine_eq]; show ts.length + 1 ≤ _; omega, fun l4 hl4 => ?_⟩
      have s20 := Same.new (o := .lst (ts.map V.ref ++ [.ref t2])) hl4
      have kk : kvs (ps ++ [((Str.ofString "unlike"), (0 : Int))]) = kvs ps ++ [(.inr (Str.ofString "unlike"), .int 0)] := kvs_snoc _ _ _
      have out : (Str.ofString "unlike") ∉ nms ps := fun h => notin_words.2.2.2 (g.sub _ h)
      have nn : nms (ps ++ [((Str.ofString "unlike"), (0 : Int))]) = nms ps ++ [Str.ofString "unlike"] := by unfold nms; rw [List.map_append]; rfl
      have ndu : (nms (ps ++ [((Str.ofString "unlike"), (0 : Int))])).Nodup := by
        rw [nn]
        refine List.nodup_append.mpr ⟨g.nd, by simp, fun y hy b hb => ?_⟩
        rw [List.mem_singleton] at hb
        subst hb
        exact fun q => out (q ▸ hy)
      refine ⟨l4, ts ++ [t2], kvs (ps ++ [((Str.ofString "unlike"), (0 : Int))]), rfl, SqL.of (by rw [upd_same, List.map_append]; rfl), ?_, fun d3 hd3 => ?_⟩
      · rw [kk]
        exact paired_snoc (paired_mono (fun _ _ e => SqT.of (s20 _ _ (s1819 _ _ e))) pr) (SqT.of (s20 _ _ e18))
      rw [mergeK_nil (kvs_nd ndu)]
      have s21 := Same.trans s20 (Same.new (o := .dK (kvs (ps ++ [((Str.ofString "unlike"), (0 : Int))]))) hd3)
      have e21 : (upd (upd H19 l4 (.lst (ts.map V.ref ++ [.ref t2]))) d3 (.dK (kvs (ps ++ [((Str.ofString "unlike"), (0 : Int))])))) d3 = some (.dK (kvs (ps ++ [((Str.ofString "unlike"), (0 : Int))]))) := upd_same
      have s21 := s16.trans (Same.trans s17 (s1819.trans s21))
      generalize upd (upd H19 l4 (.lst (ts.map V.ref ++ [.ref t2]))) d3 (.dK (kvs (ps ++ [((Str.ofString "unlike"), (0 : Int))]))) = H21 at s21 e21
      refine ⟨_, rfl, a, _, 1, .int u, rfl, rfl, SqT.of (s21 _ _ h1), rfl, rfl, rfl, fun w2 dx2 hw2 hdx2 hdd => ?_⟩
      have nmu : nameB (.str (Str.ofString "unlike")) = true ∧ (Str.ofString "unlike").length ≤ 8 := by decide +kernel
      refine ⟨w2, dx2, d3, ps ++ [((Str.ofString "unlike"), (0 : Int))], u, rfl, upd_same, ?_, ⟨ndu, fun y hy => ?_, fun y hy => ?_, ?_, ?_⟩, u0, Nat.lt_trans (show u.natAbs < 10 ^ 11 by omega) (by decide +kernel), fun zs H22 sd bt hc => ⟨rfl, ?_⟩⟩
      · rw [upd_ne (ne_of_none e21 hw2), upd_ne (ne_of_none e21 hdx2)]
        exact e21
      · rw [nn] at hy
        rcases List.mem_append.mp hy with q | q
        · exact g.nm y q
        · rw [List.mem_singleton] at q
          rw [q]
          exact nmu
      · rcases List.mem_append.mp hy with q | q
        · exact Nat.lt_trans (g.nb y q) (by decide +kernel)
        · rw [List.mem_singleton] at q
          rw [q]
          decide +kernel
      · rw [List.length_append]; exact Nat.le_add_left _ _
      · rw [List.length_append]; exact e8
      have s22 := s21.trans (made_same hw2 hdx2 bt)
      obtain ⟨dw2, tw2, ddw2, v1, v2, v3⟩ := id hc
      have el : (nfB u ps).length ≠ (chB zs (ps ++ [((Str.ofString "unlike"), (0 : Int))]) u).length := by
        rw [nf_len]
        unfold chB bagOf
        rw [List.length_map, sd.pm.length_eq, nn, List.length_append, nms_len]
        show ps.length ≠ ps.length + 1
        omega
      refine ⟨x, dx, _, .ref C, rfl, s22 _ _ c1, KCharge.ins v1, nf_self, x, _, _, .ref w2, _, rfl, hx14.same s22, .inr ⟨w2, _, _, rfl, hc, rfl⟩, _, rfl, ?_⟩
      rw [eqBg_len el, Bool.and_false]
      refine ⟨_, rfl, ite2 (fun z => by cases z) (fun _ => ?_)⟩
      have sX := s22
      generalize H22 = HX at sX
    case' more =>
      have sX := s16
      generalize H16 = HX at sX
    all_goals (
      first
        | refine ite2 (fun z => by cases z) (fun _ => ?_)
        | skip
      have v0 := nfU_pos (ps := ps) u0
      have v1 := nfU_le (ps := ps) u0
      have v3000 : (nfU u ps).natAbs < 2 ^ 3000 := Nat.lt_trans (show (nfU u ps).natAbs < 10 ^ 11 by omega) (by decide +kernel)
      have v64 : (nfU u ps).natAbs < 10 ^ 64 := Nat.lt_trans (show (nfU u ps).natAbs < 10 ^ 11 by omega) (by decide +kernel)
      have l8 := g.l8
      have nfl : (nfB u ps).length = ps.length := nf_len
      have nb := nf_bound u0 g.nb
      have hxX := hx14.same sX
      have mem : ∀ q ∈ nfB u ps, q.1.length ≤ 8 := fun q hq => by
        have : q.1 ∈ nms (nfB u ps) := List.mem_map.mpr ⟨q, hq, rfl⟩
        rw [nfB_nms] at this
        exact (g.nm _ this).2
      refine ⟨_, rfl, a, _, 0, .ref d, rfl, rfl, SqT.of (sX _ _ h1), rfl, _, rfl, _, rfl, x, dx, _, rfl, sX _ _ c1, x, _, _, rfl, hxX, v0, v64, ndn, fun q hq => ⟨Nat.lt_trans (nb q hq) (by decide +kernel), mem q hq⟩, by omega, fun H23 s23 => ⟨_, rfl, ?_⟩⟩
      have s23 := sX.trans s23
      refine ⟨_, rfl, x, dx, _, rfl, s23 _ _ c1, x, _, _, rfl, hx14.same s23, ndn, by omega, fun pp hpp => ?_⟩
      have s24 := Same.new (o := .dK (kvs (nfB u ps))) hpp
      have e24 : (upd H23 pp (.dK (kvs (nfB u ps)))) pp = some (.dK (kvs (nfB u ps))) := upd_same
      have s24 := s23.trans s24
      generalize upd H23 pp (.dK (kvs (nfB u ps))) = H24 at s24 e24
      refine ⟨_, rfl, x, dx, _, rfl, s24 _ _ c1, x, _, _, rfl, hx14.same s24, v0, v3000, by omega, fun pt H25 s25 _ e25 => ?_⟩
      have e24 := s25 _ _ e24
      have s25 := s24.trans s25
      refine ⟨_, rfl, x, dx, _, rfl, s25 _ _ c1, x, dx, tx, ddx, _, rfl, s25 _ _ c1, by show 7 ≤ sizeLine; decide, fun lo hlo => ?_⟩
      generalize htxt : chText (nfB u ps) (nfU u ps) = txt at hlo ⊢
      have s26 := Same.new (o := .lst [.non, .ref d, .ref a, .str txt, .ref pp, .ref pt, .ref tx]) hlo
      have e26 : (upd H25 lo (.lst [.non, .ref d, .ref a, .str txt, .ref pp, .ref pt, .ref tx])) lo = some (.lst [.non, .ref d, .ref a, .str txt, .ref pp, .ref pt, .ref tx]) := upd_same
      have e24 := s26 _ _ e24
      have e25 := s26 _ _ e25
      have s26 := s25.trans s26
      generalize upd H25 lo (.lst [.non, .ref d, .ref a, .str txt, .ref pp, .ref pt, .ref tx]) = H26 at s26 e26 e24 e25
      refine ⟨lo, rfl, ⟨_, SqL.of e26⟩, fun D hD => ?_⟩
      have odd : ∀ {H' : Hp}, Same H26 H' → ∀ v ∈ [V.non, .ref d, .ref a, .str txt, .ref pp, .ref pt, .ref tx], ∃ t, Kn H' v t := by
        intro H' s' v hv
        simp only [List.mem_cons, List.not_mem_nil, or_false] at hv
        rcases hv with rfl | rfl | rfl | rfl | rfl | rfl | rfl
        · exact ⟨_, .non⟩
        · exact ⟨_, .dct (s' _ _ (s26 _ _ h2))⟩
        · exact ⟨_, .tup (s' _ _ (s26 _ _ h1))⟩
        · exact ⟨_, .str _⟩
        · exact ⟨_, .dct (s' _ _ e24)⟩
        · exact ⟨_, .tup (s' _ _ e25)⟩
        · exact ⟨_, .tup (s' _ _ (s26 _ _ c2))⟩
      refine lc_it (walk_list (xs := [V.non, .ref d, .ref a, .str txt, .ref pp, .ref pt, .ref tx])) (fun _ H' => Same H26 H' ∧ H' D = some (.lst [])) ⟨Same.new hD, upd_same⟩ (fun i H' _ ⟨s, _⟩ => SqL.of (s _ _ e26)) ?_ ?_
      · rintro i v H6 H7 hi ⟨s6, e6⟩ ⟨rfl, hv⟩
        obtain ⟨t, kn⟩ := odd s6 v (List.mem_of_getElem? hv)
        have s66 := s26.trans s6
        refine ⟨rfl, _, rfl, _, rfl, x, dx, _, .type t.nm, rfl, s66 _ _ c1, kn.tyx, nf_kd t, x, _, _, v, false, rfl, hx14.same s66, .inl ⟨t, kn.tyx, rfl⟩, _, rfl, _, rfl, ?_⟩
        exact ite2 (fun z => by cases z) (fun _ => ⟨s6, e6⟩)
      rintro H27 ⟨s27, e27⟩
      refine ⟨Nat.zero_le _, fun en hen => ?_⟩
      have s28 := Same.new (o := .lst []) hen
      refine ⟨_, _, .lst (SqL.of (s28 _ _ e27)) .nil, .lst (SqL.of upd_same) .nil, rfl, rfl, ?_⟩
      rw [eqv_nil2]
      refine ⟨_, rfl, ite2 (fun z => by cases z) (fun _ => ?_)⟩
      have s28 := (s26.trans s27).trans s28
      generalize upd H27 en (.lst []) = H28 at s28
      -- a dict that is cleared is a copy
      refine ⟨_, rfl, x, dx, _, rfl, s28 _ _ c1, x, _, _, rfl, hx14.same s28, ndn, by omega, fun pq hpq => ?_⟩
      refine ⟨.inr (.inr (.inl ⟨rfl, .inl ⟨_, upd_same⟩⟩)), pq, _, rfl, rfl, upd_same, ?_⟩
      rw [upd_upd]
      have s29 := s28.trans (Same.new (o := .dK []) hpq)
      generalize upd H28 pq (.dK []) = H29 at s29
      refine ⟨_, rfl, _, rfl, x, a, ps, u, rfl, hx14.same s29, hs14.same s29, g, fun H30 s30 => ⟨_, rfl, ite2 (fun _ => ?_) (fun z => absurd rfl z)⟩⟩
      have s30 := s29.trans s30
      refine ⟨_, rfl, _, rfl, x, dx, _, .ref C, rfl, s30 _ _ c1, KCharge.ins (s30 _ _ y1), nf_self, x, _, _, _, true, rfl, hx14.same s30, eqd_self ndn (hy14.same s30), _, rfl, ?_⟩
      exact k _ (p14.same s30) (b14.trans (But.of s30)))
end
end V0

namespace V0
open PySem PySem.SeqAt PyProof.Rows
open AutoSeq1 (wpAny_loadPart')
open MeetsSeq MeetsSeq2 MeetsSeq3
section
variable {P : Program} {w : World}
/-- != of two lists whose items are equal, one by one, within one model -/
theorem ne_turns {p q : Addr} {xs ys : Array Value} {m n : Nat} {dp dq : Option Addr} {sp sq : Array (Option Value)} (hz : xs.size = ys.size) : ∀ (k i : Nat), xs.size - i = k →
    MeetsIn P w (Builtin.«list.__eq__.loop» ⟨[.ref p, .ref q, rawInt i, rawInt 3], []⟩) (fun A R s =>
      s.heap.get? p = some { cls := .type "list", dict := dp, data := .seq xs m, slots := sp } ∧ s.heap.get? q = some { cls := .type "list", dict := dq, data := .seq ys n, slots := sq } ∧
      (∀ j (h1 : j < xs.size) (h2 : j < ys.size), EqP P w A.in1 s xs[j] ys[j] true) ∧ R (.ok (.ret (.bool false))) s) := by
  intro k
  induction k with
  | zero =>
    intro i hk A R s hyp
    obtain ⟨heap, gens, dd, toks, os⟩ := s
    obtain ⟨gp, gq, items, fin⟩ := hyp
    wp_walk using wpAny_loadPart' gp, wpAny_loadPart' gq
    have nx : xs[((i : Nat) : Int).toNat]? = none := by simp; omega
    have ny : ys[((i : Nat) : Int).toNat]? = none := by simp; omega
    rw [nx, ny]
    wp_walk using wpAny_loadPart' gp, wpAny_loadPart' gq
    show R (.ok (.ret (.bool (xs.size != ys.size)))) _
    rw [hz]
    simpa using fin
  | succ k ih =>
    intro i hk A R s hyp
    obtain ⟨heap, gens, dd, toks, os⟩ := s
    obtain ⟨gp, gq, items, fin⟩ := hyp
    wp_walk using wpAny_loadPart' gp, wpAny_loadPart' gq
    have ix : i < xs.size := by omega
    have iy : i < ys.size := by omega
    rw [show xs[((i : Nat) : Int).toNat]? = some xs[i] from by simp [ix], show ys[((i : Nat) : Int).toNat]? = some ys[i] from by simp [iy]]
    refine wpAny_bind (items i ix iy _ _ ?_)
    wp_walk
    rw [show ((i : Int) + 1) = ((i + 1 : Nat) : Int) from by push_cast; rfl]
    refine ⟨plainId_quiet plain_eq_loop _, codeAny_builtin entry_eq_loop ?_⟩
    rw [Around.under_plainId plain_eq_loop _]
    exact ih (i + 1) (by omega) A R _ ⟨gp, gq, items, fin⟩
theorem ne_whole {p q : Addr} {xs ys : Array Value} {m n : Nat} {dp dq : Option Addr} {sp sq : Array (Option Value)} (hz : xs.size = ys.size) :
    MeetsIn P w (Builtin.«list.__ne__» ⟨[.ref p, .ref q], []⟩) (fun A R s =>
      s.heap.get? p = some { cls := .type "list", dict := dp, data := .seq xs m, slots := sp } ∧ s.heap.get? q = some { cls := .type "list", dict := dq, data := .seq ys n, slots := sq } ∧
      (∀ j (h1 : j < xs.size) (h2 : j < ys.size), EqP P w A.in1 s xs[j] ys[j] true) ∧ R (.ok (.ret (.bool false))) s) := by
  intro A R s hyp
  obtain ⟨heap, gens, dd, toks, os⟩ := s
  obtain ⟨gp, gq, items, fin⟩ := hyp
  have sub := AutoSeq1.sub_list_list
  have no : ¬ (xs.size != ys.size) = true := by simp [hz]
  wp_walk using wpAny_loadPart' gp, wpAny_loadPart' gq
  refine ⟨plainId_quiet plain_eq_loop _, codeAny_builtin entry_eq_loop ?_⟩
  rw [Around.under_plainId plain_eq_loop _]
  exact ne_turns hz _ 0 rfl A R _ ⟨gp, gq, items, fin⟩
theorem ne_lists {A : Around} {s : Shared} {p q : Addr} {xs ys : Array Value} (hp : s.heap.IsList p xs) (hq : s.heap.IsList q ys) (hz : xs.size = ys.size) (hu : A.units < cLine)
    (items : ∀ j (h1 : j < xs.size) (h2 : j < ys.size), EqP P w A.in1 s xs[j] ys[j] true) {E Q : Value → Shared → Prop} (fin : Q (.bool false) s) : wpAny (model P w) A (richCompare .NotEq (.ref p) (.ref q)) Q E s := by
  obtain ⟨⟨cp, dp, datp, slp⟩, gp, ep, m, fp⟩ := id hp
  obtain ⟨⟨cq, dq, datq, slq⟩, gq, eq, n, fq⟩ := id hq
  simp only at ep fp eq fq
  subst ep fp eq fq
  have tp : s.TypeIs (.ref p) "list" := ⟨_, gp, rfl⟩
  have tq : s.TypeIs (.ref q) "list" := ⟨_, gq, rfl⟩
  refine wpAny_richCompare_same_room (op := .NotEq) tp tq F.slot_list_ne (call_meetsIn F.slot_list_ne tp F.entry_list_ne (F.args_list_ne_2 _ _) (ne_whole hz) ⟨gp, gq, items, ?_⟩) hu
  exact ⟨(fun z => nomatch z), fin⟩
end
end V0
namespace V0
open PySem PySem.Spec PyProof.Rows L2
/-- equal items: data without dicts, or bags -/
def EqI (K : PySem.W.Frag) (H : Hp) (x y : V) : Prop := (∃ d, Dp K H x d ∧ Dp K H y d ∧ SeqAt.shaped d = true ∧ PyData.eqv d d = true) ∨ ∃ (a b : Addr) (ps : Bag), x = .ref a ∧ y = .ref b ∧ a ≠ b ∧ H a = some (.dK (kvs ps)) ∧ H b = some (.dK (kvs ps)) ∧ (nms ps).Nodup
section
variable {X : Cx} {pins : List (Addr × Obj)} {σ : L2.St} {H : Hp} {s : Shared}
theorem eqI_run (I : Inv X pins σ H s) {A : Around} (hu : A.units + 64 < cLine) : ∀ (x y : V) (v u : Value), EqI X.K H x y → RelV x v → RelV y u → SeqAt.EqP X.prog X.w A s v u true := by
  rintro x y v u (⟨d, h1, h2, h3, h4⟩ | ⟨a, b, ps, rfl, rfl, hab, h1, h2, nd⟩) rx ry
  · obtain ⟨as, r1⟩ := Dp.reads I d x v h1 rx
    obtain ⟨bs, r2⟩ := Dp.reads I d y u h2 ry
    have q := SeqAt.eqAt_reads d d A s v u as bs r1 r2 (SeqAt.canLay_of_shaped h3) (SeqAt.canLay_of_shaped h3) (SeqAt.room_of_shaped h3 hu)
    rw [h4] at q
    exact q.eqP
  · cases (show v = Value.ref a from rx)
    cases (show u = Value.ref b from ry)
    refine SeqAt.eqP_refs hab fun E Q q => ?_
    obtain ⟨_, ya, va, ra, da⟩ := (show ObjOk X.prog X.w H s.heap a (.dK (kvs ps)) from I.hok a _ h1)
    obtain ⟨_, yb, vb, rb, db⟩ := (show ObjOk X.prog X.w H s.heap b (.dK (kvs ps)) from I.hok b _ h2)
    have hits := hits_bag (A := A.in1) (s := s) (qs := ps) rb ra
    have e := eqBg_self nd
    unfold eqBg at e
    rw [decide_eq_true rfl, Bool.true_and] at e
    rw [e] at hits
    refine PySem.W.keq_eq (knd := mixKind X.prog X.w) ya yb da db (by omega) (fun _ => hits) ?_
    rw [show (va.length == vb.length && true) = true from by rw [← ra.length, ← rb.length]; simp]
    exact q
def rNeI (K : PySem.W.Frag) (neg : Bool) : R2 := fun x y H Q => ∃ (a b : Addr) (xs ys : List V), x = .ref a ∧ y = .ref b ∧ SqL K H a xs ∧ SqL K H b ys ∧ Paired (EqI K H) xs ys ∧ Q (.bl (!neg)) H
theorem op_neI (hu : X.A.units + 70 < cLine) : OpR X (compareOp .NotEq) (rNeI X.K true) := by
  intro pins s σ H x y v u Q I rx ry h
  obtain ⟨a, b, xs, ys, rfl, rfl, ha, hb, hp, q⟩ := h
  cases (show v = Value.ref a from rx)
  cases (show u = Value.ref b from ry)
  obtain ⟨us, r1, p1, _⟩ := I.list ha
  obtain ⟨ws, r2, p2, _⟩ := I.list hb
  have hsz : us.toArray.size = ws.toArray.size := by
    rw [List.size_toArray, List.size_toArray, ← r1.length, ← r2.length]
    exact Paired.length hp
  refine ne_lists (P := X.prog) (w := X.w) p1.isList p2.isList hsz (by omega) (fun j h1 h2 => ?_) ⟨.bl false, H, I, rfl, q⟩
  have k := items_run (eqI_run I (A := X.A.in1) (by show X.A.units + 1 + 64 < cLine; omega)) hp r1 r2 j (by simpa using h1) (by simpa using h2)
  simpa using k
theorem op_eqI (hu : X.A.units + 70 < cLine) : OpR X (compareOp .Eq) (rNeI X.K false) := by
  intro pins s σ H x y v u Q I rx ry h
  obtain ⟨a, b, xs, ys, rfl, rfl, ha, hb, hp, q⟩ := h
  cases (show v = Value.ref a from rx)
  cases (show u = Value.ref b from ry)
  obtain ⟨us, r1, p1, _⟩ := I.list ha
  obtain ⟨ws, r2, p2, _⟩ := I.list hb
  have hsz : us.toArray.size = ws.toArray.size := by
    rw [List.size_toArray, List.size_toArray, ← r1.length, ← r2.length]
    exact Paired.length hp
  refine SeqAt.rcP_lists (prog := X.prog) (w := X.w) (e := fun _ => true) p1.isList p2.isList hsz (by omega) (fun j h1 h2 => ?_) _ _ ?_
  · have k := items_run (eqI_run I (A := X.A.in1) (by show X.A.units + 1 + 64 < cLine; omega)) hp r1 r2 j (by simpa using h1) (by simpa using h2)
    simpa using k
  · rw [show ((List.range us.toArray.size).all fun _ => true) = true from List.all_eq_true.mpr fun _ _ => rfl]
    exact ⟨.bl true, H, I, rfl, q⟩
end
end V0

namespace V0
open PySem PySem.Spec PyProof.Rows L2
theorem Room.units70 {k : Nat} {A : Around} (r : Room k A) : A.units + 70 < cLine := by have := r.un; omega
/-- what the text says of the class -/
structure Cls8 (K : PySem.W.Frag) (mg : Str → Option Value) (C : Addr) (ad : Nat → Addr) (fdd : Nat → FuncData) : Prop where
  KCharge : Kls K mg "Charge" C
  N : ChN K C
  gi : ∀ g, PySem.W.findIn K (.ref C) "__getitem__" = some (some (.ref g)) → PySem.W.fnIn K g = true
  Y_init : ChK K C (ad 0) (fdd 0) s_Charge_init P_Charge_init
  Y1 : Pr K "Charge.things" "things" C s_Charge_things P_Charge_things (ad 20) (ad 1) (fdd 1)
  Y2 : Pr K "Charge.unit" "unit" C s_Charge_unit P_Charge_unit (ad 21) (ad 2) (fdd 2)
  Y3 : Pr K "Charge.pays" "pays" C s_Charge_pays P_Charge_pays (ad 22) (ad 3) (fdd 3)
  Y4 : Pr K "Charge.total" "total" C s_Charge_total P_Charge_total (ad 23) (ad 4) (fdd 4)
  Y5 : Md K "Charge.of" "of" C s_Charge_of P_Charge_of (ad 5) (fdd 5)
  Y6 : Md K "Charge.cut" "cut" C s_Charge_cut P_Charge_cut (ad 6) (fdd 6)
  Y7 : Md K "Charge.__len__" "__len__" C s_Charge_len P_Charge_len (ad 7) (fdd 7)
  Y8 : Md K "Charge.__str__" "__str__" C s_Charge_str P_Charge_str (ad 8) (fdd 8)
  Y9 : Md K "Charge.__iter__" "__iter__" C s_Charge_iter P_Charge_iter (ad 9) (fdd 9)
  Y10 : Md K "Charge.__getitem__" "__getitem__" C s_Charge_getitem P_Charge_getitem (ad 10) (fdd 10)
  Y11 : Md K "Charge.__contains__" "__contains__" C s_Charge_contains P_Charge_contains (ad 11) (fdd 11)
  Y12 : Md K "Charge.__eq__" "__eq__" C s_Charge_eq P_Charge_eq (ad 12) (fdd 12)
  Y13 : Md K "Charge._check_group" "_check_group" C s_Chargecheck_group P_Chargecheck_group (ad 13) (fdd 13)
  Y14 : Md K "Charge._sum" "_sum" C s_Chargesum P_Chargesum (ad 14) (fdd 14)
/-- all that the text says of itself -/
structure All8 (K : PySem.W.Frag) (mg : Str → Option Value) (C : Addr) (ad : Nat → Addr) (fdd : Nat → FuncData) (bd : Nat → Addr) (bdd : Nat → FuncData) : Prop extends Cls8 K mg C ad fdd where
  B : Bl mg
  M : Bm mg
  CN : Nm mg
  D30 : Df K mg "is_whole" s_is_whole P_is_whole (bd 0) (bdd 0)
  D31 : Df K mg "is_integer" s_is_integer P_is_integer (bd 1) (bdd 1)
  D32 : Df K mg "is_name" s_is_name P_is_name (bd 2) (bdd 2)
  D33 : Df K mg "reduced" s_reduced P_reduced (bd 3) (bdd 3)
  D34 : Df K mg "integer_text" s_integer_text P_integer_text (bd 4) (bdd 4)
  D35 : Df K mg "fraction_text" s_fraction_text P_fraction_text (bd 5) (bdd 5)
  D36 : Df K mg "is_group_of" s_is_group_of P_is_group_of (bd 6) (bdd 6)
  D37 : Df K mg "charge_over" s_charge_over P_charge_over (bd 7) (bdd 7)
  D38 : Df K mg "_are_pays" s__are_pays P__are_pays (bd 8) (bdd 8)
  D39 : Df K mg "_shared_divisor" s__shared_divisor P__shared_divisor (bd 9) (bdd 9)
  D40 : Df K mg "_law_pot" s_pot P_pot (bd 10) (bdd 10)
  D41 : Df K mg "_law_stir" s_stir P_stir (bd 11) (bdd 11)
  D42 : Df K mg "_law_one_of" s_one_of P_one_of (bd 12) (bdd 12)
  D43 : Df K mg "_law_shuffled" s_shuffled P_shuffled (bd 13) (bdd 13)
  D44 : Df K mg "_law_words" s_words P_words (bd 14) (bdd 14)
  D45 : Df K mg "_law_number" s_number P_number (bd 15) (bdd 15)
  D46 : Df K mg "_law_sums" s_sums P_sums (bd 16) (bdd 16)
  D47 : Df K mg "_law_made_charge" s_made_charge P_made_charge (bd 17) (bdd 17)
  D48 : Df K mg "_law_low" s_low P_low (bd 18) (bdd 18)
  D49 : Df K mg "_law_paid" s_paid P_paid (bd 19) (bdd 19)
  D50 : Df K mg "_law_common" s_common P_common (bd 20) (bdd 20)
  D51 : Df K mg "_law_fraction_text" s_lfraction_text P_lfraction_text (bd 21) (bdd 21)
  D52 : Df K mg "_law_told_charge" s_told_charge P_told_charge (bd 22) (bdd 22)
  D53 : Df K mg "_law_is_told" s_is_told P_is_told (bd 23) (bdd 23)
  D54 : Df K mg "_law_groups_right" s_groups_right P_groups_right (bd 24) (bdd 24)
  D55 : Df K mg "_law_right" s_right P_right (bd 25) (bdd 25)
section
variable {P : Program} {w : World} {K : PySem.W.Frag} {mg : Str → Option Value} {base : Heap} {C : Addr} {ad : Nat → Addr} {fdd : Nat → FuncData} {bd : Nat → Addr} {bdd : Nat → FuncData}
theorem All8.own (Z : All8 K mg C ad fdd bd bdd) : Own P w K mg base C ad fdd :=
  ⟨Z.B, Z.M, Z.KCharge, Z.N, ⟨Z.gi, Z.KCharge.ne, Z.KCharge.hm⟩, Z.Y_init, ok_init Z.B Z.M Z.CN Z.KCharge Z.N Z.D30 Z.D31 Z.D32 Z.D38 Z.D39 Z.Y_init,
    Z.Y1, ok_things Z.KCharge Z.N Z.Y1, Z.Y2, ok_unit Z.KCharge Z.N Z.Y2, Z.Y3, ok_pays Z.KCharge Z.N Z.Y3, Z.Y4, ok_total Z.B Z.CN Z.KCharge Z.N Z.D33 Z.Y14 Z.Y4,
    Z.Y5, ok_of Z.B Z.M Z.CN Z.KCharge Z.N Z.D33 Z.Y14 Z.D36 Z.Y13 Z.Y5, Z.Y6, ok_cut Z.B Z.M Z.CN Z.KCharge Z.N Z.D30 Z.D31 Z.D32 Z.D38 Z.D39 Z.Y_init Z.D37 Z.D36 Z.Y13 Z.Y6,
    md_own Z.Y7 (ok_len Z.B Z.KCharge Z.N Z.Y7), md_own Z.Y8 (ok_text Z.B Z.CN Z.KCharge Z.N Z.D33 Z.D34 Z.D35 Z.Y8), ok_iter Z.M Z.KCharge Z.N Z.Y9,
    md_own Z.Y10 (ok_item Z.B Z.CN Z.KCharge Z.N Z.D33 Z.Y11 Z.Y10), md_own Z.Y11 (ok_cont Z.B Z.KCharge Z.N Z.Y11), md_own Z.Y12 (ok_eq Z.B Z.KCharge Z.N Z.Y12)⟩
/-! ### the law's own two charges -/
def sa : Str := Str.ofString "a"
def sb : Str := Str.ofString "b"
def sc : Str := Str.ofString "c"
def sx : Str := Str.ofString "x"
def sy : Str := Str.ofString "y"
def halfQ : Bag := [(sc, 4), (sa, 2), (sb, 2)]
def halfB : Bag := [(sa, 1), (sb, 1), (sc, 2)]
def noneQ : Bag := [(sx, 0), (sy, 0)]
theorem half_is : chB [sa, sb, sc] halfQ 4 = halfB ∧ nfU 4 halfQ = 2 ∧ sortedS [sa, sb, sc] = true ∧ (nms halfQ).isPerm [sa, sb, sc] = true := by decide +kernel
theorem half_text : chText halfB 2 = Str.ofString "a 1/2, b 1/2, c 1" := by decide +kernel
theorem half_cut : chB [sc] (bagOf (look halfB) [sc]) 2 = [(sc, 1)] ∧ nfU 2 (bagOf (look halfB) [sc]) = 1 ∧ sortedS [sc] = true ∧ chText [(sc, 1)] 1 = Str.ofString "c 1" := by decide +kernel
theorem none_is : chB [sx, sy] noneQ 7 = noneQ ∧ nfU 7 noneQ = 1 ∧ sortedS [sx, sy] = true ∧ chText noneQ 1 = Str.ofString "x 0, y 0" := by decide +kernel
theorem small_nm : ∀ z ∈ [sa, sb, sc, sx, sy], nameB (.str z) = true ∧ z.length ≤ 8 := by decide +kernel
theorem small_nd : (nms halfQ).Nodup ∧ (nms halfB).Nodup ∧ (nms noneQ).Nodup := by decide +kernel
theorem half_nums : look halfB sc / fg (look halfB sc) 2 = 1 ∧ 2 / fg (look halfB sc) 2 = (1 : Int) ∧ sumB halfB (nms halfB) / fg (sumB halfB (nms halfB)) 2 = 2 ∧ 2 / fg (sumB halfB (nms halfB)) 2 = (1 : Int) ∧
    sumB halfB [sa, sb] / fg (sumB halfB [sa, sb]) 2 = 1 ∧ 2 / fg (sumB halfB [sa, sb]) 2 = (1 : Int) ∧ sumB noneQ (nms noneQ) / fg (sumB noneQ (nms noneQ)) 1 = 0 ∧ 1 / fg (sumB noneQ (nms noneQ)) 1 = (1 : Int) := by decide +kernel
theorem ab_asc : [sa, sb].Pairwise (fun a b => a.cps.toList < b.cps.toList) ∧ [sc].Pairwise (fun a b => a.cps.toList < b.cps.toList) := by decide +kernel
end
end V0

namespace V0
open PySem PySem.Spec PyProof.Rows L2
theorem eqv_int (i : Int) : PyData.eqv (.int i) (.int i) = true := by simp [PyData.eqv]
theorem eqv_str (z : Str) : PyData.eqv (.str z) (.str z) = true := by simp [PyData.eqv]
theorem eqi_int {K : PySem.W.Frag} {H : Hp} (i : Int) : EqI K H (.int i) (.int i) := .inl ⟨_, .int i, .int i, rfl, eqv_int i⟩
theorem eqi_str {K : PySem.W.Frag} {H : Hp} {z : Str} (h : PyData.strOk z = true) : EqI K H (.str z) (.str z) := .inl ⟨_, .str z, .str z, by
  show (PyData.strOk z && decide (0 ≤ 64)) = true
  rw [h]
  rfl, eqv_str z⟩
theorem eqi_pair {K : PySem.W.Frag} {H : Hp} {a b : Addr} {i j : Int} (h1 : H a = some (.tup [.int i, .int j])) (h2 : H b = some (.tup [.int i, .int j])) : EqI K H (.ref a) (.ref b) := .inl ⟨_, dp_pair h1, dp_pair h2, sh_pair i j, eqv_pair i j⟩
theorem eqi_bag {K : PySem.W.Frag} {H : Hp} {a b : Addr} {ps : Bag} (nd : (nms ps).Nodup) (hab : a ≠ b) (h1 : H a = some (.dK (kvs ps))) (h2 : H b = some (.dK (kvs ps))) : EqI K H (.ref a) (.ref b) := .inr ⟨a, b, ps, rfl, rfl, hab, h1, h2, nd⟩
section
variable {P : Program} {w : World} {K : PySem.W.Frag} {mg : Str → Option Value} {base : Heap} {C : Addr} {ad : Nat → Addr} {fdd : Nat → FuncData} {bd : Nat → Addr} {bdd : Nat → FuncData}
abbrev s_law : Stmt := top 47
abbrev N_law : List Str := ["_law_script", "_law_at", "_law_half", "_law_told", "_law_none"]
abbrev P_law : List Str := ["_law_script"]
theorem sc_law : FnScope N_law P_law (defScope s_law) := ⟨rfl, rfl, rfl, by decide +kernel, rfl, by decide +kernel, by decide +kernel⟩
theorem law_body (Z : All8 K mg C ad fdd bd bdd) {f : Addr} {cdv : Value} {A : Around} {outer : List Env} {s : Shared} {H : Hp} {Q : VK} (hgd0 : A.guards = some []) {a : Addr} {ns : List Int}
    (hr : Room 12 (A.deeper (envOfC "law" (defScope s_law) s.heap.objs.size f cdv))) (hS : SqL K H a (ns.map V.int)) (hlen : ns.length ≤ 63) (k : ∀ H', Q (.bl true) H') :
    ∃ t, PSs (cxOf CX0 P w K mg base N_law "law" (defScope s_law) f cdv A outer s H E0).nox (defBody s_law) t ∧ t { nx := fun _ H' => Q .non H', rt := Q } (L2.start N_law [.ref a]) H := by
  have O : Own P w K mg base C ad fdd := Z.own
  obtain ⟨B, M, KCharge, N, NX, Y_init, G_init, Y_Charge_things, G_Charge_things, Y_Charge_unit, G_Charge_unit, Y_Charge_pays, G_Charge_pays, Y_Charge_total, G_Charge_total, Y_Charge_of, G_Charge_of, Y_Charge_cut, G_Charge_cut, O_len, O_str, O_iter, O_item, O_cont, O_eq⟩ := id O
  have hgd : (cxOf CX0 P w K mg base N_law "law" (defScope s_law) f cdv A outer s H E0).nox.A.guards = some [] := hgd0
  have D_pot := Z.D40
  have D_right := Z.D55
  have G_pot : FnOk P w K mg base CX0 1 _ _ P_pot (spPot K) := ok_pot B Z.D40
  have G_right : FnG P w K mg base 10 _ _ P_right spRight := ok_right O Z.D48 Z.D50 Z.D51 Z.D53 Z.D41 Z.D49 Z.D54 Z.D42 Z.D43 Z.D44 Z.D45 Z.D46 Z.D47 Z.D52 Z.D55
  refine ⟨_, (pss_cons (ps_for PassesOwn.never rfl (pi_range1 rfl B.b_range (pa_cons (pe_callB (call_max2 rfl) (by rfl) B.b_max (by decide +kernel) (pa_cons pe_int (pa_cons (pe_callB (call_min2 rfl) (by rfl) B.b_min (by decide +kernel) (pa_cons pe_int (pa_cons (pe_callB call_len (by rfl) B.b_len (by decide +kernel) (pa_cons (pv 0) pa_nil)) pa_nil))) pa_nil))) pa_nil)) (pg_name (i := 1) sc_law.nd rfl (Or.inl rfl)) (pss_one (ps_if (pt_not (pt_val (pe_callG G_right hgd (hr.mono (by decide)) (by rfl) D_right.g D_right.F.kp D_right.b (pa_cons (pe_call G_pot (hr.mono (by decide)) (by rfl) D_pot.g D_pot.F.kp D_pot.b .nil pass0 (pa_cons (pv 0) (pa_cons (pv 1) pa_nil))) pa_nil)))) (pss_one (ps_ret pe_bl)) pss_nil)))
      (pss_cons (ps_set (i := 2) sc_law.nd rfl (Or.inl rfl) (pe_makeK Y_init.mkC G_init (hr.mono (by decide)) (by rfl) KCharge.g Y_init.bk pass0 (pa_cons (pe_disp (pps_cons pe_str pe_int (pps_cons pe_str pe_int (pps_cons pe_str pe_int pps_nil))) (by rfl) (by rfl) (fun z => by cases z) (by decide)) pa_nil) (pk_cons pe_int pk_nil)))
      (pss_cons (ps_set (i := 3) sc_law.nd rfl (Or.inl rfl) (pe_lst (pa_cons (pe_callTy (call_strO O_str (hr.mono (by decide)) pass0) (by rfl) B.b_str (by decide +kernel) (pa_cons (pv 2) pa_nil)) (pa_cons (pe_ixO O_item NX.gi (hr.mono (by decide)) pass0 (pv 2) pe_str) (pa_cons (pe_prop (pv 2) KCharge.cl Y_Charge_unit.pr G_Charge_unit (hr.mono (by decide)) Y_Charge_unit.b .nil pass0 rfl) (pa_cons (pe_prop (pv 2) KCharge.cl Y_Charge_pays.pr G_Charge_pays (hr.mono (by decide)) Y_Charge_pays.b .nil pass0 rfl) (pa_cons (pe_prop (pv 2) KCharge.cl Y_Charge_total.pr G_Charge_total (hr.mono (by decide)) Y_Charge_total.b .nil pass0 rfl) (pa_cons (pe_meth (pv 2) KCharge.cl Y_Charge_of.m G_Charge_of (hr.mono (by decide)) Y_Charge_of.b .nil pass0 (pa_cons (pe_tup (pa_cons pe_str (pa_cons pe_str pa_nil))) pa_nil)) (pa_cons (pe_callTy (call_strO O_str (hr.mono (by decide)) pass0) (by rfl) B.b_str (by decide +kernel) (pa_cons (pe_meth (pv 2) KCharge.cl Y_Charge_cut.m G_Charge_cut (hr.mono (by decide)) Y_Charge_cut.b .nil pass0 (pa_cons (pe_tup (pa_cons pe_str pa_nil)) pa_nil)) pa_nil)) pa_nil)))))))))
      (pss_cons (ps_if (pt_cmpR (op_neI (Room.units70 hr)) (pv 3) (pe_lst (pa_cons pe_str (pa_cons (pe_tup (pa_cons pe_int (pa_cons pe_int pa_nil))) (pa_cons pe_int (pa_cons (pe_disp (pps_cons pe_str pe_int (pps_cons pe_str pe_int (pps_cons pe_str pe_int pps_nil))) (by rfl) (by rfl) (fun z => by cases z) (by decide)) (pa_cons (pe_tup (pa_cons pe_int (pa_cons pe_int pa_nil))) (pa_cons (pe_tup (pa_cons pe_int (pa_cons pe_int pa_nil))) (pa_cons pe_str pa_nil)))))))) (nomark _)) (pss_one (ps_ret pe_bl)) pss_nil)
      (pss_cons (ps_set (i := 4) sc_law.nd rfl (Or.inl rfl) (pe_makeK Y_init.mkC G_init (hr.mono (by decide)) (by rfl) KCharge.g Y_init.bk pass0 (pa_cons (pe_disp (pps_cons pe_str pe_int (pps_cons pe_str pe_int pps_nil)) (by rfl) (by rfl) (fun z => by cases z) (by decide)) pa_nil) (pk_cons pe_int pk_nil)))
      (pss_one (ps_ret (pe_cmpR (op_eqI (Room.units70 hr)) (pe_lst (pa_cons (pe_prop (pv 4) KCharge.cl Y_Charge_unit.pr G_Charge_unit (hr.mono (by decide)) Y_Charge_unit.b .nil pass0 rfl) (pa_cons (pe_prop (pv 4) KCharge.cl Y_Charge_pays.pr G_Charge_pays (hr.mono (by decide)) Y_Charge_pays.b .nil pass0 rfl) (pa_cons (pe_callTy (call_strO O_str (hr.mono (by decide)) pass0) (by rfl) B.b_str (by decide +kernel) (pa_cons (pv 4) pa_nil)) (pa_cons (pe_prop (pv 4) KCharge.cl Y_Charge_total.pr G_Charge_total (hr.mono (by decide)) Y_Charge_total.b .nil pass0 rfl) pa_nil))))) (pe_lst (pa_cons pe_int (pa_cons (pe_disp (pps_cons pe_str pe_int (pps_cons pe_str pe_int pps_nil)) (by rfl) (by rfl) (fun z => by cases z) (by decide)) (pa_cons pe_str (pa_cons (pe_tup (pa_cons pe_int (pa_cons pe_int pa_nil))) pa_nil))))) (nomark _))))))))), ?_⟩
  -- how many turns
  refine ⟨_, rfl, _, (ns.map V.int).length, rfl, .inl ⟨_, hS, rfl⟩, _, _, rfl, _, _, rfl, ?_⟩
  have hll : (ns.map V.int).length = ns.length := List.length_map _
  generalize hj : (if (if ((ns.map V.int).length : Int) < 10 then ((ns.map V.int).length : Int) else 10) > 1 then (if ((ns.map V.int).length : Int) < 10 then ((ns.map V.int).length : Int) else 10) else 1) = j
  have j0 : 1 ≤ j := by rw [← hj]; split <;> omega
  have j1 : j ≤ 10 := by rw [← hj]; split <;> (try split) <;> omega
  refine ⟨j, rfl, by omega, by omega, ?_⟩
  refine for_it walk_range (fun i σ H' => Same H H' ∧ ∃ x1 x2 x3 x4 : Option V, σ = [some (.ref a), x1, x2, x3, x4]) ⟨Same.refl H, _, _, _, _, rfl⟩ (fun _ _ _ _ _ => trivial) ?_ ?_
  · rintro i y σ H0 H0' hi ⟨s0, x1, x2, x3, x4, rfl⟩ ⟨rfl, rfl⟩
    refine ⟨_, rfl, _, rfl, a, ns, i, by show [V.ref a, V.int ((0 : Int) + i)] = _; rw [Int.zero_add], Same.seq s0 hS, by omega, by omega, fun p H1 hpn hp1 s1 => ?_⟩
    refine ⟨p, rfl, hp1, fun H2 p2 b2 => ⟨_, rfl, ite2 (fun z => by cases z) (fun _ => ?_)⟩⟩
    exact ⟨fun b o e => b2 _ _ (s1 _ _ (s0 _ _ e)) (ne_of_none (s0 _ _ e) hpn), _, _, _, _, rfl⟩
  rintro σ H1 ⟨s1, x1, x2, x3, x4, rfl⟩
  -- a charge of halves
  refine fun d hd => ?_
  refine ⟨upd_same, kvs halfQ, rfl, by decide, ?_⟩
  rw [upd_upd, mergeK_nil (kvs_nd small_nd.1)]
  have s2 := Same.new (o := .dK (kvs halfQ)) hd
  have e2 : (upd H1 d (.dK (kvs halfQ))) d = some (.dK (kvs halfQ)) := upd_same
  have s2 := Same.trans s1 s2
  generalize upd H1 d (.dK (kvs halfQ)) = H2 at s2 e2
  refine ⟨rfl, rfl, fun x dx hx hdx hdd => ?_⟩
  have nm5 := small_nm
  have hq : ∀ z ∈ nms halfQ, z ∈ [sa, sb, sc, sx, sy] := by decide +kernel
  refine ⟨x, dx, d, halfQ, 4, rfl, upd_same, ?_, ⟨small_nd.1, fun z hz => nm5 z (hq z hz), by decide +kernel, by decide, by decide⟩, by decide, by decide +kernel, fun zs H3 sd bt hc => ⟨rfl, ?_⟩⟩
  · rw [upd_ne (ne_of_none e2 hx), upd_ne (ne_of_none e2 hdx)]
    exact e2
  have ez : zs = [sa, sb, sc] := sorted_one (sd.pm.trans (List.isPerm_iff.mp half_is.2.2.2)) sd.ord half_is.2.2.1
  rw [ez, half_is.1, half_is.2.1] at hc
  have s3 := made_same hx hdx bt
  have nb : ∀ q ∈ halfB, q.2.natAbs < 10 ^ 64 ∧ q.1.length ≤ 8 := by decide +kernel
  obtain ⟨dx3, tt, dd, c1, c2, c3⟩ := id hc
  -- what is told of it
  refine ⟨_, rfl, x, dx3, _, rfl, c1, x, _, _, rfl, hc, by decide, by decide +kernel, small_nd.2.1, nb, by decide, fun H4 s4 => ⟨_, rfl, ?_⟩⟩
  have hc4 := hc.same s4
  refine ⟨_, rfl, x, dx3, _, rfl, s4 _ _ c1, x, _, _, sc, rfl, hc4, by decide, by decide +kernel, by decide +kernel, fun p1 hp1 => ?_⟩
  rw [half_nums.1, half_nums.2.1]
  have s5 := Same.new (o := .tup [.int 1, .int 1]) hp1
  have e5 : (upd H4 p1 (.tup [.int 1, .int 1])) p1 = some (.tup [.int 1, .int 1]) := upd_same
  have s5 := s4.trans s5
  generalize upd H4 p1 (.tup [.int 1, .int 1]) = H5 at s5 e5
  refine ⟨_, rfl, x, dx3, _, rfl, s5 _ _ c1, x, dx3, tt, dd, _, rfl, s5 _ _ c1, ?_⟩
  refine ⟨_, rfl, x, dx3, _, rfl, s5 _ _ c1, x, _, _, rfl, hc.same s5, small_nd.2.1, by decide, fun pp hpp => ?_⟩
  have s6 := Same.new (o := .dK (kvs halfB)) hpp
  have e6 : (upd H5 pp (.dK (kvs halfB))) pp = some (.dK (kvs halfB)) := upd_same
  have e5 := s6 _ _ e5
  have s6 := s5.trans s6
  generalize upd H5 pp (.dK (kvs halfB)) = H6 at s6 e6 e5
  refine ⟨_, rfl, x, dx3, _, rfl, s6 _ _ c1, x, _, _, rfl, hc.same s6, by decide, by decide +kernel, by decide, fun pt H7 s7 _ e7 => ?_⟩
  rw [half_nums.2.2.1, half_nums.2.2.2.1] at e7
  have e6 := s7 _ _ e6
  have e5 := s7 _ _ e5
  have s7 := s6.trans s7
  refine ⟨_, rfl, x, dx3, _, rfl, s7 _ _ c1, rfl, by show 2 ≤ sizeLine; decide, fun t2 ht2 => ?_⟩
  have s8 := Same.new (o := .tup ([sa, sb].map V.str)) ht2
  have e8 : (upd H7 t2 (.tup ([sa, sb].map V.str))) t2 = some (tupS [sa, sb]) := upd_same
  have e7 := s8 _ _ e7
  have e6 := s8 _ _ e6
  have e5 := s8 _ _ e5
  have s8 := s7.trans s8
  refine ⟨x, t2, _, _, [sa, sb], rfl, hc.same s8, by decide, by decide +kernel, e8, ⟨by decide +kernel, ab_asc.1, by decide⟩, fun p9 H9 s9 _ e9 => ?_⟩
  rw [half_nums.2.2.2.2.1, half_nums.2.2.2.2.2.1] at e9
  have e7 := s9 _ _ e7
  have e6 := s9 _ _ e6
  have e5 := s9 _ _ e5
  have s9 := s8.trans s9
  clear e8 s8 s7 s6 s5 s4 hc4
  refine ⟨_, rfl, x, dx3, _, rfl, s9 _ _ c1, rfl, by show 1 ≤ sizeLine; decide, fun t3 ht3 => ?_⟩
  have s10 := Same.new (o := .tup ([sc].map V.str)) ht3
  have e10 : (upd H9 t3 (.tup ([sc].map V.str))) t3 = some (tupS [sc]) := upd_same
  have e9 := s10 _ _ e9
  have e7 := s10 _ _ e7
  have e6 := s10 _ _ e6
  have e5 := s10 _ _ e5
  have s10 := s9.trans s10
  refine ⟨x, t3, _, _, [sc], rfl, hc.same s10, by decide, by decide +kernel, e10, ⟨by decide +kernel, ab_asc.2, by decide⟩, by decide, by decide, by decide +kernel, fun xc zs H11 sd s11 hx11 hc11 => ?_⟩
  have ez : zs = [sc] := sorted_one (sd.pm.trans (by rw [bagOf_nms])) sd.ord half_cut.2.2.1
  rw [ez, half_cut.1, half_cut.2.1] at hc11
  obtain ⟨dxc, tc, ddc, k1, k2, k3⟩ := id hc11
  have e9 := s11 _ _ e9
  have e7 := s11 _ _ e7
  have e6 := s11 _ _ e6
  have e5 := s11 _ _ e5
  refine ⟨xc, dxc, _, rfl, k1, xc, _, _, rfl, hc11, by decide, by decide +kernel, by decide +kernel, by decide +kernel, by decide, fun H12 s12 => ⟨_, rfl, by show 7 ≤ sizeLine; decide, fun lt hlt => ?_⟩⟩
  rw [half_text, half_cut.2.2.2]
  have s13 := Same.new (o := .lst [.str (Str.ofString "a 1/2, b 1/2, c 1"), .ref p1, .int 2, .ref pp, .ref pt, .ref p9, .str (Str.ofString "c 1")]) hlt
  have e13 : (upd H12 lt (.lst [.str (Str.ofString "a 1/2, b 1/2, c 1"), .ref p1, .int 2, .ref pp, .ref pt, .ref p9, .str (Str.ofString "c 1")])) lt = some (.lst [.str (Str.ofString "a 1/2, b 1/2, c 1"), .ref p1, .int 2, .ref pp, .ref pt, .ref p9, .str (Str.ofString "c 1")]) := upd_same
  have e9 := s13 _ _ (s12 _ _ e9)
  have e7 := s13 _ _ (s12 _ _ e7)
  have e6 := s13 _ _ (s12 _ _ e6)
  have e5 := s13 _ _ (s12 _ _ e5)
  generalize upd H12 lt (.lst [.str (Str.ofString "a 1/2, b 1/2, c 1"), .ref p1, .int 2, .ref pp, .ref pt, .ref p9, .str (Str.ofString "c 1")]) = H13 at s13 e13 e9 e7 e6 e5
  clear e10 s10 s9 s11 s12 hc11 k1 k2 k3 hc c1 c2 c3
  -- what is due
  refine ⟨_, rfl, by show 2 ≤ sizeLine; decide, fun q1 hq1 => ?_⟩
  have t1 := Same.new (o := .tup [.int 1, .int 1]) hq1
  have u1 : (upd H13 q1 (.tup [.int 1, .int 1])) q1 = some (.tup [.int 1, .int 1]) := upd_same
  generalize upd H13 q1 (.tup [.int 1, .int 1]) = G1 at t1 u1
  refine fun qd hqd => ⟨upd_same, kvs halfB, rfl, by decide, ?_⟩
  rw [upd_upd, mergeK_nil (kvs_nd small_nd.2.1)]
  have t2' := Same.new (o := .dK (kvs halfB)) hqd
  have u2 : (upd G1 qd (.dK (kvs halfB))) qd = some (.dK (kvs halfB)) := upd_same
  have nqd : pp ≠ qd := ne_of_none (t1 _ _ e6) hqd
  have t2 := Same.trans t1 t2'
  have u1 := t2' _ _ u1
  generalize upd G1 qd (.dK (kvs halfB)) = G2 at t2 u2 u1
  refine ⟨by show 2 ≤ sizeLine; decide, fun q2 hq2 => ?_⟩
  have t3' := Same.new (o := .tup [.int 2, .int 1]) hq2
  have u3 : (upd G2 q2 (.tup [.int 2, .int 1])) q2 = some (.tup [.int 2, .int 1]) := upd_same
  have u1 := t3' _ _ u1
  have u2 := t3' _ _ u2
  have t3 := Same.trans t2 t3'
  generalize upd G2 q2 (.tup [.int 2, .int 1]) = G3 at t3 u3 u2 u1
  refine ⟨by show 2 ≤ sizeLine; decide, fun q3 hq3 => ?_⟩
  have t4' := Same.new (o := .tup [.int 1, .int 1]) hq3
  have u4 : (upd G3 q3 (.tup [.int 1, .int 1])) q3 = some (.tup [.int 1, .int 1]) := upd_same
  have u1 := t4' _ _ u1
  have u2 := t4' _ _ u2
  have u3 := t4' _ _ u3
  have t4 := Same.trans t3 t4'
  generalize upd G3 q3 (.tup [.int 1, .int 1]) = G4 at t4 u4 u3 u2 u1
  refine ⟨by show 7 ≤ sizeLine; decide, fun ld hld => ?_⟩
  have t5' := Same.new (o := .lst [.str (Str.ofString "a 1/2, b 1/2, c 1"), .ref q1, .int 2, .ref qd, .ref q2, .ref q3, .str (Str.ofString "c 1")]) hld
  have t5 := Same.trans t4 t5'
  refine ⟨lt, ld, _, _, rfl, rfl, SqL.of (t5 _ _ e13), SqL.of upd_same, .cons (eqi_str (sk_str _)) (.cons (eqi_pair (t5 _ _ e5) (t5' _ _ u1)) (.cons (eqi_int 2) (.cons (eqi_bag small_nd.2.1 nqd (t5 _ _ e6) (t5' _ _ u2)) (.cons (eqi_pair (t5 _ _ e7) (t5' _ _ u3)) (.cons (eqi_pair (t5 _ _ e9) (t5' _ _ u4)) (.cons (eqi_str (sk_str _)) .nil)))))), ?_⟩
  refine ⟨_, rfl, ite2 (fun z => by cases z) (fun _ => ?_)⟩
  generalize upd G4 ld (.lst [.str (Str.ofString "a 1/2, b 1/2, c 1"), .ref q1, .int 2, .ref qd, .ref q2, .ref q3, .str (Str.ofString "c 1")]) = G5
  clear t5 t5' t4 t4' t3 t3' t2 t2' t1 u4 u3 u2 u1 e5 e6 e7 e9 e13 hld hlt nb
  -- a charge of nothing
  refine fun d5 hd5 => ⟨upd_same, kvs noneQ, rfl, by decide, ?_⟩
  rw [upd_upd, mergeK_nil (kvs_nd small_nd.2.2)]
  have f2 : (upd G5 d5 (.dK (kvs noneQ))) d5 = some (.dK (kvs noneQ)) := upd_same
  generalize upd G5 d5 (.dK (kvs noneQ)) = H2 at f2
  refine ⟨rfl, rfl, fun y dy hy hdy hdd2 => ?_⟩
  have nq : ∀ z ∈ nms noneQ, z ∈ [sa, sb, sc, sx, sy] := by decide +kernel
  refine ⟨y, dy, d5, noneQ, 7, rfl, upd_same, ?_, ⟨small_nd.2.2, fun z hz => nm5 z (nq z hz), by decide +kernel, by decide, by decide⟩, by decide, by decide +kernel, fun zs H3 sd bt hc => ⟨rfl, ?_⟩⟩
  · rw [upd_ne (ne_of_none f2 hy), upd_ne (ne_of_none f2 hdy)]
    exact f2
  have ez : zs = [sx, sy] := sorted_one (sd.pm.trans (List.Perm.refl _)) sd.ord none_is.2.2.1
  rw [ez, none_is.1, none_is.2.1] at hc
  obtain ⟨dy3, tt, dd, c1, c2, c3⟩ := id hc
  refine ⟨_, rfl, y, dy3, _, rfl, c1, y, dy3, tt, dd, _, rfl, c1, ?_⟩
  refine ⟨_, rfl, y, dy3, _, rfl, c1, y, _, _, rfl, hc, small_nd.2.2, by decide, fun pp hpp => ?_⟩
  have s4 := Same.new (o := .dK (kvs noneQ)) hpp
  have e4 : (upd H3 pp (.dK (kvs noneQ))) pp = some (.dK (kvs noneQ)) := upd_same
  generalize upd H3 pp (.dK (kvs noneQ)) = H4 at s4 e4
  refine ⟨_, rfl, y, dy3, _, rfl, s4 _ _ c1, y, _, _, rfl, hc.same s4, by decide, by decide +kernel, small_nd.2.2, by decide +kernel, by decide, fun H5 s5 => ⟨_, rfl, ?_⟩⟩
  rw [none_is.2.2.2]
  have e4 := s5 _ _ e4
  have s5 := Same.trans s4 s5
  refine ⟨_, rfl, y, dy3, _, rfl, s5 _ _ c1, y, _, _, rfl, hc.same s5, by decide, by decide +kernel, by decide, fun pt H6 s6 _ e6 => ?_⟩
  rw [half_nums.2.2.2.2.2.2.1, half_nums.2.2.2.2.2.2.2] at e6
  have e4 := s6 _ _ e4
  refine ⟨by show 4 ≤ sizeLine; decide, fun lt hlt => ?_⟩
  have s7 := Same.new (o := .lst [.int 1, .ref pp, .str (Str.ofString "x 0, y 0"), .ref pt]) hlt
  have e7 : (upd H6 lt (.lst [.int 1, .ref pp, .str (Str.ofString "x 0, y 0"), .ref pt])) lt = some (.lst [.int 1, .ref pp, .str (Str.ofString "x 0, y 0"), .ref pt]) := upd_same
  have e4 := s7 _ _ e4
  have e6 := s7 _ _ e6
  generalize upd H6 lt (.lst [.int 1, .ref pp, .str (Str.ofString "x 0, y 0"), .ref pt]) = H7 at s7 e7 e4 e6
  refine fun qd hqd => ⟨upd_same, kvs noneQ, rfl, by decide, ?_⟩
  rw [upd_upd, mergeK_nil (kvs_nd small_nd.2.2)]
  have t1 := Same.new (o := .dK (kvs noneQ)) hqd
  have u1 : (upd H7 qd (.dK (kvs noneQ))) qd = some (.dK (kvs noneQ)) := upd_same
  have nqd : pp ≠ qd := ne_of_none e4 hqd
  generalize upd H7 qd (.dK (kvs noneQ)) = G1 at t1 u1
  refine ⟨by show 2 ≤ sizeLine; decide, fun q2 hq2 => ?_⟩
  have t2' := Same.new (o := .tup [.int 0, .int 1]) hq2
  have u2 : (upd G1 q2 (.tup [.int 0, .int 1])) q2 = some (.tup [.int 0, .int 1]) := upd_same
  have u1 := t2' _ _ u1
  have t2 := Same.trans t1 t2'
  generalize upd G1 q2 (.tup [.int 0, .int 1]) = G2 at t2 u2 u1
  refine ⟨by show 4 ≤ sizeLine; decide, fun ld hld => ?_⟩
  have t3' := Same.new (o := .lst [.int 1, .ref qd, .str (Str.ofString "x 0, y 0"), .ref q2]) hld
  have t3 := Same.trans t2 t3'
  refine ⟨lt, ld, _, _, rfl, rfl, SqL.of (t3 _ _ e7), SqL.of upd_same, .cons (eqi_int 1) (.cons (eqi_bag small_nd.2.2 nqd (t3 _ _ e4) (t3' _ _ u1)) (.cons (eqi_str (sk_str _)) (.cons (eqi_pair (t3 _ _ e6) (t3' _ _ u2)) .nil))), ?_⟩
  exact k _
end
end V0

namespace V0
open PySem PySem.Spec PyProof.Rows L2
section
variable {P : Program} {w : World} {K : PySem.W.Frag} {mg mb : Str → Option Value}
/-- the law called on its script, from the heap behind the top -/
theorem law_at {k : Nat} {fa a : Addr} {fd : FuncData} {x : Str} {st : Stmt} {N : List Str} {s0 : Shared} {vs : List Value} {ns : List Int} (hK : K.In s0.heap) (hns : s0.heap.Ns mainGlobals mg) (hbl : s0.heap.Ns builtinsNs mb)
    (hbb : ∀ y : Str, y ≠ "__name__" → mb y = bootBuiltins y) (hlim : s0.heap.NoLimit) (hg : s0.gens = #[]) (ha : s0.heap.get? a = some { cls := .type "list", data := .seq vs.toArray }) (hi : IntsAre vs ns) (hl : ns.length ≤ sizeLine)
    (hr : Room (k + 1) callerA) (F : Fun K "law" "law" st fa fd) (S : FnScope N [x] (defScope st)) (hbind : ∀ (s : Shared) (u : Value), BindsTo s fd ⟨[u], []⟩ [(x, u)])
    (body : ∀ (base : Heap) (H : Hp) (cdv : Value), K.In base → base.Ns mainGlobals mg → SqL K H a (ns.map V.int) → Room k (callerA.deeper (envOfC "law" (defScope st) s0.heap.objs.size fa cdv)) →
      ∃ t, PSs (cxOf CX0 P w K mg base N "law" (defScope st) fa cdv callerA [] s0 H E0).nox (defBody st) t ∧ t { nx := fun _ _ => V.non = .bl true, rt := fun v _ => v = .bl true } (L2.start N [.ref a]) H) :
    codeAny (model P w) callerA (.call (.ref fa) ⟨[.ref a], []⟩) (fun r s' => r = .ok (.ret (.bool true)) ∧ OldK s0.heap s'.heap ∧ s'.os = s0.os ∧ AllBare s'.gens) s0 := by
  have rv := vals_ints hi
  have hlen := hi.length
  -- the abstract heap that tracks the script, or nothing
  obtain ⟨H, hO, hS, hok, hA, hKA⟩ : ∃ H : Hp, Only H ∧ SqL K H a (ns.map V.int) ∧ HOk P w H s0.heap ∧ (∀ b, H b ≠ none → b = a) ∧ (H a ≠ none → K.lookup a = none) := by
    cases hk : K.lookup a with
    | some o =>
      have e := hK a o hk
      rw [ha] at e
      cases e
      exact ⟨fun _ => none, fun _ => .inl rfl, .inr ⟨_, vs.toArray, _, hk, rfl, rfl, rfl, by rw [List.size_toArray, hlen]; exact hl, by simpa using rv⟩, (fun b u z => by have z' : (none : Option HO) = some u := z; cases z'), (fun b z => absurd rfl z), fun z => absurd rfl z⟩
    | none =>
      have at1 : ∀ {b : Addr} {u : HO}, (if b = a then some (HO.frz { cls := .type "list", data := .seq vs.toArray } (.lst (ns.map V.int))) else none) = some u → b = a ∧ u = HO.frz { cls := .type "list", data := .seq vs.toArray } (.lst (ns.map V.int)) := fun {b u} z => by
        by_cases hb : b = a
        · rw [if_pos hb] at z
          exact ⟨hb, (Option.some.inj z).symm⟩
        · rw [if_neg hb] at z
          cases z
      refine ⟨fun b => if b = a then some (.frz { cls := .type "list", data := .seq vs.toArray } (.lst (ns.map V.int))) else none, fun b => ?_, .inl (.inr ⟨{ cls := .type "list", data := .seq vs.toArray }, if_pos rfl⟩), fun b u z => ?_, fun b z => ?_, fun _ => rfl⟩
      · by_cases hb : b = a
        · exact .inr ⟨_, _, if_pos hb⟩
        · exact .inl (if_neg hb)
      · obtain ⟨rfl, rfl⟩ := at1 z
        exact ⟨ha, by rw [List.length_map]; exact hl, vs, _, rv, ha⟩
      · by_cases hb : b = a
        · exact hb
        · exact absurd (if_neg hb) z
  have inB : ∀ {b : Addr} {o : Obj}, s0.heap.get? b = some o → H b = none → (hidT s0.heap H).get? b = some o := fun e n => hidT_get e n
  have noD : ∀ {b : Addr} {m : Str → Option Value}, s0.heap.Ns b m → (hidT s0.heap H).Ns b m := fun {b m} ⟨o, es, ep, e, d, r⟩ => by
    refine ⟨o, es, ep, inB e ?_, d, r⟩
    cases q : H b with
    | none => rfl
    | some u =>
      obtain rfl := hA b (by rw [q]; simp)
      rw [ha] at e
      cases e
      cases (d : Data.seq vs.toArray _ = Data.dict es ep)
  have kB : K.In (hidT s0.heap H) := fun b o e => inB (hK b o e) (by
    cases q : H b with
    | none => rfl
    | some u =>
      obtain rfl := hA b (by rw [q]; simp)
      rw [hKA (by rw [q]; simp)] at e
      cases e)
  have hM : Mod K mg (hidT s0.heap H) := ⟨kB, noD hns, ⟨mb, noD hbl, hbb⟩, let ⟨mc, h1, h2⟩ := hlim; ⟨mc, noD h1, h2⟩⟩
  have e0 : Env0 P w K mg (hidT s0.heap H) callerA [] s0 H := ⟨rfl, hM, fun b o e => of_hidT e, Nat.le_of_eq (hidT_size _ _), trivial, fun b hb => absurd (show b ∈ ([] : List Addr) from hb) (by simp), hok, .of_eq hg⟩
  refine codeAny_mono (runs_at (Q := fun v _ => v = .bl true) (us := [Value.ref a]) (vs := [V.ref a]) F S hr e0 (hbind s0 (.ref a)) (.cons rfl .nil) rfl fun cdv hr' => body _ H cdv kB (noD hns) hS hr') fun r s' h => ?_
  cases r with
  | error e => exact h.elim
  | ok fl =>
    cases fl with
    | ret u =>
      obtain ⟨v, H', os, bare, un, hok', r', rfl⟩ := h
      obtain rfl : u = Value.bool true := r'
      refine ⟨rfl, OldK.of_keep fun b o e => ?_, os, bare⟩
      cases q : H b with
      | none => exact un.keep b o e q (fun z => absurd (show b ∈ ([] : List Addr) from z) (by simp)) (by simp)
      | some u =>
        rcases hO b with z | ⟨ob, xs, z⟩
        · rw [q] at z
          cases z
        · obtain ⟨e1, _⟩ := hok b _ z
          obtain ⟨e2, _⟩ := hok' b _ (un.frzs b ob _ z)
          rw [e] at e1
          cases e1
          exact e2
    | next => exact h.elim
    | brk => exact h.elim
    | cont => exact h.elim
end
end V0

namespace V0
open PySem PySem.Spec PyProof.Rows L2
section
variable {K : PySem.W.Frag} {h : Heap} {mg : Str → Option Value}
theorem df_mk {x : Str} {st : Stmt} {ps : List Str} {f : Addr} {oc : Value} {od an : Option Addr} {sl : Array (Option Value)} {kV dc pm cd ct : Value} (X : K.In h) (G : h.Ns mainGlobals mg)
    (hb : ∀ (kV doc pm : Value) (an : Option Addr) (cdv ct : Value) (us : List Value), us.length = ps.length → bindArgs (PySem.W.fnOf x x (defArgs st) (defBody st) (defScope st) .none kV doc pm an cdv ct) ⟨us, []⟩ = pure (ps.zip us))
    (a : PySem.W.nsIn K mainGlobals x = some (some (.ref f))) (l : K.lookup f = some ⟨oc, od, .func (PySem.W.fnOf x x (defArgs st) (defBody st) (defScope st) .none kV dc pm an cd ct), sl⟩) (c : PySem.W.codeIn K cd x = true) (k : PySem.W.keepIn K (.ref f) = true) : ∃ f fd, Df K mg x st ps f fd :=
  ⟨f, _, fun_mk l c k, (fun_mk l c k).binds hb, PySem.W.mg_of X G a⟩
theorem gv_mk {x : Str} {v : V} {u : Value} (X : K.In h) (G : h.Ns mainGlobals mg) (r : RelV v u) (a : PySem.W.nsIn K mainGlobals x = some (some u)) : GV mg x v := ⟨u, PySem.W.mg_of X G a, r⟩
theorem law_mk {fa f : Addr} {oc : Value} {od an : Option Addr} {sl : Array (Option Value)} {kV dc pm cd ct : Value} (X : K.In h) (G : h.Ns mainGlobals mg) (hfa : mg "law" = some (.ref fa))
    (a : PySem.W.nsIn K mainGlobals "law" = some (some (.ref f))) (l : K.lookup f = some ⟨oc, od, .func (PySem.W.fnOf "law" "law" (defArgs s_law) (defBody s_law) (defScope s_law) .none kV dc pm an cd ct), sl⟩) (c : PySem.W.codeIn K cd "law" = true) (k : PySem.W.keepIn K (.ref f) = true) :
    ∃ fd, Fun K "law" "law" s_law fa fd ∧ ∀ (s : Shared) (u : Value), BindsTo s fd ⟨[u], []⟩ [("_law_script", u)] := by
  have e := hfa.symm.trans (PySem.W.mg_of X G a)
  cases e
  exact ⟨_, fun_mk l c k, fun s v => .of_eq rfl⟩
end
section
variable {K : PySem.W.Frag} {h : Heap} {mg : Str → Option Value}
theorem cls_mk {C f0 f1 f2 f3 f4 f5 f6 f7 f8 f9 f10 f11 f12 f13 f14 g20 g21 g22 g23 D : Addr} {u : Value} {oc0 dc0 pm0 cd0 ct0 oc1 kV1 dc1 pm1 cd1 ct1 oc2 kV2 dc2 pm2 cd2 ct2 oc3 kV3 dc3 pm3 cd3 ct3 oc4 kV4 dc4 pm4 cd4 ct4 oc5 kV5 dc5 pm5 cd5 ct5 oc6 kV6 dc6 pm6 cd6 ct6 oc7 kV7 dc7 pm7 cd7 ct7 oc8 kV8 dc8 pm8 cd8 ct8 oc9 kV9 dc9 pm9 cd9 ct9 oc10 kV10 dc10 pm10 cd10 ct10 oc11 kV11 dc11 pm11 cd11 ct11 oc12 kV12 dc12 pm12 cd12 ct12 oc13 kV13 dc13 pm13 cd13 ct13 oc14 kV14 dc14 pm14 cd14 ct14 : Value} {od0 an0 od1 an1 od2 an2 od3 an3 od4 an4 od5 an5 od6 an6 od7 an7 od8 an8 od9 an9 od10 an10 od11 an11 od12 an12 od13 an13 od14 an14 : Option Addr} {sl0 sl1 sl2 sl3 sl4 sl5 sl6 sl7 sl8 sl9 sl10 sl11 sl12 sl13 sl14 : Array (Option Value)} {rest20 rest21 rest22 rest23 : List Value} (X : K.In h) (G : h.Ns mainGlobals mg)
    (a : PySem.W.nsIn K mainGlobals "Charge" = some (some (.ref C)))
    (kpg : PySem.W.plainGet K C Str.empty = true)
    (khd : PySem.W.hasDictIn K C = true)
    (kpo : PySem.W.plainOver K C = true)
    (ksa : PySem.W.findIn K (.ref C) "__setattr__" = some (some (.builtin "object.__setattr__")))
    (kha : PySem.W.findIn K (.ref C) "__class__" = some (some (.builtin "object.__class__")))
    (khn : PySem.W.specialIn K (.builtin "object.__class__") "__get__" = some (some (.builtin "getset_descriptor.__get__")))
    (khtk : PySem.W.takesIn K (.builtin "object.__class__") = some true)
    (khm : PySem.W.mroIn K C (.type "object") = some true)
    (kty : PySem.W.typeIn K (.ref C) = some (.type "type"))
    (kne : PySem.W.findIn K (.ref C) "__ne__" = some (some (.builtin "object.__ne__")))
    (n1 : PySem.W.findIn K (.ref C) "_things" = some none)
    (n2 : PySem.W.findIn K (.ref C) "_unit" = some none)
    (n3 : PySem.W.findIn K (.ref C) "_pays" = some none)
    (mks : PySem.W.makesIn K C = true)
    (kC : PySem.W.keepIn K (.ref C) = true)
    (at0 : PySem.W.findIn K (.ref C) "__init__" = some (some (.ref f0)))
    (fn0 : PySem.W.isFn K (.ref f0) = true)
    (l0 : K.lookup f0 = some ⟨oc0, od0, .func (PySem.W.fnOf "__init__" "Charge.__init__" (defArgs s_Charge_init) (defBody s_Charge_init) (defScope s_Charge_init) .none (.ref D) dc0 pm0 an0 cd0 ct0), sl0⟩)
    (c0 : PySem.W.codeIn K cd0 "Charge.__init__" = true)
    (k0 : PySem.W.keepIn K (.ref f0) = true)
    (uD : PySem.W.nsIn K D "unit" = some (some u))
    (ru : RelV (.int 1) u)
    (at1 : PySem.W.findIn K (.ref C) "things" = some (some (.ref g20)))
    (gt1 : PySem.W.specialIn K (.ref g20) "__get__" = some (some (.builtin "property.__get__")))
    (tk1 : PySem.W.takesIn K (.ref g20) = some true)
    (rc1 : PySem.W.recIn K g20 "property" = some (.ref f1 :: rest20))
    (l1 : K.lookup f1 = some ⟨oc1, od1, .func (PySem.W.fnOf "things" "Charge.things" (defArgs s_Charge_things) (defBody s_Charge_things) (defScope s_Charge_things) .none kV1 dc1 pm1 an1 cd1 ct1), sl1⟩)
    (c1 : PySem.W.codeIn K cd1 "Charge.things" = true)
    (k1 : PySem.W.keepIn K (.ref f1) = true)
    (at2 : PySem.W.findIn K (.ref C) "unit" = some (some (.ref g21)))
    (gt2 : PySem.W.specialIn K (.ref g21) "__get__" = some (some (.builtin "property.__get__")))
    (tk2 : PySem.W.takesIn K (.ref g21) = some true)
    (rc2 : PySem.W.recIn K g21 "property" = some (.ref f2 :: rest21))
    (l2 : K.lookup f2 = some ⟨oc2, od2, .func (PySem.W.fnOf "unit" "Charge.unit" (defArgs s_Charge_unit) (defBody s_Charge_unit) (defScope s_Charge_unit) .none kV2 dc2 pm2 an2 cd2 ct2), sl2⟩)
    (c2 : PySem.W.codeIn K cd2 "Charge.unit" = true)
    (k2 : PySem.W.keepIn K (.ref f2) = true)
    (at3 : PySem.W.findIn K (.ref C) "pays" = some (some (.ref g22)))
    (gt3 : PySem.W.specialIn K (.ref g22) "__get__" = some (some (.builtin "property.__get__")))
    (tk3 : PySem.W.takesIn K (.ref g22) = some true)
    (rc3 : PySem.W.recIn K g22 "property" = some (.ref f3 :: rest22))
    (l3 : K.lookup f3 = some ⟨oc3, od3, .func (PySem.W.fnOf "pays" "Charge.pays" (defArgs s_Charge_pays) (defBody s_Charge_pays) (defScope s_Charge_pays) .none kV3 dc3 pm3 an3 cd3 ct3), sl3⟩)
    (c3 : PySem.W.codeIn K cd3 "Charge.pays" = true)
    (k3 : PySem.W.keepIn K (.ref f3) = true)
    (at4 : PySem.W.findIn K (.ref C) "total" = some (some (.ref g23)))
    (gt4 : PySem.W.specialIn K (.ref g23) "__get__" = some (some (.builtin "property.__get__")))
    (tk4 : PySem.W.takesIn K (.ref g23) = some true)
    (rc4 : PySem.W.recIn K g23 "property" = some (.ref f4 :: rest23))
    (l4 : K.lookup f4 = some ⟨oc4, od4, .func (PySem.W.fnOf "total" "Charge.total" (defArgs s_Charge_total) (defBody s_Charge_total) (defScope s_Charge_total) .none kV4 dc4 pm4 an4 cd4 ct4), sl4⟩)
    (c4 : PySem.W.codeIn K cd4 "Charge.total" = true)
    (k4 : PySem.W.keepIn K (.ref f4) = true)
    (at5 : PySem.W.findIn K (.ref C) "of" = some (some (.ref f5)))
    (fn5 : PySem.W.isFn K (.ref f5) = true)
    (l5 : K.lookup f5 = some ⟨oc5, od5, .func (PySem.W.fnOf "of" "Charge.of" (defArgs s_Charge_of) (defBody s_Charge_of) (defScope s_Charge_of) .none kV5 dc5 pm5 an5 cd5 ct5), sl5⟩)
    (c5 : PySem.W.codeIn K cd5 "Charge.of" = true)
    (k5 : PySem.W.keepIn K (.ref f5) = true)
    (at6 : PySem.W.findIn K (.ref C) "cut" = some (some (.ref f6)))
    (fn6 : PySem.W.isFn K (.ref f6) = true)
    (l6 : K.lookup f6 = some ⟨oc6, od6, .func (PySem.W.fnOf "cut" "Charge.cut" (defArgs s_Charge_cut) (defBody s_Charge_cut) (defScope s_Charge_cut) .none kV6 dc6 pm6 an6 cd6 ct6), sl6⟩)
    (c6 : PySem.W.codeIn K cd6 "Charge.cut" = true)
    (k6 : PySem.W.keepIn K (.ref f6) = true)
    (at7 : PySem.W.findIn K (.ref C) "__len__" = some (some (.ref f7)))
    (fn7 : PySem.W.isFn K (.ref f7) = true)
    (l7 : K.lookup f7 = some ⟨oc7, od7, .func (PySem.W.fnOf "__len__" "Charge.__len__" (defArgs s_Charge_len) (defBody s_Charge_len) (defScope s_Charge_len) .none kV7 dc7 pm7 an7 cd7 ct7), sl7⟩)
    (c7 : PySem.W.codeIn K cd7 "Charge.__len__" = true)
    (k7 : PySem.W.keepIn K (.ref f7) = true)
    (at8 : PySem.W.findIn K (.ref C) "__str__" = some (some (.ref f8)))
    (fn8 : PySem.W.isFn K (.ref f8) = true)
    (l8 : K.lookup f8 = some ⟨oc8, od8, .func (PySem.W.fnOf "__str__" "Charge.__str__" (defArgs s_Charge_str) (defBody s_Charge_str) (defScope s_Charge_str) .none kV8 dc8 pm8 an8 cd8 ct8), sl8⟩)
    (c8 : PySem.W.codeIn K cd8 "Charge.__str__" = true)
    (k8 : PySem.W.keepIn K (.ref f8) = true)
    (at9 : PySem.W.findIn K (.ref C) "__iter__" = some (some (.ref f9)))
    (fn9 : PySem.W.isFn K (.ref f9) = true)
    (l9 : K.lookup f9 = some ⟨oc9, od9, .func (PySem.W.fnOf "__iter__" "Charge.__iter__" (defArgs s_Charge_iter) (defBody s_Charge_iter) (defScope s_Charge_iter) .none kV9 dc9 pm9 an9 cd9 ct9), sl9⟩)
    (c9 : PySem.W.codeIn K cd9 "Charge.__iter__" = true)
    (k9 : PySem.W.keepIn K (.ref f9) = true)
    (at10 : PySem.W.findIn K (.ref C) "__getitem__" = some (some (.ref f10)))
    (fn10 : PySem.W.isFn K (.ref f10) = true)
    (l10 : K.lookup f10 = some ⟨oc10, od10, .func (PySem.W.fnOf "__getitem__" "Charge.__getitem__" (defArgs s_Charge_getitem) (defBody s_Charge_getitem) (defScope s_Charge_getitem) .none kV10 dc10 pm10 an10 cd10 ct10), sl10⟩)
    (c10 : PySem.W.codeIn K cd10 "Charge.__getitem__" = true)
    (k10 : PySem.W.keepIn K (.ref f10) = true)
    (gfn : PySem.W.fnIn K f10 = true)
    (at11 : PySem.W.findIn K (.ref C) "__contains__" = some (some (.ref f11)))
    (fn11 : PySem.W.isFn K (.ref f11) = true)
    (l11 : K.lookup f11 = some ⟨oc11, od11, .func (PySem.W.fnOf "__contains__" "Charge.__contains__" (defArgs s_Charge_contains) (defBody s_Charge_contains) (defScope s_Charge_contains) .none kV11 dc11 pm11 an11 cd11 ct11), sl11⟩)
    (c11 : PySem.W.codeIn K cd11 "Charge.__contains__" = true)
    (k11 : PySem.W.keepIn K (.ref f11) = true)
    (at12 : PySem.W.findIn K (.ref C) "__eq__" = some (some (.ref f12)))
    (fn12 : PySem.W.isFn K (.ref f12) = true)
    (l12 : K.lookup f12 = some ⟨oc12, od12, .func (PySem.W.fnOf "__eq__" "Charge.__eq__" (defArgs s_Charge_eq) (defBody s_Charge_eq) (defScope s_Charge_eq) .none kV12 dc12 pm12 an12 cd12 ct12), sl12⟩)
    (c12 : PySem.W.codeIn K cd12 "Charge.__eq__" = true)
    (k12 : PySem.W.keepIn K (.ref f12) = true)
    (at13 : PySem.W.findIn K (.ref C) "_check_group" = some (some (.ref f13)))
    (fn13 : PySem.W.isFn K (.ref f13) = true)
    (l13 : K.lookup f13 = some ⟨oc13, od13, .func (PySem.W.fnOf "_check_group" "Charge._check_group" (defArgs s_Chargecheck_group) (defBody s_Chargecheck_group) (defScope s_Chargecheck_group) .none kV13 dc13 pm13 an13 cd13 ct13), sl13⟩)
    (c13 : PySem.W.codeIn K cd13 "Charge._check_group" = true)
    (k13 : PySem.W.keepIn K (.ref f13) = true)
    (at14 : PySem.W.findIn K (.ref C) "_sum" = some (some (.ref f14)))
    (fn14 : PySem.W.isFn K (.ref f14) = true)
    (l14 : K.lookup f14 = some ⟨oc14, od14, .func (PySem.W.fnOf "_sum" "Charge._sum" (defArgs s_Chargesum) (defBody s_Chargesum) (defScope s_Chargesum) .none kV14 dc14 pm14 an14 cd14 ct14), sl14⟩)
    (c14 : PySem.W.codeIn K cd14 "Charge._sum" = true)
    (k14 : PySem.W.keepIn K (.ref f14) = true)
    : ∃ C ad fdd, Cls8 K mg C ad fdd := by
  have F0 : FunD K "__init__" "Charge.__init__" (defArgs s_Charge_init) (defBody s_Charge_init) (defScope s_Charge_init) [] [("unit", .int 1)] f0 _ := ⟨⟨_, _, _, _, _, _, _, _, _, _, rfl, l0, c0, .inl ⟨rfl, rfl⟩, .inr ⟨D, rfl, fun q hq => by rw [List.mem_singleton] at hq; subst hq; exact ⟨u, uD, ru⟩⟩⟩, k0⟩
  have B1 : ∃ ds, Vals [V.int 1] ds ∧ Binds K _ P_Charge_init ds := F0.binds0 (ps := P_Charge_init) 2 (by simp) rfl (fun D doc pm an cdv ct us ks h1 h2 => match us, h1, ks, h2 with | [_, _], _, [_], _ => ⟨_, _, _, _, _, _, rfl, rfl, rfl⟩)
  obtain ⟨mv, BK⟩ := F0.kbinds0 (ps := P_Charge_init) 2 ["unit"] [] (fun us _ ws => us ++ ws) (by simp) (fun q hq => by cases hq) (fun a _ c => a.append c) (fun D doc pm an cdv ct us mv ws h1 h2 h3 => match us, h1, mv, h2, ws, h3 with | [_, _], _, [], _, [_], _ => rfl)
  have F1 := fun_mk (st := s_Charge_things) l1 c1 k1
  have F2 := fun_mk (st := s_Charge_unit) l2 c2 k2
  have F3 := fun_mk (st := s_Charge_pays) l3 c3 k3
  have F4 := fun_mk (st := s_Charge_total) l4 c4 k4
  have F5 := fun_mk (st := s_Charge_of) l5 c5 k5
  have F6 := fun_mk (st := s_Charge_cut) l6 c6 k6
  have F7 := fun_mk (st := s_Charge_len) l7 c7 k7
  have F8 := fun_mk (st := s_Charge_str) l8 c8 k8
  have F9 := fun_mk (st := s_Charge_iter) l9 c9 k9
  have F10 := fun_mk (st := s_Charge_getitem) l10 c10 k10
  have F11 := fun_mk (st := s_Charge_contains) l11 c11 k11
  have F12 := fun_mk (st := s_Charge_eq) l12 c12 k12
  have F13 := fun_mk (st := s_Chargecheck_group) l13 c13 k13
  have F14 := fun_mk (st := s_Chargesum) l14 c14 k14
  refine ⟨C, fun n => [f0, f1, f2, f3, f4, f5, f6, f7, f8, f9, f10, f11, f12, f13, f14, 0, 0, 0, 0, 0, g20, g21, g22, g23].getD n 0, fun n => [_, PySem.W.fnOf "things" "Charge.things" (defArgs s_Charge_things) (defBody s_Charge_things) (defScope s_Charge_things) .none kV1 dc1 pm1 an1 cd1 ct1, PySem.W.fnOf "unit" "Charge.unit" (defArgs s_Charge_unit) (defBody s_Charge_unit) (defScope s_Charge_unit) .none kV2 dc2 pm2 an2 cd2 ct2, PySem.W.fnOf "pays" "Charge.pays" (defArgs s_Charge_pays) (defBody s_Charge_pays) (defScope s_Charge_pays) .none kV3 dc3 pm3 an3 cd3 ct3, PySem.W.fnOf "total" "Charge.total" (defArgs s_Charge_total) (defBody s_Charge_total) (defScope s_Charge_total) .none kV4 dc4 pm4 an4 cd4 ct4, PySem.W.fnOf "of" "Charge.of" (defArgs s_Charge_of) (defBody s_Charge_of) (defScope s_Charge_of) .none kV5 dc5 pm5 an5 cd5 ct5, PySem.W.fnOf "cut" "Charge.cut" (defArgs s_Charge_cut) (defBody s_Charge_cut) (defScope s_Charge_cut) .none kV6 dc6 pm6 an6 cd6 ct6, PySem.W.fnOf "__len__" "Charge.__len__" (defArgs s_Charge_len) (defBody s_Charge_len) (defScope s_Charge_len) .none kV7 dc7 pm7 an7 cd7 ct7, PySem.W.fnOf "__str__" "Charge.__str__" (defArgs s_Charge_str) (defBody s_Charge_str) (defScope s_Charge_str) .none kV8 dc8 pm8 an8 cd8 ct8, PySem.W.fnOf "__iter__" "Charge.__iter__" (defArgs s_Charge_iter) (defBody s_Charge_iter) (defScope s_Charge_iter) .none kV9 dc9 pm9 an9 cd9 ct9, PySem.W.fnOf "__getitem__" "Charge.__getitem__" (defArgs s_Charge_getitem) (defBody s_Charge_getitem) (defScope s_Charge_getitem) .none kV10 dc10 pm10 an10 cd10 ct10, PySem.W.fnOf "__contains__" "Charge.__contains__" (defArgs s_Charge_contains) (defBody s_Charge_contains) (defScope s_Charge_contains) .none kV11 dc11 pm11 an11 cd11 ct11, PySem.W.fnOf "__eq__" "Charge.__eq__" (defArgs s_Charge_eq) (defBody s_Charge_eq) (defScope s_Charge_eq) .none kV12 dc12 pm12 an12 cd12 ct12, PySem.W.fnOf "_check_group" "Charge._check_group" (defArgs s_Chargecheck_group) (defBody s_Chargecheck_group) (defScope s_Chargecheck_group) .none kV13 dc13 pm13 an13 cd13 ct13, PySem.W.fnOf "_sum" "Charge._sum" (defArgs s_Chargesum) (defBody s_Chargesum) (defScope s_Chargesum) .none kV14 dc14 pm14 an14 cd14 ct14].getD n (PySem.W.fnOf "__init__" "Charge.__init__" (defArgs s_Charge_init) (defBody s_Charge_init) (defScope s_Charge_init) .none (.ref D) dc0 pm0 an0 cd0 ct0), ⟨PySem.W.mg_of X G a, ⟨kpg, khd, kpo, ksa⟩, kha, khn, khtk, khm, kty, kne⟩, ⟨n1, n2, n3⟩, fun g e => ?_, ⟨F0, ⟨mks, at0, fn0, kC⟩, B1, BK⟩, ⟨F1, (F1.binds (ps := P_Charge_things) fun _ _ _ _ _ _ us hl => match us, hl with | [_], _ => rfl), ⟨at1, gt1, tk1, _, rc1⟩⟩, ⟨F2, (F2.binds (ps := P_Charge_unit) fun _ _ _ _ _ _ us hl => match us, hl with | [_], _ => rfl), ⟨at2, gt2, tk2, _, rc2⟩⟩, ⟨F3, (F3.binds (ps := P_Charge_pays) fun _ _ _ _ _ _ us hl => match us, hl with | [_], _ => rfl), ⟨at3, gt3, tk3, _, rc3⟩⟩, ⟨F4, (F4.binds (ps := P_Charge_total) fun _ _ _ _ _ _ us hl => match us, hl with | [_], _ => rfl), ⟨at4, gt4, tk4, _, rc4⟩⟩, ⟨F5, (F5.binds (ps := P_Charge_of) fun _ _ _ _ _ _ us hl => match us, hl with | [_, _], _ => rfl), ⟨at5, fn5, k5⟩⟩, ⟨F6, (F6.binds (ps := P_Charge_cut) fun _ _ _ _ _ _ us hl => match us, hl with | [_, _], _ => rfl), ⟨at6, fn6, k6⟩⟩, ⟨F7, (F7.binds (ps := P_Charge_len) fun _ _ _ _ _ _ us hl => match us, hl with | [_], _ => rfl), ⟨at7, fn7, k7⟩⟩, ⟨F8, (F8.binds (ps := P_Charge_str) fun _ _ _ _ _ _ us hl => match us, hl with | [_], _ => rfl), ⟨at8, fn8, k8⟩⟩, ⟨F9, (F9.binds (ps := P_Charge_iter) fun _ _ _ _ _ _ us hl => match us, hl with | [_], _ => rfl), ⟨at9, fn9, k9⟩⟩, ⟨F10, (F10.binds (ps := P_Charge_getitem) fun _ _ _ _ _ _ us hl => match us, hl with | [_, _], _ => rfl), ⟨at10, fn10, k10⟩⟩, ⟨F11, (F11.binds (ps := P_Charge_contains) fun _ _ _ _ _ _ us hl => match us, hl with | [_, _], _ => rfl), ⟨at11, fn11, k11⟩⟩, ⟨F12, (F12.binds (ps := P_Charge_eq) fun _ _ _ _ _ _ us hl => match us, hl with | [_, _], _ => rfl), ⟨at12, fn12, k12⟩⟩, ⟨F13, (F13.binds (ps := P_Chargecheck_group) fun _ _ _ _ _ _ us hl => match us, hl with | [_, _], _ => rfl), ⟨at13, fn13, k13⟩⟩, ⟨F14, (F14.binds (ps := P_Chargesum) fun _ _ _ _ _ _ us hl => match us, hl with | [_, _], _ => rfl), ⟨at14, fn14, k14⟩⟩⟩
  rw [at10] at e
  cases e
  exact gfn
end

theorem walk {l : PySem.W.OpenLaw} {q : Program} {loose : List Str} {XP : (Str → Option Value) → Heap → Prop} {YP : World → Heap → Prop} {d : DefRec} {K : Params → PySem.W.Frag} (hn : l.most = some 63) (hdf : d.params.defaults = [])
    (hY : ∀ (w : World) (h : Heap), YP w h → (K w.params).In h)
    (F : ∀ (w : World) (mg : Str → Option Value) (fa : Addr) (h : Heap), (K w.params).In h → h.Ns mainGlobals mg → mg d.name = some (.ref fa) →
      ∃ (C : Addr) (ad : Nat → Addr) (fdd : Nat → FuncData) (bd : Nat → Addr) (bdd : Nat → FuncData) (fd : FuncData), All8 (K w.params) mg C ad fdd bd bdd ∧ Fun (K w.params) "law" "law" s_law fa fd ∧ ∀ (s : Shared) (u : Value), BindsTo s fd ⟨[u], []⟩ [("_law_script", u)]) :
    PySem.W.WalkO q loose XP YP l.row.toRowW d [] (fun f vs => PySem.call f vs) := by
  refine Att.attach_call hn hdf fun w s0 s1 mg mb fa o pm cd doc a vs ns G Y ho hd hcd hmg hobj hints hlen hg => ?_
  have KX := hY w _ Y
  obtain ⟨C, ad, fdd, bd, bdd, fd, Z, Fl, hb⟩ := F w mg fa _ KX G.T.g hmg
  exact law_at (k := 12) (N := N_law) KX G.T.g G.T.b G.T.builtins G.T.nolimit hg hobj hints (Nat.le_trans hlen (by decide)) ⟨rfl, by decide, by decide⟩ Fl sc_law hb fun base H cdv kB nB hS hr => law_body (Q := fun v _ => v = .bl true) (outer := []) Z rfl hr hS hlen (fun _ => rfl)
end V0
open PySem PySem.W PyProof.Rows L2
set_option maxRecDepth 100000 in
set_option maxHeartbeats 0 in
theorem PySem.Challenge.cw_huebill_k08_whole_charges_told_holds : PySem.Challenge.rw_huebill_k08_whole_charges_told.Holds := by
  w_on; o_law; k_head; (case hw => w_witness2)
  k_fill
  refine V0.walk (l := PySem.Challenge.rw_huebill_k08_whole_charges_told) rfl rfl (fun w h Y => PySem.W.kIn_of Y) ?F
  case F =>
    intro w mg fa h KX G hmg
    have z0 : mg "len" = none := by (refine PySem.W.mg_none_of KX G ?z; (case z => k_is))
    have z1 : mg "abs" = none := by (refine PySem.W.mg_none_of KX G ?z; (case z => k_is))
    have z2 : mg "max" = none := by (refine PySem.W.mg_none_of KX G ?z; (case z => k_is))
    have z3 : mg "min" = none := by (refine PySem.W.mg_none_of KX G ?z; (case z => k_is))
    have z4 : mg "int" = none := by (refine PySem.W.mg_none_of KX G ?z; (case z => k_is))
    have z5 : mg "bool" = none := by (refine PySem.W.mg_none_of KX G ?z; (case z => k_is))
    have z6 : mg "str" = none := by (refine PySem.W.mg_none_of KX G ?z; (case z => k_is))
    have z7 : mg "tuple" = none := by (refine PySem.W.mg_none_of KX G ?z; (case z => k_is))
    have z8 : mg "list" = none := by (refine PySem.W.mg_none_of KX G ?z; (case z => k_is))
    have z9 : mg "dict" = none := by (refine PySem.W.mg_none_of KX G ?z; (case z => k_is))
    have z10 : mg "all" = none := by (refine PySem.W.mg_none_of KX G ?z; (case z => k_is))
    have z11 : mg "any" = none := by (refine PySem.W.mg_none_of KX G ?z; (case z => k_is))
    have z12 : mg "sum" = none := by (refine PySem.W.mg_none_of KX G ?z; (case z => k_is))
    have z13 : mg "repr" = none := by (refine PySem.W.mg_none_of KX G ?z; (case z => k_is))
    have z14 : mg "isinstance" = none := by (refine PySem.W.mg_none_of KX G ?z; (case z => k_is))
    have z15 : mg "range" = none := by (refine PySem.W.mg_none_of KX G ?z; (case z => k_is))
    have z16 : mg "sorted" = none := by (refine PySem.W.mg_none_of KX G ?z; (case z => k_is))
    have z17 : mg "zip" = none := by (refine PySem.W.mg_none_of KX G ?z; (case z => k_is))
    have z18 : mg "iter" = none := by (refine PySem.W.mg_none_of KX G ?z; (case z => k_is))
    have hB : V0.Bl mg := ⟨z0, z1, z2, z3, z4, z5, z6, z7, z8, z9, z10, z11, z12, z13, z14, z15⟩
    have hM : V0.Bm mg := ⟨z16, z17, z18⟩
    have c0 : V0.GV mg "_TOO_LONG" (.int V0.TL) := by (refine' V0.gv_mk KX G ?r ?a; (case a => k_is); (case r => exact ⟨_, rfl⟩))
    have c1 : V0.GV mg "_CHUNK" (.int V0.CH) := by (refine' V0.gv_mk KX G ?r ?a; (case a => k_is); (case r => exact ⟨_, rfl⟩))
    have c2 : V0.GV mg "_CHUNK_DIGITS" (.int 64) := by (refine' V0.gv_mk KX G ?r ?a; (case a => k_is); (case r => exact ⟨_, rfl⟩))
    have c3 : V0.GV mg "MAX_NAME" (.int 8) := by (refine' V0.gv_mk KX G ?r ?a; (case a => k_is); (case r => exact ⟨_, rfl⟩))
    have c4 : V0.GV mg "MAX_THINGS" (.int 8) := by (refine' V0.gv_mk KX G ?r ?a; (case a => k_is); (case r => exact ⟨_, rfl⟩))
    have c5 : V0.GV mg "_LETTERS" (.str V0.LET) := by (refine' V0.gv_mk KX G ?r ?a; (case a => k_is); (case r => exact ⟨_, rfl⟩))
    have c9 : mg "gcd" = some (.builtin "math.gcd") := by (refine PySem.W.mg_of KX G ?a; (case a => k_is))
    have hC : V0.Nm mg := ⟨c0, c1, c2, c3, c4, c5, c9⟩
    obtain ⟨C, ad, fdd, Zc⟩ : ∃ C ad fdd, V0.Cls8 _ mg C ad fdd := by
      refine' V0.cls_mk KX G ?a ?kpg ?khd ?kpo ?ksa ?kha ?khn ?khtk ?khm ?kty ?kne ?n1 ?n2 ?n3 ?mks ?kC ?at0 ?fn0 ?l0 ?c0 ?k0 ?uD ?ru ?at1 ?gt1 ?tk1 ?rc1 ?l1 ?c1 ?k1 ?at2 ?gt2 ?tk2 ?rc2 ?l2 ?c2 ?k2 ?at3 ?gt3 ?tk3 ?rc3 ?l3 ?c3 ?k3 ?at4 ?gt4 ?tk4 ?rc4 ?l4 ?c4 ?k4 ?at5 ?fn5 ?l5 ?c5 ?k5 ?at6 ?fn6 ?l6 ?c6 ?k6 ?at7 ?fn7 ?l7 ?c7 ?k7 ?at8 ?fn8 ?l8 ?c8 ?k8 ?at9 ?fn9 ?l9 ?c9 ?k9 ?at10 ?fn10 ?l10 ?c10 ?k10 ?gfn ?at11 ?fn11 ?l11 ?c11 ?k11 ?at12 ?fn12 ?l12 ?c12 ?k12 ?at13 ?fn13 ?l13 ?c13 ?k13 ?at14 ?fn14 ?l14 ?c14 ?k14
      (case a => k_is)
      (case kpg => k_is)
      (case khd => k_is)
      (case kpo => k_is)
      (case ksa => k_is)
      (case kha => k_is)
      (case khn => k_is)
      (case khtk => k_is)
      (case khm => k_is)
      (case kty => k_is)
      (case kne => k_is)
      (case n1 => k_is)
      (case n2 => k_is)
      (case n3 => k_is)
      (case mks => k_is)
      (case kC => k_is)
      (case at0 => k_is)
      (case fn0 => k_is)
      (case l0 => k_is)
      (case c0 => k_is)
      (case k0 => k_is)
      (case uD => k_is)
      (case ru => exact ⟨_, rfl⟩)
      (case at1 => k_is)
      (case gt1 => k_is)
      (case tk1 => k_is)
      (case rc1 => k_is)
      (case l1 => k_is)
      (case c1 => k_is)
      (case k1 => k_is)
      (case at2 => k_is)
      (case gt2 => k_is)
      (case tk2 => k_is)
      (case rc2 => k_is)
      (case l2 => k_is)
      (case c2 => k_is)
      (case k2 => k_is)
      (case at3 => k_is)
      (case gt3 => k_is)
      (case tk3 => k_is)
      (case rc3 => k_is)
      (case l3 => k_is)
      (case c3 => k_is)
      (case k3 => k_is)
      (case at4 => k_is)
      (case gt4 => k_is)
      (case tk4 => k_is)
      (case rc4 => k_is)
      (case l4 => k_is)
      (case c4 => k_is)
      (case k4 => k_is)
      (case at5 => k_is)
      (case fn5 => k_is)
      (case l5 => k_is)
      (case c5 => k_is)
      (case k5 => k_is)
      (case at6 => k_is)
      (case fn6 => k_is)
      (case l6 => k_is)
      (case c6 => k_is)
      (case k6 => k_is)
      (case at7 => k_is)
      (case fn7 => k_is)
      (case l7 => k_is)
      (case c7 => k_is)
      (case k7 => k_is)
      (case at8 => k_is)
      (case fn8 => k_is)
      (case l8 => k_is)
      (case c8 => k_is)
      (case k8 => k_is)
      (case at9 => k_is)
      (case fn9 => k_is)
      (case l9 => k_is)
      (case c9 => k_is)
      (case k9 => k_is)
      (case at10 => k_is)
      (case fn10 => k_is)
      (case l10 => k_is)
      (case c10 => k_is)
      (case k10 => k_is)
      (case gfn => k_is)
      (case at11 => k_is)
      (case fn11 => k_is)
      (case l11 => k_is)
      (case c11 => k_is)
      (case k11 => k_is)
      (case at12 => k_is)
      (case fn12 => k_is)
      (case l12 => k_is)
      (case c12 => k_is)
      (case k12 => k_is)
      (case at13 => k_is)
      (case fn13 => k_is)
      (case l13 => k_is)
      (case c13 => k_is)
      (case k13 => k_is)
      (case at14 => k_is)
      (case fn14 => k_is)
      (case l14 => k_is)
      (case c14 => k_is)
      (case k14 => k_is)
    obtain ⟨a0, d0, D0⟩ : ∃ f fd, V0.Df _ mg "is_whole" V0.s_is_whole V0.P_is_whole f fd := by
      refine' V0.df_mk KX G (fun _ _ _ _ _ _ us hl => match us, hl with | [_], _ => rfl) ?a ?l ?c ?k
      (case a => k_is); (case l => k_is); (case c => k_is); (case k => k_is)
    obtain ⟨a1, d1, D1⟩ : ∃ f fd, V0.Df _ mg "is_integer" V0.s_is_integer V0.P_is_integer f fd := by
      refine' V0.df_mk KX G (fun _ _ _ _ _ _ us hl => match us, hl with | [_], _ => rfl) ?a ?l ?c ?k
      (case a => k_is); (case l => k_is); (case c => k_is); (case k => k_is)
    obtain ⟨a2, d2, D2⟩ : ∃ f fd, V0.Df _ mg "is_name" V0.s_is_name V0.P_is_name f fd := by
      refine' V0.df_mk KX G (fun _ _ _ _ _ _ us hl => match us, hl with | [_], _ => rfl) ?a ?l ?c ?k
      (case a => k_is); (case l => k_is); (case c => k_is); (case k => k_is)
    obtain ⟨a3, d3, D3⟩ : ∃ f fd, V0.Df _ mg "reduced" V0.s_reduced V0.P_reduced f fd := by
      refine' V0.df_mk KX G (fun _ _ _ _ _ _ us hl => match us, hl with | [_, _], _ => rfl) ?a ?l ?c ?k
      (case a => k_is); (case l => k_is); (case c => k_is); (case k => k_is)
    obtain ⟨a4, d4, D4⟩ : ∃ f fd, V0.Df _ mg "integer_text" V0.s_integer_text V0.P_integer_text f fd := by
      refine' V0.df_mk KX G (fun _ _ _ _ _ _ us hl => match us, hl with | [_], _ => rfl) ?a ?l ?c ?k
      (case a => k_is); (case l => k_is); (case c => k_is); (case k => k_is)
    obtain ⟨a5, d5, D5⟩ : ∃ f fd, V0.Df _ mg "fraction_text" V0.s_fraction_text V0.P_fraction_text f fd := by
      refine' V0.df_mk KX G (fun _ _ _ _ _ _ us hl => match us, hl with | [_, _], _ => rfl) ?a ?l ?c ?k
      (case a => k_is); (case l => k_is); (case c => k_is); (case k => k_is)
    obtain ⟨a6, d6, D6⟩ : ∃ f fd, V0.Df _ mg "is_group_of" V0.s_is_group_of V0.P_is_group_of f fd := by
      refine' V0.df_mk KX G (fun _ _ _ _ _ _ us hl => match us, hl with | [_, _], _ => rfl) ?a ?l ?c ?k
      (case a => k_is); (case l => k_is); (case c => k_is); (case k => k_is)
    obtain ⟨a7, d7, D7⟩ : ∃ f fd, V0.Df _ mg "charge_over" V0.s_charge_over V0.P_charge_over f fd := by
      refine' V0.df_mk KX G (fun _ _ _ _ _ _ us hl => match us, hl with | [_, _], _ => rfl) ?a ?l ?c ?k
      (case a => k_is); (case l => k_is); (case c => k_is); (case k => k_is)
    obtain ⟨a8, d8, D8⟩ : ∃ f fd, V0.Df _ mg "_are_pays" V0.s__are_pays V0.P__are_pays f fd := by
      refine' V0.df_mk KX G (fun _ _ _ _ _ _ us hl => match us, hl with | [_], _ => rfl) ?a ?l ?c ?k
      (case a => k_is); (case l => k_is); (case c => k_is); (case k => k_is)
    obtain ⟨a9, d9, D9⟩ : ∃ f fd, V0.Df _ mg "_shared_divisor" V0.s__shared_divisor V0.P__shared_divisor f fd := by
      refine' V0.df_mk KX G (fun _ _ _ _ _ _ us hl => match us, hl with | [_, _], _ => rfl) ?a ?l ?c ?k
      (case a => k_is); (case l => k_is); (case c => k_is); (case k => k_is)
    obtain ⟨a10, d10, D10⟩ : ∃ f fd, V0.Df _ mg "_law_pot" V0.s_pot V0.P_pot f fd := by
      refine' V0.df_mk KX G (fun _ _ _ _ _ _ us hl => match us, hl with | [_, _], _ => rfl) ?a ?l ?c ?k
      (case a => k_is); (case l => k_is); (case c => k_is); (case k => k_is)
    obtain ⟨a11, d11, D11⟩ : ∃ f fd, V0.Df _ mg "_law_stir" V0.s_stir V0.P_stir f fd := by
      refine' V0.df_mk KX G (fun _ _ _ _ _ _ us hl => match us, hl with | [_, _], _ => rfl) ?a ?l ?c ?k
      (case a => k_is); (case l => k_is); (case c => k_is); (case k => k_is)
    obtain ⟨a12, d12, D12⟩ : ∃ f fd, V0.Df _ mg "_law_one_of" V0.s_one_of V0.P_one_of f fd := by
      refine' V0.df_mk KX G (fun _ _ _ _ _ _ us hl => match us, hl with | [_, _], _ => rfl) ?a ?l ?c ?k
      (case a => k_is); (case l => k_is); (case c => k_is); (case k => k_is)
    obtain ⟨a13, d13, D13⟩ : ∃ f fd, V0.Df _ mg "_law_shuffled" V0.s_shuffled V0.P_shuffled f fd := by
      refine' V0.df_mk KX G (fun _ _ _ _ _ _ us hl => match us, hl with | [_, _], _ => rfl) ?a ?l ?c ?k
      (case a => k_is); (case l => k_is); (case c => k_is); (case k => k_is)
    obtain ⟨a14, d14, D14⟩ : ∃ f fd, V0.Df _ mg "_law_words" V0.s_words V0.P_words f fd := by
      refine' V0.df_mk KX G (fun _ _ _ _ _ _ us hl => match us, hl with | [_, _], _ => rfl) ?a ?l ?c ?k
      (case a => k_is); (case l => k_is); (case c => k_is); (case k => k_is)
    obtain ⟨a15, d15, D15⟩ : ∃ f fd, V0.Df _ mg "_law_number" V0.s_number V0.P_number f fd := by
      refine' V0.df_mk KX G (fun _ _ _ _ _ _ us hl => match us, hl with | [_], _ => rfl) ?a ?l ?c ?k
      (case a => k_is); (case l => k_is); (case c => k_is); (case k => k_is)
    obtain ⟨a16, d16, D16⟩ : ∃ f fd, V0.Df _ mg "_law_sums" V0.s_sums V0.P_sums f fd := by
      refine' V0.df_mk KX G (fun _ _ _ _ _ _ us hl => match us, hl with | [_, _], _ => rfl) ?a ?l ?c ?k
      (case a => k_is); (case l => k_is); (case c => k_is); (case k => k_is)
    obtain ⟨a17, d17, D17⟩ : ∃ f fd, V0.Df _ mg "_law_made_charge" V0.s_made_charge V0.P_made_charge f fd := by
      refine' V0.df_mk KX G (fun _ _ _ _ _ _ us hl => match us, hl with | [_], _ => rfl) ?a ?l ?c ?k
      (case a => k_is); (case l => k_is); (case c => k_is); (case k => k_is)
    obtain ⟨a18, d18, D18⟩ : ∃ f fd, V0.Df _ mg "_law_low" V0.s_low V0.P_low f fd := by
      refine' V0.df_mk KX G (fun _ _ _ _ _ _ us hl => match us, hl with | [_, _], _ => rfl) ?a ?l ?c ?k
      (case a => k_is); (case l => k_is); (case c => k_is); (case k => k_is)
    obtain ⟨a19, d19, D19⟩ : ∃ f fd, V0.Df _ mg "_law_paid" V0.s_paid V0.P_paid f fd := by
      refine' V0.df_mk KX G (fun _ _ _ _ _ _ us hl => match us, hl with | [_, _], _ => rfl) ?a ?l ?c ?k
      (case a => k_is); (case l => k_is); (case c => k_is); (case k => k_is)
    obtain ⟨a20, d20, D20⟩ : ∃ f fd, V0.Df _ mg "_law_common" V0.s_common V0.P_common f fd := by
      refine' V0.df_mk KX G (fun _ _ _ _ _ _ us hl => match us, hl with | [_], _ => rfl) ?a ?l ?c ?k
      (case a => k_is); (case l => k_is); (case c => k_is); (case k => k_is)
    obtain ⟨a21, d21, D21⟩ : ∃ f fd, V0.Df _ mg "_law_fraction_text" V0.s_lfraction_text V0.P_lfraction_text f fd := by
      refine' V0.df_mk KX G (fun _ _ _ _ _ _ us hl => match us, hl with | [_], _ => rfl) ?a ?l ?c ?k
      (case a => k_is); (case l => k_is); (case c => k_is); (case k => k_is)
    obtain ⟨a22, d22, D22⟩ : ∃ f fd, V0.Df _ mg "_law_told_charge" V0.s_told_charge V0.P_told_charge f fd := by
      refine' V0.df_mk KX G (fun _ _ _ _ _ _ us hl => match us, hl with | [_, _], _ => rfl) ?a ?l ?c ?k
      (case a => k_is); (case l => k_is); (case c => k_is); (case k => k_is)
    obtain ⟨a23, d23, D23⟩ : ∃ f fd, V0.Df _ mg "_law_is_told" V0.s_is_told V0.P_is_told f fd := by
      refine' V0.df_mk KX G (fun _ _ _ _ _ _ us hl => match us, hl with | [_, _], _ => rfl) ?a ?l ?c ?k
      (case a => k_is); (case l => k_is); (case c => k_is); (case k => k_is)
    obtain ⟨a24, d24, D24⟩ : ∃ f fd, V0.Df _ mg "_law_groups_right" V0.s_groups_right V0.P_groups_right f fd := by
      refine' V0.df_mk KX G (fun _ _ _ _ _ _ us hl => match us, hl with | [_, _, _], _ => rfl) ?a ?l ?c ?k
      (case a => k_is); (case l => k_is); (case c => k_is); (case k => k_is)
    obtain ⟨a25, d25, D25⟩ : ∃ f fd, V0.Df _ mg "_law_right" V0.s_right V0.P_right f fd := by
      refine' V0.df_mk KX G (fun _ _ _ _ _ _ us hl => match us, hl with | [_], _ => rfl) ?a ?l ?c ?k
      (case a => k_is); (case l => k_is); (case c => k_is); (case k => k_is)
    obtain ⟨fd, hF, hb⟩ := V0.law_mk KX G hmg (by k_is) (by k_is) (by k_is) (by k_is)
    exact ⟨C, ad, fdd, fun n => [a0, a1, a2, a3, a4, a5, a6, a7, a8, a9, a10, a11, a12, a13, a14, a15, a16, a17, a18, a19, a20, a21, a22, a23, a24, a25].getD n 0, fun n => [d0, d1, d2, d3, d4, d5, d6, d7, d8, d9, d10, d11, d12, d13, d14, d15, d16, d17, d18, d19, d20, d21, d22, d23, d24, d25].getD n d0, fd, ⟨Zc, hB, hM, hC, D0, D1, D2, D3, D4, D5, D6, D7, D8, D9, D10, D11, D12, D13, D14, D15, D16, D17, D18, D19, D20, D21, D22, D23, D24, D25⟩, hF, hb⟩
