import PyProof.Rows.All
import Wide.All
import OpenK.AllK
import Wide.FinOn
import HandS.ForMost
import HandS.Wide
import HandS.Gcd
import HandS.IsInst
import HandS.Walk
import HandS.Conv
import HandS.Style
import PyProof.Rows.RuleB_pow
import PySem.Challenge.RW_huebill_k00_integers_names_and_fractions
import HandS.ForExc
import HandS.ExcInit
import HandS.ExcField
import KE.KExcInit
import KE.KExcLine
set_option Elab.async false
set_option linter.all false
set_option maxRecDepth 100000
set_option maxHeartbeats 4000000
namespace V0
open PySem PySem.Spec PyProof.Rows L2
/-! ### rules of my own -/
/-- a ** n of great a -/
def CPowB (i j : Int) : Prop := 0 ≤ j ∧ (Builtin.Int.intBits i : Int) * j ≤ 2 ^ 27
/-- a name of the module that holds a plain value -/
def GV (mg : Str → Option Value) (x : Str) (v : V) : Prop := ∃ u, mg x = some u ∧ RelV v u
section
variable {X : Cx}
theorem op_powB : OpR X (binaryOp .Pow) (rI CPowB fun i j => .int (i ^ j.toNat)) := opI fun _ _ _ _ _ _ _ hc q => pow_int hc.1 hc.2 q
theorem pe_gv {x : Str} {v : V} {pos : Pos} (hg : Gl X x) (h : GV X.mg x v) (hd : (x == ("__debug__" : Str)) = false := by decide) : PE X (.Name x pos) (tC v) := by
  obtain ⟨u, hm, r⟩ := h
  exact pe_glob hg hm r hd
/-- a built-in class as a value -/
theorem pe_ty {x : Str} {n : String} {pos : Pos} (hg : Gl X x) (hm : X.mg x = none) (hv : bootBuiltins x = some (.type n)) (hn : x ≠ "__name__" := by decide) (hd : (x == ("__debug__" : Str)) = false := by decide) : PE X (.Name x pos) (tC (.ty n)) := pe_bltn hg hm hv rfl hn hd
end
/-- a def of the text that stands under its own name -/
structure Df (K : PySem.W.Frag) (mg : Str → Option Value) (x : Str) (st : Stmt) (ps : List Str) (f : Addr) (fd : FuncData) : Prop where
  F : Fun K x x st f fd
  b : Binds K fd ps []
  g : mg x = some (.ref f)
/-- the built-in names -/
structure Bl (mg : Str → Option Value) : Prop where
  b_len : mg "len" = none
  b_abs : mg "abs" = none
  b_max : mg "max" = none
  b_min : mg "min" = none
  b_int : mg "int" = none
  b_bool : mg "bool" = none
  b_str : mg "str" = none
  b_tuple : mg "tuple" = none
  b_list : mg "list" = none
  b_dict : mg "dict" = none
  b_all : mg "all" = none
  b_any : mg "any" = none
  b_sum : mg "sum" = none
  b_repr : mg "repr" = none
  b_isinstance : mg "isinstance" = none
  b_range : mg "range" = none
/-- all but the object at p is as it was -/
def But (p : Addr) (H H' : Hp) : Prop := ∀ b o, H b = some o → b ≠ p → H' b = some o
theorem But.of {H H' : Hp} {p : Addr} (s : Same H H') : But p H H' := fun b o e _ => s b o e
theorem But.trans {p : Addr} {H H1 H2 : Hp} (a : But p H H1) (b : But p H1 H2) : But p H H2 := fun c o e h => b c o (a c o e h) h
theorem But.refl {p : Addr} {H : Hp} : But p H H := fun _ _ e _ => e
theorem But.upd {p : Addr} {H : Hp} {o : HO} : But p H (upd H p o) := fun b u e h => by rw [upd_ne h]; exact e
theorem But.new {p q : Addr} {H : Hp} {o : HO} (h : H q = none) : But p H (L2.upd H q o) := fun b u e _ => by rw [upd_ne (ne_of_none e h)]; exact e
theorem Same.new {q : Addr} {H : Hp} {o : HO} (h : H q = none) : Same H (upd H q o) := fun b u e => by rw [upd_ne (ne_of_none e h)]; exact e
theorem at_g {α : Type} {xs : List α} {i : Int} {v : α} (h0 : 0 ≤ i) (h : xs[i.toNat]? = some v) : atI xs i = some v := by
  obtain ⟨n, rfl⟩ : ∃ n : Nat, i = (n : Int) := ⟨i.toNat, by omega⟩
  exact atI_nat h
/-! ### kinds of values -/
inductive Kd where
  | non | bl | int | str | lst | tup | dct
  deriving DecidableEq
def Kd.nm : Kd → String
  | .non => "NoneType" | .bl => "bool" | .int => "int" | .str => "str" | .lst => "list" | .tup => "tuple" | .dct => "dict"
def Kd.is : Kd → Kd → Bool
  | .bl, .int => true
  | .non, .non => true | .bl, .bl => true | .int, .int => true | .str, .str => true | .lst, .lst => true | .tup, .tup => true | .dct, .dct => true
  | _, _ => false
inductive Kn (H : Hp) : V → Kd → Prop
  | non : Kn H .non .non
  | bl (b : Bool) : Kn H (.bl b) .bl
  | int (i : Int) : Kn H (.int i) .int
  | str (x : Str) : Kn H (.str x) .str
  | lst {a : Addr} {xs : List V} (h : H a = some (.lst xs)) : Kn H (.ref a) .lst
  | tup {a : Addr} {xs : List V} (h : H a = some (.tup xs)) : Kn H (.ref a) .tup
  | dct {a : Addr} {kvs : List (Key × V)} (h : H a = some (.dK kvs)) : Kn H (.ref a) .dct
theorem Kn.same {H H' : Hp} {x : V} {t : Kd} (s : Same H H') : Kn H x t → Kn H' x t
  | .non => .non
  | .bl b => .bl b
  | .int i => .int i
  | .str z => .str z
  | .lst h => .lst (s _ _ h)
  | .tup h => .tup (s _ _ h)
  | .dct h => .dct (s _ _ h)
theorem Kn.tyx {K : PySem.W.Frag} {H : Hp} {x : V} {t : Kd} (h : Kn H x t) : TyX K H x (.type t.nm) := by
  cases h with
  | non => exact .base .non
  | bl b => exact .base (.bl b)
  | int i => exact .base (.int i)
  | str z => exact .base (.str z)
  | lst h => exact .base (.lst h)
  | tup h => exact .base (.tup h)
  | dct h => exact .base (.dK h)
theorem kd_kit (t c : Kd) (hc : c ≠ .non) : kitB t.nm c.nm = some (t.is c) := by
  cases t <;> cases c <;> first | exact absurd rfl hc | decide +kernel
section
variable {X : Cx}
/-- isinstance(x, c), c a built-in class -/
def rIs : List V → Hp → VK → Prop := fun xs H Q => ∃ (x : V) (t c : Kd), xs = [x, .ty c.nm] ∧ Kn H x t ∧ c ≠ .non ∧ Q (.bl (t.is c)) H
theorem call_is : CallR X (.builtin "isinstance") rIs := by
  intro pins s σ H xs us Q I r h
  obtain ⟨x, t, c, rfl, k, hc, q⟩ := h
  exact call_isi pins s σ H _ us Q I r ⟨x, .ty c.nm, _, _, _, rfl, .ty _, k.tyx, kit_ty (kd_kit t c hc), q⟩
end
/-! ### the draws -/
/-- the pot of draws -/
def Pot (H : Hp) (p : Addr) : Prop := ∃ a b c : Int, H p = some (.lst [.int a, .int b, .int c]) ∧ 0 ≤ a ∧ 0 ≤ b ∧ b < 2 ^ 62 ∧ 0 ≤ c
theorem Pot.same {H H' : Hp} {p : Addr} (s : Same H H') (h : Pot H p) : Pot H' p := by
  obtain ⟨a, b, c, hp, r⟩ := h
  exact ⟨a, b, c, s _ _ hp, r⟩
def spPot (K : PySem.W.Frag) : Sp := fun vs H Q _ => ∃ (a : Addr) (ns : List Int) (j : Nat), vs = [.ref a, .int j] ∧ SqL K H a (ns.map V.int) ∧ ns.length ≤ 1000 ∧ j < 1000 ∧
  ∀ (p : Addr) (H' : Hp), H p = none → Pot H' p → Same H H' → Q (.ref p) H'
def spStir : Sp := fun vs H Q _ => ∃ (p : Addr) (t : Int), vs = [.ref p, .int t] ∧ Pot H p ∧ 0 < t ∧ t < 2 ^ 200 ∧
  ∀ (r : Int) (H' : Hp), 0 ≤ r → r < t → Pot H' p → But p H H' → Q (.int r) H'
/-- one of the items of a list, or of the signs of a text -/
def spOneOf (K : PySem.W.Frag) : Sp := fun vs H Q _ => ∃ (p : Addr) (o : V), vs = [.ref p, o] ∧ Pot H p ∧
  ((∃ (l : Addr) (xs : List V), o = .ref l ∧ l ≠ p ∧ H l = some (.lst xs) ∧ xs ≠ [] ∧ xs.length ≤ 1000 ∧ ∀ x, x ∈ xs → ∀ H', Pot H' p → But p H H' → Q x H') ∨
   (∃ z : Str, o = .str z ∧ z.length ≠ 0 ∧ z.length ≤ 1000 ∧ ∀ c, c ∈ z.cps.toList → ∀ H', Pot H' p → But p H H' → Q (.str ⟨#[c]⟩) H'))
end V0
namespace V0
open PySem PySem.Spec PyProof.Rows L2
def top (i : Nat) : Stmt := PySem.Challenge.pw_huebill_k00_integers_names_and_fractions.main.body.getD i (.Pass ⟨0, 0, 0, 0⟩)
section
variable {P : Program} {w : World} {K : PySem.W.Frag} {mg : Str → Option Value} {base : Heap}
abbrev s_pot : Stmt := top 16
abbrev N_pot : List Str := ["_law_script", "_law_at", "_law_cell", "_law_great", "_law_mixed"]
abbrev P_pot : List Str := ["_law_script", "_law_at"]
theorem sc_pot : FnScope N_pot P_pot (defScope s_pot) := ⟨rfl, rfl, rfl, by decide +kernel, rfl, by decide +kernel, by decide +kernel⟩
theorem ok_pot {f : Addr} {fd : FuncData} (B : Bl mg) (D : Df K mg "_law_pot" s_pot P_pot f fd) : FnOk P w K mg base CX0 1 f fd P_pot (spPot K) := by
  refine D.F.ok sc_pot (fun vs H Q E h => ?_) (fun cdv A outer s H vs Q E hr h => ?_)
  · obtain ⟨a, ns, j, rfl, _⟩ := h
    rfl
  · obtain ⟨a, ns, j, rfl, hS, hl, hj, k⟩ := h
    refine ⟨_, (pss_cons (ps_set (i := 2) sc_pot.nd rfl (Or.inl rfl) (pe_ifExp (pt_cmpR op_lt (pv 1) (pe_callB call_len_seq (by rfl) B.b_len (by decide +kernel) (pa_cons (pv 0) pa_nil)) (nomark _)) (pe_ix ix_list (pv 0) (pv 1) (fun _ _ => rfl)) (pe_op op_add (pe_op op_mul pe_int (pv 1)) pe_int)))
      (pss_cons (ps_set (i := 3) sc_pot.nd rfl (Or.inl rfl) (pe_op op_mod (pe_callTy call_int1 (by rfl) B.b_int (by decide +kernel) (pa_cons (pe_callB call_abs (by rfl) B.b_abs (by decide +kernel) (pa_cons (pv 2) pa_nil)) pa_nil)) (pe_op op_powB (pe_op op_pow pe_int pe_int) pe_int)))
      (pss_cons (ps_set (i := 4) sc_pot.nd rfl (Or.inl rfl) (pe_op op_add (pe_op op_add (pe_op op_add (pe_op op_mul (pe_op op_mod (pe_callTy call_int1 (by rfl) B.b_int (by decide +kernel) (pa_cons (pv 3) pa_nil)) pe_int) pe_int) (pe_op op_mul pe_int (pv 1))) (pe_op op_mul pe_int (pe_callTy call_int1 (by rfl) B.b_int (by decide +kernel) (pa_cons (pe_cmpR op_lt (pv 2) pe_int (nomark _)) pa_nil)))) pe_int))
      (pss_one (ps_ret (pe_lst (pa_cons (pe_callB (call_max2 rfl) (by rfl) B.b_max (by decide +kernel) (pa_cons pe_int (pa_cons (pe_op op_sub (pv 3) (pe_op op_pow pe_int pe_int)) pa_nil))) (pa_cons (pe_op op_mod (pe_callTy call_int1 (by rfl) B.b_int (by decide +kernel) (pa_cons (pv 4) pa_nil)) pe_int) (pa_cons pe_int pa_nil))))))))), ?_⟩
    -- cell: any int
    refine ⟨_, rfl, _, rfl, a, _, rfl, .inl hS, _, _, rfl, rfl, _, rfl, ?_⟩
    refine ite2 (fun e => ?_) (fun e => ?_)
    all_goals first
      | (have hlt : j < ns.length := by
          have e' := of_decide_eq_true e
          rw [List.length_map] at e'
          omega
         refine ⟨_, rfl, _, rfl, a, _, _, .int ns[j], rfl, rfl, hS, at_of (j := j) rfl (by rw [List.getElem?_map, List.getElem?_eq_getElem hlt]; rfl), ?_⟩
         generalize ns[j] = z)
      | (refine ⟨_, rfl, _, _, rfl, rfl, .inl ⟨by decide, by decide⟩, _, _, rfl, rfl, ?_⟩
         generalize 97 * (j : Int) + 59 = z)
    all_goals (
      -- great, mixed, the pot
      refine ⟨_, rfl, _, rfl, .inl ⟨_, rfl, _, _, rfl, rfl, ⟨by decide, by decide, by decide⟩, _, _, rfl, rfl, ⟨by decide, by decide +kernel⟩, _, _, rfl, rfl, (by show (0 : Int) < _; decide +kernel), ?_⟩⟩
      generalize hg : (if z < 0 then -z else z) % ((10 ^ Int.toNat 59) ^ Int.toNat 9) = g
      refine ⟨_, rfl, .inl ⟨_, rfl, _, _, rfl, rfl, (by show (0 : Int) < 2305843009213693921; decide), _, _, rfl, rfl, .inr ⟨by decide, by decide⟩, _, rfl, _, _, rfl, rfl, .inl ⟨by decide, by decide⟩, _, _, rfl, rfl, _, rfl, _, _, rfl, rfl, .inr ⟨_, rfl, _, _, rfl, rfl, .inl ⟨by decide, by decide⟩, _, _, rfl, rfl, _, _, rfl, rfl, ?_⟩⟩⟩
      refine ⟨_, rfl, _, _, rfl, rfl, ⟨by decide, by decide, by decide⟩, _, _, rfl, rfl, _, _, rfl, _, rfl, .inl ⟨_, rfl, _, _, rfl, rfl, (by show (0 : Int) < 2305843009213693951; decide), (by show 3 ≤ sizeLine; decide), fun p hp => ?_⟩⟩
      refine k p _ hp ⟨_, _, _, upd_same, ?_, Int.emod_nonneg _ (by decide), ?_, by decide⟩ (Same.new hp)
      · split <;> omega
      · exact Int.lt_of_lt_of_le (Int.emod_lt_of_pos _ (by decide)) (by decide))
abbrev s_stir : Stmt := top 17
abbrev N_stir : List Str := ["_law_pot_here", "_law_total", "_law_found", "_law_one", "_law_two"]
abbrev P_stir : List Str := ["_law_pot_here", "_law_total"]
theorem sc_stir : FnScope N_stir P_stir (defScope s_stir) := ⟨rfl, rfl, rfl, by decide +kernel, rfl, by decide +kernel, by decide +kernel⟩
theorem ok_stir {f : Addr} {fd : FuncData} (B : Bl mg) (D : Df K mg "_law_stir" s_stir P_stir f fd) : FnOk P w K mg base CX0 1 f fd P_stir spStir := by
  refine D.F.ok sc_stir (fun vs H Q E h => ?_) (fun cdv A outer s H vs Q E hr h => ?_)
  · obtain ⟨p, t, rfl, _⟩ := h
    rfl
  · obtain ⟨p, t, rfl, ⟨a, b, c, hp, ha, hb, hb2, hc⟩, ht, ht2, k⟩ := h
    refine ⟨_, (pss_cons (ps_if (pt_cmpR op_gt (pe_ix ix_list (pv 0) pe_int (fun _ _ => rfl)) pe_int (nomark _)) (pss_cons (ps_set (i := 2) sc_stir.nd rfl (Or.inl rfl) (pe_op op_mod (pe_callTy call_int1 (by rfl) B.b_int (by decide +kernel) (pa_cons (pe_ix ix_list (pv 0) pe_int (fun _ _ => rfl)) pa_nil)) (pv 1)))
      (pss_cons (ps_asg (pe_op op_fdivW (pe_ix ix_list (pv 0) pe_int (fun _ _ => rfl)) (pv 1)) (pg_sub (pv 0) pe_int set_list))
      (pss_one (ps_ret (pv 2))))) pss_nil)
      (pss_cons (ps_asg (pe_op op_add (pe_ix ix_list (pv 0) pe_int (fun _ _ => rfl)) pe_int) (pg_sub (pv 0) pe_int set_list))
      (pss_cons (ps_set (i := 3) sc_stir.nd rfl (Or.inl rfl) (pe_op op_mod (pe_callTy call_int1 (by rfl) B.b_int (by decide +kernel) (pa_cons (pe_op op_add (pe_ix ix_list (pv 0) pe_int (fun _ _ => rfl)) (pe_op op_mul pe_int (pe_ix ix_list (pv 0) pe_int (fun _ _ => rfl)))) pa_nil)) pe_int))
      (pss_cons (ps_set (i := 4) sc_stir.nd rfl (Or.inl rfl) (pe_op op_add (pe_op op_mul (pe_op op_mod (pe_callTy call_int1 (by rfl) B.b_int (by decide +kernel) (pa_cons (pe_op op_mul (pv 3) (pv 3)) pa_nil)) pe_int) (pv 3)) (pe_op op_mul pe_int (pe_ix ix_list (pv 0) pe_int (fun _ _ => rfl)))))
      (pss_one (ps_ret (pe_op op_mod (pe_callTy call_int1 (by rfl) B.b_int (by decide +kernel) (pa_cons (pe_op op_fdivW (pe_op op_mod (pe_callTy call_int1 (by rfl) B.b_int (by decide +kernel) (pa_cons (pv 4) pa_nil)) pe_int) pe_int) pa_nil)) (pv 1)))))))), ?_⟩
    -- if pot[0] > 0
    refine ⟨_, rfl, p, _, 0, .int a, rfl, rfl, SqL.of hp, rfl, _, _, rfl, rfl, _, rfl, ite2 (fun e => ?_) (fun e => ?_)⟩
    · -- found = pot[0] % total; pot[0] = pot[0] // total; return found
      refine ⟨_, rfl, p, _, 0, .int a, rfl, rfl, SqL.of hp, rfl, .inl ⟨_, rfl, ?_⟩⟩
      refine ⟨_, rfl, _, _, rfl, rfl, ht, ?_⟩
      refine ⟨_, rfl, p, _, 0, .int a, rfl, rfl, SqL.of hp, rfl, _, rfl, _, _, rfl, rfl, wide_div ht (b := 200) (by omega) (by decide) (by decide), ?_⟩
      refine ⟨_, rfl, p, _, 0, 0, rfl, rfl, hp, rfl, ?_⟩
      refine ⟨_, rfl, ?_⟩
      exact k _ _ (Int.emod_nonneg _ (by omega)) (Int.emod_lt_of_pos _ ht) ⟨a / t, b, c, upd_same, Int.ediv_nonneg ha (by omega), hb, hb2, hc⟩ But.upd
    · -- pot[2] = pot[2] + 1
      refine ⟨_, rfl, p, _, 2, .int c, rfl, rfl, SqL.of hp, rfl, _, _, rfl, rfl, _, rfl, p, _, 2, 2, rfl, rfl, hp, rfl, ?_⟩
      have hp2 : (upd H p (.lst [.int a, .int b, .int (c + 1)])) p = some (.lst [.int a, .int b, .int (c + 1)]) := upd_same
      -- one = int(pot[1] + 1048583 * pot[2]) % ..
      refine ⟨_, rfl, p, _, 1, .int b, rfl, rfl, SqL.of hp2, rfl, _, rfl, p, _, 2, .int (c + 1), rfl, rfl, SqL.of hp2, rfl, _, _, rfl, rfl, .inl ⟨by decide, by decide⟩, _, _, rfl, rfl, .inl ⟨_, rfl, _, _, rfl, rfl, (by show (0 : Int) < 2305843009213693951; decide), ?_⟩⟩
      generalize hx : (b + 1048583 * (c + 1)) % 2305843009213693951 = x
      have x0 : 0 ≤ x := by rw [← hx]; exact Int.emod_nonneg _ (by decide)
      have x1 : x < 2305843009213693951 := by rw [← hx]; exact Int.emod_lt_of_pos _ (by decide)
      -- two = int(one * one) % .. * one + 8101 * pot[2]
      refine ⟨_, rfl, _, rfl, _, _, rfl, rfl, .inl ⟨by omega, by omega⟩, .inl ⟨_, rfl, _, _, rfl, rfl, (by show (0 : Int) < 2305843009213693907; decide), ?_⟩⟩
      have y1 : (x * x) % 2305843009213693907 < 2305843009213693907 := Int.emod_lt_of_pos _ (by decide)
      have y0 : 0 ≤ (x * x) % 2305843009213693907 := Int.emod_nonneg _ (by decide)
      refine ⟨_, rfl, _, _, rfl, rfl, .inl ⟨by omega, by omega⟩, _, rfl, p, _, 2, .int (c + 1), rfl, rfl, SqL.of hp2, rfl, _, _, rfl, rfl, .inl ⟨by decide, by decide⟩, _, _, rfl, rfl, ?_⟩
      -- return int(int(two) % .. // 16384) % total
      refine ⟨_, rfl, .inl ⟨_, rfl, _, _, rfl, rfl, (by show (0 : Int) < 2305843009213693921; decide), _, _, rfl, rfl, ⟨by decide, by decide⟩, .inl ⟨_, rfl, _, rfl, _, _, rfl, rfl, ht, ?_⟩⟩⟩
      exact k _ _ (Int.emod_nonneg _ (by omega)) (Int.emod_lt_of_pos _ ht) ⟨a, b, c + 1, hp2, ha, hb, hb2, by omega⟩ But.upd
end
end V0
namespace V0
open PySem PySem.Spec PyProof.Rows L2
section
variable {P : Program} {w : World} {K : PySem.W.Frag} {mg : Str → Option Value} {base : Heap}
abbrev s_one_of : Stmt := top 18
abbrev N_one_of : List Str := ["_law_pot_here", "_law_items"]
abbrev P_one_of : List Str := ["_law_pot_here", "_law_items"]
theorem sc_one_of : FnScope N_one_of P_one_of (defScope s_one_of) := ⟨rfl, rfl, rfl, by decide +kernel, rfl, by decide +kernel, by decide +kernel⟩
theorem ok_one_of {f f1 : Addr} {fd fd1 : FuncData} (B : Bl mg) (D_stir : Df K mg "_law_stir" s_stir P_stir f1 fd1) (D : Df K mg "_law_one_of" s_one_of P_one_of f fd) : FnOk P w K mg base CX0 2 f fd P_one_of (spOneOf K) := by
  have G_stir : FnOk P w K mg base CX0 1 f1 fd1 P_stir spStir := ok_stir B D_stir
  refine D.F.ok sc_one_of (fun vs H Q E h => ?_) (fun cdv A outer s H vs Q E hr h => ?_)
  · obtain ⟨p, o, rfl, _⟩ := h
    rfl
  · obtain ⟨p, o, rfl, hp, ⟨l, xs, rfl, hlp, hl, hne, hn, k⟩ | ⟨z, rfl, hne, hn, k⟩⟩ := h
    · refine ⟨_, (pss_one (ps_ret (pe_ix ix_seq (pv 1) (pe_call G_stir (hr.mono (by decide)) (by rfl) D_stir.g D_stir.F.kp D_stir.b .nil pass0 (pa_cons (pv 0) (pa_cons (pe_callB call_len (by rfl) B.b_len (by decide +kernel) (pa_cons (pv 1) pa_nil)) pa_nil))) (fun _ _ => rfl)))), ?_⟩
      have h0 : 0 < xs.length := List.length_pos_iff.mpr hne
      refine ⟨_, rfl, _, rfl, _, rfl, _, xs.length, rfl, .inl ⟨_, SqL.of hl, rfl⟩, p, _, rfl, hp, by omega, by omega, fun r H' r0 r1 hp' hb => ?_⟩
      have hr : r.toNat < xs.length := by omega
      exact .inl ⟨l, xs, r, xs[r.toNat], rfl, rfl, SqL.of (hb _ _ hl hlp), at_of (j := r.toNat) (by omega) (List.getElem?_eq_getElem hr), k _ (List.getElem_mem hr) H' hp' hb⟩
    · refine ⟨_, (pss_one (ps_ret (pe_ix ix_seq (pv 1) (pe_call G_stir (hr.mono (by decide)) (by rfl) D_stir.g D_stir.F.kp D_stir.b .nil pass0 (pa_cons (pv 0) (pa_cons (pe_callB call_len (by rfl) B.b_len (by decide +kernel) (pa_cons (pv 1) pa_nil)) pa_nil))) (fun _ _ => rfl)))), ?_⟩
      have hz : (1000 : Nat) ≤ sizeLine := by decide
      refine ⟨_, rfl, _, rfl, _, rfl, _, z.length, rfl, ⟨by omega, rfl⟩, p, _, rfl, hp, by omega, by omega, fun r H' r0 r1 hp' hb => ?_⟩
      have hl : z.cps.toList.length = z.length := rfl
      have hr : r.toNat < z.cps.toList.length := by omega
      refine .inr (.inr ⟨z, r, z.cps.toList[r.toNat], rfl, rfl, by omega, ?_, k _ (List.getElem_mem hr) H' hp' hb⟩)
      exact at_g r0 (List.getElem?_eq_getElem hr)
end
end V0
namespace V0
open PySem PySem.Spec PyProof.Rows L2
/-! ### what the judges of huebill.base.numbers say, by values -/
def TL : Int := 10 ^ 60
def intB : V → Bool
  | .int i => decide (i.natAbs < 10 ^ 60)
  | _ => false
def low26 (c : Nat) : Bool := decide (97 ≤ c ∧ c ≤ 122)
def nameB : V → Bool
  | .str z => decide (1 ≤ z.length ∧ z.length ≤ 8) && z.cps.toList.all low26
  | _ => false
/-- of the items of a tuple -/
def fracL : List V → Bool
  | [.int i, .int j] => decide (i.natAbs < 10 ^ 60) && (decide (j.natAbs < 10 ^ 60) && (decide (1 ≤ j) && decide (Nat.gcd i.natAbs j.natAbs = 1)))
  | _ => false
def LET : Str := "abcdefghijklmnopqrstuvwxyz"
theorem let_is : LET.cps.toList = [97, 98, 99, 100, 101, 102, 103, 104, 105, 106, 107, 108, 109, 110, 111, 112, 113, 114, 115, 116, 117, 118, 119, 120, 121, 122] := by decide +kernel
theorem let_low (c : Nat) : decide (c ∈ LET.cps.toList) = low26 c := by
  rw [let_is]
  unfold low26
  apply decide_eq_decide.mpr
  simp only [List.mem_cons, List.not_mem_nil, or_false]
  omega
theorem abs_lt (i : Int) : decide ((if i < 0 then -i else i) < TL) = intB (.int i) := by
  unfold intB TL
  apply decide_eq_decide.mpr
  split <;> omega
theorem take_one {α : Type} {l : List α} {i : Nat} {x : α} (h : l[i]? = some x) : l.take (i + 1) = l.take i ++ [x] := by
  rw [List.take_add_one, h]
  rfl
/-- the module's values -/
structure Nm (mg : Str → Option Value) : Prop where
  g__TOO_LONG : GV mg "_TOO_LONG" (.int TL)
  g_MAX_NAME : GV mg "MAX_NAME" (.int 8)
  g_MAX_DIGITS : GV mg "MAX_DIGITS" (.int 60)
  g_MAX_THINGS : GV mg "MAX_THINGS" (.int 8)
  g__LETTERS : GV mg "_LETTERS" (.str LET)
  g_gcd : mg "gcd" = some (.builtin "math.gcd")
def spIsWhole : Sp := fun vs H Q _ => ∃ (x : V) (t : Kd), vs = [x] ∧ Kn H x t ∧ Q (.bl (decide (t = .int))) H
def spIsInteger : Sp := fun vs H Q _ => ∃ (x : V) (t : Kd), vs = [x] ∧ Kn H x t ∧ Q (.bl (intB x)) H
def spIsName : Sp := fun vs H Q _ => ∃ (x : V) (t : Kd), vs = [x] ∧ Kn H x t ∧ (∀ z, x = .str z → z.length ≤ 1000) ∧ ∀ H', Same H H' → Q (.bl (nameB x)) H'
/-- what is_fraction says of a value of this kind -/
inductive Fr (H : Hp) : V → Bool → Prop
  | no {x : V} {t : Kd} (h : Kn H x t) (ht : t ≠ .tup) : Fr H x false
  | tup {a : Addr} {xs : List V} (h : H a = some (.tup xs)) (k : ∀ x ∈ xs, ∃ t, Kn H x t) : Fr H (.ref a) (fracL xs)
theorem Fr.same {H H' : Hp} {x : V} {b : Bool} (s : Same H H') (f : Fr H x b) : Fr H' x b := by
  cases f with
  | no h ht => exact .no (h.same s) ht
  | tup h k => exact .tup (s _ _ h) fun x hx => let ⟨t, z⟩ := k x hx; ⟨t, z.same s⟩
def spIsFraction : Sp := fun vs H Q _ => ∃ (x : V) (b : Bool), vs = [x] ∧ Fr H x b ∧ Q (.bl b) H
def spReduced : Sp := fun vs H Q _ => ∃ (i j : Int), vs = [.int i, .int j] ∧ j ≠ 0 ∧ i.natAbs < 2 ^ 2000 ∧ j.natAbs < 2 ^ 2000 ∧
  ∀ p, H p = none → Q (.ref p) (upd H p (.tup [.int (if j < 0 then -(i / (Nat.gcd i.natAbs j.natAbs : Nat)) else i / (Nat.gcd i.natAbs j.natAbs : Nat)), .int (j.natAbs / Nat.gcd i.natAbs j.natAbs : Nat)]))
/-- the items of a pair that is none of two great ints -/
theorem frac_of (x y : V) (hx : intB x = false ∨ intB y = false) : fracL [x, y] = false := by
  unfold fracL
  split
  · rename_i i j e
    cases e
    rcases hx with h | h
    · rw [show decide (i.natAbs < 10 ^ 60) = false from h]; rfl
    · rw [show decide (j.natAbs < 10 ^ 60) = false from h]; simp
  · rfl
theorem frac_len {xs : List V} (h : xs.length ≠ 2) : fracL xs = false := by
  unfold fracL
  split
  · exact absurd rfl h
  · rfl
theorem intB_int {x : V} (h : intB x = true) : ∃ i, x = .int i ∧ i.natAbs < 10 ^ 60 := by
  cases x with
  | int i => exact ⟨i, rfl, of_decide_eq_true h⟩
  | _ => cases h
section
variable {P : Program} {w : World} {K : PySem.W.Frag} {mg : Str → Option Value} {base : Heap}
abbrev s_is_whole : Stmt := top 9
abbrev N_is_whole : List Str := ["value"]
abbrev P_is_whole : List Str := ["value"]
theorem sc_is_whole : FnScope N_is_whole P_is_whole (defScope s_is_whole) := ⟨rfl, rfl, rfl, by decide +kernel, rfl, by decide +kernel, by decide +kernel⟩
theorem ok_is_whole {f : Addr} {fd : FuncData} (B : Bl mg) (D : Df K mg "is_whole" s_is_whole P_is_whole f fd) : FnOk P w K mg base CX0 1 f fd P_is_whole spIsWhole := by
  refine D.F.ok sc_is_whole (fun vs H Q E h => ?_) (fun cdv A outer s H vs Q E hr h => ?_)
  · obtain ⟨x, t, rfl, _⟩ := h
    rfl
  · obtain ⟨x, t, rfl, hk, k⟩ := h
    refine ⟨_, (pss_one (ps_ret (pe_and (pe_callB call_is (by rfl) B.b_isinstance (by decide +kernel) (pa_cons (pv 0) (pa_cons (pe_ty (n := "int") (by rfl) B.b_int (by decide +kernel)) pa_nil))) (pe_one (pe_not (pe_callB call_is (by rfl) B.b_isinstance (by decide +kernel) (pa_cons (pv 0) (pa_cons (pe_ty (n := "bool") (by rfl) B.b_bool (by decide +kernel)) pa_nil)))))))), ?_⟩
    refine ⟨_, rfl, x, t, .int, rfl, hk, by decide, _, rfl, ?_⟩
    cases hk with
    | int i => exact iteT ⟨_, rfl, _, .int, .bl, rfl, .int i, by decide, _, rfl, k⟩
    | bl b => exact iteT ⟨_, rfl, _, .bl, .bl, rfl, .bl b, by decide, _, rfl, k⟩
    | _ => exact iteF k
abbrev s_is_integer : Stmt := top 10
abbrev N_is_integer : List Str := ["value"]
abbrev P_is_integer : List Str := ["value"]
theorem sc_is_integer : FnScope N_is_integer P_is_integer (defScope s_is_integer) := ⟨rfl, rfl, rfl, by decide +kernel, rfl, by decide +kernel, by decide +kernel⟩
theorem ok_is_integer {f f1 : Addr} {fd fd1 : FuncData} (B : Bl mg) (C : Nm mg) (D_is_whole : Df K mg "is_whole" s_is_whole P_is_whole f1 fd1) (D : Df K mg "is_integer" s_is_integer P_is_integer f fd) :
    FnOk P w K mg base CX0 2 f fd P_is_integer spIsInteger := by
  have G_is_whole : FnOk P w K mg base CX0 1 f1 fd1 P_is_whole spIsWhole := ok_is_whole B D_is_whole
  refine D.F.ok sc_is_integer (fun vs H Q E h => ?_) (fun cdv A outer s H vs Q E hr h => ?_)
  · obtain ⟨x, t, rfl, _⟩ := h
    rfl
  · obtain ⟨x, t, rfl, hk, k⟩ := h
    refine ⟨_, (pss_one (ps_ret (pe_and (pe_call G_is_whole (hr.mono (by decide)) (by rfl) D_is_whole.g D_is_whole.F.kp D_is_whole.b .nil pass0 (pa_cons (pv 0) pa_nil)) (pe_one (pe_cmpR op_lt (pe_callB call_abs (by rfl) B.b_abs (by decide +kernel) (pa_cons (pv 0) pa_nil)) (pe_gv rfl C.g__TOO_LONG) (nomark _)))))), ?_⟩
    refine ⟨_, rfl, x, t, rfl, hk, _, rfl, ?_⟩
    cases hk with
    | int i =>
      refine iteT ⟨_, rfl, _, rfl, _, _, rfl, rfl, ?_⟩
      show Q (.bl (decide ((if i < 0 then -i else i) < TL))) H
      rw [abs_lt]
      exact k
    | _ => exact iteF k
abbrev s_is_name : Stmt := top 11
abbrev N_is_name : List Str := ["value", "letter"]
abbrev P_is_name : List Str := ["value"]
theorem sc_is_name : FnScope N_is_name P_is_name (defScope s_is_name) := ⟨rfl, rfl, rfl, by decide +kernel, rfl, by decide +kernel, by decide +kernel⟩
theorem ok_is_name {f : Addr} {fd : FuncData} (B : Bl mg) (C : Nm mg) (D : Df K mg "is_name" s_is_name P_is_name f fd) : FnOk P w K mg base CX0 1 f fd P_is_name spIsName := by
  refine D.F.ok sc_is_name (fun vs H Q E h => ?_) (fun cdv A outer s H vs Q E hr h => ?_)
  · obtain ⟨x, t, rfl, _⟩ := h
    rfl
  · obtain ⟨x, t, rfl, hk, hz, k⟩ := h
    refine ⟨_, (pss_cons (ps_if (PW.pt (pw_or (pt_not (pt_val (pe_callB call_is (by rfl) B.b_isinstance (by decide +kernel) (pa_cons (pv 0) (pa_cons (pe_ty (n := "str") (by rfl) B.b_str (by decide +kernel)) pa_nil))))) (pw_or1 (pt_not (pt_chain op_le op_le pe_int (pe_callB call_len (by rfl) B.b_len (by decide +kernel) (pa_cons (pv 0) pa_nil)) (pe_gv rfl C.g_MAX_NAME)))))) (pss_one (ps_ret pe_bl)) pss_nil)
      (pss_one (ps_ret (pe_callB (cr_all rfl) (by rfl) B.b_all (by decide +kernel) (pa_cons (pe_lc (own := [("letter", 1)]) (g := gName 1) (tt := tYes) rfl sc_is_name.nd (pi_str (pv 0)) (blkOk_by (own := [("letter", 1)]) (N := N_is_name) (sc := defScope s_is_name) (by decide +kernel)) (fun _ _ _ _ _ => (pg_name (i := 1) sc_is_name.nd rfl (Or.inl rfl))) (fun _ _ _ _ _ => pts_nil) (fun _ _ _ _ _ => (pe_cmpR op_in_sign (pv 1) (pe_gv rfl C.g__LETTERS) (by rfl)))) pa_nil))))), ?_⟩
    refine ⟨_, rfl, x, t, .str, rfl, hk, by decide, _, rfl, ?_⟩
    cases hk with
    | str z =>
      have hz := hz z rfl
      have hl : (1000 : Nat) ≤ sizeLine := by decide
      have hk : nameB (.str z) = (decide (1 ≤ z.length ∧ z.length ≤ 8) && z.cps.toList.all low26) := rfl
      refine iteF ⟨_, rfl, _, z.length, rfl, ⟨by omega, rfl⟩, _, _, rfl, rfl, _, rfl, ?_⟩
      refine ite2 (fun e1 => ?_) (fun e1 => ?_)
      · have e1' := of_decide_eq_true e1
        refine ⟨_, _, rfl, rfl, _, rfl, ite2 (fun e2 => ?_) (fun e2 => ?_)⟩
        · have e2' : ¬ (z.length : Int) ≤ 8 := fun q => by
            rw [decide_eq_true q] at e2
            exact Bool.false_ne_true e2
          have ek : nameB (.str z) = false := by
            rw [hk, decide_eq_false (by omega)]
            rfl
          rw [ek] at k
          exact k H (Same.refl H)
        · have e2' : (z.length : Int) ≤ 8 := by
            cases hd : decide ((z.length : Int) ≤ 8) with
            | true => exact of_decide_eq_true hd
            | false =>
              rw [hd] at e2
              exact absurd rfl e2
          have ek : nameB (.str z) = z.cps.toList.all low26 := by
            rw [hk, decide_eq_true (by omega)]
            rfl
          rw [ek] at k
          refine ⟨_, rfl, z, rfl, fun L hL => ?_⟩
          refine lc_it walk_str (fun i H' => Same H H' ∧ H' L = some (.lst (((z.cps.toList.take i).map low26).map V.bl))) ⟨Same.new hL, upd_same⟩ (fun _ _ _ _ => trivial) ?_ ?_
          · rintro i x H1 H2 hi ⟨s1, h1⟩ ⟨rfl, c, hc, rfl⟩
            have hc' : z.cps.toList[i]? = some c := by rw [Array.getElem?_toList]; exact hc
            refine ⟨rfl, _, rfl, c, LET, rfl, rfl, _, h1, ?_, ?_, ?_⟩
            · rw [List.length_map, List.length_map, List.length_take]
              have hl2 : z.cps.toList.length = z.length := rfl
              omega
            · exact fun b o e => by rw [upd_ne (ne_of_none e hL)]; exact s1 b o e
            · rw [upd_same, let_low, take_one hc', List.map_append, List.map_append]
              rfl
          · rintro H1 ⟨s1, h1⟩
            have et : z.cps.toList.take z.cps.size = z.cps.toList := List.take_of_length_le (by rw [Array.length_toList]; exact Nat.le_refl _)
            rw [et] at h1
            refine ⟨L, _, rfl, SqL.of h1, ?_⟩
            have ea : (z.cps.toList.map low26).all id = z.cps.toList.all low26 := by rw [List.all_map]; rfl
            rw [ea]
            exact k H1 s1
      · have e1' : ¬ (1 : Int) ≤ z.length := fun q => e1 (decide_eq_true q)
        have ek : nameB (.str z) = false := by
          rw [hk, decide_eq_false (by omega)]
          rfl
        rw [ek] at k
        exact ⟨_, rfl, iteT (k H (Same.refl H))⟩
    | _ => exact iteT (iteT (k H (Same.refl H)))
end
end V0
namespace V0
open PySem PySem.Spec PyProof.Rows L2
/-- // by any divisor but 0, below 2 ^ 9000 -/
def CDivZ (_ j : Int) : Prop := j ≠ 0 ∧ j.natAbs.log2 < 9000
section
variable {X : Cx}
theorem op_fdivZ : OpR X (binaryOp .FloorDiv) (rI CDivZ fun i j => .int (i.fdiv j)) := opI fun _ _ _ _ _ _ _ hc q => floordiv_int hc.1 q (.inl (PyProof.noPylong_of_log2 hc.2))
end
theorem div_z {j : Int} {b : Nat} (i : Int) (h : j ≠ 0) (hb : j.natAbs < 2 ^ b) (h0 : 0 < b) (h9 : b ≤ 9000) : CDivZ i j := ⟨h, Nat.lt_of_lt_of_le (PySem.Flt.log2_lt_of h0 hb) h9⟩
/-- by what reduced divides -/
def redG (i j : Int) : Int := if j < 0 then -((Nat.gcd i.natAbs j.natAbs : Nat) : Int) else ((Nat.gcd i.natAbs j.natAbs : Nat) : Int)
def spRed : Sp := fun vs H Q _ => ∃ (i j : Int), vs = [.int i, .int j] ∧ j ≠ 0 ∧ j.natAbs < 2 ^ 3000 ∧
  ∀ p, H p = none → Q (.ref p) (upd H p (.tup [.int (i.fdiv (redG i j)), .int (j.fdiv (redG i j))]))
theorem gcd_pos {i j : Int} (hj : j ≠ 0) : 0 < Nat.gcd i.natAbs j.natAbs := Nat.gcd_pos_of_pos_right _ (by omega)
theorem gcd_le {i j : Int} (hj : j ≠ 0) : Nat.gcd i.natAbs j.natAbs ≤ j.natAbs := Nat.le_of_dvd (by omega) (Nat.gcd_dvd_right _ _)
theorem bnot_false {b : Bool} (h : ¬ (!b) = true) : b = true := by cases b <;> simp_all
theorem bnot_true {b : Bool} (h : (!b) = true) : b = false := by cases b <;> simp_all
section
variable {P : Program} {w : World} {K : PySem.W.Frag} {mg : Str → Option Value} {base : Heap}
abbrev s_is_fraction : Stmt := top 12
abbrev N_is_fraction : List Str := ["value"]
abbrev P_is_fraction : List Str := ["value"]
theorem sc_is_fraction : FnScope N_is_fraction P_is_fraction (defScope s_is_fraction) := ⟨rfl, rfl, rfl, by decide +kernel, rfl, by decide +kernel, by decide +kernel⟩
theorem ok_is_fraction {f f1 f2 : Addr} {fd fd1 fd2 : FuncData} (B : Bl mg) (C : Nm mg) (D_is_whole : Df K mg "is_whole" s_is_whole P_is_whole f1 fd1) (D_is_integer : Df K mg "is_integer" s_is_integer P_is_integer f2 fd2)
    (D : Df K mg "is_fraction" s_is_fraction P_is_fraction f fd) : FnOk P w K mg base CX0 3 f fd P_is_fraction spIsFraction := by
  have G_is_integer : FnOk P w K mg base CX0 2 f2 fd2 P_is_integer spIsInteger := ok_is_integer B C D_is_whole D_is_integer
  refine D.F.ok sc_is_fraction (fun vs H Q E h => ?_) (fun cdv A outer s H vs Q E hr h => ?_)
  · obtain ⟨x, b, rfl, _⟩ := h
    rfl
  · obtain ⟨x, b, rfl, hf, k⟩ := h
    refine ⟨_, (pss_cons (ps_if (PW.pt (pw_or (pt_not (pt_val (pe_callB call_is (by rfl) B.b_isinstance (by decide +kernel) (pa_cons (pv 0) (pa_cons (pe_ty (n := "tuple") (by rfl) B.b_tuple (by decide +kernel)) pa_nil))))) (pw_or1 (pt_cmpR op_ne (pe_callB call_len_seq (by rfl) B.b_len (by decide +kernel) (pa_cons (pv 0) pa_nil)) pe_int (nomark _))))) (pss_one (ps_ret pe_bl)) pss_nil)
      (pss_cons (ps_if (PW.pt (pw_or (pt_not (pt_val (pe_call G_is_integer (hr.mono (by decide)) (by rfl) D_is_integer.g D_is_integer.F.kp D_is_integer.b .nil pass0 (pa_cons (pe_ix ix_tup (pv 0) pe_int (fun _ _ => rfl)) pa_nil)))) (pw_or1 (pt_not (pt_val (pe_call G_is_integer (hr.mono (by decide)) (by rfl) D_is_integer.g D_is_integer.F.kp D_is_integer.b .nil pass0 (pa_cons (pe_ix ix_tup (pv 0) pe_int (fun _ _ => rfl)) pa_nil))))))) (pss_one (ps_ret pe_bl)) pss_nil)
      (pss_one (ps_ret (pe_and (pe_cmpR op_ge (pe_ix ix_tup (pv 0) pe_int (fun _ _ => rfl)) pe_int (nomark _)) (pe_one (pe_cmpR op_eq (pe_callBfun cr_gcd (by rfl) C.g_gcd (pa_cons (pe_ix ix_tup (pv 0) pe_int (fun _ _ => rfl)) (pa_cons (pe_ix ix_tup (pv 0) pe_int (fun _ _ => rfl)) pa_nil))) pe_int (nomark _)))))))), ?_⟩
    cases hf with
    | @no _ t h ht =>
      refine ⟨_, rfl, x, t, .tup, rfl, h, by decide, _, rfl, ?_⟩
      cases h with
      | tup _ => exact absurd rfl ht
      | _ => exact iteT (iteT k)
    | @tup a xs h kk =>
      refine ⟨_, rfl, _, .tup, .tup, rfl, .tup h, by decide, _, rfl, ?_⟩
      refine iteF ⟨_, rfl, a, xs, rfl, .inr (SqT.of h), rfl, _, rfl, ?_⟩
      refine ite2 (fun e => ?_) (fun e => ?_)
      · have hl : xs.length ≠ 2 := fun q => by
          rw [show decide (V.int (xs.length : Int) = V.int 2) = true from decide_eq_true (by rw [q]; rfl)] at e
          exact Bool.false_ne_true e
        rw [frac_len hl] at k
        exact k
      · have hl : xs.length = 2 := by
          have q := of_decide_eq_true (bnot_false e)
          injection q with q
          omega
        obtain ⟨x, y, rfl⟩ : ∃ x y, xs = [x, y] := by
          match xs, hl with
          | [x, y], _ => exact ⟨x, y, rfl⟩
        obtain ⟨t1, h1⟩ := kk x (by simp)
        obtain ⟨t2, h2⟩ := kk y (by simp)
        refine ⟨_, rfl, a, _, 0, x, rfl, rfl, SqT.of h, rfl, x, t1, rfl, h1, _, rfl, ite2 (fun e1 => ?_) (fun e1 => ?_)⟩
        · rw [frac_of x y (.inl (bnot_true e1))] at k
          exact iteT k
        · obtain ⟨i, rfl, hi⟩ := intB_int (bnot_false e1)
          refine ⟨_, rfl, a, _, 1, y, rfl, rfl, SqT.of h, rfl, y, t2, rfl, h2, _, rfl, ite2 (fun e2 => ?_) (fun e2 => ?_)⟩
          · rw [frac_of _ y (.inr (bnot_true e2))] at k
            exact k
          · obtain ⟨j, rfl, hj⟩ := intB_int (bnot_false e2)
            have ek : fracL [.int i, .int j] = (decide (1 ≤ j) && decide (Nat.gcd i.natAbs j.natAbs = 1)) := by
              show (decide (i.natAbs < 10 ^ 60) && (decide (j.natAbs < 10 ^ 60) && (decide (1 ≤ j) && decide (Nat.gcd i.natAbs j.natAbs = 1)))) = _
              rw [decide_eq_true hi, decide_eq_true hj]
              rfl
            rw [ek] at k
            refine ⟨_, rfl, a, _, 1, .int j, rfl, rfl, SqT.of h, rfl, _, _, rfl, rfl, _, rfl, ite2 (fun e3 => ?_) (fun e3 => ?_)⟩
            · refine ⟨_, rfl, a, _, 0, .int i, rfl, rfl, SqT.of h, rfl, _, rfl, a, _, 1, .int j, rfl, rfl, SqT.of h, rfl, _, _, rfl, rfl, ?_⟩
              rw [e3, Bool.true_and] at k
              have e4 : decide (V.int ((Nat.gcd i.natAbs j.natAbs : Nat) : Int) = V.int 1) = decide (Nat.gcd i.natAbs j.natAbs = 1) := by
                apply decide_eq_decide.mpr
                constructor
                · intro q
                  injection q with q
                  omega
                · intro q
                  rw [q]
                  rfl
              show Q (V.bl (decide (V.int ((Nat.gcd i.natAbs j.natAbs : Nat) : Int) = V.int 1))) H
              rw [e4]
              exact k
            · rw [show decide (1 ≤ j) = false from by simpa using e3] at k
              exact k
abbrev s_reduced : Stmt := top 14
abbrev N_reduced : List Str := ["numerator", "denominator", "shared"]
abbrev P_reduced : List Str := ["numerator", "denominator"]
theorem sc_reduced : FnScope N_reduced P_reduced (defScope s_reduced) := ⟨rfl, rfl, rfl, by decide +kernel, rfl, by decide +kernel, by decide +kernel⟩
theorem ok_reduced {f : Addr} {fd : FuncData} (C : Nm mg) (D : Df K mg "reduced" s_reduced P_reduced f fd) : FnOk P w K mg base CX0 1 f fd P_reduced spRed := by
  refine D.F.ok sc_reduced (fun vs H Q E h => ?_) (fun cdv A outer s H vs Q E hr h => ?_)
  · obtain ⟨i, j, rfl, _⟩ := h
    rfl
  · obtain ⟨i, j, rfl, hj, hb, k⟩ := h
    refine ⟨_, (pss_cons (ps_set (i := 2) sc_reduced.nd rfl (Or.inl rfl) (pe_callBfun cr_gcd (by rfl) C.g_gcd (pa_cons (pv 0) (pa_cons (pv 1) pa_nil))))
      (pss_cons (ps_if (pt_cmpR op_lt (pv 1) pe_int (nomark _)) (pss_one (ps_set (i := 2) sc_reduced.nd rfl (Or.inl rfl) (pe_un un_neg (pv 2)))) pss_nil)
      (pss_one (ps_ret (pe_tup (pa_cons (pe_op op_fdivZ (pv 0) (pv 2)) (pa_cons (pe_op op_fdivZ (pv 1) (pv 2)) pa_nil))))))), ?_⟩
    have g0 := gcd_pos (i := i) hj
    have g1 := gcd_le (i := i) hj
    have gb : (Nat.gcd i.natAbs j.natAbs) < 2 ^ 3000 := Nat.lt_of_le_of_lt g1 hb
    refine ⟨_, rfl, _, rfl, _, _, rfl, _, rfl, _, _, rfl, rfl, _, rfl, ite2 (fun e => ?_) (fun e => ?_)⟩
    · have e' := of_decide_eq_true e
      refine ⟨_, rfl, _, rfl, _, rfl, _, rfl, _, _, rfl, rfl, div_z (b := 3000) _ (by omega) (by omega) (by decide) (by decide), _, rfl, _, rfl, _, _, rfl, rfl, div_z (b := 3000) _ (by omega) (by omega) (by decide) (by decide), (by show 2 ≤ sizeLine; decide), fun p hp => ?_⟩
      have q := k p hp
      rw [show redG i j = -((Nat.gcd i.natAbs j.natAbs : Nat) : Int) from if_pos e'] at q
      exact q
    · have e' : ¬ j < 0 := fun z => e (decide_eq_true z)
      refine ⟨_, rfl, _, rfl, _, _, rfl, rfl, div_z (b := 3000) _ (by omega) (by omega) (by decide) (by decide), _, rfl, _, rfl, _, _, rfl, rfl, div_z (b := 3000) _ (by omega) (by omega) (by decide) (by decide), (by show 2 ≤ sizeLine; decide), fun p hp => ?_⟩
      have q := k p hp
      rw [show redG i j = ((Nat.gcd i.natAbs j.natAbs : Nat) : Int) from if_neg e'] at q
      exact q
end
end V0
namespace V0
open PySem PySem.Spec PyProof.Rows L2
def spShared : Sp := fun vs H Q _ => ∃ (i j : Int), vs = [.int i, .int j] ∧ Q (.int (Nat.gcd i.natAbs j.natAbs : Nat)) H
def spIsWord : Sp := fun vs H Q _ => ∃ (x : V) (t : Kd), vs = [x] ∧ Kn H x t ∧ (∀ z, x = .str z → z.length ≤ 1000 ∧ PyData.strOk z = true) ∧ ∀ H', Same H H' → Q (.bl (nameB x)) H'
def spWhole : Sp := fun vs H Q _ => ∃ (p : Addr), vs = [.ref p] ∧ Pot H p ∧ ∀ (z : Int) (H' : Hp), z.natAbs ≤ 10 ^ 60 + 1 → Pot H' p → But p H H' → Q (.int z) H'
theorem abs_nn (i : Int) : (if i < 0 then -i else i) = (i.natAbs : Int) := by split <;> omega
/-- data of texts -/
theorem dp_strs {K : PySem.W.Frag} {H : Hp} : ∀ zs : List Str, DpAll K H (zs.map V.str) (zs.map PyData.str)
  | [] => .nil
  | z :: zs => .cons (.str z) (dp_strs zs)
/-- the signs that are no letters, as texts -/
def oddS (l : List Nat) : List Str := (l.filter fun c => !low26 c).map fun c => (⟨#[c]⟩ : Str)
theorem oddS_len (l : List Nat) : (oddS l).length ≤ l.length := by
  unfold oddS
  rw [List.length_map]
  exact List.length_filter_le _ _
theorem oddS_bad {l : List Nat} {c : Nat} (h : low26 c = false) : oddS (l ++ [c]) = oddS l ++ [(⟨#[c]⟩ : Str)] := by
  unfold oddS
  rw [List.filter_append, List.map_append]
  simp [h]
theorem oddS_low {l : List Nat} {c : Nat} (h : low26 c = true) : oddS (l ++ [c]) = oddS l := by
  unfold oddS
  rw [List.filter_append, List.map_append]
  simp [h]
theorem oddS_nil (l : List Nat) : (oddS l).isEmpty = l.all low26 := by
  unfold oddS
  induction l with
  | nil => rfl
  | cons c l ih =>
    cases h : low26 c with
    | true => simp [h, List.filter_cons] at ih ⊢; exact ih
    | false => simp [h, List.filter_cons]
theorem one_lt (a b : Nat) : ([a] < [b]) ↔ a < b := by
  rw [List.cons_lt_cons_iff]
  simp
theorem cpa : ("a" : Str).cps.toList = [97] := by decide +kernel
theorem cpz : ("z" : Str).cps.toList = [122] := by decide +kernel
theorem cp1 (c : Nat) : (⟨#[c]⟩ : Str).cps.toList = [c] := rfl
theorem le_a (c : Nat) : (!decide ((⟨#[c]⟩ : Str).cps.toList < ("a" : Str).cps.toList)) = decide (97 ≤ c) := by
  rw [cpa, cp1]
  cases h : decide (97 ≤ c) with
  | true => simp [one_lt] at h ⊢; omega
  | false => simp [one_lt] at h ⊢; omega
theorem le_z (c : Nat) : (!decide (("z" : Str).cps.toList < (⟨#[c]⟩ : Str).cps.toList)) = decide (c ≤ 122) := by
  rw [cpz, cp1]
  cases h : decide (c ≤ 122) with
  | true => simp [one_lt] at h ⊢; omega
  | false => simp [one_lt] at h ⊢; omega
theorem not_low1 {c : Nat} (h : ¬ (!decide ((⟨#[c]⟩ : Str).cps.toList < ("a" : Str).cps.toList)) = true) : low26 c = false := by
  rw [le_a] at h
  unfold low26
  simp at h ⊢
  omega
theorem not_low {c : Nat} (h : (!decide ((⟨#[c]⟩ : Str).cps.toList < ("a" : Str).cps.toList)) = true) (h2 : False ∨ (!(!decide (("z" : Str).cps.toList < (⟨#[c]⟩ : Str).cps.toList))) = true) : low26 c = false := by
  rcases h2 with h2 | h2
  · exact h2.elim
  · rw [le_z] at h2
    unfold low26
    simp at h2 ⊢
    omega
theorem is_low {c : Nat} (h : (!decide ((⟨#[c]⟩ : Str).cps.toList < ("a" : Str).cps.toList)) = true) (h2 : ¬ (!(!decide (("z" : Str).cps.toList < (⟨#[c]⟩ : Str).cps.toList))) = true) : low26 c = true := by
  rw [le_a] at h
  rw [le_z] at h2
  unfold low26
  simp at h h2 ⊢
  omega
theorem oddS_ok {z : Str} (h : PyData.strOk z = true) : ∀ y ∈ oddS z.cps.toList, PyData.strOk y = true := fun y hy => by
  obtain ⟨c, hc, rfl⟩ := List.mem_map.mp hy
  have hm : c ∈ z.cps := by
    rw [← Array.mem_toList_iff]
    exact (List.mem_filter.mp hc).1
  have q : c < 0x110000 := of_decide_eq_true (Array.all_eq_true_iff_forall_mem.mp h c hm)
  show (#[c] : Array Nat).all (· < 0x110000) = true
  simp [q]
theorem canLay_strs : ∀ zs : List Str, (∀ z ∈ zs, PyData.strOk z = true) → PyData.canLayAll0 (zs.map PyData.str) = true
  | [], _ => rfl
  | z :: zs, h => by
    show (PyData.strOk z && PyData.canLayAll0 (zs.map PyData.str)) = true
    rw [h z (by simp), canLay_strs zs fun y hy => h y (by simp [hy])]
    rfl
theorem depth_strs : ∀ zs : List Str, PyData.depthAll (zs.map PyData.str) = 0
  | [] => rfl
  | z :: zs => by
    show max 0 (PyData.depthAll (zs.map PyData.str)) = 0
    rw [depth_strs zs]
    rfl
theorem shaped_strs (zs : List Str) (h : ∀ z ∈ zs, PyData.strOk z = true) : SeqAt.shaped (.list (zs.map PyData.str)) = true := by
  show (PyData.canLayAll0 (zs.map PyData.str) && decide (PyData.depthAll (zs.map PyData.str) + 1 ≤ 64)) = true
  rw [canLay_strs zs h, depth_strs]
  rfl
section
variable {P : Program} {w : World} {K : PySem.W.Frag} {mg : Str → Option Value} {base : Heap}
abbrev s_lis_whole : Stmt := top 20
abbrev N_lis_whole : List Str := ["_law_value"]
abbrev P_lis_whole : List Str := ["_law_value"]
theorem sc_lis_whole : FnScope N_lis_whole P_lis_whole (defScope s_lis_whole) := ⟨rfl, rfl, rfl, by decide +kernel, rfl, by decide +kernel, by decide +kernel⟩
theorem ok_lis_whole {f : Addr} {fd : FuncData} (B : Bl mg) (D : Df K mg "_law_is_whole" s_lis_whole P_lis_whole f fd) : FnOk P w K mg base CX0 1 f fd P_lis_whole spIsInteger := by
  refine D.F.ok sc_lis_whole (fun vs H Q E h => ?_) (fun cdv A outer s H vs Q E hr h => ?_)
  · obtain ⟨x, t, rfl, _⟩ := h
    rfl
  · obtain ⟨x, t, rfl, hk, k⟩ := h
    refine ⟨_, (pss_one (ps_ret (pe_and (pe_callB call_is (by rfl) B.b_isinstance (by decide +kernel) (pa_cons (pv 0) (pa_cons (pe_ty (n := "int") (by rfl) B.b_int (by decide +kernel)) pa_nil))) (pe_and (pe_not (pe_callB call_is (by rfl) B.b_isinstance (by decide +kernel) (pa_cons (pv 0) (pa_cons (pe_ty (n := "bool") (by rfl) B.b_bool (by decide +kernel)) pa_nil)))) (pe_one (pe_cmpR op_lt (pe_callB call_abs (by rfl) B.b_abs (by decide +kernel) (pa_cons (pv 0) pa_nil)) (pe_op op_pow pe_int pe_int) (nomark _))))))), ?_⟩
    refine ⟨_, rfl, x, t, .int, rfl, hk, by decide, _, rfl, ?_⟩
    cases hk with
    | int i =>
      refine iteT ⟨_, rfl, _, .int, .bl, rfl, .int i, by decide, _, rfl, _, rfl, ?_⟩
      refine iteT ⟨_, rfl, _, rfl, _, _, rfl, rfl, ⟨by decide, by decide, by decide⟩, _, _, rfl, rfl, ?_⟩
      have q := abs_lt i
      unfold TL at q
      rw [← q] at k
      exact k
    | bl b => exact iteT ⟨_, rfl, _, .bl, .bl, rfl, .bl b, by decide, _, rfl, _, rfl, iteF k⟩
    | _ => exact iteF k
abbrev s_shared : Stmt := top 21
abbrev N_shared : List Str := ["_law_one", "_law_other", "_law_big", "_law_low"]
abbrev P_shared : List Str := ["_law_one", "_law_other"]
theorem sc_shared : FnScope N_shared P_shared (defScope s_shared) := ⟨rfl, rfl, rfl, by decide +kernel, rfl, by decide +kernel, by decide +kernel⟩
theorem ok_shared {f : Addr} {fd : FuncData} (B : Bl mg) (D : Df K mg "_law_shared" s_shared P_shared f fd) : FnOk P w K mg base CX0 1 f fd P_shared spShared := by
  refine D.F.ok sc_shared (fun vs H Q E h => ?_) (fun cdv A outer s H vs Q E hr h => ?_)
  · obtain ⟨i, j, rfl, _⟩ := h
    rfl
  · obtain ⟨i, j, rfl, k⟩ := h
    refine ⟨_, (pss_cons (ps_par (i := 2) (j := 3) (by rfl) sc_shared.nd rfl rfl (by decide) rfl rfl (pa_cons (pe_callB call_abs (by rfl) B.b_abs (by decide +kernel) (pa_cons (pv 0) pa_nil)) (pa_cons (pe_callB call_abs (by rfl) B.b_abs (by decide +kernel) (pa_cons (pv 1) pa_nil)) pa_nil)) (by rfl))
      (pss_cons (ps_while PassesOwn.never (pt_cmpR op_gt (pv 3) pe_int (nomark _)) (pss_one (ps_par (i := 2) (j := 3) (by rfl) sc_shared.nd rfl rfl (by decide) rfl rfl (pa_cons (pv 3) (pa_cons (pe_op op_mod (pe_callTy call_int1 (by rfl) B.b_int (by decide +kernel) (pa_cons (pv 2) pa_nil)) (pv 3)) pa_nil)) (by rfl))))
      (pss_one (ps_ret (pv 2))))), ?_⟩
    refine ⟨_, rfl, _, rfl, _, rfl, _, rfl, _, _, rfl, ?_⟩
    rw [abs_nn, abs_nn]
    refine ⟨fun m σ H' => ∃ a b : Nat, m = b ∧ Nat.gcd a b = Nat.gcd i.natAbs j.natAbs ∧ σ = [some (.int i), some (.int j), some (.int a), some (.int b)] ∧ H' = H, ⟨_, i.natAbs, j.natAbs, rfl, rfl, rfl, rfl⟩, ?_⟩
    rintro m σ H' ⟨a, b, rfl, hg, rfl, rfl⟩
    refine ⟨_, rfl, _, _, rfl, rfl, _, rfl, ite2 (fun e => ?_) (fun e => ?_)⟩
    · have e' := of_decide_eq_true e
      refine ⟨fun σ2 H2 => σ2 = [some (.int i), some (.int j), some (.int m), some (.int ((a % m : Nat) : Int))] ∧ H2 = H', ?_, ?_⟩
      · rintro σ2 H2 ⟨rfl, rfl⟩
        exact ⟨a % m, Nat.mod_lt _ (by omega), m, a % m, rfl, by rw [← hg, Nat.gcd_comm a m, Nat.gcd_rec m a, Nat.gcd_comm], rfl, rfl⟩
      · refine ⟨_, rfl, _, rfl, .inl ⟨_, rfl, _, rfl, _, _, rfl, rfl, e', _, _, rfl, ?_, rfl⟩⟩
        rw [Int.natCast_emod]
        rfl
    · have e' : ¬ (0 : Int) < m := fun z => e (decide_eq_true z)
      have m0 : m = 0 := by omega
      subst m0
      rw [Nat.gcd_zero_right] at hg
      refine ⟨_, rfl, ?_⟩
      rw [hg]
      exact k
abbrev s_is_quotient : Stmt := top 22
abbrev N_is_quotient : List Str := ["_law_value"]
abbrev P_is_quotient : List Str := ["_law_value"]
theorem sc_is_quotient : FnScope N_is_quotient P_is_quotient (defScope s_is_quotient) := ⟨rfl, rfl, rfl, by decide +kernel, rfl, by decide +kernel, by decide +kernel⟩
theorem ok_is_quotient {f f1 f2 : Addr} {fd fd1 fd2 : FuncData} (B : Bl mg) (D_lis_whole : Df K mg "_law_is_whole" s_lis_whole P_lis_whole f1 fd1) (D_shared : Df K mg "_law_shared" s_shared P_shared f2 fd2)
    (D : Df K mg "_law_is_quotient" s_is_quotient P_is_quotient f fd) : FnOk P w K mg base CX0 2 f fd P_is_quotient spIsFraction := by
  have G_lis_whole : FnOk P w K mg base CX0 1 f1 fd1 P_lis_whole spIsInteger := ok_lis_whole B D_lis_whole
  have G_shared : FnOk P w K mg base CX0 1 f2 fd2 P_shared spShared := ok_shared B D_shared
  refine D.F.ok sc_is_quotient (fun vs H Q E h => ?_) (fun cdv A outer s H vs Q E hr h => ?_)
  · obtain ⟨x, b, rfl, _⟩ := h
    rfl
  · obtain ⟨x, b, rfl, hf, k⟩ := h
    refine ⟨_, (pss_cons (ps_if (PW.pt (pw_or (pt_not (pt_val (pe_callB call_is (by rfl) B.b_isinstance (by decide +kernel) (pa_cons (pv 0) (pa_cons (pe_ty (n := "tuple") (by rfl) B.b_tuple (by decide +kernel)) pa_nil))))) (pw_or (pt_cmpR op_ne (pe_callB call_len_seq (by rfl) B.b_len (by decide +kernel) (pa_cons (pv 0) pa_nil)) pe_int (nomark _)) (pw_or (pt_not (pt_val (pe_call G_lis_whole (hr.mono (by decide)) (by rfl) D_lis_whole.g D_lis_whole.F.kp D_lis_whole.b .nil pass0 (pa_cons (pe_ix ix_tup (pv 0) pe_int (fun _ _ => rfl)) pa_nil)))) (pw_or1 (pt_not (pt_val (pe_call G_lis_whole (hr.mono (by decide)) (by rfl) D_lis_whole.g D_lis_whole.F.kp D_lis_whole.b .nil pass0 (pa_cons (pe_ix ix_tup (pv 0) pe_int (fun _ _ => rfl)) pa_nil))))))))) (pss_one (ps_ret pe_bl)) pss_nil)
      (pss_one (ps_ret (pe_and (pe_cmpR op_gt (pe_ix ix_tup (pv 0) pe_int (fun _ _ => rfl)) pe_int (nomark _)) (pe_one (pe_cmpR op_eq (pe_call G_shared (hr.mono (by decide)) (by rfl) D_shared.g D_shared.F.kp D_shared.b .nil pass0 (pa_cons (pe_ix ix_tup (pv 0) pe_int (fun _ _ => rfl)) (pa_cons (pe_ix ix_tup (pv 0) pe_int (fun _ _ => rfl)) pa_nil))) pe_int (nomark _))))))), ?_⟩
    cases hf with
    | @no _ t h ht =>
      refine ⟨_, rfl, x, t, .tup, rfl, h, by decide, _, rfl, ?_⟩
      cases h with
      | tup _ => exact absurd rfl ht
      | _ => exact iteT (iteT k)
    | @tup a xs h kk =>
      refine ⟨_, rfl, _, .tup, .tup, rfl, .tup h, by decide, _, rfl, ?_⟩
      refine iteF ⟨_, rfl, a, xs, rfl, .inr (SqT.of h), rfl, _, rfl, ?_⟩
      refine ite2 (fun e => ?_) (fun e => ?_)
      · have hl : xs.length ≠ 2 := fun q => by
          rw [show decide (V.int (xs.length : Int) = V.int 2) = true from decide_eq_true (by rw [q]; rfl)] at e
          exact Bool.false_ne_true e
        rw [frac_len hl] at k
        exact k
      · have hl : xs.length = 2 := by
          have q := of_decide_eq_true (bnot_false e)
          injection q with q
          omega
        obtain ⟨x, y, rfl⟩ : ∃ x y, xs = [x, y] := by
          match xs, hl with
          | [x, y], _ => exact ⟨x, y, rfl⟩
        obtain ⟨t1, h1⟩ := kk x (by simp)
        obtain ⟨t2, h2⟩ := kk y (by simp)
        refine ⟨_, rfl, a, _, 0, x, rfl, rfl, SqT.of h, rfl, x, t1, rfl, h1, _, rfl, ite2 (fun e1 => ?_) (fun e1 => ?_)⟩
        · rw [frac_of x y (.inl (bnot_true e1))] at k
          exact iteT k
        · obtain ⟨i, rfl, hi⟩ := intB_int (bnot_false e1)
          refine ⟨_, rfl, a, _, 1, y, rfl, rfl, SqT.of h, rfl, y, t2, rfl, h2, _, rfl, ite2 (fun e2 => ?_) (fun e2 => ?_)⟩
          · rw [frac_of _ y (.inr (bnot_true e2))] at k
            exact k
          · obtain ⟨j, rfl, hj⟩ := intB_int (bnot_false e2)
            have ek : fracL [.int i, .int j] = (decide (1 ≤ j) && decide (Nat.gcd i.natAbs j.natAbs = 1)) := by
              show (decide (i.natAbs < 10 ^ 60) && (decide (j.natAbs < 10 ^ 60) && (decide (1 ≤ j) && decide (Nat.gcd i.natAbs j.natAbs = 1)))) = _
              rw [decide_eq_true hi, decide_eq_true hj]
              rfl
            rw [ek] at k
            refine ⟨_, rfl, a, _, 1, .int j, rfl, rfl, SqT.of h, rfl, _, _, rfl, rfl, _, rfl, ite2 (fun e3 => ?_) (fun e3 => ?_)⟩
            · refine ⟨_, rfl, a, _, 0, .int i, rfl, rfl, SqT.of h, rfl, _, rfl, a, _, 1, .int j, rfl, rfl, SqT.of h, rfl, _, _, rfl, rfl, ?_⟩
              have e5 : decide (1 ≤ j) = true := decide_eq_true (by have := of_decide_eq_true e3; omega)
              rw [e5, Bool.true_and] at k
              have e4 : decide (V.int ((Nat.gcd i.natAbs j.natAbs : Nat) : Int) = V.int 1) = decide (Nat.gcd i.natAbs j.natAbs = 1) := by
                apply decide_eq_decide.mpr
                constructor
                · intro q
                  injection q with q
                  omega
                · intro q
                  rw [q]
                  rfl
              show Q (V.bl (decide (V.int ((Nat.gcd i.natAbs j.natAbs : Nat) : Int) = V.int 1))) H
              rw [e4]
              exact k
            · rw [show decide (1 ≤ j) = false from decide_eq_false (fun z => e3 (decide_eq_true (by omega)))] at k
              exact k
abbrev s_is_word : Stmt := top 23
abbrev N_is_word : List Str := ["_law_value", "_law_sign"]
abbrev P_is_word : List Str := ["_law_value"]
theorem sc_is_word : FnScope N_is_word P_is_word (defScope s_is_word) := ⟨rfl, rfl, rfl, by decide +kernel, rfl, by decide +kernel, by decide +kernel⟩
theorem ok_is_word {f : Addr} {fd : FuncData} (B : Bl mg) (D : Df K mg "_law_is_word" s_is_word P_is_word f fd) : FnOk P w K mg base CX0 1 f fd P_is_word spIsWord := by
  refine D.F.ok sc_is_word (fun vs H Q E h => ?_) (fun cdv A outer s H vs Q E hr h => ?_)
  · obtain ⟨x, t, rfl, _⟩ := h
    rfl
  · obtain ⟨x, t, rfl, hk, hz, k⟩ := h
    refine ⟨_, (pss_cons (ps_if (PW.pt (pw_or (pt_not (pt_val (pe_callB call_is (by rfl) B.b_isinstance (by decide +kernel) (pa_cons (pv 0) (pa_cons (pe_ty (n := "str") (by rfl) B.b_str (by decide +kernel)) pa_nil))))) (pw_or1 (pt_not (pt_chain op_le op_le pe_int (pe_callB call_len (by rfl) B.b_len (by decide +kernel) (pa_cons (pv 0) pa_nil)) pe_int))))) (pss_one (ps_ret pe_bl)) pss_nil)
      (pss_one (ps_ret (pe_cmpR (op_eqD hr.units) (pe_lc (own := [("_law_sign", 1)]) (g := gName 1) rfl sc_is_word.nd (pi_str (pv 0)) (blkOk_by (own := [("_law_sign", 1)]) (N := N_is_word) (sc := defScope s_is_word) (by decide +kernel)) (fun _ _ _ _ _ => (pg_name (i := 1) sc_is_word.nd rfl (Or.inl rfl))) (fun _ _ _ _ _ => pts_one (pt_not (pt_chain op_le_str op_le_str pe_str (pv 1) pe_str))) (fun _ _ _ _ _ => (pv 1))) (pe_lst pa_nil) (nomark _))))), ?_⟩
    refine ⟨_, rfl, x, t, .str, rfl, hk, by decide, _, rfl, ?_⟩
    cases hk with
    | str z =>
      obtain ⟨hz, hok⟩ := hz z rfl
      have hl : (1000 : Nat) ≤ sizeLine := by decide
      have hk : nameB (.str z) = (decide (1 ≤ z.length ∧ z.length ≤ 8) && z.cps.toList.all low26) := rfl
      refine iteF ⟨_, rfl, _, z.length, rfl, ⟨by omega, rfl⟩, _, _, rfl, rfl, _, rfl, ?_⟩
      refine ite2 (fun e1 => ?_) (fun e1 => ?_)
      · have e1' := of_decide_eq_true e1
        refine ⟨_, _, rfl, rfl, _, rfl, ite2 (fun e2 => ?_) (fun e2 => ?_)⟩
        · have e2' : ¬ (z.length : Int) ≤ 8 := of_decide_eq_false (bnot_true e2)
          have ek : nameB (.str z) = false := by
            rw [hk, decide_eq_false (by omega)]
            rfl
          rw [ek] at k
          exact k H (Same.refl H)
        · have e2' : (z.length : Int) ≤ 8 := of_decide_eq_true (bnot_false e2)
          have ek : nameB (.str z) = z.cps.toList.all low26 := by
            rw [hk, decide_eq_true (by omega)]
            rfl
          rw [ek] at k
          refine ⟨_, rfl, z, rfl, fun L hL => ?_⟩
          refine lc_it walk_str (fun i H' => Same H H' ∧ H' L = some (.lst ((oddS (z.cps.toList.take i)).map V.str))) ⟨Same.new hL, upd_same⟩ (fun _ _ _ _ => trivial) ?_ ?_
          · rintro i x H1 H2 hi ⟨s1, h1⟩ ⟨rfl, c, hc, rfl⟩
            have hc' : z.cps.toList[i]? = some c := by rw [Array.getElem?_toList]; exact hc
            have hlen : ((oddS (z.cps.toList.take i)).map V.str).length < sizeLine := by
              rw [List.length_map]
              have q1 := oddS_len (z.cps.toList.take i)
              rw [List.length_take] at q1
              have hl2 : z.cps.toList.length = z.length := rfl
              omega
            refine ⟨rfl, _, rfl, _, _, rfl, rfl, _, rfl, ite2 (fun e3 => ?_) (fun e3 => ?_)⟩
            · refine ⟨_, _, rfl, rfl, _, rfl, ite2 (fun e4 => ?_) (fun e4 => ?_)⟩
              · refine ⟨_, rfl, _, h1, hlen, fun b o e => by rw [upd_ne (ne_of_none e hL)]; exact s1 b o e, ?_⟩
                rw [upd_same, take_one hc', oddS_bad (show low26 c = false from not_low e3 (.inr e4)), List.map_append]
                rfl
              · refine ⟨s1, ?_⟩
                rw [take_one hc', oddS_low (is_low e3 e4)]
                exact h1
            · refine ⟨_, rfl, _, rfl, _, h1, hlen, fun b o e => by rw [upd_ne (ne_of_none e hL)]; exact s1 b o e, ?_⟩
              rw [upd_same, take_one hc', oddS_bad (show low26 c = false from not_low1 e3), List.map_append]
              rfl
          · rintro H1 ⟨s1, h1⟩
            have et : z.cps.toList.take z.cps.size = z.cps.toList := List.take_of_length_le (by rw [Array.length_toList]; exact Nat.le_refl _)
            rw [et] at h1
            refine ⟨by show 0 ≤ sizeLine; decide, fun M hM => ?_⟩
            have h1' : (upd H1 M (.lst [])) L = some (.lst ((oddS z.cps.toList).map V.str)) := by rw [upd_ne (ne_of_none h1 hM)]; exact h1
            refine ⟨_, _, .lst (SqL.of h1') (dp_strs _), .lst (SqL.of upd_same) .nil, shaped_strs _ (oddS_ok hok), rfl, ?_⟩
            have ea : PyData.eqv (.list ((oddS z.cps.toList).map PyData.str)) (.list []) = z.cps.toList.all low26 := by
              rw [← oddS_nil]
              cases oddS z.cps.toList <;> rfl
            rw [ea]
            exact k _ (s1.trans (Same.new hM))
      · have e1' : ¬ (1 : Int) ≤ z.length := fun q => e1 (decide_eq_true q)
        have ek : nameB (.str z) = false := by
          rw [hk, decide_eq_false (by omega)]
          rfl
        rw [ek] at k
        exact ⟨_, rfl, iteT (k H (Same.refl H))⟩
    | _ => exact iteT (iteT (k H (Same.refl H)))
end
end V0
namespace V0
open PySem PySem.Spec PyProof.Rows L2
/-- a short text of plain signs -/
def Tx (n : Nat) (z : Str) : Prop := z.length ≤ n ∧ ∀ c ∈ z.cps.toList, c < 128
theorem Tx.mono {m n : Nat} {z : Str} (h : Tx m z) (hn : m ≤ n) : Tx n z := ⟨Nat.le_trans h.1 hn, h.2⟩
theorem Tx.ok {n : Nat} {z : Str} (h : Tx n z) : PyData.strOk z = true := by
  show z.cps.all (· < 0x110000) = true
  rw [Array.all_eq_true_iff_forall_mem]
  intro c hc
  have q := h.2 c (by rw [Array.mem_toList_iff]; exact hc)
  exact decide_eq_true (by omega)
theorem Tx.add {m n : Nat} {y z : Str} (h : Tx m y) (k : Tx n z) : Tx (m + n) (y ++ z) := by
  have e : (y ++ z).cps.toList = y.cps.toList ++ z.cps.toList := by
    show (y.cps ++ z.cps).toList = _
    simp
  have e2 : (y ++ z).length = y.length + z.length := by
    show (y.cps ++ z.cps).size = _
    rw [Array.size_append]
    rfl
  refine ⟨by rw [e2]; exact Nat.add_le_add h.1 k.1, fun c hc => ?_⟩
  rw [e] at hc
  rcases List.mem_append.mp hc with q | q
  · exact h.2 c q
  · exact k.2 c q
theorem Tx.cut {n : Nat} {z : Str} (h : Tx n z) (lo hi : Option Int) : Tx n (cutS z lo hi) :=
  ⟨Nat.le_trans (cutS_length z lo hi) h.1, fun c hc => h.2 c (List.mem_of_mem_drop (List.mem_of_mem_take (by simpa [cutS] using hc)))⟩
theorem Tx.empty : Tx 0 ("" : Str) := ⟨by decide, fun c hc => by
  have e : ("" : Str).cps.toList = [] := by decide +kernel
  rw [e] at hc
  cases hc⟩
theorem Tx.join : ∀ (ys : List Str), (∀ y ∈ ys, Tx 1 y) → Tx ys.length (Str.join "" ys)
  | [], _ => ⟨Nat.le_refl _, fun c hc => by cases hc⟩
  | [y], h => h y (by simp)
  | y :: x :: r, h => by
    have ih := Tx.join (x :: r) fun z hz => h z (by simp at hz ⊢; exact .inr hz)
    have q := ((h y (by simp)).add Tx.empty).add ih
    exact q.mono (by simp; omega)
theorem sum_one : ∀ (ys : List Str), (∀ y ∈ ys, Tx 1 y) → (ys.map (·.length)).sum ≤ ys.length
  | [], _ => Nat.le_refl _
  | y :: r, h => by
    have ih := sum_one r fun z hz => h z (by simp [hz])
    have q := (h y (by simp)).1
    rw [List.map_cons, List.sum_cons, List.length_cons]
    omega
def OD : List Str := ["", "", "A", "0", " ", "_", "-", "\n", "Z", "{", "`"]
theorem od_all : ∀ z ∈ OD, z.length ≤ 1 ∧ ∀ c ∈ z.cps.toList, c < 128 := by decide +kernel
theorem let_all : ∀ c ∈ LET.cps.toList, c < 128 := by rw [let_is]; decide
theorem let_len : LET.length = 26 := by decide +kernel
theorem tx_sign {c : Nat} (h : c < 128) : Tx 1 (⟨#[c]⟩ : Str) := ⟨Nat.le_refl _, fun d hd => by
  have e : d = c := by simpa using hd
  rw [e]
  exact h⟩
theorem pot_ne {H : Hp} {p q : Addr} (h : Pot H p) (hq : H q = none) : q ≠ p := by
  obtain ⟨a, b, c, hp, _⟩ := h
  exact (ne_of_none hp hq).symm
theorem Pot.new {H : Hp} {p q : Addr} {o : HO} (h : Pot H p) (hq : H q = none) : Pot (upd H q o) p := h.same (Same.new hq)
theorem Pot.upd {H : Hp} {p q : Addr} {o : HO} (h : Pot H p) (hq : q ≠ p) : Pot (L2.upd H q o) p := by
  obtain ⟨a, b, c, hp, r⟩ := h
  exact ⟨a, b, c, by rw [upd_ne hq.symm]; exact hp, r⟩
def spLetters : Sp := fun vs H Q _ => ∃ (p : Addr), vs = [.ref p] ∧ Pot H p ∧ ∀ (z : Str) (H' : Hp), Tx 30 z → Pot H' p → But p H H' → Q (.str z) H'
section
variable {P : Program} {w : World} {K : PySem.W.Frag} {mg : Str → Option Value} {base : Heap}
abbrev s_whole : Stmt := top 19
abbrev N_whole : List Str := ["_law_pot_here", "_law_lot", "_law_sign"]
abbrev P_whole : List Str := ["_law_pot_here"]
theorem sc_whole : FnScope N_whole P_whole (defScope s_whole) := ⟨rfl, rfl, rfl, by decide +kernel, rfl, by decide +kernel, by decide +kernel⟩
theorem ok_whole {f f1 : Addr} {fd fd1 : FuncData} (B : Bl mg) (D_stir : Df K mg "_law_stir" s_stir P_stir f1 fd1) (D : Df K mg "_law_whole" s_whole P_whole f fd) : FnOk P w K mg base CX0 2 f fd P_whole spWhole := by
  have G_stir : FnOk P w K mg base CX0 1 f1 fd1 P_stir spStir := ok_stir B D_stir
  refine D.F.ok sc_whole (fun vs H Q E h => ?_) (fun cdv A outer s H vs Q E hr h => ?_)
  · obtain ⟨p, rfl, _⟩ := h
    rfl
  · obtain ⟨p, rfl, hp, k⟩ := h
    refine ⟨_, (pss_cons (ps_par (i := 1) (j := 2) (by rfl) sc_whole.nd rfl rfl (by decide) rfl rfl (pa_cons (pe_call G_stir (hr.mono (by decide)) (by rfl) D_stir.g D_stir.F.kp D_stir.b .nil pass0 (pa_cons (pv 0) (pa_cons pe_int pa_nil))) (pa_cons (pe_op op_sub pe_int (pe_op op_mul pe_int (pe_call G_stir (hr.mono (by decide)) (by rfl) D_stir.g D_stir.F.kp D_stir.b .nil pass0 (pa_cons (pv 0) (pa_cons pe_int pa_nil))))) pa_nil)) (by rfl))
      (pss_cons (ps_if (pt_cmpR op_lt (pv 1) pe_int (nomark _)) (pss_one (ps_ret (pe_op op_mul (pv 2) (pe_call G_stir (hr.mono (by decide)) (by rfl) D_stir.g D_stir.F.kp D_stir.b .nil pass0 (pa_cons (pv 0) (pa_cons pe_int pa_nil)))))) pss_nil)
      (pss_cons (ps_if (pt_cmpR op_eq (pv 1) pe_int (nomark _)) (pss_one (ps_ret (pe_op op_mul (pv 2) (pe_call G_stir (hr.mono (by decide)) (by rfl) D_stir.g D_stir.F.kp D_stir.b .nil pass0 (pa_cons (pv 0) (pa_cons (pe_op op_pow pe_int pe_int) pa_nil)))))) pss_nil)
      (pss_cons (ps_if (pt_cmpR op_eq (pv 1) pe_int (nomark _)) (pss_one (ps_ret (pe_op op_mul (pv 2) (pe_op op_sub (pe_op op_sub (pe_op op_pow pe_int pe_int) pe_int) (pe_call G_stir (hr.mono (by decide)) (by rfl) D_stir.g D_stir.F.kp D_stir.b .nil pass0 (pa_cons (pv 0) (pa_cons pe_int pa_nil))))))) pss_nil)
      (pss_one (ps_ret (pe_ifExp (pt_cmpR op_eq (pv 1) pe_int (nomark _)) (pe_op op_mul (pv 2) (pe_op op_add (pe_op op_pow pe_int pe_int) (pe_call G_stir (hr.mono (by decide)) (by rfl) D_stir.g D_stir.F.kp D_stir.b .nil pass0 (pa_cons (pv 0) (pa_cons pe_int pa_nil))))) (pe_op op_mul (pv 2) (pe_op op_add (pe_op op_pow pe_int pe_int) (pe_call G_stir (hr.mono (by decide)) (by rfl) D_stir.g D_stir.F.kp D_stir.b .nil pass0 (pa_cons (pv 0) (pa_cons pe_int pa_nil)))))))))))), ?_⟩
    refine ⟨_, rfl, p, 6, rfl, hp, by decide, by decide, fun a H1 a0 a1 p1 b1 => ?_⟩
    refine ⟨_, rfl, p, 2, rfl, p1, by decide, by decide, fun g H2 g0 g1 p2 b2 => ?_⟩
    refine ⟨_, _, rfl, rfl, .inl ⟨by decide, by decide⟩, _, _, rfl, rfl, _, _, rfl, ?_⟩
    have b12 := b1.trans b2
    have hs : 1 - 2 * g = 1 ∨ 1 - 2 * g = -1 := by omega
    have hm : ∀ j : Int, CMul (1 - 2 * g) j := fun j => .inl ⟨by omega, by omega⟩
    have fin : ∀ (r : Int) (H3 : Hp), r.natAbs ≤ 10 ^ 60 + 1 → Pot H3 p → But p H2 H3 → Q (.int ((1 - 2 * g) * r)) H3 := fun r H3 hr h3 hb => by
      refine k _ H3 ?_ h3 (b12.trans hb)
      rcases hs with q | q
      · rw [q]; omega
      · rw [q]; omega
    refine ⟨_, rfl, _, _, rfl, rfl, _, rfl, ite2 (fun e => ?_) (fun e => ?_)⟩
    · refine ⟨_, rfl, _, rfl, p, 21, rfl, p2, by decide, by decide, fun r H3 r0 r1 p3 b3 => ?_⟩
      exact ⟨_, _, rfl, rfl, hm r, fin r H3 (by omega) p3 b3⟩
    refine ⟨_, rfl, rfl, _, rfl, ite2 (fun e => ?_) (fun e => ?_)⟩
    · refine ⟨_, rfl, _, rfl, _, _, rfl, rfl, ⟨by decide, by decide, by decide⟩, p, _, rfl, p2, by decide, by decide, fun r H3 r0 r1 p3 b3 => ?_⟩
      have r1' : r < 10 ^ 13 := r1
      exact ⟨_, _, rfl, rfl, hm r, fin r H3 (by omega) p3 b3⟩
    refine ⟨_, rfl, rfl, _, rfl, ite2 (fun e => ?_) (fun e => ?_)⟩
    · refine ⟨_, rfl, _, _, rfl, rfl, ⟨by decide, by decide, by decide⟩, _, _, rfl, rfl, _, rfl, p, 3, rfl, p2, by decide, by decide, fun r H3 r0 r1 p3 b3 => ?_⟩
      refine ⟨_, _, rfl, rfl, _, _, rfl, rfl, hm _, fin _ H3 ?_ p3 b3⟩
      show ((10 : Int) ^ 60 - 1 - r).natAbs ≤ 10 ^ 60 + 1
      omega
    refine ⟨_, rfl, rfl, _, rfl, ite2 (fun e => ?_) (fun e => ?_)⟩
    · refine ⟨_, rfl, _, _, rfl, rfl, ⟨by decide, by decide, by decide⟩, _, rfl, p, 9, rfl, p2, by decide, by decide, fun r H3 r0 r1 p3 b3 => ?_⟩
      refine ⟨_, _, rfl, rfl, _, _, rfl, rfl, hm _, fin _ H3 ?_ p3 b3⟩
      show ((10 : Int) ^ 59 + r).natAbs ≤ 10 ^ 60 + 1
      omega
    · refine ⟨_, rfl, _, _, rfl, rfl, ⟨by decide, by decide, by decide⟩, _, rfl, p, 2, rfl, p2, by decide, by decide, fun r H3 r0 r1 p3 b3 => ?_⟩
      refine ⟨_, _, rfl, rfl, _, _, rfl, rfl, hm _, fin _ H3 ?_ p3 b3⟩
      show ((10 : Int) ^ 60 + r).natAbs ≤ 10 ^ 60 + 1
      omega
abbrev s_letters : Stmt := top 24
abbrev N_letters : List Str := ["_law_pot_here", "_law_turn", "_law_text", "_law_spot"]
abbrev P_letters : List Str := ["_law_pot_here"]
theorem sc_letters : FnScope N_letters P_letters (defScope s_letters) := ⟨rfl, rfl, rfl, by decide +kernel, rfl, by decide +kernel, by decide +kernel⟩
theorem ok_letters {f f1 f2 : Addr} {fd fd1 fd2 : FuncData} (B : Bl mg) (D_stir : Df K mg "_law_stir" s_stir P_stir f1 fd1) (D_one_of : Df K mg "_law_one_of" s_one_of P_one_of f2 fd2) (D : Df K mg "_law_letters" s_letters P_letters f fd) :
    FnOk P w K mg base CX0 3 f fd P_letters spLetters := by
  have G_stir : FnOk P w K mg base CX0 1 f1 fd1 P_stir spStir := ok_stir B D_stir
  have G_one_of : FnOk P w K mg base CX0 2 f2 fd2 P_one_of (spOneOf K) := ok_one_of B D_stir D_one_of
  refine D.F.ok sc_letters (fun vs H Q E h => ?_) (fun cdv A outer s H vs Q E hr h => ?_)
  · obtain ⟨p, rfl, _⟩ := h
    rfl
  · obtain ⟨p, rfl, hp, k⟩ := h
    refine ⟨_, (pss_cons (ps_set (i := 2) sc_letters.nd rfl (Or.inl rfl) (pe_join pe_str (pe_lc (own := [("_law_turn", 1)]) (g := gName 1) (tt := tYes) rfl sc_letters.nd (pi_range1 rfl B.b_range (pa_cons (pe_call G_stir (hr.mono (by decide)) (by rfl) D_stir.g D_stir.F.kp D_stir.b .nil pass0 (pa_cons (pv 0) (pa_cons pe_int pa_nil))) pa_nil)) (blkOk_by (own := [("_law_turn", 1)]) (N := N_letters) (sc := defScope s_letters) (by decide +kernel)) (fun _ _ _ _ _ => (pg_name (i := 1) sc_letters.nd rfl (Or.inl rfl))) (fun _ _ _ _ _ => pts_nil) (fun _ _ _ _ _ => (pe_call G_one_of (hr.mono (by decide)) (by rfl) D_one_of.g D_one_of.F.kp D_one_of.b .nil pass0 (pa_cons (pv 0) (pa_cons pe_str pa_nil)))))))
      (pss_cons (ps_set (i := 3) sc_letters.nd rfl (Or.inl rfl) (pe_call G_stir (hr.mono (by decide)) (by rfl) D_stir.g D_stir.F.kp D_stir.b .nil pass0 (pa_cons (pv 0) (pa_cons (pe_op op_add (pe_callB call_len_str (by rfl) B.b_len (by decide +kernel) (pa_cons (pv 2) pa_nil)) pe_int) pa_nil))))
      (pss_one (ps_ret (pe_op op_add_str (pe_op op_add_str (pe_slice sl_str (pv 2) po_none (po_some (pv 3))) (pe_call G_one_of (hr.mono (by decide)) (by rfl) D_one_of.g D_one_of.F.kp D_one_of.b .nil pass0 (pa_cons (pv 0) (pa_cons (pe_lst (pa_cons pe_str (pa_cons pe_str (pa_cons pe_str (pa_cons pe_str (pa_cons pe_str (pa_cons pe_str (pa_cons pe_str (pa_cons pe_str (pa_cons pe_str (pa_cons pe_str (pa_cons pe_str pa_nil)))))))))))) pa_nil)))) (pe_slice sl_str (pv 2) (po_some (pv 3)) po_none)))))), ?_⟩
    have hl : (1000 : Nat) ≤ sizeLine := by decide
    -- text
    refine ⟨⟨_, rfl⟩, _, rfl, p, 10, rfl, hp, by decide, by decide, fun n H1 n0 n1 p1 b1 => ⟨n, rfl, by omega, by omega, fun L hL => ?_⟩⟩
    have hLp : L ≠ p := pot_ne p1 hL
    refine lc_it walk_range (fun i H' => Pot H' p ∧ But p H H' ∧ H L = none ∧ ∃ ys : List Str, H' L = some (.lst (ys.map V.str)) ∧ ys.length = i ∧ ∀ y ∈ ys, Tx 1 y)
      ⟨p1.new hL, b1.trans (But.new hL), ?_, [], upd_same, rfl, fun y hy => by cases hy⟩ (fun _ _ _ _ => trivial) ?_ ?_
    · cases q : H L with
      | none => rfl
      | some o =>
        have z := b1 L o q hLp
        rw [hL] at z
        cases z
    · rintro i x H2 H3 hi ⟨pp, bb, hn, ys, h2, hlen, hy⟩ ⟨rfl, rfl⟩
      refine ⟨rfl, _, rfl, p, _, rfl, pp, .inr ⟨LET, rfl, by rw [let_len]; decide, by rw [let_len]; decide, fun c hc H4 p4 b4 => ?_⟩⟩
      have h4 := b4 L _ h2 hLp
      refine ⟨_, h4, ?_, p4.upd hLp, fun b o e hb => ?_, hn, ys ++ [(⟨#[c]⟩ : Str)], ?_, ?_, fun y hy' => ?_⟩
      · rw [List.length_map]
        omega
      · rw [upd_ne (ne_of_none e hn)]
        exact b4 b o (bb b o e hb) hb
      · rw [upd_same, List.map_append]
        rfl
      · rw [List.length_append, hlen]
        rfl
      · rcases List.mem_append.mp hy' with q | q
        · exact hy y q
        · have e : y = (⟨#[c]⟩ : Str) := by simpa using q
          rw [e]
          exact tx_sign (let_all c hc)
    · rintro H2 ⟨p2, b2, hn, ys, h2, hlen, hy⟩
      have ht : Tx 10 (Txt.join "" ys) := by
        rw [show Txt.join "" ys = Str.join "" ys from TL.join_eq _ _]
        exact (Tx.join ys hy).mono (by omega)
      have hs := sum_one ys hy
      have hd : ∀ n : Nat, n ≤ 1000 → n ≤ sizeLine := fun n h => Nat.le_trans h hl
      have e0 : ("" : Str).length = 0 := by decide
      refine ⟨"", L, ys, rfl, rfl, .inl (SqL.of h2), by rw [e0]; omega, ?_⟩
      generalize Txt.join "" ys = z at ht
      have hz : z.length ≤ 10 := ht.1
      -- spot
      refine ⟨_, rfl, _, rfl, z, rfl, hd _ (by omega), _, _, rfl, rfl, p, _, rfl, p2, by omega, by omega, fun r H3 r0 r1 p3 b3 => ?_⟩
      -- text[:spot] + one_of(..) + text[spot:]
      refine ⟨_, rfl, _, rfl, r, rfl, z, rfl, hd _ (by omega), _, rfl, (by show 11 ≤ sizeLine; decide), fun l hl3 => ?_⟩
      have hlp : l ≠ p := pot_ne p3 hl3
      refine ⟨p, _, rfl, p3.new hl3, .inl ⟨l, OD.map V.str, rfl, hlp, upd_same, by decide, by decide, fun x hx H4 p4 b4 => ?_⟩⟩
      obtain ⟨y, hy1, rfl⟩ := List.mem_map.mp hx
      have hy2 : Tx 1 y := od_all y hy1
      have t1 := (ht.cut none (some r)).add hy2
      have t2 := t1.add (ht.cut (some r) none)
      refine ⟨_, _, rfl, rfl, hd _ ?_, _, rfl, _, rfl, r, rfl, z, rfl, hd _ (by omega), _, _, rfl, rfl, hd _ ?_, ?_⟩
      · have q1 := (ht.cut none (some r)).1
        have q2 := hy2.1
        omega
      · have q1 := t1.1
        have q2 := (ht.cut (some r) none).1
        omega
      · exact k _ H4 (t2.mono (by omega)) p4 ((b2.trans b3).trans ((But.new hl3).trans b4))
end
end V0
namespace V0
open PySem PySem.Spec PyProof.Rows L2
/-! ### data that can be shown -/
theorem SqT.same {K : PySem.W.Frag} {H H' : Hp} {a : Addr} {xs : List V} (e : Same H H') (h : SqT K H a xs) : SqT K H' a xs := by
  rcases h with (h | ⟨o, h⟩) | h
  · exact .inl (.inl (e _ _ h))
  · exact .inl (.inr ⟨o, e _ _ h⟩)
  · exact .inr h
mutual
theorem Dp.same {K : PySem.W.Frag} {H H' : Hp} (s : Same H H') : ∀ (d : PyData) (v : V), Dp K H v d → Dp K H' v d
  | .none, _, h => by cases h; exact .non
  | .bool b, _, h => by cases h; exact .bl b
  | .int i, _, h => by cases h; exact .int i
  | .str x, _, h => by cases h; exact .str x
  | .list ds, _, h => by
    cases h with
    | lst a b => exact .lst (Same.seq s a) (Dp.sameAll s ds _ b)
  | .tuple ds, _, h => by
    cases h with
    | tup a b => exact .tup (SqT.same s a) (Dp.sameAll s ds _ b)
  | .dict _, _, h => by cases h
theorem Dp.sameAll {K : PySem.W.Frag} {H H' : Hp} (s : Same H H') : ∀ (ds : List PyData) (vs : List V), DpAll K H vs ds → DpAll K H' vs ds
  | [], _, h => by cases h; exact .nil
  | d :: ds, _, h => by
    cases h with
    | cons a b => exact .cons (Dp.same s d _ a) (Dp.sameAll s ds _ b)
end
mutual
theorem Dp.noDict {K : PySem.W.Frag} {H : Hp} : ∀ (d : PyData) (v : V), Dp K H v d → d.hasDict = false
  | .none, _, _ => rfl
  | .bool _, _, _ => rfl
  | .int _, _, _ => rfl
  | .str _, _, _ => rfl
  | .list ds, _, h => by
    cases h with
    | lst a b =>
      show PyData.hasDictAll ds = false
      exact Dp.noDictAll ds _ b
  | .tuple ds, _, h => by
    cases h with
    | tup a b =>
      show PyData.hasDictAll ds = false
      exact Dp.noDictAll ds _ b
  | .dict _, _, h => by cases h
theorem Dp.noDictAll {K : PySem.W.Frag} {H : Hp} : ∀ (ds : List PyData) (vs : List V), DpAll K H vs ds → PyData.hasDictAll ds = false
  | [], _, _ => rfl
  | d :: ds, _, h => by
    cases h with
    | cons a b =>
      show (PyData.hasDict d || PyData.hasDictAll ds) = false
      rw [Dp.noDict d _ a, Dp.noDictAll ds _ b]
      rfl
end
/-- not too deep, not too large -/
structure Sm (k : Nat) (d : PyData) : Prop where
  sh : d.showable = true
  lv : d.leavesShort 100 = true
  dp : d.depth ≤ k
  wt : d.weight ≤ 1000 * 4 ^ k
theorem Sm.up {k : Nat} {d : PyData} (h : Sm k d) : Sm (k + 1) d := ⟨h.sh, h.lv, by have := h.dp; omega, by have := h.wt; rw [Nat.pow_succ]; omega⟩
theorem Sm.int {i : Int} (h : i.natAbs < 10 ^ 90) : Sm 0 (.int i) := by
  have h2 : i.natAbs < 2 ^ 900 := Nat.lt_trans h (by decide +kernel)
  have hl : i.natAbs.log2 < 900 := by
    by_cases h0 : i.natAbs = 0
    · rw [h0]; decide
    · exact (Nat.log2_lt h0).mpr h2
  refine ⟨?_, ?_, Nat.le_refl _, ?_⟩
  · show decide (i.natAbs.log2 < 1920) = true
    exact decide_eq_true (by omega)
  · show decide ((PyData.shown (.int i)).length ≤ 100) = true
    have e := int_text_length_le10 (a := i) (k := 90) (by decide) h
    have e2 : (PyData.shown (.int i)).length = (toString i).length := by
      show (Str.ofString (toString i)).length = _
      rw [PySem.ofString_length]
    exact decide_eq_true (by omega)
  · show (if i == 0 then 0 else i.natAbs.log2 + 1) ≤ 1000 * 4 ^ 0
    split <;> omega
theorem Sm.str {z : Str} (h : z.length ≤ 900) (ho : PyData.strOk z = true) : Sm 0 (.str z) := by
  refine ⟨rfl, ?_, Nat.le_refl _, ?_⟩
  · show (z.cps.toList.all fun c => decide (c < 16 ^ 8)) = true
    rw [List.all_eq_true]
    intro c hc
    have q : c < 0x110000 := of_decide_eq_true (Array.all_eq_true_iff_forall_mem.mp ho c (by rw [← Array.mem_toList_iff]; exact hc))
    exact decide_eq_true (by omega)
  · show z.cps.size ≤ 1000 * 4 ^ 0
    have : z.cps.size = z.length := rfl
    omega
theorem Sm.non : Sm 0 .none := ⟨rfl, rfl, Nat.le_refl _, Nat.zero_le _⟩
theorem Sm.bl (b : Bool) : Sm 0 (.bool b) := ⟨rfl, rfl, Nat.le_refl _, Nat.zero_le _⟩
theorem sm_all {k : Nat} : ∀ ds : List PyData, (∀ d ∈ ds, Sm k d) → PyData.showableAll ds = true ∧ PyData.leavesShortAll 100 ds = true ∧ PyData.depthAll ds ≤ k ∧ PyData.weightAll ds ≤ ds.length * (1000 * 4 ^ k + 1)
  | [], _ => ⟨rfl, rfl, Nat.zero_le _, Nat.zero_le _⟩
  | d :: ds, h => by
    obtain ⟨a, b, c, e⟩ := sm_all ds fun x hx => h x (by simp [hx])
    have q := h d (by simp)
    refine ⟨?_, ?_, ?_, ?_⟩
    · show (PyData.showable d && PyData.showableAll ds) = true
      rw [q.sh, a]; rfl
    · show (PyData.leavesShort 100 d && PyData.leavesShortAll 100 ds) = true
      rw [q.lv, b]; rfl
    · show max (PyData.depth d) (PyData.depthAll ds) ≤ k
      exact Nat.max_le.mpr ⟨q.dp, c⟩
    · show PyData.weight d + 1 + PyData.weightAll ds ≤ (ds.length + 1) * (1000 * 4 ^ k + 1)
      have w := q.wt
      rw [Nat.succ_mul]
      omega
theorem Sm.seq {k : Nat} {ds : List PyData} (h : ∀ d ∈ ds, Sm k d) (hn : ds.length ≤ 3) : Sm (k + 1) (.list ds) ∧ Sm (k + 1) (.tuple ds) := by
  obtain ⟨a, b, c, e⟩ := sm_all ds h
  have w : PyData.weightAll ds ≤ 1000 * 4 ^ (k + 1) := by
    have e2 : ds.length * (1000 * 4 ^ k + 1) ≤ 3 * (1000 * 4 ^ k + 1) := Nat.mul_le_mul_right _ hn
    have p : 0 < 4 ^ k := Nat.pow_pos (by decide)
    rw [Nat.pow_succ]
    omega
  exact ⟨⟨a, b, Nat.succ_le_succ c, w⟩, ⟨a, b, Nat.succ_le_succ c, w⟩⟩
theorem Sm.size {k : Nat} {d : PyData} (h : Sm k d) (hk : k ≤ 3) : d.shown.length ≤ sizeLine := by
  have q := PyData.shown_le 100 (by decide) d h.lv
  have w := h.wt
  have p : 4 ^ k ≤ 4 ^ 3 := Nat.pow_le_pow_right (by decide) hk
  have hs : sizeLine = 16777216 := sizeLine_eq
  omega
/-- a dict of ints at a -/
def ikv (ks : List (Int × Int)) : List (Key × V) := ks.map fun p => (.inl p.1, .int p.2)
def idd (ks : List (Int × Int)) : PyData := .dict (ks.map fun p => (.int p.1, .int p.2))
/-- what repr can show -/
inductive Rp (K : PySem.W.Frag) (H : Hp) : V → PyData → Prop
  | dp {x : V} {d : PyData} (h : Dp K H x d) : Rp K H x d
  | dct {a : Addr} {ks : List (Int × Int)} (h : H a = some (.dK (ikv ks))) : Rp K H (.ref a) (idd ks)
  | pair {a b : Addr} {z : Str} {ks : List (Int × Int)} (h : H a = some (.tup [.str z, .ref b])) (h2 : H b = some (.dK (ikv ks))) : Rp K H (.ref a) (.tuple [.str z, idd ks])
section
variable {X : Cx} {pins : List (Addr × Obj)} {σ : L2.St} {H : Hp} {s : Shared}
theorem pairs_ints {P : Program} {w : World} : ∀ {es : List DictEntry} {ks : List (Int × Int)} {vs : List (Key × Value)}, KV (ikv ks) vs → Pairs (mixKind P w) es vs →
    (∃ as, ReadsAll s.heap (es.map (·.key)) (ks.map fun p => PyData.int p.1) as ∧ as = []) ∧ (∃ as, ReadsAll s.heap (es.map (·.val)) (ks.map fun p => PyData.int p.2) as ∧ as = [])
  | es, [], _, kv, p => by
    cases kv
    cases p
    exact ⟨⟨_, .nil, rfl⟩, ⟨_, .nil, rfl⟩⟩
  | es, k :: ks, _, kv, p => by
    cases kv with
    | @cons _ q _ qs e1 e2 =>
      cases p with
      | @cons e _ es' _ p1 p2 p3 =>
        obtain ⟨⟨as, r1, rfl⟩, ⟨bs, r2, rfl⟩⟩ := pairs_ints e2 p3
        obtain ⟨q1, q2⟩ := q
        obtain ⟨e1, t, e3⟩ := e1
        have e1' : Sum.inl k.1 = q1 := e1
        subst e1'
        obtain ⟨t2, e4⟩ := Value.isInt_shape (k := k.1) (v := e.key) p1
        refine ⟨⟨_, ?_, rfl⟩, ⟨_, ?_, rfl⟩⟩
        · rw [List.map_cons, e4]
          exact ReadsAll.cons (.int _ _) r1
        · rw [List.map_cons, p2]
          have e3' : q2 = Value.int k.2 t := e3
          show ReadsAll s.heap (q2 :: _) _ _
          rw [e3']
          exact ReadsAll.cons (.int _ _) r2
theorem dict_reads (I : Inv X pins σ H s) {a : Addr} {ks : List (Int × Int)} (h : H a = some (.dK (ikv ks))) : Reads s.heap (.ref a) (idd ks) [a] ∧ sysModules ≠ a := by
  obtain ⟨hz, hS, vs, r, o, es, ep, h1, h2, h3, h4, h5, h6⟩ := (show ObjOk X.prog X.w H s.heap a (.dK (ikv ks)) from I.hok a _ h)
  obtain ⟨⟨as, r1, rfl⟩, ⟨bs, r2, rfl⟩⟩ := pairs_ints (s := s) r h5
  refine ⟨?_, fun z => by rw [z] at hS; simp at hS⟩
  have q := Reads.dict (h := s.heap) (a := a) (o := o) (es := es) (n := ep) (kvs := ks.map fun p => (PyData.int p.1, PyData.int p.2)) (as := []) (bs := []) h1 h2.1 h3 (by rw [List.map_map]; exact r1) (by rw [List.map_map]; exact r2)
  exact q
theorem Rp.reads (I : Inv X pins σ H s) {x : V} {d : PyData} {u : Value} (h : Rp X.K H x d) (r : RelV x u) : ∃ as, Reads s.heap u d as ∧ (d.hasDict = true → sysModules ∉ as) := by
  cases h with
  | dp h =>
    obtain ⟨as, q⟩ := Dp.reads I d x u h r
    exact ⟨as, q, fun z => by rw [Dp.noDict d x h] at z; cases z⟩
  | dct h =>
    cases r
    obtain ⟨q, n⟩ := dict_reads I h
    exact ⟨_, q, fun _ z => n (by simpa using z)⟩
  | @pair a b z ks h h2 =>
    cases r
    obtain ⟨q, n⟩ := dict_reads I h2
    obtain ⟨its, rv, ⟨o, ho, hc, m, hd⟩, _⟩ := I.tuple (SqT.of h)
    cases rv with
    | cons r1 r2 =>
      cases r2 with
      | cons r2 r3 =>
        cases r3
        obtain ⟨t, e1⟩ := r1
        subst e1
        cases r2
        have ra := ReadsAll.cons (Reads.str (h := s.heap) z t) (ReadsAll.cons q ReadsAll.nil)
        exact ⟨_, Reads.tuple ho hc hd ra, fun _ z => n (by simpa using z)⟩
end
/-- repr, where no other repr is under way -/
def rRepr (K : PySem.W.Frag) : List V → Hp → VK → Prop := fun xs H Q => ∃ (x : V) (d : PyData) (k : Nat), xs = [x] ∧ Rp K H x d ∧ Sm k d ∧ k ≤ 3 ∧ (∃ a, x = .ref a) ∧ Q (.str d.shown) H
theorem call_repr {X : Cx} (hg : X.A.guards = some []) (hu : X.A.units + 64 < cLine) : CallR X (.builtin "repr") (rRepr X.K) := by
  intro pins s σ H xs us Q I r h
  obtain ⟨x, d, k, rfl, hr, hs, hk, ⟨a, rfl⟩, q⟩ := h
  obtain ⟨u, rfl, rx⟩ := vals1 r
  obtain ⟨as, rd, hn⟩ := hr.reads I rx
  cases rx
  have hd := hs.dp
  refine repr_of_reads' rd hs.sh hn hg (by omega) (fun _ _ e => e) (fun h' u tk kk => ?_) (hs.size hk)
  exact ⟨.str d.shown, H, I.kept kk, ⟨_, rfl⟩, q⟩
end V0
namespace V0
open PySem PySem.Spec PyProof.Rows L2
/-! ### values made on the way, the pot aside -/
def hide (p : Addr) (H : Hp) : Hp := fun b => if b = p then none else H b
theorem hide_ne {p b : Addr} {H : Hp} (h : b ≠ p) : hide p H b = H b := if_neg h
theorem hide_eq {p b : Addr} {H : Hp} {o : HO} (h : hide p H b = some o) : b ≠ p ∧ H b = some o := by
  by_cases e : b = p
  · have q : hide p H b = none := if_pos e
    rw [q] at h
    cases h
  · rw [hide_ne e] at h
    exact ⟨e, h⟩
theorem But.hide {p : Addr} {H H' : Hp} (b : But p H H') : Same (hide p H) (hide p H') := fun c o h => by
  obtain ⟨e, q⟩ := hide_eq h
  rw [hide_ne e]
  exact b c o q e
theorem hide_same {p : Addr} {H : Hp} : Same (hide p H) H := fun c o h => (hide_eq h).2
structure Gd (K : PySem.W.Frag) (k : Nat) (H : Hp) (x : V) : Prop where
  kn : ∃ t, Kn H x t
  fr : ∃ b, Fr H x b
  tx : ∀ z, x = .str z → Tx 900 z
  dt : ∃ d, Dp K H x d ∧ Sm k d
theorem Gd.same {K : PySem.W.Frag} {k : Nat} {H H' : Hp} {x : V} (s : Same H H') (g : Gd K k H x) : Gd K k H' x :=
  ⟨let ⟨t, h⟩ := g.kn; ⟨t, h.same s⟩, let ⟨b, h⟩ := g.fr; ⟨b, h.same s⟩, g.tx, let ⟨d, h, q⟩ := g.dt; ⟨d, Dp.same s d x h, q⟩⟩
theorem Gd.up {K : PySem.W.Frag} {k : Nat} {H : Hp} {x : V} (g : Gd K k H x) : Gd K (k + 1) H x := ⟨g.kn, g.fr, g.tx, let ⟨d, h, q⟩ := g.dt; ⟨d, h, q.up⟩⟩
theorem Gd.int {K : PySem.W.Frag} {H : Hp} {i : Int} (h : i.natAbs < 10 ^ 90) : Gd K 0 H (.int i) := ⟨⟨_, .int i⟩, ⟨_, .no (.int i) (by decide)⟩, fun z e => (by cases e), _, .int i, Sm.int h⟩
theorem Gd.str {K : PySem.W.Frag} {H : Hp} {z : Str} (h : Tx 900 z) : Gd K 0 H (.str z) := ⟨⟨_, .str z⟩, ⟨_, .no (.str z) (by decide)⟩, fun y e => by cases e; exact h, _, .str z, Sm.str h.1 h.ok⟩
theorem Gd.non {K : PySem.W.Frag} {H : Hp} : Gd K 0 H .non := ⟨⟨_, .non⟩, ⟨_, .no .non (by decide)⟩, fun z e => (by cases e), _, .non, Sm.non⟩
theorem Gd.bl {K : PySem.W.Frag} {H : Hp} {b : Bool} : Gd K 0 H (.bl b) := ⟨⟨_, .bl b⟩, ⟨_, .no (.bl b) (by decide)⟩, fun z e => (by cases e), _, .bl b, Sm.bl b⟩
theorem gd_all {K : PySem.W.Frag} {k : Nat} {H : Hp} : ∀ {xs : List V}, (∀ x ∈ xs, Gd K k H x) → ∃ ds, DpAll K H xs ds ∧ (∀ d ∈ ds, Sm k d) ∧ ds.length = xs.length
  | [], _ => ⟨[], .nil, (fun d h => by cases h), rfl⟩
  | x :: xs, h => by
    obtain ⟨d, h1, q1⟩ := (h x (by simp)).dt
    obtain ⟨ds, h2, q2, e⟩ := gd_all (xs := xs) fun y hy => h y (List.mem_cons_of_mem _ hy)
    refine ⟨d :: ds, .cons h1 h2, fun y hy => ?_, by simp [e]⟩
    rcases List.mem_cons.mp hy with rfl | hy
    · exact q1
    · exact q2 y hy
theorem Gd.tup {K : PySem.W.Frag} {k : Nat} {H : Hp} {a : Addr} {xs : List V} (h : H a = some (.tup xs)) (hx : ∀ x ∈ xs, Gd K k H x) (hn : xs.length ≤ 3) : Gd K (k + 1) H (.ref a) := by
  obtain ⟨ds, h1, h2, e⟩ := gd_all hx
  exact ⟨⟨_, .tup h⟩, ⟨_, .tup h fun x hm => (hx x hm).kn⟩, fun z e => (by cases e), _, .tup (SqT.of h) h1, (Sm.seq h2 (by omega)).2⟩
theorem Gd.lst {K : PySem.W.Frag} {k : Nat} {H : Hp} {a : Addr} {xs : List V} (h : H a = some (.lst xs)) (hx : ∀ x ∈ xs, Gd K k H x) (hn : xs.length ≤ 3) : Gd K (k + 1) H (.ref a) := by
  obtain ⟨ds, h1, h2, e⟩ := gd_all hx
  exact ⟨⟨_, .lst h⟩, ⟨_, .no (.lst h) (by decide)⟩, fun z e => (by cases e), _, .lst (SqL.of h) h1, (Sm.seq h2 (by omega)).1⟩
/-- a value near -/
def Nr (K : PySem.W.Frag) (H : Hp) (x : V) : Prop := Gd K 2 H x ∨ ∃ (a : Addr) (ks : List (Int × Int)), x = .ref a ∧ H a = some (.dK (ikv ks)) ∧ Sm 1 (idd ks)
theorem Nr.same {K : PySem.W.Frag} {H H' : Hp} {x : V} (s : Same H H') (g : Nr K H x) : Nr K H' x := by
  rcases g with g | ⟨a, ks, e, h, q⟩
  · exact .inl (g.same s)
  · exact .inr ⟨a, ks, e, s _ _ h, q⟩
theorem Nr.kn {K : PySem.W.Frag} {H : Hp} {x : V} (g : Nr K H x) : ∃ t, Kn H x t := by
  rcases g with g | ⟨a, ks, rfl, h, q⟩
  · exact g.kn
  · exact ⟨_, .dct h⟩
theorem Nr.fr {K : PySem.W.Frag} {H : Hp} {x : V} (g : Nr K H x) : ∃ b, Fr H x b := by
  rcases g with g | ⟨a, ks, rfl, h, q⟩
  · exact g.fr
  · exact ⟨_, .no (.dct h) (by decide)⟩
theorem Nr.tx {K : PySem.W.Frag} {H : Hp} {x : V} (g : Nr K H x) : ∀ z, x = .str z → Tx 900 z := by
  rcases g with g | ⟨a, ks, rfl, h, q⟩
  · exact g.tx
  · intro z e
    cases e
def EvR (p : Addr) (H0 : Hp) (te : TE) (σ : L2.St) (R : Hp → V → Prop) : Prop := ∀ (H : Hp) (Q : VK), But p H0 H → Pot H p → (∀ v H', But p H H' → Pot H' p → R (hide p H') v → Q v H') → te σ H Q
def EvRs (p : Addr) (H0 : Hp) (ta : TA) (σ : L2.St) (n : Nat) (R : Hp → V → Prop) : Prop := ∀ (H : Hp) (Q : List V → Hp → Prop), But p H0 H → Pot H p → (∀ vs H', But p H H' → Pot H' p → vs.length = n → (∀ v ∈ vs, R (hide p H') v) → Q vs H') → ta σ H Q
def Mono (R : Hp → V → Prop) : Prop := ∀ H H' v, Same H H' → R H v → R H' v
section
variable {K : PySem.W.Frag} {p : Addr} {H0 : Hp} {σ : L2.St} {te ta' tb' : TE} {ta : TA} {k n : Nat} {R : Hp → V → Prop}
theorem ers_nil : EvRs p H0 tNil σ 0 R := fun H Q h0 hp q => q [] H But.refl hp rfl fun v hv => by cases hv
theorem ers_cons (hR : Mono R) (h : EvR p H0 te σ R) (hs : EvRs p H0 ta σ n R) : EvRs p H0 (tCons te ta) σ (n + 1) R := fun H Q h0 hp q =>
  h H _ h0 hp fun v H1 b1 p1 r1 => hs H1 _ (h0.trans b1) p1 fun vs H2 b2 p2 e2 r2 => q (v :: vs) H2 (b1.trans b2) p2 (by simp [e2]) fun y hy => by
    rcases List.mem_cons.mp hy with rfl | hy
    · exact hR _ _ _ b2.hide r1
    · exact r2 y hy
theorem gd_mono : Mono (Gd K k) := fun _ _ _ s g => g.same s
theorem nr_mono : Mono (Nr K) := fun _ _ _ s g => g.same s
theorem er_int {i : Int} (h : i.natAbs < 10 ^ 90) : EvR p H0 (tC (.int i)) σ (Gd K 0) := fun H Q h0 hp q => q _ H But.refl hp (Gd.int h)
theorem er_str {z : Str} (h : Tx 900 z) : EvR p H0 (tC (.str z)) σ (Gd K 0) := fun H Q h0 hp q => q _ H But.refl hp (Gd.str h)
theorem er_non : EvR p H0 (tC .non) σ (Gd K 0) := fun H Q h0 hp q => q _ H But.refl hp Gd.non
theorem er_bl {b : Bool} : EvR p H0 (tC (.bl b)) σ (Gd K 0) := fun H Q h0 hp q => q _ H But.refl hp Gd.bl
theorem er_var {i : Nat} {v : V} (e : σ[i]? = some (some v)) (g : ∀ H, Gd K 0 H v) : EvR p H0 (tVar i) σ (Gd K 0) := fun H Q h0 hp q => ⟨v, e, q v H But.refl hp (g _)⟩
theorem er_neg {i : Int} (h : i.natAbs < 10 ^ 90) : EvR p H0 (tUn (rU fun i => .int (-i)) (tC (.int i))) σ (Gd K 0) := fun H Q h0 hp q => ⟨i, rfl, q _ H But.refl hp (Gd.int (by omega))⟩
theorem er_tup (h : EvRs p H0 ta σ n (Gd K k)) (hn : n ≤ 3) : EvR p H0 (tTup ta) σ (Gd K (k + 1)) := fun H Q h0 hp q =>
  h H _ h0 hp fun vs H1 b1 p1 e1 r1 => ⟨Nat.le_trans (by omega : vs.length ≤ 3) (by decide), fun a ha => by
    have ne := pot_ne p1 ha
    refine q _ _ (b1.trans (But.new ha)) (p1.new ha) (Gd.tup (xs := vs) ?_ (fun x hx => (r1 x hx).same (But.new ha).hide) (by omega))
    rw [hide_ne ne]
    exact upd_same⟩
theorem er_lst (h : EvRs p H0 ta σ n (Gd K k)) (hn : n ≤ 3) : EvR p H0 (tLst ta) σ (Gd K (k + 1)) := fun H Q h0 hp q =>
  h H _ h0 hp fun vs H1 b1 p1 e1 r1 => ⟨Nat.le_trans (by omega : vs.length ≤ 3) (by decide), fun a ha => by
    have ne := pot_ne p1 ha
    refine q _ _ (b1.trans (But.new ha)) (p1.new ha) (Gd.lst (xs := vs) ?_ (fun x hx => (r1 x hx).same (But.new ha).hide) (by omega))
    rw [hide_ne ne]
    exact upd_same⟩
theorem er_up (h : EvR p H0 te σ (Gd K k)) : EvR p H0 te σ (Gd K (k + 1)) := fun H Q h0 hp q => h H Q h0 hp fun v H' b p' r => q v H' b p' r.up
theorem er_nr0 (h : EvR p H0 te σ (Gd K 0)) : EvR p H0 te σ (Nr K) := fun H Q h0 hp q => h H Q h0 hp fun v H' b p' r => q v H' b p' (.inl r.up.up)
theorem er_nr1 (h : EvR p H0 te σ (Gd K 1)) : EvR p H0 te σ (Nr K) := fun H Q h0 hp q => h H Q h0 hp fun v H' b p' r => q v H' b p' (.inl r.up)
theorem er_nr2 (h : EvR p H0 te σ (Gd K 2)) : EvR p H0 te σ (Nr K) := fun H Q h0 hp q => h H Q h0 hp fun v H' b p' r => q v H' b p' (.inl r)
theorem er_stir {f : Int} {m : Int} (m0 : 0 < m) (m1 : m < 1000) (hf : 0 ≤ f ∧ f ≤ 10) (hv : σ[0]? = some (some (.ref p))) (hp2 : EvR p H0 te σ (fun _ v => v = .int f)) :
    EvR p H0 (tOp (rI CMul fun i j => .int (i * j)) te (tCall spStir [] E0 (tCons (tVar 0) (tCons (tC (.int m)) tNil)))) σ (fun _ v => ∃ i : Int, v = .int i ∧ 0 ≤ i ∧ i < 20000) := fun H Q h0 hp q =>
  hp2 H _ h0 hp fun v H1 b1 p1 e => by
    subst e
    refine ⟨_, hv, p, m, rfl, p1, m0, by omega, fun r H2 r0 r1 p2 b2 => ⟨_, _, rfl, rfl, .inl ⟨by omega, by omega⟩, ?_⟩⟩
    refine q _ H2 (b1.trans b2) p2 ⟨_, rfl, Int.mul_nonneg hf.1 r0, ?_⟩
    have h2 : f * r ≤ 10 * r := Int.mul_le_mul_of_nonneg_right hf.2 r0
    omega
theorem er_stir0 {m : Int} (m0 : 0 < m) (m1 : m < 1000) (hv : σ[0]? = some (some (.ref p))) :
    EvR p H0 (tCall spStir [] E0 (tCons (tVar 0) (tCons (tC (.int m)) tNil))) σ (fun _ v => ∃ i : Int, v = .int i ∧ 0 ≤ i ∧ i < 20000) := fun H Q h0 hp q =>
  ⟨_, hv, p, m, rfl, hp, m0, by omega, fun r H2 r0 r1 p2 b2 => q _ H2 b2 p2 ⟨_, rfl, r0, by omega⟩⟩
theorem er_add {f : Int} (hf : 0 ≤ f ∧ f ≤ 10) (h : EvR p H0 te σ (fun _ v => ∃ i : Int, v = .int i ∧ 0 ≤ i ∧ i < 20000)) : EvR p H0 (tOp (rI0 fun i j => .int (i + j)) (tC (.int f)) te) σ (Gd K 0) := fun H Q h0 hp q =>
  h H _ h0 hp fun v H1 b1 p1 e => by
    obtain ⟨i, rfl, i0, i1⟩ := e
    exact ⟨_, _, rfl, rfl, q _ H1 b1 p1 (Gd.int (by omega))⟩
theorem er_nat (h : EvR p H0 te σ (fun _ v => ∃ i : Int, v = .int i ∧ 0 ≤ i ∧ i < 20000)) : EvR p H0 te σ (Gd K 0) := fun H Q h0 hp q =>
  h H _ h0 hp fun v H1 b1 p1 e => by
    obtain ⟨i, rfl, i0, i1⟩ := e
    exact q _ H1 b1 p1 (Gd.int (by omega))
theorem er_c {f : Int} : EvR p H0 (tC (.int f)) σ (fun _ v => v = .int f) := fun H Q h0 hp q => q _ H But.refl hp rfl
theorem er_dnew : EvR p H0 tDNewK σ (Nr K) := fun H Q h0 hp q a ha => by
  have ne := pot_ne hp ha
  refine q _ _ (But.new ha) (hp.new ha) (.inr ⟨a, [], rfl, ?_, ⟨rfl, rfl, by decide, by decide⟩⟩)
  rw [hide_ne ne]
  exact upd_same
theorem er_disp {i j : Int} (hs : Sm 1 (idd [(i, j)])) : EvR p H0 (tDisp [(tC (.int i), tC (.int j))]) σ (Nr K) := fun H Q h0 hp q a ha => by
  have ne := pot_ne hp ha
  refine ⟨upd_same, [(.inl i, .int j)], rfl, by show 1 ≤ 15; decide, ?_⟩
  rw [upd_upd]
  refine q _ _ (But.new ha) (hp.new ha) (.inr ⟨a, [(i, j)], rfl, ?_, hs⟩)
  rw [hide_ne ne, upd_same]
  rfl
theorem sm_12 : Sm 1 (idd [(1, 2)]) := ⟨by decide +kernel, by decide +kernel, by decide +kernel, by decide +kernel⟩
theorem tx_1 : Tx 900 ("1" : Str) := (show ("1" : Str).length ≤ 900 ∧ ∀ c ∈ ("1" : Str).cps.toList, c < 128 by decide +kernel)
theorem tx_0 : Tx 900 ("" : Str) := (show ("" : Str).length ≤ 900 ∧ ∀ c ∈ ("" : Str).cps.toList, c < 128 by decide +kernel)
theorem tx_a : Tx 900 ("a" : Str) := (show ("a" : Str).length ≤ 900 ∧ ∀ c ∈ ("a" : Str).cps.toList, c < 128 by decide +kernel)
theorem tx_int {i : Int} (h : i.natAbs < 10 ^ 90) : Tx 900 (Str.ofString (toString i)) := by
  refine ⟨?_, fun c hc => ?_⟩
  · rw [PySem.ofString_length]
    have := int_text_length_le10 (a := i) (k := 90) (by decide) h
    omega
  · rw [PySem.Str.ofString_eq_toList] at hc
    have hc' : c ∈ (toString i).toList.map Char.toNat := by simpa using hc
    obtain ⟨ch, h1, rfl⟩ := List.mem_map.mp hc'
    exact int_ascii i ch h1
theorem er_strx {x : Int} {j : Nat} (h : x.natAbs < 10 ^ 90) (e : σ[j]? = some (some (.int x)) := by rfl) :
    EvR p H0 (tCB (fun xs H Q => ∃ i, xs = [.int i] ∧ i.natAbs.log2 < 1920 ∧ Q (.str (toString i)) H) (tCons (tVar j) tNil)) σ (Nr K) := fun H Q h0 hp q => by
  have h2 : x.natAbs < 2 ^ 900 := Nat.lt_trans h (by decide +kernel)
  have hl : x.natAbs.log2 < 900 := by
    by_cases h0 : x.natAbs = 0
    · rw [h0]; decide
    · exact (Nat.log2_lt h0).mpr h2
  exact ⟨_, e, x, rfl, by omega, q _ H But.refl hp (.inl (Gd.str (tx_int h)).up.up)⟩
theorem ers_use {H : Hp} {Q : List V → Hp → Prop} (h0 : But p H0 H) (hp : Pot H p) (h : EvRs p H0 ta σ n R) (q : ∀ vs H', But p H H' → Pot H' p → vs.length = n → (∀ v ∈ vs, R (hide p H') v) → Q vs H') : ta σ H Q := h H Q h0 hp q
end
/-- a list of such values -/
structure Ll (p : Addr) (R : Hp → V → Prop) (H : Hp) (l : Addr) (xs : List V) (n : Nat) : Prop where
  at_ : H l = some (.lst xs)
  ne : l ≠ p
  len : xs.length = n
  all_ : ∀ v ∈ xs, R (hide p H) v
section
variable {K : PySem.W.Frag} {p l1 : Addr} {σ : L2.St} {H0 H : Hp} {ta : TA} {i j n m : Nat} {R : Hp → V → Prop} {D : Ends} {u : TS} {xs : List V}
theorem sq_lst (hR : Mono R) (h0 : But p H0 H) (hp : Pot H p) (h : EvRs p H0 ta σ n R) (hn : n ≤ 60) (k : ∀ ys H' l, Ll p R H' l ys n → Pot H' p → But p H H' → u D (σ.set j (some (.ref l))) H') : tSeq (tAsg (tLst ta) (gName j)) u D σ H := by
  refine ers_use h0 hp h fun ys H1 b1 p1 e1 r1 => ⟨Nat.le_trans (by omega : ys.length ≤ 60) (by decide), fun l hl => ?_⟩
  have nl := pot_ne p1 hl
  exact k ys _ l ⟨upd_same, nl, e1, fun v hv => hR _ _ _ (But.new hl).hide (r1 v hv)⟩ (p1.new hl) (b1.trans (But.new hl))
theorem cat_ (hR : Mono R) (h0 : But p H0 H) (hp : Pot H p) (hv : σ[i]? = some (some (.ref l1))) (L : Ll p R H l1 xs m) (h : EvRs p H0 ta σ n R) (hn : m + n ≤ 60) {Q : VK}
    (k : ∀ ys H' l, Ll p R H' l ys (m + n) → Pot H' p → But p H H' → Q (.ref l) H') : tOp rCat (tVar i) (tLst ta) σ H Q := by
  refine ⟨_, hv, ?_⟩
  have hs : (60 : Nat) ≤ sizeLine := by decide
  have lm := L.len
  refine ers_use h0 hp h fun ys H1 b1 p1 e1 r1 => ⟨by omega, fun l2 hl2 => ?_⟩
  have q := b1 l1 _ L.at_ L.ne
  refine ⟨l1, l2, xs, ys, rfl, rfl, ?_, upd_same, by omega, fun l hl => ?_⟩
  · rw [upd_ne (ne_of_none q hl2)]
    exact q
  have nl := pot_ne (p1.new hl2) hl
  refine k (xs ++ ys) _ l ⟨upd_same, nl, by rw [List.length_append]; omega, fun v hv => ?_⟩ ((p1.new hl2).new hl) (b1.trans ((But.new hl2).trans (But.new hl)))
  rcases List.mem_append.mp hv with z | z
  · exact hR _ _ _ (b1.trans ((But.new hl2).trans (But.new hl))).hide (L.all_ v z)
  · exact hR _ _ _ ((But.new hl2).trans (But.new hl)).hide (r1 v z)
theorem sq_cat (hR : Mono R) (h0 : But p H0 H) (hp : Pot H p) (hv : σ[i]? = some (some (.ref l1))) (L : Ll p R H l1 xs m) (h : EvRs p H0 ta σ n R) (hn : m + n ≤ 60)
    (k : ∀ ys H' l, Ll p R H' l ys (m + n) → Pot H' p → But p H H' → u D (σ.set j (some (.ref l))) H') : tSeq (tAsg (tOp rCat (tVar i) (tLst ta)) (gName j)) u D σ H :=
  cat_ hR h0 hp hv L h hn k
theorem rt_cat (hR : Mono R) (h0 : But p H0 H) (hp : Pot H p) (hv : σ[i]? = some (some (.ref l1))) (L : Ll p R H l1 xs m) (h : EvRs p H0 ta σ n R) (hn : m + n ≤ 60)
    (k : ∀ ys H' l, Ll p R H' l ys (m + n) → Pot H' p → But p H H' → D.rt (.ref l) H') : tRet (tOp rCat (tVar i) (tLst ta)) D σ H :=
  cat_ hR h0 hp hv L h hn k
end
def spNear (K : PySem.W.Frag) : Sp := fun vs H Q _ => ∃ (p : Addr), vs = [.ref p] ∧ Pot H p ∧ ∀ (l : Addr) (xs : List V) (H' : Hp), H' l = some (.lst xs) → l ≠ p → xs.length ≤ 60 → xs ≠ [] → (∀ x ∈ xs, Nr K (hide p H') x) → Pot H' p → But p H H' → Q (.ref l) H'
section
variable {P : Program} {w : World} {K : PySem.W.Frag} {mg : Str → Option Value} {base : Heap}
abbrev s_near_values : Stmt := top 25
abbrev N_near_values : List Str := ["_law_pot_here", "_law_one", "_law_other", "_law_word", "_law_found"]
abbrev P_near_values : List Str := ["_law_pot_here"]
theorem sc_near_values : FnScope N_near_values P_near_values (defScope s_near_values) := ⟨rfl, rfl, rfl, by decide +kernel, rfl, by decide +kernel, by decide +kernel⟩
theorem ok_near {f f1 f2 f3 f4 : Addr} {fd fd1 fd2 fd3 fd4 : FuncData} (B : Bl mg) (D_stir : Df K mg "_law_stir" s_stir P_stir f1 fd1) (D_one_of : Df K mg "_law_one_of" s_one_of P_one_of f2 fd2) (D_whole : Df K mg "_law_whole" s_whole P_whole f3 fd3)
    (D_letters : Df K mg "_law_letters" s_letters P_letters f4 fd4) (D : Df K mg "_law_near_values" s_near_values P_near_values f fd) : FnOk P w K mg base CX0 4 f fd P_near_values (spNear K) := by
  have G_stir : FnOk P w K mg base CX0 1 f1 fd1 P_stir spStir := ok_stir B D_stir
  have G_whole : FnOk P w K mg base CX0 2 f3 fd3 P_whole spWhole := ok_whole B D_stir D_whole
  have G_letters : FnOk P w K mg base CX0 3 f4 fd4 P_letters spLetters := ok_letters B D_stir D_one_of D_letters
  refine D.F.ok sc_near_values (fun vs H Q E h => ?_) (fun cdv A outer s H vs Q E hr h => ?_)
  · obtain ⟨p, rfl, _⟩ := h
    rfl
  · obtain ⟨p, rfl, hp, k⟩ := h
    refine ⟨_, (pss_cons (ps_par3 (i := 1) (j := 2) (l := 3) (by rfl) sc_near_values.nd rfl rfl rfl (by decide) (by decide) (by decide) rfl rfl rfl (pa_cons (pe_call G_whole (hr.mono (by decide)) (by rfl) D_whole.g D_whole.F.kp D_whole.b .nil pass0 (pa_cons (pv 0) pa_nil)) (pa_cons (pe_call G_whole (hr.mono (by decide)) (by rfl) D_whole.g D_whole.F.kp D_whole.b .nil pass0 (pa_cons (pv 0) pa_nil)) (pa_cons (pe_call G_letters (hr.mono (by decide)) (by rfl) D_letters.g D_letters.F.kp D_letters.b .nil pass0 (pa_cons (pv 0) pa_nil)) pa_nil))) (by rfl))
      (pss_cons (ps_set (i := 4) sc_near_values.nd rfl (Or.inl rfl) (pe_lst (pa_cons (pv 1) (pa_cons (pv 2) (pa_cons (pv 3) (pa_cons (pe_tup (pa_cons (pv 1) (pa_cons (pv 2) pa_nil))) (pa_cons (pe_tup (pa_cons (pv 1) (pa_cons pe_int pa_nil))) (pa_cons (pe_tup (pa_cons pe_int (pa_cons (pv 1) pa_nil))) (pa_cons (pe_tup (pa_cons pe_int (pa_cons (pv 1) pa_nil))) (pa_cons (pe_lst (pa_cons (pv 1) (pa_cons pe_int pa_nil))) (pa_cons (pe_tup (pa_cons (pv 1) pa_nil)) (pa_cons (pe_tup (pa_cons (pv 1) (pa_cons (pv 2) (pa_cons pe_int pa_nil)))) (pa_cons (pe_tup (pa_cons (pv 3) (pa_cons pe_int pa_nil))) pa_nil)))))))))))))
      (pss_cons (ps_set (i := 4) sc_near_values.nd rfl (Or.inl rfl) (pe_op op_cat (pv 4) (pe_lst (pa_cons (pe_tup (pa_cons (pe_op op_mul pe_int (pe_call G_stir (hr.mono (by decide)) (by rfl) D_stir.g D_stir.F.kp D_stir.b .nil pass0 (pa_cons (pv 0) (pa_cons pe_int pa_nil)))) (pa_cons (pe_op op_add pe_int (pe_op op_mul pe_int (pe_call G_stir (hr.mono (by decide)) (by rfl) D_stir.g D_stir.F.kp D_stir.b .nil pass0 (pa_cons (pv 0) (pa_cons pe_int pa_nil))))) pa_nil))) (pa_cons (pe_tup (pa_cons (pe_op op_add pe_int (pe_call G_stir (hr.mono (by decide)) (by rfl) D_stir.g D_stir.F.kp D_stir.b .nil pass0 (pa_cons (pv 0) (pa_cons pe_int pa_nil)))) (pa_cons (pe_op op_add pe_int (pe_call G_stir (hr.mono (by decide)) (by rfl) D_stir.g D_stir.F.kp D_stir.b .nil pass0 (pa_cons (pv 0) (pa_cons pe_int pa_nil)))) pa_nil))) pa_nil)))))
      (pss_cons (ps_set (i := 4) sc_near_values.nd rfl (Or.inl rfl) (pe_op op_cat (pv 4) (pe_lst (pa_cons (pe_tup (pa_cons (pv 1) (pa_cons pe_bl pa_nil))) (pa_cons (pe_tup (pa_cons pe_bl (pa_cons pe_int pa_nil))) (pa_cons (pe_tup (pa_cons pe_non (pa_cons pe_int pa_nil))) (pa_cons (pe_tup (pa_cons pe_int (pa_cons pe_non pa_nil))) (pa_cons (pe_tup (pa_cons pe_str (pa_cons pe_int pa_nil))) (pa_cons (pe_tup (pa_cons (pe_tup (pa_cons pe_int (pa_cons pe_int pa_nil))) (pa_cons (pe_tup (pa_cons pe_int (pa_cons pe_int pa_nil))) pa_nil))) (pa_cons (pe_disp (pps_cons pe_int pe_int pps_nil) (by rfl) (by rfl) (fun z => by cases z) (by decide)) (pa_cons (pe_callTy call_str_int (by rfl) B.b_str (by decide +kernel) (pa_cons (pv 1) pa_nil)) pa_nil)))))))))))
      (pss_one (ps_ret (pe_op op_cat (pv 4) (pe_lst (pa_cons pe_non (pa_cons pe_bl (pa_cons pe_bl (pa_cons pe_str (pa_cons pe_str (pa_cons (pe_tup pa_nil) (pa_cons (pe_lst pa_nil) (pa_cons pe_dnewK (pa_cons (pe_tup (pa_cons pe_int (pa_cons pe_int pa_nil))) (pa_cons (pe_tup (pa_cons pe_int (pa_cons pe_int pa_nil))) (pa_cons (pe_tup (pa_cons pe_int (pa_cons pe_int pa_nil))) (pa_cons (pe_tup (pa_cons pe_int (pa_cons (pe_un un_neg pe_int) pa_nil))) (pa_cons (pe_tup (pa_cons (pe_un un_neg pe_int) (pa_cons pe_int pa_nil))) (pa_cons (pe_lst (pa_cons (pv 3) pa_nil)) (pa_cons (pe_tup (pa_cons (pv 3) pa_nil)) pa_nil))))))))))))))))))))))), ?_⟩
    refine ⟨_, rfl, p, rfl, hp, fun x H1 hx p1 b1 => ⟨_, rfl, p, rfl, p1, fun y H2 hy p2 b2 => ⟨_, rfl, p, rfl, p2, fun z H3 hz p3 b3 => ⟨_, _, _, rfl, ?_⟩⟩⟩⟩
    have b13 : But p H H3 := (b1.trans b2).trans b3
    have gx : ∀ H, Gd K 0 H (.int x) := fun H => Gd.int (by omega)
    have gy : ∀ H, Gd K 0 H (.int y) := fun H => Gd.int (by omega)
    have gz : ∀ H, Gd K 0 H (.str z) := fun H => Gd.str (hz.mono (by decide))
    have i90 : ∀ i : Int, i.natAbs < 100 → i.natAbs < 10 ^ 90 := fun i h => by omega
    have hw : (60 : Nat) ≤ sizeLine := by decide
    -- found = [..]
    refine sq_lst (n := 11) (R := Nr K) nr_mono But.refl p3 (ers_cons nr_mono (er_nr0 (er_var rfl gx)) (ers_cons nr_mono (er_nr0 (er_var rfl gy)) (ers_cons nr_mono (er_nr0 (er_var rfl gz))
      (ers_cons nr_mono (er_nr1 (er_tup (ers_cons gd_mono (er_var rfl gx) (ers_cons gd_mono (er_var rfl gy) ers_nil)) (by decide)))
      (ers_cons nr_mono (er_nr1 (er_tup (ers_cons gd_mono (er_var rfl gx) (ers_cons gd_mono (er_int (by decide)) ers_nil)) (by decide)))
      (ers_cons nr_mono (er_nr1 (er_tup (ers_cons gd_mono (er_int (by decide)) (ers_cons gd_mono (er_var rfl gx) ers_nil)) (by decide)))
      (ers_cons nr_mono (er_nr1 (er_tup (ers_cons gd_mono (er_int (by decide)) (ers_cons gd_mono (er_var rfl gx) ers_nil)) (by decide)))
      (ers_cons nr_mono (er_nr1 (er_lst (ers_cons gd_mono (er_var rfl gx) (ers_cons gd_mono (er_int (by decide)) ers_nil)) (by decide)))
      (ers_cons nr_mono (er_nr1 (er_tup (ers_cons gd_mono (er_var rfl gx) ers_nil) (by decide)))
      (ers_cons nr_mono (er_nr1 (er_tup (ers_cons gd_mono (er_var rfl gx) (ers_cons gd_mono (er_var rfl gy) (ers_cons gd_mono (er_int (by decide)) ers_nil))) (by decide)))
      (ers_cons nr_mono (er_nr1 (er_tup (ers_cons gd_mono (er_var rfl gz) (ers_cons gd_mono (er_int (by decide)) ers_nil)) (by decide))) ers_nil))))))))))) (by decide) (fun xs H4 l4 L4 p4 b4 => ?_)
    -- found = found + [(2 * .., ..), (1 + .., ..)]
    refine sq_cat (n := 2) (R := Nr K) nr_mono But.refl p4 rfl L4 (ers_cons nr_mono (er_nr1 (er_tup (ers_cons gd_mono (er_nat (er_stir (by decide) (by decide) (by decide) rfl er_c)) (ers_cons gd_mono (er_add (by decide) (er_stir (by decide) (by decide) (by decide) rfl er_c)) ers_nil)) (by decide)))
      (ers_cons nr_mono (er_nr1 (er_tup (ers_cons gd_mono (er_add (by decide) (er_stir0 (by decide) (by decide) rfl)) (ers_cons gd_mono (er_add (by decide) (er_stir0 (by decide) (by decide) rfl)) ers_nil)) (by decide))) ers_nil)) (by decide) (fun ys H5 l5 L5 p5 b5 => ?_)
    -- found = found + [(one, True), ..]
    refine sq_cat (n := 8) (R := Nr K) nr_mono But.refl p5 rfl L5 (ers_cons nr_mono (er_nr1 (er_tup (ers_cons gd_mono (er_var rfl gx) (ers_cons gd_mono er_bl ers_nil)) (by decide)))
      (ers_cons nr_mono (er_nr1 (er_tup (ers_cons gd_mono er_bl (ers_cons gd_mono (er_int (by decide)) ers_nil)) (by decide)))
      (ers_cons nr_mono (er_nr1 (er_tup (ers_cons gd_mono er_non (ers_cons gd_mono (er_int (by decide)) ers_nil)) (by decide)))
      (ers_cons nr_mono (er_nr1 (er_tup (ers_cons gd_mono (er_int (by decide)) (ers_cons gd_mono er_non ers_nil)) (by decide)))
      (ers_cons nr_mono (er_nr1 (er_tup (ers_cons gd_mono (er_str tx_1) (ers_cons gd_mono (er_int (by decide)) ers_nil)) (by decide)))
      (ers_cons nr_mono (er_nr2 (er_tup (ers_cons gd_mono (er_tup (ers_cons gd_mono (er_int (by decide)) (ers_cons gd_mono (er_int (by decide)) ers_nil)) (by decide)) (ers_cons gd_mono (er_tup (ers_cons gd_mono (er_int (by decide)) (ers_cons gd_mono (er_int (by decide)) ers_nil)) (by decide)) ers_nil)) (by decide)))
      (ers_cons nr_mono (er_disp sm_12) (ers_cons nr_mono (er_strx (x := x) (j := 1) (by omega)) ers_nil)))))))) (by decide) (fun zs H6 l6 L6 p6 b6 => ?_)
    -- return found + [None, ..]
    refine rt_cat (n := 15) (R := Nr K) nr_mono But.refl p6 rfl L6 (ers_cons nr_mono (er_nr0 er_non) (ers_cons nr_mono (er_nr0 er_bl) (ers_cons nr_mono (er_nr0 er_bl) (ers_cons nr_mono (er_nr0 (er_str tx_0)) (ers_cons nr_mono (er_nr0 (er_str tx_a))
      (ers_cons nr_mono (er_nr1 (er_tup ers_nil (by decide))) (ers_cons nr_mono (er_nr1 (er_lst ers_nil (by decide))) (ers_cons nr_mono er_dnew
      (ers_cons nr_mono (er_nr1 (er_tup (ers_cons gd_mono (er_int (by decide)) (ers_cons gd_mono (er_int (by decide)) ers_nil)) (by decide)))
      (ers_cons nr_mono (er_nr1 (er_tup (ers_cons gd_mono (er_int (by decide)) (ers_cons gd_mono (er_int (by decide)) ers_nil)) (by decide)))
      (ers_cons nr_mono (er_nr1 (er_tup (ers_cons gd_mono (er_int (by decide)) (ers_cons gd_mono (er_int (by decide)) ers_nil)) (by decide)))
      (ers_cons nr_mono (er_nr1 (er_tup (ers_cons gd_mono (er_int (by decide)) (ers_cons gd_mono (er_neg (by decide)) ers_nil)) (by decide)))
      (ers_cons nr_mono (er_nr1 (er_tup (ers_cons gd_mono (er_neg (by decide)) (ers_cons gd_mono (er_int (by decide)) ers_nil)) (by decide)))
      (ers_cons nr_mono (er_nr1 (er_lst (ers_cons gd_mono (er_var rfl gz) ers_nil) (by decide)))
      (ers_cons nr_mono (er_nr1 (er_tup (ers_cons gd_mono (er_var rfl gz) ers_nil) (by decide))) ers_nil))))))))))))))) (by decide) (fun us H7 l7 L7 p7 b7 => ?_)
    exact k l7 _ H7 L7.at_ L7.ne (by have := L7.len; omega) (fun z => by have := L7.len; rw [z] at this; cases this) L7.all_ p7 ((((b13.trans b4).trans b5).trans b6).trans b7)
end
end V0
namespace V0
open PySem PySem.Spec PyProof.Rows L2
/-! ### own errors over any base, whose __init__ keeps one value -/
section
open PySem.W PySem.Builtin PySem.Builtin.ObjectAttr
variable {prog : Program} {w : World} {A : Around} {R : Result → Shared → Prop} {hp : Heap} {g : Array GenState} {d : Drawn} {t : Nat} {os : OsState}
theorem osa1 {K : Frag} {name : Str} {tk : Tok} {v : Value} {x C : Addr} {fv : Array Value} {B : String} {bmB : List Value} (SF : StoreFacts B bmB "object.__setattr__" "object") (X : K.In hp)
    (hx : hp.get? x = some { cls := .ref C, data := .fields fv }) (ho : excOver K C bmB = true) (hd : hasDictIn K C = true) (ha : findIn K (.ref C) name = some none)
    (hq : ∀ h' tk' dx, (∀ b o, b ≠ x → hp.get? b = some o → h'.get? b = some o) → hp.objs.size ≤ dx → dx ≠ x → h'.get? x = some { cls := .ref C, dict := some dx, data := .fields fv } →
      h'.Ns1 dx (fun y => if y = name then some v else none) → R (.ok (.ret .none)) ⟨h', g, d, tk', os⟩) :
    codeAny (model prog w) A (.call (.builtin "object.__setattr__") ⟨[.ref x, .str name tk, v], []⟩) R ⟨hp, g, d, t, os⟩ := by
  have I : InstAt hp x { cls := .ref C, data := .fields fv } C none := ⟨hx, rfl, rfl, trivial⟩
  have hxs : x ≠ hp.objs.size := Nat.ne_of_lt (Heap.lt_size hx)
  obtain ⟨cd, hcd, hh⟩ := any_some hd
  refine osa_openX (s := ⟨hp, g, d, t, os⟩) SF X I ho (r := none) (by unfold takerIn; rw [ha]; rfl) fun b => ?_
  have hcls : Looks (model prog w) hp (classData C) cd := looks_clsIn X hcd
  show wpAny _ _ (storeInOwnDict (.ref x) (.ref C) (.str name tk) name v b) _ _ _
  obtain ⟨nm, bs, mro, ns, qn, hd', sn, sb, ab, col, del⟩ := cd
  dsimp only at hh
  subst hh
  unfold storeInOwnDict ownDictForStores
  repeat (first | with_reducible refine PySem.HandSPX.store_in_new ?_ ?_ | with_reducible refine wpAny_loadPart_at hx ?_ | with_reducible refine hcls.at ?_ | wp_step)
  · exact ⟨_, #[], _, (Heap.get?_update_ne _ _ _ _ hxs.symm).trans (Heap.get?_push_at rfl rfl), rfl, fun e he => absurd he (by simp), fun _ => rfl⟩
  · intro h' tk' hn' hs
    have hx1 : (hp.push { cls := .type "dict", data := .dict #[] }).get? x = some { cls := .ref C, data := .fields fv } := Heap.get?_push_of_some _ hx
    refine hq h' tk' hp.objs.size (fun b o hb hbo => ?_) (Nat.le_refl _) hxs.symm ?_ hn'
    · exact (hs.2 b (Nat.ne_of_lt (Heap.lt_size hbo))).trans ((Heap.get?_update_ne _ _ _ _ hb).trans (Heap.get?_push_of_some _ hbo))
    · exact (hs.2 x hxs).trans (Heap.get?_update_self _ hx1 rfl)
end
/-- what the top leaves of such a class at C, its __init__ at fI -/
structure Ex (K : PySem.W.Frag) (C fI : Addr) (bmB : List Value) (newId : String) : Prop where
  init : PySem.W.excInitIn K C bmB newId = true
  over : PySem.W.excOver K C bmB = true
  hdC : PySem.W.hasDictIn K C = true
  sa : PySem.W.findIn K (.ref C) "__setattr__" = some (some (.builtin "object.__setattr__"))
  exC : PySem.W.subIn K (.ref C) (.type "BaseException") = some true
  tyC : PySem.W.typeIn K (.ref C) = some (.type "type")
  kC : PySem.W.keepIn K (.ref C) = true
  iC : PySem.W.findIn K (.ref C) "__init__" = some (some (.ref fI))
  tI : PySem.W.typeIn K (.ref fI) = some (.type "function")
section
variable {X : Cx} {pins : List (Addr × Obj)} {σ : L2.St} {H : Hp} {s : Shared} {a C fI dx : Addr} {f : Str} {y : V} {u : Value} {Q : Unit → Shared → Prop} {E : Value → Shared → Prop} {A : Around} {B newId initId : String} {bmB : List Value}
theorem st1 (SF : StoreFacts B bmB "object.__setattr__" "object") (T : Ex X.K C fI bmB newId) (I : Inv X pins σ H s) (e : H a = some (exo a C none)) (hno : PySem.W.findIn X.K (.ref C) f = some none) (ry : RelV y u)
    (h : ∀ dx s', H dx = none → dx ≠ a → Inv X pins σ (upd (upd H dx (exd dx [(f, y)])) a (exo a C (some dx))) s' → Q () s') : wpAny (model X.prog X.w) A (setAttr (.ref a) f u) Q E s := by
  obtain ⟨t1, ho⟩ := exo_at I.hok e
  obtain ⟨hp, g, d, t, os⟩ := s
  refine PySem.W.set_plain I.kIn (ox := { cls := .ref C, dict := none, data := .fields #[.ref t1, .none, .none, .none, .bool false, .none] }) (od := none) ⟨ho, rfl, rfl, trivial⟩ T.sa ?_
  refine osa1 SF I.kIn ho T.over T.hdC hno (fun h' tk' dx k dn dne hx hn => ?_)
  have hnd : H dx = none := I.hok.fresh dn
  have nd : ∀ {b : Addr} {o : Obj}, hp.get? b = some o → b ≠ dx := fun q => Nat.ne_of_lt (Nat.lt_of_lt_of_le (Heap.lt_size q) dn)
  have na : ∀ {b : Addr}, H b = none → b ≠ a := fun n z => by rw [z, e] at n; cases n
  have U : Un X.fs [] H (upd (upd H dx (exd dx [(f, y)])) a (exo a C (some dx))) hp h' :=
    ⟨fun b o q n _ _ => k b o (na n) q, fun b o q n _ _ => ⟨o.slots, k b o (na n) q⟩, fun b o q n _ => by rw [upd_ne (na n), upd_ne (nd q)]; exact n,
     fun b o q _ => (Classical.em (b = a)).elim (fun hb => ⟨_, hb ▸ hx⟩) fun hb => ⟨o, k b o hb q⟩,
     fun b xs q => by rw [upd_ne (at_ne e q exo_tup), upd_ne (ne_of_none q hnd)]; exact q, fun b o v q => by rw [upd_ne (at_ne e q exo_frz), upd_ne (ne_of_none q hnd)]; exact q,
     fun b ps q => ⟨#[], by rw [upd_ne (at_ne e q exo_tbl), upd_ne (ne_of_none q hnd), q]; simp⟩⟩
  refine h dx _ hnd dne (I.un (t' := tk') U fun b o q => ?_)
  by_cases hb : b = a
  · subst hb
    rw [upd_same] at q
    cases q
    exact exo_ok hx
  rw [upd_ne hb] at q
  by_cases hd : b = dx
  · subst hd
    rw [upd_same] at q
    cases q
    exact exd_ok hn (relO_put (fs := []) ry fun _ => trivial)
  rw [upd_ne hd] at q
  refine (I.hok b o q).stay (fun c v hc z => k c v ?_ z) (fun c hc => ?_) (fun c xs hc => ?_)
  · rcases hc with hc | hc
    · rw [hc]; exact hb
    · exact at_ne e hc exo_own
  · rw [upd_ne (at_ne e hc exo_own), upd_ne (ne_of_none hc hnd)]; exact hc
  · rw [upd_ne (at_ne e hc exo_tup), upd_ne (ne_of_none hc hnd)]; exact hc
/-- self.f = e in such an __init__ -/
def tSt1 (K : PySem.W.Frag) (f : Str) (to te : TE) : TS := fun D σ H => te σ H fun y H1 => to σ H1 fun x H2 => ∃ a C : Addr, x = .ref a ∧ PySem.W.findIn K (.ref C) f = some none ∧ (∃ fI bmB newId, Ex K C fI bmB newId ∧ ∃ B, StoreFacts B bmB "object.__setattr__" "object") ∧
  H2 a = some (exo a C none) ∧ ∀ dx, H2 dx = none → dx ≠ a → D.nx σ (upd (upd H2 dx (exd dx [(f, y)])) a (exo a C (some dx)))
theorem ps_st1 {o e : Expr} {to te : TE} {p' pos : Pos} (ho : PE X o to) (he : PE X e te) (hs : swapsWith e (some (.Attribute o f p')) pos.line X.env = pure false := by rfl) : PS X (.Assign [.Attribute o f p'] e pos) (tSt1 X.K f to te) := by
  refine ⟨fun pins s σ H D I h => ?_⟩
  refine plainObj_wpAny_Assign_Attribute (thn (he.run pins s σ H _ I h) fun v s1 ⟨y, H1, I1, r1, q1⟩ => thn (ho.run pins s1 σ H1 _ I1 q1) fun u s2 ⟨x, H2, I2, r2, a, C, ex, hno, ⟨fI, bmB, newId, T, B, SF⟩, ea, q⟩ => ?_) hs
  subst ex
  obtain rfl : u = Value.ref a := r2
  exact st1 SF T I2 ea hno r1 fun dx s' n ne J => ⟨σ, _, J, q dx n ne⟩
/-- such an __init__ -/
def spInit1 (C : Addr) (f : Str) : Sp := fun vs H Q _ => ∃ (a : Addr) (v : V), vs = [.ref a, v] ∧ H a = some (exo a C none) ∧ ∀ dx, H dx = none → dx ≠ a → Q .non (upd (upd H dx (exd dx [(f, v)])) a (exo a C (some dx)))
/-- C(e) -/
def tMk1 (C : Addr) (f : Str) (ta : TA) : L2.St → Hp → XK → Prop := fun σ H Q => ta σ H fun vs H1 => ∃ v, vs = [v] ∧ ∀ d, H1 d = none → Q (.ref C) (some d) (upd H1 d (.xd [(f, v)]))
theorem let_go {H1 : Hp} {a d : Addr} {o1 o2 o3 o4 : HO} (ha : H1 a = none) (hd : d ≠ a) : upd (del (upd (upd (upd H1 a o1) d o2) a o3) a) d o4 = upd H1 d o4 := by
  funext b
  by_cases hb : b = d
  · rw [hb, upd_same, upd_same]
  · rw [upd_ne hb, upd_ne hb]
    by_cases hc : b = a
    · rw [hc, del_same, ha]
    · rw [del_ne hc, upd_ne hc, upd_ne hb, upd_ne hc]
theorem pmk1 {e : Expr} {ta : TA} {x : Str} {k : Nat} {fd : FuncData} {ps : List Str} {p pos : Pos} (FB : ExcBaseFacts B newId initId bmB) (T : Ex X.K C fI bmB newId)
    (F1 : FnOk X.prog X.w X.K X.mg X.base CX0 k fI fd ps (spInit1 C f)) (hr : Room (k + 1) X.A) (hb : Binds X.K fd ps []) (hg : Gl X x) (hm : X.mg x = some (.ref C)) (ha : PA X [e] ta)
    (hdb : (x == ("__debug__" : Str)) = false := by decide) (hs : starEach [e] X.env = (false, eval e X.env) :: starEach [] X.env := by rfl) (hpl : (backTo pos (starEach [] X.env)).any (·.1) = false := by rfl) :
    PMk X (.Call (.Name x p) [e] [] pos) (tMk1 C f ta) := by
  intro pins s σ H Q I h
  refine wpAny_Call_Name_kw (ld_glob I hg hm ?_ hdb)
  refine PySem.W.callWith_K (h₀ := X.base) I.ok.mod.kin T.kC (thn (ha.run pos pins s σ H _ I h) fun us s1 ⟨vs, H1, I1, r1, v, ev, q1⟩ => ⟨I1.kIn, ?_⟩) hs hpl
  subst ev
  obtain ⟨u, rfl, rv⟩ := vals1 r1
  show wpAny _ _ (call (.ref C) [u]) _ _ _
  obtain ⟨nm, N, qn, bs, bm, hdct, sn, sub, ab, col, dd, k0, k1, k2, k3, k5, hC, hT⟩ := PySem.W.excInit_of I1.kIn T.init
  obtain ⟨hp, g, dr, tk, os⟩ := s1
  have hn : H1 (hp.objs.size + 1) = none := I1.hok.fresh (Nat.le_succ _)
  have kk : ∀ b o, hp.get? b = some o → ((hp.push (PySem.W.kdv_tup [u])).push (PySem.HandSPX.excO C hp.objs.size)).get? b = some o := fun b o z => Heap.get?_push_of_some _ (Heap.get?_push_of_some _ z)
  have hget : ((hp.push (PySem.W.kdv_tup [u])).push (PySem.HandSPX.excO C hp.objs.size)).get? (hp.objs.size + 1) = some (PySem.HandSPX.excO C hp.objs.size) := by heap_get
  have I2 := I1.laid (t' := tk) (a := hp.objs.size + 1) (o := exo (hp.objs.size + 1) C none) kk (Nat.le_succ _) (exo_ok hget)
  have r2 : Vals [V.ref (hp.objs.size + 1), v] [Value.ref (hp.objs.size + 1), u] := .cons rfl (.cons rv .nil)
  generalize ea : hp.objs.size + 1 = a at hn hget I2 r2
  have hsp : spInit1 C f [.ref a, v] (upd H1 a (exo a C none)) (fun v' H2 => v' = .non ∧ ∃ dx, H1 dx = none ∧ dx ≠ a ∧ H2 = upd (upd (upd H1 a (exo a C none)) dx (exd dx [(f, v)])) a (exo a C (some dx))) E0 :=
    ⟨a, v, rfl, upd_same, fun dx hd hda => ⟨rfl, dx, by rw [upd_ne hda] at hd; exact hd, hda, rfl⟩⟩
  have hl : ([Value.ref a, u] ++ []).length = ps.length := by
    have z := F1.len _ _ _ _ hsp
    rw [← z]
    rfl
  have hrun := F1.run _ X.stack _ _ ⟨[Value.ref a, u], []⟩ [Value.ref a, u] _ _ E0 (hr.make C [u] []) (I2.env0.make C [u] []) (hb _ [Value.ref a, u] I2.kIn hl) r2 hsp
  subst ea
  refine wpAny_call (PySem.HandSPX.call_own FB hT hC (PySem.W.looks_findIn I1.kIn T.iC) (fun self => PySem.W.bind_fn I1.kIn self T.tI) (by show 1 ≤ sizeLine; decide) (codeAny_mono hrun fun r s' hq => ?_))
  cases r with
  | error er => exact hq.elim
  | ok fl =>
    cases fl with
    | ret u' =>
      obtain ⟨v', H2, os2, bare2, un2, hok2, rv', rfl, dx, hdx, hda, rfl⟩ := hq
      obtain ⟨h2, g2, d2, t2, os'⟩ := s'
      have hq1 := q1 dx hdx
      rw [← let_go (o1 := exo (hp.objs.size + 1) C none) (o2 := exd dx [(f, v)]) (o3 := exo (hp.objs.size + 1) C (some dx)) hn hda] at hq1
      exact ⟨rv', mk_end (raises_own T.exC T.tyC) I1 (Nat.le_succ _) kk un2 hok2 os2 bare2 upd_same (by rw [upd_ne hda]; exact upd_same) hdx hq1⟩
    | next => exact False.elim hq
    | brk => exact False.elim hq
    | cont => exact False.elim hq
end
end V0
namespace V0
open PySem PySem.Spec PyProof.Rows L2
def lowN (i j : Int) : Int := i.fdiv (redG i j)
def lowD (i j : Int) : Int := j.fdiv (redG i j)
theorem sign_mul {g a : Int} (hg : 0 < g) : decide (g * a < 0) = decide (a < 0) := by
  apply decide_eq_decide.mpr
  constructor
  · intro h
    by_cases q : a < 0
    · exact q
    · have := Int.mul_nonneg (Int.le_of_lt hg) (show 0 ≤ a by omega)
      omega
  · intro h
    exact Int.mul_neg_of_pos_of_neg hg h
theorem abs_div {g a : Int} (hg : 0 < g) : ((g * a).natAbs : Int) / g = (a.natAbs : Int) := by
  rw [Int.natAbs_mul, Int.natCast_mul, show (g.natAbs : Int) = g by omega, Int.mul_ediv_cancel_left _ (by omega)]
theorem low_is {i j : Int} (hj : j ≠ 0) : lowN i j = (if (decide (i < 0) = decide (j < 0)) then (i.natAbs : Int) / (Nat.gcd i.natAbs j.natAbs : Nat) else 0 - (i.natAbs : Int) / (Nat.gcd i.natAbs j.natAbs : Nat)) ∧ lowD i j = (j.natAbs : Int) / (Nat.gcd i.natAbs j.natAbs : Nat) := by
  have g0 : 0 < Nat.gcd i.natAbs j.natAbs := gcd_pos hj
  have di : ((Nat.gcd i.natAbs j.natAbs : Nat) : Int) ∣ i := Int.ofNat_dvd_left.mpr (Nat.gcd_dvd_left _ _)
  have dj : ((Nat.gcd i.natAbs j.natAbs : Nat) : Int) ∣ j := Int.ofNat_dvd_left.mpr (Nat.gcd_dvd_right _ _)
  unfold lowN lowD redG
  have g1 : (0 : Int) < ((Nat.gcd i.natAbs j.natAbs : Nat) : Int) := by omega
  generalize ((Nat.gcd i.natAbs j.natAbs : Nat) : Int) = g at di dj g1
  obtain ⟨a, rfl⟩ := di
  obtain ⟨b, rfl⟩ := dj
  have hb : b ≠ 0 := fun z => hj (by rw [z, Int.mul_zero])
  rw [sign_mul g1, sign_mul g1, abs_div g1, abs_div g1]
  have sb : (g * b < 0) ↔ b < 0 := by
    have q := sign_mul (a := b) g1
    exact decide_eq_decide.mp q
  have e1 : ∀ c : Int, (g * c).fdiv g = c := fun c => by rw [Int.fdiv_eq_ediv_of_dvd ⟨c, rfl⟩, Int.mul_ediv_cancel_left _ (by omega)]
  have e2 : ∀ c : Int, (g * c).fdiv (-g) = -c := fun c => by rw [Int.fdiv_eq_ediv_of_dvd (Int.neg_dvd.mpr ⟨c, rfl⟩), Int.ediv_neg, Int.mul_ediv_cancel_left _ (by omega)]
  by_cases hs : b < 0
  · rw [if_pos (sb.mpr hs), e2, e2, decide_eq_true hs]
    refine ⟨?_, by omega⟩
    by_cases ha : a < 0
    · rw [decide_eq_true ha, if_pos rfl]; omega
    · rw [decide_eq_false ha, if_neg (by decide)]; omega
  · rw [if_neg (fun z => hs (sb.mp z)), e1, e1, decide_eq_false hs]
    refine ⟨?_, by omega⟩
    by_cases ha : a < 0
    · rw [decide_eq_true ha, if_neg (by decide)]; omega
    · rw [decide_eq_false ha, if_pos rfl]; omega
theorem low_bound {i j : Int} (hj : j ≠ 0) : (lowN i j).natAbs ≤ i.natAbs ∧ (lowD i j).natAbs ≤ j.natAbs := by
  obtain ⟨h1, h2⟩ := low_is (i := i) hj
  have e : ∀ n : Nat, (n : Int) / ((Nat.gcd i.natAbs j.natAbs : Nat) : Int) = ((n / Nat.gcd i.natAbs j.natAbs : Nat) : Int) := fun n => (Int.natCast_ediv n _).symm
  have d1 := Nat.div_le_self i.natAbs (Nat.gcd i.natAbs j.natAbs)
  have d2 := Nat.div_le_self j.natAbs (Nat.gcd i.natAbs j.natAbs)
  rw [e] at h1 h2
  generalize i.natAbs / Nat.gcd i.natAbs j.natAbs = m at h1 d1
  generalize j.natAbs / Nat.gcd i.natAbs j.natAbs = n at h2 d2
  refine ⟨?_, by omega⟩
  rw [h1]
  split <;> omega
theorem low_frac {i j : Int} (hi : i.natAbs < 10 ^ 60) (h : j.natAbs < 10 ^ 60) (hj : j ≠ 0) : fracL [.int (lowN i j), .int (lowD i j)] = true := by
  obtain ⟨h1, h2⟩ := low_is (i := i) hj
  obtain ⟨b1, b2⟩ := low_bound (i := i) hj
  have g0 := gcd_pos (i := i) hj
  have e : ∀ n : Nat, (n : Int) / ((Nat.gcd i.natAbs j.natAbs : Nat) : Int) = ((n / Nat.gcd i.natAbs j.natAbs : Nat) : Int) := fun n => (Int.natCast_ediv n _).symm
  rw [e] at h1 h2
  have n1 : (lowN i j).natAbs = i.natAbs / Nat.gcd i.natAbs j.natAbs := by
    rw [h1]
    generalize i.natAbs / Nat.gcd i.natAbs j.natAbs = m
    split <;> omega
  have n2 : (lowD i j).natAbs = j.natAbs / Nat.gcd i.natAbs j.natAbs := by
    rw [h2]
    generalize j.natAbs / Nat.gcd i.natAbs j.natAbs = m
    omega
  have p : 0 < j.natAbs / Nat.gcd i.natAbs j.natAbs := Nat.div_pos (gcd_le hj) g0
  have p2 : 1 ≤ lowD i j := by
    rw [h2]
    generalize j.natAbs / Nat.gcd i.natAbs j.natAbs = m at p
    omega
  show (decide ((lowN i j).natAbs < 10 ^ 60) && (decide ((lowD i j).natAbs < 10 ^ 60) && (decide (1 ≤ lowD i j) && decide (Nat.gcd (lowN i j).natAbs (lowD i j).natAbs = 1)))) = true
  rw [decide_eq_true (show (lowN i j).natAbs < 10 ^ 60 by omega), decide_eq_true (show (lowD i j).natAbs < 10 ^ 60 by omega), decide_eq_true p2, n1, n2, decide_eq_true (show Nat.gcd (i.natAbs / Nat.gcd i.natAbs j.natAbs) (j.natAbs / Nat.gcd i.natAbs j.natAbs) = 1 by rw [Nat.gcd_div (Nat.gcd_dvd_left _ _) (Nat.gcd_dvd_right _ _), Nat.div_self g0])]
  rfl
/-- what lowest tells of two values, as told by the law -/
inductive Lo (H : Hp) (p : Addr) : V → V → Prop
  | no1 {x y : V} (hx : intB x = false) (h : H p = some (.tup [.str "no", x])) : Lo H p x y
  | no2 {x y : V} (hx : intB x = true) (hy : intB y = false ∨ y = .int 0) (h : H p = some (.tup [.str "no", y])) : Lo H p x y
  | told {i j : Int} {q : Addr} (hi : i.natAbs < 10 ^ 60) (hj : j.natAbs < 10 ^ 60) (h0 : j ≠ 0) (h : H p = some (.tup [.str "told", .ref q])) (h2 : H q = some (.tup [.int (lowN i j), .int (lowD i j)])) : Lo H p (.int i) (.int j)
def spLo : Sp := fun vs H Q _ => ∃ (x y : V), vs = [x, y] ∧ (∃ t, Kn H x t) ∧ (∃ t, Kn H y t) ∧ ∀ (p : Addr) (H' : Hp), Same H H' → Lo H' p x y → Q (.ref p) H'
def spLowest (C : Addr) : Sp := fun vs H Q E => ∃ (x y : V), vs = [x, y] ∧ (∃ t, Kn H x t) ∧ (∃ t, Kn H y t) ∧
  (intB x = false → ∀ d, H d = none → E (.ref C) (some d) (upd H d (.xd [("value", x)]))) ∧
  (intB x = true → intB y = false ∨ y = .int 0 → ∀ d, H d = none → E (.ref C) (some d) (upd H d (.xd [("value", y)]))) ∧
  (∀ i j : Int, x = .int i → y = .int j → i.natAbs < 10 ^ 60 → j.natAbs < 10 ^ 60 → j ≠ 0 → ∀ p, H p = none → Q (.ref p) (upd H p (.tup [.int (lowN i j), .int (lowD i j)])))
abbrev ixB : List Value := [.type "IndexError", .type "LookupError", .type "Exception", .type "BaseException", .type "object"]
/-- the class InvalidNumber -/
structure InvN (K : PySem.W.Frag) (mg : Str → Option Value) (C fI : Addr) (fdI : FuncData) (st : Stmt) (ps : List Str) : Prop where
  ex : Ex K C fI ixB "IndexError.__new__"
  F : Fun K "__init__" "InvalidNumber.__init__" st fI fdI
  b : Binds K fdI ps []
  g : mg "InvalidNumber" = some (.ref C)
  no : PySem.W.findIn K (.ref C) "value" = some none
  xf : XfC K C
  te : PySem.W.exmOne K (.ref C) (.ref C) = some true
section
variable {P : Program} {w : World} {K : PySem.W.Frag} {mg : Str → Option Value} {base : Heap}
abbrev s_InvalidNumber_init : Stmt := inClass (top 2) 0
abbrev N_InvalidNumber_init : List Str := ["self", "value"]
abbrev P_InvalidNumber_init : List Str := ["self", "value"]
theorem sc_InvalidNumber_init : FnScope N_InvalidNumber_init P_InvalidNumber_init (defScope s_InvalidNumber_init) := ⟨rfl, rfl, rfl, by decide +kernel, rfl, by decide +kernel, by decide +kernel⟩
theorem ok_inv_init {C f : Addr} {fd : FuncData} (T : InvN K mg C f fd s_InvalidNumber_init P_InvalidNumber_init) : FnOk P w K mg base CX0 1 f fd P_InvalidNumber_init (spInit1 C "value") := by
  refine T.F.ok sc_InvalidNumber_init (fun vs H Q E h => ?_) (fun cdv A outer s H vs Q E hr h => ?_)
  · obtain ⟨a, v, rfl, _⟩ := h
    rfl
  · obtain ⟨a, v, rfl, h, k⟩ := h
    refine ⟨_, (pss_one (ps_st1 (pv 0) (pv 1))), ?_⟩
    exact ⟨_, rfl, _, rfl, a, C, rfl, T.no, ⟨f, ixB, _, T.ex, _, PySem.F.store_IndexError⟩, h, k⟩
abbrev s_lowest : Stmt := top 13
abbrev N_lowest : List Str := ["numerator", "denominator"]
abbrev P_lowest : List Str := ["numerator", "denominator"]
theorem sc_lowest : FnScope N_lowest P_lowest (defScope s_lowest) := ⟨rfl, rfl, rfl, by decide +kernel, rfl, by decide +kernel, by decide +kernel⟩
theorem ok_lowest {Ci fi f f1 f2 f3 : Addr} {fdi fd fd1 fd2 fd3 : FuncData} (B : Bl mg) (C : Nm mg) (T : InvN K mg Ci fi fdi s_InvalidNumber_init P_InvalidNumber_init) (D_is_whole : Df K mg "is_whole" s_is_whole P_is_whole f1 fd1)
    (D_is_integer : Df K mg "is_integer" s_is_integer P_is_integer f2 fd2) (D_reduced : Df K mg "reduced" s_reduced P_reduced f3 fd3) (D : Df K mg "lowest" s_lowest P_lowest f fd) :
    FnOk P w K mg base (L2.CX P w) 3 f fd P_lowest (spLowest Ci) := by
  have G_is_integer : FnOk P w K mg base CX0 2 f2 fd2 P_is_integer spIsInteger := ok_is_integer B C D_is_whole D_is_integer
  have G_reduced : FnOk P w K mg base CX0 1 f3 fd3 P_reduced spRed := ok_reduced C D_reduced
  have G_init : FnOk P w K mg base CX0 1 fi fdi P_InvalidNumber_init (spInit1 Ci "value") := ok_inv_init T
  refine D.F.okX sc_lowest (fun vs H Q E h => ?_) (fun cdv A outer s H vs Q E hr h => ?_)
  · obtain ⟨x, y, rfl, _⟩ := h
    rfl
  · obtain ⟨x, y, rfl, ⟨t1, hx⟩, ⟨t2, hy⟩, k1, k2, k3⟩ := h
    refine ⟨_, (pss_cons (ps_if (pt_not (pt_val (pe_call G_is_integer (hr.mono (by decide)) (by rfl) D_is_integer.g D_is_integer.F.kp D_is_integer.b .nil pass0 (pa_cons (pv 0) pa_nil)))) (pss_one (ps_raise rfl (takes_of rfl rfl rfl rfl) (pmk1 PySem.F.excBase_IndexError T.ex G_init (hr.mono (by decide)) T.b (by rfl) T.g (pa_cons (pv 0) pa_nil)))) pss_nil)
      (pss_cons (ps_if (PW.pt (pw_or (pt_not (pt_val (pe_call G_is_integer (hr.mono (by decide)) (by rfl) D_is_integer.g D_is_integer.F.kp D_is_integer.b .nil pass0 (pa_cons (pv 1) pa_nil)))) (pw_or1 (pt_cmpR op_eq (pv 1) pe_int (nomark _))))) (pss_one (ps_raise rfl (takes_of rfl rfl rfl rfl) (pmk1 PySem.F.excBase_IndexError T.ex G_init (hr.mono (by decide)) T.b (by rfl) T.g (pa_cons (pv 1) pa_nil)))) pss_nil)
      (pss_one (ps_ret (pe_call G_reduced (hr.mono (by decide)) (by rfl) D_reduced.g D_reduced.F.kp D_reduced.b .nil pass0 (pa_cons (pv 0) (pa_cons (pv 1) pa_nil))))))), ?_⟩
    refine ⟨_, rfl, x, t1, rfl, hx, _, rfl, ite2 (fun e => ?_) (fun e => ?_)⟩
    · exact ⟨_, rfl, _, rfl, k1 (bnot_true e)⟩
    · have e1 := bnot_false e
      refine ⟨_, rfl, y, t2, rfl, hy, _, rfl, ite2 (fun e2 => ?_) (fun e2 => ?_)⟩
      · exact ⟨_, rfl, _, rfl, k2 e1 (.inl (bnot_true e2))⟩
      · obtain ⟨i, rfl, hi⟩ := intB_int e1
        obtain ⟨j, rfl, hj⟩ := intB_int (bnot_false e2)
        refine ⟨_, rfl, rfl, _, rfl, ite2 (fun e3 => ?_) (fun e3 => ?_)⟩
        · exact ⟨_, rfl, _, rfl, k2 e1 (.inr (of_decide_eq_true e3))⟩
        · have h0 : j ≠ 0 := fun z => e3 (decide_eq_true (by rw [z]))
          exact ⟨_, rfl, _, rfl, i, j, rfl, h0, Nat.lt_trans hj (by decide +kernel), k3 i j rfl rfl hi hj h0⟩
def t_told (C : Addr) (W : WX) : TS := tRet (tTup (tCons (tC (.str "told")) (tCons (tCallS (spLowest C) (WE W) (tCons (tVar 0) (tCons (tVar 1) tNil))) tNil)))
def t_no (C : Addr) : Addr → Value → Option Addr → TS := fun a cls d => tRet (tTup (tCons (tC (.str "no")) (tCons (tXf a cls d C "value" (tVar 2)) tNil)))
abbrev s_lowest_told : Stmt := top 26
abbrev N_lowest_told : List Str := ["_law_one", "_law_other", "e"]
abbrev P_lowest_told : List Str := ["_law_one", "_law_other"]
theorem sc_lowest_told : FnScope N_lowest_told P_lowest_told (defScope s_lowest_told) := ⟨rfl, rfl, rfl, by decide +kernel, rfl, by decide +kernel, by decide +kernel⟩
theorem ok_lowest_told {Ci fi f f1 f2 f3 f4 : Addr} {fdi fd fd1 fd2 fd3 fd4 : FuncData} (B : Bl mg) (C : Nm mg) (T : InvN K mg Ci fi fdi s_InvalidNumber_init P_InvalidNumber_init) (D_is_whole : Df K mg "is_whole" s_is_whole P_is_whole f1 fd1)
    (D_is_integer : Df K mg "is_integer" s_is_integer P_is_integer f2 fd2) (D_reduced : Df K mg "reduced" s_reduced P_reduced f3 fd3) (D_lowest : Df K mg "lowest" s_lowest P_lowest f4 fd4) (D : Df K mg "_law_lowest_told" s_lowest_told P_lowest_told f fd) :
    FnOk P w K mg base CX0 4 f fd P_lowest_told spLo := by
  have G_lowest : FnOk P w K mg base (L2.CX P w) 3 f4 fd4 P_lowest (spLowest Ci) := ok_lowest B C T D_is_whole D_is_integer D_reduced D_lowest
  refine D.F.ok sc_lowest_told (fun vs H Q E h => ?_) (fun cdv A outer s H vs Q E hr h => ?_)
  · obtain ⟨x, y, rfl, _⟩ := h
    rfl
  · obtain ⟨x, y, rfl, hx, hy, k⟩ := h
    refine ⟨_, (pss_one (ps_try_as (i := 2) (tb := t_told Ci) (ts := t_no Ci) (Wout := fun _ _ _ _ => False) rfl rfl sc_lowest_told.nd rfl rfl ⟨rfl, by decide, Or.inl T.g⟩ takes0 (fun W pn xe tk _ => pss_one (ps_ret (by exact (pe_tup (pa_cons pe_str (pa_cons (by exact (pe_callS G_lowest (hr.mono (by decide)) rfl D_lowest.g D_lowest.F.kp D_lowest.b (fun σ => passAt tk σ) (by exact (pa_cons (pv 0) (pa_cons (pv 1) pa_nil))))) pa_nil)))))) (fun a oe cls d pn hz hf => pss_one (ps_ret (by exact (pe_tup (pa_cons pe_str (pa_cons (by exact (pe_xf T.xf T.no hz hf (pv 2))) pa_nil)))))))), ?_⟩
    have two : ([.str "told", .str "no"] : List V).length ≤ sizeLine := by decide
    have bad : ∀ (v : V) (d : Addr), H d = none → (∀ p H', H' p = some (.tup [.str "no", v]) → Lo H' p x y) → wAs K (.ref Ci) 2 (t_no Ci) (fun _ _ _ _ => False) { nx := fun _ H' => Q .non H', rt := Q } (.ref Ci) (some d) (L2.start N_lowest_told [x, y]) (upd H d (.xd [("value", v)])) := fun v d hd hl => by
      refine ⟨true, T.te, fun _ a0 ha0 => ?_, fun q => Bool.noConfusion q⟩
      refine ⟨_, rfl, rfl, rfl, d, _, v, rfl, upd_same, rfl, by show 2 ≤ sizeLine; decide, fun p hp => ?_⟩
      exact k p _ ((Same.new hd).trans (Same.new hp)) (hl p _ upd_same)
    refine ⟨_, rfl, _, rfl, x, y, rfl, hx, hy, fun e1 d hd => ?_, fun e1 e2 d hd => ?_, fun i j ex ey hi hj h0 q hq => ?_⟩
    · exact bad x d hd fun p H' z => .no1 e1 z
    · exact bad y d hd fun p H' z => .no2 e1 e2 z
    · subst ex
      subst ey
      refine ⟨by show 2 ≤ sizeLine; decide, fun p hp => ?_⟩
      exact k p _ ((Same.new hq).trans (Same.new hp)) (.told hi hj h0 upd_same (by rw [upd_ne (ne_of_none upd_same hp)]; exact upd_same))
abbrev s_lowest_due : Stmt := top 27
abbrev N_lowest_due : List Str := ["_law_one", "_law_other", "_law_shared_here", "_law_top", "_law_bottom"]
abbrev P_lowest_due : List Str := ["_law_one", "_law_other"]
theorem sc_lowest_due : FnScope N_lowest_due P_lowest_due (defScope s_lowest_due) := ⟨rfl, rfl, rfl, by decide +kernel, rfl, by decide +kernel, by decide +kernel⟩
theorem ok_lowest_due {f f1 f2 : Addr} {fd fd1 fd2 : FuncData} (B : Bl mg) (D_lis_whole : Df K mg "_law_is_whole" s_lis_whole P_lis_whole f1 fd1) (D_shared : Df K mg "_law_shared" s_shared P_shared f2 fd2)
    (D : Df K mg "_law_lowest_due" s_lowest_due P_lowest_due f fd) : FnOk P w K mg base CX0 2 f fd P_lowest_due spLo := by
  have G_lis_whole : FnOk P w K mg base CX0 1 f1 fd1 P_lis_whole spIsInteger := ok_lis_whole B D_lis_whole
  have G_shared : FnOk P w K mg base CX0 1 f2 fd2 P_shared spShared := ok_shared B D_shared
  refine D.F.ok sc_lowest_due (fun vs H Q E h => ?_) (fun cdv A outer s H vs Q E hr h => ?_)
  · obtain ⟨x, y, rfl, _⟩ := h
    rfl
  · obtain ⟨x, y, rfl, ⟨t1, hx⟩, ⟨t2, hy⟩, k⟩ := h
    refine ⟨_, (pss_cons (ps_if (pt_not (pt_val (pe_call G_lis_whole (hr.mono (by decide)) (by rfl) D_lis_whole.g D_lis_whole.F.kp D_lis_whole.b .nil pass0 (pa_cons (pv 0) pa_nil)))) (pss_one (ps_ret (pe_tup (pa_cons pe_str (pa_cons (pv 0) pa_nil))))) pss_nil)
      (pss_cons (ps_if (PW.pt (pw_or (pt_not (pt_val (pe_call G_lis_whole (hr.mono (by decide)) (by rfl) D_lis_whole.g D_lis_whole.F.kp D_lis_whole.b .nil pass0 (pa_cons (pv 1) pa_nil)))) (pw_or1 (pt_cmpR op_eq (pv 1) pe_int (nomark _))))) (pss_one (ps_ret (pe_tup (pa_cons pe_str (pa_cons (pv 1) pa_nil))))) pss_nil)
      (pss_cons (ps_set (i := 2) sc_lowest_due.nd rfl (Or.inl rfl) (pe_call G_shared (hr.mono (by decide)) (by rfl) D_shared.g D_shared.F.kp D_shared.b .nil pass0 (pa_cons (pv 0) (pa_cons (pv 1) pa_nil))))
      (pss_cons (ps_par (i := 3) (j := 4) (by rfl) sc_lowest_due.nd rfl rfl (by decide) rfl rfl (pa_cons (pe_op op_fdivW (pe_callB call_abs (by rfl) B.b_abs (by decide +kernel) (pa_cons (pv 0) pa_nil)) (pv 2)) (pa_cons (pe_op op_fdivW (pe_callB call_abs (by rfl) B.b_abs (by decide +kernel) (pa_cons (pv 1) pa_nil)) (pv 2)) pa_nil)) (by rfl))
      (pss_one (ps_ret (pe_tup (pa_cons pe_str (pa_cons (pe_tup (pa_cons (pe_ifExp (pt_cmpR op_eq (pe_cmpR op_lt (pv 0) pe_int (nomark _)) (pe_cmpR op_lt (pv 1) pe_int (nomark _)) (nomark _)) (pv 3) (pe_op op_sub pe_int (pv 3))) (pa_cons (pv 4) pa_nil))) pa_nil))))))))), ?_⟩
    have two : (2 : Nat) ≤ sizeLine := by decide
    refine ⟨_, rfl, x, t1, rfl, hx, _, rfl, ite2 (fun e => ?_) (fun e => ?_)⟩
    · exact ⟨_, rfl, two, fun p hp => k p _ (Same.new hp) (.no1 (bnot_true e) upd_same)⟩
    · have e1 := bnot_false e
      refine ⟨_, rfl, y, t2, rfl, hy, _, rfl, ite2 (fun e2 => ?_) (fun e2 => ?_)⟩
      · exact ⟨_, rfl, two, fun p hp => k p _ (Same.new hp) (.no2 e1 (.inl (bnot_true e2)) upd_same)⟩
      · obtain ⟨i, rfl, hi⟩ := intB_int e1
        obtain ⟨j, rfl, hj⟩ := intB_int (bnot_false e2)
        refine ⟨_, rfl, rfl, _, rfl, ite2 (fun e3 => ?_) (fun e3 => ?_)⟩
        · exact ⟨_, rfl, two, fun p hp => k p _ (Same.new hp) (.no2 e1 (.inr (of_decide_eq_true e3)) upd_same)⟩
        · have h0 : j ≠ 0 := fun z => e3 (decide_eq_true (by rw [z]))
          have g0 := gcd_pos (i := i) h0
          have g1 := gcd_le (i := i) h0
          have cd : ∀ z : Int, CDivW z ((Nat.gcd i.natAbs j.natAbs : Nat) : Int) := fun z => wide_div (b := 200) (by omega) (Nat.lt_of_le_of_lt g1 (Nat.lt_trans hj (by decide +kernel))) (by decide) (by decide)
          obtain ⟨l1, l2⟩ := low_is (i := i) h0
          refine ⟨_, rfl, _, rfl, i, j, rfl, ?_⟩
          refine ⟨_, rfl, _, rfl, _, rfl, _, _, rfl, rfl, cd _, _, rfl, _, rfl, _, rfl, _, _, rfl, rfl, cd _, _, _, rfl, ?_⟩
          rw [abs_nn, abs_nn]
          have fin : ∀ a b : Int, a = lowN i j → b = lowD i j → ∀ q : Addr, H q = none → ∀ p : Addr, upd H q (.tup [.int a, .int b]) p = none → Q (.ref p) (upd (upd H q (.tup [.int a, .int b])) p (.tup [.str "told", .ref q])) := fun a b ea eb q hq p hp => by
            refine k p _ ((Same.new hq).trans (Same.new hp)) (.told (q := q) hi hj h0 upd_same ?_)
            rw [upd_ne (ne_of_none upd_same hp), upd_same, ea, eb]
          refine ⟨_, rfl, _, _, rfl, rfl, _, rfl, _, _, rfl, rfl, rfl, _, rfl, ite2 (fun e4 => ?_) (fun e4 => ?_)⟩
          · have e5 : decide (i < 0) = decide (j < 0) := V.bl.inj (of_decide_eq_true e4)
            rw [if_pos e5] at l1
            exact ⟨_, rfl, _, rfl, two, fun q hq => ⟨two, fun p hp => fin _ _ l1.symm l2.symm q hq p hp⟩⟩
          · have e5 : ¬ decide (i < 0) = decide (j < 0) := fun z => e4 (decide_eq_true (congrArg V.bl z))
            rw [if_neg e5] at l1
            exact ⟨_, rfl, _, _, rfl, rfl, _, rfl, two, fun q hq => ⟨two, fun p hp => fin _ _ l1.symm l2.symm q hq p hp⟩⟩
end
end V0
namespace V0
open PySem PySem.Spec PyProof.Rows L2
/-! ### the law -/
/-- what both tell is shown alike -/
theorem lo_data {K : PySem.W.Frag} {H : Hp} {x y : V} (hx : Nr K H x) (hy : Nr K H y) : ∃ d k, Sm k d ∧ k ≤ 3 ∧ ∀ H' p', Same H H' → Lo H' p' x y → Rp K H' (.ref p') d := by
  have no : ∀ v : V, Nr K H v → ∃ d k, Sm k d ∧ k ≤ 3 ∧ ∀ H' p', Same H H' → H' p' = some (.tup [.str "no", v]) → Rp K H' (.ref p') d := fun v hv => by
    have sn : Sm 0 (.str "no") := Sm.str (by decide) (by decide +kernel)
    rcases hv with g | ⟨a, ks, rfl, h, q⟩
    · obtain ⟨d, h, q⟩ := g.dt
      refine ⟨.tuple [.str "no", d], 3, (Sm.seq (k := 2) (ds := [.str "no", d]) (fun e he => ?_) (by show 2 ≤ 3; decide)).2, by decide, fun H' p' s t => .dp (.tup (SqT.of t) (.cons (.str _) (.cons (Dp.same s d v h) .nil)))⟩
      rcases List.mem_cons.mp he with rfl | he
      · exact sn.up.up
      · rw [List.mem_singleton.mp he]
        exact q
    · refine ⟨.tuple [.str "no", idd ks], 2, (Sm.seq (k := 1) (ds := [.str "no", idd ks]) (fun e he => ?_) (by show 2 ≤ 3; decide)).2, by decide, fun H' p' s t => .pair t (s _ _ h)⟩
      rcases List.mem_cons.mp he with rfl | he
      · exact sn.up
      · rw [List.mem_singleton.mp he]
        exact q
  cases e1 : intB x with
  | false =>
    obtain ⟨d, k, a, b, c⟩ := no x hx
    refine ⟨d, k, a, b, fun H' p' s lo => ?_⟩
    cases lo with
    | no1 _ h => exact c H' p' s h
    | no2 z _ _ => rw [e1] at z; cases z
    | told hi _ _ _ _ => rw [show intB (V.int _) = true from decide_eq_true hi] at e1; cases e1
  | true =>
    by_cases e2 : intB y = false ∨ y = .int 0
    · obtain ⟨d, k, a, b, c⟩ := no y hy
      refine ⟨d, k, a, b, fun H' p' s lo => ?_⟩
      cases lo with
      | no1 z _ => rw [e1] at z; cases z
      | no2 _ _ h => exact c H' p' s h
      | told _ hj h0 _ _ =>
        rcases e2 with z | z
        · rw [show intB (V.int _) = true from decide_eq_true hj] at z; cases z
        · cases z; exact absurd rfl h0
    · have e3 : intB y = true := by
        cases z : intB y with
        | true => rfl
        | false => exact absurd (.inl z) e2
      obtain ⟨i, rfl, hi⟩ := intB_int e1
      obtain ⟨j, rfl, hj⟩ := intB_int e3
      have h0 : j ≠ 0 := fun z => e2 (.inr (by rw [z]))
      have b0 : (lowN i j).natAbs < 10 ^ 90 ∧ (lowD i j).natAbs < 10 ^ 90 := by
        obtain ⟨q1, q2⟩ := low_bound (i := i) h0
        omega
      refine ⟨.tuple [.str "told", .tuple [.int (lowN i j), .int (lowD i j)]], 2, (Sm.seq (k := 1) (ds := [.str "told", .tuple [.int (lowN i j), .int (lowD i j)]]) (fun e he => ?_) (by show 2 ≤ 3; decide)).2, by decide, fun H' p' s lo => ?_⟩
      · rcases List.mem_cons.mp he with rfl | he
        · exact (Sm.str (by decide) (by decide +kernel)).up
        · rw [List.mem_singleton.mp he]
          refine (Sm.seq (k := 0) (fun e he => ?_) (by show 2 ≤ 3; decide)).2
          rcases List.mem_cons.mp he with rfl | he
          · exact Sm.int b0.1
          · rw [List.mem_singleton.mp he]
            exact Sm.int b0.2
      · cases lo with
        | no1 z _ => rw [e1] at z; cases z
        | no2 _ z _ =>
          rcases z with z | z
          · rw [e3] at z; cases z
          · exact absurd (.inr z) e2
        | told _ _ _ h h2 => exact .dp (.tup (SqT.of h) (.cons (.str _) (.cons (.tup (SqT.of h2) (.cons (.int _) (.cons (.int _) .nil))) .nil)))
end V0
namespace V0
open PySem PySem.Spec PyProof.Rows L2
/-- a pair of such values -/
def Pr (K : PySem.W.Frag) (H : Hp) (v : V) : Prop := ∃ (q : Addr) (x y : V), v = .ref q ∧ H q = some (.tup [x, y]) ∧ Nr K H x ∧ Nr K H y
theorem pr_mono {K : PySem.W.Frag} : Mono (Pr K) := fun _ _ _ s ⟨q, x, y, e, h, a, b⟩ => ⟨q, x, y, e, s _ _ h, a.same s, b.same s⟩
section
variable {K : PySem.W.Frag} {p : Addr} {H0 : Hp} {σ : L2.St} {ta : TA}
theorem er_pr (h : EvRs p H0 ta σ 2 (Nr K)) : EvR p H0 (tTup ta) σ (Pr K) := fun H Q h0 hp q =>
  h H _ h0 hp fun vs H1 b1 p1 e1 r1 => by
    obtain ⟨x, y, rfl⟩ : ∃ x y, vs = [x, y] := by
      match vs, e1 with
      | [x, y], _ => exact ⟨x, y, rfl⟩
    refine ⟨by show 2 ≤ sizeLine; decide, fun a ha => ?_⟩
    have ne := pot_ne p1 ha
    refine q _ _ (b1.trans (But.new ha)) (p1.new ha) ⟨a, x, y, rfl, ?_, (r1 x (by simp)).same (But.new ha).hide, (r1 y (by simp)).same (But.new ha).hide⟩
    rw [hide_ne ne]
    exact upd_same
theorem er_varN {i : Nat} {v : V} (e : σ[i]? = some (some v)) (g : Nr K (hide p H0) v) : EvR p H0 (tVar i) σ (Nr K) := fun H Q h0 hp q => ⟨v, e, q v H But.refl hp (g.same h0.hide)⟩
theorem er_mulN {i j : Nat} {x y : Int} (e : σ[i]? = some (some (.int x))) (e2 : σ[j]? = some (some (.int y))) (hx : x.natAbs ≤ 1000) (hy : y.natAbs ≤ 1000) :
    EvR p H0 (tOp (rI CMul fun i j => .int (i * j)) (tVar i) (tVar j)) σ (Nr K) := fun H Q h0 hp q => by
  refine ⟨_, e, _, e2, _, _, rfl, rfl, .inl ⟨by omega, by omega⟩, q _ H But.refl hp (.inl (Gd.int ?_).up.up)⟩
  rw [Int.natAbs_mul]
  have : x.natAbs * y.natAbs ≤ 1000 * 1000 := Nat.mul_le_mul hx hy
  omega
end
/-- three answers as data -/
def three (a b c : Bool) : PyData := .list [.bool a, .bool b, .bool c]
theorem three_dp {K : PySem.W.Frag} {H : Hp} {q : Addr} {a b c : Bool} (h : H q = some (.lst [.bl a, .bl b, .bl c])) : Dp K H (.ref q) (three a b c) := .lst (SqL.of h) (.cons (.bl a) (.cons (.bl b) (.cons (.bl c) .nil)))
theorem three_sm (a b c : Bool) : Sm 1 (three a b c) := (Sm.seq (k := 0) (fun d hd => by
  rcases List.mem_cons.mp hd with rfl | hd
  · exact Sm.bl a
  · rcases List.mem_cons.mp hd with rfl | hd
    · exact Sm.bl b
    · rw [List.mem_singleton.mp hd]
      exact Sm.bl c) (by show 3 ≤ 3; decide)).1
/-- the heap of a turn: what was tracked ahead, the pot, the list of near values -/
structure Tn (K : PySem.W.Frag) (H0 H : Hp) (p l : Addr) (xs : List V) : Prop where
  same : Same H0 H
  pn : H0 p = none
  pot : Pot H p
  nl : l ≠ p
  at_ : H l = some (.lst xs)
  ne : xs ≠ []
  len : xs.length ≤ 60
  all_ : ∀ x ∈ xs, Nr K (hide p H) x
theorem Tn.but {K : PySem.W.Frag} {H0 H H' : Hp} {p l : Addr} {xs : List V} (t : Tn K H0 H p l xs) (b : But p H H') (q : Pot H' p) : Tn K H0 H' p l xs :=
  ⟨fun c o e => b c o (t.same c o e) (ne_of_none e t.pn), t.pn, q, t.nl, b _ _ t.at_ t.nl, t.ne, t.len, fun x hx => (t.all_ x hx).same b.hide⟩
theorem Tn.keep {K : PySem.W.Frag} {H0 H H' : Hp} {p l : Addr} {xs : List V} (t : Tn K H0 H p l xs) (s : Same H H') : Tn K H0 H' p l xs := t.but (But.of s) (t.pot.same s)
section
variable {P : Program} {w : World} {K : PySem.W.Frag} {mg : Str → Option Value} {base : Heap}
abbrev s_law : Stmt := top 28
abbrev N_law : List Str := ["_law_script", "_law_at", "_law_pot_here", "_law_near", "_law_value", "_law_told", "_law_one", "_law_other", "_law_shared_here", "_law_odd", "_law_small", "_law_few", "_law_pairs", "_law_top", "_law_bottom"]
abbrev P_law : List Str := ["_law_script"]
theorem sc_law : FnScope N_law P_law (defScope s_law) := ⟨rfl, rfl, rfl, by decide +kernel, rfl, by decide +kernel, by decide +kernel⟩
/-- the defs of the text, where they stand -/
structure All (K : PySem.W.Frag) (mg : Str → Option Value) (Ci : Addr) (a : Nat → Addr) (d : Nat → FuncData) : Prop where
  B : Bl mg
  C : Nm mg
  T : InvN K mg Ci (a 0) (d 0) s_InvalidNumber_init P_InvalidNumber_init
  is_whole : Df K mg "is_whole" s_is_whole P_is_whole (a 1) (d 1)
  is_integer : Df K mg "is_integer" s_is_integer P_is_integer (a 2) (d 2)
  is_name : Df K mg "is_name" s_is_name P_is_name (a 3) (d 3)
  is_fraction : Df K mg "is_fraction" s_is_fraction P_is_fraction (a 4) (d 4)
  lowest : Df K mg "lowest" s_lowest P_lowest (a 5) (d 5)
  reduced : Df K mg "reduced" s_reduced P_reduced (a 6) (d 6)
  pot : Df K mg "_law_pot" s_pot P_pot (a 7) (d 7)
  stir : Df K mg "_law_stir" s_stir P_stir (a 8) (d 8)
  one_of : Df K mg "_law_one_of" s_one_of P_one_of (a 9) (d 9)
  whole : Df K mg "_law_whole" s_whole P_whole (a 10) (d 10)
  lis_whole : Df K mg "_law_is_whole" s_lis_whole P_lis_whole (a 11) (d 11)
  shared : Df K mg "_law_shared" s_shared P_shared (a 12) (d 12)
  is_quotient : Df K mg "_law_is_quotient" s_is_quotient P_is_quotient (a 13) (d 13)
  is_word : Df K mg "_law_is_word" s_is_word P_is_word (a 14) (d 14)
  letters : Df K mg "_law_letters" s_letters P_letters (a 15) (d 15)
  near_values : Df K mg "_law_near_values" s_near_values P_near_values (a 16) (d 16)
  lowest_told : Df K mg "_law_lowest_told" s_lowest_told P_lowest_told (a 17) (d 17)
  lowest_due : Df K mg "_law_lowest_due" s_lowest_due P_lowest_due (a 18) (d 18)
theorem law_body {Ci : Addr} {ad : Nat → Addr} {fdd : Nat → FuncData} (Z : All K mg Ci ad fdd) {f : Addr} {cdv : Value} {A : Around} {outer : List Env} {s : Shared} {H : Hp} {Q : VK} {E : XK} (hgd0 : A.guards = some [])
    (hr : Room 6 (A.deeper (envOfC "law" (defScope s_law) s.heap.objs.size f cdv))) {a : Addr} {ns : List Int} (hS : SqL K H a (ns.map V.int)) (hlen : ns.length ≤ 63) (k : ∀ H', Q (.bl true) H') :
    ∃ t, PSs (cxOf CX0 P w K mg base N_law "law" (defScope s_law) f cdv A outer s H E).nox (defBody s_law) t ∧ t { nx := fun _ H' => Q .non H', rt := Q } (L2.start N_law [.ref a]) H := by
  obtain ⟨B, C, T, D_is_whole, D_is_integer, D_is_name, D_is_fraction, D_lowest, D_reduced, D_pot, D_stir, D_one_of, D_whole, D_lis_whole, D_shared, D_is_quotient, D_is_word, D_letters, D_near_values, D_lowest_told, D_lowest_due⟩ := Z
  have hgd : (cxOf CX0 P w K mg base N_law "law" (defScope s_law) f cdv A outer s H E).nox.A.guards = some [] := hgd0
  have G_is_integer : FnOk P w K mg base CX0 2 _ _ P_is_integer spIsInteger := ok_is_integer B C D_is_whole D_is_integer
  have G_is_name : FnOk P w K mg base CX0 1 _ _ P_is_name spIsName := ok_is_name B C D_is_name
  have G_is_fraction : FnOk P w K mg base CX0 3 _ _ P_is_fraction spIsFraction := ok_is_fraction B C D_is_whole D_is_integer D_is_fraction
  have G_lowest : FnOk P w K mg base (L2.CX P w) 3 _ _ P_lowest (spLowest Ci) := ok_lowest B C T D_is_whole D_is_integer D_reduced D_lowest
  have G_pot : FnOk P w K mg base CX0 1 _ _ P_pot (spPot K) := ok_pot B D_pot
  have G_stir : FnOk P w K mg base CX0 1 _ _ P_stir spStir := ok_stir B D_stir
  have G_one_of : FnOk P w K mg base CX0 2 _ _ P_one_of (spOneOf K) := ok_one_of B D_stir D_one_of
  have G_whole : FnOk P w K mg base CX0 2 _ _ P_whole spWhole := ok_whole B D_stir D_whole
  have G_lis_whole : FnOk P w K mg base CX0 1 _ _ P_lis_whole spIsInteger := ok_lis_whole B D_lis_whole
  have G_is_quotient : FnOk P w K mg base CX0 2 _ _ P_is_quotient spIsFraction := ok_is_quotient B D_lis_whole D_shared D_is_quotient
  have G_is_word : FnOk P w K mg base CX0 1 _ _ P_is_word spIsWord := ok_is_word B D_is_word
  have G_near_values : FnOk P w K mg base CX0 4 _ _ P_near_values (spNear K) := ok_near B D_stir D_one_of D_whole D_letters D_near_values
  have G_lowest_told : FnOk P w K mg base CX0 4 _ _ P_lowest_told spLo := ok_lowest_told B C T D_is_whole D_is_integer D_reduced D_lowest D_lowest_told
  have G_lowest_due : FnOk P w K mg base CX0 2 _ _ P_lowest_due spLo := ok_lowest_due B D_lis_whole D_shared D_lowest_due
  refine ⟨_, (pss_cons (ps_for PassesOwn.never rfl (pi_range1 rfl B.b_range (pa_cons (pe_callB (call_max2 rfl) (by rfl) B.b_max (by decide +kernel) (pa_cons pe_int (pa_cons (pe_callB (call_min2 rfl) (by rfl) B.b_min (by decide +kernel) (pa_cons pe_int (pa_cons (pe_callB call_len_seq (by rfl) B.b_len (by decide +kernel) (pa_cons (pv 0) pa_nil)) pa_nil))) pa_nil))) pa_nil)) (pg_name (i := 1) sc_law.nd rfl (Or.inl rfl)) (pss_cons (ps_set (i := 2) sc_law.nd rfl (Or.inl rfl) (pe_call G_pot (hr.mono (by decide)) (by rfl) D_pot.g D_pot.F.kp D_pot.b .nil pass0 (pa_cons (pv 0) (pa_cons (pv 1) pa_nil))))
      (pss_cons (ps_set (i := 3) sc_law.nd rfl (Or.inl rfl) (pe_call G_near_values (hr.mono (by decide)) (by rfl) D_near_values.g D_near_values.F.kp D_near_values.b .nil pass0 (pa_cons (pv 2) pa_nil)))
      (pss_cons (ps_for PassesOwn.never rfl (pi_list (pv 3)) (pg_name (i := 4) sc_law.nd rfl (Or.inl rfl)) (pss_cons (ps_set (i := 5) sc_law.nd rfl (Or.inl rfl) (pe_lst (pa_cons (pe_call G_is_integer (hr.mono (by decide)) (by rfl) D_is_integer.g D_is_integer.F.kp D_is_integer.b .nil pass0 (pa_cons (pv 4) pa_nil)) (pa_cons (pe_call G_is_name (hr.mono (by decide)) (by rfl) D_is_name.g D_is_name.F.kp D_is_name.b .nil pass0 (pa_cons (pv 4) pa_nil)) (pa_cons (pe_call G_is_fraction (hr.mono (by decide)) (by rfl) D_is_fraction.g D_is_fraction.F.kp D_is_fraction.b .nil pass0 (pa_cons (pv 4) pa_nil)) pa_nil)))))
      (pss_one (ps_if (pt_cmpR op_ne (pe_callB (call_repr hgd hr.units) (by rfl) B.b_repr (by decide +kernel) (pa_cons (pv 5) pa_nil)) (pe_callB (call_repr hgd hr.units) (by rfl) B.b_repr (by decide +kernel) (pa_cons (pe_lst (pa_cons (pe_call G_lis_whole (hr.mono (by decide)) (by rfl) D_lis_whole.g D_lis_whole.F.kp D_lis_whole.b .nil pass0 (pa_cons (pv 4) pa_nil)) (pa_cons (pe_call G_is_word (hr.mono (by decide)) (by rfl) D_is_word.g D_is_word.F.kp D_is_word.b .nil pass0 (pa_cons (pv 4) pa_nil)) (pa_cons (pe_call G_is_quotient (hr.mono (by decide)) (by rfl) D_is_quotient.g D_is_quotient.F.kp D_is_quotient.b .nil pass0 (pa_cons (pv 4) pa_nil)) pa_nil)))) pa_nil)) (nomark _)) (pss_one (ps_ret pe_bl)) pss_nil))))
      (pss_cons (ps_par (i := 6) (j := 7) (by rfl) sc_law.nd rfl rfl (by decide) rfl rfl (pa_cons (pe_call G_whole (hr.mono (by decide)) (by rfl) D_whole.g D_whole.F.kp D_whole.b .nil pass0 (pa_cons (pv 2) pa_nil)) (pa_cons (pe_call G_whole (hr.mono (by decide)) (by rfl) D_whole.g D_whole.F.kp D_whole.b .nil pass0 (pa_cons (pv 2) pa_nil)) pa_nil)) (by rfl))
      (pss_cons (ps_par (i := 8) (j := 9) (by rfl) sc_law.nd rfl rfl (by decide) rfl rfl (pa_cons (pe_op op_add pe_int (pe_call G_stir (hr.mono (by decide)) (by rfl) D_stir.g D_stir.F.kp D_stir.b .nil pass0 (pa_cons (pv 2) (pa_cons pe_int pa_nil)))) (pa_cons (pe_call G_one_of (hr.mono (by decide)) (by rfl) D_one_of.g D_one_of.F.kp D_one_of.b .nil pass0 (pa_cons (pv 2) (pa_cons (pv 3) pa_nil))) pa_nil)) (by rfl))
      (pss_cons (ps_par (i := 10) (j := 11) (by rfl) sc_law.nd rfl rfl (by decide) rfl rfl (pa_cons (pe_op op_sub (pe_call G_stir (hr.mono (by decide)) (by rfl) D_stir.g D_stir.F.kp D_stir.b .nil pass0 (pa_cons (pv 2) (pa_cons pe_int pa_nil))) pe_int) (pa_cons (pe_op op_sub (pe_call G_stir (hr.mono (by decide)) (by rfl) D_stir.g D_stir.F.kp D_stir.b .nil pass0 (pa_cons (pv 2) (pa_cons pe_int pa_nil))) pe_int) pa_nil)) (by rfl))
      (pss_cons (ps_set (i := 12) sc_law.nd rfl (Or.inl rfl) (pe_lst (pa_cons (pe_tup (pa_cons (pv 6) (pa_cons (pv 7) pa_nil))) (pa_cons (pe_tup (pa_cons (pv 7) (pa_cons (pv 6) pa_nil))) (pa_cons (pe_tup (pa_cons (pv 10) (pa_cons (pv 11) pa_nil))) (pa_cons (pe_tup (pa_cons (pe_op op_mul (pv 10) (pv 8)) (pa_cons (pe_op op_mul (pv 11) (pv 8)) pa_nil))) (pa_cons (pe_tup (pa_cons (pv 6) (pa_cons (pv 9) pa_nil))) (pa_cons (pe_tup (pa_cons (pv 9) (pa_cons pe_int pa_nil))) (pa_cons (pe_tup (pa_cons (pv 9) (pa_cons (pv 7) pa_nil))) (pa_cons (pe_tup (pa_cons pe_int (pa_cons (pv 6) pa_nil))) pa_nil))))))))))
      (pss_one (ps_for PassesOwn.never rfl (pi_list (pv 12)) (pg_tup rfl (pgs_cons (pg_name (i := 13) sc_law.nd rfl (Or.inl rfl)) (pgs_cons (pg_name (i := 14) sc_law.nd rfl (Or.inl rfl)) pgs_nil))) (pss_cons (ps_set (i := 5) sc_law.nd rfl (Or.inl rfl) (pe_call G_lowest_told (hr.mono (by decide)) (by rfl) D_lowest_told.g D_lowest_told.F.kp D_lowest_told.b .nil pass0 (pa_cons (pv 13) (pa_cons (pv 14) pa_nil))))
      (pss_one (ps_if (PW.pt (pw_or (pt_cmpR op_ne (pe_callB (call_repr hgd hr.units) (by rfl) B.b_repr (by decide +kernel) (pa_cons (pv 5) pa_nil)) (pe_callB (call_repr hgd hr.units) (by rfl) B.b_repr (by decide +kernel) (pa_cons (pe_call G_lowest_due (hr.mono (by decide)) (by rfl) D_lowest_due.g D_lowest_due.F.kp D_lowest_due.b .nil pass0 (pa_cons (pv 13) (pa_cons (pv 14) pa_nil))) pa_nil)) (nomark _)) (pw_or1 (PW.pt (pw_and (pt_cmpR op_eq (pe_ix ix_tup (pv 5) pe_int (fun _ _ => rfl)) pe_str (nomark _)) (pw_and1 (pt_not (pt_val (pe_call G_is_fraction (hr.mono (by decide)) (by rfl) D_is_fraction.g D_is_fraction.F.kp D_is_fraction.b .nil pass0 (pa_cons (pe_ix ix_tup (pv 5) pe_int (fun _ _ => rfl)) pa_nil)))))))))) (pss_one (ps_ret pe_bl)) pss_nil)))))))))))))
      (pss_cons (ps_set (i := 5) sc_law.nd rfl (Or.inl rfl) (pe_lst (pa_cons (pe_call G_lowest (hr.mono (by decide)) (by rfl) D_lowest.g D_lowest.F.kp D_lowest.b .nil passL (pa_cons pe_int (pa_cons (pe_un un_neg pe_int) pa_nil))) (pa_cons (pe_call G_lowest (hr.mono (by decide)) (by rfl) D_lowest.g D_lowest.F.kp D_lowest.b .nil passL (pa_cons pe_int (pa_cons pe_int pa_nil))) (pa_cons (pe_call G_is_fraction (hr.mono (by decide)) (by rfl) D_is_fraction.g D_is_fraction.F.kp D_is_fraction.b .nil pass0 (pa_cons (pe_tup (pa_cons pe_int (pa_cons pe_int pa_nil))) pa_nil)) (pa_cons (pe_call G_is_fraction (hr.mono (by decide)) (by rfl) D_is_fraction.g D_is_fraction.F.kp D_is_fraction.b .nil pass0 (pa_cons (pe_tup (pa_cons pe_int (pa_cons pe_int pa_nil))) pa_nil)) (pa_cons (pe_call G_is_fraction (hr.mono (by decide)) (by rfl) D_is_fraction.g D_is_fraction.F.kp D_is_fraction.b .nil pass0 (pa_cons (pe_tup (pa_cons (pe_un un_neg pe_int) (pa_cons pe_int pa_nil))) pa_nil)) (pa_cons (pe_call G_is_integer (hr.mono (by decide)) (by rfl) D_is_integer.g D_is_integer.F.kp D_is_integer.b .nil pass0 (pa_cons pe_bl pa_nil)) pa_nil))))))))
      (pss_one (ps_ret (pe_and (pe_cmpR (op_eqD hr.units) (pv 5) (pe_lst (pa_cons (pe_tup (pa_cons (pe_un un_neg pe_int) (pa_cons pe_int pa_nil))) (pa_cons (pe_tup (pa_cons pe_int (pa_cons pe_int pa_nil))) (pa_cons pe_bl (pa_cons pe_bl (pa_cons pe_bl (pa_cons pe_bl pa_nil))))))) (nomark _)) (pe_one (pe_cmpR (op_eqD hr.units) (pe_lst (pa_cons (pe_gv rfl C.g_MAX_DIGITS) (pa_cons (pe_gv rfl C.g_MAX_NAME) (pa_cons (pe_gv rfl C.g_MAX_THINGS) pa_nil)))) (pe_lst (pa_cons pe_int (pa_cons pe_int (pa_cons pe_int pa_nil)))) (nomark _)))))))), ?_⟩
  -- how many turns
  refine ⟨_, rfl, a, _, rfl, .inl hS, _, _, rfl, _, _, rfl, ?_⟩
  have hll : (ns.map V.int).length = ns.length := List.length_map _
  generalize hj : (if (if ((ns.map V.int).length : Int) < 3 then ((ns.map V.int).length : Int) else 3) > 1 then (if ((ns.map V.int).length : Int) < 3 then ((ns.map V.int).length : Int) else 3) else 1) = j
  have j0 : 1 ≤ j := by rw [← hj]; split <;> omega
  have j1 : j ≤ 3 := by rw [← hj]; split <;> (try split) <;> omega
  refine ⟨j, rfl, by omega, by omega, ?_⟩
  refine for_it walk_range (fun i σ H' => Same H H' ∧ ∃ x1 x2 x3 x4 x5 x6 x7 x8 x9 x10 x11 x12 x13 x14 : Option V, σ = [some (.ref a), x1, x2, x3, x4, x5, x6, x7, x8, x9, x10, x11, x12, x13, x14])
    ⟨Same.refl H, _, _, _, _, _, _, _, _, _, _, _, _, _, _, rfl⟩ (fun _ _ _ _ _ => trivial) ?_ ?_
  · rintro i y σ H0 H0' hi ⟨s0, x1, x2, x3, x4, x5, x6, x7, x8, x9, x10, x11, x12, x13, x14, rfl⟩ ⟨rfl, rfl⟩
    have hi3 : i < 3 := by omega
    -- pot, near
    refine ⟨_, rfl, _, rfl, a, ns, i, by show [V.ref a, V.int ((0 : Int) + i)] = _; rw [Int.zero_add], Same.seq s0 hS, by omega, by omega, fun p H1 hpn hp1 s1 => ?_⟩
    refine ⟨_, rfl, p, rfl, hp1, fun l xs H2 hl2 hlp hlen2 hne hall hp2 hb2 => ?_⟩
    have t2 : Tn K H0' H2 p l xs := ⟨fun b o e => hb2 b o (s1 b o e) (ne_of_none e hpn), hpn, hp2, hlp, hl2, hne, hlen2, hall⟩
    -- for value in near
    refine ⟨_, rfl, l, rfl, ⟨_, SqL.of hl2⟩, for_list (K := K) (a := l) (xs := xs) (fun m σ H3 => Tn K H0' H3 p l xs ∧ ∃ y4 y5 : Option V, σ = [some (.ref a), some (.int ((0 : Int) + i)), some (.ref p), some (.ref l), y4, y5, x6, x7, x8, x9, x10, x11, x12, x13, x14])
      ⟨t2, x4, x5, rfl⟩ (fun m σ H3 _ ⟨t3, _⟩ => SqL.of t3.at_) ?_ ?_⟩
    · rintro m v σ H3 hv ⟨t3, y4, y5, rfl⟩
      have nv := (t3.all_ v (List.mem_of_getElem? hv)).same hide_same
      obtain ⟨kd, hk⟩ := nv.kn
      obtain ⟨fb, hf⟩ := nv.fr
      have htx := nv.tx
      have tx1 : ∀ z, v = .str z → z.length ≤ 1000 := fun z e => Nat.le_trans (htx z e).1 (by decide)
      have tx2 : ∀ z, v = .str z → z.length ≤ 1000 ∧ PyData.strOk z = true := fun z e => ⟨tx1 z e, (htx z e).ok⟩
      refine ⟨_, rfl, v, kd, rfl, hk, _, rfl, v, kd, rfl, hk, tx1, fun H4 s4 => ⟨_, rfl, v, fb, rfl, hf.same s4, by show 3 ≤ sizeLine; decide, fun q hq => ?_⟩⟩
      have e4 : upd H4 q (.lst [.bl (intB v), .bl (nameB v), .bl fb]) q = some (.lst [.bl (intB v), .bl (nameB v), .bl fb]) := upd_same
      have s5 : Same H3 (upd H4 q (.lst [.bl (intB v), .bl (nameB v), .bl fb])) := s4.trans (Same.new hq)
      generalize upd H4 q (.lst [.bl (intB v), .bl (nameB v), .bl fb]) = H5 at e4 s5
      -- if repr(told) != repr([..])
      refine ⟨_, rfl, .ref q, three (intB v) (nameB v) fb, 1, rfl, .dp (three_dp e4), three_sm _ _ _, by decide, ⟨q, rfl⟩, ?_⟩
      refine ⟨_, rfl, v, kd, rfl, hk.same s5, _, rfl, v, kd, rfl, hk.same s5, tx2, fun H6 s6 => ⟨_, rfl, v, fb, rfl, (hf.same s5).same s6, by show 3 ≤ sizeLine; decide, fun q2 hq2 => ?_⟩⟩
      refine ⟨.ref q2, three (intB v) (nameB v) fb, 1, rfl, .dp (three_dp upd_same), three_sm _ _ _, by decide, ⟨q2, rfl⟩, rfl, _, rfl, ?_⟩
      refine iteNS rfl ?_
      exact ⟨(t3.keep s5).keep (s6.trans (Same.new hq2)), _, _, rfl⟩
    · rintro σ H3 ⟨t3, y4, y5, rfl⟩
      -- one, other
      refine ⟨_, rfl, p, rfl, t3.pot, fun one H4 h4 p4 b4 => ⟨_, rfl, p, rfl, p4, fun other H5 h5 p5 b5 => ⟨_, _, rfl, ?_⟩⟩⟩
      have t5 := (t3.but b4 p4).but b5 p5
      -- shared, odd
      refine ⟨_, rfl, p, 99, rfl, p5, by decide, by decide, fun r H6 r0 r1 p6 b6 => ⟨_, _, rfl, rfl, ?_⟩⟩
      have t6 := t5.but b6 p6
      refine ⟨_, rfl, _, rfl, p, _, rfl, p6, .inl ⟨l, xs, rfl, hlp, t6.at_, hne, by omega, fun odd hodd H7 p7 b7 => ⟨_, _, rfl, ?_⟩⟩⟩
      have t7 := t6.but b7 p7
      have no := t7.all_ odd hodd
      -- small, few
      refine ⟨_, rfl, p, 61, rfl, p7, by decide, by decide, fun g1 H8 g10 g11 p8 b8 => ⟨_, _, rfl, rfl, ?_⟩⟩
      refine ⟨_, rfl, p, 61, rfl, p8, by decide, by decide, fun g2 H9 g20 g21 p9 b9 => ⟨_, _, rfl, rfl, _, _, rfl, ?_⟩⟩
      have t9 := (t7.but b8 p8).but b9 p9
      have no9 : Nr K (hide p H9) odd := no.same (b8.trans b9).hide
      have n1 : ∀ H', Nr K H' (.int one) := fun H' => .inl (Gd.int (by omega)).up.up
      have n2 : ∀ H', Nr K H' (.int other) := fun H' => .inl (Gd.int (by omega)).up.up
      have n3 : ∀ H', Nr K H' (.int (g1 - 30)) := fun H' => .inl (Gd.int (by omega)).up.up
      have n4 : ∀ H', Nr K H' (.int (g2 - 30)) := fun H' => .inl (Gd.int (by omega)).up.up
      -- pairs
      refine sq_lst (n := 8) (R := Pr K) pr_mono But.refl p9 (ers_cons pr_mono (er_pr (ers_cons nr_mono (er_varN rfl (n1 _)) (ers_cons nr_mono (er_varN rfl (n2 _)) ers_nil)))
        (ers_cons pr_mono (er_pr (ers_cons nr_mono (er_varN rfl (n2 _)) (ers_cons nr_mono (er_varN rfl (n1 _)) ers_nil)))
        (ers_cons pr_mono (er_pr (ers_cons nr_mono (er_varN rfl (n3 _)) (ers_cons nr_mono (er_varN rfl (n4 _)) ers_nil)))
        (ers_cons pr_mono (er_pr (ers_cons nr_mono (er_mulN rfl rfl (by omega) (by omega)) (ers_cons nr_mono (er_mulN rfl rfl (by omega) (by omega)) ers_nil)))
        (ers_cons pr_mono (er_pr (ers_cons nr_mono (er_varN rfl (n1 _)) (ers_cons nr_mono (er_varN rfl no9) ers_nil)))
        (ers_cons pr_mono (er_pr (ers_cons nr_mono (er_varN rfl no9) (ers_cons nr_mono (er_nr0 (er_int (by decide))) ers_nil)))
        (ers_cons pr_mono (er_pr (ers_cons nr_mono (er_varN rfl no9) (ers_cons nr_mono (er_varN rfl (n2 _)) ers_nil)))
        (ers_cons pr_mono (er_pr (ers_cons nr_mono (er_nr0 (er_int (by decide))) (ers_cons nr_mono (er_varN rfl (n1 _)) ers_nil))) ers_nil)))))))) (by decide) (fun ps H10 lp Lp p10 b10 => ?_)
      have t10 := t9.but b10 p10
      -- for top, bottom in pairs
      refine ⟨_, rfl, lp, rfl, ⟨_, SqL.of Lp.at_⟩, for_list (K := K) (a := lp) (xs := ps) (fun m σ H' => Same H10 H' ∧ ∃ z5 z13 z14 : Option V, σ = [some (.ref a), some (.int ((0 : Int) + i)), some (.ref p), some (.ref l), y4, z5, some (.int one), some (.int other), some (.int (1 + r)), some odd, some (.int (g1 - 30)), some (.int (g2 - 30)), some (.ref lp), z13, z14])
        ⟨Same.refl _, y5, x13, x14, rfl⟩ (fun m σ H' _ ⟨s', _⟩ => Same.seq s' (SqL.of Lp.at_)) ?_ ?_⟩
      · rintro m v σ H11 hv ⟨s11, z5, z13, z14, rfl⟩
        obtain ⟨q, x, y, rfl, hq, hx, hy⟩ := pr_mono _ _ _ (hide_same.trans s11) (Lp.all_ v (List.mem_of_getElem? hv))
        obtain ⟨d, kd, sm, hkd, rp⟩ := lo_data hx hy
        refine ⟨q, _, rfl, SqT.of hq, rfl, _, _, rfl, _, _, rfl, rfl, ?_⟩
        refine ⟨_, rfl, _, rfl, x, y, rfl, hx.kn, hy.kn, fun tp H12 s12 lo => ?_⟩
        refine ⟨_, rfl, .ref tp, d, kd, rfl, rp H12 tp s12 lo, sm, hkd, ⟨tp, rfl⟩, ?_⟩
        refine ⟨_, rfl, _, rfl, x, y, rfl, (hx.same s12).kn, (hy.same s12).kn, fun tq H13 s13 lo2 => ?_⟩
        refine ⟨.ref tq, d, kd, rfl, rp H13 tq (s12.trans s13) lo2, sm, hkd, ⟨tq, rfl⟩, rfl, _, rfl, ?_⟩
        refine iteNS rfl ?_
        have fin : Same H10 H13 := s11.trans (s12.trans s13)
        cases lo with
        | no1 _ h =>
          refine ⟨_, rfl, tp, _, 0, .str "no", rfl, rfl, SqT.of (s13 _ _ h), rfl, rfl, _, rfl, ite2 (fun e => ?_) (fun _ => ?_)⟩
          · exact absurd (of_decide_eq_true e) (by decide +kernel)
          · exact ⟨fin, _, _, _, rfl⟩
        | no2 _ _ h =>
          refine ⟨_, rfl, tp, _, 0, .str "no", rfl, rfl, SqT.of (s13 _ _ h), rfl, rfl, _, rfl, ite2 (fun e => ?_) (fun _ => ?_)⟩
          · exact absurd (of_decide_eq_true e) (by decide +kernel)
          · exact ⟨fin, _, _, _, rfl⟩
        | @told i2 j2 q2 hi2 hj2 h0 h h2 =>
          refine ⟨_, rfl, tp, _, 0, .str "told", rfl, rfl, SqT.of (s13 _ _ h), rfl, rfl, _, rfl, ite2 (fun _ => ?_) (fun e => ?_)⟩
          · refine ⟨_, rfl, tp, _, 1, .ref q2, rfl, rfl, SqT.of (s13 _ _ h), rfl, .ref q2, _, rfl, .tup (s13 _ _ h2) (fun z hz => ?_), _, rfl, ?_⟩
            · rcases List.mem_cons.mp hz with rfl | hz
              · exact ⟨_, .int _⟩
              · rw [List.mem_singleton.mp hz]
                exact ⟨_, .int _⟩
            · refine ite2 (fun e => ?_) (fun _ => ?_)
              · rw [low_frac hi2 hj2 h0] at e
                cases e
              · exact ⟨fin, _, _, _, rfl⟩
          · exact absurd (decide_eq_true rfl) e
      · rintro σ H11 ⟨s11, z5, z13, z14, rfl⟩
        exact ⟨s0.trans (t10.keep s11).same, _, _, _, _, _, _, _, _, _, _, _, _, _, _, rfl⟩
  · rintro σ H1 ⟨s1, x1, x2, x3, x4, x5, x6, x7, x8, x9, x10, x11, x12, x13, x14, rfl⟩
    -- told = [lowest(4, -6), ..]
    have ki : ∀ (H' : Hp) (z : Int), ∃ t, Kn H' (.int z) t := fun H' z => ⟨_, .int z⟩
    have low : ∀ (i j : Int) (H' : Hp) (Q' : VK), i.natAbs < 10 ^ 60 → j.natAbs < 10 ^ 60 → j ≠ 0 → (∀ q, H' q = none → Q' (.ref q) (upd H' q (.tup [.int (lowN i j), .int (lowD i j)]))) → spLowest Ci [.int i, .int j] H' Q' E0 := fun i j H' Q' hi hj h0 q =>
by
      refine ⟨.int i, .int j, rfl, ki _ _, ki _ _, fun e => ?_, fun _ e => ?_, fun i' j' ei ej _ _ _ p hp => ?_⟩
      · rw [show intB (V.int i) = true from decide_eq_true hi] at e
        cases e
      · rcases e with e | e
        · rw [show intB (V.int j) = true from decide_eq_true hj] at e
          cases e
        · cases e
          exact absurd rfl h0
      · cases ei
        cases ej
        exact q p hp
    have kk : ∀ (H' : Hp) (u v : Int), ∀ x ∈ [V.int u, V.int v], ∃ t, Kn H' x t := fun H' u v x hx => by
      rcases List.mem_cons.mp hx with rfl | hx
      · exact ki _ _
      · rw [List.mem_singleton.mp hx]
        exact ki _ _
    refine ⟨6, rfl, ?_⟩
    dsimp only [tNil]
    refine low 4 (-6) H1 _ (by decide) (by decide) (by decide) fun q1 hq1 => ?_
    dsimp only [tCons, tCall, tC, tNil]
    refine low 0 5 _ _ (by decide) (by decide) (by decide) fun q2 hq2 => ?_
    have e1 : (upd H1 q1 (.tup [.int (lowN 4 (-6)), .int (lowD 4 (-6))])) q1 = some (.tup [.int (lowN 4 (-6)), .int (lowD 4 (-6))]) := upd_same
    generalize upd H1 q1 (.tup [.int (lowN 4 (-6)), .int (lowD 4 (-6))]) = H2 at e1 hq2
    have e2 : (upd H2 q2 (.tup [.int (lowN 0 5), .int (lowD 0 5)])) q2 = some (.tup [.int (lowN 0 5), .int (lowD 0 5)]) := upd_same
    have e1 := Same.new (o := .tup [.int (lowN 0 5), .int (lowD 0 5)]) hq2 _ _ e1
    generalize upd H2 q2 (.tup [.int (lowN 0 5), .int (lowD 0 5)]) = H3 at e1 e2
    have two : (2 : Nat) ≤ sizeLine := by decide
    have six : (6 : Nat) ≤ sizeLine := by decide
    refine ⟨two, fun q3 hq3 => ⟨.ref q3, _, rfl, .tup upd_same (kk _ _ _), ?_⟩⟩
    have e1 := Same.new (o := .tup [.int 1, .int 2]) hq3 _ _ e1
    have e2 := Same.new (o := .tup [.int 1, .int 2]) hq3 _ _ e2
    generalize upd H3 q3 (.tup [.int 1, .int 2]) = H4 at e1 e2
    refine ⟨two, fun q4 hq4 => ⟨.ref q4, _, rfl, .tup upd_same (kk _ _ _), ?_⟩⟩
    have e1 := Same.new (o := .tup [.int 2, .int 4]) hq4 _ _ e1
    have e2 := Same.new (o := .tup [.int 2, .int 4]) hq4 _ _ e2
    generalize upd H4 q4 (.tup [.int 2, .int 4]) = H5 at e1 e2
    refine ⟨_, rfl, two, fun q5 hq5 => ⟨.ref q5, _, rfl, .tup upd_same (kk _ _ _), ?_⟩⟩
    have e1 := Same.new (o := .tup [.int (-3), .int 1]) hq5 _ _ e1
    have e2 := Same.new (o := .tup [.int (-3), .int 1]) hq5 _ _ e2
    generalize upd H5 q5 (.tup [.int (-3), .int 1]) = H6 at e1 e2
    refine ⟨.bl true, .bl, rfl, .bl true, six, fun L hL => ?_⟩
    have e1 := Same.new (o := .lst [.ref q1, .ref q2, .bl (fracL [.int 1, .int 2]), .bl (fracL [.int 2, .int 4]), .bl (fracL [.int (-3), .int 1]), .bl (intB (.bl true))]) hL _ _ e1
    have e2 := Same.new (o := .lst [.ref q1, .ref q2, .bl (fracL [.int 1, .int 2]), .bl (fracL [.int 2, .int 4]), .bl (fracL [.int (-3), .int 1]), .bl (intB (.bl true))]) hL _ _ e2
    have e3 : (upd H6 L (.lst [.ref q1, .ref q2, .bl (fracL [.int 1, .int 2]), .bl (fracL [.int 2, .int 4]), .bl (fracL [.int (-3), .int 1]), .bl (intB (.bl true))])) L = some (.lst [.ref q1, .ref q2, .bl (fracL [.int 1, .int 2]), .bl (fracL [.int 2, .int 4]), .bl (fracL [.int (-3), .int 1]), .bl (intB (.bl true))]) := upd_same
    generalize upd H6 L (.lst [.ref q1, .ref q2, .bl (fracL [.int 1, .int 2]), .bl (fracL [.int 2, .int 4]), .bl (fracL [.int (-3), .int 1]), .bl (intB (.bl true))]) = H7 at e1 e2 e3
    -- return told == [..] and [..] == [..]
    refine ⟨_, rfl, _, rfl, two, fun r1 hr1 => ?_⟩
    have m1 : Same H7 (upd H7 r1 (.tup [.int (-2), .int 3])) := Same.new hr1
    have f1 : (upd H7 r1 (.tup [.int (-2), .int 3])) r1 = some (.tup [.int (-2), .int 3]) := upd_same
    generalize upd H7 r1 (.tup [.int (-2), .int 3]) = H8 at m1 f1
    refine ⟨two, fun r2 hr2 => ⟨six, fun M hM => ?_⟩⟩
    have f1 := Same.new (o := .tup [.int 0, .int 1]) hr2 _ _ f1
    have f2 : (upd H8 r2 (.tup [.int 0, .int 1])) r2 = some (.tup [.int 0, .int 1]) := upd_same
    have m2 := m1.trans (Same.new (o := .tup [.int 0, .int 1]) hr2)
    generalize upd H8 r2 (.tup [.int 0, .int 1]) = H9 at f1 f2 m2 hM
    have m3 := m2.trans (Same.new (o := .lst [.ref r1, .ref r2, .bl true, .bl false, .bl true, .bl false]) hM)
    have f1 := Same.new (o := .lst [.ref r1, .ref r2, .bl true, .bl false, .bl true, .bl false]) hM _ _ f1
    have f2 := Same.new (o := .lst [.ref r1, .ref r2, .bl true, .bl false, .bl true, .bl false]) hM _ _ f2
    have f3 : (upd H9 M (.lst [.ref r1, .ref r2, .bl true, .bl false, .bl true, .bl false])) M = some (.lst [.ref r1, .ref r2, .bl true, .bl false, .bl true, .bl false]) := upd_same
    generalize upd H9 M (.lst [.ref r1, .ref r2, .bl true, .bl false, .bl true, .bl false]) = Hz at m3 f1 f2 f3
    have pd : ∀ {q : Addr} {u v : Int}, Hz q = some (.tup [.int u, .int v]) → Dp K Hz (.ref q) (.tuple [.int u, .int v]) := fun h => .tup (SqT.of h) (.cons (.int _) (.cons (.int _) .nil))
    have ld : ∀ {l q r : Addr} {u v u' v' : Int} {b1 b2 b3 b4 : Bool}, Hz q = some (.tup [.int u, .int v]) → Hz r = some (.tup [.int u', .int v']) → Hz l = some (.lst [.ref q, .ref r, .bl b1, .bl b2, .bl b3, .bl b4]) →
        Dp K Hz (.ref l) (.list [.tuple [.int u, .int v], .tuple [.int u', .int v'], .bool b1, .bool b2, .bool b3, .bool b4]) := fun h1 h2 h3 =>
      .lst (SqL.of h3) (.cons (pd h1) (.cons (pd h2) (.cons (.bl _) (.cons (.bl _) (.cons (.bl _) (.cons (.bl _) .nil))))))
    refine ⟨_, _, ld (m3 _ _ e1) (m3 _ _ e2) (m3 _ _ e3), ld f1 f2 f3, by rfl, by rfl, _, rfl, ?_⟩
    refine (if_pos (by decide +kernel)).mpr ?_
    have thr : (3 : Nat) ≤ sizeLine := by decide
    refine ⟨thr, fun L1 hL1 => ⟨thr, fun L2 hL2 => ?_⟩⟩
    have g1 : (upd Hz L1 (.lst [.int 60, .int 8, .int 8])) L1 = some (.lst [.int 60, .int 8, .int 8]) := upd_same
    have g1 := Same.new (o := .lst [.int 60, .int 8, .int 8]) hL2 _ _ g1
    refine ⟨.list [.int 60, .int 8, .int 8], .list [.int 60, .int 8, .int 8], .lst (SqL.of g1) (.cons (.int _) (.cons (.int _) (.cons (.int _) .nil))), .lst (SqL.of upd_same) (.cons (.int _) (.cons (.int _) (.cons (.int _) .nil))), by rfl, by rfl, ?_⟩
    have ee : PyData.eqv (.list [.int 60, .int 8, .int 8]) (.list [.int 60, .int 8, .int 8]) = true := by decide +kernel
    rw [ee]
    exact k _
end
end V0
namespace V0
open PySem PySem.Spec PyProof.Rows L2
/-! ### the law's call, where it is known that no repr is under way -/
section
variable {P : Program} {w : World} {K : PySem.W.Frag} {mg mb : Str → Option Value}
/-- a body that is right at one place is right when the def is called there -/
theorem runs_at {base : Heap} {k : Nat} {f : Addr} {fd : FuncData} {x qual : Str} {st : Stmt} {N ps : List Str} {A : Around} {outer : List Env} {s : Shared} {H : Hp} {args : Args} {us : List Value} {vs : List V} {Q : VK}
    (F : Fun K x qual st f fd) (S : FnScope N ps (defScope st)) (hr : Room (k + 1) A) (e0 : Env0 P w K mg base A outer s H) (hb : BindsTo s fd args (ps.zip us)) (r : Vals vs us) (hl : vs.length = ps.length)
    (body : ∀ cdv : Value, Room k (A.deeper (envOfC qual (defScope st) s.heap.objs.size f cdv)) → ∃ t, PSs (cxOf CX0 P w K mg base N qual (defScope st) f cdv A outer s H E0).nox (defBody st) t ∧ t { nx := fun _ H' => Q .non H', rt := Q } (L2.start N vs) H) :
    codeAny (model P w) A (.call (.ref f) args) (CR CX0 outer P w H s Q E0) s := by
  obtain ⟨oc, od, kV, doc, pm, an, cdv, ct, osl, rfl, lk, hcd⟩ := F.ex
  have inBase : ∀ b o, base.get? b = some o → s.heap.get? b = some o := fun b o z => (e0.bs b o z).1
  have hK : K.In s.heap := e0.mod.kin.keeps inBase
  refine codeAny_call_function hr.depth (hK _ _ lk) rfl S.co S.gen rfl (PySem.W.codeRec_of hK hcd) (hb _ _ _ _ ?_)
  refine wpAny_newFunctionEnv_cells S.kind (fun ⟨n, v⟩ hy => ?_) fun env he s1 C => ?_
  · rcases S.par n (List.of_mem_zip hy).1 with q | q
    · exact .inl q
    · exact .inr ⟨q, PySem.W.cellsFrom_some _ _ _ (.inl q)⟩
  subst he
  refine ⟨(e0.mod.nolimit.keeps inBase).keeps C.toInCall.keep, codeAny_func ?_⟩
  obtain ⟨t, ht, hq⟩ := body cdv (hr.deeper _)
  have I := inv_start (CX := CX0) (P := P) (w := w) (K := K) (mg := mg) (E := E0) (N := N) S hr.hd e0 hl r C
  refine wpAny_mono (ht.nox.run [] s1 _ H _ I hq) (fun fl s' hs => ?_) fun e s' hs => hs
  cases fl with
  | ret u => exact let ⟨v, _, H', J, rv, q⟩ := hs; ⟨v, H', J.os, J.bare, J.base, J.hok, rv, q⟩
  | next => exact let ⟨_, H', J, q⟩ := hs; ⟨.non, H', J.os, J.bare, J.base, J.hok, rfl, q⟩
  | brk => exact let ⟨_, _, _, q⟩ := hs; q.elim
  | cont => exact let ⟨_, _, _, q⟩ := hs; q.elim
/-- the law called on its script, from the heap behind the top -/
theorem law_at {k : Nat} {fa a : Addr} {fd : FuncData} {x : Str} {st : Stmt} {N : List Str} {s0 : Shared} {vs : List Value} {ns : List Int} (hK : K.In s0.heap) (hns : s0.heap.Ns mainGlobals mg) (hbl : s0.heap.Ns builtinsNs mb)
    (hbb : ∀ y : Str, y ≠ "__name__" → mb y = bootBuiltins y) (hlim : s0.heap.NoLimit) (hg : s0.gens = #[]) (ha : s0.heap.get? a = some { cls := .type "list", data := .seq vs.toArray }) (hi : IntsAre vs ns) (hl : ns.length ≤ sizeLine)
    (hr : Room (k + 1) callerA) (F : Fun K "law" "law" st fa fd) (S : FnScope N [x] (defScope st)) (hbind : ∀ (s : Shared) (u : Value), BindsTo s fd ⟨[u], []⟩ [(x, u)])
    (body : ∀ (base : Heap) (H : Hp) (cdv : Value), K.In base → base.Ns mainGlobals mg → SqL K H a (ns.map V.int) → Room k (callerA.deeper (envOfC "law" (defScope st) s0.heap.objs.size fa cdv)) →
      ∃ t, PSs (cxOf CX0 P w K mg base N "law" (defScope st) fa cdv callerA [] s0 H E0).nox (defBody st) t ∧ t { nx := fun _ _ => V.non = .bl true, rt := fun v _ => v = .bl true } (L2.start N [.ref a]) H) :
    codeAny (model P w) callerA (.call (.ref fa) ⟨[.ref a], []⟩) (fun r s' => r = .ok (.ret (.bool true)) ∧ OldK s0.heap s'.heap ∧ s'.os = s0.os ∧ AllBare s'.gens) s0 := by
  have rv := vals_ints hi
  have hlen := hi.length
  -- the abstract heap that tracks the script, or nothing
  obtain ⟨H, hO, hS, hok, hA, hKA⟩ : ∃ H : Hp, Only H ∧ SqL K H a (ns.map V.int) ∧ HOk P w H s0.heap ∧ (∀ b, H b ≠ none → b = a) ∧ (H a ≠ none → K.lookup a = none) := by
    cases hk : K.lookup a with
    | some o =>
      have e := hK a o hk
      rw [ha] at e
      cases e
      exact ⟨fun _ => none, fun _ => .inl rfl, .inr ⟨_, vs.toArray, _, hk, rfl, rfl, rfl, by rw [List.size_toArray, hlen]; exact hl, by simpa using rv⟩, (fun b u z => by have z' : (none : Option HO) = some u := z; cases z'), (fun b z => absurd rfl z), fun z => absurd rfl z⟩
    | none =>
      have at1 : ∀ {b : Addr} {u : HO}, (if b = a then some (HO.frz { cls := .type "list", data := .seq vs.toArray } (.lst (ns.map V.int))) else none) = some u → b = a ∧ u = HO.frz { cls := .type "list", data := .seq vs.toArray } (.lst (ns.map V.int)) := fun {b u} z => by
        by_cases hb : b = a
        · rw [if_pos hb] at z
          exact ⟨hb, (Option.some.inj z).symm⟩
        · rw [if_neg hb] at z
          cases z
      refine ⟨fun b => if b = a then some (.frz { cls := .type "list", data := .seq vs.toArray } (.lst (ns.map V.int))) else none, fun b => ?_, .inl (.inr ⟨{ cls := .type "list", data := .seq vs.toArray }, if_pos rfl⟩), fun b u z => ?_, fun b z => ?_, fun _ => rfl⟩
      · by_cases hb : b = a
        · exact .inr ⟨_, _, if_pos hb⟩
        · exact .inl (if_neg hb)
      · obtain ⟨rfl, rfl⟩ := at1 z
        exact ⟨ha, by rw [List.length_map]; exact hl, vs, _, rv, ha⟩
      · by_cases hb : b = a
        · exact hb
        · exact absurd (if_neg hb) z
  have inB : ∀ {b : Addr} {o : Obj}, s0.heap.get? b = some o → H b = none → (hidT s0.heap H).get? b = some o := fun e n => hidT_get e n
  have noD : ∀ {b : Addr} {m : Str → Option Value}, s0.heap.Ns b m → (hidT s0.heap H).Ns b m := fun {b m} ⟨o, es, ep, e, d, r⟩ => by
    refine ⟨o, es, ep, inB e ?_, d, r⟩
    cases q : H b with
    | none => rfl
    | some u =>
      obtain rfl := hA b (by rw [q]; simp)
      rw [ha] at e
      cases e
      cases (d : Data.seq vs.toArray _ = Data.dict es ep)
  have kB : K.In (hidT s0.heap H) := fun b o e => inB (hK b o e) (by
    cases q : H b with
    | none => rfl
    | some u =>
      obtain rfl := hA b (by rw [q]; simp)
      rw [hKA (by rw [q]; simp)] at e
      cases e)
  have hM : Mod K mg (hidT s0.heap H) := ⟨kB, noD hns, ⟨mb, noD hbl, hbb⟩, let ⟨mc, h1, h2⟩ := hlim; ⟨mc, noD h1, h2⟩⟩
  have e0 : Env0 P w K mg (hidT s0.heap H) callerA [] s0 H := ⟨rfl, hM, fun b o e => of_hidT e, Nat.le_of_eq (hidT_size _ _), trivial, fun b hb => absurd (show b ∈ ([] : List Addr) from hb) (by simp), hok, .of_eq hg⟩
  refine codeAny_mono (runs_at (Q := fun v _ => v = .bl true) (us := [Value.ref a]) (vs := [V.ref a]) F S hr e0 (hbind s0 (.ref a)) (.cons rfl .nil) rfl fun cdv hr' => body _ H cdv kB (noD hns) hS hr') fun r s' h => ?_
  cases r with
  | error e => exact h.elim
  | ok fl =>
    cases fl with
    | ret u =>
      obtain ⟨v, H', os, bare, un, hok', r', rfl⟩ := h
      obtain rfl : u = Value.bool true := r'
      refine ⟨rfl, OldK.of_keep fun b o e => ?_, os, bare⟩
      cases q : H b with
      | none => exact un.keep b o e q (fun z => absurd (show b ∈ ([] : List Addr) from z) (by simp)) (by simp)
      | some u =>
        rcases hO b with z | ⟨ob, xs, z⟩
        · rw [q] at z
          cases z
        · obtain ⟨e1, _⟩ := hok b _ z
          obtain ⟨e2, _⟩ := hok' b _ (un.frzs b ob _ z)
          rw [e] at e1
          cases e1
          exact e2
    | next => exact h.elim
    | brk => exact h.elim
    | cont => exact h.elim
end
end V0
namespace V0
open PySem PySem.Spec PyProof.Rows L2
theorem exm_own {K : PySem.W.Frag} {C : Addr} (b : PySem.W.subIn K (.ref C) (.type "BaseException") = some true) (i : PySem.W.isClsIn K C = true) (t : PySem.W.typeIn K (.ref C) = some (.type "type")) (s : PySem.W.subIn K (.ref C) (.ref C) = some true) :
    PySem.W.exmOne K (.ref C) (.ref C) = some true := by
  unfold PySem.W.exmOne PySem.W.kitCls
  simp only [b, t, s]
  unfold PySem.W.isClsIn at i
  simp [i]
section
variable {K : PySem.W.Frag} {h : Heap} {mg : Str → Option Value}
theorem df_mk {x : Str} {st : Stmt} {ps : List Str} {f : Addr} {oc : Value} {od an : Option Addr} {sl : Array (Option Value)} {kV dc pm cd ct : Value} (X : K.In h) (G : h.Ns mainGlobals mg)
    (hb : ∀ (kV doc pm : Value) (an : Option Addr) (cdv ct : Value) (us : List Value), us.length = ps.length → bindArgs (PySem.W.fnOf x x (defArgs st) (defBody st) (defScope st) .none kV doc pm an cdv ct) ⟨us, []⟩ = pure (ps.zip us))
    (a : PySem.W.nsIn K mainGlobals x = some (some (.ref f))) (l : K.lookup f = some ⟨oc, od, .func (PySem.W.fnOf x x (defArgs st) (defBody st) (defScope st) .none kV dc pm an cd ct), sl⟩) (c : PySem.W.codeIn K cd x = true) (k : PySem.W.keepIn K (.ref f) = true) : ∃ f fd, Df K mg x st ps f fd :=
  ⟨f, _, fun_mk l c k, (fun_mk l c k).binds hb, PySem.W.mg_of X G a⟩
theorem gv_mk {x : Str} {v : V} {u : Value} (X : K.In h) (G : h.Ns mainGlobals mg) (r : RelV v u) (a : PySem.W.nsIn K mainGlobals x = some (some u)) : GV mg x v := ⟨u, PySem.W.mg_of X G a, r⟩
theorem inv_mk {C fI : Addr} {oc : Value} {od an : Option Addr} {sl : Array (Option Value)} {kV dc pm cd ct : Value} (X : K.In h) (G : h.Ns mainGlobals mg)
    (a : PySem.W.nsIn K mainGlobals "InvalidNumber" = some (some (.ref C))) (iC : PySem.W.findIn K (.ref C) "__init__" = some (some (.ref fI)))
    (l : K.lookup fI = some ⟨oc, od, .func (PySem.W.fnOf "__init__" "InvalidNumber.__init__" (defArgs s_InvalidNumber_init) (defBody s_InvalidNumber_init) (defScope s_InvalidNumber_init) .none kV dc pm an cd ct), sl⟩) (c : PySem.W.codeIn K cd "InvalidNumber.__init__" = true)
    (k : PySem.W.keepIn K (.ref fI) = true) (init : PySem.W.excInitIn K C ixB "IndexError.__new__" = true) (over : PySem.W.excOver K C ixB = true) (hdC : PySem.W.hasDictIn K C = true) (sa : PySem.W.findIn K (.ref C) "__setattr__" = some (some (.builtin "object.__setattr__")))
    (exC : PySem.W.subIn K (.ref C) (.type "BaseException") = some true) (tyC : PySem.W.typeIn K (.ref C) = some (.type "type")) (kC : PySem.W.keepIn K (.ref C) = true) (tI : PySem.W.typeIn K (.ref fI) = some (.type "function"))
    (no : PySem.W.findIn K (.ref C) "value" = some none) (ga : PySem.W.findIn K (.ref C) "__getattribute__" = some (some (.builtin "BaseException.__getattribute__"))) (gg : PySem.W.findIn K (.ref C) "__getattr__" = some none)
    (te : PySem.W.exmOne K (.ref C) (.ref C) = some true) : ∃ C fI fd, InvN K mg C fI fd s_InvalidNumber_init P_InvalidNumber_init :=
  ⟨C, fI, _, ⟨init, over, hdC, sa, exC, tyC, kC, iC, tI⟩, fun_mk l c k, (fun_mk l c k).binds fun _ _ _ _ _ _ us hl => match us, hl with | [_, _], _ => rfl, PySem.W.mg_of X G a, no, ⟨ga, gg, exC, hdC⟩, te⟩
theorem law_mk {fa f : Addr} {oc : Value} {od an : Option Addr} {sl : Array (Option Value)} {kV dc pm cd ct : Value} (X : K.In h) (G : h.Ns mainGlobals mg) (hfa : mg "law" = some (.ref fa))
    (a : PySem.W.nsIn K mainGlobals "law" = some (some (.ref f))) (l : K.lookup f = some ⟨oc, od, .func (PySem.W.fnOf "law" "law" (defArgs s_law) (defBody s_law) (defScope s_law) .none kV dc pm an cd ct), sl⟩) (c : PySem.W.codeIn K cd "law" = true) (k : PySem.W.keepIn K (.ref f) = true) :
    ∃ fd, Fun K "law" "law" s_law fa fd ∧ ∀ (s : Shared) (u : Value), BindsTo s fd ⟨[u], []⟩ [("_law_script", u)] := by
  have e := hfa.symm.trans (PySem.W.mg_of X G a)
  cases e
  exact ⟨_, fun_mk l c k, fun s v => .of_eq rfl⟩
end
theorem walk {l : PySem.W.OpenLaw} {q : Program} {loose : List Str} {XP : (Str → Option Value) → Heap → Prop} {YP : World → Heap → Prop} {d : DefRec} {K : Params → PySem.W.Frag} (hn : l.most = some 63) (hdf : d.params.defaults = [])
    (hY : ∀ (w : World) (h : Heap), YP w h → (K w.params).In h)
    (F : ∀ (w : World) (mg : Str → Option Value) (fa : Addr) (h : Heap), (K w.params).In h → h.Ns mainGlobals mg → mg d.name = some (.ref fa) →
      ∃ (Ci : Addr) (ad : Nat → Addr) (fdd : Nat → FuncData) (fd : FuncData), All (K w.params) mg Ci ad fdd ∧ Fun (K w.params) "law" "law" s_law fa fd ∧ ∀ (s : Shared) (u : Value), BindsTo s fd ⟨[u], []⟩ [("_law_script", u)]) :
    PySem.W.WalkO q loose XP YP l.row.toRowW d [] (fun f vs => PySem.call f vs) := by
  refine Att.attach_call hn hdf fun w s0 s1 mg mb fa o pm cd doc a vs ns G Y ho hd hcd hmg hobj hints hlen hg => ?_
  have KX := hY w _ Y
  obtain ⟨Ci, ad, fdd, fd, Z, Fl, hb⟩ := F w mg fa _ KX G.T.g hmg
  exact law_at (k := 6) (N := N_law) KX G.T.g G.T.b G.T.builtins G.T.nolimit hg hobj hints (Nat.le_trans hlen (by decide)) ⟨rfl, by decide, by decide⟩ Fl sc_law hb fun base H cdv kB nB hS hr => law_body (Q := fun v _ => v = .bl true) (outer := []) Z rfl hr hS hlen (fun _ => rfl)
end V0
open PySem PySem.W PyProof.Rows L2
set_option maxRecDepth 100000 in
set_option maxHeartbeats 0 in
theorem PySem.Challenge.cw_huebill_k00_integers_names_and_fractions_holds : PySem.Challenge.rw_huebill_k00_integers_names_and_fractions.Holds := by
  w_on; o_law; k_head; (case hw => w_witness2)
  k_fill
  refine V0.walk (l := PySem.Challenge.rw_huebill_k00_integers_names_and_fractions) rfl rfl (fun w h Y => PySem.W.kIn_of Y) ?F
  case F =>
    intro w mg fa h KX G hmg
    have z0 : mg "len" = none := by (refine PySem.W.mg_none_of KX G ?z; (case z => k_is))
    have z1 : mg "abs" = none := by (refine PySem.W.mg_none_of KX G ?z; (case z => k_is))
    have z2 : mg "max" = none := by (refine PySem.W.mg_none_of KX G ?z; (case z => k_is))
    have z3 : mg "min" = none := by (refine PySem.W.mg_none_of KX G ?z; (case z => k_is))
    have z4 : mg "int" = none := by (refine PySem.W.mg_none_of KX G ?z; (case z => k_is))
    have z5 : mg "bool" = none := by (refine PySem.W.mg_none_of KX G ?z; (case z => k_is))
    have z6 : mg "str" = none := by (refine PySem.W.mg_none_of KX G ?z; (case z => k_is))
    have z7 : mg "tuple" = none := by (refine PySem.W.mg_none_of KX G ?z; (case z => k_is))
    have z8 : mg "list" = none := by (refine PySem.W.mg_none_of KX G ?z; (case z => k_is))
    have z9 : mg "dict" = none := by (refine PySem.W.mg_none_of KX G ?z; (case z => k_is))
    have z10 : mg "all" = none := by (refine PySem.W.mg_none_of KX G ?z; (case z => k_is))
    have z11 : mg "any" = none := by (refine PySem.W.mg_none_of KX G ?z; (case z => k_is))
    have z12 : mg "sum" = none := by (refine PySem.W.mg_none_of KX G ?z; (case z => k_is))
    have z13 : mg "repr" = none := by (refine PySem.W.mg_none_of KX G ?z; (case z => k_is))
    have z14 : mg "isinstance" = none := by (refine PySem.W.mg_none_of KX G ?z; (case z => k_is))
    have z15 : mg "range" = none := by (refine PySem.W.mg_none_of KX G ?z; (case z => k_is))
    have hB : V0.Bl mg := ⟨z0, z1, z2, z3, z4, z5, z6, z7, z8, z9, z10, z11, z12, z13, z14, z15⟩
    have c0 : V0.GV mg "_TOO_LONG" (.int V0.TL) := by (refine' V0.gv_mk KX G ?r ?a; (case a => k_is); (case r => exact ⟨_, rfl⟩))
    have c1 : V0.GV mg "MAX_NAME" (.int 8) := by (refine' V0.gv_mk KX G ?r ?a; (case a => k_is); (case r => exact ⟨_, rfl⟩))
    have c2 : V0.GV mg "MAX_DIGITS" (.int 60) := by (refine' V0.gv_mk KX G ?r ?a; (case a => k_is); (case r => exact ⟨_, rfl⟩))
    have c3 : V0.GV mg "MAX_THINGS" (.int 8) := by (refine' V0.gv_mk KX G ?r ?a; (case a => k_is); (case r => exact ⟨_, rfl⟩))
    have c4 : V0.GV mg "_LETTERS" (.str V0.LET) := by (refine' V0.gv_mk KX G ?r ?a; (case a => k_is); (case r => exact ⟨_, rfl⟩))
    have c9 : mg "gcd" = some (.builtin "math.gcd") := by (refine PySem.W.mg_of KX G ?a; (case a => k_is))
    have hC : V0.Nm mg := ⟨c0, c1, c2, c3, c4, c9⟩
    obtain ⟨Ci, a0, d0, T0⟩ : ∃ C fI fd, V0.InvN _ mg C fI fd V0.s_InvalidNumber_init V0.P_InvalidNumber_init := by
      refine' V0.inv_mk KX G ?a ?iC ?l ?c ?k ?init ?over ?hdC ?sa ?exC ?tyC ?kC ?tI ?no ?ga ?gg ?te
      (case a => k_is)
      (case iC => k_is)
      (case l => k_is)
      (case c => k_is)
      (case k => k_is)
      (case init => kx_is)
      (case over => kx_is)
      (case hdC => k_is)
      (case sa => k_is)
      (case exC => k_is)
      (case tyC => k_is)
      (case kC => k_is)
      (case tI => k_is)
      (case no => k_is)
      (case ga => k_is)
      (case gg => k_is)
      (case te => exact V0.exm_own (by k_is) (by k_is) (by k_is) (by k_is))
    obtain ⟨a1, d1, D1⟩ : ∃ f fd, V0.Df _ mg "is_whole" V0.s_is_whole V0.P_is_whole f fd := by
      refine' V0.df_mk KX G (fun _ _ _ _ _ _ us hl => match us, hl with | [_], _ => rfl) ?a ?l ?c ?k
      (case a => k_is); (case l => k_is); (case c => k_is); (case k => k_is)
    obtain ⟨a2, d2, D2⟩ : ∃ f fd, V0.Df _ mg "is_integer" V0.s_is_integer V0.P_is_integer f fd := by
      refine' V0.df_mk KX G (fun _ _ _ _ _ _ us hl => match us, hl with | [_], _ => rfl) ?a ?l ?c ?k
      (case a => k_is); (case l => k_is); (case c => k_is); (case k => k_is)
    obtain ⟨a3, d3, D3⟩ : ∃ f fd, V0.Df _ mg "is_name" V0.s_is_name V0.P_is_name f fd := by
      refine' V0.df_mk KX G (fun _ _ _ _ _ _ us hl => match us, hl with | [_], _ => rfl) ?a ?l ?c ?k
      (case a => k_is); (case l => k_is); (case c => k_is); (case k => k_is)
    obtain ⟨a4, d4, D4⟩ : ∃ f fd, V0.Df _ mg "is_fraction" V0.s_is_fraction V0.P_is_fraction f fd := by
      refine' V0.df_mk KX G (fun _ _ _ _ _ _ us hl => match us, hl with | [_], _ => rfl) ?a ?l ?c ?k
      (case a => k_is); (case l => k_is); (case c => k_is); (case k => k_is)
    obtain ⟨a5, d5, D5⟩ : ∃ f fd, V0.Df _ mg "lowest" V0.s_lowest V0.P_lowest f fd := by
      refine' V0.df_mk KX G (fun _ _ _ _ _ _ us hl => match us, hl with | [_, _], _ => rfl) ?a ?l ?c ?k
      (case a => k_is); (case l => k_is); (case c => k_is); (case k => k_is)
    obtain ⟨a6, d6, D6⟩ : ∃ f fd, V0.Df _ mg "reduced" V0.s_reduced V0.P_reduced f fd := by
      refine' V0.df_mk KX G (fun _ _ _ _ _ _ us hl => match us, hl with | [_, _], _ => rfl) ?a ?l ?c ?k
      (case a => k_is); (case l => k_is); (case c => k_is); (case k => k_is)
    obtain ⟨a7, d7, D7⟩ : ∃ f fd, V0.Df _ mg "_law_pot" V0.s_pot V0.P_pot f fd := by
      refine' V0.df_mk KX G (fun _ _ _ _ _ _ us hl => match us, hl with | [_, _], _ => rfl) ?a ?l ?c ?k
      (case a => k_is); (case l => k_is); (case c => k_is); (case k => k_is)
    obtain ⟨a8, d8, D8⟩ : ∃ f fd, V0.Df _ mg "_law_stir" V0.s_stir V0.P_stir f fd := by
      refine' V0.df_mk KX G (fun _ _ _ _ _ _ us hl => match us, hl with | [_, _], _ => rfl) ?a ?l ?c ?k
      (case a => k_is); (case l => k_is); (case c => k_is); (case k => k_is)
    obtain ⟨a9, d9, D9⟩ : ∃ f fd, V0.Df _ mg "_law_one_of" V0.s_one_of V0.P_one_of f fd := by
      refine' V0.df_mk KX G (fun _ _ _ _ _ _ us hl => match us, hl with | [_, _], _ => rfl) ?a ?l ?c ?k
      (case a => k_is); (case l => k_is); (case c => k_is); (case k => k_is)
    obtain ⟨a10, d10, D10⟩ : ∃ f fd, V0.Df _ mg "_law_whole" V0.s_whole V0.P_whole f fd := by
      refine' V0.df_mk KX G (fun _ _ _ _ _ _ us hl => match us, hl with | [_], _ => rfl) ?a ?l ?c ?k
      (case a => k_is); (case l => k_is); (case c => k_is); (case k => k_is)
    obtain ⟨a11, d11, D11⟩ : ∃ f fd, V0.Df _ mg "_law_is_whole" V0.s_lis_whole V0.P_lis_whole f fd := by
      refine' V0.df_mk KX G (fun _ _ _ _ _ _ us hl => match us, hl with | [_], _ => rfl) ?a ?l ?c ?k
      (case a => k_is); (case l => k_is); (case c => k_is); (case k => k_is)
    obtain ⟨a12, d12, D12⟩ : ∃ f fd, V0.Df _ mg "_law_shared" V0.s_shared V0.P_shared f fd := by
      refine' V0.df_mk KX G (fun _ _ _ _ _ _ us hl => match us, hl with | [_, _], _ => rfl) ?a ?l ?c ?k
      (case a => k_is); (case l => k_is); (case c => k_is); (case k => k_is)
    obtain ⟨a13, d13, D13⟩ : ∃ f fd, V0.Df _ mg "_law_is_quotient" V0.s_is_quotient V0.P_is_quotient f fd := by
      refine' V0.df_mk KX G (fun _ _ _ _ _ _ us hl => match us, hl with | [_], _ => rfl) ?a ?l ?c ?k
      (case a => k_is); (case l => k_is); (case c => k_is); (case k => k_is)
    obtain ⟨a14, d14, D14⟩ : ∃ f fd, V0.Df _ mg "_law_is_word" V0.s_is_word V0.P_is_word f fd := by
      refine' V0.df_mk KX G (fun _ _ _ _ _ _ us hl => match us, hl with | [_], _ => rfl) ?a ?l ?c ?k
      (case a => k_is); (case l => k_is); (case c => k_is); (case k => k_is)
    obtain ⟨a15, d15, D15⟩ : ∃ f fd, V0.Df _ mg "_law_letters" V0.s_letters V0.P_letters f fd := by
      refine' V0.df_mk KX G (fun _ _ _ _ _ _ us hl => match us, hl with | [_], _ => rfl) ?a ?l ?c ?k
      (case a => k_is); (case l => k_is); (case c => k_is); (case k => k_is)
    obtain ⟨a16, d16, D16⟩ : ∃ f fd, V0.Df _ mg "_law_near_values" V0.s_near_values V0.P_near_values f fd := by
      refine' V0.df_mk KX G (fun _ _ _ _ _ _ us hl => match us, hl with | [_], _ => rfl) ?a ?l ?c ?k
      (case a => k_is); (case l => k_is); (case c => k_is); (case k => k_is)
    obtain ⟨a17, d17, D17⟩ : ∃ f fd, V0.Df _ mg "_law_lowest_told" V0.s_lowest_told V0.P_lowest_told f fd := by
      refine' V0.df_mk KX G (fun _ _ _ _ _ _ us hl => match us, hl with | [_, _], _ => rfl) ?a ?l ?c ?k
      (case a => k_is); (case l => k_is); (case c => k_is); (case k => k_is)
    obtain ⟨a18, d18, D18⟩ : ∃ f fd, V0.Df _ mg "_law_lowest_due" V0.s_lowest_due V0.P_lowest_due f fd := by
      refine' V0.df_mk KX G (fun _ _ _ _ _ _ us hl => match us, hl with | [_, _], _ => rfl) ?a ?l ?c ?k
      (case a => k_is); (case l => k_is); (case c => k_is); (case k => k_is)
    obtain ⟨fd, hF, hb⟩ := V0.law_mk KX G hmg (by k_is) (by k_is) (by k_is) (by k_is)
    exact ⟨Ci, fun n => [a0, a1, a2, a3, a4, a5, a6, a7, a8, a9, a10, a11, a12, a13, a14, a15, a16, a17, a18].getD n 0, fun n => [d0, d1, d2, d3, d4, d5, d6, d7, d8, d9, d10, d11, d12, d13, d14, d15, d16, d17, d18].getD n d0, fd, ⟨hB, hC, T0, D1, D2, D3, D4, D5, D6, D7, D8, D9, D10, D11, D12, D13, D14, D15, D16, D17, D18⟩, hF, hb⟩
