import PyProof.Rows.All
import Wide.All
import OpenK.AllK
import Wide.FinOn
import HandS.ForMost
import HandS.Wide
import HandS.Gcd
import HandS.IsInst
import HandS.Walk
import HandS.Conv
import HandS.Style
import PyProof.Rows.RuleB_pow
import HandS.TryMany
import PySem.Challenge.RW_huebill_k01_whole_errors
import HandS.ForExc
import HandS.ExcInit
import HandS.ExcField
import KE.KExcInit
import KE.KExcLine
import HandS.ExcIs
import HandS.ExcValue
import KE.KCallOwn
import KE.KExcIs
import PyProof.ListStr
set_option Elab.async false
set_option linter.all false
set_option maxRecDepth 100000
set_option maxHeartbeats 4000000
namespace V0
open PySem PySem.Spec PyProof.Rows L2
/-! ### rules of my own -/
/-- a ** n of great a -/
def CPowB (i j : Int) : Prop := 0 ≤ j ∧ (Builtin.Int.intBits i : Int) * j ≤ 2 ^ 27
/-- a name of the module that holds a plain value -/
def GV (mg : Str → Option Value) (x : Str) (v : V) : Prop := ∃ u, mg x = some u ∧ RelV v u
section
variable {X : Cx}
theorem op_powB : OpR X (binaryOp .Pow) (rI CPowB fun i j => .int (i ^ j.toNat)) := opI fun _ _ _ _ _ _ _ hc q => pow_int hc.1 hc.2 q
theorem pe_gv {x : Str} {v : V} {pos : Pos} (hg : Gl X x) (h : GV X.mg x v) (hd : (x == ("__debug__" : Str)) = false := by decide) : PE X (.Name x pos) (tC v) := by
  obtain ⟨u, hm, r⟩ := h
  exact pe_glob hg hm r hd
/-- a built-in class as a value -/
theorem pe_ty {x : Str} {n : String} {pos : Pos} (hg : Gl X x) (hm : X.mg x = none) (hv : bootBuiltins x = some (.type n)) (hn : x ≠ "__name__" := by decide) (hd : (x == ("__debug__" : Str)) = false := by decide) : PE X (.Name x pos) (tC (.ty n)) := pe_bltn hg hm hv rfl hn hd
end
/-- a def of the text that stands under its own name -/
structure Df (K : PySem.W.Frag) (mg : Str → Option Value) (x : Str) (st : Stmt) (ps : List Str) (f : Addr) (fd : FuncData) : Prop where
  F : Fun K x x st f fd
  b : Binds K fd ps []
  g : mg x = some (.ref f)
/-- the built-in names -/
structure Bl (mg : Str → Option Value) : Prop where
  b_len : mg "len" = none
  b_abs : mg "abs" = none
  b_max : mg "max" = none
  b_min : mg "min" = none
  b_int : mg "int" = none
  b_bool : mg "bool" = none
  b_str : mg "str" = none
  b_tuple : mg "tuple" = none
  b_list : mg "list" = none
  b_dict : mg "dict" = none
  b_all : mg "all" = none
  b_any : mg "any" = none
  b_sum : mg "sum" = none
  b_repr : mg "repr" = none
  b_isinstance : mg "isinstance" = none
  b_range : mg "range" = none
/-- all but the object at p is as it was -/
def But (p : Addr) (H H' : Hp) : Prop := ∀ b o, H b = some o → b ≠ p → H' b = some o
theorem But.of {H H' : Hp} {p : Addr} (s : Same H H') : But p H H' := fun b o e _ => s b o e
theorem But.trans {p : Addr} {H H1 H2 : Hp} (a : But p H H1) (b : But p H1 H2) : But p H H2 := fun c o e h => b c o (a c o e h) h
theorem But.refl {p : Addr} {H : Hp} : But p H H := fun _ _ e _ => e
theorem But.upd {p : Addr} {H : Hp} {o : HO} : But p H (upd H p o) := fun b u e h => by rw [upd_ne h]; exact e
theorem But.new {p q : Addr} {H : Hp} {o : HO} (h : H q = none) : But p H (L2.upd H q o) := fun b u e _ => by rw [upd_ne (ne_of_none e h)]; exact e
theorem Same.new {q : Addr} {H : Hp} {o : HO} (h : H q = none) : Same H (upd H q o) := fun b u e => by rw [upd_ne (ne_of_none e h)]; exact e
theorem at_g {α : Type} {xs : List α} {i : Int} {v : α} (h0 : 0 ≤ i) (h : xs[i.toNat]? = some v) : atI xs i = some v := by
  obtain ⟨n, rfl⟩ : ∃ n : Nat, i = (n : Int) := ⟨i.toNat, by omega⟩
  exact atI_nat h
/-! ### kinds of values -/
inductive Kd where
  | non | bl | int | str | lst | tup | dct
  deriving DecidableEq
def Kd.nm : Kd → String
  | .non => "NoneType" | .bl => "bool" | .int => "int" | .str => "str" | .lst => "list" | .tup => "tuple" | .dct => "dict"
def Kd.is : Kd → Kd → Bool
  | .bl, .int => true
  | .non, .non => true | .bl, .bl => true | .int, .int => true | .str, .str => true | .lst, .lst => true | .tup, .tup => true | .dct, .dct => true
  | _, _ => false
inductive Kn (H : Hp) : V → Kd → Prop
  | non : Kn H .non .non
  | bl (b : Bool) : Kn H (.bl b) .bl
  | int (i : Int) : Kn H (.int i) .int
  | str (x : Str) : Kn H (.str x) .str
  | lst {a : Addr} {xs : List V} (h : H a = some (.lst xs)) : Kn H (.ref a) .lst
  | tup {a : Addr} {xs : List V} (h : H a = some (.tup xs)) : Kn H (.ref a) .tup
  | dct {a : Addr} {kvs : List (Key × V)} (h : H a = some (.dK kvs)) : Kn H (.ref a) .dct
theorem Kn.same {H H' : Hp} {x : V} {t : Kd} (s : Same H H') : Kn H x t → Kn H' x t
  | .non => .non
  | .bl b => .bl b
  | .int i => .int i
  | .str z => .str z
  | .lst h => .lst (s _ _ h)
  | .tup h => .tup (s _ _ h)
  | .dct h => .dct (s _ _ h)
theorem Kn.tyx {K : PySem.W.Frag} {H : Hp} {x : V} {t : Kd} (h : Kn H x t) : TyX K H x (.type t.nm) := by
  cases h with
  | non => exact .base .non
  | bl b => exact .base (.bl b)
  | int i => exact .base (.int i)
  | str z => exact .base (.str z)
  | lst h => exact .base (.lst h)
  | tup h => exact .base (.tup h)
  | dct h => exact .base (.dK h)
theorem kd_kit (t c : Kd) (hc : c ≠ .non) : kitB t.nm c.nm = some (t.is c) := by
  cases t <;> cases c <;> first | exact absurd rfl hc | decide +kernel
section
variable {X : Cx}
/-- isinstance(x, c), c a built-in class -/
def rIs : List V → Hp → VK → Prop := fun xs H Q => ∃ (x : V) (t c : Kd), xs = [x, .ty c.nm] ∧ Kn H x t ∧ c ≠ .non ∧ Q (.bl (t.is c)) H
theorem call_is : CallR X (.builtin "isinstance") rIs := by
  intro pins s σ H xs us Q I r h
  obtain ⟨x, t, c, rfl, k, hc, q⟩ := h
  exact call_isi pins s σ H _ us Q I r ⟨x, .ty c.nm, _, _, _, rfl, .ty _, k.tyx, kit_ty (kd_kit t c hc), q⟩
end
/-! ### the draws -/
/-- the pot of draws -/
def Pot (H : Hp) (p : Addr) : Prop := ∃ a b c : Int, H p = some (.lst [.int a, .int b, .int c]) ∧ 0 ≤ a ∧ 0 ≤ b ∧ b < 2 ^ 62 ∧ 0 ≤ c
theorem Pot.same {H H' : Hp} {p : Addr} (s : Same H H') (h : Pot H p) : Pot H' p := by
  obtain ⟨a, b, c, hp, r⟩ := h
  exact ⟨a, b, c, s _ _ hp, r⟩
def spPot (K : PySem.W.Frag) : Sp := fun vs H Q _ => ∃ (a : Addr) (ns : List Int) (j : Nat), vs = [.ref a, .int j] ∧ SqL K H a (ns.map V.int) ∧ ns.length ≤ 1000 ∧ j < 1000 ∧
  ∀ (p : Addr) (H' : Hp), H p = none → Pot H' p → Same H H' → Q (.ref p) H'
def spStir : Sp := fun vs H Q _ => ∃ (p : Addr) (t : Int), vs = [.ref p, .int t] ∧ Pot H p ∧ 0 < t ∧ t < 2 ^ 200 ∧
  ∀ (r : Int) (H' : Hp), 0 ≤ r → r < t → Pot H' p → But p H H' → Q (.int r) H'
/-- one of the items of a list, or of the signs of a text -/
def spOneOf (K : PySem.W.Frag) : Sp := fun vs H Q _ => ∃ (p : Addr) (o : V), vs = [.ref p, o] ∧ Pot H p ∧
  ((∃ (l : Addr) (xs : List V), o = .ref l ∧ l ≠ p ∧ H l = some (.lst xs) ∧ xs ≠ [] ∧ xs.length ≤ 1000 ∧ ∀ x, x ∈ xs → ∀ H', Pot H' p → But p H H' → Q x H') ∨
   (∃ z : Str, o = .str z ∧ z.length ≠ 0 ∧ z.length ≤ 1000 ∧ ∀ c, c ∈ z.cps.toList → ∀ H', Pot H' p → But p H H' → Q (.str ⟨#[c]⟩) H'))
end V0
namespace V0
open PySem PySem.Spec PyProof.Rows L2
def top (i : Nat) : Stmt := PySem.Challenge.pw_huebill_k01_whole_errors.main.body.getD i (.Pass ⟨0, 0, 0, 0⟩)
section
variable {P : Program} {w : World} {K : PySem.W.Frag} {mg : Str → Option Value} {base : Heap}
abbrev s_pot : Stmt := top 17
abbrev N_pot : List Str := ["_law_script", "_law_at", "_law_cell", "_law_great", "_law_mixed"]
abbrev P_pot : List Str := ["_law_script", "_law_at"]
theorem sc_pot : FnScope N_pot P_pot (defScope s_pot) := ⟨rfl, rfl, rfl, by decide +kernel, rfl, by decide +kernel, by decide +kernel⟩
theorem ok_pot {f : Addr} {fd : FuncData} (B : Bl mg) (D : Df K mg "_law_pot" s_pot P_pot f fd) : FnOk P w K mg base CX0 1 f fd P_pot (spPot K) := by
  refine D.F.ok sc_pot (fun vs H Q E h => ?_) (fun cdv A outer s H vs Q E hr h => ?_)
  · obtain ⟨a, ns, j, rfl, _⟩ := h
    rfl
  · obtain ⟨a, ns, j, rfl, hS, hl, hj, k⟩ := h
    refine ⟨_, (pss_cons (ps_set (i := 2) sc_pot.nd rfl (Or.inl rfl) (pe_ifExp (pt_cmpR op_lt (pv 1) (pe_callB call_len_seq (by rfl) B.b_len (by decide +kernel) (pa_cons (pv 0) pa_nil)) (nomark _)) (pe_ix ix_list (pv 0) (pv 1) (fun _ _ => rfl)) (pe_op op_add (pe_op op_mul pe_int (pv 1)) pe_int)))
      (pss_cons (ps_set (i := 3) sc_pot.nd rfl (Or.inl rfl) (pe_op op_mod (pe_callTy call_int1 (by rfl) B.b_int (by decide +kernel) (pa_cons (pe_callB call_abs (by rfl) B.b_abs (by decide +kernel) (pa_cons (pv 2) pa_nil)) pa_nil)) (pe_op op_powB (pe_op op_pow pe_int pe_int) pe_int)))
      (pss_cons (ps_set (i := 4) sc_pot.nd rfl (Or.inl rfl) (pe_op op_add (pe_op op_add (pe_op op_add (pe_op op_mul (pe_op op_mod (pe_callTy call_int1 (by rfl) B.b_int (by decide +kernel) (pa_cons (pv 3) pa_nil)) pe_int) pe_int) (pe_op op_mul pe_int (pv 1))) (pe_op op_mul pe_int (pe_callTy call_int1 (by rfl) B.b_int (by decide +kernel) (pa_cons (pe_cmpR op_lt (pv 2) pe_int (nomark _)) pa_nil)))) pe_int))
      (pss_one (ps_ret (pe_lst (pa_cons (pe_callB (call_max2 rfl) (by rfl) B.b_max (by decide +kernel) (pa_cons pe_int (pa_cons (pe_op op_sub (pv 3) (pe_op op_pow pe_int pe_int)) pa_nil))) (pa_cons (pe_op op_mod (pe_callTy call_int1 (by rfl) B.b_int (by decide +kernel) (pa_cons (pv 4) pa_nil)) pe_int) (pa_cons pe_int pa_nil))))))))), ?_⟩
    -- cell: any int
    refine ⟨_, rfl, _, rfl, a, _, rfl, .inl hS, _, _, rfl, rfl, _, rfl, ?_⟩
    refine ite2 (fun e => ?_) (fun e => ?_)
    all_goals first
      | (have hlt : j < ns.length := by
          have e' := of_decide_eq_true e
          rw [List.length_map] at e'
          omega
         refine ⟨_, rfl, _, rfl, a, _, _, .int ns[j], rfl, rfl, hS, at_of (j := j) rfl (by rw [List.getElem?_map, List.getElem?_eq_getElem hlt]; rfl), ?_⟩
         generalize ns[j] = z)
      | (refine ⟨_, rfl, _, _, rfl, rfl, .inl ⟨by decide, by decide⟩, _, _, rfl, rfl, ?_⟩
         generalize 97 * (j : Int) + 59 = z)
    all_goals (
      -- great, mixed, the pot
      refine ⟨_, rfl, _, rfl, .inl ⟨_, rfl, _, _, rfl, rfl, ⟨by decide, by decide, by decide⟩, _, _, rfl, rfl, ⟨by decide, by decide +kernel⟩, _, _, rfl, rfl, (by show (0 : Int) < _; decide +kernel), ?_⟩⟩
      generalize hg : (if z < 0 then -z else z) % ((10 ^ Int.toNat 59) ^ Int.toNat 9) = g
      refine ⟨_, rfl, .inl ⟨_, rfl, _, _, rfl, rfl, (by show (0 : Int) < 2305843009213693921; decide), _, _, rfl, rfl, .inr ⟨by decide, by decide⟩, _, rfl, _, _, rfl, rfl, .inl ⟨by decide, by decide⟩, _, _, rfl, rfl, _, rfl, _, _, rfl, rfl, .inr ⟨_, rfl, _, _, rfl, rfl, .inl ⟨by decide, by decide⟩, _, _, rfl, rfl, _, _, rfl, rfl, ?_⟩⟩⟩
      refine ⟨_, rfl, _, _, rfl, rfl, ⟨by decide, by decide, by decide⟩, _, _, rfl, rfl, _, _, rfl, _, rfl, .inl ⟨_, rfl, _, _, rfl, rfl, (by show (0 : Int) < 2305843009213693951; decide), (by show 3 ≤ sizeLine; decide), fun p hp => ?_⟩⟩
      refine k p _ hp ⟨_, _, _, upd_same, ?_, Int.emod_nonneg _ (by decide), ?_, by decide⟩ (Same.new hp)
      · split <;> omega
      · exact Int.lt_of_lt_of_le (Int.emod_lt_of_pos _ (by decide)) (by decide))
abbrev s_stir : Stmt := top 18
abbrev N_stir : List Str := ["_law_pot_here", "_law_total", "_law_found", "_law_one", "_law_two"]
abbrev P_stir : List Str := ["_law_pot_here", "_law_total"]
theorem sc_stir : FnScope N_stir P_stir (defScope s_stir) := ⟨rfl, rfl, rfl, by decide +kernel, rfl, by decide +kernel, by decide +kernel⟩
theorem ok_stir {f : Addr} {fd : FuncData} (B : Bl mg) (D : Df K mg "_law_stir" s_stir P_stir f fd) : FnOk P w K mg base CX0 1 f fd P_stir spStir := by
  refine D.F.ok sc_stir (fun vs H Q E h => ?_) (fun cdv A outer s H vs Q E hr h => ?_)
  · obtain ⟨p, t, rfl, _⟩ := h
    rfl
  · obtain ⟨p, t, rfl, ⟨a, b, c, hp, ha, hb, hb2, hc⟩, ht, ht2, k⟩ := h
    refine ⟨_, (pss_cons (ps_if (pt_cmpR op_gt (pe_ix ix_list (pv 0) pe_int (fun _ _ => rfl)) pe_int (nomark _)) (pss_cons (ps_set (i := 2) sc_stir.nd rfl (Or.inl rfl) (pe_op op_mod (pe_callTy call_int1 (by rfl) B.b_int (by decide +kernel) (pa_cons (pe_ix ix_list (pv 0) pe_int (fun _ _ => rfl)) pa_nil)) (pv 1)))
      (pss_cons (ps_asg (pe_op op_fdivW (pe_ix ix_list (pv 0) pe_int (fun _ _ => rfl)) (pv 1)) (pg_sub (pv 0) pe_int set_list))
      (pss_one (ps_ret (pv 2))))) pss_nil)
      (pss_cons (ps_asg (pe_op op_add (pe_ix ix_list (pv 0) pe_int (fun _ _ => rfl)) pe_int) (pg_sub (pv 0) pe_int set_list))
      (pss_cons (ps_set (i := 3) sc_stir.nd rfl (Or.inl rfl) (pe_op op_mod (pe_callTy call_int1 (by rfl) B.b_int (by decide +kernel) (pa_cons (pe_op op_add (pe_ix ix_list (pv 0) pe_int (fun _ _ => rfl)) (pe_op op_mul pe_int (pe_ix ix_list (pv 0) pe_int (fun _ _ => rfl)))) pa_nil)) pe_int))
      (pss_cons (ps_set (i := 4) sc_stir.nd rfl (Or.inl rfl) (pe_op op_add (pe_op op_mul (pe_op op_mod (pe_callTy call_int1 (by rfl) B.b_int (by decide +kernel) (pa_cons (pe_op op_mul (pv 3) (pv 3)) pa_nil)) pe_int) (pv 3)) (pe_op op_mul pe_int (pe_ix ix_list (pv 0) pe_int (fun _ _ => rfl)))))
      (pss_one (ps_ret (pe_op op_mod (pe_callTy call_int1 (by rfl) B.b_int (by decide +kernel) (pa_cons (pe_op op_fdivW (pe_op op_mod (pe_callTy call_int1 (by rfl) B.b_int (by decide +kernel) (pa_cons (pv 4) pa_nil)) pe_int) pe_int) pa_nil)) (pv 1)))))))), ?_⟩
    -- if pot[0] > 0
    refine ⟨_, rfl, p, _, 0, .int a, rfl, rfl, SqL.of hp, rfl, _, _, rfl, rfl, _, rfl, ite2 (fun e => ?_) (fun e => ?_)⟩
    · -- found = pot[0] % total; pot[0] = pot[0] // total; return found
      refine ⟨_, rfl, p, _, 0, .int a, rfl, rfl, SqL.of hp, rfl, .inl ⟨_, rfl, ?_⟩⟩
      refine ⟨_, rfl, _, _, rfl, rfl, ht, ?_⟩
      refine ⟨_, rfl, p, _, 0, .int a, rfl, rfl, SqL.of hp, rfl, _, rfl, _, _, rfl, rfl, wide_div ht (b := 200) (by omega) (by decide) (by decide), ?_⟩
      refine ⟨_, rfl, p, _, 0, 0, rfl, rfl, hp, rfl, ?_⟩
      refine ⟨_, rfl, ?_⟩
      exact k _ _ (Int.emod_nonneg _ (by omega)) (Int.emod_lt_of_pos _ ht) ⟨a / t, b, c, upd_same, Int.ediv_nonneg ha (by omega), hb, hb2, hc⟩ But.upd
    · -- pot[2] = pot[2] + 1
      refine ⟨_, rfl, p, _, 2, .int c, rfl, rfl, SqL.of hp, rfl, _, _, rfl, rfl, _, rfl, p, _, 2, 2, rfl, rfl, hp, rfl, ?_⟩
      have hp2 : (upd H p (.lst [.int a, .int b, .int (c + 1)])) p = some (.lst [.int a, .int b, .int (c + 1)]) := upd_same
      -- one = int(pot[1] + 1048583 * pot[2]) % ..
      refine ⟨_, rfl, p, _, 1, .int b, rfl, rfl, SqL.of hp2, rfl, _, rfl, p, _, 2, .int (c + 1), rfl, rfl, SqL.of hp2, rfl, _, _, rfl, rfl, .inl ⟨by decide, by decide⟩, _, _, rfl, rfl, .inl ⟨_, rfl, _, _, rfl, rfl, (by show (0 : Int) < 2305843009213693951; decide), ?_⟩⟩
      generalize hx : (b + 1048583 * (c + 1)) % 2305843009213693951 = x
      have x0 : 0 ≤ x := by rw [← hx]; exact Int.emod_nonneg _ (by decide)
      have x1 : x < 2305843009213693951 := by rw [← hx]; exact Int.emod_lt_of_pos _ (by decide)
      -- two = int(one * one) % .. * one + 8101 * pot[2]
      refine ⟨_, rfl, _, rfl, _, _, rfl, rfl, .inl ⟨by omega, by omega⟩, .inl ⟨_, rfl, _, _, rfl, rfl, (by show (0 : Int) < 2305843009213693907; decide), ?_⟩⟩
      have y1 : (x * x) % 2305843009213693907 < 2305843009213693907 := Int.emod_lt_of_pos _ (by decide)
      have y0 : 0 ≤ (x * x) % 2305843009213693907 := Int.emod_nonneg _ (by decide)
      refine ⟨_, rfl, _, _, rfl, rfl, .inl ⟨by omega, by omega⟩, _, rfl, p, _, 2, .int (c + 1), rfl, rfl, SqL.of hp2, rfl, _, _, rfl, rfl, .inl ⟨by decide, by decide⟩, _, _, rfl, rfl, ?_⟩
      -- return int(int(two) % .. // 16384) % total
      refine ⟨_, rfl, .inl ⟨_, rfl, _, _, rfl, rfl, (by show (0 : Int) < 2305843009213693921; decide), _, _, rfl, rfl, ⟨by decide, by decide⟩, .inl ⟨_, rfl, _, rfl, _, _, rfl, rfl, ht, ?_⟩⟩⟩
      exact k _ _ (Int.emod_nonneg _ (by omega)) (Int.emod_lt_of_pos _ ht) ⟨a, b, c + 1, hp2, ha, hb, hb2, by omega⟩ But.upd
end
end V0
namespace V0
open PySem PySem.Spec PyProof.Rows L2
section
variable {P : Program} {w : World} {K : PySem.W.Frag} {mg : Str → Option Value} {base : Heap}
abbrev s_one_of : Stmt := top 19
abbrev N_one_of : List Str := ["_law_pot_here", "_law_items"]
abbrev P_one_of : List Str := ["_law_pot_here", "_law_items"]
theorem sc_one_of : FnScope N_one_of P_one_of (defScope s_one_of) := ⟨rfl, rfl, rfl, by decide +kernel, rfl, by decide +kernel, by decide +kernel⟩
theorem ok_one_of {f f1 : Addr} {fd fd1 : FuncData} (B : Bl mg) (D_stir : Df K mg "_law_stir" s_stir P_stir f1 fd1) (D : Df K mg "_law_one_of" s_one_of P_one_of f fd) : FnOk P w K mg base CX0 2 f fd P_one_of (spOneOf K) := by
  have G_stir : FnOk P w K mg base CX0 1 f1 fd1 P_stir spStir := ok_stir B D_stir
  refine D.F.ok sc_one_of (fun vs H Q E h => ?_) (fun cdv A outer s H vs Q E hr h => ?_)
  · obtain ⟨p, o, rfl, _⟩ := h
    rfl
  · obtain ⟨p, o, rfl, hp, ⟨l, xs, rfl, hlp, hl, hne, hn, k⟩ | ⟨z, rfl, hne, hn, k⟩⟩ := h
    · refine ⟨_, (pss_one (ps_ret (pe_ix ix_seq (pv 1) (pe_call G_stir (hr.mono (by decide)) (by rfl) D_stir.g D_stir.F.kp D_stir.b .nil pass0 (pa_cons (pv 0) (pa_cons (pe_callB call_len (by rfl) B.b_len (by decide +kernel) (pa_cons (pv 1) pa_nil)) pa_nil))) (fun _ _ => rfl)))), ?_⟩
      have h0 : 0 < xs.length := List.length_pos_iff.mpr hne
      refine ⟨_, rfl, _, rfl, _, rfl, _, xs.length, rfl, .inl ⟨_, SqL.of hl, rfl⟩, p, _, rfl, hp, by omega, by omega, fun r H' r0 r1 hp' hb => ?_⟩
      have hr : r.toNat < xs.length := by omega
      exact .inl ⟨l, xs, r, xs[r.toNat], rfl, rfl, SqL.of (hb _ _ hl hlp), at_of (j := r.toNat) (by omega) (List.getElem?_eq_getElem hr), k _ (List.getElem_mem hr) H' hp' hb⟩
    · refine ⟨_, (pss_one (ps_ret (pe_ix ix_seq (pv 1) (pe_call G_stir (hr.mono (by decide)) (by rfl) D_stir.g D_stir.F.kp D_stir.b .nil pass0 (pa_cons (pv 0) (pa_cons (pe_callB call_len (by rfl) B.b_len (by decide +kernel) (pa_cons (pv 1) pa_nil)) pa_nil))) (fun _ _ => rfl)))), ?_⟩
      have hz : (1000 : Nat) ≤ sizeLine := by decide
      refine ⟨_, rfl, _, rfl, _, rfl, _, z.length, rfl, ⟨by omega, rfl⟩, p, _, rfl, hp, by omega, by omega, fun r H' r0 r1 hp' hb => ?_⟩
      have hl : z.cps.toList.length = z.length := rfl
      have hr : r.toNat < z.cps.toList.length := by omega
      refine .inr (.inr ⟨z, r, z.cps.toList[r.toNat], rfl, rfl, by omega, ?_, k _ (List.getElem_mem hr) H' hp' hb⟩)
      exact at_g r0 (List.getElem?_eq_getElem hr)
end
end V0
namespace V0
open PySem PySem.Spec PyProof.Rows L2
/-! ### data that can be shown -/
theorem SqT.same {K : PySem.W.Frag} {H H' : Hp} {a : Addr} {xs : List V} (e : Same H H') (h : SqT K H a xs) : SqT K H' a xs := by
  rcases h with (h | ⟨o, h⟩) | h
  · exact .inl (.inl (e _ _ h))
  · exact .inl (.inr ⟨o, e _ _ h⟩)
  · exact .inr h
mutual
theorem Dp.same {K : PySem.W.Frag} {H H' : Hp} (s : Same H H') : ∀ (d : PyData) (v : V), Dp K H v d → Dp K H' v d
  | .none, _, h => by cases h; exact .non
  | .bool b, _, h => by cases h; exact .bl b
  | .int i, _, h => by cases h; exact .int i
  | .str x, _, h => by cases h; exact .str x
  | .list ds, _, h => by
    cases h with
    | lst a b => exact .lst (Same.seq s a) (Dp.sameAll s ds _ b)
  | .tuple ds, _, h => by
    cases h with
    | tup a b => exact .tup (SqT.same s a) (Dp.sameAll s ds _ b)
  | .dict _, _, h => by cases h
theorem Dp.sameAll {K : PySem.W.Frag} {H H' : Hp} (s : Same H H') : ∀ (ds : List PyData) (vs : List V), DpAll K H vs ds → DpAll K H' vs ds
  | [], _, h => by cases h; exact .nil
  | d :: ds, _, h => by
    cases h with
    | cons a b => exact .cons (Dp.same s d _ a) (Dp.sameAll s ds _ b)
end
mutual
theorem Dp.noDict {K : PySem.W.Frag} {H : Hp} : ∀ (d : PyData) (v : V), Dp K H v d → d.hasDict = false
  | .none, _, _ => rfl
  | .bool _, _, _ => rfl
  | .int _, _, _ => rfl
  | .str _, _, _ => rfl
  | .list ds, _, h => by
    cases h with
    | lst a b =>
      show PyData.hasDictAll ds = false
      exact Dp.noDictAll ds _ b
  | .tuple ds, _, h => by
    cases h with
    | tup a b =>
      show PyData.hasDictAll ds = false
      exact Dp.noDictAll ds _ b
  | .dict _, _, h => by cases h
theorem Dp.noDictAll {K : PySem.W.Frag} {H : Hp} : ∀ (ds : List PyData) (vs : List V), DpAll K H vs ds → PyData.hasDictAll ds = false
  | [], _, _ => rfl
  | d :: ds, _, h => by
    cases h with
    | cons a b =>
      show (PyData.hasDict d || PyData.hasDictAll ds) = false
      rw [Dp.noDict d _ a, Dp.noDictAll ds _ b]
      rfl
end
/-- not too deep, not too large -/
structure Sm (k : Nat) (d : PyData) : Prop where
  sh : d.showable = true
  lv : d.leavesShort 100 = true
  dp : d.depth ≤ k
  wt : d.weight ≤ 1000 * 4 ^ k
theorem Sm.up {k : Nat} {d : PyData} (h : Sm k d) : Sm (k + 1) d := ⟨h.sh, h.lv, by have := h.dp; omega, by have := h.wt; rw [Nat.pow_succ]; omega⟩
theorem Sm.int {i : Int} (h : i.natAbs < 10 ^ 90) : Sm 0 (.int i) := by
  have h2 : i.natAbs < 2 ^ 900 := Nat.lt_trans h (by decide +kernel)
  have hl : i.natAbs.log2 < 900 := by
    by_cases h0 : i.natAbs = 0
    · rw [h0]; decide
    · exact (Nat.log2_lt h0).mpr h2
  refine ⟨?_, ?_, Nat.le_refl _, ?_⟩
  · show decide (i.natAbs.log2 < 1920) = true
    exact decide_eq_true (by omega)
  · show decide ((PyData.shown (.int i)).length ≤ 100) = true
    have e := int_text_length_le10 (a := i) (k := 90) (by decide) h
    have e2 : (PyData.shown (.int i)).length = (toString i).length := by
      show (Str.ofString (toString i)).length = _
      rw [PySem.ofString_length]
    exact decide_eq_true (by omega)
  · show (if i == 0 then 0 else i.natAbs.log2 + 1) ≤ 1000 * 4 ^ 0
    split <;> omega
theorem Sm.str {z : Str} (h : z.length ≤ 900) (ho : PyData.strOk z = true) : Sm 0 (.str z) := by
  refine ⟨rfl, ?_, Nat.le_refl _, ?_⟩
  · show (z.cps.toList.all fun c => decide (c < 16 ^ 8)) = true
    rw [List.all_eq_true]
    intro c hc
    have q : c < 0x110000 := of_decide_eq_true (Array.all_eq_true_iff_forall_mem.mp ho c (by rw [← Array.mem_toList_iff]; exact hc))
    exact decide_eq_true (by omega)
  · show z.cps.size ≤ 1000 * 4 ^ 0
    have : z.cps.size = z.length := rfl
    omega
theorem Sm.non : Sm 0 .none := ⟨rfl, rfl, Nat.le_refl _, Nat.zero_le _⟩
theorem Sm.bl (b : Bool) : Sm 0 (.bool b) := ⟨rfl, rfl, Nat.le_refl _, Nat.zero_le _⟩
theorem sm_all {k : Nat} : ∀ ds : List PyData, (∀ d ∈ ds, Sm k d) → PyData.showableAll ds = true ∧ PyData.leavesShortAll 100 ds = true ∧ PyData.depthAll ds ≤ k ∧ PyData.weightAll ds ≤ ds.length * (1000 * 4 ^ k + 1)
  | [], _ => ⟨rfl, rfl, Nat.zero_le _, Nat.zero_le _⟩
  | d :: ds, h => by
    obtain ⟨a, b, c, e⟩ := sm_all ds fun x hx => h x (by simp [hx])
    have q := h d (by simp)
    refine ⟨?_, ?_, ?_, ?_⟩
    · show (PyData.showable d && PyData.showableAll ds) = true
      rw [q.sh, a]; rfl
    · show (PyData.leavesShort 100 d && PyData.leavesShortAll 100 ds) = true
      rw [q.lv, b]; rfl
    · show max (PyData.depth d) (PyData.depthAll ds) ≤ k
      exact Nat.max_le.mpr ⟨q.dp, c⟩
    · show PyData.weight d + 1 + PyData.weightAll ds ≤ (ds.length + 1) * (1000 * 4 ^ k + 1)
      have w := q.wt
      rw [Nat.succ_mul]
      omega
theorem Sm.seq {k : Nat} {ds : List PyData} (h : ∀ d ∈ ds, Sm k d) (hn : ds.length ≤ 3) : Sm (k + 1) (.list ds) ∧ Sm (k + 1) (.tuple ds) := by
  obtain ⟨a, b, c, e⟩ := sm_all ds h
  have w : PyData.weightAll ds ≤ 1000 * 4 ^ (k + 1) := by
    have e2 : ds.length * (1000 * 4 ^ k + 1) ≤ 3 * (1000 * 4 ^ k + 1) := Nat.mul_le_mul_right _ hn
    have p : 0 < 4 ^ k := Nat.pow_pos (by decide)
    rw [Nat.pow_succ]
    omega
  exact ⟨⟨a, b, Nat.succ_le_succ c, w⟩, ⟨a, b, Nat.succ_le_succ c, w⟩⟩
theorem Sm.size {k : Nat} {d : PyData} (h : Sm k d) (hk : k ≤ 3) : d.shown.length ≤ sizeLine := by
  have q := PyData.shown_le 100 (by decide) d h.lv
  have w := h.wt
  have p : 4 ^ k ≤ 4 ^ 3 := Nat.pow_le_pow_right (by decide) hk
  have hs : sizeLine = 16777216 := sizeLine_eq
  omega
/-- a dict of ints at a -/
def ikv (ks : List (Int × Int)) : List (Key × V) := ks.map fun p => (.inl p.1, .int p.2)
def idd (ks : List (Int × Int)) : PyData := .dict (ks.map fun p => (.int p.1, .int p.2))
/-- what repr can show -/
inductive Rp (K : PySem.W.Frag) (H : Hp) : V → PyData → Prop
  | dp {x : V} {d : PyData} (h : Dp K H x d) : Rp K H x d
  | dct {a : Addr} {ks : List (Int × Int)} (h : H a = some (.dK (ikv ks))) : Rp K H (.ref a) (idd ks)
  | pair {a b : Addr} {z : Str} {ks : List (Int × Int)} (h : H a = some (.tup [.str z, .ref b])) (h2 : H b = some (.dK (ikv ks))) : Rp K H (.ref a) (.tuple [.str z, idd ks])
section
variable {X : Cx} {pins : List (Addr × Obj)} {σ : L2.St} {H : Hp} {s : Shared}
theorem pairs_ints {P : Program} {w : World} : ∀ {es : List DictEntry} {ks : List (Int × Int)} {vs : List (Key × Value)}, KV (ikv ks) vs → Pairs (mixKind P w) es vs →
    (∃ as, ReadsAll s.heap (es.map (·.key)) (ks.map fun p => PyData.int p.1) as ∧ as = []) ∧ (∃ as, ReadsAll s.heap (es.map (·.val)) (ks.map fun p => PyData.int p.2) as ∧ as = [])
  | es, [], _, kv, p => by
    cases kv
    cases p
    exact ⟨⟨_, .nil, rfl⟩, ⟨_, .nil, rfl⟩⟩
  | es, k :: ks, _, kv, p => by
    cases kv with
    | @cons _ q _ qs e1 e2 =>
      cases p with
      | @cons e _ es' _ p1 p2 p3 =>
        obtain ⟨⟨as, r1, rfl⟩, ⟨bs, r2, rfl⟩⟩ := pairs_ints e2 p3
        obtain ⟨q1, q2⟩ := q
        obtain ⟨e1, t, e3⟩ := e1
        have e1' : Sum.inl k.1 = q1 := e1
        subst e1'
        obtain ⟨t2, e4⟩ := Value.isInt_shape (k := k.1) (v := e.key) p1
        refine ⟨⟨_, ?_, rfl⟩, ⟨_, ?_, rfl⟩⟩
        · rw [List.map_cons, e4]
          exact ReadsAll.cons (.int _ _) r1
        · rw [List.map_cons, p2]
          have e3' : q2 = Value.int k.2 t := e3
          show ReadsAll s.heap (q2 :: _) _ _
          rw [e3']
          exact ReadsAll.cons (.int _ _) r2
theorem dict_reads (I : Inv X pins σ H s) {a : Addr} {ks : List (Int × Int)} (h : H a = some (.dK (ikv ks))) : Reads s.heap (.ref a) (idd ks) [a] ∧ sysModules ≠ a := by
  obtain ⟨hz, hS, vs, r, o, es, ep, h1, h2, h3, h4, h5, h6⟩ := (show ObjOk X.prog X.w H s.heap a (.dK (ikv ks)) from I.hok a _ h)
  obtain ⟨⟨as, r1, rfl⟩, ⟨bs, r2, rfl⟩⟩ := pairs_ints (s := s) r h5
  refine ⟨?_, fun z => by rw [z] at hS; simp at hS⟩
  have q := Reads.dict (h := s.heap) (a := a) (o := o) (es := es) (n := ep) (kvs := ks.map fun p => (PyData.int p.1, PyData.int p.2)) (as := []) (bs := []) h1 h2.1 h3 (by rw [List.map_map]; exact r1) (by rw [List.map_map]; exact r2)
  exact q
theorem Rp.reads (I : Inv X pins σ H s) {x : V} {d : PyData} {u : Value} (h : Rp X.K H x d) (r : RelV x u) : ∃ as, Reads s.heap u d as ∧ (d.hasDict = true → sysModules ∉ as) := by
  cases h with
  | dp h =>
    obtain ⟨as, q⟩ := Dp.reads I d x u h r
    exact ⟨as, q, fun z => by rw [Dp.noDict d x h] at z; cases z⟩
  | dct h =>
    cases r
    obtain ⟨q, n⟩ := dict_reads I h
    exact ⟨_, q, fun _ z => n (by simpa using z)⟩
  | @pair a b z ks h h2 =>
    cases r
    obtain ⟨q, n⟩ := dict_reads I h2
    obtain ⟨its, rv, ⟨o, ho, hc, m, hd⟩, _⟩ := I.tuple (SqT.of h)
    cases rv with
    | cons r1 r2 =>
      cases r2 with
      | cons r2 r3 =>
        cases r3
        obtain ⟨t, e1⟩ := r1
        subst e1
        cases r2
        have ra := ReadsAll.cons (Reads.str (h := s.heap) z t) (ReadsAll.cons q ReadsAll.nil)
        exact ⟨_, Reads.tuple ho hc hd ra, fun _ z => n (by simpa using z)⟩
end
/-- repr, where no other repr is under way -/
def rRepr (K : PySem.W.Frag) : List V → Hp → VK → Prop := fun xs H Q => ∃ (x : V) (d : PyData) (k : Nat), xs = [x] ∧ Rp K H x d ∧ Sm k d ∧ k ≤ 3 ∧ (∃ a, x = .ref a) ∧ Q (.str d.shown) H
theorem call_repr {X : Cx} (hg : X.A.guards = some []) (hu : X.A.units + 64 < cLine) : CallR X (.builtin "repr") (rRepr X.K) := by
  intro pins s σ H xs us Q I r h
  obtain ⟨x, d, k, rfl, hr, hs, hk, ⟨a, rfl⟩, q⟩ := h
  obtain ⟨u, rfl, rx⟩ := vals1 r
  obtain ⟨as, rd, hn⟩ := hr.reads I rx
  cases rx
  have hd := hs.dp
  refine repr_of_reads' rd hs.sh hn hg (by omega) (fun _ _ e => e) (fun h' u tk kk => ?_) (hs.size hk)
  exact ⟨.str d.shown, H, I.kept kk, ⟨_, rfl⟩, q⟩
end V0
namespace V0
open PySem PySem.Spec PyProof.Rows L2
/-! ### own errors over any base, whose __init__ keeps one value -/
section
open PySem.W PySem.Builtin PySem.Builtin.ObjectAttr
variable {prog : Program} {w : World} {A : Around} {R : Result → Shared → Prop} {hp : Heap} {g : Array GenState} {d : Drawn} {t : Nat} {os : OsState}
theorem osa1 {K : Frag} {name : Str} {tk : Tok} {v : Value} {x C : Addr} {fv : Array Value} {B : String} {bmB : List Value} (SF : StoreFacts B bmB "object.__setattr__" "object") (X : K.In hp)
    (hx : hp.get? x = some { cls := .ref C, data := .fields fv }) (ho : excOver K C bmB = true) (hd : hasDictIn K C = true) (ha : findIn K (.ref C) name = some none)
    (hq : ∀ h' tk' dx, (∀ b o, b ≠ x → hp.get? b = some o → h'.get? b = some o) → hp.objs.size ≤ dx → dx ≠ x → h'.get? x = some { cls := .ref C, dict := some dx, data := .fields fv } →
      h'.Ns1 dx (fun y => if y = name then some v else none) → R (.ok (.ret .none)) ⟨h', g, d, tk', os⟩) :
    codeAny (model prog w) A (.call (.builtin "object.__setattr__") ⟨[.ref x, .str name tk, v], []⟩) R ⟨hp, g, d, t, os⟩ := by
  have I : InstAt hp x { cls := .ref C, data := .fields fv } C none := ⟨hx, rfl, rfl, trivial⟩
  have hxs : x ≠ hp.objs.size := Nat.ne_of_lt (Heap.lt_size hx)
  obtain ⟨cd, hcd, hh⟩ := any_some hd
  refine osa_openX (s := ⟨hp, g, d, t, os⟩) SF X I ho (r := none) (by unfold takerIn; rw [ha]; rfl) fun b => ?_
  have hcls : Looks (model prog w) hp (classData C) cd := looks_clsIn X hcd
  show wpAny _ _ (storeInOwnDict (.ref x) (.ref C) (.str name tk) name v b) _ _ _
  obtain ⟨nm, bs, mro, ns, qn, hd', sn, sb, ab, col, del⟩ := cd
  dsimp only at hh
  subst hh
  unfold storeInOwnDict ownDictForStores
  repeat (first | with_reducible refine PySem.HandSPX.store_in_new ?_ ?_ | with_reducible refine wpAny_loadPart_at hx ?_ | with_reducible refine hcls.at ?_ | wp_step)
  · exact ⟨_, #[], _, (Heap.get?_update_ne _ _ _ _ hxs.symm).trans (Heap.get?_push_at rfl rfl), rfl, fun e he => absurd he (by simp), fun _ => rfl⟩
  · intro h' tk' hn' hs
    have hx1 : (hp.push { cls := .type "dict", data := .dict #[] }).get? x = some { cls := .ref C, data := .fields fv } := Heap.get?_push_of_some _ hx
    refine hq h' tk' hp.objs.size (fun b o hb hbo => ?_) (Nat.le_refl _) hxs.symm ?_ hn'
    · exact (hs.2 b (Nat.ne_of_lt (Heap.lt_size hbo))).trans ((Heap.get?_update_ne _ _ _ _ hb).trans (Heap.get?_push_of_some _ hbo))
    · exact (hs.2 x hxs).trans (Heap.get?_update_self _ hx1 rfl)
end
/-- what the top leaves of such a class at C, its __init__ at fI -/
structure Ex (K : PySem.W.Frag) (C fI : Addr) (bmB : List Value) (newId : String) : Prop where
  init : PySem.W.excInitIn K C bmB newId = true
  over : PySem.W.excOver K C bmB = true
  hdC : PySem.W.hasDictIn K C = true
  sa : PySem.W.findIn K (.ref C) "__setattr__" = some (some (.builtin "object.__setattr__"))
  exC : PySem.W.subIn K (.ref C) (.type "BaseException") = some true
  tyC : PySem.W.typeIn K (.ref C) = some (.type "type")
  kC : PySem.W.keepIn K (.ref C) = true
  iC : PySem.W.findIn K (.ref C) "__init__" = some (some (.ref fI))
  tI : PySem.W.typeIn K (.ref fI) = some (.type "function")
section
variable {X : Cx} {pins : List (Addr × Obj)} {σ : L2.St} {H : Hp} {s : Shared} {a C fI dx : Addr} {f : Str} {y : V} {u : Value} {Q : Unit → Shared → Prop} {E : Value → Shared → Prop} {A : Around} {B newId initId : String} {bmB : List Value}
theorem st1 (SF : StoreFacts B bmB "object.__setattr__" "object") (T : Ex X.K C fI bmB newId) (I : Inv X pins σ H s) (e : H a = some (exo a C none)) (hno : PySem.W.findIn X.K (.ref C) f = some none) (ry : RelV y u)
    (h : ∀ dx s', H dx = none → dx ≠ a → Inv X pins σ (upd (upd H dx (exd dx [(f, y)])) a (exo a C (some dx))) s' → Q () s') : wpAny (model X.prog X.w) A (setAttr (.ref a) f u) Q E s := by
  obtain ⟨t1, ho⟩ := exo_at I.hok e
  obtain ⟨hp, g, d, t, os⟩ := s
  refine PySem.W.set_plain I.kIn (ox := { cls := .ref C, dict := none, data := .fields #[.ref t1, .none, .none, .none, .bool false, .none] }) (od := none) ⟨ho, rfl, rfl, trivial⟩ T.sa ?_
  refine osa1 SF I.kIn ho T.over T.hdC hno (fun h' tk' dx k dn dne hx hn => ?_)
  have hnd : H dx = none := I.hok.fresh dn
  have nd : ∀ {b : Addr} {o : Obj}, hp.get? b = some o → b ≠ dx := fun q => Nat.ne_of_lt (Nat.lt_of_lt_of_le (Heap.lt_size q) dn)
  have na : ∀ {b : Addr}, H b = none → b ≠ a := fun n z => by rw [z, e] at n; cases n
  have U : Un X.fs [] H (upd (upd H dx (exd dx [(f, y)])) a (exo a C (some dx))) hp h' :=
    ⟨fun b o q n _ _ => k b o (na n) q, fun b o q n _ _ => ⟨o.slots, k b o (na n) q⟩, fun b o q n _ => by rw [upd_ne (na n), upd_ne (nd q)]; exact n,
     fun b o q _ => (Classical.em (b = a)).elim (fun hb => ⟨_, hb ▸ hx⟩) fun hb => ⟨o, k b o hb q⟩,
     fun b xs q => by rw [upd_ne (at_ne e q exo_tup), upd_ne (ne_of_none q hnd)]; exact q, fun b o v q => by rw [upd_ne (at_ne e q exo_frz), upd_ne (ne_of_none q hnd)]; exact q,
     fun b ps q => ⟨#[], by rw [upd_ne (at_ne e q exo_tbl), upd_ne (ne_of_none q hnd), q]; simp⟩⟩
  refine h dx _ hnd dne (I.un (t' := tk') U fun b o q => ?_)
  by_cases hb : b = a
  · subst hb
    rw [upd_same] at q
    cases q
    exact exo_ok hx
  rw [upd_ne hb] at q
  by_cases hd : b = dx
  · subst hd
    rw [upd_same] at q
    cases q
    exact exd_ok hn (relO_put (fs := []) ry fun _ => trivial)
  rw [upd_ne hd] at q
  refine (I.hok b o q).stay (fun c v hc z => k c v ?_ z) (fun c hc => ?_) (fun c xs hc => ?_)
  · rcases hc with hc | hc
    · rw [hc]; exact hb
    · exact at_ne e hc exo_own
  · rw [upd_ne (at_ne e hc exo_own), upd_ne (ne_of_none hc hnd)]; exact hc
  · rw [upd_ne (at_ne e hc exo_tup), upd_ne (ne_of_none hc hnd)]; exact hc
/-- self.f = e in such an __init__ -/
def tSt1 (K : PySem.W.Frag) (f : Str) (to te : TE) : TS := fun D σ H => te σ H fun y H1 => to σ H1 fun x H2 => ∃ a C : Addr, x = .ref a ∧ PySem.W.findIn K (.ref C) f = some none ∧ (∃ fI bmB newId, Ex K C fI bmB newId ∧ ∃ B, StoreFacts B bmB "object.__setattr__" "object") ∧
  H2 a = some (exo a C none) ∧ ∀ dx, H2 dx = none → dx ≠ a → D.nx σ (upd (upd H2 dx (exd dx [(f, y)])) a (exo a C (some dx)))
theorem ps_st1 {o e : Expr} {to te : TE} {p' pos : Pos} (ho : PE X o to) (he : PE X e te) (hs : swapsWith e (some (.Attribute o f p')) pos.line X.env = pure false := by rfl) : PS X (.Assign [.Attribute o f p'] e pos) (tSt1 X.K f to te) := by
  refine ⟨fun pins s σ H D I h => ?_⟩
  refine plainObj_wpAny_Assign_Attribute (thn (he.run pins s σ H _ I h) fun v s1 ⟨y, H1, I1, r1, q1⟩ => thn (ho.run pins s1 σ H1 _ I1 q1) fun u s2 ⟨x, H2, I2, r2, a, C, ex, hno, ⟨fI, bmB, newId, T, B, SF⟩, ea, q⟩ => ?_) hs
  subst ex
  obtain rfl : u = Value.ref a := r2
  exact st1 SF T I2 ea hno r1 fun dx s' n ne J => ⟨σ, _, J, q dx n ne⟩
/-- such an __init__ -/
def spInit1 (C : Addr) (f : Str) : Sp := fun vs H Q _ => ∃ (a : Addr) (v : V), vs = [.ref a, v] ∧ H a = some (exo a C none) ∧ ∀ dx, H dx = none → dx ≠ a → Q .non (upd (upd H dx (exd dx [(f, v)])) a (exo a C (some dx)))
/-- C(e) -/
def tMk1 (C : Addr) (f : Str) (ta : TA) : L2.St → Hp → XK → Prop := fun σ H Q => ta σ H fun vs H1 => ∃ v, vs = [v] ∧ ∀ d, H1 d = none → Q (.ref C) (some d) (upd H1 d (.xd [(f, v)]))
theorem let_go {H1 : Hp} {a d : Addr} {o1 o2 o3 o4 : HO} (ha : H1 a = none) (hd : d ≠ a) : upd (del (upd (upd (upd H1 a o1) d o2) a o3) a) d o4 = upd H1 d o4 := by
  funext b
  by_cases hb : b = d
  · rw [hb, upd_same, upd_same]
  · rw [upd_ne hb, upd_ne hb]
    by_cases hc : b = a
    · rw [hc, del_same, ha]
    · rw [del_ne hc, upd_ne hc, upd_ne hb, upd_ne hc]
theorem pmk1 {e : Expr} {ta : TA} {x : Str} {k : Nat} {fd : FuncData} {ps : List Str} {p pos : Pos} (FB : ExcBaseFacts B newId initId bmB) (T : Ex X.K C fI bmB newId)
    (F1 : FnOk X.prog X.w X.K X.mg X.base CX0 k fI fd ps (spInit1 C f)) (hr : Room (k + 1) X.A) (hb : Binds X.K fd ps []) (hg : Gl X x) (hm : X.mg x = some (.ref C)) (ha : PA X [e] ta)
    (hdb : (x == ("__debug__" : Str)) = false := by decide) (hs : starEach [e] X.env = (false, eval e X.env) :: starEach [] X.env := by rfl) (hpl : (backTo pos (starEach [] X.env)).any (·.1) = false := by rfl) :
    PMk X (.Call (.Name x p) [e] [] pos) (tMk1 C f ta) := by
  intro pins s σ H Q I h
  refine wpAny_Call_Name_kw (ld_glob I hg hm ?_ hdb)
  refine PySem.W.callWith_K (h₀ := X.base) I.ok.mod.kin T.kC (thn (ha.run pos pins s σ H _ I h) fun us s1 ⟨vs, H1, I1, r1, v, ev, q1⟩ => ⟨I1.kIn, ?_⟩) hs hpl
  subst ev
  obtain ⟨u, rfl, rv⟩ := vals1 r1
  show wpAny _ _ (call (.ref C) [u]) _ _ _
  obtain ⟨nm, N, qn, bs, bm, hdct, sn, sub, ab, col, dd, k0, k1, k2, k3, k5, hC, hT⟩ := PySem.W.excInit_of I1.kIn T.init
  obtain ⟨hp, g, dr, tk, os⟩ := s1
  have hn : H1 (hp.objs.size + 1) = none := I1.hok.fresh (Nat.le_succ _)
  have kk : ∀ b o, hp.get? b = some o → ((hp.push (PySem.W.kdv_tup [u])).push (PySem.HandSPX.excO C hp.objs.size)).get? b = some o := fun b o z => Heap.get?_push_of_some _ (Heap.get?_push_of_some _ z)
  have hget : ((hp.push (PySem.W.kdv_tup [u])).push (PySem.HandSPX.excO C hp.objs.size)).get? (hp.objs.size + 1) = some (PySem.HandSPX.excO C hp.objs.size) := by heap_get
  have I2 := I1.laid (t' := tk) (a := hp.objs.size + 1) (o := exo (hp.objs.size + 1) C none) kk (Nat.le_succ _) (exo_ok hget)
  have r2 : Vals [V.ref (hp.objs.size + 1), v] [Value.ref (hp.objs.size + 1), u] := .cons rfl (.cons rv .nil)
  generalize ea : hp.objs.size + 1 = a at hn hget I2 r2
  have hsp : spInit1 C f [.ref a, v] (upd H1 a (exo a C none)) (fun v' H2 => v' = .non ∧ ∃ dx, H1 dx = none ∧ dx ≠ a ∧ H2 = upd (upd (upd H1 a (exo a C none)) dx (exd dx [(f, v)])) a (exo a C (some dx))) E0 :=
    ⟨a, v, rfl, upd_same, fun dx hd hda => ⟨rfl, dx, by rw [upd_ne hda] at hd; exact hd, hda, rfl⟩⟩
  have hl : ([Value.ref a, u] ++ []).length = ps.length := by
    have z := F1.len _ _ _ _ hsp
    rw [← z]
    rfl
  have hrun := F1.run _ X.stack _ _ ⟨[Value.ref a, u], []⟩ [Value.ref a, u] _ _ E0 (hr.make C [u] []) (I2.env0.make C [u] []) (hb _ [Value.ref a, u] I2.kIn hl) r2 hsp
  subst ea
  refine wpAny_call (PySem.HandSPX.call_own FB hT hC (PySem.W.looks_findIn I1.kIn T.iC) (fun self => PySem.W.bind_fn I1.kIn self T.tI) (by show 1 ≤ sizeLine; decide) (codeAny_mono hrun fun r s' hq => ?_))
  cases r with
  | error er => exact hq.elim
  | ok fl =>
    cases fl with
    | ret u' =>
      obtain ⟨v', H2, os2, bare2, un2, hok2, rv', rfl, dx, hdx, hda, rfl⟩ := hq
      obtain ⟨h2, g2, d2, t2, os'⟩ := s'
      have hq1 := q1 dx hdx
      rw [← let_go (o1 := exo (hp.objs.size + 1) C none) (o2 := exd dx [(f, v)]) (o3 := exo (hp.objs.size + 1) C (some dx)) hn hda] at hq1
      exact ⟨rv', mk_end (raises_own T.exC T.tyC) I1 (Nat.le_succ _) kk un2 hok2 os2 bare2 upd_same (by rw [upd_ne hda]; exact upd_same) hdx hq1⟩
    | next => exact False.elim hq
    | brk => exact False.elim hq
    | cont => exact False.elim hq
end
end V0
namespace V0
open PySem PySem.Spec PyProof.Rows L2
/-! ### the law's call, where it is known that no repr is under way -/
section
variable {P : Program} {w : World} {K : PySem.W.Frag} {mg mb : Str → Option Value}
/-- a body that is right at one place is right when the def is called there -/
theorem runs_at {base : Heap} {k : Nat} {f : Addr} {fd : FuncData} {x qual : Str} {st : Stmt} {N ps : List Str} {A : Around} {outer : List Env} {s : Shared} {H : Hp} {args : Args} {us : List Value} {vs : List V} {Q : VK}
    (F : Fun K x qual st f fd) (S : FnScope N ps (defScope st)) (hr : Room (k + 1) A) (e0 : Env0 P w K mg base A outer s H) (hb : BindsTo s fd args (ps.zip us)) (r : Vals vs us) (hl : vs.length = ps.length)
    (body : ∀ cdv : Value, Room k (A.deeper (envOfC qual (defScope st) s.heap.objs.size f cdv)) → ∃ t, PSs (cxOf CX0 P w K mg base N qual (defScope st) f cdv A outer s H E0).nox (defBody st) t ∧ t { nx := fun _ H' => Q .non H', rt := Q } (L2.start N vs) H) :
    codeAny (model P w) A (.call (.ref f) args) (CR CX0 outer P w H s Q E0) s := by
  obtain ⟨oc, od, kV, doc, pm, an, cdv, ct, osl, rfl, lk, hcd⟩ := F.ex
  have inBase : ∀ b o, base.get? b = some o → s.heap.get? b = some o := fun b o z => (e0.bs b o z).1
  have hK : K.In s.heap := e0.mod.kin.keeps inBase
  refine codeAny_call_function hr.depth (hK _ _ lk) rfl S.co S.gen rfl (PySem.W.codeRec_of hK hcd) (hb _ _ _ _ ?_)
  refine wpAny_newFunctionEnv_cells S.kind (fun ⟨n, v⟩ hy => ?_) fun env he s1 C => ?_
  · rcases S.par n (List.of_mem_zip hy).1 with q | q
    · exact .inl q
    · exact .inr ⟨q, PySem.W.cellsFrom_some _ _ _ (.inl q)⟩
  subst he
  refine ⟨(e0.mod.nolimit.keeps inBase).keeps C.toInCall.keep, codeAny_func ?_⟩
  obtain ⟨t, ht, hq⟩ := body cdv (hr.deeper _)
  have I := inv_start (CX := CX0) (P := P) (w := w) (K := K) (mg := mg) (E := E0) (N := N) S hr.hd e0 hl r C
  refine wpAny_mono (ht.nox.run [] s1 _ H _ I hq) (fun fl s' hs => ?_) fun e s' hs => hs
  cases fl with
  | ret u => exact let ⟨v, _, H', J, rv, q⟩ := hs; ⟨v, H', J.os, J.bare, J.base, J.hok, rv, q⟩
  | next => exact let ⟨_, H', J, q⟩ := hs; ⟨.non, H', J.os, J.bare, J.base, J.hok, rfl, q⟩
  | brk => exact let ⟨_, _, _, q⟩ := hs; q.elim
  | cont => exact let ⟨_, _, _, q⟩ := hs; q.elim
/-- the law called on its script, from the heap behind the top -/
theorem law_at {k : Nat} {fa a : Addr} {fd : FuncData} {x : Str} {st : Stmt} {N : List Str} {s0 : Shared} {vs : List Value} {ns : List Int} (hK : K.In s0.heap) (hns : s0.heap.Ns mainGlobals mg) (hbl : s0.heap.Ns builtinsNs mb)
    (hbb : ∀ y : Str, y ≠ "__name__" → mb y = bootBuiltins y) (hlim : s0.heap.NoLimit) (hg : s0.gens = #[]) (ha : s0.heap.get? a = some { cls := .type "list", data := .seq vs.toArray }) (hi : IntsAre vs ns) (hl : ns.length ≤ sizeLine)
    (hr : Room (k + 1) callerA) (F : Fun K "law" "law" st fa fd) (S : FnScope N [x] (defScope st)) (hbind : ∀ (s : Shared) (u : Value), BindsTo s fd ⟨[u], []⟩ [(x, u)])
    (body : ∀ (base : Heap) (H : Hp) (cdv : Value), K.In base → base.Ns mainGlobals mg → SqL K H a (ns.map V.int) → Room k (callerA.deeper (envOfC "law" (defScope st) s0.heap.objs.size fa cdv)) →
      ∃ t, PSs (cxOf CX0 P w K mg base N "law" (defScope st) fa cdv callerA [] s0 H E0).nox (defBody st) t ∧ t { nx := fun _ _ => V.non = .bl true, rt := fun v _ => v = .bl true } (L2.start N [.ref a]) H) :
    codeAny (model P w) callerA (.call (.ref fa) ⟨[.ref a], []⟩) (fun r s' => r = .ok (.ret (.bool true)) ∧ OldK s0.heap s'.heap ∧ s'.os = s0.os ∧ AllBare s'.gens) s0 := by
  have rv := vals_ints hi
  have hlen := hi.length
  -- the abstract heap that tracks the script, or nothing
  obtain ⟨H, hO, hS, hok, hA, hKA⟩ : ∃ H : Hp, Only H ∧ SqL K H a (ns.map V.int) ∧ HOk P w H s0.heap ∧ (∀ b, H b ≠ none → b = a) ∧ (H a ≠ none → K.lookup a = none) := by
    cases hk : K.lookup a with
    | some o =>
      have e := hK a o hk
      rw [ha] at e
      cases e
      exact ⟨fun _ => none, fun _ => .inl rfl, .inr ⟨_, vs.toArray, _, hk, rfl, rfl, rfl, by rw [List.size_toArray, hlen]; exact hl, by simpa using rv⟩, (fun b u z => by have z' : (none : Option HO) = some u := z; cases z'), (fun b z => absurd rfl z), fun z => absurd rfl z⟩
    | none =>
      have at1 : ∀ {b : Addr} {u : HO}, (if b = a then some (HO.frz { cls := .type "list", data := .seq vs.toArray } (.lst (ns.map V.int))) else none) = some u → b = a ∧ u = HO.frz { cls := .type "list", data := .seq vs.toArray } (.lst (ns.map V.int)) := fun {b u} z => by
        by_cases hb : b = a
        · rw [if_pos hb] at z
          exact ⟨hb, (Option.some.inj z).symm⟩
        · rw [if_neg hb] at z
          cases z
      refine ⟨fun b => if b = a then some (.frz { cls := .type "list", data := .seq vs.toArray } (.lst (ns.map V.int))) else none, fun b => ?_, .inl (.inr ⟨{ cls := .type "list", data := .seq vs.toArray }, if_pos rfl⟩), fun b u z => ?_, fun b z => ?_, fun _ => rfl⟩
      · by_cases hb : b = a
        · exact .inr ⟨_, _, if_pos hb⟩
        · exact .inl (if_neg hb)
      · obtain ⟨rfl, rfl⟩ := at1 z
        exact ⟨ha, by rw [List.length_map]; exact hl, vs, _, rv, ha⟩
      · by_cases hb : b = a
        · exact hb
        · exact absurd (if_neg hb) z
  have inB : ∀ {b : Addr} {o : Obj}, s0.heap.get? b = some o → H b = none → (hidT s0.heap H).get? b = some o := fun e n => hidT_get e n
  have noD : ∀ {b : Addr} {m : Str → Option Value}, s0.heap.Ns b m → (hidT s0.heap H).Ns b m := fun {b m} ⟨o, es, ep, e, d, r⟩ => by
    refine ⟨o, es, ep, inB e ?_, d, r⟩
    cases q : H b with
    | none => rfl
    | some u =>
      obtain rfl := hA b (by rw [q]; simp)
      rw [ha] at e
      cases e
      cases (d : Data.seq vs.toArray _ = Data.dict es ep)
  have kB : K.In (hidT s0.heap H) := fun b o e => inB (hK b o e) (by
    cases q : H b with
    | none => rfl
    | some u =>
      obtain rfl := hA b (by rw [q]; simp)
      rw [hKA (by rw [q]; simp)] at e
      cases e)
  have hM : Mod K mg (hidT s0.heap H) := ⟨kB, noD hns, ⟨mb, noD hbl, hbb⟩, let ⟨mc, h1, h2⟩ := hlim; ⟨mc, noD h1, h2⟩⟩
  have e0 : Env0 P w K mg (hidT s0.heap H) callerA [] s0 H := ⟨rfl, hM, fun b o e => of_hidT e, Nat.le_of_eq (hidT_size _ _), trivial, fun b hb => absurd (show b ∈ ([] : List Addr) from hb) (by simp), hok, .of_eq hg⟩
  refine codeAny_mono (runs_at (Q := fun v _ => v = .bl true) (us := [Value.ref a]) (vs := [V.ref a]) F S hr e0 (hbind s0 (.ref a)) (.cons rfl .nil) rfl fun cdv hr' => body _ H cdv kB (noD hns) hS hr') fun r s' h => ?_
  cases r with
  | error e => exact h.elim
  | ok fl =>
    cases fl with
    | ret u =>
      obtain ⟨v, H', os, bare, un, hok', r', rfl⟩ := h
      obtain rfl : u = Value.bool true := r'
      refine ⟨rfl, OldK.of_keep fun b o e => ?_, os, bare⟩
      cases q : H b with
      | none => exact un.keep b o e q (fun z => absurd (show b ∈ ([] : List Addr) from z) (by simp)) (by simp)
      | some u =>
        rcases hO b with z | ⟨ob, xs, z⟩
        · rw [q] at z
          cases z
        · obtain ⟨e1, _⟩ := hok b _ z
          obtain ⟨e2, _⟩ := hok' b _ (un.frzs b ob _ z)
          rw [e] at e1
          cases e1
          exact e2
    | next => exact h.elim
    | brk => exact h.elim
    | cont => exact h.elim
end
end V0
namespace V0
open PySem PySem.Spec
/-! ### an error of one's own whose built-in base makes its objects by its own base's __new__ (KeyError by LookupError's) -/
def keB : List Value := ["KeyError", "LookupError", "Exception", "BaseException", "object"].map Value.type
theorem ke_mro : mroOf (.type "KeyError") = pure keB := by
  rw [mroOf_type]
  kernel_rfl
theorem ke_store : StoreFacts "KeyError" keB "object.__setattr__" "object" := by
  constructor
  case mro => exact ke_mro
  case slot =>
    refine .of (owner := "object") (n := "__setattr__") ?_ ?_ ?_ ?_ ?_ ?_
    · rw [typeLookup_type, builtinLookup_eq_fast]; kernel_rfl
    · decide +kernel
    · decide +kernel
    · decide +kernel
    · first | exact .inl (by decide +kernel) | exact .inr (by decide +kernel)
    · rw [isSubtype_type]; kernel_rfl
  case entry => exact PySem.F.store_IndexError.entry
  case args => intro a b c; unfold argsOk; kernel_rfl
  case passes => intro self; kernel_rfl
  all_goals decide +kernel
/-- of the tail of a class's line: the base is in it, and no error of names or attributes -/
structure Tl (B : String) (bm : List Value) : Prop where
  b : bm.contains (.type B) = true
  a : bm.contains (.type "AttributeError") = false
  n : bm.contains (.type "NameError") = false
theorem Tl.at {B : String} {bm : List Value} {C : Addr} (t : Tl B bm) :
    (Value.ref C :: bm).contains (.type B) = true ∧ (Value.ref C :: bm).contains (.type "AttributeError") = false ∧ (Value.ref C :: bm).contains (.type "NameError") = false ∧ (Value.ref C :: bm).contains (.ref C) = true := by
  refine ⟨?_, ?_, ?_, by simp⟩
  · rw [List.contains_cons, t.b, Bool.or_true]
  · rw [List.contains_cons, t.a]
    rfl
  · rw [List.contains_cons, t.n]
    rfl
section
variable {prog : Program} {w : World} {A : Around} {E : Value → Shared → Prop} {R : Result → Shared → Prop} {h : Heap} {g : Array GenState} {d : Drawn} {t : Nat} {os : OsState}
variable {nm q : Str} {C N : Addr} {bs bm bmB : List Value} {hdct : Bool} {sn : List Str} {sub : List Value} {ab : Bool} {col : Option Bool} {dd : Option Addr} {k0 k1 k2 k3 k5 : Option Value} {B newId initId : String}
theorem tl_check (F : ExcBaseFacts B newId initId bmB) (T : Tl B bm) {us : List Value} {Q : Unit → Shared → Prop} (hC : h.get? C = some (excClassObj nm q C N bs bm hdct sn sub ab col dd k0 k1 k2 k3 k5 newId)) (hq : Q () ⟨h, g, d, t, os⟩) :
    wpAny (model prog w) A (checkBuiltinCall newId ⟨.ref C :: us, []⟩) Q E ⟨h, g, d, t, os⟩ := by
  obtain ⟨tb, -, -, -⟩ := T.at (C := C)
  have star := F.noStar
  simp only [checkBuiltinCall, F.newKind, F.newSplit, F.newRow]
  repeat (first
    | refine wpAny_loadPart_at hC ?_
    | (refine wpAny_isSubtype_exc hC ?_; rw [tb])
    | refine wpAny_staticBase_exc hC ?_
    | refine wpAny_madeBy_exc hC ?_
    | simp only [bne_self_eq_false, Bool.false_eq_true, if_false]
    | wp_step)
  exact hq
theorem tl_new (F : ExcBaseFacts B newId initId bmB) (T : Tl B bm) {us : List Value} (hC : h.get? C = some (excClassObj nm q C N bs bm hdct sn sub ab col dd k0 k1 k2 k3 k5 newId)) (fits : us.length ≤ sizeLine)
    (hq : R (.ok (.ret (.ref (h.objs.size + 1)))) ⟨(h.push (PySem.W.kdv_tup us)).push (PySem.HandSPX.excO C h.objs.size), g, d, t, os⟩) :
    codeAny (model prog w) A (.builtin newId ⟨.ref C :: us, []⟩) R ⟨h, g, d, t, os⟩ := by
  obtain ⟨tb, ta, tn, -⟩ := T.at (C := C)
  have ends := F.ends
  refine codeAny_builtinAt F.entry ?_
  unfold Builtin.«BaseException.__new__»
  refine wpAt_bind ?_
  show wpAt _ _ _ (stack >>= _) _ _ _
  refine wpAt_bind (wpAt_stack fun p below => wpAt_of_wpAny ?_)
  wp_walk
  refine wpAt_of_wpAny ?_
  rw [F.owner]
  repeat (first
    | with_reducible refine wpAny_madeHere_exc F.canon hC ?_
    | with_reducible refine wpAny_loadPart_at hC ?_
    | (with_reducible refine wpAny_isSubtype_exc hC ?_; first | rw [tb] | rw [ta] | rw [tn])
    | wp_step)
  show R _ _
  rw [Heap.size_push]
  exact hq
theorem tl_type (F : ExcBaseFacts B newId initId bmB) (T : Tl B bm) {us : List Value} {fI : Addr} {Q : Fin → Shared → Prop} (hC : h.get? C = some (excClassObj nm q C N bs bm hdct sn sub ab col dd k0 k1 k2 k3 k5 newId))
    (hi : W.Looks (model prog w) h (typeLookup (.ref C) "__init__") (some (.ref fI))) (hb : ∀ self, W.Looks (model prog w) h (bindSpecial (.ref fI) self) (.ref fI, [self])) (fits : us.length ≤ sizeLine)
    (hq : codeAny (model prog w) A (.call (.ref fI) ⟨.ref (h.objs.size + 1) :: us, []⟩) (fun r s' => match r with | .ok (.ret v) => v = .none ∧ Q (.done (.ret (.ref (h.objs.size + 1)))) s' | .ok _ => False | .error e => E e s')
      ⟨(h.push (PySem.W.kdv_tup us)).push (PySem.HandSPX.excO C h.objs.size), g, d, t, os⟩) : wpAny (model prog w) A (Builtin.«type.__call__» ⟨.ref C :: us, []⟩) Q E ⟨h, g, d, t, os⟩ := by
  have k : ∀ b o, h.get? b = some o → ((h.push (PySem.W.kdv_tup us)).push (PySem.HandSPX.excO C h.objs.size)).get? b = some o := fun b o e => Heap.get?_push_of_some _ (Heap.get?_push_of_some _ e)
  have hnew : ((h.push (PySem.W.kdv_tup us)).push (PySem.HandSPX.excO C h.objs.size)).get? (h.objs.size + 1) = some (PySem.HandSPX.excO C h.objs.size) := by heap_get
  obtain ⟨-, -, -, tc⟩ := T.at (C := C)
  have hC1 := k _ _ hC
  repeat (first | with_reducible refine wpAny_loadPart_at hC ?_ | with_reducible refine wpAny_madeBy_exc hC ?_ | wp_step)
  refine codeAny_call_builtin_code (Code.quiet_builtin _ F.quiet) (tl_check F T hC (tl_new F T hC fits ?_))
  show wpAny _ _ _ _ _ _
  unfold isInstance
  repeat (first | with_reducible refine wpAny_loadPart_at hnew ?_ | (with_reducible refine wpAny_isSubtype_exc hC1 ?_; rw [tc]) | wp_step)
  show wpAny _ _ (typeLookup (.ref C) _) _ _ _
  refine (hi.keeps k).at (wpAny_holding (wpAny_bind (((hb (.ref (h.objs.size + 1))).keeps k).at ?_)))
  refine wpAny_bind (wpAny_call (codeAny_mono hq fun r s' z => ?_))
  rcases r with e | (v | _ | _ | _) <;> first | exact z | exact z.elim | skip
  obtain ⟨rfl, z⟩ := z
  first
    | exact wpAny_pure (wpAny_pure z)
    | (wp_walk; exact z)
/-- the class is called, its own __init__ stands at fI -/
theorem tl_call (F : ExcBaseFacts B newId initId bmB) (T : Tl B bm) {us : List Value} {fI : Addr} (hC : h.get? C = some (excClassObj nm q C N bs bm hdct sn sub ab col dd k0 k1 k2 k3 k5 newId))
    (hi : W.Looks (model prog w) h (typeLookup (.ref C) "__init__") (some (.ref fI))) (hb : ∀ self, W.Looks (model prog w) h (bindSpecial (.ref fI) self) (.ref fI, [self])) (fits : us.length ≤ sizeLine)
    (hq : codeAny (model prog w) (A.under (.builtin "type.__call__" ⟨.ref C :: us, []⟩)) (.call (.ref fI) ⟨.ref (h.objs.size + 1) :: us, []⟩) (W.InitBack (h.objs.size + 1) R) ⟨(h.push (PySem.W.kdv_tup us)).push (PySem.HandSPX.excO C h.objs.size), g, d, t, os⟩) :
    codeAny (model prog w) A (.call (.ref C) ⟨us, []⟩) R ⟨h, g, d, t, os⟩ := by
  have e1 := tc_lookup
  have e2 := tc_bind (.ref C)
  have ty : (⟨h, g, d, t, os⟩ : Shared).TypeIs (.ref C) "type" := ⟨_, hC, rfl⟩
  refine codeAny_of_tree ?_
  show wpAny _ _ (callAny (.ref C) _) _ _ _
  repeat (any_goals (first | assumption | with_reducible refine wpAny_loadPart_at hC ?_ | wp_step))
  refine ⟨rfl, codeAny_call_builtin_at (Code.quiet_builtin _ (by decide +kernel)) entry_typeCall (wpAny_check_type_call_sub hC (tl_type F T hC hi hb fits ?_))⟩
  refine codeAny_mono hq fun r s' z => ?_
  rcases r with e | (v | _ | _ | _) <;> exact z
end
end V0
namespace V0
open PySem PySem.Spec PyProof.Rows L2
/-! ### calls where no repr is under way -/
structure FnG (P : Program) (w : World) (K : PySem.W.Frag) (mg : Str → Option Value) (base : Heap) (k : Nat) (f : Addr) (fd : FuncData) (ps : List Str) (sp : Sp) : Prop where
  len : ∀ vs H Q, sp vs H Q E0 → vs.length = ps.length
  run : ∀ (A : Around) (outer : List Env) (s : Shared) (H : Hp) (args : Args) (us : List Value) (vs : List V) (Q : VK), A.guards = some [] → Room k A → Env0 P w K mg base A outer s H → BindsTo s fd args (ps.zip us) → Vals vs us → sp vs H Q E0 →
    codeAny (model P w) A (.call (.ref f) args) (CR CX0 outer P w H s Q E0) s
section
variable {P : Program} {w : World} {K : PySem.W.Frag} {mg : Str → Option Value} {base : Heap} {k : Nat} {f : Addr} {fd : FuncData} {ps : List Str} {sp : Sp}
theorem FnOk.g (F : FnOk P w K mg base CX0 k f fd ps sp) : FnG P w K mg base k f fd ps sp := ⟨fun vs H Q h => F.len vs H Q E0 h, fun A outer s H args us vs Q _ hr e0 hb r h => F.run A outer s H args us vs Q E0 hr e0 hb r h⟩
theorem FnG.mono {j : Nat} (F : FnG P w K mg base j f fd ps sp) (h : j ≤ k) : FnG P w K mg base k f fd ps sp := ⟨F.len, fun A outer s H args us vs Q g hr => F.run A outer s H args us vs Q g (hr.mono h)⟩
/-- a def whose body is right wherever no repr is under way -/
theorem g_of {x qual : Str} {st : Stmt} {N : List Str} (F : Fun K x qual st f fd) (S : FnScope N ps (defScope st)) (hl : ∀ vs H Q, sp vs H Q E0 → vs.length = ps.length)
    (body : ∀ (cdv : Value) (A : Around) (outer : List Env) (s : Shared) (H : Hp) (vs : List V) (Q : VK), A.guards = some [] → Room k (A.deeper (envOfC qual (defScope st) s.heap.objs.size f cdv)) → sp vs H Q E0 →
      ∃ t, PSs (cxOf CX0 P w K mg base N qual (defScope st) f cdv A outer s H E0).nox (defBody st) t ∧ t { nx := fun _ H' => Q .non H', rt := Q } (L2.start N vs) H) : FnG P w K mg base (k + 1) f fd ps sp :=
  ⟨hl, fun A outer s H args us vs Q g hr e0 hb r h => runs_at F S hr e0 hb r (hl vs H Q h) fun cdv hr' => body cdv A outer s H vs Q g hr' h⟩
end
section
variable {X : Cx} {k : Nat} {f : Addr} {fd : FuncData} {ps : List Str} {sp : Sp} {x : Str} {p pos : Pos} {e : Expr} {es : List Expr} {t : TA} {pins : List (Addr × Obj)} {σ : L2.St} {H : Hp} {s : Shared}
theorem pe_callG (F : FnG X.prog X.w X.K X.mg X.base k f fd ps sp) (g : X.A.guards = some []) (hr : Room k X.A) (hg : Gl X x) (hm : X.mg x = some (.ref f)) (hk : PySem.W.keepIn X.K (.ref f) = true) (hb : Binds X.K fd ps []) (ha : PA X (e :: es) t)
    (hdb : (x == ("__debug__" : Str)) = false := by decide) (he : starEach (e :: es) X.env = (false, eval e X.env) :: starEach es X.env := by rfl) (hpl : (backTo pos (starEach es X.env)).any (·.1) = false := by rfl) :
    PE X (.Call (.Name x p) (e :: es) [] pos) (tCall sp [] E0 t) := by
  refine ⟨fun pins s σ H Q I h => ?_⟩
  refine wpAny_Call_Name_kw (ld_glob I hg hm ?_ hdb)
  refine PySem.W.callWith_K (h₀ := X.base) I.ok.mod.kin hk (thn (ha.run pos pins s σ H _ I h) fun us s1 ⟨vs, H1, I1, r, q⟩ => ⟨I1.kIn, ?_⟩) he hpl
  have q' : sp (vs ++ []) H1 Q E0 := q
  rw [List.append_nil] at q'
  have hl : (us ++ []).length = ps.length := by rw [List.append_nil, ← r.length]; exact F.len _ _ _ q'
  have hbd := hb s1 us I1.kIn hl
  rw [List.append_nil] at hbd
  refine wpAny_call (codeAny_mono (F.run X.A X.stack s1 H1 ⟨us, []⟩ us vs Q g hr I1.env0 hbd r q') fun r s' hq => ?_)
  cases r with
  | error e => exact False.elim hq
  | ok fl =>
    cases fl with
    | ret u => exact I1.after hq
    | next => exact False.elim hq
    | brk => exact False.elim hq
    | cont => exact False.elim hq
end
/-! ### errors as values -/
/-- an error of the class at C, not raised, its fields fs -/
def ErrAt (H : Hp) (a C : Addr) (fs : List (Str × V)) : Prop := (fs = [] ∧ H a = some (ExO (.ref C) a)) ∨ ∃ dx, H a = some (exo a C (some dx)) ∧ H dx = some (exd dx fs)
theorem ErrAt.same {H H' : Hp} {a C : Addr} {fs : List (Str × V)} (s : Same H H') (h : ErrAt H a C fs) : ErrAt H' a C fs := by
  rcases h with ⟨e, h⟩ | ⟨dx, h, d⟩
  · exact .inl ⟨e, s _ _ h⟩
  · exact .inr ⟨dx, s _ _ h, s _ _ d⟩
section
variable {X : Cx} {pins : List (Addr × Obj)} {σ : L2.St} {H : Hp} {s : Shared} {a C : Addr} {fs : List (Str × V)}
theorem ErrAt.inst (I : Inv X pins σ H s) (h : ErrAt H a C fs) : ∃ (ox : Obj) (od : Option Obj), PySem.W.InstAt s.heap a ox C od ∧ ∀ n v, fs.lookup n = some v → ∃ o u, od = some o ∧ PySem.W.lookIn n o = some (some u) ∧ RelV v u := by
  rcases h with ⟨rfl, h⟩ | ⟨dx, h, d⟩
  · have z : ObjOk X.prog X.w H s.heap a (ExO (.ref C) a) := I.hok a _ h
    obtain ⟨⟨oe, vs, e, zc, dd, _⟩, _⟩ := z
    refine ⟨oe, none, ⟨e, zc.1, by unfold PySem.W.notCls; rw [dd] <;> rfl, by rw [zc.2]; trivial⟩, fun n v q => ?_⟩
    cases q
  · obtain ⟨t1, e⟩ := exo_at I.hok h
    obtain ⟨mA, hns, hr⟩ := exd_at I.hok d
    obtain ⟨od, ho, hl⟩ := lookIn_ns hns
    refine ⟨_, some od, ⟨e, rfl, rfl, ho⟩, fun n v q => ?_⟩
    obtain ⟨u, hu, ru⟩ := RelO.some_of (v := v) (o := mA n) (by rw [← q]; exact hr n)
    exact ⟨od, u, rfl, by rw [hl, hu], ru⟩
/-- e.n of such an error -/
def tEf (K : PySem.W.Frag) (n : Str) (te : TE) : TE := fun σ H Q => te σ H fun x H1 => ∃ (a C : Addr) (fs : List (Str × V)) (v : V), x = .ref a ∧ ErrAt H1 a C fs ∧ XfC K C ∧ PySem.W.findIn K (.ref C) n = some none ∧ fs.lookup n = some v ∧ Q v H1
theorem pe_ef {e : Expr} {te : TE} {pos : Pos} {n : Str} (he : PE X e te) (hb : attributeBase e n X.env (eval e X.env) = eval e X.env := by rfl) : PE X (.Attribute e n pos) (tEf X.K n te) := by
  refine ⟨fun pins s σ H Q I h => ?_⟩
  refine attr_of hb (thn (he.run pins s σ H _ I h) fun u s1 hh => ?_)
  obtain ⟨x, H1, I1, rx, a, C, fs, v, rfl, ea, T, hno, l, q⟩ := hh
  obtain rfl : u = Value.ref a := rx
  obtain ⟨ox, od, J, k⟩ := ea.inst I1
  obtain ⟨o, u, rfl, lk, ru⟩ := k n v l
  exact HandSPX.exc_get I1.kIn J T.ga T.gg T.exC (PySem.W.findObj_own T.hdC hno rfl lk) (handed_of ru) ⟨v, H1, I1.tok _, ru, q⟩
/-- isinstance(e, c) -/
def rIsX (K : PySem.W.Frag) : List V → Hp → VK → Prop := fun xs H Q => ∃ (a C : Addr) (fs : List (Str × V)) (c : V) (cv : Value) (b : Bool), xs = [.ref a, c] ∧ ErrAt H a C fs ∧ ExcC K C ∧ ClsV c cv ∧ PySem.W.kitOne K (.ref C) cv = some b ∧ Q (.bl b) H
theorem call_isX : CallR X (.builtin "isinstance") (rIsX X.K) := by
  intro pins s σ H xs us Q I r h
  obtain ⟨a, C, fs, c, cv, b, rfl, ea, T, k, e, q⟩ := h
  obtain ⟨u1, u2, rfl, r1, r2⟩ := vals2 r
  obtain rfl : u1 = Value.ref a := r1
  have e2 := k.eq r2
  subst e2
  obtain ⟨ox, od, J, _⟩ := ea.inst I
  have hcl : (PySem.W.clsIn X.K C).isSome = true := by
    obtain ⟨cd, hc, _⟩ := PySem.W.any_some T.hd
    rw [hc]
    rfl
  exact PySem.W.kia_one (PySem.W.kitx_exc (ox := ox) (od := od) hcl T.hg T.hk T.hs T.ha T.hn T.ht T.hm) I.kIn J e (fun z => nomatch z) fun tk => ⟨.bl b, H, I.tok tk, rfl, q⟩
/-- str(e) by the class's own __str__ -/
def rStrX (K : PySem.W.Frag) (f : Addr) (sp : Sp) : List V → Hp → VK → Prop := fun xs H Q => ∃ (a C : Addr) (fs : List (Str × V)), xs = [.ref a] ∧ ErrAt H a C fs ∧ PySem.W.findIn K (.ref C) "__str__" = some (some (.ref f)) ∧ sp [.ref a] H (fun v H' => (∃ z, v = .str z) ∧ Q v H') E0
theorem call_strX {k : Nat} {f : Addr} {fd : FuncData} {ps : List Str} {sp : Sp} (F : FnG X.prog X.w X.K X.mg X.base k f fd ps sp) (g : X.A.guards = some []) (hr : Room (k + 2) X.A) (hb : Binds X.K fd ps []) (hf : PySem.W.isFn X.K (.ref f) = true) : CallR X (.type "str") (rStrX X.K f sp) := by
  intro pins s σ H xs us Q I r h
  obtain ⟨a, C, fs, rfl, ea, hs, h⟩ := h
  obtain ⟨u1, rfl, r1⟩ := vals1 r
  obtain rfl : u1 = Value.ref a := r1
  obtain ⟨ox, od, J, _⟩ := ea.inst I
  have r2 : Vals [V.ref a] [Value.ref a] := .cons rfl .nil
  have hl : ([Value.ref a] ++ []).length = ps.length := F.len _ _ _ h
  have un := hr.un
  refine PySem.W.kso_call (by show X.A.units + 1 + 1 < _; omega) I.kIn J hs hf ?_
  refine wpAny_call (codeAny_mono (F.run X.A.in1.in1 X.stack s H ⟨[.ref a], []⟩ [.ref a] [.ref a] _ g hr.in1.in1 I.env0.in1.in1 (hb s [.ref a] I.kIn hl) r2 h) fun r s' hq => ?_)
  cases r with
  | error e => exact False.elim hq
  | ok fl =>
    cases fl with
    | ret u =>
      obtain ⟨v, H', J', rv, ⟨z, rfl⟩, q⟩ := I.after hq
      obtain ⟨t, rfl⟩ := rv
      exact ⟨.str z, H', J', ⟨t, rfl⟩, q⟩
    | next => exact False.elim hq
    | brk => exact False.elim hq
    | cont => exact False.elim hq
end
end V0
namespace V0
open PySem PySem.Spec PyProof.Rows L2
/-! ### errors with an __init__ of their own are made -/
/-- a call of the class at C lays the object and runs the __init__ at fI -/
def Calls1 (K : PySem.W.Frag) (C fI : Addr) : Prop :=
  ∀ (prog : Program) (w : World) (A : Around) (R : Result → Shared → Prop) (h : Heap) (g : Array GenState) (d : Drawn) (t : Nat) (os : OsState) (us : List Value), K.In h → us.length ≤ sizeLine →
    codeAny (model prog w) (A.under (.builtin "type.__call__" ⟨.ref C :: us, []⟩)) (.call (.ref fI) ⟨.ref (h.objs.size + 1) :: us, []⟩) (PySem.W.InitBack (h.objs.size + 1) R) ⟨(h.push (PySem.W.kdv_tup us)).push (PySem.HandSPX.excO C h.objs.size), g, d, t, os⟩ →
    codeAny (model prog w) A (.call (.ref C) ⟨us, []⟩) R ⟨h, g, d, t, os⟩
theorem calls_of {K : PySem.W.Frag} {C fI : Addr} {B newId initId : String} {bmB : List Value} (F : ExcBaseFacts B newId initId bmB) (T : Ex K C fI bmB newId) : Calls1 K C fI := by
  intro prog w A R h g d t os us I hl hq
  obtain ⟨nm, N, qn, bs, bm, hdct, sn, sub, ab, col, dd, k0, k1, k2, k3, k5, hC, hT⟩ := PySem.W.excInit_of I T.init
  exact PySem.HandSPX.call_own F hT hC (PySem.W.looks_findIn I T.iC) (fun self => PySem.W.bind_fn I self T.tI) hl hq
theorem calls_ke {K : PySem.W.Frag} {C fI : Addr} (T : Ex K C fI keB "LookupError.__new__") : Calls1 K C fI := by
  intro prog w A R h g d t os us I hl hq
  obtain ⟨nm, N, qn, bs, bm, hdct, sn, sub, ab, col, dd, k0, k1, k2, k3, k5, hC, hT⟩ := PySem.W.excInit_of I T.init
  have tl : Tl "LookupError" bm := ⟨by rw [hT]; decide +kernel, by rw [hT]; decide +kernel, by rw [hT]; decide +kernel⟩
  exact tl_call PySem.F.excBase_LookupError tl hC (PySem.W.looks_findIn I T.iC) (fun self => PySem.W.bind_fn I self T.tI) hl hq
section
variable {X : Cx} {pins : List (Addr × Obj)} {σ : L2.St} {H : Hp} {s : Shared} {C fI : Addr} {f : Str} {u : Value} {v : V} {E : Value → Shared → Prop} {newId : String} {bmB : List Value} {k : Nat} {fd : FuncData} {ps : List Str}
/-- C(v): the object at a, its dict at d -/
theorem mk1_run (C1 : Calls1 X.K C fI) (F1 : FnOk X.prog X.w X.K X.mg X.base CX0 k fI fd ps (spInit1 C f)) (hr : Room (k + 1) X.A) (hb : Binds X.K fd ps []) (I : Inv X pins σ H s) (r : RelV v u) {Q : Value → Shared → Prop}
    (h : ∀ (a d : Addr) (s' : Shared), H a = none → H d = none → d ≠ a → Inv X pins σ (upd (upd H d (exd d [(f, v)])) a (exo a C (some d))) s' → Q (.ref a) s') : wpAny (model X.prog X.w) X.A (call (.ref C) [u]) Q E s := by
  obtain ⟨hp, g, dr, tk, os⟩ := s
  have hn : H (hp.objs.size + 1) = none := I.hok.fresh (Nat.le_succ _)
  have kk : ∀ b o, hp.get? b = some o → ((hp.push (PySem.W.kdv_tup [u])).push (PySem.HandSPX.excO C hp.objs.size)).get? b = some o := fun b o z => Heap.get?_push_of_some _ (Heap.get?_push_of_some _ z)
  have hget : ((hp.push (PySem.W.kdv_tup [u])).push (PySem.HandSPX.excO C hp.objs.size)).get? (hp.objs.size + 1) = some (PySem.HandSPX.excO C hp.objs.size) := by heap_get
  have I2 := I.laid (t' := tk) (a := hp.objs.size + 1) (o := exo (hp.objs.size + 1) C none) kk (Nat.le_succ _) (exo_ok hget)
  have r2 : Vals [V.ref (hp.objs.size + 1), v] [Value.ref (hp.objs.size + 1), u] := .cons rfl (.cons r .nil)
  refine wpAny_call (C1 X.prog X.w X.A _ hp g dr tk os [u] I.kIn (by show 1 ≤ sizeLine; decide) ?_)
  generalize ea : hp.objs.size + 1 = a at hn hget I2 r2
  have hsp : spInit1 C f [.ref a, v] (upd H a (exo a C none)) (fun v' H2 => v' = .non ∧ ∃ dx, H dx = none ∧ dx ≠ a ∧ H2 = upd (upd (upd H a (exo a C none)) dx (exd dx [(f, v)])) a (exo a C (some dx))) E0 :=
    ⟨a, v, rfl, upd_same, fun dx hd hda => ⟨rfl, dx, by rw [upd_ne hda] at hd; exact hd, hda, rfl⟩⟩
  have hl : ([Value.ref a, u] ++ []).length = ps.length := by
    have z := F1.len _ _ _ _ hsp
    rw [← z]
    rfl
  have hrun := F1.run _ X.stack _ _ ⟨[Value.ref a, u], []⟩ [Value.ref a, u] _ _ E0 (hr.make C [u] []) (I2.env0.make C [u] []) (hb _ [Value.ref a, u] I2.kIn hl) r2 hsp
  refine codeAny_mono hrun fun rr s' hq => ?_
  cases rr with
  | error er => exact hq.elim
  | ok fl =>
    cases fl with
    | ret u' =>
      obtain ⟨v', H2, J, rv', rfl, dx, hdx, hda, rfl⟩ := I2.after hq
      have eH : upd (upd (upd H a (exo a C none)) dx (exd dx [(f, v)])) a (exo a C (some dx)) = upd (upd H dx (exd dx [(f, v)])) a (exo a C (some dx)) := by
        funext b
        by_cases hb' : b = a
        · rw [hb', upd_same, upd_same]
        · rw [upd_ne hb', upd_ne hb']
          by_cases hd' : b = dx
          · rw [hd', upd_same, upd_same]
          · rw [upd_ne hd', upd_ne hd', upd_ne hb']
      rw [eH] at J
      exact ⟨rv', h a dx s' hn hdx hda J⟩
    | next => exact False.elim hq
    | brk => exact False.elim hq
    | cont => exact False.elim hq
/-- C(e) as a value -/
def tNew1 (C : Addr) (f : Str) (ta : TA) : TE := fun σ H Q => ta σ H fun vs H1 => ∃ v, vs = [v] ∧ ∀ a d, H1 a = none → H1 d = none → d ≠ a → Q (.ref a) (upd (upd H1 d (exd d [(f, v)])) a (exo a C (some d)))
theorem pe_new1 {e : Expr} {ta : TA} {x : Str} {p pos : Pos} (C1 : Calls1 X.K C fI) (kC : PySem.W.keepIn X.K (.ref C) = true) (F1 : FnOk X.prog X.w X.K X.mg X.base CX0 k fI fd ps (spInit1 C f)) (hr : Room (k + 1) X.A) (hb : Binds X.K fd ps []) (hg : Gl X x) (hm : X.mg x = some (.ref C)) (ha : PA X [e] ta)
    (hdb : (x == ("__debug__" : Str)) = false := by decide) (hs : starEach [e] X.env = (false, eval e X.env) :: starEach [] X.env := by rfl) (hpl : (backTo pos (starEach [] X.env)).any (·.1) = false := by rfl) :
    PE X (.Call (.Name x p) [e] [] pos) (tNew1 C f ta) := by
  refine ⟨fun pins s σ H Q I h => ?_⟩
  refine wpAny_Call_Name_kw (ld_glob I hg hm ?_ hdb)
  refine PySem.W.callWith_K (h₀ := X.base) I.ok.mod.kin kC (thn (ha.run pos pins s σ H _ I h) fun us s1 ⟨vs, H1, I1, r1, v, ev, q1⟩ => ⟨I1.kIn, ?_⟩) hs hpl
  subst ev
  obtain ⟨u, rfl, rv⟩ := vals1 r1
  exact mk1_run C1 F1 hr hb I1 rv fun a d s' ha hd hda J => ⟨.ref a, _, J, rfl, q1 a d ha hd hda⟩
/-- C(e) where it is raised: the object itself is let go -/
theorem pmk1c {e : Expr} {ta : TA} {x : Str} {p pos : Pos} (C1 : Calls1 X.K C fI) (T : Ex X.K C fI bmB newId) (F1 : FnOk X.prog X.w X.K X.mg X.base CX0 k fI fd ps (spInit1 C f)) (hr : Room (k + 1) X.A) (hb : Binds X.K fd ps []) (hg : Gl X x) (hm : X.mg x = some (.ref C)) (ha : PA X [e] ta)
    (hdb : (x == ("__debug__" : Str)) = false := by decide) (hs : starEach [e] X.env = (false, eval e X.env) :: starEach [] X.env := by rfl) (hpl : (backTo pos (starEach [] X.env)).any (·.1) = false := by rfl) :
    PMk X (.Call (.Name x p) [e] [] pos) (tMk1 C f ta) := by
  intro pins s σ H Q I h
  refine wpAny_Call_Name_kw (ld_glob I hg hm ?_ hdb)
  refine PySem.W.callWith_K (h₀ := X.base) I.ok.mod.kin T.kC (thn (ha.run pos pins s σ H _ I h) fun us s1 ⟨vs, H1, I1, r1, v, ev, q1⟩ => ⟨I1.kIn, ?_⟩) hs hpl
  subst ev
  obtain ⟨u, rfl, rv⟩ := vals1 r1
  show wpAny _ _ (call (.ref C) [u]) _ _ _
  obtain ⟨hp, g, dr, tk, os⟩ := s1
  have hn : H1 (hp.objs.size + 1) = none := I1.hok.fresh (Nat.le_succ _)
  have kk : ∀ b o, hp.get? b = some o → ((hp.push (PySem.W.kdv_tup [u])).push (PySem.HandSPX.excO C hp.objs.size)).get? b = some o := fun b o z => Heap.get?_push_of_some _ (Heap.get?_push_of_some _ z)
  have hget : ((hp.push (PySem.W.kdv_tup [u])).push (PySem.HandSPX.excO C hp.objs.size)).get? (hp.objs.size + 1) = some (PySem.HandSPX.excO C hp.objs.size) := by heap_get
  have I2 := I1.laid (t' := tk) (a := hp.objs.size + 1) (o := exo (hp.objs.size + 1) C none) kk (Nat.le_succ _) (exo_ok hget)
  have r2 : Vals [V.ref (hp.objs.size + 1), v] [Value.ref (hp.objs.size + 1), u] := .cons rfl (.cons rv .nil)
  refine wpAny_call (C1 X.prog X.w X.A _ hp g dr tk os [u] I1.kIn (by show 1 ≤ sizeLine; decide) ?_)
  generalize ea : hp.objs.size + 1 = a at hn hget I2 r2
  have hsp : spInit1 C f [.ref a, v] (upd H1 a (exo a C none)) (fun v' H2 => v' = .non ∧ ∃ dx, H1 dx = none ∧ dx ≠ a ∧ H2 = upd (upd (upd H1 a (exo a C none)) dx (exd dx [(f, v)])) a (exo a C (some dx))) E0 :=
    ⟨a, v, rfl, upd_same, fun dx hd hda => ⟨rfl, dx, by rw [upd_ne hda] at hd; exact hd, hda, rfl⟩⟩
  have hl : ([Value.ref a, u] ++ []).length = ps.length := by
    have z := F1.len _ _ _ _ hsp
    rw [← z]
    rfl
  have hrun := F1.run _ X.stack _ _ ⟨[Value.ref a, u], []⟩ [Value.ref a, u] _ _ E0 (hr.make C [u] []) (I2.env0.make C [u] []) (hb _ [Value.ref a, u] I2.kIn hl) r2 hsp
  subst ea
  refine codeAny_mono hrun fun r s' hq => ?_
  cases r with
  | error er => exact hq.elim
  | ok fl =>
    cases fl with
    | ret u' =>
      obtain ⟨v', H2, os2, bare2, un2, hok2, rv', rfl, dx, hdx, hda, rfl⟩ := hq
      obtain ⟨h2, g2, d2, t2, os'⟩ := s'
      have hq1 := q1 dx hdx
      rw [← let_go (o1 := exo (hp.objs.size + 1) C none) (o2 := exd dx [(f, v)]) (o3 := exo (hp.objs.size + 1) C (some dx)) hn hda] at hq1
      exact ⟨rv', mk_end (raises_own T.exC T.tyC) I1 (Nat.le_succ _) kk un2 hok2 os2 bare2 upd_same (by rw [upd_ne hda]; exact upd_same) hdx hq1⟩
    | next => exact False.elim hq
    | brk => exact False.elim hq
    | cont => exact False.elim hq
end
end V0
namespace V0
open PySem PySem.Spec PyProof.Rows L2
/-! ### the classes of errors -/
abbrev veB : List Value := [.type "ValueError", .type "Exception", .type "BaseException", .type "object"]
abbrev ovB : List Value := [.type "OverflowError", .type "ArithmeticError", .type "Exception", .type "BaseException", .type "object"]
abbrev luB : List Value := [.type "LookupError", .type "Exception", .type "BaseException", .type "object"]
abbrev arB : List Value := [.type "ArithmeticError", .type "Exception", .type "BaseException", .type "object"]
abbrev rtB : List Value := [.type "RuntimeError", .type "Exception", .type "BaseException", .type "object"]
abbrev ixB : List Value := [.type "IndexError", .type "LookupError", .type "Exception", .type "BaseException", .type "object"]
theorem gv_ref {mg : Str → Option Value} {x : Str} {C : Addr} (h : mg x = some (.ref C)) : GV mg x (.ref C) := ⟨_, h, rfl⟩
/-- a class that is only named -/
structure EG (mg : Str → Option Value) (x : Str) (C : Addr) : Prop where
  g : mg x = some (.ref C)
/-- a class without an __init__ of its own -/
structure EP (K : PySem.W.Frag) (mg : Str → Option Value) (x : Str) (C : Addr) : Prop where
  g : mg x = some (.ref C)
  q : PySem.W.excIn K C veB "ValueError.__new__" = true
  kp : PySem.W.keepIn K (.ref C) = true
/-- a class whose __init__ keeps its value as f -/
structure EO (K : PySem.W.Frag) (mg : Str → Option Value) (x q f : Str) (C fI : Addr) (fd : FuncData) (st : Stmt) (bmB : List Value) (newId : String) : Prop where
  g : mg x = some (.ref C)
  ex : Ex K C fI bmB newId
  c1 : Calls1 K C fI
  F : Fun K "__init__" q st fI fd
  b : Binds K fd ["self", f] []
  no : PySem.W.findIn K (.ref C) f = some none
/-- of which classes its objects are -/
def subT (i j : Nat) : Bool := if j < 14 then decide (j = i) else decide (i < 8)
def kinN : Nat → String := fun j => (["ValueError", "LookupError", "IndexError", "KeyError", "ArithmeticError", "OverflowError", "RuntimeError", "TypeError"] : List String).getD j ""
def kinT (i j : Nat) : Bool := (if i < 8 then [0] else if i = 8 then [1, 2] else if i = 9 then [1, 3] else if i = 10 then [4, 5] else if i = 11 then [1] else if i = 12 then [4] else [6]).contains j
def fldN : Nat → Str := fun i => (["index", "value", "name", "limit", "many", "label", "group"] : List Str).getD (i - 7) ""
/-- the fields of an error of lot i -/
def fldL (i : Nat) (v : V) : List (Str × V) := if i < 7 then [] else [(fldN i, v)]
abbrev s_ParseError_init : Stmt := inClass (top 9) 0
abbrev N_ParseError_init : List Str := ["self", "index"]
abbrev P_ParseError_init : List Str := ["self", "index"]
theorem sc_ParseError_init : FnScope N_ParseError_init P_ParseError_init (defScope s_ParseError_init) := ⟨rfl, rfl, rfl, by decide +kernel, rfl, by decide +kernel, by decide +kernel⟩
abbrev s_InvalidNumber_init : Stmt := inClass (top 10) 0
abbrev N_InvalidNumber_init : List Str := ["self", "value"]
abbrev P_InvalidNumber_init : List Str := ["self", "value"]
theorem sc_InvalidNumber_init : FnScope N_InvalidNumber_init P_InvalidNumber_init (defScope s_InvalidNumber_init) := ⟨rfl, rfl, rfl, by decide +kernel, rfl, by decide +kernel, by decide +kernel⟩
abbrev s_UnknownName_init : Stmt := inClass (top 11) 0
abbrev N_UnknownName_init : List Str := ["self", "name"]
abbrev P_UnknownName_init : List Str := ["self", "name"]
theorem sc_UnknownName_init : FnScope N_UnknownName_init P_UnknownName_init (defScope s_UnknownName_init) := ⟨rfl, rfl, rfl, by decide +kernel, rfl, by decide +kernel, by decide +kernel⟩
abbrev s_TooMany_init : Stmt := inClass (top 12) 0
abbrev N_TooMany_init : List Str := ["self", "limit"]
abbrev P_TooMany_init : List Str := ["self", "limit"]
theorem sc_TooMany_init : FnScope N_TooMany_init P_TooMany_init (defScope s_TooMany_init) := ⟨rfl, rfl, rfl, by decide +kernel, rfl, by decide +kernel, by decide +kernel⟩
abbrev s_NothingToUndo_init : Stmt := inClass (top 13) 0
abbrev N_NothingToUndo_init : List Str := ["self", "many"]
abbrev P_NothingToUndo_init : List Str := ["self", "many"]
theorem sc_NothingToUndo_init : FnScope N_NothingToUndo_init P_NothingToUndo_init (defScope s_NothingToUndo_init) := ⟨rfl, rfl, rfl, by decide +kernel, rfl, by decide +kernel, by decide +kernel⟩
abbrev s_Broken_init : Stmt := inClass (top 14) 0
abbrev N_Broken_init : List Str := ["self", "label"]
abbrev P_Broken_init : List Str := ["self", "label"]
theorem sc_Broken_init : FnScope N_Broken_init P_Broken_init (defScope s_Broken_init) := ⟨rfl, rfl, rfl, by decide +kernel, rfl, by decide +kernel, by decide +kernel⟩
abbrev s_Spoiled_init : Stmt := inClass (top 15) 0
abbrev N_Spoiled_init : List Str := ["self", "group"]
abbrev P_Spoiled_init : List Str := ["self", "group"]
theorem sc_Spoiled_init : FnScope N_Spoiled_init P_Spoiled_init (defScope s_Spoiled_init) := ⟨rfl, rfl, rfl, by decide +kernel, rfl, by decide +kernel, by decide +kernel⟩
abbrev s_InvalidNumber_str : Stmt := inClass (top 10) 1
abbrev N_InvalidNumber_str : List Str := ["self"]
abbrev P_InvalidNumber_str : List Str := ["self"]
theorem sc_InvalidNumber_str : FnScope N_InvalidNumber_str P_InvalidNumber_str (defScope s_InvalidNumber_str) := ⟨rfl, rfl, rfl, by decide +kernel, rfl, by decide +kernel, by decide +kernel⟩
abbrev s_UnknownName_str : Stmt := inClass (top 11) 1
abbrev N_UnknownName_str : List Str := ["self"]
abbrev P_UnknownName_str : List Str := ["self"]
theorem sc_UnknownName_str : FnScope N_UnknownName_str P_UnknownName_str (defScope s_UnknownName_str) := ⟨rfl, rfl, rfl, by decide +kernel, rfl, by decide +kernel, by decide +kernel⟩
structure Ers (K : PySem.W.Frag) (mg : Str → Option Value) (c fi : Nat → Addr) (fdi : Nat → FuncData) : Prop where
  InvalidName : EP K mg "InvalidName" (c 0)
  InvalidWeb : EP K mg "InvalidWeb" (c 1)
  InvalidGroup : EP K mg "InvalidGroup" (c 2)
  InvalidCharge : EP K mg "InvalidCharge" (c 3)
  InvalidOrder : EP K mg "InvalidOrder" (c 4)
  InvalidPlan : EP K mg "InvalidPlan" (c 5)
  InvalidOperation : EP K mg "InvalidOperation" (c 6)
  ParseError : EO K mg "ParseError" "ParseError.__init__" "index" (c 7) (fi 7) (fdi 7) s_ParseError_init veB "ValueError.__new__"
  InvalidNumber : EO K mg "InvalidNumber" "InvalidNumber.__init__" "value" (c 8) (fi 8) (fdi 8) s_InvalidNumber_init ixB "IndexError.__new__"
  UnknownName : EO K mg "UnknownName" "UnknownName.__init__" "name" (c 9) (fi 9) (fdi 9) s_UnknownName_init keB "LookupError.__new__"
  TooMany : EO K mg "TooMany" "TooMany.__init__" "limit" (c 10) (fi 10) (fdi 10) s_TooMany_init ovB "OverflowError.__new__"
  NothingToUndo : EO K mg "NothingToUndo" "NothingToUndo.__init__" "many" (c 11) (fi 11) (fdi 11) s_NothingToUndo_init luB "LookupError.__new__"
  Broken : EO K mg "Broken" "Broken.__init__" "label" (c 12) (fi 12) (fdi 12) s_Broken_init arB "ArithmeticError.__new__"
  Spoiled : EO K mg "Spoiled" "Spoiled.__init__" "group" (c 13) (fi 13) (fdi 13) s_Spoiled_init rtB "RuntimeError.__new__"
  BillError : EG mg "BillError" (c 14)
  b_ValueError : mg "ValueError" = none
  b_LookupError : mg "LookupError" = none
  b_IndexError : mg "IndexError" = none
  b_KeyError : mg "KeyError" = none
  b_ArithmeticError : mg "ArithmeticError" = none
  b_OverflowError : mg "OverflowError" = none
  b_RuntimeError : mg "RuntimeError" = none
  b_TypeError : mg "TypeError" = none
  X : ∀ i, i < 14 → ExcC K (c i)
  no : ∀ i, 7 ≤ i → i < 14 → PySem.W.findIn K (.ref (c i)) (fldN i) = some none
  sub : ∀ i j, i < 14 → j < 15 → PySem.W.kitOne K (.ref (c i)) (.ref (c j)) = some (subT i j)
  kin : ∀ i j, i < 14 → j < 8 → PySem.W.kitOne K (.ref (c i)) (.type (kinN j)) = some (kinT i j)
  exm : ∀ i j, i < 14 → j < 15 → PySem.W.exmOne K (.ref (c i)) (.ref (c j)) = some (subT i j)
  s8 : PySem.W.findIn K (.ref (c 8)) "__str__" = some (some (.ref (fi 0)))
  s9 : PySem.W.findIn K (.ref (c 9)) "__str__" = some (some (.ref (fi 1)))
  f8 : Fun K "__str__" "InvalidNumber.__str__" s_InvalidNumber_str (fi 0) (fdi 0)
  f9 : Fun K "__str__" "UnknownName.__str__" s_UnknownName_str (fi 1) (fdi 1)
  b8 : Binds K (fdi 0) ["self"] []
  b9 : Binds K (fdi 1) ["self"] []
  i8 : PySem.W.isFn K (.ref (fi 0)) = true
  i9 : PySem.W.isFn K (.ref (fi 1)) = true
theorem xf_of {K : PySem.W.Frag} {C : Addr} (h : ExcC K C) : XfC K C := ⟨h.hg, h.hk, h.hs, h.hd⟩
/-- repr of any such value, where no other repr is under way -/
def rReprA (K : PySem.W.Frag) : List V → Hp → VK → Prop := fun xs H Q => ∃ (x : V) (d : PyData) (k : Nat), xs = [x] ∧ Dp K H x d ∧ Sm k d ∧ k ≤ 3 ∧ Q (.str d.shown) H
theorem call_reprA {X : Cx} (hg : X.A.guards = some []) (hu : X.A.units + 64 < cLine) : CallR X (.builtin "repr") (rReprA X.K) := by
  intro pins s σ H xs us Q I r h
  obtain ⟨x, d, k, rfl, hr, hs, hk, q⟩ := h
  obtain ⟨u, rfl, rx⟩ := vals1 r
  have lk := hs.size hk
  cases hr with
  | non =>
    cases (show u = Value.none from rx)
    exact PySem.P.repr_of_none ⟨.str "None", H, I.tok _, ⟨_, rfl⟩, q⟩
  | bl b =>
    cases (show u = Value.bool b from rx)
    refine PySem.P.repr_of_bool ⟨.str (if b then "True" else "False"), H, I.tok _, ⟨_, rfl⟩, ?_⟩
    cases b <;> exact q
  | int i =>
    obtain ⟨t, e⟩ := (show ∃ t, u = Value.int i t from rx)
    cases e
    exact PySem.P.repr_of_int (of_decide_eq_true hs.sh) ⟨.str _, H, I.tok _, ⟨_, rfl⟩, q⟩
  | str z =>
    obtain ⟨t, e⟩ := (show ∃ t, u = Value.str z t from rx)
    cases e
    exact PySem.P.repr_of_str ⟨.str _, H, I.tok _, ⟨_, rfl⟩, q⟩ lk
  | lst a b =>
    have hr' := Dp.lst a b
    obtain ⟨as, rd, hn⟩ := (Rp.dp hr').reads I rx
    have hd := hs.dp
    cases rx
    refine repr_of_reads' rd hs.sh hn hg (by omega) (fun _ _ e => e) (fun h' u tk kk => ?_) lk
    exact ⟨.str _, H, I.kept kk, ⟨_, rfl⟩, q⟩
  | tup a b =>
    have hr' := Dp.tup a b
    obtain ⟨as, rd, hn⟩ := (Rp.dp hr').reads I rx
    have hd := hs.dp
    cases rx
    refine repr_of_reads' rd hs.sh hn hg (by omega) (fun _ _ e => e) (fun h' u tk kk => ?_) lk
    exact ⟨.str _, H, I.kept kk, ⟨_, rfl⟩, q⟩
section
variable {P : Program} {w : World} {K : PySem.W.Frag} {mg : Str → Option Value} {base : Heap} {c fi : Nat → Addr} {fdi : Nat → FuncData}
theorem ok_ParseError_init (Y : Ers K mg c fi fdi) : FnOk P w K mg base CX0 1 (fi 7) (fdi 7) ["self", "index"] (spInit1 (c 7) "index") := by
  refine Y.ParseError.F.ok sc_ParseError_init (fun vs H Q E h => ?_) (fun cdv A outer s H vs Q E hr h => ?_)
  · obtain ⟨a, v, rfl, _⟩ := h
    rfl
  · obtain ⟨a, v, rfl, h, k⟩ := h
    refine ⟨_, (pss_one (ps_st1 (pv 0) (pv 1))), ?_⟩
    exact ⟨_, rfl, _, rfl, a, c 7, rfl, Y.ParseError.no, ⟨_, veB, _, Y.ParseError.ex, _, PySem.F.store_ValueError⟩, h, k⟩
theorem ok_InvalidNumber_init (Y : Ers K mg c fi fdi) : FnOk P w K mg base CX0 1 (fi 8) (fdi 8) ["self", "value"] (spInit1 (c 8) "value") := by
  refine Y.InvalidNumber.F.ok sc_InvalidNumber_init (fun vs H Q E h => ?_) (fun cdv A outer s H vs Q E hr h => ?_)
  · obtain ⟨a, v, rfl, _⟩ := h
    rfl
  · obtain ⟨a, v, rfl, h, k⟩ := h
    refine ⟨_, (pss_one (ps_st1 (pv 0) (pv 1))), ?_⟩
    exact ⟨_, rfl, _, rfl, a, c 8, rfl, Y.InvalidNumber.no, ⟨_, ixB, _, Y.InvalidNumber.ex, _, PySem.F.store_IndexError⟩, h, k⟩
theorem ok_UnknownName_init (Y : Ers K mg c fi fdi) : FnOk P w K mg base CX0 1 (fi 9) (fdi 9) ["self", "name"] (spInit1 (c 9) "name") := by
  refine Y.UnknownName.F.ok sc_UnknownName_init (fun vs H Q E h => ?_) (fun cdv A outer s H vs Q E hr h => ?_)
  · obtain ⟨a, v, rfl, _⟩ := h
    rfl
  · obtain ⟨a, v, rfl, h, k⟩ := h
    refine ⟨_, (pss_one (ps_st1 (pv 0) (pv 1))), ?_⟩
    exact ⟨_, rfl, _, rfl, a, c 9, rfl, Y.UnknownName.no, ⟨_, keB, _, Y.UnknownName.ex, _, ke_store⟩, h, k⟩
theorem ok_TooMany_init (Y : Ers K mg c fi fdi) : FnOk P w K mg base CX0 1 (fi 10) (fdi 10) ["self", "limit"] (spInit1 (c 10) "limit") := by
  refine Y.TooMany.F.ok sc_TooMany_init (fun vs H Q E h => ?_) (fun cdv A outer s H vs Q E hr h => ?_)
  · obtain ⟨a, v, rfl, _⟩ := h
    rfl
  · obtain ⟨a, v, rfl, h, k⟩ := h
    refine ⟨_, (pss_one (ps_st1 (pv 0) (pv 1))), ?_⟩
    exact ⟨_, rfl, _, rfl, a, c 10, rfl, Y.TooMany.no, ⟨_, ovB, _, Y.TooMany.ex, _, PySem.F.store_OverflowError⟩, h, k⟩
theorem ok_NothingToUndo_init (Y : Ers K mg c fi fdi) : FnOk P w K mg base CX0 1 (fi 11) (fdi 11) ["self", "many"] (spInit1 (c 11) "many") := by
  refine Y.NothingToUndo.F.ok sc_NothingToUndo_init (fun vs H Q E h => ?_) (fun cdv A outer s H vs Q E hr h => ?_)
  · obtain ⟨a, v, rfl, _⟩ := h
    rfl
  · obtain ⟨a, v, rfl, h, k⟩ := h
    refine ⟨_, (pss_one (ps_st1 (pv 0) (pv 1))), ?_⟩
    exact ⟨_, rfl, _, rfl, a, c 11, rfl, Y.NothingToUndo.no, ⟨_, luB, _, Y.NothingToUndo.ex, _, PySem.F.store_LookupError⟩, h, k⟩
theorem ok_Broken_init (Y : Ers K mg c fi fdi) : FnOk P w K mg base CX0 1 (fi 12) (fdi 12) ["self", "label"] (spInit1 (c 12) "label") := by
  refine Y.Broken.F.ok sc_Broken_init (fun vs H Q E h => ?_) (fun cdv A outer s H vs Q E hr h => ?_)
  · obtain ⟨a, v, rfl, _⟩ := h
    rfl
  · obtain ⟨a, v, rfl, h, k⟩ := h
    refine ⟨_, (pss_one (ps_st1 (pv 0) (pv 1))), ?_⟩
    exact ⟨_, rfl, _, rfl, a, c 12, rfl, Y.Broken.no, ⟨_, arB, _, Y.Broken.ex, _, PySem.F.store_ArithmeticError⟩, h, k⟩
theorem ok_Spoiled_init (Y : Ers K mg c fi fdi) : FnOk P w K mg base CX0 1 (fi 13) (fdi 13) ["self", "group"] (spInit1 (c 13) "group") := by
  refine Y.Spoiled.F.ok sc_Spoiled_init (fun vs H Q E h => ?_) (fun cdv A outer s H vs Q E hr h => ?_)
  · obtain ⟨a, v, rfl, _⟩ := h
    rfl
  · obtain ⟨a, v, rfl, h, k⟩ := h
    refine ⟨_, (pss_one (ps_st1 (pv 0) (pv 1))), ?_⟩
    exact ⟨_, rfl, _, rfl, a, c 13, rfl, Y.Spoiled.no, ⟨_, rtB, _, Y.Spoiled.ex, _, PySem.F.store_RuntimeError⟩, h, k⟩
/-- what str of such an error asks -/
def spStr (K : PySem.W.Frag) (i : Nat) (c : Nat → Addr) : Sp := fun vs H Q _ => ∃ (a : Addr) (v : V) (d : PyData) (k : Nat), vs = [.ref a] ∧ ErrAt H a (c i) (fldL i v) ∧ Dp K H v d ∧ Sm k d ∧ k ≤ 3 ∧ Q (.str d.shown) H
theorem ok_InvalidNumber_str (B : Bl mg) (Y : Ers K mg c fi fdi) : FnG P w K mg base 1 (fi 0) (fdi 0) ["self"] (spStr K 8 c) := by
  refine g_of Y.f8 sc_InvalidNumber_str (fun vs H Q h => ?_) (fun cdv A outer s H vs Q hgd0 hr h => ?_)
  · obtain ⟨a, v, d, k, rfl, _⟩ := h
    rfl
  · obtain ⟨a, v, d, k, rfl, ea, hd, hs, hk, q⟩ := h
    have hgd : (cxOf CX0 P w K mg base N_InvalidNumber_str "InvalidNumber.__str__" (defScope s_InvalidNumber_str) (fi 0) cdv A outer s H E0).nox.A.guards = some [] := hgd0
    refine ⟨_, (pss_one (ps_ret (pe_callB (call_reprA hgd hr.units) (by rfl) B.b_repr (by decide +kernel) (pa_cons (pe_ef (pv 0)) pa_nil)))), ?_⟩
    exact ⟨_, rfl, a, c 8, _, v, rfl, ea, xf_of (Y.X 8 (by decide)), Y.no 8 (by decide) (by decide), rfl, v, d, k, rfl, hd, hs, hk, q⟩
theorem ok_UnknownName_str (B : Bl mg) (Y : Ers K mg c fi fdi) : FnG P w K mg base 1 (fi 1) (fdi 1) ["self"] (spStr K 9 c) := by
  refine g_of Y.f9 sc_UnknownName_str (fun vs H Q h => ?_) (fun cdv A outer s H vs Q hgd0 hr h => ?_)
  · obtain ⟨a, v, d, k, rfl, _⟩ := h
    rfl
  · obtain ⟨a, v, d, k, rfl, ea, hd, hs, hk, q⟩ := h
    have hgd : (cxOf CX0 P w K mg base N_UnknownName_str "UnknownName.__str__" (defScope s_UnknownName_str) (fi 1) cdv A outer s H E0).nox.A.guards = some [] := hgd0
    refine ⟨_, (pss_one (ps_ret (pe_callB (call_reprA hgd hr.units) (by rfl) B.b_repr (by decide +kernel) (pa_cons (pe_ef (pv 0)) pa_nil)))), ?_⟩
    exact ⟨_, rfl, a, c 9, _, v, rfl, ea, xf_of (Y.X 9 (by decide)), Y.no 9 (by decide) (by decide), rfl, v, d, k, rfl, hd, hs, hk, q⟩
end
end V0
namespace V0
open PySem PySem.Spec PyProof.Rows L2
def spMade (c : Nat → Addr) : Sp := fun vs H Q _ => ∃ (i : Nat) (v : V), vs = [.int i, v] ∧ i < 14 ∧ ∀ (a : Addr) (H' : Hp), Same H H' → ErrAt H' a (c i) (fldL i v) → Q (.ref a) H'
section
variable {P : Program} {w : World} {K : PySem.W.Frag} {mg : Str → Option Value} {base : Heap} {c fi : Nat → Addr} {fdi : Nat → FuncData}
theorem err_new {H : Hp} {a C : Addr} : ErrAt (upd H a (ExO (.ref C) a)) a C [] := .inl ⟨rfl, upd_same⟩
theorem err_new1 {H : Hp} {a d C : Addr} {f : Str} {v : V} (hda : d ≠ a) : ErrAt (upd (upd H d (exd d [(f, v)])) a (exo a C (some d))) a C [(f, v)] := .inr ⟨d, upd_same, by rw [upd_ne hda]; exact upd_same⟩
theorem same_new1 {H : Hp} {a d : Addr} {o u : HO} (ha : H a = none) (hd : H d = none) (hda : d ≠ a) : Same H (upd (upd H d o) a u) := (Same.new hd).trans (Same.new (by rw [upd_ne (Ne.symm hda)]; exact ha))
abbrev s_made_one : Stmt := top 21
abbrev N_made_one : List Str := ["_law_lot", "_law_value"]
abbrev P_made_one : List Str := ["_law_lot", "_law_value"]
theorem sc_made_one : FnScope N_made_one P_made_one (defScope s_made_one) := ⟨rfl, rfl, rfl, by decide +kernel, rfl, by decide +kernel, by decide +kernel⟩
theorem ok_made_one {f : Addr} {fd : FuncData} (Y : Ers K mg c fi fdi) (D : Df K mg "_law_made_one" s_made_one P_made_one f fd) : FnOk P w K mg base CX0 4 f fd P_made_one (spMade c) := by
  have G_ParseError_init : FnOk P w K mg base CX0 1 _ _ _ _ := ok_ParseError_init Y
  have G_InvalidNumber_init : FnOk P w K mg base CX0 1 _ _ _ _ := ok_InvalidNumber_init Y
  have G_UnknownName_init : FnOk P w K mg base CX0 1 _ _ _ _ := ok_UnknownName_init Y
  have G_TooMany_init : FnOk P w K mg base CX0 1 _ _ _ _ := ok_TooMany_init Y
  have G_NothingToUndo_init : FnOk P w K mg base CX0 1 _ _ _ _ := ok_NothingToUndo_init Y
  have G_Broken_init : FnOk P w K mg base CX0 1 _ _ _ _ := ok_Broken_init Y
  have G_Spoiled_init : FnOk P w K mg base CX0 1 _ _ _ _ := ok_Spoiled_init Y
  refine D.F.ok sc_made_one (fun vs H Q E h => ?_) (fun cdv A outer s H vs Q E hr h => ?_)
  · obtain ⟨i, v, rfl, _⟩ := h
    rfl
  · obtain ⟨i, v, rfl, hi, k⟩ := h
    refine ⟨_, (pss_cons (ps_if (pt_cmpR op_lt (pv 0) pe_int (nomark _)) (pss_one (ps_ret (pe_ix ix_list (pe_lst (pa_cons (pe_exc1 PySem.F.excBase_ValueError Y.InvalidName.q Y.InvalidName.g Y.InvalidName.kp rfl (pv 1)) (pa_cons (pe_exc1 PySem.F.excBase_ValueError Y.InvalidWeb.q Y.InvalidWeb.g Y.InvalidWeb.kp rfl (pv 1)) (pa_cons (pe_exc1 PySem.F.excBase_ValueError Y.InvalidGroup.q Y.InvalidGroup.g Y.InvalidGroup.kp rfl (pv 1)) (pa_cons (pe_exc1 PySem.F.excBase_ValueError Y.InvalidCharge.q Y.InvalidCharge.g Y.InvalidCharge.kp rfl (pv 1)) pa_nil))))) (pv 0) (fun _ _ => rfl)))) pss_nil)
      (pss_cons (ps_if (pt_cmpR op_lt (pv 0) pe_int (nomark _)) (pss_one (ps_ret (pe_ix ix_list (pe_lst (pa_cons (pe_exc1 PySem.F.excBase_ValueError Y.InvalidOrder.q Y.InvalidOrder.g Y.InvalidOrder.kp rfl (pv 1)) (pa_cons (pe_exc1 PySem.F.excBase_ValueError Y.InvalidPlan.q Y.InvalidPlan.g Y.InvalidPlan.kp rfl (pv 1)) (pa_cons (pe_exc1 PySem.F.excBase_ValueError Y.InvalidOperation.q Y.InvalidOperation.g Y.InvalidOperation.kp rfl (pv 1)) pa_nil)))) (pe_op op_sub (pv 0) pe_int) (fun _ _ => rfl)))) pss_nil)
      (pss_cons (ps_if (pt_cmpR op_eq (pv 0) pe_int (nomark _)) (pss_one (ps_ret (pe_new1 Y.ParseError.c1 Y.ParseError.ex.kC G_ParseError_init (hr.mono (by decide)) Y.ParseError.b rfl Y.ParseError.g (pa_cons (pv 1) pa_nil)))) pss_nil)
      (pss_cons (ps_if (pt_cmpR op_eq (pv 0) pe_int (nomark _)) (pss_one (ps_ret (pe_new1 Y.InvalidNumber.c1 Y.InvalidNumber.ex.kC G_InvalidNumber_init (hr.mono (by decide)) Y.InvalidNumber.b rfl Y.InvalidNumber.g (pa_cons (pv 1) pa_nil)))) pss_nil)
      (pss_cons (ps_if (pt_cmpR op_eq (pv 0) pe_int (nomark _)) (pss_one (ps_ret (pe_new1 Y.UnknownName.c1 Y.UnknownName.ex.kC G_UnknownName_init (hr.mono (by decide)) Y.UnknownName.b rfl Y.UnknownName.g (pa_cons (pv 1) pa_nil)))) pss_nil)
      (pss_cons (ps_if (pt_cmpR op_eq (pv 0) pe_int (nomark _)) (pss_one (ps_ret (pe_new1 Y.TooMany.c1 Y.TooMany.ex.kC G_TooMany_init (hr.mono (by decide)) Y.TooMany.b rfl Y.TooMany.g (pa_cons (pv 1) pa_nil)))) pss_nil)
      (pss_cons (ps_if (pt_cmpR op_eq (pv 0) pe_int (nomark _)) (pss_one (ps_ret (pe_new1 Y.NothingToUndo.c1 Y.NothingToUndo.ex.kC G_NothingToUndo_init (hr.mono (by decide)) Y.NothingToUndo.b rfl Y.NothingToUndo.g (pa_cons (pv 1) pa_nil)))) pss_nil)
      (pss_one (ps_ret (pe_ifExp (pt_cmpR op_eq (pv 0) pe_int (nomark _)) (pe_new1 Y.Broken.c1 Y.Broken.ex.kC G_Broken_init (hr.mono (by decide)) Y.Broken.b rfl Y.Broken.g (pa_cons (pv 1) pa_nil)) (pe_new1 Y.Spoiled.c1 Y.Spoiled.ex.kC G_Spoiled_init (hr.mono (by decide)) Y.Spoiled.b rfl Y.Spoiled.g (pa_cons (pv 1) pa_nil)))))))))))), ?_⟩
    refine ⟨_, rfl, _, _, rfl, rfl, _, rfl, ite2 (fun e => ?_) (fun e => ?_)⟩
    · have e4 : i < 4 := by have := of_decide_eq_true e; omega
      refine ⟨_, rfl, fun a0 n0 => ⟨_, rfl, fun a1 n1 => ⟨_, rfl, fun a2 n2 => ⟨_, rfl, fun a3 n3 => ⟨by show 4 ≤ sizeLine; decide, fun l hl => ?_⟩⟩⟩⟩⟩
      have s1 := Same.new (o := ExO (.ref (c 0)) a0) n0
      have s2 := Same.new (o := ExO (.ref (c 1)) a1) n1
      have s3 := Same.new (o := ExO (.ref (c 2)) a2) n2
      have s4 := Same.new (o := ExO (.ref (c 3)) a3) n3
      have s5 := Same.new (o := .lst [V.ref a0, .ref a1, .ref a2, .ref a3]) hl
      have sA := (((s1.trans s2).trans s3).trans s4).trans s5
      refine ⟨_, rfl, l, _, i, ([V.ref a0, .ref a1, .ref a2, .ref a3] : List V).getD i .non, rfl, rfl, SqL.of upd_same, ?_, ?_⟩
      · match i, e4 with
        | 0, _ => rfl
        | 1, _ => rfl
        | 2, _ => rfl
        | 3, _ => rfl
      · match i, e4 with
        | 0, _ => exact k a0 _ sA (((err_new.same s2).same s3).same s4 |>.same s5)
        | 1, _ => exact k a1 _ sA ((err_new.same s3).same s4 |>.same s5)
        | 2, _ => exact k a2 _ sA (err_new.same s4 |>.same s5)
        | 3, _ => exact k a3 _ sA (err_new.same s5)
    refine ⟨_, rfl, _, _, rfl, rfl, _, rfl, ite2 (fun e2 => ?_) (fun e2 => ?_)⟩
    · have e4 : ¬ i < 4 := fun z => e (decide_eq_true (by omega))
      have e7 : i < 7 := by have := of_decide_eq_true e2; omega
      refine ⟨_, rfl, fun a0 n0 => ⟨_, rfl, fun a1 n1 => ⟨_, rfl, fun a2 n2 => ⟨by show 3 ≤ sizeLine; decide, fun l hl => ?_⟩⟩⟩⟩
      have s1 := Same.new (o := ExO (.ref (c 4)) a0) n0
      have s2 := Same.new (o := ExO (.ref (c 5)) a1) n1
      have s3 := Same.new (o := ExO (.ref (c 6)) a2) n2
      have s5 := Same.new (o := .lst [V.ref a0, .ref a1, .ref a2]) hl
      have sA := ((s1.trans s2).trans s3).trans s5
      refine ⟨_, rfl, _, _, rfl, rfl, l, _, _, ([V.ref a0, .ref a1, .ref a2] : List V).getD (i - 4) .non, rfl, rfl, SqL.of upd_same, ?_, ?_⟩
      · match i, e4, e7 with
        | 4, _, _ => rfl
        | 5, _, _ => rfl
        | 6, _, _ => rfl
      · match i, e4, e7 with
        | 4, _, _ => exact k a0 _ sA ((err_new.same s2).same s3 |>.same s5)
        | 5, _, _ => exact k a1 _ sA (err_new.same s3 |>.same s5)
        | 6, _, _ => exact k a2 _ sA (err_new.same s5)
    have e7 : ¬ i < 7 := fun z => e2 (decide_eq_true (by omega))
    have nx : ∀ {j : Nat}, ¬ decide (V.int i = V.int j) = true → i ≠ j := fun h z => h (decide_eq_true (by rw [z]))
    have eq : ∀ {j : Nat}, decide (V.int i = V.int j) = true → i = j := fun h => by
      have z := V.int.inj (of_decide_eq_true h)
      omega
    refine ⟨_, rfl, rfl, _, rfl, ite2 (fun e8 => ?_) (fun e8 => ?_)⟩
    · obtain rfl := eq (j := 7) e8
      exact ⟨_, rfl, v, rfl, fun a d ha hd hda => k a _ (same_new1 ha hd hda) (err_new1 hda)⟩
    refine ⟨_, rfl, rfl, _, rfl, ite2 (fun e9 => ?_) (fun e9 => ?_)⟩
    · obtain rfl := eq (j := 8) e9
      exact ⟨_, rfl, v, rfl, fun a d ha hd hda => k a _ (same_new1 ha hd hda) (err_new1 hda)⟩
    refine ⟨_, rfl, rfl, _, rfl, ite2 (fun e10 => ?_) (fun e10 => ?_)⟩
    · obtain rfl := eq (j := 9) e10
      exact ⟨_, rfl, v, rfl, fun a d ha hd hda => k a _ (same_new1 ha hd hda) (err_new1 hda)⟩
    refine ⟨_, rfl, rfl, _, rfl, ite2 (fun e11 => ?_) (fun e11 => ?_)⟩
    · obtain rfl := eq (j := 10) e11
      exact ⟨_, rfl, v, rfl, fun a d ha hd hda => k a _ (same_new1 ha hd hda) (err_new1 hda)⟩
    refine ⟨_, rfl, rfl, _, rfl, ite2 (fun e12 => ?_) (fun e12 => ?_)⟩
    · obtain rfl := eq (j := 11) e12
      exact ⟨_, rfl, v, rfl, fun a d ha hd hda => k a _ (same_new1 ha hd hda) (err_new1 hda)⟩
    have n7 := nx (j := 7) e8
    have n8 := nx (j := 8) e9
    have n9 := nx (j := 9) e10
    have n10 := nx (j := 10) e11
    have n11 := nx (j := 11) e12
    refine ⟨_, rfl, rfl, _, rfl, ite2 (fun e13 => ?_) (fun e13 => ?_)⟩
    · obtain rfl := eq (j := 12) e13
      exact ⟨_, rfl, v, rfl, fun a d ha hd hda => k a _ (same_new1 ha hd hda) (err_new1 hda)⟩
    · have n12 := nx (j := 12) e13
      obtain rfl : i = 13 := by omega
      exact ⟨_, rfl, v, rfl, fun a d ha hd hda => k a _ (same_new1 ha hd hda) (err_new1 hda)⟩
/-- whose objects an error of lot i is, as the law tells them -/
def sortsL (i : Nat) : List V := [0, 1, 2, 3, 4, 5, 6, 7, 8, 9, 10, 11, 12, 13, 14].map fun j => .bl (subT i j)
def kinL (i : Nat) : List V := [0, 1, 2, 3, 4, 5, 6, 7].map fun j => .bl (kinT i j)
def spSorts (c : Nat → Addr) (f : Nat → List V) : Sp := fun vs H Q _ => ∃ (a : Addr) (i : Nat) (fs : List (Str × V)), vs = [.ref a] ∧ i < 14 ∧ ErrAt H a (c i) fs ∧ ∀ (q : Addr) (H' : Hp), Same H H' → H' q = some (.lst (f i)) → Q (.ref q) H'
abbrev s_sorts : Stmt := top 22
abbrev N_sorts : List Str := ["_law_e", "_law_found"]
abbrev P_sorts : List Str := ["_law_e"]
theorem sc_sorts : FnScope N_sorts P_sorts (defScope s_sorts) := ⟨rfl, rfl, rfl, by decide +kernel, rfl, by decide +kernel, by decide +kernel⟩
theorem ok_sorts {f : Addr} {fd : FuncData} (B : Bl mg) (Y : Ers K mg c fi fdi) (D : Df K mg "_law_sorts" s_sorts P_sorts f fd) : FnOk P w K mg base CX0 1 f fd P_sorts (spSorts c sortsL) := by
  refine D.F.ok sc_sorts (fun vs H Q E h => ?_) (fun cdv A outer s H vs Q E hr h => ?_)
  · obtain ⟨a, i, fs, rfl, _⟩ := h
    rfl
  · obtain ⟨a, i, fs, rfl, hi, ea, k⟩ := h
    refine ⟨_, (pss_cons (ps_set (i := 1) sc_sorts.nd rfl (Or.inl rfl) (pe_lst (pa_cons (pe_callB call_isX (by rfl) B.b_isinstance (by decide +kernel) (pa_cons (pv 0) (pa_cons (pe_gv rfl (gv_ref Y.InvalidName.g)) pa_nil))) (pa_cons (pe_callB call_isX (by rfl) B.b_isinstance (by decide +kernel) (pa_cons (pv 0) (pa_cons (pe_gv rfl (gv_ref Y.InvalidWeb.g)) pa_nil))) (pa_cons (pe_callB call_isX (by rfl) B.b_isinstance (by decide +kernel) (pa_cons (pv 0) (pa_cons (pe_gv rfl (gv_ref Y.InvalidGroup.g)) pa_nil))) (pa_cons (pe_callB call_isX (by rfl) B.b_isinstance (by decide +kernel) (pa_cons (pv 0) (pa_cons (pe_gv rfl (gv_ref Y.InvalidCharge.g)) pa_nil))) pa_nil))))))
      (pss_cons (ps_set (i := 1) sc_sorts.nd rfl (Or.inl rfl) (pe_op op_cat (pv 1) (pe_lst (pa_cons (pe_callB call_isX (by rfl) B.b_isinstance (by decide +kernel) (pa_cons (pv 0) (pa_cons (pe_gv rfl (gv_ref Y.InvalidOrder.g)) pa_nil))) (pa_cons (pe_callB call_isX (by rfl) B.b_isinstance (by decide +kernel) (pa_cons (pv 0) (pa_cons (pe_gv rfl (gv_ref Y.InvalidPlan.g)) pa_nil))) (pa_cons (pe_callB call_isX (by rfl) B.b_isinstance (by decide +kernel) (pa_cons (pv 0) (pa_cons (pe_gv rfl (gv_ref Y.InvalidOperation.g)) pa_nil))) pa_nil))))))
      (pss_cons (ps_set (i := 1) sc_sorts.nd rfl (Or.inl rfl) (pe_op op_cat (pv 1) (pe_lst (pa_cons (pe_callB call_isX (by rfl) B.b_isinstance (by decide +kernel) (pa_cons (pv 0) (pa_cons (pe_gv rfl (gv_ref Y.ParseError.g)) pa_nil))) (pa_cons (pe_callB call_isX (by rfl) B.b_isinstance (by decide +kernel) (pa_cons (pv 0) (pa_cons (pe_gv rfl (gv_ref Y.InvalidNumber.g)) pa_nil))) (pa_cons (pe_callB call_isX (by rfl) B.b_isinstance (by decide +kernel) (pa_cons (pv 0) (pa_cons (pe_gv rfl (gv_ref Y.UnknownName.g)) pa_nil))) (pa_cons (pe_callB call_isX (by rfl) B.b_isinstance (by decide +kernel) (pa_cons (pv 0) (pa_cons (pe_gv rfl (gv_ref Y.TooMany.g)) pa_nil))) pa_nil)))))))
      (pss_one (ps_ret (pe_op op_cat (pv 1) (pe_lst (pa_cons (pe_callB call_isX (by rfl) B.b_isinstance (by decide +kernel) (pa_cons (pv 0) (pa_cons (pe_gv rfl (gv_ref Y.NothingToUndo.g)) pa_nil))) (pa_cons (pe_callB call_isX (by rfl) B.b_isinstance (by decide +kernel) (pa_cons (pv 0) (pa_cons (pe_gv rfl (gv_ref Y.Broken.g)) pa_nil))) (pa_cons (pe_callB call_isX (by rfl) B.b_isinstance (by decide +kernel) (pa_cons (pv 0) (pa_cons (pe_gv rfl (gv_ref Y.Spoiled.g)) pa_nil))) (pa_cons (pe_callB call_isX (by rfl) B.b_isinstance (by decide +kernel) (pa_cons (pv 0) (pa_cons (pe_gv rfl (gv_ref Y.BillError.g)) pa_nil))) pa_nil))))))))))), ?_⟩
    have s0 := Same.refl H
    refine ⟨_, rfl, a, c i, fs, _, _, _, rfl, ea.same s0, Y.X i hi, .own _, Y.sub i 0 hi (by decide), _, rfl, a, c i, fs, _, _, _, rfl, ea.same s0, Y.X i hi, .own _, Y.sub i 1 hi (by decide), _, rfl, a, c i, fs, _, _, _, rfl, ea.same s0, Y.X i hi, .own _, Y.sub i 2 hi (by decide), _, rfl, a, c i, fs, _, _, _, rfl, ea.same s0, Y.X i hi, .own _, Y.sub i 3 hi (by decide), by show 4 ≤ sizeLine; decide, fun l0 hl0 => ?_⟩
    have t0 := Same.new (o := .lst [V.bl (subT i 0), V.bl (subT i 1), V.bl (subT i 2), V.bl (subT i 3)]) hl0
    have h0 : (upd H l0 (.lst [V.bl (subT i 0), V.bl (subT i 1), V.bl (subT i 2), V.bl (subT i 3)])) l0 = some (.lst [V.bl (subT i 0), V.bl (subT i 1), V.bl (subT i 2), V.bl (subT i 3)]) := upd_same
    generalize upd H l0 (.lst [V.bl (subT i 0), V.bl (subT i 1), V.bl (subT i 2), V.bl (subT i 3)]) = H0 at h0 t0
    refine ⟨_, rfl, _, rfl, a, c i, fs, _, _, _, rfl, ea.same t0, Y.X i hi, .own _, Y.sub i 4 hi (by decide), _, rfl, a, c i, fs, _, _, _, rfl, ea.same t0, Y.X i hi, .own _, Y.sub i 5 hi (by decide), _, rfl, a, c i, fs, _, _, _, rfl, ea.same t0, Y.X i hi, .own _, Y.sub i 6 hi (by decide), by show 3 ≤ sizeLine; decide, fun l1 hl1 => ?_⟩
    have t1 := Same.new (o := .lst [V.bl (subT i 4), V.bl (subT i 5), V.bl (subT i 6)]) hl1
    have g1 := t1 _ _ h0
    have e1 : (upd H0 l1 (.lst [V.bl (subT i 4), V.bl (subT i 5), V.bl (subT i 6)])) l1 = some (.lst [V.bl (subT i 4), V.bl (subT i 5), V.bl (subT i 6)]) := upd_same
    generalize upd H0 l1 (.lst [V.bl (subT i 4), V.bl (subT i 5), V.bl (subT i 6)]) = J1 at g1 e1 t1
    refine ⟨l0, l1, _, _, rfl, rfl, g1, e1, by show 7 ≤ sizeLine; decide, fun m1 hm1 => ?_⟩
    have u1 := Same.new (o := .lst [V.bl (subT i 0), V.bl (subT i 1), V.bl (subT i 2), V.bl (subT i 3), V.bl (subT i 4), V.bl (subT i 5), V.bl (subT i 6)]) hm1
    have w1 := (t0.trans t1).trans u1
    have h1 : (upd J1 m1 (.lst [V.bl (subT i 0), V.bl (subT i 1), V.bl (subT i 2), V.bl (subT i 3), V.bl (subT i 4), V.bl (subT i 5), V.bl (subT i 6)])) m1 = some (.lst [V.bl (subT i 0), V.bl (subT i 1), V.bl (subT i 2), V.bl (subT i 3), V.bl (subT i 4), V.bl (subT i 5), V.bl (subT i 6)]) := upd_same
    have v1 : Same H (upd J1 m1 (.lst [V.bl (subT i 0), V.bl (subT i 1), V.bl (subT i 2), V.bl (subT i 3), V.bl (subT i 4), V.bl (subT i 5), V.bl (subT i 6)])) := w1
    generalize hH1 : upd J1 m1 (.lst [V.bl (subT i 0), V.bl (subT i 1), V.bl (subT i 2), V.bl (subT i 3), V.bl (subT i 4), V.bl (subT i 5), V.bl (subT i 6)]) = H1 at h1 v1
    have hH1' : upd J1 m1 (.lst ([V.bl (subT i 0), V.bl (subT i 1), V.bl (subT i 2), V.bl (subT i 3)] ++ [V.bl (subT i 4), V.bl (subT i 5), V.bl (subT i 6)])) = H1 := hH1
    rw [hH1']
    refine ⟨_, rfl, _, rfl, a, c i, fs, _, _, _, rfl, ea.same v1, Y.X i hi, .own _, Y.sub i 7 hi (by decide), _, rfl, a, c i, fs, _, _, _, rfl, ea.same v1, Y.X i hi, .own _, Y.sub i 8 hi (by decide), _, rfl, a, c i, fs, _, _, _, rfl, ea.same v1, Y.X i hi, .own _, Y.sub i 9 hi (by decide), _, rfl, a, c i, fs, _, _, _, rfl, ea.same v1, Y.X i hi, .own _, Y.sub i 10 hi (by decide), by show 4 ≤ sizeLine; decide, fun l2 hl2 => ?_⟩
    have t2 := Same.new (o := .lst [V.bl (subT i 7), V.bl (subT i 8), V.bl (subT i 9), V.bl (subT i 10)]) hl2
    have g2 := t2 _ _ h1
    have e2 : (upd H1 l2 (.lst [V.bl (subT i 7), V.bl (subT i 8), V.bl (subT i 9), V.bl (subT i 10)])) l2 = some (.lst [V.bl (subT i 7), V.bl (subT i 8), V.bl (subT i 9), V.bl (subT i 10)]) := upd_same
    generalize upd H1 l2 (.lst [V.bl (subT i 7), V.bl (subT i 8), V.bl (subT i 9), V.bl (subT i 10)]) = J2 at g2 e2 t2
    refine ⟨m1, l2, _, _, rfl, rfl, g2, e2, by show 11 ≤ sizeLine; decide, fun m2 hm2 => ?_⟩
    have u2 := Same.new (o := .lst [V.bl (subT i 0), V.bl (subT i 1), V.bl (subT i 2), V.bl (subT i 3), V.bl (subT i 4), V.bl (subT i 5), V.bl (subT i 6), V.bl (subT i 7), V.bl (subT i 8), V.bl (subT i 9), V.bl (subT i 10)]) hm2
    have w2 := (v1.trans t2).trans u2
    have h2 : (upd J2 m2 (.lst [V.bl (subT i 0), V.bl (subT i 1), V.bl (subT i 2), V.bl (subT i 3), V.bl (subT i 4), V.bl (subT i 5), V.bl (subT i 6), V.bl (subT i 7), V.bl (subT i 8), V.bl (subT i 9), V.bl (subT i 10)])) m2 = some (.lst [V.bl (subT i 0), V.bl (subT i 1), V.bl (subT i 2), V.bl (subT i 3), V.bl (subT i 4), V.bl (subT i 5), V.bl (subT i 6), V.bl (subT i 7), V.bl (subT i 8), V.bl (subT i 9), V.bl (subT i 10)]) := upd_same
    have v2 : Same H (upd J2 m2 (.lst [V.bl (subT i 0), V.bl (subT i 1), V.bl (subT i 2), V.bl (subT i 3), V.bl (subT i 4), V.bl (subT i 5), V.bl (subT i 6), V.bl (subT i 7), V.bl (subT i 8), V.bl (subT i 9), V.bl (subT i 10)])) := w2
    generalize hH2 : upd J2 m2 (.lst [V.bl (subT i 0), V.bl (subT i 1), V.bl (subT i 2), V.bl (subT i 3), V.bl (subT i 4), V.bl (subT i 5), V.bl (subT i 6), V.bl (subT i 7), V.bl (subT i 8), V.bl (subT i 9), V.bl (subT i 10)]) = H2 at h2 v2
    have hH2' : upd J2 m2 (.lst ([V.bl (subT i 0), V.bl (subT i 1), V.bl (subT i 2), V.bl (subT i 3), V.bl (subT i 4), V.bl (subT i 5), V.bl (subT i 6)] ++ [V.bl (subT i 7), V.bl (subT i 8), V.bl (subT i 9), V.bl (subT i 10)])) = H2 := hH2
    rw [hH2']
    refine ⟨_, rfl, _, rfl, a, c i, fs, _, _, _, rfl, ea.same v2, Y.X i hi, .own _, Y.sub i 11 hi (by decide), _, rfl, a, c i, fs, _, _, _, rfl, ea.same v2, Y.X i hi, .own _, Y.sub i 12 hi (by decide), _, rfl, a, c i, fs, _, _, _, rfl, ea.same v2, Y.X i hi, .own _, Y.sub i 13 hi (by decide), _, rfl, a, c i, fs, _, _, _, rfl, ea.same v2, Y.X i hi, .own _, Y.sub i 14 hi (by decide), by show 4 ≤ sizeLine; decide, fun l3 hl3 => ?_⟩
    have t3 := Same.new (o := .lst [V.bl (subT i 11), V.bl (subT i 12), V.bl (subT i 13), V.bl (subT i 14)]) hl3
    have g3 := t3 _ _ h2
    have e3 : (upd H2 l3 (.lst [V.bl (subT i 11), V.bl (subT i 12), V.bl (subT i 13), V.bl (subT i 14)])) l3 = some (.lst [V.bl (subT i 11), V.bl (subT i 12), V.bl (subT i 13), V.bl (subT i 14)]) := upd_same
    generalize upd H2 l3 (.lst [V.bl (subT i 11), V.bl (subT i 12), V.bl (subT i 13), V.bl (subT i 14)]) = J3 at g3 e3 t3
    refine ⟨m2, l3, _, _, rfl, rfl, g3, e3, by show 15 ≤ sizeLine; decide, fun m3 hm3 => ?_⟩
    have u3 := Same.new (o := .lst [V.bl (subT i 0), V.bl (subT i 1), V.bl (subT i 2), V.bl (subT i 3), V.bl (subT i 4), V.bl (subT i 5), V.bl (subT i 6), V.bl (subT i 7), V.bl (subT i 8), V.bl (subT i 9), V.bl (subT i 10), V.bl (subT i 11), V.bl (subT i 12), V.bl (subT i 13), V.bl (subT i 14)]) hm3
    exact k m3 _ ((v2.trans t3).trans u3) upd_same
abbrev s_kin : Stmt := top 23
abbrev N_kin : List Str := ["_law_e", "_law_found"]
abbrev P_kin : List Str := ["_law_e"]
theorem sc_kin : FnScope N_kin P_kin (defScope s_kin) := ⟨rfl, rfl, rfl, by decide +kernel, rfl, by decide +kernel, by decide +kernel⟩
theorem ok_kin {f : Addr} {fd : FuncData} (B : Bl mg) (Y : Ers K mg c fi fdi) (D : Df K mg "_law_kin" s_kin P_kin f fd) : FnOk P w K mg base CX0 1 f fd P_kin (spSorts c kinL) := by
  refine D.F.ok sc_kin (fun vs H Q E h => ?_) (fun cdv A outer s H vs Q E hr h => ?_)
  · obtain ⟨a, i, fs, rfl, _⟩ := h
    rfl
  · obtain ⟨a, i, fs, rfl, hi, ea, k⟩ := h
    refine ⟨_, (pss_cons (ps_set (i := 1) sc_kin.nd rfl (Or.inl rfl) (pe_lst (pa_cons (pe_callB call_isX (by rfl) B.b_isinstance (by decide +kernel) (pa_cons (pv 0) (pa_cons (pe_ty (n := "ValueError") (by rfl) Y.b_ValueError (by decide +kernel)) pa_nil))) (pa_cons (pe_callB call_isX (by rfl) B.b_isinstance (by decide +kernel) (pa_cons (pv 0) (pa_cons (pe_ty (n := "LookupError") (by rfl) Y.b_LookupError (by decide +kernel)) pa_nil))) (pa_cons (pe_callB call_isX (by rfl) B.b_isinstance (by decide +kernel) (pa_cons (pv 0) (pa_cons (pe_ty (n := "IndexError") (by rfl) Y.b_IndexError (by decide +kernel)) pa_nil))) (pa_cons (pe_callB call_isX (by rfl) B.b_isinstance (by decide +kernel) (pa_cons (pv 0) (pa_cons (pe_ty (n := "KeyError") (by rfl) Y.b_KeyError (by decide +kernel)) pa_nil))) pa_nil))))))
      (pss_one (ps_ret (pe_op op_cat (pv 1) (pe_lst (pa_cons (pe_callB call_isX (by rfl) B.b_isinstance (by decide +kernel) (pa_cons (pv 0) (pa_cons (pe_ty (n := "ArithmeticError") (by rfl) Y.b_ArithmeticError (by decide +kernel)) pa_nil))) (pa_cons (pe_callB call_isX (by rfl) B.b_isinstance (by decide +kernel) (pa_cons (pv 0) (pa_cons (pe_ty (n := "OverflowError") (by rfl) Y.b_OverflowError (by decide +kernel)) pa_nil))) (pa_cons (pe_callB call_isX (by rfl) B.b_isinstance (by decide +kernel) (pa_cons (pv 0) (pa_cons (pe_ty (n := "RuntimeError") (by rfl) Y.b_RuntimeError (by decide +kernel)) pa_nil))) (pa_cons (pe_callB call_isX (by rfl) B.b_isinstance (by decide +kernel) (pa_cons (pv 0) (pa_cons (pe_ty (n := "TypeError") (by rfl) Y.b_TypeError (by decide +kernel)) pa_nil))) pa_nil))))))))), ?_⟩
    have s0 := Same.refl H
    refine ⟨_, rfl, a, c i, fs, _, _, _, rfl, ea.same s0, Y.X i hi, .ty _, Y.kin i 0 hi (by decide), _, rfl, a, c i, fs, _, _, _, rfl, ea.same s0, Y.X i hi, .ty _, Y.kin i 1 hi (by decide), _, rfl, a, c i, fs, _, _, _, rfl, ea.same s0, Y.X i hi, .ty _, Y.kin i 2 hi (by decide), _, rfl, a, c i, fs, _, _, _, rfl, ea.same s0, Y.X i hi, .ty _, Y.kin i 3 hi (by decide), by show 4 ≤ sizeLine; decide, fun l0 hl0 => ?_⟩
    have t0 := Same.new (o := .lst [V.bl (kinT i 0), V.bl (kinT i 1), V.bl (kinT i 2), V.bl (kinT i 3)]) hl0
    have h0 : (upd H l0 (.lst [V.bl (kinT i 0), V.bl (kinT i 1), V.bl (kinT i 2), V.bl (kinT i 3)])) l0 = some (.lst [V.bl (kinT i 0), V.bl (kinT i 1), V.bl (kinT i 2), V.bl (kinT i 3)]) := upd_same
    generalize upd H l0 (.lst [V.bl (kinT i 0), V.bl (kinT i 1), V.bl (kinT i 2), V.bl (kinT i 3)]) = H0 at h0 t0
    refine ⟨_, rfl, _, rfl, a, c i, fs, _, _, _, rfl, ea.same t0, Y.X i hi, .ty _, Y.kin i 4 hi (by decide), _, rfl, a, c i, fs, _, _, _, rfl, ea.same t0, Y.X i hi, .ty _, Y.kin i 5 hi (by decide), _, rfl, a, c i, fs, _, _, _, rfl, ea.same t0, Y.X i hi, .ty _, Y.kin i 6 hi (by decide), _, rfl, a, c i, fs, _, _, _, rfl, ea.same t0, Y.X i hi, .ty _, Y.kin i 7 hi (by decide), by show 4 ≤ sizeLine; decide, fun l1 hl1 => ?_⟩
    have t1 := Same.new (o := .lst [V.bl (kinT i 4), V.bl (kinT i 5), V.bl (kinT i 6), V.bl (kinT i 7)]) hl1
    have g1 := t1 _ _ h0
    have e1 : (upd H0 l1 (.lst [V.bl (kinT i 4), V.bl (kinT i 5), V.bl (kinT i 6), V.bl (kinT i 7)])) l1 = some (.lst [V.bl (kinT i 4), V.bl (kinT i 5), V.bl (kinT i 6), V.bl (kinT i 7)]) := upd_same
    generalize upd H0 l1 (.lst [V.bl (kinT i 4), V.bl (kinT i 5), V.bl (kinT i 6), V.bl (kinT i 7)]) = J1 at g1 e1 t1
    refine ⟨l0, l1, _, _, rfl, rfl, g1, e1, by show 8 ≤ sizeLine; decide, fun m1 hm1 => ?_⟩
    have u1 := Same.new (o := .lst [V.bl (kinT i 0), V.bl (kinT i 1), V.bl (kinT i 2), V.bl (kinT i 3), V.bl (kinT i 4), V.bl (kinT i 5), V.bl (kinT i 6), V.bl (kinT i 7)]) hm1
    exact k m1 _ ((t0.trans t1).trans u1) upd_same
end
end V0
namespace V0
open PySem PySem.Spec PyProof.Rows L2
def spDue : Sp := fun vs H Q _ => ∃ (i : Nat), vs = [.int i] ∧ i < 14 ∧ ∀ (q a b : Addr) (H' : Hp), Same H H' → H' q = some (.lst [.ref a, .ref b]) → H' a = some (.lst (sortsL i)) → H' b = some (.lst (kinL i)) → Q (.ref q) H'
def somL (i : Nat) : List V := if i = 8 then [.int 1, .int 2] else if i = 9 then [.int 1, .int 3] else if i = 10 then [.int 4, .int 5] else if i = 11 then [.int 1] else if i = 12 then [.int 4] else if i = 13 then [.int 6] else [.int 0]
theorem som_flat (i : Nat) : ∀ x ∈ somL i, ∃ n : Int, x = .int n := by
  intro x hx
  unfold somL at hx
  repeat' split at hx
  all_goals simp at hx
  all_goals first
    | exact ⟨_, hx⟩
    | (rcases hx with h | h <;> exact ⟨_, h⟩)
def dueK (q8 q9 q10 q11 q12 q13 : Addr) : List (Key × V) := [(Sum.inl (8 : Int), V.ref q8), (Sum.inl (9 : Int), V.ref q9), (Sum.inl (10 : Int), V.ref q10), (Sum.inl (11 : Int), V.ref q11), (Sum.inl (12 : Int), V.ref q12), (Sum.inl (13 : Int), V.ref q13)]
theorem due_get (q0 q8 q9 q10 q11 q12 q13 : Addr) (i : Nat) (hi : i < 14) : (valV (mergeK [] (dueK q8 q9 q10 q11 q12 q13)) (Sum.inl (i : Int))).getD (.ref q0) = .ref (if i = 8 then q8 else if i = 9 then q9 else if i = 10 then q10 else if i = 11 then q11 else if i = 12 then q12 else if i = 13 then q13 else q0) := by
  match i, hi with
  | 0, _ => rfl
  | 1, _ => rfl
  | 2, _ => rfl
  | 3, _ => rfl
  | 4, _ => rfl
  | 5, _ => rfl
  | 6, _ => rfl
  | 7, _ => rfl
  | 8, _ => rfl
  | 9, _ => rfl
  | 10, _ => rfl
  | 11, _ => rfl
  | 12, _ => rfl
  | 13, _ => rfl
theorem som_all (i : Nat) : (somL i).all flatV = true := by
  rw [List.all_eq_true]
  intro x hx
  obtain ⟨n, rfl⟩ := som_flat i x hx
  rfl
theorem due_kin (i m : Nat) (hi : i < 14) (hm : m < 8) : inV (.int ((0 : Int) + m)) (somL i) = kinT i m := by
  have z : ∀ i, i < 14 → ∀ m, m < 8 → inV (.int ((0 : Int) + (m : Nat))) (somL i) = kinT i m := by decide +kernel
  exact z i hi m hm
theorem due_sorts (i : Nat) (hi : i < 14) (g : Nat → V) (hg : (fun m : Nat => V.bl (decide (V.int ((0 : Int) + m) = V.int (i : Int)))) = g) : (List.range 14).map g ++ [V.bl (decide ((i : Int) < 8))] = sortsL i := by
  subst hg
  match i, hi with
  | 0, _ => rfl
  | 1, _ => rfl
  | 2, _ => rfl
  | 3, _ => rfl
  | 4, _ => rfl
  | 5, _ => rfl
  | 6, _ => rfl
  | 7, _ => rfl
  | 8, _ => rfl
  | 9, _ => rfl
  | 10, _ => rfl
  | 11, _ => rfl
  | 12, _ => rfl
  | 13, _ => rfl
section
variable {P : Program} {w : World} {K : PySem.W.Frag} {mg : Str → Option Value} {base : Heap}
abbrev s_due : Stmt := top 24
abbrev N_due : List Str := ["_law_lot", "_law_some", "_law_at"]
abbrev P_due : List Str := ["_law_lot"]
theorem sc_due : FnScope N_due P_due (defScope s_due) := ⟨rfl, rfl, rfl, by decide +kernel, rfl, by decide +kernel, by decide +kernel⟩
theorem ok_due {f : Addr} {fd : FuncData} (B : Bl mg) (D : Df K mg "_law_due" s_due P_due f fd) : FnOk P w K mg base CX0 1 f fd P_due spDue := by
  refine D.F.ok sc_due (fun vs H Q E h => ?_) (fun cdv A outer s H vs Q E hr h => ?_)
  · obtain ⟨i, rfl, _⟩ := h
    rfl
  · obtain ⟨i, rfl, hi, k⟩ := h
    refine ⟨_, (pss_cons (ps_set (i := 1) sc_due.nd rfl (Or.inr rfl) (pe_dget2 (hu_of hr) (pe_disp (pps_cons pe_int (pe_tup (pa_cons pe_int (pa_cons pe_int pa_nil))) (pps_cons pe_int (pe_tup (pa_cons pe_int (pa_cons pe_int pa_nil))) (pps_cons pe_int (pe_tup (pa_cons pe_int (pa_cons pe_int pa_nil))) (pps_cons pe_int (pe_tup (pa_cons pe_int pa_nil)) (pps_cons pe_int (pe_tup (pa_cons pe_int pa_nil)) (pps_cons pe_int (pe_tup (pa_cons pe_int pa_nil)) pps_nil)))))) (by rfl) (by rfl) (fun z => by cases z) (by decide)) (pv 0) (pe_tup (pa_cons pe_int pa_nil)) ⟨by rfl, by rfl, by rfl, by rfl⟩))
      (pss_one (ps_ret (pe_lst (pa_cons (pe_op op_cat (pe_lc (own := [("_law_at", 2)]) (g := gName 2) (tt := tYes) rfl sc_due.nd (pi_range1 rfl B.b_range (pa_cons pe_int pa_nil)) (blkOk_by (own := [("_law_at", 2)]) (N := N_due) (sc := defScope s_due) (by decide +kernel)) (fun _ _ _ _ _ => (pg_name (i := 2) sc_due.nd rfl (Or.inl rfl))) (fun _ _ _ _ _ => pts_nil) (fun _ _ _ _ _ => (pe_cmpR op_eq (pv 2) (pv 0) (nomark _)))) (pe_lst (pa_cons (pe_cmpR op_lt (pv 0) pe_int (nomark _)) pa_nil))) (pa_cons (pe_lc (own := [("_law_at", 2)]) (g := gName 2) (tt := tYes) rfl sc_due.nd (pi_range1 rfl B.b_range (pa_cons pe_int pa_nil)) (blkOk_by (own := [("_law_at", 2)]) (N := N_due) (sc := defScope s_due) (by decide +kernel)) (fun _ _ _ _ _ => (pg_name (i := 2) sc_due.nd rfl (Or.inl rfl))) (fun _ _ _ _ _ => pts_nil) (fun _ _ _ _ _ => (pe_cmpR (show OpR _ _ (rIn K false) from op_in_seq) (pv 2) (pv 1) (by rfl)))) pa_nil)))))), ?_⟩
    refine fun p hp => ?_
    have sp := Same.new (o := .dK []) hp
    have ep : (upd H p (.dK [])) p = some (.dK []) := upd_same
    generalize upd H p (.dK []) = Hp at sp ep
    refine ⟨by show 2 ≤ sizeLine; decide, fun q8 h8 => ?_⟩
    have s8 := Same.new (o := .tup [V.int 1, V.int 2]) h8
    have e8 : (upd Hp q8 (.tup [V.int 1, V.int 2])) q8 = some (.tup [V.int 1, V.int 2]) := upd_same
    generalize upd Hp q8 (.tup [V.int 1, V.int 2]) = H8 at s8 e8
    refine ⟨by show 2 ≤ sizeLine; decide, fun q9 h9 => ?_⟩
    have s9 := Same.new (o := .tup [V.int 1, V.int 3]) h9
    have e9 : (upd H8 q9 (.tup [V.int 1, V.int 3])) q9 = some (.tup [V.int 1, V.int 3]) := upd_same
    generalize upd H8 q9 (.tup [V.int 1, V.int 3]) = H9 at s9 e9
    refine ⟨by show 2 ≤ sizeLine; decide, fun q10 h10 => ?_⟩
    have s10 := Same.new (o := .tup [V.int 4, V.int 5]) h10
    have e10 : (upd H9 q10 (.tup [V.int 4, V.int 5])) q10 = some (.tup [V.int 4, V.int 5]) := upd_same
    generalize upd H9 q10 (.tup [V.int 4, V.int 5]) = H10 at s10 e10
    refine ⟨by show 1 ≤ sizeLine; decide, fun q11 h11 => ?_⟩
    have s11 := Same.new (o := .tup [V.int 1]) h11
    have e11 : (upd H10 q11 (.tup [V.int 1])) q11 = some (.tup [V.int 1]) := upd_same
    generalize upd H10 q11 (.tup [V.int 1]) = H11 at s11 e11
    refine ⟨by show 1 ≤ sizeLine; decide, fun q12 h12 => ?_⟩
    have s12 := Same.new (o := .tup [V.int 4]) h12
    have e12 : (upd H11 q12 (.tup [V.int 4])) q12 = some (.tup [V.int 4]) := upd_same
    generalize upd H11 q12 (.tup [V.int 4]) = H12 at s12 e12
    refine ⟨by show 1 ≤ sizeLine; decide, fun q13 h13 => ?_⟩
    have s13 := Same.new (o := .tup [V.int 6]) h13
    have e13 : (upd H12 q13 (.tup [V.int 6])) q13 = some (.tup [V.int 6]) := upd_same
    generalize upd H12 q13 (.tup [V.int 6]) = H13 at s13 e13
    refine ⟨(((((s8.trans s9).trans s10).trans s11).trans s12).trans s13) _ _ ep, dueK q8 q9 q10 q11 q12 q13, rfl, (by show 6 ≤ 15; decide), ?_⟩
    have s14 : But p H13 (upd H13 p (.dK (mergeK [] (dueK q8 q9 q10 q11 q12 q13)))) := But.upd
    have e14 : (upd H13 p (.dK (mergeK [] (dueK q8 q9 q10 q11 q12 q13)))) p = some (.dK (mergeK [] (dueK q8 q9 q10 q11 q12 q13))) := upd_same
    have n8 : q8 ≠ p := fun z => by have := ep; rw [← z, h8] at this; cases this
    have n9 : q9 ≠ p := fun z => by have := (s8 _ _ ep); rw [← z, h9] at this; cases this
    have n10 : q10 ≠ p := fun z => by have := ((s8.trans s9) _ _ ep); rw [← z, h10] at this; cases this
    have n11 : q11 ≠ p := fun z => by have := (((s8.trans s9).trans s10) _ _ ep); rw [← z, h11] at this; cases this
    have n12 : q12 ≠ p := fun z => by have := ((((s8.trans s9).trans s10).trans s11) _ _ ep); rw [← z, h12] at this; cases this
    have n13 : q13 ≠ p := fun z => by have := (((((s8.trans s9).trans s10).trans s11).trans s12) _ _ ep); rw [← z, h13] at this; cases this
    have f8 := s14 _ _ (((((s9.trans s10).trans s11).trans s12).trans s13) _ _ e8) n8
    have f9 := s14 _ _ ((((s10.trans s11).trans s12).trans s13) _ _ e9) n9
    have f10 := s14 _ _ (((s11.trans s12).trans s13) _ _ e10) n10
    have f11 := s14 _ _ ((s12.trans s13) _ _ e11) n11
    have f12 := s14 _ _ (s13 _ _ e12) n12
    have f13 := s14 _ _ e13 n13
    have sH : Same H (upd H13 p (.dK (mergeK [] (dueK q8 q9 q10 q11 q12 q13)))) := fun b o e => s14 b o ((sp.trans (((((s8.trans s9).trans s10).trans s11).trans s12).trans s13)) b o e) (fun z => by rw [z, hp] at e; cases e)
    generalize upd H13 p (.dK (mergeK [] (dueK q8 q9 q10 q11 q12 q13))) = H14 at s14 e14 f8 f9 f10 f11 f12 f13 sH
    refine ⟨p, rfl, .inl ⟨_, .inl e14⟩, _, rfl, by show 1 ≤ sizeLine; decide, fun q0 h0 => ?_⟩
    have s0 := Same.new (o := .tup [V.int 0]) h0
    have e0 : (upd H14 q0 (.tup [V.int 0])) q0 = some (.tup [V.int 0]) := upd_same
    generalize upd H14 q0 (.tup [V.int 0]) = H0 at s0 e0
    refine ⟨_, DGet.k (k := Sum.inl (i : Int)) (s0 _ _ e14), ?_⟩
    rw [due_get q0 q8 q9 q10 q11 q12 q13 i hi]
    have et : H0 (if i = 8 then q8 else if i = 9 then q9 else if i = 10 then q10 else if i = 11 then q11 else if i = 12 then q12 else if i = 13 then q13 else q0) = some (.tup (somL i)) := by
      unfold somL
      by_cases c8 : i = 8
      · rw [if_pos c8, if_pos c8]; exact s0 _ _ f8
      by_cases c9 : i = 9
      · rw [if_neg c8, if_pos c9, if_neg c8, if_pos c9]; exact s0 _ _ f9
      by_cases c10 : i = 10
      · rw [if_neg c8, if_neg c9, if_pos c10, if_neg c8, if_neg c9, if_pos c10]; exact s0 _ _ f10
      by_cases c11 : i = 11
      · rw [if_neg c8, if_neg c9, if_neg c10, if_pos c11, if_neg c8, if_neg c9, if_neg c10, if_pos c11]; exact s0 _ _ f11
      by_cases c12 : i = 12
      · rw [if_neg c8, if_neg c9, if_neg c10, if_neg c11, if_pos c12, if_neg c8, if_neg c9, if_neg c10, if_neg c11, if_pos c12]; exact s0 _ _ f12
      by_cases c13 : i = 13
      · rw [if_neg c8, if_neg c9, if_neg c10, if_neg c11, if_neg c12, if_pos c13, if_neg c8, if_neg c9, if_neg c10, if_neg c11, if_neg c12, if_pos c13]; exact s0 _ _ f13
      rw [if_neg c8, if_neg c9, if_neg c10, if_neg c11, if_neg c12, if_neg c13, if_neg c8, if_neg c9, if_neg c10, if_neg c11, if_neg c12, if_neg c13]
      exact e0
    generalize (if i = 8 then q8 else if i = 9 then q9 else if i = 10 then q10 else if i = 11 then q11 else if i = 12 then q12 else if i = 13 then q13 else q0) = t at et
    have sA := sH.trans s0
    generalize hg1 : (fun m : Nat => V.bl (decide (V.int ((0 : Int) + m) = V.int (i : Int)))) = g1
    refine ⟨14, rfl, by decide, by decide, fun D hD => ?_⟩
    refine lc_range (lo := 0) (n := 14) (fun m H' => Same H0 H' ∧ H' D = some (.lst ((List.range m).map g1))) ⟨Same.new hD, upd_same⟩ (fun m H' hm ⟨sm, hd⟩ => ?_) (fun H' ⟨sm, hd⟩ => ?_)
    · refine ⟨rfl, ?_⟩
      dsimp only [tYes]
      rw [if_pos (show true = true from rfl)]
      refine ⟨_, rfl, _, rfl, rfl, _, hd, ?_, fun b o e => ?_, ?_⟩
      · rw [List.length_map, List.length_range]
        exact Nat.lt_trans hm (by decide)
      · rw [upd_ne (ne_of_none e hD)]
        exact sm b o e
      · rw [upd_same, List.range_succ, List.map_append, ← hg1]
        rfl
    refine ⟨_, rfl, _, _, rfl, rfl, by show 1 ≤ sizeLine; decide, fun l hl => ?_⟩
    have t1 := Same.new (o := .lst [V.bl (decide ((i : Int) < 8))]) hl
    have r1 : (upd H' l (.lst [V.bl (decide ((i : Int) < 8))])) l = _ := upd_same
    have r2 := t1 _ _ hd
    generalize upd H' l (.lst [V.bl (decide ((i : Int) < 8))]) = J at t1 r1 r2
    refine ⟨D, l, _, _, rfl, rfl, r2, r1, by show 15 ≤ sizeLine; decide, fun m hm => ?_⟩
    rw [due_sorts i hi g1 hg1]
    have t2 := Same.new (o := .lst (sortsL i)) hm
    have r3 : (upd J m (.lst (sortsL i))) m = _ := upd_same
    generalize upd J m (.lst (sortsL i)) = J2 at t2 r3
    have sB := ((sm.trans t1).trans t2)
    refine ⟨8, rfl, by decide, by decide, fun D2 hD2 => ?_⟩
    refine lc_range (lo := 0) (n := 8) (fun m H' => Same J2 H' ∧ H' D2 = some (.lst ((List.range m).map fun j => V.bl (kinT i j)))) ⟨Same.new hD2, upd_same⟩ (fun m H' hm ⟨sm, hd⟩ => ?_) (fun H' ⟨sm, hd⟩ => ?_)
    · refine ⟨rfl, ?_⟩
      dsimp only [tYes]
      rw [if_pos (show true = true from rfl)]
      refine ⟨_, rfl, _, rfl, t, _, rfl, .inr (SqT.of (sm _ _ (sB _ _ et))), rfl, som_all i, _, hd, ?_, fun b o e => ?_, ?_⟩
      · rw [List.length_map, List.length_range]
        exact Nat.lt_trans hm (by decide)
      · rw [upd_ne (ne_of_none e hD2)]
        exact sm b o e
      · rw [upd_same, List.range_succ, List.map_append, due_kin i m hi hm]
        rfl
    · refine ⟨by show 2 ≤ sizeLine; decide, fun q hq => ?_⟩
      have t4 := Same.new (o := .lst [V.ref m, .ref D2]) hq
      exact k q m D2 _ (((sA.trans sB).trans sm).trans t4) upd_same (t4 _ _ (sm _ _ r3)) (t4 _ _ hd)
end
end V0
namespace V0
open PySem PySem.Spec PyProof.Rows L2
/-- what the law keeps of a value -/
def keptS (i : Nat) (d : PyData) : Str := if i < 7 then "" else if i = 8 ∨ i = 9 then d.shown ++ (" " : Str) ++ d.shown else d.shown
def spKept (K : PySem.W.Frag) (c : Nat → Addr) : Sp := fun vs H Q _ => ∃ (i : Nat) (a : Addr) (v : V) (d : PyData) (k : Nat), vs = [.int i, .ref a] ∧ i < 14 ∧ ErrAt H a (c i) (fldL i v) ∧ Dp K H v d ∧ Sm k d ∧ k ≤ 3 ∧ Q (.str (keptS i d)) H
def spDueKept (K : PySem.W.Frag) : Sp := fun vs H Q _ => ∃ (i : Nat) (v : V) (d : PyData) (k : Nat), vs = [.int i, v] ∧ i < 14 ∧ Dp K H v d ∧ Sm k d ∧ k ≤ 3 ∧ ∀ H', Same H H' → Q (.str (keptS i d)) H'
theorem in89 (i : Nat) (hi : i < 14) : inV (.int (i : Nat)) [.int 8, .int 9] = decide (i = 8 ∨ i = 9) := by
  have z : ∀ i, i < 14 → inV (.int (i : Nat)) [.int 8, .int 9] = decide (i = 8 ∨ i = 9) := by decide +kernel
  exact z i hi
theorem in789 (i : Nat) (hi : i < 14) : inV (.int (i : Nat)) [.int 7, .int 10, .int 11] = decide (i = 7 ∨ i = 10 ∨ i = 11) := by
  have z : ∀ i, i < 14 → inV (.int (i : Nat)) [.int 7, .int 10, .int 11] = decide (i = 7 ∨ i = 10 ∨ i = 11) := by decide +kernel
  exact z i hi
theorem Sm.third {k : Nat} {d : PyData} (h : Sm k d) (hk : k ≤ 3) : d.shown.length ≤ 8000000 := by
  have q := PyData.shown_le 100 (by decide) d h.lv
  have w := h.wt
  have p : 4 ^ k ≤ 4 ^ 3 := Nat.pow_le_pow_right (by decide) hk
  omega
theorem str_len2 {x y : Str} : (x ++ y).length = x.length + y.length := by
  show (x.cps ++ y.cps).size = _
  rw [Array.size_append]
  rfl
theorem call_strXY {X : Cx} {r r' : List V → Hp → VK → Prop} (h : CallR X (.type "str") r) (h' : CallR X (.type "str") r') : CallR X (.type "str") fun xs H Q => r xs H Q ∨ r' xs H Q := by
  intro pins s σ H xs us Q I v q
  rcases q with q | q
  · exact h pins s σ H xs us Q I v q
  · exact h' pins s σ H xs us Q I v q
section
variable {P : Program} {w : World} {K : PySem.W.Frag} {mg : Str → Option Value} {base : Heap} {c fi : Nat → Addr} {fdi : Nat → FuncData}
abbrev s_kept : Stmt := top 25
abbrev N_kept : List Str := ["_law_lot", "_law_e"]
abbrev P_kept : List Str := ["_law_lot", "_law_e"]
theorem sc_kept : FnScope N_kept P_kept (defScope s_kept) := ⟨rfl, rfl, rfl, by decide +kernel, rfl, by decide +kernel, by decide +kernel⟩
theorem ok_kept {f : Addr} {fd : FuncData} (B : Bl mg) (Y : Ers K mg c fi fdi) (D : Df K mg "_law_kept" s_kept P_kept f fd) : FnG P w K mg base 4 f fd P_kept (spKept K c) := by
  have S8 : FnG P w K mg base 1 (fi 0) (fdi 0) ["self"] (spStr K 8 c) := ok_InvalidNumber_str B Y
  have S9 : FnG P w K mg base 1 (fi 1) (fdi 1) ["self"] (spStr K 9 c) := ok_UnknownName_str B Y
  refine g_of D.F sc_kept (fun vs H Q h => ?_) (fun cdv A outer s H vs Q hgd0 hr h => ?_)
  · obtain ⟨i, a, v, d, k, rfl, _⟩ := h
    rfl
  · obtain ⟨i, a, v, d, k, rfl, hi, ea, hd, hs, hk, q⟩ := h
    have hgd : (cxOf CX0 P w K mg base N_kept "_law_kept" (defScope s_kept) f cdv A outer s H E0).nox.A.guards = some [] := hgd0
    have h3 := hs.third hk
    have hsz : sizeLine = 16777216 := sizeLine_eq
    have l1 : d.shown.length + (" " : Str).length ≤ sizeLine := by show d.shown.length + 1 ≤ _; omega
    have l2 : (d.shown ++ (" " : Str)).length + d.shown.length ≤ sizeLine := by rw [str_len2]; show d.shown.length + 1 + _ ≤ _; omega
    have eq : ∀ {j : Nat}, decide (V.int i = V.int j) = true → i = j := fun h => by
      have z := V.int.inj (of_decide_eq_true h)
      omega
    have nx : ∀ {j : Nat}, ¬ decide (V.int i = V.int j) = true → i ≠ j := fun h z => h (decide_eq_true (by rw [z]))
    refine ⟨_, (pss_cons (ps_if (pt_cmpR op_lt (pv 0) pe_int (nomark _)) (pss_one (ps_ret pe_str)) pss_nil)
      (pss_cons (ps_if (pt_cmpR op_eq (pv 0) pe_int (nomark _)) (pss_one (ps_ret (pe_callB (call_reprA hgd hr.units) (by rfl) B.b_repr (by decide +kernel) (pa_cons (pe_ef (pv 1)) pa_nil)))) pss_nil)
      (pss_cons (ps_if (pt_cmpR op_eq (pv 0) pe_int (nomark _)) (pss_one (ps_ret (pe_op op_add_str (pe_op op_add_str (pe_callB (call_reprA hgd hr.units) (by rfl) B.b_repr (by decide +kernel) (pa_cons (pe_ef (pv 1)) pa_nil)) pe_str) (pe_callTy (call_strXY (call_strX S8 hgd (hr.mono (by decide)) Y.b8 Y.i8) (call_strX S9 hgd (hr.mono (by decide)) Y.b9 Y.i9)) (by rfl) B.b_str (by decide +kernel) (pa_cons (pv 1) pa_nil))))) pss_nil)
      (pss_cons (ps_if (pt_cmpR op_eq (pv 0) pe_int (nomark _)) (pss_one (ps_ret (pe_op op_add_str (pe_op op_add_str (pe_callB (call_reprA hgd hr.units) (by rfl) B.b_repr (by decide +kernel) (pa_cons (pe_ef (pv 1)) pa_nil)) pe_str) (pe_callTy (call_strXY (call_strX S8 hgd (hr.mono (by decide)) Y.b8 Y.i8) (call_strX S9 hgd (hr.mono (by decide)) Y.b9 Y.i9)) (by rfl) B.b_str (by decide +kernel) (pa_cons (pv 1) pa_nil))))) pss_nil)
      (pss_cons (ps_if (pt_cmpR op_eq (pv 0) pe_int (nomark _)) (pss_one (ps_ret (pe_callB (call_reprA hgd hr.units) (by rfl) B.b_repr (by decide +kernel) (pa_cons (pe_ef (pv 1)) pa_nil)))) pss_nil)
      (pss_cons (ps_if (pt_cmpR op_eq (pv 0) pe_int (nomark _)) (pss_one (ps_ret (pe_callB (call_reprA hgd hr.units) (by rfl) B.b_repr (by decide +kernel) (pa_cons (pe_ef (pv 1)) pa_nil)))) pss_nil)
      (pss_one (ps_ret (pe_ifExp (pt_cmpR op_eq (pv 0) pe_int (nomark _)) (pe_callB (call_reprA hgd hr.units) (by rfl) B.b_repr (by decide +kernel) (pa_cons (pe_ef (pv 1)) pa_nil)) (pe_callB (call_reprA hgd hr.units) (by rfl) B.b_repr (by decide +kernel) (pa_cons (pe_ef (pv 1)) pa_nil))))))))))), ?_⟩
    refine ⟨_, rfl, _, _, rfl, rfl, _, rfl, ite2 (fun e => ?_) (fun e => ?_)⟩
    · have e7 : i < 7 := by have := of_decide_eq_true e; omega
      rw [keptS, if_pos e7] at q
      exact q
    have e7 : ¬ i < 7 := fun z => e (decide_eq_true (by omega))
    refine ⟨_, rfl, rfl, _, rfl, ite2 (fun e8 => ?_) (fun e8 => ?_)⟩
    · obtain rfl := eq (j := 7) e8
      exact ⟨_, rfl, a, c 7, _, v, rfl, ea, xf_of (Y.X 7 hi), Y.no 7 (by decide) hi, rfl, v, d, k, rfl, hd, hs, hk, q⟩
    refine ⟨_, rfl, rfl, _, rfl, ite2 (fun e9 => ?_) (fun e9 => ?_)⟩
    · obtain rfl := eq (j := 8) e9
      refine ⟨_, rfl, a, c 8, _, v, rfl, ea, xf_of (Y.X 8 hi), Y.no 8 (by decide) hi, rfl, v, d, k, rfl, hd, hs, hk, ?_⟩
      exact ⟨_, _, rfl, rfl, l1, _, rfl, .inl ⟨a, c 8, _, rfl, ea, Y.s8, a, v, d, k, rfl, ea, hd, hs, hk, ⟨_, rfl⟩, _, _, rfl, rfl, l2, q⟩⟩
    refine ⟨_, rfl, rfl, _, rfl, ite2 (fun e10 => ?_) (fun e10 => ?_)⟩
    · obtain rfl := eq (j := 9) e10
      refine ⟨_, rfl, a, c 9, _, v, rfl, ea, xf_of (Y.X 9 hi), Y.no 9 (by decide) hi, rfl, v, d, k, rfl, hd, hs, hk, ?_⟩
      exact ⟨_, _, rfl, rfl, l1, _, rfl, .inr ⟨a, c 9, _, rfl, ea, Y.s9, a, v, d, k, rfl, ea, hd, hs, hk, ⟨_, rfl⟩, _, _, rfl, rfl, l2, q⟩⟩
    refine ⟨_, rfl, rfl, _, rfl, ite2 (fun e11 => ?_) (fun e11 => ?_)⟩
    · obtain rfl := eq (j := 10) e11
      exact ⟨_, rfl, a, c 10, _, v, rfl, ea, xf_of (Y.X 10 hi), Y.no 10 (by decide) hi, rfl, v, d, k, rfl, hd, hs, hk, q⟩
    refine ⟨_, rfl, rfl, _, rfl, ite2 (fun e12 => ?_) (fun e12 => ?_)⟩
    · obtain rfl := eq (j := 11) e12
      exact ⟨_, rfl, a, c 11, _, v, rfl, ea, xf_of (Y.X 11 hi), Y.no 11 (by decide) hi, rfl, v, d, k, rfl, hd, hs, hk, q⟩
    have n7 := nx (j := 7) e8
    have n8 := nx (j := 8) e9
    have n9 := nx (j := 9) e10
    have n10 := nx (j := 10) e11
    have n11 := nx (j := 11) e12
    refine ⟨_, rfl, rfl, _, rfl, ite2 (fun e13 => ?_) (fun e13 => ?_)⟩
    · obtain rfl := eq (j := 12) e13
      exact ⟨_, rfl, a, c 12, _, v, rfl, ea, xf_of (Y.X 12 hi), Y.no 12 (by decide) hi, rfl, v, d, k, rfl, hd, hs, hk, q⟩
    · have n12 := nx (j := 12) e13
      obtain rfl : i = 13 := by omega
      exact ⟨_, rfl, a, c 13, _, v, rfl, ea, xf_of (Y.X 13 hi), Y.no 13 (by decide) hi, rfl, v, d, k, rfl, hd, hs, hk, q⟩
abbrev s_due_kept : Stmt := top 26
abbrev N_due_kept : List Str := ["_law_lot", "_law_value"]
abbrev P_due_kept : List Str := ["_law_lot", "_law_value"]
theorem sc_due_kept : FnScope N_due_kept P_due_kept (defScope s_due_kept) := ⟨rfl, rfl, rfl, by decide +kernel, rfl, by decide +kernel, by decide +kernel⟩
theorem ok_due_kept {f : Addr} {fd : FuncData} (B : Bl mg) (D : Df K mg "_law_due_kept" s_due_kept P_due_kept f fd) : FnG P w K mg base 4 f fd P_due_kept (spDueKept K) := by
  refine g_of D.F sc_due_kept (fun vs H Q h => ?_) (fun cdv A outer s H vs Q hgd0 hr h => ?_)
  · obtain ⟨i, v, d, k, rfl, _⟩ := h
    rfl
  · obtain ⟨i, v, d, k, rfl, hi, hd, hs, hk, q⟩ := h
    have hgd : (cxOf CX0 P w K mg base N_due_kept "_law_due_kept" (defScope s_due_kept) f cdv A outer s H E0).nox.A.guards = some [] := hgd0
    have h3 := hs.third hk
    have hsz : sizeLine = 16777216 := sizeLine_eq
    have l1 : d.shown.length + (" " : Str).length ≤ sizeLine := by show d.shown.length + 1 ≤ _; omega
    have l2 : (d.shown ++ (" " : Str)).length + d.shown.length ≤ sizeLine := by rw [str_len2]; show d.shown.length + 1 + _ ≤ _; omega
    refine ⟨_, (pss_cons (ps_if (pt_cmpR op_lt (pv 0) pe_int (nomark _)) (pss_one (ps_ret pe_str)) pss_nil)
      (pss_one (ps_ret (pe_ifExp (pt_cmpR op_in_seq (pv 0) (pe_tup (pa_cons pe_int (pa_cons pe_int pa_nil))) (by rfl)) (pe_op op_add_str (pe_op op_add_str (pe_callB (call_reprA hgd hr.units) (by rfl) B.b_repr (by decide +kernel) (pa_cons (pv 1) pa_nil)) pe_str) (pe_callB (call_reprA hgd hr.units) (by rfl) B.b_repr (by decide +kernel) (pa_cons (pv 1) pa_nil))) (pe_callB (call_reprA hgd hr.units) (by rfl) B.b_repr (by decide +kernel) (pa_cons (pv 1) pa_nil)))))), ?_⟩
    refine ⟨_, rfl, _, _, rfl, rfl, _, rfl, ite2 (fun e => ?_) (fun e => ?_)⟩
    · have e7 : i < 7 := by have := of_decide_eq_true e; omega
      have q := q H (Same.refl H)
      rw [keptS, if_pos e7] at q
      exact q
    have e7 : ¬ i < 7 := fun z => e (decide_eq_true (by omega))
    refine ⟨_, rfl, by show 2 ≤ sizeLine; decide, fun t ht => ?_⟩
    have st := Same.new (o := .tup [V.int 8, .int 9]) ht
    have q := q _ st
    have hd := Dp.same st d v hd
    refine ⟨t, _, rfl, .inr (SqT.of upd_same), rfl, rfl, _, rfl, ite2 (fun e8 => ?_) (fun e8 => ?_)⟩
    · have e89 : i = 8 ∨ i = 9 := of_decide_eq_true ((in89 i hi).symm.trans e8)
      rw [keptS, if_neg e7, if_pos e89] at q
      exact ⟨_, rfl, v, d, k, rfl, hd, hs, hk, _, _, rfl, rfl, l1, _, rfl, v, d, k, rfl, hd, hs, hk, _, _, rfl, rfl, l2, q⟩
    · have e89 : ¬ (i = 8 ∨ i = 9) := fun z => e8 ((in89 i hi).trans (decide_eq_true z))
      rw [keptS, if_neg e7, if_neg e89] at q
      exact ⟨_, rfl, v, d, k, rfl, hd, hs, hk, q⟩
end
end V0
namespace V0
open PySem PySem.Spec PyProof.Rows L2
def spThrown (c : Nat → Addr) : Sp := fun vs H _ E => ∃ (i : Nat) (v : V), vs = [.int i, v] ∧ 7 ≤ i ∧ i < 14 ∧ ∀ d, H d = none → E (.ref (c i)) (some d) (upd H d (.xd (fldL i v)))
def spCaught : Sp := fun vs H Q _ => ∃ (i : Nat) (v : V), vs = [.int i, v] ∧ 7 ≤ i ∧ i < 14 ∧ ∀ H', Same H H' → Q (.int i) H'
section
variable {P : Program} {w : World} {K : PySem.W.Frag} {mg : Str → Option Value} {base : Heap} {c fi : Nat → Addr} {fdi : Nat → FuncData}
abbrev s_thrown : Stmt := top 28
abbrev N_thrown : List Str := ["_law_lot", "_law_value"]
abbrev P_thrown : List Str := ["_law_lot", "_law_value"]
theorem sc_thrown : FnScope N_thrown P_thrown (defScope s_thrown) := ⟨rfl, rfl, rfl, by decide +kernel, rfl, by decide +kernel, by decide +kernel⟩
theorem ok_thrown {f : Addr} {fd : FuncData} (Y : Ers K mg c fi fdi) (D : Df K mg "_law_thrown" s_thrown P_thrown f fd) : FnOk P w K mg base (L2.CX P w) 3 f fd P_thrown (spThrown c) := by
  have G_ParseError_init : FnOk P w K mg base CX0 1 _ _ _ _ := ok_ParseError_init Y
  have G_InvalidNumber_init : FnOk P w K mg base CX0 1 _ _ _ _ := ok_InvalidNumber_init Y
  have G_UnknownName_init : FnOk P w K mg base CX0 1 _ _ _ _ := ok_UnknownName_init Y
  have G_TooMany_init : FnOk P w K mg base CX0 1 _ _ _ _ := ok_TooMany_init Y
  have G_NothingToUndo_init : FnOk P w K mg base CX0 1 _ _ _ _ := ok_NothingToUndo_init Y
  have G_Broken_init : FnOk P w K mg base CX0 1 _ _ _ _ := ok_Broken_init Y
  have G_Spoiled_init : FnOk P w K mg base CX0 1 _ _ _ _ := ok_Spoiled_init Y
  refine D.F.okX sc_thrown (fun vs H Q E h => ?_) (fun cdv A outer s H vs Q E hr h => ?_)
  · obtain ⟨i, v, rfl, _⟩ := h
    rfl
  · obtain ⟨i, v, rfl, h7, hi, k⟩ := h
    have nx : ∀ {j : Nat}, ¬ decide (V.int i = V.int j) = true → i ≠ j := fun h z => h (decide_eq_true (by rw [z]))
    have eq : ∀ {j : Nat}, decide (V.int i = V.int j) = true → i = j := fun h => by
      have z := V.int.inj (of_decide_eq_true h)
      omega
    refine ⟨_, (pss_cons (ps_if (pt_cmpR op_eq (pv 0) pe_int (nomark _)) (pss_one (ps_raise rfl (takes_of rfl rfl rfl rfl) (pmk1c Y.ParseError.c1 Y.ParseError.ex G_ParseError_init (hr.mono (by decide)) Y.ParseError.b (by rfl) Y.ParseError.g (pa_cons (pv 1) pa_nil)))) pss_nil)
      (pss_cons (ps_if (pt_cmpR op_eq (pv 0) pe_int (nomark _)) (pss_one (ps_raise rfl (takes_of rfl rfl rfl rfl) (pmk1c Y.InvalidNumber.c1 Y.InvalidNumber.ex G_InvalidNumber_init (hr.mono (by decide)) Y.InvalidNumber.b (by rfl) Y.InvalidNumber.g (pa_cons (pv 1) pa_nil)))) pss_nil)
      (pss_cons (ps_if (pt_cmpR op_eq (pv 0) pe_int (nomark _)) (pss_one (ps_raise rfl (takes_of rfl rfl rfl rfl) (pmk1c Y.UnknownName.c1 Y.UnknownName.ex G_UnknownName_init (hr.mono (by decide)) Y.UnknownName.b (by rfl) Y.UnknownName.g (pa_cons (pv 1) pa_nil)))) pss_nil)
      (pss_cons (ps_if (pt_cmpR op_eq (pv 0) pe_int (nomark _)) (pss_one (ps_raise rfl (takes_of rfl rfl rfl rfl) (pmk1c Y.TooMany.c1 Y.TooMany.ex G_TooMany_init (hr.mono (by decide)) Y.TooMany.b (by rfl) Y.TooMany.g (pa_cons (pv 1) pa_nil)))) pss_nil)
      (pss_cons (ps_if (pt_cmpR op_eq (pv 0) pe_int (nomark _)) (pss_one (ps_raise rfl (takes_of rfl rfl rfl rfl) (pmk1c Y.NothingToUndo.c1 Y.NothingToUndo.ex G_NothingToUndo_init (hr.mono (by decide)) Y.NothingToUndo.b (by rfl) Y.NothingToUndo.g (pa_cons (pv 1) pa_nil)))) pss_nil)
      (pss_cons (ps_if (pt_cmpR op_eq (pv 0) pe_int (nomark _)) (pss_one (ps_raise rfl (takes_of rfl rfl rfl rfl) (pmk1c Y.Broken.c1 Y.Broken.ex G_Broken_init (hr.mono (by decide)) Y.Broken.b (by rfl) Y.Broken.g (pa_cons (pv 1) pa_nil)))) pss_nil)
      (pss_one (ps_raise rfl (takes_of rfl rfl rfl rfl) (pmk1c Y.Spoiled.c1 Y.Spoiled.ex G_Spoiled_init (hr.mono (by decide)) Y.Spoiled.b (by rfl) Y.Spoiled.g (pa_cons (pv 1) pa_nil)))))))))), ?_⟩
    refine ⟨_, rfl, rfl, _, rfl, ite2 (fun e7 => ?_) (fun e7 => ?_)⟩
    · obtain rfl := eq (j := 7) e7
      exact ⟨_, rfl, v, rfl, k⟩
    have n7 := nx (j := 7) e7
    refine ⟨_, rfl, rfl, _, rfl, ite2 (fun e8 => ?_) (fun e8 => ?_)⟩
    · obtain rfl := eq (j := 8) e8
      exact ⟨_, rfl, v, rfl, k⟩
    have n8 := nx (j := 8) e8
    refine ⟨_, rfl, rfl, _, rfl, ite2 (fun e9 => ?_) (fun e9 => ?_)⟩
    · obtain rfl := eq (j := 9) e9
      exact ⟨_, rfl, v, rfl, k⟩
    have n9 := nx (j := 9) e9
    refine ⟨_, rfl, rfl, _, rfl, ite2 (fun e10 => ?_) (fun e10 => ?_)⟩
    · obtain rfl := eq (j := 10) e10
      exact ⟨_, rfl, v, rfl, k⟩
    have n10 := nx (j := 10) e10
    refine ⟨_, rfl, rfl, _, rfl, ite2 (fun e11 => ?_) (fun e11 => ?_)⟩
    · obtain rfl := eq (j := 11) e11
      exact ⟨_, rfl, v, rfl, k⟩
    have n11 := nx (j := 11) e11
    refine ⟨_, rfl, rfl, _, rfl, ite2 (fun e12 => ?_) (fun e12 => ?_)⟩
    · obtain rfl := eq (j := 12) e12
      exact ⟨_, rfl, v, rfl, k⟩
    have n12 := nx (j := 12) e12
    obtain rfl : i = 13 := by omega
    exact ⟨_, rfl, v, rfl, k⟩
def t_thrown (c : Nat → Addr) (W : WX) : TS := tDrop (tCallS (spThrown c) (WE W) (tCons (tVar 0) (tCons (tVar 1) tNil)))
def clauses (c : Nat → Addr) : List (Value × (Addr → Value → Option Addr → TS)) := [(Value.ref (c 14), (fun (_ : Addr) (_ : Value) (_ : Option Addr) => tRet (tC (.int 7)) : Addr → Value → Option Addr → TS)), (Value.ref (c 8), (fun (_ : Addr) (_ : Value) (_ : Option Addr) => tRet (tC (.int 8)) : Addr → Value → Option Addr → TS)), (Value.ref (c 9), (fun (_ : Addr) (_ : Value) (_ : Option Addr) => tRet (tC (.int 9)) : Addr → Value → Option Addr → TS)), (Value.ref (c 10), (fun (_ : Addr) (_ : Value) (_ : Option Addr) => tRet (tC (.int 10)) : Addr → Value → Option Addr → TS)), (Value.ref (c 11), (fun (_ : Addr) (_ : Value) (_ : Option Addr) => tRet (tC (.int 11)) : Addr → Value → Option Addr → TS)), (Value.ref (c 12), (fun (_ : Addr) (_ : Value) (_ : Option Addr) => tRet (tC (.int 12)) : Addr → Value → Option Addr → TS)), (Value.ref (c 13), (fun (_ : Addr) (_ : Value) (_ : Option Addr) => tRet (tC (.int 13)) : Addr → Value → Option Addr → TS))]
abbrev s_caught : Stmt := top 29
abbrev N_caught : List Str := ["_law_lot", "_law_value"]
abbrev P_caught : List Str := ["_law_lot", "_law_value"]
theorem sc_caught : FnScope N_caught P_caught (defScope s_caught) := ⟨rfl, rfl, rfl, by decide +kernel, rfl, by decide +kernel, by decide +kernel⟩
theorem ok_caught {f f1 : Addr} {fd fd1 : FuncData} (Y : Ers K mg c fi fdi) (D_thrown : Df K mg "_law_thrown" s_thrown P_thrown f1 fd1) (D : Df K mg "_law_caught" s_caught P_caught f fd) : FnOk P w K mg base CX0 4 f fd P_caught spCaught := by
  have G_thrown : FnOk P w K mg base (L2.CX P w) 3 f1 fd1 P_thrown (spThrown c) := ok_thrown Y D_thrown
  refine D.F.ok sc_caught (fun vs H Q E h => ?_) (fun cdv A outer s H vs Q E hr h => ?_)
  · obtain ⟨i, v, rfl, _⟩ := h
    rfl
  · obtain ⟨i, v, rfl, h7, hi, k⟩ := h
    refine ⟨_, (pss_cons (ps_try_many (tb := t_thrown c) (l := clauses c) (Wout := fun _ _ _ _ => False) rfl rfl takes0 (fun W pn xe tk _ => pss_one (ps_expr (by exact (pe_callS G_thrown (hr.mono (by decide)) rfl D_thrown.g D_thrown.F.kp D_thrown.b (fun σ => passAt tk σ) (by exact (pa_cons (pv 0) (pa_cons (pv 1) pa_nil))))))) (HdsOk.cons ⟨rfl, by decide, Or.inl Y.BillError.g⟩ (fun a oe cls d pn hz hf => pss_one (ps_ret pe_int)) (HdsOk.cons ⟨rfl, by decide, Or.inl Y.InvalidNumber.g⟩ (fun a oe cls d pn hz hf => pss_one (ps_ret pe_int)) (HdsOk.cons ⟨rfl, by decide, Or.inl Y.UnknownName.g⟩ (fun a oe cls d pn hz hf => pss_one (ps_ret pe_int)) (HdsOk.cons ⟨rfl, by decide, Or.inl Y.TooMany.g⟩ (fun a oe cls d pn hz hf => pss_one (ps_ret pe_int)) (HdsOk.cons ⟨rfl, by decide, Or.inl Y.NothingToUndo.g⟩ (fun a oe cls d pn hz hf => pss_one (ps_ret pe_int)) (HdsOk.cons ⟨rfl, by decide, Or.inl Y.Broken.g⟩ (fun a oe cls d pn hz hf => pss_one (ps_ret pe_int)) (HdsOk.cons ⟨rfl, by decide, Or.inl Y.Spoiled.g⟩ (fun a oe cls d pn hz hf => pss_one (ps_ret pe_int)) HdsOk.nil))))))))
      (pss_one (ps_ret pe_int))), ?_⟩
    refine ⟨_, rfl, _, rfl, i, v, rfl, h7, hi, fun d hd => ?_⟩
    have st := Same.new (o := .xd (fldL i v)) hd
    have h8 : ∀ j, 8 ≤ j → j < 14 → subT i j = true → j = i := fun j _ h e => by rw [subT, if_pos h] at e; exact of_decide_eq_true e
    have hit : ∀ j, j < 14 → 8 ≤ j → subT i j = true → Q (.int (j : Nat)) (upd H d (.xd (fldL i v))) := fun j h a e => by rw [h8 j a h e]; exact k _ st
    have hit7 : subT i 14 = true → Q (.int (7 : Nat)) (upd H d (.xd (fldL i v))) := fun e => by
      rw [subT, if_neg (by decide)] at e
      have z := of_decide_eq_true e
      obtain rfl : i = 7 := by omega
      exact k _ st
    have no : ∀ j, 7 ≤ j → subT i 14 = false → (∀ n, 8 ≤ n → n < 14 → subT i n = false) → False := fun j _ e e2 => by
      by_cases h : i = 7
      · subst h; exact absurd e (by decide)
      · have := e2 i (by omega) hi
        rw [subT, if_pos hi, decide_eq_true rfl] at this
        cases this
    exact ⟨subT i 14, Y.exm i 14 hi (by decide), fun e a _ => hit7 e, fun e14 => ⟨subT i 8, Y.exm i 8 hi (by decide), fun e a _ => hit 8 (by decide) (by decide) e, fun e8 => ⟨subT i 9, Y.exm i 9 hi (by decide), fun e a _ => hit 9 (by decide) (by decide) e, fun e9 => ⟨subT i 10, Y.exm i 10 hi (by decide), fun e a _ => hit 10 (by decide) (by decide) e, fun e10 => ⟨subT i 11, Y.exm i 11 hi (by decide), fun e a _ => hit 11 (by decide) (by decide) e, fun e11 => ⟨subT i 12, Y.exm i 12 hi (by decide), fun e a _ => hit 12 (by decide) (by decide) e, fun e12 => ⟨subT i 13, Y.exm i 13 hi (by decide), fun e a _ => hit 13 (by decide) (by decide) e, fun e13 => (no 7 (Nat.le_refl _) e14 (fun n a b => by
        have : n = 8 ∨ n = 9 ∨ n = 10 ∨ n = 11 ∨ n = 12 ∨ n = 13 := by omega
        rcases this with rfl | rfl | rfl | rfl | rfl | rfl <;> assumption)).elim⟩⟩⟩⟩⟩⟩⟩
end
end V0
namespace V0
open PySem PySem.Spec PyProof.Rows L2
def hide (p : Addr) (H : Hp) : Hp := fun b => if b = p then none else H b
theorem hide_ne {p b : Addr} {H : Hp} (h : b ≠ p) : hide p H b = H b := if_neg h
theorem hide_eq {p b : Addr} {H : Hp} {o : HO} (h : hide p H b = some o) : b ≠ p ∧ H b = some o := by
  by_cases e : b = p
  · have q : hide p H b = none := if_pos e
    rw [q] at h
    cases h
  · exact ⟨e, (hide_ne (H := H) e).symm.trans h⟩
theorem But.hide {p : Addr} {H H' : Hp} (b : But p H H') : Same (hide p H) (hide p H') := fun c o h => by
  obtain ⟨e, q⟩ := hide_eq h
  rw [hide_ne e]
  exact b c o q e
theorem hide_same {p : Addr} {H : Hp} : Same (hide p H) H := fun c o h => (hide_eq h).2
theorem Pot.but {H H' : Hp} {p q : Addr} (h : Pot H p) (b : But q H H') (n : p ≠ q) : Pot H' p := by
  obtain ⟨a, b', c, hp, r⟩ := h
  exact ⟨a, b', c, b _ _ hp n, r⟩
theorem Pot.some {H : Hp} {p : Addr} (h : Pot H p) : ∃ o, H p = some o := by
  obtain ⟨a, b, c, hp, _⟩ := h
  exact ⟨_, hp⟩
theorem pot_ne {H : Hp} {p q : Addr} (h : Pot H p) (n : H q = none) : q ≠ p := fun z => by
  obtain ⟨o, e⟩ := h.some
  rw [← z, n] at e
  cases e
def spShuffled : Sp := fun vs H Q _ => ∃ (p l : Addr) (xs : List V), vs = [.ref p, .ref l] ∧ Pot H p ∧ l ≠ p ∧ H l = some (.lst xs) ∧ xs.length ≤ 100 ∧
  ∀ (q : Addr) (ys : List V) (H' : Hp), (∀ y ∈ ys, y ∈ xs) → ys.length = xs.length → H' q = some (.lst ys) → q ≠ p → H q = none → Pot H' p → But p H H' → Q (.ref q) H'
section
variable {P : Program} {w : World} {K : PySem.W.Frag} {mg : Str → Option Value} {base : Heap}
def t_pop (K : PySem.W.Frag) : TE := tBM K "list" rPopAt (tVar 2) (tCons (tCall spStir [] E0 (tCons (tVar 0) (tCons (tCB (fun xs H Q => ∃ x n, xs = [x] ∧ LenV K x H n ∧ Q (.int n) H) (tCons (tVar 2) tNil)) tNil))) tNil)
abbrev s_shuffled : Stmt := top 20
abbrev N_shuffled : List Str := ["_law_pot_here", "_law_items", "_law_waits", "_law_turn"]
abbrev P_shuffled : List Str := ["_law_pot_here", "_law_items"]
theorem sc_shuffled : FnScope N_shuffled P_shuffled (defScope s_shuffled) := ⟨rfl, rfl, rfl, by decide +kernel, rfl, by decide +kernel, by decide +kernel⟩
theorem ok_shuffled {f f1 : Addr} {fd fd1 : FuncData} (B : Bl mg) (D_stir : Df K mg "_law_stir" s_stir P_stir f1 fd1) (D : Df K mg "_law_shuffled" s_shuffled P_shuffled f fd) : FnOk P w K mg base CX0 2 f fd P_shuffled spShuffled := by
  have G_stir : FnOk P w K mg base CX0 1 f1 fd1 P_stir spStir := ok_stir B D_stir
  refine D.F.ok sc_shuffled (fun vs H Q E h => ?_) (fun cdv A outer s H vs Q E hr h => ?_)
  · obtain ⟨p, l, xs, rfl, _⟩ := h
    rfl
  · obtain ⟨p, l, xs, rfl, hp, hlp, hl, hn, k⟩ := h
    refine ⟨_, (pss_cons (ps_set (i := 2) sc_shuffled.nd rfl (Or.inr rfl) (pe_callTy call_list_of (by rfl) B.b_list (by decide +kernel) (pa_cons (pv 1) pa_nil)))
      (pss_one (ps_ret (pe_lc (own := [("_law_turn", 3)]) (g := gName 3) (tt := tYes) rfl sc_shuffled.nd (pi_range1 rfl B.b_range (pa_cons (pe_callB call_len (by rfl) B.b_len (by decide +kernel) (pa_cons (pv 1) pa_nil)) pa_nil)) (blkOk_by (own := [("_law_turn", 3)]) (N := N_shuffled) (sc := defScope s_shuffled) (by decide +kernel)) (fun _ _ _ _ _ => (pg_name (i := 3) sc_shuffled.nd rfl (Or.inl rfl))) (fun _ _ _ _ _ => pts_nil) (fun _ _ _ _ _ => (show PE _ _ (t_pop K) from by exact (pe_bm PySem.F.plainAttrs_list PySem.F.slot_list_pop PySem.F.type_list_pop mt_popAt (pv 2) (pa_cons (by exact (pe_call G_stir (hr.mono (by decide)) (by rfl) D_stir.g D_stir.F.kp D_stir.b .nil pass0 (pa_cons (pv 0) (pa_cons (by exact (pe_callB call_len (by rfl) B.b_len (by decide +kernel) (pa_cons (pv 2) pa_nil))) pa_nil)))) pa_nil)))))))), ?_⟩
    refine ⟨_, rfl, l, xs, rfl, .inl (SqL.of hl), fun W hW => ?_⟩
    have sW := Same.new (o := .lst xs) hW
    have eW : (upd H W (.lst xs)) W = _ := upd_same
    have nWp := pot_ne hp hW
    generalize upd H W (.lst xs) = H1 at sW eW
    refine ⟨_, rfl, _, xs.length, rfl, .inl ⟨_, SqL.of (sW _ _ hl), rfl⟩, (xs.length : Int), rfl, by omega, by omega, fun D hD => ?_⟩
    have nDp := pot_ne (hp.same sW) hD
    have nDW := ne_of_none eW hD
    have nD0 : H D = none := by
      cases e : H D with
      | none => rfl
      | some o => rw [sW _ _ e] at hD; cases hD
    refine lc_range (lo := 0) (n := _) (fun m H' => Pot H' p ∧ But p H H' ∧ ∃ rs ys : List V, H' W = some (.lst rs) ∧ rs.length + m = xs.length ∧ (∀ r ∈ rs, r ∈ xs) ∧ H' D = some (.lst ys) ∧ ys.length = m ∧ ∀ y ∈ ys, y ∈ xs)
      ⟨(hp.same sW).same (Same.new hD), But.of (sW.trans (Same.new hD)), xs, [], Same.new hD _ _ eW, rfl, fun _ h => h, upd_same, rfl, fun _ h => nomatch h⟩ (fun m H' hm ⟨pm, bm, rs, ys, e1, e2, e3, e4, e5, e6⟩ => ?_) (fun H' ⟨pm, bm, rs, ys, e1, e2, e3, e4, e5, e6⟩ => ?_)
    · refine ⟨rfl, ?_⟩
      dsimp only [tYes]
      rw [if_pos (show true = true from rfl)]
      refine ⟨_, rfl, .inl ⟨rfl, _, SqL.of e1⟩, _, rfl, _, rfl, _, rs.length, rfl, .inl ⟨_, SqL.of e1, rfl⟩, p, _, rfl, pm, by omega, by omega, fun r H2 r0 r1 p2 b2 => ?_⟩
      have e1' := b2 _ _ e1 nWp
      have e4' := b2 _ _ e4 nDp
      have hr : r.toNat < rs.length := by omega
      refine ⟨W, rs, r, r.toNat, rs[r.toNat], rfl, rfl, e1', by omega, by omega, seqIndex_of r0 r1, List.getElem?_eq_getElem hr, ys, ?_, by rw [e5]; show m < sizeLine; rw [sizeLine_eq]; omega, ?_⟩
      · rw [upd_ne nDW.symm]; exact e4'
      · refine ⟨?_, fun b o e hb => ?_, rs.eraseIdx r.toNat, ys ++ [rs[r.toNat]], ?_, ?_, fun x hx => e3 x (List.mem_of_mem_eraseIdx hx), upd_same, ?_, fun y hy => ?_⟩
        · obtain ⟨a, b', c, hp', r'⟩ := p2
          exact ⟨a, b', c, by rw [upd_ne nDp.symm, upd_ne nWp.symm]; exact hp', r'⟩
        · rw [upd_ne (fun z => by have := sW b o e; rw [z, hD] at this; cases this), upd_ne (ne_of_none e hW)]
          exact b2 b o (bm b o e hb) hb
        · rw [upd_ne nDW, upd_same]
        · rw [List.length_eraseIdx_of_lt hr]
          omega
        · rw [List.length_append, e5]
          rfl
        · rcases List.mem_append.mp hy with hy | hy
          · exact e6 y hy
          · rw [List.mem_singleton.mp hy]
            exact e3 _ (List.getElem_mem hr)
    · exact k D ys H' e6 (by omega) e4 nDp nD0 pm bm
end
end V0
namespace V0
open PySem PySem.Spec PyProof.Rows L2
/-- list of a text: its signs -/
def sgs (x : Str) : List V := x.cps.toList.map fun c => .str ⟨#[c]⟩
theorem call_list_S {X : Cx} (hc : X.calm = true) : CallR X (.type "list") fun xs H Q => ∃ x, xs = [.str x] ∧ x.length ≤ sizeLine ∧ ∀ l, H l = none → Q (.ref l) (upd H l (.lst (sgs x))) := by
  intro pins s σ H xs us Q I r h
  obtain ⟨x, rfl, hx, q⟩ := h
  obtain ⟨u, rfl, t, rfl⟩ := vals1 r
  refine PySem.call_list_str (hn := hx) (I.ok.hd hc) x t fun h' tk acc c' hk e hi => ?_
  have hl : (sgs x).length = x.cps.size := by unfold sgs; rw [List.length_map, Array.length_toList]
  refine ⟨.ref s.heap.objs.size, upd H s.heap.objs.size (.lst (sgs x)), I.laid hk (Nat.le_refl _) (show ObjOk X.prog X.w _ _ _ (.lst (sgs x)) from ⟨?_, acc.toList, c', vals_of_at ?_ fun j y u hy hu => ?_, ?_⟩), rfl, q _ (I.hok.fresh (Nat.le_refl _))⟩
  · rw [hl]
    exact hx
  · rw [hl, Array.length_toList, hi.1]
  · obtain ⟨c, t2, hcj, rfl⟩ := hi.2 j u (by rw [← hu, Array.getElem?_toList])
    unfold sgs at hy
    rw [List.getElem?_map, Array.getElem?_toList, hcj] at hy
    cases hy
    exact ⟨t2, rfl⟩
  · rw [Array.toArray_toList]
    exact e
/-- a value that the law draws -/
def Vl (K : PySem.W.Frag) (H : Hp) (v : V) : Prop := ∃ (d : PyData) (k : Nat), Dp K H v d ∧ Sm k d ∧ k ≤ 3
theorem Vl.same {K : PySem.W.Frag} {H H' : Hp} {v : V} (s : Same H H') (h : Vl K H v) : Vl K H' v := by
  obtain ⟨d, k, hd, r⟩ := h
  exact ⟨d, k, Dp.same s d v hd, r⟩
theorem Vl.int {K : PySem.W.Frag} {H : Hp} {i : Int} (h : i.natAbs < 10 ^ 90) : Vl K H (.int i) := ⟨_, 0, .int i, Sm.int h, by decide⟩
theorem Vl.str {K : PySem.W.Frag} {H : Hp} {z : Str} (h : z.length ≤ 900) (ho : PyData.strOk z = true) : Vl K H (.str z) := ⟨_, 0, .str z, Sm.str h ho, by decide⟩
theorem dp_strs {K : PySem.W.Frag} {H : Hp} : ∀ zs : List Str, DpAll K H (zs.map .str) (zs.map .str)
  | [] => .nil
  | z :: zs => .cons (.str z) (dp_strs zs)
theorem Vl.tup {K : PySem.W.Frag} {H : Hp} {a : Addr} {zs : List Str} (h : H a = some (.tup (zs.map .str))) (hl : zs.length ≤ 8) (hz : ∀ z ∈ zs, z.length ≤ 900 ∧ PyData.strOk z = true) : Vl K H (.ref a) := by
  refine ⟨_, 2, .tup (SqT.of h) (dp_strs zs), ?_, by decide⟩
  obtain ⟨a, b, c, e⟩ := sm_all (k := 0) (zs.map PyData.str) fun d hd => by
    obtain ⟨z, hm, rfl⟩ := List.mem_map.mp hd
    exact Sm.str (hz z hm).1 (hz z hm).2
  have e' : PyData.weightAll (zs.map PyData.str) ≤ 8 * 1001 := Nat.le_trans e (by rw [List.length_map]; exact Nat.mul_le_mul_right _ hl)
  exact ⟨a, b, by show PyData.depthAll _ + 1 ≤ 2; omega, by show PyData.weightAll _ ≤ 1000 * 4 ^ 2; omega⟩
theorem cut_abc (a b : Int) : ∃ zs : List Str, cutV (sgs "abcdefgh") (some a) (some b) = zs.map .str ∧ ∀ z ∈ zs, z.length ≤ 900 ∧ PyData.strOk z = true := by
  have e : sgs "abcdefgh" = (("abcdefgh" : Str).cps.toList.map fun c => (⟨#[c]⟩ : Str)).map V.str := by unfold sgs; rw [List.map_map]; rfl
  have all : ∀ z ∈ (("abcdefgh" : Str).cps.toList.map fun c => (⟨#[c]⟩ : Str)), z.length ≤ 900 ∧ PyData.strOk z = true := by decide +kernel
  unfold cutV
  rw [e, ← List.map_drop, ← List.map_take]
  exact ⟨_, rfl, fun z hz => all z (List.mem_of_mem_drop (List.mem_of_mem_take hz))⟩
/-- what is new in H' -/
def nw (H H' : Hp) : Hp := fun b => match H b with | none => H' b | some _ => none
theorem nw_at {H H' : Hp} {b : Addr} (h : H b = none) : nw H H' b = H' b := by unfold nw; rw [h]
theorem nw_eq {H H' : Hp} {b : Addr} {o : HO} (h : nw H H' b = some o) : H b = none ∧ H' b = some o := by
  unfold nw at h
  split at h
  · rename_i e
    exact ⟨e, h⟩
  · cases h
theorem none_of {H H' : Hp} {b : Addr} (s : Same H H') (h : H' b = none) : H b = none := by
  cases e : H b with
  | none => rfl
  | some o => rw [s b o e] at h; cases h
def spValue (K : PySem.W.Frag) : Sp := fun vs H Q _ => ∃ (p : Addr) (i : Nat), vs = [.ref p, .int i] ∧ Pot H p ∧ i < 14 ∧ ∀ (v : V) (H' : Hp), Vl K (nw H H') v → Pot H' p → But p H H' → Q v H'
section
variable {P : Program} {w : World} {K : PySem.W.Frag} {mg : Str → Option Value} {base : Heap}
abbrev s_value_for : Stmt := top 27
abbrev N_value_for : List Str := ["_law_pot_here", "_law_lot"]
abbrev P_value_for : List Str := ["_law_pot_here", "_law_lot"]
theorem sc_value_for : FnScope N_value_for P_value_for (defScope s_value_for) := ⟨rfl, rfl, rfl, by decide +kernel, rfl, by decide +kernel, by decide +kernel⟩
theorem ok_value_for {f f1 f2 : Addr} {fd fd1 fd2 : FuncData} (B : Bl mg) (D_stir : Df K mg "_law_stir" s_stir P_stir f1 fd1) (D_one_of : Df K mg "_law_one_of" s_one_of P_one_of f2 fd2) (D : Df K mg "_law_value_for" s_value_for P_value_for f fd) : FnOk P w K mg base CX0 3 f fd P_value_for (spValue K) := by
  have G_stir : FnOk P w K mg base CX0 1 f1 fd1 P_stir spStir := ok_stir B D_stir
  have G_one_of : FnOk P w K mg base CX0 2 f2 fd2 P_one_of (spOneOf K) := ok_one_of B D_stir D_one_of
  refine D.F.ok sc_value_for (fun vs H Q E h => ?_) (fun cdv A outer s H vs Q E hr h => ?_)
  · obtain ⟨p, i, rfl, _⟩ := h
    rfl
  · obtain ⟨p, i, rfl, hp, hi, k⟩ := h
    refine ⟨_, (pss_cons (ps_if (pt_cmpR op_in_seq (pv 1) (pe_tup (pa_cons pe_int (pa_cons pe_int (pa_cons pe_int pa_nil)))) (by rfl)) (pss_one (ps_ret (pe_call G_one_of (hr.mono (by decide)) (by rfl) D_one_of.g D_one_of.F.kp D_one_of.b .nil pass0 (pa_cons (pv 0) (pa_cons (pe_lst (pa_cons pe_int (pa_cons pe_int (pa_cons pe_int (pa_cons pe_int (pa_cons (pe_call G_stir (hr.mono (by decide)) (by rfl) D_stir.g D_stir.F.kp D_stir.b .nil pass0 (pa_cons (pv 0) (pa_cons (pe_op op_pow pe_int pe_int) pa_nil))) pa_nil)))))) pa_nil))))) pss_nil)
      (pss_cons (ps_if (pt_cmpR op_in_seq (pv 1) (pe_tup (pa_cons pe_int (pa_cons pe_int pa_nil))) (by rfl)) (pss_one (ps_ret (pe_call G_one_of (hr.mono (by decide)) (by rfl) D_one_of.g D_one_of.F.kp D_one_of.b .nil pass0 (pa_cons (pv 0) (pa_cons (pe_lst (pa_cons pe_non (pa_cons pe_bl (pa_cons pe_int (pa_cons (pe_un un_neg pe_int) (pa_cons pe_str (pa_cons pe_str (pa_cons pe_str (pa_cons (pe_tup (pa_cons pe_int (pa_cons pe_str pa_nil))) (pa_cons (pe_lst (pa_cons pe_str pa_nil)) (pa_cons (pe_op op_add (pe_op op_pow pe_int pe_int) (pe_call G_stir (hr.mono (by decide)) (by rfl) D_stir.g D_stir.F.kp D_stir.b .nil pass0 (pa_cons (pv 0) (pa_cons pe_int pa_nil)))) pa_nil))))))))))) pa_nil))))) pss_nil)
      (pss_cons (ps_if (pt_cmpR op_eq (pv 1) pe_int (nomark _)) (pss_one (ps_ret (pe_callTy call_tuple_of (by rfl) B.b_tuple (by decide +kernel) (pa_cons (pe_slice sl_list (pe_callTy (call_list_S rfl) (by rfl) B.b_list (by decide +kernel) (pa_cons pe_str pa_nil)) (po_some (pe_call G_stir (hr.mono (by decide)) (by rfl) D_stir.g D_stir.F.kp D_stir.b .nil pass0 (pa_cons (pv 0) (pa_cons pe_int pa_nil)))) (po_some (pe_op op_add pe_int (pe_call G_stir (hr.mono (by decide)) (by rfl) D_stir.g D_stir.F.kp D_stir.b .nil pass0 (pa_cons (pv 0) (pa_cons pe_int pa_nil)))))) pa_nil)))) pss_nil)
      (pss_one (ps_ret (pe_call G_one_of (hr.mono (by decide)) (by rfl) D_one_of.g D_one_of.F.kp D_one_of.b .nil pass0 (pa_cons (pv 0) (pa_cons (pe_lst (pa_cons pe_str (pa_cons pe_str (pa_cons pe_str (pa_cons pe_str (pa_cons pe_str pa_nil)))))) pa_nil)))))))), ?_⟩
    refine ⟨_, rfl, by show 3 ≤ sizeLine; decide, fun t ht => ?_⟩
    have s1 := Same.new (o := .tup [V.int 7, .int 10, .int 11]) ht
    refine ⟨t, _, rfl, .inr (SqT.of upd_same), rfl, rfl, _, rfl, ite2 (fun _ => ?_) (fun _ => ?_)⟩
    · generalize upd H t (.tup [V.int 7, .int 10, .int 11]) = H1 at s1
      refine ⟨_, rfl, _, rfl, _, _, rfl, rfl, ⟨by decide, by decide, by decide⟩, p, _, rfl, hp.same s1, by decide, by decide, fun r H2 r0 r1 p2 b2 => ⟨by show 5 ≤ sizeLine; decide, fun l hl => ?_⟩⟩
      have nl := pot_ne p2 hl
      have s3 := Same.new (o := .lst [V.int 0, .int 1, .int 8, .int 60, .int r]) hl
      refine ⟨p, .ref l, rfl, p2.same s3, .inl ⟨l, _, rfl, nl, upd_same, by simp, by show 5 ≤ 1000; decide, fun x hx H3 p3 b3 => ?_⟩⟩
      refine k x H3 ?_ p3 ((((But.of s1).trans b2).trans (But.of s3)).trans b3)
      have ten : (10 : Int) ^ Int.toNat 12 = 1000000000000 := by decide
      rw [ten] at r1
      simp only [List.mem_cons, List.not_mem_nil, or_false] at hx
      rcases hx with rfl | rfl | rfl | rfl | rfl
      · exact .int (by decide)
      · exact .int (by decide)
      · exact .int (by decide)
      · exact .int (by decide)
      · exact .int (by omega)
    generalize upd H t (.tup [V.int 7, .int 10, .int 11]) = H1 at s1
    have hp1 := hp.same s1
    refine ⟨_, rfl, by show 2 ≤ sizeLine; decide, fun t2 ht2 => ?_⟩
    have s2 := Same.new (o := .tup [V.int 8, .int 9]) ht2
    refine ⟨t2, _, rfl, .inr (SqT.of upd_same), rfl, rfl, _, rfl, ite2 (fun _ => ?_) (fun _ => ?_)⟩
    · generalize upd H1 t2 (.tup [V.int 8, .int 9]) = H2 at s2
      have hp2 := hp1.same s2
      refine ⟨_, rfl, _, rfl, by show 2 ≤ sizeLine; decide, fun u hu => ?_⟩
      have nu := pot_ne hp2 hu
      have s3 := Same.new (o := .tup [V.int 1, .str "a"]) hu
      have e3 : (upd H2 u (.tup [V.int 1, .str "a"])) u = _ := upd_same
      generalize upd H2 u (.tup [V.int 1, .str "a"]) = H3 at s3 e3
      have hp3 := hp2.same s3
      refine ⟨by show 1 ≤ sizeLine; decide, fun y hy => ?_⟩
      have ny := pot_ne hp3 hy
      have s4 := Same.new (o := .lst [V.str "a"]) hy
      have e4 : (upd H3 y (.lst [V.str "a"])) y = _ := upd_same
      have e3' := s4 _ _ e3
      generalize upd H3 y (.lst [V.str "a"]) = H4 at s4 e4 e3'
      have hp4 := hp3.same s4
      refine ⟨_, _, rfl, rfl, ⟨by decide, by decide, by decide⟩, _, rfl, p, _, rfl, hp4, by decide, by decide, fun r H5 r0 r1 p5 b5 => ⟨_, _, rfl, rfl, by show 10 ≤ sizeLine; decide, fun l hl => ?_⟩⟩
      have nl := pot_ne p5 hl
      have e3b := b5 _ _ e3' nu
      have e4b := b5 _ _ e4 ny
      have gb : ((10 : Int) ^ Int.toNat 60 + r).natAbs < 10 ^ 90 := by
        have ten : (10 : Int) ^ Int.toNat 60 = 1000000000000000000000000000000000000000000000000000000000000 := by decide +kernel
        rw [ten]
        omega
      have s6 := Same.new (o := .lst [V.non, .bl true, .int 0, .int (-7), .str "", .str "road", .str "it's", .ref u, .ref y, .int ((10 : Int) ^ Int.toNat 60 + r)]) hl
      have e3c := s6 _ _ e3b
      have e4c := s6 _ _ e4b
      refine ⟨p, .ref l, rfl, p5.same s6, .inl ⟨l, _, rfl, nl, upd_same, by simp, by show 10 ≤ 1000; decide, fun x hx H7 p7 b7 => ?_⟩⟩
      refine k x H7 ?_ p7 ((((But.of (((s1.trans s2).trans s3).trans s4)).trans b5).trans (But.of s6)).trans b7)
      have e3d : nw H H7 u = _ := (nw_at (none_of (s1.trans s2) hu)).trans (b7 _ _ e3c nu)
      have e4d : nw H H7 y = _ := (nw_at (none_of ((s1.trans s2).trans s3) hy)).trans (b7 _ _ e4c ny)
      simp only [List.mem_cons, List.not_mem_nil, or_false] at hx
      rcases hx with rfl | rfl | rfl | rfl | rfl | rfl | rfl | rfl | rfl | rfl
      · exact ⟨_, 0, .non, Sm.non, by decide⟩
      · exact ⟨_, 0, .bl _, Sm.bl _, by decide⟩
      · exact .int (by decide)
      · exact .int (by decide)
      · exact .str (by decide) (by decide +kernel)
      · exact .str (by decide) (by decide +kernel)
      · exact .str (by decide) (by decide +kernel)
      · refine ⟨_, 1, .tup (SqT.of e3d) (.cons (.int 1) (.cons (.str "a") .nil)), (Sm.seq (k := 0) (fun d hd => ?_) (by decide)).2, by decide⟩
        simp only [List.mem_cons, List.not_mem_nil, or_false] at hd
        rcases hd with rfl | rfl
        · exact Sm.int (by decide)
        · exact Sm.str (by decide) (by decide +kernel)
      · refine ⟨_, 1, .lst (SqL.of e4d) (.cons (.str "a") .nil), (Sm.seq (k := 0) (fun d hd => ?_) (by decide)).1, by decide⟩
        simp only [List.mem_cons, List.not_mem_nil, or_false] at hd
        subst hd
        exact Sm.str (by decide) (by decide +kernel)
      · exact .int gb
    generalize upd H1 t2 (.tup [V.int 8, .int 9]) = H2 at s2
    have hp2 := hp1.same s2
    have sA := s1.trans s2
    refine ⟨_, rfl, rfl, _, rfl, ite2 (fun _ => ?_) (fun _ => ?_)⟩
    · refine ⟨_, rfl, by show 8 ≤ sizeLine; decide, fun l hl => ?_⟩
      have nl := pot_ne hp2 hl
      have s3 := Same.new (o := .lst (sgs "abcdefgh")) hl
      have e3 : (upd H2 l (.lst (sgs "abcdefgh"))) l = _ := upd_same
      generalize upd H2 l (.lst (sgs "abcdefgh")) = H3 at s3 e3
      refine ⟨_, rfl, p, _, rfl, hp2.same s3, by decide, by decide, fun r H4 r0 r1 p4 b4 => ⟨r, rfl, _, rfl, p, _, rfl, p4, by decide, by decide, fun r' H5 r0' r1' p5 b5 => ⟨_, _, rfl, rfl, 5 + r', rfl, ?_⟩⟩⟩
      have e5 := b5 _ _ (b4 _ _ e3 nl) nl
      refine ⟨l, _, rfl, SqL.of e5, fun q hq => ⟨q, _, rfl, .inl ⟨SqL.of upd_same, fun u hu => ?_⟩⟩⟩
      have s6 := Same.new (o := .lst (cutV (sgs "abcdefgh") (some r) (some (5 + r')))) hq
      have nu := pot_ne (p5.same s6) hu
      have s7 := Same.new (o := .tup (cutV (sgs "abcdefgh") (some r) (some (5 + r')))) hu
      refine k _ _ ?_ ((p5.same s6).same s7) ((((But.of (sA.trans s3)).trans b4).trans b5).trans (But.of (s6.trans s7)))
      obtain ⟨zs, ez, hz⟩ := cut_abc r (5 + r')
      rw [ez]
      have hl8 : zs.length ≤ 8 := by
        have := cutV_length (sgs "abcdefgh") (some r) (some (5 + r'))
        rw [ez, List.length_map] at this
        exact this
      have n0 : H u = none := by
        have z := none_of s6 hu
        have z5 : H3 u = none := by
          cases e : H3 u with
          | none => rfl
          | some o =>
            by_cases hup : u = p
            · exact absurd hup nu
            · rw [b5 _ _ (b4 _ _ e hup) hup] at z
              cases z
        exact none_of (sA.trans s3) z5
      exact .tup (by rw [nw_at n0, upd_same]) hl8 hz
    · refine ⟨_, rfl, by show 5 ≤ sizeLine; decide, fun l hl => ?_⟩
      have nl := pot_ne hp2 hl
      have s3 := Same.new (o := .lst [V.str "", .str "a message", .str "two words", .str "road", .str "rule"]) hl
      refine ⟨p, .ref l, rfl, hp2.same s3, .inl ⟨l, _, rfl, nl, upd_same, by simp, by show 5 ≤ 1000; decide, fun x hx H3 p3 b3 => ?_⟩⟩
      refine k x H3 ?_ p3 ((But.of (sA.trans s3)).trans b3)
      simp only [List.mem_cons, List.not_mem_nil, or_false] at hx
      rcases hx with rfl | rfl | rfl | rfl | rfl
      all_goals exact .str (by decide) (by decide +kernel)
end
end V0
namespace V0
open PySem PySem.Spec PyProof.Rows L2
def hh (p q : Addr) (H : Hp) : Hp := fun b => if b = p ∨ b = q then none else H b
theorem hh_ne {p q b : Addr} {H : Hp} (h : b ≠ p) (h2 : b ≠ q) : hh p q H b = H b := if_neg (fun z => z.elim h h2)
theorem hh_eq {p q b : Addr} {H : Hp} {o : HO} (h : hh p q H b = some o) : b ≠ p ∧ b ≠ q ∧ H b = some o := by
  by_cases e : b = p ∨ b = q
  · have z : hh p q H b = none := if_pos e
    rw [z] at h
    cases h
  · have z : hh p q H b = H b := if_neg e
    exact ⟨fun x => e (.inl x), fun x => e (.inr x), z.symm.trans h⟩
def But2 (p q : Addr) (H H' : Hp) : Prop := ∀ b o, H b = some o → b ≠ p → b ≠ q → H' b = some o
theorem But.two {p q : Addr} {H H' : Hp} (h : But p H H') : But2 p q H H' := fun b o e n _ => h b o e n
theorem But2.hh {p q : Addr} {H H' : Hp} (h : But2 p q H H') : Same (hh p q H) (V0.hh p q H') := fun b o e => by
  obtain ⟨n1, n2, e⟩ := hh_eq e
  rw [hh_ne n1 n2]
  exact h b o e n1 n2
theorem But2.trans {p q : Addr} {H H1 H2 : Hp} (a : But2 p q H H1) (b : But2 p q H1 H2) : But2 p q H H2 := fun c o e h k => b c o (a c o e h k) h k
theorem But2.of {p q : Addr} {H H' : Hp} (s : Same H H') : But2 p q H H' := fun b o e _ _ => s b o e
/-- what the law finds: (lot, value, error) -/
def Item (K : PySem.W.Frag) (c : Nat → Addr) (H : Hp) (t : V) : Prop := ∃ (tq e : Addr) (i : Nat) (v : V), t = .ref tq ∧ i < 14 ∧ H tq = some (.tup [.int i, v, .ref e]) ∧ Vl K H v ∧ ErrAt H e (c i) (fldL i v)
theorem Item.same {K : PySem.W.Frag} {c : Nat → Addr} {H H' : Hp} {t : V} (s : Same H H') (h : Item K c H t) : Item K c H' t := by
  obtain ⟨tq, e, i, v, r, hi, ht, hv, he⟩ := h
  exact ⟨tq, e, i, v, r, hi, s _ _ ht, hv.same s, he.same s⟩
/-- while the lots are gone through: ys the lots, at q; fl what is found -/
structure Tn (K : PySem.W.Frag) (c : Nat → Addr) (H0 H : Hp) (p fl q : Addr) (ys : List V) (n : Nat) : Prop where
  old : Same H0 H
  pot : Pot H p
  fnd : ∃ ts, H fl = some (.lst ts) ∧ ts.length ≤ n ∧ ∀ t ∈ ts, Item K c (hh p fl H) t
  lots : H q = some (.lst ys)
  np : H0 p = none
  nf : H0 fl = none
  fp : fl ≠ p
  qp : q ≠ p
  qf : q ≠ fl
theorem Tn.keep {K : PySem.W.Frag} {c : Nat → Addr} {H0 H H' : Hp} {p fl q : Addr} {ys : List V} {n : Nat} (t : Tn K c H0 H p fl q ys n) (s : Same H H') : Tn K c H0 H' p fl q ys n := by
  obtain ⟨ts, e, l, i⟩ := t.fnd
  exact ⟨t.old.trans s, t.pot.same s, ⟨ts, s _ _ e, l, fun x hx => (i x hx).same (But2.of s).hh⟩, s _ _ t.lots, t.np, t.nf, t.fp, t.qp, t.qf⟩
theorem ErrAt.hh {H : Hp} {p q e C : Addr} {fs : List (Str × V)} {xs ys : List V} {o : HO} (h : ErrAt H e C fs) (hp : H p = some (.lst xs)) (hq : H q = some (.lst ys)) : ErrAt (V0.hh p q (upd H q o)) e C fs := by
  have go : ∀ {b : Addr} {φ : Heap → Prop}, H b = some (.ext φ) → V0.hh p q (upd H q o) b = some (.ext φ) := fun {b φ} e => by
    have n1 : b ≠ p := fun z => by rw [z, hp] at e; cases e
    have n2 : b ≠ q := fun z => by rw [z, hq] at e; cases e
    rw [hh_ne n1 n2, upd_ne n2]
    exact e
  rcases h with ⟨a, h⟩ | ⟨dx, h, d⟩
  · exact .inl ⟨a, go h⟩
  · exact .inr ⟨dx, go h, go d⟩
def sortsD (i : Nat) : PyData := .list ([0, 1, 2, 3, 4, 5, 6, 7, 8, 9, 10, 11, 12, 13, 14].map fun j => .bool (subT i j))
def kinD (i : Nat) : PyData := .list ([0, 1, 2, 3, 4, 5, 6, 7].map fun j => .bool (kinT i j))
theorem dp_bls {K : PySem.W.Frag} {H : Hp} (f : Nat → Bool) : ∀ js : List Nat, DpAll K H (js.map fun j => V.bl (f j)) (js.map fun j => PyData.bool (f j))
  | [] => .nil
  | j :: js => .cons (.bl _) (dp_bls f js)
theorem sk_dp {K : PySem.W.Frag} {H : Hp} {q a b : Addr} {i : Nat} (e : H q = some (.lst [.ref a, .ref b])) (ea : H a = some (.lst (sortsL i))) (eb : H b = some (.lst (kinL i))) : Dp K H (.ref q) (.list [sortsD i, kinD i]) :=
  .lst (SqL.of e) (.cons (.lst (SqL.of ea) (dp_bls _ _)) (.cons (.lst (SqL.of eb) (dp_bls _ _)) .nil))
theorem sk_ok (i : Nat) (hi : i < 14) : SeqAt.shaped (.list [sortsD i, kinD i]) = true ∧ PyData.eqv (.list [sortsD i, kinD i]) (.list [sortsD i, kinD i]) = true := by
  match i, hi with
  | 0, _ => exact ⟨by decide +kernel, by decide +kernel⟩
  | 1, _ => exact ⟨by decide +kernel, by decide +kernel⟩
  | 2, _ => exact ⟨by decide +kernel, by decide +kernel⟩
  | 3, _ => exact ⟨by decide +kernel, by decide +kernel⟩
  | 4, _ => exact ⟨by decide +kernel, by decide +kernel⟩
  | 5, _ => exact ⟨by decide +kernel, by decide +kernel⟩
  | 6, _ => exact ⟨by decide +kernel, by decide +kernel⟩
  | 7, _ => exact ⟨by decide +kernel, by decide +kernel⟩
  | 8, _ => exact ⟨by decide +kernel, by decide +kernel⟩
  | 9, _ => exact ⟨by decide +kernel, by decide +kernel⟩
  | 10, _ => exact ⟨by decide +kernel, by decide +kernel⟩
  | 11, _ => exact ⟨by decide +kernel, by decide +kernel⟩
  | 12, _ => exact ⟨by decide +kernel, by decide +kernel⟩
  | 13, _ => exact ⟨by decide +kernel, by decide +kernel⟩
section
variable {P : Program} {w : World} {K : PySem.W.Frag} {mg : Str → Option Value} {base : Heap}
structure All (K : PySem.W.Frag) (mg : Str → Option Value) (c fi : Nat → Addr) (fdi : Nat → FuncData) (a : Nat → Addr) (d : Nat → FuncData) : Prop where
  B : Bl mg
  Y : Ers K mg c fi fdi
  D_pot : Df K mg "_law_pot" s_pot P_pot (a 0) (d 0)
  D_stir : Df K mg "_law_stir" s_stir P_stir (a 1) (d 1)
  D_one_of : Df K mg "_law_one_of" s_one_of P_one_of (a 2) (d 2)
  D_shuffled : Df K mg "_law_shuffled" s_shuffled P_shuffled (a 3) (d 3)
  D_made_one : Df K mg "_law_made_one" s_made_one P_made_one (a 4) (d 4)
  D_sorts : Df K mg "_law_sorts" s_sorts P_sorts (a 5) (d 5)
  D_kin : Df K mg "_law_kin" s_kin P_kin (a 6) (d 6)
  D_due : Df K mg "_law_due" s_due P_due (a 7) (d 7)
  D_kept : Df K mg "_law_kept" s_kept P_kept (a 8) (d 8)
  D_due_kept : Df K mg "_law_due_kept" s_due_kept P_due_kept (a 9) (d 9)
  D_value_for : Df K mg "_law_value_for" s_value_for P_value_for (a 10) (d 10)
  D_thrown : Df K mg "_law_thrown" s_thrown P_thrown (a 11) (d 11)
  D_caught : Df K mg "_law_caught" s_caught P_caught (a 12) (d 12)
abbrev s_law : Stmt := top 30
abbrev N_law : List Str := ["_law_script", "_law_at", "_law_pot_here", "_law_found", "_law_lot", "_law_value", "_law_e"]
abbrev P_law : List Str := ["_law_script"]
theorem sc_law : FnScope N_law P_law (defScope s_law) := ⟨rfl, rfl, rfl, by decide +kernel, rfl, by decide +kernel, by decide +kernel⟩
theorem law_body {c fi : Nat → Addr} {fdi : Nat → FuncData} {ad : Nat → Addr} {fdd : Nat → FuncData} (Z : All K mg c fi fdi ad fdd) {f : Addr} {cdv : Value} {A : Around} {outer : List Env} {s : Shared} {H : Hp} {Q : VK} {E : XK} (hgd0 : A.guards = some [])
    (hr : Room 6 (A.deeper (envOfC "law" (defScope s_law) s.heap.objs.size f cdv))) {a : Addr} {ns : List Int} (hS : SqL K H a (ns.map V.int)) (hlen : ns.length ≤ 63) (k : ∀ H', Q (.bl true) H') :
    ∃ t, PSs (cxOf CX0 P w K mg base N_law "law" (defScope s_law) f cdv A outer s H E).nox (defBody s_law) t ∧ t { nx := fun _ H' => Q .non H', rt := Q } (L2.start N_law [.ref a]) H := by
  obtain ⟨B, Y, D_pot, D_stir, D_one_of, D_shuffled, D_made_one, D_sorts, D_kin, D_due, D_kept, D_due_kept, D_value_for, D_thrown, D_caught⟩ := Z
  have hgd : (cxOf CX0 P w K mg base N_law "law" (defScope s_law) f cdv A outer s H E).nox.A.guards = some [] := hgd0
  have G_pot : FnOk P w K mg base CX0 1 _ _ P_pot (spPot K) := ok_pot B D_pot
  have G_shuffled : FnOk P w K mg base CX0 2 _ _ P_shuffled spShuffled := ok_shuffled B D_stir D_shuffled
  have G_value_for : FnOk P w K mg base CX0 3 _ _ P_value_for (spValue K) := ok_value_for B D_stir D_one_of D_value_for
  have G_made_one : FnOk P w K mg base CX0 4 _ _ P_made_one (spMade c) := ok_made_one Y D_made_one
  have G_caught : FnOk P w K mg base CX0 4 _ _ P_caught spCaught := ok_caught Y D_thrown D_caught
  have G_sorts : FnOk P w K mg base CX0 1 _ _ P_sorts (spSorts c sortsL) := ok_sorts B Y D_sorts
  have G_kin : FnOk P w K mg base CX0 1 _ _ P_kin (spSorts c kinL) := ok_kin B Y D_kin
  have G_due : FnOk P w K mg base CX0 1 _ _ P_due spDue := ok_due B D_due
  have G_kept : FnG P w K mg base 4 _ _ P_kept (spKept K c) := ok_kept B Y D_kept
  have G_due_kept : FnG P w K mg base 4 _ _ P_due_kept (spDueKept K) := ok_due_kept B D_due_kept
  refine ⟨_, (pss_cons (ps_for PassesOwn.never rfl (pi_range1 rfl B.b_range (pa_cons (pe_callB (call_max2 rfl) (by rfl) B.b_max (by decide +kernel) (pa_cons pe_int (pa_cons (pe_callB (call_min2 rfl) (by rfl) B.b_min (by decide +kernel) (pa_cons pe_int (pa_cons (pe_callB call_len_seq (by rfl) B.b_len (by decide +kernel) (pa_cons (pv 0) pa_nil)) pa_nil))) pa_nil))) pa_nil)) (pg_name (i := 1) sc_law.nd rfl (Or.inl rfl)) (pss_cons (ps_par (i := 2) (j := 3) (by rfl) sc_law.nd rfl rfl (by decide) rfl rfl (pa_cons (pe_call G_pot (hr.mono (by decide)) (by rfl) D_pot.g D_pot.F.kp D_pot.b .nil pass0 (pa_cons (pv 0) (pa_cons (pv 1) pa_nil))) (pa_cons (pe_lst pa_nil) pa_nil)) (by rfl))
      (pss_cons (ps_for PassesOwn.never rfl (pi_list (pe_call G_shuffled (hr.mono (by decide)) (by rfl) D_shuffled.g D_shuffled.F.kp D_shuffled.b .nil pass0 (pa_cons (pv 2) (pa_cons (pe_listRg rfl (by rfl) B.b_list (prg_1 (by rfl) B.b_range pe_int)) pa_nil)))) (pg_name (i := 4) sc_law.nd rfl (Or.inl rfl)) (pss_cons (ps_set (i := 5) sc_law.nd rfl (Or.inl rfl) (pe_call G_value_for (hr.mono (by decide)) (by rfl) D_value_for.g D_value_for.F.kp D_value_for.b .nil pass0 (pa_cons (pv 2) (pa_cons (pv 4) pa_nil))))
      (pss_cons (ps_expr (pe_bm PySem.F.plainAttrs_list PySem.F.slot_list_append PySem.F.type_list_append mt_append (pv 3) (pa_cons (pe_tup (pa_cons (pv 4) (pa_cons (pv 5) (pa_cons (pe_call G_made_one (hr.mono (by decide)) (by rfl) D_made_one.g D_made_one.F.kp D_made_one.b .nil pass0 (pa_cons (pv 4) (pa_cons (pv 5) pa_nil))) pa_nil)))) pa_nil)))
      (pss_one (ps_if (PW.pt (pw_and (pt_cmpR op_gt (pv 4) pe_int (nomark _)) (pw_and1 (pt_cmpR op_ne (pe_call G_caught (hr.mono (by decide)) (by rfl) D_caught.g D_caught.F.kp D_caught.b .nil pass0 (pa_cons (pv 4) (pa_cons (pv 5) pa_nil))) (pv 4) (nomark _))))) (pss_one (ps_ret pe_bl)) pss_nil)))))
      (pss_one (ps_for PassesOwn.never rfl (pi_list (pv 3)) (pg_tup rfl (pgs_cons (pg_name (i := 4) sc_law.nd rfl (Or.inl rfl)) (pgs_cons (pg_name (i := 5) sc_law.nd rfl (Or.inl rfl)) (pgs_cons (pg_name (i := 6) sc_law.nd rfl (Or.inl rfl)) pgs_nil)))) (pss_one (ps_if (PW.pt (pw_or (pt_cmpR (op_neD hr.units) (pe_lst (pa_cons (pe_call G_sorts (hr.mono (by decide)) (by rfl) D_sorts.g D_sorts.F.kp D_sorts.b .nil pass0 (pa_cons (pv 6) pa_nil)) (pa_cons (pe_call G_kin (hr.mono (by decide)) (by rfl) D_kin.g D_kin.F.kp D_kin.b .nil pass0 (pa_cons (pv 6) pa_nil)) pa_nil))) (pe_call G_due (hr.mono (by decide)) (by rfl) D_due.g D_due.F.kp D_due.b .nil pass0 (pa_cons (pv 4) pa_nil)) (nomark _)) (pw_or1 (pt_cmpR op_ne (pe_callG G_kept hgd (hr.mono (by decide)) (by rfl) D_kept.g D_kept.F.kp D_kept.b (pa_cons (pv 4) (pa_cons (pv 6) pa_nil))) (pe_callG G_due_kept hgd (hr.mono (by decide)) (by rfl) D_due_kept.g D_due_kept.F.kp D_due_kept.b (pa_cons (pv 4) (pa_cons (pv 5) pa_nil))) (nomark _))))) (pss_one (ps_ret pe_bl)) pss_nil)))))))
      (pss_one (ps_ret pe_bl))), ?_⟩
  -- how many turns
  refine ⟨_, rfl, a, _, rfl, .inl hS, _, _, rfl, _, _, rfl, ?_⟩
  have hll : (ns.map V.int).length = ns.length := List.length_map _
  generalize hj : (if (if ((ns.map V.int).length : Int) < 2 then ((ns.map V.int).length : Int) else 2) > 1 then (if ((ns.map V.int).length : Int) < 2 then ((ns.map V.int).length : Int) else 2) else 1) = j
  have j0 : 1 ≤ j := by rw [← hj]; split <;> omega
  have j1 : j ≤ 2 := by rw [← hj]; split <;> (try split) <;> omega
  refine ⟨j, rfl, by omega, by omega, ?_⟩
  refine for_it walk_range (fun i σ H' => Same H H' ∧ ∃ x1 x2 x3 x4 x5 x6 : Option V, σ = [some (.ref a), x1, x2, x3, x4, x5, x6])
    ⟨Same.refl H, _, _, _, _, _, _, rfl⟩ (fun _ _ _ _ _ => trivial) ?_ ?_
  · rintro i y σ H0 H0' hi ⟨s0, x1, x2, x3, x4, x5, x6, rfl⟩ ⟨rfl, rfl⟩
    have hi3 : i < 2 := by omega
    refine ⟨_, rfl, _, rfl, a, ns, i, by show [V.ref a, V.int ((0 : Int) + i)] = _; rw [Int.zero_add], Same.seq s0 hS, by omega, by omega, fun p H1 hpn hp1 s1 => ?_⟩
    refine ⟨by decide, fun fl hfl => ?_⟩
    have nfp := pot_ne hp1 hfl
    have s2 := Same.new (o := .lst []) hfl
    have e2 : (upd H1 fl (.lst [])) fl = _ := upd_same
    have hp2 := hp1.same s2
    have nf0 : H0' fl = none := none_of s1 hfl
    generalize upd H1 fl (.lst []) = H2 at s2 e2 hp2
    refine ⟨_, _, rfl, _, rfl, _, rfl, RgOk.of_le (by decide) (by decide) (by decide) (by decide), fun l hl => ?_⟩
    have nlp := pot_ne hp2 hl
    have s3 := Same.new (o := .lst (rgV 0 14)) hl
    have hp3 := hp2.same s3
    have e3 := s3 _ _ e2
    have el : (upd H2 l (.lst (rgV 0 14))) l = _ := upd_same
    have s03 : Same H0' (upd H2 l (.lst (rgV 0 14))) := (s1.trans s2).trans s3
    generalize upd H2 l (.lst (rgV 0 14)) = H3 at s3 hp3 e3 el s03
    refine ⟨p, l, rgV 0 14, rfl, hp3, nlp, el, by decide, fun q ys H4 hys hyl hq nqp nq3 p4 b4 => ?_⟩
    have e4 := b4 _ _ e3 nfp
    have n0p : ∀ {b : Addr} {o : HO}, H0' b = some o → b ≠ p := fun e => ne_of_none e hpn
    have qf : q ≠ fl := (ne_of_none e3 nq3).symm
    have t4 : Tn K c H0' H4 p fl q ys 0 := ⟨fun b o e => b4 _ _ (s03 b o e) (n0p e), p4, ⟨[], e4, Nat.le_refl _, fun _ h => nomatch h⟩, hq, hpn, nf0, nfp, nqp, qf⟩
    have hint : ∀ y ∈ ys, ∃ i : Nat, i < 14 ∧ y = .int i := fun y hy => by
      have := hys y hy
      unfold rgV at this
      obtain ⟨i, hi, rfl⟩ := List.mem_map.mp this
      exact ⟨i, List.mem_range.mp hi, by rw [Int.zero_add]⟩
    refine ⟨q, rfl, ⟨_, SqL.of hq⟩, for_list (K := K) (a := q) (xs := ys) (fun m σ H5 => Tn K c H0' H5 p fl q ys m ∧ ∃ y4 y5 : Option V, σ = [some (.ref a), some (.int ((0 : Int) + i)), some (.ref p), some (.ref fl), y4, y5, x6])
      ⟨t4, x4, x5, rfl⟩ (fun m σ H5 _ ⟨t5, _⟩ => SqL.of t5.lots) ?_ ?_⟩
    · rintro m v σ H5 hv ⟨t5, y4, y5, rfl⟩
      obtain ⟨lot, hlot, rfl⟩ := hint v (List.mem_of_getElem? hv)
      have hm14 : m < 14 := by
        have z := (List.getElem?_eq_some_iff.mp hv).1
        rw [hyl, rgV_length] at z
        exact z
      obtain ⟨ts, ef, hlt, hit⟩ := t5.fnd
      refine ⟨_, rfl, _, rfl, p, lot, rfl, t5.pot, hlot, fun v H6 hv6 p6 b6 => ?_⟩
      have ef6 := b6 _ _ ef t5.fp
      refine ⟨_, rfl, .inl ⟨rfl, _, SqL.of ef6⟩, _, rfl, _, rfl, _, rfl, _, rfl, lot, v, rfl, hlot, fun e H7 s7 he7 => ?_⟩
      refine ⟨by show 3 ≤ sizeLine; decide, fun tq htq => ?_⟩
      have s8 := Same.new (o := .tup [V.int lot, v, .ref e]) htq
      have e8 : (upd H7 tq (.tup [V.int lot, v, .ref e])) tq = _ := upd_same
      have ef8 := s8 _ _ (s7 _ _ ef6)
      have he8 := he7.same s8
      have p8 := (p6.same s7).same s8
      have s68 := s7.trans s8
      have nt6 := none_of s7 htq
      generalize upd H7 tq (.tup [V.int lot, v, .ref e]) = H8 at s8 e8 ef8 he8 p8 s68
      refine ⟨fl, ts, _, rfl, rfl, ef8, by show ts.length < sizeLine; rw [sizeLine_eq]; omega, ?_⟩
      have ep8 : ∃ xs, H8 p = some (.lst xs) := by
        obtain ⟨u1, u2, u3, z, _⟩ := p8
        exact ⟨_, z⟩
      obtain ⟨px, ep8⟩ := ep8
      have b58 : But2 p fl H5 H8 := (b6.two).trans (.of s68)
      have b59 : But2 p fl H5 (upd H8 fl (.lst (ts ++ [.ref tq]))) := fun b o e n1 n2 => by rw [upd_ne n2]; exact b58 b o e n1 n2
      have ntp : tq ≠ p := pot_ne (p6.same s7) htq
      have ntf : tq ≠ fl := ne_of_none (s7 _ _ ef6) htq |>.symm
      have t9 : Tn K c H0' (upd H8 fl (.lst (ts ++ [.ref tq]))) p fl q ys (m + 1) := by
        refine ⟨fun b o e => b59 b o (t5.old b o e) (ne_of_none e t5.np) (ne_of_none e t5.nf), ?_, ⟨_, upd_same, by rw [List.length_append]; show ts.length + 1 ≤ m + 1; omega, fun t ht => ?_⟩, b59 _ _ t5.lots t5.qp t5.qf, t5.np, t5.nf, t5.fp, t5.qp, t5.qf⟩
        · exact p8.but But.upd t5.fp.symm
        · rcases List.mem_append.mp ht with ht | ht
          · exact (hit t ht).same b59.hh
          · rw [List.mem_singleton.mp ht]
            refine ⟨tq, e, lot, v, rfl, hlot, by rw [hh_ne ntp ntf, upd_ne ntf]; exact e8, hv6.same fun b o z => ?_, he8.hh ep8 ef8⟩
            obtain ⟨z1, z2⟩ := nw_eq z
            have n1 : b ≠ p := pot_ne t5.pot z1
            have n2 : b ≠ fl := (ne_of_none ef z1).symm
            rw [hh_ne n1 n2, upd_ne n2]
            exact s68 b o z2
      generalize upd H8 fl (.lst (ts ++ [.ref tq])) = H9 at t9
      refine ⟨_, rfl, _, _, rfl, rfl, _, rfl, ite2 (fun e => ?_) (fun e => ?_)⟩
      · have h7 : 7 ≤ lot := by have := of_decide_eq_true e; omega
        refine ⟨_, rfl, _, rfl, lot, v, rfl, h7, hlot, fun H10 s10 => ?_⟩
        refine ⟨_, rfl, rfl, _, rfl, iteNS rfl ?_⟩
        exact ⟨t9.keep s10, _, _, rfl⟩
      · refine iteF ?_
        exact ⟨t9, _, _, rfl⟩
    · rintro σ H5 ⟨t5, y4, y5, rfl⟩
      obtain ⟨ts, ef, hlt, hit⟩ := t5.fnd
      refine ⟨_, rfl, fl, rfl, ⟨_, SqL.of ef⟩, for_list (K := K) (a := fl) (xs := ts) (fun m σ H6 => Same H5 H6 ∧ ∃ z4 z5 z6 : Option V, σ = [some (.ref a), some (.int ((0 : Int) + i)), some (.ref p), some (.ref fl), z4, z5, z6])
        ⟨Same.refl H5, _, _, _, rfl⟩ (fun m σ H6 _ ⟨s6, _⟩ => SqL.of (s6 _ _ ef)) ?_ ?_⟩
      · rintro m t σ H6 hv ⟨s6, z4, z5, z6, rfl⟩
        obtain ⟨tq, e, lot, v, rfl, hlot, ht, hvl, he⟩ := hit t (List.mem_of_getElem? hv)
        have sh : Same (hh p fl H5) H6 := fun b o z => s6 b o (hh_eq z).2.2
        have ht := sh _ _ ht
        have hvl := hvl.same sh
        have he := he.same sh
        refine ⟨tq, _, rfl, SqT.of ht, rfl, _, _, rfl, _, _, rfl, _, _, rfl, rfl, ?_⟩
        obtain ⟨d, kk, hd, hs, hk⟩ := hvl
        refine ⟨_, rfl, e, lot, _, rfl, hlot, he, fun q1 H7 s7 e7 => ⟨_, rfl, e, lot, _, rfl, hlot, he.same s7, fun q2 H8 s8 e8 => ⟨by show 2 ≤ sizeLine; decide, fun q3 hq3 => ?_⟩⟩⟩
        have s9 := Same.new (o := .lst [V.ref q1, .ref q2]) hq3
        have e9 : (upd H8 q3 (.lst [V.ref q1, .ref q2])) q3 = _ := upd_same
        have e7 := s9 _ _ (s8 _ _ e7)
        have e8 := s9 _ _ e8
        have s69 := (s7.trans s8).trans s9
        generalize upd H8 q3 (.lst [V.ref q1, .ref q2]) = H9 at s9 e9 e7 e8 s69
        refine ⟨_, rfl, lot, rfl, hlot, fun q4 a4 b4 H10 s10 f4 fa4 fb4 => ?_⟩
        obtain ⟨k1, k2⟩ := sk_ok lot hlot
        refine ⟨_, _, sk_dp (s10 _ _ e9) (s10 _ _ e7) (s10 _ _ e8), sk_dp f4 fa4 fb4, k1, k1, _, rfl, ?_⟩
        rw [k2]
        refine iteF ?_
        have sA := s69.trans s10
        have hd' := Dp.same sA d v hd
        refine ⟨_, rfl, _, rfl, lot, e, v, d, kk, rfl, hlot, he.same sA, hd', hs, hk, _, rfl, _, rfl, lot, v, d, kk, rfl, hlot, hd', hs, hk, fun H11 s11 => ⟨rfl, _, rfl, ?_⟩⟩
        refine iteNS rfl ?_
        exact ⟨(s6.trans sA).trans s11, _, _, _, rfl⟩
      · rintro σ H6 ⟨s6, z4, z5, z6, rfl⟩
        exact ⟨(s0.trans t5.old).trans s6, _, _, _, _, _, _, rfl⟩
  · rintro σ H0' ⟨s0, x1, x2, x3, x4, x5, x6, rfl⟩
    exact k _
end
end V0
namespace V0
open PySem PySem.Spec PyProof.Rows L2
theorem exm_own {K : PySem.W.Frag} {C : Addr} (b : PySem.W.subIn K (.ref C) (.type "BaseException") = some true) (i : PySem.W.isClsIn K C = true) (t : PySem.W.typeIn K (.ref C) = some (.type "type")) (s : PySem.W.subIn K (.ref C) (.ref C) = some true) :
    PySem.W.exmOne K (.ref C) (.ref C) = some true := by
  unfold PySem.W.exmOne PySem.W.kitCls
  simp only [b, t, s]
  unfold PySem.W.isClsIn at i
  simp [i]
section
variable {K : PySem.W.Frag} {h : Heap} {mg : Str → Option Value}
theorem df_mk {x : Str} {st : Stmt} {ps : List Str} {f : Addr} {oc : Value} {od an : Option Addr} {sl : Array (Option Value)} {kV dc pm cd ct : Value} (X : K.In h) (G : h.Ns mainGlobals mg)
    (hb : ∀ (kV doc pm : Value) (an : Option Addr) (cdv ct : Value) (us : List Value), us.length = ps.length → bindArgs (PySem.W.fnOf x x (defArgs st) (defBody st) (defScope st) .none kV doc pm an cdv ct) ⟨us, []⟩ = pure (ps.zip us))
    (a : PySem.W.nsIn K mainGlobals x = some (some (.ref f))) (l : K.lookup f = some ⟨oc, od, .func (PySem.W.fnOf x x (defArgs st) (defBody st) (defScope st) .none kV dc pm an cd ct), sl⟩) (c : PySem.W.codeIn K cd x = true) (k : PySem.W.keepIn K (.ref f) = true) : ∃ f fd, Df K mg x st ps f fd :=
  ⟨f, _, fun_mk l c k, (fun_mk l c k).binds hb, PySem.W.mg_of X G a⟩
theorem gv_mk {x : Str} {v : V} {u : Value} (X : K.In h) (G : h.Ns mainGlobals mg) (r : RelV v u) (a : PySem.W.nsIn K mainGlobals x = some (some u)) : GV mg x v := ⟨u, PySem.W.mg_of X G a, r⟩
theorem law_mk {fa f : Addr} {oc : Value} {od an : Option Addr} {sl : Array (Option Value)} {kV dc pm cd ct : Value} (X : K.In h) (G : h.Ns mainGlobals mg) (hfa : mg "law" = some (.ref fa))
    (a : PySem.W.nsIn K mainGlobals "law" = some (some (.ref f))) (l : K.lookup f = some ⟨oc, od, .func (PySem.W.fnOf "law" "law" (defArgs s_law) (defBody s_law) (defScope s_law) .none kV dc pm an cd ct), sl⟩) (c : PySem.W.codeIn K cd "law" = true) (k : PySem.W.keepIn K (.ref f) = true) :
    ∃ fd, Fun K "law" "law" s_law fa fd ∧ ∀ (s : Shared) (u : Value), BindsTo s fd ⟨[u], []⟩ [("_law_script", u)] := by
  have e := hfa.symm.trans (PySem.W.mg_of X G a)
  cases e
  exact ⟨_, fun_mk l c k, fun s v => .of_eq rfl⟩
end
end V0
namespace V0
open PySem PySem.Spec PyProof.Rows L2
theorem kit_sub {K : PySem.W.Frag} {A C : Addr} {b : Bool} (hd : PySem.W.hasDictIn K C = true) (ty : PySem.W.typeIn K (.ref C) = some (.type "type")) (self : PySem.W.subIn K (.ref C) (.ref C) = some true) (s : PySem.W.subIn K (.ref A) (.ref C) = some b) : PySem.W.kitOne K (.ref A) (.ref C) = some b := by
  obtain ⟨cd, hc, _⟩ := PySem.W.any_some hd
  unfold PySem.W.kitOne PySem.W.kitCls
  by_cases e : A = C
  · subst e
    rw [self] at s
    cases s
    simp
  · have n : (Value.ref A == Value.ref C) = false := by
      refine Bool.eq_false_iff.mpr fun z => e ?_
      exact Value.ref.inj (beq_iff_eq.mp z)
    rw [n, if_neg Bool.false_ne_true]
    simp [hc, ty, s]
theorem kit_ty2 {K : PySem.W.Frag} {A : Addr} {T : String} {b : Bool} (m : PySem.W.kitMeta T = true) (s : PySem.W.subIn K (.ref A) (.type T) = some b) : PySem.W.kitOne K (.ref A) (.type T) = some b := by
  unfold PySem.W.kitOne PySem.W.kitCls
  have n : (Value.ref A == Value.type T) = false := Bool.eq_false_iff.mpr fun z => by
    have := beq_iff_eq.mp z
    cases this
  rw [n, if_neg Bool.false_ne_true]
  simp [m, s]
def subAll (K : PySem.W.Frag) (c : Nat → Addr) : Bool := (List.range 15).all fun i => (List.range 15).all fun j => PySem.W.subIn K (.ref (c i)) (.ref (c j)) == some (if i = 14 then decide (j = 14) else subT i j)
def kinAll (K : PySem.W.Frag) (c : Nat → Addr) : Bool := (List.range 14).all fun i => (List.range 8).all fun j => PySem.W.subIn K (.ref (c i)) (.type (kinN j)) == some (kinT i j)
def clsAll (K : PySem.W.Frag) (c : Nat → Addr) : Bool := (List.range 15).all fun i => PySem.W.hasDictIn K (c i) && (PySem.W.typeIn K (.ref (c i)) == some (.type "type") && PySem.W.subIn K (.ref (c i)) (.type "BaseException") == some true)
theorem subAll_at {K : PySem.W.Frag} {c : Nat → Addr} (h : subAll K c = true) (i j : Nat) (hi : i < 15) (hj : j < 15) : PySem.W.subIn K (.ref (c i)) (.ref (c j)) = some (if i = 14 then decide (j = 14) else subT i j) := by
  have z := List.all_eq_true.mp (List.all_eq_true.mp h i (List.mem_range.mpr hi)) j (List.mem_range.mpr hj)
  exact beq_iff_eq.mp z
theorem kinAll_at {K : PySem.W.Frag} {c : Nat → Addr} (h : kinAll K c = true) (i j : Nat) (hi : i < 14) (hj : j < 8) : PySem.W.subIn K (.ref (c i)) (.type (kinN j)) = some (kinT i j) := by
  have z := List.all_eq_true.mp (List.all_eq_true.mp h i (List.mem_range.mpr hi)) j (List.mem_range.mpr hj)
  exact beq_iff_eq.mp z
theorem clsAll_at {K : PySem.W.Frag} {c : Nat → Addr} (h : clsAll K c = true) (i : Nat) (hi : i < 15) : PySem.W.hasDictIn K (c i) = true ∧ PySem.W.typeIn K (.ref (c i)) = some (.type "type") ∧ PySem.W.subIn K (.ref (c i)) (.type "BaseException") = some true := by
  have z := List.all_eq_true.mp h i (List.mem_range.mpr hi)
  obtain ⟨z1, z2⟩ := Bool.and_eq_true_iff.mp z
  obtain ⟨z2, z3⟩ := Bool.and_eq_true_iff.mp z2
  exact ⟨z1, beq_iff_eq.mp z2, beq_iff_eq.mp z3⟩
theorem kin_meta : ∀ j, j < 8 → PySem.W.kitMeta (kinN j) = true := by decide +kernel
section
variable {K : PySem.W.Frag} {h : Heap} {mg : Str → Option Value}
theorem ep_mk {x : Str} {C : Addr} (X : K.In h) (G : h.Ns mainGlobals mg) (a : PySem.W.nsIn K mainGlobals x = some (some (.ref C))) (q : PySem.W.excIn K C veB "ValueError.__new__" = true) (k : PySem.W.keepIn K (.ref C) = true) : EP K mg x C := ⟨PySem.W.mg_of X G a, q, k⟩
theorem eg_mk {x : Str} {C : Addr} (X : K.In h) (G : h.Ns mainGlobals mg) (a : PySem.W.nsIn K mainGlobals x = some (some (.ref C))) : EG mg x C := ⟨PySem.W.mg_of X G a⟩
theorem eo_mk {x q f : Str} {C fI : Addr} {oc : Value} {od an : Option Addr} {sl : Array (Option Value)} {kV dc pm cd ct : Value} {st : Stmt} {bmB : List Value} {newId : String} (X : K.In h) (G : h.Ns mainGlobals mg)
    (a : PySem.W.nsIn K mainGlobals x = some (some (.ref C))) (iC : PySem.W.findIn K (.ref C) "__init__" = some (some (.ref fI))) (l : K.lookup fI = some ⟨oc, od, .func (PySem.W.fnOf "__init__" q (defArgs st) (defBody st) (defScope st) .none kV dc pm an cd ct), sl⟩)
    (c : PySem.W.codeIn K cd q = true) (k : PySem.W.keepIn K (.ref fI) = true) (init : PySem.W.excInitIn K C bmB newId = true) (over : PySem.W.excOver K C bmB = true) (hdC : PySem.W.hasDictIn K C = true) (sa : PySem.W.findIn K (.ref C) "__setattr__" = some (some (.builtin "object.__setattr__")))
    (exC : PySem.W.subIn K (.ref C) (.type "BaseException") = some true) (tyC : PySem.W.typeIn K (.ref C) = some (.type "type")) (kC : PySem.W.keepIn K (.ref C) = true) (tI : PySem.W.typeIn K (.ref fI) = some (.type "function")) (no : PySem.W.findIn K (.ref C) f = some none)
    (c1 : Ex K C fI bmB newId → Calls1 K C fI) (hb : ∀ (kV doc pm : Value) (an : Option Addr) (cdv ct : Value) (us : List Value), us.length = 2 → bindArgs (PySem.W.fnOf "__init__" q (defArgs st) (defBody st) (defScope st) .none kV doc pm an cdv ct) ⟨us, []⟩ = pure ((["self", f] : List Str).zip us)) :
    EO K mg x q f C fI (PySem.W.fnOf "__init__" q (defArgs st) (defBody st) (defScope st) .none kV dc pm an cd ct) st bmB newId :=
  ⟨PySem.W.mg_of X G a, ⟨init, over, hdC, sa, exC, tyC, kC, iC, tI⟩, c1 ⟨init, over, hdC, sa, exC, tyC, kC, iC, tI⟩, fun_mk l c k, (fun_mk l c k).binds hb, no⟩
structure SF (K : PySem.W.Frag) (q : Str) (C f : Addr) (fd : FuncData) (st : Stmt) : Prop where
  s : PySem.W.findIn K (.ref C) "__str__" = some (some (.ref f))
  F : Fun K "__str__" q st f fd
  b : Binds K fd ["self"] []
  i : PySem.W.isFn K (.ref f) = true
theorem sf_mk {q : Str} {C f : Addr} {oc : Value} {od an : Option Addr} {sl : Array (Option Value)} {kV dc pm cd ct : Value} {st : Stmt} (iC : PySem.W.findIn K (.ref C) "__str__" = some (some (.ref f))) (l : K.lookup f = some ⟨oc, od, .func (PySem.W.fnOf "__str__" q (defArgs st) (defBody st) (defScope st) .none kV dc pm an cd ct), sl⟩)
    (c : PySem.W.codeIn K cd q = true) (k : PySem.W.keepIn K (.ref f) = true) (tI : PySem.W.typeIn K (.ref f) = some (.type "function"))
    (hb : ∀ (kV doc pm : Value) (an : Option Addr) (cdv ct : Value) (us : List Value), us.length = 1 → bindArgs (PySem.W.fnOf "__str__" q (defArgs st) (defBody st) (defScope st) .none kV doc pm an cdv ct) ⟨us, []⟩ = pure ((["self"] : List Str).zip us)) :
    SF K q C f (PySem.W.fnOf "__str__" q (defArgs st) (defBody st) (defScope st) .none kV dc pm an cd ct) st :=
  ⟨iC, fun_mk l c k, (fun_mk l c k).binds hb, by unfold PySem.W.isFn; rw [tI]; exact beq_self_eq_true _⟩
/-- what isinstance asks of a class -/
structure XC (K : PySem.W.Frag) (C : Addr) : Prop where
  hg : PySem.W.findIn K (.ref C) "__getattribute__" = some (some (.builtin "BaseException.__getattribute__"))
  hk : PySem.W.findIn K (.ref C) "__getattr__" = some none
  ha : PySem.W.findIn K (.ref C) "__class__" = some (some (.builtin "object.__class__"))
  hm : PySem.W.mroIn K C (.type "object") = some true
theorem ers_mk {C0 C1 C2 C3 C4 C5 C6 C7 C8 C9 C10 C11 C12 C13 C14 f0 f1 f7 f8 f9 f10 f11 f12 f13 : Addr} {g0 g1 g7 g8 g9 g10 g11 g12 g13 : FuncData}
    (e0 : EP K mg "InvalidName" C0)
    (e1 : EP K mg "InvalidWeb" C1)
    (e2 : EP K mg "InvalidGroup" C2)
    (e3 : EP K mg "InvalidCharge" C3)
    (e4 : EP K mg "InvalidOrder" C4)
    (e5 : EP K mg "InvalidPlan" C5)
    (e6 : EP K mg "InvalidOperation" C6)
    (e7 : EO K mg "ParseError" "ParseError.__init__" "index" C7 f7 g7 s_ParseError_init veB "ValueError.__new__")
    (e8 : EO K mg "InvalidNumber" "InvalidNumber.__init__" "value" C8 f8 g8 s_InvalidNumber_init ixB "IndexError.__new__")
    (e9 : EO K mg "UnknownName" "UnknownName.__init__" "name" C9 f9 g9 s_UnknownName_init keB "LookupError.__new__")
    (e10 : EO K mg "TooMany" "TooMany.__init__" "limit" C10 f10 g10 s_TooMany_init ovB "OverflowError.__new__")
    (e11 : EO K mg "NothingToUndo" "NothingToUndo.__init__" "many" C11 f11 g11 s_NothingToUndo_init luB "LookupError.__new__")
    (e12 : EO K mg "Broken" "Broken.__init__" "label" C12 f12 g12 s_Broken_init arB "ArithmeticError.__new__")
    (e13 : EO K mg "Spoiled" "Spoiled.__init__" "group" C13 f13 g13 s_Spoiled_init rtB "RuntimeError.__new__")
    (e14 : EG mg "BillError" C14)
    (b0 : mg "ValueError" = none)
    (b1 : mg "LookupError" = none)
    (b2 : mg "IndexError" = none)
    (b3 : mg "KeyError" = none)
    (b4 : mg "ArithmeticError" = none)
    (b5 : mg "OverflowError" = none)
    (b6 : mg "RuntimeError" = none)
    (b7 : mg "TypeError" = none)
    (x0 : XC K C0)
    (x1 : XC K C1)
    (x2 : XC K C2)
    (x3 : XC K C3)
    (x4 : XC K C4)
    (x5 : XC K C5)
    (x6 : XC K C6)
    (x7 : XC K C7)
    (x8 : XC K C8)
    (x9 : XC K C9)
    (x10 : XC K C10)
    (x11 : XC K C11)
    (x12 : XC K C12)
    (x13 : XC K C13)
    (hn : PySem.W.specialIn K (.builtin "object.__class__") "__get__" = some (some (.builtin "getset_descriptor.__get__"))) (ht : PySem.W.takesIn K (.builtin "object.__class__") = some true)
    (s8 : SF K "InvalidNumber.__str__" C8 f0 g0 s_InvalidNumber_str) (s9 : SF K "UnknownName.__str__" C9 f1 g1 s_UnknownName_str)
    (ca : clsAll K (fun n => [C0, C1, C2, C3, C4, C5, C6, C7, C8, C9, C10, C11, C12, C13, C14].getD n 0) = true) (sa : subAll K (fun n => [C0, C1, C2, C3, C4, C5, C6, C7, C8, C9, C10, C11, C12, C13, C14].getD n 0) = true) (ka : kinAll K (fun n => [C0, C1, C2, C3, C4, C5, C6, C7, C8, C9, C10, C11, C12, C13, C14].getD n 0) = true) : ∃ (c fi : Nat → Addr) (fdi : Nat → FuncData), Ers K mg c fi fdi := by
  have xx : ∀ i, i < 14 → XC K ((fun n => [C0, C1, C2, C3, C4, C5, C6, C7, C8, C9, C10, C11, C12, C13, C14].getD n 0) i) := fun i hi => match i, hi with
    | 0, _ => x0
    | 1, _ => x1
    | 2, _ => x2
    | 3, _ => x3
    | 4, _ => x4
    | 5, _ => x5
    | 6, _ => x6
    | 7, _ => x7
    | 8, _ => x8
    | 9, _ => x9
    | 10, _ => x10
    | 11, _ => x11
    | 12, _ => x12
    | 13, _ => x13
  have sub : ∀ i j, i < 14 → j < 15 → PySem.W.subIn K (.ref ((fun n => [C0, C1, C2, C3, C4, C5, C6, C7, C8, C9, C10, C11, C12, C13, C14].getD n 0) i)) (.ref ((fun n => [C0, C1, C2, C3, C4, C5, C6, C7, C8, C9, C10, C11, C12, C13, C14].getD n 0) j)) = some (subT i j) := fun i j hi hj => by
    have z := subAll_at sa i j (by omega) hj
    rw [if_neg (show ¬ i = 14 by omega)] at z
    exact z
  have self : ∀ j, j < 15 → PySem.W.subIn K (.ref ((fun n => [C0, C1, C2, C3, C4, C5, C6, C7, C8, C9, C10, C11, C12, C13, C14].getD n 0) j)) (.ref ((fun n => [C0, C1, C2, C3, C4, C5, C6, C7, C8, C9, C10, C11, C12, C13, C14].getD n 0) j)) = some true := fun j hj => by
    have z := subAll_at sa j j hj hj
    by_cases e : j = 14
    · subst e
      exact z
    · rw [if_neg e, subT, if_pos (by omega : j < 14), decide_eq_true rfl] at z
      exact z
  refine ⟨(fun n => [C0, C1, C2, C3, C4, C5, C6, C7, C8, C9, C10, C11, C12, C13, C14].getD n 0), fun n => [f0, f1, f0, f0, f0, f0, f0, f7, f8, f9, f10, f11, f12, f13].getD n 0, fun n => [g0, g1, g0, g0, g0, g0, g0, g7, g8, g9, g10, g11, g12, g13].getD n g0, ⟨e0, e1, e2, e3, e4, e5, e6, e7, e8, e9, e10, e11, e12, e13, e14, b0, b1, b2, b3, b4, b5, b6, b7, fun i hi => ?_, fun i h7 hi => ?_, fun i j hi hj => ?_, fun i j hi hj => ?_, fun i j hi hj => ?_, s8.s, s9.s, s8.F, s9.F, s8.b, s9.b, s8.i, s9.i⟩⟩
  · obtain ⟨c1, c2, c3⟩ := clsAll_at ca i (by omega)
    have x := xx i hi
    exact ⟨x.hg, x.hk, c3, c1, x.ha, hn, ht, x.hm⟩
  · match i, h7, hi with
    | 0, h, _ => exact absurd h (by decide)
    | 1, h, _ => exact absurd h (by decide)
    | 2, h, _ => exact absurd h (by decide)
    | 3, h, _ => exact absurd h (by decide)
    | 4, h, _ => exact absurd h (by decide)
    | 5, h, _ => exact absurd h (by decide)
    | 6, h, _ => exact absurd h (by decide)
    | 7, _, _ => exact e7.no
    | 8, _, _ => exact e8.no
    | 9, _, _ => exact e9.no
    | 10, _, _ => exact e10.no
    | 11, _, _ => exact e11.no
    | 12, _, _ => exact e12.no
    | 13, _, _ => exact e13.no
  · obtain ⟨c1, c2, c3⟩ := clsAll_at ca j hj
    exact kit_sub c1 c2 (self j hj) (sub i j hi hj)
  · exact kit_ty2 (kin_meta j hj) (kinAll_at ka i j hi hj)
  · obtain ⟨c1, c2, c3⟩ := clsAll_at ca j hj
    exact PySem.W.exm_ref c3 c1 c2 (sub i j hi hj)
end
theorem walk {l : PySem.W.OpenLaw} {q : Program} {loose : List Str} {XP : (Str → Option Value) → Heap → Prop} {YP : World → Heap → Prop} {d : DefRec} {K : Params → PySem.W.Frag} (hn : l.most = some 63) (hdf : d.params.defaults = [])
    (hY : ∀ (w : World) (h : Heap), YP w h → (K w.params).In h)
    (F : ∀ (w : World) (mg : Str → Option Value) (fa : Addr) (h : Heap), (K w.params).In h → h.Ns mainGlobals mg → mg d.name = some (.ref fa) →
      ∃ (c fi : Nat → Addr) (fdi : Nat → FuncData) (ad : Nat → Addr) (fdd : Nat → FuncData) (fd : FuncData), All (K w.params) mg c fi fdi ad fdd ∧ Fun (K w.params) "law" "law" s_law fa fd ∧ ∀ (s : Shared) (u : Value), BindsTo s fd ⟨[u], []⟩ [("_law_script", u)]) :
    PySem.W.WalkO q loose XP YP l.row.toRowW d [] (fun f vs => PySem.call f vs) := by
  refine Att.attach_call hn hdf fun w s0 s1 mg mb fa o pm cd doc a vs ns G Y ho hd hcd hmg hobj hints hlen hg => ?_
  have KX := hY w _ Y
  obtain ⟨c, fi, fdi, ad, fdd, fd, Z, Fl, hb⟩ := F w mg fa _ KX G.T.g hmg
  exact law_at (k := 6) (N := N_law) KX G.T.g G.T.b G.T.builtins G.T.nolimit hg hobj hints (Nat.le_trans hlen (by decide)) ⟨rfl, by decide, by decide⟩ Fl sc_law hb fun base H cdv kB nB hS hr => law_body (Q := fun v _ => v = .bl true) (outer := []) Z rfl hr hS hlen (fun _ => rfl)
end V0
open PySem PySem.W PyProof.Rows L2
set_option maxRecDepth 100000 in
set_option maxHeartbeats 0 in
theorem PySem.Challenge.cw_huebill_k01_whole_errors_holds : PySem.Challenge.rw_huebill_k01_whole_errors.Holds := by
  w_on; o_law; k_head; (case hw => w_witness2)
  k_fill
  refine V0.walk (l := PySem.Challenge.rw_huebill_k01_whole_errors) rfl rfl (fun w h Y => PySem.W.kIn_of Y) ?F
  case F =>
    intro w mg fa h KX G hmg
    have z0 : mg "len" = none := by (refine PySem.W.mg_none_of KX G ?z; (case z => k_is))
    have z1 : mg "abs" = none := by (refine PySem.W.mg_none_of KX G ?z; (case z => k_is))
    have z2 : mg "max" = none := by (refine PySem.W.mg_none_of KX G ?z; (case z => k_is))
    have z3 : mg "min" = none := by (refine PySem.W.mg_none_of KX G ?z; (case z => k_is))
    have z4 : mg "int" = none := by (refine PySem.W.mg_none_of KX G ?z; (case z => k_is))
    have z5 : mg "bool" = none := by (refine PySem.W.mg_none_of KX G ?z; (case z => k_is))
    have z6 : mg "str" = none := by (refine PySem.W.mg_none_of KX G ?z; (case z => k_is))
    have z7 : mg "tuple" = none := by (refine PySem.W.mg_none_of KX G ?z; (case z => k_is))
    have z8 : mg "list" = none := by (refine PySem.W.mg_none_of KX G ?z; (case z => k_is))
    have z9 : mg "dict" = none := by (refine PySem.W.mg_none_of KX G ?z; (case z => k_is))
    have z10 : mg "all" = none := by (refine PySem.W.mg_none_of KX G ?z; (case z => k_is))
    have z11 : mg "any" = none := by (refine PySem.W.mg_none_of KX G ?z; (case z => k_is))
    have z12 : mg "sum" = none := by (refine PySem.W.mg_none_of KX G ?z; (case z => k_is))
    have z13 : mg "repr" = none := by (refine PySem.W.mg_none_of KX G ?z; (case z => k_is))
    have z14 : mg "isinstance" = none := by (refine PySem.W.mg_none_of KX G ?z; (case z => k_is))
    have z15 : mg "range" = none := by (refine PySem.W.mg_none_of KX G ?z; (case z => k_is))
    have hB : V0.Bl mg := ⟨z0, z1, z2, z3, z4, z5, z6, z7, z8, z9, z10, z11, z12, z13, z14, z15⟩
    have y0 : mg "ValueError" = none := by (refine PySem.W.mg_none_of KX G ?z; (case z => k_is))
    have y1 : mg "LookupError" = none := by (refine PySem.W.mg_none_of KX G ?z; (case z => k_is))
    have y2 : mg "IndexError" = none := by (refine PySem.W.mg_none_of KX G ?z; (case z => k_is))
    have y3 : mg "KeyError" = none := by (refine PySem.W.mg_none_of KX G ?z; (case z => k_is))
    have y4 : mg "ArithmeticError" = none := by (refine PySem.W.mg_none_of KX G ?z; (case z => k_is))
    have y5 : mg "OverflowError" = none := by (refine PySem.W.mg_none_of KX G ?z; (case z => k_is))
    have y6 : mg "RuntimeError" = none := by (refine PySem.W.mg_none_of KX G ?z; (case z => k_is))
    have y7 : mg "TypeError" = none := by (refine PySem.W.mg_none_of KX G ?z; (case z => k_is))
    obtain ⟨c, fi, fdi, hY⟩ : ∃ (c fi : Nat → Addr) (fdi : Nat → FuncData), V0.Ers _ mg c fi fdi := by
      refine' V0.ers_mk ?zze0 ?zze1 ?zze2 ?zze3 ?zze4 ?zze5 ?zze6 ?zze7 ?zze8 ?zze9 ?zze10 ?zze11 ?zze12 ?zze13 ?zze14 y0 y1 y2 y3 y4 y5 y6 y7 ?zzx0 ?zzx1 ?zzx2 ?zzx3 ?zzx4 ?zzx5 ?zzx6 ?zzx7 ?zzx8 ?zzx9 ?zzx10 ?zzx11 ?zzx12 ?zzx13 ?zzhn ?zzht ?zzs8 ?zzs9 ?zzca ?zzsa ?zzka
      case zze0 => (refine' V0.ep_mk KX G ?zza0 ?zzq0 ?zzk0; (case zza0 => k_is); (case zzq0 => k_exc); (case zzk0 => k_is))
      case zze1 => (refine' V0.ep_mk KX G ?zza1 ?zzq1 ?zzk1; (case zza1 => k_is); (case zzq1 => k_exc); (case zzk1 => k_is))
      case zze2 => (refine' V0.ep_mk KX G ?zza2 ?zzq2 ?zzk2; (case zza2 => k_is); (case zzq2 => k_exc); (case zzk2 => k_is))
      case zze3 => (refine' V0.ep_mk KX G ?zza3 ?zzq3 ?zzk3; (case zza3 => k_is); (case zzq3 => k_exc); (case zzk3 => k_is))
      case zze4 => (refine' V0.ep_mk KX G ?zza4 ?zzq4 ?zzk4; (case zza4 => k_is); (case zzq4 => k_exc); (case zzk4 => k_is))
      case zze5 => (refine' V0.ep_mk KX G ?zza5 ?zzq5 ?zzk5; (case zza5 => k_is); (case zzq5 => k_exc); (case zzk5 => k_is))
      case zze6 => (refine' V0.ep_mk KX G ?zza6 ?zzq6 ?zzk6; (case zza6 => k_is); (case zzq6 => k_exc); (case zzk6 => k_is))
      case zze7 =>
        refine' V0.eo_mk KX G ?zza7 ?zziC7 ?zzl7 ?zzc7 ?zzk7 ?zzinit7 ?zzover7 ?zzhdC7 ?zzsa7 ?zzexC7 ?zztyC7 ?zzkC7 ?zztI7 ?zzno7 (V0.calls_of PySem.F.excBase_ValueError) (fun _ _ _ _ _ _ us hl => match us, hl with | [_, _], _ => rfl)
        case zza7 => k_is
        case zziC7 => k_is
        case zzl7 => k_is
        case zzc7 => k_is
        case zzk7 => k_is
        case zzinit7 => kx_is
        case zzover7 => kx_is
        case zzhdC7 => k_is
        case zzsa7 => k_is
        case zzexC7 => k_is
        case zztyC7 => k_is
        case zzkC7 => k_is
        case zztI7 => k_is
        case zzno7 => k_is
      case zze8 =>
        refine' V0.eo_mk KX G ?zza8 ?zziC8 ?zzl8 ?zzc8 ?zzk8 ?zzinit8 ?zzover8 ?zzhdC8 ?zzsa8 ?zzexC8 ?zztyC8 ?zzkC8 ?zztI8 ?zzno8 (V0.calls_of PySem.F.excBase_IndexError) (fun _ _ _ _ _ _ us hl => match us, hl with | [_, _], _ => rfl)
        case zza8 => k_is
        case zziC8 => k_is
        case zzl8 => k_is
        case zzc8 => k_is
        case zzk8 => k_is
        case zzinit8 => kx_is
        case zzover8 => kx_is
        case zzhdC8 => k_is
        case zzsa8 => k_is
        case zzexC8 => k_is
        case zztyC8 => k_is
        case zzkC8 => k_is
        case zztI8 => k_is
        case zzno8 => k_is
      case zze9 =>
        refine' V0.eo_mk KX G ?zza9 ?zziC9 ?zzl9 ?zzc9 ?zzk9 ?zzinit9 ?zzover9 ?zzhdC9 ?zzsa9 ?zzexC9 ?zztyC9 ?zzkC9 ?zztI9 ?zzno9 V0.calls_ke (fun _ _ _ _ _ _ us hl => match us, hl with | [_, _], _ => rfl)
        case zza9 => k_is
        case zziC9 => k_is
        case zzl9 => k_is
        case zzc9 => k_is
        case zzk9 => k_is
        case zzinit9 => kx_is
        case zzover9 => kx_is
        case zzhdC9 => k_is
        case zzsa9 => k_is
        case zzexC9 => k_is
        case zztyC9 => k_is
        case zzkC9 => k_is
        case zztI9 => k_is
        case zzno9 => k_is
      case zze10 =>
        refine' V0.eo_mk KX G ?zza10 ?zziC10 ?zzl10 ?zzc10 ?zzk10 ?zzinit10 ?zzover10 ?zzhdC10 ?zzsa10 ?zzexC10 ?zztyC10 ?zzkC10 ?zztI10 ?zzno10 (V0.calls_of PySem.F.excBase_OverflowError) (fun _ _ _ _ _ _ us hl => match us, hl with | [_, _], _ => rfl)
        case zza10 => k_is
        case zziC10 => k_is
        case zzl10 => k_is
        case zzc10 => k_is
        case zzk10 => k_is
        case zzinit10 => kx_is
        case zzover10 => kx_is
        case zzhdC10 => k_is
        case zzsa10 => k_is
        case zzexC10 => k_is
        case zztyC10 => k_is
        case zzkC10 => k_is
        case zztI10 => k_is
        case zzno10 => k_is
      case zze11 =>
        refine' V0.eo_mk KX G ?zza11 ?zziC11 ?zzl11 ?zzc11 ?zzk11 ?zzinit11 ?zzover11 ?zzhdC11 ?zzsa11 ?zzexC11 ?zztyC11 ?zzkC11 ?zztI11 ?zzno11 (V0.calls_of PySem.F.excBase_LookupError) (fun _ _ _ _ _ _ us hl => match us, hl with | [_, _], _ => rfl)
        case zza11 => k_is
        case zziC11 => k_is
        case zzl11 => k_is
        case zzc11 => k_is
        case zzk11 => k_is
        case zzinit11 => kx_is
        case zzover11 => kx_is
        case zzhdC11 => k_is
        case zzsa11 => k_is
        case zzexC11 => k_is
        case zztyC11 => k_is
        case zzkC11 => k_is
        case zztI11 => k_is
        case zzno11 => k_is
      case zze12 =>
        refine' V0.eo_mk KX G ?zza12 ?zziC12 ?zzl12 ?zzc12 ?zzk12 ?zzinit12 ?zzover12 ?zzhdC12 ?zzsa12 ?zzexC12 ?zztyC12 ?zzkC12 ?zztI12 ?zzno12 (V0.calls_of PySem.F.excBase_ArithmeticError) (fun _ _ _ _ _ _ us hl => match us, hl with | [_, _], _ => rfl)
        case zza12 => k_is
        case zziC12 => k_is
        case zzl12 => k_is
        case zzc12 => k_is
        case zzk12 => k_is
        case zzinit12 => kx_is
        case zzover12 => kx_is
        case zzhdC12 => k_is
        case zzsa12 => k_is
        case zzexC12 => k_is
        case zztyC12 => k_is
        case zzkC12 => k_is
        case zztI12 => k_is
        case zzno12 => k_is
      case zze13 =>
        refine' V0.eo_mk KX G ?zza13 ?zziC13 ?zzl13 ?zzc13 ?zzk13 ?zzinit13 ?zzover13 ?zzhdC13 ?zzsa13 ?zzexC13 ?zztyC13 ?zzkC13 ?zztI13 ?zzno13 (V0.calls_of PySem.F.excBase_RuntimeError) (fun _ _ _ _ _ _ us hl => match us, hl with | [_, _], _ => rfl)
        case zza13 => k_is
        case zziC13 => k_is
        case zzl13 => k_is
        case zzc13 => k_is
        case zzk13 => k_is
        case zzinit13 => kx_is
        case zzover13 => kx_is
        case zzhdC13 => k_is
        case zzsa13 => k_is
        case zzexC13 => k_is
        case zztyC13 => k_is
        case zzkC13 => k_is
        case zztI13 => k_is
        case zzno13 => k_is
      case zze14 => (refine' V0.eg_mk KX G ?zza14; (case zza14 => k_is))
      case zzx0 => exact ⟨by k_is, by k_is, by k_is, by k_is⟩
      case zzx1 => exact ⟨by k_is, by k_is, by k_is, by k_is⟩
      case zzx2 => exact ⟨by k_is, by k_is, by k_is, by k_is⟩
      case zzx3 => exact ⟨by k_is, by k_is, by k_is, by k_is⟩
      case zzx4 => exact ⟨by k_is, by k_is, by k_is, by k_is⟩
      case zzx5 => exact ⟨by k_is, by k_is, by k_is, by k_is⟩
      case zzx6 => exact ⟨by k_is, by k_is, by k_is, by k_is⟩
      case zzx7 => exact ⟨by k_is, by k_is, by k_is, by k_is⟩
      case zzx8 => exact ⟨by k_is, by k_is, by k_is, by k_is⟩
      case zzx9 => exact ⟨by k_is, by k_is, by k_is, by k_is⟩
      case zzx10 => exact ⟨by k_is, by k_is, by k_is, by k_is⟩
      case zzx11 => exact ⟨by k_is, by k_is, by k_is, by k_is⟩
      case zzx12 => exact ⟨by k_is, by k_is, by k_is, by k_is⟩
      case zzx13 => exact ⟨by k_is, by k_is, by k_is, by k_is⟩
      case zzhn => k_is
      case zzht => k_is
      case zzs8 => (refine' V0.sf_mk ?zziCs8 ?zzls8 ?zzcs8 ?zzks8 ?zztIs8 (fun _ _ _ _ _ _ us hl => match us, hl with | [_], _ => rfl); (case zziCs8 => k_is); (case zzls8 => k_is); (case zzcs8 => k_is); (case zzks8 => k_is); (case zztIs8 => k_is))
      case zzs9 => (refine' V0.sf_mk ?zziCs9 ?zzls9 ?zzcs9 ?zzks9 ?zztIs9 (fun _ _ _ _ _ _ us hl => match us, hl with | [_], _ => rfl); (case zziCs9 => k_is); (case zzls9 => k_is); (case zzcs9 => k_is); (case zzks9 => k_is); (case zztIs9 => k_is))
      case zzca => kernel_rfl
      case zzsa => kernel_rfl
      case zzka => kernel_rfl
    obtain ⟨a0, d0, D0⟩ : ∃ f fd, V0.Df _ mg "_law_pot" V0.s_pot V0.P_pot f fd := by
      refine' V0.df_mk KX G (fun _ _ _ _ _ _ us hl => match us, hl with | [_, _], _ => rfl) ?a ?l ?c ?k
      (case a => k_is); (case l => k_is); (case c => k_is); (case k => k_is)
    obtain ⟨a1, d1, D1⟩ : ∃ f fd, V0.Df _ mg "_law_stir" V0.s_stir V0.P_stir f fd := by
      refine' V0.df_mk KX G (fun _ _ _ _ _ _ us hl => match us, hl with | [_, _], _ => rfl) ?a ?l ?c ?k
      (case a => k_is); (case l => k_is); (case c => k_is); (case k => k_is)
    obtain ⟨a2, d2, D2⟩ : ∃ f fd, V0.Df _ mg "_law_one_of" V0.s_one_of V0.P_one_of f fd := by
      refine' V0.df_mk KX G (fun _ _ _ _ _ _ us hl => match us, hl with | [_, _], _ => rfl) ?a ?l ?c ?k
      (case a => k_is); (case l => k_is); (case c => k_is); (case k => k_is)
    obtain ⟨a3, d3, D3⟩ : ∃ f fd, V0.Df _ mg "_law_shuffled" V0.s_shuffled V0.P_shuffled f fd := by
      refine' V0.df_mk KX G (fun _ _ _ _ _ _ us hl => match us, hl with | [_, _], _ => rfl) ?a ?l ?c ?k
      (case a => k_is); (case l => k_is); (case c => k_is); (case k => k_is)
    obtain ⟨a4, d4, D4⟩ : ∃ f fd, V0.Df _ mg "_law_made_one" V0.s_made_one V0.P_made_one f fd := by
      refine' V0.df_mk KX G (fun _ _ _ _ _ _ us hl => match us, hl with | [_, _], _ => rfl) ?a ?l ?c ?k
      (case a => k_is); (case l => k_is); (case c => k_is); (case k => k_is)
    obtain ⟨a5, d5, D5⟩ : ∃ f fd, V0.Df _ mg "_law_sorts" V0.s_sorts V0.P_sorts f fd := by
      refine' V0.df_mk KX G (fun _ _ _ _ _ _ us hl => match us, hl with | [_], _ => rfl) ?a ?l ?c ?k
      (case a => k_is); (case l => k_is); (case c => k_is); (case k => k_is)
    obtain ⟨a6, d6, D6⟩ : ∃ f fd, V0.Df _ mg "_law_kin" V0.s_kin V0.P_kin f fd := by
      refine' V0.df_mk KX G (fun _ _ _ _ _ _ us hl => match us, hl with | [_], _ => rfl) ?a ?l ?c ?k
      (case a => k_is); (case l => k_is); (case c => k_is); (case k => k_is)
    obtain ⟨a7, d7, D7⟩ : ∃ f fd, V0.Df _ mg "_law_due" V0.s_due V0.P_due f fd := by
      refine' V0.df_mk KX G (fun _ _ _ _ _ _ us hl => match us, hl with | [_], _ => rfl) ?a ?l ?c ?k
      (case a => k_is); (case l => k_is); (case c => k_is); (case k => k_is)
    obtain ⟨a8, d8, D8⟩ : ∃ f fd, V0.Df _ mg "_law_kept" V0.s_kept V0.P_kept f fd := by
      refine' V0.df_mk KX G (fun _ _ _ _ _ _ us hl => match us, hl with | [_, _], _ => rfl) ?a ?l ?c ?k
      (case a => k_is); (case l => k_is); (case c => k_is); (case k => k_is)
    obtain ⟨a9, d9, D9⟩ : ∃ f fd, V0.Df _ mg "_law_due_kept" V0.s_due_kept V0.P_due_kept f fd := by
      refine' V0.df_mk KX G (fun _ _ _ _ _ _ us hl => match us, hl with | [_, _], _ => rfl) ?a ?l ?c ?k
      (case a => k_is); (case l => k_is); (case c => k_is); (case k => k_is)
    obtain ⟨a10, d10, D10⟩ : ∃ f fd, V0.Df _ mg "_law_value_for" V0.s_value_for V0.P_value_for f fd := by
      refine' V0.df_mk KX G (fun _ _ _ _ _ _ us hl => match us, hl with | [_, _], _ => rfl) ?a ?l ?c ?k
      (case a => k_is); (case l => k_is); (case c => k_is); (case k => k_is)
    obtain ⟨a11, d11, D11⟩ : ∃ f fd, V0.Df _ mg "_law_thrown" V0.s_thrown V0.P_thrown f fd := by
      refine' V0.df_mk KX G (fun _ _ _ _ _ _ us hl => match us, hl with | [_, _], _ => rfl) ?a ?l ?c ?k
      (case a => k_is); (case l => k_is); (case c => k_is); (case k => k_is)
    obtain ⟨a12, d12, D12⟩ : ∃ f fd, V0.Df _ mg "_law_caught" V0.s_caught V0.P_caught f fd := by
      refine' V0.df_mk KX G (fun _ _ _ _ _ _ us hl => match us, hl with | [_, _], _ => rfl) ?a ?l ?c ?k
      (case a => k_is); (case l => k_is); (case c => k_is); (case k => k_is)
    obtain ⟨fd, hF, hb⟩ := V0.law_mk KX G hmg (by k_is) (by k_is) (by k_is) (by k_is)
    exact ⟨c, fi, fdi, fun n => [a0, a1, a2, a3, a4, a5, a6, a7, a8, a9, a10, a11, a12].getD n 0, fun n => [d0, d1, d2, d3, d4, d5, d6, d7, d8, d9, d10, d11, d12].getD n d0, fd, ⟨hB, hY, D0, D1, D2, D3, D4, D5, D6, D7, D8, D9, D10, D11, D12⟩, hF, hb⟩
