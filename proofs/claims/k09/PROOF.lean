import PyProof.Rows.All
import Wide.All
import OpenK.AllK
import Wide.FinOn
import HandS.ForMost
import HandS.Wide
import HandS.Gcd
import HandS.IsInst
import HandS.Walk
import HandS.Conv
import HandS.Style
import PyProof.Rows.RuleB_pow
import PySem.Challenge.RW_huebill_k09_whole_sums_and_shares_of_cha
import KE.KOpsOwn
import KE.KCallOwn
import KE.KOwnIter
import HandS.Property
import HandS.MakeKwOnly
import HandS.DictComp
import HandS.ListItems
import PyProof.InstNe
import HandS.IterVal
import HandS.IterNext
import PyProof.Rows.TmSorted
import PyProof.Rows.StrMeet
import HandS.More
import HandS.FStr
import HandS.StrMore
import PyProof.Rows.StrDigitsNeg
import HandS.TupAny
import HandS.Zip
import KE.KExcLine
set_option Elab.async false
set_option linter.all false
set_option maxRecDepth 100000
set_option maxHeartbeats 4000000
namespace V0
open PySem PySem.Spec PyProof.Rows L2
/-! ### rules of my own -/
/-- a ** n of great a -/
def CPowB (i j : Int) : Prop := 0 ≤ j ∧ (Builtin.Int.intBits i : Int) * j ≤ 2 ^ 27
/-- a name of the module that holds a plain value -/
def GV (mg : Str → Option Value) (x : Str) (v : V) : Prop := ∃ u, mg x = some u ∧ RelV v u
section
variable {X : Cx}
theorem op_powB : OpR X (binaryOp .Pow) (rI CPowB fun i j => .int (i ^ j.toNat)) := opI fun _ _ _ _ _ _ _ hc q => pow_int hc.1 hc.2 q
theorem pe_gv {x : Str} {v : V} {pos : Pos} (hg : Gl X x) (h : GV X.mg x v) (hd : (x == ("__debug__" : Str)) = false := by decide) : PE X (.Name x pos) (tC v) := by
  obtain ⟨u, hm, r⟩ := h
  exact pe_glob hg hm r hd
/-- a built-in class as a value -/
theorem pe_ty {x : Str} {n : String} {pos : Pos} (hg : Gl X x) (hm : X.mg x = none) (hv : bootBuiltins x = some (.type n)) (hn : x ≠ "__name__" := by decide) (hd : (x == ("__debug__" : Str)) = false := by decide) : PE X (.Name x pos) (tC (.ty n)) := pe_bltn hg hm hv rfl hn hd
end
/-- a def of the text that stands under its own name -/
structure Df (K : PySem.W.Frag) (mg : Str → Option Value) (x : Str) (st : Stmt) (ps : List Str) (f : Addr) (fd : FuncData) : Prop where
  F : Fun K x x st f fd
  b : Binds K fd ps []
  g : mg x = some (.ref f)
/-- the built-in names -/
structure Bl (mg : Str → Option Value) : Prop where
  b_len : mg "len" = none
  b_abs : mg "abs" = none
  b_max : mg "max" = none
  b_min : mg "min" = none
  b_int : mg "int" = none
  b_bool : mg "bool" = none
  b_str : mg "str" = none
  b_tuple : mg "tuple" = none
  b_list : mg "list" = none
  b_dict : mg "dict" = none
  b_all : mg "all" = none
  b_any : mg "any" = none
  b_sum : mg "sum" = none
  b_repr : mg "repr" = none
  b_isinstance : mg "isinstance" = none
  b_range : mg "range" = none
/-- all but the object at p is as it was -/
def But (p : Addr) (H H' : Hp) : Prop := ∀ b o, H b = some o → b ≠ p → H' b = some o
theorem But.of {H H' : Hp} {p : Addr} (s : Same H H') : But p H H' := fun b o e _ => s b o e
theorem But.trans {p : Addr} {H H1 H2 : Hp} (a : But p H H1) (b : But p H1 H2) : But p H H2 := fun c o e h => b c o (a c o e h) h
theorem But.refl {p : Addr} {H : Hp} : But p H H := fun _ _ e _ => e
theorem But.upd {p : Addr} {H : Hp} {o : HO} : But p H (upd H p o) := fun b u e h => by rw [upd_ne h]; exact e
theorem But.new {p q : Addr} {H : Hp} {o : HO} (h : H q = none) : But p H (L2.upd H q o) := fun b u e _ => by rw [upd_ne (ne_of_none e h)]; exact e
theorem Same.new {q : Addr} {H : Hp} {o : HO} (h : H q = none) : Same H (upd H q o) := fun b u e => by rw [upd_ne (ne_of_none e h)]; exact e
theorem at_g {α : Type} {xs : List α} {i : Int} {v : α} (h0 : 0 ≤ i) (h : xs[i.toNat]? = some v) : atI xs i = some v := by
  obtain ⟨n, rfl⟩ : ∃ n : Nat, i = (n : Int) := ⟨i.toNat, by omega⟩
  exact atI_nat h
/-! ### kinds of values -/
inductive Kd where
  | non | bl | int | str | lst | tup | dct
  deriving DecidableEq
def Kd.nm : Kd → String
  | .non => "NoneType" | .bl => "bool" | .int => "int" | .str => "str" | .lst => "list" | .tup => "tuple" | .dct => "dict"
def Kd.is : Kd → Kd → Bool
  | .bl, .int => true
  | .non, .non => true | .bl, .bl => true | .int, .int => true | .str, .str => true | .lst, .lst => true | .tup, .tup => true | .dct, .dct => true
  | _, _ => false
inductive Kn (H : Hp) : V → Kd → Prop
  | non : Kn H .non .non
  | bl (b : Bool) : Kn H (.bl b) .bl
  | int (i : Int) : Kn H (.int i) .int
  | str (x : Str) : Kn H (.str x) .str
  | lst {a : Addr} {xs : List V} (h : H a = some (.lst xs)) : Kn H (.ref a) .lst
  | tup {a : Addr} {xs : List V} (h : H a = some (.tup xs)) : Kn H (.ref a) .tup
  | dct {a : Addr} {kvs : List (Key × V)} (h : H a = some (.dK kvs)) : Kn H (.ref a) .dct
theorem Kn.same {H H' : Hp} {x : V} {t : Kd} (s : Same H H') : Kn H x t → Kn H' x t
  | .non => .non
  | .bl b => .bl b
  | .int i => .int i
  | .str z => .str z
  | .lst h => .lst (s _ _ h)
  | .tup h => .tup (s _ _ h)
  | .dct h => .dct (s _ _ h)
theorem Kn.tyx {K : PySem.W.Frag} {H : Hp} {x : V} {t : Kd} (h : Kn H x t) : TyX K H x (.type t.nm) := by
  cases h with
  | non => exact .base .non
  | bl b => exact .base (.bl b)
  | int i => exact .base (.int i)
  | str z => exact .base (.str z)
  | lst h => exact .base (.lst h)
  | tup h => exact .base (.tup h)
  | dct h => exact .base (.dK h)
theorem kd_kit (t c : Kd) (hc : c ≠ .non) : kitB t.nm c.nm = some (t.is c) := by
  cases t <;> cases c <;> first | exact absurd rfl hc | decide +kernel
section
variable {X : Cx}
/-- isinstance(x, c), c a built-in class -/
def rIs : List V → Hp → VK → Prop := fun xs H Q => ∃ (x : V) (t c : Kd), xs = [x, .ty c.nm] ∧ Kn H x t ∧ c ≠ .non ∧ Q (.bl (t.is c)) H
theorem call_is : CallR X (.builtin "isinstance") rIs := by
  intro pins s σ H xs us Q I r h
  obtain ⟨x, t, c, rfl, k, hc, q⟩ := h
  exact call_isi pins s σ H _ us Q I r ⟨x, .ty c.nm, _, _, _, rfl, .ty _, k.tyx, kit_ty (kd_kit t c hc), q⟩
end
/-! ### the draws -/
/-- the pot of draws -/
def Pot (H : Hp) (p : Addr) : Prop := ∃ a b c : Int, H p = some (.lst [.int a, .int b, .int c]) ∧ 0 ≤ a ∧ 0 ≤ b ∧ b < 2 ^ 62 ∧ 0 ≤ c
theorem Pot.same {H H' : Hp} {p : Addr} (s : Same H H') (h : Pot H p) : Pot H' p := by
  obtain ⟨a, b, c, hp, r⟩ := h
  exact ⟨a, b, c, s _ _ hp, r⟩
def spPot (K : PySem.W.Frag) : Sp := fun vs H Q _ => ∃ (a : Addr) (ns : List Int) (j : Nat), vs = [.ref a, .int j] ∧ SqL K H a (ns.map V.int) ∧ ns.length ≤ 1000 ∧ j < 1000 ∧
  ∀ (p : Addr) (H' : Hp), H p = none → Pot H' p → Same H H' → Q (.ref p) H'
def spStir : Sp := fun vs H Q _ => ∃ (p : Addr) (t : Int), vs = [.ref p, .int t] ∧ Pot H p ∧ 0 < t ∧ t < 2 ^ 200 ∧
  ∀ (r : Int) (H' : Hp), 0 ≤ r → r < t → Pot H' p → But p H H' → Q (.int r) H'
/-- one of the items of a list, or of the signs of a text -/
def spOneOf (K : PySem.W.Frag) : Sp := fun vs H Q _ => ∃ (p : Addr) (o : V), vs = [.ref p, o] ∧ Pot H p ∧
  ((∃ (l : Addr) (xs : List V), o = .ref l ∧ l ≠ p ∧ H l = some (.lst xs) ∧ xs ≠ [] ∧ xs.length ≤ 1000 ∧ ∀ x, x ∈ xs → ∀ H', Pot H' p → But p H H' → Q x H') ∨
   (∃ z : Str, o = .str z ∧ z.length ≠ 0 ∧ z.length ≤ 1000 ∧ ∀ c, c ∈ z.cps.toList → ∀ H', Pot H' p → But p H H' → Q (.str ⟨#[c]⟩) H'))
end V0

namespace V0
open PySem PySem.Spec PyProof.Rows L2
def top (i : Nat) : Stmt := PySem.Challenge.pw_huebill_k09_whole_sums_and_shares_of_cha.main.body.getD i (.Pass ⟨0, 0, 0, 0⟩)
section
variable {P : Program} {w : World} {K : PySem.W.Frag} {mg : Str → Option Value} {base : Heap}
abbrev s_pot : Stmt := top 31
abbrev N_pot : List Str := ["_law_script", "_law_at", "_law_cell", "_law_great", "_law_mixed"]
abbrev P_pot : List Str := ["_law_script", "_law_at"]
theorem sc_pot : FnScope N_pot P_pot (defScope s_pot) := ⟨rfl, rfl, rfl, by decide +kernel, rfl, by decide +kernel, by decide +kernel⟩
theorem ok_pot {f : Addr} {fd : FuncData} (B : Bl mg) (D : Df K mg "_law_pot" s_pot P_pot f fd) : FnOk P w K mg base CX0 1 f fd P_pot (spPot K) := by
  refine D.F.ok sc_pot (fun vs H Q E h => ?_) (fun cdv A outer s H vs Q E hr h => ?_)
  · obtain ⟨a, ns, j, rfl, _⟩ := h
    rfl
  · obtain ⟨a, ns, j, rfl, hS, hl, hj, k⟩ := h
    refine ⟨_, (pss_cons (ps_set (i := 2) sc_pot.nd rfl (Or.inl rfl) (pe_ifExp (pt_cmpR op_lt (pv 1) (pe_callB call_len_seq (by rfl) B.b_len (by decide +kernel) (pa_cons (pv 0) pa_nil)) (nomark _)) (pe_ix ix_list (pv 0) (pv 1) (fun _ _ => rfl)) (pe_op op_add (pe_op op_mul pe_int (pv 1)) pe_int)))
      (pss_cons (ps_set (i := 3) sc_pot.nd rfl (Or.inl rfl) (pe_op op_mod (pe_callTy call_int1 (by rfl) B.b_int (by decide +kernel) (pa_cons (pe_callB call_abs (by rfl) B.b_abs (by decide +kernel) (pa_cons (pv 2) pa_nil)) pa_nil)) (pe_op op_powB (pe_op op_pow pe_int pe_int) pe_int)))
      (pss_cons (ps_set (i := 4) sc_pot.nd rfl (Or.inl rfl) (pe_op op_add (pe_op op_add (pe_op op_add (pe_op op_mul (pe_op op_mod (pe_callTy call_int1 (by rfl) B.b_int (by decide +kernel) (pa_cons (pv 3) pa_nil)) pe_int) pe_int) (pe_op op_mul pe_int (pv 1))) (pe_op op_mul pe_int (pe_callTy call_int1 (by rfl) B.b_int (by decide +kernel) (pa_cons (pe_cmpR op_lt (pv 2) pe_int (nomark _)) pa_nil)))) pe_int))
      (pss_one (ps_ret (pe_lst (pa_cons (pe_callB (call_max2 rfl) (by rfl) B.b_max (by decide +kernel) (pa_cons pe_int (pa_cons (pe_op op_sub (pv 3) (pe_op op_pow pe_int pe_int)) pa_nil))) (pa_cons (pe_op op_mod (pe_callTy call_int1 (by rfl) B.b_int (by decide +kernel) (pa_cons (pv 4) pa_nil)) pe_int) (pa_cons pe_int pa_nil))))))))), ?_⟩
    -- cell: any int
    refine ⟨_, rfl, _, rfl, a, _, rfl, .inl hS, _, _, rfl, rfl, _, rfl, ?_⟩
    refine ite2 (fun e => ?_) (fun e => ?_)
    all_goals first
      | (have hlt : j < ns.length := by
          have e' := of_decide_eq_true e
          rw [List.length_map] at e'
          omega
         refine ⟨_, rfl, _, rfl, a, _, _, .int ns[j], rfl, rfl, hS, at_of (j := j) rfl (by rw [List.getElem?_map, List.getElem?_eq_getElem hlt]; rfl), ?_⟩
         generalize ns[j] = z)
      | (refine ⟨_, rfl, _, _, rfl, rfl, .inl ⟨by decide, by decide⟩, _, _, rfl, rfl, ?_⟩
         generalize 97 * (j : Int) + 59 = z)
    all_goals (
      -- great, mixed, the pot
      refine ⟨_, rfl, _, rfl, .inl ⟨_, rfl, _, _, rfl, rfl, ⟨by decide, by decide, by decide⟩, _, _, rfl, rfl, ⟨by decide, by decide +kernel⟩, _, _, rfl, rfl, (by show (0 : Int) < _; decide +kernel), ?_⟩⟩
      generalize hg : (if z < 0 then -z else z) % ((10 ^ Int.toNat 59) ^ Int.toNat 9) = g
      refine ⟨_, rfl, .inl ⟨_, rfl, _, _, rfl, rfl, (by show (0 : Int) < 2305843009213693921; decide), _, _, rfl, rfl, .inr ⟨by decide, by decide⟩, _, rfl, _, _, rfl, rfl, .inl ⟨by decide, by decide⟩, _, _, rfl, rfl, _, rfl, _, _, rfl, rfl, .inr ⟨_, rfl, _, _, rfl, rfl, .inl ⟨by decide, by decide⟩, _, _, rfl, rfl, _, _, rfl, rfl, ?_⟩⟩⟩
      refine ⟨_, rfl, _, _, rfl, rfl, ⟨by decide, by decide, by decide⟩, _, _, rfl, rfl, _, _, rfl, _, rfl, .inl ⟨_, rfl, _, _, rfl, rfl, (by show (0 : Int) < 2305843009213693951; decide), (by show 3 ≤ sizeLine; decide), fun p hp => ?_⟩⟩
      refine k p _ hp ⟨_, _, _, upd_same, ?_, Int.emod_nonneg _ (by decide), ?_, by decide⟩ (Same.new hp)
      · split <;> omega
      · exact Int.lt_of_lt_of_le (Int.emod_lt_of_pos _ (by decide)) (by decide))
abbrev s_stir : Stmt := top 32
abbrev N_stir : List Str := ["_law_pot_here", "_law_total", "_law_found", "_law_one", "_law_two"]
abbrev P_stir : List Str := ["_law_pot_here", "_law_total"]
theorem sc_stir : FnScope N_stir P_stir (defScope s_stir) := ⟨rfl, rfl, rfl, by decide +kernel, rfl, by decide +kernel, by decide +kernel⟩
theorem ok_stir {f : Addr} {fd : FuncData} (B : Bl mg) (D : Df K mg "_law_stir" s_stir P_stir f fd) : FnOk P w K mg base CX0 1 f fd P_stir spStir := by
  refine D.F.ok sc_stir (fun vs H Q E h => ?_) (fun cdv A outer s H vs Q E hr h => ?_)
  · obtain ⟨p, t, rfl, _⟩ := h
    rfl
  · obtain ⟨p, t, rfl, ⟨a, b, c, hp, ha, hb, hb2, hc⟩, ht, ht2, k⟩ := h
    refine ⟨_, (pss_cons (ps_if (pt_cmpR op_gt (pe_ix ix_list (pv 0) pe_int (fun _ _ => rfl)) pe_int (nomark _)) (pss_cons (ps_set (i := 2) sc_stir.nd rfl (Or.inl rfl) (pe_op op_mod (pe_callTy call_int1 (by rfl) B.b_int (by decide +kernel) (pa_cons (pe_ix ix_list (pv 0) pe_int (fun _ _ => rfl)) pa_nil)) (pv 1)))
      (pss_cons (ps_asg (pe_op op_fdivW (pe_ix ix_list (pv 0) pe_int (fun _ _ => rfl)) (pv 1)) (pg_sub (pv 0) pe_int set_list))
      (pss_one (ps_ret (pv 2))))) pss_nil)
      (pss_cons (ps_asg (pe_op op_add (pe_ix ix_list (pv 0) pe_int (fun _ _ => rfl)) pe_int) (pg_sub (pv 0) pe_int set_list))
      (pss_cons (ps_set (i := 3) sc_stir.nd rfl (Or.inl rfl) (pe_op op_mod (pe_callTy call_int1 (by rfl) B.b_int (by decide +kernel) (pa_cons (pe_op op_add (pe_ix ix_list (pv 0) pe_int (fun _ _ => rfl)) (pe_op op_mul pe_int (pe_ix ix_list (pv 0) pe_int (fun _ _ => rfl)))) pa_nil)) pe_int))
      (pss_cons (ps_set (i := 4) sc_stir.nd rfl (Or.inl rfl) (pe_op op_add (pe_op op_mul (pe_op op_mod (pe_callTy call_int1 (by rfl) B.b_int (by decide +kernel) (pa_cons (pe_op op_mul (pv 3) (pv 3)) pa_nil)) pe_int) (pv 3)) (pe_op op_mul pe_int (pe_ix ix_list (pv 0) pe_int (fun _ _ => rfl)))))
      (pss_one (ps_ret (pe_op op_mod (pe_callTy call_int1 (by rfl) B.b_int (by decide +kernel) (pa_cons (pe_op op_fdivW (pe_op op_mod (pe_callTy call_int1 (by rfl) B.b_int (by decide +kernel) (pa_cons (pv 4) pa_nil)) pe_int) pe_int) pa_nil)) (pv 1)))))))), ?_⟩
    -- if pot[0] > 0
    refine ⟨_, rfl, p, _, 0, .int a, rfl, rfl, SqL.of hp, rfl, _, _, rfl, rfl, _, rfl, ite2 (fun e => ?_) (fun e => ?_)⟩
    · -- found = pot[0] % total; pot[0] = pot[0] // total; return found
      refine ⟨_, rfl, p, _, 0, .int a, rfl, rfl, SqL.of hp, rfl, .inl ⟨_, rfl, ?_⟩⟩
      refine ⟨_, rfl, _, _, rfl, rfl, ht, ?_⟩
      refine ⟨_, rfl, p, _, 0, .int a, rfl, rfl, SqL.of hp, rfl, _, rfl, _, _, rfl, rfl, wide_div ht (b := 200) (by omega) (by decide) (by decide), ?_⟩
      refine ⟨_, rfl, p, _, 0, 0, rfl, rfl, hp, rfl, ?_⟩
      refine ⟨_, rfl, ?_⟩
      exact k _ _ (Int.emod_nonneg _ (by omega)) (Int.emod_lt_of_pos _ ht) ⟨a / t, b, c, upd_same, Int.ediv_nonneg ha (by omega), hb, hb2, hc⟩ But.upd
    · -- pot[2] = pot[2] + 1
      refine ⟨_, rfl, p, _, 2, .int c, rfl, rfl, SqL.of hp, rfl, _, _, rfl, rfl, _, rfl, p, _, 2, 2, rfl, rfl, hp, rfl, ?_⟩
      have hp2 : (upd H p (.lst [.int a, .int b, .int (c + 1)])) p = some (.lst [.int a, .int b, .int (c + 1)]) := upd_same
      -- one = int(pot[1] + 1048583 * pot[2]) % ..
      refine ⟨_, rfl, p, _, 1, .int b, rfl, rfl, SqL.of hp2, rfl, _, rfl, p, _, 2, .int (c + 1), rfl, rfl, SqL.of hp2, rfl, _, _, rfl, rfl, .inl ⟨by decide, by decide⟩, _, _, rfl, rfl, .inl ⟨_, rfl, _, _, rfl, rfl, (by show (0 : Int) < 2305843009213693951; decide), ?_⟩⟩
      generalize hx : (b + 1048583 * (c + 1)) % 2305843009213693951 = x
      have x0 : 0 ≤ x := by rw [← hx]; exact Int.emod_nonneg _ (by decide)
      have x1 : x < 2305843009213693951 := by rw [← hx]; exact Int.emod_lt_of_pos _ (by decide)
      -- two = int(one * one) % .. * one + 8101 * pot[2]
      refine ⟨_, rfl, _, rfl, _, _, rfl, rfl, .inl ⟨by omega, by omega⟩, .inl ⟨_, rfl, _, _, rfl, rfl, (by show (0 : Int) < 2305843009213693907; decide), ?_⟩⟩
      have y1 : (x * x) % 2305843009213693907 < 2305843009213693907 := Int.emod_lt_of_pos _ (by decide)
      have y0 : 0 ≤ (x * x) % 2305843009213693907 := Int.emod_nonneg _ (by decide)
      refine ⟨_, rfl, _, _, rfl, rfl, .inl ⟨by omega, by omega⟩, _, rfl, p, _, 2, .int (c + 1), rfl, rfl, SqL.of hp2, rfl, _, _, rfl, rfl, .inl ⟨by decide, by decide⟩, _, _, rfl, rfl, ?_⟩
      -- return int(int(two) % .. // 16384) % total
      refine ⟨_, rfl, .inl ⟨_, rfl, _, _, rfl, rfl, (by show (0 : Int) < 2305843009213693921; decide), _, _, rfl, rfl, ⟨by decide, by decide⟩, .inl ⟨_, rfl, _, rfl, _, _, rfl, rfl, ht, ?_⟩⟩⟩
      exact k _ _ (Int.emod_nonneg _ (by omega)) (Int.emod_lt_of_pos _ ht) ⟨a, b, c + 1, hp2, ha, hb, hb2, by omega⟩ But.upd
end
end V0
namespace V0
open PySem PySem.Spec PyProof.Rows L2
section
variable {P : Program} {w : World} {K : PySem.W.Frag} {mg : Str → Option Value} {base : Heap}
abbrev s_one_of : Stmt := top 33
abbrev N_one_of : List Str := ["_law_pot_here", "_law_items"]
abbrev P_one_of : List Str := ["_law_pot_here", "_law_items"]
theorem sc_one_of : FnScope N_one_of P_one_of (defScope s_one_of) := ⟨rfl, rfl, rfl, by decide +kernel, rfl, by decide +kernel, by decide +kernel⟩
theorem ok_one_of {f f1 : Addr} {fd fd1 : FuncData} (B : Bl mg) (D_stir : Df K mg "_law_stir" s_stir P_stir f1 fd1) (D : Df K mg "_law_one_of" s_one_of P_one_of f fd) : FnOk P w K mg base CX0 2 f fd P_one_of (spOneOf K) := by
  have G_stir : FnOk P w K mg base CX0 1 f1 fd1 P_stir spStir := ok_stir B D_stir
  refine D.F.ok sc_one_of (fun vs H Q E h => ?_) (fun cdv A outer s H vs Q E hr h => ?_)
  · obtain ⟨p, o, rfl, _⟩ := h
    rfl
  · obtain ⟨p, o, rfl, hp, ⟨l, xs, rfl, hlp, hl, hne, hn, k⟩ | ⟨z, rfl, hne, hn, k⟩⟩ := h
    · refine ⟨_, (pss_one (ps_ret (pe_ix ix_seq (pv 1) (pe_call G_stir (hr.mono (by decide)) (by rfl) D_stir.g D_stir.F.kp D_stir.b .nil pass0 (pa_cons (pv 0) (pa_cons (pe_callB call_len (by rfl) B.b_len (by decide +kernel) (pa_cons (pv 1) pa_nil)) pa_nil))) (fun _ _ => rfl)))), ?_⟩
      have h0 : 0 < xs.length := List.length_pos_iff.mpr hne
      refine ⟨_, rfl, _, rfl, _, rfl, _, xs.length, rfl, .inl ⟨_, SqL.of hl, rfl⟩, p, _, rfl, hp, by omega, by omega, fun r H' r0 r1 hp' hb => ?_⟩
      have hr : r.toNat < xs.length := by omega
      exact .inl ⟨l, xs, r, xs[r.toNat], rfl, rfl, SqL.of (hb _ _ hl hlp), at_of (j := r.toNat) (by omega) (List.getElem?_eq_getElem hr), k _ (List.getElem_mem hr) H' hp' hb⟩
    · refine ⟨_, (pss_one (ps_ret (pe_ix ix_seq (pv 1) (pe_call G_stir (hr.mono (by decide)) (by rfl) D_stir.g D_stir.F.kp D_stir.b .nil pass0 (pa_cons (pv 0) (pa_cons (pe_callB call_len (by rfl) B.b_len (by decide +kernel) (pa_cons (pv 1) pa_nil)) pa_nil))) (fun _ _ => rfl)))), ?_⟩
      have hz : (1000 : Nat) ≤ sizeLine := by decide
      refine ⟨_, rfl, _, rfl, _, rfl, _, z.length, rfl, ⟨by omega, rfl⟩, p, _, rfl, hp, by omega, by omega, fun r H' r0 r1 hp' hb => ?_⟩
      have hl : z.cps.toList.length = z.length := rfl
      have hr : r.toNat < z.cps.toList.length := by omega
      refine .inr (.inr ⟨z, r, z.cps.toList[r.toNat], rfl, rfl, by omega, ?_, k _ (List.getElem_mem hr) H' hp' hb⟩)
      exact at_g r0 (List.getElem?_eq_getElem hr)
end
end V0

namespace V0
open PySem PySem.Spec PyProof.Rows L2
/-! ### data that can be shown -/
theorem SqT.same {K : PySem.W.Frag} {H H' : Hp} {a : Addr} {xs : List V} (e : Same H H') (h : SqT K H a xs) : SqT K H' a xs := by
  rcases h with (h | ⟨o, h⟩) | h
  · exact .inl (.inl (e _ _ h))
  · exact .inl (.inr ⟨o, e _ _ h⟩)
  · exact .inr h
mutual
theorem Dp.same {K : PySem.W.Frag} {H H' : Hp} (s : Same H H') : ∀ (d : PyData) (v : V), Dp K H v d → Dp K H' v d
  | .none, _, h => by cases h; exact .non
  | .bool b, _, h => by cases h; exact .bl b
  | .int i, _, h => by cases h; exact .int i
  | .str x, _, h => by cases h; exact .str x
  | .list ds, _, h => by
    cases h with
    | lst a b => exact .lst (Same.seq s a) (Dp.sameAll s ds _ b)
  | .tuple ds, _, h => by
    cases h with
    | tup a b => exact .tup (SqT.same s a) (Dp.sameAll s ds _ b)
  | .dict _, _, h => by cases h
theorem Dp.sameAll {K : PySem.W.Frag} {H H' : Hp} (s : Same H H') : ∀ (ds : List PyData) (vs : List V), DpAll K H vs ds → DpAll K H' vs ds
  | [], _, h => by cases h; exact .nil
  | d :: ds, _, h => by
    cases h with
    | cons a b => exact .cons (Dp.same s d _ a) (Dp.sameAll s ds _ b)
end
mutual
theorem Dp.noDict {K : PySem.W.Frag} {H : Hp} : ∀ (d : PyData) (v : V), Dp K H v d → d.hasDict = false
  | .none, _, _ => rfl
  | .bool _, _, _ => rfl
  | .int _, _, _ => rfl
  | .str _, _, _ => rfl
  | .list ds, _, h => by
    cases h with
    | lst a b =>
      show PyData.hasDictAll ds = false
      exact Dp.noDictAll ds _ b
  | .tuple ds, _, h => by
    cases h with
    | tup a b =>
      show PyData.hasDictAll ds = false
      exact Dp.noDictAll ds _ b
  | .dict _, _, h => by cases h
theorem Dp.noDictAll {K : PySem.W.Frag} {H : Hp} : ∀ (ds : List PyData) (vs : List V), DpAll K H vs ds → PyData.hasDictAll ds = false
  | [], _, _ => rfl
  | d :: ds, _, h => by
    cases h with
    | cons a b =>
      show (PyData.hasDict d || PyData.hasDictAll ds) = false
      rw [Dp.noDict d _ a, Dp.noDictAll ds _ b]
      rfl
end
/-- not too deep, not too large -/
structure Sm (k : Nat) (d : PyData) : Prop where
  sh : d.showable = true
  lv : d.leavesShort 100 = true
  dp : d.depth ≤ k
  wt : d.weight ≤ 1000 * 4 ^ k
theorem Sm.up {k : Nat} {d : PyData} (h : Sm k d) : Sm (k + 1) d := ⟨h.sh, h.lv, by have := h.dp; omega, by have := h.wt; rw [Nat.pow_succ]; omega⟩
theorem Sm.int {i : Int} (h : i.natAbs < 10 ^ 90) : Sm 0 (.int i) := by
  have h2 : i.natAbs < 2 ^ 900 := Nat.lt_trans h (by decide +kernel)
  have hl : i.natAbs.log2 < 900 := by
    by_cases h0 : i.natAbs = 0
    · rw [h0]; decide
    · exact (Nat.log2_lt h0).mpr h2
  refine ⟨?_, ?_, Nat.le_refl _, ?_⟩
  · show decide (i.natAbs.log2 < 1920) = true
    exact decide_eq_true (by omega)
  · show decide ((PyData.shown (.int i)).length ≤ 100) = true
    have e := int_text_length_le10 (a := i) (k := 90) (by decide) h
    have e2 : (PyData.shown (.int i)).length = (toString i).length := by
      show (Str.ofString (toString i)).length = _
      rw [PySem.ofString_length]
    exact decide_eq_true (by omega)
  · show (if i == 0 then 0 else i.natAbs.log2 + 1) ≤ 1000 * 4 ^ 0
    split <;> omega
theorem Sm.str {z : Str} (h : z.length ≤ 900) (ho : PyData.strOk z = true) : Sm 0 (.str z) := by
  refine ⟨rfl, ?_, Nat.le_refl _, ?_⟩
  · show (z.cps.toList.all fun c => decide (c < 16 ^ 8)) = true
    rw [List.all_eq_true]
    intro c hc
    have q : c < 0x110000 := of_decide_eq_true (Array.all_eq_true_iff_forall_mem.mp ho c (by rw [← Array.mem_toList_iff]; exact hc))
    exact decide_eq_true (by omega)
  · show z.cps.size ≤ 1000 * 4 ^ 0
    have : z.cps.size = z.length := rfl
    omega
theorem Sm.non : Sm 0 .none := ⟨rfl, rfl, Nat.le_refl _, Nat.zero_le _⟩
theorem Sm.bl (b : Bool) : Sm 0 (.bool b) := ⟨rfl, rfl, Nat.le_refl _, Nat.zero_le _⟩
theorem sm_all {k : Nat} : ∀ ds : List PyData, (∀ d ∈ ds, Sm k d) → PyData.showableAll ds = true ∧ PyData.leavesShortAll 100 ds = true ∧ PyData.depthAll ds ≤ k ∧ PyData.weightAll ds ≤ ds.length * (1000 * 4 ^ k + 1)
  | [], _ => ⟨rfl, rfl, Nat.zero_le _, Nat.zero_le _⟩
  | d :: ds, h => by
    obtain ⟨a, b, c, e⟩ := sm_all ds fun x hx => h x (by simp [hx])
    have q := h d (by simp)
    refine ⟨?_, ?_, ?_, ?_⟩
    · show (PyData.showable d && PyData.showableAll ds) = true
      rw [q.sh, a]; rfl
    · show (PyData.leavesShort 100 d && PyData.leavesShortAll 100 ds) = true
      rw [q.lv, b]; rfl
    · show max (PyData.depth d) (PyData.depthAll ds) ≤ k
      exact Nat.max_le.mpr ⟨q.dp, c⟩
    · show PyData.weight d + 1 + PyData.weightAll ds ≤ (ds.length + 1) * (1000 * 4 ^ k + 1)
      have w := q.wt
      rw [Nat.succ_mul]
      omega
theorem Sm.seq {k : Nat} {ds : List PyData} (h : ∀ d ∈ ds, Sm k d) (hn : ds.length ≤ 3) : Sm (k + 1) (.list ds) ∧ Sm (k + 1) (.tuple ds) := by
  obtain ⟨a, b, c, e⟩ := sm_all ds h
  have w : PyData.weightAll ds ≤ 1000 * 4 ^ (k + 1) := by
    have e2 : ds.length * (1000 * 4 ^ k + 1) ≤ 3 * (1000 * 4 ^ k + 1) := Nat.mul_le_mul_right _ hn
    have p : 0 < 4 ^ k := Nat.pow_pos (by decide)
    rw [Nat.pow_succ]
    omega
  exact ⟨⟨a, b, Nat.succ_le_succ c, w⟩, ⟨a, b, Nat.succ_le_succ c, w⟩⟩
theorem Sm.size {k : Nat} {d : PyData} (h : Sm k d) (hk : k ≤ 3) : d.shown.length ≤ sizeLine := by
  have q := PyData.shown_le 100 (by decide) d h.lv
  have w := h.wt
  have p : 4 ^ k ≤ 4 ^ 3 := Nat.pow_le_pow_right (by decide) hk
  have hs : sizeLine = 16777216 := sizeLine_eq
  omega
/-- a dict of ints at a -/
def ikv (ks : List (Int × Int)) : List (Key × V) := ks.map fun p => (.inl p.1, .int p.2)
def idd (ks : List (Int × Int)) : PyData := .dict (ks.map fun p => (.int p.1, .int p.2))
/-- what repr can show -/
inductive Rp (K : PySem.W.Frag) (H : Hp) : V → PyData → Prop
  | dp {x : V} {d : PyData} (h : Dp K H x d) : Rp K H x d
  | dct {a : Addr} {ks : List (Int × Int)} (h : H a = some (.dK (ikv ks))) : Rp K H (.ref a) (idd ks)
  | pair {a b : Addr} {z : Str} {ks : List (Int × Int)} (h : H a = some (.tup [.str z, .ref b])) (h2 : H b = some (.dK (ikv ks))) : Rp K H (.ref a) (.tuple [.str z, idd ks])
section
variable {X : Cx} {pins : List (Addr × Obj)} {σ : L2.St} {H : Hp} {s : Shared}
theorem pairs_ints {P : Program} {w : World} : ∀ {es : List DictEntry} {ks : List (Int × Int)} {vs : List (Key × Value)}, KV (ikv ks) vs → Pairs (mixKind P w) es vs →
    (∃ as, ReadsAll s.heap (es.map (·.key)) (ks.map fun p => PyData.int p.1) as ∧ as = []) ∧ (∃ as, ReadsAll s.heap (es.map (·.val)) (ks.map fun p => PyData.int p.2) as ∧ as = [])
  | es, [], _, kv, p => by
    cases kv
    cases p
    exact ⟨⟨_, .nil, rfl⟩, ⟨_, .nil, rfl⟩⟩
  | es, k :: ks, _, kv, p => by
    cases kv with
    | @cons _ q _ qs e1 e2 =>
      cases p with
      | @cons e _ es' _ p1 p2 p3 =>
        obtain ⟨⟨as, r1, rfl⟩, ⟨bs, r2, rfl⟩⟩ := pairs_ints e2 p3
        obtain ⟨q1, q2⟩ := q
        obtain ⟨e1, t, e3⟩ := e1
        have e1' : Sum.inl k.1 = q1 := e1
        subst e1'
        obtain ⟨t2, e4⟩ := Value.isInt_shape (k := k.1) (v := e.key) p1
        refine ⟨⟨_, ?_, rfl⟩, ⟨_, ?_, rfl⟩⟩
        · rw [List.map_cons, e4]
          exact ReadsAll.cons (.int _ _) r1
        · rw [List.map_cons, p2]
          have e3' : q2 = Value.int k.2 t := e3
          show ReadsAll s.heap (q2 :: _) _ _
          rw [e3']
          exact ReadsAll.cons (.int _ _) r2
theorem dict_reads (I : Inv X pins σ H s) {a : Addr} {ks : List (Int × Int)} (h : H a = some (.dK (ikv ks))) : Reads s.heap (.ref a) (idd ks) [a] ∧ sysModules ≠ a := by
  obtain ⟨hz, hS, vs, r, o, es, ep, h1, h2, h3, h4, h5, h6⟩ := (show ObjOk X.prog X.w H s.heap a (.dK (ikv ks)) from I.hok a _ h)
  obtain ⟨⟨as, r1, rfl⟩, ⟨bs, r2, rfl⟩⟩ := pairs_ints (s := s) r h5
  refine ⟨?_, fun z => by rw [z] at hS; simp at hS⟩
  have q := Reads.dict (h := s.heap) (a := a) (o := o) (es := es) (n := ep) (kvs := ks.map fun p => (PyData.int p.1, PyData.int p.2)) (as := []) (bs := []) h1 h2.1 h3 (by rw [List.map_map]; exact r1) (by rw [List.map_map]; exact r2)
  exact q
theorem Rp.reads (I : Inv X pins σ H s) {x : V} {d : PyData} {u : Value} (h : Rp X.K H x d) (r : RelV x u) : ∃ as, Reads s.heap u d as ∧ (d.hasDict = true → sysModules ∉ as) := by
  cases h with
  | dp h =>
    obtain ⟨as, q⟩ := Dp.reads I d x u h r
    exact ⟨as, q, fun z => by rw [Dp.noDict d x h] at z; cases z⟩
  | dct h =>
    cases r
    obtain ⟨q, n⟩ := dict_reads I h
    exact ⟨_, q, fun _ z => n (by simpa using z)⟩
  | @pair a b z ks h h2 =>
    cases r
    obtain ⟨q, n⟩ := dict_reads I h2
    obtain ⟨its, rv, ⟨o, ho, hc, m, hd⟩, _⟩ := I.tuple (SqT.of h)
    cases rv with
    | cons r1 r2 =>
      cases r2 with
      | cons r2 r3 =>
        cases r3
        obtain ⟨t, e1⟩ := r1
        subst e1
        cases r2
        have ra := ReadsAll.cons (Reads.str (h := s.heap) z t) (ReadsAll.cons q ReadsAll.nil)
        exact ⟨_, Reads.tuple ho hc hd ra, fun _ z => n (by simpa using z)⟩
end
/-- repr, where no other repr is under way -/
def rRepr (K : PySem.W.Frag) : List V → Hp → VK → Prop := fun xs H Q => ∃ (x : V) (d : PyData) (k : Nat), xs = [x] ∧ Rp K H x d ∧ Sm k d ∧ k ≤ 3 ∧ (∃ a, x = .ref a) ∧ Q (.str d.shown) H
theorem call_repr {X : Cx} (hg : X.A.guards = some []) (hu : X.A.units + 64 < cLine) : CallR X (.builtin "repr") (rRepr X.K) := by
  intro pins s σ H xs us Q I r h
  obtain ⟨x, d, k, rfl, hr, hs, hk, ⟨a, rfl⟩, q⟩ := h
  obtain ⟨u, rfl, rx⟩ := vals1 r
  obtain ⟨as, rd, hn⟩ := hr.reads I rx
  cases rx
  have hd := hs.dp
  refine repr_of_reads' rd hs.sh hn hg (by omega) (fun _ _ e => e) (fun h' u tk kk => ?_) (hs.size hk)
  exact ⟨.str d.shown, H, I.kept kk, ⟨_, rfl⟩, q⟩
end V0
namespace V0
open PySem PySem.Spec PyProof.Rows L2
/-! ### own methods under their special names -/
structure OwnM (P : Program) (w : World) (K : PySem.W.Frag) (mg : Str → Option Value) (base : Heap) (CX : CXT) (k : Nat) (C : Addr) (name : Str) (sp : Sp) : Prop where
  ex : ∃ (g : Addr) (fd : FuncData) (ps : List Str), PySem.W.findIn K (.ref C) name = some (some (.ref g)) ∧ PySem.W.isFn K (.ref g) = true ∧ Binds K fd ps [] ∧ FnOk P w K mg base CX k g fd ps sp
section
variable {X : Cx} {CX : CXT} {k : Nat} {C a dx : Addr} {name : Str} {sp : Sp} {E : XK} {pins : List (Addr × Obj)} {σ : L2.St} {H : Hp} {s : Shared} {fs : List (Str × V)}
theorem OwnM.run (O : OwnM X.prog X.w X.K X.mg X.base CX k C name sp) {A : Around} {vs : List V} {us : List Value} {Q : VK} (hr : Room k A) (hf : A.frames = X.A.frames) (hx : Passes CX X E) (I : Inv X pins σ H s) (r : Vals vs us) (h : sp vs H Q E) :
    ∃ g, PySem.W.findIn X.K (.ref C) name = some (some (.ref g)) ∧ PySem.W.isFn X.K (.ref g) = true ∧ wpAny (model X.prog X.w) A (call (.ref g) us) (EP X pins σ Q) X.xe s := by
  obtain ⟨g, fd, ps, h1, h2, hb, F⟩ := O.ex
  refine ⟨g, h1, h2, ?_⟩
  have e0 : Env0 X.prog X.w X.K X.mg X.base A X.stack s H := by
    have e := I.env0
    exact ⟨by rw [hf]; exact e.frames, e.mod, e.bs, e.bsz, e.funs, e.frf, e.hok, e.bare⟩
  have hl : us.length = ps.length := by rw [← r.length]; exact F.len _ _ _ _ h
  have b := hb s us I.kIn (by rw [List.append_nil]; exact hl)
  rw [List.append_nil] at b
  refine wpAny_call (codeAny_mono (F.run A X.stack s H ⟨us, []⟩ us vs Q E hr e0 b r h) fun r s' hq => ?_)
  cases r with
  | error e => exact hx pins σ H s e s' I hq
  | ok fl =>
    cases fl with
    | ret u => exact I.after hq
    | next => exact False.elim hq
    | brk => exact False.elim hq
    | cont => exact False.elim hq
theorem inst_of (I : Inv X pins σ H s) (ha : H a = some (.ins C dx fs)) : ∃ ox od, PySem.W.InstAt s.heap a ox C (some od) := by
  obtain ⟨mA, O, _⟩ := ins_get I.hok ha
  obtain ⟨od, J, _⟩ := O.look
  exact ⟨_, od, J⟩
/-- len(o) -/
def rLenO (C : Addr) (sp : Sp) (E : XK) : List V → Hp → VK → Prop := fun xs H Q => ∃ a dx fs, xs = [.ref a] ∧ H a = some (.ins C dx fs) ∧ sp [.ref a] H (fun v H' => ∃ n : Int, v = .int n ∧ 0 ≤ n ∧ n < 2 ^ 63 ∧ Q (.int n) H') E
theorem call_lenO (O : OwnM X.prog X.w X.K X.mg X.base CX k C "__len__" sp) (hr : Room (k + 1) X.A) (hx : Passes CX X E) : CallR X (.builtin "len") (rLenO C sp E) := by
  intro pins s σ H xs us Q I r h
  obtain ⟨a, dx, fs, rfl, ha, q⟩ := h
  obtain ⟨u, rfl, ru⟩ := vals1 r
  cases (show u = Value.ref a from ru)
  obtain ⟨ox, od, J⟩ := inst_of I ha
  obtain ⟨m, hF⟩ := I.fr
  obtain ⟨g, h1, h2, hw⟩ := O.run (A := X.A.in1) (vs := [.ref a]) (us := [.ref a]) hr.in1 rfl hx I (.cons rfl .nil) q
  refine PySem.W.len_K hF I.ok.mod.kin J h1 h2 (wpAny_mono hw (fun v s' z => ?_) fun _ _ x => x)
  obtain ⟨v', H', I', rv, n, rfl, n0, n1, q'⟩ := z
  obtain ⟨t, rfl⟩ := (show ∃ t, v = Value.int n t from rv)
  exact ⟨⟨n0, n1⟩, .int n, H', I'.tok _, ⟨_, rfl⟩, q'⟩
/-- x in o -/
def rInO (C : Addr) (sp : Sp) (E : XK) (neg : Bool) : R2 := fun x y H Q => ∃ a dx fs, y = .ref a ∧ H a = some (.ins C dx fs) ∧ sp [.ref a, x] H (fun v H' => ∃ b : Bool, v = .bl b ∧ Q (.bl (if neg then !b else b)) H') E
theorem op_inO (O : OwnM X.prog X.w X.K X.mg X.base CX k C "__contains__" sp) (hr : Room k X.A) (hx : Passes CX X E) : OpR X (compareOp .In) (rInO C sp E false) := by
  intro pins s σ H x y v u Q I rx ry h
  obtain ⟨a, dx, fs, rfl, ha, q⟩ := h
  cases (show u = Value.ref a from ry)
  obtain ⟨ox, od, J⟩ := inst_of I ha
  obtain ⟨m, hF⟩ := I.fr
  obtain ⟨g, h1, h2, hw⟩ := O.run (A := X.A) (vs := [.ref a, x]) (us := [.ref a, v]) hr rfl hx I (.cons rfl (.cons rx .nil)) q
  refine PySem.W.in_K hF I.ok.mod.kin J h1 h2 (wpAny_mono hw (fun w s' z => ?_) fun _ _ x => x)
  obtain ⟨v', H', I', rv, b, rfl, q'⟩ := z
  cases (show w = Value.bool b from rv)
  exact wpAny_truthy_bool ⟨.bl b, H', I', rfl, q'⟩
theorem op_notInO (O : OwnM X.prog X.w X.K X.mg X.base CX k C "__contains__" sp) (hr : Room k X.A) (hx : Passes CX X E) : OpR X (compareOp .NotIn) (rInO C sp E true) := by
  intro pins s σ H x y v u Q I rx ry h
  obtain ⟨a, dx, fs, rfl, ha, q⟩ := h
  cases (show u = Value.ref a from ry)
  obtain ⟨ox, od, J⟩ := inst_of I ha
  obtain ⟨m, hF⟩ := I.fr
  obtain ⟨g, h1, h2, hw⟩ := O.run (A := X.A) (vs := [.ref a, x]) (us := [.ref a, v]) hr rfl hx I (.cons rfl (.cons rx .nil)) q
  refine PySem.W.notIn_K hF I.ok.mod.kin J h1 h2 (wpAny_mono hw (fun w s' z => ?_) fun _ _ x => x)
  obtain ⟨v', H', I', rv, b, rfl, q'⟩ := z
  cases (show w = Value.bool b from rv)
  exact wpAny_truthy_bool ⟨.bl (!b), H', I', rfl, q'⟩
/-- o[x] -/
def rIxO (C : Addr) (sp : Sp) (E : XK) : R2 := fun x y H Q => ∃ a dx fs, x = .ref a ∧ H a = some (.ins C dx fs) ∧ sp [.ref a, y] H Q E
theorem pe_ixO {e i : Expr} {te ti : TE} {pos : Pos} (O : OwnM X.prog X.w X.K X.mg X.base CX k C "__getitem__" sp) (hfn : ∀ g, PySem.W.findIn X.K (.ref C) "__getitem__" = some (some (.ref g)) → PySem.W.fnIn X.K g = true) (hr : Room (k + 1) X.A) (hx : Passes CX X E) (he : PE X e te) (hi : PE X i ti)
    (hsl : ∀ x y, subscripted i true (.ref x) y = runValue (.builtin "lifetime.subscript" ⟨[.ref x, y], []⟩) := by intro _ _; rfl) : PE X (.Subscript e i pos) (tOp (rIxO C sp E) te ti) := by
  refine ⟨fun pins s σ H Q I h => ?_⟩
  refine Subscript_ (binT he hi I h fun v u s2 x y H2 I2 rx ry q => ?_)
  obtain ⟨a, dx, fs, rfl, ha, q⟩ := q
  cases (show v = Value.ref a from rx)
  obtain ⟨ox, od, J⟩ := inst_of I2 ha
  obtain ⟨m, hF⟩ := I2.fr
  obtain ⟨g, h1, h2, hw⟩ := O.run (A := X.A.in1) (vs := [.ref a, y]) (us := [.ref a, u]) hr.in1 rfl hx I2 (.cons rfl (.cons ry .nil)) q
  exact PySem.W.sub_K hF I2.ok.mod.kin J h1 (hfn g h1) h2 hw (hsl _ _)
/-- str(o) -/
def rStrO (C : Addr) (sp : Sp) (E : XK) : List V → Hp → VK → Prop := fun xs H Q => ∃ a dx fs, xs = [.ref a] ∧ H a = some (.ins C dx fs) ∧ sp [.ref a] H (fun v H' => ∃ z : Str, v = .str z ∧ Q (.str z) H') E
theorem call_strO (O : OwnM X.prog X.w X.K X.mg X.base CX k C "__str__" sp) (hr : Room (k + 2) X.A) (hx : Passes CX X E) : CallR X (.type "str") (rStrO C sp E) := by
  intro pins s σ H xs us Q I r h
  obtain ⟨a, dx, fs, rfl, ha, q⟩ := h
  obtain ⟨u, rfl, ru⟩ := vals1 r
  cases (show u = Value.ref a from ru)
  obtain ⟨ox, od, J⟩ := inst_of I ha
  obtain ⟨g, h1, h2, hw⟩ := O.run (A := X.A.in1.in1) (vs := [.ref a]) (us := [.ref a]) (show Room (k + 1) X.A.in1 from hr.in1).in1 rfl hx I (.cons rfl .nil) q
  have un := hr.un
  refine PySem.W.kso_call (by show X.A.units + 1 + 1 < _; omega) I.kIn J h1 h2 (wpAny_mono hw (fun v s' z => ?_) fun _ _ x => x)
  obtain ⟨v', H', I', rv, z, rfl, q'⟩ := z
  obtain ⟨t, rfl⟩ := (show ∃ t, v = Value.str z t from rv)
  exact ⟨.str z, H', I', ⟨t, rfl⟩, q'⟩
/-- ~o -/
def rInvO (C : Addr) (sp : Sp) (E : XK) : V → Hp → VK → Prop := fun x H Q => ∃ a dx fs, x = .ref a ∧ H a = some (.ins C dx fs) ∧ sp [.ref a] H Q E
theorem un_invO (O : OwnM X.prog X.w X.K X.mg X.base CX k C "__invert__" sp) (hr : Room k X.A) (hx : Passes CX X E) : UnR X (unaryOp .Invert) (rInvO C sp E) := by
  intro pins s σ H x v Q I rx h
  obtain ⟨a, dx, fs, rfl, ha, q⟩ := h
  cases (show v = Value.ref a from rx)
  obtain ⟨ox, od, J⟩ := inst_of I ha
  obtain ⟨m, hF⟩ := I.fr
  obtain ⟨g, h1, h2, hw⟩ := O.run (A := X.A) (vs := [.ref a]) (us := [.ref a]) hr rfl hx I (.cons rfl .nil) q
  exact PySem.W.ksp_inv hF I.ok.mod.kin J h1 h2 hw
end
end V0
namespace V0
open PySem PySem.Spec PyProof.Rows L2
/-! ### own classes: isinstance, ==, != -/
structure Kls (K : PySem.W.Frag) (mg : Str → Option Value) (x : Str) (C : Addr) : Prop where
  g : mg x = some (.ref C)
  cl : Cls K C
  ha : PySem.W.findIn K (.ref C) "__class__" = some (some (.builtin "object.__class__"))
  hn : PySem.W.specialIn K (.builtin "object.__class__") "__get__" = some (some (.builtin "getset_descriptor.__get__"))
  htk : PySem.W.takesIn K (.builtin "object.__class__") = some true
  hm : PySem.W.mroIn K C (.type "object") = some true
  ty : PySem.W.typeIn K (.ref C) = some (.type "type")
  ne : PySem.W.findIn K (.ref C) "__ne__" = some (some (.builtin "object.__ne__"))
theorem Kls.gv {K : PySem.W.Frag} {mg : Str → Option Value} {x : Str} {C : Addr} (k : Kls K mg x C) : GV mg x (.ref C) := ⟨_, k.g, rfl⟩
theorem Kls.ins {K : PySem.W.Frag} {mg : Str → Option Value} {x : Str} {C : Addr} (k : Kls K mg x C) {H : Hp} {a dx : Addr} {fs : List (Str × V)} (e : H a = some (.ins C dx fs)) : TyX K H (.ref a) (.ref C) := .base (.ins e k.cl k.ha k.hn k.htk k.hm)
theorem Kls.self {K : PySem.W.Frag} {C : Addr} : PySem.W.kitOne K (.ref C) (.ref C) = some true := by
  unfold PySem.W.kitOne
  simp
theorem nf_self {K : PySem.W.Frag} {C : Addr} : PySem.W.notFirst K C (.ref C) = true := by
  unfold PySem.W.notFirst
  simp
theorem sub_kd {K : PySem.W.Frag} {C : Addr} (t : Kd) : PySem.W.subIn K (.type t.nm) (.ref C) = some false := by
  have go : ∀ (l : List Value), (∀ v ∈ l, ∃ n, v = .type n) → l.contains (.ref C) = false := fun l hl => by
    refine Bool.eq_false_iff.mpr fun z => ?_
    obtain ⟨n, e⟩ := hl _ (List.contains_iff_mem.mp z)
    cases e
  have mro : ∃ l, PySem.fastBuiltinMro t.nm = some l ∧ l.all (fun v => match v with | .type _ => true | _ => false) = true := by
    have q : (PySem.fastBuiltinMro t.nm).any (fun l => l.all (fun v => match v with | .type _ => true | _ => false)) = true := by cases t <;> decide +kernel
    cases e : PySem.fastBuiltinMro t.nm with
    | none => rw [e] at q; cases q
    | some l => rw [e] at q; exact ⟨l, rfl, q⟩
  obtain ⟨l, e, h⟩ := mro
  show (PySem.fastBuiltinMro t.nm).map (·.contains (.ref C)) = some false
  rw [e]
  show some (l.contains (.ref C)) = some false
  rw [go l fun v hv => ?_]
  have q := List.all_eq_true.mp h v hv
  cases v <;> first | exact ⟨_, rfl⟩ | exact absurd q Bool.false_ne_true
theorem nf_kd {K : PySem.W.Frag} {C : Addr} (t : Kd) : PySem.W.notFirst K C (.type t.nm) = true := by
  unfold PySem.W.notFirst
  rw [sub_kd t]
  simp
theorem Kls.kd {K : PySem.W.Frag} {mg : Str → Option Value} {x : Str} {C : Addr} (k : Kls K mg x C) (t : Kd) : PySem.W.kitOne K (.type t.nm) (.ref C) = some false := by
  obtain ⟨cd, hc, _⟩ := PySem.W.any_some k.cl.hd
  unfold PySem.W.kitOne PySem.W.kitCls
  have n : (Value.type t.nm == Value.ref C) = false := Bool.eq_false_iff.mpr fun z => by
    have := beq_iff_eq.mp z
    cases this
  rw [n, if_neg Bool.false_ne_true]
  have h2 : ((PySem.W.clsIn K C).isSome && PySem.W.typeIn K (.ref C) == some (.type "type")) = true := by
    rw [hc, k.ty]
    simp
  simp only [h2, if_true]
  exact sub_kd t
section
variable {X : Cx} {CX : CXT} {k : Nat} {C a dx : Addr} {sp : Sp} {E : XK} {pins : List (Addr × Obj)} {σ : L2.St} {H : Hp} {s : Shared} {fs : List (Str × V)}
/-- o == y -/
def rEqO (K : PySem.W.Frag) (C : Addr) (sp : Sp) (E : XK) (neg : Bool) : R2 := fun x y H Q => ∃ a dx fs tb, x = .ref a ∧ H a = some (.ins C dx fs) ∧ TyX K H y tb ∧ PySem.W.notFirst K C tb = true ∧ sp [.ref a, y] H (fun v H' => ∃ b : Bool, v = .bl b ∧ Q (.bl (if neg then !b else b)) H') E
theorem op_eqO (O : OwnM X.prog X.w X.K X.mg X.base CX k C "__eq__" sp) (hr : Room k X.A) (hx : Passes CX X E) : OpR X (compareOp .Eq) (rEqO X.K C sp E false) := by
  intro pins s σ H x y v u Q I rx ry h
  obtain ⟨a, dx, fs, tb, rfl, ha, hty, hnf, q⟩ := h
  cases (show v = Value.ref a from rx)
  obtain ⟨ox, od, J⟩ := inst_of I ha
  obtain ⟨m, hF⟩ := I.fr
  obtain ⟨P, Z, p, _⟩ := kit_of I ry hty
  obtain ⟨g, h1, h2, hw⟩ := O.run (A := X.A) (vs := [.ref a, y]) (us := [.ref a, u]) hr rfl hx I (.cons rfl (.cons ry .nil)) q
  show wpAny _ _ (richCompare .Eq (.ref a) u) _ _ s
  refine PySem.W.cmp_K (op := .Eq) hr.units0 hF I.ok.mod.kin J (Z.ty _ _ I.kIn p) hnf h1 h2 (wpAny_mono hw (fun w s' z => ?_) fun _ _ x => x)
  obtain ⟨v', H', I', rv, b, rfl, q'⟩ := z
  cases (show w = Value.bool b from rv)
  exact ⟨.bl b, H', I', rfl, q'⟩
theorem objNe_own {A : Around} {M : Model} {E : Value → Shared → Prop} {K : PySem.W.Frag} {ox : Obj} {od : Option Obj} {g : Addr} {b : Value} (hu : A.units < cLine) (X : K.In s.heap) (I : PySem.W.InstAt s.heap a ox C od) (hs : PySem.W.findIn K (.ref C) "__eq__" = some (some (.ref g))) (hf : PySem.W.isFn K (.ref g) = true)
    {Q : PySem.Fin → Shared → Prop} (h : wpAny M A (call (.ref g) [.ref a, b]) (fun v s' => ∃ c, v = .bool c ∧ Q (.done (.ret (.bool (!c)))) s') E s) : wpAny M A (Builtin.«object.__ne__» ⟨[.ref a, b], []⟩) Q E s := by
  unfold Builtin.«object.__ne__»
  repeat (first
    | with_reducible refine wpAny_cRoomFor hu ?_
    | (refine wpAny_bind (m := callSpecialIfBound? (.ref a) (Str.ofString "__eq__") [b])
        (PySem.W.ifBound_K X I hs hf (wpAny_mono h (fun r s' hr => by
          obtain ⟨c, rfl, hq⟩ := hr
          repeat (first | exact hq | exact wpAny_pure hq | exact wpAny_truthy_bool hq | (refine wpAny_bind (m := truthy (.bool _)) (wpAny_truthy_bool ?_)) | wp_step)) fun _ _ e => e)))
    | wp_step)
theorem ifBound_objNe {A : Around} {M : Model} {E : Value → Shared → Prop} {K : PySem.W.Frag} {ox : Obj} {od : Option Obj} {args : List Value} {Q : Option Value → Shared → Prop} (X : K.In s.heap) (I : PySem.W.InstAt s.heap a ox C od) (hs : PySem.W.findIn K (.ref C) "__ne__" = some (some (.builtin "object.__ne__")))
    (h : wpAny M A (call (.builtin "object.__ne__") (.ref a :: args)) (fun v => Q (some v)) E s) : wpAny M A (callSpecialIfBound? (.ref a) "__ne__" args) Q E s := by
  have fin : wpAny M A (call (.builtin "object.__ne__") ([.ref a] ++ args) >>= fun v => pure (some v)) Q E s := wpAny_bind (wpAny_mono h (fun v s' z => wpAny_pure z) fun _ _ z => z)
  simp only [callSpecialIfBound?, bindSpecialIfBound?]
  refine wpAny_holding (wpAny_bind (wpAny_bind (wpAny_bind (I.type.here ((PySem.W.looks_findIn X hs).here ?_)))))
  refine wpAny_bind (wpAny_askSetting (wpAny_ite ?_))
  split
  · exact wpAny_bind (wpAny_of_eq (F.cmp_object.ne.bind _) (wpAny_pure (by exact fin)))
  · exact wpAny_tryCatch (wpAny_bind (wpAny_of_eq (F.cmp_object.ne.bind _) (wpAny_pure (by exact fin))))
/-- o != y, != not told by the class -/
theorem op_neO (O : OwnM X.prog X.w X.K X.mg X.base CX k C "__eq__" sp) (hne : PySem.W.findIn X.K (.ref C) "__ne__" = some (some (.builtin "object.__ne__"))) (hm : PySem.W.mroIn X.K C (.type "object") = some true) (hr : Room (k + 1) X.A) (hx : Passes CX X E) : OpR X (compareOp .NotEq) (rEqO X.K C sp E true) := by
  intro pins s σ H x y v u Q I rx ry h
  obtain ⟨a, dx, fs, tb, rfl, ha, hty, hnf, q⟩ := h
  cases (show v = Value.ref a from rx)
  obtain ⟨ox, od, J⟩ := inst_of I ha
  obtain ⟨P, Z, p, _⟩ := kit_of I ry hty
  have hb := Z.ty (model X.prog X.w) _ I.kIn p
  obtain ⟨g, h1, h2, hw⟩ := O.run (A := X.A.in1) (vs := [.ref a, y]) (us := [.ref a, u]) hr.in1 rfl hx I (.cons rfl (.cons ry .nil)) q
  have un := hr.un
  have one : wpAny (model X.prog X.w) X.A (tryCompare (.ref a) "__ne__" u) (fun r s' => ∃ v, r = some v ∧ EP X pins σ Q v s') X.xe s := by
    unfold tryCompare
    refine wpAny_bind (ifBound_objNe I.kIn J hne ?_)
    refine wpAny_call (codeAny_call_builtin F.cmp_object.ne.plain F.cmpEntry_ne (PySem.W.check_slot F.cmpKind_ne F.cmpSplit_ne (J.type.andThen (PySem.W.looks_mroIn I.kIn hm)) (F.cmpArgs_ne _ _) (objNe_own (by show X.A.units + 1 < _; omega) I.kIn J h1 h2 (wpAny_mono hw (fun w s' z => ?_) fun _ _ x => x))))
    obtain ⟨v', H', I', rv, b, rfl, q'⟩ := z
    cases (show w = Value.bool b from rv)
    have fin : EP X pins σ Q (.bool (!b)) s' := ⟨.bl (!b), H', I', rfl, q'⟩
    first
      | exact ⟨b, rfl, ⟨_, rfl, wpAny_pure ⟨_, rfl, fin⟩⟩⟩
      | exact ⟨b, rfl, wpAny_pure ⟨_, rfl, fin⟩⟩
      | exact ⟨b, rfl, ⟨_, rfl, ⟨_, rfl, fin⟩⟩⟩
  show wpAny _ _ (richCompare .NotEq (.ref a) u) _ _ s
  unfold richCompare
  simp only [oneThing_ref]
  refine wpAny_holding (wpAny_bind (wpAny_cRoomFor hr.units0 ?_))
  refine wpAny_bind (J.type.here (wpAny_bind (hb.here ?_)))
  split
  · rename_i qq
    have e : PySem.W.subIn X.K tb (.ref C) = some false := by
      rcases Bool.or_eq_true_iff.mp hnf with e | e
      · rw [beq_iff_eq.mp e] at qq; simp at qq
      · exact beq_iff_eq.mp e
    refine wpAny_bind ((PySem.W.looks_subIn I.kIn e).here ?_)
    simp only [Bool.false_eq_true, if_false]
    refine wpAny_bind (wpAny_mono one (fun r s' z => ?_) fun _ _ e => e)
    obtain ⟨v, rfl, hq⟩ := z
    exact wpAny_pure hq
  · refine wpAny_bind (wpAny_pure ?_)
    simp only [Bool.false_eq_true, if_false]
    refine wpAny_bind (wpAny_mono one (fun r s' z => ?_) fun _ _ e => e)
    obtain ⟨v, rfl, hq⟩ := z
    exact wpAny_pure hq
end
end V0
namespace V0
open PySem PySem.Spec PyProof.Rows L2
/-! ### an own class that walks a tuple of its own -/
def ItT (t p : Addr) : HO := .ext fun h => h.IsTupleIter p t 0
theorem itT_ok {P : Program} {w : World} {H : Hp} {h : Heap} {t p : Addr} (R : h.IsTupleIter p t 0) : ObjOk P w H h p (ItT t p) := by
  have ⟨o, ho, _⟩ := R
  refine ⟨R, ⟨o, ho⟩, fun h1 h2 q k => ?_⟩
  obtain ⟨o1, e1, r1⟩ := q
  exact ⟨o1, k o1 e1, r1⟩
theorem itT_get {X : Cx} {pins : List (Addr × Obj)} {σ : L2.St} {H : Hp} {s : Shared} {t p : Addr} (I : Inv X pins σ H s) (h : H p = some (ItT t p)) : s.heap.IsTupleIter p t 0 := (I.hok p _ h).1
/-- iter(t) -/
def rIterT (K : PySem.W.Frag) (n : Nat) : List V → Hp → VK → Prop := fun xs H Q => ∃ (t : Addr) (zs : List V), xs = [.ref t] ∧ SqT K H t zs ∧ ∀ it, H it = none → n ≤ it → Q (.ref it) (upd H it (ItT t it))
theorem call_iterT {X : Cx} : CallR X (.builtin "iter") (rIterT X.K X.s_0.heap.objs.size) := by
  intro pins s σ H xs us Q I r h
  obtain ⟨t, zs, rfl, hq, q⟩ := h
  obtain ⟨u, rfl, ru⟩ := vals1 r
  cases ru
  obtain ⟨its, rv, pl, hz⟩ := I.tuple hq
  refine Calls.call_function_entry (by decide +kernel) (by decide +kernel) PySem.W.kdk_entry_iter (PySem.W.kdk_args_iter _) ?_
  unfold Builtin.«iter»
  refine wpAny_bind (m := someArgs "iter" 1 2 _) (wpAny_of_eq (a := [Value.ref t]) (by first | rfl | kernel_rfl!) ?_)
  show wpAny _ _ (pyIter (.ref t) >>= _) _ _ _
  refine wpAny_bind (wpAny_pyIter_tuple (show s.heap.IsTuple t its.toArray from pl) ?_)
  exact wpAny_pure ⟨_, rfl, .ref s.heap.objs.size, _, I.laid (t' := s.toks) (fun b u e => Heap.get?_push_of_some _ e) (Nat.le_refl _) (itT_ok ⟨_, Heap.get?_push_size _ rfl, rfl, rfl⟩), rfl, q _ (I.hok.fresh (Nat.le_refl _)) I.sz⟩
/-- what the class's __iter__ does: a new iterator of the tuple kept as f -/
structure ItM (P : Program) (w : World) (K : PySem.W.Frag) (mg : Str → Option Value) (base : Heap) (k : Nat) (C : Addr) (f : Str) : Prop where
  ex : ∃ g : Addr, PySem.W.findIn K (.ref C) "__iter__" = some (some (.ref g)) ∧ PySem.W.isFn K (.ref g) = true ∧
    ∀ (A : Around) (outer : List Env) (s : Shared) (H : Hp) (a dx t : Addr) (fs : List (Str × V)) (xs : List V), Room k A → Env0 P w K mg base A outer s H → H a = some (.ins C dx fs) → fs.lookup f = some (.ref t) → SqT K H t xs →
      codeAny (model P w) A (.call (.ref g) ⟨[.ref a], []⟩) (CR CX0 outer P w H s (fun v H' => ∃ p, v = .ref p ∧ s.heap.objs.size ≤ p ∧ H p = none ∧ H' = upd H p (ItT t p)) E0) s
section
variable {X : Cx} {k : Nat} {C a dx t : Addr} {f : Str} {pins : List (Addr × Obj)} {σ : L2.St} {H : Hp} {s : Shared} {fs : List (Str × V)} {xs : List V}
theorem iter_own {A : Around} {Q : Value → Shared → Prop} {E : Value → Shared → Prop} (O : ItM X.prog X.w X.K X.mg X.base k C f) (hr : Room k A) (hf : A.frames = X.A.frames) (I : Inv X pins σ H s) (ha : H a = some (.ins C dx fs)) (hl : fs.lookup f = some (.ref t)) (ht : SqT X.K H t xs)
    (h : ∀ p s', H p = none → X.s_0.heap.objs.size ≤ p → Inv X pins σ (upd H p (ItT t p)) s' → Q (.ref p) s') : wpAny (model X.prog X.w) A (pyIter (.ref a)) Q E s := by
  obtain ⟨g, h1, h2, R⟩ := O.ex
  obtain ⟨ox, od, J⟩ := inst_of I ha
  obtain ⟨m, hF⟩ := I.fr
  have e0 : Env0 X.prog X.w X.K X.mg X.base A X.stack s H := by
    have e := I.env0
    exact ⟨by rw [hf]; exact e.frames, e.mod, e.bs, e.bsz, e.funs, e.frf, e.hok, e.bare⟩
  refine PySem.W.owit_iter hF I.ok.mod.kin J h1 h2 (wpAny_call (codeAny_mono (R A X.stack s H a dx t fs xs hr e0 ha hl ht) fun r s' hq => ?_))
  cases r with
  | error e => exact False.elim hq
  | ok fl =>
    cases fl with
    | ret u =>
      obtain ⟨v, H', I', rv, p, rfl, hp, hn, rfl⟩ := I.after hq
      cases rv
      have st := itT_get I' upd_same
      unfold PySem.W.OwitIt
      exact wpAny_specialOf st.typeIs PySem.F.slot_tuple_iterator_next.lookup (h p s' hn (Nat.le_trans I.sz hp) I')
    | next => exact False.elim hq
    | brk => exact False.elim hq
    | cont => exact False.elim hq
/-- for x in o -/
def iOwn (K : PySem.W.Frag) (C : Addr) (f : Str) (te : TE) : TI := fun σ H R => te σ H fun x H1 => ∃ a dx fs t, x = .ref a ∧ H1 a = some (.ins C dx fs) ∧ fs.lookup f = some (.ref t) ∧ (∃ xs, SqT K H1 t xs) ∧ R (Itt K t) H1
theorem pi_own {tg e : Expr} {te : TE} (O : ItM X.prog X.w X.K X.mg X.base k C f) (hr : Room k X.A) (he : PE X e te) : PI X tg e (iOwn X.K C f te) := by
  refine ⟨fun pins s σ H R I h => ?_⟩
  refine thn (he.run pins s σ H _ I h) fun v s1 ⟨x, H1, I1, r1, q1⟩ => ?_
  obtain ⟨a, dx, fs, t, rfl, ha, hl, ⟨xs, ht⟩, q⟩ := q1
  cases r1
  refine iter_own O hr rfl I1 ha hl ht fun p s2 hn hp I2 => ?_
  have st := itT_get I2 upd_same
  have eH : ItX.dropH (upd H1 p (ItT t p)) p = H1 := ItX.dropH_upd hn
  have I3 := ItX.inv_drop I2 (show (upd H1 p (ItT t p)) p = some (.ext _) from upd_same)
  have F3 := ItX.inv_fp I2 (show (upd H1 p (ItT t p)) p = some (ItT t p) from upd_same) hp
  rw [eH] at I3 F3
  refine ⟨p, [p], _, _, H1, rfl, I3, turn_tuple t p, st, fun b hb => ?_, q⟩
  have e : b = p := by simpa using hb
  subst e
  exact F3
end
end V0
namespace V0
open PySem PySem.Spec PyProof.Rows L2
section
variable {X : Cx} {k : Nat} {C a dx t q : Addr} {f : Str} {pins : List (Addr × Obj)} {σ : L2.St} {s : Shared} {fs : List (Str × V)} {xs : List V}
theorem take_one' {α : Type} {l : List α} {i : Nat} (h : i < l.length) : l.take (i + 1) = l.take i ++ [l[i]] := by
  rw [List.take_add_one, List.getElem?_eq_getElem h]
  rfl
/-- list.extend's loop over a tuple's iterator -/
theorem ext_loop {A1 : Around} {it : Addr} {Rs : Result → Shared → Prop} (hh : A1.handled = none) (hqt : q ≠ t) (hz : xs.length ≤ sizeLine) :
    ∀ (m i : Nat) (H : Hp) (s : Shared), m = xs.length - i → i ≤ xs.length → Inv X pins σ H s → SqT X.K H t xs → H q = some (.lst (xs.take i)) → FpOk X pins H it → s.heap.IsTupleIter it t i →
      (∀ H' s', Inv X pins σ H' s' → H' q = some (.lst xs) → (∃ H0, H0 = H' ∧ ∀ b, b ≠ q → H' b = H b) → Rs (.ok (.ret .none)) s') →
      codeAny (model X.prog X.w) A1 (.builtin "list.extend.loop" ⟨[.ref q, .ref it, .none], []⟩) Rs s := by
  intro m
  induction m with
  | zero =>
    intro i H s hm hi I ht hq hf st hR
    have e : i = xs.length := by omega
    subst e
    refine codeAny_builtin PySem.F.entry_extend_loop ?_
    rw [Around.under_plainId PySem.F.plain_extend_loop _]
    show wpAny _ A1.in1 (pyNext (.ref it) >>= _) _ _ s
    obtain ⟨its, rv, p, hz2⟩ := I.tuple ht
    obtain ⟨f0, f1, f2, f3, f4, f5⟩ := hf
    have hl := rv.length
    refine wpAny_bind (wpAny_pyNext_tuple_end hh st (show s.heap.IsTuple t its.toArray from p) (by simp; omega) fun h' eb => ?_)
    have I1 : Inv X pins σ H { s with heap := h' } := I.turned (t' := s.toks) (fun b o hb e => eb b o hb e) f0 f1 f3 f4 f5
    rw [List.take_length] at hq
    exact wpAny_pure (hR H _ I1 hq ⟨H, rfl, fun b _ => rfl⟩)
  | succ m ih =>
    intro i H s hm hi I ht hq hf st hR
    have hlt : i < xs.length := by omega
    refine codeAny_builtin PySem.F.entry_extend_loop ?_
    rw [Around.under_plainId PySem.F.plain_extend_loop _]
    show wpAny _ A1.in1 (pyNext (.ref it) >>= _) _ _ s
    obtain ⟨its, rv, p, hz2⟩ := I.tuple ht
    obtain ⟨u, hu, ru⟩ := rv.get (List.getElem?_eq_getElem hlt)
    have hf' := hf
    obtain ⟨f0, f1, f2, f3, f4, f5⟩ := hf
    refine wpAny_bind (wpAny_pyNext_tuple_item st (show s.heap.IsTuple t its.toArray from p) (x := u) (by simpa using hu) fun h' st' sb => ?_)
    have I1 : Inv X pins σ H { s with heap := h' } := I.turned (t' := s.toks) (fun b o hb e => (sb.2 b hb).trans e) f0 f1 f3 f4 f5
    show wpAny _ A1.in1 (updateSeq q (·.push u) >>= _) _ _ _
    obtain ⟨z, its2, k2, r2, hl2, e2⟩ := I1.lstM hq
    have hl3 : its2.length = i := by rw [← r2.length, List.length_take]; omega
    refine wpAny_bind (wpAny_updateSeq e2 rfl (wpAny_pure ⟨plainId_quiet PySem.F.plain_extend_loop _, ?_⟩) (by rw [List.size_toArray]; omega) (by show (its2.toArray.push u).size ≤ sizeLine + 1; rw [Array.size_push, List.size_toArray]; omega))
    have I2 := I1.lset (f := (·.push u)) (its' := its2 ++ [u]) (ys := xs.take (i + 1)) (t' := s.toks) hq e2 (by simp) (by rw [take_one' hlt]; exact r2.append (.cons ru .nil)) (by rw [List.length_take]; omega)
    have hiq : it ≠ q := fun z => by rw [z] at f0; rw [f0] at hq; cases hq
    refine ih (i + 1) _ _ (by omega) hlt I2 ?_ upd_same ⟨by rw [upd_ne hiq]; exact f0, f1, f2, f3, f4, f5⟩ ?_ fun H' s' I' hq' ⟨H0, _, hb⟩ => hR H' s' I' hq' ⟨H', rfl, fun b hb' => by rw [hb b hb', upd_ne hb']⟩
    · unfold SqT Rd at ht ⊢
      simp only [upd_ne (Ne.symm hqt)]
      exact ht
    · obtain ⟨o, ho, r⟩ := st'
      exact ⟨o, (by
        have := Heap.get?_update_ne
        exact (Heap.get?_update_ne _ _ _ _ hiq).trans ho), r⟩
theorem OwnM.run0 {name : Str} {sp : Sp} {H : Hp} (O : OwnM X.prog X.w X.K X.mg X.base CX0 k C name sp) {A : Around} {vs : List V} {us : List Value} {Q : VK} {EE : Value → Shared → Prop} (hr : Room k A) (hf : A.frames = X.A.frames) (I : Inv X pins σ H s) (r : Vals vs us) (h : sp vs H Q E0) :
    ∃ g, PySem.W.findIn X.K (.ref C) name = some (some (.ref g)) ∧ PySem.W.isFn X.K (.ref g) = true ∧ wpAny (model X.prog X.w) A (call (.ref g) us) (EP X pins σ Q) EE s := by
  obtain ⟨g, fd, ps, h1, h2, hb, F⟩ := O.ex
  refine ⟨g, h1, h2, ?_⟩
  have e0 : Env0 X.prog X.w X.K X.mg X.base A X.stack s H := by
    have e := I.env0
    exact ⟨by rw [hf]; exact e.frames, e.mod, e.bs, e.bsz, e.funs, e.frf, e.hok, e.bare⟩
  have hl : us.length = ps.length := by rw [← r.length]; exact F.len _ _ _ _ h
  have b := hb s us I.kIn (by rw [List.append_nil]; exact hl)
  rw [List.append_nil] at b
  refine wpAny_call (codeAny_mono (F.run A X.stack s H ⟨us, []⟩ us vs Q E0 hr e0 b r h) fun r s' hq => ?_)
  cases r with
  | error e => exact False.elim hq
  | ok fl =>
    cases fl with
    | ret u => exact I.after hq
    | next => exact False.elim hq
    | brk => exact False.elim hq
    | cont => exact False.elim hq
theorem if_yes {α : Type} {M : Model} {A : Around} {E : Value → Shared → Prop} {s : Shared} {c : Bool} {a b : Sem α} {Q : α → Shared → Prop} (hc : c = true) (h : wpAny M A a Q E s) : wpAny M A (if c = true then a else b) Q E s := by
  rw [if_pos hc]
  exact h
/-- list(o) -/
def rListO (K : PySem.W.Frag) (C : Addr) (f : Str) (sp : Sp) : List V → Hp → VK → Prop := fun xs H Q => ∃ a dx fs t zs, xs = [.ref a] ∧ H a = some (.ins C dx fs) ∧ fs.lookup f = some (.ref t) ∧ SqT K H t zs ∧ zs.length ≤ sizeLine ∧
  (∀ H', Same H H' → sp [.ref a] H' (fun v H2 => H2 = H' ∧ ∃ n : Int, v = .int n ∧ 0 < n ∧ n < 1000) E0) ∧ ∀ q, H q = none → Q (.ref q) (upd H q (.lst zs))
theorem hint_own {H : Hp} {A : Around} {sp : Sp} {Q : Bool → Shared → Prop} {EE : Value → Shared → Prop} (L : OwnM X.prog X.w X.K X.mg X.base CX0 k C "__len__" sp) (hr : Room (k + 1) A) (hf : A.frames = X.A.frames) (I : Inv X pins σ H s) (ha : H a = some (.ins C dx fs)) (hs : sp [.ref a] H (fun v H2 => H2 = H ∧ ∃ n : Int, v = .int n ∧ 0 < n ∧ n < 1000) E0)
    (h : ∀ s', Inv X pins σ H s' → Q true s') : wpAny (model X.prog X.w) A (Builtin.List.listLengthHint (.ref a)) Q EE s := by
  obtain ⟨ox, od, J⟩ := inst_of I ha
  obtain ⟨m, hF⟩ := I.fr
  obtain ⟨g, h1, h2, hw⟩ := L.run0 (A := A.in1) (EE := fun e s' => False) (vs := [.ref a]) (us := [.ref a]) hr.in1 hf I (.cons rfl .nil) hs
  unfold Builtin.List.listLengthHint
  refine wpAny_bind (wpAny_bind (J.type.here ((PySem.W.looks_findIn I.kIn h1).here ?_)))
  refine PySem.W.KFB.if_not rfl ?_
  refine if_yes rfl ?_
  refine wpAny_bind (wpAny_rule (wpAny_bind (wpAny_attempt ?_)))
  refine PySem.W.len_K hF I.ok.mod.kin J h1 h2 (wpAny_mono hw (fun v s' z => ?_) fun _ _ x => x.elim)
  obtain ⟨v', H', I', rv, rfl, n, rfl, n0, n1⟩ := z
  obtain ⟨t, rfl⟩ := (show ∃ t, v = Value.int n t from rv)
  refine ⟨⟨by omega, by omega⟩, ?_⟩
  dsimp only
  refine wpAny_bind (wpAny_of_eq (a := some n) rfl ?_)
  dsimp only
  refine PySem.W.KFB.if_not (by unfold Builtin.List.listTooLong; rw [sizeLine_eq]; exact decide_eq_false (by omega)) ?_
  have e : (n != 0) = true := by rw [bne_iff_ne]; omega
  rw [e]
  exact wpAny_pure (h _ (I'.tok _))
theorem call_listO {sp : Sp} {kl : Nat} (O : ItM X.prog X.w X.K X.mg X.base k C f) (L : OwnM X.prog X.w X.K X.mg X.base CX0 kl C "__len__" sp) (hc : X.calm = true) (hr : Room (k + 2) X.A) (hrl : Room (kl + 4) X.A) : CallR X (.type "list") (rListO X.K C f sp) := by
  intro pins s σ H xs us Q I rv h
  obtain ⟨a, dx, fs, t, zs, rfl, ha, hl, ht, hz, hsp, hq⟩ := h
  obtain ⟨u, rfl, ru⟩ := rv.one
  cases ru
  have r2 : Room k X.A.in1.in1 := (show Room (k + 1) X.A.in1 from hr.in1).in1
  have rl2 : Room (kl + 1) X.A.in1.in1 := ((show Room (kl + 3) X.A.in1 from hrl.in1).in1).mono (by omega)
  refine callType_codes (Q₁ := fun obj s₁ => obj = .ref s.heap.objs.size ∧ s₁ = { s with heap := s.heap.push { cls := .type "list", data := .seq #[] } }) PySem.F.called_list (PySem.F.typeCall_list_1 _) PySem.F.entry_list_init
    (code_list_new _ ⟨rfl, rfl⟩) fun obj s₁ h₁ => ?_
  obtain ⟨rfl, rfl⟩ := h₁
  have hS : (s.heap.push { cls := .type "list", data := .seq #[] }).get? s.heap.objs.size = some { cls := .type "list", data := .seq #[] } := Heap.get?_push_size _ rfl
  refine ⟨⟨_, hS, rfl⟩, PySem.F.args_list_init_2 _ _, ?_⟩
  have fr : H s.heap.objs.size = none := I.hok.fresh (Nat.le_refl _)
  have I1 : Inv X pins σ (upd H s.heap.objs.size (.lst [])) { s with heap := s.heap.push { cls := .type "list", data := .seq #[] } } := I.lnew (its := []) (t' := s.toks) .nil (Nat.zero_le _)
  show wpAny _ _ (do let old ← Builtin.List.listItems (.ref s.heap.objs.size); Builtin.List.listUpdate (.ref s.heap.objs.size) (fun _ => #[]); letGo old.toList.reverse; Builtin.List.listExtendWith (.ref s.heap.objs.size) (.ref a) .none) _ _ _
  refine wpAny_bind ?_
  unfold Builtin.List.listItems
  refine wpAny_bind (wpAny_seqItems hS rfl (wpAny_pure ?_))
  show wpAny _ _ (updateSeq s.heap.objs.size (fun _ => #[]) >>= fun _ => letGo (#[] : Array Value).toList.reverse >>= fun _ => Builtin.List.listExtendWith (.ref s.heap.objs.size) (.ref a) .none) _ _ _
  refine wpAny_bind (wpAny_updateSeq hS rfl ?_)
  have I2 := I1.lset (f := fun _ => #[]) (its := []) (its' := []) (ys := []) (t' := s.toks) upd_same hS rfl .nil (Nat.zero_le _)
  rw [upd_upd] at I2
  refine wpAny_bind (wpAny_letGo ?_)
  generalize hqe : s.heap.objs.size = q at I2 fr ⊢
  clear hS I1
  have ha2 : upd H q (.lst []) a = some (.ins C dx fs) := by rw [upd_ne (ne_of_none ha fr)]; exact ha
  have hqt : q ≠ t := fun z => by
    subst z
    rcases ht with (e | ⟨o, e⟩) | ⟨o, e⟩
    · rw [fr] at e; cases e
    · rw [fr] at e; cases e
    · obtain ⟨its, n, e1, _⟩ := e
      have := Heap.lt_size (I.kIn _ _ e1)
      rw [hqe] at this
      exact absurd this (Nat.lt_irrefl _)
  have ht2 : SqT X.K (upd H q (.lst [])) t zs := by
    unfold SqT Rd at ht ⊢
    simp only [upd_ne (Ne.symm hqt)]
    exact ht
  have hne : q ≠ a := fun z => by rw [z, ha] at fr; cases fr
  have hqq : (upd H q (.lst [])) q = some (.lst []) := upd_same
  have same : Same H (upd H q (.lst [])) := fun b o e => by rw [upd_ne (ne_of_none e fr)]; exact e
  generalize hH2 : upd H q (.lst []) = H2 at I2 ha2 ht2 hqq same
  generalize hs2 : ({ s with heap := (s.heap.push { cls := .type "list", data := .seq #[] }).update q (Obj.mapSeq fun _ => #[]), toks := s.toks } : Shared) = s2 at I2
  obtain ⟨ox, od, J⟩ := inst_of I2 ha2
  unfold Builtin.List.listExtendWith
  refine wpAny_bind (J.type.here ?_)
  have h1 : Builtin.List.listSameRef (.ref q) (.ref a) = false := by simp [Builtin.List.listSameRef, hne]
  have h2 : (Value.ref C == Value.type "list") = false := rfl
  have h3 : (Value.ref C == Value.type "tuple") = false := rfl
  simp only [h1, h2, h3, Bool.or_false, Bool.false_eq_true, if_false]
  refine wpAny_bind (iter_own O r2 rfl I2 ha2 hl ht2 fun p s3 hp hsz I3 => ?_)
  have hpq : p ≠ q := fun z => by rw [z, hqq] at hp; cases hp
  have same3 : Same H (upd H2 p (ItT t p)) := fun b o e => by rw [upd_ne (ne_of_none (same b o e) hp)]; exact same b o e
  have ha3 : (upd H2 p (ItT t p)) a = some (.ins C dx fs) := same3 _ _ ha
  refine wpAny_bind (wpAny_holding (hint_own L rl2 rfl I3 ha3 (hsp _ same3) fun s4 I4 => ?_))
  have st := itT_get I4 (show (upd H2 p (ItT t p)) p = some (ItT t p) from upd_same)
  have eH : ItX.dropH (upd H2 p (ItT t p)) p = H2 := ItX.dropH_upd hp
  have I5 := ItX.inv_drop I4 (show (upd H2 p (ItT t p)) p = some (.ext _) from upd_same)
  have F5 := ItX.inv_fp I4 (show (upd H2 p (ItT t p)) p = some (ItT t p) from upd_same) hsz
  rw [eH] at I5 F5
  obtain ⟨z5, its5, k5, r5, hl5, e5⟩ := I5.lstM hqq
  cases r5
  simp only [Bool.true_or, if_true]
  refine wpAny_bind (wpAny_rule ?_)
  refine wpAny_bind ?_
  show wpAny _ _ (updateSeq q (·.push .none) >>= fun _ => updateSeq q (·.pop)) _ _ _
  refine wpAny_bind (wpAny_updateSeq e5 rfl ?_)
  have I6 := I5.lset (f := (·.push Value.none)) (its' := [Value.none]) (ys := [.non]) (t' := s4.toks) hqq e5 (by simp) (.cons rfl .nil) (by rw [List.length_singleton, sizeLine_eq]; decide)
  obtain ⟨z7, its7, k7, r7, hl7, e7⟩ := I6.lstM upd_same
  obtain ⟨u7, rfl, ru7⟩ := r7.one
  refine wpAny_updateSeq e7 rfl ?_ (by show 1 ≤ sizeLine; rw [sizeLine_eq]; decide) (by show 0 ≤ sizeLine + 1; exact Nat.zero_le _)
  have I8 := I6.lset (f := (·.pop)) (its := [u7]) (its' := []) (ys := []) (t' := s4.toks) upd_same e7 (by rfl) .nil (Nat.zero_le _)
  rw [upd_upd] at I8
  have hHH : upd H2 q (.lst []) = H2 := by
    funext b
    by_cases hb : b = q
    · rw [hb, upd_same, hqq]
    · rw [upd_ne hb]
  rw [hHH] at I8
  have st8 : ((s4.heap.update q (Obj.mapSeq (·.push Value.none))).update q (Obj.mapSeq (·.pop))).IsTupleIter p t 0 := by
    obtain ⟨o, ho, r⟩ := st
    exact ⟨o, (Heap.get?_update_ne _ _ _ _ hpq).trans ((Heap.get?_update_ne _ _ _ _ hpq).trans ho), r⟩
  refine wpAny_pure ⟨plainId_quiet PySem.F.plain_extend_loop _, ?_⟩
  refine ext_loop (X := X) (A1 := X.A.in1) (Rs := wants (fun r s₂ => r = .none ∧ EP X pins σ Q (.ref q) s₂) X.xe) (I8.ok.hd hc) hqt hz zs.length 0 H2 _ (by omega) (Nat.zero_le _) I8 ht2 hqq F5 st8 fun H' s' I' hq' ⟨H0, e0, hb⟩ => ⟨rfl, .ref q, H', I', rfl, ?_⟩
  subst e0
  have eF : H0 = upd H q (.lst zs) := by
    funext b
    by_cases hbq : b = q
    · rw [hbq, upd_same, hq']
    · rw [hb b hbq, ← hH2, upd_ne hbq, upd_ne hbq]
  rw [eF]
  exact hq q fr
end
end V0
namespace V0
open PySem PySem.Spec PyProof.Rows L2
def TL : Int := 10 ^ 60
def CH : Int := 10 ^ 64
def LET : Str := "abcdefghijklmnopqrstuvwxyz"
/-- the module's values -/
structure Nm (mg : Str → Option Value) : Prop where
  g__TOO_LONG : GV mg "_TOO_LONG" (.int TL)
  g__CHUNK : GV mg "_CHUNK" (.int CH)
  g__CHUNK_DIGITS : GV mg "_CHUNK_DIGITS" (.int 64)
  g_MAX_NAME : GV mg "MAX_NAME" (.int 8)
  g_MAX_THINGS : GV mg "MAX_THINGS" (.int 8)
  g__LETTERS : GV mg "_LETTERS" (.str LET)
  g_gcd : mg "gcd" = some (.builtin "math.gcd")
end V0

namespace V0
open PySem PySem.Spec PyProof.Rows L2
/-! ### what the judges of huebill.base.numbers say, by values -/
def intB : V → Bool
  | .int i => decide (i.natAbs < 10 ^ 60)
  | _ => false
def low26 (c : Nat) : Bool := decide (97 ≤ c ∧ c ≤ 122)
def nameB : V → Bool
  | .str z => decide (1 ≤ z.length ∧ z.length ≤ 8) && z.cps.toList.all low26
  | _ => false
/-- of the items of a tuple -/
def fracL : List V → Bool
  | [.int i, .int j] => decide (i.natAbs < 10 ^ 60) && (decide (j.natAbs < 10 ^ 60) && (decide (1 ≤ j) && decide (Nat.gcd i.natAbs j.natAbs = 1)))
  | _ => false
theorem let_is : LET.cps.toList = [97, 98, 99, 100, 101, 102, 103, 104, 105, 106, 107, 108, 109, 110, 111, 112, 113, 114, 115, 116, 117, 118, 119, 120, 121, 122] := by decide +kernel
theorem let_low (c : Nat) : decide (c ∈ LET.cps.toList) = low26 c := by
  rw [let_is]
  unfold low26
  apply decide_eq_decide.mpr
  simp only [List.mem_cons, List.not_mem_nil, or_false]
  omega
theorem abs_lt (i : Int) : decide ((if i < 0 then -i else i) < TL) = intB (.int i) := by
  unfold intB TL
  apply decide_eq_decide.mpr
  split <;> omega
theorem take_one {α : Type} {l : List α} {i : Nat} {x : α} (h : l[i]? = some x) : l.take (i + 1) = l.take i ++ [x] := by
  rw [List.take_add_one, h]
  rfl
def spIsWhole : Sp := fun vs H Q _ => ∃ (x : V) (t : Kd), vs = [x] ∧ Kn H x t ∧ Q (.bl (decide (t = .int))) H
def spIsInteger : Sp := fun vs H Q _ => ∃ (x : V) (t : Kd), vs = [x] ∧ Kn H x t ∧ Q (.bl (intB x)) H
def spIsName : Sp := fun vs H Q _ => ∃ (x : V) (t : Kd), vs = [x] ∧ Kn H x t ∧ (∀ z, x = .str z → z.length ≤ 1000) ∧ ∀ H', Same H H' → Q (.bl (nameB x)) H'
/-- what is_fraction says of a value of this kind -/
inductive Fr (H : Hp) : V → Bool → Prop
  | no {x : V} {t : Kd} (h : Kn H x t) (ht : t ≠ .tup) : Fr H x false
  | tup {a : Addr} {xs : List V} (h : H a = some (.tup xs)) (k : ∀ x ∈ xs, ∃ t, Kn H x t) : Fr H (.ref a) (fracL xs)
theorem Fr.same {H H' : Hp} {x : V} {b : Bool} (s : Same H H') (f : Fr H x b) : Fr H' x b := by
  cases f with
  | no h ht => exact .no (h.same s) ht
  | tup h k => exact .tup (s _ _ h) fun x hx => let ⟨t, z⟩ := k x hx; ⟨t, z.same s⟩
def spIsFraction : Sp := fun vs H Q _ => ∃ (x : V) (b : Bool), vs = [x] ∧ Fr H x b ∧ Q (.bl b) H
def spReduced : Sp := fun vs H Q _ => ∃ (i j : Int), vs = [.int i, .int j] ∧ j ≠ 0 ∧ i.natAbs < 2 ^ 2000 ∧ j.natAbs < 2 ^ 2000 ∧
  ∀ p, H p = none → Q (.ref p) (upd H p (.tup [.int (if j < 0 then -(i / (Nat.gcd i.natAbs j.natAbs : Nat)) else i / (Nat.gcd i.natAbs j.natAbs : Nat)), .int (j.natAbs / Nat.gcd i.natAbs j.natAbs : Nat)]))
/-- the items of a pair that is none of two great ints -/
theorem frac_of (x y : V) (hx : intB x = false ∨ intB y = false) : fracL [x, y] = false := by
  unfold fracL
  split
  · rename_i i j e
    cases e
    rcases hx with h | h
    · rw [show decide (i.natAbs < 10 ^ 60) = false from h]; rfl
    · rw [show decide (j.natAbs < 10 ^ 60) = false from h]; simp
  · rfl
theorem frac_len {xs : List V} (h : xs.length ≠ 2) : fracL xs = false := by
  unfold fracL
  split
  · exact absurd rfl h
  · rfl
theorem intB_int {x : V} (h : intB x = true) : ∃ i, x = .int i ∧ i.natAbs < 10 ^ 60 := by
  cases x with
  | int i => exact ⟨i, rfl, of_decide_eq_true h⟩
  | _ => cases h
section
variable {P : Program} {w : World} {K : PySem.W.Frag} {mg : Str → Option Value} {base : Heap}
abbrev s_is_whole : Stmt := top 16
abbrev N_is_whole : List Str := ["value"]
abbrev P_is_whole : List Str := ["value"]
theorem sc_is_whole : FnScope N_is_whole P_is_whole (defScope s_is_whole) := ⟨rfl, rfl, rfl, by decide +kernel, rfl, by decide +kernel, by decide +kernel⟩
theorem ok_is_whole {f : Addr} {fd : FuncData} (B : Bl mg) (D : Df K mg "is_whole" s_is_whole P_is_whole f fd) : FnOk P w K mg base CX0 1 f fd P_is_whole spIsWhole := by
  refine D.F.ok sc_is_whole (fun vs H Q E h => ?_) (fun cdv A outer s H vs Q E hr h => ?_)
  · obtain ⟨x, t, rfl, _⟩ := h
    rfl
  · obtain ⟨x, t, rfl, hk, k⟩ := h
    refine ⟨_, (pss_one (ps_ret (pe_and (pe_callB call_is (by rfl) B.b_isinstance (by decide +kernel) (pa_cons (pv 0) (pa_cons (pe_ty (n := "int") (by rfl) B.b_int (by decide +kernel)) pa_nil))) (pe_one (pe_not (pe_callB call_is (by rfl) B.b_isinstance (by decide +kernel) (pa_cons (pv 0) (pa_cons (pe_ty (n := "bool") (by rfl) B.b_bool (by decide +kernel)) pa_nil)))))))), ?_⟩
    refine ⟨_, rfl, x, t, .int, rfl, hk, by decide, _, rfl, ?_⟩
    cases hk with
    | int i => exact iteT ⟨_, rfl, _, .int, .bl, rfl, .int i, by decide, _, rfl, k⟩
    | bl b => exact iteT ⟨_, rfl, _, .bl, .bl, rfl, .bl b, by decide, _, rfl, k⟩
    | _ => exact iteF k
abbrev s_is_integer : Stmt := top 17
abbrev N_is_integer : List Str := ["value"]
abbrev P_is_integer : List Str := ["value"]
theorem sc_is_integer : FnScope N_is_integer P_is_integer (defScope s_is_integer) := ⟨rfl, rfl, rfl, by decide +kernel, rfl, by decide +kernel, by decide +kernel⟩
theorem ok_is_integer {f f1 : Addr} {fd fd1 : FuncData} (B : Bl mg) (C : Nm mg) (D_is_whole : Df K mg "is_whole" s_is_whole P_is_whole f1 fd1) (D : Df K mg "is_integer" s_is_integer P_is_integer f fd) :
    FnOk P w K mg base CX0 2 f fd P_is_integer spIsInteger := by
  have G_is_whole : FnOk P w K mg base CX0 1 f1 fd1 P_is_whole spIsWhole := ok_is_whole B D_is_whole
  refine D.F.ok sc_is_integer (fun vs H Q E h => ?_) (fun cdv A outer s H vs Q E hr h => ?_)
  · obtain ⟨x, t, rfl, _⟩ := h
    rfl
  · obtain ⟨x, t, rfl, hk, k⟩ := h
    refine ⟨_, (pss_one (ps_ret (pe_and (pe_call G_is_whole (hr.mono (by decide)) (by rfl) D_is_whole.g D_is_whole.F.kp D_is_whole.b .nil pass0 (pa_cons (pv 0) pa_nil)) (pe_one (pe_cmpR op_lt (pe_callB call_abs (by rfl) B.b_abs (by decide +kernel) (pa_cons (pv 0) pa_nil)) (pe_gv rfl C.g__TOO_LONG) (nomark _)))))), ?_⟩
    refine ⟨_, rfl, x, t, rfl, hk, _, rfl, ?_⟩
    cases hk with
    | int i =>
      refine iteT ⟨_, rfl, _, rfl, _, _, rfl, rfl, ?_⟩
      show Q (.bl (decide ((if i < 0 then -i else i) < TL))) H
      rw [abs_lt]
      exact k
    | _ => exact iteF k
abbrev s_is_name : Stmt := top 18
abbrev N_is_name : List Str := ["value", "letter"]
abbrev P_is_name : List Str := ["value"]
theorem sc_is_name : FnScope N_is_name P_is_name (defScope s_is_name) := ⟨rfl, rfl, rfl, by decide +kernel, rfl, by decide +kernel, by decide +kernel⟩
theorem ok_is_name {f : Addr} {fd : FuncData} (B : Bl mg) (C : Nm mg) (D : Df K mg "is_name" s_is_name P_is_name f fd) : FnOk P w K mg base CX0 1 f fd P_is_name spIsName := by
  refine D.F.ok sc_is_name (fun vs H Q E h => ?_) (fun cdv A outer s H vs Q E hr h => ?_)
  · obtain ⟨x, t, rfl, _⟩ := h
    rfl
  · obtain ⟨x, t, rfl, hk, hz, k⟩ := h
    refine ⟨_, (pss_cons (ps_if (PW.pt (pw_or (pt_not (pt_val (pe_callB call_is (by rfl) B.b_isinstance (by decide +kernel) (pa_cons (pv 0) (pa_cons (pe_ty (n := "str") (by rfl) B.b_str (by decide +kernel)) pa_nil))))) (pw_or1 (pt_not (pt_chain op_le op_le pe_int (pe_callB call_len (by rfl) B.b_len (by decide +kernel) (pa_cons (pv 0) pa_nil)) (pe_gv rfl C.g_MAX_NAME)))))) (pss_one (ps_ret pe_bl)) pss_nil)
      (pss_one (ps_ret (pe_callB (cr_all rfl) (by rfl) B.b_all (by decide +kernel) (pa_cons (pe_lc (own := [("letter", 1)]) (g := gName 1) (tt := tYes) rfl sc_is_name.nd (pi_str (pv 0)) (blkOk_by (own := [("letter", 1)]) (N := N_is_name) (sc := defScope s_is_name) (by decide +kernel)) (fun _ _ _ _ _ => (pg_name (i := 1) sc_is_name.nd rfl (Or.inl rfl))) (fun _ _ _ _ _ => pts_nil) (fun _ _ _ _ _ => (pe_cmpR op_in_sign (pv 1) (pe_gv rfl C.g__LETTERS) (by rfl)))) pa_nil))))), ?_⟩
    refine ⟨_, rfl, x, t, .str, rfl, hk, by decide, _, rfl, ?_⟩
    cases hk with
    | str z =>
      have hz := hz z rfl
      have hl : (1000 : Nat) ≤ sizeLine := by decide
      have hk : nameB (.str z) = (decide (1 ≤ z.length ∧ z.length ≤ 8) && z.cps.toList.all low26) := rfl
      refine iteF ⟨_, rfl, _, z.length, rfl, ⟨by omega, rfl⟩, _, _, rfl, rfl, _, rfl, ?_⟩
      refine ite2 (fun e1 => ?_) (fun e1 => ?_)
      · have e1' := of_decide_eq_true e1
        refine ⟨_, _, rfl, rfl, _, rfl, ite2 (fun e2 => ?_) (fun e2 => ?_)⟩
        · have e2' : ¬ (z.length : Int) ≤ 8 := fun q => by
            rw [decide_eq_true q] at e2
            exact Bool.false_ne_true e2
          have ek : nameB (.str z) = false := by
            rw [hk, decide_eq_false (by omega)]
            rfl
          rw [ek] at k
          exact k H (Same.refl H)
        · have e2' : (z.length : Int) ≤ 8 := by
            cases hd : decide ((z.length : Int) ≤ 8) with
            | true => exact of_decide_eq_true hd
            | false =>
              rw [hd] at e2
              exact absurd rfl e2
          have ek : nameB (.str z) = z.cps.toList.all low26 := by
            rw [hk, decide_eq_true (by omega)]
            rfl
          rw [ek] at k
          refine ⟨_, rfl, z, rfl, fun L hL => ?_⟩
          refine lc_it walk_str (fun i H' => Same H H' ∧ H' L = some (.lst (((z.cps.toList.take i).map low26).map V.bl))) ⟨Same.new hL, upd_same⟩ (fun _ _ _ _ => trivial) ?_ ?_
          · rintro i x H1 H2 hi ⟨s1, h1⟩ ⟨rfl, c, hc, rfl⟩
            have hc' : z.cps.toList[i]? = some c := by rw [Array.getElem?_toList]; exact hc
            refine ⟨rfl, _, rfl, c, LET, rfl, rfl, _, h1, ?_, ?_, ?_⟩
            · rw [List.length_map, List.length_map, List.length_take]
              have hl2 : z.cps.toList.length = z.length := rfl
              omega
            · exact fun b o e => by rw [upd_ne (ne_of_none e hL)]; exact s1 b o e
            · rw [upd_same, let_low, take_one hc', List.map_append, List.map_append]
              rfl
          · rintro H1 ⟨s1, h1⟩
            have et : z.cps.toList.take z.cps.size = z.cps.toList := List.take_of_length_le (by rw [Array.length_toList]; exact Nat.le_refl _)
            rw [et] at h1
            refine ⟨L, _, rfl, SqL.of h1, ?_⟩
            have ea : (z.cps.toList.map low26).all id = z.cps.toList.all low26 := by rw [List.all_map]; rfl
            rw [ea]
            exact k H1 s1
      · have e1' : ¬ (1 : Int) ≤ z.length := fun q => e1 (decide_eq_true q)
        have ek : nameB (.str z) = false := by
          rw [hk, decide_eq_false (by omega)]
          rfl
        rw [ek] at k
        exact ⟨_, rfl, iteT (k H (Same.refl H))⟩
    | _ => exact iteT (iteT (k H (Same.refl H)))
end
end V0
namespace V0
open PySem PySem.Spec PyProof.Rows L2
/-! ### texts in their order -/
def leS (a b : Str) : Prop := ltCps b.cps.toList a.cps.toList = false
theorem leS_iff {a b : Str} : leS a b ↔ a.cps.toList ≤ b.cps.toList := by
  unfold leS
  rw [ltCps_eq, decide_eq_false_iff_not]
  exact List.not_lt
theorem leS_trans {a b c : Str} (h : leS a b) (k : leS b c) : leS a c := leS_iff.mpr (List.le_trans (leS_iff.mp h) (leS_iff.mp k))
theorem str_ext {a b : Str} (h : a.cps.toList = b.cps.toList) : a = b := by
  cases a; cases b
  simp at h
  rw [h]
theorem leS_antisymm {a b : Str} (h : leS a b) (k : leS b a) : a = b := str_ext (List.le_antisymm (leS_iff.mp h) (leS_iff.mp k))
theorem rising_pw : ∀ (p : Str) (l : List Str), risingS p l = true → (p :: l).Pairwise leS
  | p, [], _ => by simp
  | p, x :: l, h => by
    have h' : (!ltCps x.cps.toList p.cps.toList && risingS x l) = true := h
    obtain ⟨h1, h2⟩ := Bool.and_eq_true_iff.mp h'
    have ih := rising_pw x l h2
    have px : leS p x := by
      unfold leS
      simpa using h1
    refine List.pairwise_cons.mpr ⟨fun y hy => ?_, ih⟩
    rcases List.mem_cons.mp hy with rfl | hy
    · exact px
    · exact leS_trans px ((List.pairwise_cons.mp ih).1 y hy)
theorem sorted_pw : ∀ (l : List Str), sortedS l = true → l.Pairwise leS
  | [], _ => List.Pairwise.nil
  | x :: l, h => rising_pw x l h
theorem sorted_one {xs ys : List Str} (p : xs.Perm ys) (hx : sortedS xs = true) (hy : sortedS ys = true) : xs = ys :=
  List.Perm.eq_of_pairwise (le := leS) (fun a b _ _ h k => leS_antisymm h k) (sorted_pw _ hx) (sorted_pw _ hy) p
/-! ### what things pay, in whole numbers -/
abbrev Bag := List (Str × Int)
def kvs (ps : Bag) : List (Key × V) := ps.map fun p => (.inr p.1, .int p.2)
def nms (ps : Bag) : List Str := ps.map (·.1)
def look (ps : Bag) (z : Str) : Int := ((ps.find? fun p => decide (p.1 = z)).map (·.2)).getD 0
theorem kvs_keys (ps : Bag) : (kvs ps).map (·.1) = (nms ps).map Sum.inr := by
  unfold kvs nms
  rw [List.map_map, List.map_map]
  rfl
theorem valV_kvs : ∀ (ps : Bag) (z : Str), valV (kvs ps) (.inr z) = (ps.find? fun p => decide (p.1 = z)).map fun p => V.int p.2
  | [], _ => rfl
  | p :: ps, z => by
    by_cases h : p.1 = z
    · rw [show kvs (p :: ps) = (.inr p.1, .int p.2) :: kvs ps from rfl, valV_pos (by rw [h]), List.find?_cons_of_pos (by simpa using h)]
      rfl
    · rw [show kvs (p :: ps) = (.inr p.1, .int p.2) :: kvs ps from rfl, valV_neg (by intro e; injection e with e; exact h e), List.find?_cons_of_neg (by simpa using h)]
      exact valV_kvs ps z
theorem find_some {ps : Bag} {z : Str} (h : z ∈ nms ps) : ∃ p, ps.find? (fun p => decide (p.1 = z)) = some p ∧ p ∈ ps ∧ p.1 = z := by
  obtain ⟨q, hq, e⟩ := List.mem_map.mp h
  cases f : ps.find? (fun p => decide (p.1 = z)) with
  | none =>
    have := List.find?_eq_none.mp f q hq
    simp [e] at this
  | some p => exact ⟨p, rfl, List.mem_of_find?_eq_some f, by simpa using List.find?_some f⟩
theorem valV_in {ps : Bag} {z : Str} (h : z ∈ nms ps) : valV (kvs ps) (.inr z) = some (.int (look ps z)) := by
  obtain ⟨p, f, _, _⟩ := find_some h
  rw [valV_kvs, look, f]
  rfl
theorem valV_out {ps : Bag} {z : Str} (h : z ∉ nms ps) : valV (kvs ps) (.inr z) = none := by
  rw [valV_kvs]
  cases f : ps.find? (fun p => decide (p.1 = z)) with
  | none => rfl
  | some p => exact absurd (List.mem_map.mpr ⟨p, List.mem_of_find?_eq_some f, by simpa using List.find?_some f⟩) h
theorem look_of {ps : Bag} {z : Str} {i : Int} (nd : (nms ps).Nodup) (h : (z, i) ∈ ps) : look ps z = i := by
  induction ps with
  | nil => cases h
  | cons p ps ih =>
    have nd' := List.nodup_cons.mp nd
    unfold look
    by_cases e : p.1 = z
    · rw [List.find?_cons_of_pos (by simpa using e)]
      rcases List.mem_cons.mp h with h | h
      · rw [← h]; rfl
      · exact absurd (List.mem_map.mpr ⟨_, h, e.symm⟩) nd'.1
    · rw [List.find?_cons_of_neg (by simpa using e)]
      rcases List.mem_cons.mp h with h | h
      · exact absurd (by rw [← h]) e
      · exact ih nd'.2 h
theorem look_mem {ps : Bag} {z : Str} (h : z ∈ nms ps) : (z, look ps z) ∈ ps := by
  obtain ⟨p, f, hp, e⟩ := find_some h
  have : look ps z = p.2 := by rw [look, f]; rfl
  rw [this, ← e]
  exact hp
theorem look_perm {ps qs : Bag} (nd : (nms ps).Nodup) (p : ps.Perm qs) (z : Str) : look ps z = look qs z := by
  have nd2 : (nms qs).Nodup := (p.map (fun q : Str × Int => q.1)).nodup_iff.mp nd
  by_cases h : z ∈ nms ps
  · exact (look_of nd2 (p.mem_iff.mp (look_mem h))).symm
  · have h2 : z ∉ nms qs := fun k => h ((p.map (fun q : Str × Int => q.1)).mem_iff.mpr k)
    have none_of : ∀ {rs : Bag}, z ∉ nms rs → look rs z = 0 := fun {rs} k => by
      unfold look
      cases f : rs.find? (fun p => decide (p.1 = z)) with
      | none => rfl
      | some p => exact absurd (List.mem_map.mpr ⟨p, List.mem_of_find?_eq_some f, by simpa using List.find?_some f⟩) k
    rw [none_of h, none_of h2]
theorem look_map (f : Int → Int) (h0 : f 0 = 0) : ∀ (ps : Bag) (z : Str), look (ps.map fun p => (p.1, f p.2)) z = f (look ps z)
  | [], _ => h0.symm
  | p :: ps, z => by
    have ih := look_map f h0 ps z
    unfold look at ih ⊢
    by_cases e : p.1 = z
    · rw [List.map_cons, List.find?_cons_of_pos (by simpa using e), List.find?_cons_of_pos (by simpa using e)]
      rfl
    · rw [List.map_cons, List.find?_cons_of_neg (by simpa using e), List.find?_cons_of_neg (by simpa using e)]
      exact ih
/-- the bag told anew in its own order -/
theorem look_self {ps : Bag} (nd : (nms ps).Nodup) : (nms ps).map (fun z => (z, look ps z)) = ps := by
  unfold nms
  rw [List.map_map]
  conv => rhs; rw [← List.map_id ps]
  exact List.map_congr_left fun p hp => by
    show (p.1, look ps p.1) = p
    rw [look_of nd (z := p.1) (i := p.2) hp]
/-! ### the greatest common divisor -/
def gcdB (u : Int) (ps : Bag) : Nat := ps.foldl (fun g p => Nat.gcd g p.2.natAbs) u.natAbs
theorem dvd_foldl (ps : Bag) : ∀ (g d : Nat), d ∣ ps.foldl (fun g p => Nat.gcd g p.2.natAbs) g ↔ d ∣ g ∧ ∀ p ∈ ps, d ∣ p.2.natAbs := by
  induction ps with
  | nil => intro g d; simp
  | cons p ps ih =>
    intro g d
    rw [List.foldl_cons, ih, Nat.dvd_gcd_iff]
    constructor
    · rintro ⟨⟨h1, h2⟩, h3⟩
      exact ⟨h1, fun q hq => (List.mem_cons.mp hq).elim (fun e => e ▸ h2) (h3 q)⟩
    · rintro ⟨h1, h2⟩
      exact ⟨⟨h1, h2 p (by simp)⟩, fun q hq => h2 q (by simp [hq])⟩
theorem dvd_gcdB {u : Int} {ps : Bag} {d : Nat} : d ∣ gcdB u ps ↔ d ∣ u.natAbs ∧ ∀ p ∈ ps, d ∣ p.2.natAbs := dvd_foldl ps _ d
theorem gcdB_u (u : Int) (ps : Bag) : gcdB u ps ∣ u.natAbs := (dvd_gcdB.mp (Nat.dvd_refl _)).1
theorem gcdB_p {u : Int} {ps : Bag} {p : Str × Int} (h : p ∈ ps) : gcdB u ps ∣ p.2.natAbs := (dvd_gcdB.mp (Nat.dvd_refl _)).2 p h
theorem gcdB_pos {u : Int} {ps : Bag} (hu : u ≠ 0) : 0 < gcdB u ps := by
  rcases Nat.eq_zero_or_pos (gcdB u ps) with h | h
  · have := gcdB_u u ps
    rw [h, Nat.zero_dvd] at this
    omega
  · exact h
theorem gcdB_le {u : Int} {ps : Bag} (hu : u ≠ 0) : gcdB u ps ≤ u.natAbs := Nat.le_of_dvd (by omega) (gcdB_u u ps)
theorem gcdB_perm {u : Int} {ps qs : Bag} (p : ps.Perm qs) : gcdB u ps = gcdB u qs :=
  Nat.dvd_antisymm (dvd_gcdB.mpr ⟨gcdB_u u ps, fun q hq => gcdB_p (p.mem_iff.mpr hq)⟩) (dvd_gcdB.mpr ⟨gcdB_u u qs, fun q hq => gcdB_p (p.mem_iff.mp hq)⟩)
theorem gcdB_mul (m : Int) (u : Int) (ps : Bag) : gcdB (u * m) (ps.map fun p => (p.1, p.2 * m)) = gcdB u ps * m.natAbs := by
  unfold gcdB
  rw [List.foldl_map, Int.natAbs_mul]
  generalize u.natAbs = g
  induction ps generalizing g with
  | nil => rfl
  | cons p ps ih =>
    rw [List.foldl_cons, List.foldl_cons, Int.natAbs_mul, Nat.gcd_mul_right]
    exact ih _
/-- the charge that is kept: each number divided by what all share -/
def nfU (u : Int) (ps : Bag) : Int := u / (gcdB u ps : Int)
def nfB (u : Int) (ps : Bag) : Bag := ps.map fun p => (p.1, p.2 / (gcdB u ps : Int))
theorem nfB_nms (u : Int) (ps : Bag) : nms (nfB u ps) = nms ps := by
  unfold nms nfB
  rw [List.map_map]
  rfl
theorem nf_mul {m u : Int} {ps : Bag} (hm : 0 < m) (hu : u ≠ 0) : nfU (u * m) (ps.map fun p => (p.1, p.2 * m)) = nfU u ps ∧ nfB (u * m) (ps.map fun p => (p.1, p.2 * m)) = nfB u ps := by
  have e : ((gcdB (u * m) (ps.map fun p => (p.1, p.2 * m)) : Nat) : Int) = (gcdB u ps : Int) * m := by
    rw [gcdB_mul, Int.natCast_mul]
    congr 1
    omega
  constructor
  · unfold nfU
    rw [e, Int.mul_ediv_mul_of_pos_left _ _ hm]
  · unfold nfB
    rw [List.map_map]
    refine List.map_congr_left fun p hp => ?_
    show (p.1, p.2 * m / _) = _
    rw [e, Int.mul_ediv_mul_of_pos_left _ _ hm]
theorem nf_inj {u : Int} {ps qs : Bag} (hu : 0 < u) (h1 : nfU u ps = nfU u qs) (h2 : nfB u ps = nfB u qs) : ps = qs := by
  have gp : (0 : Int) < (gcdB u ps : Int) := by have := gcdB_pos (u := u) (ps := ps) (by omega); omega
  have gq : (0 : Int) < (gcdB u qs : Int) := by have := gcdB_pos (u := u) (ps := qs) (by omega); omega
  have d1 : (gcdB u ps : Int) ∣ u := Int.ofNat_dvd_left.mpr (gcdB_u u ps)
  have d2 : (gcdB u qs : Int) ∣ u := Int.ofNat_dvd_left.mpr (gcdB_u u qs)
  have eg : (gcdB u ps : Int) = (gcdB u qs : Int) := by
    unfold nfU at h1
    have a1 := Int.ediv_mul_cancel d1
    have a2 := Int.ediv_mul_cancel d2
    rw [← h1] at a2
    have pos : u / (gcdB u ps : Int) ≠ 0 := fun z => by rw [z] at a1; omega
    exact Int.eq_of_mul_eq_mul_left pos (a1.trans a2.symm)
  have back : ∀ rs : Bag, (nfB u rs).map (fun p => (p.1, p.2 * (gcdB u rs : Int))) = rs := fun rs => by
    unfold nfB
    rw [List.map_map]
    conv => rhs; rw [← List.map_id rs]
    exact List.map_congr_left fun p hp => by
      show (p.1, p.2 / _ * _) = p
      rw [Int.ediv_mul_cancel (Int.ofNat_dvd_left.mpr (gcdB_p hp))]
  rw [← back ps, ← back qs, h2, eg]
end V0

namespace V0
open PySem PySem.Spec PyProof.Rows L2
/-- // by any divisor but 0, below 2 ^ 9000 -/
def CDivZ (_ j : Int) : Prop := j ≠ 0 ∧ j.natAbs.log2 < 9000
section
variable {X : Cx}
theorem op_fdivZ : OpR X (binaryOp .FloorDiv) (rI CDivZ fun i j => .int (i.fdiv j)) := opI fun _ _ _ _ _ _ _ hc q => floordiv_int hc.1 q (.inl (PyProof.noPylong_of_log2 hc.2))
end
theorem div_z {j : Int} {b : Nat} (i : Int) (h : j ≠ 0) (hb : j.natAbs < 2 ^ b) (h0 : 0 < b) (h9 : b ≤ 9000) : CDivZ i j := ⟨h, Nat.lt_of_lt_of_le (PySem.Flt.log2_lt_of h0 hb) h9⟩
/-- by what reduced divides -/
def redG (i j : Int) : Int := if j < 0 then -((Nat.gcd i.natAbs j.natAbs : Nat) : Int) else ((Nat.gcd i.natAbs j.natAbs : Nat) : Int)
def spRed : Sp := fun vs H Q _ => ∃ (i j : Int), vs = [.int i, .int j] ∧ j ≠ 0 ∧ j.natAbs < 2 ^ 3000 ∧
  ∀ p, H p = none → Q (.ref p) (upd H p (.tup [.int (i.fdiv (redG i j)), .int (j.fdiv (redG i j))]))
theorem gcd_pos {i j : Int} (hj : j ≠ 0) : 0 < Nat.gcd i.natAbs j.natAbs := Nat.gcd_pos_of_pos_right _ (by omega)
theorem gcd_le {i j : Int} (hj : j ≠ 0) : Nat.gcd i.natAbs j.natAbs ≤ j.natAbs := Nat.le_of_dvd (by omega) (Nat.gcd_dvd_right _ _)
theorem bnot_false {b : Bool} (h : ¬ (!b) = true) : b = true := by cases b <;> simp_all
theorem bnot_true {b : Bool} (h : (!b) = true) : b = false := by cases b <;> simp_all
section
variable {P : Program} {w : World} {K : PySem.W.Frag} {mg : Str → Option Value} {base : Heap}
abbrev s_reduced : Stmt := top 19
abbrev N_reduced : List Str := ["numerator", "denominator", "shared"]
abbrev P_reduced : List Str := ["numerator", "denominator"]
theorem sc_reduced : FnScope N_reduced P_reduced (defScope s_reduced) := ⟨rfl, rfl, rfl, by decide +kernel, rfl, by decide +kernel, by decide +kernel⟩
theorem ok_reduced {f : Addr} {fd : FuncData} (C : Nm mg) (D : Df K mg "reduced" s_reduced P_reduced f fd) : FnOk P w K mg base CX0 1 f fd P_reduced spRed := by
  refine D.F.ok sc_reduced (fun vs H Q E h => ?_) (fun cdv A outer s H vs Q E hr h => ?_)
  · obtain ⟨i, j, rfl, _⟩ := h
    rfl
  · obtain ⟨i, j, rfl, hj, hb, k⟩ := h
    refine ⟨_, (pss_cons (ps_set (i := 2) sc_reduced.nd rfl (Or.inl rfl) (pe_callBfun cr_gcd (by rfl) C.g_gcd (pa_cons (pv 0) (pa_cons (pv 1) pa_nil))))
      (pss_cons (ps_if (pt_cmpR op_lt (pv 1) pe_int (nomark _)) (pss_one (ps_set (i := 2) sc_reduced.nd rfl (Or.inl rfl) (pe_un un_neg (pv 2)))) pss_nil)
      (pss_one (ps_ret (pe_tup (pa_cons (pe_op op_fdivZ (pv 0) (pv 2)) (pa_cons (pe_op op_fdivZ (pv 1) (pv 2)) pa_nil))))))), ?_⟩
    have g0 := gcd_pos (i := i) hj
    have g1 := gcd_le (i := i) hj
    have gb : (Nat.gcd i.natAbs j.natAbs) < 2 ^ 3000 := Nat.lt_of_le_of_lt g1 hb
    refine ⟨_, rfl, _, rfl, _, _, rfl, _, rfl, _, _, rfl, rfl, _, rfl, ite2 (fun e => ?_) (fun e => ?_)⟩
    · have e' := of_decide_eq_true e
      refine ⟨_, rfl, _, rfl, _, rfl, _, rfl, _, _, rfl, rfl, div_z (b := 3000) _ (by omega) (by omega) (by decide) (by decide), _, rfl, _, rfl, _, _, rfl, rfl, div_z (b := 3000) _ (by omega) (by omega) (by decide) (by decide), (by show 2 ≤ sizeLine; decide), fun p hp => ?_⟩
      have q := k p hp
      rw [show redG i j = -((Nat.gcd i.natAbs j.natAbs : Nat) : Int) from if_pos e'] at q
      exact q
    · have e' : ¬ j < 0 := fun z => e (decide_eq_true z)
      refine ⟨_, rfl, _, rfl, _, _, rfl, rfl, div_z (b := 3000) _ (by omega) (by omega) (by decide) (by decide), _, rfl, _, rfl, _, _, rfl, rfl, div_z (b := 3000) _ (by omega) (by omega) (by decide) (by decide), (by show 2 ≤ sizeLine; decide), fun p hp => ?_⟩
      have q := k p hp
      rw [show redG i j = ((Nat.gcd i.natAbs j.natAbs : Nat) : Int) from if_neg e'] at q
      exact q
end
end V0

namespace V0
open PySem PySem.Spec PyProof.Rows L2
/-- more built-in names -/
structure Bm (mg : Str → Option Value) : Prop where
  b_sorted : mg "sorted" = none
  b_zip : mg "zip" = none
  b_iter : mg "iter" = none
theorem upd_lock {H : Hp} {d : Addr} {u x : HO} (h : H d = some u) : upd (upd H d x) d u = H := by
  funext b
  by_cases hb : b = d
  · rw [hb, upd_same, h]
  · rw [upd_ne hb, upd_ne hb]
theorem kvs_at {ps : Bag} {i : Nat} {k : Key} {v : V} (h : (kvs ps)[i]? = some (k, v)) : ∃ p, ps[i]? = some p ∧ k = .inr p.1 ∧ v = .int p.2 := by
  unfold kvs at h
  rw [List.getElem?_map] at h
  cases e : ps[i]? with
  | none => rw [e] at h; cases h
  | some p =>
    rw [e] at h
    injection h with h
    injection h with h1 h2
    exact ⟨p, rfl, h1.symm, h2.symm⟩
theorem nms_at {ps : Bag} {i : Nat} {p : Str × Int} (h : ps[i]? = some p) : p.1 ∈ nms ps := List.mem_map.mpr ⟨p, List.mem_of_getElem? h, rfl⟩
theorem look_at {ps : Bag} {i : Nat} {p : Str × Int} (nd : (nms ps).Nodup) (h : ps[i]? = some p) : look ps p.1 = p.2 := look_of nd (List.mem_of_getElem? h)
theorem DGet.bag {H : Hp} {d : Addr} {ps : Bag} {z : Str} (h : Rd H d (.dK (kvs ps))) (hz : z ∈ nms ps) : DGet H d (.str z) (some (.int (look ps z))) := .inl ⟨kvs ps, .inr z, h, rfl, (valV_in hz).symm⟩
theorem gcdB_take {u : Int} {ps : Bag} {i : Nat} {p : Str × Int} (h : ps[i]? = some p) : gcdB u (ps.take (i + 1)) = Nat.gcd (gcdB u (ps.take i)) p.2.natAbs := by
  unfold gcdB
  rw [take_one h, List.foldl_append]
  rfl
def spDivisor : Sp := fun vs H Q _ => ∃ (d : Addr) (ps : Bag) (u : Int), vs = [.ref d, .int u] ∧ H d = some (.dK (kvs ps)) ∧ (nms ps).Nodup ∧ 0 ≤ u ∧ Q (.int (gcdB u ps : Nat)) H
section
variable {P : Program} {w : World} {K : PySem.W.Frag} {mg : Str → Option Value} {base : Heap}
abbrev s__shared_divisor : Stmt := top 28
abbrev N__shared_divisor : List Str := ["pays", "unit", "shared", "thing"]
abbrev P__shared_divisor : List Str := ["pays", "unit"]
theorem sc__shared_divisor : FnScope N__shared_divisor P__shared_divisor (defScope s__shared_divisor) := ⟨rfl, rfl, rfl, by decide +kernel, rfl, by decide +kernel, by decide +kernel⟩
theorem ok_shared {f : Addr} {fd : FuncData} (C : Nm mg) (D : Df K mg "_shared_divisor" s__shared_divisor P__shared_divisor f fd) : FnOk P w K mg base CX0 1 f fd P__shared_divisor spDivisor := by
  refine D.F.ok sc__shared_divisor (fun vs H Q E h => ?_) (fun cdv A outer s H vs Q E hr h => ?_)
  · obtain ⟨d, ps, u, rfl, _⟩ := h
    rfl
  · obtain ⟨d, ps, u, rfl, hd, nd, hu, k⟩ := h
    refine ⟨_, (pss_cons (ps_set (i := 2) sc__shared_divisor.nd rfl (Or.inl rfl) (pv 1))
      (pss_cons (ps_lock (ps_for PassesOwn.never rfl (pi_keys (pv 0)) (pg_name (i := 3) sc__shared_divisor.nd rfl (Or.inl rfl)) (pss_one (ps_set (i := 2) sc__shared_divisor.nd rfl (Or.inl rfl) (pe_callBfun cr_gcd (by rfl) C.g_gcd (pa_cons (pv 2) (pa_cons (pe_dget (hu_of hr) (pv 0) (pv 3) (fun _ _ => rfl)) pa_nil)))))))
      (pss_one (ps_ret (pv 2))))), ?_⟩
    refine ⟨_, rfl, d, _, hd, trivial, fun od => ?_⟩
    refine ⟨_, rfl, d, od, rfl, .inl ⟨_, upd_same, ?_⟩⟩
    refine for_it walk_keys (fun i σ H' => H' = upd H d (.frz od (.dK (kvs ps))) ∧ ∃ o, σ = [some (.ref d), some (.int u), some (.int (gcdB u (ps.take i) : Nat)), o]) ⟨rfl, none, ?_⟩ ?_ ?_ ?_
    · show ([some (.ref d), some (.int u), some (.int u), none] : List (Option V)) = _
      rw [List.take_zero, show gcdB u [] = u.natAbs from rfl, Int.natAbs_of_nonneg hu]
    · rintro i σ H' hi ⟨rfl, _⟩
      exact upd_same
    · rintro i x σ H1 H2 hi ⟨rfl, o, rfl⟩ ⟨rfl, kk, v, hk, rfl⟩
      obtain ⟨p, hp, rfl, rfl⟩ := kvs_at hk
      refine ⟨_, rfl, _, rfl, _, rfl, d, _, rfl, DGet.bag (.inr ⟨_, upd_same⟩) (nms_at hp), _, _, rfl, ⟨rfl, some (.str p.1), ?_⟩⟩
      rw [look_at nd hp, gcdB_take hp]
      rfl
    · rintro σ H' ⟨rfl, o, rfl⟩
      rw [show ps.take (kvs ps).length = ps from by unfold kvs; rw [List.length_map, List.take_length]]
      refine ⟨upd_same, _, rfl, ?_⟩
      rw [upd_lock hd]
      exact k
/-- what is asked of plain charges: names, small numbers, one to eight things -/
structure Bg (b : Nat) (ps : Bag) : Prop where
  nd : (nms ps).Nodup
  nm : ∀ z ∈ nms ps, nameB (.str z) = true ∧ z.length ≤ 8
  nb : ∀ p ∈ ps, p.2.natAbs < b
  l1 : 1 ≤ ps.length
  l8 : ps.length ≤ 8
theorem Bg.look {b : Nat} {ps : Bag} (g : Bg b ps) {z : Str} (h : z ∈ nms ps) : (look ps z).natAbs < b := g.nb _ (look_mem h)
theorem kvs_len (ps : Bag) : (kvs ps).length = ps.length := by unfold kvs; rw [List.length_map]
def spArePays : Sp := fun vs H Q _ => ∃ (d : Addr) (ps : Bag), vs = [.ref d] ∧ H d = some (.dK (kvs ps)) ∧ Bg (10 ^ 60) ps ∧ ∀ H', Same H H' → Q (.bl true) H'
abbrev s__are_pays : Stmt := top 27
abbrev N__are_pays : List Str := ["value", "thing"]
abbrev P__are_pays : List Str := ["value"]
theorem sc__are_pays : FnScope N__are_pays P__are_pays (defScope s__are_pays) := ⟨rfl, rfl, rfl, by decide +kernel, rfl, by decide +kernel, by decide +kernel⟩
theorem ok_are_pays {f f1 f2 f3 : Addr} {fd fd1 fd2 fd3 : FuncData} (B : Bl mg) (C : Nm mg) (D_is_whole : Df K mg "is_whole" s_is_whole P_is_whole f1 fd1) (D_is_integer : Df K mg "is_integer" s_is_integer P_is_integer f2 fd2) (D_is_name : Df K mg "is_name" s_is_name P_is_name f3 fd3)
    (D : Df K mg "_are_pays" s__are_pays P__are_pays f fd) : FnOk P w K mg base CX0 3 f fd P__are_pays spArePays := by
  have G_is_integer : FnOk P w K mg base CX0 2 f2 fd2 P_is_integer spIsInteger := ok_is_integer B C D_is_whole D_is_integer
  have G_is_name : FnOk P w K mg base CX0 1 f3 fd3 P_is_name spIsName := ok_is_name B C D_is_name
  refine D.F.ok sc__are_pays (fun vs H Q E h => ?_) (fun cdv A outer s H vs Q E hr h => ?_)
  · obtain ⟨d, ps, rfl, _⟩ := h
    rfl
  · obtain ⟨d, ps, rfl, hd, g, k⟩ := h
    refine ⟨_, (pss_cons (ps_if (PW.pt (pw_or (pt_not (pt_val (pe_callB call_is (by rfl) B.b_isinstance (by decide +kernel) (pa_cons (pv 0) (pa_cons (pe_ty (n := "dict") (by rfl) B.b_dict (by decide +kernel)) pa_nil))))) (pw_or1 (pt_not (pt_chain op_le op_le pe_int (pe_callB call_lenD (by rfl) B.b_len (by decide +kernel) (pa_cons (pv 0) pa_nil)) (pe_gv rfl C.g_MAX_THINGS)))))) (pss_one (ps_ret pe_bl)) pss_nil)
      (pss_one (ps_ret (pe_callB (cr_all rfl) (by rfl) B.b_all (by decide +kernel) (pa_cons (pe_lock (pe_lc (own := [("thing", 1)]) (g := gName 1) (tt := tYes) rfl sc__are_pays.nd (pi_keys (pv 0)) (blkOk_by (own := [("thing", 1)]) (N := N__are_pays) (sc := defScope s__are_pays) (by decide +kernel)) (fun _ _ _ _ _ => (pg_name (i := 1) sc__are_pays.nd rfl (Or.inl rfl))) (fun _ _ _ _ _ => pts_nil) (fun _ _ _ _ _ => (pe_and (pe_call G_is_name (hr.mono (by decide)) (by rfl) D_is_name.g D_is_name.F.kp D_is_name.b .nil pass0 (pa_cons (pv 1) pa_nil)) (pe_one (pe_call G_is_integer (hr.mono (by decide)) (by rfl) D_is_integer.g D_is_integer.F.kp D_is_integer.b .nil pass0 (pa_cons (pe_dget (hu_of hr) (pv 0) (pv 1) (fun _ _ => rfl)) pa_nil))))))) pa_nil))))), ?_⟩
    refine ⟨_, rfl, _, .dct, .dct, rfl, .dct hd, by decide, _, rfl, iteF ?_⟩
    have l1 := g.l1
    have l8 := g.l8
    refine ⟨_, rfl, d, _, rfl, hd, _, _, rfl, rfl, _, rfl, ?_⟩
    rw [show decide (1 ≤ ((kvs ps).length : Int)) = true from decide_eq_true (by rw [kvs_len]; omega)]
    refine iteT ⟨_, _, rfl, rfl, _, rfl, ?_⟩
    rw [show decide (((kvs ps).length : Int) ≤ 8) = true from decide_eq_true (by rw [kvs_len]; omega)]
    refine iteF ?_
    refine ⟨d, _, hd, trivial, fun od => ⟨_, rfl, d, od, rfl, .inl ⟨_, upd_same, fun L hL => ?_⟩⟩⟩
    have hdL := ne_of_none (upd_same (H := H) (a := d) (o := .frz od (.dK (kvs ps)))) hL
    refine lc_it walk_keys (fun i H' => Same (upd H d (.frz od (.dK (kvs ps)))) H' ∧ H' L = some (.lst ((List.replicate i true).map V.bl))) ⟨Same.new hL, upd_same⟩ ?_ ?_ ?_
    · rintro i H' hi ⟨s1, _⟩
      exact s1 _ _ upd_same
    · rintro i x H1 H2 hi ⟨s1, h1⟩ ⟨rfl, kk, v, hk, rfl⟩
      obtain ⟨p, hp, rfl, rfl⟩ := kvs_at hk
      have hm := nms_at hp
      obtain ⟨n1, n2⟩ := g.nm _ hm
      rw [kvs_len] at hi
      refine ⟨rfl, _, rfl, _, .str, rfl, .str _, fun z e => (by injection e with e; rw [← e]; omega), fun H3 s3 => ?_⟩
      have s13 := s1.trans s3
      have hl2 : (look ps p.1).natAbs < 10 ^ 60 := g.look hm
      refine ⟨_, rfl, ?_⟩
      rw [show nameB (kV (Sum.inr p.1)) = true from n1]
      refine iteT ⟨_, rfl, _, rfl, d, _, rfl, DGet.bag (.inr ⟨_, s13 _ _ upd_same⟩) hm, _, .int, rfl, .int _, ?_⟩
      rw [show intB (.int (look ps p.1)) = true from decide_eq_true hl2]
      refine ⟨_, s3 _ _ h1, ?_, fun b o e => ?_, ?_⟩
      · rw [List.length_map, List.length_replicate]
        show i < sizeLine
        rw [sizeLine_eq]
        omega
      · rw [upd_ne (ne_of_none e hL)]
        exact s13 b o e
      · rw [upd_same, List.replicate_succ', List.map_append]
        rfl
    · rintro H1 ⟨s1, h1⟩
      refine ⟨s1 _ _ upd_same, L, _, rfl, SqL.of (by rw [upd_ne hdL.symm]; exact h1), ?_⟩
      have ea : (List.replicate (kvs ps).length true).all id = true := by simp
      rw [ea]
      refine k _ fun b o e => ?_
      by_cases hb : b = d
      · subst hb
        rw [hd] at e
        rw [upd_same, ← e]
      · rw [upd_ne hb]
        exact s1 b o (by rw [upd_ne hb]; exact e)
end
end V0
namespace V0
open PySem PySem.Spec PyProof.Rows L2
def itx (n : Int) : Str := (toString n : String)
theorem ofString_app (a b : String) : Str.ofString (a ++ b) = Str.ofString a ++ Str.ofString b := by
  refine str_ext ?_
  rw [PySem.Str.cps_append, Str.ofString_eq_toList, Str.ofString_eq_toList, Str.ofString_eq_toList, String.toList_append]
  simp
theorem itx_neg {n : Int} (h : n < 0) : Str.empty ++ (Str.ofString "-") ++ itx (n.natAbs : Int) = itx n := by
  unfold itx
  rw [PyProof.Rows.toString_neg h, ofString_app]
  rw [show (n.natAbs : Int) = 0 - n by omega]
  refine str_ext ?_
  rw [PySem.Str.cps_append, PySem.Str.cps_append, PySem.Str.cps_append]
  simp [Str.empty]
theorem abs_nn (i : Int) : (if i < 0 then -i else i) = (i.natAbs : Int) := by split <;> omega
def spIntText : Sp := fun vs H Q _ => ∃ (n : Int), vs = [.int n] ∧ n.natAbs < 10 ^ 64 ∧ ∀ H', Same H H' → Q (.str (itx n)) H'
section
variable {P : Program} {w : World} {K : PySem.W.Frag} {mg : Str → Option Value} {base : Heap}
abbrev s_integer_text : Stmt := top 20
abbrev N_integer_text : List Str := ["number", "chunks", "rest", "digits"]
abbrev P_integer_text : List Str := ["number"]
theorem sc_integer_text : FnScope N_integer_text P_integer_text (defScope s_integer_text) := ⟨rfl, rfl, rfl, by decide +kernel, rfl, by decide +kernel, by decide +kernel⟩
theorem ok_int_text {f : Addr} {fd : FuncData} (B : Bl mg) (C : Nm mg) (D : Df K mg "integer_text" s_integer_text P_integer_text f fd) : FnOk P w K mg base CX0 1 f fd P_integer_text spIntText := by
  refine D.F.ok sc_integer_text (fun vs H Q E h => ?_) (fun cdv A outer s H vs Q E hr h => ?_)
  · obtain ⟨n, rfl, _⟩ := h
    rfl
  · obtain ⟨n, rfl, hn, k⟩ := h
    refine ⟨_, (pss_cons (ps_set (i := 1) sc_integer_text.nd rfl (Or.inl rfl) (pe_lst pa_nil))
      (pss_cons (ps_set (i := 2) sc_integer_text.nd rfl (Or.inl rfl) (pe_callB call_abs (by rfl) B.b_abs (by decide +kernel) (pa_cons (pv 0) pa_nil)))
      (pss_cons (ps_while PassesOwn.never (pt_cmpR op_ge (pv 2) (pe_gv rfl C.g__CHUNK) (nomark _)) (pss_cons ps_never (pss_one ps_never)))
      (pss_cons (ps_expr (pe_bm PySem.F.plainAttrs_list PySem.F.slot_list_append PySem.F.type_list_append mt_append (pv 1) (pa_cons (pe_callTy call_str_int (by rfl) B.b_str (by decide +kernel) (pa_cons (pv 2) pa_nil)) pa_nil)))
      (pss_cons (ps_set (i := 3) sc_integer_text.nd rfl (Or.inl rfl) (pe_join pe_str (pe_revL (pv 1))))
      (pss_one (ps_ret (pe_ifExp (pt_cmpR op_lt (pv 0) pe_int (nomark _)) (pe_joined (.cons pe_str (.cons (pe_fmt (pv 3)) .nil))) (pv 3))))))))), ?_⟩
    refine ⟨Nat.zero_le _, fun l hl => ?_⟩
    refine ⟨_, rfl, _, rfl, ?_⟩
    rw [abs_nn]
    have e1 : (upd H l (.lst [])) l = some (.lst []) := upd_same
    have s1 := Same.new (o := .lst []) hl
    refine while_by (fun σ H' => σ = [some (.int n), some (.ref l), some (.int (n.natAbs : Int)), none] ∧ H' = upd H l (.lst [])) (fun _ _ => 0) ⟨rfl, rfl⟩ ?_ (by rintro σ H Q Q' hq ⟨v, h1, i, j, h2, h3, k, h4, h5⟩; exact ⟨v, h1, i, j, h2, h3, k, h4, hq _ _ h5⟩)
    rintro σ H' ⟨rfl, rfl⟩
    refine ⟨_, rfl, _, _, rfl, rfl, _, rfl, ?_⟩
    rw [show decide (CH ≤ (n.natAbs : Int)) = false from decide_eq_false (by unfold CH; omega)]
    refine iteF ?_
    have hlog : (n.natAbs : Int).natAbs.log2 < 1920 := by
      rw [Int.natAbs_natCast]
      by_cases h0 : n.natAbs = 0
      · rw [h0]; decide
      · exact (Nat.log2_lt h0).mpr (Nat.lt_trans hn (by decide +kernel))
    refine ⟨_, rfl, .inl ⟨rfl, _, SqL.of e1⟩, _, rfl, _, rfl, hlog, l, _, _, rfl, rfl, e1, by show 0 < sizeLine; rw [sizeLine_eq]; decide, ?_⟩
    rw [upd_upd]
    have e2 : (upd H l (.lst [.str (itx (n.natAbs : Int))])) l = some (.lst ([itx (n.natAbs : Int)].map V.str)) := upd_same
    have s2 := Same.new (o := .lst [.str (itx (n.natAbs : Int))]) hl
    refine ⟨⟨_, rfl⟩, _, rfl, l, _, rfl, SqL.of e2, fun p hp => ?_⟩
    have s3 := s2.trans (Same.new (o := .lst [.str (itx (n.natAbs : Int))]) hp)
    have hlen : (itx (n.natAbs : Int)).length ≤ 70 := by
      have e := int_text_length_le10 (a := (n.natAbs : Int)) (k := 64) (by decide) (by rw [Int.natAbs_natCast]; exact hn)
      unfold itx
      rw [PySem.ofString_length]
      omega
    refine ⟨_, p, [itx (n.natAbs : Int)], rfl, rfl, .inl (SqL.of upd_same), ?_, ?_⟩
    · show ([itx (n.natAbs : Int)].map (·.length)).sum + 1 * _ ≤ 16777216
      simp only [List.map_cons, List.map_nil, List.sum_cons, List.sum_nil]
      show (itx (n.natAbs : Int)).length + 0 + 1 * 0 ≤ _
      omega
    · rw [show Txt.join (Str.ofString "") [itx (n.natAbs : Int)] = itx (n.natAbs : Int) from TL.join_eq _ _]
      refine ⟨_, rfl, _, _, rfl, rfl, _, rfl, ite2 (fun e => ?_) (fun e => ?_)⟩
      · have e' := of_decide_eq_true e
        refine ⟨_, rfl, by decide, _, rfl, .inl ⟨_, rfl, by rw [sizeLine_eq]; omega, _, rfl, ?_, ?_⟩⟩
        · rw [PySem.Str.length_append, sizeLine_eq]
          have h1 : (Str.empty ++ (Str.ofString "-")).length = 1 := by decide +kernel
          omega
        · show Q (.str (Str.empty ++ (Str.ofString "-") ++ itx (n.natAbs : Int))) _
          rw [itx_neg e']
          exact k _ s3
      · have e' : ¬ n < 0 := fun z => e (decide_eq_true z)
        refine ⟨_, rfl, ?_⟩
        have : (n.natAbs : Int) = n := by omega
        rw [this] at s3 ⊢
        exact k _ s3
end
end V0

namespace V0
open PySem PySem.Spec PyProof.Rows L2
/-- the fraction n / d in lowest terms -/
def fg (n d : Int) : Int := (Nat.gcd n.natAbs d.natAbs : Nat)
def ftx (a b : Int) : Str := if b = 1 then itx a else itx a ++ Str.ofString "/" ++ itx b
def spFr : Sp := fun vs H Q _ => ∃ (i j : Int), vs = [.int i, .int j] ∧ 0 < j ∧ j.natAbs < 2 ^ 3000 ∧ ∀ p, H p = none → Q (.ref p) (upd H p (.tup [.int (i / fg i j), .int (j / fg i j)]))
def spFrText : Sp := fun vs H Q _ => ∃ (i j : Int), vs = [.int i, .int j] ∧ 0 < j ∧ i.natAbs < 10 ^ 64 ∧ j.natAbs < 10 ^ 64 ∧ ∀ H', Same H H' → Q (.str (ftx (i / fg i j) (j / fg i j))) H'
theorem fg_pos {i j : Int} (h : 0 < j) : 0 < fg i j := by
  have := gcd_pos (i := i) (j := j) (by omega)
  unfold fg
  omega
theorem div_le {i g : Int} (h : 0 < g) : (i / g).natAbs ≤ i.natAbs := by
  have h1 : g.natAbs = g := by omega
  have e := Int.natAbs_ediv_le_natAbs i g
  exact e
theorem empty_app (a : Str) : Str.empty ++ a = a := by
  refine str_ext ?_
  rw [PySem.Str.cps_append]
  simp [Str.empty]
theorem itx_len {n : Int} (h : n.natAbs < 10 ^ 64) : (itx n).length ≤ 70 := by
  have e := int_text_length_le10 (a := n) (k := 64) (by decide) h
  unfold itx
  rw [PySem.ofString_length]
  omega
section
variable {P : Program} {w : World} {K : PySem.W.Frag} {mg : Str → Option Value} {base : Heap}
theorem ok_fr {f : Addr} {fd : FuncData} (C : Nm mg) (D : Df K mg "reduced" s_reduced P_reduced f fd) : FnOk P w K mg base CX0 1 f fd P_reduced spFr := by
  refine (ok_reduced C D).imp fun vs H Q E h => ?_
  obtain ⟨i, j, rfl, hj, hb, k⟩ := h
  refine ⟨i, j, rfl, by omega, hb, fun p hp => ?_⟩
  have e : redG i j = fg i j := if_neg (by omega)
  have g0 := fg_pos (i := i) hj
  rw [e, Int.fdiv_eq_ediv_of_nonneg _ (by omega), Int.fdiv_eq_ediv_of_nonneg _ (by omega)]
  exact k p hp
abbrev s_fraction_text : Stmt := top 21
abbrev N_fraction_text : List Str := ["numerator", "denominator", "over", "under"]
abbrev P_fraction_text : List Str := ["numerator", "denominator"]
theorem sc_fraction_text : FnScope N_fraction_text P_fraction_text (defScope s_fraction_text) := ⟨rfl, rfl, rfl, by decide +kernel, rfl, by decide +kernel, by decide +kernel⟩
theorem ok_fr_text {f f1 f2 : Addr} {fd fd1 fd2 : FuncData} (B : Bl mg) (C : Nm mg) (D_reduced : Df K mg "reduced" s_reduced P_reduced f1 fd1) (D_integer_text : Df K mg "integer_text" s_integer_text P_integer_text f2 fd2)
    (D : Df K mg "fraction_text" s_fraction_text P_fraction_text f fd) : FnOk P w K mg base CX0 2 f fd P_fraction_text spFrText := by
  have G_reduced : FnOk P w K mg base CX0 1 f1 fd1 P_reduced spFr := ok_fr C D_reduced
  have G_integer_text : FnOk P w K mg base CX0 1 f2 fd2 P_integer_text spIntText := ok_int_text B C D_integer_text
  refine D.F.ok sc_fraction_text (fun vs H Q E h => ?_) (fun cdv A outer s H vs Q E hr h => ?_)
  · obtain ⟨i, j, rfl, _⟩ := h
    rfl
  · obtain ⟨i, j, rfl, hj, hi, hb, k⟩ := h
    refine ⟨_, (pss_cons (ps_asg (pe_call G_reduced (hr.mono (by decide)) (by rfl) D_reduced.g D_reduced.F.kp D_reduced.b .nil pass0 (pa_cons (pv 0) (pa_cons (pv 1) pa_nil))) (pg_tup rfl (pgs_cons (pg_name (i := 2) sc_fraction_text.nd rfl (Or.inl rfl)) (pgs_cons (pg_name (i := 3) sc_fraction_text.nd rfl (Or.inl rfl)) pgs_nil))))
      (pss_cons (ps_if (pt_cmpR op_eq (pv 3) pe_int (nomark _)) (pss_one (ps_ret (pe_call G_integer_text (hr.mono (by decide)) (by rfl) D_integer_text.g D_integer_text.F.kp D_integer_text.b .nil pass0 (pa_cons (pv 2) pa_nil)))) pss_nil)
      (pss_one (ps_ret (pe_joined (.cons (pe_fmt (pe_call G_integer_text (hr.mono (by decide)) (by rfl) D_integer_text.g D_integer_text.F.kp D_integer_text.b .nil pass0 (pa_cons (pv 2) pa_nil))) (.cons pe_str (.cons (pe_fmt (pe_call G_integer_text (hr.mono (by decide)) (by rfl) D_integer_text.g D_integer_text.F.kp D_integer_text.b .nil pass0 (pa_cons (pv 3) pa_nil))) .nil)))))))), ?_⟩
    have g0 := fg_pos (i := i) hj
    have a1 : (i / fg i j).natAbs < 10 ^ 64 := Nat.lt_of_le_of_lt (div_le g0) hi
    have a2 : (j / fg i j).natAbs < 10 ^ 64 := Nat.lt_of_le_of_lt (div_le g0) hb
    refine ⟨_, rfl, _, rfl, i, j, rfl, hj, Nat.lt_trans hb (by decide +kernel), fun p hp => ?_⟩
    have s1 := Same.new (o := .tup [.int (i / fg i j), .int (j / fg i j)]) hp
    refine ⟨p, _, rfl, SqT.of upd_same, rfl, ?_⟩
    refine ⟨_, _, rfl, _, _, rfl, rfl, _, rfl, rfl, _, rfl, ite2 (fun e => ?_) (fun e => ?_)⟩
    · have e' : j / fg i j = 1 := by have := of_decide_eq_true e; injection this
      refine ⟨_, rfl, _, rfl, a1, fun H' s2 => ?_⟩
      have k' := k H' (s1.trans s2)
      rw [ftx, if_pos e'] at k'
      exact k'
    · have e' : ¬ j / fg i j = 1 := fun z => e (decide_eq_true (by rw [z]))
      have l1 := itx_len a1
      have l2 := itx_len a2
      refine ⟨_, rfl, _, rfl, a1, fun H1 s2 => .inl ⟨_, rfl, by rw [sizeLine_eq]; omega, _, rfl, ?_, _, rfl, ?_, _, rfl, _, rfl, a2, fun H2 s3 => .inl ⟨_, rfl, by rw [sizeLine_eq]; omega, _, rfl, ?_, ?_⟩⟩⟩
      · rw [empty_app, sizeLine_eq]; omega
      · rw [empty_app, PySem.Str.length_append, sizeLine_eq]
        have h1 : (Str.ofString "/").length = 1 := by decide +kernel
        omega
      · rw [empty_app, PySem.Str.length_append, PySem.Str.length_append, sizeLine_eq]
        have h1 : (Str.ofString "/").length = 1 := by decide +kernel
        omega
      · have k' := k H2 ((s1.trans s2).trans s3)
        rw [ftx, if_neg e'] at k'
        rw [empty_app]
        exact k'
/-! ### groups -/
/-- a tuple of texts at t -/
def spIsGroup (K : PySem.W.Frag) : Sp := fun vs H Q _ => ∃ (t g : Addr) (zs ys : List Str), vs = [.ref t, .ref g] ∧ H t = some (.tup (zs.map .str)) ∧ H g = some (.tup (ys.map .str)) ∧ (∀ y ∈ ys, y ∈ zs) ∧ ys.Pairwise (fun a b => a.cps.toList < b.cps.toList) ∧ ys.length ≤ 1000 ∧ ∀ H', Same H H' → Q (.bl true) H'
end
end V0

namespace V0
open PySem PySem.Spec PyProof.Rows L2
theorem walk_zipT {K : PySem.W.Frag} {a b : Addr} {xs ys : List V} {n : Nat} (hn : n = min xs.length ys.length) : Walk (RZ.ItzT K a b) n (fun H => SqT K H a xs ∧ SqT K H b ys) (YPair (fun i => xs[i]?) (fun i => ys[i]?)) := by
  refine ⟨fun i H hi q => ⟨xs, ys, xs[i]'(by omega), ys[i]'(by omega), q.1, q.2, List.getElem?_eq_getElem _, List.getElem?_eq_getElem _⟩, fun H q => ⟨xs, ys, q.1, q.2, by omega⟩, fun i H x H' _ q y => ?_⟩
  obtain ⟨T, u, v, e1, e2, e3, e4, e5⟩ := y
  exact ⟨T, u, v, e1, e2, e3, e4 xs q.1, e5 ys q.2⟩
theorem SqT.same' {K : PySem.W.Frag} {H H' : Hp} {a : Addr} {xs : List V} (h : SqT K H a xs) (e : Same H H') : SqT K H' a xs := SqT.same e h
theorem cut1 (xs : List V) : cutV xs (some 1) none = xs.drop 1 := by
  unfold cutV
  rw [show (1 : Int) = ((1 : Nat) : Int) from rfl, HT.sIx_nat, HT.sIx_none]
  rcases Nat.lt_or_ge xs.length 1 with h | h
  · have : xs = [] := List.length_eq_zero_iff.mp (by omega)
    rw [this]
    rfl
  · rw [Nat.min_eq_left h, List.take_of_length_le (by rw [List.length_drop]; omega)]
theorem inV_str (y : Str) : ∀ zs : List Str, inV (.str y) (zs.map .str) = decide (y ∈ zs)
  | [] => rfl
  | z :: zs => by
    have ih := inV_str y zs
    unfold inV at ih ⊢
    rw [List.map_cons, List.any_cons, ih]
    have e : eqV (.str z) (.str y) = decide (z = y) := by
      first | rfl | (unfold eqV; rfl) | (show decide (V.str z = V.str y) = _; exact decide_eq_decide.mpr ⟨fun q => by injection q, fun q => by rw [q]⟩)
    rw [e]
    by_cases h : z = y
    · subst h; simp
    · simp [h, Ne.symm h]
theorem flat_map (zs : List Str) : (zs.map V.str).all flatV = true := by
  rw [List.all_map, List.all_eq_true]
  intro z _
  rfl
section
variable {P : Program} {w : World} {K : PySem.W.Frag} {mg : Str → Option Value} {base : Heap}
abbrev s_is_group_of : Stmt := top 23
abbrev N_is_group_of : List Str := ["things", "value", "thing", "one", "other"]
abbrev P_is_group_of : List Str := ["things", "value"]
theorem sc_is_group_of : FnScope N_is_group_of P_is_group_of (defScope s_is_group_of) := ⟨rfl, rfl, rfl, by decide +kernel, rfl, by decide +kernel, by decide +kernel⟩
theorem ok_is_group {f : Addr} {fd : FuncData} (B : Bl mg) (M : Bm mg) (D : Df K mg "is_group_of" s_is_group_of P_is_group_of f fd) : FnOk P w K mg base CX0 1 f fd P_is_group_of (spIsGroup K) := by
  refine D.F.ok sc_is_group_of (fun vs H Q E h => ?_) (fun cdv A outer s H vs Q E hr h => ?_)
  · obtain ⟨t, g, zs, ys, rfl, _⟩ := h
    rfl
  · obtain ⟨t, g, zs, ys, rfl, ht, hg, hin, hpw, hlen, k⟩ := h
    refine ⟨_, (pss_cons (ps_if (pt_not (pt_val (pe_callB call_is (by rfl) B.b_isinstance (by decide +kernel) (pa_cons (pv 1) (pa_cons (pe_ty (n := "tuple") (by rfl) B.b_tuple (by decide +kernel)) pa_nil))))) (pss_one (ps_ret pe_bl)) pss_nil)
      (pss_cons (ps_if (pt_not (pt_val (pe_callB (cr_all rfl) (by rfl) B.b_all (by decide +kernel) (pa_cons (pe_lc (own := [("thing", 2)]) (g := gName 2) (tt := tYes) rfl sc_is_group_of.nd (pi_tup (pv 1)) (blkOk_by (own := [("thing", 2)]) (N := N_is_group_of) (sc := defScope s_is_group_of) (by decide +kernel)) (fun _ _ _ _ _ => (pg_name (i := 2) sc_is_group_of.nd rfl (Or.inl rfl))) (fun _ _ _ _ _ => pts_nil) (fun _ _ _ _ _ => (pe_and (pe_callB call_is (by rfl) B.b_isinstance (by decide +kernel) (pa_cons (pv 2) (pa_cons (pe_ty (n := "str") (by rfl) B.b_str (by decide +kernel)) pa_nil))) (pe_one (show PE _ _ (tOp (rIn K false) (tVar 2) (tVar 0)) from by exact (pe_cmpR op_in_seq (pv 2) (pv 0) (by rfl))))))) pa_nil)))) (pss_one (ps_ret pe_bl)) pss_nil)
      (pss_one (ps_ret (pe_callB (cr_all rfl) (by rfl) B.b_all (by decide +kernel) (pa_cons (pe_lc (own := [("one", 3), ("other", 4)]) (g := gTup K 2 (gCons (gName 3) (gCons (gName 4) (gNil)))) (tt := tYes) rfl sc_is_group_of.nd (RZ.pi_zipA (by rfl) M.b_zip (pa_cons (pv 1) (pa_cons (pe_slice sl_tupA (pv 1) (po_some pe_int) po_none) pa_nil))) (blkOk_by (own := [("one", 3), ("other", 4)]) (N := N_is_group_of) (sc := defScope s_is_group_of) (by decide +kernel)) (fun _ _ _ _ _ => (pg_tup rfl (pgs_cons (pg_name (i := 3) sc_is_group_of.nd rfl (Or.inl rfl)) (pgs_cons (pg_name (i := 4) sc_is_group_of.nd rfl (Or.inl rfl)) pgs_nil)))) (fun _ _ _ _ _ => pts_nil) (fun _ _ _ _ _ => (pe_cmpR op_lt_str (pv 3) (pv 4) (nomark _)))) pa_nil)))))), ?_⟩
    have hz : (1000 : Nat) ≤ sizeLine := by decide
    refine ⟨_, rfl, _, .tup, .tup, rfl, .tup hg, by decide, _, rfl, iteF ?_⟩
    refine ⟨_, rfl, g, rfl, ⟨_, SqT.of hg⟩, fun L hL => ?_⟩
    refine lc_it (walk_tup (xs := ys.map V.str)) (fun i H' => Same H H' ∧ H' L = some (.lst ((List.replicate i true).map V.bl))) ⟨Same.new hL, upd_same⟩ ?_ ?_ ?_
    · rintro i H' hi ⟨s1, _⟩
      exact SqT.of (s1 _ _ hg)
    · rintro i x H1 H2 hi ⟨s1, h1⟩ ⟨rfl, hx⟩
      rw [List.length_map] at hi
      rw [List.getElem?_map] at hx
      have hy : ys[i]? = some ys[i] := List.getElem?_eq_getElem hi
      rw [hy] at hx
      injection hx with hx
      subst hx
      refine ⟨rfl, _, rfl, _, .str, .str, rfl, .str _, by decide, _, rfl, iteT ⟨_, rfl, _, rfl, t, _, rfl, .inr (SqT.of (s1 _ _ ht)), rfl, flat_map zs, _, h1, ?_, ?_, ?_⟩⟩
      · rw [List.length_map, List.length_replicate]
        omega
      · exact fun b o e => by rw [upd_ne (ne_of_none e hL)]; exact s1 b o e
      · rw [upd_same, List.replicate_succ', List.map_append, inV_str, decide_eq_true (hin _ (List.getElem_mem hi))]
        rfl
    · rintro H1 ⟨s1, h1⟩
      have hg1 := s1 _ _ hg
      refine ⟨L, _, rfl, SqL.of h1, ?_⟩
      rw [List.length_map, show (List.replicate ys.length true).all id = true by simp]
      refine ⟨true, rfl, iteF ?_⟩
      -- the second half
      refine ⟨_, rfl, _, rfl, _, rfl, g, _, rfl, SqT.of hg1, fun e => ?_, fun _ b hb => ?_⟩
      · have e0 : ys = [] := by
          have e1 := e.1
          rw [show (1 : Int) = ((1 : Nat) : Int) from rfl, HT.sIx_nat, List.length_map] at e1
          exact List.length_eq_zero_iff.mp (by omega)
        subst e0
        refine ⟨g, g, [], [], rfl, .inr ⟨SqT.of hg1, SqT.of hg1, fun D hD => ?_⟩⟩
        refine lc_it (walk_zipT (xs := []) (ys := []) (n := 0) rfl) (fun i H' => Same H H' ∧ H' D = some (.lst [])) ⟨s1.trans (Same.new hD), upd_same⟩ (fun i H' _ ⟨s2, _⟩ => ⟨SqT.of (s2 _ _ hg), SqT.of (s2 _ _ hg)⟩) (fun i x H2 H3 hi _ _ => absurd hi (by omega)) ?_
        rintro H2 ⟨s2, h2⟩
        exact ⟨D, [], rfl, SqL.of h2, k H2 s2⟩
      · rw [cut1] at *
        have s2 := s1.trans (Same.new (o := .tup ((ys.map V.str).drop 1)) hb)
        have eb : (upd H1 b (.tup ((ys.map V.str).drop 1))) b = some (.tup ((ys.map V.str).drop 1)) := upd_same
        generalize upd H1 b (.tup ((ys.map V.str).drop 1)) = H2 at s2 eb
        refine ⟨g, b, _, _, rfl, .inr ⟨SqT.of (s2 _ _ hg), SqT.of eb, fun D hD => ?_⟩⟩
        refine lc_it (walk_zipT (xs := ys.map V.str) (ys := (ys.map V.str).drop 1) (n := ys.length - 1) (by rw [List.length_drop, List.length_map]; omega)) (fun i H' => Same H2 H' ∧ H' D = some (.lst ((List.replicate i true).map V.bl))) ⟨Same.new hD, upd_same⟩ (fun i H' _ ⟨s3, _⟩ => ⟨SqT.of (s3 _ _ (s2 _ _ hg)), SqT.of (s3 _ _ eb)⟩) ?_ ?_
        · rintro i x H3 H4 hi ⟨s3, h3⟩ ⟨T, u, v, rfl, hT, rfl, hu, hv⟩
          have i1 : i < ys.length := by omega
          have i2 : i + 1 < ys.length := by omega
          have hu' : u = .str ys[i] := by
            dsimp only at hu
            rw [List.getElem?_map, List.getElem?_eq_getElem i1] at hu
            injection hu with hu
            exact hu.symm
          have hv' : v = .str ys[i + 1] := by
            dsimp only at hv
            rw [List.getElem?_drop, List.getElem?_map, Nat.add_comm 1 i, List.getElem?_eq_getElem i2] at hv
            injection hv with hv
            exact hv.symm
          subst hu' hv'
          have hDT := ne_of_none h3 hT
          refine ⟨T, _, rfl, SqT.of upd_same, rfl, _, _, rfl, _, _, rfl, rfl, rfl, _, rfl, _, rfl, _, _, rfl, rfl, _, by rw [upd_ne hDT]; exact h3, ?_, ?_, ?_⟩
          · rw [List.length_map, List.length_replicate]
            omega
          · intro c o e
            rw [upd_ne (ne_of_none e hD), upd_ne (ne_of_none (s3 _ _ e) hT)]
            exact s3 c o e
          · rw [upd_same, List.replicate_succ', List.map_append, decide_eq_true (List.pairwise_iff_getElem.mp hpw i (i + 1) i1 i2 (Nat.lt_succ_self i))]
            rfl
        · rintro H3 ⟨s3, h3⟩
          refine ⟨D, _, rfl, SqL.of h3, ?_⟩
          rw [show (List.replicate (ys.length - 1) true).all id = true by simp]
          exact k H3 (s2.trans s3)
end
end V0

namespace V0
open PySem PySem.Spec PyProof.Rows L2
/-! ### charges as objects -/
structure Md (K : PySem.W.Frag) (qual name : Str) (C : Addr) (st : Stmt) (ps : List Str) (f : Addr) (fd : FuncData) : Prop where
  F : Fun K name qual st f fd
  b : Binds K fd ps []
  m : Meth K C name f
structure Pr (K : PySem.W.Frag) (qual name : Str) (C : Addr) (st : Stmt) (ps : List Str) (p f : Addr) (fd : FuncData) : Prop where
  F : Fun K name qual st f fd
  b : Binds K fd ps []
  pr : PropOf K C name p f
/-- the attributes of charges are told by no class -/
structure ChN (K : PySem.W.Frag) (C : Addr) : Prop where
  n1 : NoAttr K C "_things"
  n2 : NoAttr K C "_unit"
  n3 : NoAttr K C "_pays"
def chF (t d : Addr) (u : Int) : List (Str × V) := [("_things", .ref t), ("_unit", .int u), ("_pays", .ref d)]
def tupS (zs : List Str) : HO := .tup (zs.map .str)
/-- the charge at a pays ps, in units u -/
def ChAt (C : Addr) (H : Hp) (a : Addr) (ps : Bag) (u : Int) : Prop := ∃ dx t d, H a = some (.ins C dx (chF t d u)) ∧ H t = some (tupS (nms ps)) ∧ H d = some (.dK (kvs ps))
theorem ChAt.same {C a : Addr} {H H' : Hp} {ps : Bag} {u : Int} (h : ChAt C H a ps u) (s : Same H H') : ChAt C H' a ps u := by
  obtain ⟨dx, t, d, h1, h2, h3⟩ := h
  exact ⟨dx, t, d, s _ _ h1, s _ _ h2, s _ _ h3⟩
/-- what a group pays, in units -/
def sumB (ps : Bag) (zs : List Str) : Int := (zs.map (look ps)).sum
def spSum (C : Addr) : Sp := fun vs H Q _ => ∃ (a g : Addr) (ps : Bag) (u : Int) (zs : List Str), vs = [.ref a, .ref g] ∧ ChAt C H a ps u ∧ 0 < u ∧ u.natAbs < 2 ^ 3000 ∧ H g = some (tupS zs) ∧ (∀ z ∈ zs, z ∈ nms ps) ∧ zs.length ≤ 1000 ∧
  ∀ (p : Addr) (H' : Hp), Same H H' → H p = none → H' p = some (.tup [.int (sumB ps zs / fg (sumB ps zs) u), .int (u / fg (sumB ps zs) u)]) → Q (.ref p) H'
theorem none_up {H H' : Hp} {b : Addr} (s : Same H H') (h : H' b = none) : H b = none := by
  cases e : H b with
  | none => rfl
  | some o => rw [s b o e] at h; cases h
theorem take_map_succ {α β : Type} (f : α → β) {l : List α} {i : Nat} {x : α} (h : l[i]? = some x) : (l.take (i + 1)).map f = (l.take i).map f ++ [f x] := by
  rw [take_one h, List.map_append]
  rfl
section
variable {P : Program} {w : World} {K : PySem.W.Frag} {mg : Str → Option Value} {base : Heap} {C : Addr}
abbrev s_Chargesum : Stmt := inClass (top 25) 20
abbrev N_Chargesum : List Str := ["self", "group", "thing"]
abbrev P_Chargesum : List Str := ["self", "group"]
theorem sc_Chargesum : FnScope N_Chargesum P_Chargesum (defScope s_Chargesum) := ⟨rfl, rfl, rfl, by decide +kernel, rfl, by decide +kernel, by decide +kernel⟩
theorem ok_sum {f f1 : Addr} {fd fd1 : FuncData} (B : Bl mg) (CN : Nm mg) (KCharge : Kls K mg "Charge" C) (N : ChN K C) (D_reduced : Df K mg "reduced" s_reduced P_reduced f1 fd1) (Y : Md K "Charge._sum" "_sum" C s_Chargesum P_Chargesum f fd) :
    FnOk P w K mg base CX0 2 f fd P_Chargesum (spSum C) := by
  have G_reduced : FnOk P w K mg base CX0 1 f1 fd1 P_reduced spFr := ok_fr CN D_reduced
  refine Y.F.ok sc_Chargesum (fun vs H Q E h => ?_) (fun cdv A outer s H vs Q E hr h => ?_)
  · obtain ⟨a, g, ps, u, zs, rfl, _⟩ := h
    rfl
  · obtain ⟨a, g, ps, u, zs, rfl, ⟨dx, t, d, h1, h2, h3⟩, hu, hub, hg, hin, hlen, k⟩ := h
    refine ⟨_, (pss_one (ps_ret (pe_call G_reduced (hr.mono (by decide)) (by rfl) D_reduced.g D_reduced.F.kp D_reduced.b .nil pass0 (pa_cons (pe_callB (cr_sum rfl) (by rfl) B.b_sum (by decide +kernel) (pa_cons (pe_lc (own := [("thing", 2)]) (g := gName 2) (tt := tYes) rfl sc_Chargesum.nd (pi_tup (pv 1)) (blkOk_by (own := [("thing", 2)]) (N := N_Chargesum) (sc := defScope s_Chargesum) (by decide +kernel)) (fun _ _ _ _ _ => (pg_name (i := 2) sc_Chargesum.nd rfl (Or.inl rfl))) (fun _ _ _ _ _ => pts_nil) (fun _ _ _ _ _ => (show PE _ _ (tDGet (tFld K (tVar 0) "_pays") (tVar 2)) from by exact (pe_dget (hu_of hr) (pe_fld (pv 0) rfl) (pv 2) (fun _ _ => rfl))))) pa_nil)) (pa_cons (pe_fld (pv 0) rfl) pa_nil))))), ?_⟩
    have hz : (1000 : Nat) ≤ sizeLine := by decide
    refine ⟨_, rfl, g, rfl, ⟨_, SqT.of hg⟩, fun L hL => ?_⟩
    refine lc_it (walk_tup (xs := zs.map V.str)) (fun i H' => Same H H' ∧ H' L = some (.lst (((zs.take i).map (look ps)).map V.int))) ⟨Same.new hL, upd_same⟩ (fun i H' _ ⟨s1, _⟩ => SqT.of (s1 _ _ hg)) ?_ ?_
    · rintro i x H1 H2 hi ⟨s1, e1⟩ ⟨rfl, hx⟩
      rw [List.length_map] at hi
      have hy : zs[i]? = some zs[i] := List.getElem?_eq_getElem hi
      rw [List.getElem?_map, hy] at hx
      injection hx with hx
      subst hx
      refine ⟨rfl, _, rfl, a, C, dx, _, _, rfl, s1 _ _ h1, KCharge.cl, N.n3, rfl, _, rfl, d, _, rfl, DGet.bag (.inl (s1 _ _ h3)) (hin _ (List.getElem_mem hi)), _, e1, ?_, ?_, ?_⟩
      · rw [List.length_map, List.length_map, List.length_take]
        omega
      · exact fun b o e => by rw [upd_ne (ne_of_none e hL)]; exact s1 b o e
      · rw [upd_same, take_map_succ _ hy, List.map_append]
        rfl
    · rintro H1 ⟨s1, e1⟩
      rw [List.length_map, List.take_length] at e1
      refine ⟨L, _, rfl, SqL.of e1, _, rfl, a, C, dx, _, _, rfl, s1 _ _ h1, KCharge.cl, N.n2, rfl, _, _, rfl, hu, hub, fun p hp => ?_⟩
      exact k p _ (s1.trans (Same.new hp)) (none_up s1 hp) upd_same
end
end V0

namespace V0
open PySem PySem.Spec PyProof.Rows L2
theorem md_own {P : Program} {w : World} {K : PySem.W.Frag} {mg : Str → Option Value} {base : Heap} {CX : CXT} {k : Nat} {C f : Addr} {fd : FuncData} {qual name : Str} {st : Stmt} {ps : List Str} {sp : Sp} (Y : Md K qual name C st ps f fd) (G : FnOk P w K mg base CX k f fd ps sp) : OwnM P w K mg base CX k C name sp :=
  ⟨f, fd, ps, Y.m.at_, Y.m.fn, Y.b, G⟩
/-- a dict comprehension over a walk -/
theorem dc_it {J : It} {n : Nat} {G : Hp → Prop} {Y : Nat → Hp → V → Hp → Prop} (wk : Walk J n G Y) {g : TG} {tt : TT} {tk tv : TE} {vs : List Nat} {σ : L2.St} {H1 : Hp} {D : Addr} {Qd : Hp → Prop} (Pv : Nat → Hp → Prop) (h0 : Pv 0 (upd H1 D (.dK []))) (hG : ∀ i H, i ≤ n → Pv i H → G H)
    (hs : ∀ i x H H', i < n → Pv i H → Y i H x H' → g x (wipe σ vs) H' fun σ2 H2 => wipe σ2 vs = wipe σ vs ∧ tt σ2 H2 fun b H3 =>
      if b = true then tk σ2 H3 fun y H4 => tv σ2 H4 fun z H5 => ∃ kvs k, y = kV k ∧ H5 D = some (.dK kvs) ∧ kvs.length < sizeLine ∧ Pv (i + 1) (upd H5 D (.dK (putK kvs k z))) else Pv (i + 1) H3) (hd : ∀ H, Pv n H → Qd H) :
    ∃ W : Nat → Nat → Hp → Prop, (∃ m, W 0 m (upd H1 D (.dK []))) ∧ ∀ i m H, W i m H →
      (J.stop i H ∧ Qd H) ∨ (J.go i H ∧ ∃ Nx : Hp → Prop, (∀ H', Nx H' → ∃ m', m' < m ∧ W (i + 1) m' H') ∧ ∀ x H', J.yld i H x H' → g x (wipe σ vs) H' fun σ2 H2 => wipe σ2 vs = wipe σ vs ∧ tt σ2 H2 fun b H3 =>
        if b = true then tk σ2 H3 fun y H4 => tv σ2 H4 fun z H5 => ∃ kvs k, y = kV k ∧ H5 D = some (.dK kvs) ∧ kvs.length < sizeLine ∧ Nx (upd H5 D (.dK (putK kvs k z))) else Nx H3) := by
  refine ⟨fun i m H => i ≤ n ∧ m = n - i ∧ Pv i H, ⟨n, Nat.zero_le _, rfl, h0⟩, fun i m H ⟨hi, hm, p⟩ => ?_⟩
  rcases Nat.lt_or_ge i n with hlt | hge
  · exact .inr ⟨wk.goes i H hlt (hG i H hi p), Pv (i + 1), fun H' p' => ⟨n - (i + 1), by omega, hlt, rfl, p'⟩, fun x H' y => hs i x H H' hlt p (wk.yields i H x H' hlt (hG i H hi p) y)⟩
  · obtain rfl : i = n := by omega
    exact .inl ⟨wk.stops H (hG i H hi p), hd H p⟩
theorem putK_new {ps : Bag} {z : Str} {i : Int} (h : z ∉ nms ps) : putK (kvs ps) (.inr z) (.int i) = kvs (ps ++ [(z, i)]) := by
  unfold putK
  have e : ((kvs ps).any fun kv => decide (kv.1 = Sum.inr z)) = false := by
    refine Bool.eq_false_iff.mpr fun q => h ?_
    obtain ⟨kv, hk, e⟩ := List.any_eq_true.mp q
    obtain ⟨p, hp, rfl⟩ := List.mem_map.mp hk
    have e' := of_decide_eq_true e
    injection e' with e'
    exact List.mem_map.mpr ⟨p, hp, e'⟩
  rw [e, if_neg Bool.false_ne_true]
  unfold kvs
  rw [List.map_append]
  rfl
/-- the dict of some names, each with f of it -/
def bagOf (f : Str → Int) (zs : List Str) : Bag := zs.map fun z => (z, f z)
theorem bagOf_nms (f : Str → Int) (zs : List Str) : nms (bagOf f zs) = zs := by
  unfold nms bagOf
  rw [List.map_map]
  exact List.map_id zs
theorem bagOf_succ (f : Str → Int) {zs : List Str} {i : Nat} {z : Str} (nd : zs.Nodup) (h : zs[i]? = some z) : putK (kvs (bagOf f (zs.take i))) (.inr z) (.int (f z)) = kvs (bagOf f (zs.take (i + 1))) := by
  rw [putK_new]
  · rw [take_one h]
    unfold bagOf
    rw [List.map_append]
    rfl
  · rw [bagOf_nms]
    intro hm
    rw [← List.take_append_drop i zs] at nd
    have hd : z ∈ zs.drop i := by
      have : (zs.drop i)[0]? = some z := by rw [List.getElem?_drop]; simpa using h
      exact List.mem_of_getElem? this
    exact (List.nodup_append.mp nd).2.2 z hm z hd rfl
theorem bagOf_len (f : Str → Int) (zs : List Str) : (kvs (bagOf f zs)).length = zs.length := by
  unfold kvs bagOf
  rw [List.length_map, List.length_map]
/-! ### small promises -/
def spThings (C : Addr) : Sp := fun vs H Q _ => ∃ (a dx t d : Addr) (u : Int), vs = [.ref a] ∧ H a = some (.ins C dx (chF t d u)) ∧ Q (.ref t) H
def spUnit (C : Addr) : Sp := fun vs H Q _ => ∃ (a dx t d : Addr) (u : Int), vs = [.ref a] ∧ H a = some (.ins C dx (chF t d u)) ∧ Q (.int u) H
def spPays (C : Addr) : Sp := fun vs H Q _ => ∃ (a : Addr) (ps : Bag) (u : Int), vs = [.ref a] ∧ ChAt C H a ps u ∧ (nms ps).Nodup ∧ ps.length ≤ 1000 ∧ ∀ p, H p = none → Q (.ref p) (upd H p (.dK (kvs ps)))
def spTotal (C : Addr) : Sp := fun vs H Q _ => ∃ (a : Addr) (ps : Bag) (u : Int), vs = [.ref a] ∧ ChAt C H a ps u ∧ 0 < u ∧ u.natAbs < 2 ^ 3000 ∧ ps.length ≤ 1000 ∧
  ∀ (p : Addr) (H' : Hp), Same H H' → H p = none → H' p = some (.tup [.int (sumB ps (nms ps) / fg (sumB ps (nms ps)) u), .int (u / fg (sumB ps (nms ps)) u)]) → Q (.ref p) H'
/-- a group of the charge -/
structure Gp (zs ys : List Str) : Prop where
  sub : ∀ y ∈ ys, y ∈ zs
  asc : ys.Pairwise (fun a b => a.cps.toList < b.cps.toList)
  len : ys.length ≤ 1000
def spCheck (C : Addr) : Sp := fun vs H Q _ => ∃ (a g : Addr) (ps : Bag) (u : Int) (ys : List Str), vs = [.ref a, .ref g] ∧ ChAt C H a ps u ∧ H g = some (tupS ys) ∧ Gp (nms ps) ys ∧ ∀ H', Same H H' → Q .non H'
def inN (ps : Bag) : V → Bool
  | .str z => decide (z ∈ nms ps)
  | _ => false
def spCont (C : Addr) : Sp := fun vs H Q _ => ∃ (a : Addr) (ps : Bag) (u : Int) (x : V) (t : Kd), vs = [.ref a, x] ∧ ChAt C H a ps u ∧ Kn H x t ∧ Q (.bl (inN ps x)) H
def spLen (C : Addr) : Sp := fun vs H Q _ => ∃ (a : Addr) (ps : Bag) (u : Int), vs = [.ref a] ∧ ChAt C H a ps u ∧ ps.length ≤ 1000 ∧ Q (.int (ps.length : Nat)) H
def spItem (C : Addr) : Sp := fun vs H Q _ => ∃ (a : Addr) (ps : Bag) (u : Int) (z : Str), vs = [.ref a, .str z] ∧ ChAt C H a ps u ∧ 0 < u ∧ u.natAbs < 2 ^ 3000 ∧ z ∈ nms ps ∧
  ∀ p, H p = none → Q (.ref p) (upd H p (.tup [.int (look ps z / fg (look ps z) u), .int (u / fg (look ps z) u)]))
theorem nms_len (ps : Bag) : (nms ps).length = ps.length := by unfold nms; rw [List.length_map]
section
variable {P : Program} {w : World} {K : PySem.W.Frag} {mg : Str → Option Value} {base : Heap} {C : Addr}
abbrev s_Charge_things : Stmt := inClass (top 25) 1
abbrev N_Charge_things : List Str := ["self"]
abbrev P_Charge_things : List Str := ["self"]
theorem sc_Charge_things : FnScope N_Charge_things P_Charge_things (defScope s_Charge_things) := ⟨rfl, rfl, rfl, by decide +kernel, rfl, by decide +kernel, by decide +kernel⟩
theorem ok_things {p f : Addr} {fd : FuncData} (KCharge : Kls K mg "Charge" C) (N : ChN K C) (Y : Pr K "Charge.things" "things" C s_Charge_things P_Charge_things p f fd) : FnOk P w K mg base CX0 1 f fd P_Charge_things (spThings C) := by
  refine Y.F.ok sc_Charge_things (fun vs H Q E h => ?_) (fun cdv A outer s H vs Q E hr h => ?_)
  · obtain ⟨a, dx, t, d, u, rfl, _⟩ := h
    rfl
  · obtain ⟨a, dx, t, d, u, rfl, ha, k⟩ := h
    exact ⟨_, (pss_one (ps_ret (pe_fld (pv 0) rfl))), _, rfl, a, C, dx, _, _, rfl, ha, KCharge.cl, N.n1, rfl, k⟩
abbrev s_Charge_unit : Stmt := inClass (top 25) 2
abbrev N_Charge_unit : List Str := ["self"]
abbrev P_Charge_unit : List Str := ["self"]
theorem sc_Charge_unit : FnScope N_Charge_unit P_Charge_unit (defScope s_Charge_unit) := ⟨rfl, rfl, rfl, by decide +kernel, rfl, by decide +kernel, by decide +kernel⟩
theorem ok_unit {p f : Addr} {fd : FuncData} (KCharge : Kls K mg "Charge" C) (N : ChN K C) (Y : Pr K "Charge.unit" "unit" C s_Charge_unit P_Charge_unit p f fd) : FnOk P w K mg base CX0 1 f fd P_Charge_unit (spUnit C) := by
  refine Y.F.ok sc_Charge_unit (fun vs H Q E h => ?_) (fun cdv A outer s H vs Q E hr h => ?_)
  · obtain ⟨a, dx, t, d, u, rfl, _⟩ := h
    rfl
  · obtain ⟨a, dx, t, d, u, rfl, ha, k⟩ := h
    exact ⟨_, (pss_one (ps_ret (pe_fld (pv 0) rfl))), _, rfl, a, C, dx, _, _, rfl, ha, KCharge.cl, N.n2, rfl, k⟩
abbrev s_Charge_pays : Stmt := inClass (top 25) 3
abbrev N_Charge_pays : List Str := ["self", "thing"]
abbrev P_Charge_pays : List Str := ["self"]
theorem sc_Charge_pays : FnScope N_Charge_pays P_Charge_pays (defScope s_Charge_pays) := ⟨rfl, rfl, rfl, by decide +kernel, rfl, by decide +kernel, by decide +kernel⟩
theorem ok_pays {p f : Addr} {fd : FuncData} (KCharge : Kls K mg "Charge" C) (N : ChN K C) (Y : Pr K "Charge.pays" "pays" C s_Charge_pays P_Charge_pays p f fd) : FnOk P w K mg base CX0 1 f fd P_Charge_pays (spPays C) := by
  refine Y.F.ok sc_Charge_pays (fun vs H Q E h => ?_) (fun cdv A outer s H vs Q E hr h => ?_)
  · obtain ⟨a, ps, u, rfl, _⟩ := h
    rfl
  · obtain ⟨a, ps, u, rfl, ⟨dx, t, d, h1, h2, h3⟩, nd, hlen, k⟩ := h
    refine ⟨_, (pss_one (ps_ret (pe_dc (own := [("thing", 1)]) (g := gName 1) (tt := tYes) rfl sc_Charge_pays.nd (pi_tup (pe_fld (pv 0) rfl)) (blkOk_by (own := [("thing", 1)]) (N := N_Charge_pays) (sc := defScope s_Charge_pays) (by decide +kernel)) (fun _ _ _ _ _ => (pg_name (i := 1) sc_Charge_pays.nd rfl (Or.inl rfl))) (fun _ _ _ _ _ => pts_nil) (fun _ _ _ _ _ => (pv 1)) (fun _ _ _ _ _ => (show PE _ _ (tDGet (tFld K (tVar 0) "_pays") (tVar 1)) from by exact (pe_dget (hu_of hr) (pe_fld (pv 0) rfl) (pv 1) (fun _ _ => rfl))))))), ?_⟩
    have hz : (1000 : Nat) ≤ sizeLine := by decide
    refine ⟨_, rfl, a, C, dx, _, _, rfl, h1, KCharge.cl, N.n1, rfl, t, rfl, ⟨_, SqT.of h2⟩, fun D hD => ?_⟩
    refine dc_it (walk_tup (xs := (nms ps).map V.str)) (fun i H' => H' = upd H D (.dK (kvs (bagOf (look ps) ((nms ps).take i))))) rfl (fun i H' _ e => by rw [e]; exact SqT.of (Same.new hD _ _ h2)) ?_ ?_
    · rintro i x H1 H2 hi rfl ⟨rfl, hx⟩
      rw [List.length_map] at hi
      have hy : (nms ps)[i]? = some (nms ps)[i] := List.getElem?_eq_getElem hi
      rw [List.getElem?_map, hy] at hx
      injection hx with hx
      subst hx
      have s1 := Same.new (o := .dK (kvs (bagOf (look ps) ((nms ps).take i)))) hD
      refine ⟨rfl, _, rfl, _, rfl, a, C, dx, _, _, rfl, s1 _ _ h1, KCharge.cl, N.n3, rfl, _, rfl, d, _, rfl, DGet.bag (.inl (s1 _ _ h3)) (List.getElem_mem hi), _, .inr _, rfl, upd_same, ?_, ?_⟩
      · rw [bagOf_len, List.length_take]
        rw [nms_len] at hi ⊢
        omega
      · rw [upd_upd, bagOf_succ _ nd hy]
    · rintro H1 rfl
      rw [List.length_map, List.take_length, show bagOf (look ps) (nms ps) = ps from look_self nd]
      exact k D hD
abbrev s_Chargecheck_group : Stmt := inClass (top 25) 19
abbrev N_Chargecheck_group : List Str := ["self", "group"]
abbrev P_Chargecheck_group : List Str := ["self", "group"]
theorem sc_Chargecheck_group : FnScope N_Chargecheck_group P_Chargecheck_group (defScope s_Chargecheck_group) := ⟨rfl, rfl, rfl, by decide +kernel, rfl, by decide +kernel, by decide +kernel⟩
theorem ok_check {f f1 : Addr} {fd fd1 : FuncData} (B : Bl mg) (M : Bm mg) (KCharge : Kls K mg "Charge" C) (N : ChN K C) (D_is_group_of : Df K mg "is_group_of" s_is_group_of P_is_group_of f1 fd1) (Y : Md K "Charge._check_group" "_check_group" C s_Chargecheck_group P_Chargecheck_group f fd) :
    FnOk P w K mg base CX0 2 f fd P_Chargecheck_group (spCheck C) := by
  have G_is_group_of : FnOk P w K mg base CX0 1 f1 fd1 P_is_group_of (spIsGroup K) := ok_is_group B M D_is_group_of
  refine Y.F.ok sc_Chargecheck_group (fun vs H Q E h => ?_) (fun cdv A outer s H vs Q E hr h => ?_)
  · obtain ⟨a, g, ps, u, ys, rfl, _⟩ := h
    rfl
  · obtain ⟨a, g, ps, u, ys, rfl, ⟨dx, t, d, h1, h2, h3⟩, hg, gp, k⟩ := h
    refine ⟨_, (pss_one (ps_if (pt_not (pt_val (pe_call G_is_group_of (hr.mono (by decide)) (by rfl) D_is_group_of.g D_is_group_of.F.kp D_is_group_of.b .nil pass0 (pa_cons (pe_fld (pv 0) rfl) (pa_cons (pv 1) pa_nil))))) (pss_one ps_never) pss_nil)), ?_⟩
    exact ⟨_, rfl, a, C, dx, _, _, rfl, h1, KCharge.cl, N.n1, rfl, _, rfl, t, g, _, _, rfl, h2, hg, gp.sub, gp.asc, gp.len, fun H' s1 => ⟨true, rfl, iteF (k H' s1)⟩⟩
abbrev s_Charge_contains : Stmt := inClass (top 25) 13
abbrev N_Charge_contains : List Str := ["self", "value"]
abbrev P_Charge_contains : List Str := ["self", "value"]
theorem sc_Charge_contains : FnScope N_Charge_contains P_Charge_contains (defScope s_Charge_contains) := ⟨rfl, rfl, rfl, by decide +kernel, rfl, by decide +kernel, by decide +kernel⟩
theorem ok_cont {f : Addr} {fd : FuncData} (B : Bl mg) (KCharge : Kls K mg "Charge" C) (N : ChN K C) (Y : Md K "Charge.__contains__" "__contains__" C s_Charge_contains P_Charge_contains f fd) : FnOk P w K mg base CX0 1 f fd P_Charge_contains (spCont C) := by
  refine Y.F.ok sc_Charge_contains (fun vs H Q E h => ?_) (fun cdv A outer s H vs Q E hr h => ?_)
  · obtain ⟨a, ps, u, x, t, rfl, _⟩ := h
    rfl
  · obtain ⟨a, ps, u, x, t, rfl, ⟨dx, tt, d, h1, h2, h3⟩, hk, k⟩ := h
    refine ⟨_, (pss_one (ps_ret (pe_and (pe_callB call_is (by rfl) B.b_isinstance (by decide +kernel) (pa_cons (pv 1) (pa_cons (pe_ty (n := "str") (by rfl) B.b_str (by decide +kernel)) pa_nil))) (pe_one (pe_cmpR op_in_seq (pv 1) (pe_fld (pv 0) rfl) (by rfl)))))), ?_⟩
    refine ⟨_, rfl, x, t, .str, rfl, hk, by decide, _, rfl, ?_⟩
    cases hk with
    | str z =>
      refine iteT ⟨_, rfl, _, rfl, a, C, dx, _, _, rfl, h1, KCharge.cl, N.n1, rfl, tt, _, rfl, .inr (SqT.of h2), rfl, flat_map _, ?_⟩
      rw [inV_str]
      exact k
    | _ => exact iteF k
abbrev s_Charge_len : Stmt := inClass (top 25) 14
abbrev N_Charge_len : List Str := ["self"]
abbrev P_Charge_len : List Str := ["self"]
theorem sc_Charge_len : FnScope N_Charge_len P_Charge_len (defScope s_Charge_len) := ⟨rfl, rfl, rfl, by decide +kernel, rfl, by decide +kernel, by decide +kernel⟩
theorem ok_len {f : Addr} {fd : FuncData} (B : Bl mg) (KCharge : Kls K mg "Charge" C) (N : ChN K C) (Y : Md K "Charge.__len__" "__len__" C s_Charge_len P_Charge_len f fd) : FnOk P w K mg base CX0 1 f fd P_Charge_len (spLen C) := by
  refine Y.F.ok sc_Charge_len (fun vs H Q E h => ?_) (fun cdv A outer s H vs Q E hr h => ?_)
  · obtain ⟨a, ps, u, rfl, _⟩ := h
    rfl
  · obtain ⟨a, ps, u, rfl, ⟨dx, t, d, h1, h2, h3⟩, hlen, k⟩ := h
    refine ⟨_, (pss_one (ps_ret (pe_callB call_len (by rfl) B.b_len (by decide +kernel) (pa_cons (pe_fld (pv 0) rfl) pa_nil)))), ?_⟩
    exact ⟨_, rfl, a, C, dx, _, _, rfl, h1, KCharge.cl, N.n1, rfl, _, ps.length, rfl, .inr ⟨_, SqT.of h2, by rw [List.length_map, nms_len]⟩, k⟩
end
end V0

namespace V0
open PySem PySem.Spec PyProof.Rows L2
/-- are two dicts of ints equal, by their entries -/
def eqBg (ps qs : Bag) : Bool := decide (ps.length = qs.length) && ps.all fun p => decide (p.1 ∈ nms qs) && decide (p.2 = look qs p.1)
theorem eqBg_self {ps : Bag} (nd : (nms ps).Nodup) : eqBg ps ps = true := by
  unfold eqBg
  rw [decide_eq_true rfl, Bool.true_and, List.all_eq_true]
  intro p hp
  rw [decide_eq_true (show p.1 ∈ nms ps from List.mem_map.mpr ⟨p, hp, rfl⟩), decide_eq_true (look_of nd (z := p.1) (i := p.2) hp).symm]
  rfl
theorem eqBg_len {ps qs : Bag} (h : ps.length ≠ qs.length) : eqBg ps qs = false := by
  unfold eqBg
  rw [decide_eq_false h, Bool.false_and]
theorem eqBg_names {ps qs : Bag} (nd : (nms ps).Nodup) (hn : nms ps = nms qs) (h : eqBg ps qs = true) : ps = qs := by
  unfold eqBg at h
  have h2 := List.all_eq_true.mp (Bool.and_eq_true_iff.mp h).2
  rw [← look_self nd, ← look_self (ps := qs) (hn ▸ nd), ← hn]
  refine List.map_congr_left fun z hz => ?_
  have q := h2 _ (look_mem hz)
  have q2 := of_decide_eq_true (Bool.and_eq_true_iff.mp q).2
  show (z, look ps z) = (z, look qs z)
  rw [show look ps z = look qs z from q2]
theorem hits_bag {A : Around} {s : Shared} {qs : Bag} {vb : List (Key × Value)} (rb : KV (kvs qs) vb) : ∀ {ps : Bag} {va : List (Key × Value)}, KV (kvs ps) va → PySem.W.KeqHits A s vb va (ps.all fun p => decide (p.1 ∈ nms qs) && decide (p.2 = look qs p.1))
  | [], _, .nil => .nil
  | p :: ps, _, @Paired.cons _ _ _ _ (k, v) _ _ ⟨h1, h2⟩ t => by
    have h1' : Sum.inr p.1 = k := h1
    subst h1'
    rw [List.all_cons]
    have vv := rb.val (Sum.inr p.1)
    by_cases hm : p.1 ∈ nms qs
    · rw [decide_eq_true hm, Bool.true_and]
      rw [valV_in hm] at vv
      obtain ⟨y, hy, ry⟩ := RelO.some_of vv
      have e := eqAt_V (A := A) (s := s) h2 ry rfl rfl
      refine .hit hy ?_ (hits_bag rb t)
      have e2 : eqV (.int p.2) (.int (look qs p.1)) = decide (p.2 = look qs p.1) := by
        first | rfl | (show decide (V.int p.2 = V.int (look qs p.1)) = _; exact decide_eq_decide.mpr ⟨fun q => by injection q, fun q => by rw [q]⟩)
      rw [← e2]
      exact e
    · rw [decide_eq_false hm, Bool.false_and, Bool.false_and]
      rw [valV_out hm] at vv
      cases e : valueAt vb (Sum.inr p.1) with
      | none => exact .miss e
      | some y => rw [e] at vv; exact (show False from vv).elim
def rEqBag (neg : Bool) : R2 := fun x y H Q => ∃ (a b : Addr) (ps qs : Bag), x = .ref a ∧ y = .ref b ∧ H a = some (.dK (kvs ps)) ∧ H b = some (.dK (kvs qs)) ∧ Q (.bl (if neg then !eqBg ps qs else eqBg ps qs)) H
theorem op_eqBag {X : Cx} (hu : X.A.units < cLine) : OpR X (compareOp .Eq) (rEqBag false) := by
  intro pins s σ H x y v u Q I rx ry h
  obtain ⟨a, b, ps, qs, rfl, rfl, ea, eb, q⟩ := h
  obtain rfl : v = Value.ref a := rx
  obtain rfl : u = Value.ref b := ry
  obtain ⟨_, ya, va, ra, da⟩ := (show ObjOk X.prog X.w H s.heap a (.dK (kvs ps)) from I.hok a _ ea)
  obtain ⟨_, yb, vb, rb, db⟩ := (show ObjOk X.prog X.w H s.heap b (.dK (kvs qs)) from I.hok b _ eb)
  refine PySem.W.keq_eq (knd := mixKind X.prog X.w) ya yb da db hu (fun _ => hits_bag rb ra) (fin_bl I q ?_)
  have hl : (va.length == vb.length) = decide (ps.length = qs.length) := by
    rw [← ra.length, ← rb.length, kvs_len, kvs_len]
    rfl
  rw [hl]
  rfl
/-! ### == of charges -/
/-- what a charge is compared with -/
def Eqd (K : PySem.W.Frag) (C : Addr) (H : Hp) (ps : Bag) (u : Int) (y : V) (b : Bool) : Prop :=
  (∃ t : Kd, TyX K H y (.type t.nm) ∧ b = false) ∨ ∃ c qs v, y = .ref c ∧ ChAt C H c qs v ∧ b = (decide (u = v) && eqBg ps qs)
def spEq (K : PySem.W.Frag) (C : Addr) : Sp := fun vs H Q _ => ∃ (a : Addr) (ps : Bag) (u : Int) (y : V) (b : Bool), vs = [.ref a, y] ∧ ChAt C H a ps u ∧ Eqd K C H ps u y b ∧ Q (.bl b) H
section
variable {P : Program} {w : World} {K : PySem.W.Frag} {mg : Str → Option Value} {base : Heap} {C : Addr}
abbrev s_Charge_eq : Stmt := inClass (top 25) 16
abbrev N_Charge_eq : List Str := ["self", "other"]
abbrev P_Charge_eq : List Str := ["self", "other"]
theorem sc_Charge_eq : FnScope N_Charge_eq P_Charge_eq (defScope s_Charge_eq) := ⟨rfl, rfl, rfl, by decide +kernel, rfl, by decide +kernel, by decide +kernel⟩
theorem ok_eq {f : Addr} {fd : FuncData} (B : Bl mg) (KCharge : Kls K mg "Charge" C) (N : ChN K C) (Y : Md K "Charge.__eq__" "__eq__" C s_Charge_eq P_Charge_eq f fd) : FnOk P w K mg base CX0 1 f fd P_Charge_eq (spEq K C) := by
  refine Y.F.ok sc_Charge_eq (fun vs H Q E h => ?_) (fun cdv A outer s H vs Q E hr h => ?_)
  · obtain ⟨a, ps, u, y, b, rfl, _⟩ := h
    rfl
  · obtain ⟨a, ps, u, y, b, rfl, ⟨dx, t, d, h1, h2, h3⟩, hy, k⟩ := h
    refine ⟨_, (pss_one (ps_ret (pe_and (pe_callB call_isi (by rfl) B.b_isinstance (by decide +kernel) (pa_cons (pv 1) (pa_cons (pe_gv rfl KCharge.gv) pa_nil))) (pe_and (pe_cmpR op_eq (pe_fld (pv 0) rfl) (pe_fld (pv 1) rfl) (nomark _)) (pe_one (pe_cmpR (op_eqBag (Nat.lt_of_le_of_lt (Nat.le_add_right _ _) (hu_of hr))) (pe_fld (pv 0) rfl) (pe_fld (pv 1) rfl) (nomark _))))))), ?_⟩
    rcases hy with ⟨tt, ty, rfl⟩ | ⟨c, qs, v, rfl, ⟨dx', t', d', g1, g2, g3⟩, rfl⟩
    · exact ⟨_, rfl, y, _, _, _, _, rfl, .own C, ty, KCharge.kd tt, _, rfl, iteF k⟩
    · refine ⟨_, rfl, _, _, _, _, _, rfl, .own C, KCharge.ins g1, Kls.self, _, rfl, iteT ?_⟩
      refine ⟨_, rfl, a, C, dx, _, _, rfl, h1, KCharge.cl, N.n2, rfl, _, rfl, c, C, dx', _, _, rfl, g1, KCharge.cl, N.n2, rfl, rfl, _, rfl, ite2 (fun e => ?_) (fun e => ?_)⟩
      · have e' : u = v := by have := of_decide_eq_true e; injection this
        refine ⟨_, rfl, a, C, dx, _, _, rfl, h1, KCharge.cl, N.n3, rfl, _, rfl, c, C, dx', _, _, rfl, g1, KCharge.cl, N.n3, rfl, d, d', ps, qs, rfl, rfl, h3, g3, ?_⟩
        rw [decide_eq_true e', Bool.true_and] at k
        exact k
      · have e' : ¬ u = v := fun z => e (decide_eq_true (by rw [z]))
        rw [decide_eq_false e', Bool.false_and] at k
        exact k
abbrev s_Charge_total : Stmt := inClass (top 25) 4
abbrev N_Charge_total : List Str := ["self"]
abbrev P_Charge_total : List Str := ["self"]
theorem sc_Charge_total : FnScope N_Charge_total P_Charge_total (defScope s_Charge_total) := ⟨rfl, rfl, rfl, by decide +kernel, rfl, by decide +kernel, by decide +kernel⟩
theorem ok_total {p f f1 f2 : Addr} {fd fd1 fd2 : FuncData} (B : Bl mg) (CN : Nm mg) (KCharge : Kls K mg "Charge" C) (N : ChN K C) (D_reduced : Df K mg "reduced" s_reduced P_reduced f1 fd1) (Y_Chargesum : Md K "Charge._sum" "_sum" C s_Chargesum P_Chargesum f2 fd2)
    (Y : Pr K "Charge.total" "total" C s_Charge_total P_Charge_total p f fd) : FnOk P w K mg base CX0 3 f fd P_Charge_total (spTotal C) := by
  have G_Chargesum : FnOk P w K mg base CX0 2 f2 fd2 P_Chargesum (spSum C) := ok_sum B CN KCharge N D_reduced Y_Chargesum
  refine Y.F.ok sc_Charge_total (fun vs H Q E h => ?_) (fun cdv A outer s H vs Q E hr h => ?_)
  · obtain ⟨a, ps, u, rfl, _⟩ := h
    rfl
  · obtain ⟨a, ps, u, rfl, ⟨dx, t, d, h1, h2, h3⟩, hu, hub, hlen, k⟩ := h
    refine ⟨_, (pss_one (ps_ret (pe_meth (pv 0) KCharge.cl Y_Chargesum.m G_Chargesum (hr.mono (by decide)) Y_Chargesum.b .nil pass0 (pa_cons (pe_fld (pv 0) rfl) pa_nil)))), ?_⟩
    exact ⟨_, rfl, a, dx, _, rfl, h1, rfl, _, rfl, a, C, dx, _, _, rfl, h1, KCharge.cl, N.n1, rfl, a, t, ps, u, nms ps, rfl, ⟨dx, t, d, h1, h2, h3⟩, hu, hub, h2, fun _ h => h, by rw [nms_len]; exact hlen, k⟩
def spOf (C : Addr) : Sp := fun vs H Q _ => ∃ (a g : Addr) (ps : Bag) (u : Int) (zs : List Str), vs = [.ref a, .ref g] ∧ ChAt C H a ps u ∧ 0 < u ∧ u.natAbs < 2 ^ 3000 ∧ H g = some (tupS zs) ∧ Gp (nms ps) zs ∧
  ∀ (p : Addr) (H' : Hp), Same H H' → H p = none → H' p = some (.tup [.int (sumB ps zs / fg (sumB ps zs) u), .int (u / fg (sumB ps zs) u)]) → Q (.ref p) H'
abbrev s_Charge_of : Stmt := inClass (top 25) 5
abbrev N_Charge_of : List Str := ["self", "group"]
abbrev P_Charge_of : List Str := ["self", "group"]
theorem sc_Charge_of : FnScope N_Charge_of P_Charge_of (defScope s_Charge_of) := ⟨rfl, rfl, rfl, by decide +kernel, rfl, by decide +kernel, by decide +kernel⟩
theorem ok_of {f f1 f2 f3 f4 : Addr} {fd fd1 fd2 fd3 fd4 : FuncData} (B : Bl mg) (M : Bm mg) (CN : Nm mg) (KCharge : Kls K mg "Charge" C) (N : ChN K C) (D_reduced : Df K mg "reduced" s_reduced P_reduced f1 fd1) (Y_Chargesum : Md K "Charge._sum" "_sum" C s_Chargesum P_Chargesum f2 fd2)
    (D_is_group_of : Df K mg "is_group_of" s_is_group_of P_is_group_of f3 fd3) (Y_Chargecheck_group : Md K "Charge._check_group" "_check_group" C s_Chargecheck_group P_Chargecheck_group f4 fd4)
    (Y : Md K "Charge.of" "of" C s_Charge_of P_Charge_of f fd) : FnOk P w K mg base CX0 3 f fd P_Charge_of (spOf C) := by
  have G_Chargesum : FnOk P w K mg base CX0 2 f2 fd2 P_Chargesum (spSum C) := ok_sum B CN KCharge N D_reduced Y_Chargesum
  have G_Chargecheck_group : FnOk P w K mg base CX0 2 f4 fd4 P_Chargecheck_group (spCheck C) := ok_check B M KCharge N D_is_group_of Y_Chargecheck_group
  refine Y.F.ok sc_Charge_of (fun vs H Q E h => ?_) (fun cdv A outer s H vs Q E hr h => ?_)
  · obtain ⟨a, g, ps, u, zs, rfl, _⟩ := h
    rfl
  · obtain ⟨a, g, ps, u, zs, rfl, hc, hu, hub, hg, gp, k⟩ := h
    obtain ⟨dx, t, d, h1, h2, h3⟩ := id hc
    refine ⟨_, (pss_cons (ps_expr (pe_meth (pv 0) KCharge.cl Y_Chargecheck_group.m G_Chargecheck_group (hr.mono (by decide)) Y_Chargecheck_group.b .nil pass0 (pa_cons (pv 1) pa_nil)))
      (pss_one (ps_ret (pe_meth (pv 0) KCharge.cl Y_Chargesum.m G_Chargesum (hr.mono (by decide)) Y_Chargesum.b .nil pass0 (pa_cons (pv 1) pa_nil))))), ?_⟩
    refine ⟨_, rfl, a, dx, _, rfl, h1, rfl, _, rfl, a, g, ps, u, zs, rfl, hc, hg, gp, fun H1 s1 => ?_⟩
    exact ⟨_, rfl, a, dx, _, rfl, s1 _ _ h1, rfl, _, rfl, a, g, ps, u, zs, rfl, hc.same s1, hu, hub, s1 _ _ hg, gp.sub, gp.len, fun p H' s2 hp e => k p H' (s1.trans s2) (none_up s1 hp) e⟩
abbrev s_Charge_getitem : Stmt := inClass (top 25) 12
abbrev N_Charge_getitem : List Str := ["self", "thing"]
abbrev P_Charge_getitem : List Str := ["self", "thing"]
theorem sc_Charge_getitem : FnScope N_Charge_getitem P_Charge_getitem (defScope s_Charge_getitem) := ⟨rfl, rfl, rfl, by decide +kernel, rfl, by decide +kernel, by decide +kernel⟩
theorem ok_item {f f1 f2 : Addr} {fd fd1 fd2 : FuncData} (B : Bl mg) (CN : Nm mg) (KCharge : Kls K mg "Charge" C) (N : ChN K C) (D_reduced : Df K mg "reduced" s_reduced P_reduced f1 fd1) (Y_cont : Md K "Charge.__contains__" "__contains__" C s_Charge_contains P_Charge_contains f2 fd2)
    (Y : Md K "Charge.__getitem__" "__getitem__" C s_Charge_getitem P_Charge_getitem f fd) : FnOk P w K mg base CX0 2 f fd P_Charge_getitem (spItem C) := by
  have G_reduced : FnOk P w K mg base CX0 1 f1 fd1 P_reduced spFr := ok_fr CN D_reduced
  have O_cont : OwnM P w K mg base CX0 1 C "__contains__" (spCont C) := md_own Y_cont (ok_cont B KCharge N Y_cont)
  refine Y.F.ok sc_Charge_getitem (fun vs H Q E h => ?_) (fun cdv A outer s H vs Q E hr h => ?_)
  · obtain ⟨a, ps, u, z, rfl, _⟩ := h
    rfl
  · obtain ⟨a, ps, u, z, rfl, hc, hu, hub, hz, k⟩ := h
    obtain ⟨dx, t, d, h1, h2, h3⟩ := id hc
    refine ⟨_, (pss_cons (ps_if (pt_cmpR (op_notInO O_cont (hr.mono (by decide)) pass0) (pv 1) (pv 0) (by rfl)) (pss_one ps_never) pss_nil)
      (pss_one (ps_ret (pe_call G_reduced (hr.mono (by decide)) (by rfl) D_reduced.g D_reduced.F.kp D_reduced.b .nil pass0 (pa_cons (pe_dget (hu_of hr) (pe_fld (pv 0) rfl) (pv 1) (fun _ _ => rfl)) (pa_cons (pe_fld (pv 0) rfl) pa_nil)))))), ?_⟩
    refine ⟨_, rfl, _, rfl, a, dx, _, rfl, h1, a, ps, u, _, .str, rfl, hc, .str z, _, rfl, _, rfl, ?_⟩
    rw [show inN ps (.str z) = true from decide_eq_true hz]
    refine iteF ?_
    exact ⟨_, rfl, a, C, dx, _, _, rfl, h1, KCharge.cl, N.n3, rfl, _, rfl, d, _, rfl, DGet.bag (.inl h3) hz, _, rfl, a, C, dx, _, _, rfl, h1, KCharge.cl, N.n2, rfl, _, _, rfl, hu, hub, k⟩
end
end V0

namespace V0
open PySem PySem.Spec PyProof.Rows L2
/-! ### the law's call, where it is known that no repr is under way -/
section
variable {P : Program} {w : World} {K : PySem.W.Frag} {mg mb : Str → Option Value}
/-- a body that is right at one place is right when the def is called there -/
theorem runs_at {base : Heap} {k : Nat} {f : Addr} {fd : FuncData} {x qual : Str} {st : Stmt} {N ps : List Str} {A : Around} {outer : List Env} {s : Shared} {H : Hp} {args : Args} {us : List Value} {vs : List V} {Q : VK}
    (F : Fun K x qual st f fd) (S : FnScope N ps (defScope st)) (hr : Room (k + 1) A) (e0 : Env0 P w K mg base A outer s H) (hb : BindsTo s fd args (ps.zip us)) (r : Vals vs us) (hl : vs.length = ps.length)
    (body : ∀ cdv : Value, Room k (A.deeper (envOfC qual (defScope st) s.heap.objs.size f cdv)) → ∃ t, PSs (cxOf CX0 P w K mg base N qual (defScope st) f cdv A outer s H E0).nox (defBody st) t ∧ t { nx := fun _ H' => Q .non H', rt := Q } (L2.start N vs) H) :
    codeAny (model P w) A (.call (.ref f) args) (CR CX0 outer P w H s Q E0) s := by
  obtain ⟨oc, od, kV, doc, pm, an, cdv, ct, osl, rfl, lk, hcd⟩ := F.ex
  have inBase : ∀ b o, base.get? b = some o → s.heap.get? b = some o := fun b o z => (e0.bs b o z).1
  have hK : K.In s.heap := e0.mod.kin.keeps inBase
  refine codeAny_call_function hr.depth (hK _ _ lk) rfl S.co S.gen rfl (PySem.W.codeRec_of hK hcd) (hb _ _ _ _ ?_)
  refine wpAny_newFunctionEnv_cells S.kind (fun ⟨n, v⟩ hy => ?_) fun env he s1 C => ?_
  · rcases S.par n (List.of_mem_zip hy).1 with q | q
    · exact .inl q
    · exact .inr ⟨q, PySem.W.cellsFrom_some _ _ _ (.inl q)⟩
  subst he
  refine ⟨(e0.mod.nolimit.keeps inBase).keeps C.toInCall.keep, codeAny_func ?_⟩
  obtain ⟨t, ht, hq⟩ := body cdv (hr.deeper _)
  have I := inv_start (CX := CX0) (P := P) (w := w) (K := K) (mg := mg) (E := E0) (N := N) S hr.hd e0 hl r C
  refine wpAny_mono (ht.nox.run [] s1 _ H _ I hq) (fun fl s' hs => ?_) fun e s' hs => hs
  cases fl with
  | ret u => exact let ⟨v, _, H', J, rv, q⟩ := hs; ⟨v, H', J.os, J.bare, J.base, J.hok, rv, q⟩
  | next => exact let ⟨_, H', J, q⟩ := hs; ⟨.non, H', J.os, J.bare, J.base, J.hok, rfl, q⟩
  | brk => exact let ⟨_, _, _, q⟩ := hs; q.elim
  | cont => exact let ⟨_, _, _, q⟩ := hs; q.elim
end
end V0

namespace V0
open PySem PySem.Spec PyProof.Rows L2
/-- what a charge keeps of the dict that it is made of -/
def chB (zs : List Str) (qs : Bag) (u : Int) : Bag := bagOf (fun z => look qs z / (gcdB u qs : Int)) zs
/-- sorted names of a dict -/
structure Sd (qs : Bag) (zs : List Str) : Prop where
  pm : zs.Perm (nms qs)
  ord : sortedS zs = true
/-- the instance at x becomes a charge -/
def spInit (C : Addr) : Sp := fun vs H Q _ => ∃ (x dx d : Addr) (qs : Bag) (u : Int), vs = [.ref x, .ref d, .int u] ∧ H x = some (.ins C dx []) ∧ H d = some (.dK (kvs qs)) ∧ Bg (10 ^ 60) qs ∧ 0 < u ∧ u.natAbs < 10 ^ 60 ∧
  ∀ (zs : List Str) (H' : Hp), Sd qs zs → But x H H' → ChAt C H' x (chB zs qs u) (nfU u qs) → Q .non H'
structure ChK (K : PySem.W.Frag) (C fi : Addr) (fdi : FuncData) (st : Stmt) (ps : List Str) : Prop where
  F : FunD K "__init__" "Charge.__init__" (defArgs st) (defBody st) (defScope st) [] [("unit", .int 1)] fi fdi
  mkC : Mk K C fi
  b1 : ∃ ds, Vals [.int 1] ds ∧ Binds K fdi ps ds
  bk : KBn K fdi ps 2 ["unit"] (fun us ws => us ++ ws) (fun vs zs => vs ++ zs)
theorem upd_upd_ne {H : Hp} {a b : Addr} {u v : HO} (h : a ≠ b) : upd (upd H a u) b v = upd (upd H b v) a u := by
  funext c
  by_cases h1 : c = a
  · subst h1
    rw [upd_same, upd_ne h, upd_same]
  · by_cases h2 : c = b
    · subst h2
      rw [upd_same, upd_ne h1, upd_same]
    · rw [upd_ne h1, upd_ne h2, upd_ne h2, upd_ne h1]
section
variable {P : Program} {w : World} {K : PySem.W.Frag} {mg : Str → Option Value} {base : Heap} {C : Addr}
abbrev s_Charge_iter : Stmt := inClass (top 25) 15
abbrev N_Charge_iter : List Str := ["self"]
abbrev P_Charge_iter : List Str := ["self"]
theorem sc_Charge_iter : FnScope N_Charge_iter P_Charge_iter (defScope s_Charge_iter) := ⟨rfl, rfl, rfl, by decide +kernel, rfl, by decide +kernel, by decide +kernel⟩
theorem ok_iter {f : Addr} {fd : FuncData} (M : Bm mg) (KCharge : Kls K mg "Charge" C) (N : ChN K C) (Y : Md K "Charge.__iter__" "__iter__" C s_Charge_iter P_Charge_iter f fd) : ItM P w K mg base 1 C "_things" := by
  refine ⟨f, Y.m.at_, Y.m.fn, fun A outer s H a dx t fs xs hr e0 ha hl ht => ?_⟩
  have inBase : ∀ b o, base.get? b = some o → s.heap.get? b = some o := fun b o z => (e0.bs b o z).1
  have b := Y.b s [.ref a] (e0.mod.kin.keeps inBase) rfl
  refine runs_at (k := 0) (vs := [.ref a]) (us := [.ref a]) Y.F sc_Charge_iter hr e0 b (.cons rfl .nil) rfl fun cdv hr' => ?_
  exact ⟨_, (pss_one (ps_ret (pe_callB call_iterT (by rfl) M.b_iter (by decide +kernel) (pa_cons (pe_fld (pv 0) rfl) pa_nil)))), _, rfl, a, C, dx, fs, _, rfl, ha, KCharge.cl, N.n1, hl, t, xs, rfl, ht, fun it hn hz => ⟨it, rfl, hz, hn, rfl⟩⟩
abbrev s_Charge_init : Stmt := inClass (top 25) 0
abbrev N_Charge_init : List Str := ["self", "pays", "unit", "shared", "thing"]
abbrev P_Charge_init : List Str := ["self", "pays", "unit"]
theorem sc_Charge_init : FnScope N_Charge_init P_Charge_init (defScope s_Charge_init) := ⟨rfl, rfl, rfl, by decide +kernel, rfl, by decide +kernel, by decide +kernel⟩
theorem ok_init {fi f1 f2 f3 f4 f5 : Addr} {fdi fd1 fd2 fd3 fd4 fd5 : FuncData} (B : Bl mg) (M : Bm mg) (CN : Nm mg) (KCharge : Kls K mg "Charge" C) (N : ChN K C) (D_is_whole : Df K mg "is_whole" s_is_whole P_is_whole f1 fd1) (D_is_integer : Df K mg "is_integer" s_is_integer P_is_integer f2 fd2) (D_is_name : Df K mg "is_name" s_is_name P_is_name f3 fd3)
    (D__are_pays : Df K mg "_are_pays" s__are_pays P__are_pays f4 fd4) (D__shared_divisor : Df K mg "_shared_divisor" s__shared_divisor P__shared_divisor f5 fd5) (Y : ChK K C fi fdi s_Charge_init P_Charge_init) : FnOk P w K mg base CX0 4 fi fdi P_Charge_init (spInit C) := by
  have G_is_integer : FnOk P w K mg base CX0 2 f2 fd2 P_is_integer spIsInteger := ok_is_integer B CN D_is_whole D_is_integer
  have G__are_pays : FnOk P w K mg base CX0 3 f4 fd4 P__are_pays spArePays := ok_are_pays B CN D_is_whole D_is_integer D_is_name D__are_pays
  have G__shared_divisor : FnOk P w K mg base CX0 1 f5 fd5 P__shared_divisor spDivisor := ok_shared CN D__shared_divisor
  refine Y.F.ok sc_Charge_init (fun vs H Q E h => ?_) (fun cdv A outer s H vs Q E hr h => ?_)
  · obtain ⟨x, dx, d, qs, u, rfl, _⟩ := h
    rfl
  · obtain ⟨x, dx, d, qs, u, rfl, hx, hd, g, hu, hub, k⟩ := h
    refine ⟨_, (pss_cons (ps_if (pt_not (pt_val (pe_call G__are_pays (hr.mono (by decide)) (by rfl) D__are_pays.g D__are_pays.F.kp D__are_pays.b .nil pass0 (pa_cons (pv 1) pa_nil)))) (pss_one ps_never) pss_nil)
      (pss_cons (ps_if (PW.pt (pw_or (pt_not (pt_val (pe_call G_is_integer (hr.mono (by decide)) (by rfl) D_is_integer.g D_is_integer.F.kp D_is_integer.b .nil pass0 (pa_cons (pv 2) pa_nil)))) (pw_or1 (pt_cmpR op_lt (pv 2) pe_int (nomark _))))) (pss_one ps_never) pss_nil)
      (pss_cons (ps_set (i := 3) sc_Charge_init.nd rfl (Or.inr rfl) (pe_call G__shared_divisor (hr.mono (by decide)) (by rfl) D__shared_divisor.g D__shared_divisor.F.kp D__shared_divisor.b .nil pass0 (pa_cons (pv 1) (pa_cons (pv 2) pa_nil))))
      (pss_cons (ps_fld (pv 0) (pe_callTy call_tuple_of (by rfl) B.b_tuple (by decide +kernel) (pa_cons (pe_callB (call_sortedD rfl) (by rfl) M.b_sorted (by decide +kernel) (pa_cons (pv 1) pa_nil)) pa_nil)) rfl)
      (pss_cons (ps_fld (pv 0) (pe_op op_fdivZ (pv 2) (pv 3)) rfl)
      (pss_one (ps_fld (pv 0) (pe_dc (own := [("thing", 4)]) (g := gName 4) (tt := tYes) rfl sc_Charge_init.nd (pi_list (pe_callB (call_sortedD rfl) (by rfl) M.b_sorted (by decide +kernel) (pa_cons (pv 1) pa_nil))) (blkOk_by (own := [("thing", 4)]) (N := N_Charge_init) (sc := defScope s_Charge_init) (by decide +kernel)) (fun _ _ _ _ _ => (pg_name (i := 4) sc_Charge_init.nd rfl (Or.inl rfl))) (fun _ _ _ _ _ => pts_nil) (fun _ _ _ _ _ => (pv 4)) (fun _ _ _ _ _ => (pe_op op_fdivZ (pe_dget (hu_of hr) (pv 1) (pv 4) (fun _ _ => rfl)) (pv 3)))) rfl))))))), ?_⟩
    have hxd : d ≠ x := ne_of hd hx (fun z => nomatch z)
    refine ⟨_, rfl, d, qs, rfl, hd, g, fun H1 s1 => ⟨true, rfl, iteF ?_⟩⟩
    refine ⟨_, rfl, _, .int, rfl, .int u, _, rfl, ?_⟩
    rw [show intB (.int u) = true from decide_eq_true hub]
    refine iteF ⟨_, rfl, _, _, rfl, rfl, _, rfl, ?_⟩
    rw [show decide (u < 1) = false from decide_eq_false (by omega)]
    refine iteF ?_
    refine ⟨_, rfl, _, rfl, d, qs, u, rfl, s1 _ _ hd, g.nd, by omega, ?_⟩
    -- self._things
    have g0 := gcdB_pos (u := u) (ps := qs) (by omega)
    have gl := gcdB_le (u := u) (ps := qs) (by omega)
    have hG : (gcdB u qs) < 2 ^ 3000 := Nat.lt_of_le_of_lt gl (Nat.lt_trans hub (by decide +kernel))
    have x1 := s1 _ _ hx
    have l8 := g.l8
    refine ⟨_, rfl, d, _, nms qs, rfl, .inl (s1 _ _ hd), kvs_keys qs, by rw [nms_len]; omega, fun zs p hp1 hp2 hp => ?_⟩
    have s2 := s1.trans (Same.new (o := .lst (zs.map V.str)) hp)
    refine ⟨p, _, rfl, .inl ⟨SqL.of upd_same, fun t ht => ?_⟩⟩
    have s3 := s2.trans (Same.new (o := .tup (zs.map V.str)) ht)
    have et : (upd (upd H1 p (.lst (zs.map V.str))) t (.tup (zs.map V.str))) t = some (tupS zs) := upd_same
    generalize upd (upd H1 p (.lst (zs.map V.str))) t (.tup (zs.map V.str)) = H2 at s3 et
    refine ⟨_, rfl, x, C, dx, _, rfl, s3 _ _ hx, KCharge.cl, N.n1, by show 0 < 1000; decide, ?_⟩
    -- self._unit
    have htx : t ≠ x := ne_of et (s3 _ _ hx) (fun z => nomatch z)
    refine ⟨_, rfl, _, rfl, _, _, rfl, rfl, div_z (b := 3000) _ (by omega) (by rw [Int.natAbs_natCast]; exact hG) (by decide) (by decide), _, rfl, x, C, dx, _, rfl, upd_same, KCharge.cl, N.n2, by show 1 < 1000; decide, ?_⟩
    rw [upd_upd]
    -- self._pays
    have eU : u.fdiv (gcdB u qs : Int) = nfU u qs := Int.fdiv_eq_ediv_of_nonneg _ (by omega)
    have b3 : But x H (upd H2 x (.ins C dx [("_things", .ref t), ("_unit", .int (u.fdiv (gcdB u qs : Int)))])) := (But.of s3).trans But.upd
    have e3 : (upd H2 x (.ins C dx [("_things", .ref t), ("_unit", .int (u.fdiv (gcdB u qs : Int)))])) x = some (.ins C dx [("_things", .ref t), ("_unit", .int (u.fdiv (gcdB u qs : Int)))]) := upd_same
    have et3 : (upd H2 x (.ins C dx [("_things", .ref t), ("_unit", .int (u.fdiv (gcdB u qs : Int)))])) t = some (tupS zs) := by rw [upd_ne htx]; exact et
    refine (fun (z : ∀ H3 : Hp, But x H H3 → H3 x = some (.ins C dx [("_things", .ref t), ("_unit", .int (u.fdiv (gcdB u qs : Int)))]) → H3 t = some (tupS zs) → _) => z _ b3 e3 et3) fun H3 b3 e3 et3 => ?_
    have hd3 := b3 _ _ hd hxd
    refine ⟨_, rfl, d, _, nms qs, rfl, .inl hd3, kvs_keys qs, by rw [nms_len]; omega, fun zs2 p2 hq1 hq2 hp2n => ?_⟩
    have ez : zs2 = zs := sorted_one (hq1.trans hp1.symm) hq2 hp2
    subst ez
    have s4 := Same.new (o := .lst (zs2.map V.str)) hp2n
    have e4 : (upd H3 p2 (.lst (zs2.map V.str))) p2 = some (.lst (zs2.map V.str)) := upd_same
    generalize upd H3 p2 (.lst (zs2.map V.str)) = H4 at s4 e4
    have nz : zs2.Nodup := hp1.nodup_iff.mpr g.nd
    have lz : zs2.length = qs.length := by rw [hp1.length_eq, nms_len]
    refine ⟨p2, rfl, ⟨_, SqL.of e4⟩, fun D hD => ?_⟩
    refine dc_it (walk_list (xs := zs2.map V.str)) (fun i H' => H' = upd H4 D (.dK (kvs (bagOf (fun z => look qs z / (gcdB u qs : Int)) (zs2.take i))))) rfl (fun i H' _ e => by rw [e]; exact SqL.of (Same.new hD _ _ e4)) ?_ ?_
    · rintro i y H5 H6 hi rfl ⟨rfl, hy⟩
      rw [List.length_map] at hi
      have hz : zs2[i]? = some zs2[i] := List.getElem?_eq_getElem hi
      rw [List.getElem?_map, hz] at hy
      injection hy with hy
      subst hy
      have s5 := Same.new (o := .dK (kvs (bagOf (fun z => look qs z / (gcdB u qs : Int)) (zs2.take i)))) hD
      have hm : zs2[i] ∈ nms qs := hp1.subset (List.getElem_mem hi)
      refine ⟨rfl, _, rfl, _, rfl, _, rfl, d, _, rfl, DGet.bag (.inl (s5 _ _ (s4 _ _ hd3))) hm, _, rfl, _, _, rfl, rfl, div_z (b := 3000) _ (by omega) (by rw [Int.natAbs_natCast]; exact hG) (by decide) (by decide), _, .inr _, rfl, upd_same, ?_, ?_⟩
      · rw [bagOf_len, List.length_take]
        show min i zs2.length < sizeLine
        rw [sizeLine_eq]
        omega
      · rw [upd_upd]
        dsimp only
        rw [Int.fdiv_eq_ediv_of_nonneg _ (by omega), bagOf_succ (fun z => look qs z / (gcdB u qs : Int)) nz hz]
    · rintro H5 rfl
      rw [List.length_map, List.take_length]
      have s5 := Same.new (o := .dK (kvs (bagOf (fun z => look qs z / (gcdB u qs : Int)) zs2))) hD
      have x5 := s5 _ _ (s4 _ _ e3)
      have hDx : D ≠ x := fun z => by
        have := s4 _ _ e3
        rw [← z, hD] at this
        cases this
      refine ⟨_, rfl, x, C, dx, _, rfl, x5, KCharge.cl, N.n3, by show 2 < 1000; decide, ?_⟩
      refine k zs2 _ ⟨hp1, hp2⟩ ?_ ⟨dx, t, D, ?_, ?_, ?_⟩
      · exact ((b3.trans (But.of s4)).trans (But.of s5)).trans But.upd
      · rw [upd_same, ← eU]
        rfl
      · rw [upd_ne htx, show nms (chB zs2 qs u) = zs2 from bagOf_nms _ _]
        exact s5 _ _ (s4 _ _ et3)
      · rw [upd_ne hDx]
        exact upd_same
end
end V0

namespace V0
open PySem PySem.Spec PyProof.Rows L2
/-- charge_over(pays, unit): the numbers can be of any size -/
structure Bh (qs : Bag) : Prop where
  nd : (nms qs).Nodup
  nm : ∀ z ∈ nms qs, nameB (.str z) = true ∧ z.length ≤ 8
  l1 : 1 ≤ qs.length
  l8 : qs.length ≤ 8
def spOver (C : Addr) : Sp := fun vs H Q _ => ∃ (d : Addr) (qs : Bag) (u : Int), vs = [.ref d, .int u] ∧ H d = some (.dK (kvs qs)) ∧ Bh qs ∧ 0 < u ∧ u.natAbs < 2 ^ 3000 ∧
  ∀ (x : Addr) (zs : List Str) (H' : Hp), Sd qs zs → Same H H' → H x = none → ChAt C H' x (chB zs qs u) (nfU u qs) → Q (.ref x) H'
theorem Bh.zero {qs : Bag} (g : Bh qs) : Bg (10 ^ 60) (bagOf (fun _ => 0) (nms qs)) := by
  refine ⟨by rw [bagOf_nms]; exact g.nd, fun z hz => g.nm z (by rw [bagOf_nms] at hz; exact hz), fun p hp => ?_, ?_, ?_⟩
  · obtain ⟨z, _, rfl⟩ := List.mem_map.mp hp
    show (0 : Int).natAbs < 10 ^ 60
    decide +kernel
  · have : (bagOf (fun _ => 0) (nms qs)).length = qs.length := by unfold bagOf; rw [List.length_map, nms_len]
    rw [this]; exact g.l1
  · have : (bagOf (fun _ => 0) (nms qs)).length = qs.length := by unfold bagOf; rw [List.length_map, nms_len]
    rw [this]; exact g.l8
section
variable {P : Program} {w : World} {K : PySem.W.Frag} {mg : Str → Option Value} {base : Heap} {C : Addr}
abbrev s_charge_over : Stmt := top 26
abbrev N_charge_over : List Str := ["pays", "unit", "thing", "charge", "shared"]
abbrev P_charge_over : List Str := ["pays", "unit"]
theorem sc_charge_over : FnScope N_charge_over P_charge_over (defScope s_charge_over) := ⟨rfl, rfl, rfl, by decide +kernel, rfl, by decide +kernel, by decide +kernel⟩
theorem ok_over {f fi f1 f2 f3 f4 f5 : Addr} {fd fdi fd1 fd2 fd3 fd4 fd5 : FuncData} (B : Bl mg) (M : Bm mg) (CN : Nm mg) (KCharge : Kls K mg "Charge" C) (N : ChN K C) (D_is_whole : Df K mg "is_whole" s_is_whole P_is_whole f1 fd1) (D_is_integer : Df K mg "is_integer" s_is_integer P_is_integer f2 fd2) (D_is_name : Df K mg "is_name" s_is_name P_is_name f3 fd3)
    (D__are_pays : Df K mg "_are_pays" s__are_pays P__are_pays f4 fd4) (D__shared_divisor : Df K mg "_shared_divisor" s__shared_divisor P__shared_divisor f5 fd5) (Y_init : ChK K C fi fdi s_Charge_init P_Charge_init) (D : Df K mg "charge_over" s_charge_over P_charge_over f fd) : FnOk P w K mg base CX0 6 f fd P_charge_over (spOver C) := by
  have G__shared_divisor : FnOk P w K mg base CX0 1 f5 fd5 P__shared_divisor spDivisor := ok_shared CN D__shared_divisor
  have G_init : FnOk P w K mg base CX0 4 fi fdi P_Charge_init (spInit C) := ok_init B M CN KCharge N D_is_whole D_is_integer D_is_name D__are_pays D__shared_divisor Y_init
  obtain ⟨ds, hds, b1⟩ := Y_init.b1
  refine D.F.ok sc_charge_over (fun vs H Q E h => ?_) (fun cdv A outer s H vs Q E hr h => ?_)
  · obtain ⟨d, qs, u, rfl, _⟩ := h
    rfl
  · obtain ⟨d, qs, u, rfl, hd, g, hu, hub, k⟩ := h
    refine ⟨_, (pss_cons (ps_set (i := 3) sc_charge_over.nd rfl (Or.inl rfl) (pe_make Y_init.mkC G_init (hr.mono (by decide)) (by rfl) KCharge.g b1 hds pass0 (pa_cons (pe_lock (pe_dc (own := [("thing", 2)]) (g := gName 2) (tt := tYes) rfl sc_charge_over.nd (pi_keys (pv 0)) (blkOk_by (own := [("thing", 2)]) (N := N_charge_over) (sc := defScope s_charge_over) (by decide +kernel)) (fun _ _ _ _ _ => (pg_name (i := 2) sc_charge_over.nd rfl (Or.inl rfl))) (fun _ _ _ _ _ => pts_nil) (fun _ _ _ _ _ => (pv 2)) (fun _ _ _ _ _ => pe_int))) pa_nil)))
      (pss_cons (ps_set (i := 4) sc_charge_over.nd rfl (Or.inr rfl) (pe_call G__shared_divisor (hr.mono (by decide)) (by rfl) D__shared_divisor.g D__shared_divisor.F.kp D__shared_divisor.b .nil pass0 (pa_cons (pv 0) (pa_cons (pv 1) pa_nil))))
      (pss_cons (ps_fld (pv 3) (pe_op op_fdivZ (pv 1) (pv 4)) rfl)
      (pss_cons (ps_fld (pv 3) (pe_dc (own := [("thing", 2)]) (g := gName 2) (tt := tYes) rfl sc_charge_over.nd (pi_list (pe_callB (call_sortedD rfl) (by rfl) M.b_sorted (by decide +kernel) (pa_cons (pv 0) pa_nil))) (blkOk_by (own := [("thing", 2)]) (N := N_charge_over) (sc := defScope s_charge_over) (by decide +kernel)) (fun _ _ _ _ _ => (pg_name (i := 2) sc_charge_over.nd rfl (Or.inl rfl))) (fun _ _ _ _ _ => pts_nil) (fun _ _ _ _ _ => (pv 2)) (fun _ _ _ _ _ => (pe_op op_fdivZ (pe_dget (hu_of hr) (pv 0) (pv 2) (fun _ _ => rfl)) (pv 4)))) rfl)
      (pss_one (ps_ret (pv 3))))))), ?_⟩
    have g0 := gcdB_pos (u := u) (ps := qs) (by omega)
    have gl := gcdB_le (u := u) (ps := qs) (by omega)
    have hG : (gcdB u qs) < 2 ^ 3000 := Nat.lt_of_le_of_lt gl hub
    have l8 := g.l8
    refine ⟨d, _, hd, trivial, fun od => ⟨_, rfl, d, od, rfl, .inl ⟨_, upd_same, fun D0 hD0 => ?_⟩⟩⟩
    have hdL := ne_of_none (upd_same (H := H) (a := d) (o := .frz od (.dK (kvs qs)))) hD0
    refine dc_it walk_keys (fun i H' => H' = upd (upd H d (.frz od (.dK (kvs qs)))) D0 (.dK (kvs (bagOf (fun _ => 0) ((nms qs).take i))))) rfl (fun i H' _ e => by rw [e, upd_ne hdL]; exact upd_same) ?_ ?_
    · rintro i y H5 H6 hi rfl ⟨rfl, kk, v, hk, rfl⟩
      obtain ⟨p, hp, rfl, rfl⟩ := kvs_at hk
      rw [kvs_len] at hi
      have hz : (nms qs)[i]? = some p.1 := by unfold nms; rw [List.getElem?_map, hp]; rfl
      refine ⟨rfl, _, rfl, _, .inr p.1, rfl, upd_same, ?_, ?_⟩
      · rw [bagOf_len, List.length_take, nms_len, sizeLine_eq]
        omega
      · rw [upd_upd]
        exact congrArg _ (congrArg _ (bagOf_succ (fun _ => 0) g.nd hz))
    · rintro H5 rfl
      rw [kvs_len, ← nms_len, List.take_length]
      refine ⟨by rw [upd_ne hdL]; exact upd_same, ?_⟩
      rw [upd_upd_ne hdL.symm, upd_lock hd]
      have hD0' : H D0 = none := by rw [upd_ne hdL.symm] at hD0; exact hD0
      have s1 := Same.new (o := .dK (kvs (bagOf (fun _ => 0) (nms qs)))) hD0'
      have e1 : (upd H D0 (.dK (kvs (bagOf (fun _ => 0) (nms qs))))) D0 = some (.dK (kvs (bagOf (fun _ => 0) (nms qs)))) := upd_same
      generalize upd H D0 (.dK (kvs (bagOf (fun _ => 0) (nms qs)))) = H1 at s1 e1
      intro x dx hx hdx hne
      have hxd : d ≠ x := ne_of_none (s1 _ _ hd) hx
      have hx0 : D0 ≠ x := ne_of_none e1 hx
      have hd0 : D0 ≠ dx := ne_of_none e1 hdx
      have same2 : Same H1 (upd (upd H1 dx (.own x)) x (.ins C dx [])) := fun b o e => by rw [upd_ne (ne_of_none e hx), upd_ne (ne_of_none e hdx)]; exact e
      refine ⟨x, dx, D0, _, 1, rfl, upd_same, same2 _ _ e1, g.zero, by decide, by decide +kernel, fun zs H2 sd b2 hc => ⟨rfl, ?_⟩⟩
      obtain ⟨dx2, t2, d2, c1, c2, c3⟩ := hc
      rw [show nms (chB zs (bagOf (fun _ => 0) (nms qs)) 1) = zs from bagOf_nms _ _] at c2
      have zp : zs.Perm (nms qs) := by have := sd.pm; rw [bagOf_nms] at this; exact this
      have s2 : Same H H2 := fun b o e => b2 b o (same2 b o (s1 b o e)) (ne_of_none (s1 b o e) hx)
      have ht2x : t2 ≠ x := ne_of c2 c1 (fun z => nomatch z)
      have hx_0 : H x = none := none_up s1 hx
      -- shared, _unit
      refine ⟨_, rfl, _, rfl, d, qs, u, rfl, s2 _ _ hd, g.nd, by omega, ?_⟩
      refine ⟨_, rfl, _, rfl, _, _, rfl, rfl, div_z (b := 3000) _ (by omega) (by rw [Int.natAbs_natCast]; exact hG) (by decide) (by decide), _, rfl, x, C, dx2, _, rfl, c1, KCharge.cl, N.n2, by show 3 < 1000; decide, ?_⟩
      have eU : u.fdiv (gcdB u qs : Int) = nfU u qs := Int.fdiv_eq_ediv_of_nonneg _ (by omega)
      have b3 : Same H (upd H2 x (.ins C dx2 (chF t2 d2 (u.fdiv (gcdB u qs : Int))))) := fun b o e => by rw [upd_ne (ne_of_none e hx_0)]; exact s2 b o e
      have e3 : (upd H2 x (.ins C dx2 (chF t2 d2 (u.fdiv (gcdB u qs : Int))))) x = some (.ins C dx2 (chF t2 d2 (u.fdiv (gcdB u qs : Int)))) := upd_same
      have et3 : (upd H2 x (.ins C dx2 (chF t2 d2 (u.fdiv (gcdB u qs : Int))))) t2 = some (tupS zs) := by rw [upd_ne ht2x]; exact c2
      refine (fun (z : ∀ H3 : Hp, Same H H3 → H3 x = some (.ins C dx2 (chF t2 d2 (u.fdiv (gcdB u qs : Int)))) → H3 t2 = some (tupS zs) → _) => z _ b3 e3 et3) fun H3 b3 e3 et3 => ?_
      have hd3 := b3 _ _ hd
      refine ⟨_, rfl, d, _, nms qs, rfl, .inl hd3, kvs_keys qs, by rw [nms_len]; omega, fun zs2 p2 hq1 hq2 hp2n => ?_⟩
      have ez : zs2 = zs := sorted_one (hq1.trans zp.symm) hq2 sd.ord
      subst ez
      have s4 := Same.new (o := .lst (zs2.map V.str)) hp2n
      have e4 : (upd H3 p2 (.lst (zs2.map V.str))) p2 = some (.lst (zs2.map V.str)) := upd_same
      generalize upd H3 p2 (.lst (zs2.map V.str)) = H4 at s4 e4
      have nz : zs2.Nodup := zp.nodup_iff.mpr g.nd
      have lz : zs2.length = qs.length := by rw [zp.length_eq, nms_len]
      refine ⟨p2, rfl, ⟨_, SqL.of e4⟩, fun D hD => ?_⟩
      refine dc_it (walk_list (xs := zs2.map V.str)) (fun i H' => H' = upd H4 D (.dK (kvs (bagOf (fun z => look qs z / (gcdB u qs : Int)) (zs2.take i))))) rfl (fun i H' _ e => by rw [e]; exact SqL.of (Same.new hD _ _ e4)) ?_ ?_
      · rintro i y H5 H6 hi rfl ⟨rfl, hy⟩
        rw [List.length_map] at hi
        have hz : zs2[i]? = some zs2[i] := List.getElem?_eq_getElem hi
        rw [List.getElem?_map, hz] at hy
        injection hy with hy
        subst hy
        have s5 := Same.new (o := .dK (kvs (bagOf (fun z => look qs z / (gcdB u qs : Int)) (zs2.take i)))) hD
        have hm : zs2[i] ∈ nms qs := zp.subset (List.getElem_mem hi)
        refine ⟨rfl, _, rfl, _, rfl, _, rfl, d, _, rfl, DGet.bag (.inl (s5 _ _ (s4 _ _ hd3))) hm, _, rfl, _, _, rfl, rfl, div_z (b := 3000) _ (by omega) (by rw [Int.natAbs_natCast]; exact hG) (by decide) (by decide), _, .inr _, rfl, upd_same, ?_, ?_⟩
        · rw [bagOf_len, List.length_take]
          show min i zs2.length < sizeLine
          rw [sizeLine_eq]
          omega
        · rw [upd_upd]
          dsimp only
          rw [Int.fdiv_eq_ediv_of_nonneg _ (by omega), bagOf_succ (fun z => look qs z / (gcdB u qs : Int)) nz hz]
      · rintro H5 rfl
        rw [List.length_map, List.take_length]
        have s5 := Same.new (o := .dK (kvs (bagOf (fun z => look qs z / (gcdB u qs : Int)) zs2))) hD
        have x5 := s5 _ _ (s4 _ _ e3)
        have hDx : D ≠ x := fun z => by
          have := s4 _ _ e3
          rw [← z, hD] at this
          cases this
        refine ⟨_, rfl, x, C, dx2, _, rfl, x5, KCharge.cl, N.n3, by show 3 < 1000; decide, _, rfl, ?_⟩
        refine k x zs2 _ ⟨zp, sd.ord⟩ (fun b o e => ?_) hx_0 ⟨dx2, t2, D, ?_, ?_, ?_⟩
        · rw [upd_ne (ne_of_none e hx_0)]
          exact s5 _ _ (s4 _ _ (b3 b o e))
        · rw [upd_same, ← eU]
          rfl
        · rw [upd_ne ht2x, show nms (chB zs2 qs u) = zs2 from bagOf_nms _ _]
          exact s5 _ _ (s4 _ _ et3)
        · rw [upd_ne hDx]
          exact upd_same
end
end V0

namespace V0
open PySem PySem.Spec PyProof.Rows L2
theorem dp_strs {K : PySem.W.Frag} {H : Hp} : ∀ zs : List Str, DpAll K H (zs.map V.str) (zs.map PyData.str)
  | [] => .nil
  | z :: zs => .cons (.str z) (dp_strs zs)
theorem low_ok {z : Str} (h : nameB (.str z) = true) : PyData.strOk z = true := by
  have hk : nameB (.str z) = (decide (1 ≤ z.length ∧ z.length ≤ 8) && z.cps.toList.all low26) := rfl
  rw [hk, Bool.and_eq_true] at h
  have q := List.all_eq_true.mp h.2
  show z.cps.all (· < 0x110000) = true
  rw [Array.all_eq_true_iff_forall_mem]
  intro c hc
  have qc := q c (Array.mem_toList_iff.mpr hc)
  unfold low26 at qc
  simp at qc ⊢
  omega
theorem canLay_strs : ∀ zs : List Str, (∀ z ∈ zs, PyData.strOk z = true) → PyData.canLayAll0 (zs.map PyData.str) = true
  | [], _ => rfl
  | z :: zs, h => by
    show (PyData.strOk z && PyData.canLayAll0 (zs.map PyData.str)) = true
    rw [h z (by simp), canLay_strs zs fun y hy => h y (by simp [hy])]
    rfl
theorem depth_strs : ∀ zs : List Str, PyData.depthAll (zs.map PyData.str) = 0
  | [] => rfl
  | z :: zs => by
    show max 0 (PyData.depthAll (zs.map PyData.str)) = 0
    rw [depth_strs zs]
    rfl
theorem sh_strs (zs : List Str) (h : ∀ z ∈ zs, nameB (.str z) = true) : SeqAt.shaped (.tuple (zs.map PyData.str)) = true := by
  show (PyData.canLayAll0 (zs.map PyData.str) && decide (PyData.depthAll (zs.map PyData.str) + 1 ≤ 64)) = true
  rw [canLay_strs zs fun z hz => low_ok (h z hz), depth_strs]
  rfl
theorem eqv_nil {z : PyData} {zs : List PyData} : PyData.eqv (.tuple (z :: zs)) (.tuple []) = false := by
  first
    | rfl
    | simp [PyData.eqv]
def spCut (C : Addr) : Sp := fun vs H Q _ => ∃ (a g : Addr) (ps : Bag) (u : Int) (ys : List Str), vs = [.ref a, .ref g] ∧ ChAt C H a ps u ∧ 0 < u ∧ u.natAbs < 2 ^ 3000 ∧ H g = some (tupS ys) ∧ Gp (nms ps) ys ∧ ys ≠ [] ∧ ys.length ≤ 8 ∧ (∀ z ∈ ys, nameB (.str z) = true ∧ z.length ≤ 8) ∧
  ∀ (x : Addr) (zs : List Str) (H' : Hp), Sd (bagOf (look ps) ys) zs → Same H H' → H x = none → ChAt C H' x (chB zs (bagOf (look ps) ys) u) (nfU u (bagOf (look ps) ys)) → Q (.ref x) H'
theorem asc_nodup {ys : List Str} (h : ys.Pairwise (fun a b => a.cps.toList < b.cps.toList)) : ys.Nodup := h.imp fun hab e => by
  subst e
  exact absurd hab (List.lt_irrefl _)
section
variable {P : Program} {w : World} {K : PySem.W.Frag} {mg : Str → Option Value} {base : Heap} {C : Addr}
abbrev s_Charge_cut : Stmt := inClass (top 25) 6
abbrev N_Charge_cut : List Str := ["self", "group", "thing"]
abbrev P_Charge_cut : List Str := ["self", "group"]
theorem sc_Charge_cut : FnScope N_Charge_cut P_Charge_cut (defScope s_Charge_cut) := ⟨rfl, rfl, rfl, by decide +kernel, rfl, by decide +kernel, by decide +kernel⟩
theorem ok_cut {f fi f1 f2 f3 f4 f5 f6 f7 f8 : Addr} {fd fdi fd1 fd2 fd3 fd4 fd5 fd6 fd7 fd8 : FuncData} (B : Bl mg) (M : Bm mg) (CN : Nm mg) (KCharge : Kls K mg "Charge" C) (N : ChN K C) (D_is_whole : Df K mg "is_whole" s_is_whole P_is_whole f1 fd1) (D_is_integer : Df K mg "is_integer" s_is_integer P_is_integer f2 fd2) (D_is_name : Df K mg "is_name" s_is_name P_is_name f3 fd3)
    (D__are_pays : Df K mg "_are_pays" s__are_pays P__are_pays f4 fd4) (D__shared_divisor : Df K mg "_shared_divisor" s__shared_divisor P__shared_divisor f5 fd5) (Y_init : ChK K C fi fdi s_Charge_init P_Charge_init) (D_charge_over : Df K mg "charge_over" s_charge_over P_charge_over f6 fd6)
    (D_is_group_of : Df K mg "is_group_of" s_is_group_of P_is_group_of f7 fd7) (Y_Chargecheck_group : Md K "Charge._check_group" "_check_group" C s_Chargecheck_group P_Chargecheck_group f8 fd8)
    (Y : Md K "Charge.cut" "cut" C s_Charge_cut P_Charge_cut f fd) : FnOk P w K mg base CX0 7 f fd P_Charge_cut (spCut C) := by
  have G_charge_over : FnOk P w K mg base CX0 6 f6 fd6 P_charge_over (spOver C) := ok_over B M CN KCharge N D_is_whole D_is_integer D_is_name D__are_pays D__shared_divisor Y_init D_charge_over
  have G_Chargecheck_group : FnOk P w K mg base CX0 2 f8 fd8 P_Chargecheck_group (spCheck C) := ok_check B M KCharge N D_is_group_of Y_Chargecheck_group
  refine Y.F.ok sc_Charge_cut (fun vs H Q E h => ?_) (fun cdv A outer s H vs Q E hr h => ?_)
  · obtain ⟨a, g, ps, u, ys, rfl, _⟩ := h
    rfl
  · obtain ⟨a, g, ps, u, ys, rfl, hc, hu, hub, hg, gp, hne, hl8, hnm, k⟩ := h
    obtain ⟨dx, t, d, h1, h2, h3⟩ := id hc
    refine ⟨_, (pss_cons (ps_expr (pe_meth (pv 0) KCharge.cl Y_Chargecheck_group.m G_Chargecheck_group (hr.mono (by decide)) Y_Chargecheck_group.b .nil pass0 (pa_cons (pv 1) pa_nil)))
      (pss_cons (ps_if (pt_cmpR (op_eqD hr.units) (pv 1) (pe_tup pa_nil) (nomark _)) (pss_one ps_never) pss_nil)
      (pss_one (ps_ret (pe_call G_charge_over (hr.mono (by decide)) (by rfl) D_charge_over.g D_charge_over.F.kp D_charge_over.b .nil pass0 (pa_cons (pe_dc (own := [("thing", 2)]) (g := gName 2) (tt := tYes) rfl sc_Charge_cut.nd (pi_tup (pv 1)) (blkOk_by (own := [("thing", 2)]) (N := N_Charge_cut) (sc := defScope s_Charge_cut) (by decide +kernel)) (fun _ _ _ _ _ => (pg_name (i := 2) sc_Charge_cut.nd rfl (Or.inl rfl))) (fun _ _ _ _ _ => pts_nil) (fun _ _ _ _ _ => (pv 2)) (fun _ _ _ _ _ => (show PE _ _ (tDGet (tFld K (tVar 0) "_pays") (tVar 2)) from by exact (pe_dget (hu_of hr) (pe_fld (pv 0) rfl) (pv 2) (fun _ _ => rfl))))) (pa_cons (pe_fld (pv 0) rfl) pa_nil))))))), ?_⟩
    refine ⟨_, rfl, a, dx, _, rfl, h1, rfl, _, rfl, a, g, ps, u, ys, rfl, hc, hg, gp, fun H1 s1 => ?_⟩
    refine ⟨_, rfl, Nat.zero_le _, fun e he => ?_⟩
    have s2 := s1.trans (Same.new (o := .tup []) he)
    have ee : (upd H1 e (.tup [])) e = some (.tup []) := upd_same
    generalize upd H1 e (.tup []) = H2 at s2 ee
    refine ⟨_, _, .tup (SqT.of (s2 _ _ hg)) (dp_strs ys), .tup (SqT.of ee) .nil, sh_strs ys (fun z hz => (hnm z hz).1), rfl, _, rfl, ?_⟩
    obtain ⟨y0, yr, rfl⟩ : ∃ y0 yr, ys = y0 :: yr := by cases ys with | nil => exact absurd rfl hne | cons a b => exact ⟨a, b, rfl⟩
    rw [show PyData.eqv (.tuple ((y0 :: yr).map PyData.str)) (.tuple []) = false from eqv_nil]
    refine iteF ?_
    generalize hys : y0 :: yr = ys at *
    refine ⟨_, rfl, g, rfl, ⟨_, SqT.of (s2 _ _ hg)⟩, fun D hD => ?_⟩
    have nd := asc_nodup gp.asc
    refine dc_it (walk_tup (xs := ys.map V.str)) (fun i H' => H' = upd H2 D (.dK (kvs (bagOf (look ps) (ys.take i))))) rfl (fun i H' _ e => by rw [e]; exact SqT.of (Same.new hD _ _ (s2 _ _ hg))) ?_ ?_
    · rintro i x H3 H4 hi rfl ⟨rfl, hx⟩
      rw [List.length_map] at hi
      have hy : ys[i]? = some ys[i] := List.getElem?_eq_getElem hi
      rw [List.getElem?_map, hy] at hx
      injection hx with hx
      subst hx
      have s3 := s2.trans (Same.new (o := .dK (kvs (bagOf (look ps) (ys.take i)))) hD)
      refine ⟨rfl, _, rfl, _, rfl, a, C, dx, _, _, rfl, s3 _ _ h1, KCharge.cl, N.n3, rfl, _, rfl, d, _, rfl, DGet.bag (.inl (s3 _ _ h3)) (gp.sub _ (List.getElem_mem hi)), _, .inr _, rfl, upd_same, ?_, ?_⟩
      · rw [bagOf_len, List.length_take, sizeLine_eq]
        omega
      · rw [upd_upd, bagOf_succ _ nd hy]
    · rintro H3 rfl
      rw [List.length_map, List.take_length]
      have s3 := s2.trans (Same.new (o := .dK (kvs (bagOf (look ps) ys))) hD)
      refine ⟨_, rfl, a, C, dx, _, _, rfl, s3 _ _ h1, KCharge.cl, N.n2, rfl, D, _, u, rfl, upd_same, ⟨by rw [bagOf_nms]; exact nd, fun z hz => hnm z (by rw [bagOf_nms] at hz; exact hz), ?_, ?_⟩, hu, hub, fun x zs H4 sd s4 hx hc4 => k x zs H4 sd (s3.trans s4) (none_up s3 hx) hc4⟩
      · unfold bagOf
        rw [List.length_map, ← hys]
        exact Nat.succ_le_succ (Nat.zero_le _)
      · unfold bagOf
        rw [List.length_map]
        exact hl8
/-! ### the text -/
def piece (u : Int) (p : Str × Int) : Str := p.1 ++ Str.ofString " " ++ ftx (p.2 / fg p.2 u) (u / fg p.2 u)
def chText (ps : Bag) (u : Int) : Str := Txt.join (Str.ofString ", ") (ps.map (piece u))
def tPiece (K : PySem.W.Frag) : TE := fun σ H Q => tJs [tFmt (tVar 1), tC (.str " "), tFmt (tCall spFrText [] E0 (tCons (tDGet (tFld K (tVar 0) "_pays") (tVar 1)) (tCons (tFld K (tVar 0) "_unit") tNil)))] Str.empty σ H fun out H1 => Q (.str out) H1
def spText (C : Addr) : Sp := fun vs H Q _ => ∃ (a : Addr) (ps : Bag) (u : Int), vs = [.ref a] ∧ ChAt C H a ps u ∧ 0 < u ∧ u.natAbs < 10 ^ 64 ∧ (nms ps).Nodup ∧ (∀ p ∈ ps, p.2.natAbs < 10 ^ 64 ∧ p.1.length ≤ 8) ∧ ps.length ≤ 8 ∧ ∀ H', Same H H' → Q (.str (chText ps u)) H'
theorem ftx_len {a b : Int} (ha : a.natAbs < 10 ^ 64) (hb : b.natAbs < 10 ^ 64) : (ftx a b).length ≤ 141 := by
  have l1 := itx_len ha
  have l2 := itx_len hb
  unfold ftx
  split
  · omega
  · rw [PySem.Str.length_append, PySem.Str.length_append]
    have h1 : (Str.ofString "/").length = 1 := by decide +kernel
    omega
abbrev s_Charge_str : Stmt := inClass (top 25) 17
abbrev N_Charge_str : List Str := ["self", "thing"]
abbrev P_Charge_str : List Str := ["self"]
theorem sc_Charge_str : FnScope N_Charge_str P_Charge_str (defScope s_Charge_str) := ⟨rfl, rfl, rfl, by decide +kernel, rfl, by decide +kernel, by decide +kernel⟩
theorem ok_text {f f1 f2 f3 : Addr} {fd fd1 fd2 fd3 : FuncData} (B : Bl mg) (CN : Nm mg) (KCharge : Kls K mg "Charge" C) (N : ChN K C) (D_reduced : Df K mg "reduced" s_reduced P_reduced f1 fd1) (D_integer_text : Df K mg "integer_text" s_integer_text P_integer_text f2 fd2) (D_fraction_text : Df K mg "fraction_text" s_fraction_text P_fraction_text f3 fd3)
    (Y : Md K "Charge.__str__" "__str__" C s_Charge_str P_Charge_str f fd) : FnOk P w K mg base CX0 3 f fd P_Charge_str (spText C) := by
  have G_fraction_text : FnOk P w K mg base CX0 2 f3 fd3 P_fraction_text spFrText := ok_fr_text B CN D_reduced D_integer_text D_fraction_text
  refine Y.F.ok sc_Charge_str (fun vs H Q E h => ?_) (fun cdv A outer s H vs Q E hr h => ?_)
  · obtain ⟨a, ps, u, rfl, _⟩ := h
    rfl
  · obtain ⟨a, ps, u, rfl, ⟨dx, t, d, h1, h2, h3⟩, hu, hub, nd, hb, hl8, k⟩ := h
    refine ⟨_, (pss_one (ps_ret (pe_join pe_str (pe_lc (own := [("thing", 1)]) (g := gName 1) (tt := tYes) rfl sc_Charge_str.nd (pi_tup (pe_fld (pv 0) rfl)) (blkOk_by (own := [("thing", 1)]) (N := N_Charge_str) (sc := defScope s_Charge_str) (by decide +kernel)) (fun _ _ _ _ _ => (pg_name (i := 1) sc_Charge_str.nd rfl (Or.inl rfl))) (fun _ _ _ _ _ => pts_nil) (fun _ _ _ _ _ => (show PE _ _ (tPiece K) from by exact (pe_joined (.cons (pe_fmt (pv 1)) (.cons pe_str (.cons (pe_fmt (pe_call G_fraction_text (hr.mono (by decide)) (by rfl) D_fraction_text.g D_fraction_text.F.kp D_fraction_text.b .nil pass0 (pa_cons (pe_dget (hu_of hr) (pe_fld (pv 0) rfl) (pv 1) (fun _ _ => rfl)) (pa_cons (pe_fld (pv 0) rfl) pa_nil)))) .nil)))))))))), ?_⟩
    refine ⟨⟨_, rfl⟩, _, rfl, a, C, dx, _, _, rfl, h1, KCharge.cl, N.n1, rfl, t, rfl, ⟨_, SqT.of h2⟩, fun L hL => ?_⟩
    refine lc_it (walk_tup (xs := (nms ps).map V.str)) (fun i H' => Same H H' ∧ H' L = some (.lst (((ps.take i).map (piece u)).map V.str))) ⟨Same.new hL, upd_same⟩ (fun i H' _ ⟨s1, _⟩ => SqT.of (s1 _ _ h2)) ?_ ?_
    · rintro i x H1 H2 hi ⟨s1, e1⟩ ⟨rfl, hx⟩
      rw [List.length_map, nms_len] at hi
      have hp : ps[i]? = some ps[i] := List.getElem?_eq_getElem hi
      have hx' : x = .str ps[i].1 := by
        rw [List.getElem?_map] at hx
        unfold nms at hx
        rw [List.getElem?_map, hp] at hx
        injection hx with hx
        exact hx.symm
      subst hx'
      obtain ⟨b1, b2⟩ := hb _ (List.getElem_mem hi)
      have hm := nms_at hp
      have e2 : look ps ps[i].1 = ps[i].2 := look_at nd hp
      have g0 := fg_pos (i := ps[i].2) hu
      have a1 : (ps[i].2 / fg ps[i].2 u).natAbs < 10 ^ 64 := Nat.lt_of_le_of_lt (div_le g0) b1
      have a2 : (u / fg ps[i].2 u).natAbs < 10 ^ 64 := Nat.lt_of_le_of_lt (div_le g0) hub
      have lf := ftx_len a1 a2
      have l1 : (Str.ofString " ").length = 1 := by decide +kernel
      refine ⟨rfl, _, rfl, .inl ⟨_, rfl, by rw [sizeLine_eq]; omega, _, rfl, by rw [empty_app, sizeLine_eq]; omega, ?_⟩⟩
      rw [empty_app]
      refine ⟨_, rfl, by rw [PySem.Str.length_append, sizeLine_eq]; omega, ?_⟩
      refine ⟨_, rfl, a, C, dx, _, _, rfl, s1 _ _ h1, KCharge.cl, N.n3, rfl, _, rfl, d, _, rfl, DGet.bag (.inl (s1 _ _ h3)) hm, _, rfl, a, C, dx, _, _, rfl, s1 _ _ h1, KCharge.cl, N.n2, rfl, _, _, rfl, hu, by rw [e2]; exact b1, hub, fun H3 s3 => ?_⟩
      rw [e2]
      refine .inl ⟨_, rfl, by rw [sizeLine_eq]; omega, _, rfl, by rw [PySem.Str.length_append, PySem.Str.length_append, sizeLine_eq]; omega, _, s3 _ _ e1, ?_, ?_, ?_⟩
      · rw [List.length_map, List.length_map, List.length_take, sizeLine_eq]
        omega
      · exact fun b o e => by rw [upd_ne (ne_of_none e hL)]; exact s3 _ _ (s1 b o e)
      · rw [upd_same, take_map_succ _ hp, List.map_append]
        rfl
    · rintro H1 ⟨s1, e1⟩
      rw [List.length_map, nms_len, List.take_length] at e1
      refine ⟨_, L, ps.map (piece u), rfl, rfl, .inl (SqL.of e1), ?_, k H1 s1⟩
      have key : ∀ qs : Bag, (∀ p ∈ qs, p ∈ ps) → ((qs.map (piece u)).map (·.length)).sum ≤ qs.length * 160 := fun qs => by
        induction qs with
        | nil => intro _; exact Nat.le_refl _
        | cons p qs ih =>
          intro hq
          have i1 := ih fun q h => hq q (by simp [h])
          obtain ⟨b1, b2⟩ := hb p (hq p (by simp))
          have g0 := fg_pos (i := p.2) hu
          have a1 : (p.2 / fg p.2 u).natAbs < 10 ^ 64 := Nat.lt_of_le_of_lt (div_le g0) b1
          have a2 : (u / fg p.2 u).natAbs < 10 ^ 64 := Nat.lt_of_le_of_lt (div_le g0) hub
          have lf := ftx_len a1 a2
          have l1 : (Str.ofString " ").length = 1 := by decide +kernel
          have lp : (piece u p).length ≤ 160 := by
            unfold piece
            rw [PySem.Str.length_append, PySem.Str.length_append]
            omega
          rw [List.map_cons, List.map_cons, List.sum_cons, List.length_cons, Nat.succ_mul]
          omega
      have q := key ps fun _ h => h
      have l2 : (Str.ofString ", ").length = 2 := by decide +kernel
      rw [List.length_map, l2]
      omega
end
end V0

namespace V0
open PySem PySem.Spec PyProof.Rows L2
def hide (p : Addr) (H : Hp) : Hp := fun b => if b = p then none else H b
theorem hide_ne {p b : Addr} {H : Hp} (h : b ≠ p) : hide p H b = H b := if_neg h
theorem hide_eq {p b : Addr} {H : Hp} {o : HO} (h : hide p H b = some o) : b ≠ p ∧ H b = some o := by
  by_cases e : b = p
  · have q : hide p H b = none := if_pos e
    rw [q] at h
    cases h
  · exact ⟨e, (hide_ne (H := H) e).symm.trans h⟩
theorem But.hide {p : Addr} {H H' : Hp} (b : But p H H') : Same (hide p H) (hide p H') := fun c o h => by
  obtain ⟨e, q⟩ := hide_eq h
  rw [hide_ne e]
  exact b c o q e
theorem hide_same {p : Addr} {H : Hp} : Same (hide p H) H := fun c o h => (hide_eq h).2
theorem Pot.but {H H' : Hp} {p q : Addr} (h : Pot H p) (b : But q H H') (n : p ≠ q) : Pot H' p := by
  obtain ⟨a, b', c, hp, r⟩ := h
  exact ⟨a, b', c, b _ _ hp n, r⟩
theorem Pot.some {H : Hp} {p : Addr} (h : Pot H p) : ∃ o, H p = some o := by
  obtain ⟨a, b, c, hp, _⟩ := h
  exact ⟨_, hp⟩
theorem pot_ne {H : Hp} {p q : Addr} (h : Pot H p) (n : H q = none) : q ≠ p := fun z => by
  obtain ⟨o, e⟩ := h.some
  rw [← z, n] at e
  cases e
theorem perm_at {α : Type} : ∀ (l : List α) (k : Nat) (h : k < l.length), (l[k] :: l.eraseIdx k).Perm l
  | x :: l, 0, _ => by simp
  | x :: l, k + 1, h => by
    have h' : k < l.length := Nat.lt_of_succ_lt_succ h
    show (l[k] :: x :: l.eraseIdx k).Perm (x :: l)
    exact (List.Perm.swap _ _ _).trans ((perm_at l k h').cons x)
def spShuffle : Sp := fun vs H Q _ => ∃ (p l : Addr) (xs : List V), vs = [.ref p, .ref l] ∧ Pot H p ∧ l ≠ p ∧ H l = some (.lst xs) ∧ xs.length ≤ 100 ∧
  ∀ (q : Addr) (ys : List V) (H' : Hp), ys.Perm xs → H' q = some (.lst ys) → q ≠ p → H q = none → Pot H' p → But p H H' → Q (.ref q) H'
section
variable {P : Program} {w : World} {K : PySem.W.Frag} {mg : Str → Option Value} {base : Heap}
def t_pop (K : PySem.W.Frag) : TE := tBM K "list" rPopAt (tVar 2) (tCons (tCall spStir [] E0 (tCons (tVar 0) (tCons (tCB (fun xs H Q => ∃ x n, xs = [x] ∧ LenV K x H n ∧ Q (.int n) H) (tCons (tVar 2) tNil)) tNil))) tNil)
abbrev s_shuffled : Stmt := top 34
abbrev N_shuffled : List Str := ["_law_pot_here", "_law_items", "_law_waits", "_law_turn"]
abbrev P_shuffled : List Str := ["_law_pot_here", "_law_items"]
theorem sc_shuffled : FnScope N_shuffled P_shuffled (defScope s_shuffled) := ⟨rfl, rfl, rfl, by decide +kernel, rfl, by decide +kernel, by decide +kernel⟩
theorem ok_shuffle {f f1 : Addr} {fd fd1 : FuncData} (B : Bl mg) (D_stir : Df K mg "_law_stir" s_stir P_stir f1 fd1) (D : Df K mg "_law_shuffled" s_shuffled P_shuffled f fd) : FnOk P w K mg base CX0 2 f fd P_shuffled spShuffle := by
  have G_stir : FnOk P w K mg base CX0 1 f1 fd1 P_stir spStir := ok_stir B D_stir
  refine D.F.ok sc_shuffled (fun vs H Q E h => ?_) (fun cdv A outer s H vs Q E hr h => ?_)
  · obtain ⟨p, l, xs, rfl, _⟩ := h
    rfl
  · obtain ⟨p, l, xs, rfl, hp, hlp, hl, hn, k⟩ := h
    refine ⟨_, (pss_cons (ps_set (i := 2) sc_shuffled.nd rfl (Or.inr rfl) (pe_callTy call_list_of (by rfl) B.b_list (by decide +kernel) (pa_cons (pv 1) pa_nil)))
      (pss_one (ps_ret (pe_lc (own := [("_law_turn", 3)]) (g := gName 3) (tt := tYes) rfl sc_shuffled.nd (pi_range1 rfl B.b_range (pa_cons (pe_callB call_len (by rfl) B.b_len (by decide +kernel) (pa_cons (pv 1) pa_nil)) pa_nil)) (blkOk_by (own := [("_law_turn", 3)]) (N := N_shuffled) (sc := defScope s_shuffled) (by decide +kernel)) (fun _ _ _ _ _ => (pg_name (i := 3) sc_shuffled.nd rfl (Or.inl rfl))) (fun _ _ _ _ _ => pts_nil) (fun _ _ _ _ _ => (show PE _ _ (t_pop K) from by exact (pe_bm PySem.F.plainAttrs_list PySem.F.slot_list_pop PySem.F.type_list_pop mt_popAt (pv 2) (pa_cons (by exact (pe_call G_stir (hr.mono (by decide)) (by rfl) D_stir.g D_stir.F.kp D_stir.b .nil pass0 (pa_cons (pv 0) (pa_cons (by exact (pe_callB call_len (by rfl) B.b_len (by decide +kernel) (pa_cons (pv 2) pa_nil))) pa_nil)))) pa_nil)))))))), ?_⟩
    refine ⟨_, rfl, l, xs, rfl, .inl (SqL.of hl), fun W hW => ?_⟩
    have sW := Same.new (o := .lst xs) hW
    have eW : (upd H W (.lst xs)) W = _ := upd_same
    have nWp := pot_ne hp hW
    generalize upd H W (.lst xs) = H1 at sW eW
    refine ⟨_, rfl, _, xs.length, rfl, .inl ⟨_, SqL.of (sW _ _ hl), rfl⟩, (xs.length : Int), rfl, by omega, by omega, fun D hD => ?_⟩
    have nDp := pot_ne (hp.same sW) hD
    have nDW := ne_of_none eW hD
    have nD0 : H D = none := by
      cases e : H D with
      | none => rfl
      | some o => rw [sW _ _ e] at hD; cases hD
    refine lc_range (lo := 0) (n := _) (fun m H' => Pot H' p ∧ But p H H' ∧ ∃ rs ys : List V, H' W = some (.lst rs) ∧ rs.length + m = xs.length ∧ H' D = some (.lst ys) ∧ ys.length = m ∧ (rs ++ ys).Perm xs)
      ⟨(hp.same sW).same (Same.new hD), But.of (sW.trans (Same.new hD)), xs, [], Same.new hD _ _ eW, rfl, upd_same, rfl, by rw [List.append_nil]⟩ (fun m H' hm ⟨pm, bm, rs, ys, e1, e2, e4, e5, e6⟩ => ?_) (fun H' ⟨pm, bm, rs, ys, e1, e2, e4, e5, e6⟩ => ?_)
    · refine ⟨rfl, ?_⟩
      dsimp only [tYes]
      rw [if_pos (show true = true from rfl)]
      refine ⟨_, rfl, .inl ⟨rfl, _, SqL.of e1⟩, _, rfl, _, rfl, _, rs.length, rfl, .inl ⟨_, SqL.of e1, rfl⟩, p, _, rfl, pm, by omega, by omega, fun r H2 r0 r1 p2 b2 => ?_⟩
      have e1' := b2 _ _ e1 nWp
      have e4' := b2 _ _ e4 nDp
      have hr : r.toNat < rs.length := by omega
      refine ⟨W, rs, r, r.toNat, rs[r.toNat], rfl, rfl, e1', by omega, by omega, seqIndex_of r0 r1, List.getElem?_eq_getElem hr, ys, ?_, by rw [e5]; show m < sizeLine; rw [sizeLine_eq]; omega, ?_⟩
      · rw [upd_ne nDW.symm]; exact e4'
      · refine ⟨?_, fun b o e hb => ?_, rs.eraseIdx r.toNat, ys ++ [rs[r.toNat]], ?_, ?_, upd_same, ?_, ?_⟩
        · obtain ⟨a, b', c, hp', r'⟩ := p2
          exact ⟨a, b', c, by rw [upd_ne nDp.symm, upd_ne nWp.symm]; exact hp', r'⟩
        · rw [upd_ne (fun z => by have := sW b o e; rw [z, hD] at this; cases this), upd_ne (ne_of_none e hW)]
          exact b2 b o (bm b o e hb) hb
        · rw [upd_ne nDW, upd_same]
        · rw [List.length_eraseIdx_of_lt hr]
          omega
        · rw [List.length_append, e5]
          rfl
        · refine List.Perm.trans ?_ e6
          rw [← List.append_assoc]
          refine List.Perm.trans (List.perm_append_comm) ?_
          show (rs[r.toNat] :: (rs.eraseIdx r.toNat ++ ys)).Perm _
          exact (perm_at rs r.toNat hr).append_right ys
    · have r0 : rs = [] := List.length_eq_zero_iff.mp (by omega)
      rw [r0] at e6
      exact k D ys H' e6 e4 nDp nD0 pm bm
end
end V0

namespace V0
open PySem PySem.Spec PyProof.Rows L2
/-- the words that name things -/
def wordsL : List Str := ["a", "b", "c", "d", "e", "f", "g", "h", "ab", "zz", "hue", "thing", "zzzzzzzz"]
/-- names of things: texts of one to eight small letters, all different, in their order -/
structure Ws (zs : List Str) : Prop where
  sub : ∀ z ∈ zs, z ∈ wordsL
  nodup : zs.Nodup
  ord : sortedS zs = true
def spWords : Sp := fun vs H Q _ => ∃ (p : Addr) (n : Nat), vs = [.ref p, .int n] ∧ Pot H p ∧ 1 ≤ n ∧ n ≤ 8 ∧
  ∀ (q : Addr) (zs : List Str) (H' : Hp), Ws zs → zs.length = n → H' q = some (.tup (zs.map .str)) → H q = none → Pot H' p → But p H H' → Q (.ref q) H'
theorem map_perm {ys : List V} {zs : List Str} (h : ys.Perm (zs.map .str)) : ∃ us : List Str, ys = us.map .str ∧ us.Perm zs := by
  have all : ∀ y ∈ ys, ∃ z : Str, y = .str z := fun y hy => by
    obtain ⟨z, _, e⟩ := List.mem_map.mp (h.subset hy)
    exact ⟨z, e.symm⟩
  have un : ∀ (l : List V), (∀ y ∈ l, ∃ z : Str, y = .str z) → ∃ us : List Str, l = us.map .str := fun l => by
    induction l with
    | nil => intro _; exact ⟨[], rfl⟩
    | cons x l ih =>
      intro hl
      obtain ⟨z, rfl⟩ := hl x (by simp)
      obtain ⟨us, rfl⟩ := ih fun y hy => hl y (by simp [hy])
      exact ⟨z :: us, rfl⟩
  obtain ⟨us, rfl⟩ := un ys all
  refine ⟨us, rfl, ?_⟩
  let g : V → Str := fun v => match v with | .str z => z | _ => ⟨#[]⟩
  have e : ∀ l : List Str, (l.map V.str).map g = l := fun l => by
    rw [List.map_map]
    show l.map (fun z => z) = l
    rw [List.map_id']
  have := h.map g
  rw [e, e] at this
  exact this
section
variable {P : Program} {w : World} {K : PySem.W.Frag} {mg : Str → Option Value} {base : Heap}
abbrev s_words : Stmt := top 36
abbrev N_words : List Str := ["_law_pot_here", "_law_size", "_law_some"]
abbrev P_words : List Str := ["_law_pot_here", "_law_size"]
theorem sc_words : FnScope N_words P_words (defScope s_words) := ⟨rfl, rfl, rfl, by decide +kernel, rfl, by decide +kernel, by decide +kernel⟩
theorem ok_words {f f1 f2 : Addr} {fd fd1 fd2 : FuncData} (B : Bl mg) (M : Bm mg) (D_stir : Df K mg "_law_stir" s_stir P_stir f1 fd1) (D_shuffled : Df K mg "_law_shuffled" s_shuffled P_shuffled f2 fd2)
    (D : Df K mg "_law_words" s_words P_words f fd) : FnOk P w K mg base CX0 3 f fd P_words spWords := by
  have G_shuffled : FnOk P w K mg base CX0 2 f2 fd2 P_shuffled spShuffle := ok_shuffle B D_stir D_shuffled
  refine D.F.ok sc_words (fun vs H Q E h => ?_) (fun cdv A outer s H vs Q E hr h => ?_)
  · obtain ⟨p, n, rfl, _⟩ := h
    rfl
  · obtain ⟨p, n, rfl, hp, h1, h8, k⟩ := h
    refine ⟨_, (pss_cons (ps_set (i := 2) sc_words.nd rfl (Or.inl rfl) (pe_lst (pa_cons pe_str (pa_cons pe_str (pa_cons pe_str (pa_cons pe_str (pa_cons pe_str (pa_cons pe_str (pa_cons pe_str (pa_cons pe_str (pa_cons pe_str (pa_cons pe_str (pa_cons pe_str (pa_cons pe_str (pa_cons pe_str pa_nil)))))))))))))))
      (pss_one (ps_ret (pe_callTy call_tuple_of (by rfl) B.b_tuple (by decide +kernel) (pa_cons (pe_callB cr_sortedS (by rfl) M.b_sorted (by decide +kernel) (pa_cons (pe_slice sl_list (pe_call G_shuffled (hr.mono (by decide)) (by rfl) D_shuffled.g D_shuffled.F.kp D_shuffled.b .nil pass0 (pa_cons (pv 0) (pa_cons (pv 2) pa_nil))) po_none (po_some (pv 1))) pa_nil)) pa_nil))))), ?_⟩
    refine ⟨by show 13 ≤ sizeLine; decide, fun l hl => ?_⟩
    have nl := pot_ne hp hl
    have s1 := Same.new (o := .lst (wordsL.map V.str)) hl
    have e1 : (upd H l (.lst (wordsL.map V.str))) l = _ := upd_same
    refine ⟨_, rfl, _, rfl, p, l, _, rfl, hp.same s1, nl, e1, by rw [List.length_map]; decide, fun q ys H2 hperm hq nqp nq p2 b2 => ?_⟩
    obtain ⟨us, rfl, hus⟩ := map_perm hperm
    have ul : us.length = 13 := hus.length_eq
    refine ⟨_, rfl, _, rfl, q, _, rfl, SqL.of hq, fun c hc => ?_⟩
    have s3 := Same.new (o := .lst (cutV (us.map V.str) none (some (n : Int)))) hc
    have e3 : (upd H2 c (.lst (cutV (us.map V.str) none (some (n : Int))))) c = _ := upd_same
    have ec : cutV (us.map V.str) none (some (n : Int)) = (us.take n).map V.str := by
      unfold cutV
      rw [HT.sIx_nat, HT.sIx_none, List.length_map, List.drop_zero, Nat.sub_zero, Nat.min_eq_left (by omega), List.map_take]
    rw [ec] at e3 s3
    rw [ec]
    refine ⟨c, us.take n, rfl, SqL.of e3, by rw [List.length_take]; omega, fun zs d hz hord hd => ?_⟩
    refine ⟨d, _, rfl, .inl ⟨SqL.of upd_same, fun u hu => ?_⟩⟩
    have s4 := Same.new (o := .lst (zs.map V.str)) hd
    have s5 := Same.new (o := .tup (zs.map V.str)) hu
    have p5 := ((p2.same s3).same s4).same s5
    have h2u : H2 u = none := none_up s3 (none_up s4 hu)
    have nup := pot_ne p2 h2u
    have hu0 : H u = none := none_up s1 (by
      cases e : (upd H l (.lst (wordsL.map V.str))) u with
      | none => rfl
      | some o => rw [b2 _ _ e nup] at h2u; cases h2u)
    have mem : ∀ z ∈ zs, z ∈ us := fun z h => List.mem_of_mem_take (hz.subset h)
    refine k u zs _ ⟨fun z h => hus.subset (mem z h), ?_, hord⟩ (by rw [hz.length_eq, List.length_take]; omega) upd_same hu0 p5 ((((But.of s1).trans b2).trans (But.of (s3.trans s4))).trans (But.of s5))
    exact hz.nodup_iff.mpr ((hus.nodup_iff.mpr (by decide +kernel)).sublist (List.take_sublist _ _))
end
end V0

namespace V0
open PySem PySem.Spec PyProof.Rows L2
/-! ### lists of pairs, of which dicts are made -/
def PairsV (H : Hp) (D : Addr) (kvs : List (Key × V)) : Prop := ∃ ts : List Addr, H D = some (.lst (ts.map V.ref)) ∧ Paired (fun t (q : Key × V) => H t = some (.tup [kV q.1, q.2])) ts kvs
theorem paired_mono {α β : Type} {R S : α → β → Prop} : ∀ {xs : List α} {ys : List β}, (∀ a b, R a b → S a b) → Paired R xs ys → Paired S xs ys
  | _, _, _, .nil => .nil
  | _, _, h, .cons a b => .cons (h _ _ a) (paired_mono h b)
theorem paired_snoc {α β : Type} {R : α → β → Prop} {a : α} {b : β} : ∀ {xs : List α} {ys : List β}, Paired R xs ys → R a b → Paired R (xs ++ [a]) (ys ++ [b])
  | _, _, .nil, h => .cons h .nil
  | _, _, .cons a b, h => .cons a (paired_snoc b h)
theorem PairsV.same {H H' : Hp} {D : Addr} {kvs : List (Key × V)} (h : PairsV H D kvs) (s : Same H H') : PairsV H' D kvs := by
  obtain ⟨ts, h1, h2⟩ := h
  exact ⟨ts, s _ _ h1, paired_mono (fun _ _ e => s _ _ e) h2⟩
theorem PairsV.but {H H' : Hp} {D p : Addr} {kvs : List (Key × V)} {xs : List V} (h : PairsV H D kvs) (s : But p H H') (hp : H p = some (.lst xs)) (n : D ≠ p) : PairsV H' D kvs := by
  obtain ⟨ts, h1, h2⟩ := h
  exact ⟨ts, s _ _ h1 n, paired_mono (fun t _ e => s _ _ e (ne_of e hp fun z => nomatch z)) h2⟩
theorem PairsV.nil {H : Hp} {D : Addr} (h : H D = some (.lst [])) : PairsV H D [] := ⟨[], h, .nil⟩
/-- one pair more -/
theorem PairsV.step {H : Hp} {D t : Addr} {kvs : List (Key × V)} {k : Key} {v : V} (h : PairsV H D kvs) (ht : H t = none) :
    ∃ acc, (upd H t (.tup [kV k, v])) D = some (.lst acc) ∧ acc.length = kvs.length ∧ PairsV (upd (upd H t (.tup [kV k, v])) D (.lst (acc ++ [.ref t]))) D (kvs ++ [(k, v)]) := by
  obtain ⟨ts, h1, h2⟩ := h
  have s := Same.new (o := .tup [kV k, v]) ht
  refine ⟨ts.map V.ref, s _ _ h1, by rw [List.length_map]; exact h2.length, ts ++ [t], by rw [upd_same, List.map_append]; rfl, ?_⟩
  refine paired_snoc (paired_mono (fun b q e => ?_) h2) ?_
  · rw [upd_ne (ne_of e h1 fun z => nomatch z)]
    exact s _ _ e
  · rw [upd_ne (ne_of_none h1 ht).symm, upd_same]
theorem mergeK_app : ∀ (more kvs : List (Key × V)), (kvs.map (·.1) ++ more.map (·.1)).Nodup → mergeK kvs more = kvs ++ more
  | [], kvs, _ => by simp [mergeK]
  | p :: more, kvs, h => by
    have hn : p.1 ∉ kvs.map (·.1) := fun z => by
      have := (List.nodup_append.mp h).2.2 _ z p.1 (by simp)
      exact this rfl
    have put : ∀ l : List (Key × V), p.1 ∉ l.map (·.1) → putK l p.1 p.2 = l ++ [p] := fun l hq => by
      have h1 : (l.any fun kv => decide (kv.1 = p.1)) = false := by
        rw [List.any_eq_false]
        intro q hm z
        exact hq (List.mem_map.mpr ⟨q, hm, of_decide_eq_true z⟩)
      unfold putK
      rw [if_neg (by rw [h1]; exact Bool.false_ne_true)]
    show mergeK (putK kvs p.1 p.2) more = _
    rw [put kvs hn, mergeK_app more (kvs ++ [p]) (by simpa using h)]
    simp
theorem mergeK_nil {kvs : List (Key × V)} (h : (kvs.map (·.1)).Nodup) : mergeK [] kvs = kvs := mergeK_app kvs [] (by simpa using h)
theorem kvs_nd {ps : Bag} (h : (nms ps).Nodup) : ((kvs ps).map (·.1)).Nodup := by
  rw [kvs_keys]
  exact List.Pairwise.map _ (fun a b e z => e (Sum.inr.inj z)) h
/-- what dict(..) asks of the list -/
theorem PairsV.dict {K : PySem.W.Frag} {H : Hp} {D : Addr} {kvs : List (Key × V)} {Q : VK} (h : PairsV H D kvs) (nd : (kvs.map (·.1)).Nodup) (k : ∀ p, H p = none → Q (.ref p) (upd H p (.dK kvs))) :
    ∃ (a : Addr) (ps : List Addr) (qs : List (Key × V)), [V.ref D] = [.ref a] ∧ SqL K H a (ps.map V.ref) ∧ Paired (fun p kv => SqT K H p [kV kv.1, kv.2]) ps qs ∧ ∀ p, H p = none → Q (.ref p) (upd H p (.dK (mergeK [] qs))) := by
  obtain ⟨ts, h1, h2⟩ := h
  exact ⟨D, ts, kvs, rfl, SqL.of h1, paired_mono (fun _ _ e => SqT.of e) h2, by rw [mergeK_nil nd]; exact k⟩
/-! ### the law's numbers -/
def spNumber : Sp := fun vs H Q _ => ∃ (p : Addr), vs = [.ref p] ∧ Pot H p ∧ ∀ (r : Int) (H' : Hp), r.natAbs < 10 ^ 30 → Pot H' p → But p H H' → Q (.int r) H'
section
variable {P : Program} {w : World} {K : PySem.W.Frag} {mg : Str → Option Value} {base : Heap}
abbrev s_number : Stmt := top 37
abbrev N_number : List Str := ["_law_pot_here", "_law_way", "_law_great"]
abbrev P_number : List Str := ["_law_pot_here"]
theorem sc_number : FnScope N_number P_number (defScope s_number) := ⟨rfl, rfl, rfl, by decide +kernel, rfl, by decide +kernel, by decide +kernel⟩
theorem ok_number {f f1 : Addr} {fd fd1 : FuncData} (B : Bl mg) (D_stir : Df K mg "_law_stir" s_stir P_stir f1 fd1) (D : Df K mg "_law_number" s_number P_number f fd) : FnOk P w K mg base CX0 2 f fd P_number spNumber := by
  have G_stir : FnOk P w K mg base CX0 1 f1 fd1 P_stir spStir := ok_stir B D_stir
  refine D.F.ok sc_number (fun vs H Q E h => ?_) (fun cdv A outer s H vs Q E hr h => ?_)
  · obtain ⟨p, rfl, _⟩ := h
    rfl
  · obtain ⟨p, rfl, hp, k⟩ := h
    refine ⟨_, (pss_cons (ps_set (i := 1) sc_number.nd rfl (Or.inl rfl) (pe_call G_stir (hr.mono (by decide)) (by rfl) D_stir.g D_stir.F.kp D_stir.b .nil pass0 (pa_cons (pv 0) (pa_cons pe_int pa_nil))))
      (pss_cons (ps_if (pt_cmpR op_lt (pv 1) pe_int (nomark _)) (pss_one (ps_ret (pe_op op_sub (pe_call G_stir (hr.mono (by decide)) (by rfl) D_stir.g D_stir.F.kp D_stir.b .nil pass0 (pa_cons (pv 0) (pa_cons pe_int pa_nil))) pe_int))) pss_nil)
      (pss_cons (ps_set (i := 2) sc_number.nd rfl (Or.inl rfl) (pe_op op_add (pe_op op_mul (pe_call G_stir (hr.mono (by decide)) (by rfl) D_stir.g D_stir.F.kp D_stir.b .nil pass0 (pa_cons (pv 0) (pa_cons (pe_op op_pow pe_int pe_int) pa_nil))) (pe_op op_pow pe_int pe_int)) (pe_call G_stir (hr.mono (by decide)) (by rfl) D_stir.g D_stir.F.kp D_stir.b .nil pass0 (pa_cons (pv 0) (pa_cons (pe_op op_pow pe_int pe_int) pa_nil)))))
      (pss_one (ps_ret (pe_ifExp (pt_cmpR op_eq (pv 1) pe_int (nomark _)) (pv 2) (pe_op op_sub pe_int (pv 2)))))))), ?_⟩
    refine ⟨_, rfl, p, 6, rfl, hp, by omega, by omega, fun r H1 r0 r1 p1 b1 => ?_⟩
    refine ⟨_, rfl, _, _, rfl, rfl, _, rfl, ite2 (fun e => ?_) (fun e => ?_)⟩
    · refine ⟨_, rfl, p, 9, rfl, p1, by omega, by omega, fun q H2 q0 q1 p2 b2 => ?_⟩
      exact ⟨_, _, rfl, rfl, k _ _ (by omega) p2 (b1.trans b2)⟩
    · refine ⟨_, rfl, _, _, rfl, rfl, ⟨by decide, by decide, by decide⟩, ?_⟩
      have t15 : (10 : Int) ^ Int.toNat 15 = 1000000000000000 := by decide +kernel
      refine ⟨p, _, rfl, p1, by rw [t15]; decide, by rw [t15]; decide, fun q H2 q0 q1 p2 b2 => ?_⟩
      rw [t15] at q1
      refine ⟨_, _, rfl, rfl, ⟨by decide, by decide, by decide⟩, _, _, rfl, rfl, .inl ⟨by omega, by omega⟩, ?_⟩
      refine ⟨_, rfl, _, _, rfl, rfl, ⟨by decide, by decide, by decide⟩, p, _, rfl, p2, by rw [t15]; decide, by rw [t15]; decide, fun q2 H3 z0 z1 p3 b3 => ?_⟩
      rw [t15] at z1 ⊢
      have bb := (b1.trans b2).trans b3
      refine ⟨_, _, rfl, rfl, _, rfl, rfl, _, rfl, ite2 (fun _ => ?_) (fun _ => ?_)⟩
      · exact ⟨_, rfl, k _ _ (by omega) p3 bb⟩
      · exact ⟨_, rfl, _, _, rfl, rfl, k _ _ (by omega) p3 bb⟩
end
end V0

namespace V0
open PySem PySem.Spec PyProof.Rows L2
/-- what the law draws for a charge -/
structure S8 (ps : Bag) (u : Int) : Prop where
  asc : (nms ps).Pairwise (fun a b => a.cps.toList < b.cps.toList)
  sub : ∀ z ∈ nms ps, z ∈ wordsL
  nm : ∀ z ∈ nms ps, nameB (.str z) = true ∧ z.length ≤ 8
  nb : ∀ p ∈ ps, p.2.natAbs < 10 ^ 40
  l1 : 1 ≤ ps.length
  l8 : ps.length ≤ 8
  u0 : 0 < u
  ub : u < 10 ^ 10
def SomeAt (H : Hp) (a : Addr) (ps : Bag) (u : Int) : Prop := ∃ d, H a = some (.tup [.ref d, .int u]) ∧ H d = some (.dK (kvs ps))
theorem SomeAt.same {H H' : Hp} {a : Addr} {ps : Bag} {u : Int} (h : SomeAt H a ps u) (s : Same H H') : SomeAt H' a ps u := by
  obtain ⟨d, h1, h2⟩ := h
  exact ⟨d, s _ _ h1, s _ _ h2⟩
theorem SomeAt.but {H H' : Hp} {a p : Addr} {ps : Bag} {u : Int} (h : SomeAt H a ps u) (s : But p H H') (hp : Pot H p) : SomeAt H' a ps u := by
  obtain ⟨_, _, _, hp, _⟩ := hp
  obtain ⟨d, h1, h2⟩ := h
  exact ⟨d, s _ _ h1 (ne_of h1 hp fun z => nomatch z), s _ _ h2 (ne_of h2 hp fun z => nomatch z)⟩
def spSums : Sp := fun vs H Q _ => ∃ (p l : Addr) (zs : List Str), vs = [.ref p, .ref l] ∧ Pot H p ∧ H l = some (tupS zs) ∧ zs.Nodup ∧ zs.length ≤ 8 ∧
  ∀ (a : Addr) (ps : Bag) (u : Int) (H' : Hp), nms ps = zs → (∀ q ∈ ps, q.2.natAbs < 10 ^ 30) → 0 < u → u < 10 ^ 10 → SomeAt H' a ps u → Pot H' p → But p H H' → Q (.ref a) H'
section
variable {P : Program} {w : World} {K : PySem.W.Frag} {mg : Str → Option Value} {base : Heap}
/-- the state of a walk that draws a number for each thing -/
def Dw (H : Hp) (p D : Addr) (zs : List Str) (i : Nat) (H' : Hp) : Prop := Pot H' p ∧ But p H H' ∧ ∃ ps : Bag, nms ps = zs.take i ∧ (∀ q ∈ ps, q.2.natAbs < 10 ^ 30) ∧ PairsV H' D (kvs ps)
theorem dw0 {H : Hp} {p D : Addr} {zs : List Str} (hp : Pot H p) (hD : H D = none) : Dw H p D zs 0 (upd H D (.lst [])) :=
  ⟨hp.same (Same.new hD), But.new hD, [], rfl, fun _ h => (by simp at h), PairsV.nil upd_same⟩
theorem dw1 {H H1 H2 : Hp} {p D t : Addr} {zs : List Str} {i : Nat} {z : Str} {r : Int} (hD : H D = none) (hz : zs[i]? = some z) (h : Dw H p D zs i H1) (nDp : D ≠ p) (hp : Pot H p) (p2 : Pot H2 p) (b2 : But p H1 H2) (hr : r.natAbs < 10 ^ 30) (ht : H2 t = none) (l8 : zs.length ≤ 8) :
    ∃ acc, (upd H2 t (.tup [.str z, .int r])) D = some (.lst acc) ∧ acc.length < sizeLine ∧ Dw H p D zs (i + 1) (upd (upd H2 t (.tup [.str z, .int r])) D (.lst (acc ++ [.ref t]))) := by
  obtain ⟨p1, b1, ps, e1, e2, e3⟩ := h
  obtain ⟨_, _, _, hp1, _⟩ := p1
  obtain ⟨acc, a1, a2, a3⟩ := (e3.but b2 hp1 nDp).step (k := .inr z) (v := .int r) ht
  have ln : ps.length ≤ 8 := by
    have := congrArg List.length e1
    rw [nms_len, List.length_take] at this
    omega
  refine ⟨acc, a1, by rw [a2, kvs_len, sizeLine_eq]; omega, ?_, ?_, ps ++ [(z, r)], ?_, ?_, ?_⟩
  · have := p2.same (Same.new (o := .tup [.str z, .int r]) ht)
    exact this.but But.upd nDp.symm
  · intro b o e hb
    have hbD : b ≠ D := fun q => by rw [q, hD] at e; cases e
    rw [upd_ne hbD]
    have e' := b2 _ _ (b1 _ _ e hb) hb
    exact Same.new (o := .tup [.str z, .int r]) ht _ _ e'
  · rw [List.take_add_one, hz, ← e1]
    unfold nms
    rw [List.map_append]
    rfl
  · intro q hq
    rcases List.mem_append.mp hq with hq | hq
    · exact e2 q hq
    · rw [List.mem_singleton] at hq
      subst hq
      exact hr
  · have : kvs (ps ++ [(z, r)]) = kvs ps ++ [(.inr z, .int r)] := by unfold kvs; rw [List.map_append]; rfl
    rw [this]
    exact a3
abbrev s_sums : Stmt := top 38
abbrev N_sums : List Str := ["_law_pot_here", "_law_things", "_law_way", "_law_one"]
abbrev P_sums : List Str := ["_law_pot_here", "_law_things"]
theorem sc_sums : FnScope N_sums P_sums (defScope s_sums) := ⟨rfl, rfl, rfl, by decide +kernel, rfl, by decide +kernel, by decide +kernel⟩
theorem ok_sums {f f1 f2 f3 : Addr} {fd fd1 fd2 fd3 : FuncData} (B : Bl mg) (D_stir : Df K mg "_law_stir" s_stir P_stir f1 fd1) (D_one_of : Df K mg "_law_one_of" s_one_of P_one_of f2 fd2) (D_number : Df K mg "_law_number" s_number P_number f3 fd3) (D : Df K mg "_law_sums" s_sums P_sums f fd) : FnOk P w K mg base CX0 3 f fd P_sums spSums := by
  have G_stir : FnOk P w K mg base CX0 1 f1 fd1 P_stir spStir := ok_stir B D_stir
  have G_one_of : FnOk P w K mg base CX0 2 f2 fd2 P_one_of (spOneOf K) := ok_one_of B D_stir D_one_of
  have G_number : FnOk P w K mg base CX0 2 f3 fd3 P_number spNumber := ok_number B D_stir D_number
  refine D.F.ok sc_sums (fun vs H Q E h => ?_) (fun cdv A outer s H vs Q E hr h => ?_)
  · obtain ⟨p, l, zs, rfl, _⟩ := h
    rfl
  · obtain ⟨p, l, zs, rfl, hp, hl, nd, l8, k⟩ := h
    refine ⟨_, (pss_cons (ps_set (i := 2) sc_sums.nd rfl (Or.inl rfl) (pe_call G_stir (hr.mono (by decide)) (by rfl) D_stir.g D_stir.F.kp D_stir.b .nil pass0 (pa_cons (pv 0) (pa_cons pe_int pa_nil))))
      (pss_cons (ps_if (pt_cmpR op_eq (pv 2) pe_int (nomark _)) (pss_one (ps_ret (pe_tup (pa_cons (pe_callTy (call_dictP rfl) (by rfl) B.b_dict (by decide +kernel) (pa_cons (pe_lc (own := [("_law_one", 3)]) (g := gName 3) (tt := tYes) rfl sc_sums.nd (pi_tup (pv 1)) (blkOk_by (own := [("_law_one", 3)]) (N := N_sums) (sc := defScope s_sums) (by decide +kernel)) (fun _ _ _ _ _ => (pg_name (i := 3) sc_sums.nd rfl (Or.inl rfl))) (fun _ _ _ _ _ => pts_nil) (fun _ _ _ _ _ => (pe_tup (pa_cons (pv 3) (pa_cons (pe_call G_stir (hr.mono (by decide)) (by rfl) D_stir.g D_stir.F.kp D_stir.b .nil pass0 (pa_cons (pv 0) (pa_cons pe_int pa_nil))) pa_nil))))) pa_nil)) (pa_cons pe_int pa_nil))))) pss_nil)
      (pss_cons (ps_if (pt_cmpR op_eq (pv 2) pe_int (nomark _)) (pss_one (ps_ret (pe_tup (pa_cons (pe_callTy (call_dictP rfl) (by rfl) B.b_dict (by decide +kernel) (pa_cons (pe_lc (own := [("_law_one", 3)]) (g := gName 3) (tt := tYes) rfl sc_sums.nd (pi_tup (pv 1)) (blkOk_by (own := [("_law_one", 3)]) (N := N_sums) (sc := defScope s_sums) (by decide +kernel)) (fun _ _ _ _ _ => (pg_name (i := 3) sc_sums.nd rfl (Or.inl rfl))) (fun _ _ _ _ _ => pts_nil) (fun _ _ _ _ _ => (pe_tup (pa_cons (pv 3) (pa_cons (pe_call G_stir (hr.mono (by decide)) (by rfl) D_stir.g D_stir.F.kp D_stir.b .nil pass0 (pa_cons (pv 0) (pa_cons pe_int pa_nil))) pa_nil))))) pa_nil)) (pa_cons (pe_op op_add pe_int (pe_call G_stir (hr.mono (by decide)) (by rfl) D_stir.g D_stir.F.kp D_stir.b .nil pass0 (pa_cons (pv 0) (pa_cons pe_int pa_nil)))) pa_nil))))) pss_nil)
      (pss_one (ps_ret (pe_tup (pa_cons (pe_callTy (call_dictP rfl) (by rfl) B.b_dict (by decide +kernel) (pa_cons (pe_lc (own := [("_law_one", 3)]) (g := gName 3) (tt := tYes) rfl sc_sums.nd (pi_tup (pv 1)) (blkOk_by (own := [("_law_one", 3)]) (N := N_sums) (sc := defScope s_sums) (by decide +kernel)) (fun _ _ _ _ _ => (pg_name (i := 3) sc_sums.nd rfl (Or.inl rfl))) (fun _ _ _ _ _ => pts_nil) (fun _ _ _ _ _ => (pe_tup (pa_cons (pv 3) (pa_cons (pe_call G_number (hr.mono (by decide)) (by rfl) D_number.g D_number.F.kp D_number.b .nil pass0 (pa_cons (pv 0) pa_nil)) pa_nil))))) pa_nil)) (pa_cons (pe_op op_add pe_int (pe_call G_stir (hr.mono (by decide)) (by rfl) D_stir.g D_stir.F.kp D_stir.b .nil pass0 (pa_cons (pv 0) (pa_cons (pe_call G_one_of (hr.mono (by decide)) (by rfl) D_one_of.g D_one_of.F.kp D_one_of.b .nil pass0 (pa_cons (pv 0) (pa_cons (pe_lst (pa_cons pe_int (pa_cons pe_int (pa_cons (pe_op op_pow pe_int pe_int) pa_nil)))) pa_nil))) pa_nil)))) pa_nil)))))))), ?_⟩
    have nlp : l ≠ p := by
      obtain ⟨_, _, _, hp, _⟩ := hp
      exact ne_of hl hp fun z => nomatch z
    refine ⟨_, rfl, p, 4, rfl, hp, by omega, by omega, fun r H1 r0 r1 p1 b1 => ?_⟩
    have hl1 := b1 _ _ hl nlp
    -- the end: a dict out of the pairs, a number
    have fin : ∀ (D : Addr) (H2 : Hp), H1 D = none → Dw H1 p D zs zs.length H2 → ∀ (u : Int) (H3 : Hp) (d a : Addr), H2 d = none → 0 < u → u < 10 ^ 10 →
        (∃ ps : Bag, nms ps = zs ∧ (∀ q ∈ ps, q.2.natAbs < 10 ^ 30) ∧ H3 d = some (.dK (kvs ps))) → Pot H3 p → But p H2 H3 → H3 a = none → Q (.ref a) (upd H3 a (.tup [.ref d, .int u])) := by
      rintro D H2 hD ⟨p2, b2, _⟩ u H3 d a hd hu hub ⟨ps, e1, e2, e3⟩ p3 b3 ha
      have s4 := Same.new (o := .tup [.ref d, .int u]) ha
      exact k a ps u _ e1 e2 hu hub ⟨d, upd_same, s4 _ _ e3⟩ (p3.same s4) (((b1.trans b2).trans b3).trans (But.of s4))
    have mk : ∀ (D : Addr) (H2 : Hp), Dw H1 p D zs zs.length H2 →
        ∃ (ts : List Addr) (ps : Bag), nms ps = zs ∧ (∀ q ∈ ps, q.2.natAbs < 10 ^ 30) ∧ SqL K H2 D (ts.map V.ref) ∧ Paired (fun p (kv : Key × V) => SqT K H2 p [kV kv.1, kv.2]) ts (kvs ps) ∧ mergeK [] (kvs ps) = kvs ps := by
      rintro D H2 ⟨p2, b2, ps, e1, e2, ts, t1, t2⟩
      rw [List.take_length] at e1
      exact ⟨ts, ps, e1, e2, SqL.of t1, paired_mono (fun _ _ e => SqT.of e) t2, mergeK_nil (kvs_nd (by rw [e1]; exact nd))⟩
    have item : ∀ {i : Nat} {x : V}, ((zs.map V.str)[i]? = some x) → ∃ z, zs[i]? = some z ∧ x = .str z := fun {i x} h => by
      rw [List.getElem?_map] at h
      cases e : zs[i]? with
      | none => rw [e] at h; cases h
      | some z => rw [e] at h; injection h with h; exact ⟨z, rfl, h.symm⟩
    refine ⟨_, rfl, rfl, _, rfl, ite2 (fun _ => ?_) (fun _ => ?_)⟩
    · refine ⟨_, rfl, l, rfl, ⟨_, SqT.of hl1⟩, fun D hD => ?_⟩
      have nDp := pot_ne p1 hD
      refine lc_it (walk_tup (xs := zs.map V.str)) (fun i H' => Dw H1 p D zs i H') (dw0 p1 hD) (fun i H' _ ⟨q1, q2, _⟩ => SqT.of (q2 _ _ hl1 nlp)) ?_ ?_
      · rintro i x H2 H3 hi dw ⟨rfl, hx⟩
        obtain ⟨z, hz, rfl⟩ := item hx
        refine ⟨rfl, _, rfl, _, rfl, p, 2, rfl, dw.1, by omega, by omega, fun q H4 q0 q1 p4 b4 => ⟨by show 2 ≤ sizeLine; decide, fun t ht => ?_⟩⟩
        exact dw1 hD hz dw nDp p1 p4 b4 (by omega) ht l8
      · intro H2 dw
        rw [List.length_map] at dw
        obtain ⟨ts, ps, e1, e2, t1, t2, t3⟩ := mk D H2 dw
        refine ⟨D, ts, kvs ps, rfl, t1, t2, fun d hd => ?_⟩
        rw [t3]
        have s3 := Same.new (o := .dK (kvs ps)) hd
        exact ⟨by show 2 ≤ sizeLine; decide, fun a ha => fin D H2 hD dw 1 _ d a hd (by decide) (by decide) ⟨ps, e1, e2, upd_same⟩ (dw.1.same s3) (But.of s3) ha⟩
    refine ⟨_, rfl, rfl, _, rfl, ite2 (fun _ => ?_) (fun _ => ?_)⟩
    · refine ⟨_, rfl, l, rfl, ⟨_, SqT.of hl1⟩, fun D hD => ?_⟩
      have nDp := pot_ne p1 hD
      refine lc_it (walk_tup (xs := zs.map V.str)) (fun i H' => Dw H1 p D zs i H') (dw0 p1 hD) (fun i H' _ ⟨q1, q2, _⟩ => SqT.of (q2 _ _ hl1 nlp)) ?_ ?_
      · rintro i x H2 H3 hi dw ⟨rfl, hx⟩
        obtain ⟨z, hz, rfl⟩ := item hx
        refine ⟨rfl, _, rfl, _, rfl, p, 5, rfl, dw.1, by omega, by omega, fun q H4 q0 q1 p4 b4 => ⟨by show 2 ≤ sizeLine; decide, fun t ht => ?_⟩⟩
        exact dw1 hD hz dw nDp p1 p4 b4 (by omega) ht l8
      · intro H2 dw
        rw [List.length_map] at dw
        obtain ⟨ts, ps, e1, e2, t1, t2, t3⟩ := mk D H2 dw
        refine ⟨D, ts, kvs ps, rfl, t1, t2, fun d hd => ?_⟩
        rw [t3]
        have s3 := Same.new (o := .dK (kvs ps)) hd
        have p3 := dw.1.same s3
        have ed : (upd H2 d (.dK (kvs ps))) d = some (.dK (kvs ps)) := upd_same
        generalize upd H2 d (.dK (kvs ps)) = H3 at s3 p3 ed
        refine ⟨_, rfl, p, 4, rfl, p3, by omega, by omega, fun q H4 q0 q1 p4 b4 => ⟨_, _, rfl, rfl, by show 2 ≤ sizeLine; decide, fun a ha => ?_⟩⟩
        obtain ⟨_, _, _, hp3, _⟩ := p3
        exact fin D H2 hD dw (1 + q) _ d a hd (by omega) (by omega) ⟨ps, e1, e2, b4 _ _ ed (ne_of ed hp3 fun z => nomatch z)⟩ p4 ((But.of s3).trans b4) ha
    · refine ⟨_, rfl, l, rfl, ⟨_, SqT.of hl1⟩, fun D hD => ?_⟩
      have nDp := pot_ne p1 hD
      refine lc_it (walk_tup (xs := zs.map V.str)) (fun i H' => Dw H1 p D zs i H') (dw0 p1 hD) (fun i H' _ ⟨q1, q2, _⟩ => SqT.of (q2 _ _ hl1 nlp)) ?_ ?_
      · rintro i x H2 H3 hi dw ⟨rfl, hx⟩
        obtain ⟨z, hz, rfl⟩ := item hx
        refine ⟨rfl, _, rfl, _, rfl, p, rfl, dw.1, fun q H4 q0 p4 b4 => ⟨by show 2 ≤ sizeLine; decide, fun t ht => ?_⟩⟩
        exact dw1 hD hz dw nDp p1 p4 b4 q0 ht l8
      · intro H2 dw
        rw [List.length_map] at dw
        obtain ⟨ts, ps, e1, e2, t1, t2, t3⟩ := mk D H2 dw
        refine ⟨D, ts, kvs ps, rfl, t1, t2, fun d hd => ?_⟩
        rw [t3]
        have s3 := Same.new (o := .dK (kvs ps)) hd
        have p3 := dw.1.same s3
        have ed : (upd H2 d (.dK (kvs ps))) d = some (.dK (kvs ps)) := upd_same
        generalize upd H2 d (.dK (kvs ps)) = H3 at s3 p3 ed
        have t9 : (10 : Int) ^ Int.toNat 9 = 1000000000 := by decide +kernel
        refine ⟨_, rfl, _, rfl, _, _, rfl, rfl, ⟨by decide, by decide, by decide⟩, by show 3 ≤ sizeLine; decide, fun o ho => ?_⟩
        have s4 := Same.new (o := .lst [.int 6, .int 12, .int ((10 : Int) ^ Int.toNat 9)]) ho
        refine ⟨p, .ref o, rfl, p3.same s4, .inl ⟨o, _, rfl, pot_ne p3 ho, upd_same, by simp, by show 3 ≤ 1000; decide, fun x hx H5 p5 b5 => ?_⟩⟩
        have hx' : ∃ n : Int, x = .int n ∧ 0 < n ∧ n ≤ 1000000000 := by
          dsimp only at hx
          rw [t9] at hx
          rcases List.mem_cons.mp hx with rfl | hx
          · exact ⟨_, rfl, by decide, by decide⟩
          rcases List.mem_cons.mp hx with rfl | hx
          · exact ⟨_, rfl, by decide, by decide⟩
          rw [List.mem_singleton] at hx
          exact ⟨_, hx, by decide, by decide⟩
        obtain ⟨n, rfl, n0, n1⟩ := hx'
        refine ⟨p, n, rfl, p5, n0, by omega, fun q H6 q0 q1 p6 b6 => ⟨_, _, rfl, rfl, by show 2 ≤ sizeLine; decide, fun a ha => ?_⟩⟩
        obtain ⟨_, _, _, hp3, _⟩ := p3
        have bb := ((But.of s4 (p := p)).trans b5).trans b6
        exact fin D H2 hD dw (1 + q) _ d a hd (by omega) (by omega) ⟨ps, e1, e2, bb _ _ ed (ne_of ed hp3 fun z => nomatch z)⟩ p6 ((But.of s3).trans bb) ha
end
end V0
namespace V0
open PySem PySem.Spec PyProof.Rows L2
section
variable {X : Cx} {CX : CXT} {k : Nat} {C : Addr} {name : Str} {sp : Sp} {E : XK}
/-- a + b, a - b of two objects of one class -/
def rBinO (C : Addr) (sp : Sp) (E : XK) : R2 := fun x y H Q => ∃ a dx fs b dy gs, x = .ref a ∧ H a = some (.ins C dx fs) ∧ y = .ref b ∧ H b = some (.ins C dy gs) ∧ sp [.ref a, .ref b] H (fun v H' => ∃ c, v = .ref c ∧ Q (.ref c) H') E
theorem op_binO {op : Operator} (O : OwnM X.prog X.w X.K X.mg X.base CX k C (PySem.dunder op.info.2) sp) (hc : PySem.W.selfFirst X.K C = true) (hr : Room k X.A) (hx : Passes CX X E) : OpR X (binaryOp op) (rBinO C sp E) := by
  intro pins s σ H x y v u Q I rx ry h
  obtain ⟨a, dx, fs, b, dy, gs, rfl, ha, rfl, hb, q⟩ := h
  cases (show v = Value.ref a from rx)
  cases (show u = Value.ref b from ry)
  obtain ⟨ox, od, J⟩ := inst_of I ha
  obtain ⟨oy, oe, J2⟩ := inst_of I hb
  obtain ⟨m, hF⟩ := I.fr
  obtain ⟨g, h1, h2, hw⟩ := O.run (A := X.A) (vs := [.ref a, .ref b]) (us := [.ref a, .ref b]) hr rfl hx I (.cons rfl (.cons rfl .nil)) q
  refine PySem.W.binop_K hF I.ok.mod.kin J J2.type hc h1 h2 (wpAny_mono hw (fun w s' z => ?_) fun _ _ x => x)
  obtain ⟨v', H', I', rv, c, rfl, q'⟩ := z
  cases (show w = Value.ref c from rv)
  exact ⟨.ref c, H', I', rfl, q'⟩
end
end V0

namespace V0
open PySem PySem.Spec PyProof.Rows L2
theorem fg_pos' {i j : Int} (h : i ≠ 0 ∨ j ≠ 0) : 0 < fg i j := by
  unfold fg
  rcases h with h | h
  · have := Nat.gcd_pos_of_pos_left j.natAbs (show 0 < i.natAbs by omega); omega
  · have := Nat.gcd_pos_of_pos_right i.natAbs (show 0 < j.natAbs by omega); omega
/-- the least common multiple, step by step -/
def lcmL (ds : List Int) (f : Int) : Int := ds.foldl (fun f d => f * (d / fg f d)) f
theorem log_txt {i : Int} (h : i.natAbs < 10 ^ 64) : i.natAbs.log2 < 1920 := by
  by_cases h0 : i.natAbs = 0
  · rw [h0]; decide
  · exact (Nat.log2_lt h0).mpr (Nat.lt_trans h (by decide +kernel))
section
variable {P : Program} {w : World} {K : PySem.W.Frag} {mg : Str → Option Value} {base : Heap}
abbrev s_low : Stmt := top 40
abbrev N_low : List Str := ["_law_top", "_law_bottom", "_law_first", "_law_second", "_law_sign"]
abbrev P_low : List Str := ["_law_top", "_law_bottom"]
theorem sc_low : FnScope N_low P_low (defScope s_low) := ⟨rfl, rfl, rfl, by decide +kernel, rfl, by decide +kernel, by decide +kernel⟩
theorem ok_low {f : Addr} {fd : FuncData} (B : Bl mg) (D : Df K mg "_law_low" s_low P_low f fd) : FnOk P w K mg base CX0 1 f fd P_low spFr := by
  refine D.F.ok sc_low (fun vs H Q E h => ?_) (fun cdv A outer s H vs Q E hr h => ?_)
  · obtain ⟨i, j, rfl, _⟩ := h
    rfl
  · obtain ⟨i, j, rfl, hj, hb, k⟩ := h
    refine ⟨_, (pss_cons (ps_par (i := 2) (j := 3) (by rfl) sc_low.nd rfl rfl (by decide) rfl rfl (pa_cons (pe_callB call_abs (by rfl) B.b_abs (by decide +kernel) (pa_cons (pv 0) pa_nil)) (pa_cons (pe_callB call_abs (by rfl) B.b_abs (by decide +kernel) (pa_cons (pv 1) pa_nil)) pa_nil)) (by rfl))
      (pss_cons (ps_while PassesOwn.never (pt_cmpR op_gt (pv 3) pe_int (nomark _)) (pss_one (ps_par (i := 2) (j := 3) (by rfl) sc_low.nd rfl rfl (by decide) rfl rfl (pa_cons (pv 3) (pa_cons (pe_op op_mod (pe_callTy call_int1 (by rfl) B.b_int (by decide +kernel) (pa_cons (pv 2) pa_nil)) (pv 3)) pa_nil)) (by rfl))))
      (pss_cons (ps_set (i := 4) sc_low.nd rfl (Or.inl rfl) (pe_ifExp (pt_cmpR op_gt (pv 1) pe_int (nomark _)) pe_int (pe_un un_neg pe_int)))
      (pss_one (ps_ret (pe_tup (pa_cons (pe_op op_mul (pe_callTy call_int1 (by rfl) B.b_int (by decide +kernel) (pa_cons (pe_op op_fdivZ (pv 0) (pv 2)) pa_nil)) (pv 4)) (pa_cons (pe_op op_mul (pe_callTy call_int1 (by rfl) B.b_int (by decide +kernel) (pa_cons (pe_op op_fdivZ (pv 1) (pv 2)) pa_nil)) (pv 4)) pa_nil)))))))), ?_⟩
    refine ⟨_, rfl, _, rfl, _, rfl, _, rfl, ?_⟩
    rw [abs_nn, abs_nn]
    refine ⟨_, _, rfl, ?_⟩
    have g0 := fg_pos (i := i) hj
    refine while_by (fun σ H' => H' = H ∧ ∃ a b : Nat, σ = [some (.int i), some (.int j), some (.int (a : Int)), some (.int (b : Int)), none] ∧ Nat.gcd a b = Nat.gcd i.natAbs j.natAbs) (fun σ _ => match σ with | [_, _, _, some (.int b), _] => b.natAbs | _ => 0) ⟨rfl, _, _, rfl, rfl⟩ ?_ ?_
    rotate_left
    · rintro σ H Q Q' hq ⟨v, h1, i, j, h2, h3, k, h4, h5⟩
      exact ⟨v, h1, i, j, h2, h3, k, h4, hq _ _ h5⟩
    rintro σ H' ⟨rfl, a, b, rfl, hg⟩
    refine ⟨_, rfl, _, _, rfl, rfl, _, rfl, ite2 (fun e => ?_) (fun e => ?_)⟩
    · have e' := of_decide_eq_true e
      have hb0 : 0 < b := by omega
      refine ⟨_, rfl, _, rfl, .inl ⟨_, rfl, _, rfl, _, _, rfl, rfl, e', ?_⟩⟩
      refine ⟨_, _, rfl, ⟨rfl, b, a % b, ?_, ?_⟩, ?_⟩
      · rw [Int.natCast_emod]; rfl
      · rw [← hg, Nat.gcd_comm a b]
        exact (Nat.gcd_comm _ _).trans (Nat.gcd_rec b a).symm
      · show (((a : Int) % (b : Int))).natAbs < ((b : Int)).natAbs
        rw [← Int.natCast_emod, Int.natAbs_natCast, Int.natAbs_natCast]
        exact Nat.mod_lt _ hb0
    · have e' : ¬ (0 : Int) < b := fun z => e (decide_eq_true z)
      have b0 : b = 0 := by omega
      subst b0
      rw [Nat.gcd_zero_right] at hg
      have ea : (a : Int) = fg i j := by rw [hg]; rfl
      rw [ea]
      have hz : CDivZ i (fg i j) ∧ CDivZ j (fg i j) := by
        have h1 : (fg i j).natAbs < 2 ^ 3000 := by
          have := gcd_le (i := i) (j := j) (by omega)
          show ((Nat.gcd i.natAbs j.natAbs : Nat) : Int).natAbs < _
          rw [Int.natAbs_natCast]
          omega
        exact ⟨div_z _ (by omega) h1 (by decide) (by decide), div_z _ (by omega) h1 (by decide) (by decide)⟩
      refine ⟨_, rfl, _, _, rfl, rfl, _, rfl, ite2 (fun _ => ?_) (fun z => absurd (decide_eq_true hj) z)⟩
      refine ⟨_, rfl, _, rfl, _, _, rfl, rfl, hz.1, .inl ⟨_, rfl, _, rfl, _, _, rfl, rfl, .inr ⟨by decide, by decide⟩, ?_⟩⟩
      refine ⟨_, rfl, _, rfl, _, _, rfl, rfl, hz.2, .inl ⟨_, rfl, _, rfl, _, _, rfl, rfl, .inr ⟨by decide, by decide⟩, by show 2 ≤ sizeLine; decide, fun p hp => ?_⟩⟩
      have q := k p hp
      rw [← Int.fdiv_eq_ediv_of_nonneg _ (show 0 ≤ fg i j by omega), ← Int.fdiv_eq_ediv_of_nonneg _ (show 0 ≤ fg i j by omega)] at q
      dsimp only
      rw [Int.mul_one, Int.mul_one]
      exact q
end
/-! ### the least common multiple of the denominators -/
theorem lcm_div {u G g : Nat} (hu : 0 < u) (h1 : G ∣ u) (h2 : g ∣ u) : (u / G) * ((u / g) / Nat.gcd (u / G) (u / g)) = u / Nat.gcd G g := by
  have hG : 0 < G := Nat.pos_of_dvd_of_pos h1 hu
  have hg : 0 < g := Nat.pos_of_dvd_of_pos h2 hu
  have hh : 0 < Nat.gcd G g := Nat.gcd_pos_of_pos_left _ hG
  obtain ⟨G', g', co, eG, eg⟩ := Nat.exists_coprime G g
  obtain ⟨a, ea⟩ := h1
  obtain ⟨b, eb⟩ := h2
  generalize hhd : Nat.gcd G g = h at *
  subst eG
  subst eg
  have a0 : u / (G' * h) = a := by rw [ea]; exact Nat.mul_div_cancel_left _ hG
  have b0 : u / (g' * h) = b := by rw [eb]; exact Nat.mul_div_cancel_left _ hg
  have e : G' * a = g' * b := by
    have : h * (G' * a) = h * (g' * b) := by
      rw [← Nat.mul_assoc, ← Nat.mul_assoc, Nat.mul_comm h G', Nat.mul_comm h g', ← ea, ← eb]
    exact Nat.eq_of_mul_eq_mul_left hh this
  have d : G' ∣ b := co.dvd_of_dvd_mul_left ⟨a, e.symm⟩
  obtain ⟨c, rfl⟩ := d
  have g0 : 0 < G' := by
    rcases Nat.eq_zero_or_pos G' with z | z
    · subst z; simp at hG
    · exact z
  have ac : a = g' * c := by
    have : G' * a = G' * (g' * c) := by rw [e, Nat.mul_left_comm]
    exact Nat.eq_of_mul_eq_mul_left g0 this
  have c0 : 0 < c := by
    rcases Nat.eq_zero_or_pos c with z | z
    · subst z; simp at eb; omega
    · exact z
  rw [a0, b0, ac, Nat.gcd_mul_right, (Nat.coprime_comm.mp co : Nat.gcd g' G' = 1), Nat.one_mul, Nat.mul_div_cancel _ c0]
  rw [ea, ac]
  have e2 : G' * h * (g' * c) = (g' * c * G') * h := by ac_rfl
  rw [e2, Nat.mul_div_cancel _ hh]
end V0

namespace V0
open PySem PySem.Spec PyProof.Rows L2
/-! ### the normal form, by numbers -/
theorem fg_mul {G i j : Int} (hG : 0 < G) : fg (G * i) (G * j) = G * fg i j := by
  unfold fg
  rw [Int.natAbs_mul, Int.natAbs_mul, Nat.gcd_mul_left, Int.natCast_mul]
  congr 1
  omega
/-- both parts of the lowest terms after a division of both -/
theorem low_div {G i j : Int} (hG : 0 < G) (hi : G ∣ i) (hj : G ∣ j) : (i / G) / fg (i / G) (j / G) = i / fg i j ∧ (j / G) / fg (i / G) (j / G) = j / fg i j := by
  obtain ⟨a, rfl⟩ := hi
  obtain ⟨b, rfl⟩ := hj
  rw [Int.mul_ediv_cancel_left _ (by omega), Int.mul_ediv_cancel_left _ (by omega), fg_mul hG, Int.mul_ediv_mul_of_pos _ _ hG, Int.mul_ediv_mul_of_pos _ _ hG]
  exact ⟨rfl, rfl⟩
theorem fg_l (i j : Int) : fg i j ∣ i := by
  unfold fg
  exact Int.ofNat_dvd_left.mpr (Nat.gcd_dvd_left _ _)
theorem fg_r (i j : Int) : fg i j ∣ j := by
  unfold fg
  exact Int.ofNat_dvd_left.mpr (Nat.gcd_dvd_right _ _)
theorem dvd_fg {G i j : Int} (hi : G ∣ i) (hj : G ∣ j) : G ∣ fg i j := by
  unfold fg
  rw [← Int.natAbs_dvd_natAbs, Int.natAbs_natCast]
  exact Nat.dvd_gcd (Int.natAbs_dvd_natAbs.mpr hi) (Int.natAbs_dvd_natAbs.mpr hj)
/-- a part by the least common denominator -/
theorem part_up {G i u : Int} (hG : 0 < G) (hu : 0 < u) (hi : G ∣ i) (hj : G ∣ u) : (i / fg i u) * ((u / G) / (u / fg i u)) = i / G := by
  have f0 := fg_pos (i := i) hu
  obtain ⟨m, hm⟩ := dvd_fg hi hj
  obtain ⟨i', hi'⟩ := fg_l i u
  obtain ⟨u', hu'⟩ := fg_r i u
  generalize hf : fg i u = f at *
  have u0 : 0 < u' := by
    rcases Int.lt_trichotomy 0 u' with z | z | z
    · exact z
    · rw [← z] at hu'; simp at hu'; omega
    · have := Int.mul_neg_of_pos_of_neg f0 z; omega
  subst hm
  have e1 : i / (G * m) = i' := by rw [hi']; exact Int.mul_ediv_cancel_left _ (by omega)
  have e2 : u / (G * m) = u' := by rw [hu']; exact Int.mul_ediv_cancel_left _ (by omega)
  have e3 : u / G = m * u' := by rw [hu', Int.mul_assoc]; exact Int.mul_ediv_cancel_left _ (by omega)
  have e4 : i / G = m * i' := by rw [hi', Int.mul_assoc]; exact Int.mul_ediv_cancel_left _ (by omega)
  rw [e1, e2, e3, e4, Int.mul_ediv_cancel _ (by omega), Int.mul_comm]
/-- and its second factor is no greater than u -/
theorem part_le {G i u : Int} (hG : 0 < G) (hu : 0 < u) : 0 ≤ (u / G) / (u / fg i u) ∧ (u / G) / (u / fg i u) ≤ u := by
  have a := Int.ediv_nonneg (a := u) (b := G) (by omega) (by omega)
  have f0 := fg_pos (i := i) hu
  have b := Int.ediv_nonneg (a := u) (b := fg i u) (by omega) (by omega)
  have c := Int.ediv_le_self (a := u) G (by omega)
  exact ⟨Int.ediv_nonneg a b, Int.le_trans (Int.ediv_le_self _ a) c⟩
theorem den_pos {i u : Int} (hu : 0 < u) : 0 < u / fg i u ∧ u / fg i u ≤ u := by
  have f0 := fg_pos (i := i) hu
  refine ⟨?_, Int.ediv_le_self _ (by omega)⟩
  have := fg_r i u
  exact Int.ediv_pos_of_pos_of_dvd hu (by omega) this
theorem lcm_fold {u : Int} (hu : 0 < u) : ∀ (ps : Bag) (g : Nat), g ∣ u.natAbs → lcmL (ps.map fun p => u / fg p.2 u) (u / (g : Int)) = u / ((ps.foldl (fun g p => Nat.gcd g p.2.natAbs) g : Nat) : Int)
  | [], _, _ => rfl
  | p :: ps, g, hg => by
    have hg' : Nat.gcd g p.2.natAbs ∣ u.natAbs := Nat.dvd_trans (Nat.gcd_dvd_left _ _) hg
    have st : (u / (g : Int)) * ((u / fg p.2 u) / fg (u / (g : Int)) (u / fg p.2 u)) = u / ((Nat.gcd g p.2.natAbs : Nat) : Int) := by
      obtain ⟨n, rfl⟩ : ∃ n : Nat, u = (n : Int) := ⟨u.toNat, by omega⟩
      rw [Int.natAbs_natCast] at hg
      have q := lcm_div (u := n) (G := g) (g := Nat.gcd p.2.natAbs n) (by omega) hg (Nat.gcd_dvd_right _ _)
      have e : Nat.gcd g (Nat.gcd p.2.natAbs n) = Nat.gcd g p.2.natAbs := by
        rw [Nat.gcd_comm p.2.natAbs n, ← Nat.gcd_assoc, Nat.gcd_eq_left hg]
      rw [e] at q
      unfold fg
      rw [Int.natAbs_natCast, ← Int.natCast_ediv, ← Int.natCast_ediv, Int.natAbs_natCast, Int.natAbs_natCast, ← Int.natCast_ediv, ← Int.natCast_mul, ← Int.natCast_ediv, q]
    show lcmL (ps.map fun p => u / fg p.2 u) ((u / (g : Int)) * ((u / fg p.2 u) / fg (u / (g : Int)) (u / fg p.2 u))) = _
    rw [st, lcm_fold hu ps _ hg']
    rfl
theorem lcm_nf {u : Int} {ps : Bag} (hu : 0 < u) : lcmL (ps.map fun p => u / fg p.2 u) 1 = nfU u ps := by
  have e := lcm_fold hu ps u.natAbs (Nat.dvd_refl _)
  have e1 : u / (u.natAbs : Int) = 1 := by
    rw [Int.natAbs_of_nonneg (by omega)]
    exact Int.ediv_self (by omega)
  rw [e1] at e
  exact e
section
variable {u : Int} {ps : Bag}
theorem gI (hu : 0 < u) : (0 : Int) < (gcdB u ps : Int) := by have := gcdB_pos (u := u) (ps := ps) (by omega); omega
theorem gU : (gcdB u ps : Int) ∣ u := Int.ofNat_dvd_left.mpr (gcdB_u u ps)
theorem gP {p : Str × Int} (h : p ∈ ps) : (gcdB u ps : Int) ∣ p.2 := Int.ofNat_dvd_left.mpr (gcdB_p h)
theorem gL (z : Str) : (gcdB u ps : Int) ∣ look ps z := by
  by_cases h : z ∈ nms ps
  · exact gP (look_mem h)
  · have : look ps z = 0 := by
      unfold look
      cases f : ps.find? (fun p => decide (p.1 = z)) with
      | none => rfl
      | some p => exact absurd (List.mem_map.mpr ⟨p, List.mem_of_find?_eq_some f, by simpa using List.find?_some f⟩) h
    rw [this]
    exact Int.dvd_zero _
theorem nfU_pos (hu : 0 < u) : 0 < nfU u ps := Int.ediv_pos_of_pos_of_dvd hu (by have := gI (ps := ps) hu; omega) gU
theorem nfU_le (hu : 0 < u) : nfU u ps ≤ u := Int.ediv_le_self _ (by omega)
theorem look_nf (z : Str) : look (nfB u ps) z = look ps z / (gcdB u ps : Int) := look_map (fun i => i / (gcdB u ps : Int)) (Int.zero_ediv _) ps z
theorem sumB_nf (hu : 0 < u) : ∀ zs : List Str, sumB ps zs = (gcdB u ps : Int) * sumB (nfB u ps) zs
  | [] => by simp [sumB]
  | z :: zs => by
    have ih := sumB_nf hu zs
    unfold sumB at ih ⊢
    rw [List.map_cons, List.map_cons, List.sum_cons, List.sum_cons, ih, Int.mul_add, look_nf, Int.mul_ediv_cancel' (gL z)]
/-- what a group pays, in lowest terms -/
theorem low_sum (hu : 0 < u) (zs : List Str) : sumB (nfB u ps) zs / fg (sumB (nfB u ps) zs) (nfU u ps) = sumB ps zs / fg (sumB ps zs) u ∧ nfU u ps / fg (sumB (nfB u ps) zs) (nfU u ps) = u / fg (sumB ps zs) u := by
  have g0 := gI (ps := ps) hu
  have e := sumB_nf (ps := ps) hu zs
  have q := low_div (G := (gcdB u ps : Int)) (i := sumB ps zs) (j := u) g0 ⟨_, e⟩ gU
  rw [show sumB ps zs / (gcdB u ps : Int) = sumB (nfB u ps) zs from by rw [e]; exact Int.mul_ediv_cancel_left _ (by omega)] at q
  exact q
theorem low_look (hu : 0 < u) (z : Str) : look (nfB u ps) z / fg (look (nfB u ps) z) (nfU u ps) = look ps z / fg (look ps z) u ∧ nfU u ps / fg (look (nfB u ps) z) (nfU u ps) = u / fg (look ps z) u := by
  rw [look_nf]
  exact low_div (gI hu) (gL z) gU
theorem nf_len : (nfB u ps).length = ps.length := by unfold nfB; rw [List.length_map]
theorem nf_bound {b : Nat} (hu : 0 < u) (h : ∀ p ∈ ps, p.2.natAbs < b) : ∀ p ∈ nfB u ps, p.2.natAbs < b := fun p hp => by
  obtain ⟨q, hq, rfl⟩ := List.mem_map.mp hp
  exact Nat.lt_of_le_of_lt (div_le (gI hu)) (h q hq)
/-- the text of a charge, by the numbers before they were divided -/
theorem text_nf (hu : 0 < u) : chText (nfB u ps) (nfU u ps) = Txt.join (Str.ofString ", ") (ps.map fun p => p.1 ++ Str.ofString " " ++ ftx (p.2 / fg p.2 u) (u / fg p.2 u)) := by
  unfold chText
  congr 1
  unfold nfB
  rw [List.map_map]
  refine List.map_congr_left fun p hp => ?_
  show piece (nfU u ps) (p.1, p.2 / (gcdB u ps : Int)) = _
  unfold piece
  have q := low_div (G := (gcdB u ps : Int)) (i := p.2) (j := u) (gI hu) (gP hp) gU
  show p.1 ++ _ ++ ftx (p.2 / (gcdB u ps : Int) / fg (p.2 / (gcdB u ps : Int)) (nfU u ps)) (nfU u ps / fg (p.2 / (gcdB u ps : Int)) (nfU u ps)) = _
  unfold nfU
  rw [q.1, q.2]
/-- a charge made of a dict in another order, all numbers times m -/
theorem chB_nf {m : Int} {qs : Bag} (hm : 0 < m) (hu : 0 < u) (nd : (nms ps).Nodup) (p : qs.Perm (ps.map fun p => (p.1, p.2 * m))) : nfU (u * m) qs = nfU u ps ∧ chB (nms ps) qs (u * m) = nfB u ps := by
  obtain ⟨e1, e2⟩ := nf_mul (u := u) (ps := ps) hm (by omega)
  have eg : gcdB (u * m) qs = gcdB (u * m) (ps.map fun p => (p.1, p.2 * m)) := gcdB_perm p
  have hn : nms (ps.map fun p => (p.1, p.2 * m)) = nms ps := by unfold nms; rw [List.map_map]; rfl
  have ndq : (nms qs).Nodup := (p.map (fun q : Str × Int => q.1)).nodup_iff.mpr (by
    show (nms (ps.map fun p => (p.1, p.2 * m))).Nodup
    rw [hn]; exact nd)
  refine ⟨?_, ?_⟩
  · rw [← e1]
    unfold nfU
    rw [eg]
  · rw [← e2]
    unfold chB bagOf
    rw [eg]
    rw [← look_self (ps := nfB (u * m) (ps.map fun p => (p.1, p.2 * m))) (by rw [nfB_nms, hn]; exact nd), nfB_nms, hn]
    refine List.map_congr_left fun z hz => ?_
    dsimp only
    rw [look_nf, look_perm ndq p]
end
end V0

namespace V0
open PySem PySem.Spec PyProof.Rows L2
/-! ### charges, as the law makes them -/
structure ChX (K : PySem.W.Frag) (C : Addr) : Prop where
  gi : ∀ g, PySem.W.findIn K (.ref C) "__getitem__" = some (some (.ref g)) → PySem.W.fnIn K g = true
  ne : PySem.W.findIn K (.ref C) "__ne__" = some (some (.builtin "object.__ne__"))
  ob : PySem.W.mroIn K C (.type "object") = some true
/-- all that the law uses of the class -/
structure Own (P : Program) (w : World) (K : PySem.W.Frag) (mg : Str → Option Value) (base : Heap) (C : Addr) (ad : Nat → Addr) (fdd : Nat → FuncData) : Prop where
  B : Bl mg
  M : Bm mg
  KCharge : Kls K mg "Charge" C
  N : ChN K C
  NX : ChX K C
  Y_init : ChK K C (ad 0) (fdd 0) s_Charge_init P_Charge_init
  G_init : FnOk P w K mg base CX0 4 (ad 0) (fdd 0) P_Charge_init (spInit C)
  Y_Charge_things : Pr K "Charge.things" "things" C s_Charge_things P_Charge_things (ad 20) (ad 1) (fdd 1)
  G_Charge_things : FnOk P w K mg base CX0 1 (ad 1) (fdd 1) P_Charge_things (spThings C)
  Y_Charge_unit : Pr K "Charge.unit" "unit" C s_Charge_unit P_Charge_unit (ad 21) (ad 2) (fdd 2)
  G_Charge_unit : FnOk P w K mg base CX0 1 (ad 2) (fdd 2) P_Charge_unit (spUnit C)
  Y_Charge_pays : Pr K "Charge.pays" "pays" C s_Charge_pays P_Charge_pays (ad 22) (ad 3) (fdd 3)
  G_Charge_pays : FnOk P w K mg base CX0 1 (ad 3) (fdd 3) P_Charge_pays (spPays C)
  Y_Charge_total : Pr K "Charge.total" "total" C s_Charge_total P_Charge_total (ad 23) (ad 4) (fdd 4)
  G_Charge_total : FnOk P w K mg base CX0 3 (ad 4) (fdd 4) P_Charge_total (spTotal C)
  Y_Charge_of : Md K "Charge.of" "of" C s_Charge_of P_Charge_of (ad 5) (fdd 5)
  G_Charge_of : FnOk P w K mg base CX0 3 (ad 5) (fdd 5) P_Charge_of (spOf C)
  Y_Charge_cut : Md K "Charge.cut" "cut" C s_Charge_cut P_Charge_cut (ad 6) (fdd 6)
  G_Charge_cut : FnOk P w K mg base CX0 7 (ad 6) (fdd 6) P_Charge_cut (spCut C)
  O_len : OwnM P w K mg base CX0 1 C "__len__" (spLen C)
  O_str : OwnM P w K mg base CX0 3 C "__str__" (spText C)
  O_iter : ItM P w K mg base 1 C "_things"
  O_item : OwnM P w K mg base CX0 2 C "__getitem__" (spItem C)
  O_cont : OwnM P w K mg base CX0 1 C "__contains__" (spCont C)
  O_eq : OwnM P w K mg base CX0 1 C "__eq__" (spEq K C)
theorem rising_asc : ∀ (p : Str) (l : List Str), (p :: l).Pairwise (fun a b => a.cps.toList < b.cps.toList) → risingS p l = true
  | _, [], _ => rfl
  | p, x :: l, h => by
    have h2 := List.pairwise_cons.mp h
    show (!ltCps x.cps.toList p.cps.toList && risingS x l) = true
    rw [rising_asc x l h2.2, Bool.and_true, ltCps_eq, decide_eq_false (List.not_lt.mpr (List.le_of_lt (h2.1 x (by simp))))]
    rfl
theorem sorted_asc : ∀ (l : List Str), l.Pairwise (fun a b => a.cps.toList < b.cps.toList) → sortedS l = true
  | [], _ => rfl
  | p :: l, h => rising_asc p l h
theorem Ws.asc {zs : List Str} (h : Ws zs) : zs.Pairwise (fun a b => a.cps.toList < b.cps.toList) := by
  have a := sorted_pw _ h.ord
  refine (a.and h.nodup).imp fun {x y} ⟨h1, h2⟩ => ?_
  rcases List.le_iff_lt_or_eq.mp (leS_iff.mp h1) with z | z
  · exact z
  · exact absurd (str_ext z) h2
theorem Sd.asc {ps : Bag} {zs : List Str} (h : Sd ps zs) (a : (nms ps).Pairwise (fun a b => a.cps.toList < b.cps.toList)) : zs = nms ps := sorted_one h.pm h.ord (sorted_asc _ a)
theorem S8.nd {ps : Bag} {u : Int} (h : S8 ps u) : (nms ps).Nodup := asc_nodup h.asc
theorem S8.bg {ps : Bag} {u : Int} (h : S8 ps u) : Bg (10 ^ 60) ps := ⟨h.nd, h.nm, fun p hp => Nat.lt_trans (h.nb p hp) (by decide +kernel), h.l1, h.l8⟩
theorem chB1 {ps : Bag} {u : Int} (hu : 0 < u) (nd : (nms ps).Nodup) : chB (nms ps) ps u = nfB u ps := by
  have e : ps.map (fun p => (p.1, p.2 * 1)) = ps := by
    conv => rhs; rw [← List.map_id ps]
    exact List.map_congr_left fun p _ => by rw [Int.mul_one]; rfl
  have := (chB_nf (m := 1) (u := u) (qs := ps) (by decide) hu nd (by rw [e])).2
  rw [Int.mul_one] at this
  exact this
/-- a charge of these numbers -/
def ChOf (C : Addr) (H : Hp) (x : Addr) (ps : Bag) (u : Int) : Prop := ChAt C H x (nfB u ps) (nfU u ps)
theorem ChOf.same {C x : Addr} {H H' : Hp} {ps : Bag} {u : Int} (h : ChOf C H x ps u) (s : Same H H') : ChOf C H' x ps u := ChAt.same h s
theorem ChAt.but {C x p : Addr} {H H' : Hp} {ps : Bag} {u : Int} (h : ChAt C H x ps u) (s : But p H H') (hp : Pot H p) : ChAt C H' x ps u := by
  obtain ⟨_, _, _, hp, _⟩ := hp
  obtain ⟨dx, t, d, h1, h2, h3⟩ := h
  exact ⟨dx, t, d, s _ _ h1 (ne_of h1 hp fun z => nomatch z), s _ _ h2 (ne_of h2 hp fun z => nomatch z), s _ _ h3 (ne_of h3 hp fun z => nomatch z)⟩
theorem made_same {H H' : Hp} {x dx C : Addr} (hx : H x = none) (hdx : H dx = none) (b : But x (upd (upd H dx (.own x)) x (.ins C dx [])) H') : Same H H' := fun a o e => by
  have n1 := ne_of_none e hx
  have n2 := ne_of_none e hdx
  exact b a o (by rw [upd_ne n1, upd_ne n2]; exact e) n1
def spMade (C : Addr) : Sp := fun vs H Q _ => ∃ (a : Addr) (ps : Bag) (u : Int), vs = [.ref a] ∧ SomeAt H a ps u ∧ Bg (10 ^ 60) ps ∧ (nms ps).Pairwise (fun a b => a.cps.toList < b.cps.toList) ∧ 0 < u ∧ u.natAbs < 10 ^ 60 ∧
  ∀ (x : Addr) (H' : Hp), Same H H' → ChOf C H' x ps u → Q (.ref x) H'
def spToldCh (C : Addr) : Sp := fun vs H Q _ => ∃ (p a : Addr) (ps : Bag) (u : Int), vs = [.ref p, .ref a] ∧ Pot H p ∧ SomeAt H a ps u ∧ S8 ps u ∧
  ∀ (x : Addr) (H' : Hp), Pot H' p → But p H H' → ChOf C H' x ps u → Q (.ref x) H'
section
variable {P : Program} {w : World} {K : PySem.W.Frag} {mg : Str → Option Value} {base : Heap} {C : Addr} {ad : Nat → Addr} {fdd : Nat → FuncData}
abbrev s_made_charge : Stmt := top 39
abbrev N_made_charge : List Str := ["_law_some"]
abbrev P_made_charge : List Str := ["_law_some"]
theorem sc_made_charge : FnScope N_made_charge P_made_charge (defScope s_made_charge) := ⟨rfl, rfl, rfl, by decide +kernel, rfl, by decide +kernel, by decide +kernel⟩
theorem ok_made {f : Addr} {fd : FuncData} (O : Own P w K mg base C ad fdd) (D : Df K mg "_law_made_charge" s_made_charge P_made_charge f fd) : FnOk P w K mg base CX0 6 f fd P_made_charge (spMade C) := by
  obtain ⟨B, M, KCharge, N, NX, Y_init, G_init, Y_Charge_things, G_Charge_things, Y_Charge_unit, G_Charge_unit, Y_Charge_pays, G_Charge_pays, Y_Charge_total, G_Charge_total, Y_Charge_of, G_Charge_of, Y_Charge_cut, G_Charge_cut, O_len, O_str, O_iter, O_item, O_cont, O_eq⟩ := id O
  refine D.F.ok sc_made_charge (fun vs H Q E h => ?_) (fun cdv A outer s H vs Q E hr h => ?_)
  · obtain ⟨a, ps, u, rfl, _⟩ := h
    rfl
  · obtain ⟨a, ps, u, rfl, ⟨d, h1, h2⟩, g, asc, hu, hub, k⟩ := h
    refine ⟨_, (pss_one (ps_ret (pe_makeK Y_init.mkC G_init (hr.mono (by decide)) (by rfl) KCharge.g Y_init.bk pass0 (pa_cons (pe_callTy (call_dictP rfl) (by rfl) B.b_dict (by decide +kernel) (pa_cons (LiI.pe_listItems rfl (pe_ix ix_tup (pv 0) pe_int (fun _ _ => rfl)) (by rfl) B.b_list (by rfl)) pa_nil)) pa_nil) (pk_cons (pe_ix ix_tup (pv 0) pe_int (fun _ _ => rfl)) pk_nil)))), ?_⟩
    refine ⟨_, rfl, a, _, 0, .ref d, rfl, rfl, SqT.of h1, rfl, d, kvs ps, rfl, h2, fun H1 l ts s1 hl hts nl e1 pr => ?_⟩
    refine ⟨l, ts, kvs ps, rfl, SqL.of e1, paired_mono (fun _ _ e => SqT.of e) pr, fun d2 hd2 => ?_⟩
    rw [mergeK_nil (kvs_nd g.nd)]
    have s2 := Same.trans s1 (Same.new (o := .dK (kvs ps)) hd2)
    have e2 : (upd H1 d2 (.dK (kvs ps))) d2 = some (.dK (kvs ps)) := upd_same
    generalize upd H1 d2 (.dK (kvs ps)) = H2 at s2 e2
    refine ⟨_, rfl, a, _, 1, .int u, rfl, rfl, SqT.of (s2 _ _ h1), rfl, rfl, rfl, fun x dx hx hdx hdd => ?_⟩
    refine ⟨x, dx, d2, ps, u, rfl, upd_same, ?_, g, hu, hub, fun zs H3 sd bt hc => ⟨rfl, ?_⟩⟩
    · rw [upd_ne (ne_of_none e2 hx), upd_ne (ne_of_none e2 hdx)]
      exact e2
    · rw [sd.asc asc, chB1 hu g.nd] at hc
      exact k x H3 (s2.trans (made_same hx hdx bt)) hc
end
end V0
namespace V0
open PySem PySem.Spec PyProof.Rows L2
section
variable {X : Cx}
theorem swD_true {kx vx : Expr} {gs : List Comprehension} {scope : Scope} {pos py : Pos} {y : Str} {l : Nat} {env : Env} (hk : env.scope.kind = .function) (hy : env.scope.names.lookup y = some .local) (hl : (py.line == pos.line) = true)
    (ha : (scope.names.any fun (n, k) => n == y && (k == .local || k == .cell)) = false) : swapsWith (.DictComp kx vx gs scope pos) (some (.Name y py)) l env = pure true := by
  have e1 : env.kindOf y = some .local := hy
  have e2 : env.blockKind = .function := by
    unfold Env.blockKind
    rw [hk]
    rfl
  unfold swapsWith
  simp only [e2, e1, ha, Expr.pos, hl]
  rfl
/-- name = {..: .. for ..} on one line, the name a local -/
theorem ps_setDc {i : Nat} {y : Str} {py : Pos} {kx vx tg iter : Expr} {ifs : List Expr} {scope : Scope} {own : List (Str × Nat)} {pos spos : Pos} {wi : TI} {g : TG} {tt : TT} {tk tv : TE} (hc : X.calm = true) (hN : X.N.Nodup) (hy : X.N[i]? = some y) (hyl : X.env.scope.names.lookup y = some .local)
    (hsw : swapsWith (.DictComp kx vx [⟨tg, iter, ifs, 0⟩] scope pos) (some (.Name y py)) spos.line X.env = pure true) (hi : PI X tg iter wi) (ok : BlkOk X.N X.env.scope scope own)
    (hg : ∀ (s : Shared) (H : Hp) (D : Addr) (cl : List (Str × Addr)) (fp : List Addr), PG (X.blk s H scope (compEnvC scope cl D X.env) fp) tg g) (ht : ∀ (s : Shared) (H : Hp) (D : Addr) (cl : List (Str × Addr)) (fp : List Addr), PTs (X.blk s H scope (compEnvC scope cl D X.env) fp) ifs tt)
    (hk : ∀ (s : Shared) (H : Hp) (D : Addr) (cl : List (Str × Addr)) (fp : List Addr), PE (X.blk s H scope (compEnvC scope cl D X.env) fp) kx tk) (he : ∀ (s : Shared) (H : Hp) (D : Addr) (cl : List (Str × Addr)) (fp : List Addr), PE (X.blk s H scope (compEnvC scope cl D X.env) fp) vx tv)
    (hs : ∀ x, foldedSetIterable iter X.env x = pure x := by intro _; rfl) : PS X (.Assign [.Name y py] (.DictComp kx vx [⟨tg, iter, ifs, 0⟩] scope pos) spos) (tAsg (tDc wi g tt tk tv (own.map (·.2))) (gName i)) := by
  refine ⟨fun pins s σ H D I h => ?_⟩
  rw [exec_Assign_Name_used _ _ _ _ hsw]
  refine wpAny_bind (wpAny_standAt (wpAny_bind ?_))
  show wpAny _ X.A (comprehension (.DictComp kx vx [⟨tg, iter, ifs, 0⟩] scope pos) scope X.env (firstIterPos [⟨tg, iter, ifs, 0⟩] pos) newDict false (eval iter X.env) (some (assign (.Name y py) X.env)) >>= fun _ => pure ()) _ _ s
  have h' : tDc wi g tt tk tv (own.map (·.2)) σ H (fun x H1 => gName i x σ H1 D.nx) := h
  refine wpAny_bind (thn (dc_core (Qf := fun _ s' => SP X pins D .next s') hc hN I hi ok hg ht hk he hs h' fun L F s' m H' I' q hn fr => ?_) fun _ s' hq => wpAny_pure (wpAny_pure hq))
  show wpAny _ _ (assign (.Name y py) X.env (.ref L)) _ _ _
  refine wpAny_assign_Name (store_ok2 (v := V.ref L) I' hN hy (.inl hyl) rfl (fun s2 I2 ⟨a, sb, ha⟩ => ?_) (.inr hyl))
  obtain ⟨f0, f1, f2, f3, f4, f5⟩ := fr
  have nF : F ≠ a := by
    rcases ha with z | z
    · exact z ▸ f1
    · exact fun e => f4 y a z e.symm
  exact ⟨m, hn.sameBut sb nF, fun h3 sb3 => ⟨_, H', I2.turned (t' := s2.toks) (fun b o hb e => (sb3.2 b hb).trans e) f0 f1 f3 f4 f5, q⟩⟩
end
end V0

namespace V0
open PySem PySem.Spec PyProof.Rows L2
/-! ### charges as functions: f z / u for each thing z -/
def ChR (C : Addr) (H : Hp) (x : Addr) (zs : List Str) (f : Str → Int) (u : Int) : Prop := ChOf C H x (bagOf f zs) u
theorem ChR.same {C x : Addr} {H H' : Hp} {zs : List Str} {f : Str → Int} {u : Int} (h : ChR C H x zs f u) (s : Same H H') : ChR C H' x zs f u := ChOf.same h s
theorem bagOf_scale (f : Str → Int) (m : Int) (zs : List Str) : (bagOf f zs).map (fun p => (p.1, p.2 * m)) = bagOf (fun z => f z * m) zs := by
  unfold bagOf
  rw [List.map_map]
  rfl
theorem bagOf_congr {f g : Str → Int} {zs : List Str} (h : ∀ z ∈ zs, f z = g z) : bagOf f zs = bagOf g zs := by
  unfold bagOf
  exact List.map_congr_left fun z hz => by rw [h z hz]
/-- the same fractions, the same normal form -/
theorem nf_cross {zs : List Str} {f g : Str → Int} {u v : Int} (hu : 0 < u) (hv : 0 < v) (h : ∀ z ∈ zs, f z * v = g z * u) : nfU u (bagOf f zs) = nfU v (bagOf g zs) ∧ nfB u (bagOf f zs) = nfB v (bagOf g zs) := by
  obtain ⟨a1, a2⟩ := nf_mul (m := v) (u := u) (ps := bagOf f zs) hv (by omega)
  obtain ⟨b1, b2⟩ := nf_mul (m := u) (u := v) (ps := bagOf g zs) hu (by omega)
  rw [bagOf_scale] at a1 a2 b1 b2
  rw [bagOf_congr h, Int.mul_comm u v] at a1 a2
  exact ⟨a1.symm.trans b1, a2.symm.trans b2⟩
theorem ChR.cast {C x : Addr} {H : Hp} {zs : List Str} {f g : Str → Int} {u v : Int} (h : ChR C H x zs f u) (hu : 0 < u) (hv : 0 < v) (e : ∀ z ∈ zs, f z * v = g z * u) : ChR C H x zs g v := by
  obtain ⟨e1, e2⟩ := nf_cross hu hv e
  unfold ChR ChOf at h ⊢
  rw [← e1, ← e2]
  exact h
/-- names of things, in their order -/
structure Zs (zs : List Str) : Prop where
  asc : zs.Pairwise (fun a b => a.cps.toList < b.cps.toList)
  nm : ∀ z ∈ zs, nameB (.str z) = true ∧ z.length ≤ 8
  l1 : 1 ≤ zs.length
  l8 : zs.length ≤ 8
theorem Zs.nd {zs : List Str} (h : Zs zs) : zs.Nodup := asc_nodup h.asc
theorem look_bag {f : Str → Int} {zs : List Str} (nd : zs.Nodup) {z : Str} (h : z ∈ zs) : look (bagOf f zs) z = f z := look_of (by rw [bagOf_nms]; exact nd) (List.mem_map.mpr ⟨z, h, rfl⟩)
/-- charge_over, by functions -/
theorem over_fn {C : Addr} {H' : Hp} {x : Addr} {zs ys : List Str} {f : Str → Int} {u : Int} (hz : Zs zs) (hu : 0 < u) (sd : Sd (bagOf f zs) ys) (hc : ChAt C H' x (chB ys (bagOf f zs) u) (nfU u (bagOf f zs))) : ChR C H' x zs f u := by
  have e : ys = zs := by
    refine sorted_one (sd.pm.trans ?_) sd.ord (sorted_asc _ hz.asc)
    rw [bagOf_nms]
  have c := chB1 (ps := bagOf f zs) (u := u) hu (by rw [bagOf_nms]; exact hz.nd)
  rw [bagOf_nms] at c
  rw [e, c] at hc
  exact hc
theorem bh_fn {zs : List Str} (hz : Zs zs) (f : Str → Int) : Bh (bagOf f zs) := by
  have l : (bagOf f zs).length = zs.length := by unfold bagOf; rw [List.length_map]
  exact ⟨by rw [bagOf_nms]; exact hz.nd, fun z h => hz.nm z (by rw [bagOf_nms] at h; exact h), by rw [l]; exact hz.l1, by rw [l]; exact hz.l8⟩
theorem mulW {i j : Int} {a b : Nat} (hi : i.natAbs < 2 ^ a) (hj : j.natAbs < 2 ^ b) (ha : 0 < a) (hb : 0 < b) (h : a + b < 1000000) : CMulW i j := by
  have h1 := PySem.Flt.log2_lt_of ha hi
  have h2 := PySem.Flt.log2_lt_of hb hj
  show i.natAbs.log2 + j.natAbs.log2 < 1000000
  omega
theorem abs_mul_lt {i j : Int} {a b : Nat} (hi : i.natAbs < 2 ^ a) (hj : j.natAbs < 2 ^ b) : (i * j).natAbs < 2 ^ (a + b) := by
  rw [Int.natAbs_mul, Nat.pow_add]
  exact Nat.mul_lt_mul'' hi hj
/-- what is kept of a function's fractions -/
theorem kept_fn {f : Str → Int} {zs : List Str} {u : Int} (hz : Zs zs) (hu : 0 < u) : ∃ G : Int, 0 < G ∧ nfU u (bagOf f zs) * G = u ∧ (∀ z ∈ zs, look (nfB u (bagOf f zs)) z * G = f z) ∧ nms (nfB u (bagOf f zs)) = zs ∧ 0 < nfU u (bagOf f zs) ∧ nfU u (bagOf f zs) ≤ u := by
  refine ⟨(gcdB u (bagOf f zs) : Int), gI hu, Int.ediv_mul_cancel gU, fun z h => ?_, by rw [nfB_nms, bagOf_nms], nfU_pos hu, nfU_le hu⟩
  rw [look_nf, Int.ediv_mul_cancel (gL z), look_bag hz.nd h]
theorem kept_bound {f : Str → Int} {zs : List Str} {u : Int} {b : Nat} (hz : Zs zs) (hu : 0 < u) (hf : ∀ z ∈ zs, (f z).natAbs < b) : ∀ z ∈ zs, (look (nfB u (bagOf f zs)) z).natAbs < b := fun z h => by
  rw [look_nf, look_bag hz.nd h]
  exact Nat.lt_of_le_of_lt (div_le (gI hu)) (hf z h)
def spSumOf (C : Addr) : Sp := fun vs H Q _ => ∃ (a b : Addr) (t1 t2 d : Int) (zs : List Str) (f g : Str → Int) (u v : Int), vs = [.ref a, .int t1, .ref b, .int t2, .int d] ∧ ChR C H a zs f u ∧ ChR C H b zs g v ∧ Zs zs ∧ 0 < u ∧ 0 < v ∧ 0 < d ∧
  u.natAbs < 2 ^ 900 ∧ v.natAbs < 2 ^ 900 ∧ d.natAbs < 2 ^ 900 ∧ t1.natAbs < 2 ^ 900 ∧ t2.natAbs < 2 ^ 900 ∧ (∀ z ∈ zs, (f z).natAbs < 2 ^ 2000 ∧ (g z).natAbs < 2 ^ 2000) ∧
  ∀ (x : Addr) (H' : Hp), Same H H' → ChR C H' x zs (fun z => f z * t1 * v + g z * t2 * u) (u * v * d) → Q (.ref x) H'
section
variable {P : Program} {w : World} {K : PySem.W.Frag} {mg : Str → Option Value} {base : Heap} {C : Addr} {ad : Nat → Addr} {fdd : Nat → FuncData}
abbrev s__sum_of : Stmt := top 29
abbrev N__sum_of : List Str := ["one", "one_times", "other", "other_times", "denominator", "one_pays", "other_pays", "one_factor", "other_factor", "thing", "pays"]
abbrev P__sum_of : List Str := ["one", "one_times", "other", "other_times", "denominator"]
theorem sc__sum_of : FnScope N__sum_of P__sum_of (defScope s__sum_of) := ⟨rfl, rfl, rfl, by decide +kernel, rfl, by decide +kernel, by decide +kernel⟩
theorem ok_sum_of {f f1 : Addr} {fd fd1 : FuncData} (O : Own P w K mg base C ad fdd) (D_charge_over : Df K mg "charge_over" s_charge_over P_charge_over f1 fd1) (G_charge_over : FnOk P w K mg base CX0 6 f1 fd1 P_charge_over (spOver C)) (D : Df K mg "_sum_of" s__sum_of P__sum_of f fd) : FnOk P w K mg base CX0 7 f fd P__sum_of (spSumOf C) := by
  obtain ⟨B, M, KCharge, N, NX, Y_init, G_init, Y_Charge_things, G_Charge_things, Y_Charge_unit, G_Charge_unit, Y_Charge_pays, G_Charge_pays, Y_Charge_total, G_Charge_total, Y_Charge_of, G_Charge_of, Y_Charge_cut, G_Charge_cut, O_len, O_str, O_iter, O_item, O_cont, O_eq⟩ := id O
  refine D.F.ok sc__sum_of (fun vs H Q E h => ?_) (fun cdv A outer s H vs Q E hr h => ?_)
  · obtain ⟨a, b, t1, t2, d, zs, f, g, u, v, rfl, _⟩ := h
    rfl
  · obtain ⟨a, b, t1, t2, d, zs, f, g, u, v, rfl, ha, hb, hz, hu, hv, hd, ub, vb, db, tb1, tb2, fgb, k⟩ := h
    refine ⟨_, (pss_cons (ps_set (i := 5) sc__sum_of.nd rfl (Or.inr rfl) (pe_prop (pv 0) KCharge.cl Y_Charge_pays.pr G_Charge_pays (hr.mono (by decide)) Y_Charge_pays.b .nil pass0 rfl))
      (pss_cons (ps_set (i := 6) sc__sum_of.nd rfl (Or.inr rfl) (pe_prop (pv 2) KCharge.cl Y_Charge_pays.pr G_Charge_pays (hr.mono (by decide)) Y_Charge_pays.b .nil pass0 rfl))
      (pss_cons (ps_set (i := 7) sc__sum_of.nd rfl (Or.inr rfl) (pe_op op_mulW (pv 1) (pe_prop (pv 2) KCharge.cl Y_Charge_unit.pr G_Charge_unit (hr.mono (by decide)) Y_Charge_unit.b .nil pass0 rfl)))
      (pss_cons (ps_set (i := 8) sc__sum_of.nd rfl (Or.inr rfl) (pe_op op_mulW (pv 3) (pe_prop (pv 0) KCharge.cl Y_Charge_unit.pr G_Charge_unit (hr.mono (by decide)) Y_Charge_unit.b .nil pass0 rfl)))
      (pss_cons (ps_lock (ps_setDc (i := 10) (own := [("thing", 9)]) (g := gName 9) (tt := tYes) rfl sc__sum_of.nd rfl rfl (swD_true rfl rfl rfl (by decide +kernel)) (pi_keys (pv 5)) (blkOk_by (own := [("thing", 9)]) (N := N__sum_of) (sc := defScope s__sum_of) (by decide +kernel)) (fun _ _ _ _ _ => (pg_name (i := 9) sc__sum_of.nd rfl (Or.inl rfl))) (fun _ _ _ _ _ => pts_nil) (fun _ _ _ _ _ => (pv 9)) (fun _ _ _ _ _ => (pe_op op_add (pe_op op_mulW (pe_dget (hu_of hr) (pv 5) (pv 9) (fun _ _ => rfl)) (pv 7)) (pe_op op_mulW (pe_dget (hu_of hr) (pv 6) (pv 9) (fun _ _ => rfl)) (pv 8))))))
      (pss_one (ps_ret (pe_call G_charge_over (hr.mono (by decide)) (by rfl) D_charge_over.g D_charge_over.F.kp D_charge_over.b .nil pass0 (pa_cons (pv 10) (pa_cons (pe_op op_mulW (pe_op op_mulW (pe_prop (pv 0) KCharge.cl Y_Charge_unit.pr G_Charge_unit (hr.mono (by decide)) Y_Charge_unit.b .nil pass0 rfl) (pe_prop (pv 2) KCharge.cl Y_Charge_unit.pr G_Charge_unit (hr.mono (by decide)) Y_Charge_unit.b .nil pass0 rfl)) (pv 4)) pa_nil)))))))))), ?_⟩
    obtain ⟨G1, g1, eu, ef, n1, U0, U1⟩ := kept_fn (f := f) hz hu
    obtain ⟨G2, g2, ev, eg, n2, V0, V1⟩ := kept_fn (f := g) hz hv
    have kb1 := kept_bound (f := f) hz hu fun z h => (fgb z h).1
    have kb2 := kept_bound (f := g) hz hv fun z h => (fgb z h).2
    unfold ChR ChOf at ha hb
    generalize hP : nfB u (bagOf f zs) = pB at *
    generalize hQ : nfB v (bagOf g zs) = qB at *
    generalize hU : nfU u (bagOf f zs) = U at *
    generalize hV : nfU v (bagOf g zs) = W at *
    obtain ⟨dx, tt, dd, c1, c2, c3⟩ := id ha
    obtain ⟨dy, ty, dyy, y1, y2, y3⟩ := id hb
    have l8 := hz.l8
    have lp : pB.length = zs.length := by rw [← n1, nms_len]
    have lq : qB.length = zs.length := by rw [← n2, nms_len]
    refine ⟨_, rfl, a, dx, _, rfl, c1, a, _, _, rfl, ha, by rw [n1]; exact hz.nd, by omega, fun d1 hd1 => ?_⟩
    have s1 := Same.new (o := .dK (kvs pB)) hd1
    have e1 : (upd H d1 (.dK (kvs pB))) d1 = some (.dK (kvs pB)) := upd_same
    generalize upd H d1 (.dK (kvs pB)) = H1 at s1 e1
    refine ⟨_, rfl, b, dy, _, rfl, s1 _ _ y1, b, _, _, rfl, ChAt.same hb s1, by rw [n2]; exact hz.nd, by omega, fun d2 hd2 => ?_⟩
    have s2' := Same.new (o := .dK (kvs qB)) hd2
    have e2 : (upd H1 d2 (.dK (kvs qB))) d2 = some (.dK (kvs qB)) := upd_same
    have e1 := s2' _ _ e1
    have s2 := Same.trans s1 s2'
    generalize upd H1 d2 (.dK (kvs qB)) = H2 at s2 e2 e1
    have Ub : U.natAbs < 2 ^ 900 := by omega
    have Wb : W.natAbs < 2 ^ 900 := by omega
    refine ⟨_, rfl, _, rfl, b, dy, _, rfl, s2 _ _ y1, b, dy, ty, dyy, _, rfl, s2 _ _ y1, _, _, rfl, rfl, mulW tb1 Wb (by decide) (by decide) (by decide), ?_⟩
    refine ⟨_, rfl, _, rfl, a, dx, _, rfl, s2 _ _ c1, a, dx, tt, dd, _, rfl, s2 _ _ c1, _, _, rfl, rfl, mulW tb2 Ub (by decide) (by decide) (by decide), ?_⟩
    have w1 := abs_mul_lt tb1 Wb
    have w2 := abs_mul_lt tb2 Ub
    have hsum : ∀ z, z ∈ zs → (look pB z * (t1 * W) + look qB z * (t2 * U)) * (u * v * d) = (f z * t1 * v + g z * t2 * u) * (U * W * d) := fun z hz => by
      have q1 := ef z hz
      have q2 := eg z hz
      rw [← q1, ← q2, ← eu, ← ev]
      grind
    have nd1 : (nms pB).Nodup := by rw [n1]; exact hz.nd
    refine ⟨d1, _, e1, trivial, fun od => ⟨_, rfl, d1, od, rfl, .inl ⟨_, upd_same, fun D0 hD0 => ?_⟩⟩⟩
    have hdL := ne_of_none (upd_same (H := H2) (a := d1) (o := .frz od (.dK (kvs pB)))) hD0
    have hd21 : d2 ≠ d1 := fun q => by
      rw [q] at hd2
      rw [(show H1 d1 = some (.dK (kvs pB)) from by assumption)] at hd2
      cases hd2
    have hd20 : D0 ≠ d2 := fun q => by
      rw [q, upd_ne hd21, e2] at hD0
      cases hD0
    refine dc_it walk_keys (fun i H' => H' = upd (upd H2 d1 (.frz od (.dK (kvs pB)))) D0 (.dK (kvs (bagOf (fun z => look pB z * (t1 * W) + look qB z * (t2 * U)) ((nms pB).take i))))) rfl (fun i H' _ e => by rw [e, upd_ne hdL]; exact upd_same) ?_ ?_
    · rintro i y H5 H6 hi rfl ⟨rfl, kk, v', hk, rfl⟩
      obtain ⟨p, hp, rfl, rfl⟩ := kvs_at hk
      rw [kvs_len] at hi
      have hm : (nms pB)[i]? = some p.1 := by unfold nms; rw [List.getElem?_map, hp]; rfl
      have hmm := List.mem_of_getElem? hm
      have hzm : p.1 ∈ zs := n1 ▸ hmm
      refine ⟨rfl, _, rfl, _, rfl, _, rfl, d1, _, rfl, DGet.bag (.inr ⟨_, by rw [upd_ne hdL]; exact upd_same⟩) hmm, _, rfl, _, _, rfl, rfl, mulW (Nat.lt_trans (kb1 _ hzm) (by decide +kernel : 2 ^ 2000 < 2 ^ 2001)) w1 (by decide) (by decide) (by decide), ?_⟩
      refine ⟨_, rfl, _, rfl, d2, _, rfl, DGet.bag (.inl (by rw [upd_ne hd20.symm, upd_ne hd21]; exact e2)) (by rw [n2]; exact hzm), _, rfl, _, _, rfl, rfl, mulW (Nat.lt_trans (kb2 _ hzm) (by decide +kernel : 2 ^ 2000 < 2 ^ 2001)) w2 (by decide) (by decide) (by decide), _, _, rfl, rfl, _, .inr p.1, rfl, upd_same, ?_, ?_⟩
      · rw [bagOf_len, List.length_take, nms_len, sizeLine_eq]
        omega
      · rw [upd_upd]
        exact congrArg _ (congrArg _ (bagOf_succ (fun z => look pB z * (t1 * W) + look qB z * (t2 * U)) nd1 hm))
    · rintro H5 rfl
      rw [kvs_len, ← nms_len, List.take_length]
      refine ⟨by rw [upd_ne hdL]; exact upd_same, ?_⟩
      rw [upd_upd_ne hdL.symm, upd_lock (show H2 d1 = some (.dK (kvs pB)) from e1), n1]
      have hD0' : H2 D0 = none := by rw [upd_ne hdL.symm] at hD0; exact hD0
      have s5' := Same.new (o := .dK (kvs (bagOf (fun z => look pB z * (t1 * W) + look qB z * (t2 * U)) zs))) hD0'
      have e5 : (upd H2 D0 (.dK (kvs (bagOf (fun z => look pB z * (t1 * W) + look qB z * (t2 * U)) zs)))) D0 = some (.dK (kvs (bagOf (fun z => look pB z * (t1 * W) + look qB z * (t2 * U)) zs))) := upd_same
      have s5 := Same.trans s2 s5'
      generalize upd H2 D0 (.dK (kvs (bagOf (fun z => look pB z * (t1 * W) + look qB z * (t2 * U)) zs))) = H5 at s5 e5
      have uw := abs_mul_lt Ub Wb
      have uwd := abs_mul_lt uw db
      have upos : 0 < U * W * d := Int.mul_pos (Int.mul_pos U0 V0) hd
      refine ⟨_, rfl, _, rfl, a, dx, _, rfl, s5 _ _ c1, a, dx, tt, dd, _, rfl, s5 _ _ c1, _, rfl, b, dy, _, rfl, s5 _ _ y1, b, dy, ty, dyy, _, rfl, s5 _ _ y1, _, _, rfl, rfl, mulW Ub Wb (by decide) (by decide) (by decide), _, rfl, _, _, rfl, rfl, mulW uw db (by decide) (by decide) (by decide), ?_⟩
      refine ⟨D0, _, _, rfl, e5, bh_fn hz _, upos, Nat.lt_trans uwd (by decide +kernel), fun x ys H6 sd s6 hx6 hc => k x H6 (Same.trans s5 s6) ?_⟩
      exact (over_fn hz upos sd hc).cast upos (Int.mul_pos (Int.mul_pos hu hv) hd) hsum
end
end V0

namespace V0
open PySem PySem.Spec PyProof.Rows L2
/-! ### sums, multiples, shares -/
structure Md1 (K : PySem.W.Frag) (qual name : Str) (C : Addr) (st : Stmt) (ps : List Str) (f : Addr) (fd : FuncData) : Prop where
  F : FunD K name qual (defArgs st) (defBody st) (defScope st) [.int 1] [] f fd
  b : Binds K fd ps []
  b1 : ∃ ds, Vals [.int 1] ds ∧ Binds K fd ps ds
  m : Meth K C name f
def spAlike (C : Addr) : Sp := fun vs H Q _ => ∃ (a b : Addr) (ps qs : Bag) (u v : Int), vs = [.ref a, .ref b] ∧ ChAt C H a ps u ∧ ChAt C H b qs v ∧ nms ps = nms qs ∧ (∀ z ∈ nms ps, nameB (.str z) = true) ∧ Q (.bl true) H
theorem eqv_strs : ∀ zs : List Str, PyData.eqvAll (zs.map PyData.str) (zs.map PyData.str) = true
  | [] => by simp [PyData.eqvAll]
  | z :: zs => by
    rw [List.map_cons, PyData.eqvAll, eqv_strs zs]
    simp [PyData.eqv]
/-- what is asked of two charges that are added -/
structure Two (C : Addr) (H : Hp) (a b : Addr) (zs : List Str) (f g : Str → Int) (u v : Int) : Prop where
  a : ChR C H a zs f u
  b : ChR C H b zs g v
  z : Zs zs
  u0 : 0 < u
  v0 : 0 < v
  ub : u.natAbs < 2 ^ 900
  vb : v.natAbs < 2 ^ 900
  fb : ∀ z ∈ zs, (f z).natAbs < 2 ^ 2000 ∧ (g z).natAbs < 2 ^ 2000
theorem ChR.names {C x : Addr} {H : Hp} {zs : List Str} {f : Str → Int} {u : Int} (_ : ChR C H x zs f u) : nms (nfB u (bagOf f zs)) = zs := by rw [nfB_nms, bagOf_nms]
def spAddR (C : Addr) (t : Int) : Sp := fun vs H Q _ => ∃ (a b : Addr) (zs : List Str) (f g : Str → Int) (u v : Int), vs = [.ref a, .ref b] ∧ Two C H a b zs f g u v ∧
  ∀ (x : Addr) (H' : Hp), Same H H' → ChR C H' x zs (fun z => f z * v + t * g z * u) (u * v) → Q (.ref x) H'
def spTimes (C : Addr) : Sp := fun vs H Q _ => ∃ (a : Addr) (n d : Int) (zs : List Str) (f : Str → Int) (u : Int), vs = [.ref a, .int n, .int d] ∧ ChR C H a zs f u ∧ Zs zs ∧ 0 < u ∧ 0 < d ∧ u.natAbs < 2 ^ 900 ∧ d.natAbs < 10 ^ 60 ∧ n.natAbs < 10 ^ 60 ∧ (∀ z ∈ zs, (f z).natAbs < 2 ^ 2000) ∧
  ∀ (x : Addr) (H' : Hp), Same H H' → ChR C H' x zs (fun z => f z * n) (u * d) → Q (.ref x) H'
def spMixed (C : Addr) : Sp := fun vs H Q _ => ∃ (a b : Addr) (n d : Int) (zs : List Str) (f g : Str → Int) (u v : Int), vs = [.ref a, .ref b, .int n, .int d] ∧ Two C H a b zs f g u v ∧ 0 ≤ n ∧ n ≤ d ∧ 0 < d ∧ d.natAbs < 10 ^ 60 ∧
  ∀ (x : Addr) (H' : Hp), Same H H' → ChR C H' x zs (fun z => f z * n * v + g z * (d - n) * u) (u * v * d) → Q (.ref x) H'
section
variable {P : Program} {w : World} {K : PySem.W.Frag} {mg : Str → Option Value} {base : Heap} {C : Addr} {ad : Nat → Addr} {fdd : Nat → FuncData}
abbrev s_Chargeis_alike : Stmt := inClass (top 25) 18
abbrev N_Chargeis_alike : List Str := ["self", "other"]
abbrev P_Chargeis_alike : List Str := ["self", "other"]
theorem sc_Chargeis_alike : FnScope N_Chargeis_alike P_Chargeis_alike (defScope s_Chargeis_alike) := ⟨rfl, rfl, rfl, by decide +kernel, rfl, by decide +kernel, by decide +kernel⟩
theorem ok_alike {f : Addr} {fd : FuncData} (O : Own P w K mg base C ad fdd) (Y : Md K "Charge._is_alike" "_is_alike" C s_Chargeis_alike P_Chargeis_alike f fd) : FnOk P w K mg base CX0 3 f fd P_Chargeis_alike (spAlike C) := by
  obtain ⟨B, M, KCharge, N, NX, Y_init, G_init, Y_Charge_things, G_Charge_things, Y_Charge_unit, G_Charge_unit, Y_Charge_pays, G_Charge_pays, Y_Charge_total, G_Charge_total, Y_Charge_of, G_Charge_of, Y_Charge_cut, G_Charge_cut, O_len, O_str, O_iter, O_item, O_cont, O_eq⟩ := id O
  refine Y.F.ok sc_Chargeis_alike (fun vs H Q E h => ?_) (fun cdv A outer s H vs Q E hr h => ?_)
  · obtain ⟨a, b, ps, qs, u, v, rfl, _⟩ := h
    rfl
  · obtain ⟨a, b, ps, qs, u, v, rfl, ⟨dx, t, d, h1, h2, h3⟩, ⟨dy, t', d', g1, g2, g3⟩, hn, nm, k⟩ := h
    refine ⟨_, (pss_one (ps_ret (pe_and (pe_callB call_isi (by rfl) B.b_isinstance (by decide +kernel) (pa_cons (pv 1) (pa_cons (pe_gv rfl KCharge.gv) pa_nil))) (pe_one (pe_cmpR (op_eqD hr.units) (pe_fld (pv 0) rfl) (pe_prop (pv 1) KCharge.cl Y_Charge_things.pr G_Charge_things (hr.mono (by decide)) Y_Charge_things.b .nil pass0 rfl) (nomark _)))))), ?_⟩
    refine ⟨_, rfl, _, _, _, _, _, rfl, .own C, KCharge.ins g1, Kls.self, _, rfl, ite2 (fun _ => ?_) (fun z => absurd rfl z)⟩
    refine ⟨_, rfl, a, C, dx, _, _, rfl, h1, KCharge.cl, N.n1, rfl, _, rfl, b, dy, _, rfl, g1, b, dy, t', d', _, rfl, g1, ?_⟩
    refine ⟨_, _, .tup (SqT.of h2) (dp_strs _), .tup (SqT.of (hn ▸ g2)) (dp_strs _), sh_strs _ nm, sh_strs _ nm, ?_⟩
    rw [show PyData.eqv (.tuple ((nms ps).map PyData.str)) (.tuple ((nms ps).map PyData.str)) = true from by rw [PyData.eqv, eqv_strs]]
    exact k
abbrev s_Charge_add : Stmt := inClass (top 25) 10
abbrev N_Charge_add : List Str := ["self", "other"]
abbrev P_Charge_add : List Str := ["self", "other"]
theorem sc_Charge_add : FnScope N_Charge_add P_Charge_add (defScope s_Charge_add) := ⟨rfl, rfl, rfl, by decide +kernel, rfl, by decide +kernel, by decide +kernel⟩
theorem ok_add {f f1 f2 : Addr} {fd fd1 fd2 : FuncData} (O : Own P w K mg base C ad fdd) (Y_Chargeis_alike : Md K "Charge._is_alike" "_is_alike" C s_Chargeis_alike P_Chargeis_alike f1 fd1) (D__sum_of : Df K mg "_sum_of" s__sum_of P__sum_of f2 fd2) (G__sum_of : FnOk P w K mg base CX0 7 f2 fd2 P__sum_of (spSumOf C))
    (Y : Md K "Charge.__add__" "__add__" C s_Charge_add P_Charge_add f fd) : FnOk P w K mg base CX0 8 f fd P_Charge_add (spAddR C 1) := by
  have G_Chargeis_alike : FnOk P w K mg base CX0 3 f1 fd1 P_Chargeis_alike (spAlike C) := ok_alike O Y_Chargeis_alike
  obtain ⟨B, M, KCharge, N, NX, Y_init, G_init, Y_Charge_things, G_Charge_things, Y_Charge_unit, G_Charge_unit, Y_Charge_pays, G_Charge_pays, Y_Charge_total, G_Charge_total, Y_Charge_of, G_Charge_of, Y_Charge_cut, G_Charge_cut, O_len, O_str, O_iter, O_item, O_cont, O_eq⟩ := id O
  refine Y.F.ok sc_Charge_add (fun vs H Q E h => ?_) (fun cdv A outer s H vs Q E hr h => ?_)
  · obtain ⟨a, b, zs, f, g, u, v, rfl, _⟩ := h
    rfl
  · obtain ⟨a, b, zs, f, g, u, v, rfl, T, k⟩ := h
    refine ⟨_, (pss_cons (ps_if (pt_not (pt_val (pe_meth (pv 0) KCharge.cl Y_Chargeis_alike.m G_Chargeis_alike (hr.mono (by decide)) Y_Chargeis_alike.b .nil pass0 (pa_cons (pv 1) pa_nil)))) (pss_one ps_never) pss_nil)
      (pss_one (ps_ret (pe_call G__sum_of (hr.mono (by decide)) (by rfl) D__sum_of.g D__sum_of.F.kp D__sum_of.b .nil pass0 (pa_cons (pv 0) (pa_cons pe_int (pa_cons (pv 1) (pa_cons pe_int (pa_cons pe_int pa_nil))))))))), ?_⟩
    obtain ⟨dx, tt, dd, c1, c2, c3⟩ := id T.a
    refine ⟨_, rfl, a, dx, _, rfl, c1, rfl, _, rfl, a, b, _, _, _, _, rfl, T.a, T.b, by rw [T.a.names, T.b.names], fun z hz => (T.z.nm z (by rw [T.a.names] at hz; exact hz)).1, ?_⟩
    refine ⟨_, rfl, ite2 (fun z => by cases z) (fun _ => ?_)⟩
    refine ⟨_, rfl, _, rfl, a, b, 1, 1, 1, zs, f, g, u, v, rfl, T.a, T.b, T.z, T.u0, T.v0, by decide, T.ub, T.vb, by decide +kernel, by decide +kernel, by decide +kernel, T.fb, fun x H' s' hc => k x H' s' ?_⟩
    refine hc.cast (by have := Int.mul_pos T.u0 T.v0; omega) (Int.mul_pos T.u0 T.v0) fun z hz => by grind
abbrev s_Charge_sub : Stmt := inClass (top 25) 11
abbrev N_Charge_sub : List Str := ["self", "other"]
abbrev P_Charge_sub : List Str := ["self", "other"]
theorem sc_Charge_sub : FnScope N_Charge_sub P_Charge_sub (defScope s_Charge_sub) := ⟨rfl, rfl, rfl, by decide +kernel, rfl, by decide +kernel, by decide +kernel⟩
theorem ok_sub {f f1 f2 : Addr} {fd fd1 fd2 : FuncData} (O : Own P w K mg base C ad fdd) (Y_Chargeis_alike : Md K "Charge._is_alike" "_is_alike" C s_Chargeis_alike P_Chargeis_alike f1 fd1) (D__sum_of : Df K mg "_sum_of" s__sum_of P__sum_of f2 fd2) (G__sum_of : FnOk P w K mg base CX0 7 f2 fd2 P__sum_of (spSumOf C))
    (Y : Md K "Charge.__sub__" "__sub__" C s_Charge_sub P_Charge_sub f fd) : FnOk P w K mg base CX0 8 f fd P_Charge_sub (spAddR C (-1)) := by
  have G_Chargeis_alike : FnOk P w K mg base CX0 3 f1 fd1 P_Chargeis_alike (spAlike C) := ok_alike O Y_Chargeis_alike
  obtain ⟨B, M, KCharge, N, NX, Y_init, G_init, Y_Charge_things, G_Charge_things, Y_Charge_unit, G_Charge_unit, Y_Charge_pays, G_Charge_pays, Y_Charge_total, G_Charge_total, Y_Charge_of, G_Charge_of, Y_Charge_cut, G_Charge_cut, O_len, O_str, O_iter, O_item, O_cont, O_eq⟩ := id O
  refine Y.F.ok sc_Charge_sub (fun vs H Q E h => ?_) (fun cdv A outer s H vs Q E hr h => ?_)
  · obtain ⟨a, b, zs, f, g, u, v, rfl, _⟩ := h
    rfl
  · obtain ⟨a, b, zs, f, g, u, v, rfl, T, k⟩ := h
    refine ⟨_, (pss_cons (ps_if (pt_not (pt_val (pe_meth (pv 0) KCharge.cl Y_Chargeis_alike.m G_Chargeis_alike (hr.mono (by decide)) Y_Chargeis_alike.b .nil pass0 (pa_cons (pv 1) pa_nil)))) (pss_one ps_never) pss_nil)
      (pss_one (ps_ret (pe_call G__sum_of (hr.mono (by decide)) (by rfl) D__sum_of.g D__sum_of.F.kp D__sum_of.b .nil pass0 (pa_cons (pv 0) (pa_cons pe_int (pa_cons (pv 1) (pa_cons (pe_un un_neg pe_int) (pa_cons pe_int pa_nil))))))))), ?_⟩
    obtain ⟨dx, tt, dd, c1, c2, c3⟩ := id T.a
    refine ⟨_, rfl, a, dx, _, rfl, c1, rfl, _, rfl, a, b, _, _, _, _, rfl, T.a, T.b, by rw [T.a.names, T.b.names], fun z hz => (T.z.nm z (by rw [T.a.names] at hz; exact hz)).1, ?_⟩
    refine ⟨_, rfl, ite2 (fun z => by cases z) (fun _ => ?_)⟩
    refine ⟨_, rfl, _, rfl, _, rfl, a, b, 1, -1, 1, zs, f, g, u, v, rfl, T.a, T.b, T.z, T.u0, T.v0, by decide, T.ub, T.vb, by decide +kernel, by decide +kernel, by decide +kernel, T.fb, fun x H' s' hc => k x H' s' ?_⟩
    refine hc.cast (by have := Int.mul_pos T.u0 T.v0; omega) (Int.mul_pos T.u0 T.v0) fun z hz => by grind
end
end V0

namespace V0
open PySem PySem.Spec PyProof.Rows L2
section
variable {P : Program} {w : World} {K : PySem.W.Frag} {mg : Str → Option Value} {base : Heap} {C : Addr} {ad : Nat → Addr} {fdd : Nat → FuncData}
abbrev s_Charge_times : Stmt := inClass (top 25) 7
abbrev N_Charge_times : List Str := ["self", "numerator", "denominator", "thing", "pays"]
abbrev P_Charge_times : List Str := ["self", "numerator", "denominator"]
theorem sc_Charge_times : FnScope N_Charge_times P_Charge_times (defScope s_Charge_times) := ⟨rfl, rfl, rfl, by decide +kernel, rfl, by decide +kernel, by decide +kernel⟩
theorem ok_times {f f1 f2 f3 : Addr} {fd fd1 fd2 fd3 : FuncData} (O : Own P w K mg base C ad fdd) (CN : Nm mg) (D_is_whole : Df K mg "is_whole" s_is_whole P_is_whole f1 fd1) (D_is_integer : Df K mg "is_integer" s_is_integer P_is_integer f2 fd2)
    (D_charge_over : Df K mg "charge_over" s_charge_over P_charge_over f3 fd3) (G_charge_over : FnOk P w K mg base CX0 6 f3 fd3 P_charge_over (spOver C)) (Y : Md1 K "Charge.times" "times" C s_Charge_times P_Charge_times f fd) : FnOk P w K mg base CX0 8 f fd P_Charge_times (spTimes C) := by
  obtain ⟨B, M, KCharge, N, NX, Y_init, G_init, Y_Charge_things, G_Charge_things, Y_Charge_unit, G_Charge_unit, Y_Charge_pays, G_Charge_pays, Y_Charge_total, G_Charge_total, Y_Charge_of, G_Charge_of, Y_Charge_cut, G_Charge_cut, O_len, O_str, O_iter, O_item, O_cont, O_eq⟩ := id O
  have G_is_integer : FnOk P w K mg base CX0 2 f2 fd2 P_is_integer spIsInteger := ok_is_integer B CN D_is_whole D_is_integer
  refine Y.F.ok sc_Charge_times (fun vs H Q E h => ?_) (fun cdv A outer s H vs Q E hr h => ?_)
  · obtain ⟨a, n, d, zs, f, u, rfl, _⟩ := h
    rfl
  · obtain ⟨a, n, d, zs, f, u, rfl, ha, hz, hu, hd, ub, db, nb, fb, k⟩ := h
    refine ⟨_, (pss_cons (ps_if (pt_not (pt_val (pe_call G_is_integer (hr.mono (by decide)) (by rfl) D_is_integer.g D_is_integer.F.kp D_is_integer.b .nil pass0 (pa_cons (pv 1) pa_nil)))) (pss_one ps_never) pss_nil)
      (pss_cons (ps_if (PW.pt (pw_or (pt_not (pt_val (pe_call G_is_integer (hr.mono (by decide)) (by rfl) D_is_integer.g D_is_integer.F.kp D_is_integer.b .nil pass0 (pa_cons (pv 2) pa_nil)))) (pw_or1 (pt_cmpR op_lt (pv 2) pe_int (nomark _))))) (pss_one ps_never) pss_nil)
      (pss_cons (ps_setDc (i := 4) (own := [("thing", 3)]) (g := gName 3) (tt := tYes) rfl sc_Charge_times.nd rfl rfl (swD_true rfl rfl rfl (by decide +kernel)) (pi_tup (pe_fld (pv 0) rfl)) (blkOk_by (own := [("thing", 3)]) (N := N_Charge_times) (sc := defScope s_Charge_times) (by decide +kernel)) (fun _ _ _ _ _ => (pg_name (i := 3) sc_Charge_times.nd rfl (Or.inl rfl))) (fun _ _ _ _ _ => pts_nil) (fun _ _ _ _ _ => (pv 3)) (fun _ _ _ _ _ => (pe_op op_mulW (show PE _ _ (tDGet (tFld K (tVar 0) "_pays") (tVar 3)) from by exact (pe_dget (hu_of hr) (pe_fld (pv 0) rfl) (pv 3) (fun _ _ => rfl))) (pv 1))))
      (pss_one (ps_ret (pe_call G_charge_over (hr.mono (by decide)) (by rfl) D_charge_over.g D_charge_over.F.kp D_charge_over.b .nil pass0 (pa_cons (pv 4) (pa_cons (pe_op op_mulW (pe_fld (pv 0) rfl) (pv 2)) pa_nil)))))))), ?_⟩
    obtain ⟨G1, g1, eu, ef, n1, U0, U1⟩ := kept_fn (f := f) hz hu
    have kb1 := kept_bound (f := f) hz hu fb
    unfold ChR ChOf at ha
    generalize hP : nfB u (bagOf f zs) = pB at *
    generalize hU : nfU u (bagOf f zs) = U at *
    obtain ⟨dx, tt, dd, c1, c2, c3⟩ := id ha
    have l8 := hz.l8
    rw [n1] at c2
    refine ⟨_, rfl, _, .int, rfl, .int n, _, rfl, ?_⟩
    rw [show intB (.int n) = true from decide_eq_true nb]
    refine iteF ⟨_, rfl, _, .int, rfl, .int d, _, rfl, ?_⟩
    rw [show intB (.int d) = true from decide_eq_true db]
    refine iteF ⟨_, rfl, _, _, rfl, rfl, _, rfl, ?_⟩
    rw [show decide (d < 1) = false from decide_eq_false (by omega)]
    refine iteF ?_
    refine ⟨_, rfl, a, C, dx, _, _, rfl, c1, KCharge.cl, N.n1, rfl, tt, rfl, ⟨_, SqT.of c2⟩, fun D hD => ?_⟩
    have n3000 : n.natAbs < 2 ^ 300 := Nat.lt_trans nb (by decide +kernel)
    refine dc_it (walk_tup (xs := zs.map V.str)) (fun i H' => H' = upd H D (.dK (kvs (bagOf (fun z => look pB z * n) (zs.take i))))) rfl (fun i H' _ e => by rw [e]; exact SqT.of (Same.new hD _ _ c2)) ?_ ?_
    · rintro i y H5 H6 hi rfl ⟨rfl, hy⟩
      rw [List.length_map] at hi
      have hzz : zs[i]? = some zs[i] := List.getElem?_eq_getElem hi
      rw [List.getElem?_map, hzz] at hy
      injection hy with hy
      subst hy
      have s5 := Same.new (o := .dK (kvs (bagOf (fun z => look pB z * n) (zs.take i)))) hD
      have hm := List.getElem_mem hi
      refine ⟨rfl, _, rfl, _, rfl, a, C, dx, _, _, rfl, s5 _ _ c1, KCharge.cl, N.n3, rfl, _, rfl, dd, _, rfl, DGet.bag (.inl (s5 _ _ c3)) (by rw [n1]; exact hm), _, rfl, _, _, rfl, rfl, mulW (kb1 _ hm) n3000 (by decide) (by decide) (by decide), _, .inr _, rfl, upd_same, ?_, ?_⟩
      · rw [bagOf_len, List.length_take, sizeLine_eq]
        omega
      · rw [upd_upd]
        exact congrArg _ (congrArg _ (bagOf_succ (fun z => look pB z * n) hz.nd hzz))
    · rintro H5 rfl
      rw [List.length_map, List.take_length]
      have s5 := Same.new (o := .dK (kvs (bagOf (fun z => look pB z * n) zs))) hD
      have e5 : (upd H D (.dK (kvs (bagOf (fun z => look pB z * n) zs)))) D = some (.dK (kvs (bagOf (fun z => look pB z * n) zs))) := upd_same
      generalize upd H D (.dK (kvs (bagOf (fun z => look pB z * n) zs))) = H5 at s5 e5
      have Ub : U.natAbs < 2 ^ 900 := by omega
      have d300 : d.natAbs < 2 ^ 300 := Nat.lt_trans db (by decide +kernel)
      have ud := abs_mul_lt Ub d300
      have upos : 0 < U * d := Int.mul_pos U0 hd
      refine ⟨_, rfl, _, rfl, a, C, dx, _, _, rfl, s5 _ _ c1, KCharge.cl, N.n2, rfl, _, rfl, _, _, rfl, rfl, mulW Ub d300 (by decide) (by decide) (by decide), ?_⟩
      refine ⟨D, _, _, rfl, e5, bh_fn hz _, upos, Nat.lt_trans ud (by decide +kernel), fun x ys H6 sd s6 hx6 hc => k x H6 (Same.trans s5 s6) ?_⟩
      refine (over_fn hz upos sd hc).cast upos (Int.mul_pos hu hd) fun z hzm => ?_
      have q1 := ef z hzm
      rw [← q1, ← eu]
      grind
abbrev s_Charge_mixed : Stmt := inClass (top 25) 8
abbrev N_Charge_mixed : List Str := ["self", "other", "numerator", "denominator"]
abbrev P_Charge_mixed : List Str := ["self", "other", "numerator", "denominator"]
theorem sc_Charge_mixed : FnScope N_Charge_mixed P_Charge_mixed (defScope s_Charge_mixed) := ⟨rfl, rfl, rfl, by decide +kernel, rfl, by decide +kernel, by decide +kernel⟩
theorem ok_mixed {f f1 f2 f3 f4 : Addr} {fd fd1 fd2 fd3 fd4 : FuncData} (O : Own P w K mg base C ad fdd) (CN : Nm mg) (D_is_whole : Df K mg "is_whole" s_is_whole P_is_whole f1 fd1) (D_is_integer : Df K mg "is_integer" s_is_integer P_is_integer f2 fd2)
    (Y_Chargeis_alike : Md K "Charge._is_alike" "_is_alike" C s_Chargeis_alike P_Chargeis_alike f3 fd3) (D__sum_of : Df K mg "_sum_of" s__sum_of P__sum_of f4 fd4) (G__sum_of : FnOk P w K mg base CX0 7 f4 fd4 P__sum_of (spSumOf C)) (Y : Md K "Charge.mixed" "mixed" C s_Charge_mixed P_Charge_mixed f fd) : FnOk P w K mg base CX0 8 f fd P_Charge_mixed (spMixed C) := by
  have G_Chargeis_alike : FnOk P w K mg base CX0 3 f3 fd3 P_Chargeis_alike (spAlike C) := ok_alike O Y_Chargeis_alike
  obtain ⟨B, M, KCharge, N, NX, Y_init, G_init, Y_Charge_things, G_Charge_things, Y_Charge_unit, G_Charge_unit, Y_Charge_pays, G_Charge_pays, Y_Charge_total, G_Charge_total, Y_Charge_of, G_Charge_of, Y_Charge_cut, G_Charge_cut, O_len, O_str, O_iter, O_item, O_cont, O_eq⟩ := id O
  have G_is_integer : FnOk P w K mg base CX0 2 f2 fd2 P_is_integer spIsInteger := ok_is_integer B CN D_is_whole D_is_integer
  refine Y.F.ok sc_Charge_mixed (fun vs H Q E h => ?_) (fun cdv A outer s H vs Q E hr h => ?_)
  · obtain ⟨a, b, n, d, zs, f, g, u, v, rfl, _⟩ := h
    rfl
  · obtain ⟨a, b, n, d, zs, f, g, u, v, rfl, T, n0, nd, d0, db, k⟩ := h
    refine ⟨_, (pss_cons (ps_if (pt_not (pt_val (pe_meth (pv 0) KCharge.cl Y_Chargeis_alike.m G_Chargeis_alike (hr.mono (by decide)) Y_Chargeis_alike.b .nil pass0 (pa_cons (pv 1) pa_nil)))) (pss_one ps_never) pss_nil)
      (pss_cons (ps_if (pt_not (pt_val (pe_call G_is_integer (hr.mono (by decide)) (by rfl) D_is_integer.g D_is_integer.F.kp D_is_integer.b .nil pass0 (pa_cons (pv 2) pa_nil)))) (pss_one ps_never) pss_nil)
      (pss_cons (ps_if (PW.pt (pw_or (pt_not (pt_val (pe_call G_is_integer (hr.mono (by decide)) (by rfl) D_is_integer.g D_is_integer.F.kp D_is_integer.b .nil pass0 (pa_cons (pv 3) pa_nil)))) (pw_or1 (pt_cmpR op_lt (pv 3) pe_int (nomark _))))) (pss_one ps_never) pss_nil)
      (pss_cons (ps_if (pt_not (pt_chain op_le op_le pe_int (pv 2) (pv 3))) (pss_one ps_never) pss_nil)
      (pss_one (ps_ret (pe_call G__sum_of (hr.mono (by decide)) (by rfl) D__sum_of.g D__sum_of.F.kp D__sum_of.b .nil pass0 (pa_cons (pv 0) (pa_cons (pv 2) (pa_cons (pv 1) (pa_cons (pe_op op_sub (pv 3) (pv 2)) (pa_cons (pv 3) pa_nil)))))))))))), ?_⟩
    obtain ⟨dx, tt, dd, c1, c2, c3⟩ := id T.a
    have nb : n.natAbs < 10 ^ 60 := by omega
    refine ⟨_, rfl, a, dx, _, rfl, c1, rfl, _, rfl, a, b, _, _, _, _, rfl, T.a, T.b, by rw [T.a.names, T.b.names], fun z hz => (T.z.nm z (by rw [T.a.names] at hz; exact hz)).1, ?_⟩
    refine ⟨_, rfl, ite2 (fun z => by cases z) (fun _ => ?_)⟩
    refine ⟨_, rfl, _, .int, rfl, .int n, _, rfl, ?_⟩
    rw [show intB (.int n) = true from decide_eq_true nb]
    refine iteF ⟨_, rfl, _, .int, rfl, .int d, _, rfl, ?_⟩
    rw [show intB (.int d) = true from decide_eq_true db]
    refine iteF ⟨_, rfl, _, _, rfl, rfl, _, rfl, ?_⟩
    rw [show decide (d < 1) = false from decide_eq_false (by omega)]
    refine iteF ?_
    refine ⟨_, rfl, _, _, rfl, rfl, _, rfl, ?_⟩
    rw [show decide (0 ≤ n) = true from decide_eq_true n0]
    refine iteT ⟨_, rfl, _, _, rfl, rfl, _, rfl, ?_⟩
    rw [show decide (n ≤ d) = true from decide_eq_true nd]
    refine iteF ?_
    have b900 : (10 : Nat) ^ 60 < 2 ^ 900 := by decide +kernel
    refine ⟨_, rfl, _, rfl, _, rfl, _, rfl, _, rfl, _, _, rfl, rfl, _, rfl, a, b, n, d - n, d, zs, f, g, u, v, rfl, T.a, T.b, T.z, T.u0, T.v0, d0, T.ub, T.vb, Nat.lt_trans db b900, Nat.lt_trans nb b900, Nat.lt_trans (show (d - n).natAbs < 10 ^ 60 by omega) b900, T.fb, fun x H' s' hc => k x H' s' hc⟩
end
end V0
namespace V0
open PySem PySem.Spec PyProof.Rows L2
/-! ### dicts whose values are pairs of integers in lowest terms -/
def LowAt (ps : Bag) (u : Int) (H : Hp) (z : Str) (p : Addr) : Prop := H p = some (.tup [.int (look ps z / fg (look ps z) u), .int (u / fg (look ps z) u)])
def lkv (zs : List Str) (as : List Addr) : List (Key × V) := (zs.zip as).map fun q => (.inr q.1, .ref q.2)
theorem lkv_keys : ∀ {zs : List Str} {as : List Addr}, zs.length = as.length → (lkv zs as).map (·.1) = zs.map Sum.inr
  | [], [], _ => rfl
  | z :: zs, a :: as, h => by
    have ih := lkv_keys (zs := zs) (as := as) (Nat.succ.inj h)
    show Sum.inr z :: (lkv zs as).map (·.1) = _
    rw [ih]
    rfl
theorem lkv_nd {zs : List Str} {as : List Addr} (h : zs.length = as.length) (nd : zs.Nodup) : ((lkv zs as).map (·.1)).Nodup := by
  rw [lkv_keys h]
  exact List.Pairwise.map _ (fun a b e z => e (Sum.inr.inj z)) nd
theorem lkv_at {R : Str → Addr → Prop} : ∀ {zs : List Str} {as : List Addr} {z : Str}, Paired R zs as → z ∈ zs → ∃ p, valV (lkv zs as) (.inr z) = some (.ref p) ∧ R z p
  | _, _, _, .nil, h => by cases h
  | _, _, z, .cons (a := y) (b := b) (l₁ := zs) (l₂ := as) r rs, h => by
    by_cases e : y = z
    · subst e
      exact ⟨b, valV_pos rfl, r⟩
    · have hz : z ∈ zs := by
        rcases List.mem_cons.mp h with q | q
        · exact absurd q.symm e
        · exact q
      obtain ⟨p, h1, h2⟩ := lkv_at rs hz
      exact ⟨p, by rw [← h1]; exact valV_neg (by intro q; exact e (Sum.inr.inj q)), h2⟩
theorem lkv_snoc {zs : List Str} {as : List Addr} {z : Str} {a : Addr} (h : zs.length = as.length) : lkv (zs ++ [z]) (as ++ [a]) = lkv zs as ++ [(.inr z, .ref a)] := by
  unfold lkv
  rw [List.zip_append h, List.map_append]
  rfl
theorem lkv_len {zs : List Str} {as : List Addr} (h : zs.length = as.length) : (lkv zs as).length = zs.length := by
  unfold lkv
  rw [List.length_map, List.length_zip]
  omega
/-- the state of the walk that makes them -/
def Lw (H : Hp) (D : Addr) (ps : Bag) (u : Int) (zs : List Str) (i : Nat) (H' : Hp) : Prop := Same H H' ∧ ∃ as, Paired (LowAt ps u H') (zs.take i) as ∧ PairsV H' D (lkv (zs.take i) as)
theorem lw0 {H : Hp} {D : Addr} {ps : Bag} {u : Int} {zs : List Str} (hD : H D = none) : Lw H D ps u zs 0 (upd H D (.lst [])) := ⟨Same.new hD, [], .nil, PairsV.nil upd_same⟩
theorem lw1 {H H1 : Hp} {D t p : Addr} {ps : Bag} {u : Int} {zs : List Str} {i : Nat} {z : Str} (hD : H D = none) (hz : zs[i]? = some z) (h : Lw H D ps u zs i H1) (hp : H1 p = none)
    (ht : (upd H1 p (.tup [.int (look ps z / fg (look ps z) u), .int (u / fg (look ps z) u)])) t = none) (l : zs.length ≤ 1000) :
    ∃ acc, (upd (upd H1 p (.tup [.int (look ps z / fg (look ps z) u), .int (u / fg (look ps z) u)])) t (.tup [.str z, .ref p])) D = some (.lst acc) ∧ acc.length < sizeLine ∧
      Lw H D ps u zs (i + 1) (upd (upd (upd H1 p (.tup [.int (look ps z / fg (look ps z) u), .int (u / fg (look ps z) u)])) t (.tup [.str z, .ref p])) D (.lst (acc ++ [.ref t]))) := by
  obtain ⟨s1, as, e1, e2⟩ := h
  have s2 := Same.new (o := .tup [.int (look ps z / fg (look ps z) u), .int (u / fg (look ps z) u)]) hp
  have ep : (upd H1 p (.tup [.int (look ps z / fg (look ps z) u), .int (u / fg (look ps z) u)])) p = _ := upd_same
  generalize upd H1 p (.tup [.int (look ps z / fg (look ps z) u), .int (u / fg (look ps z) u)]) = H2 at s2 ep ht
  obtain ⟨ts, hD1, _⟩ := id e2
  obtain ⟨acc, a1, a2, a3⟩ := (e2.same s2).step (k := .inr z) (v := .ref p) ht
  have s3 := Same.new (o := .tup [.str z, .ref p]) ht
  have hl : (zs.take i).length = as.length := e1.length
  have nD : ∀ b o, H2 b = some (.tup o) → b ≠ D := fun b o e => ne_of e (s2 _ _ hD1) fun z => nomatch z
  refine ⟨acc, a1, ?_, ?_, as ++ [p], ?_, ?_⟩
  · rw [a2, lkv_len hl, List.length_take, sizeLine_eq]
    omega
  · intro b o e
    have hbD : b ≠ D := fun q => by rw [q, hD] at e; cases e
    rw [upd_ne hbD]
    exact s3 _ _ (s2 _ _ (s1 _ _ e))
  · rw [List.take_add_one, hz]
    refine paired_snoc (paired_mono (fun y b e => ?_) e1) ?_
    · have e' := s2 _ _ e
      show (upd _ D _) b = _
      rw [upd_ne (nD _ _ e')]
      exact s3 _ _ e'
    · show (upd _ D _) p = _
      rw [upd_ne (nD _ _ ep)]
      exact s3 _ _ ep
  · rw [List.take_add_one, hz]
    show PairsV _ D (lkv (zs.take i ++ [z]) (as ++ [p]))
    rw [lkv_snoc hl]
    exact a3
theorem dp_pair {K : PySem.W.Frag} {H : Hp} {p : Addr} {i j : Int} (h : H p = some (.tup [.int i, .int j])) : Dp K H (.ref p) (.tuple [.int i, .int j]) := .tup (SqT.of h) (.cons (.int i) (.cons (.int j) .nil))
theorem sh_pair (i j : Int) : SeqAt.shaped (.tuple [.int i, .int j]) = true := by
  show (PyData.canLayAll0 [.int i, .int j] && decide (PyData.depthAll [.int i, .int j] + 1 ≤ 64)) = true
  rfl
theorem eqv_pair (i j : Int) : PyData.eqv (.tuple [.int i, .int j]) (.tuple [.int i, .int j]) = true := by simp [PyData.eqv, PyData.eqvAll]
theorem eqv_nil2 : PyData.eqv (.list []) (.list []) = true := by simp [PyData.eqv, PyData.eqvAll]
theorem DGet.low {H : Hp} {d : Addr} {ps : Bag} {u : Int} {zs : List Str} {as : List Addr} {z : Str} (h : H d = some (.dK (lkv zs as))) (pr : Paired (LowAt ps u H) zs as) (hz : z ∈ zs) : ∃ p, DGet H d (.str z) (some (.ref p)) ∧ LowAt ps u H z p := by
  obtain ⟨p, h1, h2⟩ := lkv_at pr hz
  exact ⟨p, .inl ⟨_, .inr z, .inl h, rfl, h1.symm⟩, h2⟩
theorem kvs_snoc (ps : Bag) (z : Str) (i : Int) : kvs (ps ++ [(z, i)]) = kvs ps ++ [(.inr z, .int i)] := by unfold kvs; rw [List.map_append]; rfl
theorem bagOf_snoc (f : Str → Int) {zs : List Str} {i : Nat} {z : Str} (h : zs[i]? = some z) : bagOf f (zs.take (i + 1)) = bagOf f (zs.take i) ++ [(z, f z)] := by
  unfold bagOf
  exact take_map_succ (fun z => (z, f z)) h
theorem str_at {zs : List Str} {i : Nat} {x : V} (h : (zs.map V.str)[i]? = some x) : ∃ z, zs[i]? = some z ∧ x = .str z := by
  rw [List.getElem?_map] at h
  cases e : zs[i]? with
  | none => rw [e] at h; cases h
  | some z => rw [e] at h; injection h with h; exact ⟨z, rfl, h.symm⟩
/-- the state of a walk that makes pairs of a thing and a number -/
def Bw (H : Hp) (D : Addr) (f : Str → Int) (zs : List Str) (i : Nat) (H' : Hp) : Prop := Same H H' ∧ PairsV H' D (kvs (bagOf f (zs.take i)))
theorem bw0 {H : Hp} {D : Addr} {f : Str → Int} {zs : List Str} (hD : H D = none) : Bw H D f zs 0 (upd H D (.lst [])) := ⟨Same.new hD, PairsV.nil upd_same⟩
theorem bw1 {H H1 H2 : Hp} {D t : Addr} {f : Str → Int} {zs : List Str} {i : Nat} {z : Str} (hD : H D = none) (hz : zs[i]? = some z) (h : Bw H D f zs i H1) (s2 : Same H1 H2) (ht : H2 t = none) (l : zs.length ≤ 1000) :
    ∃ acc, (upd H2 t (.tup [.str z, .int (f z)])) D = some (.lst acc) ∧ acc.length < sizeLine ∧ Bw H D f zs (i + 1) (upd (upd H2 t (.tup [.str z, .int (f z)])) D (.lst (acc ++ [.ref t]))) := by
  obtain ⟨s1, e1⟩ := h
  obtain ⟨acc, a1, a2, a3⟩ := (e1.same s2).step (k := .inr z) (v := .int (f z)) ht
  refine ⟨acc, a1, ?_, ?_, ?_⟩
  · rw [a2, kvs_len, sizeLine_eq]
    unfold bagOf
    rw [List.length_map, List.length_take]
    omega
  · intro b o e
    have hbD : b ≠ D := fun q => by rw [q, hD] at e; cases e
    rw [upd_ne hbD]
    exact Same.new (o := .tup [.str z, .int (f z)]) ht _ _ (s2 _ _ (s1 _ _ e))
  · rw [bagOf_snoc f hz, kvs_snoc]
    exact a3
end V0

namespace V0
open PySem PySem.Spec PyProof.Rows L2
/-! ### the law's tables of fractions -/
theorem low_cross {i j u v : Int} (hu : 0 < u) (hv : 0 < v) (h : i * v = j * u) : i / fg i u = j / fg j v ∧ u / fg i u = v / fg j v := by
  have a := low_div (G := v) (i := v * i) (j := v * u) hv ⟨i, rfl⟩ ⟨u, rfl⟩
  have b := low_div (G := u) (i := u * j) (j := u * v) hu ⟨j, rfl⟩ ⟨v, rfl⟩
  rw [Int.mul_ediv_cancel_left _ (by omega), Int.mul_ediv_cancel_left _ (by omega)] at a b
  have e1 : v * i = u * j := by rw [Int.mul_comm v, h, Int.mul_comm j]
  have e2 : v * u = u * v := Int.mul_comm _ _
  rw [e1, e2] at a
  exact ⟨a.1.trans b.1.symm, a.2.trans b.2.symm⟩
def spAlone : Sp := fun vs H Q _ => ∃ (a : Addr) (ps : Bag) (u : Int), vs = [.ref a] ∧ SomeAt H a ps u ∧ Zs (nms ps) ∧ 0 < u ∧ u.natAbs < 2 ^ 3000 ∧
  ∀ (d : Addr) (as : List Addr) (H' : Hp), Same H H' → H' d = some (.dK (lkv (nms ps) as)) → Paired (LowAt ps u H') (nms ps) as → Q (.ref d) H'
def spJoint : Sp := fun vs H Q _ => ∃ (a b c e : Addr) (ps qs : Bag) (u v n1 d1 n2 d2 : Int), vs = [.ref a, .ref b, .ref c, .ref e] ∧ SomeAt H a ps u ∧ SomeAt H b qs v ∧ nms qs = nms ps ∧ Zs (nms ps) ∧ H c = some (.tup [.int n1, .int d1]) ∧ H e = some (.tup [.int n2, .int d2]) ∧ 0 < u ∧ 0 < v ∧ 0 < d1 ∧ 0 < d2 ∧
  u.natAbs < 2 ^ 500 ∧ v.natAbs < 2 ^ 500 ∧ n1.natAbs < 2 ^ 500 ∧ d1.natAbs < 2 ^ 500 ∧ n2.natAbs < 2 ^ 500 ∧ d2.natAbs < 2 ^ 500 ∧ (∀ z ∈ nms ps, (look ps z).natAbs < 2 ^ 500 ∧ (look qs z).natAbs < 2 ^ 500) ∧
  ∀ (d : Addr) (as : List Addr) (H' : Hp), Same H H' → H' d = some (.dK (lkv (nms ps) as)) → Paired (LowAt (bagOf (fun z => look ps z * n1 * (v * d2) + look qs z * n2 * (u * d1)) (nms ps)) (u * d1 * (v * d2)) H') (nms ps) as → Q (.ref d) H'
def spPaysL (C : Addr) : Sp := fun vs H Q _ => ∃ (x d : Addr) (zs ws : List Str) (as : List Addr) (f : Str → Int) (u : Int) (ps : Bag) (v : Int), vs = [.ref x, .ref d] ∧ ChR C H x zs f u ∧ Zs zs ∧ 0 < u ∧ 0 < v ∧ u.natAbs < 2 ^ 3000 ∧ H d = some (.dK (lkv ws as)) ∧ Paired (LowAt ps v H) ws as ∧ ws.Perm zs ∧ (∀ z ∈ zs, f z * v = look ps z * u) ∧
  ∀ H', Same H H' → Q (.bl true) H'
section
variable {P : Program} {w : World} {K : PySem.W.Frag} {mg : Str → Option Value} {base : Heap} {C : Addr} {ad : Nat → Addr} {fdd : Nat → FuncData}
abbrev s_alone : Stmt := top 43
abbrev N_alone : List Str := ["_law_some", "_law_thing"]
abbrev P_alone : List Str := ["_law_some"]
theorem sc_alone : FnScope N_alone P_alone (defScope s_alone) := ⟨rfl, rfl, rfl, by decide +kernel, rfl, by decide +kernel, by decide +kernel⟩
theorem ok_alone {f f1 : Addr} {fd fd1 : FuncData} (B : Bl mg) (M : Bm mg) (D_low : Df K mg "_law_low" s_low P_low f1 fd1) (D : Df K mg "_law_alone" s_alone P_alone f fd) : FnOk P w K mg base CX0 2 f fd P_alone spAlone := by
  have G_low : FnOk P w K mg base CX0 1 f1 fd1 P_low spFr := ok_low B D_low
  refine D.F.ok sc_alone (fun vs H Q E h => ?_) (fun cdv A outer s H vs Q E hr h => ?_)
  · obtain ⟨a, ps, u, rfl, _⟩ := h
    rfl
  · obtain ⟨a, ps, u, rfl, ⟨d, h1, h2⟩, hz, u0, ub, k⟩ := h
    refine ⟨_, (pss_one (ps_ret (pe_callTy (call_dictP rfl) (by rfl) B.b_dict (by decide +kernel) (pa_cons (pe_lc (own := [("_law_thing", 1)]) (g := gName 1) (tt := tYes) rfl sc_alone.nd (pi_list (pe_callB (call_sortedD rfl) (by rfl) M.b_sorted (by decide +kernel) (pa_cons (pe_ix ix_tup (pv 0) pe_int (fun _ _ => rfl)) pa_nil))) (blkOk_by (own := [("_law_thing", 1)]) (N := N_alone) (sc := defScope s_alone) (by decide +kernel)) (fun _ _ _ _ _ => (pg_name (i := 1) sc_alone.nd rfl (Or.inl rfl))) (fun _ _ _ _ _ => pts_nil) (fun _ _ _ _ _ => (pe_tup (pa_cons (pv 1) (pa_cons (pe_call G_low (hr.mono (by decide)) (by rfl) D_low.g D_low.F.kp D_low.b .nil pass0 (pa_cons (show PE _ _ (tDGet (tOp (rIxT K) (tVar 0) (tC (.int 0))) (tVar 1)) from by exact (pe_dget (hu_of hr) (pe_ix ix_tup (pv 0) pe_int (fun _ _ => rfl)) (pv 1) (fun _ _ => rfl))) (pa_cons (show PE _ _ (tOp (rIxT K) (tVar 0) (tC (.int 1))) from by exact (pe_ix ix_tup (pv 0) pe_int (fun _ _ => rfl))) pa_nil))) pa_nil))))) pa_nil)))), ?_⟩
    have l8 := hz.l8
    refine ⟨_, rfl, a, _, 0, .ref d, rfl, rfl, SqT.of h1, rfl, d, _, nms ps, rfl, .inl h2, kvs_keys ps, by omega, fun zs l2 p1 p2 hl2 => ?_⟩
    have ez : zs = nms ps := sorted_one p1 p2 (sorted_asc _ hz.asc)
    subst ez
    have s2 := Same.new (o := .lst ((nms ps).map V.str)) hl2
    have e2 : (upd H l2 (.lst ((nms ps).map V.str))) l2 = some (.lst ((nms ps).map V.str)) := upd_same
    generalize upd H l2 (.lst ((nms ps).map V.str)) = H2 at s2 e2
    refine ⟨l2, rfl, ⟨_, SqL.of e2⟩, fun D hD => ?_⟩
    refine lc_it (walk_list (xs := (nms ps).map V.str)) (Lw H2 D ps u (nms ps)) (lw0 hD) (fun i H' _ ⟨s, _⟩ => SqL.of (s _ _ e2)) ?_ ?_
    · rintro i y H3 H4 hi lw ⟨rfl, hy⟩
      obtain ⟨z, hzz, rfl⟩ := str_at hy
      have hzm := List.mem_of_getElem? hzz
      have s3 := Same.trans s2 lw.1
      refine ⟨rfl, _, rfl, _, rfl, a, _, 0, .ref d, rfl, rfl, SqT.of (s3 _ _ h1), rfl, _, rfl, d, _, rfl, DGet.bag (.inl (s3 _ _ h2)) hzm, _, rfl, a, _, 1, .int u, rfl, rfl, SqT.of (s3 _ _ h1), rfl, _, _, rfl, u0, ub, fun p hp => ⟨by show 2 ≤ sizeLine; decide, fun t ht => ?_⟩⟩
      exact lw1 hD hzz lw hp ht (by omega)
    rintro H3 ⟨s3, as, pr, ts, t1, t2⟩
    rw [List.length_map, List.take_length] at pr t2
    have hal : (nms ps).length = as.length := pr.length
    refine ⟨D, ts, _, rfl, SqL.of t1, paired_mono (fun _ _ e => SqT.of e) t2, fun pb hpb => ?_⟩
    rw [mergeK_nil (lkv_nd hal hz.nd)]
    have s4 := Same.new (o := .dK (lkv (nms ps) as)) hpb
    exact k pb as _ (Same.trans s2 (Same.trans s3 s4)) upd_same (paired_mono (fun _ _ (e : LowAt ps u H3 _ _) => (show LowAt ps u (upd H3 pb (.dK (lkv (nms ps) as))) _ _ from s4 _ _ e)) pr)
abbrev s_pays : Stmt := top 41
abbrev N_pays : List Str := ["_law_charge", "_law_parts_by", "_law_one"]
abbrev P_pays : List Str := ["_law_charge", "_law_parts_by"]
theorem sc_pays : FnScope N_pays P_pays (defScope s_pays) := ⟨rfl, rfl, rfl, by decide +kernel, rfl, by decide +kernel, by decide +kernel⟩
theorem ok_lpays {f : Addr} {fd : FuncData} (O : Own P w K mg base C ad fdd) (D : Df K mg "_law_pays" s_pays P_pays f fd) : FnOk P w K mg base CX0 7 f fd P_pays (spPaysL C) := by
  obtain ⟨B, M, KCharge, N, NX, Y_init, G_init, Y_Charge_things, G_Charge_things, Y_Charge_unit, G_Charge_unit, Y_Charge_pays, G_Charge_pays, Y_Charge_total, G_Charge_total, Y_Charge_of, G_Charge_of, Y_Charge_cut, G_Charge_cut, O_len, O_str, O_iter, O_item, O_cont, O_eq⟩ := id O
  refine D.F.ok sc_pays (fun vs H Q E h => ?_) (fun cdv A outer s H vs Q E hr h => ?_)
  · obtain ⟨x, d, zs, ws, as, f, u, ps, v, rfl, _⟩ := h
    rfl
  · obtain ⟨x, d, zs, ws, as, f, u, ps, v, rfl, hx, hz, u0, v0, ub, hd, pr, wp, cr, k⟩ := h
    refine ⟨_, (pss_cons (ps_if (PW.pt (pw_or (pt_not (pt_val (pe_callB call_isi (by rfl) B.b_isinstance (by decide +kernel) (pa_cons (pv 0) (pa_cons (pe_gv rfl KCharge.gv) pa_nil))))) (pw_or1 (pt_cmpR (op_neD hr.units) (pe_callTy (call_listO O_iter O_len rfl (hr.mono (by decide)) (hr.mono (by decide))) (by rfl) B.b_list (by decide +kernel) (pa_cons (pv 0) pa_nil)) (pe_callB (call_sortedD rfl) (by rfl) M.b_sorted (by decide +kernel) (pa_cons (pv 1) pa_nil)) (nomark _))))) (pss_one (ps_ret pe_bl)) pss_nil)
      (pss_one (ps_ret (pe_cmpR (op_eqD hr.units) (pe_lock (pe_lc (own := [("_law_one", 2)]) (g := gName 2) rfl sc_pays.nd (pi_keys (pv 1)) (blkOk_by (own := [("_law_one", 2)]) (N := N_pays) (sc := defScope s_pays) (by decide +kernel)) (fun _ _ _ _ _ => (pg_name (i := 2) sc_pays.nd rfl (Or.inl rfl))) (fun _ _ _ _ _ => pts_one (show PT _ _ (tTest (tOp (rNeD K) (tOp (rIxO C (spItem C) E0) (tVar 0) (tVar 2)) (tDGet (tVar 1) (tVar 2)))) from by exact (pt_cmpR (op_neD hr.units) (pe_ixO O_item NX.gi (hr.mono (by decide)) pass0 (pv 0) (pv 2)) (pe_dget (hu_of hr) (pv 1) (pv 2) (fun _ _ => rfl)) (nomark _)))) (fun _ _ _ _ _ => (pv 2)))) (pe_lst pa_nil) (nomark _))))), ?_⟩
    have U0 := nfU_pos (ps := bagOf f zs) u0
    have U1 := nfU_le (ps := bagOf f zs) u0
    have hal : ws.length = as.length := pr.length
    have wl : ws.length = zs.length := wp.length_eq
    have l8 := hz.l8
    have l1 := hz.l1
    have bl : (nfB u (bagOf f zs)).length = zs.length := by rw [nf_len]; unfold bagOf; rw [List.length_map]
    obtain ⟨dx, tt, dd, c1, c2, c3⟩ := id hx
    rw [hx.names] at c2
    refine ⟨_, rfl, _, _, _, _, _, rfl, .own C, KCharge.ins c1, Kls.self, _, rfl, ite2 (fun z => by cases z) (fun _ => ?_)⟩
    refine ⟨_, rfl, x, dx, _, tt, zs.map V.str, rfl, c1, rfl, SqT.of c2, by rw [List.length_map, sizeLine_eq]; omega, fun H' s' => ⟨x, _, _, rfl, ChAt.same hx s', by omega, rfl, _, rfl, by omega, by omega⟩, fun pl hpl => ?_⟩
    have s1 := Same.new (o := .lst (zs.map V.str)) hpl
    have e1 : (upd H pl (.lst (zs.map V.str))) pl = some (.lst (zs.map V.str)) := upd_same
    generalize upd H pl (.lst (zs.map V.str)) = H1 at s1 e1
    refine ⟨_, rfl, d, _, ws, rfl, .inl (s1 _ _ hd), lkv_keys hal, by omega, fun ys l2 p1 p2 hl2 => ?_⟩
    have ez : ys = zs := sorted_one (p1.trans wp) p2 (sorted_asc _ hz.asc)
    subst ez
    have s2' := Same.new (o := .lst (ys.map V.str)) hl2
    have e2 : (upd H1 l2 (.lst (ys.map V.str))) l2 = some (.lst (ys.map V.str)) := upd_same
    have e1 := s2' _ _ e1
    have s2 := Same.trans s1 s2'
    generalize upd H1 l2 (.lst (ys.map V.str)) = H2 at s2 e2 e1
    have sh : SeqAt.shaped (.list (ys.map PyData.str)) = true := by
      have := sh_strs ys fun z h => (hz.nm z h).1
      exact this
    refine ⟨_, _, .lst (SqL.of e1) (dp_strs ys), .lst (SqL.of e2) (dp_strs ys), sh, sh, ?_⟩
    rw [show PyData.eqv (.list (ys.map PyData.str)) (.list (ys.map PyData.str)) = true from by rw [PyData.eqv, eqv_strs]]
    refine ⟨_, rfl, ite2 (fun z => by cases z) (fun _ => ?_)⟩
    have pr2 : Paired (LowAt ps v H2) ws as := paired_mono (fun _ _ e => s2 _ _ e) pr
    have hx2 := ChAt.same hx s2
    have hd2 := s2 _ _ hd
    refine ⟨d, _, hd2, trivial, fun od => ⟨_, rfl, d, od, rfl, .inl ⟨_, upd_same, fun D hD => ?_⟩⟩⟩
    -- nothing of the charge is the dict
    have ndd : dd ≠ d := fun q => by
      have e3 : H2 dd = some (.dK (kvs (nfB u (bagOf f ys)))) := s2 _ _ c3
      rw [q, hd2] at e3
      have e4 : lkv ws as = kvs (nfB u (bagOf f ys)) := by injection e3 with e3; injection e3
      cases pr with
      | nil => exact absurd wl (by show (0 : Nat) ≠ _; omega)
      | cons r rs =>
        cases hn : nfB u (bagOf f ys) with
        | nil => rw [hn] at bl; exact absurd bl (by show (0 : Nat) ≠ _; omega)
        | cons q0 qs =>
          rw [hn] at e4
          have e5 := (List.cons.inj e4).1
          injection e5 with _ e6
          cases e6
    have frz : ∀ {b : Addr} {o : HO}, H2 b = some o → b ≠ d → (upd H2 d (.frz od (.dK (lkv ws as)))) b = some o := fun e n => by rw [upd_ne n]; exact e
    have hxf : ChAt C (upd H2 d (.frz od (.dK (lkv ws as)))) x (nfB u (bagOf f ys)) (nfU u (bagOf f ys)) := by
      obtain ⟨dx', t', d', g1, g2, g3⟩ := id hx2
      have e : d' = dd := by
        have := (s2 _ _ c1).symm.trans g1
        injection this with this
        injection this with _ _ this
        injection this with _ this
        injection this with _ this
        injection this with this _
        injection this with _ this
        injection this with this
        exact this.symm
      exact ⟨dx', t', d', frz g1 (ne_of g1 hd2 fun z => nomatch z), frz g2 (ne_of g2 hd2 fun z => nomatch z), frz g3 (e ▸ ndd)⟩
    have prf : Paired (LowAt ps v (upd H2 d (.frz od (.dK (lkv ws as))))) ws as := paired_mono (fun _ _ e => frz e (ne_of e hd2 fun z => nomatch z)) pr2
    have efd : (upd H2 d (.frz od (.dK (lkv ws as)))) d = some (.frz od (.dK (lkv ws as))) := upd_same
    have c1f := frz (s2 _ _ c1) (ne_of (s2 _ _ c1) hd2 fun z => nomatch z)
    have back : ∀ {H' : Hp}, Same (upd H2 d (.frz od (.dK (lkv ws as)))) H' → Same H2 (upd H' d (.dK (lkv ws as))) := by
      intro H' s' b o e
      by_cases q : b = d
      · rw [q, upd_same, ← hd2, ← e, q]
      · rw [upd_ne q]
        exact s' _ _ (frz e q)
    generalize upd H2 d (.frz od (.dK (lkv ws as))) = Hf at hD efd hxf prf c1f back
    have nDd := ne_of_none efd hD
    refine lc_it walk_keys (fun _ H' => Same Hf H' ∧ H' D = some (.lst [])) ⟨Same.new hD, upd_same⟩ (fun i H' _ ⟨s, _⟩ => s _ _ efd) ?_ ?_
    · rintro i y H6 H7 hi ⟨s6, e6⟩ ⟨rfl, kk, vv, hk, rfl⟩
      have hzw : ∃ z, z ∈ ws ∧ kk = .inr z := by
        have := List.mem_of_getElem? hk
        obtain ⟨q, hq, e⟩ := List.mem_map.mp this
        refine ⟨q.1, (List.of_mem_zip hq).1, ?_⟩
        injection e with e _
        exact e.symm
      obtain ⟨z, hzm, rfl⟩ := hzw
      have hzy : z ∈ ys := wp.subset hzm
      have hzn : z ∈ nms (nfB u (bagOf f ys)) := by rw [hx.names]; exact hzy
      refine ⟨rfl, _, rfl, _, rfl, x, dx, _, rfl, s6 _ _ c1f, x, _, _, z, rfl, hxf.same s6, U0, by omega, hzn, fun p' hp' => ?_⟩
      rw [(low_look u0 z).1, (low_look u0 z).2, look_bag hz.nd hzy]
      obtain ⟨q1, q2⟩ := low_cross u0 v0 (cr z hzy)
      rw [q1, q2]
      have s7' := Same.new (o := .tup [.int (look ps z / fg (look ps z) v), .int (v / fg (look ps z) v)]) hp'
      have e7 : (upd H7 p' (.tup [.int (look ps z / fg (look ps z) v), .int (v / fg (look ps z) v)])) p' = some (.tup [.int (look ps z / fg (look ps z) v), .int (v / fg (look ps z) v)]) := upd_same
      have e6 := s7' _ _ e6
      have s7 := Same.trans s6 s7'
      generalize upd H7 p' (.tup [.int (look ps z / fg (look ps z) v), .int (v / fg (look ps z) v)]) = H8 at s7 e7 e6
      obtain ⟨p, g1, g2⟩ := lkv_at prf hzm
      refine ⟨_, rfl, _, rfl, d, _, rfl, .inl ⟨_, .inr z, .inr ⟨_, s7 _ _ efd⟩, rfl, g1.symm⟩, _, _, dp_pair e7, dp_pair (s7 _ _ g2), sh_pair _ _, sh_pair _ _, ?_⟩
      rw [eqv_pair]
      refine ⟨_, rfl, ?_⟩
      exact ite2 (fun z => by cases z) (fun _ => ⟨s7, e6⟩)
    rintro HL ⟨sL, eL⟩
    refine ⟨sL _ _ efd, ?_⟩
    have sB := back sL
    have eD : (upd HL d (.dK (lkv ws as))) D = some (.lst []) := by rw [upd_ne nDd.symm]; exact eL
    generalize upd HL d (.dK (lkv ws as)) = HM at sB eD
    refine ⟨Nat.zero_le _, fun en hen => ?_⟩
    have sN := Same.new (o := .lst []) hen
    refine ⟨_, _, .lst (SqL.of (sN _ _ eD)) .nil, .lst (SqL.of upd_same) .nil, rfl, rfl, ?_⟩
    rw [eqv_nil2]
    exact k _ (Same.trans s2 (Same.trans sB sN))
end
end V0

namespace V0
open PySem PySem.Spec PyProof.Rows L2
section
variable {P : Program} {w : World} {K : PySem.W.Frag} {mg : Str → Option Value} {base : Heap} {C : Addr} {ad : Nat → Addr} {fdd : Nat → FuncData}
abbrev s_joint : Stmt := top 42
abbrev N_joint : List Str := ["_law_one", "_law_other", "_law_first", "_law_second", "_law_found", "_law_thing", "_law_left", "_law_right_here", "_law_low_here", "_law_far"]
abbrev P_joint : List Str := ["_law_one", "_law_other", "_law_first", "_law_second"]
theorem sc_joint : FnScope N_joint P_joint (defScope s_joint) := ⟨rfl, rfl, rfl, by decide +kernel, rfl, by decide +kernel, by decide +kernel⟩
theorem ok_joint {f f1 : Addr} {fd fd1 : FuncData} (B : Bl mg) (M : Bm mg) (D_low : Df K mg "_law_low" s_low P_low f1 fd1) (D : Df K mg "_law_joint" s_joint P_joint f fd) : FnOk P w K mg base CX0 2 f fd P_joint spJoint := by
  have G_low : FnOk P w K mg base CX0 1 f1 fd1 P_low spFr := ok_low B D_low
  refine D.F.ok sc_joint (fun vs H Q E h => ?_) (fun cdv A outer s H vs Q E hr h => ?_)
  · obtain ⟨a, b, c, e, ps, qs, u, v, n1, d1, n2, d2, rfl, _⟩ := h
    rfl
  · obtain ⟨a, b, c, e, ps, qs, u, v, n1, d1, n2, d2, rfl, ⟨da, h1, h2⟩, ⟨db, g1, g2⟩, en, hz, hc, he, u0, v0, d10, d20, ub, vb, n1b, d1b, n2b, d2b, fb, k⟩ := h
    refine ⟨_, (pss_cons (ps_set (i := 4) sc_joint.nd rfl (Or.inl rfl) (pe_lst pa_nil))
      (pss_cons (ps_for PassesOwn.never rfl (pi_list (pe_callB (call_sortedD rfl) (by rfl) M.b_sorted (by decide +kernel) (pa_cons (pe_ix ix_tup (pv 0) pe_int (fun _ _ => rfl)) pa_nil))) (pg_name (i := 5) sc_joint.nd rfl (Or.inl rfl)) (pss_cons (ps_par (i := 6) (j := 7) (by rfl) sc_joint.nd rfl rfl (by decide) rfl rfl (pa_cons (pe_op op_mulW (pe_dget (hu_of hr) (pe_ix ix_tup (pv 0) pe_int (fun _ _ => rfl)) (pv 5) (fun _ _ => rfl)) (pe_ix ix_tup (pv 2) pe_int (fun _ _ => rfl))) (pa_cons (pe_op op_mulW (pe_dget (hu_of hr) (pe_ix ix_tup (pv 1) pe_int (fun _ _ => rfl)) (pv 5) (fun _ _ => rfl)) (pe_ix ix_tup (pv 3) pe_int (fun _ _ => rfl))) pa_nil)) (by rfl))
      (pss_cons (ps_par (i := 8) (j := 9) (by rfl) sc_joint.nd rfl rfl (by decide) rfl rfl (pa_cons (pe_op op_mulW (pe_ix ix_tup (pv 0) pe_int (fun _ _ => rfl)) (pe_ix ix_tup (pv 2) pe_int (fun _ _ => rfl))) (pa_cons (pe_op op_mulW (pe_ix ix_tup (pv 1) pe_int (fun _ _ => rfl)) (pe_ix ix_tup (pv 3) pe_int (fun _ _ => rfl))) pa_nil)) (by rfl))
      (pss_one (ps_expr (pe_bm PySem.F.plainAttrs_list PySem.F.slot_list_append PySem.F.type_list_append mt_append (pv 4) (pa_cons (pe_tup (pa_cons (pv 5) (pa_cons (pe_call G_low (hr.mono (by decide)) (by rfl) D_low.g D_low.F.kp D_low.b .nil pass0 (pa_cons (pe_op op_add (pe_op op_mulW (pv 6) (pv 9)) (pe_op op_mulW (pv 7) (pv 8))) (pa_cons (pe_op op_mulW (pv 8) (pv 9)) pa_nil))) pa_nil))) pa_nil)))))))
      (pss_one (ps_ret (pe_callTy (call_dictP rfl) (by rfl) B.b_dict (by decide +kernel) (pa_cons (pv 4) pa_nil)))))), ?_⟩
    have l8 := hz.l8
    generalize hF : (fun z => look ps z * n1 * (v * d2) + look qs z * n2 * (u * d1)) = F at k
    generalize hV : u * d1 * (v * d2) = T at k
    have vpos : 0 < T := by rw [← hV]; exact Int.mul_pos (Int.mul_pos u0 d10) (Int.mul_pos v0 d20)
    have w1 := abs_mul_lt ub d1b
    have w2 := abs_mul_lt vb d2b
    have w3 := abs_mul_lt w1 w2
    refine ⟨Nat.zero_le _, fun L hL => ?_⟩
    have s1 := Same.new (o := .lst []) hL
    have e1 : (upd H L (.lst [])) L = some (.lst []) := upd_same
    generalize upd H L (.lst []) = H1 at s1 e1
    refine ⟨_, rfl, a, _, 0, .ref da, rfl, rfl, SqT.of (s1 _ _ h1), rfl, da, _, nms ps, rfl, .inl (s1 _ _ h2), kvs_keys ps, by omega, fun zs l2 p1 p2 hl2 => ?_⟩
    have ez : zs = nms ps := sorted_one p1 p2 (sorted_asc _ hz.asc)
    subst ez
    have s2' := Same.new (o := .lst ((nms ps).map V.str)) hl2
    have e2 : (upd H1 l2 (.lst ((nms ps).map V.str))) l2 = some (.lst ((nms ps).map V.str)) := upd_same
    have e1 := s2' _ _ e1
    have s2 := Same.trans s1 s2'
    have nL2 : l2 ≠ L := fun q => by
      rw [q] at hl2
      exact absurd hl2 (by rw [(show H1 L = some (.lst []) from by assumption)]; exact fun z => nomatch z)
    generalize upd H1 l2 (.lst ((nms ps).map V.str)) = H2 at s2 e2 e1
    refine ⟨l2, rfl, ⟨_, SqL.of e2⟩, ?_⟩
    refine for_it (walk_list (xs := (nms ps).map V.str)) (fun i σ H' => But L H2 H' ∧ (∃ as, Paired (LowAt (bagOf F (nms ps)) T H') ((nms ps).take i) as ∧ PairsV H' L (lkv ((nms ps).take i) as)) ∧ ∃ x5 x6 x7 x8 x9 : Option V, σ = [some (.ref a), some (.ref b), some (.ref c), some (.ref e), some (.ref L), x5, x6, x7, x8, x9])
      ⟨But.refl, ⟨[], .nil, PairsV.nil e1⟩, _, _, _, _, _, rfl⟩ (fun i σ H' _ ⟨bt, _⟩ => SqL.of (bt _ _ e2 nL2)) ?_ ?_
    · rintro i y σ H3 H4 hi ⟨bt, ⟨as, pr, pv⟩, x5, x6, x7, x8, x9, rfl⟩ ⟨rfl, hy⟩
      obtain ⟨z, hzz, rfl⟩ := str_at hy
      have hzm := List.mem_of_getElem? hzz
      have keep : ∀ {x : Addr} {o : HO}, H x = some o → H4 x = some o := fun {x o} q => bt _ _ (s2 _ _ q) (fun w => by rw [w, hL] at q; cases q)
      have m1 := abs_mul_lt (fb z hzm).1 n1b
      have m2 := abs_mul_lt (fb z hzm).2 n2b
      have k1 := keep h1
      have k2 := keep h2
      have k3 := keep g1
      have k4 := keep g2
      have k5 := keep hc
      have k6 := keep he
      refine ⟨_, rfl, a, _, 0, .ref da, rfl, rfl, SqT.of k1, rfl, _, rfl, da, _, rfl, DGet.bag (.inl k2) hzm, _, rfl, c, _, 0, .int n1, rfl, rfl, SqT.of k5, rfl, _, _, rfl, rfl, mulW (fb z hzm).1 n1b (by decide) (by decide) (by decide), ?_⟩
      refine ⟨_, rfl, b, _, 0, .ref db, rfl, rfl, SqT.of k3, rfl, _, rfl, db, _, rfl, DGet.bag (.inl k4) (en.symm ▸ hzm), _, rfl, e, _, 0, .int n2, rfl, rfl, SqT.of k6, rfl, _, _, rfl, rfl, mulW (fb z hzm).2 n2b (by decide) (by decide) (by decide), _, _, rfl, ?_⟩
      refine ⟨_, rfl, a, _, 1, .int u, rfl, rfl, SqT.of k1, rfl, _, rfl, c, _, 1, .int d1, rfl, rfl, SqT.of k5, rfl, _, _, rfl, rfl, mulW ub d1b (by decide) (by decide) (by decide), ?_⟩
      refine ⟨_, rfl, b, _, 1, .int v, rfl, rfl, SqT.of k3, rfl, _, rfl, e, _, 1, .int d2, rfl, rfl, SqT.of k6, rfl, _, _, rfl, rfl, mulW vb d2b (by decide) (by decide) (by decide), _, _, rfl, ?_⟩
      obtain ⟨ts, pv1, pv2⟩ := id pv
      refine ⟨_, rfl, .inl ⟨rfl, _, SqL.of pv1⟩, _, rfl, _, rfl, _, rfl, _, _, rfl, rfl, mulW m1 w2 (by decide) (by decide) (by decide), _, rfl, _, rfl, _, _, rfl, rfl, mulW m2 w1 (by decide) (by decide) (by decide), _, _, rfl, rfl, _, rfl, _, rfl, _, _, rfl, rfl, mulW w1 w2 (by decide) (by decide) (by decide), ?_⟩
      refine ⟨_, _, rfl, by rw [hV]; exact vpos, Nat.lt_trans w3 (by decide +kernel), fun p hp => ?_⟩
      refine ⟨by show 2 ≤ sizeLine; decide, fun t ht => ?_⟩
      have eF : look (bagOf F (nms ps)) z = look ps z * n1 * (v * d2) + look qs z * n2 * (u * d1) := by rw [look_bag hz.nd hzm, ← hF]
      have hp4 : H4 p = none := hp
      have q := lw1 (H := fun _ => none) (D := L) (ps := bagOf F (nms ps)) (u := T) rfl hzz ⟨fun _ _ e => (nomatch e), as, pr, pv⟩ hp4 (by rw [eF, ← hV]; exact ht) (by omega)
      obtain ⟨acc, a1, a2, _, as', a3, a4⟩ := q
      rw [eF, ← hV] at a1
      refine ⟨L, acc, .ref t, rfl, rfl, a1, a2, ?_⟩
      have eqH : ∀ (X Y : V), X = .int (look (bagOf F (nms ps)) z / fg (look (bagOf F (nms ps)) z) T) → Y = .int (T / fg (look (bagOf F (nms ps)) z) T) →
          (But L H2 (upd (upd (upd H4 p (.tup [X, Y])) t (.tup [.str z, .ref p])) L (.lst (acc ++ [.ref t]))) ∧ ∃ as, Paired (LowAt (bagOf F (nms ps)) T (upd (upd (upd H4 p (.tup [X, Y])) t (.tup [.str z, .ref p])) L (.lst (acc ++ [.ref t])))) ((nms ps).take (i + 1)) as ∧ PairsV (upd (upd (upd H4 p (.tup [X, Y])) t (.tup [.str z, .ref p])) L (.lst (acc ++ [.ref t]))) L (lkv ((nms ps).take (i + 1)) as)) := by
        rintro X Y rfl rfl
        refine ⟨fun x o ex nx => ?_, as', a3, a4⟩
        have q4 := bt _ _ ex nx
        rw [upd_ne nx]
        refine Same.new (o := .tup [.str z, .ref p]) (by rw [eF, ← hV]; exact ht) _ _ (Same.new hp4 _ _ q4)
      obtain ⟨b1, b2⟩ := eqH _ _ (by rw [eF, ← hV]) (by rw [eF, ← hV])
      exact ⟨b1, b2, _, _, _, _, _, rfl⟩
    · rintro σ H3 ⟨bt, ⟨as, pr, ts, t1, t2⟩, x5, x6, x7, x8, x9, rfl⟩
      rw [List.length_map, List.take_length] at pr t2
      have hal : (nms ps).length = as.length := pr.length
      have keep : Same H H3 := fun x o q => bt _ _ (s2 _ _ q) (fun w => by rw [w, hL] at q; cases q)
      refine ⟨_, rfl, L, ts, _, rfl, SqL.of t1, paired_mono (fun _ _ e => SqT.of e) t2, fun pb hpb => ?_⟩
      rw [mergeK_nil (lkv_nd hal hz.nd)]
      have s4 := Same.new (o := .dK (lkv (nms ps) as)) hpb
      exact k pb as _ (Same.trans keep s4) upd_same (paired_mono (fun _ _ (e : LowAt (bagOf F (nms ps)) T H3 _ _) => (show LowAt (bagOf F (nms ps)) T (upd H3 pb (.dK (lkv (nms ps) as))) _ _ from s4 _ _ e)) pr)
end
end V0
namespace V0
open PySem PySem.Spec PyProof.Rows L2
theorem kv_vals {κ : Type} : ∀ {kvs : List (κ × V)} {vs : List (κ × Value)}, KV kvs vs → Vals (kvs.map (·.2)) (vs.map (·.2))
  | _, _, .nil => .nil
  | _, _, .cons a b => .cons a.2 (kv_vals b)
/-- list(e.values()), a dict of integers -/
def tListVals (te : TE) : TE := fun σ H Q => te σ H fun x H1 => ∃ (d : Addr) (kvs : List (Key × V)) (is : List Int), x = .ref d ∧ H1 d = some (.dK kvs) ∧ kvs.map (·.2) = is.map V.int ∧ ∀ p, H1 p = none → Q (.ref p) (upd H1 p (.lst (is.map V.int)))
section
variable {X : Cx} {e : Expr} {te : TE} {p apos cpos pos : Pos}
theorem pe_listVals (hc : X.calm = true) (he : PE X e te) (hg : Gl X "list") (hm : X.mg "list" = none) (hv : bootBuiltins "list" = some (.type "list")) (hbase : attributeBase e "values" X.env (eval e X.env) = eval e X.env := by rfl) (hline : (apos.endLine == cpos.line) = true := by rfl)
    (hs : starEach [.Call (.Attribute e "values" apos) [] [] cpos] X.env = (false, eval (.Call (.Attribute e "values" apos) [] [] cpos) X.env) :: starEach [] X.env := by rfl) :
    PE X (.Call (.Name "list" p) [.Call (.Attribute e "values" apos) [] [] cpos] [] pos) (tListVals te) := by
  refine ⟨fun pins s σ H Q I hq => ?_⟩
  refine wpAny_Call_Name_kw (ld_blt I hg hm hv ?_)
  refine PyProof.Rows.callWith_type1 ?_ hs rfl
  rw [hs]
  show wpAny _ _ (spliced ((false, eval (.Call (.Attribute e "values" apos) [] [] cpos) X.env) :: backTo pos (starEach [] X.env))) _ _ s
  refine Calls.spliced_cons (wpAny_Call_method (T := "dict") (id := "dict.values") hbase rfl hline F.plainAttrs_dict F.slot_dict_values F.type_dict_values (thn (he.run pins s σ H _ I hq) fun u s1 ⟨x, H1, I1, rx, d, kvs, is, ex, hd, hi, q⟩ => ?_))
  subst ex
  obtain rfl : u = Value.ref d := rx
  obtain ⟨hz, hs0, vs, kv, hdo⟩ := I1.hok d _ hd
  obtain ⟨ep, hat⟩ := hdo.dictAt
  have lk : kvs.length = vs.length := Paired.length kv
  have keepV : ∀ b u, s1.heap.get? b = some u → (s1.heap.push { cls := .type "dict_values", data := .fields #[.ref d] }).get? b = some u := fun b u z => Heap.get?_push_of_some _ z
  have I2 : Inv X pins σ H1 { s1 with heap := s1.heap.push { cls := .type "dict_values", data := .fields #[.ref d] } } := I1.kept (t' := s1.toks) keepV
  refine ⟨hdo.typeIs, hdo.mapOf.noDict, ?_⟩
  show wpAny _ _ (callWith cpos (.builtin "dict.values") [.ref d] [] []) _ X.xe s1
  refine method_meetsIn F.slot_dict_values F.entry_dict_values rfl (PySem.evalArgs_none ⟨rfl, hdo.typeIs, F.args_dict_values_1 _, _, meets_dict_values (mixKind X.prog X.w) d hs0, ⟨vs, hdo⟩, ?_⟩)
  refine Calls.spliced_nil ?_
  refine PySem.W.kdl_call (PySem.W.kdl_values (knd := mixKind X.prog X.w) (kvs := vs) (ep := ep)) (I1.ok.hd hc) ⟨⟨_, Heap.get?_push_size _ rfl, rfl, rfl⟩, hat.keep keepV⟩ (by omega) fun h' tk acc c hk hS hacc => ?_
  have eacc : acc.toList = vs.map (·.2) := PySem.W.kdl_vals_eq acc.toList (by rw [Array.length_toList]; exact hacc.1) fun j v z => hacc.2 j v (by rw [← Array.getElem?_toList]; exact z)
  have rel : Vals (is.map V.int) acc.toList := by
    rw [eacc, ← hi]
    exact kv_vals kv
  have hfr := I2.hok.fresh (Nat.le_refl _)
  refine ⟨.ref _, _, I2.laid (t' := tk) (h' := h') hk (Nat.le_refl _) ?_, rfl, q _ hfr⟩
  refine ⟨by rw [← hi, List.length_map]; exact hz, acc.toList, c, rel, ?_⟩
  rw [Array.toArray_toList]
  exact hS
end
end V0

namespace V0
open PySem PySem.Spec PyProof.Rows L2
/-- the class with its sums -/
structure Own9 (P : Program) (w : World) (K : PySem.W.Frag) (mg : Str → Option Value) (base : Heap) (C : Addr) (ad : Nat → Addr) (fdd : Nat → FuncData) : Prop where
  O : Own P w K mg base C ad fdd
  sf : PySem.W.selfFirst K C = true
  add : OwnM P w K mg base CX0 8 C "__add__" (spAddR C 1)
  sub : OwnM P w K mg base CX0 8 C "__sub__" (spAddR C (-1))
  Yt : Md1 K "Charge.times" "times" C s_Charge_times P_Charge_times (ad 15) (fdd 15)
  Gt : FnOk P w K mg base CX0 8 (ad 15) (fdd 15) P_Charge_times (spTimes C)
  Ym : Md K "Charge.mixed" "mixed" C s_Charge_mixed P_Charge_mixed (ad 16) (fdd 16)
  Gm : FnOk P w K mg base CX0 8 (ad 16) (fdd 16) P_Charge_mixed (spMixed C)
theorem eqd_self {K : PySem.W.Frag} {C : Addr} {H : Hp} {ps : Bag} {u : Int} {c : Addr} (nd : (nms ps).Nodup) (h : ChAt C H c ps u) : Eqd K C H ps u (.ref c) true :=
  .inr ⟨c, ps, u, rfl, h, by rw [decide_eq_true rfl, eqBg_self nd]; rfl⟩
theorem sum_small {p q u v t : Int} (hp : p.natAbs < 10 ^ 40) (hq : q.natAbs < 10 ^ 40) (hu : u.natAbs ≤ 10 ^ 11) (hv : v.natAbs ≤ 10 ^ 11) (ht : t.natAbs ≤ 1) : (p * v + t * q * u).natAbs < 2 ^ 2000 := by
  have a := Int.natAbs_add_le (p * v) (t * q * u)
  have b : (p * v).natAbs ≤ 10 ^ 40 * 10 ^ 11 := by rw [Int.natAbs_mul]; exact Nat.mul_le_mul (Nat.le_of_lt hp) hv
  have c : (t * q * u).natAbs ≤ 1 * 10 ^ 40 * 10 ^ 11 := by rw [Int.natAbs_mul, Int.natAbs_mul]; exact Nat.mul_le_mul (Nat.mul_le_mul ht (Nat.le_of_lt hq)) hu
  have d : (10 : Nat) ^ 40 * 10 ^ 11 + 1 * 10 ^ 40 * 10 ^ 11 < 2 ^ 2000 := by decide +kernel
  exact Nat.lt_of_le_of_lt (Nat.le_trans a (Nat.add_le_add b c)) d
theorem sum_bound {b : Nat} {ps : Bag} : ∀ zs : List Str, (∀ z ∈ zs, (look ps z).natAbs ≤ b) → (sumB ps zs).natAbs ≤ zs.length * b
  | [], _ => by simp [sumB]
  | z :: zs, h => by
    have ih := sum_bound zs fun y hy => h y (by simp [hy])
    have h1 := h z (by simp)
    unfold sumB at ih ⊢
    rw [List.map_cons, List.sum_cons, List.length_cons, Nat.succ_mul]
    omega
theorem ChR.eqd {K : PySem.W.Frag} {C : Addr} {H : Hp} {c : Addr} {zs : List Str} {f g : Str → Int} {u v : Int} (hz : Zs zs) (hu : 0 < u) (hv : 0 < v) (hb : ChR C H c zs g v) (e : ∀ z ∈ zs, g z * u = f z * v) : Eqd K C H (nfB u (bagOf f zs)) (nfU u (bagOf f zs)) (.ref c) true := by
  have h : ChAt C H c (nfB u (bagOf f zs)) (nfU u (bagOf f zs)) := hb.cast hv hu e
  exact eqd_self (by rw [nfB_nms, bagOf_nms]; exact hz.nd) h
theorem ChR.ins {C x : Addr} {H : Hp} {zs : List Str} {f : Str → Int} {u : Int} (h : ChR C H x zs f u) : ∃ dx t d U, H x = some (.ins C dx (chF t d U)) := by
  obtain ⟨dx, t, d, h1, _⟩ := h
  exact ⟨dx, t, d, _, h1⟩
theorem sumB_bag {f : Str → Int} {zs : List Str} (nd : zs.Nodup) : sumB (bagOf f zs) zs = (zs.map f).sum := by
  unfold sumB
  congr 1
  exact List.map_congr_left fun z hz => look_bag nd hz
theorem sum_lin (f g : Str → Int) (u v : Int) : ∀ zs : List Str, (zs.map fun z => f z * v + 1 * g z * u).sum = (zs.map f).sum * v + (zs.map g).sum * u
  | [] => by simp
  | z :: zs => by
    have ih := sum_lin f g u v zs
    rw [List.map_cons, List.sum_cons, ih, List.map_cons, List.sum_cons, List.map_cons, List.sum_cons]
    grind
theorem bag_vals {ps : Bag} (nd : (nms ps).Nodup) : (kvs ps).map (·.2) = (((nms ps).map (look ps)).map V.int) := by
  conv => lhs; rw [← look_self nd]
  unfold kvs
  rw [List.map_map, List.map_map, List.map_map]
  rfl
/-- what the law's pairs of charges are -/
structure Pair9 (C : Addr) (H : Hp) (a b x y : Addr) (ps qs : Bag) (u v : Int) : Prop where
  a : SomeAt H a ps u
  b : SomeAt H b qs v
  n : nms qs = nms ps
  z : Zs (nms ps)
  x : ChR C H x (nms ps) (look ps) u
  y : ChR C H y (nms ps) (look qs) v
  u0 : 0 < u
  v0 : 0 < v
  ub : u < 10 ^ 11
  vb : v < 10 ^ 11
  lb : ∀ z ∈ nms ps, (look ps z).natAbs < 10 ^ 40 ∧ (look qs z).natAbs < 10 ^ 40
theorem Pair9.same {C a b x y : Addr} {H H' : Hp} {ps qs : Bag} {u v : Int} (h : Pair9 C H a b x y ps qs u v) (s : Same H H') : Pair9 C H' a b x y ps qs u v :=
  ⟨h.a.same s, h.b.same s, h.n, h.z, h.x.same s, h.y.same s, h.u0, h.v0, h.ub, h.vb, h.lb⟩
def spSumsR (C : Addr) : Sp := fun vs H Q _ => ∃ (a b x y : Addr) (ps qs : Bag) (u v : Int), vs = [.ref a, .ref b, .ref x, .ref y] ∧ Pair9 C H a b x y ps qs u v ∧ ∀ H', Same H H' → Q (.bl true) H'
theorem pw900 : (10 : Nat) ^ 11 < 2 ^ 500 ∧ (10 : Nat) ^ 40 < 2 ^ 500 ∧ (2 : Nat) ^ 500 < 2 ^ 900 ∧ (2 : Nat) ^ 500 < 2 ^ 2000 ∧ (10 : Nat) ^ 51 < 2 ^ 2000 ∧ (10 : Nat) ^ 22 < 2 ^ 900 := by decide +kernel
section
variable {P : Program} {w : World} {K : PySem.W.Frag} {mg : Str → Option Value} {base : Heap} {C : Addr} {ad : Nat → Addr} {fdd : Nat → FuncData}
abbrev s_sums_right : Stmt := top 44
abbrev N_sums_right : List Str := ["_law_one", "_law_other", "_law_first", "_law_second", "_law_some", "_law_tops", "_law_due"]
abbrev P_sums_right : List Str := ["_law_one", "_law_other", "_law_first", "_law_second"]
theorem sc_sums_right : FnScope N_sums_right P_sums_right (defScope s_sums_right) := ⟨rfl, rfl, rfl, by decide +kernel, rfl, by decide +kernel, by decide +kernel⟩
theorem ok_sums_right {f f1 f2 f3 : Addr} {fd fd1 fd2 fd3 : FuncData} (O9 : Own9 P w K mg base C ad fdd) (D_low : Df K mg "_law_low" s_low P_low f1 fd1) (D_pays : Df K mg "_law_pays" s_pays P_pays f2 fd2) (D_joint : Df K mg "_law_joint" s_joint P_joint f3 fd3)
    (D : Df K mg "_law_sums_right" s_sums_right P_sums_right f fd) : FnOk P w K mg base CX0 10 f fd P_sums_right (spSumsR C) := by
  obtain ⟨O, hsf, O_add, O_sub, Y_Charge_times, G_Charge_times, Y_Charge_mixed, G_Charge_mixed⟩ := id O9
  obtain ⟨B, M, KCharge, N, NX, Y_init, G_init, Y_Charge_things, G_Charge_things, Y_Charge_unit, G_Charge_unit, Y_Charge_pays, G_Charge_pays, Y_Charge_total, G_Charge_total, Y_Charge_of, G_Charge_of, Y_Charge_cut, G_Charge_cut, O_len, O_str, O_iter, O_item, O_cont, O_eq⟩ := id O
  have G_low : FnOk P w K mg base CX0 1 f1 fd1 P_low spFr := ok_low B D_low
  have G_pays : FnOk P w K mg base CX0 7 f2 fd2 P_pays (spPaysL C) := ok_lpays O D_pays
  have G_joint : FnOk P w K mg base CX0 2 f3 fd3 P_joint spJoint := ok_joint B M D_low D_joint
  obtain ⟨dt1, rt1, bt1⟩ := Y_Charge_times.b1
  refine D.F.ok sc_sums_right (fun vs H Q E h => ?_) (fun cdv A outer s H vs Q E hr h => ?_)
  · obtain ⟨a, b, x, y, ps, qs, u, v, rfl, _⟩ := h
    rfl
  · obtain ⟨a, b, x, y, ps, qs, u, v, rfl, T, k⟩ := h
    refine ⟨_, (pss_cons (ps_if (pt_not (pt_val (pe_call G_pays (hr.mono (by decide)) (by rfl) D_pays.g D_pays.F.kp D_pays.b .nil pass0 (pa_cons (pe_op (op_binO (op := .Add) O_add hsf (hr.mono (by decide)) pass0) (pv 2) (pv 3)) (pa_cons (pe_call G_joint (hr.mono (by decide)) (by rfl) D_joint.g D_joint.F.kp D_joint.b .nil pass0 (pa_cons (pv 0) (pa_cons (pv 1) (pa_cons (pe_tup (pa_cons pe_int (pa_cons pe_int pa_nil))) (pa_cons (pe_tup (pa_cons pe_int (pa_cons pe_int pa_nil))) pa_nil))))) pa_nil))))) (pss_one (ps_ret pe_bl)) pss_nil)
      (pss_cons (ps_if (pt_not (pt_val (pe_call G_pays (hr.mono (by decide)) (by rfl) D_pays.g D_pays.F.kp D_pays.b .nil pass0 (pa_cons (pe_op (op_binO (op := .Sub) O_sub hsf (hr.mono (by decide)) pass0) (pv 2) (pv 3)) (pa_cons (pe_call G_joint (hr.mono (by decide)) (by rfl) D_joint.g D_joint.F.kp D_joint.b .nil pass0 (pa_cons (pv 0) (pa_cons (pv 1) (pa_cons (pe_tup (pa_cons pe_int (pa_cons pe_int pa_nil))) (pa_cons (pe_tup (pa_cons (pe_un un_neg pe_int) (pa_cons pe_int pa_nil))) pa_nil))))) pa_nil))))) (pss_one (ps_ret pe_bl)) pss_nil)
      (pss_cons (ps_if (PW.pt (pw_or (pt_cmpR (op_neO O_eq NX.ne NX.ob (hr.mono (by decide)) pass0) (pe_op (op_binO (op := .Sub) O_sub hsf (hr.mono (by decide)) pass0) (pe_op (op_binO (op := .Add) O_add hsf (hr.mono (by decide)) pass0) (pv 2) (pv 3)) (pv 3)) (pv 2) (nomark _)) (pw_or (pt_cmpR (op_neO O_eq NX.ne NX.ob (hr.mono (by decide)) pass0) (pe_op (op_binO (op := .Sub) O_sub hsf (hr.mono (by decide)) pass0) (pv 2) (pv 2)) (pe_meth (pv 3) KCharge.cl Y_Charge_times.m G_Charge_times (hr.mono (by decide)) bt1 rt1 pass0 (pa_cons pe_int pa_nil)) (nomark _)) (pw_or1 (pt_cmpR (op_neO O_eq NX.ne NX.ob (hr.mono (by decide)) pass0) (pe_op (op_binO (op := .Add) O_add hsf (hr.mono (by decide)) pass0) (pv 2) (pv 3)) (pe_op (op_binO (op := .Add) O_add hsf (hr.mono (by decide)) pass0) (pv 3) (pv 2)) (nomark _)))))) (pss_one (ps_ret pe_bl)) pss_nil)
      (pss_cons (ps_setLc (i := 5) (own := [("_law_some", 4)]) (g := gName 4) (tt := tYes) rfl sc_sums_right.nd rfl rfl (sw_true rfl rfl rfl (by decide +kernel)) (pi_tup (pe_tup (pa_cons (pv 0) (pa_cons (pv 1) pa_nil)))) (blkOk_by (own := [("_law_some", 4)]) (N := N_sums_right) (sc := defScope s_sums_right) (by decide +kernel)) (fun _ _ _ _ _ => (pg_name (i := 4) sc_sums_right.nd rfl (Or.inl rfl))) (fun _ _ _ _ _ => pts_nil) (fun _ _ _ _ _ => (pe_call G_low (hr.mono (by decide)) (by rfl) D_low.g D_low.F.kp D_low.b .nil pass0 (pa_cons (show PE _ _ (tCB (rSum K) (tCons (tListVals (tOp (rIxT K) (tVar 4) (tC (.int 0)))) tNil)) from by exact (pe_callB (cr_sum rfl) (by rfl) B.b_sum (by decide +kernel) (pa_cons (pe_listVals rfl (pe_ix ix_tup (pv 4) pe_int (fun _ _ => rfl)) (by rfl) B.b_list (by rfl)) pa_nil))) (pa_cons (show PE _ _ (tOp (rIxT K) (tVar 4) (tC (.int 1))) from by exact (pe_ix ix_tup (pv 4) pe_int (fun _ _ => rfl))) pa_nil)))))
      (pss_cons (ps_set (i := 6) sc_sums_right.nd rfl (Or.inl rfl) (pe_call G_low (hr.mono (by decide)) (by rfl) D_low.g D_low.F.kp D_low.b .nil pass0 (pa_cons (pe_op op_add (pe_op op_mulW (pe_ix ix_tup (pe_ix ix_list (pv 5) pe_int (fun _ _ => rfl)) pe_int (fun _ _ => rfl)) (pe_ix ix_tup (pe_ix ix_list (pv 5) pe_int (fun _ _ => rfl)) pe_int (fun _ _ => rfl))) (pe_op op_mulW (pe_ix ix_tup (pe_ix ix_list (pv 5) pe_int (fun _ _ => rfl)) pe_int (fun _ _ => rfl)) (pe_ix ix_tup (pe_ix ix_list (pv 5) pe_int (fun _ _ => rfl)) pe_int (fun _ _ => rfl)))) (pa_cons (pe_op op_mulW (pe_ix ix_tup (pe_ix ix_list (pv 5) pe_int (fun _ _ => rfl)) pe_int (fun _ _ => rfl)) (pe_ix ix_tup (pe_ix ix_list (pv 5) pe_int (fun _ _ => rfl)) pe_int (fun _ _ => rfl))) pa_nil))))
      (pss_one (ps_ret (pe_cmpR (op_eqD hr.units) (pe_prop (pe_op (op_binO (op := .Add) O_add hsf (hr.mono (by decide)) pass0) (pv 2) (pv 3)) KCharge.cl Y_Charge_total.pr G_Charge_total (hr.mono (by decide)) Y_Charge_total.b .nil pass0 rfl) (pv 6) (nomark _))))))))), ?_⟩
    obtain ⟨w1, w2, w3, w4, w5, w6⟩ := pw900
    have u0 := T.u0
    have v0 := T.v0
    have ub := T.ub
    have vb := T.vb
    have uv0 : 0 < u * v := Int.mul_pos u0 v0
    have u5 : u.natAbs < 2 ^ 500 := by omega
    have v5 : v.natAbs < 2 ^ 500 := by omega
    have u9 : u.natAbs < 2 ^ 900 := by omega
    have v9 : v.natAbs < 2 ^ 900 := by omega
    have l5 : ∀ z ∈ nms ps, (look ps z).natAbs < 2 ^ 500 ∧ (look qs z).natAbs < 2 ^ 500 := fun z hz => ⟨Nat.lt_trans (T.lb z hz).1 w2, Nat.lt_trans (T.lb z hz).2 w2⟩
    have two : ∀ {H' : Hp}, Same H H' → Two C H' x y (nms ps) (look ps) (look qs) u v := fun s => ⟨T.x.same s, T.y.same s, T.z, u0, v0, u9, v9, fun z hz => ⟨Nat.lt_trans (l5 z hz).1 w4, Nat.lt_trans (l5 z hz).2 w4⟩⟩
    obtain ⟨dx, tx, ddx, Ux, x1⟩ := T.x.ins
    obtain ⟨dy, ty, ddy, Uy, y1⟩ := T.y.ins
    have uvn : (u * v).natAbs < 2 ^ 3000 := by
      have := abs_mul_lt u9 v9
      exact Nat.lt_trans this (by decide +kernel)
    -- first + second
    refine ⟨_, rfl, _, rfl, x, dx, _, y, dy, _, rfl, x1, rfl, y1, x, y, nms ps, look ps, look qs, u, v, rfl, two (fun _ _ e => e), fun s1 H1 g1 r1 => ⟨s1, rfl, ?_⟩⟩
    refine ⟨_, rfl, _, rfl, by show 2 ≤ sizeLine; decide, fun t1 ht1 => ⟨by show 2 ≤ sizeLine; decide, fun t2 ht2 => ?_⟩⟩
    have k1 := Same.new (o := .tup [.int 1, .int 1]) ht1
    have e1 : (upd H1 t1 (.tup [.int 1, .int 1])) t1 = some (.tup [.int 1, .int 1]) := upd_same
    generalize upd H1 t1 (.tup [.int 1, .int 1]) = H2 at k1 e1 ht2
    have k2 := Same.new (o := .tup [.int 1, .int 1]) ht2
    have e2 : (upd H2 t2 (.tup [.int 1, .int 1])) t2 = some (.tup [.int 1, .int 1]) := upd_same
    have e1 := k2 _ _ e1
    have g2 := Same.trans g1 (Same.trans k1 k2)
    have r2 := r1.same (Same.trans k1 k2)
    generalize upd H2 t2 (.tup [.int 1, .int 1]) = H3 at k2 e1 e2 g2 r2
    refine ⟨a, b, t1, t2, ps, qs, u, v, 1, 1, 1, 1, rfl, T.a.same g2, T.b.same g2, T.n, T.z, e1, e2, u0, v0, by decide, by decide, u5, v5, by decide +kernel, by decide +kernel, by decide +kernel, by decide +kernel, l5, fun d as H4 g4 ed pr => ?_⟩
    refine ⟨s1, d, nms ps, nms ps, as, _, _, _, _, rfl, r2.same g4, T.z, uv0, by rw [Int.mul_one, Int.mul_one]; exact uv0, uvn, ed, pr, List.Perm.refl _, fun z hz => ?_, fun H5 g5 => ⟨_, rfl, ite2 (fun z => by cases z) (fun _ => ?_)⟩⟩
    · rw [look_bag T.z.nd hz]
      grind
    have g5 := Same.trans g2 (Same.trans g4 g5)
    clear e1 e2 ed pr r2 k1 k2 g4
    -- first - second
    refine ⟨_, rfl, _, rfl, x, dx, _, y, dy, _, rfl, g5 _ _ x1, rfl, g5 _ _ y1, x, y, nms ps, look ps, look qs, u, v, rfl, two g5, fun s1 H1 g1 r1 => ⟨s1, rfl, ?_⟩⟩
    have g1 := Same.trans g5 g1
    refine ⟨_, rfl, _, rfl, by show 2 ≤ sizeLine; decide, fun t1 ht1 => ⟨_, rfl, by show 2 ≤ sizeLine; decide, fun t2 ht2 => ?_⟩⟩
    have k1 := Same.new (o := .tup [.int 1, .int 1]) ht1
    have e1 : (upd H1 t1 (.tup [.int 1, .int 1])) t1 = some (.tup [.int 1, .int 1]) := upd_same
    generalize upd H1 t1 (.tup [.int 1, .int 1]) = H2 at k1 e1 ht2
    have k2 := Same.new (o := .tup [.int (-1), .int 1]) ht2
    have e2 : (upd H2 t2 (.tup [.int (-1), .int 1])) t2 = some (.tup [.int (-1), .int 1]) := upd_same
    have e1 := k2 _ _ e1
    have g2 := Same.trans g1 (Same.trans k1 k2)
    have r2 := r1.same (Same.trans k1 k2)
    generalize upd H2 t2 (.tup [.int (-1), .int 1]) = H3 at k2 e1 e2 g2 r2
    refine ⟨a, b, t1, t2, ps, qs, u, v, 1, 1, -1, 1, rfl, T.a.same g2, T.b.same g2, T.n, T.z, e1, e2, u0, v0, by decide, by decide, u5, v5, by decide +kernel, by decide +kernel, by decide +kernel, by decide +kernel, l5, fun d as H4 g4 ed pr => ?_⟩
    refine ⟨s1, d, nms ps, nms ps, as, _, _, _, _, rfl, r2.same g4, T.z, uv0, by rw [Int.mul_one, Int.mul_one]; exact uv0, uvn, ed, pr, List.Perm.refl _, fun z hz => ?_, fun H5 g5 => ⟨_, rfl, ite2 (fun z => by cases z) (fun _ => ?_)⟩⟩
    · rw [look_bag T.z.nd hz]
      grind
    have g5 := Same.trans g2 (Same.trans g4 g5)
    clear e1 e2 ed pr r2 k1 k2 g4
    -- (first + second) - second
    refine ⟨_, rfl, _, rfl, x, dx, _, y, dy, _, rfl, g5 _ _ x1, rfl, g5 _ _ y1, x, y, nms ps, look ps, look qs, u, v, rfl, two g5, fun s1 H1 g1 r1 => ⟨s1, rfl, ?_⟩⟩
    have g1 := Same.trans g5 g1
    obtain ⟨d1, _, _, _, i1⟩ := r1.ins
    have u22 : (u * v).natAbs < 2 ^ 900 := by
      rw [Int.natAbs_mul]
      have : u.natAbs * v.natAbs ≤ 10 ^ 11 * 10 ^ 11 := Nat.mul_le_mul (by omega) (by omega)
      have q : (10 : Nat) ^ 11 * 10 ^ 11 = 10 ^ 22 := by decide +kernel
      omega
    refine ⟨_, rfl, s1, d1, _, y, dy, _, rfl, i1, rfl, g1 _ _ y1, s1, y, nms ps, _, look qs, u * v, v, rfl, ⟨r1, T.y.same g1, T.z, uv0, v0, u22, v9, fun z hz => ⟨sum_small (T.lb z hz).1 (T.lb z hz).2 (by omega) (by omega) (by decide), Nat.lt_trans (l5 z hz).2 w4⟩⟩, fun s2 H2 g2 r2 => ⟨s2, rfl, ?_⟩⟩
    have g2 := Same.trans g1 g2
    obtain ⟨d2, _, _, _, i2⟩ := r2.ins
    have uvv0 : 0 < u * v * v := Int.mul_pos uv0 v0
    refine ⟨_, rfl, s2, d2, _, .ref C, rfl, i2, KCharge.ins (g2 _ _ x1), nf_self, s2, _, _, .ref x, true, rfl, r2, ChR.eqd T.z uvv0 u0 (T.x.same g2) (fun z hz => by grind), _, rfl, _, rfl, ite2 (fun z => by cases z) (fun _ => ?_)⟩
    -- first - first, second.times(0)
    have twox : Two C H2 x x (nms ps) (look ps) (look ps) u u := ⟨T.x.same g2, T.x.same g2, T.z, u0, u0, u9, u9, fun z hz => ⟨Nat.lt_trans (l5 z hz).1 w4, Nat.lt_trans (l5 z hz).1 w4⟩⟩
    refine ⟨_, rfl, _, rfl, x, dx, _, x, dx, _, rfl, g2 _ _ x1, rfl, g2 _ _ x1, x, x, nms ps, look ps, look ps, u, u, rfl, twox, fun s3 H3 g3 r3 => ⟨s3, rfl, ?_⟩⟩
    have g3 := Same.trans g2 g3
    obtain ⟨d3, _, _, _, i3⟩ := r3.ins
    refine ⟨_, rfl, y, dy, _, rfl, g3 _ _ y1, rfl, y, 0, 1, nms ps, look qs, v, rfl, T.y.same g3, T.z, v0, by decide, v9, by decide +kernel, by decide +kernel, fun z hz => Nat.lt_trans (l5 z hz).2 w4, fun s4 H4 g4 r4 => ?_⟩
    obtain ⟨d4, _, _, _, i4⟩ := r4.ins
    refine ⟨s3, d3, _, .ref C, rfl, g4 _ _ i3, KCharge.ins i4, nf_self, s3, _, _, .ref s4, true, rfl, r3.same g4, ChR.eqd T.z (Int.mul_pos u0 u0) (by rw [Int.mul_one]; exact v0) r4 (fun z hz => by grind), _, rfl, _, rfl, ite2 (fun z => by cases z) (fun _ => ?_)⟩
    have g4 := Same.trans g3 g4
    -- first + second, second + first
    refine ⟨_, rfl, _, rfl, x, dx, _, y, dy, _, rfl, g4 _ _ x1, rfl, g4 _ _ y1, x, y, nms ps, look ps, look qs, u, v, rfl, two g4, fun s5 H5 g5 r5 => ⟨s5, rfl, ?_⟩⟩
    have g5 := Same.trans g4 g5
    obtain ⟨d5, _, _, _, i5⟩ := r5.ins
    have twoy : Two C H5 y x (nms ps) (look qs) (look ps) v u := ⟨T.y.same g5, T.x.same g5, T.z, v0, u0, v9, u9, fun z hz => ⟨Nat.lt_trans (l5 z hz).2 w4, Nat.lt_trans (l5 z hz).1 w4⟩⟩
    refine ⟨_, rfl, _, rfl, y, dy, _, x, dx, _, rfl, g5 _ _ y1, rfl, g5 _ _ x1, y, x, nms ps, look qs, look ps, v, u, rfl, twoy, fun s6 H6 g6 r6 => ⟨s6, rfl, ?_⟩⟩
    obtain ⟨d6, _, _, _, i6⟩ := r6.ins
    refine ⟨s5, d5, _, .ref C, rfl, g6 _ _ i5, KCharge.ins i6, nf_self, s5, _, _, .ref s6, true, rfl, r5.same g6, ChR.eqd T.z uv0 (Int.mul_pos v0 u0) r6 (fun z hz => by grind), _, rfl, _, rfl, ite2 (fun z => by cases z) (fun _ => ?_)⟩
    have g6 := Same.trans g5 g6
    clear r1 r2 r3 r4 r5 r6 i1 i2 i3 i4 i5 i6 g1 g2 g3 g4 g5 twox twoy
    -- what all things pay
    obtain ⟨da, h1, h2⟩ := T.a
    obtain ⟨db, j1, j2⟩ := T.b
    have ndq : (nms qs).Nodup := by rw [T.n]; exact T.z.nd
    generalize hS1 : ((nms ps).map (look ps)).sum = S1
    generalize hS2 : ((nms qs).map (look qs)).sum = S2
    refine ⟨_, rfl, _, rfl, by show 2 ≤ sizeLine; decide, fun tt htt => ⟨tt, rfl, ⟨_, SqT.of upd_same⟩, fun D hD => ?_⟩⟩
    have k7 := Same.new (o := .tup [.ref a, .ref b]) htt
    have e7 : (upd H6 tt (.tup [.ref a, .ref b])) tt = some (.tup [.ref a, .ref b]) := upd_same
    have g7 := Same.trans g6 k7
    generalize upd H6 tt (.tup [.ref a, .ref b]) = H7 at e7 g7 hD
    refine lc_it (walk_tup (xs := [V.ref a, V.ref b])) (fun i H' => Same H7 H' ∧ ∃ as : List Addr, H' D = some (.lst (as.map V.ref)) ∧ Paired (fun p (q : Int × Int) => H' p = some (.tup [.int (q.1 / fg q.1 q.2), .int (q.2 / fg q.1 q.2)])) as ([(S1, u), (S2, v)].take i)) ⟨Same.new hD, [], upd_same, .nil⟩ (fun i H' _ ⟨s, _⟩ => SqT.of (s _ _ e7)) ?_ ?_
    · rintro i yv H8 H9 hi ⟨s8, as, e8, pr⟩ ⟨rfl, hy⟩
      have hlen : as.length = i := by
        have := pr.length
        rw [this, List.length_take]
        show min i 2 = i
        have : i < 2 := hi
        omega
      -- one of the two
      obtain ⟨o, od, rs, z, e1, e2, e3, e4, e5, e5b, e6⟩ : ∃ (o od : Addr) (rs : Bag) (zv : Int), yv = .ref o ∧ H9 o = some (.tup [.ref od, .int zv]) ∧ H9 od = some (.dK (kvs rs)) ∧ (nms rs).Nodup ∧ 0 < zv ∧ zv.natAbs < 2 ^ 900 ∧ [(S1, u), (S2, v)][i]? = some ((((nms rs).map (look rs)).sum), zv) := by
        match i, hi with
        | 0, _ =>
          injection hy with hy
          exact ⟨a, da, ps, u, hy.symm, s8 _ _ (g7 _ _ h1), s8 _ _ (g7 _ _ h2), T.z.nd, u0, u9, by rw [hS1]; rfl⟩
        | 1, _ =>
          injection hy with hy
          exact ⟨b, db, qs, v, hy.symm, s8 _ _ (g7 _ _ j1), s8 _ _ (g7 _ _ j2), ndq, v0, v9, by rw [hS2]; rfl⟩
      subst e1
      refine ⟨rfl, _, rfl, o, _, 0, .ref od, rfl, rfl, SqT.of e2, rfl, od, kvs rs, (nms rs).map (look rs), rfl, e3, bag_vals e4, fun p1 hp1 => ?_⟩
      have q1 := Same.new (o := .lst (((nms rs).map (look rs)).map V.int)) hp1
      have q2 : (upd H9 p1 (.lst (((nms rs).map (look rs)).map V.int))) p1 = some (.lst (((nms rs).map (look rs)).map V.int)) := upd_same
      generalize upd H9 p1 (.lst (((nms rs).map (look rs)).map V.int)) = H10 at q1 q2
      refine ⟨p1, _, rfl, SqL.of q2, _, rfl, o, _, 1, .int z, rfl, rfl, SqT.of (q1 _ _ e2), rfl, _, _, rfl, e5, Nat.lt_trans e5b (by decide +kernel), fun p2 hp2 => ?_⟩
      have q3 := Same.new (o := .tup [.int (((nms rs).map (look rs)).sum / fg ((nms rs).map (look rs)).sum z), .int (z / fg ((nms rs).map (look rs)).sum z)]) hp2
      have q4 : (upd H10 p2 (.tup [.int (((nms rs).map (look rs)).sum / fg ((nms rs).map (look rs)).sum z), .int (z / fg ((nms rs).map (look rs)).sum z)])) p2 = some (.tup [.int (((nms rs).map (look rs)).sum / fg ((nms rs).map (look rs)).sum z), .int (z / fg ((nms rs).map (look rs)).sum z)]) := upd_same
      have q13 := Same.trans q1 q3
      generalize upd H10 p2 (.tup [.int (((nms rs).map (look rs)).sum / fg ((nms rs).map (look rs)).sum z), .int (z / fg ((nms rs).map (look rs)).sum z)]) = H11 at q3 q4 q13
      have e11 := q13 _ _ e8
      refine ⟨_, e11, by rw [List.length_map, sizeLine_eq]; have : i < 2 := hi; omega, fun c o' ec => ?_, as ++ [p2], by rw [upd_same, List.map_append]; rfl, ?_⟩
      · rw [upd_ne (fun w => by rw [w, hD] at ec; cases ec)]
        exact q13 _ _ (s8 _ _ ec)
      · rw [List.take_add_one, e6]
        refine paired_snoc (paired_mono (fun c q ec => ?_) pr) ?_
        · have ec' := q13 _ _ ec
          rw [upd_ne (ne_of ec' e11 fun w => nomatch w)]
          exact ec'
        · rw [upd_ne (ne_of q4 e11 fun w => nomatch w)]
          exact q4
    rintro H8 ⟨s8, as, e8, pr⟩
    have g8 := Same.trans g7 s8
    have pr' : Paired (fun p (q : Int × Int) => H8 p = some (.tup [.int (q.1 / fg q.1 q.2), .int (q.2 / fg q.1 q.2)])) as [(S1, u), (S2, v)] := pr
    clear pr
    obtain ⟨p1, p2, rfl, a1, a2⟩ : ∃ p1 p2, as = [p1, p2] ∧ H8 p1 = some (.tup [.int (S1 / fg S1 u), .int (u / fg S1 u)]) ∧ H8 p2 = some (.tup [.int (S2 / fg S2 v), .int (v / fg S2 v)]) := by
      cases pr' with
      | cons b1 pr => cases pr with
      | cons b2 pr =>
        cases pr
        exact ⟨_, _, rfl, b1, b2⟩
    have sb1 := sum_bound (b := 10 ^ 40) (ps := ps) (nms ps) fun z hz => Nat.le_of_lt (T.lb z hz).1
    have sb2 := sum_bound (b := 10 ^ 40) (ps := qs) (nms qs) fun z hz => Nat.le_of_lt (T.lb z (T.n ▸ hz)).2
    have l8 := T.z.l8
    have n8 : (10 : Nat) ^ 40 * 8 < 2 ^ 500 := by decide +kernel
    have S1b : S1.natAbs < 2 ^ 500 := by
      rw [← hS1]
      refine Nat.lt_of_le_of_lt sb1 (Nat.lt_of_le_of_lt (Nat.mul_le_mul_right _ l8) ?_)
      rw [Nat.mul_comm]; exact n8
    have S2b : S2.natAbs < 2 ^ 500 := by
      rw [← hS2]
      refine Nat.lt_of_le_of_lt sb2 (Nat.lt_of_le_of_lt (Nat.mul_le_mul_right _ (by rw [T.n]; exact l8)) ?_)
      rw [Nat.mul_comm]; exact n8
    have f1 := fg_pos (i := S1) u0
    have f2 := fg_pos (i := S2) v0
    have N1 : (S1 / fg S1 u).natAbs < 2 ^ 500 := Nat.lt_of_le_of_lt (div_le f1) S1b
    have N2 : (S2 / fg S2 v).natAbs < 2 ^ 500 := Nat.lt_of_le_of_lt (div_le f2) S2b
    have D1 : (u / fg S1 u).natAbs < 2 ^ 500 := Nat.lt_of_le_of_lt (div_le f1) u5
    have D2 : (v / fg S2 v).natAbs < 2 ^ 500 := Nat.lt_of_le_of_lt (div_le f2) v5
    have P1 := (den_pos (i := S1) u0).1
    have P2 := (den_pos (i := S2) v0).1
    have c1 : S1 / fg S1 u * fg S1 u = S1 := Int.ediv_mul_cancel (fg_l _ _)
    have c2 : u / fg S1 u * fg S1 u = u := Int.ediv_mul_cancel (fg_r _ _)
    have c3 : S2 / fg S2 v * fg S2 v = S2 := Int.ediv_mul_cancel (fg_l _ _)
    have c4 : v / fg S2 v * fg S2 v = v := Int.ediv_mul_cancel (fg_r _ _)
    generalize hn1 : S1 / fg S1 u = n1 at *
    generalize hd1 : u / fg S1 u = d1 at *
    generalize hn2 : S2 / fg S2 v = n2 at *
    generalize hd2 : v / fg S2 v = d2 at *
    refine ⟨_, rfl, D, _, 0, .ref p1, rfl, rfl, SqL.of e8, rfl, p1, _, 0, .int n1, rfl, rfl, SqT.of a1, rfl, _, rfl, D, _, 1, .ref p2, rfl, rfl, SqL.of e8, rfl, p2, _, 1, .int d2, rfl, rfl, SqT.of a2, rfl, _, _, rfl, rfl, mulW N1 D2 (by decide) (by decide) (by decide), ?_⟩
    refine ⟨_, rfl, D, _, 1, .ref p2, rfl, rfl, SqL.of e8, rfl, p2, _, 0, .int n2, rfl, rfl, SqT.of a2, rfl, _, rfl, D, _, 0, .ref p1, rfl, rfl, SqL.of e8, rfl, p1, _, 1, .int d1, rfl, rfl, SqT.of a1, rfl, _, _, rfl, rfl, mulW N2 D1 (by decide) (by decide) (by decide), _, _, rfl, rfl, ?_⟩
    refine ⟨_, rfl, D, _, 0, .ref p1, rfl, rfl, SqL.of e8, rfl, p1, _, 1, .int d1, rfl, rfl, SqT.of a1, rfl, _, rfl, D, _, 1, .ref p2, rfl, rfl, SqL.of e8, rfl, p2, _, 1, .int d2, rfl, rfl, SqT.of a2, rfl, _, _, rfl, rfl, mulW D1 D2 (by decide) (by decide) (by decide), ?_⟩
    have dd0 : 0 < d1 * d2 := Int.mul_pos P1 P2
    refine ⟨_, _, rfl, dd0, Nat.lt_trans (abs_mul_lt D1 D2) (by decide +kernel), fun pd hpd => ?_⟩
    have k9 := Same.new (o := .tup [.int ((n1 * d2 + n2 * d1) / fg (n1 * d2 + n2 * d1) (d1 * d2)), .int (d1 * d2 / fg (n1 * d2 + n2 * d1) (d1 * d2))]) hpd
    have e9 : (upd H8 pd (.tup [.int ((n1 * d2 + n2 * d1) / fg (n1 * d2 + n2 * d1) (d1 * d2)), .int (d1 * d2 / fg (n1 * d2 + n2 * d1) (d1 * d2))])) pd = some (.tup [.int ((n1 * d2 + n2 * d1) / fg (n1 * d2 + n2 * d1) (d1 * d2)), .int (d1 * d2 / fg (n1 * d2 + n2 * d1) (d1 * d2))]) := upd_same
    have g9 := Same.trans g8 k9
    generalize upd H8 pd (.tup [.int ((n1 * d2 + n2 * d1) / fg (n1 * d2 + n2 * d1) (d1 * d2)), .int (d1 * d2 / fg (n1 * d2 + n2 * d1) (d1 * d2))]) = H9 at g9 e9
    refine ⟨_, rfl, _, rfl, x, dx, _, y, dy, _, rfl, g9 _ _ x1, rfl, g9 _ _ y1, x, y, nms ps, look ps, look qs, u, v, rfl, two g9, fun s7 HA gA r7 => ⟨s7, rfl, ?_⟩⟩
    obtain ⟨d7, _, _, _, i7⟩ := r7.ins
    have bl : (nfB (u * v) (bagOf (fun z => look ps z * v + 1 * look qs z * u) (nms ps))).length = (nms ps).length := by rw [nf_len]; unfold bagOf; rw [List.length_map]
    have U0 := nfU_pos (ps := bagOf (fun z => look ps z * v + 1 * look qs z * u) (nms ps)) uv0
    have U1 := nfU_le (ps := bagOf (fun z => look ps z * v + 1 * look qs z * u) (nms ps)) uv0
    refine ⟨s7, d7, _, rfl, i7, s7, _, _, rfl, r7, U0, by omega, by omega, fun pt HB gB _ ept => ?_⟩
    rw [r7.names, (low_sum uv0 (nms ps)).1, (low_sum uv0 (nms ps)).2, sumB_bag T.z.nd, sum_lin, hS1, show ((nms ps).map (look qs)).sum = S2 from by rw [← T.n]; exact hS2] at ept
    obtain ⟨q1, q2⟩ := low_cross (i := S1 * v + S2 * u) (j := n1 * d2 + n2 * d1) (u := u * v) (v := d1 * d2) uv0 dd0 (by rw [← c1, ← c2, ← c3, ← c4]; grind)
    rw [q1, q2] at ept
    refine ⟨_, rfl, _, _, dp_pair ept, dp_pair (gB _ _ (gA _ _ e9)), sh_pair _ _, sh_pair _ _, ?_⟩
    rw [eqv_pair]
    exact k _ (Same.trans g9 (Same.trans gA gB))
end
end V0

namespace V0
open PySem PySem.Spec PyProof.Rows L2
theorem Pair9.but {C a b x y p : Addr} {H H' : Hp} {ps qs : Bag} {u v : Int} (h : Pair9 C H a b x y ps qs u v) (s : But p H H') (hp : Pot H p) : Pair9 C H' a b x y ps qs u v :=
  ⟨h.a.but s hp, h.b.but s hp, h.n, h.z, ChAt.but h.x s hp, ChAt.but h.y s hp, h.u0, h.v0, h.ub, h.vb, h.lb⟩
def spMultR (C : Addr) : Sp := fun vs H Q _ => ∃ (p a b x y : Addr) (ps qs : Bag) (u v : Int), vs = [.ref p, .ref a, .ref b, .ref x, .ref y] ∧ Pot H p ∧ Pair9 C H a b x y ps qs u v ∧ ∀ H', Pot H' p → But p H H' → Q (.bl true) H'
theorem pw9b : (10 : Nat) ^ 30 < 2 ^ 500 ∧ (10 : Nat) ^ 30 * 9 < 10 ^ 60 ∧ (10 : Nat) ^ 40 * 9 < 2 ^ 2000 ∧ (10 : Nat) ^ 12 < 2 ^ 900 ∧ (10 : Nat) ^ 30 < 10 ^ 60 := by decide +kernel
theorem small_mul {p t : Int} (hp : p.natAbs < 10 ^ 40) (h0 : 0 ≤ t) (h9 : t ≤ 9) : (p * t).natAbs < 2 ^ 2000 := by
  rw [Int.natAbs_mul]
  have := Nat.mul_le_mul (Nat.le_of_lt hp) (show t.natAbs ≤ 9 by omega)
  exact Nat.lt_of_le_of_lt this pw9b.2.2.1
theorem unit_mul {u d : Int} (h0 : 0 < u) (hu : u < 10 ^ 11) (d0 : 0 < d) (d9 : d ≤ 9) : (u * d).natAbs < 2 ^ 900 := by
  rw [Int.natAbs_mul]
  have := Nat.mul_le_mul (show u.natAbs ≤ 10 ^ 11 by omega) (show d.natAbs ≤ 9 by omega)
  have q : (10 : Nat) ^ 11 * 9 < 10 ^ 12 := by decide +kernel
  have := pw9b.2.2.2.1
  omega
section
variable {P : Program} {w : World} {K : PySem.W.Frag} {mg : Str → Option Value} {base : Heap} {C : Addr} {ad : Nat → Addr} {fdd : Nat → FuncData}
abbrev s_multiples_right : Stmt := top 45
abbrev N_multiples_right : List Str := ["_law_pot_here", "_law_one", "_law_other", "_law_first", "_law_second", "_law_top", "_law_bottom", "_law_much", "_law_mixed"]
abbrev P_multiples_right : List Str := ["_law_pot_here", "_law_one", "_law_other", "_law_first", "_law_second"]
theorem sc_multiples_right : FnScope N_multiples_right P_multiples_right (defScope s_multiples_right) := ⟨rfl, rfl, rfl, by decide +kernel, rfl, by decide +kernel, by decide +kernel⟩
theorem ok_mult_right {f f1 f2 f3 f4 f5 : Addr} {fd fd1 fd2 fd3 fd4 fd5 : FuncData} (O9 : Own9 P w K mg base C ad fdd) (D_low : Df K mg "_law_low" s_low P_low f1 fd1) (D_pays : Df K mg "_law_pays" s_pays P_pays f2 fd2) (D_joint : Df K mg "_law_joint" s_joint P_joint f3 fd3)
    (D_stir : Df K mg "_law_stir" s_stir P_stir f4 fd4) (D_number : Df K mg "_law_number" s_number P_number f5 fd5) (D : Df K mg "_law_multiples_right" s_multiples_right P_multiples_right f fd) : FnOk P w K mg base CX0 10 f fd P_multiples_right (spMultR C) := by
  obtain ⟨O, hsf, O_add, O_sub, Y_Charge_times, G_Charge_times, Y_Charge_mixed, G_Charge_mixed⟩ := id O9
  obtain ⟨B, M, KCharge, N, NX, Y_init, G_init, Y_Charge_things, G_Charge_things, Y_Charge_unit, G_Charge_unit, Y_Charge_pays, G_Charge_pays, Y_Charge_total, G_Charge_total, Y_Charge_of, G_Charge_of, Y_Charge_cut, G_Charge_cut, O_len, O_str, O_iter, O_item, O_cont, O_eq⟩ := id O
  have G_low : FnOk P w K mg base CX0 1 f1 fd1 P_low spFr := ok_low B D_low
  have G_pays : FnOk P w K mg base CX0 7 f2 fd2 P_pays (spPaysL C) := ok_lpays O D_pays
  have G_joint : FnOk P w K mg base CX0 2 f3 fd3 P_joint spJoint := ok_joint B M D_low D_joint
  have G_stir : FnOk P w K mg base CX0 1 f4 fd4 P_stir spStir := ok_stir B D_stir
  have G_number : FnOk P w K mg base CX0 2 f5 fd5 P_number spNumber := ok_number B D_stir D_number
  obtain ⟨dt1, rt1, bt1⟩ := Y_Charge_times.b1
  refine D.F.ok sc_multiples_right (fun vs H Q E h => ?_) (fun cdv A outer s H vs Q E hr h => ?_)
  · obtain ⟨p, a, b, x, y, ps, qs, u, v, rfl, _⟩ := h
    rfl
  · obtain ⟨p, a, b, x, y, ps, qs, u, v, rfl, hp, T0, k⟩ := h
    refine ⟨_, (pss_cons (ps_par (i := 5) (j := 6) (by rfl) sc_multiples_right.nd rfl rfl (by decide) rfl rfl (pa_cons (pe_call G_number (hr.mono (by decide)) (by rfl) D_number.g D_number.F.kp D_number.b .nil pass0 (pa_cons (pv 0) pa_nil)) (pa_cons (pe_op op_add pe_int (pe_call G_stir (hr.mono (by decide)) (by rfl) D_stir.g D_stir.F.kp D_stir.b .nil pass0 (pa_cons (pv 0) (pa_cons pe_int pa_nil)))) pa_nil)) (by rfl))
      (pss_cons (ps_if (pt_not (pt_val (pe_call G_pays (hr.mono (by decide)) (by rfl) D_pays.g D_pays.F.kp D_pays.b .nil pass0 (pa_cons (pe_meth (pv 3) KCharge.cl Y_Charge_times.m G_Charge_times (hr.mono (by decide)) Y_Charge_times.b .nil pass0 (pa_cons (pv 5) (pa_cons (pv 6) pa_nil))) (pa_cons (pe_call G_joint (hr.mono (by decide)) (by rfl) D_joint.g D_joint.F.kp D_joint.b .nil pass0 (pa_cons (pv 1) (pa_cons (pv 2) (pa_cons (pe_tup (pa_cons (pv 5) (pa_cons (pv 6) pa_nil))) (pa_cons (pe_tup (pa_cons pe_int (pa_cons pe_int pa_nil))) pa_nil))))) pa_nil))))) (pss_one (ps_ret pe_bl)) pss_nil)
      (pss_cons (ps_if (PW.pt (pw_or (pt_cmpR (op_neO O_eq NX.ne NX.ob (hr.mono (by decide)) pass0) (pe_meth (pv 3) KCharge.cl Y_Charge_times.m G_Charge_times (hr.mono (by decide)) bt1 rt1 pass0 (pa_cons (pv 5) pa_nil)) (pe_meth (pv 3) KCharge.cl Y_Charge_times.m G_Charge_times (hr.mono (by decide)) Y_Charge_times.b .nil pass0 (pa_cons (pe_op op_mul (pv 5) (pv 6)) (pa_cons (pv 6) pa_nil))) (nomark _)) (pw_or1 (pt_cmpR (op_neO O_eq NX.ne NX.ob (hr.mono (by decide)) pass0) (pe_meth (pv 3) KCharge.cl Y_Charge_times.m G_Charge_times (hr.mono (by decide)) bt1 rt1 pass0 (pa_cons pe_int pa_nil)) (pv 3) (nomark _))))) (pss_one (ps_ret pe_bl)) pss_nil)
      (pss_cons (ps_set (i := 7) sc_multiples_right.nd rfl (Or.inl rfl) (pe_call G_stir (hr.mono (by decide)) (by rfl) D_stir.g D_stir.F.kp D_stir.b .nil pass0 (pa_cons (pv 0) (pa_cons (pe_op op_add (pv 6) pe_int) pa_nil))))
      (pss_cons (ps_set (i := 8) sc_multiples_right.nd rfl (Or.inl rfl) (pe_meth (pv 3) KCharge.cl Y_Charge_mixed.m G_Charge_mixed (hr.mono (by decide)) Y_Charge_mixed.b .nil pass0 (pa_cons (pv 4) (pa_cons (pv 7) (pa_cons (pv 6) pa_nil)))))
      (pss_cons (ps_if (pt_not (pt_val (pe_call G_pays (hr.mono (by decide)) (by rfl) D_pays.g D_pays.F.kp D_pays.b .nil pass0 (pa_cons (pv 8) (pa_cons (pe_call G_joint (hr.mono (by decide)) (by rfl) D_joint.g D_joint.F.kp D_joint.b .nil pass0 (pa_cons (pv 1) (pa_cons (pv 2) (pa_cons (pe_tup (pa_cons (pv 7) (pa_cons (pv 6) pa_nil))) (pa_cons (pe_tup (pa_cons (pe_op op_sub (pv 6) (pv 7)) (pa_cons (pv 6) pa_nil))) pa_nil))))) pa_nil))))) (pss_one (ps_ret pe_bl)) pss_nil)
      (pss_cons (ps_if (pt_cmpR (op_neO O_eq NX.ne NX.ob (hr.mono (by decide)) pass0) (pv 8) (pe_op (op_binO (op := .Add) O_add hsf (hr.mono (by decide)) pass0) (pe_meth (pv 3) KCharge.cl Y_Charge_times.m G_Charge_times (hr.mono (by decide)) Y_Charge_times.b .nil pass0 (pa_cons (pv 7) (pa_cons (pv 6) pa_nil))) (pe_meth (pv 4) KCharge.cl Y_Charge_times.m G_Charge_times (hr.mono (by decide)) Y_Charge_times.b .nil pass0 (pa_cons (pe_op op_sub (pv 6) (pv 7)) (pa_cons (pv 6) pa_nil)))) (nomark _)) (pss_one (ps_ret pe_bl)) pss_nil)
      (pss_one (ps_ret (pe_and (pe_cmpR (op_eqO O_eq (hr.mono (by decide)) pass0) (pe_meth (pv 3) KCharge.cl Y_Charge_mixed.m G_Charge_mixed (hr.mono (by decide)) Y_Charge_mixed.b .nil pass0 (pa_cons (pv 4) (pa_cons pe_int (pa_cons (pv 6) pa_nil)))) (pv 4) (nomark _)) (pe_one (pe_cmpR (op_eqO O_eq (hr.mono (by decide)) pass0) (pe_meth (pv 3) KCharge.cl Y_Charge_mixed.m G_Charge_mixed (hr.mono (by decide)) Y_Charge_mixed.b .nil pass0 (pa_cons (pv 4) (pa_cons (pv 6) (pa_cons (pv 6) pa_nil)))) (pv 3) (nomark _))))))))))))), ?_⟩
    obtain ⟨w1, w2, w3, w4, w5, w6⟩ := pw900
    obtain ⟨z1, z2, z3, z4, z5⟩ := pw9b
    refine ⟨_, rfl, p, rfl, hp, fun n H1 nb p1 b1 => ⟨_, rfl, p, 9, rfl, p1, by omega, by omega, fun r H2 r0 r1 p2 b2 => ⟨_, _, rfl, rfl, _, _, rfl, ?_⟩⟩⟩
    have T := T0.but (b1.trans b2) hp
    have bA := b1.trans b2
    obtain ⟨d, hd⟩ : ∃ d : Int, d = 1 + r := ⟨_, rfl⟩
    have hd' : ((fun (i j : Int) => V.int (i + j)) 1 r : V) = .int d := by rw [hd]
    rw [hd']
    have d0 : 0 < d := by omega
    have d9 : d ≤ 9 := by omega
    clear T0 hp p1 b1 b2 hd' hd r0 r1
    have u0 := T.u0
    have v0 := T.v0
    have ub := T.ub
    have vb := T.vb
    have u5 : u.natAbs < 2 ^ 500 := by omega
    have v5 : v.natAbs < 2 ^ 500 := by omega
    have u9 : u.natAbs < 2 ^ 900 := by omega
    have v9 : v.natAbs < 2 ^ 900 := by omega
    have n5 : n.natAbs < 2 ^ 500 := by omega
    have d5 : d.natAbs < 2 ^ 500 := by omega
    have d60 : d.natAbs < 10 ^ 60 := by omega
    have n60 : n.natAbs < 10 ^ 60 := by omega
    have ud := unit_mul u0 ub d0 d9
    have vd := unit_mul v0 vb d0 d9
    have ud0 : 0 < u * d := Int.mul_pos u0 d0
    have vd0 : 0 < v * d := Int.mul_pos v0 d0
    have uv0 : 0 < u * v := Int.mul_pos u0 v0
    have uvd0 : 0 < u * v * d := Int.mul_pos uv0 d0
    have ud3 : (u * d).natAbs < 2 ^ 3000 := Nat.lt_trans ud (by decide +kernel)
    have uvd3 : (u * v * d).natAbs < 2 ^ 3000 := by
      have := abs_mul_lt (abs_mul_lt u9 v9) (show d.natAbs < 2 ^ 500 from d5)
      exact Nat.lt_trans this (by decide +kernel)
    have l5 : ∀ z ∈ nms ps, (look ps z).natAbs < 2 ^ 500 ∧ (look qs z).natAbs < 2 ^ 500 := fun z hz => ⟨Nat.lt_trans (T.lb z hz).1 w2, Nat.lt_trans (T.lb z hz).2 w2⟩
    have lf : ∀ z ∈ nms ps, (look ps z).natAbs < 2 ^ 2000 := fun z hz => Nat.lt_trans (l5 z hz).1 w4
    have lg : ∀ z ∈ nms ps, (look qs z).natAbs < 2 ^ 2000 := fun z hz => Nat.lt_trans (l5 z hz).2 w4
    obtain ⟨dx, tx, ddx, Ux, x1⟩ := T.x.ins
    obtain ⟨dy, ty, ddy, Uy, y1⟩ := T.y.ins
    have two : ∀ {H' : Hp}, Same H2 H' → Two C H' x y (nms ps) (look ps) (look qs) u v := fun s => ⟨T.x.same s, T.y.same s, T.z, u0, v0, u9, v9, fun z hz => ⟨lf z hz, lg z hz⟩⟩
    -- first.times(n, d)
    refine ⟨_, rfl, x, dx, _, rfl, x1, rfl, _, rfl, _, rfl, x, n, d, nms ps, look ps, u, rfl, T.x, T.z, u0, d0, u9, d60, n60, lf, fun s1 H3 g3 r3 => ?_⟩
    refine ⟨_, rfl, _, rfl, _, rfl, _, rfl, by show 2 ≤ sizeLine; decide, fun t1 ht1 => ⟨by show 2 ≤ sizeLine; decide, fun t2 ht2 => ?_⟩⟩
    have k1 := Same.new (o := .tup [.int n, .int d]) ht1
    have e1 : (upd H3 t1 (.tup [.int n, .int d])) t1 = some (.tup [.int n, .int d]) := upd_same
    generalize upd H3 t1 (.tup [.int n, .int d]) = H4 at k1 e1 ht2
    have k2 := Same.new (o := .tup [.int 0, .int 1]) ht2
    have e2 : (upd H4 t2 (.tup [.int 0, .int 1])) t2 = some (.tup [.int 0, .int 1]) := upd_same
    have e1 := k2 _ _ e1
    have g4 := Same.trans g3 (Same.trans k1 k2)
    have r4 := r3.same (Same.trans k1 k2)
    generalize upd H4 t2 (.tup [.int 0, .int 1]) = H5 at k2 e1 e2 g4 r4
    refine ⟨a, b, t1, t2, ps, qs, u, v, n, d, 0, 1, rfl, T.a.same g4, T.b.same g4, T.n, T.z, e1, e2, u0, v0, d0, by decide, u5, v5, n5, d5, by decide +kernel, by decide +kernel, l5, fun dd as H6 g6 ed pr => ?_⟩
    refine ⟨s1, dd, nms ps, nms ps, as, _, _, _, _, rfl, r4.same g6, T.z, ud0, by rw [Int.mul_one]; exact Int.mul_pos ud0 v0, ud3, ed, pr, List.Perm.refl _, fun z hz => ?_, fun H7 g7 => ⟨_, rfl, ite2 (fun z => by cases z) (fun _ => ?_)⟩⟩
    · rw [look_bag T.z.nd hz]
      grind
    have g7 := Same.trans g4 (Same.trans g6 g7)
    clear e1 e2 ed pr r4 r3 k1 k2 g6 g4 g3
    -- times(n), times(n * d, d)
    refine ⟨_, rfl, x, dx, _, rfl, g7 _ _ x1, rfl, _, rfl, x, n, 1, nms ps, look ps, u, rfl, T.x.same g7, T.z, u0, by decide, u9, by decide +kernel, n60, lf, fun s2 H8 g8 r8 => ?_⟩
    have g8 := Same.trans g7 g8
    obtain ⟨i2, _, _, _, j2⟩ := r8.ins
    have nd60 : (n * d).natAbs < 10 ^ 60 := by
      rw [Int.natAbs_mul]
      have := Nat.mul_le_mul (Nat.le_of_lt nb) (show d.natAbs ≤ 9 by omega)
      omega
    refine ⟨_, rfl, x, dx, _, rfl, g8 _ _ x1, rfl, _, rfl, _, rfl, _, _, rfl, rfl, .inr ⟨by omega, by omega⟩, _, rfl, x, n * d, d, nms ps, look ps, u, rfl, T.x.same g8, T.z, u0, d0, u9, d60, nd60, lf, fun s3 H9 g9 r9 => ?_⟩
    obtain ⟨i3, _, _, _, j3⟩ := r9.ins
    refine ⟨s2, i2, _, .ref C, rfl, g9 _ _ j2, KCharge.ins j3, nf_self, s2, _, _, .ref s3, true, rfl, r8.same g9, ChR.eqd T.z (by rw [Int.mul_one]; exact u0) ud0 r9 (fun z hz => by grind), _, rfl, _, rfl, ite2 (fun z => by cases z) (fun _ => ?_)⟩
    have g9 := Same.trans g8 g9
    refine ⟨_, rfl, x, dx, _, rfl, g9 _ _ x1, rfl, x, 1, 1, nms ps, look ps, u, rfl, T.x.same g9, T.z, u0, by decide, u9, by decide +kernel, by decide +kernel, lf, fun s4 HA gA rA => ?_⟩
    have gA := Same.trans g9 gA
    obtain ⟨i4, _, _, _, j4⟩ := rA.ins
    refine ⟨_, rfl, s4, i4, _, .ref C, rfl, j4, KCharge.ins (gA _ _ x1), nf_self, s4, _, _, .ref x, true, rfl, rA, ChR.eqd T.z (by rw [Int.mul_one]; exact u0) u0 (T.x.same gA) (fun z hz => by grind), _, rfl, _, rfl, ite2 (fun z => by cases z) (fun _ => ?_)⟩
    clear g9 g8 g7 r8 r9 rA j2 j3 j4
    -- a share
    have pA := p2.same gA
    refine ⟨_, rfl, _, rfl, _, _, rfl, rfl, p, d + 1, rfl, pA, by omega, by omega, fun t HB t0 t1 pB bB => ?_⟩
    have S := T.but ((But.of gA).trans bB) p2
    have bH := bA.trans ((But.of gA).trans bB)
    clear pA bB gA two x1 y1
    have td : t ≤ d := by omega
    obtain ⟨dx, tx, ddx, Ux, x1⟩ := S.x.ins
    obtain ⟨dy, ty, ddy, Uy, y1⟩ := S.y.ins
    have two : ∀ {H' : Hp}, Same HB H' → Two C H' x y (nms ps) (look ps) (look qs) u v := fun s => ⟨S.x.same s, S.y.same s, S.z, u0, v0, u9, v9, fun z hz => ⟨lf z hz, lg z hz⟩⟩
    have t5 : t.natAbs < 2 ^ 500 := by omega
    have dt5 : (d - t).natAbs < 2 ^ 500 := by omega
    refine ⟨_, rfl, x, dx, _, rfl, x1, rfl, _, rfl, _, rfl, _, rfl, x, y, t, d, nms ps, look ps, look qs, u, v, rfl, two (fun _ _ e => e), t0, td, d0, d60, fun m H3 g3 r3 => ?_⟩
    obtain ⟨im, _, _, _, jm⟩ := r3.ins
    refine ⟨_, rfl, _, rfl, _, rfl, _, rfl, _, rfl, by show 2 ≤ sizeLine; decide, fun t1 ht1 => ⟨_, rfl, _, rfl, _, _, rfl, rfl, _, rfl, by show 2 ≤ sizeLine; decide, fun t2 ht2 => ?_⟩⟩
    have k1 := Same.new (o := .tup [.int t, .int d]) ht1
    have e1 : (upd H3 t1 (.tup [.int t, .int d])) t1 = some (.tup [.int t, .int d]) := upd_same
    generalize upd H3 t1 (.tup [.int t, .int d]) = H4 at k1 e1 ht2
    have k2 := Same.new (o := .tup [.int (d - t), .int d]) ht2
    have e2 : (upd H4 t2 (.tup [.int (d - t), .int d])) t2 = some (.tup [.int (d - t), .int d]) := upd_same
    have e1 := k2 _ _ e1
    have g4 := Same.trans g3 (Same.trans k1 k2)
    have r4 := r3.same (Same.trans k1 k2)
    have jm := Same.trans k1 k2 _ _ jm
    generalize upd H4 t2 (.tup [.int (d - t), .int d]) = H5 at k2 e1 e2 g4 r4 jm
    refine ⟨a, b, t1, t2, ps, qs, u, v, t, d, d - t, d, rfl, S.a.same g4, S.b.same g4, S.n, S.z, e1, e2, u0, v0, d0, d0, u5, v5, t5, d5, dt5, d5, l5, fun dd as H6 g6 ed pr => ?_⟩
    refine ⟨m, dd, nms ps, nms ps, as, _, _, _, _, rfl, r4.same g6, S.z, uvd0, Int.mul_pos ud0 vd0, uvd3, ed, pr, List.Perm.refl _, fun z hz => ?_, fun H7 g7 => ⟨_, rfl, ite2 (fun z => by cases z) (fun _ => ?_)⟩⟩
    · rw [look_bag S.z.nd hz]
      grind
    have g67 := Same.trans g6 g7
    have r7 := r4.same g67
    have jm := g67 _ _ jm
    have g7 := Same.trans g4 g67
    clear e1 e2 ed pr r4 r3 k1 k2 g6 g4 g3 g67
    -- the sum of both parts
    refine ⟨_, rfl, _, rfl, x, dx, _, rfl, g7 _ _ x1, rfl, _, rfl, _, rfl, x, t, d, nms ps, look ps, u, rfl, S.x.same g7, S.z, u0, d0, u9, d60, by omega, lf, fun s1 H8 g8 r8 => ?_⟩
    have g78 := Same.trans g7 g8
    refine ⟨_, rfl, y, dy, _, rfl, g78 _ _ y1, rfl, _, rfl, _, rfl, _, _, rfl, rfl, _, rfl, y, d - t, d, nms ps, look qs, v, rfl, S.y.same g78, S.z, v0, d0, v9, d60, by omega, lg, fun s2 H9 g9 r9 => ?_⟩
    have g89 := Same.trans g8 g9
    have g9' := Same.trans g7 g89
    have r89 := r8.same g9
    obtain ⟨i1, _, _, _, j1⟩ := r89.ins
    obtain ⟨i2, _, _, _, j2⟩ := r9.ins
    refine ⟨s1, i1, _, s2, i2, _, rfl, j1, rfl, j2, s1, s2, nms ps, _, _, _, _, rfl, ⟨r89, r9, S.z, ud0, vd0, ud, vd, fun z hz => ⟨small_mul (S.lb z hz).1 t0 (by omega), small_mul (S.lb z hz).2 (by omega) (by omega)⟩⟩, fun s3 HA gA rA => ⟨s3, rfl, ?_⟩⟩
    obtain ⟨i3, _, _, _, j3⟩ := rA.ins
    have g9A := Same.trans g89 gA
    have gA' := Same.trans g7 g9A
    refine ⟨m, im, _, .ref C, rfl, g9A _ _ jm, KCharge.ins j3, nf_self, m, _, _, .ref s3, true, rfl, r7.same g9A, ChR.eqd S.z uvd0 (Int.mul_pos ud0 vd0) rA (fun z hz => by grind), _, rfl, _, rfl, ite2 (fun z => by cases z) (fun _ => ?_)⟩
    clear r7 r8 r9 r89 j1 j2 j3 g9' g78 jm
    -- both ends
    refine ⟨_, rfl, x, dx, _, rfl, gA' _ _ x1, rfl, _, rfl, _, rfl, x, y, 0, d, nms ps, look ps, look qs, u, v, rfl, two gA', by decide, by omega, d0, d60, fun s4 HC gC rC => ?_⟩
    have gC' := Same.trans gA' gC
    obtain ⟨i4, _, _, _, j4⟩ := rC.ins
    refine ⟨_, rfl, s4, i4, _, .ref C, rfl, j4, KCharge.ins (gC' _ _ y1), nf_self, s4, _, _, .ref y, true, rfl, rC, ChR.eqd S.z uvd0 v0 (S.y.same gC') (fun z hz => by grind), _, rfl, _, rfl, ite2 (fun _ => ?_) (fun z => absurd rfl z)⟩
    refine ⟨_, rfl, x, dx, _, rfl, gC' _ _ x1, rfl, _, rfl, _, rfl, _, rfl, x, y, d, d, nms ps, look ps, look qs, u, v, rfl, two gC', by omega, by omega, d0, d60, fun s5 HE gE rE => ?_⟩
    have gE' := Same.trans gC' gE
    obtain ⟨i5, _, _, _, j5⟩ := rE.ins
    refine ⟨_, rfl, s5, i5, _, .ref C, rfl, j5, KCharge.ins (gE' _ _ x1), nf_self, s5, _, _, .ref x, true, rfl, rE, ChR.eqd S.z uvd0 u0 (S.x.same gE') (fun z hz => by grind), _, rfl, ?_⟩
    exact k _ (pB.same gE') (bH.trans (But.of gE'))
end
end V0
namespace V0
open PySem PySem.Spec PyProof.Rows L2
section
variable {prog : Program} {w : World} {K : Type} [DecidableEq K] {knd : KeyKind prog w K} {A : Around} {E : Value → Shared → Prop} {s : Shared}

/-- a key put behind the others, or over its like -/
theorem dictPut_pairs {d : Addr} {kvs : List (K × Value)} {k : K} {key v : Value} {Q : Unit → Shared → Prop} (hkey : knd.is k key = true) (hm : s.heap.DictOf knd d kvs)
    (hQ : ∀ h', h'.DictOf knd d (stored kvs k v) → Heap.SameBut d s.heap h' → Q () { s with heap := h' }) (hsz : kvs.length ≤ sizeLine) :
    wpAny (model prog w) A (dictPut d (knd.hash k) key v) Q E s := by
  obtain ⟨o, es, ep, ho, hc, hd, hk, hp, hn⟩ := hm
  have hlen : es.size = kvs.length := by rw [← hp.length]; simp
  have hes : es.size ≤ sizeLine := by omega
  have hidx : (es.findIdx? fun e => knd.is k e.key) = kvs.findIdx? fun kv => decide (kv.1 = k) := by
    rw [← hp.findIdx k]; obtain ⟨l⟩ := es; simp
  unfold dictPut
  refine wpAny_bind (wpAny_dictFind_of hkey ho hd hk ?_)
  cases hi : es.findIdx? fun e => knd.is k e.key with
  | some i =>
    refine wpAny_updateDict ho hd (hQ _ ⟨_, _, ep, Heap.get?_update_self _ ho (Obj.isFreed_of_dict (Obj.data_mapDict hd _)), hc.mapDict _, Obj.data_mapDict hd _, hk.modify _ _, ?_, ?_⟩ (Heap.SameBut.update ..))
    · rw [stored, if_pos (any_of_findIdx_some (hidx ▸ hi))]
      have hl : (es.toList.findIdx? fun e => knd.is k e.key) = some i := by rw [← hi]; obtain ⟨l⟩ := es; simp
      have := hp.modify hn hl v
      obtain ⟨l⟩ := es
      simpa using this
    · rw [stored, if_pos (any_of_findIdx_some (hidx ▸ hi)), keys_map_store]; exact hn
  | none =>
    have hnot : k ∉ kvs.map (·.1) := not_mem_of_findIdx_none (hidx ▸ hi)
    have hany : ¬ (kvs.any fun kv => decide (kv.1 = k)) = true := fun h => by
      obtain ⟨kv, hkv, he⟩ := List.any_eq_true.mp h
      exact hnot (List.mem_map.mpr ⟨kv, hkv, of_decide_eq_true he⟩)
    refine wpAny_updateDictKeys (hz := hes) ho hd (hQ _ ⟨_, _, ep + 1, Heap.get?_update_self _ ho (Obj.isFreed_of_dict (Obj.data_mapDictKeys hd _)), hc.mapDictKeys _, Obj.data_mapDictKeys hd _, hk.push hkey _, ?_, ?_⟩ (Heap.SameBut.update ..))
    · rw [stored, if_neg hany]
      have := hp.append hkey (knd.hash k) v
      obtain ⟨l⟩ := es
      simpa using this
    · rw [stored, if_neg hany, List.map_append, List.nodup_append]
      refine ⟨hn, by simp, fun a ha b hb e => ?_⟩
      simp only [List.map_cons, List.map_nil, List.mem_singleton] at hb
      exact hnot (hb ▸ e ▸ ha)

/-- {**o}: all of o put into d, in its order -/
theorem mergeMapping_pairs {d o : Addr} {kvs more : List (K × Value)} {Q : Unit → Shared → Prop} (hdo : d ≠ o) (hoS : (o == sysModules) = false)
    (hd : s.heap.DictOf knd d kvs) (ho : s.heap.DictOf knd o more)
    (hQ : ∀ h', h'.DictOf knd d (merged kvs more) → h'.DictOf knd o more → Heap.SameBut d s.heap h' → Q () { s with heap := h' }) (hsz : kvs.length + more.length ≤ sizeLine) :
    wpAny (model prog w) A (mergeMapping d (.ref o) false) Q E s := by
  obtain ⟨od, esd, epd, hod, hcd, hdd, hkd, hpd, hnd⟩ := id hd
  obtain ⟨oo, eso, epo, hoo, hco, hdo', hko, hpo, hno⟩ := id ho
  have hlen : more.length = eso.size := by rw [← hpo.length]; simp
  unfold mergeMapping
  refine wpAny_bind (wpAny_isInstance ho.typeIs isSubtype_dict_dict ?_)
  rw [if_pos rfl]
  refine wpAny_bind (wpAny_specialOf ho.typeIs F.slot_dict_iter.lookup (wpAny_bind (wpAny_pure ?_)))
  simp only [beq_self_eq_true]
  rw [if_neg (by rw [hoS]; exact Bool.false_ne_true)]
  refine wpAny_bind (wpAny_dictEntries hod hdd ?_)
  have loop : wpAny (model prog w) A (do
      let l ← dictEntries o
      let epoch ← dictEpoch o
      forIn (List.range l.size) PUnit.unit fun i (_ : PUnit) => (do
          let l' ← dictEntries o
          match l'[i]? with
            | some e => do
              holding [e.key, e.val] (dictPut d e.hash e.key e.val)
              let ep' ← dictEpoch o
              if (ep' != epoch) = true then do
                  (unsupported "dict.changed-during-merge" : Sem PUnit)
                  pure (ForInStep.yield PUnit.unit)
                else pure (ForInStep.yield PUnit.unit)
            | _ => do
              (unsupported "dict.changed-during-merge" : Sem PUnit)
              pure (ForInStep.yield PUnit.unit) : Sem (ForInStep PUnit))
      pure ()) Q E s := by
    refine wpAny_bind (wpAny_dictEntries hoo hdo' ?_)
    refine wpAny_bind (wpAny_dictEpoch hoo hdo' ?_)
    refine wpAny_bind ?_
    rw [List.range_eq_range']
    refine wpAny_forIn_list _
      (fun rest _ s' => ∃ h' i, s' = { s with heap := h' } ∧ rest = List.range' i (eso.size - i) ∧ i ≤ eso.size ∧ h'.DictOf knd d (merged kvs (more.take i)) ∧ h'.get? o = some oo ∧ Heap.SameBut d s.heap h')
      _ ?_ ?_ _ _ ⟨s.heap, 0, rfl, by simp, Nat.zero_le _, by simpa [merged] using hd, hoo, Heap.SameBut.refl _ _⟩
    · rintro x rest b s' ⟨h', i, rfl, hr, hi, hd', hoo', hs'⟩
      have hlt : i < eso.size := by
        rcases Nat.lt_or_ge i eso.size with h | h
        · exact h
        · rw [Nat.sub_eq_zero_of_le h] at hr; simp at hr
      obtain ⟨rfl, hrest⟩ : x = i ∧ rest = List.range' (i + 1) (eso.size - (i + 1)) := by
        have e : eso.size - i = (eso.size - (i + 1)) + 1 := by omega
        rw [e, List.range'_succ] at hr
        exact List.cons.inj hr
      refine wpAny_bind (wpAny_dictEntries hoo' hdo' ?_)
      rw [Array.getElem?_eq_getElem hlt]
      have hm : more[x]? = some (more[x]'(by rw [hlen]; exact hlt)) := List.getElem?_eq_getElem _
      generalize more[x]'(by rw [hlen]; exact hlt) = kv at hm
      obtain ⟨hkey, hval⟩ := hpo.get? (e := eso[x]) (by simp [hlt]) hm
      obtain ⟨k', hkey', hhash⟩ := hko eso[x] (Array.getElem_mem hlt)
      obtain rfl : k' = kv.1 := knd.inj _ _ _ hkey' hkey
      show wpAny _ _ (holding [eso[x].key, eso[x].val] (dictPut d eso[x].hash eso[x].key eso[x].val) >>= _) _ _ _
      rw [hhash, hval]
      have hmx : (merged kvs (more.take x)).length ≤ sizeLine := by
        have e1 := merged_length_le kvs (more.take x)
        have e2 : (more.take x).length ≤ more.length := by rw [List.length_take]; omega
        omega
      refine wpAny_bind (wpAny_holding (dictPut_pairs hkey hd' (fun h'' hd'' hs'' => ?_) hmx))
      have hoo'' : h''.get? o = some oo := (hs''.2 o (Ne.symm hdo)).trans hoo'
      refine wpAny_bind (wpAny_dictEpoch hoo'' hdo' ?_)
      rw [if_neg (by simp)]
      exact wpAny_pure ⟨h'', x + 1, rfl, hrest, hlt, by rw [merged_take_succ kvs more x kv hm]; exact hd'', hoo'', hs'.trans hs''⟩
    · rintro b s' ⟨h', i, rfl, hr, hi, hd', hoo', hs'⟩
      have hin : i = eso.size := by
        rcases Nat.lt_or_ge i eso.size with h | h
        · have e : eso.size - i = (eso.size - (i + 1)) + 1 := by omega
          rw [e, List.range'_succ] at hr; exact nomatch hr
        · exact Nat.le_antisymm hi h
      refine wpAny_pure (hQ h' ?_ ⟨oo, eso, epo, hoo', hco, hdo', hko, hpo, hno⟩ hs')
      rw [hin, ← hlen, List.take_length] at hd'; exact hd'
  split
  · refine wpAny_bind (wpAny_dictEntries hoo hdo' ?_)
    refine wpAny_bind ?_
    rw [← Array.forIn_toList]
    refine wpAny_forIn_list _ (fun rest _ s' => s' = s ∧ ∀ e ∈ rest, e ∈ eso.toList) _ ?_ ?_ _ _ ⟨rfl, fun _ h => h⟩
    · rintro e rest b s' ⟨rfl, hall⟩
      obtain ⟨k', hk', _⟩ := hko e (by simpa using hall e List.mem_cons_self)
      have hb := knd.byValue k' _ hk'
      have hr : ∀ e' ∈ rest, e' ∈ eso.toList := fun e' h => hall e' (List.mem_cons_of_mem _ h)
      cases hx : e.key with
      | ref a => rw [hx] at hb; cases hb
      | _ => exact wpAny_pure ⟨rfl, hr⟩
    · rintro b s' ⟨rfl, _⟩
      exact loop
  · exact loop
end
theorem kv_app {κ : Type} {k2 : List (κ × V)} {v2 : List (κ × Value)} (h2 : KV k2 v2) : ∀ {kvs : List (κ × V)} {vs : List (κ × Value)}, KV kvs vs → KV (kvs ++ k2) (vs ++ v2)
  | _, _, .nil => h2
  | _, _, .cons a b => .cons a (kv_app h2 b)
/-- {**a, **b}, no key in common -/
def tBoth (t1 t2 : TE) : TE := fun σ H Q => ∀ D, H D = none → t1 σ (upd H D (.dK [])) fun x H1 => ∃ (a : Addr) (as : List (Key × V)), x = .ref a ∧ H1 a = some (.dK as) ∧ D ≠ a ∧ H1 D = some (.dK []) ∧
  t2 σ (upd H1 D (.dK as)) fun y H2 => ∃ (b : Addr) (bs : List (Key × V)), y = .ref b ∧ H2 b = some (.dK bs) ∧ D ≠ b ∧ H2 D = some (.dK as) ∧ as.length + bs.length ≤ sizeLine ∧ ((as ++ bs).map (·.1)).Nodup ∧ Q (.ref D) (upd H2 D (.dK (as ++ bs)))
section
variable {X : Cx} {e1 e2 : Expr} {t1 t2 : TE} {pos : Pos}
theorem pe_both (h1 : PE X e1 t1) (h2 : PE X e2 t2) : PE X (.Dict [none, none] [e1, e2] pos) (tBoth t1 t2) := by
  refine ⟨fun pins s σ H Q I hq => ?_⟩
  rw [arm_eval_Dict]
  refine wpAny_bind (wpAny_standAt ?_)
  show wpAny _ _ (dictDisplay [(none, do let x ← eval e1 X.env; standAt pos; pure x), (none, do let x ← eval e2 X.env; standAt pos; pure x)]) _ _ s
  unfold dictDisplay
  simp only [List.forIn_cons, List.forIn_nil, List.isEmpty_nil, if_true, pure_bind]
  refine wpAny_bind (wpAny_bind (wpAny_bind (wpAny_alloc ?_)))
  generalize hDe : s.heap.objs.size = D
  have hDn : H D = none := I.hok.fresh (Nat.le_of_eq hDe)
  generalize hs0 : ({ s with heap := s.heap.push { cls := .type "dict", data := .dict #[] } } : Shared) = s0
  have I1 : Inv X pins σ (upd H D (.dK [])) s0 := by
    rw [← hs0]
    refine I.laid (t' := s.toks) (fun b o e => Heap.get?_push_of_some _ e) (Nat.le_of_eq hDe) ?_
    rw [← hDe]
    exact dk_empty s.heap I.big
  refine wpAny_bind (wpAny_holding (wpAny_bind (thn (h1.run pins _ σ _ _ I1 (hq D hDn)) fun u s1 ⟨x, H1, I2, rx, a, as, ex, ha, hne, hD1, q⟩ => wpAny_bind (wpAny_standAt (wpAny_pure ?_)))))
  subst ex
  obtain rfl : u = Value.ref a := rx
  obtain ⟨za, hsa, va, ka, da⟩ := dk_of I2.hok ha
  obtain ⟨zD, hsD, vD, kD, dD⟩ := dk_of I2.hok hD1
  obtain rfl : vD = [] := by
    have := kD.length
    exact List.length_eq_zero_iff.mp this.symm
  have la := ka.length
  refine wpAny_bind (wpAny_onRaise (wpAny_tryCatch (wpAny_onRaise (wpAny_holding (mergeMapping_pairs hne hsa dD da (fun h' d1 d2 hs1 => ?_) (by rw [List.length_nil]; omega))))))
  have na : (va.map (·.1)).Nodup := by
    obtain ⟨_, _, _, _, _, _, _, _, n⟩ := da
    exact n
  rw [merged_nil_of_nodup va na] at d1
  have I3 : Inv X pins σ (upd H1 D (.dK as)) { s1 with heap := h' } := by
    have he : ∃ q, h'.get? D = some q := let ⟨q, _, _, hq, _⟩ := d1; ⟨q, hq⟩
    exact d_write (t' := s1.toks) I2 (by rw [hD1]; exact True.intro) hs1 he (dk_new za hsD ka d1)
  generalize ({ s1 with heap := h' } : Shared) = s2 at I3
  refine wpAny_pure ?_
  refine wpAny_bind (wpAny_bind ?_)
  show wpAny _ _ (pure (some D)) _ _ _
  refine wpAny_pure ?_
  dsimp only
  refine wpAny_bind (wpAny_holding (wpAny_bind (thn (h2.run pins _ σ _ _ I3 q) fun u s3 ⟨y, H2, I4, ry, b, bs, ey, hb, hnb, hD2, hl, nab, q2⟩ => wpAny_bind (wpAny_standAt (wpAny_pure ?_)))))
  subst ey
  obtain rfl : u = Value.ref b := ry
  obtain ⟨zb, hsb, vb, kb, db⟩ := dk_of I4.hok hb
  obtain ⟨_, _, vd, kd, dd⟩ := dk_of I4.hok hD2
  have lb := kb.length
  have ld := kd.length
  refine wpAny_bind (wpAny_onRaise (wpAny_tryCatch (wpAny_onRaise (wpAny_holding (mergeMapping_pairs hnb hsb dd db (fun h2 d3 d4 hs2 => ?_) (by omega))))))
  have nd : ((vd ++ vb).map (·.1)).Nodup := by
    rw [List.map_append, ← kd.keys, ← kb.keys, ← List.map_append]
    exact nab
  rw [merged_append_of_fresh vd vb nd] at d3
  have I5 : Inv X pins σ (upd H2 D (.dK (as ++ bs))) { s3 with heap := h2 } := by
    have he : ∃ q, h2.get? D = some q := let ⟨q, _, _, hq, _⟩ := d3; ⟨q, hq⟩
    exact d_write (t' := s3.toks) I4 (by rw [hD2]; exact True.intro) hs2 he (dk_new (by rw [List.length_append]; exact hl) hsD (kv_app kb kd) d3)
  refine wpAny_pure ?_
  refine wpAny_pure ?_
  dsimp only
  refine wpAny_bind ?_
  show wpAny _ _ (pure (some D)) _ _ _
  refine wpAny_pure ?_
  refine wpAny_pure ?_
  exact ⟨.ref D, _, I5, rfl, q2⟩
end
end V0

namespace V0
open PySem PySem.Spec PyProof.Rows L2
/-! ### charges beside one another -/
/-- the items of a dict that is made there -/
def tFreeze (t : TE) : TE := fun σ H Q => t σ H fun x H1 => ∃ (d : Addr) (kvs : List (Key × V)), x = .ref d ∧ H1 d = some (.dK kvs) ∧ ∀ od, Q x (upd H1 d (.frz od (.dK kvs)))
theorem pe_freeze {X : Cx} {e : Expr} {t : TE} (h : PE X e t) : PE X e (tFreeze t) := by
  refine ⟨fun pins s σ H Q I hw => ?_⟩
  refine thn (h.run pins s σ H _ I hw) fun v s1 ⟨x, H1, I1, r, d, kvs, ex, hd, q⟩ => ?_
  obtain ⟨od, I2⟩ := I1.lock hd trivial
  exact ⟨x, _, I2, r, q od⟩
theorem pi_itemsF {X : Cx} {e : Expr} {t : TE} {apos cpos tpos : Pos} {elts : List Expr} {kk : Nat} (he : PE X e t) (hbase : attributeBase e "items" X.env (eval e X.env) = eval e X.env := by rfl) (hline : (apos.endLine == cpos.line) = true := by rfl) :
    PI X (.Tuple elts kk tpos) (.Call (.Attribute e "items" apos) [] [] cpos) (iItems (tFreeze t)) := pi_items (pe_freeze he) hbase hline
theorem asc_of {zs : List Str} (ord : sortedS zs = true) (nd : zs.Nodup) : zs.Pairwise (fun a b => a.cps.toList < b.cps.toList) := by
  refine ((sorted_pw _ ord).and nd).imp fun {x y} ⟨h1, h2⟩ => ?_
  rcases List.le_iff_lt_or_eq.mp (leS_iff.mp h1) with z | z
  · exact z
  · exact absurd (str_ext z) h2
/-- charge_over of names in any order, by functions -/
theorem over_fn2 {C : Addr} {H' : Hp} {x : Addr} {ns ys : List Str} {F : Str → Int} {u : Int} (nd : ns.Nodup) (hu : 0 < u) (sd : Sd (bagOf F ns) ys) (hc : ChAt C H' x (chB ys (bagOf F ns) u) (nfU u (bagOf F ns))) : ys.Perm ns ∧ ChR C H' x ys F u := by
  have pm : ys.Perm ns := by
    have := sd.pm
    rwa [bagOf_nms] at this
  have pb : (bagOf F ns).Perm (bagOf F ys) := pm.symm.map _
  have ndy : ys.Nodup := pm.symm.nodup nd
  have eg : gcdB u (bagOf F ns) = gcdB u (bagOf F ys) := gcdB_perm pb
  have eU : nfU u (bagOf F ns) = nfU u (bagOf F ys) := by unfold nfU; rw [eg]
  have eB : chB ys (bagOf F ns) u = nfB u (bagOf F ys) := by
    have c := chB1 (ps := bagOf F ys) (u := u) hu (by rw [bagOf_nms]; exact ndy)
    rw [bagOf_nms] at c
    rw [← c]
    unfold chB
    rw [eg]
    exact bagOf_congr fun z hz => by rw [look_perm (by rw [bagOf_nms]; exact nd) pb]
  refine ⟨pm, ?_⟩
  unfold ChR ChOf
  rw [← eU, ← eB]
  exact hc
def spBeside (C : Addr) : Sp := fun vs H Q _ => ∃ (a b : Addr) (zs ws : List Str) (f g : Str → Int) (u v : Int), vs = [.ref a, .ref b] ∧ ChR C H a zs f u ∧ ChR C H b ws g v ∧ Zs zs ∧ Zs ws ∧ (∀ z ∈ ws, z ∉ zs) ∧ zs.length + ws.length ≤ 8 ∧ 0 < u ∧ 0 < v ∧ u.natAbs < 2 ^ 900 ∧ v.natAbs < 2 ^ 900 ∧
  (∀ z ∈ zs, (f z).natAbs < 2 ^ 2000) ∧ (∀ z ∈ ws, (g z).natAbs < 2 ^ 2000) ∧
  ∀ (x : Addr) (ys : List Str) (H' : Hp), Same H H' → Zs ys → ys.Perm (zs ++ ws) → ChR C H' x ys (fun z => if z ∈ zs then f z * v else g z * u) (u * v) → Q (.ref x) H'
section
variable {P : Program} {w : World} {K : PySem.W.Frag} {mg : Str → Option Value} {base : Heap} {C : Addr} {ad : Nat → Addr} {fdd : Nat → FuncData}
abbrev s_Charge_put_beside : Stmt := inClass (top 25) 9
abbrev N_Charge_put_beside : List Str := ["self", "other", "thing", "one_pays", "paid", "other_pays"]
abbrev P_Charge_put_beside : List Str := ["self", "other"]
theorem sc_Charge_put_beside : FnScope N_Charge_put_beside P_Charge_put_beside (defScope s_Charge_put_beside) := ⟨rfl, rfl, rfl, by decide +kernel, rfl, by decide +kernel, by decide +kernel⟩
theorem ok_beside {f f3 : Addr} {fd fd3 : FuncData} (O : Own P w K mg base C ad fdd) (CN : Nm mg) (D_charge_over : Df K mg "charge_over" s_charge_over P_charge_over f3 fd3) (G_charge_over : FnOk P w K mg base CX0 6 f3 fd3 P_charge_over (spOver C))
    (Y : Md K "Charge.put_beside" "put_beside" C s_Charge_put_beside P_Charge_put_beside f fd) : FnOk P w K mg base CX0 8 f fd P_Charge_put_beside (spBeside C) := by
  obtain ⟨B, M, KCharge, N, NX, Y_init, G_init, Y_Charge_things, G_Charge_things, Y_Charge_unit, G_Charge_unit, Y_Charge_pays, G_Charge_pays, Y_Charge_total, G_Charge_total, Y_Charge_of, G_Charge_of, Y_Charge_cut, G_Charge_cut, O_len, O_str, O_iter, O_item, O_cont, O_eq⟩ := id O
  refine Y.F.ok sc_Charge_put_beside (fun vs H Q E h => ?_) (fun cdv A outer s H vs Q E hr h => ?_)
  · obtain ⟨a, b, zs, ws, f, g, u, v, rfl, _⟩ := h
    rfl
  · obtain ⟨a, b, zs, ws, f, g, u, v, rfl, ha, hb, hz, hw, dj, l8, hu, hv, ub, vb, fb, gb, k⟩ := h
    refine ⟨_, (pss_cons (ps_if (pt_not (pt_val (pe_callB call_isi (by rfl) B.b_isinstance (by decide +kernel) (pa_cons (pv 1) (pa_cons (pe_gv rfl KCharge.gv) pa_nil))))) (pss_one ps_never) pss_nil)
      (pss_cons (ps_if (pt_val (pe_callB (cr_any rfl) (by rfl) B.b_any (by decide +kernel) (pa_cons (pe_lc (own := [("thing", 2)]) (g := gName 2) (tt := tYes) rfl sc_Charge_put_beside.nd (pi_tup (pe_prop (pv 1) KCharge.cl Y_Charge_things.pr G_Charge_things (hr.mono (by decide)) Y_Charge_things.b .nil pass0 rfl)) (blkOk_by (own := [("thing", 2)]) (N := N_Charge_put_beside) (sc := defScope s_Charge_put_beside) (by decide +kernel)) (fun _ _ _ _ _ => (pg_name (i := 2) sc_Charge_put_beside.nd rfl (Or.inl rfl))) (fun _ _ _ _ _ => pts_nil) (fun _ _ _ _ _ => (show PE _ _ (tOp (rIn K false) (tVar 2) (tFld K (tVar 0) "_things")) from by exact (pe_cmpR op_in_seq (pv 2) (pe_fld (pv 0) rfl) (by rfl))))) pa_nil))) (pss_one ps_never) pss_nil)
      (pss_cons (ps_if (pt_cmpR op_gt (pe_op op_add (pe_callB (call_lenO O_len (hr.mono (by decide)) pass0) (by rfl) B.b_len (by decide +kernel) (pa_cons (pv 0) pa_nil)) (pe_callB (call_lenO O_len (hr.mono (by decide)) pass0) (by rfl) B.b_len (by decide +kernel) (pa_cons (pv 1) pa_nil))) (pe_gv rfl CN.g_MAX_THINGS) (nomark _)) (pss_one ps_never) pss_nil)
      (pss_cons (ps_setDc (i := 3) (own := [("thing", 2)]) (g := gName 2) (tt := tYes) rfl sc_Charge_put_beside.nd rfl rfl (swD_true rfl rfl rfl (by decide +kernel)) (pi_tup (pe_fld (pv 0) rfl)) (blkOk_by (own := [("thing", 2)]) (N := N_Charge_put_beside) (sc := defScope s_Charge_put_beside) (by decide +kernel)) (fun _ _ _ _ _ => (pg_name (i := 2) sc_Charge_put_beside.nd rfl (Or.inl rfl))) (fun _ _ _ _ _ => pts_nil) (fun _ _ _ _ _ => (pv 2)) (fun _ _ _ _ _ => (pe_op op_mulW (show PE _ _ (tDGet (tFld K (tVar 0) "_pays") (tVar 2)) from by exact (pe_dget (hu_of hr) (pe_fld (pv 0) rfl) (pv 2) (fun _ _ => rfl))) (pe_prop (pv 1) KCharge.cl Y_Charge_unit.pr G_Charge_unit (hr.mono (by decide)) Y_Charge_unit.b .nil pass0 rfl))))
      (pss_cons (ps_setDc (i := 5) (own := [("thing", 2), ("paid", 4)]) (g := gTup K 2 (gCons (gName 2) (gCons (gName 4) (gNil)))) (tt := tYes) rfl sc_Charge_put_beside.nd rfl rfl (swD_true rfl rfl rfl (by decide +kernel)) (pi_itemsF (pe_prop (pv 1) KCharge.cl Y_Charge_pays.pr G_Charge_pays (hr.mono (by decide)) Y_Charge_pays.b .nil pass0 rfl)) (blkOk_by (own := [("thing", 2), ("paid", 4)]) (N := N_Charge_put_beside) (sc := defScope s_Charge_put_beside) (by decide +kernel)) (fun _ _ _ _ _ => (pg_tup rfl (pgs_cons (pg_name (i := 2) sc_Charge_put_beside.nd rfl (Or.inl rfl)) (pgs_cons (pg_name (i := 4) sc_Charge_put_beside.nd rfl (Or.inl rfl)) pgs_nil)))) (fun _ _ _ _ _ => pts_nil) (fun _ _ _ _ _ => (pv 2)) (fun _ _ _ _ _ => (show PE _ _ (tOp (rI CMulW fun i j => .int (i * j)) (tVar 4) (tFld K (tVar 0) "_unit")) from by exact (pe_op op_mulW (pv 4) (pe_fld (pv 0) rfl)))))
      (pss_one (ps_ret (pe_call G_charge_over (hr.mono (by decide)) (by rfl) D_charge_over.g D_charge_over.F.kp D_charge_over.b .nil pass0 (pa_cons (pe_both (pv 3) (pv 5)) (pa_cons (pe_op op_mulW (pe_fld (pv 0) rfl) (pe_prop (pv 1) KCharge.cl Y_Charge_unit.pr G_Charge_unit (hr.mono (by decide)) Y_Charge_unit.b .nil pass0 rfl)) pa_nil)))))))))), ?_⟩
    obtain ⟨G1, g1, eu, ef, n1, U0, U1⟩ := kept_fn (f := f) hz hu
    obtain ⟨G2, g2, ev, eg, n2, V0, V1⟩ := kept_fn (f := g) hw hv
    have kb1 := kept_bound (f := f) hz hu fb
    have kb2 := kept_bound (f := g) hw hv gb
    unfold ChR ChOf at ha hb
    generalize hP : nfB u (bagOf f zs) = pB at *
    generalize hQ : nfB v (bagOf g ws) = qB at *
    generalize hU : nfU u (bagOf f zs) = U at *
    generalize hV : nfU v (bagOf g ws) = W at *
    obtain ⟨dx, tt, dd, c1, c2, c3⟩ := id ha
    obtain ⟨dy, ty, dyy, y1, y2, y3⟩ := id hb
    rw [n1] at c2
    rw [n2] at y2
    have lp : pB.length = zs.length := by rw [← n1, nms_len]
    have lq : qB.length = ws.length := by rw [← n2, nms_len]
    refine ⟨_, rfl, _, _, _, _, _, rfl, .own C, KCharge.ins y1, Kls.self, _, rfl, ite2 (fun z => by cases z) (fun _ => ?_)⟩
    refine ⟨_, rfl, b, dy, _, rfl, y1, b, dy, ty, dyy, _, rfl, y1, ty, rfl, ⟨_, SqT.of y2⟩, fun L hL => ?_⟩
    refine lc_it (walk_tup (xs := ws.map V.str)) (fun i H' => Same H H' ∧ H' L = some (.lst ((List.replicate i false).map V.bl))) ⟨Same.new hL, upd_same⟩ (fun i H' _ ⟨s, _⟩ => SqT.of (s _ _ y2)) ?_ ?_
    · rintro i y H1 H2 hi ⟨s1, h1⟩ ⟨rfl, hy⟩
      obtain ⟨z, hzz, rfl⟩ := str_at hy
      rw [List.length_map] at hi
      have hzm := List.mem_of_getElem? hzz
      refine ⟨rfl, _, rfl, _, rfl, a, C, dx, _, _, rfl, s1 _ _ c1, KCharge.cl, N.n1, rfl, tt, _, rfl, .inr (SqT.of (s1 _ _ c2)), rfl, flat_map zs, _, h1, ?_, ?_, ?_⟩
      · rw [List.length_map, List.length_replicate, sizeLine_eq]
        omega
      · exact fun b o e => by rw [upd_ne (ne_of_none e hL)]; exact s1 b o e
      · rw [upd_same, List.replicate_succ', List.map_append, inV_str, decide_eq_false (dj z hzm)]
        rfl
    rintro H1 ⟨s1, h1⟩
    refine ⟨L, _, rfl, SqL.of h1, ?_⟩
    rw [List.length_map, show (List.replicate ws.length false).any id = false by simp]
    refine ⟨_, rfl, iteF ?_⟩
    refine ⟨_, rfl, a, dx, _, rfl, s1 _ _ c1, a, _, _, rfl, ChAt.same ha s1, by omega, _, rfl, by omega, by omega, _, rfl, b, dy, _, rfl, s1 _ _ y1, b, _, _, rfl, ChAt.same hb s1, by omega, _, rfl, by omega, by omega, _, _, rfl, rfl, _, _, rfl, rfl, _, rfl, ?_⟩
    rw [show decide (((pB.length : Nat) : Int) + ((qB.length : Nat) : Int) > 8) = false from decide_eq_false (by omega)]
    refine iteF ?_
    have c1 := s1 _ _ c1
    have c2 := s1 _ _ c2
    have c3 := s1 _ _ c3
    have y1 := s1 _ _ y1
    have y2 := s1 _ _ y2
    have y3 := s1 _ _ y3
    have hb1 := ChAt.same hb s1
    have Ub : U.natAbs < 2 ^ 900 := by omega
    have Wb : W.natAbs < 2 ^ 900 := by omega
    refine ⟨_, rfl, a, C, dx, _, _, rfl, c1, KCharge.cl, N.n1, rfl, tt, rfl, ⟨_, SqT.of c2⟩, fun D hD => ?_⟩
    refine dc_it (walk_tup (xs := zs.map V.str)) (fun i H' => H' = upd H1 D (.dK (kvs (bagOf (fun z => look pB z * W) (zs.take i))))) rfl (fun i H' _ e => by rw [e]; exact SqT.of (Same.new hD _ _ c2)) ?_ ?_
    · rintro i y H5 H6 hi rfl ⟨rfl, hy⟩
      rw [List.length_map] at hi
      obtain ⟨z, hzz, rfl⟩ := str_at hy
      have s5 := Same.new (o := .dK (kvs (bagOf (fun z => look pB z * W) (zs.take i)))) hD
      have hm := List.mem_of_getElem? hzz
      refine ⟨rfl, _, rfl, _, rfl, a, C, dx, _, _, rfl, s5 _ _ c1, KCharge.cl, N.n3, rfl, _, rfl, dd, _, rfl, DGet.bag (.inl (s5 _ _ c3)) (by rw [n1]; exact hm), _, rfl, b, dy, _, rfl, s5 _ _ y1, b, dy, ty, dyy, _, rfl, s5 _ _ y1, _, _, rfl, rfl, mulW (kb1 _ hm) Wb (by decide) (by decide) (by decide), _, .inr _, rfl, upd_same, ?_, ?_⟩
      · rw [bagOf_len, List.length_take, sizeLine_eq]
        omega
      · rw [upd_upd]
        exact congrArg _ (congrArg _ (bagOf_succ (fun z => look pB z * W) hz.nd hzz))
    rintro H5 rfl
    rw [List.length_map, List.take_length]
    have s2 := Same.new (o := .dK (kvs (bagOf (fun z => look pB z * W) zs))) hD
    have e2 : (upd H1 D (.dK (kvs (bagOf (fun z => look pB z * W) zs)))) D = some (.dK (kvs (bagOf (fun z => look pB z * W) zs))) := upd_same
    generalize upd H1 D (.dK (kvs (bagOf (fun z => look pB z * W) zs))) = H2 at s2 e2
    refine ⟨_, rfl, b, dy, _, rfl, s2 _ _ y1, b, _, _, rfl, ChAt.same hb1 s2, by rw [n2]; exact hw.nd, by omega, fun p hp => ⟨p, _, rfl, upd_same, fun od => ⟨p, od, _, rfl, upd_same, fun D2 hD2 => ?_⟩⟩⟩
    have s3 : Same H2 (upd (upd H2 p (.dK (kvs qB))) p (.frz od (.dK (kvs qB)))) := by
      rw [upd_upd]
      exact Same.new hp
    have e3 : (upd (upd H2 p (.dK (kvs qB))) p (.frz od (.dK (kvs qB)))) p = some (.frz od (.dK (kvs qB))) := upd_same
    generalize upd (upd H2 p (.dK (kvs qB))) p (.frz od (.dK (kvs qB))) = H3 at s3 e3 hD2 ⊢
    have s23 := Same.trans s2 s3
    refine dc_it walk_items (fun i H' => Same H3 H' ∧ H' D2 = some (.dK (kvs (bagOf (fun z => look qB z * U) (ws.take i))))) ⟨Same.new hD2, upd_same⟩ (fun i H' _ ⟨s, _⟩ => s _ _ e3) ?_ ?_
    · rintro i y H5 H6 hi ⟨s5, e5⟩ ⟨T, x1, x2, rfl, hT, rfl, hx, hy⟩
      rw [kvs_len] at hi
      obtain ⟨q, hq⟩ : ∃ q, qB[i]? = some q := ⟨_, List.getElem?_eq_getElem hi⟩
      have hk : (kvs qB)[i]? = some (.inr q.1, .int q.2) := by
        unfold kvs
        rw [List.getElem?_map, hq]
        rfl
      have hx' : ((kvs qB)[i]?.map fun kv => kV kv.1) = some x1 := hx
      have hy' : ((kvs qB)[i]?.map Prod.snd) = some x2 := hy
      rw [hk] at hx' hy'
      injection hx' with hx'
      injection hy' with hy'
      subst hx'
      subst hy'
      have hm : ws[i]? = some q.1 := by
        rw [← n2]
        unfold nms
        rw [List.getElem?_map, hq]
        rfl
      have hmm := List.mem_of_getElem? hm
      have eq2 : look qB q.1 = q.2 := look_of (by rw [n2]; exact hw.nd) (List.mem_of_getElem? hq)
      have s6 := Same.trans s5 (Same.new (o := .tup [kV (.inr q.1), .int q.2]) hT)
      have e6 := Same.new (o := .tup [kV (.inr q.1), .int q.2]) hT _ _ e5
      refine ⟨T, _, rfl, SqT.of upd_same, rfl, _, _, rfl, _, _, rfl, rfl, rfl, _, rfl, _, rfl, _, rfl, a, C, dx, _, _, rfl, s6 _ _ (s23 _ _ c1), KCharge.cl, N.n2, rfl, _, _, rfl, rfl, mulW (eq2 ▸ kb2 _ hmm) Ub (by decide) (by decide) (by decide), _, .inr q.1, rfl, e6, ?_, ?_, ?_⟩
      · rw [bagOf_len, List.length_take, sizeLine_eq]
        omega
      · exact fun b' o e => by rw [upd_ne (ne_of_none e hD2)]; exact s6 b' o e
      · rw [upd_same, ← eq2]
        exact congrArg _ (congrArg _ (bagOf_succ (fun z => look qB z * U) hw.nd hm))
    rintro H5 ⟨s5, e5⟩
    rw [kvs_len, lq, List.take_length] at e5
    have s25 := Same.trans s23 s5
    have e2 := s5 _ _ (s3 _ _ e2)
    generalize hF0 : (fun z => if z ∈ zs then look pB z * W else look qB z * U) = F0
    have eB : kvs (bagOf (fun z => look pB z * W) zs) ++ kvs (bagOf (fun z => look qB z * U) ws) = kvs (bagOf F0 (zs ++ ws)) := by
      have q1 : bagOf (fun z => look pB z * W) zs = bagOf F0 zs := bagOf_congr fun z hz => by rw [← hF0]; exact (if_pos hz).symm
      have q2 : bagOf (fun z => look qB z * U) ws = bagOf F0 ws := bagOf_congr fun z hz => by rw [← hF0]; exact (if_neg (dj z hz)).symm
      rw [q1, q2]
      unfold kvs bagOf
      rw [← List.map_append, ← List.map_append]
    have ndz : (zs ++ ws).Nodup := List.nodup_append.mpr ⟨hz.nd, hw.nd, fun x hx y hy e => dj y hy (e ▸ hx)⟩
    have lz : (zs ++ ws).length = zs.length + ws.length := List.length_append
    have z1 := hz.l1
    have hh : Bh (bagOf F0 (zs ++ ws)) := by
      have l : (bagOf F0 (zs ++ ws)).length = (zs ++ ws).length := by unfold bagOf; rw [List.length_map]
      refine ⟨by rw [bagOf_nms]; exact ndz, fun z h => ?_, by omega, by omega⟩
      rw [bagOf_nms] at h
      rcases List.mem_append.mp h with h | h
      · exact hz.nm z h
      · exact hw.nm z h
    intro D3 hD3
    have nD := ne_of_none e2 hD3
    have nD2 := ne_of_none e5 hD3
    refine ⟨_, rfl, D, kvs (bagOf (fun z => look pB z * W) zs), rfl, by rw [upd_ne nD]; exact e2, nD.symm, upd_same, _, rfl, D2, kvs (bagOf (fun z => look qB z * U) ws), rfl, by rw [upd_ne nD2, upd_ne nD2]; exact e5, nD2.symm, upd_same, ?_, ?_, ?_⟩
    · rw [bagOf_len, bagOf_len, sizeLine_eq]
      omega
    · rw [eB]
      have q : (kvs (bagOf F0 (zs ++ ws))).map (·.1) = (zs ++ ws).map Sum.inr := by
        unfold kvs bagOf
        rw [List.map_map, List.map_map]
        rfl
      rw [q]
      exact ndz.map Sum.inr fun x y n e => n (by injection e)
    rw [eB, upd_upd, upd_upd]
    have s6 := Same.new (o := .dK (kvs (bagOf F0 (zs ++ ws)))) hD3
    have e6 : (upd H5 D3 (.dK (kvs (bagOf F0 (zs ++ ws))))) D3 = some (.dK (kvs (bagOf F0 (zs ++ ws)))) := upd_same
    generalize upd H5 D3 (.dK (kvs (bagOf F0 (zs ++ ws)))) = H6 at s6 e6
    have s26 := Same.trans s25 s6
    have upos : 0 < U * W := Int.mul_pos U0 V0
    have uw := abs_mul_lt Ub Wb
    refine ⟨_, rfl, a, C, dx, _, _, rfl, s26 _ _ c1, KCharge.cl, N.n2, rfl, _, rfl, b, dy, _, rfl, s26 _ _ y1, b, dy, ty, dyy, _, rfl, s26 _ _ y1, _, _, rfl, rfl, mulW Ub Wb (by decide) (by decide) (by decide), ?_⟩
    refine ⟨D3, _, _, rfl, e6, hh, upos, Nat.lt_trans uw (by decide +kernel), fun x ys H7 sd s7 hx7 hc => ?_⟩
    obtain ⟨pm, hr7⟩ := over_fn2 ndz upos sd hc
    have hys : Zs ys := by
      have ly := pm.length_eq
      refine ⟨asc_of sd.ord (pm.symm.nodup ndz), fun z h => ?_, by omega, by omega⟩
      rcases List.mem_append.mp (pm.subset h) with h | h
      · exact hz.nm z h
      · exact hw.nm z h
    refine k x ys H7 (Same.trans s1 (Same.trans s26 s7)) hys pm (hr7.cast upos (Int.mul_pos hu hv) fun z h => ?_)
    rw [← hF0]
    dsimp only
    by_cases q : z ∈ zs
    · rw [if_pos q, if_pos q]
      have q1 := ef z q
      rw [← q1, ← eu, ← ev]
      grind
    · rw [if_neg q, if_neg q]
      have q1 := eg z ((List.mem_append.mp (pm.subset h)).resolve_left q)
      rw [← q1, ← eu, ← ev]
      grind
end
end V0

namespace V0
open PySem PySem.Spec PyProof.Rows L2
/-! ### some of the things -/
def spSomeOf : Sp := fun vs H Q _ => ∃ (p a : Addr) (zs : List Str), vs = [.ref p, .ref a] ∧ Pot H p ∧ H a = some (.tup (zs.map V.str)) ∧ zs.length ≤ 1000 ∧
  ∀ (b : Addr) (ys : List Str) (H' : Hp), ys.Sublist zs → H' b = some (.tup (ys.map V.str)) → Pot H' p → But p H H' → Q (.ref b) H'
section
variable {P : Program} {w : World} {K : PySem.W.Frag} {mg : Str → Option Value} {base : Heap} {C : Addr} {ad : Nat → Addr} {fdd : Nat → FuncData}
abbrev s_some_of : Stmt := top 35
abbrev N_some_of : List Str := ["_law_pot_here", "_law_items", "_law_one"]
abbrev P_some_of : List Str := ["_law_pot_here", "_law_items"]
theorem sc_some_of : FnScope N_some_of P_some_of (defScope s_some_of) := ⟨rfl, rfl, rfl, by decide +kernel, rfl, by decide +kernel, by decide +kernel⟩
theorem ok_some_of {f f1 : Addr} {fd fd1 : FuncData} (B : Bl mg) (D_stir : Df K mg "_law_stir" s_stir P_stir f1 fd1) (D : Df K mg "_law_some_of" s_some_of P_some_of f fd) : FnOk P w K mg base CX0 2 f fd P_some_of spSomeOf := by
  have G_stir : FnOk P w K mg base CX0 1 f1 fd1 P_stir spStir := ok_stir B D_stir
  refine D.F.ok sc_some_of (fun vs H Q E h => ?_) (fun cdv A outer s H vs Q E hr h => ?_)
  · obtain ⟨p, a, zs, rfl, _⟩ := h
    rfl
  · obtain ⟨p, a, zs, rfl, hp, ha, hl, k⟩ := h
    refine ⟨_, (pss_one (ps_ret (pe_callTy call_tuple_of (by rfl) B.b_tuple (by decide +kernel) (pa_cons (pe_lc (own := [("_law_one", 2)]) (g := gName 2) rfl sc_some_of.nd (pi_tup (pv 1)) (blkOk_by (own := [("_law_one", 2)]) (N := N_some_of) (sc := defScope s_some_of) (by decide +kernel)) (fun _ _ _ _ _ => (pg_name (i := 2) sc_some_of.nd rfl (Or.inl rfl))) (fun _ _ _ _ _ => pts_one (pt_cmpR op_eq (pe_call G_stir (hr.mono (by decide)) (by rfl) D_stir.g D_stir.F.kp D_stir.b .nil pass0 (pa_cons (pv 0) (pa_cons pe_int pa_nil))) pe_int (nomark _))) (fun _ _ _ _ _ => (pv 2))) pa_nil)))), ?_⟩
    have nap : a ≠ p := by
      obtain ⟨_, _, _, hp, _⟩ := hp
      exact ne_of ha hp fun z => nomatch z
    have hsz : (1000 : Nat) < sizeLine := by decide
    refine ⟨_, rfl, a, rfl, ⟨_, SqT.of ha⟩, fun L hL => ?_⟩
    have nLp := pot_ne hp hL
    refine lc_it (walk_tup (xs := zs.map V.str)) (fun i H' => Pot H' p ∧ But p H H' ∧ ∃ ys : List Str, ys.Sublist (zs.take i) ∧ H' L = some (.lst (ys.map V.str))) ⟨hp.same (Same.new hL), But.of (Same.new hL), [], .slnil, upd_same⟩ (fun i H' _ ⟨_, q, _⟩ => SqT.of (q _ _ ha nap)) ?_ ?_
    · rintro i x H2 H3 hi ⟨p2, b2, ys, sl, e2⟩ ⟨rfl, hx⟩
      obtain ⟨z, hz, rfl⟩ := str_at hx
      have tk : zs.take (i + 1) = zs.take i ++ [z] := by rw [List.take_add_one, hz]; rfl
      refine ⟨rfl, _, rfl, p, 2, rfl, p2, by omega, by omega, fun r H4 r0 r1 p4 b4 => ?_⟩
      have e4 := b4 _ _ e2 nLp
      have b24 := b2.trans b4
      have sl' : ys.Sublist (zs.take (i + 1)) := by
        rw [tk]
        exact sl.trans (List.sublist_append_left _ _)
      refine ⟨rfl, _, rfl, ite2 (fun _ => ?_) (fun _ => ⟨p4, b24, ys, sl', e4⟩)⟩
      have yl := sl.length_le
      rw [List.length_take] at yl
      refine ⟨_, rfl, _, e4, by rw [List.length_map]; omega, ?_, fun b o e n => ?_, ys ++ [z], ?_, ?_⟩
      · obtain ⟨x, y, c, q, r⟩ := p4
        exact ⟨x, y, c, by rw [upd_ne nLp.symm]; exact q, r⟩
      · rw [upd_ne (ne_of_none e hL)]
        exact b24 _ _ e n
      · rw [tk]
        exact sl.append (List.Sublist.refl _)
      · rw [upd_same, List.map_append]
        rfl
    · rintro H2 ⟨p2, b2, ys, sl, e2⟩
      rw [List.length_map, List.take_length] at sl
      refine ⟨L, _, rfl, .inl ⟨SqL.of e2, fun t ht => ?_⟩⟩
      have s3 := Same.new (o := .tup (ys.map V.str)) ht
      exact k t ys _ sl upd_same (p2.same s3) (b2.trans (But.of s3))
end
end V0
namespace V0
open PySem PySem.Spec PyProof.Rows L2
/-! ### the other names: q and a word's first seven signs -/
def qz (z : Str) : Str := ("q" : Str) ++ cutS z none (some 7)
theorem qz_ok : (wordsL.all fun z => nameB (.str (qz z)) && decide ((qz z).length ≤ 8) && !(wordsL.any fun y => decide (y = qz z))) = true := by decide +kernel
theorem qz_lt : (wordsL.all fun z => wordsL.all fun y => !decide (z.cps.toList < y.cps.toList) || decide ((qz z).cps.toList < (qz y).cps.toList)) = true := by decide +kernel
theorem qz_name {z : Str} (h : z ∈ wordsL) : nameB (.str (qz z)) = true ∧ (qz z).length ≤ 8 ∧ qz z ∉ wordsL := by
  have a := List.all_eq_true.mp qz_ok z h
  rw [Bool.and_eq_true, Bool.and_eq_true] at a
  refine ⟨a.1.1, of_decide_eq_true a.1.2, fun m => ?_⟩
  have b : (wordsL.any fun y => decide (y = qz z)) = true := List.any_eq_true.mpr ⟨_, m, decide_eq_true rfl⟩
  rw [b] at a
  exact absurd a.2 (by decide)
theorem qz_mono {z y : Str} (hz : z ∈ wordsL) (hy : y ∈ wordsL) (h : z.cps.toList < y.cps.toList) : (qz z).cps.toList < (qz y).cps.toList := by
  have a := List.all_eq_true.mp (List.all_eq_true.mp qz_lt z hz) y hy
  rw [decide_eq_true h] at a
  exact of_decide_eq_true a
theorem Ws.others {zs : List Str} (h : Ws zs) (h1 : 1 ≤ zs.length) (h7 : zs.length ≤ 7) : Zs ((zs.map qz).take (8 - zs.length)) ∧ (∀ z ∈ (zs.map qz).take (8 - zs.length), z ∉ zs) ∧ zs.length + ((zs.map qz).take (8 - zs.length)).length ≤ 8 := by
  have l : ((zs.map qz).take (8 - zs.length)).length = min (8 - zs.length) zs.length := by rw [List.length_take, List.length_map]
  have mem : ∀ z ∈ (zs.map qz).take (8 - zs.length), ∃ y, y ∈ wordsL ∧ z = qz y := fun z hz => by
    obtain ⟨y, hy, e⟩ := List.mem_map.mp (List.mem_of_mem_take hz)
    exact ⟨y, h.sub y hy, e.symm⟩
  refine ⟨⟨?_, fun z hz => ?_, by omega, by omega⟩, fun z hz m => ?_, by omega⟩
  · have a : (zs.map qz).Pairwise (fun a b => a.cps.toList < b.cps.toList) := List.pairwise_map.mpr (h.asc.imp_of_mem fun ha hb => qz_mono (h.sub _ ha) (h.sub _ hb))
    exact a.sublist (List.take_sublist _ _)
  · obtain ⟨y, hy, rfl⟩ := mem z hz
    have := qz_name hy
    exact ⟨this.1, this.2.1⟩
  · obtain ⟨y, hy, rfl⟩ := mem z hz
    exact (qz_name hy).2.2 (h.sub _ m)
end V0

namespace V0
open PySem PySem.Spec PyProof.Rows L2
theorem qz_cut : (wordsL.all fun z => decide (z.length ≤ 1000) && decide ((cutS z none (some 7)).length ≤ 1000)) = true := by decide +kernel
theorem cutV_to (xs : List V) (k : Nat) : cutV xs none (some (k : Int)) = xs.take k := by
  unfold cutV
  rw [HT.sIx_nat]
  show (xs.drop 0).take (min k xs.length - 0) = _
  rw [List.drop_zero, Nat.sub_zero]
  rcases Nat.le_total k xs.length with h | h
  · rw [Nat.min_eq_left h]
  · rw [Nat.min_eq_right h, List.take_length, List.take_of_length_le h]
theorem paired_mem {α β : Type} {R S : α → β → Prop} : ∀ {xs : List α} {ys : List β}, Paired R xs ys → (∀ x ∈ xs, ∀ y, R x y → S x y) → Paired S xs ys
  | _, _, .nil, _ => .nil
  | _, _, .cons a b, h => .cons (h _ (by simp) _ a) (paired_mem b fun x hx => h x (by simp [hx]))
theorem paired_app {α β : Type} {R : α → β → Prop} {x2 : List α} {y2 : List β} (h2 : Paired R x2 y2) : ∀ {xs : List α} {ys : List β}, Paired R xs ys → Paired R (xs ++ x2) (ys ++ y2)
  | _, _, .nil => h2
  | _, _, .cons a b => .cons a (paired_app h2 b)
theorem lkv_app {zs ws : List Str} {as bs : List Addr} (h : zs.length = as.length) : lkv zs as ++ lkv ws bs = lkv (zs ++ ws) (as ++ bs) := by
  unfold lkv
  rw [List.zip_append h, List.map_append]
theorem cut_fn {C : Addr} {H' : Hp} {x : Addr} {ws zs ys : List Str} {F : Str → Int} {m : Int} (hws : Zs ws) (h0 : 0 < m) (hz : Zs zs) (sub : ∀ z ∈ zs, z ∈ ws) (sd : Sd (bagOf (look (nfB m (bagOf F ws))) zs) ys)
    (hc : ChAt C H' x (chB ys (bagOf (look (nfB m (bagOf F ws))) zs) (nfU m (bagOf F ws))) (nfU (nfU m (bagOf F ws)) (bagOf (look (nfB m (bagOf F ws))) zs))) : ChR C H' x zs F m := by
  obtain ⟨G, g0, eU, eF, n1, U0, U1⟩ := kept_fn (f := F) hws h0
  refine (over_fn hz U0 sd hc).cast U0 h0 fun z hzz => ?_
  have q1 := eF z (sub z hzz)
  generalize look (nfB m (bagOf F ws)) z = A at *
  generalize nfU m (bagOf F ws) = U at *
  rw [← q1, ← eU]
  grind
theorem nf_blen {f : Str → Int} {zs : List Str} {u : Int} : (nfB u (bagOf f zs)).length = zs.length := by
  rw [nf_len]
  unfold bagOf
  rw [List.length_map]
def spBesideR (C : Addr) : Sp := fun vs H Q _ => ∃ (p a x t : Addr) (ps : Bag) (u : Int), vs = [.ref p, .ref a, .ref x, .ref t] ∧ Pot H p ∧ SomeAt H a ps u ∧ ChR C H x (nms ps) (look ps) u ∧ Zs (nms ps) ∧ Ws (nms ps) ∧ 1 ≤ (nms ps).length ∧ (nms ps).length ≤ 7 ∧ H t = some (.tup ((nms ps).map V.str)) ∧ 0 < u ∧ u < 10 ^ 11 ∧ (∀ z ∈ nms ps, (look ps z).natAbs < 10 ^ 40) ∧
  ∀ H', Pot H' p → But p H H' → Q (.bl true) H'
section
variable {P : Program} {w : World} {K : PySem.W.Frag} {mg : Str → Option Value} {base : Heap} {C : Addr} {ad : Nat → Addr} {fdd : Nat → FuncData}
abbrev s_beside_right : Stmt := top 46
abbrev N_beside_right : List Str := ["_law_pot_here", "_law_one", "_law_first", "_law_things", "_law_thing", "_law_rest", "_law_third", "_law_joint_here"]
abbrev P_beside_right : List Str := ["_law_pot_here", "_law_one", "_law_first", "_law_things"]
theorem sc_beside_right : FnScope N_beside_right P_beside_right (defScope s_beside_right) := ⟨rfl, rfl, rfl, by decide +kernel, rfl, by decide +kernel, by decide +kernel⟩
theorem ok_beside_right {f f1 f2 f3 f4 f5 f6 f7 f8 f9 : Addr} {fd fd1 fd2 fd3 fd4 fd5 fd6 fd7 fd8 fd9 : FuncData} (O9 : Own9 P w K mg base C ad fdd) (Y_Charge_put_beside : Md K "Charge.put_beside" "put_beside" C s_Charge_put_beside P_Charge_put_beside f9 fd9) (G_Charge_put_beside : FnOk P w K mg base CX0 8 f9 fd9 P_Charge_put_beside (spBeside C))
    (D_low : Df K mg "_law_low" s_low P_low f1 fd1) (D_pays : Df K mg "_law_pays" s_pays P_pays f2 fd2) (D_alone : Df K mg "_law_alone" s_alone P_alone f3 fd3) (D_stir : Df K mg "_law_stir" s_stir P_stir f4 fd4) (D_one_of : Df K mg "_law_one_of" s_one_of P_one_of f5 fd5) (D_number : Df K mg "_law_number" s_number P_number f6 fd6) (D_sums : Df K mg "_law_sums" s_sums P_sums f7 fd7) (D_made_charge : Df K mg "_law_made_charge" s_made_charge P_made_charge f8 fd8)
    (D : Df K mg "_law_beside_right" s_beside_right P_beside_right f fd) : FnOk P w K mg base CX0 10 f fd P_beside_right (spBesideR C) := by
  obtain ⟨O, hsf, O_add, O_sub, Y_Charge_times, G_Charge_times, Y_Charge_mixed, G_Charge_mixed⟩ := id O9
  obtain ⟨B, M, KCharge, N, NX, Y_init, G_init, Y_Charge_things, G_Charge_things, Y_Charge_unit, G_Charge_unit, Y_Charge_pays, G_Charge_pays, Y_Charge_total, G_Charge_total, Y_Charge_of, G_Charge_of, Y_Charge_cut, G_Charge_cut, O_len, O_str, O_iter, O_item, O_cont, O_eq⟩ := id O
  have G_pays : FnOk P w K mg base CX0 7 f2 fd2 P_pays (spPaysL C) := ok_lpays O D_pays
  have G_alone : FnOk P w K mg base CX0 2 f3 fd3 P_alone spAlone := ok_alone B M D_low D_alone
  have G_sums : FnOk P w K mg base CX0 3 f7 fd7 P_sums spSums := ok_sums B D_stir D_one_of D_number D_sums
  have G_made_charge : FnOk P w K mg base CX0 6 f8 fd8 P_made_charge (spMade C) := ok_made O D_made_charge
  refine D.F.ok sc_beside_right (fun vs H Q E h => ?_) (fun cdv A outer s H vs Q E hr h => ?_)
  · obtain ⟨p, a, x, t, ps, u, rfl, _⟩ := h
    rfl
  · obtain ⟨p, a, x, t, ps, u, rfl, hp, ha, hx, zp, hw, l1, l7, ht, u0, ub, fb, k⟩ := h
    refine ⟨_, (pss_cons (ps_set (i := 5) sc_beside_right.nd rfl (Or.inl rfl) (pe_call G_sums (hr.mono (by decide)) (by rfl) D_sums.g D_sums.F.kp D_sums.b .nil pass0 (pa_cons (pv 0) (pa_cons (pe_callTy call_tuple_of (by rfl) B.b_tuple (by decide +kernel) (pa_cons (pe_slice sl_list (pe_lc (own := [("_law_thing", 4)]) (g := gName 4) (tt := tYes) rfl sc_beside_right.nd (pi_tup (pv 3)) (blkOk_by (own := [("_law_thing", 4)]) (N := N_beside_right) (sc := defScope s_beside_right) (by decide +kernel)) (fun _ _ _ _ _ => (pg_name (i := 4) sc_beside_right.nd rfl (Or.inl rfl))) (fun _ _ _ _ _ => pts_nil) (fun _ _ _ _ _ => (pe_op op_add_str pe_str (pe_slice sl_str (pv 4) po_none (po_some pe_int))))) po_none (po_some (pe_op op_sub pe_int (pe_callB call_len (by rfl) B.b_len (by decide +kernel) (pa_cons (pv 3) pa_nil))))) pa_nil)) pa_nil))))
      (pss_cons (ps_set (i := 6) sc_beside_right.nd rfl (Or.inl rfl) (pe_call G_made_charge (hr.mono (by decide)) (by rfl) D_made_charge.g D_made_charge.F.kp D_made_charge.b .nil pass0 (pa_cons (pv 5) pa_nil)))
      (pss_cons (ps_set (i := 7) sc_beside_right.nd rfl (Or.inl rfl) (pe_meth (pv 2) KCharge.cl Y_Charge_put_beside.m G_Charge_put_beside (hr.mono (by decide)) Y_Charge_put_beside.b .nil pass0 (pa_cons (pv 6) pa_nil)))
      (pss_cons (ps_if (pt_not (pt_val (pe_call G_pays (hr.mono (by decide)) (by rfl) D_pays.g D_pays.F.kp D_pays.b .nil pass0 (pa_cons (pv 7) (pa_cons (pe_callTy (call_dictP rfl) (by rfl) B.b_dict (by decide +kernel) (pa_cons (pe_op op_cat (LiI.pe_listItems rfl (pe_call G_alone (hr.mono (by decide)) (by rfl) D_alone.g D_alone.F.kp D_alone.b .nil pass0 (pa_cons (pv 1) pa_nil)) (by rfl) B.b_list (by rfl)) (LiI.pe_listItems rfl (pe_call G_alone (hr.mono (by decide)) (by rfl) D_alone.g D_alone.F.kp D_alone.b .nil pass0 (pa_cons (pv 5) pa_nil)) (by rfl) B.b_list (by rfl))) pa_nil)) pa_nil))))) (pss_one (ps_ret pe_bl)) pss_nil)
      (pss_cons (ps_if (PW.pt (pw_or (pt_cmpR (op_neO O_eq NX.ne NX.ob (hr.mono (by decide)) pass0) (pv 7) (pe_meth (pv 6) KCharge.cl Y_Charge_put_beside.m G_Charge_put_beside (hr.mono (by decide)) Y_Charge_put_beside.b .nil pass0 (pa_cons (pv 2) pa_nil)) (nomark _)) (pw_or1 (pt_cmpR op_ne (pe_callB (call_lenO O_len (hr.mono (by decide)) pass0) (by rfl) B.b_len (by decide +kernel) (pa_cons (pv 7) pa_nil)) (pe_op op_add (pe_callB (call_lenO O_len (hr.mono (by decide)) pass0) (by rfl) B.b_len (by decide +kernel) (pa_cons (pv 2) pa_nil)) (pe_callB (call_lenO O_len (hr.mono (by decide)) pass0) (by rfl) B.b_len (by decide +kernel) (pa_cons (pv 6) pa_nil))) (nomark _))))) (pss_one (ps_ret pe_bl)) pss_nil)
      (pss_one (ps_ret (pe_and (pe_cmpR (op_eqO O_eq (hr.mono (by decide)) pass0) (pe_meth (pv 7) KCharge.cl Y_Charge_cut.m G_Charge_cut (hr.mono (by decide)) Y_Charge_cut.b .nil pass0 (pa_cons (pe_prop (pv 2) KCharge.cl Y_Charge_things.pr G_Charge_things (hr.mono (by decide)) Y_Charge_things.b .nil pass0 rfl) pa_nil)) (pv 2) (nomark _)) (pe_one (pe_cmpR (op_eqO O_eq (hr.mono (by decide)) pass0) (pe_meth (pv 7) KCharge.cl Y_Charge_cut.m G_Charge_cut (hr.mono (by decide)) Y_Charge_cut.b .nil pass0 (pa_cons (pe_prop (pv 6) KCharge.cl Y_Charge_things.pr G_Charge_things (hr.mono (by decide)) Y_Charge_things.b .nil pass0 rfl) pa_nil)) (pv 6) (nomark _))))))))))), ?_⟩
    have ntp : t ≠ p := by
      obtain ⟨_, _, _, hp, _⟩ := hp
      exact ne_of ht hp fun z => nomatch z
    refine ⟨_, rfl, _, rfl, t, rfl, ⟨_, SqT.of ht⟩, fun L hL => ?_⟩
    refine lc_it (walk_tup (xs := (nms ps).map V.str)) (fun i H' => Same H H' ∧ H' L = some (.lst ((((nms ps).map qz).take i).map V.str))) ⟨Same.new hL, upd_same⟩ (fun i H' _ ⟨s, _⟩ => SqT.of (s _ _ ht)) ?_ ?_
    · rintro i y H2 H3 hi ⟨s2, e2⟩ ⟨rfl, hy⟩
      obtain ⟨z, hz, rfl⟩ := str_at hy
      have hm := List.mem_of_getElem? hz
      have c := List.all_eq_true.mp qz_cut z (hw.sub z hm)
      rw [Bool.and_eq_true] at c
      have c1 := of_decide_eq_true c.1
      have c2 := of_decide_eq_true c.2
      rw [List.length_map] at hi
      refine ⟨rfl, _, rfl, _, rfl, z, rfl, by rw [sizeLine_eq]; omega, _, _, rfl, rfl, ?_, _, e2, ?_, ?_, ?_⟩
      · rw [sizeLine_eq, show (Str.ofString "q").length = 1 from rfl]
        omega
      · rw [List.length_map, List.length_take, sizeLine_eq]
        omega
      · exact fun b' o e => by rw [upd_ne (ne_of_none e hL)]; exact s2 b' o e
      · rw [upd_same, List.take_add_one, List.getElem?_map, hz, List.map_append]
        rfl
    rintro H2 ⟨s2, e2⟩
    rw [List.length_map] at e2
    have el : ((nms ps).map qz).take (nms ps).length = (nms ps).map qz := List.take_of_length_le (by rw [List.length_map]; exact Nat.le_refl _)
    rw [el] at e2
    obtain ⟨zo, dj, l8⟩ := hw.others l1 l7
    refine ⟨_, rfl, _, (nms ps).length, rfl, .inr ⟨_, SqT.of (s2 _ _ ht), by rw [List.length_map]⟩, _, _, rfl, rfl, _, rfl, L, _, rfl, SqL.of e2, fun L2 hL2 => ⟨L2, _, rfl, .inl ⟨SqL.of upd_same, fun T hT => ?_⟩⟩⟩
    rw [show (8 : Int) - ((nms ps).length : Nat) = ((8 - (nms ps).length : Nat) : Int) by omega, cutV_to, ← List.map_take] at hT ⊢
    generalize hzs : ((nms ps).map qz).take (8 - (nms ps).length) = zs at *
    have s3 := Same.trans (Same.trans s2 (Same.new (o := .lst (zs.map V.str)) hL2)) (Same.new (o := .tup (zs.map V.str)) hT)
    have e3 : (upd (upd H2 L2 (.lst (zs.map V.str))) T (.tup (zs.map V.str))) T = some (.tup (zs.map V.str)) := upd_same
    generalize upd (upd H2 L2 (.lst (zs.map V.str))) T (.tup (zs.map V.str)) = H3 at s3 e3
    refine ⟨p, T, zs, rfl, hp.same s3, e3, zo.nd, zo.l8, fun r qs v H4 eq bq v0 vb sr p4 b4 => ⟨_, rfl, ?_⟩⟩
    subst eq
    have bH := (But.of s3 (p := p)).trans b4
    have ha4 := ha.but bH hp
    have hx4 : ChR C H4 x (nms ps) (look ps) u := ChAt.but hx bH hp
    have lq : ∀ z ∈ nms qs, (look qs z).natAbs < 10 ^ 30 := fun z hz => by
      obtain ⟨q, hq, rfl⟩ := List.mem_map.mp hz
      rw [look_of zo.nd (show (q.1, q.2) ∈ qs from hq)]
      exact bq q hq
    have lqs : qs.length = (nms qs).length := (nms_len qs).symm
    have q1 := zo.l1
    have q8 := zo.l8
    refine ⟨r, qs, v, rfl, sr, ⟨zo.nd, zo.nm, fun q hq => Nat.lt_trans (bq q hq) (by decide +kernel), by omega, by omega⟩, zo.asc, v0, by omega, fun y H5 s5 hy => ⟨_, rfl, ?_⟩⟩
    have hy : ChR C H5 y (nms qs) (look qs) v := by
      unfold ChR bagOf
      rw [look_self zo.nd]
      exact hy
    generalize hF : (fun z => if z ∈ nms ps then look ps z * v else look qs z * u) = F
    have uv0 : 0 < u * v := Int.mul_pos u0 v0
    obtain ⟨dx, tx, ddx, Ux, x1⟩ := hx4.ins
    obtain ⟨dy, ty, ddy, Uy, y1⟩ := hy.ins
    have u9 : u.natAbs < 2 ^ 900 := by
      have := pw900.2.2.1
      have := pw900.1
      omega
    have v9 : v.natAbs < 2 ^ 900 := by
      have := pw900.2.2.1
      have := pw900.1
      omega
    have b40 : (10 : Nat) ^ 40 < 2 ^ 2000 := by decide +kernel
    have b30 : (10 : Nat) ^ 30 < 2 ^ 2000 := by decide +kernel
    have uv9 : (u * v).natAbs < 2 ^ 3000 := Nat.lt_trans (abs_mul_lt u9 v9) (by decide +kernel)
    have x5 := s5 _ _ x1
    have hx5 := hx4.same s5
    refine ⟨x, dx, _, rfl, x5, rfl, _, rfl, x, y, nms ps, nms qs, look ps, look qs, u, v, rfl, hx5, hy, zp, zo, dj, l8, u0, v0, u9, v9, fun z hz => Nat.lt_trans (fb z hz) b40, fun z hz => Nat.lt_trans (lq z hz) b30, fun j ws H6 s6 hws pm hj => ?_⟩
    rw [hF] at hj
    have ndz : (nms ps ++ nms qs).Nodup := pm.nodup hws.nd
    have Fl : ∀ z ∈ nms ps, F z = look ps z * v := fun z hz => by rw [← hF]; exact if_pos hz
    have Fr : ∀ z ∈ nms qs, F z = look qs z * u := fun z hz => by rw [← hF]; exact if_neg (dj z hz)
    have s46 := Same.trans s5 s6
    have ha6 := ha4.same s46
    have sr6 := sr.same s46
    refine ⟨_, rfl, _, rfl, a, ps, u, rfl, ha6, zp, u0, Nat.lt_trans u9 (by decide +kernel), fun d1 as1 H7 s7 h7 pr1 => ⟨d1, _, rfl, h7, fun H8 li1 ts1 s8 nl1 nts1 nm1 e8 pt1 => ?_⟩⟩
    have s68 := Same.trans s7 s8
    refine ⟨_, rfl, r, qs, v, rfl, sr6.same s68, zo, v0, Nat.lt_trans v9 (by decide +kernel), fun d2 as2 H9 s9 h9 pr2 => ⟨d2, _, rfl, h9, fun H10 li2 ts2 s10 nl2 nts2 nm2 e10 pt2 => ?_⟩⟩
    have s810 := Same.trans s9 s10
    have a1 : (nms ps).length = as1.length := pr1.length
    have a2 : (nms qs).length = as2.length := pr2.length
    have t1 : ts1.length = (nms ps).length := (pt1.length).trans (lkv_len a1)
    have t2 : ts2.length = (nms qs).length := (pt2.length).trans (lkv_len a2)
    refine ⟨li1, li2, _, _, rfl, rfl, s810 _ _ e8, e10, by rw [List.length_map, List.length_map, sizeLine_eq]; omega, fun pc hpc => ?_⟩
    rw [← List.map_append]
    have s11 := Same.new (o := .lst ((ts1 ++ ts2).map V.ref)) hpc
    have e11 : (upd H10 pc (.lst ((ts1 ++ ts2).map V.ref))) pc = some (.lst ((ts1 ++ ts2).map V.ref)) := upd_same
    generalize upd H10 pc (.lst ((ts1 ++ ts2).map V.ref)) = H11 at s11 e11
    have sa := Same.trans s810 s11
    refine ⟨pc, ts1 ++ ts2, lkv (nms ps ++ nms qs) (as1 ++ as2), rfl, SqL.of e11, ?_, fun pd hpd => ?_⟩
    · rw [← lkv_app a1]
      exact paired_app (paired_mono (fun _ _ e => SqT.of (s11 _ _ e)) pt2) (paired_mono (fun _ _ e => SqT.of (sa _ _ e)) pt1)
    have lal : (nms ps ++ nms qs).length = (as1 ++ as2).length := by rw [List.length_append, List.length_append, a1, a2]
    rw [mergeK_nil (lkv_nd lal ndz)]
    have s12 := Same.new (o := .dK (lkv (nms ps ++ nms qs) (as1 ++ as2))) hpd
    have e12 : (upd H11 pd (.dK (lkv (nms ps ++ nms qs) (as1 ++ as2)))) pd = some (.dK (lkv (nms ps ++ nms qs) (as1 ++ as2))) := upd_same
    generalize upd H11 pd (.dK (lkv (nms ps ++ nms qs) (as1 ++ as2))) = H12 at s12 e12
    have sb := Same.trans (Same.trans s68 sa) s12
    have hj12 := hj.same sb
    refine ⟨j, pd, ws, nms ps ++ nms qs, as1 ++ as2, F, u * v, bagOf F (nms ps ++ nms qs), u * v, rfl, hj12, hws, uv0, uv0, uv9, e12, ?_, pm.symm, fun z hz => by rw [look_bag ndz (pm.subset hz)], fun H13 s13 => ⟨_, rfl, ite2 (fun z => by cases z) (fun _ => ?_)⟩⟩
    · refine paired_app (paired_mem pr2 fun z hz q e => ?_) (paired_mem pr1 fun z hz q e => ?_)
      · obtain ⟨c1, c2⟩ := low_cross (i := look qs z) (j := F z) v0 uv0 (by rw [Fr z hz]; grind)
        have e' := s12 _ _ (s11 _ _ (s10 _ _ e))
        rw [c1, c2] at e'
        unfold LowAt
        rw [look_bag ndz (List.mem_append_right _ hz)]
        exact e'
      · obtain ⟨c1, c2⟩ := low_cross (i := look ps z) (j := F z) u0 uv0 (by rw [Fl z hz]; grind)
        have e' := s12 _ _ (sa _ _ (s8 _ _ e))
        rw [c1, c2] at e'
        unfold LowAt
        rw [look_bag ndz (List.mem_append_left _ hz)]
        exact e'
    have sc := Same.trans sb s13
    have hj13 := hj.same sc
    have hx13 := hx5.same (Same.trans s6 sc)
    have hy13 := hy.same (Same.trans s6 sc)
    clear e12 e11 e10 e8 hpd hpc pt1 pt2 pr1 pr2 h7 h9
    have y13 := (Same.trans s6 sc) _ _ y1
    have x13 := (Same.trans s6 sc) _ _ x5
    refine ⟨_, rfl, _, rfl, y, dy, _, rfl, y13, rfl, _, rfl, y, x, nms qs, nms ps, look qs, look ps, v, u, rfl, hy13, hx13, zo, zp, fun z hz hq => dj z hq hz, by omega, v0, u0, v9, u9, fun z hz => Nat.lt_trans (lq z hz) b30, fun z hz => Nat.lt_trans (fb z hz) b40, fun j2 ws2 H14 s14 hws2 pm2 hj2 => ?_⟩
    have ew : ws2 = ws := sorted_one (pm2.trans (List.perm_append_comm.trans pm.symm)) (sorted_asc _ hws2.asc) (sorted_asc _ hws.asc)
    rw [ew] at hj2
    have hj14 := hj13.same s14
    obtain ⟨dj1, tj1, ddj1, Uj1, i1⟩ := hj14.ins
    obtain ⟨dj2, tj2, ddj2, Uj2, i2⟩ := hj2.ins
    refine ⟨j, dj1, _, .ref C, rfl, i1, KCharge.ins i2, nf_self, j, _, _, .ref j2, true, rfl, hj14, ChR.eqd hws uv0 (Int.mul_pos v0 u0) hj2 (fun z hz => ?_), _, rfl, _, rfl, ite2 (fun z => by cases z) (fun _ => ?_)⟩
    · rcases List.mem_append.mp (pm.subset hz) with q | q
      · rw [Fl z q, if_neg (fun m => dj z m q)]
        grind
      · rw [Fr z q, if_pos q]
        grind
    have hx14 := hx13.same s14
    have hy14 := hy13.same s14
    have wl := pm.length_eq
    rw [List.length_append] at wl
    have y14 := s14 _ _ y13
    have x14 := s14 _ _ x13
    refine ⟨_, rfl, j, dj1, _, rfl, i1, j, _, _, rfl, hj14, by rw [nf_blen]; omega, _, rfl, by omega, by rw [nf_blen]; omega, _, rfl, x, dx, _, rfl, x14, x, _, _, rfl, hx14, by rw [nf_blen]; omega, _, rfl, by omega, by rw [nf_blen]; omega, _, rfl, y, dy, _, rfl, y14, y, _, _, rfl, hy14, by rw [nf_blen]; omega, _, rfl, by omega, by rw [nf_blen]; omega, _, _, rfl, rfl, rfl, _, rfl, ite2 (fun z => ?_) (fun _ => ?_)⟩
    · rw [nf_blen, nf_blen, nf_blen, wl] at z
      rw [Int.natCast_add, decide_eq_true rfl] at z
      cases z
    obtain ⟨Gj, gj0, eUj, eFj, nj, Uj0, Uj1'⟩ := kept_fn (f := F) hws uv0
    have ujb : (nfU (u * v) (bagOf F ws)).natAbs < 2 ^ 3000 := by omega
    obtain ⟨dxx, txx, ddxx, c1, c2, c3⟩ := id hx14
    rw [hx14.names] at c2
    have zn : nms ps ≠ [] := fun e => by rw [e] at l1; exact absurd l1 (by decide)
    have wn : nms qs ≠ [] := fun e => by rw [e] at q1; exact absurd q1 (by decide)
    have m1 : ∀ z ∈ nms ps, z ∈ ws := fun z hz => pm.symm.subset (List.mem_append_left _ hz)
    have m2 : ∀ z ∈ nms qs, z ∈ ws := fun z hz => pm.symm.subset (List.mem_append_right _ hz)
    refine ⟨_, rfl, j, dj1, _, rfl, i1, rfl, _, rfl, x, dxx, _, rfl, c1, x, dxx, txx, ddxx, _, rfl, c1, j, txx, _, _, nms ps, rfl, hj14, Uj0, ujb, c2, ⟨by rw [nj]; exact m1, zp.asc, by omega⟩, zn, by omega, zp.nm, fun k1 ys1 H15 sd1 s15 hn1 hc1 => ?_⟩
    have r1 := cut_fn hws uv0 zp m1 sd1 hc1
    obtain ⟨dk1, tk1, ddk1, Uk1, ik1⟩ := r1.ins
    have hy15 := hy14.same s15
    have hj15 := hj14.same s15
    refine ⟨_, rfl, k1, dk1, _, .ref C, rfl, ik1, KCharge.ins (s15 _ _ x14), nf_self, k1, _, _, .ref x, true, rfl, r1, ChR.eqd zp uv0 u0 (hx14.same s15) (fun z hz => by rw [Fl z hz]; grind), _, rfl, _, rfl, iteT ?_⟩
    obtain ⟨dyy, tyy, ddyy, b1, b2, b3⟩ := id hy15
    rw [hy15.names] at b2
    refine ⟨_, rfl, j, dj1, _, rfl, s15 _ _ i1, rfl, _, rfl, y, dyy, _, rfl, b1, y, dyy, tyy, ddyy, _, rfl, b1, j, tyy, _, _, nms qs, rfl, hj15, Uj0, ujb, b2, ⟨by rw [nj]; exact m2, zo.asc, by omega⟩, wn, by omega, zo.nm, fun k2 ys2 H16 sd2 s16 hn2 hc2 => ?_⟩
    have r2 := cut_fn hws uv0 zo m2 sd2 hc2
    obtain ⟨dk2, tk2, ddk2, Uk2, ik2⟩ := r2.ins
    refine ⟨_, rfl, k2, dk2, _, .ref C, rfl, ik2, KCharge.ins (s16 _ _ b1), nf_self, k2, _, _, .ref y, true, rfl, r2, ChR.eqd zo uv0 v0 (hy15.same s16) (fun z hz => by rw [Fr z hz]; grind), _, rfl, ?_⟩
    have sEnd := Same.trans s46 (Same.trans sc (Same.trans s14 (Same.trans s15 s16)))
    exact k _ (p4.same sEnd) (bH.trans (But.of sEnd))
end
end V0

namespace V0
open PySem PySem.Spec PyProof.Rows L2
def spRight9 : Sp := fun vs H Q _ => ∃ p : Addr, vs = [.ref p] ∧ Pot H p ∧ ∀ H', Pot H' p → But p H H' → Q (.bl true) H'
theorem words_nm : (wordsL.all fun z => nameB (.str z) && decide (z.length ≤ 8)) = true := by decide +kernel
theorem Ws.zs {zs : List Str} (h : Ws zs) (l1 : 1 ≤ zs.length) (l8 : zs.length ≤ 8) : Zs zs := by
  refine ⟨h.asc, fun z hz => ?_, l1, l8⟩
  have a := List.all_eq_true.mp words_nm z (h.sub z hz)
  rw [Bool.and_eq_true] at a
  exact ⟨a.1, of_decide_eq_true a.2⟩
section
variable {P : Program} {w : World} {K : PySem.W.Frag} {mg : Str → Option Value} {base : Heap} {C : Addr} {ad : Nat → Addr} {fdd : Nat → FuncData}
abbrev s_right : Stmt := top 47
abbrev N_right : List Str := ["_law_pot_here", "_law_things", "_law_one", "_law_other", "_law_first", "_law_second", "_law_crowd"]
abbrev P_right : List Str := ["_law_pot_here"]
theorem sc_right : FnScope N_right P_right (defScope s_right) := ⟨rfl, rfl, rfl, by decide +kernel, rfl, by decide +kernel, by decide +kernel⟩
theorem ok_right {f f1 f2 f3 f4 f5 f6 f7 f8 f9 fa fb fc fd0 fe ff fg0 : Addr} {fd fd1 fd2 fd3 fd4 fd5 fd6 fd7 fd8 fd9 fda fdb fdc fdd0 fde fdf fdg : FuncData} (O9 : Own9 P w K mg base C ad fdd) (Y_Charge_put_beside : Md K "Charge.put_beside" "put_beside" C s_Charge_put_beside P_Charge_put_beside f9 fd9) (G_Charge_put_beside : FnOk P w K mg base CX0 8 f9 fd9 P_Charge_put_beside (spBeside C))
    (D_low : Df K mg "_law_low" s_low P_low f1 fd1) (D_pays : Df K mg "_law_pays" s_pays P_pays f2 fd2) (D_alone : Df K mg "_law_alone" s_alone P_alone f3 fd3) (D_stir : Df K mg "_law_stir" s_stir P_stir f4 fd4) (D_one_of : Df K mg "_law_one_of" s_one_of P_one_of f5 fd5) (D_number : Df K mg "_law_number" s_number P_number f6 fd6) (D_sums : Df K mg "_law_sums" s_sums P_sums f7 fd7) (D_made_charge : Df K mg "_law_made_charge" s_made_charge P_made_charge f8 fd8)
    (D_joint : Df K mg "_law_joint" s_joint P_joint fa fda) (D_shuffled : Df K mg "_law_shuffled" s_shuffled P_shuffled fb fdb) (D_words : Df K mg "_law_words" s_words P_words fc fdc) (D_some_of : Df K mg "_law_some_of" s_some_of P_some_of fd0 fdd0) (D_sums_right : Df K mg "_law_sums_right" s_sums_right P_sums_right fe fde) (D_multiples_right : Df K mg "_law_multiples_right" s_multiples_right P_multiples_right ff fdf) (D_beside_right : Df K mg "_law_beside_right" s_beside_right P_beside_right fg0 fdg)
    (D : Df K mg "_law_right" s_right P_right f fd) : FnOk P w K mg base CX0 11 f fd P_right spRight9 := by
  obtain ⟨O, hsf, O_add, O_sub, Y_Charge_times, G_Charge_times, Y_Charge_mixed, G_Charge_mixed⟩ := id O9
  obtain ⟨B, M, KCharge, N, NX, Y_init, G_init, Y_Charge_things, G_Charge_things, Y_Charge_unit, G_Charge_unit, Y_Charge_pays, G_Charge_pays, Y_Charge_total, G_Charge_total, Y_Charge_of, G_Charge_of, Y_Charge_cut, G_Charge_cut, O_len, O_str, O_iter, O_item, O_cont, O_eq⟩ := id O
  have G_pays : FnOk P w K mg base CX0 7 f2 fd2 P_pays (spPaysL C) := ok_lpays O D_pays
  have G_alone : FnOk P w K mg base CX0 2 f3 fd3 P_alone spAlone := ok_alone B M D_low D_alone
  have G_stir : FnOk P w K mg base CX0 1 f4 fd4 P_stir spStir := ok_stir B D_stir
  have G_sums : FnOk P w K mg base CX0 3 f7 fd7 P_sums spSums := ok_sums B D_stir D_one_of D_number D_sums
  have G_made_charge : FnOk P w K mg base CX0 6 f8 fd8 P_made_charge (spMade C) := ok_made O D_made_charge
  have G_words : FnOk P w K mg base CX0 3 fc fdc P_words spWords := ok_words B M D_stir D_shuffled D_words
  have G_some_of : FnOk P w K mg base CX0 2 fd0 fdd0 P_some_of spSomeOf := ok_some_of B D_stir D_some_of
  have G_sums_right := ok_sums_right O9 D_low D_pays D_joint D_sums_right
  have G_multiples_right := ok_mult_right O9 D_low D_pays D_joint D_stir D_number D_multiples_right
  have G_beside_right : FnOk P w K mg base CX0 10 fg0 fdg P_beside_right (spBesideR C) := ok_beside_right O9 Y_Charge_put_beside G_Charge_put_beside D_low D_pays D_alone D_stir D_one_of D_number D_sums D_made_charge D_beside_right
  refine D.F.ok sc_right (fun vs H Q E h => ?_) (fun cdv A outer s H vs Q E hr h => ?_)
  · obtain ⟨p, rfl, _⟩ := h
    rfl
  · obtain ⟨p, rfl, hp, k⟩ := h
    refine ⟨_, (pss_cons (ps_set (i := 1) sc_right.nd rfl (Or.inl rfl) (pe_call G_words (hr.mono (by decide)) (by rfl) D_words.g D_words.F.kp D_words.b .nil pass0 (pa_cons (pv 0) (pa_cons (pe_op op_add pe_int (pe_call G_stir (hr.mono (by decide)) (by rfl) D_stir.g D_stir.F.kp D_stir.b .nil pass0 (pa_cons (pv 0) (pa_cons pe_int pa_nil)))) pa_nil))))
      (pss_cons (ps_par (i := 2) (j := 3) (by rfl) sc_right.nd rfl rfl (by decide) rfl rfl (pa_cons (pe_call G_sums (hr.mono (by decide)) (by rfl) D_sums.g D_sums.F.kp D_sums.b .nil pass0 (pa_cons (pv 0) (pa_cons (pv 1) pa_nil))) (pa_cons (pe_call G_sums (hr.mono (by decide)) (by rfl) D_sums.g D_sums.F.kp D_sums.b .nil pass0 (pa_cons (pv 0) (pa_cons (pv 1) pa_nil))) pa_nil)) (by rfl))
      (pss_cons (ps_par (i := 4) (j := 5) (by rfl) sc_right.nd rfl rfl (by decide) rfl rfl (pa_cons (pe_call G_made_charge (hr.mono (by decide)) (by rfl) D_made_charge.g D_made_charge.F.kp D_made_charge.b .nil pass0 (pa_cons (pv 2) pa_nil)) (pa_cons (pe_call G_made_charge (hr.mono (by decide)) (by rfl) D_made_charge.g D_made_charge.F.kp D_made_charge.b .nil pass0 (pa_cons (pv 3) pa_nil)) pa_nil)) (by rfl))
      (pss_cons (ps_if (PW.pt (pw_or (pt_not (pt_val (pe_call G_sums_right (hr.mono (by decide)) (by rfl) D_sums_right.g D_sums_right.F.kp D_sums_right.b .nil pass0 (pa_cons (pv 2) (pa_cons (pv 3) (pa_cons (pv 4) (pa_cons (pv 5) pa_nil))))))) (pw_or1 (pt_not (pt_val (pe_call G_multiples_right (hr.mono (by decide)) (by rfl) D_multiples_right.g D_multiples_right.F.kp D_multiples_right.b .nil pass0 (pa_cons (pv 0) (pa_cons (pv 2) (pa_cons (pv 3) (pa_cons (pv 4) (pa_cons (pv 5) pa_nil))))))))))) (pss_one (ps_ret pe_bl)) pss_nil)
      (pss_cons (ps_set (i := 6) sc_right.nd rfl (Or.inl rfl) (pe_call G_some_of (hr.mono (by decide)) (by rfl) D_some_of.g D_some_of.F.kp D_some_of.b .nil pass0 (pa_cons (pv 0) (pa_cons (pv 1) pa_nil))))
      (pss_cons (ps_if (PW.pt (pw_and (pt_cmpR (op_neD hr.units) (pv 6) (pe_tup pa_nil) (nomark _)) (pw_and1 (pt_cmpR (op_neO O_eq NX.ne NX.ob (hr.mono (by decide)) pass0) (pe_meth (pe_op (op_binO (op := .Add) O_add hsf (hr.mono (by decide)) pass0) (pv 4) (pv 5)) KCharge.cl Y_Charge_cut.m G_Charge_cut (hr.mono (by decide)) Y_Charge_cut.b .nil pass0 (pa_cons (pv 6) pa_nil)) (pe_op (op_binO (op := .Add) O_add hsf (hr.mono (by decide)) pass0) (pe_meth (pv 4) KCharge.cl Y_Charge_cut.m G_Charge_cut (hr.mono (by decide)) Y_Charge_cut.b .nil pass0 (pa_cons (pv 6) pa_nil)) (pe_meth (pv 5) KCharge.cl Y_Charge_cut.m G_Charge_cut (hr.mono (by decide)) Y_Charge_cut.b .nil pass0 (pa_cons (pv 6) pa_nil))) (nomark _))))) (pss_one (ps_ret pe_bl)) pss_nil)
      (pss_cons (ps_if (pt_not (pt_val (pe_call G_beside_right (hr.mono (by decide)) (by rfl) D_beside_right.g D_beside_right.F.kp D_beside_right.b .nil pass0 (pa_cons (pv 0) (pa_cons (pv 2) (pa_cons (pv 4) (pa_cons (pv 1) pa_nil))))))) (pss_one (ps_ret pe_bl)) pss_nil)
      (pss_one (ps_ret (pe_and (pe_call G_pays (hr.mono (by decide)) (by rfl) D_pays.g D_pays.F.kp D_pays.b .nil pass0 (pa_cons (pv 4) (pa_cons (pe_call G_alone (hr.mono (by decide)) (by rfl) D_alone.g D_alone.F.kp D_alone.b .nil pass0 (pa_cons (pv 2) pa_nil)) pa_nil))) (pe_one (pe_call G_pays (hr.mono (by decide)) (by rfl) D_pays.g D_pays.F.kp D_pays.b .nil pass0 (pa_cons (pv 5) (pa_cons (pe_call G_alone (hr.mono (by decide)) (by rfl) D_alone.g D_alone.F.kp D_alone.b .nil pass0 (pa_cons (pv 3) pa_nil)) pa_nil)))))))))))))), ?_⟩
    refine ⟨_, rfl, _, rfl, p, 7, rfl, hp, by omega, by omega, fun r H1 r0 r1 p1 b1 => ⟨_, _, rfl, rfl, ?_⟩⟩
    refine ⟨p, (1 + r).toNat, by dsimp only; rw [Int.toNat_of_nonneg (by omega)]; rfl, p1, by omega, by omega, fun t zs H2 ws lz ht nt p2 b2 => ?_⟩
    have ntp : t ≠ p := by
      obtain ⟨_, _, _, hp, _⟩ := p2
      exact ne_of ht hp fun z => nomatch z
    refine ⟨_, rfl, _, rfl, p, t, zs, rfl, p2, ht, ws.nodup, by omega, fun a ps u H3 en eb u0 ub ha p3 b3 => ?_⟩
    subst en
    refine ⟨_, rfl, _, rfl, p, t, nms ps, rfl, p3, b3 _ _ ht ntp, ws.nodup, by omega, fun b qs v H4 en qb v0 vb hb p4 b4 => ?_⟩
    have hz : Zs (nms ps) := ws.zs (by omega) (by omega)
    have lk : ∀ {rs : Bag}, (nms rs).Nodup → (∀ q ∈ rs, q.2.natAbs < 10 ^ 30) → ∀ z ∈ nms rs, (look rs z).natAbs < 10 ^ 40 := fun nd hb z hz => by
      obtain ⟨q, hq, rfl⟩ := List.mem_map.mp hz
      rw [look_of nd (show (q.1, q.2) ∈ _ from hq)]
      exact Nat.lt_trans (hb q hq) (by decide +kernel)
    have ndq : (nms qs).Nodup := by rw [en]; exact hz.nd
    have hzq : Zs (nms qs) := by rw [en]; exact hz
    have lps : ps.length = (nms ps).length := (nms_len ps).symm
    have lqs : qs.length = (nms qs).length := (nms_len qs).symm
    have z1 := hz.l1
    have z8 := hz.l8
    have y1 := hzq.l1
    have y8 := hzq.l8
    have e30 : (10 : Nat) ^ 30 < 10 ^ 60 := by decide +kernel
    have b14 := ((b1.trans b2).trans b3).trans b4
    have ha4 := ha.but b4 p3
    have ht4 := b4 _ _ (b3 _ _ ht ntp) ntp
    refine ⟨_, _, rfl, ?_⟩
    refine ⟨_, rfl, a, ps, u, rfl, ha4, ⟨hz.nd, hz.nm, fun q hq => Nat.lt_trans (eb q hq) e30, by omega, by omega⟩, hz.asc, u0, by omega, fun x H5 s5 hx => ?_⟩
    refine ⟨_, rfl, b, qs, v, rfl, hb.same s5, ⟨hzq.nd, hzq.nm, fun q hq => Nat.lt_trans (qb q hq) e30, by omega, by omega⟩, hzq.asc, v0, by omega, fun y H6 s6 hy => ⟨_, _, rfl, ?_⟩⟩
    have hx : ChR C H5 x (nms ps) (look ps) u := by
      unfold ChR bagOf
      rw [look_self hz.nd]
      exact hx
    have hy : ChR C H6 y (nms ps) (look qs) v := by
      unfold ChR bagOf
      rw [← en, look_self ndq]
      exact hy
    have s46 := Same.trans s5 s6
    have T : Pair9 C H6 a b x y ps qs u v := ⟨ha4.same s46, hb.same s46, en, hz, hx.same s6, hy, u0, v0, by omega, by omega, fun z h => ⟨lk hz.nd eb z h, lk ndq qb z (by rw [en]; exact h)⟩⟩
    have p6 := p4.same s46
    have b6 := b14.trans (But.of s46)
    have ht6 := s46 _ _ ht4
    clear ha4 hb hx hy b4 b3 b2 b1 p1 p2 p3 p4 ha ht ht4 s46 s5 s6
    refine ⟨_, rfl, _, rfl, _, rfl, _, rfl, a, b, x, y, ps, qs, u, v, rfl, T, fun H7 s7 => ⟨_, rfl, ite2 (fun z => by cases z) (fun _ => ?_)⟩⟩
    refine ⟨_, rfl, _, rfl, _, rfl, _, rfl, _, rfl, p, a, b, x, y, ps, qs, u, v, rfl, p6.same s7, T.same s7, fun H8 p8 b8 => ⟨_, rfl, ite2 (fun z => by cases z) (fun _ => ?_)⟩⟩
    have T8 := (T.same s7).but b8 (p6.same s7)
    have ht8 := b8 _ _ (s7 _ _ ht6) ntp
    have b68 := b6.trans ((But.of s7).trans b8)
    refine ⟨_, rfl, _, rfl, p, t, nms ps, rfl, p8, ht8, by omega, fun c ys H9 sl ec p9 b9 => ⟨_, rfl, ?_⟩⟩
    have T9 := T8.but b9 p8
    have ht9 := b9 _ _ ht8 ntp
    have bb := b68.trans b9
    clear T T8 ht6 ht8 b6 b8 b9 p6 p8 s7
    have u3 : u.natAbs < 2 ^ 3000 := by
      have := pw900.2.2.1
      have := pw900.1
      have : (2 : Nat) ^ 900 < 2 ^ 3000 := by decide +kernel
      omega
    have v3 : v.natAbs < 2 ^ 3000 := by
      have := pw900.2.2.1
      have := pw900.1
      have : (2 : Nat) ^ 900 < 2 ^ 3000 := by decide +kernel
      omega
    have rest : ∀ H', Pair9 C H' a b x y ps qs u v → Pot H' p → H' t = some (.tup ((nms ps).map V.str)) → But p H H' → (tSeq (tIfS (tNot (tB (tCall (spBesideR C) [] E0 (tCons (tVar 0) (tCons (tVar 2) (tCons (tVar 4) (tCons (tVar 1) tNil))))))) (tRet (tC (V.bl false))) tNext) (tRet (tAndV (tCall (spPaysL C) [] E0 (tCons (tVar 4) (tCons (tCall spAlone [] E0 (tCons (tVar 2) tNil)) tNil))) (tCall (spPaysL C) [] E0 (tCons (tVar 5) (tCons (tCall spAlone [] E0 (tCons (tVar 3) tNil)) tNil)))))) { nx := fun x H' => Q V.non H', rt := Q } ((((((List.set (L2.start N_right [V.ref p]) 1 (some (V.ref t))).set 2 (some (V.ref a))).set 3 (some (V.ref b))).set 4 (some (V.ref x))).set 5 (some (V.ref y))).set 6 (some (V.ref c))) H' := fun H10 T p10 ht b10 => by
      refine ⟨_, rfl, _, rfl, _, rfl, _, rfl, p, a, x, t, ps, u, rfl, p10, T.a, T.x, T.z, ws, z1, by omega, ht, u0, by omega, fun z hz => (T.lb z hz).1, fun H11 p11 b11 => ⟨_, rfl, ite2 (fun z => by cases z) (fun _ => ?_)⟩⟩
      have T11 := T.but b11 p10
      refine ⟨_, rfl, _, rfl, a, ps, u, rfl, T11.a, T11.z, u0, u3, fun d as H12 s12 hd pr => ?_⟩
      have T12 := T11.same s12
      refine ⟨x, d, nms ps, nms ps, as, look ps, u, ps, u, rfl, T12.x, T12.z, u0, u0, u3, hd, pr, List.Perm.refl _, fun z hz => rfl, fun H13 s13 => ?_⟩
      refine ⟨_, rfl, ?_⟩
      show (tCall (spPaysL C) [] E0 (tCons (tVar 5) (tCons (tCall spAlone [] E0 (tCons (tVar 3) tNil)) tNil))) _ _ _
      refine ⟨_, rfl, _, rfl, b, qs, v, rfl, T12.b.same s13, hzq, v0, v3, fun d2 as2 H14 s14 hd2 pr2 => ?_⟩
      have T14 := T12.same (Same.trans s13 s14)
      refine ⟨y, d2, nms ps, nms qs, as2, look qs, v, qs, v, rfl, T14.y, T14.z, v0, v0, v3, hd2, pr2, by rw [en], fun z hz => rfl, fun H15 s15 => ?_⟩
      have sE := Same.trans s12 (Same.trans s13 (Same.trans s14 s15))
      exact k _ (p11.same sE) ((b10.trans b11).trans (But.of sE))
    rcases ys with _ | ⟨y0, ys⟩
    · refine ⟨Nat.zero_le _, fun e he => ?_⟩
      have s10 := Same.new (o := .tup []) he
      refine ⟨_, _, .tup (SqT.of (s10 _ _ ec)) (dp_strs []), .tup (SqT.of upd_same) .nil, rfl, rfl, _, rfl, ?_⟩
      exact rest _ (T9.same s10) (p9.same s10) (s10 _ _ ht9) (bb.trans (But.of s10))
    · have ym : ∀ z ∈ y0 :: ys, z ∈ nms ps := fun z hz => sl.subset hz
      refine ⟨Nat.zero_le _, fun e he => ?_⟩
      have s10 := Same.new (o := .tup []) he
      refine ⟨_, _, .tup (SqT.of (s10 _ _ ec)) (dp_strs (y0 :: ys)), .tup (SqT.of upd_same) .nil, sh_strs (y0 :: ys) (fun z hz => (T9.z.nm z (ym z hz)).1), rfl, _, rfl, ?_⟩
      rw [show PyData.eqv (.tuple ((y0 :: ys).map PyData.str)) (.tuple []) = false from eqv_nil]
      refine ite2 (fun _ => ?_) (fun z => absurd rfl z)
      have ynm : ∀ z ∈ y0 :: ys, nameB (.str z) = true ∧ z.length ≤ 8 := fun z hz => T9.z.nm z (ym z hz)
      have yasc := T9.z.asc.sublist sl
      have ylen : (y0 :: ys).length ≤ 8 := Nat.le_trans sl.length_le z8
      have zy : Zs (y0 :: ys) := ⟨yasc, ynm, by simp, ylen⟩
      have T10 := T9.same s10
      have ht10 := s10 _ _ ht9
      have ec10 := s10 _ _ ec
      have p10 := p9.same s10
      have b10 := bb.trans (But.of s10)
      generalize upd H9 e (.tup []) = H10 at T10 ht10 ec10 p10 b10
      clear T9 ht9 ec p9 bb s10
      have uv0 : 0 < u * v := Int.mul_pos u0 v0
      obtain ⟨w1, w2, w3, w4, w5, w6⟩ := pw900
      have u9 : u.natAbs < 2 ^ 900 := by omega
      have v9 : v.natAbs < 2 ^ 900 := by omega
      have uvn : (u * v).natAbs < 2 ^ 3000 := Nat.lt_trans (abs_mul_lt u9 v9) (by decide +kernel)
      obtain ⟨dx, tx, ddx, Ux, x1⟩ := T10.x.ins
      obtain ⟨dy, ty, ddy, Uy, y1⟩ := T10.y.ins
      have two : Two C H10 x y (nms ps) (look ps) (look qs) u v := ⟨T10.x, T10.y, T10.z, u0, v0, u9, v9, fun z hz => ⟨Nat.lt_trans (T10.lb z hz).1 (Nat.lt_trans w2 w4), Nat.lt_trans (T10.lb z hz).2 (Nat.lt_trans w2 w4)⟩⟩
      refine ⟨_, rfl, _, rfl, x, dx, _, y, dy, _, rfl, x1, rfl, y1, x, y, nms ps, look ps, look qs, u, v, rfl, two, fun s1 H11 s11 r1 => ?_⟩
      obtain ⟨d1, t1, dd1, U1, i1⟩ := r1.ins
      have ysub : ∀ z ∈ y0 :: ys, z ∈ nms ps := ym
      have cutx : ∀ {H' : Hp} {q : Addr} {f : Str → Int} {m : Int}, ChR C H' q (nms ps) f m → 0 < m → m.natAbs < 2 ^ 3000 → 0 < nfU m (bagOf f (nms ps)) ∧ (nfU m (bagOf f (nms ps))).natAbs < 2 ^ 3000 ∧ Gp (nms (nfB m (bagOf f (nms ps)))) (y0 :: ys) := fun {H' q f m} h m0 mb => by
        obtain ⟨Gj, gj0, eUj, eFj, nj, Uj0, Uj1⟩ := kept_fn (f := f) hz m0
        exact ⟨Uj0, by omega, by rw [nj]; exact ysub, yasc, by omega⟩
      obtain ⟨q1, q2, q3⟩ := cutx r1 uv0 uvn
      refine ⟨s1, rfl, s1, d1, _, rfl, i1, rfl, _, rfl, s1, c, _, _, y0 :: ys, rfl, r1, q1, q2, s11 _ _ ec10, q3, by simp, ylen, ynm, fun k1 e1 H12 sd1 s12 hn1 hc1 => ?_⟩
      have c1 := cut_fn hz uv0 zy ysub sd1 hc1
      have s1012 := Same.trans s11 s12
      have hx12 := T10.x.same s1012
      obtain ⟨q1, q2, q3⟩ := cutx hx12 u0 u3
      refine ⟨_, rfl, x, dx, _, rfl, s1012 _ _ x1, rfl, _, rfl, x, c, _, _, y0 :: ys, rfl, hx12, q1, q2, s1012 _ _ ec10, q3, by simp, ylen, ynm, fun k2 e2 H13 sd2 s13 hn2 hc2 => ?_⟩
      have c2 := cut_fn hz u0 zy ysub sd2 hc2
      have s1013 := Same.trans s1012 s13
      have hy13 := T10.y.same s1013
      obtain ⟨q1, q2, q3⟩ := cutx hy13 v0 v3
      refine ⟨_, rfl, y, dy, _, rfl, s1013 _ _ y1, rfl, _, rfl, y, c, _, _, y0 :: ys, rfl, hy13, q1, q2, s1013 _ _ ec10, q3, by simp, ylen, ynm, fun k3 e3 H14 sd3 s14 hn3 hc3 => ?_⟩
      have c3 := cut_fn hz v0 zy ysub sd3 hc3
      obtain ⟨dk1, tk1, ddk1, Uk1, ik1⟩ := c1.ins
      obtain ⟨dk2, tk2, ddk2, Uk2, ik2⟩ := c2.ins
      obtain ⟨dk3, tk3, ddk3, Uk3, ik3⟩ := c3.ins
      have two2 : Two C H14 k2 k3 (y0 :: ys) (look ps) (look qs) u v := ⟨c2.same s14, c3, zy, u0, v0, u9, v9, fun z hz => ⟨Nat.lt_trans (T10.lb z (ysub z hz)).1 (Nat.lt_trans w2 w4), Nat.lt_trans (T10.lb z (ysub z hz)).2 (Nat.lt_trans w2 w4)⟩⟩
      refine ⟨k2, dk2, _, k3, dk3, _, rfl, s14 _ _ ik2, rfl, ik3, k2, k3, y0 :: ys, look ps, look qs, u, v, rfl, two2, fun s2 H15 s15 r2 => ?_⟩
      obtain ⟨d2, t2, dd2, U2, i2⟩ := r2.ins
      have s1215 := Same.trans s13 (Same.trans s14 s15)
      refine ⟨s2, rfl, k1, dk1, _, .ref C, rfl, s1215 _ _ ik1, KCharge.ins i2, nf_self, k1, _, _, .ref s2, true, rfl, c1.same s1215, ChR.eqd zy uv0 uv0 r2 (fun z hz => rfl), _, rfl, ?_⟩
      refine ⟨_, rfl, ite2 (fun z => absurd z (by decide)) (fun _ => ?_)⟩
      have sE := Same.trans s1012 s1215
      exact rest _ (T10.same sE) (p10.same sE) (sE _ _ ht10) (b10.trans (But.of sE))
end
end V0

namespace V0
open PySem PySem.Spec PyProof.Rows L2
theorem Room.units70 {k : Nat} {A : Around} (r : Room k A) : A.units + 70 < cLine := by have := r.un; omega
/-- what the text says of the class -/
structure Cls9 (K : PySem.W.Frag) (mg : Str → Option Value) (C : Addr) (ad : Nat → Addr) (fdd : Nat → FuncData) : Prop where
  KCharge : Kls K mg "Charge" C
  N : ChN K C
  gi : ∀ g, PySem.W.findIn K (.ref C) "__getitem__" = some (some (.ref g)) → PySem.W.fnIn K g = true
  Y_init : ChK K C (ad 0) (fdd 0) s_Charge_init P_Charge_init
  Y1 : Pr K "Charge.things" "things" C s_Charge_things P_Charge_things (ad 20) (ad 1) (fdd 1)
  Y2 : Pr K "Charge.unit" "unit" C s_Charge_unit P_Charge_unit (ad 21) (ad 2) (fdd 2)
  Y3 : Pr K "Charge.pays" "pays" C s_Charge_pays P_Charge_pays (ad 22) (ad 3) (fdd 3)
  Y4 : Pr K "Charge.total" "total" C s_Charge_total P_Charge_total (ad 23) (ad 4) (fdd 4)
  Y5 : Md K "Charge.of" "of" C s_Charge_of P_Charge_of (ad 5) (fdd 5)
  Y6 : Md K "Charge.cut" "cut" C s_Charge_cut P_Charge_cut (ad 6) (fdd 6)
  Y7 : Md K "Charge.__len__" "__len__" C s_Charge_len P_Charge_len (ad 7) (fdd 7)
  Y8 : Md K "Charge.__str__" "__str__" C s_Charge_str P_Charge_str (ad 8) (fdd 8)
  Y9 : Md K "Charge.__iter__" "__iter__" C s_Charge_iter P_Charge_iter (ad 9) (fdd 9)
  Y10 : Md K "Charge.__getitem__" "__getitem__" C s_Charge_getitem P_Charge_getitem (ad 10) (fdd 10)
  Y11 : Md K "Charge.__contains__" "__contains__" C s_Charge_contains P_Charge_contains (ad 11) (fdd 11)
  Y12 : Md K "Charge.__eq__" "__eq__" C s_Charge_eq P_Charge_eq (ad 12) (fdd 12)
  Y13 : Md K "Charge._check_group" "_check_group" C s_Chargecheck_group P_Chargecheck_group (ad 13) (fdd 13)
  Y14 : Md K "Charge._sum" "_sum" C s_Chargesum P_Chargesum (ad 14) (fdd 14)
  Y15 : Md1 K "Charge.times" "times" C s_Charge_times P_Charge_times (ad 15) (fdd 15)
  Y16 : Md K "Charge.mixed" "mixed" C s_Charge_mixed P_Charge_mixed (ad 16) (fdd 16)
  Y17 : Md K "Charge.put_beside" "put_beside" C s_Charge_put_beside P_Charge_put_beside (ad 17) (fdd 17)
  Y18 : Md K "Charge._is_alike" "_is_alike" C s_Chargeis_alike P_Chargeis_alike (ad 18) (fdd 18)
  Y19 : Md K "Charge.__add__" "__add__" C s_Charge_add P_Charge_add (ad 19) (fdd 19)
  Y24 : Md K "Charge.__sub__" "__sub__" C s_Charge_sub P_Charge_sub (ad 24) (fdd 24)
  sf : PySem.W.selfFirst K C = true
/-- all that the text says of itself -/
structure All9 (K : PySem.W.Frag) (mg : Str → Option Value) (C : Addr) (ad : Nat → Addr) (fdd : Nat → FuncData) (bd : Nat → Addr) (bdd : Nat → FuncData) : Prop extends Cls9 K mg C ad fdd where
  B : Bl mg
  M : Bm mg
  CN : Nm mg
  D_is_whole : Df K mg "is_whole" s_is_whole P_is_whole (bd 0) (bdd 0)
  D_is_integer : Df K mg "is_integer" s_is_integer P_is_integer (bd 1) (bdd 1)
  D_is_name : Df K mg "is_name" s_is_name P_is_name (bd 2) (bdd 2)
  D_reduced : Df K mg "reduced" s_reduced P_reduced (bd 3) (bdd 3)
  D_integer_text : Df K mg "integer_text" s_integer_text P_integer_text (bd 4) (bdd 4)
  D_fraction_text : Df K mg "fraction_text" s_fraction_text P_fraction_text (bd 5) (bdd 5)
  D_is_group_of : Df K mg "is_group_of" s_is_group_of P_is_group_of (bd 6) (bdd 6)
  D_charge_over : Df K mg "charge_over" s_charge_over P_charge_over (bd 7) (bdd 7)
  D__are_pays : Df K mg "_are_pays" s__are_pays P__are_pays (bd 8) (bdd 8)
  D__shared_divisor : Df K mg "_shared_divisor" s__shared_divisor P__shared_divisor (bd 9) (bdd 9)
  D__sum_of : Df K mg "_sum_of" s__sum_of P__sum_of (bd 10) (bdd 10)
  D_pot : Df K mg "_law_pot" s_pot P_pot (bd 11) (bdd 11)
  D_stir : Df K mg "_law_stir" s_stir P_stir (bd 12) (bdd 12)
  D_one_of : Df K mg "_law_one_of" s_one_of P_one_of (bd 13) (bdd 13)
  D_shuffled : Df K mg "_law_shuffled" s_shuffled P_shuffled (bd 14) (bdd 14)
  D_some_of : Df K mg "_law_some_of" s_some_of P_some_of (bd 15) (bdd 15)
  D_words : Df K mg "_law_words" s_words P_words (bd 16) (bdd 16)
  D_number : Df K mg "_law_number" s_number P_number (bd 17) (bdd 17)
  D_sums : Df K mg "_law_sums" s_sums P_sums (bd 18) (bdd 18)
  D_made_charge : Df K mg "_law_made_charge" s_made_charge P_made_charge (bd 19) (bdd 19)
  D_low : Df K mg "_law_low" s_low P_low (bd 20) (bdd 20)
  D_pays : Df K mg "_law_pays" s_pays P_pays (bd 21) (bdd 21)
  D_joint : Df K mg "_law_joint" s_joint P_joint (bd 22) (bdd 22)
  D_alone : Df K mg "_law_alone" s_alone P_alone (bd 23) (bdd 23)
  D_sums_right : Df K mg "_law_sums_right" s_sums_right P_sums_right (bd 24) (bdd 24)
  D_multiples_right : Df K mg "_law_multiples_right" s_multiples_right P_multiples_right (bd 25) (bdd 25)
  D_beside_right : Df K mg "_law_beside_right" s_beside_right P_beside_right (bd 26) (bdd 26)
  D_right : Df K mg "_law_right" s_right P_right (bd 27) (bdd 27)
section
variable {P : Program} {w : World} {K : PySem.W.Frag} {mg : Str → Option Value} {base : Heap} {C : Addr} {ad : Nat → Addr} {fdd : Nat → FuncData} {bd : Nat → Addr} {bdd : Nat → FuncData}
theorem All9.own (Z : All9 K mg C ad fdd bd bdd) : Own P w K mg base C ad fdd :=
  ⟨Z.B, Z.M, Z.KCharge, Z.N, ⟨Z.gi, Z.KCharge.ne, Z.KCharge.hm⟩, Z.Y_init, ok_init Z.B Z.M Z.CN Z.KCharge Z.N Z.D_is_whole Z.D_is_integer Z.D_is_name Z.D__are_pays Z.D__shared_divisor Z.Y_init,
    Z.Y1, ok_things Z.KCharge Z.N Z.Y1, Z.Y2, ok_unit Z.KCharge Z.N Z.Y2, Z.Y3, ok_pays Z.KCharge Z.N Z.Y3, Z.Y4, ok_total Z.B Z.CN Z.KCharge Z.N Z.D_reduced Z.Y14 Z.Y4,
    Z.Y5, ok_of Z.B Z.M Z.CN Z.KCharge Z.N Z.D_reduced Z.Y14 Z.D_is_group_of Z.Y13 Z.Y5, Z.Y6, ok_cut Z.B Z.M Z.CN Z.KCharge Z.N Z.D_is_whole Z.D_is_integer Z.D_is_name Z.D__are_pays Z.D__shared_divisor Z.Y_init Z.D_charge_over Z.D_is_group_of Z.Y13 Z.Y6,
    md_own Z.Y7 (ok_len Z.B Z.KCharge Z.N Z.Y7), md_own Z.Y8 (ok_text Z.B Z.CN Z.KCharge Z.N Z.D_reduced Z.D_integer_text Z.D_fraction_text Z.Y8), ok_iter Z.M Z.KCharge Z.N Z.Y9,
    md_own Z.Y10 (ok_item Z.B Z.CN Z.KCharge Z.N Z.D_reduced Z.Y11 Z.Y10), md_own Z.Y11 (ok_cont Z.B Z.KCharge Z.N Z.Y11), md_own Z.Y12 (ok_eq Z.B Z.KCharge Z.N Z.Y12)⟩
theorem All9.over (Z : All9 K mg C ad fdd bd bdd) : FnOk P w K mg base CX0 6 (bd 7) (bdd 7) P_charge_over (spOver C) :=
  ok_over Z.B Z.M Z.CN Z.KCharge Z.N Z.D_is_whole Z.D_is_integer Z.D_is_name Z.D__are_pays Z.D__shared_divisor Z.Y_init Z.D_charge_over
theorem All9.own9 (Z : All9 K mg C ad fdd bd bdd) : Own9 P w K mg base C ad fdd := by
  have O : Own P w K mg base C ad fdd := Z.own
  have S : FnOk P w K mg base CX0 7 (bd 10) (bdd 10) P__sum_of (spSumOf C) := ok_sum_of O Z.D_charge_over Z.over Z.D__sum_of
  exact ⟨O, Z.sf, md_own Z.Y19 (ok_add O Z.Y18 Z.D__sum_of S Z.Y19), md_own Z.Y24 (ok_sub O Z.Y18 Z.D__sum_of S Z.Y24), Z.Y15, ok_times O Z.CN Z.D_is_whole Z.D_is_integer Z.D_charge_over Z.over Z.Y15, Z.Y16, ok_mixed O Z.CN Z.D_is_whole Z.D_is_integer Z.Y18 Z.D__sum_of S Z.Y16⟩
theorem All9.beside (Z : All9 K mg C ad fdd bd bdd) : FnOk P w K mg base CX0 8 (ad 17) (fdd 17) P_Charge_put_beside (spBeside C) := ok_beside Z.own Z.CN Z.D_charge_over Z.over Z.Y17
theorem All9.right (Z : All9 K mg C ad fdd bd bdd) : FnOk P w K mg base CX0 11 (bd 27) (bdd 27) P_right spRight9 :=
  ok_right Z.own9 Z.Y17 Z.beside Z.D_low Z.D_pays Z.D_alone Z.D_stir Z.D_one_of Z.D_number Z.D_sums Z.D_made_charge Z.D_joint Z.D_shuffled Z.D_words Z.D_some_of Z.D_sums_right Z.D_multiples_right Z.D_beside_right Z.D_right
end
end V0

namespace V0
open PySem PySem.Spec PyProof.Rows L2
def sa : Str := Str.ofString "a"
def sb : Str := Str.ofString "b"
def sab : Str := Str.ofString "ab"
def q1L : Bag := [(sa, 1), (sb, 2)]
def q2L : Bag := [(sa, 1), (sb, -1)]
def q3L : Bag := [(sab, 5)]
theorem small_nm : ∀ z ∈ [sa, sb, sab], nameB (.str z) = true ∧ z.length ≤ 8 := by decide +kernel
theorem zab : Zs [sa, sb] := ⟨by decide +kernel, fun z hz => small_nm z (by rcases List.mem_cons.mp hz with h | h <;> simp_all), by decide, by decide⟩
theorem zab1 : Zs [sab] := ⟨by decide +kernel, fun z hz => small_nm z (by simp_all), by decide, by decide⟩
theorem q_bag : q1L = bagOf (look q1L) [sa, sb] ∧ q2L = bagOf (look q2L) [sa, sb] ∧ q3L = bagOf (look q3L) [sab] := by decide +kernel
theorem q_bg : Bg (10 ^ 60) q1L ∧ Bg (10 ^ 60) q2L ∧ Bg (10 ^ 60) q3L := by
  refine ⟨⟨by decide +kernel, fun z hz => zab.nm z hz, by decide +kernel, by decide, by decide⟩, ⟨by decide +kernel, fun z hz => zab.nm z hz, by decide +kernel, by decide, by decide⟩, ⟨by decide +kernel, fun z hz => zab1.nm z hz, by decide +kernel, by decide, by decide⟩⟩
/-- a charge that was just made, by functions -/
theorem made_fn {C : Addr} {H : Hp} {x : Addr} {q : Bag} {ws zs : List Str} {u : Int} (e : q = bagOf (look q) ws) (hz : Zs ws) (hu : 0 < u) (sd : Sd q zs) (hc : ChAt C H x (chB zs q u) (nfU u q)) : ChR C H x ws (look q) u := by
  rw [e] at sd hc
  exact over_fn hz hu sd (by rw [← e] at hc ⊢; exact hc)
theorem tx1 : chText (nfB (3 * 2) (bagOf (fun z => look q1L z * 2 + 1 * look q2L z * 3) [sa, sb])) (nfU (3 * 2) (bagOf (fun z => look q1L z * 2 + 1 * look q2L z * 3) [sa, sb])) = Str.ofString "a 5/6, b 1/6" := by decide +kernel
theorem tx2 : chText (nfB (3 * 2) (bagOf (fun z => look q1L z * 2 + -1 * look q2L z * 3) [sa, sb])) (nfU (3 * 2) (bagOf (fun z => look q1L z * 2 + -1 * look q2L z * 3) [sa, sb])) = Str.ofString "a -1/6, b 7/6" := by decide +kernel
theorem tx3 : chText (nfB (3 * 2) (bagOf (fun z => look q1L z * -3) [sa, sb])) (nfU (3 * 2) (bagOf (fun z => look q1L z * -3) [sa, sb])) = Str.ofString "a -1/2, b -1" := by decide +kernel
theorem tx4 : chText (nfB (3 * 2 * 4) (bagOf (fun z => look q1L z * 1 * 2 + look q2L z * (4 - 1) * 3) [sa, sb])) (nfU (3 * 2 * 4) (bagOf (fun z => look q1L z * 1 * 2 + look q2L z * (4 - 1) * 3) [sa, sb])) = Str.ofString "a 11/24, b -5/24" := by decide +kernel
theorem tx5 : chText (nfB (3 * 3) (bagOf (fun z => look q1L z * 3 + -1 * look q1L z * 3) [sa, sb])) (nfU (3 * 3) (bagOf (fun z => look q1L z * 3 + -1 * look q1L z * 3) [sa, sb])) = Str.ofString "a 0, b 0" := by decide +kernel
def txL : List Str := [Str.ofString "a 5/6, b 1/6", Str.ofString "a -1/6, b 7/6", Str.ofString "a -1/2, b -1", Str.ofString "a 11/24, b -5/24", Str.ofString "a 0, b 0"]
theorem tx_sh : SeqAt.shaped (.list (txL.map PyData.str)) = true := by decide +kernel
theorem tx6 : chText (nfB (3 * 1) (bagOf (fun z => if z ∈ [sa, sb] then look q1L z * 1 else look q3L z * 3) [sa, sab, sb])) (nfU (3 * 1) (bagOf (fun z => if z ∈ [sa, sb] then look q1L z * 1 else look q3L z * 3) [sa, sab, sb])) = Str.ofString "a 1/3, ab 5, b 2/3" := by decide +kernel
section
variable {P : Program} {w : World} {K : PySem.W.Frag} {mg : Str → Option Value} {base : Heap} {C : Addr} {ad : Nat → Addr} {fdd : Nat → FuncData} {bd : Nat → Addr} {bdd : Nat → FuncData}
abbrev s_law : Stmt := top 48
abbrev N_law : List Str := ["_law_script", "_law_at", "_law_one", "_law_other", "_law_told", "_law_due"]
abbrev P_law : List Str := ["_law_script"]
theorem sc_law : FnScope N_law P_law (defScope s_law) := ⟨rfl, rfl, rfl, by decide +kernel, rfl, by decide +kernel, by decide +kernel⟩
theorem law_body (Z : All9 K mg C ad fdd bd bdd) {f : Addr} {cdv : Value} {A : Around} {outer : List Env} {s : Shared} {H : Hp} {Q : VK} {a : Addr} {ns : List Int}
    (hr : Room 12 (A.deeper (envOfC "law" (defScope s_law) s.heap.objs.size f cdv))) (hS : SqL K H a (ns.map V.int)) (hlen : ns.length ≤ 63) (k : ∀ H', Q (.bl true) H') :
    ∃ t, PSs (cxOf CX0 P w K mg base N_law "law" (defScope s_law) f cdv A outer s H E0).nox (defBody s_law) t ∧ t { nx := fun _ H' => Q .non H', rt := Q } (L2.start N_law [.ref a]) H := by
  have O9 : Own9 P w K mg base C ad fdd := Z.own9
  obtain ⟨O, hsf, O_add, O_sub, Y_Charge_times, G_Charge_times, Y_Charge_mixed, G_Charge_mixed⟩ := id O9
  obtain ⟨B, M, KCharge, N, NX, Y_init, G_init, Y_Charge_things, G_Charge_things, Y_Charge_unit, G_Charge_unit, Y_Charge_pays, G_Charge_pays, Y_Charge_total, G_Charge_total, Y_Charge_of, G_Charge_of, Y_Charge_cut, G_Charge_cut, O_len, O_str, O_iter, O_item, O_cont, O_eq⟩ := id O
  have D_pot := Z.D_pot
  have D_right := Z.D_right
  have Y_Charge_put_beside := Z.Y17
  have G_Charge_put_beside : FnOk P w K mg base CX0 8 _ _ P_Charge_put_beside (spBeside C) := Z.beside
  have G_pot : FnOk P w K mg base CX0 1 _ _ P_pot (spPot K) := ok_pot B Z.D_pot
  have G_right : FnOk P w K mg base CX0 11 _ _ P_right spRight9 := Z.right
  obtain ⟨dt1, rt1, bt1⟩ := Y_Charge_times.b1
  obtain ⟨di1, hdi, bi1⟩ := Y_init.b1
  refine ⟨_, (pss_cons (ps_for PassesOwn.never rfl (pi_range1 rfl B.b_range (pa_cons (pe_callB (call_max2 rfl) (by rfl) B.b_max (by decide +kernel) (pa_cons pe_int (pa_cons (pe_callB (call_min2 rfl) (by rfl) B.b_min (by decide +kernel) (pa_cons pe_int (pa_cons (pe_callB call_len (by rfl) B.b_len (by decide +kernel) (pa_cons (pv 0) pa_nil)) pa_nil))) pa_nil))) pa_nil)) (pg_name (i := 1) sc_law.nd rfl (Or.inl rfl)) (pss_one (ps_if (pt_not (pt_val (pe_call G_right (hr.mono (by decide)) (by rfl) D_right.g D_right.F.kp D_right.b .nil pass0 (pa_cons (pe_call G_pot (hr.mono (by decide)) (by rfl) D_pot.g D_pot.F.kp D_pot.b .nil pass0 (pa_cons (pv 0) (pa_cons (pv 1) pa_nil))) pa_nil)))) (pss_one (ps_ret pe_bl)) pss_nil)))
      (pss_cons (ps_par (i := 2) (j := 3) (by rfl) sc_law.nd rfl rfl (by decide) rfl rfl (pa_cons (pe_makeK Y_init.mkC G_init (hr.mono (by decide)) (by rfl) KCharge.g Y_init.bk pass0 (pa_cons (pe_disp (pps_cons pe_str pe_int (pps_cons pe_str pe_int pps_nil)) (by rfl) (by rfl) (fun z => by cases z) (by decide)) pa_nil) (pk_cons pe_int pk_nil)) (pa_cons (pe_makeK Y_init.mkC G_init (hr.mono (by decide)) (by rfl) KCharge.g Y_init.bk pass0 (pa_cons (pe_disp (pps_cons pe_str pe_int (pps_cons pe_str (pe_un un_neg pe_int) pps_nil)) (by rfl) (by rfl) (fun z => by cases z) (by decide)) pa_nil) (pk_cons pe_int pk_nil)) pa_nil)) (by rfl))
      (pss_cons (ps_set (i := 4) sc_law.nd rfl (Or.inl rfl) (pe_lst (pa_cons (pe_callTy (call_strO O_str (hr.mono (by decide)) pass0) (by rfl) B.b_str (by decide +kernel) (pa_cons (pe_op (op_binO (op := .Add) O_add hsf (hr.mono (by decide)) pass0) (pv 2) (pv 3)) pa_nil)) (pa_cons (pe_callTy (call_strO O_str (hr.mono (by decide)) pass0) (by rfl) B.b_str (by decide +kernel) (pa_cons (pe_op (op_binO (op := .Sub) O_sub hsf (hr.mono (by decide)) pass0) (pv 2) (pv 3)) pa_nil)) (pa_cons (pe_callTy (call_strO O_str (hr.mono (by decide)) pass0) (by rfl) B.b_str (by decide +kernel) (pa_cons (pe_meth (pv 2) KCharge.cl Y_Charge_times.m G_Charge_times (hr.mono (by decide)) Y_Charge_times.b .nil pass0 (pa_cons (pe_un un_neg pe_int) (pa_cons pe_int pa_nil))) pa_nil)) (pa_cons (pe_callTy (call_strO O_str (hr.mono (by decide)) pass0) (by rfl) B.b_str (by decide +kernel) (pa_cons (pe_meth (pv 2) KCharge.cl Y_Charge_mixed.m G_Charge_mixed (hr.mono (by decide)) Y_Charge_mixed.b .nil pass0 (pa_cons (pv 3) (pa_cons pe_int (pa_cons pe_int pa_nil)))) pa_nil)) (pa_cons (pe_callTy (call_strO O_str (hr.mono (by decide)) pass0) (by rfl) B.b_str (by decide +kernel) (pa_cons (pe_op (op_binO (op := .Sub) O_sub hsf (hr.mono (by decide)) pass0) (pv 2) (pv 2)) pa_nil)) pa_nil)))))))
      (pss_cons (ps_set (i := 5) sc_law.nd rfl (Or.inl rfl) (pe_lst (pa_cons pe_str (pa_cons pe_str (pa_cons pe_str (pa_cons pe_str (pa_cons pe_str pa_nil)))))))
      (pss_one (ps_ret (pe_and (pe_cmpR (op_eqD hr.units) (pv 4) (pv 5) (nomark _)) (pe_one (pe_cmpR op_eq (pe_callTy (call_strO O_str (hr.mono (by decide)) pass0) (by rfl) B.b_str (by decide +kernel) (pa_cons (pe_meth (pv 2) KCharge.cl Y_Charge_put_beside.m G_Charge_put_beside (hr.mono (by decide)) Y_Charge_put_beside.b .nil pass0 (pa_cons (pe_make Y_init.mkC G_init (hr.mono (by decide)) (by rfl) KCharge.g bi1 hdi pass0 (pa_cons (pe_disp (pps_cons pe_str pe_int pps_nil) (by rfl) (by rfl) (fun z => by cases z) (by decide)) pa_nil)) pa_nil)) pa_nil)) pe_str (nomark _)))))))))), ?_⟩
  -- how many turns
  refine ⟨_, rfl, _, (ns.map V.int).length, rfl, .inl ⟨_, hS, rfl⟩, _, _, rfl, _, _, rfl, ?_⟩
  have hll : (ns.map V.int).length = ns.length := List.length_map _
  generalize hj : (if (if ((ns.map V.int).length : Int) < 10 then ((ns.map V.int).length : Int) else 10) > 1 then (if ((ns.map V.int).length : Int) < 10 then ((ns.map V.int).length : Int) else 10) else 1) = j
  have j0 : 1 ≤ j := by rw [← hj]; split <;> omega
  have j1 : j ≤ 10 := by rw [← hj]; split <;> (try split) <;> omega
  refine ⟨j, rfl, by omega, by omega, ?_⟩
  refine for_it walk_range (fun i σ H' => Same H H' ∧ ∃ x1 x2 x3 x4 x5 : Option V, σ = [some (.ref a), x1, x2, x3, x4, x5]) ⟨Same.refl H, _, _, _, _, _, rfl⟩ (fun _ _ _ _ _ => trivial) ?_ ?_
  · rintro i y σ H0 H0' hi ⟨s0, x1, x2, x3, x4, x5, rfl⟩ ⟨rfl, rfl⟩
    refine ⟨_, rfl, _, rfl, a, ns, i, by show [V.ref a, V.int ((0 : Int) + i)] = _; rw [Int.zero_add], Same.seq s0 hS, by omega, by omega, fun p H1 hpn hp1 s1 => ?_⟩
    refine ⟨p, rfl, hp1, fun H2 p2 b2 => ⟨_, rfl, ite2 (fun z => by cases z) (fun _ => ?_)⟩⟩
    exact ⟨fun b o e => b2 _ _ (s1 _ _ (s0 _ _ e)) (ne_of_none (s0 _ _ e) hpn), _, _, _, _, _, rfl⟩
  rintro σ H1 ⟨s1, x1, x2, x3, x4, x5, rfl⟩
  -- the two charges
  refine fun d hd => ?_
  refine ⟨upd_same, kvs q1L, rfl, by decide, ?_⟩
  rw [upd_upd, mergeK_nil (kvs_nd (by decide +kernel))]
  have e2 : (upd H1 d (.dK (kvs q1L))) d = some (.dK (kvs q1L)) := upd_same
  generalize upd H1 d (.dK (kvs q1L)) = H2 at e2
  refine ⟨rfl, rfl, fun x dx hx hdx hdd => ?_⟩
  refine ⟨x, dx, d, q1L, 3, rfl, upd_same, ?_, q_bg.1, by decide, by decide +kernel, fun zs H3 sd bt hc => ?_⟩
  · rw [upd_ne (ne_of_none e2 hx), upd_ne (ne_of_none e2 hdx)]
    exact e2
  have rx := made_fn q_bag.1 zab (by decide) sd hc
  clear sd hc e2
  have rx3 := rx
  refine ⟨rfl, fun d hd => ?_⟩
  refine ⟨_, rfl, upd_same, kvs q2L, rfl, by decide, ?_⟩
  rw [upd_upd, mergeK_nil (kvs_nd (by decide +kernel))]
  have sd2 := Same.new (o := .dK (kvs q2L)) hd
  have e2 : (upd H3 d (.dK (kvs q2L))) d = some (.dK (kvs q2L)) := upd_same
  have rx := rx.same sd2
  clear sd2
  generalize upd H3 d (.dK (kvs q2L)) = H4 at e2 rx
  refine ⟨rfl, rfl, fun y dy hy hdy hdd2 => ?_⟩
  refine ⟨y, dy, d, q2L, 2, rfl, upd_same, ?_, q_bg.2.1, by decide, by decide +kernel, fun zs2 H5 sd2 bt2 hc2 => ?_⟩
  · rw [upd_ne (ne_of_none e2 hy), upd_ne (ne_of_none e2 hdy)]
    exact e2
  have ry := made_fn q_bag.2.1 zab (by decide) sd2 hc2
  have rx := rx.same (made_same hy hdy bt2)
  clear sd2 hc2 e2 bt2 hdy hdd2 hy rx3 bt hdx hdd hx
  refine ⟨rfl, _, _, rfl, ?_⟩
  obtain ⟨dx, tx, ddx, Ux, x1'⟩ := rx.ins
  obtain ⟨dy, ty, ddy, Uy, y1'⟩ := ry.ins
  have two : ∀ {H'}, Same H5 H' → Two C H' x y [sa, sb] (look q1L) (look q2L) 3 2 := fun s => ⟨rx.same s, ry.same s, zab, by decide, by decide, by decide +kernel, by decide +kernel, by decide +kernel⟩
  have two0 : ∀ {H'}, Same H5 H' → Two C H' x x [sa, sb] (look q1L) (look q1L) 3 3 := fun s => ⟨rx.same s, rx.same s, zab, by decide, by decide, by decide +kernel, by decide +kernel, by decide +kernel⟩
  -- five texts
  refine ⟨_, rfl, _, rfl, x, _, _, y, _, _, rfl, x1', rfl, y1', x, y, [sa, sb], look q1L, look q2L, 3, 2, rfl, two (Same.refl _), fun s1 H6 s6 r1 => ?_⟩
  obtain ⟨d1, t1, dd1, U1, i1⟩ := r1.ins
  refine ⟨s1, rfl, s1, d1, _, rfl, i1, s1, _, _, rfl, r1, by decide +kernel, by decide +kernel, by decide +kernel, by decide +kernel, by decide +kernel, fun H7 s7 => ?_⟩
  rw [tx1]
  refine ⟨_, rfl, ?_⟩
  have s57 := Same.trans s6 s7
  refine ⟨_, rfl, _, rfl, x, _, _, y, _, _, rfl, s57 _ _ x1', rfl, s57 _ _ y1', x, y, [sa, sb], look q1L, look q2L, 3, 2, rfl, two s57, fun s2 H8 s8 r2 => ?_⟩
  obtain ⟨d2, t2, dd2, U2, i2⟩ := r2.ins
  refine ⟨s2, rfl, s2, d2, _, rfl, i2, s2, _, _, rfl, r2, by decide +kernel, by decide +kernel, by decide +kernel, by decide +kernel, by decide +kernel, fun H9 s9 => ?_⟩
  rw [tx2]
  refine ⟨_, rfl, ?_⟩
  have s59 := Same.trans s57 (Same.trans s8 s9)
  refine ⟨_, rfl, x, dx, _, rfl, s59 _ _ x1', rfl, _, rfl, x, -3, 2, [sa, sb], look q1L, 3, rfl, rx.same s59, zab, by decide, by decide, by decide +kernel, by decide +kernel, by decide +kernel, by decide +kernel, fun s3 H10 s10 r3 => ?_⟩
  obtain ⟨d3, t3, dd3, U3, i3⟩ := r3.ins
  refine ⟨s3, d3, _, rfl, i3, s3, _, _, rfl, r3, by decide +kernel, by decide +kernel, by decide +kernel, by decide +kernel, by decide +kernel, fun H11 s11 => ?_⟩
  rw [tx3]
  refine ⟨_, rfl, ?_⟩
  have s511 := Same.trans s59 (Same.trans s10 s11)
  refine ⟨_, rfl, x, dx, _, rfl, s511 _ _ x1', rfl, _, rfl, x, y, 1, 4, [sa, sb], look q1L, look q2L, 3, 2, rfl, two s511, by decide, by decide, by decide, by decide +kernel, fun s4 H12 s12 r4 => ?_⟩
  obtain ⟨d4, t4, dd4, U4, i4⟩ := r4.ins
  refine ⟨s4, d4, _, rfl, i4, s4, _, _, rfl, r4, by decide +kernel, by decide +kernel, by decide +kernel, by decide +kernel, by decide +kernel, fun H13 s13 => ?_⟩
  rw [tx4]
  refine ⟨_, rfl, ?_⟩
  have s513 := Same.trans s511 (Same.trans s12 s13)
  refine ⟨_, rfl, _, rfl, x, _, _, x, _, _, rfl, s513 _ _ x1', rfl, s513 _ _ x1', x, x, [sa, sb], look q1L, look q1L, 3, 3, rfl, two0 s513, fun s5 H14 s14 r5 => ?_⟩
  obtain ⟨d5, t5, dd5, U5, i5⟩ := r5.ins
  refine ⟨s5, rfl, s5, d5, _, rfl, i5, s5, _, _, rfl, r5, by decide +kernel, by decide +kernel, by decide +kernel, by decide +kernel, by decide +kernel, fun H15 s15 => ?_⟩
  rw [tx5]
  refine ⟨_, rfl, ?_⟩
  have s515 := Same.trans s513 (Same.trans s14 s15)
  refine ⟨by show 5 ≤ sizeLine; decide, fun lt hlt => ?_⟩
  have s1516 := Same.new (o := .lst [.str (Str.ofString "a 5/6, b 1/6"), .str (Str.ofString "a -1/6, b 7/6"), .str (Str.ofString "a -1/2, b -1"), .str (Str.ofString "a 11/24, b -5/24"), .str (Str.ofString "a 0, b 0")]) hlt
  have et : (upd H15 lt (.lst [.str (Str.ofString "a 5/6, b 1/6"), .str (Str.ofString "a -1/6, b 7/6"), .str (Str.ofString "a -1/2, b -1"), .str (Str.ofString "a 11/24, b -5/24"), .str (Str.ofString "a 0, b 0")])) lt = some (.lst (txL.map V.str)) := upd_same
  have s516 := Same.trans s515 s1516
  generalize upd H15 lt (.lst [.str (Str.ofString "a 5/6, b 1/6"), .str (Str.ofString "a -1/6, b 7/6"), .str (Str.ofString "a -1/2, b -1"), .str (Str.ofString "a 11/24, b -5/24"), .str (Str.ofString "a 0, b 0")]) = H16 at s1516 et s516
  refine ⟨by show 5 ≤ sizeLine; decide, fun ld hld => ?_⟩
  have s1617 := Same.new (o := .lst [.str (Str.ofString "a 5/6, b 1/6"), .str (Str.ofString "a -1/6, b 7/6"), .str (Str.ofString "a -1/2, b -1"), .str (Str.ofString "a 11/24, b -5/24"), .str (Str.ofString "a 0, b 0")]) hld
  have eu : (upd H16 ld (.lst [.str (Str.ofString "a 5/6, b 1/6"), .str (Str.ofString "a -1/6, b 7/6"), .str (Str.ofString "a -1/2, b -1"), .str (Str.ofString "a 11/24, b -5/24"), .str (Str.ofString "a 0, b 0")])) ld = some (.lst (txL.map V.str)) := upd_same
  have s517 := Same.trans s516 s1617
  have et := s1617 _ _ et
  generalize upd H16 ld (.lst [.str (Str.ofString "a 5/6, b 1/6"), .str (Str.ofString "a -1/6, b 7/6"), .str (Str.ofString "a -1/2, b -1"), .str (Str.ofString "a 11/24, b -5/24"), .str (Str.ofString "a 0, b 0")]) = H17 at s1617 et eu s517
  refine ⟨_, rfl, _, rfl, _, _, .lst (SqL.of et) (dp_strs txL), .lst (SqL.of eu) (dp_strs txL), tx_sh, tx_sh, ?_⟩
  rw [show PyData.eqv (.list (txL.map PyData.str)) (.list (txL.map PyData.str)) = true from by rw [PyData.eqv, eqv_strs]]
  refine ⟨_, rfl, ite2 (fun _ => ?_) (fun z => absurd rfl z)⟩
  refine ⟨_, rfl, x, dx, _, rfl, s517 _ _ x1', rfl, fun d3 hd3 => ?_⟩
  refine ⟨upd_same, kvs q3L, rfl, by decide, ?_⟩
  rw [upd_upd, mergeK_nil (kvs_nd (by decide +kernel))]
  have s1718 := Same.new (o := .dK (kvs q3L)) hd3
  have e3 : (upd H17 d3 (.dK (kvs q3L))) d3 = some (.dK (kvs q3L)) := upd_same
  have s518 := Same.trans s517 s1718
  generalize upd H17 d3 (.dK (kvs q3L)) = H18 at e3 s518
  refine fun z dz hz hdz hdd3 => ?_
  refine ⟨z, dz, d3, q3L, 1, rfl, upd_same, ?_, q_bg.2.2, by decide, by decide +kernel, fun zs3 H19 sd3 bt3 hc3 => ⟨rfl, ?_⟩⟩
  · rw [upd_ne (ne_of_none e3 hz), upd_ne (ne_of_none e3 hdz)]
    exact e3
  have rz := made_fn q_bag.2.2 zab1 (by decide) sd3 hc3
  have s519 := Same.trans s518 (made_same hz hdz bt3)
  clear sd3 hc3 e3 bt3
  refine ⟨x, z, [sa, sb], [sab], look q1L, look q3L, 3, 1, rfl, rx.same s519, rz, zab, zab1, by decide +kernel, by decide, by decide, by decide, by decide +kernel, by decide +kernel, by decide +kernel, by decide +kernel, fun b ys H20 s20 zy pm rb => ?_⟩
  have ey : ys = [sa, sab, sb] := sorted_one (pm.trans (List.isPerm_iff.mp (by decide +kernel))) (sorted_asc _ zy.asc) (by decide +kernel)
  rw [ey] at rb
  obtain ⟨db, tb, ddb, Ub, ib⟩ := rb.ins
  refine ⟨b, db, _, rfl, ib, b, _, _, rfl, rb, by decide +kernel, by decide +kernel, by decide +kernel, by decide +kernel, by decide +kernel, fun H21 s21 => ?_⟩
  rw [tx6]
  refine ⟨_, rfl, rfl, ?_⟩
  rw [decide_eq_true rfl]
  exact k _
end
end V0

namespace V0
open PySem PySem.Spec PyProof.Rows L2
section
variable {P : Program} {w : World} {K : PySem.W.Frag} {mg mb : Str → Option Value}
/-- the law called on its script, from the heap behind the top -/
theorem law_at {k : Nat} {fa a : Addr} {fd : FuncData} {x : Str} {st : Stmt} {N : List Str} {s0 : Shared} {vs : List Value} {ns : List Int} (hK : K.In s0.heap) (hns : s0.heap.Ns mainGlobals mg) (hbl : s0.heap.Ns builtinsNs mb)
    (hbb : ∀ y : Str, y ≠ "__name__" → mb y = bootBuiltins y) (hlim : s0.heap.NoLimit) (hg : s0.gens = #[]) (ha : s0.heap.get? a = some { cls := .type "list", data := .seq vs.toArray }) (hi : IntsAre vs ns) (hl : ns.length ≤ sizeLine)
    (hr : Room (k + 1) callerA) (F : Fun K "law" "law" st fa fd) (S : FnScope N [x] (defScope st)) (hbind : ∀ (s : Shared) (u : Value), BindsTo s fd ⟨[u], []⟩ [(x, u)])
    (body : ∀ (base : Heap) (H : Hp) (cdv : Value), K.In base → base.Ns mainGlobals mg → SqL K H a (ns.map V.int) → Room k (callerA.deeper (envOfC "law" (defScope st) s0.heap.objs.size fa cdv)) →
      ∃ t, PSs (cxOf CX0 P w K mg base N "law" (defScope st) fa cdv callerA [] s0 H E0).nox (defBody st) t ∧ t { nx := fun _ _ => V.non = .bl true, rt := fun v _ => v = .bl true } (L2.start N [.ref a]) H) :
    codeAny (model P w) callerA (.call (.ref fa) ⟨[.ref a], []⟩) (fun r s' => r = .ok (.ret (.bool true)) ∧ OldK s0.heap s'.heap ∧ s'.os = s0.os ∧ AllBare s'.gens) s0 := by
  have rv := vals_ints hi
  have hlen := hi.length
  -- the abstract heap that tracks the script, or nothing
  obtain ⟨H, hO, hS, hok, hA, hKA⟩ : ∃ H : Hp, Only H ∧ SqL K H a (ns.map V.int) ∧ HOk P w H s0.heap ∧ (∀ b, H b ≠ none → b = a) ∧ (H a ≠ none → K.lookup a = none) := by
    cases hk : K.lookup a with
    | some o =>
      have e := hK a o hk
      rw [ha] at e
      cases e
      exact ⟨fun _ => none, fun _ => .inl rfl, .inr ⟨_, vs.toArray, _, hk, rfl, rfl, rfl, by rw [List.size_toArray, hlen]; exact hl, by simpa using rv⟩, (fun b u z => by have z' : (none : Option HO) = some u := z; cases z'), (fun b z => absurd rfl z), fun z => absurd rfl z⟩
    | none =>
      have at1 : ∀ {b : Addr} {u : HO}, (if b = a then some (HO.frz { cls := .type "list", data := .seq vs.toArray } (.lst (ns.map V.int))) else none) = some u → b = a ∧ u = HO.frz { cls := .type "list", data := .seq vs.toArray } (.lst (ns.map V.int)) := fun {b u} z => by
        by_cases hb : b = a
        · rw [if_pos hb] at z
          exact ⟨hb, (Option.some.inj z).symm⟩
        · rw [if_neg hb] at z
          cases z
      refine ⟨fun b => if b = a then some (.frz { cls := .type "list", data := .seq vs.toArray } (.lst (ns.map V.int))) else none, fun b => ?_, .inl (.inr ⟨{ cls := .type "list", data := .seq vs.toArray }, if_pos rfl⟩), fun b u z => ?_, fun b z => ?_, fun _ => rfl⟩
      · by_cases hb : b = a
        · exact .inr ⟨_, _, if_pos hb⟩
        · exact .inl (if_neg hb)
      · obtain ⟨rfl, rfl⟩ := at1 z
        exact ⟨ha, by rw [List.length_map]; exact hl, vs, _, rv, ha⟩
      · by_cases hb : b = a
        · exact hb
        · exact absurd (if_neg hb) z
  have inB : ∀ {b : Addr} {o : Obj}, s0.heap.get? b = some o → H b = none → (hidT s0.heap H).get? b = some o := fun e n => hidT_get e n
  have noD : ∀ {b : Addr} {m : Str → Option Value}, s0.heap.Ns b m → (hidT s0.heap H).Ns b m := fun {b m} ⟨o, es, ep, e, d, r⟩ => by
    refine ⟨o, es, ep, inB e ?_, d, r⟩
    cases q : H b with
    | none => rfl
    | some u =>
      obtain rfl := hA b (by rw [q]; simp)
      rw [ha] at e
      cases e
      cases (d : Data.seq vs.toArray _ = Data.dict es ep)
  have kB : K.In (hidT s0.heap H) := fun b o e => inB (hK b o e) (by
    cases q : H b with
    | none => rfl
    | some u =>
      obtain rfl := hA b (by rw [q]; simp)
      rw [hKA (by rw [q]; simp)] at e
      cases e)
  have hM : Mod K mg (hidT s0.heap H) := ⟨kB, noD hns, ⟨mb, noD hbl, hbb⟩, let ⟨mc, h1, h2⟩ := hlim; ⟨mc, noD h1, h2⟩⟩
  have e0 : Env0 P w K mg (hidT s0.heap H) callerA [] s0 H := ⟨rfl, hM, fun b o e => of_hidT e, Nat.le_of_eq (hidT_size _ _), trivial, fun b hb => absurd (show b ∈ ([] : List Addr) from hb) (by simp), hok, .of_eq hg⟩
  refine codeAny_mono (runs_at (Q := fun v _ => v = .bl true) (us := [Value.ref a]) (vs := [V.ref a]) F S hr e0 (hbind s0 (.ref a)) (.cons rfl .nil) rfl fun cdv hr' => body _ H cdv kB (noD hns) hS hr') fun r s' h => ?_
  cases r with
  | error e => exact h.elim
  | ok fl =>
    cases fl with
    | ret u =>
      obtain ⟨v, H', os, bare, un, hok', r', rfl⟩ := h
      obtain rfl : u = Value.bool true := r'
      refine ⟨rfl, OldK.of_keep fun b o e => ?_, os, bare⟩
      cases q : H b with
      | none => exact un.keep b o e q (fun z => absurd (show b ∈ ([] : List Addr) from z) (by simp)) (by simp)
      | some u =>
        rcases hO b with z | ⟨ob, xs, z⟩
        · rw [q] at z
          cases z
        · obtain ⟨e1, _⟩ := hok b _ z
          obtain ⟨e2, _⟩ := hok' b _ (un.frzs b ob _ z)
          rw [e] at e1
          cases e1
          exact e2
    | next => exact h.elim
    | brk => exact h.elim
    | cont => exact h.elim
end
end V0

namespace V0
open PySem PySem.Spec PyProof.Rows L2
section
variable {K : PySem.W.Frag} {h : Heap} {mg : Str → Option Value}
theorem df_mk {x : Str} {st : Stmt} {ps : List Str} {f : Addr} {oc : Value} {od an : Option Addr} {sl : Array (Option Value)} {kV dc pm cd ct : Value} (X : K.In h) (G : h.Ns mainGlobals mg)
    (hb : ∀ (kV doc pm : Value) (an : Option Addr) (cdv ct : Value) (us : List Value), us.length = ps.length → bindArgs (PySem.W.fnOf x x (defArgs st) (defBody st) (defScope st) .none kV doc pm an cdv ct) ⟨us, []⟩ = pure (ps.zip us))
    (a : PySem.W.nsIn K mainGlobals x = some (some (.ref f))) (l : K.lookup f = some ⟨oc, od, .func (PySem.W.fnOf x x (defArgs st) (defBody st) (defScope st) .none kV dc pm an cd ct), sl⟩) (c : PySem.W.codeIn K cd x = true) (k : PySem.W.keepIn K (.ref f) = true) : ∃ f fd, Df K mg x st ps f fd :=
  ⟨f, _, fun_mk l c k, (fun_mk l c k).binds hb, PySem.W.mg_of X G a⟩
theorem gv_mk {x : Str} {v : V} {u : Value} (X : K.In h) (G : h.Ns mainGlobals mg) (r : RelV v u) (a : PySem.W.nsIn K mainGlobals x = some (some u)) : GV mg x v := ⟨u, PySem.W.mg_of X G a, r⟩
theorem law_mk {fa f : Addr} {oc : Value} {od an : Option Addr} {sl : Array (Option Value)} {kV dc pm cd ct : Value} (X : K.In h) (G : h.Ns mainGlobals mg) (hfa : mg "law" = some (.ref fa))
    (a : PySem.W.nsIn K mainGlobals "law" = some (some (.ref f))) (l : K.lookup f = some ⟨oc, od, .func (PySem.W.fnOf "law" "law" (defArgs s_law) (defBody s_law) (defScope s_law) .none kV dc pm an cd ct), sl⟩) (c : PySem.W.codeIn K cd "law" = true) (k : PySem.W.keepIn K (.ref f) = true) :
    ∃ fd, Fun K "law" "law" s_law fa fd ∧ ∀ (s : Shared) (u : Value), BindsTo s fd ⟨[u], []⟩ [("_law_script", u)] := by
  have e := hfa.symm.trans (PySem.W.mg_of X G a)
  cases e
  exact ⟨_, fun_mk l c k, fun s v => .of_eq rfl⟩
end
section
variable {K : PySem.W.Frag} {h : Heap} {mg : Str → Option Value}
theorem cls_mk {C f0 f1 f2 f3 f4 f5 f6 f7 f8 f9 f10 f11 f12 f13 f14 f15 f16 f17 f18 f19 f24 g20 g21 g22 g23 D T : Addr} {u t1 ocT : Value} {odT : Option Addr} {nT : Nat} {slT : Array (Option Value)} {oc0 dc0 pm0 cd0 ct0 oc1 kV1 dc1 pm1 cd1 ct1 oc2 kV2 dc2 pm2 cd2 ct2 oc3 kV3 dc3 pm3 cd3 ct3 oc4 kV4 dc4 pm4 cd4 ct4 oc5 kV5 dc5 pm5 cd5 ct5 oc6 kV6 dc6 pm6 cd6 ct6 oc7 kV7 dc7 pm7 cd7 ct7 oc8 kV8 dc8 pm8 cd8 ct8 oc9 kV9 dc9 pm9 cd9 ct9 oc10 kV10 dc10 pm10 cd10 ct10 oc11 kV11 dc11 pm11 cd11 ct11 oc12 kV12 dc12 pm12 cd12 ct12 oc13 kV13 dc13 pm13 cd13 ct13 oc14 kV14 dc14 pm14 cd14 ct14 oc15 kV15 dc15 pm15 cd15 ct15 oc16 kV16 dc16 pm16 cd16 ct16 oc17 kV17 dc17 pm17 cd17 ct17 oc18 kV18 dc18 pm18 cd18 ct18 oc19 kV19 dc19 pm19 cd19 ct19 oc24 kV24 dc24 pm24 cd24 ct24 : Value} {od0 an0 od1 an1 od2 an2 od3 an3 od4 an4 od5 an5 od6 an6 od7 an7 od8 an8 od9 an9 od10 an10 od11 an11 od12 an12 od13 an13 od14 an14 od15 an15 od16 an16 od17 an17 od18 an18 od19 an19 od24 an24 : Option Addr} {sl0 sl1 sl2 sl3 sl4 sl5 sl6 sl7 sl8 sl9 sl10 sl11 sl12 sl13 sl14 sl15 sl16 sl17 sl18 sl19 sl24 : Array (Option Value)} {rest20 rest21 rest22 rest23 : List Value} (X : K.In h) (G : h.Ns mainGlobals mg)
    (a : PySem.W.nsIn K mainGlobals "Charge" = some (some (.ref C)))
    (kpg : PySem.W.plainGet K C Str.empty = true)
    (khd : PySem.W.hasDictIn K C = true)
    (kpo : PySem.W.plainOver K C = true)
    (ksa : PySem.W.findIn K (.ref C) "__setattr__" = some (some (.builtin "object.__setattr__")))
    (kha : PySem.W.findIn K (.ref C) "__class__" = some (some (.builtin "object.__class__")))
    (khn : PySem.W.specialIn K (.builtin "object.__class__") "__get__" = some (some (.builtin "getset_descriptor.__get__")))
    (khtk : PySem.W.takesIn K (.builtin "object.__class__") = some true)
    (khm : PySem.W.mroIn K C (.type "object") = some true)
    (kty : PySem.W.typeIn K (.ref C) = some (.type "type"))
    (kne : PySem.W.findIn K (.ref C) "__ne__" = some (some (.builtin "object.__ne__")))
    (n1 : PySem.W.findIn K (.ref C) "_things" = some none)
    (n2 : PySem.W.findIn K (.ref C) "_unit" = some none)
    (n3 : PySem.W.findIn K (.ref C) "_pays" = some none)
    (mks : PySem.W.makesIn K C = true)
    (kC : PySem.W.keepIn K (.ref C) = true)
    (at0 : PySem.W.findIn K (.ref C) "__init__" = some (some (.ref f0)))
    (fn0 : PySem.W.isFn K (.ref f0) = true)
    (l0 : K.lookup f0 = some ⟨oc0, od0, .func (PySem.W.fnOf "__init__" "Charge.__init__" (defArgs s_Charge_init) (defBody s_Charge_init) (defScope s_Charge_init) .none (.ref D) dc0 pm0 an0 cd0 ct0), sl0⟩)
    (c0 : PySem.W.codeIn K cd0 "Charge.__init__" = true)
    (k0 : PySem.W.keepIn K (.ref f0) = true)
    (uD : PySem.W.nsIn K D "unit" = some (some u))
    (ru : RelV (.int 1) u)
    (sf : PySem.W.selfFirst K C = true)
    (at1 : PySem.W.findIn K (.ref C) "things" = some (some (.ref g20)))
    (gt1 : PySem.W.specialIn K (.ref g20) "__get__" = some (some (.builtin "property.__get__")))
    (tk1 : PySem.W.takesIn K (.ref g20) = some true)
    (rc1 : PySem.W.recIn K g20 "property" = some (.ref f1 :: rest20))
    (l1 : K.lookup f1 = some ⟨oc1, od1, .func (PySem.W.fnOf "things" "Charge.things" (defArgs s_Charge_things) (defBody s_Charge_things) (defScope s_Charge_things) .none kV1 dc1 pm1 an1 cd1 ct1), sl1⟩)
    (c1 : PySem.W.codeIn K cd1 "Charge.things" = true)
    (k1 : PySem.W.keepIn K (.ref f1) = true)
    (at2 : PySem.W.findIn K (.ref C) "unit" = some (some (.ref g21)))
    (gt2 : PySem.W.specialIn K (.ref g21) "__get__" = some (some (.builtin "property.__get__")))
    (tk2 : PySem.W.takesIn K (.ref g21) = some true)
    (rc2 : PySem.W.recIn K g21 "property" = some (.ref f2 :: rest21))
    (l2 : K.lookup f2 = some ⟨oc2, od2, .func (PySem.W.fnOf "unit" "Charge.unit" (defArgs s_Charge_unit) (defBody s_Charge_unit) (defScope s_Charge_unit) .none kV2 dc2 pm2 an2 cd2 ct2), sl2⟩)
    (c2 : PySem.W.codeIn K cd2 "Charge.unit" = true)
    (k2 : PySem.W.keepIn K (.ref f2) = true)
    (at3 : PySem.W.findIn K (.ref C) "pays" = some (some (.ref g22)))
    (gt3 : PySem.W.specialIn K (.ref g22) "__get__" = some (some (.builtin "property.__get__")))
    (tk3 : PySem.W.takesIn K (.ref g22) = some true)
    (rc3 : PySem.W.recIn K g22 "property" = some (.ref f3 :: rest22))
    (l3 : K.lookup f3 = some ⟨oc3, od3, .func (PySem.W.fnOf "pays" "Charge.pays" (defArgs s_Charge_pays) (defBody s_Charge_pays) (defScope s_Charge_pays) .none kV3 dc3 pm3 an3 cd3 ct3), sl3⟩)
    (c3 : PySem.W.codeIn K cd3 "Charge.pays" = true)
    (k3 : PySem.W.keepIn K (.ref f3) = true)
    (at4 : PySem.W.findIn K (.ref C) "total" = some (some (.ref g23)))
    (gt4 : PySem.W.specialIn K (.ref g23) "__get__" = some (some (.builtin "property.__get__")))
    (tk4 : PySem.W.takesIn K (.ref g23) = some true)
    (rc4 : PySem.W.recIn K g23 "property" = some (.ref f4 :: rest23))
    (l4 : K.lookup f4 = some ⟨oc4, od4, .func (PySem.W.fnOf "total" "Charge.total" (defArgs s_Charge_total) (defBody s_Charge_total) (defScope s_Charge_total) .none kV4 dc4 pm4 an4 cd4 ct4), sl4⟩)
    (c4 : PySem.W.codeIn K cd4 "Charge.total" = true)
    (k4 : PySem.W.keepIn K (.ref f4) = true)
    (at5 : PySem.W.findIn K (.ref C) "of" = some (some (.ref f5)))
    (fn5 : PySem.W.isFn K (.ref f5) = true)
    (l5 : K.lookup f5 = some ⟨oc5, od5, .func (PySem.W.fnOf "of" "Charge.of" (defArgs s_Charge_of) (defBody s_Charge_of) (defScope s_Charge_of) .none kV5 dc5 pm5 an5 cd5 ct5), sl5⟩)
    (c5 : PySem.W.codeIn K cd5 "Charge.of" = true)
    (k5 : PySem.W.keepIn K (.ref f5) = true)
    (at6 : PySem.W.findIn K (.ref C) "cut" = some (some (.ref f6)))
    (fn6 : PySem.W.isFn K (.ref f6) = true)
    (l6 : K.lookup f6 = some ⟨oc6, od6, .func (PySem.W.fnOf "cut" "Charge.cut" (defArgs s_Charge_cut) (defBody s_Charge_cut) (defScope s_Charge_cut) .none kV6 dc6 pm6 an6 cd6 ct6), sl6⟩)
    (c6 : PySem.W.codeIn K cd6 "Charge.cut" = true)
    (k6 : PySem.W.keepIn K (.ref f6) = true)
    (at7 : PySem.W.findIn K (.ref C) "__len__" = some (some (.ref f7)))
    (fn7 : PySem.W.isFn K (.ref f7) = true)
    (l7 : K.lookup f7 = some ⟨oc7, od7, .func (PySem.W.fnOf "__len__" "Charge.__len__" (defArgs s_Charge_len) (defBody s_Charge_len) (defScope s_Charge_len) .none kV7 dc7 pm7 an7 cd7 ct7), sl7⟩)
    (c7 : PySem.W.codeIn K cd7 "Charge.__len__" = true)
    (k7 : PySem.W.keepIn K (.ref f7) = true)
    (at8 : PySem.W.findIn K (.ref C) "__str__" = some (some (.ref f8)))
    (fn8 : PySem.W.isFn K (.ref f8) = true)
    (l8 : K.lookup f8 = some ⟨oc8, od8, .func (PySem.W.fnOf "__str__" "Charge.__str__" (defArgs s_Charge_str) (defBody s_Charge_str) (defScope s_Charge_str) .none kV8 dc8 pm8 an8 cd8 ct8), sl8⟩)
    (c8 : PySem.W.codeIn K cd8 "Charge.__str__" = true)
    (k8 : PySem.W.keepIn K (.ref f8) = true)
    (at9 : PySem.W.findIn K (.ref C) "__iter__" = some (some (.ref f9)))
    (fn9 : PySem.W.isFn K (.ref f9) = true)
    (l9 : K.lookup f9 = some ⟨oc9, od9, .func (PySem.W.fnOf "__iter__" "Charge.__iter__" (defArgs s_Charge_iter) (defBody s_Charge_iter) (defScope s_Charge_iter) .none kV9 dc9 pm9 an9 cd9 ct9), sl9⟩)
    (c9 : PySem.W.codeIn K cd9 "Charge.__iter__" = true)
    (k9 : PySem.W.keepIn K (.ref f9) = true)
    (at10 : PySem.W.findIn K (.ref C) "__getitem__" = some (some (.ref f10)))
    (fn10 : PySem.W.isFn K (.ref f10) = true)
    (l10 : K.lookup f10 = some ⟨oc10, od10, .func (PySem.W.fnOf "__getitem__" "Charge.__getitem__" (defArgs s_Charge_getitem) (defBody s_Charge_getitem) (defScope s_Charge_getitem) .none kV10 dc10 pm10 an10 cd10 ct10), sl10⟩)
    (c10 : PySem.W.codeIn K cd10 "Charge.__getitem__" = true)
    (k10 : PySem.W.keepIn K (.ref f10) = true)
    (gfn : PySem.W.fnIn K f10 = true)
    (at11 : PySem.W.findIn K (.ref C) "__contains__" = some (some (.ref f11)))
    (fn11 : PySem.W.isFn K (.ref f11) = true)
    (l11 : K.lookup f11 = some ⟨oc11, od11, .func (PySem.W.fnOf "__contains__" "Charge.__contains__" (defArgs s_Charge_contains) (defBody s_Charge_contains) (defScope s_Charge_contains) .none kV11 dc11 pm11 an11 cd11 ct11), sl11⟩)
    (c11 : PySem.W.codeIn K cd11 "Charge.__contains__" = true)
    (k11 : PySem.W.keepIn K (.ref f11) = true)
    (at12 : PySem.W.findIn K (.ref C) "__eq__" = some (some (.ref f12)))
    (fn12 : PySem.W.isFn K (.ref f12) = true)
    (l12 : K.lookup f12 = some ⟨oc12, od12, .func (PySem.W.fnOf "__eq__" "Charge.__eq__" (defArgs s_Charge_eq) (defBody s_Charge_eq) (defScope s_Charge_eq) .none kV12 dc12 pm12 an12 cd12 ct12), sl12⟩)
    (c12 : PySem.W.codeIn K cd12 "Charge.__eq__" = true)
    (k12 : PySem.W.keepIn K (.ref f12) = true)
    (at13 : PySem.W.findIn K (.ref C) "_check_group" = some (some (.ref f13)))
    (fn13 : PySem.W.isFn K (.ref f13) = true)
    (l13 : K.lookup f13 = some ⟨oc13, od13, .func (PySem.W.fnOf "_check_group" "Charge._check_group" (defArgs s_Chargecheck_group) (defBody s_Chargecheck_group) (defScope s_Chargecheck_group) .none kV13 dc13 pm13 an13 cd13 ct13), sl13⟩)
    (c13 : PySem.W.codeIn K cd13 "Charge._check_group" = true)
    (k13 : PySem.W.keepIn K (.ref f13) = true)
    (at14 : PySem.W.findIn K (.ref C) "_sum" = some (some (.ref f14)))
    (fn14 : PySem.W.isFn K (.ref f14) = true)
    (l14 : K.lookup f14 = some ⟨oc14, od14, .func (PySem.W.fnOf "_sum" "Charge._sum" (defArgs s_Chargesum) (defBody s_Chargesum) (defScope s_Chargesum) .none kV14 dc14 pm14 an14 cd14 ct14), sl14⟩)
    (c14 : PySem.W.codeIn K cd14 "Charge._sum" = true)
    (k14 : PySem.W.keepIn K (.ref f14) = true)
    (at15 : PySem.W.findIn K (.ref C) "times" = some (some (.ref f15)))
    (fn15 : PySem.W.isFn K (.ref f15) = true)
    (l15 : K.lookup f15 = some ⟨oc15, od15, .func (PySem.W.fnOf "times" "Charge.times" (defArgs s_Charge_times) (defBody s_Charge_times) (defScope s_Charge_times) (.ref T) kV15 dc15 pm15 an15 cd15 ct15), sl15⟩)
    (c15 : PySem.W.codeIn K cd15 "Charge.times" = true)
    (k15 : PySem.W.keepIn K (.ref f15) = true)
    (lT : K.lookup T = some ⟨ocT, odT, .seq #[t1] nT, slT⟩)
    (rT : RelV (.int 1) t1)
    (at16 : PySem.W.findIn K (.ref C) "mixed" = some (some (.ref f16)))
    (fn16 : PySem.W.isFn K (.ref f16) = true)
    (l16 : K.lookup f16 = some ⟨oc16, od16, .func (PySem.W.fnOf "mixed" "Charge.mixed" (defArgs s_Charge_mixed) (defBody s_Charge_mixed) (defScope s_Charge_mixed) .none kV16 dc16 pm16 an16 cd16 ct16), sl16⟩)
    (c16 : PySem.W.codeIn K cd16 "Charge.mixed" = true)
    (k16 : PySem.W.keepIn K (.ref f16) = true)
    (at17 : PySem.W.findIn K (.ref C) "put_beside" = some (some (.ref f17)))
    (fn17 : PySem.W.isFn K (.ref f17) = true)
    (l17 : K.lookup f17 = some ⟨oc17, od17, .func (PySem.W.fnOf "put_beside" "Charge.put_beside" (defArgs s_Charge_put_beside) (defBody s_Charge_put_beside) (defScope s_Charge_put_beside) .none kV17 dc17 pm17 an17 cd17 ct17), sl17⟩)
    (c17 : PySem.W.codeIn K cd17 "Charge.put_beside" = true)
    (k17 : PySem.W.keepIn K (.ref f17) = true)
    (at18 : PySem.W.findIn K (.ref C) "_is_alike" = some (some (.ref f18)))
    (fn18 : PySem.W.isFn K (.ref f18) = true)
    (l18 : K.lookup f18 = some ⟨oc18, od18, .func (PySem.W.fnOf "_is_alike" "Charge._is_alike" (defArgs s_Chargeis_alike) (defBody s_Chargeis_alike) (defScope s_Chargeis_alike) .none kV18 dc18 pm18 an18 cd18 ct18), sl18⟩)
    (c18 : PySem.W.codeIn K cd18 "Charge._is_alike" = true)
    (k18 : PySem.W.keepIn K (.ref f18) = true)
    (at19 : PySem.W.findIn K (.ref C) "__add__" = some (some (.ref f19)))
    (fn19 : PySem.W.isFn K (.ref f19) = true)
    (l19 : K.lookup f19 = some ⟨oc19, od19, .func (PySem.W.fnOf "__add__" "Charge.__add__" (defArgs s_Charge_add) (defBody s_Charge_add) (defScope s_Charge_add) .none kV19 dc19 pm19 an19 cd19 ct19), sl19⟩)
    (c19 : PySem.W.codeIn K cd19 "Charge.__add__" = true)
    (k19 : PySem.W.keepIn K (.ref f19) = true)
    (at24 : PySem.W.findIn K (.ref C) "__sub__" = some (some (.ref f24)))
    (fn24 : PySem.W.isFn K (.ref f24) = true)
    (l24 : K.lookup f24 = some ⟨oc24, od24, .func (PySem.W.fnOf "__sub__" "Charge.__sub__" (defArgs s_Charge_sub) (defBody s_Charge_sub) (defScope s_Charge_sub) .none kV24 dc24 pm24 an24 cd24 ct24), sl24⟩)
    (c24 : PySem.W.codeIn K cd24 "Charge.__sub__" = true)
    (k24 : PySem.W.keepIn K (.ref f24) = true)
    : ∃ C ad fdd, Cls9 K mg C ad fdd := by
  have F0 : FunD K "__init__" "Charge.__init__" (defArgs s_Charge_init) (defBody s_Charge_init) (defScope s_Charge_init) [] [("unit", .int 1)] f0 _ := ⟨⟨_, _, _, _, _, _, _, _, _, _, rfl, l0, c0, .inl ⟨rfl, rfl⟩, .inr ⟨D, rfl, fun q hq => by rw [List.mem_singleton] at hq; subst hq; exact ⟨u, uD, ru⟩⟩⟩, k0⟩
  have B1 : ∃ ds, Vals [V.int 1] ds ∧ Binds K _ P_Charge_init ds := F0.binds0 (ps := P_Charge_init) 2 (by simp) rfl (fun D doc pm an cdv ct us ks h1 h2 => match us, h1, ks, h2 with | [_, _], _, [_], _ => ⟨_, _, _, _, _, _, rfl, rfl, rfl⟩)
  obtain ⟨mv, BK⟩ := F0.kbinds0 (ps := P_Charge_init) 2 ["unit"] [] (fun us _ ws => us ++ ws) (by simp) (fun q hq => by cases hq) (fun a _ c => a.append c) (fun D doc pm an cdv ct us mv ws h1 h2 h3 => match us, h1, mv, h2, ws, h3 with | [_, _], _, [], _, [_], _ => rfl)
  have F1 := fun_mk (st := s_Charge_things) l1 c1 k1
  have F2 := fun_mk (st := s_Charge_unit) l2 c2 k2
  have F3 := fun_mk (st := s_Charge_pays) l3 c3 k3
  have F4 := fun_mk (st := s_Charge_total) l4 c4 k4
  have F5 := fun_mk (st := s_Charge_of) l5 c5 k5
  have F6 := fun_mk (st := s_Charge_cut) l6 c6 k6
  have F7 := fun_mk (st := s_Charge_len) l7 c7 k7
  have F8 := fun_mk (st := s_Charge_str) l8 c8 k8
  have F9 := fun_mk (st := s_Charge_iter) l9 c9 k9
  have F10 := fun_mk (st := s_Charge_getitem) l10 c10 k10
  have F11 := fun_mk (st := s_Charge_contains) l11 c11 k11
  have F12 := fun_mk (st := s_Charge_eq) l12 c12 k12
  have F13 := fun_mk (st := s_Chargecheck_group) l13 c13 k13
  have F14 := fun_mk (st := s_Chargesum) l14 c14 k14
  have F15 : FunD K "times" "Charge.times" (defArgs s_Charge_times) (defBody s_Charge_times) (defScope s_Charge_times) [.int 1] [] f15 _ := ⟨⟨_, _, _, _, _, _, _, _, _, _, rfl, l15, c15, .inr ⟨by simp, T, _, [t1], _, rfl, lT, rfl, .cons rT .nil⟩, .inl rfl⟩, k15⟩
  obtain ⟨e15, r15, b15⟩ := F15.binds1 (ps := P_Charge_times) 3 1 (by simp) rfl (fun T kV doc pm an cdv ct us its h1 h2 => match us, h1, its, h2 with | [_, _, _], _, [_], _ => ⟨_, rfl, rfl⟩)
  obtain rfl : e15 = [] := by cases r15; rfl
  have B15 := F15.binds1 (ps := P_Charge_times) 2 0 (by simp) rfl (fun T kV doc pm an cdv ct us its h1 h2 => match us, h1, its, h2 with | [_, _], _, [_], _ => ⟨_, rfl, rfl⟩)
  have F16 := fun_mk (st := s_Charge_mixed) l16 c16 k16
  have F17 := fun_mk (st := s_Charge_put_beside) l17 c17 k17
  have F18 := fun_mk (st := s_Chargeis_alike) l18 c18 k18
  have F19 := fun_mk (st := s_Charge_add) l19 c19 k19
  have F24 := fun_mk (st := s_Charge_sub) l24 c24 k24
  refine ⟨C, fun n => [f0, f1, f2, f3, f4, f5, f6, f7, f8, f9, f10, f11, f12, f13, f14, f15, f16, f17, f18, f19, g20, g21, g22, g23, f24].getD n 0, fun n => [_, PySem.W.fnOf "things" "Charge.things" (defArgs s_Charge_things) (defBody s_Charge_things) (defScope s_Charge_things) .none kV1 dc1 pm1 an1 cd1 ct1, PySem.W.fnOf "unit" "Charge.unit" (defArgs s_Charge_unit) (defBody s_Charge_unit) (defScope s_Charge_unit) .none kV2 dc2 pm2 an2 cd2 ct2, PySem.W.fnOf "pays" "Charge.pays" (defArgs s_Charge_pays) (defBody s_Charge_pays) (defScope s_Charge_pays) .none kV3 dc3 pm3 an3 cd3 ct3, PySem.W.fnOf "total" "Charge.total" (defArgs s_Charge_total) (defBody s_Charge_total) (defScope s_Charge_total) .none kV4 dc4 pm4 an4 cd4 ct4, PySem.W.fnOf "of" "Charge.of" (defArgs s_Charge_of) (defBody s_Charge_of) (defScope s_Charge_of) .none kV5 dc5 pm5 an5 cd5 ct5, PySem.W.fnOf "cut" "Charge.cut" (defArgs s_Charge_cut) (defBody s_Charge_cut) (defScope s_Charge_cut) .none kV6 dc6 pm6 an6 cd6 ct6, PySem.W.fnOf "__len__" "Charge.__len__" (defArgs s_Charge_len) (defBody s_Charge_len) (defScope s_Charge_len) .none kV7 dc7 pm7 an7 cd7 ct7, PySem.W.fnOf "__str__" "Charge.__str__" (defArgs s_Charge_str) (defBody s_Charge_str) (defScope s_Charge_str) .none kV8 dc8 pm8 an8 cd8 ct8, PySem.W.fnOf "__iter__" "Charge.__iter__" (defArgs s_Charge_iter) (defBody s_Charge_iter) (defScope s_Charge_iter) .none kV9 dc9 pm9 an9 cd9 ct9, PySem.W.fnOf "__getitem__" "Charge.__getitem__" (defArgs s_Charge_getitem) (defBody s_Charge_getitem) (defScope s_Charge_getitem) .none kV10 dc10 pm10 an10 cd10 ct10, PySem.W.fnOf "__contains__" "Charge.__contains__" (defArgs s_Charge_contains) (defBody s_Charge_contains) (defScope s_Charge_contains) .none kV11 dc11 pm11 an11 cd11 ct11, PySem.W.fnOf "__eq__" "Charge.__eq__" (defArgs s_Charge_eq) (defBody s_Charge_eq) (defScope s_Charge_eq) .none kV12 dc12 pm12 an12 cd12 ct12, PySem.W.fnOf "_check_group" "Charge._check_group" (defArgs s_Chargecheck_group) (defBody s_Chargecheck_group) (defScope s_Chargecheck_group) .none kV13 dc13 pm13 an13 cd13 ct13, PySem.W.fnOf "_sum" "Charge._sum" (defArgs s_Chargesum) (defBody s_Chargesum) (defScope s_Chargesum) .none kV14 dc14 pm14 an14 cd14 ct14, PySem.W.fnOf "times" "Charge.times" (defArgs s_Charge_times) (defBody s_Charge_times) (defScope s_Charge_times) (.ref T) kV15 dc15 pm15 an15 cd15 ct15, PySem.W.fnOf "mixed" "Charge.mixed" (defArgs s_Charge_mixed) (defBody s_Charge_mixed) (defScope s_Charge_mixed) .none kV16 dc16 pm16 an16 cd16 ct16, PySem.W.fnOf "put_beside" "Charge.put_beside" (defArgs s_Charge_put_beside) (defBody s_Charge_put_beside) (defScope s_Charge_put_beside) .none kV17 dc17 pm17 an17 cd17 ct17, PySem.W.fnOf "_is_alike" "Charge._is_alike" (defArgs s_Chargeis_alike) (defBody s_Chargeis_alike) (defScope s_Chargeis_alike) .none kV18 dc18 pm18 an18 cd18 ct18, PySem.W.fnOf "__add__" "Charge.__add__" (defArgs s_Charge_add) (defBody s_Charge_add) (defScope s_Charge_add) .none kV19 dc19 pm19 an19 cd19 ct19, (PySem.W.fnOf "__init__" "Charge.__init__" (defArgs s_Charge_init) (defBody s_Charge_init) (defScope s_Charge_init) .none (.ref D) dc0 pm0 an0 cd0 ct0), (PySem.W.fnOf "__init__" "Charge.__init__" (defArgs s_Charge_init) (defBody s_Charge_init) (defScope s_Charge_init) .none (.ref D) dc0 pm0 an0 cd0 ct0), (PySem.W.fnOf "__init__" "Charge.__init__" (defArgs s_Charge_init) (defBody s_Charge_init) (defScope s_Charge_init) .none (.ref D) dc0 pm0 an0 cd0 ct0), (PySem.W.fnOf "__init__" "Charge.__init__" (defArgs s_Charge_init) (defBody s_Charge_init) (defScope s_Charge_init) .none (.ref D) dc0 pm0 an0 cd0 ct0), PySem.W.fnOf "__sub__" "Charge.__sub__" (defArgs s_Charge_sub) (defBody s_Charge_sub) (defScope s_Charge_sub) .none kV24 dc24 pm24 an24 cd24 ct24].getD n (PySem.W.fnOf "__init__" "Charge.__init__" (defArgs s_Charge_init) (defBody s_Charge_init) (defScope s_Charge_init) .none (.ref D) dc0 pm0 an0 cd0 ct0), ⟨PySem.W.mg_of X G a, ⟨kpg, khd, kpo, ksa⟩, kha, khn, khtk, khm, kty, kne⟩, ⟨n1, n2, n3⟩, fun g e => ?_, ⟨F0, ⟨mks, at0, fn0, kC⟩, B1, BK⟩, ⟨F1, (F1.binds (ps := P_Charge_things) fun _ _ _ _ _ _ us hl => match us, hl with | [_], _ => rfl), ⟨at1, gt1, tk1, _, rc1⟩⟩, ⟨F2, (F2.binds (ps := P_Charge_unit) fun _ _ _ _ _ _ us hl => match us, hl with | [_], _ => rfl), ⟨at2, gt2, tk2, _, rc2⟩⟩, ⟨F3, (F3.binds (ps := P_Charge_pays) fun _ _ _ _ _ _ us hl => match us, hl with | [_], _ => rfl), ⟨at3, gt3, tk3, _, rc3⟩⟩, ⟨F4, (F4.binds (ps := P_Charge_total) fun _ _ _ _ _ _ us hl => match us, hl with | [_], _ => rfl), ⟨at4, gt4, tk4, _, rc4⟩⟩, ⟨F5, (F5.binds (ps := P_Charge_of) fun _ _ _ _ _ _ us hl => match us, hl with | [_, _], _ => rfl), ⟨at5, fn5, k5⟩⟩, ⟨F6, (F6.binds (ps := P_Charge_cut) fun _ _ _ _ _ _ us hl => match us, hl with | [_, _], _ => rfl), ⟨at6, fn6, k6⟩⟩, ⟨F7, (F7.binds (ps := P_Charge_len) fun _ _ _ _ _ _ us hl => match us, hl with | [_], _ => rfl), ⟨at7, fn7, k7⟩⟩, ⟨F8, (F8.binds (ps := P_Charge_str) fun _ _ _ _ _ _ us hl => match us, hl with | [_], _ => rfl), ⟨at8, fn8, k8⟩⟩, ⟨F9, (F9.binds (ps := P_Charge_iter) fun _ _ _ _ _ _ us hl => match us, hl with | [_], _ => rfl), ⟨at9, fn9, k9⟩⟩, ⟨F10, (F10.binds (ps := P_Charge_getitem) fun _ _ _ _ _ _ us hl => match us, hl with | [_, _], _ => rfl), ⟨at10, fn10, k10⟩⟩, ⟨F11, (F11.binds (ps := P_Charge_contains) fun _ _ _ _ _ _ us hl => match us, hl with | [_, _], _ => rfl), ⟨at11, fn11, k11⟩⟩, ⟨F12, (F12.binds (ps := P_Charge_eq) fun _ _ _ _ _ _ us hl => match us, hl with | [_, _], _ => rfl), ⟨at12, fn12, k12⟩⟩, ⟨F13, (F13.binds (ps := P_Chargecheck_group) fun _ _ _ _ _ _ us hl => match us, hl with | [_, _], _ => rfl), ⟨at13, fn13, k13⟩⟩, ⟨F14, (F14.binds (ps := P_Chargesum) fun _ _ _ _ _ _ us hl => match us, hl with | [_, _], _ => rfl), ⟨at14, fn14, k14⟩⟩, ⟨F15, b15, B15, ⟨at15, fn15, k15⟩⟩, ⟨F16, (F16.binds (ps := P_Charge_mixed) fun _ _ _ _ _ _ us hl => match us, hl with | [_, _, _, _], _ => rfl), ⟨at16, fn16, k16⟩⟩, ⟨F17, (F17.binds (ps := P_Charge_put_beside) fun _ _ _ _ _ _ us hl => match us, hl with | [_, _], _ => rfl), ⟨at17, fn17, k17⟩⟩, ⟨F18, (F18.binds (ps := P_Chargeis_alike) fun _ _ _ _ _ _ us hl => match us, hl with | [_, _], _ => rfl), ⟨at18, fn18, k18⟩⟩, ⟨F19, (F19.binds (ps := P_Charge_add) fun _ _ _ _ _ _ us hl => match us, hl with | [_, _], _ => rfl), ⟨at19, fn19, k19⟩⟩, ⟨F24, (F24.binds (ps := P_Charge_sub) fun _ _ _ _ _ _ us hl => match us, hl with | [_, _], _ => rfl), ⟨at24, fn24, k24⟩⟩, sf⟩
  rw [at10] at e
  cases e
  exact gfn
end

theorem walk {l : PySem.W.OpenLaw} {q : Program} {loose : List Str} {XP : (Str → Option Value) → Heap → Prop} {YP : World → Heap → Prop} {d : DefRec} {K : Params → PySem.W.Frag} (hn : l.most = some 63) (hdf : d.params.defaults = [])
    (hY : ∀ (w : World) (h : Heap), YP w h → (K w.params).In h)
    (F : ∀ (w : World) (mg : Str → Option Value) (fa : Addr) (h : Heap), (K w.params).In h → h.Ns mainGlobals mg → mg d.name = some (.ref fa) →
      ∃ (C : Addr) (ad : Nat → Addr) (fdd : Nat → FuncData) (bd : Nat → Addr) (bdd : Nat → FuncData) (fd : FuncData), All9 (K w.params) mg C ad fdd bd bdd ∧ Fun (K w.params) "law" "law" s_law fa fd ∧ ∀ (s : Shared) (u : Value), BindsTo s fd ⟨[u], []⟩ [("_law_script", u)]) :
    PySem.W.WalkO q loose XP YP l.row.toRowW d [] (fun f vs => PySem.call f vs) := by
  refine Att.attach_call hn hdf fun w s0 s1 mg mb fa o pm cd doc a vs ns G Y ho hd hcd hmg hobj hints hlen hg => ?_
  have KX := hY w _ Y
  obtain ⟨C, ad, fdd, bd, bdd, fd, Z, Fl, hb⟩ := F w mg fa _ KX G.T.g hmg
  exact law_at (k := 12) (N := N_law) KX G.T.g G.T.b G.T.builtins G.T.nolimit hg hobj hints (Nat.le_trans hlen (by decide)) ⟨rfl, by decide, by decide⟩ Fl sc_law hb fun base H cdv kB nB hS hr => law_body (Q := fun v _ => v = .bl true) (outer := []) Z hr hS hlen (fun _ => rfl)
end V0
open PySem PySem.W PyProof.Rows L2
set_option maxRecDepth 100000 in
set_option maxHeartbeats 0 in
theorem PySem.Challenge.cw_huebill_k09_whole_sums_and_shares_of_cha_holds : PySem.Challenge.rw_huebill_k09_whole_sums_and_shares_of_cha.Holds := by
  w_on; o_law; k_head; (case hw => w_witness2)
  k_fill
  refine V0.walk (l := PySem.Challenge.rw_huebill_k09_whole_sums_and_shares_of_cha) rfl rfl (fun w h Y => PySem.W.kIn_of Y) ?F
  case F =>
    intro w mg fa h KX G hmg
    have z0 : mg "len" = none := by (refine PySem.W.mg_none_of KX G ?z; (case z => k_is))
    have z1 : mg "abs" = none := by (refine PySem.W.mg_none_of KX G ?z; (case z => k_is))
    have z2 : mg "max" = none := by (refine PySem.W.mg_none_of KX G ?z; (case z => k_is))
    have z3 : mg "min" = none := by (refine PySem.W.mg_none_of KX G ?z; (case z => k_is))
    have z4 : mg "int" = none := by (refine PySem.W.mg_none_of KX G ?z; (case z => k_is))
    have z5 : mg "bool" = none := by (refine PySem.W.mg_none_of KX G ?z; (case z => k_is))
    have z6 : mg "str" = none := by (refine PySem.W.mg_none_of KX G ?z; (case z => k_is))
    have z7 : mg "tuple" = none := by (refine PySem.W.mg_none_of KX G ?z; (case z => k_is))
    have z8 : mg "list" = none := by (refine PySem.W.mg_none_of KX G ?z; (case z => k_is))
    have z9 : mg "dict" = none := by (refine PySem.W.mg_none_of KX G ?z; (case z => k_is))
    have z10 : mg "all" = none := by (refine PySem.W.mg_none_of KX G ?z; (case z => k_is))
    have z11 : mg "any" = none := by (refine PySem.W.mg_none_of KX G ?z; (case z => k_is))
    have z12 : mg "sum" = none := by (refine PySem.W.mg_none_of KX G ?z; (case z => k_is))
    have z13 : mg "repr" = none := by (refine PySem.W.mg_none_of KX G ?z; (case z => k_is))
    have z14 : mg "isinstance" = none := by (refine PySem.W.mg_none_of KX G ?z; (case z => k_is))
    have z15 : mg "range" = none := by (refine PySem.W.mg_none_of KX G ?z; (case z => k_is))
    have z16 : mg "sorted" = none := by (refine PySem.W.mg_none_of KX G ?z; (case z => k_is))
    have z17 : mg "zip" = none := by (refine PySem.W.mg_none_of KX G ?z; (case z => k_is))
    have z18 : mg "iter" = none := by (refine PySem.W.mg_none_of KX G ?z; (case z => k_is))
    have hB : V0.Bl mg := ⟨z0, z1, z2, z3, z4, z5, z6, z7, z8, z9, z10, z11, z12, z13, z14, z15⟩
    have hM : V0.Bm mg := ⟨z16, z17, z18⟩
    have c0 : V0.GV mg "_TOO_LONG" (.int V0.TL) := by (refine' V0.gv_mk KX G ?r ?a; (case a => k_is); (case r => exact ⟨_, rfl⟩))
    have c1 : V0.GV mg "_CHUNK" (.int V0.CH) := by (refine' V0.gv_mk KX G ?r ?a; (case a => k_is); (case r => exact ⟨_, rfl⟩))
    have c2 : V0.GV mg "_CHUNK_DIGITS" (.int 64) := by (refine' V0.gv_mk KX G ?r ?a; (case a => k_is); (case r => exact ⟨_, rfl⟩))
    have c3 : V0.GV mg "MAX_NAME" (.int 8) := by (refine' V0.gv_mk KX G ?r ?a; (case a => k_is); (case r => exact ⟨_, rfl⟩))
    have c4 : V0.GV mg "MAX_THINGS" (.int 8) := by (refine' V0.gv_mk KX G ?r ?a; (case a => k_is); (case r => exact ⟨_, rfl⟩))
    have c5 : V0.GV mg "_LETTERS" (.str V0.LET) := by (refine' V0.gv_mk KX G ?r ?a; (case a => k_is); (case r => exact ⟨_, rfl⟩))
    have c9 : mg "gcd" = some (.builtin "math.gcd") := by (refine PySem.W.mg_of KX G ?a; (case a => k_is))
    have hC : V0.Nm mg := ⟨c0, c1, c2, c3, c4, c5, c9⟩
    obtain ⟨C, ad, fdd, Zc⟩ : ∃ C ad fdd, V0.Cls9 _ mg C ad fdd := by
      refine' V0.cls_mk KX G ?a ?kpg ?khd ?kpo ?ksa ?kha ?khn ?khtk ?khm ?kty ?kne ?n1 ?n2 ?n3 ?mks ?kC ?at0 ?fn0 ?l0 ?c0 ?k0 ?uD ?ru ?sf ?at1 ?gt1 ?tk1 ?rc1 ?l1 ?c1 ?k1 ?at2 ?gt2 ?tk2 ?rc2 ?l2 ?c2 ?k2 ?at3 ?gt3 ?tk3 ?rc3 ?l3 ?c3 ?k3 ?at4 ?gt4 ?tk4 ?rc4 ?l4 ?c4 ?k4 ?at5 ?fn5 ?l5 ?c5 ?k5 ?at6 ?fn6 ?l6 ?c6 ?k6 ?at7 ?fn7 ?l7 ?c7 ?k7 ?at8 ?fn8 ?l8 ?c8 ?k8 ?at9 ?fn9 ?l9 ?c9 ?k9 ?at10 ?fn10 ?l10 ?c10 ?k10 ?gfn ?at11 ?fn11 ?l11 ?c11 ?k11 ?at12 ?fn12 ?l12 ?c12 ?k12 ?at13 ?fn13 ?l13 ?c13 ?k13 ?at14 ?fn14 ?l14 ?c14 ?k14 ?at15 ?fn15 ?l15 ?c15 ?k15 ?lT ?rT ?at16 ?fn16 ?l16 ?c16 ?k16 ?at17 ?fn17 ?l17 ?c17 ?k17 ?at18 ?fn18 ?l18 ?c18 ?k18 ?at19 ?fn19 ?l19 ?c19 ?k19 ?at24 ?fn24 ?l24 ?c24 ?k24
      (case a => k_is)
      (case kpg => k_is)
      (case khd => k_is)
      (case kpo => k_is)
      (case ksa => k_is)
      (case kha => k_is)
      (case khn => k_is)
      (case khtk => k_is)
      (case khm => k_is)
      (case kty => k_is)
      (case kne => k_is)
      (case n1 => k_is)
      (case n2 => k_is)
      (case n3 => k_is)
      (case mks => k_is)
      (case kC => k_is)
      (case at0 => k_is)
      (case fn0 => k_is)
      (case l0 => k_is)
      (case c0 => k_is)
      (case k0 => k_is)
      (case uD => k_is)
      (case ru => exact ⟨_, rfl⟩)
      (case sf => k_is)
      (case at1 => k_is)
      (case gt1 => k_is)
      (case tk1 => k_is)
      (case rc1 => k_is)
      (case l1 => k_is)
      (case c1 => k_is)
      (case k1 => k_is)
      (case at2 => k_is)
      (case gt2 => k_is)
      (case tk2 => k_is)
      (case rc2 => k_is)
      (case l2 => k_is)
      (case c2 => k_is)
      (case k2 => k_is)
      (case at3 => k_is)
      (case gt3 => k_is)
      (case tk3 => k_is)
      (case rc3 => k_is)
      (case l3 => k_is)
      (case c3 => k_is)
      (case k3 => k_is)
      (case at4 => k_is)
      (case gt4 => k_is)
      (case tk4 => k_is)
      (case rc4 => k_is)
      (case l4 => k_is)
      (case c4 => k_is)
      (case k4 => k_is)
      (case at5 => k_is)
      (case fn5 => k_is)
      (case l5 => k_is)
      (case c5 => k_is)
      (case k5 => k_is)
      (case at6 => k_is)
      (case fn6 => k_is)
      (case l6 => k_is)
      (case c6 => k_is)
      (case k6 => k_is)
      (case at7 => k_is)
      (case fn7 => k_is)
      (case l7 => k_is)
      (case c7 => k_is)
      (case k7 => k_is)
      (case at8 => k_is)
      (case fn8 => k_is)
      (case l8 => k_is)
      (case c8 => k_is)
      (case k8 => k_is)
      (case at9 => k_is)
      (case fn9 => k_is)
      (case l9 => k_is)
      (case c9 => k_is)
      (case k9 => k_is)
      (case at10 => k_is)
      (case fn10 => k_is)
      (case l10 => k_is)
      (case c10 => k_is)
      (case k10 => k_is)
      (case gfn => k_is)
      (case at11 => k_is)
      (case fn11 => k_is)
      (case l11 => k_is)
      (case c11 => k_is)
      (case k11 => k_is)
      (case at12 => k_is)
      (case fn12 => k_is)
      (case l12 => k_is)
      (case c12 => k_is)
      (case k12 => k_is)
      (case at13 => k_is)
      (case fn13 => k_is)
      (case l13 => k_is)
      (case c13 => k_is)
      (case k13 => k_is)
      (case at14 => k_is)
      (case fn14 => k_is)
      (case l14 => k_is)
      (case c14 => k_is)
      (case k14 => k_is)
      (case at15 => k_is)
      (case fn15 => k_is)
      (case l15 => k_is)
      (case c15 => k_is)
      (case k15 => k_is)
      (case lT => k_is)
      (case rT => exact ⟨_, rfl⟩)
      (case at16 => k_is)
      (case fn16 => k_is)
      (case l16 => k_is)
      (case c16 => k_is)
      (case k16 => k_is)
      (case at17 => k_is)
      (case fn17 => k_is)
      (case l17 => k_is)
      (case c17 => k_is)
      (case k17 => k_is)
      (case at18 => k_is)
      (case fn18 => k_is)
      (case l18 => k_is)
      (case c18 => k_is)
      (case k18 => k_is)
      (case at19 => k_is)
      (case fn19 => k_is)
      (case l19 => k_is)
      (case c19 => k_is)
      (case k19 => k_is)
      (case at24 => k_is)
      (case fn24 => k_is)
      (case l24 => k_is)
      (case c24 => k_is)
      (case k24 => k_is)
    obtain ⟨a0, d0, D0⟩ : ∃ f fd, V0.Df _ mg "is_whole" V0.s_is_whole V0.P_is_whole f fd := by
      refine' V0.df_mk KX G (fun _ _ _ _ _ _ us hl => match us, hl with | [_], _ => rfl) ?a ?l ?c ?k
      (case a => k_is); (case l => k_is); (case c => k_is); (case k => k_is)
    obtain ⟨a1, d1, D1⟩ : ∃ f fd, V0.Df _ mg "is_integer" V0.s_is_integer V0.P_is_integer f fd := by
      refine' V0.df_mk KX G (fun _ _ _ _ _ _ us hl => match us, hl with | [_], _ => rfl) ?a ?l ?c ?k
      (case a => k_is); (case l => k_is); (case c => k_is); (case k => k_is)
    obtain ⟨a2, d2, D2⟩ : ∃ f fd, V0.Df _ mg "is_name" V0.s_is_name V0.P_is_name f fd := by
      refine' V0.df_mk KX G (fun _ _ _ _ _ _ us hl => match us, hl with | [_], _ => rfl) ?a ?l ?c ?k
      (case a => k_is); (case l => k_is); (case c => k_is); (case k => k_is)
    obtain ⟨a3, d3, D3⟩ : ∃ f fd, V0.Df _ mg "reduced" V0.s_reduced V0.P_reduced f fd := by
      refine' V0.df_mk KX G (fun _ _ _ _ _ _ us hl => match us, hl with | [_, _], _ => rfl) ?a ?l ?c ?k
      (case a => k_is); (case l => k_is); (case c => k_is); (case k => k_is)
    obtain ⟨a4, d4, D4⟩ : ∃ f fd, V0.Df _ mg "integer_text" V0.s_integer_text V0.P_integer_text f fd := by
      refine' V0.df_mk KX G (fun _ _ _ _ _ _ us hl => match us, hl with | [_], _ => rfl) ?a ?l ?c ?k
      (case a => k_is); (case l => k_is); (case c => k_is); (case k => k_is)
    obtain ⟨a5, d5, D5⟩ : ∃ f fd, V0.Df _ mg "fraction_text" V0.s_fraction_text V0.P_fraction_text f fd := by
      refine' V0.df_mk KX G (fun _ _ _ _ _ _ us hl => match us, hl with | [_, _], _ => rfl) ?a ?l ?c ?k
      (case a => k_is); (case l => k_is); (case c => k_is); (case k => k_is)
    obtain ⟨a6, d6, D6⟩ : ∃ f fd, V0.Df _ mg "is_group_of" V0.s_is_group_of V0.P_is_group_of f fd := by
      refine' V0.df_mk KX G (fun _ _ _ _ _ _ us hl => match us, hl with | [_, _], _ => rfl) ?a ?l ?c ?k
      (case a => k_is); (case l => k_is); (case c => k_is); (case k => k_is)
    obtain ⟨a7, d7, D7⟩ : ∃ f fd, V0.Df _ mg "charge_over" V0.s_charge_over V0.P_charge_over f fd := by
      refine' V0.df_mk KX G (fun _ _ _ _ _ _ us hl => match us, hl with | [_, _], _ => rfl) ?a ?l ?c ?k
      (case a => k_is); (case l => k_is); (case c => k_is); (case k => k_is)
    obtain ⟨a8, d8, D8⟩ : ∃ f fd, V0.Df _ mg "_are_pays" V0.s__are_pays V0.P__are_pays f fd := by
      refine' V0.df_mk KX G (fun _ _ _ _ _ _ us hl => match us, hl with | [_], _ => rfl) ?a ?l ?c ?k
      (case a => k_is); (case l => k_is); (case c => k_is); (case k => k_is)
    obtain ⟨a9, d9, D9⟩ : ∃ f fd, V0.Df _ mg "_shared_divisor" V0.s__shared_divisor V0.P__shared_divisor f fd := by
      refine' V0.df_mk KX G (fun _ _ _ _ _ _ us hl => match us, hl with | [_, _], _ => rfl) ?a ?l ?c ?k
      (case a => k_is); (case l => k_is); (case c => k_is); (case k => k_is)
    obtain ⟨a10, d10, D10⟩ : ∃ f fd, V0.Df _ mg "_sum_of" V0.s__sum_of V0.P__sum_of f fd := by
      refine' V0.df_mk KX G (fun _ _ _ _ _ _ us hl => match us, hl with | [_, _, _, _, _], _ => rfl) ?a ?l ?c ?k
      (case a => k_is); (case l => k_is); (case c => k_is); (case k => k_is)
    obtain ⟨a11, d11, D11⟩ : ∃ f fd, V0.Df _ mg "_law_pot" V0.s_pot V0.P_pot f fd := by
      refine' V0.df_mk KX G (fun _ _ _ _ _ _ us hl => match us, hl with | [_, _], _ => rfl) ?a ?l ?c ?k
      (case a => k_is); (case l => k_is); (case c => k_is); (case k => k_is)
    obtain ⟨a12, d12, D12⟩ : ∃ f fd, V0.Df _ mg "_law_stir" V0.s_stir V0.P_stir f fd := by
      refine' V0.df_mk KX G (fun _ _ _ _ _ _ us hl => match us, hl with | [_, _], _ => rfl) ?a ?l ?c ?k
      (case a => k_is); (case l => k_is); (case c => k_is); (case k => k_is)
    obtain ⟨a13, d13, D13⟩ : ∃ f fd, V0.Df _ mg "_law_one_of" V0.s_one_of V0.P_one_of f fd := by
      refine' V0.df_mk KX G (fun _ _ _ _ _ _ us hl => match us, hl with | [_, _], _ => rfl) ?a ?l ?c ?k
      (case a => k_is); (case l => k_is); (case c => k_is); (case k => k_is)
    obtain ⟨a14, d14, D14⟩ : ∃ f fd, V0.Df _ mg "_law_shuffled" V0.s_shuffled V0.P_shuffled f fd := by
      refine' V0.df_mk KX G (fun _ _ _ _ _ _ us hl => match us, hl with | [_, _], _ => rfl) ?a ?l ?c ?k
      (case a => k_is); (case l => k_is); (case c => k_is); (case k => k_is)
    obtain ⟨a15, d15, D15⟩ : ∃ f fd, V0.Df _ mg "_law_some_of" V0.s_some_of V0.P_some_of f fd := by
      refine' V0.df_mk KX G (fun _ _ _ _ _ _ us hl => match us, hl with | [_, _], _ => rfl) ?a ?l ?c ?k
      (case a => k_is); (case l => k_is); (case c => k_is); (case k => k_is)
    obtain ⟨a16, d16, D16⟩ : ∃ f fd, V0.Df _ mg "_law_words" V0.s_words V0.P_words f fd := by
      refine' V0.df_mk KX G (fun _ _ _ _ _ _ us hl => match us, hl with | [_, _], _ => rfl) ?a ?l ?c ?k
      (case a => k_is); (case l => k_is); (case c => k_is); (case k => k_is)
    obtain ⟨a17, d17, D17⟩ : ∃ f fd, V0.Df _ mg "_law_number" V0.s_number V0.P_number f fd := by
      refine' V0.df_mk KX G (fun _ _ _ _ _ _ us hl => match us, hl with | [_], _ => rfl) ?a ?l ?c ?k
      (case a => k_is); (case l => k_is); (case c => k_is); (case k => k_is)
    obtain ⟨a18, d18, D18⟩ : ∃ f fd, V0.Df _ mg "_law_sums" V0.s_sums V0.P_sums f fd := by
      refine' V0.df_mk KX G (fun _ _ _ _ _ _ us hl => match us, hl with | [_, _], _ => rfl) ?a ?l ?c ?k
      (case a => k_is); (case l => k_is); (case c => k_is); (case k => k_is)
    obtain ⟨a19, d19, D19⟩ : ∃ f fd, V0.Df _ mg "_law_made_charge" V0.s_made_charge V0.P_made_charge f fd := by
      refine' V0.df_mk KX G (fun _ _ _ _ _ _ us hl => match us, hl with | [_], _ => rfl) ?a ?l ?c ?k
      (case a => k_is); (case l => k_is); (case c => k_is); (case k => k_is)
    obtain ⟨a20, d20, D20⟩ : ∃ f fd, V0.Df _ mg "_law_low" V0.s_low V0.P_low f fd := by
      refine' V0.df_mk KX G (fun _ _ _ _ _ _ us hl => match us, hl with | [_, _], _ => rfl) ?a ?l ?c ?k
      (case a => k_is); (case l => k_is); (case c => k_is); (case k => k_is)
    obtain ⟨a21, d21, D21⟩ : ∃ f fd, V0.Df _ mg "_law_pays" V0.s_pays V0.P_pays f fd := by
      refine' V0.df_mk KX G (fun _ _ _ _ _ _ us hl => match us, hl with | [_, _], _ => rfl) ?a ?l ?c ?k
      (case a => k_is); (case l => k_is); (case c => k_is); (case k => k_is)
    obtain ⟨a22, d22, D22⟩ : ∃ f fd, V0.Df _ mg "_law_joint" V0.s_joint V0.P_joint f fd := by
      refine' V0.df_mk KX G (fun _ _ _ _ _ _ us hl => match us, hl with | [_, _, _, _], _ => rfl) ?a ?l ?c ?k
      (case a => k_is); (case l => k_is); (case c => k_is); (case k => k_is)
    obtain ⟨a23, d23, D23⟩ : ∃ f fd, V0.Df _ mg "_law_alone" V0.s_alone V0.P_alone f fd := by
      refine' V0.df_mk KX G (fun _ _ _ _ _ _ us hl => match us, hl with | [_], _ => rfl) ?a ?l ?c ?k
      (case a => k_is); (case l => k_is); (case c => k_is); (case k => k_is)
    obtain ⟨a24, d24, D24⟩ : ∃ f fd, V0.Df _ mg "_law_sums_right" V0.s_sums_right V0.P_sums_right f fd := by
      refine' V0.df_mk KX G (fun _ _ _ _ _ _ us hl => match us, hl with | [_, _, _, _], _ => rfl) ?a ?l ?c ?k
      (case a => k_is); (case l => k_is); (case c => k_is); (case k => k_is)
    obtain ⟨a25, d25, D25⟩ : ∃ f fd, V0.Df _ mg "_law_multiples_right" V0.s_multiples_right V0.P_multiples_right f fd := by
      refine' V0.df_mk KX G (fun _ _ _ _ _ _ us hl => match us, hl with | [_, _, _, _, _], _ => rfl) ?a ?l ?c ?k
      (case a => k_is); (case l => k_is); (case c => k_is); (case k => k_is)
    obtain ⟨a26, d26, D26⟩ : ∃ f fd, V0.Df _ mg "_law_beside_right" V0.s_beside_right V0.P_beside_right f fd := by
      refine' V0.df_mk KX G (fun _ _ _ _ _ _ us hl => match us, hl with | [_, _, _, _], _ => rfl) ?a ?l ?c ?k
      (case a => k_is); (case l => k_is); (case c => k_is); (case k => k_is)
    obtain ⟨a27, d27, D27⟩ : ∃ f fd, V0.Df _ mg "_law_right" V0.s_right V0.P_right f fd := by
      refine' V0.df_mk KX G (fun _ _ _ _ _ _ us hl => match us, hl with | [_], _ => rfl) ?a ?l ?c ?k
      (case a => k_is); (case l => k_is); (case c => k_is); (case k => k_is)
    obtain ⟨fd, hF, hb⟩ := V0.law_mk KX G hmg (by k_is) (by k_is) (by k_is) (by k_is)
    exact ⟨C, ad, fdd, fun n => [a0, a1, a2, a3, a4, a5, a6, a7, a8, a9, a10, a11, a12, a13, a14, a15, a16, a17, a18, a19, a20, a21, a22, a23, a24, a25, a26, a27].getD n 0, fun n => [d0, d1, d2, d3, d4, d5, d6, d7, d8, d9, d10, d11, d12, d13, d14, d15, d16, d17, d18, d19, d20, d21, d22, d23, d24, d25, d26, d27].getD n d0, fd, ⟨Zc, hB, hM, hC, D0, D1, D2, D3, D4, D5, D6, D7, D8, D9, D10, D11, D12, D13, D14, D15, D16, D17, D18, D19, D20, D21, D22, D23, D24, D25, D26, D27⟩, hF, hb⟩
