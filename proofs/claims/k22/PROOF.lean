import PyProof.Rows.All
import Wide.All
import OpenK.AllK
import Wide.FinOn
import HandS.ForMost
import HandS.Wide
import HandS.Gcd
import HandS.IsInst
import HandS.Walk
import HandS.Conv
import HandS.Style
import PyProof.Rows.RuleB_pow
import PySem.Challenge.RW_huebill_k22_whole_rings_in_webs
import KE.KOpsOwn
import KE.KCallOwn
import KE.KOwnIter
import HandS.Property
import HandS.MakeKwOnly
import HandS.DictComp
import HandS.ListItems
import PyProof.InstNe
import HandS.IterVal
import HandS.IterNext
import HandS.TupSets
import HandS.SetBool
import KE.KSortTupG
import HandS.SetKeys
import HandS.Strs
import PyProof.Rows.TmSorted
import PyProof.Rows.StrMeet
import HandS.FStr
import HandS.StrMore
import HandS.More
import PyProof.Rows.StrReprJoin
import HandS.Deep
import HandS.Star
import HandS.Words
import KE.GoesEnum
import HandS.Iter
import HandS.Zip
import KE.DataMinMax
import KE.GoesZip
import KE.GoesMore
import KE.KDictZip
import HandS.GenList
import HandS.RevTup
import KE.KRevSl
import KE.SortCalls
import KE.SortData
import KE.KSortTup
import KE.KSortAsk
import HandS.Base
import HandS.List
import PyProof.TupleOfStr
import HandS.Set
import HandS.TupAny
import HandS.Small
import HandS.TryOnly
import HandS.Codes
import KE.KExcLine
set_option Elab.async false
set_option linter.all false
set_option maxRecDepth 100000
set_option maxHeartbeats 4000000
namespace V0
open PySem PySem.Spec PyProof.Rows L2
/-! ### rules of my own -/
/-- a ** n of great a -/
def CPowB (i j : Int) : Prop := 0 ≤ j ∧ (Builtin.Int.intBits i : Int) * j ≤ 2 ^ 27
/-- a name of the module that holds a plain value -/
def GV (mg : Str → Option Value) (x : Str) (v : V) : Prop := ∃ u, mg x = some u ∧ RelV v u
section
variable {X : Cx}
theorem op_powB : OpR X (binaryOp .Pow) (rI CPowB fun i j => .int (i ^ j.toNat)) := opI fun _ _ _ _ _ _ _ hc q => pow_int hc.1 hc.2 q
theorem pe_gv {x : Str} {v : V} {pos : Pos} (hg : Gl X x) (h : GV X.mg x v) (hd : (x == ("__debug__" : Str)) = false := by decide) : PE X (.Name x pos) (tC v) := by
  obtain ⟨u, hm, r⟩ := h
  exact pe_glob hg hm r hd
/-- a built-in class as a value -/
theorem pe_ty {x : Str} {n : String} {pos : Pos} (hg : Gl X x) (hm : X.mg x = none) (hv : bootBuiltins x = some (.type n)) (hn : x ≠ "__name__" := by decide) (hd : (x == ("__debug__" : Str)) = false := by decide) : PE X (.Name x pos) (tC (.ty n)) := pe_bltn hg hm hv rfl hn hd
end
/-- a def of the text that stands under its own name -/
structure Df (K : PySem.W.Frag) (mg : Str → Option Value) (x : Str) (st : Stmt) (ps : List Str) (f : Addr) (fd : FuncData) : Prop where
  F : Fun K x x st f fd
  b : Binds K fd ps []
  g : mg x = some (.ref f)
/-- the built-in names -/
structure Bl (mg : Str → Option Value) : Prop where
  b_len : mg "len" = none
  b_abs : mg "abs" = none
  b_max : mg "max" = none
  b_min : mg "min" = none
  b_int : mg "int" = none
  b_bool : mg "bool" = none
  b_str : mg "str" = none
  b_tuple : mg "tuple" = none
  b_list : mg "list" = none
  b_dict : mg "dict" = none
  b_all : mg "all" = none
  b_any : mg "any" = none
  b_sum : mg "sum" = none
  b_repr : mg "repr" = none
  b_isinstance : mg "isinstance" = none
  b_range : mg "range" = none
/-- all but the object at p is as it was -/
def But (p : Addr) (H H' : Hp) : Prop := ∀ b o, H b = some o → b ≠ p → H' b = some o
theorem But.of {H H' : Hp} {p : Addr} (s : Same H H') : But p H H' := fun b o e _ => s b o e
theorem But.trans {p : Addr} {H H1 H2 : Hp} (a : But p H H1) (b : But p H1 H2) : But p H H2 := fun c o e h => b c o (a c o e h) h
theorem But.refl {p : Addr} {H : Hp} : But p H H := fun _ _ e _ => e
theorem But.upd {p : Addr} {H : Hp} {o : HO} : But p H (upd H p o) := fun b u e h => by rw [upd_ne h]; exact e
theorem But.new {p q : Addr} {H : Hp} {o : HO} (h : H q = none) : But p H (L2.upd H q o) := fun b u e _ => by rw [upd_ne (ne_of_none e h)]; exact e
theorem Same.new {q : Addr} {H : Hp} {o : HO} (h : H q = none) : Same H (upd H q o) := fun b u e => by rw [upd_ne (ne_of_none e h)]; exact e
theorem at_g {α : Type} {xs : List α} {i : Int} {v : α} (h0 : 0 ≤ i) (h : xs[i.toNat]? = some v) : atI xs i = some v := by
  obtain ⟨n, rfl⟩ : ∃ n : Nat, i = (n : Int) := ⟨i.toNat, by omega⟩
  exact atI_nat h
/-! ### kinds of values -/
inductive Kd where
  | non | bl | int | str | lst | tup | dct
  deriving DecidableEq
def Kd.nm : Kd → String
  | .non => "NoneType" | .bl => "bool" | .int => "int" | .str => "str" | .lst => "list" | .tup => "tuple" | .dct => "dict"
def Kd.is : Kd → Kd → Bool
  | .bl, .int => true
  | .non, .non => true | .bl, .bl => true | .int, .int => true | .str, .str => true | .lst, .lst => true | .tup, .tup => true | .dct, .dct => true
  | _, _ => false
inductive Kn (H : Hp) : V → Kd → Prop
  | non : Kn H .non .non
  | bl (b : Bool) : Kn H (.bl b) .bl
  | int (i : Int) : Kn H (.int i) .int
  | str (x : Str) : Kn H (.str x) .str
  | lst {a : Addr} {xs : List V} (h : H a = some (.lst xs)) : Kn H (.ref a) .lst
  | tup {a : Addr} {xs : List V} (h : H a = some (.tup xs)) : Kn H (.ref a) .tup
  | dct {a : Addr} {kvs : List (Key × V)} (h : H a = some (.dK kvs)) : Kn H (.ref a) .dct
theorem Kn.same {H H' : Hp} {x : V} {t : Kd} (s : Same H H') : Kn H x t → Kn H' x t
  | .non => .non
  | .bl b => .bl b
  | .int i => .int i
  | .str z => .str z
  | .lst h => .lst (s _ _ h)
  | .tup h => .tup (s _ _ h)
  | .dct h => .dct (s _ _ h)
theorem Kn.tyx {K : PySem.W.Frag} {H : Hp} {x : V} {t : Kd} (h : Kn H x t) : TyX K H x (.type t.nm) := by
  cases h with
  | non => exact .base .non
  | bl b => exact .base (.bl b)
  | int i => exact .base (.int i)
  | str z => exact .base (.str z)
  | lst h => exact .base (.lst h)
  | tup h => exact .base (.tup h)
  | dct h => exact .base (.dK h)
theorem kd_kit (t c : Kd) (hc : c ≠ .non) : kitB t.nm c.nm = some (t.is c) := by
  cases t <;> cases c <;> first | exact absurd rfl hc | decide +kernel
section
variable {X : Cx}
/-- isinstance(x, c), c a built-in class -/
def rIs : List V → Hp → VK → Prop := fun xs H Q => ∃ (x : V) (t c : Kd), xs = [x, .ty c.nm] ∧ Kn H x t ∧ c ≠ .non ∧ Q (.bl (t.is c)) H
theorem call_is : CallR X (.builtin "isinstance") rIs := by
  intro pins s σ H xs us Q I r h
  obtain ⟨x, t, c, rfl, k, hc, q⟩ := h
  exact call_isi pins s σ H _ us Q I r ⟨x, .ty c.nm, _, _, _, rfl, .ty _, k.tyx, kit_ty (kd_kit t c hc), q⟩
end
/-! ### the draws -/
/-- the pot of draws -/
def Pot (H : Hp) (p : Addr) : Prop := ∃ a b c : Int, H p = some (.lst [.int a, .int b, .int c]) ∧ 0 ≤ a ∧ 0 ≤ b ∧ b < 2 ^ 62 ∧ 0 ≤ c
theorem Pot.same {H H' : Hp} {p : Addr} (s : Same H H') (h : Pot H p) : Pot H' p := by
  obtain ⟨a, b, c, hp, r⟩ := h
  exact ⟨a, b, c, s _ _ hp, r⟩
def spPot (K : PySem.W.Frag) : Sp := fun vs H Q _ => ∃ (a : Addr) (ns : List Int) (j : Nat), vs = [.ref a, .int j] ∧ SqL K H a (ns.map V.int) ∧ ns.length ≤ 1000 ∧ j < 1000 ∧
  ∀ (p : Addr) (H' : Hp), H p = none → Pot H' p → Same H H' → Q (.ref p) H'
def spStir : Sp := fun vs H Q _ => ∃ (p : Addr) (t : Int), vs = [.ref p, .int t] ∧ Pot H p ∧ 0 < t ∧ t < 2 ^ 200 ∧
  ∀ (r : Int) (H' : Hp), 0 ≤ r → r < t → Pot H' p → But p H H' → Q (.int r) H'
/-- one of the items of a list, or of the signs of a text -/
def spOneOf (K : PySem.W.Frag) : Sp := fun vs H Q _ => ∃ (p : Addr) (o : V), vs = [.ref p, o] ∧ Pot H p ∧
  ((∃ (l : Addr) (xs : List V), o = .ref l ∧ l ≠ p ∧ H l = some (.lst xs) ∧ xs ≠ [] ∧ xs.length ≤ 1000 ∧ ∀ x, x ∈ xs → ∀ H', Pot H' p → But p H H' → Q x H') ∨
   (∃ z : Str, o = .str z ∧ z.length ≠ 0 ∧ z.length ≤ 1000 ∧ ∀ c, c ∈ z.cps.toList → ∀ H', Pot H' p → But p H H' → Q (.str ⟨#[c]⟩) H'))
end V0

namespace V0
open PySem PySem.Spec PyProof.Rows L2
def top (i : Nat) : Stmt := PySem.Challenge.pw_huebill_k22_whole_rings_in_webs.main.body.getD i (.Pass ⟨0, 0, 0, 0⟩)
section
variable {P : Program} {w : World} {K : PySem.W.Frag} {mg : Str → Option Value} {base : Heap}
abbrev s_pot : Stmt := top 58
abbrev N_pot : List Str := ["_law_script", "_law_at", "_law_cell", "_law_great", "_law_mixed"]
abbrev P_pot : List Str := ["_law_script", "_law_at"]
theorem sc_pot : FnScope N_pot P_pot (defScope s_pot) := ⟨rfl, rfl, rfl, by decide +kernel, rfl, by decide +kernel, by decide +kernel⟩
theorem ok_pot {f : Addr} {fd : FuncData} (B : Bl mg) (D : Df K mg "_law_pot" s_pot P_pot f fd) : FnOk P w K mg base CX0 1 f fd P_pot (spPot K) := by
  refine D.F.ok sc_pot (fun vs H Q E h => ?_) (fun cdv A outer s H vs Q E hr h => ?_)
  · obtain ⟨a, ns, j, rfl, _⟩ := h
    rfl
  · obtain ⟨a, ns, j, rfl, hS, hl, hj, k⟩ := h
    refine ⟨_, (pss_cons (ps_set (i := 2) sc_pot.nd rfl (Or.inl rfl) (pe_ifExp (pt_cmpR op_lt (pv 1) (pe_callB call_len_seq (by rfl) B.b_len (by decide +kernel) (pa_cons (pv 0) pa_nil)) (nomark _)) (pe_ix ix_list (pv 0) (pv 1) (fun _ _ => rfl)) (pe_op op_add (pe_op op_mul pe_int (pv 1)) pe_int)))
      (pss_cons (ps_set (i := 3) sc_pot.nd rfl (Or.inl rfl) (pe_op op_mod (pe_callTy call_int1 (by rfl) B.b_int (by decide +kernel) (pa_cons (pe_callB call_abs (by rfl) B.b_abs (by decide +kernel) (pa_cons (pv 2) pa_nil)) pa_nil)) (pe_op op_powB (pe_op op_pow pe_int pe_int) pe_int)))
      (pss_cons (ps_set (i := 4) sc_pot.nd rfl (Or.inl rfl) (pe_op op_add (pe_op op_add (pe_op op_add (pe_op op_mul (pe_op op_mod (pe_callTy call_int1 (by rfl) B.b_int (by decide +kernel) (pa_cons (pv 3) pa_nil)) pe_int) pe_int) (pe_op op_mul pe_int (pv 1))) (pe_op op_mul pe_int (pe_callTy call_int1 (by rfl) B.b_int (by decide +kernel) (pa_cons (pe_cmpR op_lt (pv 2) pe_int (nomark _)) pa_nil)))) pe_int))
      (pss_one (ps_ret (pe_lst (pa_cons (pe_callB (call_max2 rfl) (by rfl) B.b_max (by decide +kernel) (pa_cons pe_int (pa_cons (pe_op op_sub (pv 3) (pe_op op_pow pe_int pe_int)) pa_nil))) (pa_cons (pe_op op_mod (pe_callTy call_int1 (by rfl) B.b_int (by decide +kernel) (pa_cons (pv 4) pa_nil)) pe_int) (pa_cons pe_int pa_nil))))))))), ?_⟩
    -- cell: any int
    refine ⟨_, rfl, _, rfl, a, _, rfl, .inl hS, _, _, rfl, rfl, _, rfl, ?_⟩
    refine ite2 (fun e => ?_) (fun e => ?_)
    all_goals first
      | (have hlt : j < ns.length := by
          have e' := of_decide_eq_true e
          rw [List.length_map] at e'
          omega
         refine ⟨_, rfl, _, rfl, a, _, _, .int ns[j], rfl, rfl, hS, at_of (j := j) rfl (by rw [List.getElem?_map, List.getElem?_eq_getElem hlt]; rfl), ?_⟩
         generalize ns[j] = z)
      | (refine ⟨_, rfl, _, _, rfl, rfl, .inl ⟨by decide, by decide⟩, _, _, rfl, rfl, ?_⟩
         generalize 97 * (j : Int) + 59 = z)
    all_goals (
      -- great, mixed, the pot
      refine ⟨_, rfl, _, rfl, .inl ⟨_, rfl, _, _, rfl, rfl, ⟨by decide, by decide, by decide⟩, _, _, rfl, rfl, ⟨by decide, by decide +kernel⟩, _, _, rfl, rfl, (by show (0 : Int) < _; decide +kernel), ?_⟩⟩
      generalize hg : (if z < 0 then -z else z) % ((10 ^ Int.toNat 59) ^ Int.toNat 9) = g
      refine ⟨_, rfl, .inl ⟨_, rfl, _, _, rfl, rfl, (by show (0 : Int) < 2305843009213693921; decide), _, _, rfl, rfl, .inr ⟨by decide, by decide⟩, _, rfl, _, _, rfl, rfl, .inl ⟨by decide, by decide⟩, _, _, rfl, rfl, _, rfl, _, _, rfl, rfl, .inr ⟨_, rfl, _, _, rfl, rfl, .inl ⟨by decide, by decide⟩, _, _, rfl, rfl, _, _, rfl, rfl, ?_⟩⟩⟩
      refine ⟨_, rfl, _, _, rfl, rfl, ⟨by decide, by decide, by decide⟩, _, _, rfl, rfl, _, _, rfl, _, rfl, .inl ⟨_, rfl, _, _, rfl, rfl, (by show (0 : Int) < 2305843009213693951; decide), (by show 3 ≤ sizeLine; decide), fun p hp => ?_⟩⟩
      refine k p _ hp ⟨_, _, _, upd_same, ?_, Int.emod_nonneg _ (by decide), ?_, by decide⟩ (Same.new hp)
      · split <;> omega
      · exact Int.lt_of_lt_of_le (Int.emod_lt_of_pos _ (by decide)) (by decide))
abbrev s_stir : Stmt := top 59
abbrev N_stir : List Str := ["_law_pot_here", "_law_total", "_law_found", "_law_one", "_law_two"]
abbrev P_stir : List Str := ["_law_pot_here", "_law_total"]
theorem sc_stir : FnScope N_stir P_stir (defScope s_stir) := ⟨rfl, rfl, rfl, by decide +kernel, rfl, by decide +kernel, by decide +kernel⟩
theorem ok_stir {f : Addr} {fd : FuncData} (B : Bl mg) (D : Df K mg "_law_stir" s_stir P_stir f fd) : FnOk P w K mg base CX0 1 f fd P_stir spStir := by
  refine D.F.ok sc_stir (fun vs H Q E h => ?_) (fun cdv A outer s H vs Q E hr h => ?_)
  · obtain ⟨p, t, rfl, _⟩ := h
    rfl
  · obtain ⟨p, t, rfl, ⟨a, b, c, hp, ha, hb, hb2, hc⟩, ht, ht2, k⟩ := h
    refine ⟨_, (pss_cons (ps_if (pt_cmpR op_gt (pe_ix ix_list (pv 0) pe_int (fun _ _ => rfl)) pe_int (nomark _)) (pss_cons (ps_set (i := 2) sc_stir.nd rfl (Or.inl rfl) (pe_op op_mod (pe_callTy call_int1 (by rfl) B.b_int (by decide +kernel) (pa_cons (pe_ix ix_list (pv 0) pe_int (fun _ _ => rfl)) pa_nil)) (pv 1)))
      (pss_cons (ps_asg (pe_op op_fdivW (pe_ix ix_list (pv 0) pe_int (fun _ _ => rfl)) (pv 1)) (pg_sub (pv 0) pe_int set_list))
      (pss_one (ps_ret (pv 2))))) pss_nil)
      (pss_cons (ps_asg (pe_op op_add (pe_ix ix_list (pv 0) pe_int (fun _ _ => rfl)) pe_int) (pg_sub (pv 0) pe_int set_list))
      (pss_cons (ps_set (i := 3) sc_stir.nd rfl (Or.inl rfl) (pe_op op_mod (pe_callTy call_int1 (by rfl) B.b_int (by decide +kernel) (pa_cons (pe_op op_add (pe_ix ix_list (pv 0) pe_int (fun _ _ => rfl)) (pe_op op_mul pe_int (pe_ix ix_list (pv 0) pe_int (fun _ _ => rfl)))) pa_nil)) pe_int))
      (pss_cons (ps_set (i := 4) sc_stir.nd rfl (Or.inl rfl) (pe_op op_add (pe_op op_mul (pe_op op_mod (pe_callTy call_int1 (by rfl) B.b_int (by decide +kernel) (pa_cons (pe_op op_mul (pv 3) (pv 3)) pa_nil)) pe_int) (pv 3)) (pe_op op_mul pe_int (pe_ix ix_list (pv 0) pe_int (fun _ _ => rfl)))))
      (pss_one (ps_ret (pe_op op_mod (pe_callTy call_int1 (by rfl) B.b_int (by decide +kernel) (pa_cons (pe_op op_fdivW (pe_op op_mod (pe_callTy call_int1 (by rfl) B.b_int (by decide +kernel) (pa_cons (pv 4) pa_nil)) pe_int) pe_int) pa_nil)) (pv 1)))))))), ?_⟩
    -- if pot[0] > 0
    refine ⟨_, rfl, p, _, 0, .int a, rfl, rfl, SqL.of hp, rfl, _, _, rfl, rfl, _, rfl, ite2 (fun e => ?_) (fun e => ?_)⟩
    · -- found = pot[0] % total; pot[0] = pot[0] // total; return found
      refine ⟨_, rfl, p, _, 0, .int a, rfl, rfl, SqL.of hp, rfl, .inl ⟨_, rfl, ?_⟩⟩
      refine ⟨_, rfl, _, _, rfl, rfl, ht, ?_⟩
      refine ⟨_, rfl, p, _, 0, .int a, rfl, rfl, SqL.of hp, rfl, _, rfl, _, _, rfl, rfl, wide_div ht (b := 200) (by omega) (by decide) (by decide), ?_⟩
      refine ⟨_, rfl, p, _, 0, 0, rfl, rfl, hp, rfl, ?_⟩
      refine ⟨_, rfl, ?_⟩
      exact k _ _ (Int.emod_nonneg _ (by omega)) (Int.emod_lt_of_pos _ ht) ⟨a / t, b, c, upd_same, Int.ediv_nonneg ha (by omega), hb, hb2, hc⟩ But.upd
    · -- pot[2] = pot[2] + 1
      refine ⟨_, rfl, p, _, 2, .int c, rfl, rfl, SqL.of hp, rfl, _, _, rfl, rfl, _, rfl, p, _, 2, 2, rfl, rfl, hp, rfl, ?_⟩
      have hp2 : (upd H p (.lst [.int a, .int b, .int (c + 1)])) p = some (.lst [.int a, .int b, .int (c + 1)]) := upd_same
      -- one = int(pot[1] + 1048583 * pot[2]) % ..
      refine ⟨_, rfl, p, _, 1, .int b, rfl, rfl, SqL.of hp2, rfl, _, rfl, p, _, 2, .int (c + 1), rfl, rfl, SqL.of hp2, rfl, _, _, rfl, rfl, .inl ⟨by decide, by decide⟩, _, _, rfl, rfl, .inl ⟨_, rfl, _, _, rfl, rfl, (by show (0 : Int) < 2305843009213693951; decide), ?_⟩⟩
      generalize hx : (b + 1048583 * (c + 1)) % 2305843009213693951 = x
      have x0 : 0 ≤ x := by rw [← hx]; exact Int.emod_nonneg _ (by decide)
      have x1 : x < 2305843009213693951 := by rw [← hx]; exact Int.emod_lt_of_pos _ (by decide)
      -- two = int(one * one) % .. * one + 8101 * pot[2]
      refine ⟨_, rfl, _, rfl, _, _, rfl, rfl, .inl ⟨by omega, by omega⟩, .inl ⟨_, rfl, _, _, rfl, rfl, (by show (0 : Int) < 2305843009213693907; decide), ?_⟩⟩
      have y1 : (x * x) % 2305843009213693907 < 2305843009213693907 := Int.emod_lt_of_pos _ (by decide)
      have y0 : 0 ≤ (x * x) % 2305843009213693907 := Int.emod_nonneg _ (by decide)
      refine ⟨_, rfl, _, _, rfl, rfl, .inl ⟨by omega, by omega⟩, _, rfl, p, _, 2, .int (c + 1), rfl, rfl, SqL.of hp2, rfl, _, _, rfl, rfl, .inl ⟨by decide, by decide⟩, _, _, rfl, rfl, ?_⟩
      -- return int(int(two) % .. // 16384) % total
      refine ⟨_, rfl, .inl ⟨_, rfl, _, _, rfl, rfl, (by show (0 : Int) < 2305843009213693921; decide), _, _, rfl, rfl, ⟨by decide, by decide⟩, .inl ⟨_, rfl, _, rfl, _, _, rfl, rfl, ht, ?_⟩⟩⟩
      exact k _ _ (Int.emod_nonneg _ (by omega)) (Int.emod_lt_of_pos _ ht) ⟨a, b, c + 1, hp2, ha, hb, hb2, by omega⟩ But.upd
end
end V0
namespace V0
open PySem PySem.Spec PyProof.Rows L2
section
variable {P : Program} {w : World} {K : PySem.W.Frag} {mg : Str → Option Value} {base : Heap}
abbrev s_one_of : Stmt := top 60
abbrev N_one_of : List Str := ["_law_pot_here", "_law_items"]
abbrev P_one_of : List Str := ["_law_pot_here", "_law_items"]
theorem sc_one_of : FnScope N_one_of P_one_of (defScope s_one_of) := ⟨rfl, rfl, rfl, by decide +kernel, rfl, by decide +kernel, by decide +kernel⟩
theorem ok_one_of {f f1 : Addr} {fd fd1 : FuncData} (B : Bl mg) (D_stir : Df K mg "_law_stir" s_stir P_stir f1 fd1) (D : Df K mg "_law_one_of" s_one_of P_one_of f fd) : FnOk P w K mg base CX0 2 f fd P_one_of (spOneOf K) := by
  have G_stir : FnOk P w K mg base CX0 1 f1 fd1 P_stir spStir := ok_stir B D_stir
  refine D.F.ok sc_one_of (fun vs H Q E h => ?_) (fun cdv A outer s H vs Q E hr h => ?_)
  · obtain ⟨p, o, rfl, _⟩ := h
    rfl
  · obtain ⟨p, o, rfl, hp, ⟨l, xs, rfl, hlp, hl, hne, hn, k⟩ | ⟨z, rfl, hne, hn, k⟩⟩ := h
    · refine ⟨_, (pss_one (ps_ret (pe_ix ix_seq (pv 1) (pe_call G_stir (hr.mono (by decide)) (by rfl) D_stir.g D_stir.F.kp D_stir.b .nil pass0 (pa_cons (pv 0) (pa_cons (pe_callB call_len (by rfl) B.b_len (by decide +kernel) (pa_cons (pv 1) pa_nil)) pa_nil))) (fun _ _ => rfl)))), ?_⟩
      have h0 : 0 < xs.length := List.length_pos_iff.mpr hne
      refine ⟨_, rfl, _, rfl, _, rfl, _, xs.length, rfl, .inl ⟨_, SqL.of hl, rfl⟩, p, _, rfl, hp, by omega, by omega, fun r H' r0 r1 hp' hb => ?_⟩
      have hr : r.toNat < xs.length := by omega
      exact .inl ⟨l, xs, r, xs[r.toNat], rfl, rfl, SqL.of (hb _ _ hl hlp), at_of (j := r.toNat) (by omega) (List.getElem?_eq_getElem hr), k _ (List.getElem_mem hr) H' hp' hb⟩
    · refine ⟨_, (pss_one (ps_ret (pe_ix ix_seq (pv 1) (pe_call G_stir (hr.mono (by decide)) (by rfl) D_stir.g D_stir.F.kp D_stir.b .nil pass0 (pa_cons (pv 0) (pa_cons (pe_callB call_len (by rfl) B.b_len (by decide +kernel) (pa_cons (pv 1) pa_nil)) pa_nil))) (fun _ _ => rfl)))), ?_⟩
      have hz : (1000 : Nat) ≤ sizeLine := by decide
      refine ⟨_, rfl, _, rfl, _, rfl, _, z.length, rfl, ⟨by omega, rfl⟩, p, _, rfl, hp, by omega, by omega, fun r H' r0 r1 hp' hb => ?_⟩
      have hl : z.cps.toList.length = z.length := rfl
      have hr : r.toNat < z.cps.toList.length := by omega
      refine .inr (.inr ⟨z, r, z.cps.toList[r.toNat], rfl, rfl, by omega, ?_, k _ (List.getElem_mem hr) H' hp' hb⟩)
      exact at_g r0 (List.getElem?_eq_getElem hr)
end
end V0

namespace V0
open PySem PySem.Spec PyProof.Rows L2
/-! ### data that can be shown -/
theorem SqT.same {K : PySem.W.Frag} {H H' : Hp} {a : Addr} {xs : List V} (e : Same H H') (h : SqT K H a xs) : SqT K H' a xs := by
  rcases h with (h | ⟨o, h⟩) | h
  · exact .inl (.inl (e _ _ h))
  · exact .inl (.inr ⟨o, e _ _ h⟩)
  · exact .inr h
mutual
theorem Dp.same {K : PySem.W.Frag} {H H' : Hp} (s : Same H H') : ∀ (d : PyData) (v : V), Dp K H v d → Dp K H' v d
  | .none, _, h => by cases h; exact .non
  | .bool b, _, h => by cases h; exact .bl b
  | .int i, _, h => by cases h; exact .int i
  | .str x, _, h => by cases h; exact .str x
  | .list ds, _, h => by
    cases h with
    | lst a b => exact .lst (Same.seq s a) (Dp.sameAll s ds _ b)
  | .tuple ds, _, h => by
    cases h with
    | tup a b => exact .tup (SqT.same s a) (Dp.sameAll s ds _ b)
  | .dict _, _, h => by cases h
theorem Dp.sameAll {K : PySem.W.Frag} {H H' : Hp} (s : Same H H') : ∀ (ds : List PyData) (vs : List V), DpAll K H vs ds → DpAll K H' vs ds
  | [], _, h => by cases h; exact .nil
  | d :: ds, _, h => by
    cases h with
    | cons a b => exact .cons (Dp.same s d _ a) (Dp.sameAll s ds _ b)
end
mutual
theorem Dp.noDict {K : PySem.W.Frag} {H : Hp} : ∀ (d : PyData) (v : V), Dp K H v d → d.hasDict = false
  | .none, _, _ => rfl
  | .bool _, _, _ => rfl
  | .int _, _, _ => rfl
  | .str _, _, _ => rfl
  | .list ds, _, h => by
    cases h with
    | lst a b =>
      show PyData.hasDictAll ds = false
      exact Dp.noDictAll ds _ b
  | .tuple ds, _, h => by
    cases h with
    | tup a b =>
      show PyData.hasDictAll ds = false
      exact Dp.noDictAll ds _ b
  | .dict _, _, h => by cases h
theorem Dp.noDictAll {K : PySem.W.Frag} {H : Hp} : ∀ (ds : List PyData) (vs : List V), DpAll K H vs ds → PyData.hasDictAll ds = false
  | [], _, _ => rfl
  | d :: ds, _, h => by
    cases h with
    | cons a b =>
      show (PyData.hasDict d || PyData.hasDictAll ds) = false
      rw [Dp.noDict d _ a, Dp.noDictAll ds _ b]
      rfl
end
/-- not too deep, not too large -/
structure Sm (k : Nat) (d : PyData) : Prop where
  sh : d.showable = true
  lv : d.leavesShort 100 = true
  dp : d.depth ≤ k
  wt : d.weight ≤ 1000 * 4 ^ k
theorem Sm.up {k : Nat} {d : PyData} (h : Sm k d) : Sm (k + 1) d := ⟨h.sh, h.lv, by have := h.dp; omega, by have := h.wt; rw [Nat.pow_succ]; omega⟩
theorem Sm.int {i : Int} (h : i.natAbs < 10 ^ 90) : Sm 0 (.int i) := by
  have h2 : i.natAbs < 2 ^ 900 := Nat.lt_trans h (by decide +kernel)
  have hl : i.natAbs.log2 < 900 := by
    by_cases h0 : i.natAbs = 0
    · rw [h0]; decide
    · exact (Nat.log2_lt h0).mpr h2
  refine ⟨?_, ?_, Nat.le_refl _, ?_⟩
  · show decide (i.natAbs.log2 < 1920) = true
    exact decide_eq_true (by omega)
  · show decide ((PyData.shown (.int i)).length ≤ 100) = true
    have e := int_text_length_le10 (a := i) (k := 90) (by decide) h
    have e2 : (PyData.shown (.int i)).length = (toString i).length := by
      show (Str.ofString (toString i)).length = _
      rw [PySem.ofString_length]
    exact decide_eq_true (by omega)
  · show (if i == 0 then 0 else i.natAbs.log2 + 1) ≤ 1000 * 4 ^ 0
    split <;> omega
theorem Sm.str {z : Str} (h : z.length ≤ 900) (ho : PyData.strOk z = true) : Sm 0 (.str z) := by
  refine ⟨rfl, ?_, Nat.le_refl _, ?_⟩
  · show (z.cps.toList.all fun c => decide (c < 16 ^ 8)) = true
    rw [List.all_eq_true]
    intro c hc
    have q : c < 0x110000 := of_decide_eq_true (Array.all_eq_true_iff_forall_mem.mp ho c (by rw [← Array.mem_toList_iff]; exact hc))
    exact decide_eq_true (by omega)
  · show z.cps.size ≤ 1000 * 4 ^ 0
    have : z.cps.size = z.length := rfl
    omega
theorem Sm.non : Sm 0 .none := ⟨rfl, rfl, Nat.le_refl _, Nat.zero_le _⟩
theorem Sm.bl (b : Bool) : Sm 0 (.bool b) := ⟨rfl, rfl, Nat.le_refl _, Nat.zero_le _⟩
theorem sm_all {k : Nat} : ∀ ds : List PyData, (∀ d ∈ ds, Sm k d) → PyData.showableAll ds = true ∧ PyData.leavesShortAll 100 ds = true ∧ PyData.depthAll ds ≤ k ∧ PyData.weightAll ds ≤ ds.length * (1000 * 4 ^ k + 1)
  | [], _ => ⟨rfl, rfl, Nat.zero_le _, Nat.zero_le _⟩
  | d :: ds, h => by
    obtain ⟨a, b, c, e⟩ := sm_all ds fun x hx => h x (by simp [hx])
    have q := h d (by simp)
    refine ⟨?_, ?_, ?_, ?_⟩
    · show (PyData.showable d && PyData.showableAll ds) = true
      rw [q.sh, a]; rfl
    · show (PyData.leavesShort 100 d && PyData.leavesShortAll 100 ds) = true
      rw [q.lv, b]; rfl
    · show max (PyData.depth d) (PyData.depthAll ds) ≤ k
      exact Nat.max_le.mpr ⟨q.dp, c⟩
    · show PyData.weight d + 1 + PyData.weightAll ds ≤ (ds.length + 1) * (1000 * 4 ^ k + 1)
      have w := q.wt
      rw [Nat.succ_mul]
      omega
theorem Sm.seq {k : Nat} {ds : List PyData} (h : ∀ d ∈ ds, Sm k d) (hn : ds.length ≤ 3) : Sm (k + 1) (.list ds) ∧ Sm (k + 1) (.tuple ds) := by
  obtain ⟨a, b, c, e⟩ := sm_all ds h
  have w : PyData.weightAll ds ≤ 1000 * 4 ^ (k + 1) := by
    have e2 : ds.length * (1000 * 4 ^ k + 1) ≤ 3 * (1000 * 4 ^ k + 1) := Nat.mul_le_mul_right _ hn
    have p : 0 < 4 ^ k := Nat.pow_pos (by decide)
    rw [Nat.pow_succ]
    omega
  exact ⟨⟨a, b, Nat.succ_le_succ c, w⟩, ⟨a, b, Nat.succ_le_succ c, w⟩⟩
theorem Sm.size {k : Nat} {d : PyData} (h : Sm k d) (hk : k ≤ 3) : d.shown.length ≤ sizeLine := by
  have q := PyData.shown_le 100 (by decide) d h.lv
  have w := h.wt
  have p : 4 ^ k ≤ 4 ^ 3 := Nat.pow_le_pow_right (by decide) hk
  have hs : sizeLine = 16777216 := sizeLine_eq
  omega
/-- a dict of ints at a -/
def ikv (ks : List (Int × Int)) : List (Key × V) := ks.map fun p => (.inl p.1, .int p.2)
def idd (ks : List (Int × Int)) : PyData := .dict (ks.map fun p => (.int p.1, .int p.2))
/-- what repr can show -/
inductive Rp (K : PySem.W.Frag) (H : Hp) : V → PyData → Prop
  | dp {x : V} {d : PyData} (h : Dp K H x d) : Rp K H x d
  | dct {a : Addr} {ks : List (Int × Int)} (h : H a = some (.dK (ikv ks))) : Rp K H (.ref a) (idd ks)
  | pair {a b : Addr} {z : Str} {ks : List (Int × Int)} (h : H a = some (.tup [.str z, .ref b])) (h2 : H b = some (.dK (ikv ks))) : Rp K H (.ref a) (.tuple [.str z, idd ks])
section
variable {X : Cx} {pins : List (Addr × Obj)} {σ : L2.St} {H : Hp} {s : Shared}
theorem pairs_ints {P : Program} {w : World} : ∀ {es : List DictEntry} {ks : List (Int × Int)} {vs : List (Key × Value)}, KV (ikv ks) vs → Pairs (mixKind P w) es vs →
    (∃ as, ReadsAll s.heap (es.map (·.key)) (ks.map fun p => PyData.int p.1) as ∧ as = []) ∧ (∃ as, ReadsAll s.heap (es.map (·.val)) (ks.map fun p => PyData.int p.2) as ∧ as = [])
  | es, [], _, kv, p => by
    cases kv
    cases p
    exact ⟨⟨_, .nil, rfl⟩, ⟨_, .nil, rfl⟩⟩
  | es, k :: ks, _, kv, p => by
    cases kv with
    | @cons _ q _ qs e1 e2 =>
      cases p with
      | @cons e _ es' _ p1 p2 p3 =>
        obtain ⟨⟨as, r1, rfl⟩, ⟨bs, r2, rfl⟩⟩ := pairs_ints e2 p3
        obtain ⟨q1, q2⟩ := q
        obtain ⟨e1, t, e3⟩ := e1
        have e1' : Sum.inl k.1 = q1 := e1
        subst e1'
        obtain ⟨t2, e4⟩ := Value.isInt_shape (k := k.1) (v := e.key) p1
        refine ⟨⟨_, ?_, rfl⟩, ⟨_, ?_, rfl⟩⟩
        · rw [List.map_cons, e4]
          exact ReadsAll.cons (.int _ _) r1
        · rw [List.map_cons, p2]
          have e3' : q2 = Value.int k.2 t := e3
          show ReadsAll s.heap (q2 :: _) _ _
          rw [e3']
          exact ReadsAll.cons (.int _ _) r2
theorem dict_reads (I : Inv X pins σ H s) {a : Addr} {ks : List (Int × Int)} (h : H a = some (.dK (ikv ks))) : Reads s.heap (.ref a) (idd ks) [a] ∧ sysModules ≠ a := by
  obtain ⟨hz, hS, vs, r, o, es, ep, h1, h2, h3, h4, h5, h6⟩ := (show ObjOk X.prog X.w H s.heap a (.dK (ikv ks)) from I.hok a _ h)
  obtain ⟨⟨as, r1, rfl⟩, ⟨bs, r2, rfl⟩⟩ := pairs_ints (s := s) r h5
  refine ⟨?_, fun z => by rw [z] at hS; simp at hS⟩
  have q := Reads.dict (h := s.heap) (a := a) (o := o) (es := es) (n := ep) (kvs := ks.map fun p => (PyData.int p.1, PyData.int p.2)) (as := []) (bs := []) h1 h2.1 h3 (by rw [List.map_map]; exact r1) (by rw [List.map_map]; exact r2)
  exact q
theorem Rp.reads (I : Inv X pins σ H s) {x : V} {d : PyData} {u : Value} (h : Rp X.K H x d) (r : RelV x u) : ∃ as, Reads s.heap u d as ∧ (d.hasDict = true → sysModules ∉ as) := by
  cases h with
  | dp h =>
    obtain ⟨as, q⟩ := Dp.reads I d x u h r
    exact ⟨as, q, fun z => by rw [Dp.noDict d x h] at z; cases z⟩
  | dct h =>
    cases r
    obtain ⟨q, n⟩ := dict_reads I h
    exact ⟨_, q, fun _ z => n (by simpa using z)⟩
  | @pair a b z ks h h2 =>
    cases r
    obtain ⟨q, n⟩ := dict_reads I h2
    obtain ⟨its, rv, ⟨o, ho, hc, m, hd⟩, _⟩ := I.tuple (SqT.of h)
    cases rv with
    | cons r1 r2 =>
      cases r2 with
      | cons r2 r3 =>
        cases r3
        obtain ⟨t, e1⟩ := r1
        subst e1
        cases r2
        have ra := ReadsAll.cons (Reads.str (h := s.heap) z t) (ReadsAll.cons q ReadsAll.nil)
        exact ⟨_, Reads.tuple ho hc hd ra, fun _ z => n (by simpa using z)⟩
end
/-- repr, where no other repr is under way -/
def rRepr (K : PySem.W.Frag) : List V → Hp → VK → Prop := fun xs H Q => ∃ (x : V) (d : PyData) (k : Nat), xs = [x] ∧ Rp K H x d ∧ Sm k d ∧ k ≤ 3 ∧ (∃ a, x = .ref a) ∧ Q (.str d.shown) H
theorem call_repr {X : Cx} (hg : X.A.guards = some []) (hu : X.A.units + 64 < cLine) : CallR X (.builtin "repr") (rRepr X.K) := by
  intro pins s σ H xs us Q I r h
  obtain ⟨x, d, k, rfl, hr, hs, hk, ⟨a, rfl⟩, q⟩ := h
  obtain ⟨u, rfl, rx⟩ := vals1 r
  obtain ⟨as, rd, hn⟩ := hr.reads I rx
  cases rx
  have hd := hs.dp
  refine repr_of_reads' rd hs.sh hn hg (by omega) (fun _ _ e => e) (fun h' u tk kk => ?_) (hs.size hk)
  exact ⟨.str d.shown, H, I.kept kk, ⟨_, rfl⟩, q⟩
end V0
namespace V0
open PySem PySem.Spec PyProof.Rows L2
/-! ### own methods under their special names -/
structure OwnM (P : Program) (w : World) (K : PySem.W.Frag) (mg : Str → Option Value) (base : Heap) (CX : CXT) (k : Nat) (C : Addr) (name : Str) (sp : Sp) : Prop where
  ex : ∃ (g : Addr) (fd : FuncData) (ps : List Str), PySem.W.findIn K (.ref C) name = some (some (.ref g)) ∧ PySem.W.isFn K (.ref g) = true ∧ Binds K fd ps [] ∧ FnOk P w K mg base CX k g fd ps sp
section
variable {X : Cx} {CX : CXT} {k : Nat} {C a dx : Addr} {name : Str} {sp : Sp} {E : XK} {pins : List (Addr × Obj)} {σ : L2.St} {H : Hp} {s : Shared} {fs : List (Str × V)}
theorem OwnM.run (O : OwnM X.prog X.w X.K X.mg X.base CX k C name sp) {A : Around} {vs : List V} {us : List Value} {Q : VK} (hr : Room k A) (hf : A.frames = X.A.frames) (hx : Passes CX X E) (I : Inv X pins σ H s) (r : Vals vs us) (h : sp vs H Q E) :
    ∃ g, PySem.W.findIn X.K (.ref C) name = some (some (.ref g)) ∧ PySem.W.isFn X.K (.ref g) = true ∧ wpAny (model X.prog X.w) A (call (.ref g) us) (EP X pins σ Q) X.xe s := by
  obtain ⟨g, fd, ps, h1, h2, hb, F⟩ := O.ex
  refine ⟨g, h1, h2, ?_⟩
  have e0 : Env0 X.prog X.w X.K X.mg X.base A X.stack s H := by
    have e := I.env0
    exact ⟨by rw [hf]; exact e.frames, e.mod, e.bs, e.bsz, e.funs, e.frf, e.hok, e.bare⟩
  have hl : us.length = ps.length := by rw [← r.length]; exact F.len _ _ _ _ h
  have b := hb s us I.kIn (by rw [List.append_nil]; exact hl)
  rw [List.append_nil] at b
  refine wpAny_call (codeAny_mono (F.run A X.stack s H ⟨us, []⟩ us vs Q E hr e0 b r h) fun r s' hq => ?_)
  cases r with
  | error e => exact hx pins σ H s e s' I hq
  | ok fl =>
    cases fl with
    | ret u => exact I.after hq
    | next => exact False.elim hq
    | brk => exact False.elim hq
    | cont => exact False.elim hq
theorem inst_of (I : Inv X pins σ H s) (ha : H a = some (.ins C dx fs)) : ∃ ox od, PySem.W.InstAt s.heap a ox C (some od) := by
  obtain ⟨mA, O, _⟩ := ins_get I.hok ha
  obtain ⟨od, J, _⟩ := O.look
  exact ⟨_, od, J⟩
/-- len(o) -/
def rLenO (C : Addr) (sp : Sp) (E : XK) : List V → Hp → VK → Prop := fun xs H Q => ∃ a dx fs, xs = [.ref a] ∧ H a = some (.ins C dx fs) ∧ sp [.ref a] H (fun v H' => ∃ n : Int, v = .int n ∧ 0 ≤ n ∧ n < 2 ^ 63 ∧ Q (.int n) H') E
theorem call_lenO (O : OwnM X.prog X.w X.K X.mg X.base CX k C "__len__" sp) (hr : Room (k + 1) X.A) (hx : Passes CX X E) : CallR X (.builtin "len") (rLenO C sp E) := by
  intro pins s σ H xs us Q I r h
  obtain ⟨a, dx, fs, rfl, ha, q⟩ := h
  obtain ⟨u, rfl, ru⟩ := vals1 r
  cases (show u = Value.ref a from ru)
  obtain ⟨ox, od, J⟩ := inst_of I ha
  obtain ⟨m, hF⟩ := I.fr
  obtain ⟨g, h1, h2, hw⟩ := O.run (A := X.A.in1) (vs := [.ref a]) (us := [.ref a]) hr.in1 rfl hx I (.cons rfl .nil) q
  refine PySem.W.len_K hF I.ok.mod.kin J h1 h2 (wpAny_mono hw (fun v s' z => ?_) fun _ _ x => x)
  obtain ⟨v', H', I', rv, n, rfl, n0, n1, q'⟩ := z
  obtain ⟨t, rfl⟩ := (show ∃ t, v = Value.int n t from rv)
  exact ⟨⟨n0, n1⟩, .int n, H', I'.tok _, ⟨_, rfl⟩, q'⟩
/-- x in o -/
def rInO (C : Addr) (sp : Sp) (E : XK) (neg : Bool) : R2 := fun x y H Q => ∃ a dx fs, y = .ref a ∧ H a = some (.ins C dx fs) ∧ sp [.ref a, x] H (fun v H' => ∃ b : Bool, v = .bl b ∧ Q (.bl (if neg then !b else b)) H') E
theorem op_inO (O : OwnM X.prog X.w X.K X.mg X.base CX k C "__contains__" sp) (hr : Room k X.A) (hx : Passes CX X E) : OpR X (compareOp .In) (rInO C sp E false) := by
  intro pins s σ H x y v u Q I rx ry h
  obtain ⟨a, dx, fs, rfl, ha, q⟩ := h
  cases (show u = Value.ref a from ry)
  obtain ⟨ox, od, J⟩ := inst_of I ha
  obtain ⟨m, hF⟩ := I.fr
  obtain ⟨g, h1, h2, hw⟩ := O.run (A := X.A) (vs := [.ref a, x]) (us := [.ref a, v]) hr rfl hx I (.cons rfl (.cons rx .nil)) q
  refine PySem.W.in_K hF I.ok.mod.kin J h1 h2 (wpAny_mono hw (fun w s' z => ?_) fun _ _ x => x)
  obtain ⟨v', H', I', rv, b, rfl, q'⟩ := z
  cases (show w = Value.bool b from rv)
  exact wpAny_truthy_bool ⟨.bl b, H', I', rfl, q'⟩
theorem op_notInO (O : OwnM X.prog X.w X.K X.mg X.base CX k C "__contains__" sp) (hr : Room k X.A) (hx : Passes CX X E) : OpR X (compareOp .NotIn) (rInO C sp E true) := by
  intro pins s σ H x y v u Q I rx ry h
  obtain ⟨a, dx, fs, rfl, ha, q⟩ := h
  cases (show u = Value.ref a from ry)
  obtain ⟨ox, od, J⟩ := inst_of I ha
  obtain ⟨m, hF⟩ := I.fr
  obtain ⟨g, h1, h2, hw⟩ := O.run (A := X.A) (vs := [.ref a, x]) (us := [.ref a, v]) hr rfl hx I (.cons rfl (.cons rx .nil)) q
  refine PySem.W.notIn_K hF I.ok.mod.kin J h1 h2 (wpAny_mono hw (fun w s' z => ?_) fun _ _ x => x)
  obtain ⟨v', H', I', rv, b, rfl, q'⟩ := z
  cases (show w = Value.bool b from rv)
  exact wpAny_truthy_bool ⟨.bl (!b), H', I', rfl, q'⟩
/-- o[x] -/
def rIxO (C : Addr) (sp : Sp) (E : XK) : R2 := fun x y H Q => ∃ a dx fs, x = .ref a ∧ H a = some (.ins C dx fs) ∧ sp [.ref a, y] H Q E
theorem pe_ixO {e i : Expr} {te ti : TE} {pos : Pos} (O : OwnM X.prog X.w X.K X.mg X.base CX k C "__getitem__" sp) (hfn : ∀ g, PySem.W.findIn X.K (.ref C) "__getitem__" = some (some (.ref g)) → PySem.W.fnIn X.K g = true) (hr : Room (k + 1) X.A) (hx : Passes CX X E) (he : PE X e te) (hi : PE X i ti)
    (hsl : ∀ x y, subscripted i true (.ref x) y = runValue (.builtin "lifetime.subscript" ⟨[.ref x, y], []⟩) := by intro _ _; rfl) : PE X (.Subscript e i pos) (tOp (rIxO C sp E) te ti) := by
  refine ⟨fun pins s σ H Q I h => ?_⟩
  refine Subscript_ (binT he hi I h fun v u s2 x y H2 I2 rx ry q => ?_)
  obtain ⟨a, dx, fs, rfl, ha, q⟩ := q
  cases (show v = Value.ref a from rx)
  obtain ⟨ox, od, J⟩ := inst_of I2 ha
  obtain ⟨m, hF⟩ := I2.fr
  obtain ⟨g, h1, h2, hw⟩ := O.run (A := X.A.in1) (vs := [.ref a, y]) (us := [.ref a, u]) hr.in1 rfl hx I2 (.cons rfl (.cons ry .nil)) q
  exact PySem.W.sub_K hF I2.ok.mod.kin J h1 (hfn g h1) h2 hw (hsl _ _)
/-- str(o) -/
def rStrO (C : Addr) (sp : Sp) (E : XK) : List V → Hp → VK → Prop := fun xs H Q => ∃ a dx fs, xs = [.ref a] ∧ H a = some (.ins C dx fs) ∧ sp [.ref a] H (fun v H' => ∃ z : Str, v = .str z ∧ Q (.str z) H') E
theorem call_strO (O : OwnM X.prog X.w X.K X.mg X.base CX k C "__str__" sp) (hr : Room (k + 2) X.A) (hx : Passes CX X E) : CallR X (.type "str") (rStrO C sp E) := by
  intro pins s σ H xs us Q I r h
  obtain ⟨a, dx, fs, rfl, ha, q⟩ := h
  obtain ⟨u, rfl, ru⟩ := vals1 r
  cases (show u = Value.ref a from ru)
  obtain ⟨ox, od, J⟩ := inst_of I ha
  obtain ⟨g, h1, h2, hw⟩ := O.run (A := X.A.in1.in1) (vs := [.ref a]) (us := [.ref a]) (show Room (k + 1) X.A.in1 from hr.in1).in1 rfl hx I (.cons rfl .nil) q
  have un := hr.un
  refine PySem.W.kso_call (by show X.A.units + 1 + 1 < _; omega) I.kIn J h1 h2 (wpAny_mono hw (fun v s' z => ?_) fun _ _ x => x)
  obtain ⟨v', H', I', rv, z, rfl, q'⟩ := z
  obtain ⟨t, rfl⟩ := (show ∃ t, v = Value.str z t from rv)
  exact ⟨.str z, H', I', ⟨t, rfl⟩, q'⟩
/-- ~o -/
def rInvO (C : Addr) (sp : Sp) (E : XK) : V → Hp → VK → Prop := fun x H Q => ∃ a dx fs, x = .ref a ∧ H a = some (.ins C dx fs) ∧ sp [.ref a] H Q E
theorem un_invO (O : OwnM X.prog X.w X.K X.mg X.base CX k C "__invert__" sp) (hr : Room k X.A) (hx : Passes CX X E) : UnR X (unaryOp .Invert) (rInvO C sp E) := by
  intro pins s σ H x v Q I rx h
  obtain ⟨a, dx, fs, rfl, ha, q⟩ := h
  cases (show v = Value.ref a from rx)
  obtain ⟨ox, od, J⟩ := inst_of I ha
  obtain ⟨m, hF⟩ := I.fr
  obtain ⟨g, h1, h2, hw⟩ := O.run (A := X.A) (vs := [.ref a]) (us := [.ref a]) hr rfl hx I (.cons rfl .nil) q
  exact PySem.W.ksp_inv hF I.ok.mod.kin J h1 h2 hw
end
end V0
namespace V0
open PySem PySem.Spec PyProof.Rows L2
/-! ### own classes: isinstance, ==, != -/
structure Kls (K : PySem.W.Frag) (mg : Str → Option Value) (x : Str) (C : Addr) : Prop where
  g : mg x = some (.ref C)
  cl : Cls K C
  ha : PySem.W.findIn K (.ref C) "__class__" = some (some (.builtin "object.__class__"))
  hn : PySem.W.specialIn K (.builtin "object.__class__") "__get__" = some (some (.builtin "getset_descriptor.__get__"))
  htk : PySem.W.takesIn K (.builtin "object.__class__") = some true
  hm : PySem.W.mroIn K C (.type "object") = some true
  ty : PySem.W.typeIn K (.ref C) = some (.type "type")
  ne : PySem.W.findIn K (.ref C) "__ne__" = some (some (.builtin "object.__ne__"))
theorem Kls.gv {K : PySem.W.Frag} {mg : Str → Option Value} {x : Str} {C : Addr} (k : Kls K mg x C) : GV mg x (.ref C) := ⟨_, k.g, rfl⟩
theorem Kls.ins {K : PySem.W.Frag} {mg : Str → Option Value} {x : Str} {C : Addr} (k : Kls K mg x C) {H : Hp} {a dx : Addr} {fs : List (Str × V)} (e : H a = some (.ins C dx fs)) : TyX K H (.ref a) (.ref C) := .base (.ins e k.cl k.ha k.hn k.htk k.hm)
theorem Kls.self {K : PySem.W.Frag} {C : Addr} : PySem.W.kitOne K (.ref C) (.ref C) = some true := by
  unfold PySem.W.kitOne
  simp
theorem nf_self {K : PySem.W.Frag} {C : Addr} : PySem.W.notFirst K C (.ref C) = true := by
  unfold PySem.W.notFirst
  simp
theorem sub_kd {K : PySem.W.Frag} {C : Addr} (t : Kd) : PySem.W.subIn K (.type t.nm) (.ref C) = some false := by
  have go : ∀ (l : List Value), (∀ v ∈ l, ∃ n, v = .type n) → l.contains (.ref C) = false := fun l hl => by
    refine Bool.eq_false_iff.mpr fun z => ?_
    obtain ⟨n, e⟩ := hl _ (List.contains_iff_mem.mp z)
    cases e
  have mro : ∃ l, PySem.fastBuiltinMro t.nm = some l ∧ l.all (fun v => match v with | .type _ => true | _ => false) = true := by
    have q : (PySem.fastBuiltinMro t.nm).any (fun l => l.all (fun v => match v with | .type _ => true | _ => false)) = true := by cases t <;> decide +kernel
    cases e : PySem.fastBuiltinMro t.nm with
    | none => rw [e] at q; cases q
    | some l => rw [e] at q; exact ⟨l, rfl, q⟩
  obtain ⟨l, e, h⟩ := mro
  show (PySem.fastBuiltinMro t.nm).map (·.contains (.ref C)) = some false
  rw [e]
  show some (l.contains (.ref C)) = some false
  rw [go l fun v hv => ?_]
  have q := List.all_eq_true.mp h v hv
  cases v <;> first | exact ⟨_, rfl⟩ | exact absurd q Bool.false_ne_true
theorem nf_kd {K : PySem.W.Frag} {C : Addr} (t : Kd) : PySem.W.notFirst K C (.type t.nm) = true := by
  unfold PySem.W.notFirst
  rw [sub_kd t]
  simp
theorem Kls.kd {K : PySem.W.Frag} {mg : Str → Option Value} {x : Str} {C : Addr} (k : Kls K mg x C) (t : Kd) : PySem.W.kitOne K (.type t.nm) (.ref C) = some false := by
  obtain ⟨cd, hc, _⟩ := PySem.W.any_some k.cl.hd
  unfold PySem.W.kitOne PySem.W.kitCls
  have n : (Value.type t.nm == Value.ref C) = false := Bool.eq_false_iff.mpr fun z => by
    have := beq_iff_eq.mp z
    cases this
  rw [n, if_neg Bool.false_ne_true]
  have h2 : ((PySem.W.clsIn K C).isSome && PySem.W.typeIn K (.ref C) == some (.type "type")) = true := by
    rw [hc, k.ty]
    simp
  simp only [h2, if_true]
  exact sub_kd t
section
variable {X : Cx} {CX : CXT} {k : Nat} {C a dx : Addr} {sp : Sp} {E : XK} {pins : List (Addr × Obj)} {σ : L2.St} {H : Hp} {s : Shared} {fs : List (Str × V)}
/-- o == y -/
def rEqO (K : PySem.W.Frag) (C : Addr) (sp : Sp) (E : XK) (neg : Bool) : R2 := fun x y H Q => ∃ a dx fs tb, x = .ref a ∧ H a = some (.ins C dx fs) ∧ TyX K H y tb ∧ PySem.W.notFirst K C tb = true ∧ sp [.ref a, y] H (fun v H' => ∃ b : Bool, v = .bl b ∧ Q (.bl (if neg then !b else b)) H') E
theorem op_eqO (O : OwnM X.prog X.w X.K X.mg X.base CX k C "__eq__" sp) (hr : Room k X.A) (hx : Passes CX X E) : OpR X (compareOp .Eq) (rEqO X.K C sp E false) := by
  intro pins s σ H x y v u Q I rx ry h
  obtain ⟨a, dx, fs, tb, rfl, ha, hty, hnf, q⟩ := h
  cases (show v = Value.ref a from rx)
  obtain ⟨ox, od, J⟩ := inst_of I ha
  obtain ⟨m, hF⟩ := I.fr
  obtain ⟨P, Z, p, _⟩ := kit_of I ry hty
  obtain ⟨g, h1, h2, hw⟩ := O.run (A := X.A) (vs := [.ref a, y]) (us := [.ref a, u]) hr rfl hx I (.cons rfl (.cons ry .nil)) q
  show wpAny _ _ (richCompare .Eq (.ref a) u) _ _ s
  refine PySem.W.cmp_K (op := .Eq) hr.units0 hF I.ok.mod.kin J (Z.ty _ _ I.kIn p) hnf h1 h2 (wpAny_mono hw (fun w s' z => ?_) fun _ _ x => x)
  obtain ⟨v', H', I', rv, b, rfl, q'⟩ := z
  cases (show w = Value.bool b from rv)
  exact ⟨.bl b, H', I', rfl, q'⟩
theorem objNe_own {A : Around} {M : Model} {E : Value → Shared → Prop} {K : PySem.W.Frag} {ox : Obj} {od : Option Obj} {g : Addr} {b : Value} (hu : A.units < cLine) (X : K.In s.heap) (I : PySem.W.InstAt s.heap a ox C od) (hs : PySem.W.findIn K (.ref C) "__eq__" = some (some (.ref g))) (hf : PySem.W.isFn K (.ref g) = true)
    {Q : PySem.Fin → Shared → Prop} (h : wpAny M A (call (.ref g) [.ref a, b]) (fun v s' => ∃ c, v = .bool c ∧ Q (.done (.ret (.bool (!c)))) s') E s) : wpAny M A (Builtin.«object.__ne__» ⟨[.ref a, b], []⟩) Q E s := by
  unfold Builtin.«object.__ne__»
  repeat (first
    | with_reducible refine wpAny_cRoomFor hu ?_
    | (refine wpAny_bind (m := callSpecialIfBound? (.ref a) (Str.ofString "__eq__") [b])
        (PySem.W.ifBound_K X I hs hf (wpAny_mono h (fun r s' hr => by
          obtain ⟨c, rfl, hq⟩ := hr
          repeat (first | exact hq | exact wpAny_pure hq | exact wpAny_truthy_bool hq | (refine wpAny_bind (m := truthy (.bool _)) (wpAny_truthy_bool ?_)) | wp_step)) fun _ _ e => e)))
    | wp_step)
theorem ifBound_objNe {A : Around} {M : Model} {E : Value → Shared → Prop} {K : PySem.W.Frag} {ox : Obj} {od : Option Obj} {args : List Value} {Q : Option Value → Shared → Prop} (X : K.In s.heap) (I : PySem.W.InstAt s.heap a ox C od) (hs : PySem.W.findIn K (.ref C) "__ne__" = some (some (.builtin "object.__ne__")))
    (h : wpAny M A (call (.builtin "object.__ne__") (.ref a :: args)) (fun v => Q (some v)) E s) : wpAny M A (callSpecialIfBound? (.ref a) "__ne__" args) Q E s := by
  have fin : wpAny M A (call (.builtin "object.__ne__") ([.ref a] ++ args) >>= fun v => pure (some v)) Q E s := wpAny_bind (wpAny_mono h (fun v s' z => wpAny_pure z) fun _ _ z => z)
  simp only [callSpecialIfBound?, bindSpecialIfBound?]
  refine wpAny_holding (wpAny_bind (wpAny_bind (wpAny_bind (I.type.here ((PySem.W.looks_findIn X hs).here ?_)))))
  refine wpAny_bind (wpAny_askSetting (wpAny_ite ?_))
  split
  · exact wpAny_bind (wpAny_of_eq (F.cmp_object.ne.bind _) (wpAny_pure (by exact fin)))
  · exact wpAny_tryCatch (wpAny_bind (wpAny_of_eq (F.cmp_object.ne.bind _) (wpAny_pure (by exact fin))))
/-- o != y, != not told by the class -/
theorem op_neO (O : OwnM X.prog X.w X.K X.mg X.base CX k C "__eq__" sp) (hne : PySem.W.findIn X.K (.ref C) "__ne__" = some (some (.builtin "object.__ne__"))) (hm : PySem.W.mroIn X.K C (.type "object") = some true) (hr : Room (k + 1) X.A) (hx : Passes CX X E) : OpR X (compareOp .NotEq) (rEqO X.K C sp E true) := by
  intro pins s σ H x y v u Q I rx ry h
  obtain ⟨a, dx, fs, tb, rfl, ha, hty, hnf, q⟩ := h
  cases (show v = Value.ref a from rx)
  obtain ⟨ox, od, J⟩ := inst_of I ha
  obtain ⟨P, Z, p, _⟩ := kit_of I ry hty
  have hb := Z.ty (model X.prog X.w) _ I.kIn p
  obtain ⟨g, h1, h2, hw⟩ := O.run (A := X.A.in1) (vs := [.ref a, y]) (us := [.ref a, u]) hr.in1 rfl hx I (.cons rfl (.cons ry .nil)) q
  have un := hr.un
  have one : wpAny (model X.prog X.w) X.A (tryCompare (.ref a) "__ne__" u) (fun r s' => ∃ v, r = some v ∧ EP X pins σ Q v s') X.xe s := by
    unfold tryCompare
    refine wpAny_bind (ifBound_objNe I.kIn J hne ?_)
    refine wpAny_call (codeAny_call_builtin F.cmp_object.ne.plain F.cmpEntry_ne (PySem.W.check_slot F.cmpKind_ne F.cmpSplit_ne (J.type.andThen (PySem.W.looks_mroIn I.kIn hm)) (F.cmpArgs_ne _ _) (objNe_own (by show X.A.units + 1 < _; omega) I.kIn J h1 h2 (wpAny_mono hw (fun w s' z => ?_) fun _ _ x => x))))
    obtain ⟨v', H', I', rv, b, rfl, q'⟩ := z
    cases (show w = Value.bool b from rv)
    have fin : EP X pins σ Q (.bool (!b)) s' := ⟨.bl (!b), H', I', rfl, q'⟩
    first
      | exact ⟨b, rfl, ⟨_, rfl, wpAny_pure ⟨_, rfl, fin⟩⟩⟩
      | exact ⟨b, rfl, wpAny_pure ⟨_, rfl, fin⟩⟩
      | exact ⟨b, rfl, ⟨_, rfl, ⟨_, rfl, fin⟩⟩⟩
  show wpAny _ _ (richCompare .NotEq (.ref a) u) _ _ s
  unfold richCompare
  simp only [oneThing_ref]
  refine wpAny_holding (wpAny_bind (wpAny_cRoomFor hr.units0 ?_))
  refine wpAny_bind (J.type.here (wpAny_bind (hb.here ?_)))
  split
  · rename_i qq
    have e : PySem.W.subIn X.K tb (.ref C) = some false := by
      rcases Bool.or_eq_true_iff.mp hnf with e | e
      · rw [beq_iff_eq.mp e] at qq; simp at qq
      · exact beq_iff_eq.mp e
    refine wpAny_bind ((PySem.W.looks_subIn I.kIn e).here ?_)
    simp only [Bool.false_eq_true, if_false]
    refine wpAny_bind (wpAny_mono one (fun r s' z => ?_) fun _ _ e => e)
    obtain ⟨v, rfl, hq⟩ := z
    exact wpAny_pure hq
  · refine wpAny_bind (wpAny_pure ?_)
    simp only [Bool.false_eq_true, if_false]
    refine wpAny_bind (wpAny_mono one (fun r s' z => ?_) fun _ _ e => e)
    obtain ⟨v, rfl, hq⟩ := z
    exact wpAny_pure hq
end
end V0
namespace V0
open PySem PySem.Spec PyProof.Rows L2
/-! ### an own class that walks a tuple of its own -/
def ItT (t p : Addr) : HO := .ext fun h => h.IsTupleIter p t 0
theorem itT_ok {P : Program} {w : World} {H : Hp} {h : Heap} {t p : Addr} (R : h.IsTupleIter p t 0) : ObjOk P w H h p (ItT t p) := by
  have ⟨o, ho, _⟩ := R
  refine ⟨R, ⟨o, ho⟩, fun h1 h2 q k => ?_⟩
  obtain ⟨o1, e1, r1⟩ := q
  exact ⟨o1, k o1 e1, r1⟩
theorem itT_get {X : Cx} {pins : List (Addr × Obj)} {σ : L2.St} {H : Hp} {s : Shared} {t p : Addr} (I : Inv X pins σ H s) (h : H p = some (ItT t p)) : s.heap.IsTupleIter p t 0 := (I.hok p _ h).1
/-- iter(t) -/
def rIterT (K : PySem.W.Frag) (n : Nat) : List V → Hp → VK → Prop := fun xs H Q => ∃ (t : Addr) (zs : List V), xs = [.ref t] ∧ SqT K H t zs ∧ ∀ it, H it = none → n ≤ it → Q (.ref it) (upd H it (ItT t it))
theorem call_iterT {X : Cx} : CallR X (.builtin "iter") (rIterT X.K X.s_0.heap.objs.size) := by
  intro pins s σ H xs us Q I r h
  obtain ⟨t, zs, rfl, hq, q⟩ := h
  obtain ⟨u, rfl, ru⟩ := vals1 r
  cases ru
  obtain ⟨its, rv, pl, hz⟩ := I.tuple hq
  refine Calls.call_function_entry (by decide +kernel) (by decide +kernel) PySem.W.kdk_entry_iter (PySem.W.kdk_args_iter _) ?_
  unfold Builtin.«iter»
  refine wpAny_bind (m := someArgs "iter" 1 2 _) (wpAny_of_eq (a := [Value.ref t]) (by first | rfl | kernel_rfl!) ?_)
  show wpAny _ _ (pyIter (.ref t) >>= _) _ _ _
  refine wpAny_bind (wpAny_pyIter_tuple (show s.heap.IsTuple t its.toArray from pl) ?_)
  exact wpAny_pure ⟨_, rfl, .ref s.heap.objs.size, _, I.laid (t' := s.toks) (fun b u e => Heap.get?_push_of_some _ e) (Nat.le_refl _) (itT_ok ⟨_, Heap.get?_push_size _ rfl, rfl, rfl⟩), rfl, q _ (I.hok.fresh (Nat.le_refl _)) I.sz⟩
/-- what the class's __iter__ does: a new iterator of the tuple kept as f -/
structure ItM (P : Program) (w : World) (K : PySem.W.Frag) (mg : Str → Option Value) (base : Heap) (k : Nat) (C : Addr) (f : Str) : Prop where
  ex : ∃ g : Addr, PySem.W.findIn K (.ref C) "__iter__" = some (some (.ref g)) ∧ PySem.W.isFn K (.ref g) = true ∧
    ∀ (A : Around) (outer : List Env) (s : Shared) (H : Hp) (a dx t : Addr) (fs : List (Str × V)) (xs : List V), Room k A → Env0 P w K mg base A outer s H → H a = some (.ins C dx fs) → fs.lookup f = some (.ref t) → SqT K H t xs →
      codeAny (model P w) A (.call (.ref g) ⟨[.ref a], []⟩) (CR CX0 outer P w H s (fun v H' => ∃ p, v = .ref p ∧ s.heap.objs.size ≤ p ∧ H p = none ∧ H' = upd H p (ItT t p)) E0) s
section
variable {X : Cx} {k : Nat} {C a dx t : Addr} {f : Str} {pins : List (Addr × Obj)} {σ : L2.St} {H : Hp} {s : Shared} {fs : List (Str × V)} {xs : List V}
theorem iter_own {A : Around} {Q : Value → Shared → Prop} {E : Value → Shared → Prop} (O : ItM X.prog X.w X.K X.mg X.base k C f) (hr : Room k A) (hf : A.frames = X.A.frames) (I : Inv X pins σ H s) (ha : H a = some (.ins C dx fs)) (hl : fs.lookup f = some (.ref t)) (ht : SqT X.K H t xs)
    (h : ∀ p s', H p = none → X.s_0.heap.objs.size ≤ p → Inv X pins σ (upd H p (ItT t p)) s' → Q (.ref p) s') : wpAny (model X.prog X.w) A (pyIter (.ref a)) Q E s := by
  obtain ⟨g, h1, h2, R⟩ := O.ex
  obtain ⟨ox, od, J⟩ := inst_of I ha
  obtain ⟨m, hF⟩ := I.fr
  have e0 : Env0 X.prog X.w X.K X.mg X.base A X.stack s H := by
    have e := I.env0
    exact ⟨by rw [hf]; exact e.frames, e.mod, e.bs, e.bsz, e.funs, e.frf, e.hok, e.bare⟩
  refine PySem.W.owit_iter hF I.ok.mod.kin J h1 h2 (wpAny_call (codeAny_mono (R A X.stack s H a dx t fs xs hr e0 ha hl ht) fun r s' hq => ?_))
  cases r with
  | error e => exact False.elim hq
  | ok fl =>
    cases fl with
    | ret u =>
      obtain ⟨v, H', I', rv, p, rfl, hp, hn, rfl⟩ := I.after hq
      cases rv
      have st := itT_get I' upd_same
      unfold PySem.W.OwitIt
      exact wpAny_specialOf st.typeIs PySem.F.slot_tuple_iterator_next.lookup (h p s' hn (Nat.le_trans I.sz hp) I')
    | next => exact False.elim hq
    | brk => exact False.elim hq
    | cont => exact False.elim hq
/-- for x in o -/
def iOwn (K : PySem.W.Frag) (C : Addr) (f : Str) (te : TE) : TI := fun σ H R => te σ H fun x H1 => ∃ a dx fs t, x = .ref a ∧ H1 a = some (.ins C dx fs) ∧ fs.lookup f = some (.ref t) ∧ (∃ xs, SqT K H1 t xs) ∧ R (Itt K t) H1
theorem pi_own {tg e : Expr} {te : TE} (O : ItM X.prog X.w X.K X.mg X.base k C f) (hr : Room k X.A) (he : PE X e te) : PI X tg e (iOwn X.K C f te) := by
  refine ⟨fun pins s σ H R I h => ?_⟩
  refine thn (he.run pins s σ H _ I h) fun v s1 ⟨x, H1, I1, r1, q1⟩ => ?_
  obtain ⟨a, dx, fs, t, rfl, ha, hl, ⟨xs, ht⟩, q⟩ := q1
  cases r1
  refine iter_own O hr rfl I1 ha hl ht fun p s2 hn hp I2 => ?_
  have st := itT_get I2 upd_same
  have eH : ItX.dropH (upd H1 p (ItT t p)) p = H1 := ItX.dropH_upd hn
  have I3 := ItX.inv_drop I2 (show (upd H1 p (ItT t p)) p = some (.ext _) from upd_same)
  have F3 := ItX.inv_fp I2 (show (upd H1 p (ItT t p)) p = some (ItT t p) from upd_same) hp
  rw [eH] at I3 F3
  refine ⟨p, [p], _, _, H1, rfl, I3, turn_tuple t p, st, fun b hb => ?_, q⟩
  have e : b = p := by simpa using hb
  subst e
  exact F3
end
end V0
namespace V0
open PySem PySem.Spec PyProof.Rows L2
section
variable {X : Cx} {k : Nat} {C a dx t q : Addr} {f : Str} {pins : List (Addr × Obj)} {σ : L2.St} {s : Shared} {fs : List (Str × V)} {xs : List V}
theorem take_one' {α : Type} {l : List α} {i : Nat} (h : i < l.length) : l.take (i + 1) = l.take i ++ [l[i]] := by
  rw [List.take_add_one, List.getElem?_eq_getElem h]
  rfl
/-- list.extend's loop over a tuple's iterator -/
theorem ext_loop {A1 : Around} {it : Addr} {Rs : Result → Shared → Prop} (hh : A1.handled = none) (hqt : q ≠ t) (hz : xs.length ≤ sizeLine) :
    ∀ (m i : Nat) (H : Hp) (s : Shared), m = xs.length - i → i ≤ xs.length → Inv X pins σ H s → SqT X.K H t xs → H q = some (.lst (xs.take i)) → FpOk X pins H it → s.heap.IsTupleIter it t i →
      (∀ H' s', Inv X pins σ H' s' → H' q = some (.lst xs) → (∃ H0, H0 = H' ∧ ∀ b, b ≠ q → H' b = H b) → Rs (.ok (.ret .none)) s') →
      codeAny (model X.prog X.w) A1 (.builtin "list.extend.loop" ⟨[.ref q, .ref it, .none], []⟩) Rs s := by
  intro m
  induction m with
  | zero =>
    intro i H s hm hi I ht hq hf st hR
    have e : i = xs.length := by omega
    subst e
    refine codeAny_builtin PySem.F.entry_extend_loop ?_
    rw [Around.under_plainId PySem.F.plain_extend_loop _]
    show wpAny _ A1.in1 (pyNext (.ref it) >>= _) _ _ s
    obtain ⟨its, rv, p, hz2⟩ := I.tuple ht
    obtain ⟨f0, f1, f2, f3, f4, f5⟩ := hf
    have hl := rv.length
    refine wpAny_bind (wpAny_pyNext_tuple_end hh st (show s.heap.IsTuple t its.toArray from p) (by simp; omega) fun h' eb => ?_)
    have I1 : Inv X pins σ H { s with heap := h' } := I.turned (t' := s.toks) (fun b o hb e => eb b o hb e) f0 f1 f3 f4 f5
    rw [List.take_length] at hq
    exact wpAny_pure (hR H _ I1 hq ⟨H, rfl, fun b _ => rfl⟩)
  | succ m ih =>
    intro i H s hm hi I ht hq hf st hR
    have hlt : i < xs.length := by omega
    refine codeAny_builtin PySem.F.entry_extend_loop ?_
    rw [Around.under_plainId PySem.F.plain_extend_loop _]
    show wpAny _ A1.in1 (pyNext (.ref it) >>= _) _ _ s
    obtain ⟨its, rv, p, hz2⟩ := I.tuple ht
    obtain ⟨u, hu, ru⟩ := rv.get (List.getElem?_eq_getElem hlt)
    have hf' := hf
    obtain ⟨f0, f1, f2, f3, f4, f5⟩ := hf
    refine wpAny_bind (wpAny_pyNext_tuple_item st (show s.heap.IsTuple t its.toArray from p) (x := u) (by simpa using hu) fun h' st' sb => ?_)
    have I1 : Inv X pins σ H { s with heap := h' } := I.turned (t' := s.toks) (fun b o hb e => (sb.2 b hb).trans e) f0 f1 f3 f4 f5
    show wpAny _ A1.in1 (updateSeq q (·.push u) >>= _) _ _ _
    obtain ⟨z, its2, k2, r2, hl2, e2⟩ := I1.lstM hq
    have hl3 : its2.length = i := by rw [← r2.length, List.length_take]; omega
    refine wpAny_bind (wpAny_updateSeq e2 rfl (wpAny_pure ⟨plainId_quiet PySem.F.plain_extend_loop _, ?_⟩) (by rw [List.size_toArray]; omega) (by show (its2.toArray.push u).size ≤ sizeLine + 1; rw [Array.size_push, List.size_toArray]; omega))
    have I2 := I1.lset (f := (·.push u)) (its' := its2 ++ [u]) (ys := xs.take (i + 1)) (t' := s.toks) hq e2 (by simp) (by rw [take_one' hlt]; exact r2.append (.cons ru .nil)) (by rw [List.length_take]; omega)
    have hiq : it ≠ q := fun z => by rw [z] at f0; rw [f0] at hq; cases hq
    refine ih (i + 1) _ _ (by omega) hlt I2 ?_ upd_same ⟨by rw [upd_ne hiq]; exact f0, f1, f2, f3, f4, f5⟩ ?_ fun H' s' I' hq' ⟨H0, _, hb⟩ => hR H' s' I' hq' ⟨H', rfl, fun b hb' => by rw [hb b hb', upd_ne hb']⟩
    · unfold SqT Rd at ht ⊢
      simp only [upd_ne (Ne.symm hqt)]
      exact ht
    · obtain ⟨o, ho, r⟩ := st'
      exact ⟨o, (by
        have := Heap.get?_update_ne
        exact (Heap.get?_update_ne _ _ _ _ hiq).trans ho), r⟩
theorem OwnM.run0 {name : Str} {sp : Sp} {H : Hp} (O : OwnM X.prog X.w X.K X.mg X.base CX0 k C name sp) {A : Around} {vs : List V} {us : List Value} {Q : VK} {EE : Value → Shared → Prop} (hr : Room k A) (hf : A.frames = X.A.frames) (I : Inv X pins σ H s) (r : Vals vs us) (h : sp vs H Q E0) :
    ∃ g, PySem.W.findIn X.K (.ref C) name = some (some (.ref g)) ∧ PySem.W.isFn X.K (.ref g) = true ∧ wpAny (model X.prog X.w) A (call (.ref g) us) (EP X pins σ Q) EE s := by
  obtain ⟨g, fd, ps, h1, h2, hb, F⟩ := O.ex
  refine ⟨g, h1, h2, ?_⟩
  have e0 : Env0 X.prog X.w X.K X.mg X.base A X.stack s H := by
    have e := I.env0
    exact ⟨by rw [hf]; exact e.frames, e.mod, e.bs, e.bsz, e.funs, e.frf, e.hok, e.bare⟩
  have hl : us.length = ps.length := by rw [← r.length]; exact F.len _ _ _ _ h
  have b := hb s us I.kIn (by rw [List.append_nil]; exact hl)
  rw [List.append_nil] at b
  refine wpAny_call (codeAny_mono (F.run A X.stack s H ⟨us, []⟩ us vs Q E0 hr e0 b r h) fun r s' hq => ?_)
  cases r with
  | error e => exact False.elim hq
  | ok fl =>
    cases fl with
    | ret u => exact I.after hq
    | next => exact False.elim hq
    | brk => exact False.elim hq
    | cont => exact False.elim hq
theorem if_yes {α : Type} {M : Model} {A : Around} {E : Value → Shared → Prop} {s : Shared} {c : Bool} {a b : Sem α} {Q : α → Shared → Prop} (hc : c = true) (h : wpAny M A a Q E s) : wpAny M A (if c = true then a else b) Q E s := by
  rw [if_pos hc]
  exact h
/-- list(o) -/
def rListO (K : PySem.W.Frag) (C : Addr) (f : Str) (sp : Sp) : List V → Hp → VK → Prop := fun xs H Q => ∃ a dx fs t zs, xs = [.ref a] ∧ H a = some (.ins C dx fs) ∧ fs.lookup f = some (.ref t) ∧ SqT K H t zs ∧ zs.length ≤ sizeLine ∧
  (∀ H', Same H H' → sp [.ref a] H' (fun v H2 => H2 = H' ∧ ∃ n : Int, v = .int n ∧ 0 < n ∧ n < 1000) E0) ∧ ∀ q, H q = none → Q (.ref q) (upd H q (.lst zs))
theorem hint_own {H : Hp} {A : Around} {sp : Sp} {Q : Bool → Shared → Prop} {EE : Value → Shared → Prop} (L : OwnM X.prog X.w X.K X.mg X.base CX0 k C "__len__" sp) (hr : Room (k + 1) A) (hf : A.frames = X.A.frames) (I : Inv X pins σ H s) (ha : H a = some (.ins C dx fs)) (hs : sp [.ref a] H (fun v H2 => H2 = H ∧ ∃ n : Int, v = .int n ∧ 0 < n ∧ n < 1000) E0)
    (h : ∀ s', Inv X pins σ H s' → Q true s') : wpAny (model X.prog X.w) A (Builtin.List.listLengthHint (.ref a)) Q EE s := by
  obtain ⟨ox, od, J⟩ := inst_of I ha
  obtain ⟨m, hF⟩ := I.fr
  obtain ⟨g, h1, h2, hw⟩ := L.run0 (A := A.in1) (EE := fun e s' => False) (vs := [.ref a]) (us := [.ref a]) hr.in1 hf I (.cons rfl .nil) hs
  unfold Builtin.List.listLengthHint
  refine wpAny_bind (wpAny_bind (J.type.here ((PySem.W.looks_findIn I.kIn h1).here ?_)))
  refine PySem.W.KFB.if_not rfl ?_
  refine if_yes rfl ?_
  refine wpAny_bind (wpAny_rule (wpAny_bind (wpAny_attempt ?_)))
  refine PySem.W.len_K hF I.ok.mod.kin J h1 h2 (wpAny_mono hw (fun v s' z => ?_) fun _ _ x => x.elim)
  obtain ⟨v', H', I', rv, rfl, n, rfl, n0, n1⟩ := z
  obtain ⟨t, rfl⟩ := (show ∃ t, v = Value.int n t from rv)
  refine ⟨⟨by omega, by omega⟩, ?_⟩
  dsimp only
  refine wpAny_bind (wpAny_of_eq (a := some n) rfl ?_)
  dsimp only
  refine PySem.W.KFB.if_not (by unfold Builtin.List.listTooLong; rw [sizeLine_eq]; exact decide_eq_false (by omega)) ?_
  have e : (n != 0) = true := by rw [bne_iff_ne]; omega
  rw [e]
  exact wpAny_pure (h _ (I'.tok _))
theorem call_listO {sp : Sp} {kl : Nat} (O : ItM X.prog X.w X.K X.mg X.base k C f) (L : OwnM X.prog X.w X.K X.mg X.base CX0 kl C "__len__" sp) (hc : X.calm = true) (hr : Room (k + 2) X.A) (hrl : Room (kl + 4) X.A) : CallR X (.type "list") (rListO X.K C f sp) := by
  intro pins s σ H xs us Q I rv h
  obtain ⟨a, dx, fs, t, zs, rfl, ha, hl, ht, hz, hsp, hq⟩ := h
  obtain ⟨u, rfl, ru⟩ := rv.one
  cases ru
  have r2 : Room k X.A.in1.in1 := (show Room (k + 1) X.A.in1 from hr.in1).in1
  have rl2 : Room (kl + 1) X.A.in1.in1 := ((show Room (kl + 3) X.A.in1 from hrl.in1).in1).mono (by omega)
  refine callType_codes (Q₁ := fun obj s₁ => obj = .ref s.heap.objs.size ∧ s₁ = { s with heap := s.heap.push { cls := .type "list", data := .seq #[] } }) PySem.F.called_list (PySem.F.typeCall_list_1 _) PySem.F.entry_list_init
    (code_list_new _ ⟨rfl, rfl⟩) fun obj s₁ h₁ => ?_
  obtain ⟨rfl, rfl⟩ := h₁
  have hS : (s.heap.push { cls := .type "list", data := .seq #[] }).get? s.heap.objs.size = some { cls := .type "list", data := .seq #[] } := Heap.get?_push_size _ rfl
  refine ⟨⟨_, hS, rfl⟩, PySem.F.args_list_init_2 _ _, ?_⟩
  have fr : H s.heap.objs.size = none := I.hok.fresh (Nat.le_refl _)
  have I1 : Inv X pins σ (upd H s.heap.objs.size (.lst [])) { s with heap := s.heap.push { cls := .type "list", data := .seq #[] } } := I.lnew (its := []) (t' := s.toks) .nil (Nat.zero_le _)
  show wpAny _ _ (do let old ← Builtin.List.listItems (.ref s.heap.objs.size); Builtin.List.listUpdate (.ref s.heap.objs.size) (fun _ => #[]); letGo old.toList.reverse; Builtin.List.listExtendWith (.ref s.heap.objs.size) (.ref a) .none) _ _ _
  refine wpAny_bind ?_
  unfold Builtin.List.listItems
  refine wpAny_bind (wpAny_seqItems hS rfl (wpAny_pure ?_))
  show wpAny _ _ (updateSeq s.heap.objs.size (fun _ => #[]) >>= fun _ => letGo (#[] : Array Value).toList.reverse >>= fun _ => Builtin.List.listExtendWith (.ref s.heap.objs.size) (.ref a) .none) _ _ _
  refine wpAny_bind (wpAny_updateSeq hS rfl ?_)
  have I2 := I1.lset (f := fun _ => #[]) (its := []) (its' := []) (ys := []) (t' := s.toks) upd_same hS rfl .nil (Nat.zero_le _)
  rw [upd_upd] at I2
  refine wpAny_bind (wpAny_letGo ?_)
  generalize hqe : s.heap.objs.size = q at I2 fr ⊢
  clear hS I1
  have ha2 : upd H q (.lst []) a = some (.ins C dx fs) := by rw [upd_ne (ne_of_none ha fr)]; exact ha
  have hqt : q ≠ t := fun z => by
    subst z
    rcases ht with (e | ⟨o, e⟩) | ⟨o, e⟩
    · rw [fr] at e; cases e
    · rw [fr] at e; cases e
    · obtain ⟨its, n, e1, _⟩ := e
      have := Heap.lt_size (I.kIn _ _ e1)
      rw [hqe] at this
      exact absurd this (Nat.lt_irrefl _)
  have ht2 : SqT X.K (upd H q (.lst [])) t zs := by
    unfold SqT Rd at ht ⊢
    simp only [upd_ne (Ne.symm hqt)]
    exact ht
  have hne : q ≠ a := fun z => by rw [z, ha] at fr; cases fr
  have hqq : (upd H q (.lst [])) q = some (.lst []) := upd_same
  have same : Same H (upd H q (.lst [])) := fun b o e => by rw [upd_ne (ne_of_none e fr)]; exact e
  generalize hH2 : upd H q (.lst []) = H2 at I2 ha2 ht2 hqq same
  generalize hs2 : ({ s with heap := (s.heap.push { cls := .type "list", data := .seq #[] }).update q (Obj.mapSeq fun _ => #[]), toks := s.toks } : Shared) = s2 at I2
  obtain ⟨ox, od, J⟩ := inst_of I2 ha2
  unfold Builtin.List.listExtendWith
  refine wpAny_bind (J.type.here ?_)
  have h1 : Builtin.List.listSameRef (.ref q) (.ref a) = false := by simp [Builtin.List.listSameRef, hne]
  have h2 : (Value.ref C == Value.type "list") = false := rfl
  have h3 : (Value.ref C == Value.type "tuple") = false := rfl
  simp only [h1, h2, h3, Bool.or_false, Bool.false_eq_true, if_false]
  refine wpAny_bind (iter_own O r2 rfl I2 ha2 hl ht2 fun p s3 hp hsz I3 => ?_)
  have hpq : p ≠ q := fun z => by rw [z, hqq] at hp; cases hp
  have same3 : Same H (upd H2 p (ItT t p)) := fun b o e => by rw [upd_ne (ne_of_none (same b o e) hp)]; exact same b o e
  have ha3 : (upd H2 p (ItT t p)) a = some (.ins C dx fs) := same3 _ _ ha
  refine wpAny_bind (wpAny_holding (hint_own L rl2 rfl I3 ha3 (hsp _ same3) fun s4 I4 => ?_))
  have st := itT_get I4 (show (upd H2 p (ItT t p)) p = some (ItT t p) from upd_same)
  have eH : ItX.dropH (upd H2 p (ItT t p)) p = H2 := ItX.dropH_upd hp
  have I5 := ItX.inv_drop I4 (show (upd H2 p (ItT t p)) p = some (.ext _) from upd_same)
  have F5 := ItX.inv_fp I4 (show (upd H2 p (ItT t p)) p = some (ItT t p) from upd_same) hsz
  rw [eH] at I5 F5
  obtain ⟨z5, its5, k5, r5, hl5, e5⟩ := I5.lstM hqq
  cases r5
  simp only [Bool.true_or, if_true]
  refine wpAny_bind (wpAny_rule ?_)
  refine wpAny_bind ?_
  show wpAny _ _ (updateSeq q (·.push .none) >>= fun _ => updateSeq q (·.pop)) _ _ _
  refine wpAny_bind (wpAny_updateSeq e5 rfl ?_)
  have I6 := I5.lset (f := (·.push Value.none)) (its' := [Value.none]) (ys := [.non]) (t' := s4.toks) hqq e5 (by simp) (.cons rfl .nil) (by rw [List.length_singleton, sizeLine_eq]; decide)
  obtain ⟨z7, its7, k7, r7, hl7, e7⟩ := I6.lstM upd_same
  obtain ⟨u7, rfl, ru7⟩ := r7.one
  refine wpAny_updateSeq e7 rfl ?_ (by show 1 ≤ sizeLine; rw [sizeLine_eq]; decide) (by show 0 ≤ sizeLine + 1; exact Nat.zero_le _)
  have I8 := I6.lset (f := (·.pop)) (its := [u7]) (its' := []) (ys := []) (t' := s4.toks) upd_same e7 (by rfl) .nil (Nat.zero_le _)
  rw [upd_upd] at I8
  have hHH : upd H2 q (.lst []) = H2 := by
    funext b
    by_cases hb : b = q
    · rw [hb, upd_same, hqq]
    · rw [upd_ne hb]
  rw [hHH] at I8
  have st8 : ((s4.heap.update q (Obj.mapSeq (·.push Value.none))).update q (Obj.mapSeq (·.pop))).IsTupleIter p t 0 := by
    obtain ⟨o, ho, r⟩ := st
    exact ⟨o, (Heap.get?_update_ne _ _ _ _ hpq).trans ((Heap.get?_update_ne _ _ _ _ hpq).trans ho), r⟩
  refine wpAny_pure ⟨plainId_quiet PySem.F.plain_extend_loop _, ?_⟩
  refine ext_loop (X := X) (A1 := X.A.in1) (Rs := wants (fun r s₂ => r = .none ∧ EP X pins σ Q (.ref q) s₂) X.xe) (I8.ok.hd hc) hqt hz zs.length 0 H2 _ (by omega) (Nat.zero_le _) I8 ht2 hqq F5 st8 fun H' s' I' hq' ⟨H0, e0, hb⟩ => ⟨rfl, .ref q, H', I', rfl, ?_⟩
  subst e0
  have eF : H0 = upd H q (.lst zs) := by
    funext b
    by_cases hbq : b = q
    · rw [hbq, upd_same, hq']
    · rw [hb b hbq, ← hH2, upd_ne hbq, upd_ne hbq]
  rw [eF]
  exact hq q fr
end
end V0
namespace V0
open PySem PySem.Spec PyProof.Rows L2
def TL : Int := 10 ^ 60
def LET : Str := "abcdefghijklmnopqrstuvwxyz"
/-- the module's values -/
structure Nm (mg : Str → Option Value) : Prop where
  g__TOO_LONG : GV mg "_TOO_LONG" (.int TL)
  g_MAX_NAME : GV mg "MAX_NAME" (.int 8)
  g_MAX_THINGS : GV mg "MAX_THINGS" (.int 8)
  g__LETTERS : GV mg "_LETTERS" (.str LET)
end V0

namespace V0
open PySem PySem.Spec PyProof.Rows L2
/-! ### what the judges of huebill.base.numbers say, by values -/
def intB : V → Bool
  | .int i => decide (i.natAbs < 10 ^ 60)
  | _ => false
def low26 (c : Nat) : Bool := decide (97 ≤ c ∧ c ≤ 122)
def nameB : V → Bool
  | .str z => decide (1 ≤ z.length ∧ z.length ≤ 8) && z.cps.toList.all low26
  | _ => false
/-- of the items of a tuple -/
def fracL : List V → Bool
  | [.int i, .int j] => decide (i.natAbs < 10 ^ 60) && (decide (j.natAbs < 10 ^ 60) && (decide (1 ≤ j) && decide (Nat.gcd i.natAbs j.natAbs = 1)))
  | _ => false
theorem let_is : LET.cps.toList = [97, 98, 99, 100, 101, 102, 103, 104, 105, 106, 107, 108, 109, 110, 111, 112, 113, 114, 115, 116, 117, 118, 119, 120, 121, 122] := by decide +kernel
theorem let_low (c : Nat) : decide (c ∈ LET.cps.toList) = low26 c := by
  rw [let_is]
  unfold low26
  apply decide_eq_decide.mpr
  simp only [List.mem_cons, List.not_mem_nil, or_false]
  omega
theorem abs_lt (i : Int) : decide ((if i < 0 then -i else i) < TL) = intB (.int i) := by
  unfold intB TL
  apply decide_eq_decide.mpr
  split <;> omega
theorem take_one {α : Type} {l : List α} {i : Nat} {x : α} (h : l[i]? = some x) : l.take (i + 1) = l.take i ++ [x] := by
  rw [List.take_add_one, h]
  rfl
def spIsWhole : Sp := fun vs H Q _ => ∃ (x : V) (t : Kd), vs = [x] ∧ Kn H x t ∧ Q (.bl (decide (t = .int))) H
def spIsInteger : Sp := fun vs H Q _ => ∃ (x : V) (t : Kd), vs = [x] ∧ Kn H x t ∧ Q (.bl (intB x)) H
def spIsName : Sp := fun vs H Q _ => ∃ (x : V) (t : Kd), vs = [x] ∧ Kn H x t ∧ (∀ z, x = .str z → z.length ≤ 1000) ∧ ∀ H', Same H H' → Q (.bl (nameB x)) H'
/-- what is_fraction says of a value of this kind -/
inductive Fr (H : Hp) : V → Bool → Prop
  | no {x : V} {t : Kd} (h : Kn H x t) (ht : t ≠ .tup) : Fr H x false
  | tup {a : Addr} {xs : List V} (h : H a = some (.tup xs)) (k : ∀ x ∈ xs, ∃ t, Kn H x t) : Fr H (.ref a) (fracL xs)
theorem Fr.same {H H' : Hp} {x : V} {b : Bool} (s : Same H H') (f : Fr H x b) : Fr H' x b := by
  cases f with
  | no h ht => exact .no (h.same s) ht
  | tup h k => exact .tup (s _ _ h) fun x hx => let ⟨t, z⟩ := k x hx; ⟨t, z.same s⟩
def spIsFraction : Sp := fun vs H Q _ => ∃ (x : V) (b : Bool), vs = [x] ∧ Fr H x b ∧ Q (.bl b) H
def spReduced : Sp := fun vs H Q _ => ∃ (i j : Int), vs = [.int i, .int j] ∧ j ≠ 0 ∧ i.natAbs < 2 ^ 2000 ∧ j.natAbs < 2 ^ 2000 ∧
  ∀ p, H p = none → Q (.ref p) (upd H p (.tup [.int (if j < 0 then -(i / (Nat.gcd i.natAbs j.natAbs : Nat)) else i / (Nat.gcd i.natAbs j.natAbs : Nat)), .int (j.natAbs / Nat.gcd i.natAbs j.natAbs : Nat)]))
/-- the items of a pair that is none of two great ints -/
theorem frac_of (x y : V) (hx : intB x = false ∨ intB y = false) : fracL [x, y] = false := by
  unfold fracL
  split
  · rename_i i j e
    cases e
    rcases hx with h | h
    · rw [show decide (i.natAbs < 10 ^ 60) = false from h]; rfl
    · rw [show decide (j.natAbs < 10 ^ 60) = false from h]; simp
  · rfl
theorem frac_len {xs : List V} (h : xs.length ≠ 2) : fracL xs = false := by
  unfold fracL
  split
  · exact absurd rfl h
  · rfl
theorem intB_int {x : V} (h : intB x = true) : ∃ i, x = .int i ∧ i.natAbs < 10 ^ 60 := by
  cases x with
  | int i => exact ⟨i, rfl, of_decide_eq_true h⟩
  | _ => cases h
section
variable {P : Program} {w : World} {K : PySem.W.Frag} {mg : Str → Option Value} {base : Heap}
abbrev s_is_whole : Stmt := top 13
abbrev N_is_whole : List Str := ["value"]
abbrev P_is_whole : List Str := ["value"]
theorem sc_is_whole : FnScope N_is_whole P_is_whole (defScope s_is_whole) := ⟨rfl, rfl, rfl, by decide +kernel, rfl, by decide +kernel, by decide +kernel⟩
theorem ok_is_whole {f : Addr} {fd : FuncData} (B : Bl mg) (D : Df K mg "is_whole" s_is_whole P_is_whole f fd) : FnOk P w K mg base CX0 1 f fd P_is_whole spIsWhole := by
  refine D.F.ok sc_is_whole (fun vs H Q E h => ?_) (fun cdv A outer s H vs Q E hr h => ?_)
  · obtain ⟨x, t, rfl, _⟩ := h
    rfl
  · obtain ⟨x, t, rfl, hk, k⟩ := h
    refine ⟨_, (pss_one (ps_ret (pe_and (pe_callB call_is (by rfl) B.b_isinstance (by decide +kernel) (pa_cons (pv 0) (pa_cons (pe_ty (n := "int") (by rfl) B.b_int (by decide +kernel)) pa_nil))) (pe_one (pe_not (pe_callB call_is (by rfl) B.b_isinstance (by decide +kernel) (pa_cons (pv 0) (pa_cons (pe_ty (n := "bool") (by rfl) B.b_bool (by decide +kernel)) pa_nil)))))))), ?_⟩
    refine ⟨_, rfl, x, t, .int, rfl, hk, by decide, _, rfl, ?_⟩
    cases hk with
    | int i => exact iteT ⟨_, rfl, _, .int, .bl, rfl, .int i, by decide, _, rfl, k⟩
    | bl b => exact iteT ⟨_, rfl, _, .bl, .bl, rfl, .bl b, by decide, _, rfl, k⟩
    | _ => exact iteF k
abbrev s_is_integer : Stmt := top 14
abbrev N_is_integer : List Str := ["value"]
abbrev P_is_integer : List Str := ["value"]
theorem sc_is_integer : FnScope N_is_integer P_is_integer (defScope s_is_integer) := ⟨rfl, rfl, rfl, by decide +kernel, rfl, by decide +kernel, by decide +kernel⟩
theorem ok_is_integer {f f1 : Addr} {fd fd1 : FuncData} (B : Bl mg) (C : Nm mg) (D_is_whole : Df K mg "is_whole" s_is_whole P_is_whole f1 fd1) (D : Df K mg "is_integer" s_is_integer P_is_integer f fd) :
    FnOk P w K mg base CX0 2 f fd P_is_integer spIsInteger := by
  have G_is_whole : FnOk P w K mg base CX0 1 f1 fd1 P_is_whole spIsWhole := ok_is_whole B D_is_whole
  refine D.F.ok sc_is_integer (fun vs H Q E h => ?_) (fun cdv A outer s H vs Q E hr h => ?_)
  · obtain ⟨x, t, rfl, _⟩ := h
    rfl
  · obtain ⟨x, t, rfl, hk, k⟩ := h
    refine ⟨_, (pss_one (ps_ret (pe_and (pe_call G_is_whole (hr.mono (by decide)) (by rfl) D_is_whole.g D_is_whole.F.kp D_is_whole.b .nil pass0 (pa_cons (pv 0) pa_nil)) (pe_one (pe_cmpR op_lt (pe_callB call_abs (by rfl) B.b_abs (by decide +kernel) (pa_cons (pv 0) pa_nil)) (pe_gv rfl C.g__TOO_LONG) (nomark _)))))), ?_⟩
    refine ⟨_, rfl, x, t, rfl, hk, _, rfl, ?_⟩
    cases hk with
    | int i =>
      refine iteT ⟨_, rfl, _, rfl, _, _, rfl, rfl, ?_⟩
      show Q (.bl (decide ((if i < 0 then -i else i) < TL))) H
      rw [abs_lt]
      exact k
    | _ => exact iteF k
abbrev s_is_name : Stmt := top 15
abbrev N_is_name : List Str := ["value", "letter"]
abbrev P_is_name : List Str := ["value"]
theorem sc_is_name : FnScope N_is_name P_is_name (defScope s_is_name) := ⟨rfl, rfl, rfl, by decide +kernel, rfl, by decide +kernel, by decide +kernel⟩
theorem ok_is_name {f : Addr} {fd : FuncData} (B : Bl mg) (C : Nm mg) (D : Df K mg "is_name" s_is_name P_is_name f fd) : FnOk P w K mg base CX0 1 f fd P_is_name spIsName := by
  refine D.F.ok sc_is_name (fun vs H Q E h => ?_) (fun cdv A outer s H vs Q E hr h => ?_)
  · obtain ⟨x, t, rfl, _⟩ := h
    rfl
  · obtain ⟨x, t, rfl, hk, hz, k⟩ := h
    refine ⟨_, (pss_cons (ps_if (PW.pt (pw_or (pt_not (pt_val (pe_callB call_is (by rfl) B.b_isinstance (by decide +kernel) (pa_cons (pv 0) (pa_cons (pe_ty (n := "str") (by rfl) B.b_str (by decide +kernel)) pa_nil))))) (pw_or1 (pt_not (pt_chain op_le op_le pe_int (pe_callB call_len (by rfl) B.b_len (by decide +kernel) (pa_cons (pv 0) pa_nil)) (pe_gv rfl C.g_MAX_NAME)))))) (pss_one (ps_ret pe_bl)) pss_nil)
      (pss_one (ps_ret (pe_callB (cr_all rfl) (by rfl) B.b_all (by decide +kernel) (pa_cons (pe_lc (own := [("letter", 1)]) (g := gName 1) (tt := tYes) rfl sc_is_name.nd (pi_str (pv 0)) (blkOk_by (own := [("letter", 1)]) (N := N_is_name) (sc := defScope s_is_name) (by decide +kernel)) (fun _ _ _ _ _ => (pg_name (i := 1) sc_is_name.nd rfl (Or.inl rfl))) (fun _ _ _ _ _ => pts_nil) (fun _ _ _ _ _ => (pe_cmpR op_in_sign (pv 1) (pe_gv rfl C.g__LETTERS) (by rfl)))) pa_nil))))), ?_⟩
    refine ⟨_, rfl, x, t, .str, rfl, hk, by decide, _, rfl, ?_⟩
    cases hk with
    | str z =>
      have hz := hz z rfl
      have hl : (1000 : Nat) ≤ sizeLine := by decide
      have hk : nameB (.str z) = (decide (1 ≤ z.length ∧ z.length ≤ 8) && z.cps.toList.all low26) := rfl
      refine iteF ⟨_, rfl, _, z.length, rfl, ⟨by omega, rfl⟩, _, _, rfl, rfl, _, rfl, ?_⟩
      refine ite2 (fun e1 => ?_) (fun e1 => ?_)
      · have e1' := of_decide_eq_true e1
        refine ⟨_, _, rfl, rfl, _, rfl, ite2 (fun e2 => ?_) (fun e2 => ?_)⟩
        · have e2' : ¬ (z.length : Int) ≤ 8 := fun q => by
            rw [decide_eq_true q] at e2
            exact Bool.false_ne_true e2
          have ek : nameB (.str z) = false := by
            rw [hk, decide_eq_false (by omega)]
            rfl
          rw [ek] at k
          exact k H (Same.refl H)
        · have e2' : (z.length : Int) ≤ 8 := by
            cases hd : decide ((z.length : Int) ≤ 8) with
            | true => exact of_decide_eq_true hd
            | false =>
              rw [hd] at e2
              exact absurd rfl e2
          have ek : nameB (.str z) = z.cps.toList.all low26 := by
            rw [hk, decide_eq_true (by omega)]
            rfl
          rw [ek] at k
          refine ⟨_, rfl, z, rfl, fun L hL => ?_⟩
          refine lc_it walk_str (fun i H' => Same H H' ∧ H' L = some (.lst (((z.cps.toList.take i).map low26).map V.bl))) ⟨Same.new hL, upd_same⟩ (fun _ _ _ _ => trivial) ?_ ?_
          · rintro i x H1 H2 hi ⟨s1, h1⟩ ⟨rfl, c, hc, rfl⟩
            have hc' : z.cps.toList[i]? = some c := by rw [Array.getElem?_toList]; exact hc
            refine ⟨rfl, _, rfl, c, LET, rfl, rfl, _, h1, ?_, ?_, ?_⟩
            · rw [List.length_map, List.length_map, List.length_take]
              have hl2 : z.cps.toList.length = z.length := rfl
              omega
            · exact fun b o e => by rw [upd_ne (ne_of_none e hL)]; exact s1 b o e
            · rw [upd_same, let_low, take_one hc', List.map_append, List.map_append]
              rfl
          · rintro H1 ⟨s1, h1⟩
            have et : z.cps.toList.take z.cps.size = z.cps.toList := List.take_of_length_le (by rw [Array.length_toList]; exact Nat.le_refl _)
            rw [et] at h1
            refine ⟨L, _, rfl, SqL.of h1, ?_⟩
            have ea : (z.cps.toList.map low26).all id = z.cps.toList.all low26 := by rw [List.all_map]; rfl
            rw [ea]
            exact k H1 s1
      · have e1' : ¬ (1 : Int) ≤ z.length := fun q => e1 (decide_eq_true q)
        have ek : nameB (.str z) = false := by
          rw [hk, decide_eq_false (by omega)]
          rfl
        rw [ek] at k
        exact ⟨_, rfl, iteT (k H (Same.refl H))⟩
    | _ => exact iteT (iteT (k H (Same.refl H)))
end
end V0
namespace V0
open PySem PySem.Spec PyProof.Rows L2
/-! ### tuples of texts as members of sets -/
abbrev TxK (P : Program) (w : World) : PySem.KeyKind P w Str := PySem.strKind P w
abbrev TxH (P : Program) (w : World) (k : List Str) : Int := tupleKeyHash (TxK P w) k
/-- the tuple at b has the texts k -/
abbrev IsX (P : Program) (w : World) (h : Heap) (k : List Str) (b : Addr) : Prop := IsTupleKey (TxK P w) h k b
/-- a member: where it lies, its texts -/
abbrev Mem := Addr × List Str
section
variable {P : Program} {w : World} {A : Around} {E : Value → Shared → Prop} {s : Shared}
theorem x_items {k : List Str} {vs : List Value} (h : PySem.ItemsAre (TxK P w) k vs) : ∀ v ∈ vs, ∃ z t, v = Value.str z t := by
  induction h with
  | nil => exact fun v hv => nomatch hv
  | cons h1 _ ih => exact fun v hv => (List.mem_cons.mp hv).elim (fun e => by obtain ⟨t, q⟩ := Value.isStrOf_shape h1; exact ⟨_, t, e.trans q⟩) (ih v)
theorem x_class (n : Nat) (z : Str) (t : Tok) : ofAClassStatement n (.str z t) = pure false := by cases n <;> rfl
theorem x_byval (n : Nat) (z : Str) (t : Tok) : hashByValue n (.str z t) = pure false := by cases n <;> rfl
theorem IsX.at {h h' : Heap} {k : List Str} {b : Addr} (x : IsX P w h k b) (e : ∀ o, h.get? b = some o → h'.get? b = some o) : IsX P w h' k b := let ⟨o, its, n, ho, r⟩ := x; ⟨o, its, n, e o ho, r⟩
/-- no class statement stands in such a tuple -/
theorem x_noClass {k : List Str} {b : Addr} {Q : Bool → Shared → Prop} (hk : IsX P w s.heap k b) (h : Q false s) : wpAny (model P w) A (ofAClassStatement 8 (.ref b)) Q E s := by
  have ty := hk.typeIs
  obtain ⟨o, its, n, ho, hc, hd, hi⟩ := hk
  unfold ofAClassStatement
  refine wpAny_bind (wpAny_typeOf ty ?_)
  dsimp only
  simp only [show (("tuple" : String) == "tuple") = true from by decide, if_true, Bool.not_true, Bool.false_eq_true, if_false]
  try refine wpAny_bind (wpAny_pure ?_)
  try simp only [Bool.not_true, Bool.false_eq_true, if_false]
  show wpAny _ _ (seqItems? (.ref b) >>= _) _ _ s
  refine wpAny_bind (wpAny_seqItems ho hd ?_)
  dsimp only
  refine wpAny_bind ?_
  show wpAny _ _ (forIn its _ _) _ _ s
  rw [← Array.forIn_toList]
  refine wpAny_forIn_list _ (fun left r z => r.1 = none ∧ z = s ∧ ∀ v ∈ left, ∃ x t, v = Value.str x t) _ (fun v left r z ⟨hr, hz, q⟩ => ?_) (fun r z ⟨hr, hz, _⟩ => ?_) _ _ ⟨rfl, rfl, x_items hi⟩
  · obtain ⟨x, t, rfl⟩ := q v (by simp)
    subst hz
    rw [x_class]
    refine wpAny_bind (wpAny_pure ?_)
    simp only [Bool.false_eq_true, if_false]
    exact wpAny_pure ⟨rfl, rfl, fun u hu => q u (by simp [hu])⟩
  · obtain ⟨r1, r2⟩ := r
    subst hz
    simp only at hr
    subst hr
    exact wpAny_pure h
/-- whether its hash is by value: some answer -/
theorem x_hashBy {k : List Str} {b : Addr} {Q : Bool → Shared → Prop} (hk : IsX P w s.heap k b) (h : ∀ c, Q c s) : wpAny (model P w) A (hashByValue 8 (.ref b)) Q E s := by
  have ty := hk.typeIs
  obtain ⟨o, its, n, ho, hc, hd, hi⟩ := hk
  unfold hashByValue
  refine wpAny_bind (wpAny_specialOf ty F.slot_tuple_hash.lookup ?_)
  show wpAny _ _ (seqItems? (.ref b) >>= _) _ _ s
  refine wpAny_bind (wpAny_seqItems ho hd ?_)
  refine wpAny_bind ?_
  show wpAny _ _ (forIn its _ _) _ _ s
  rw [← Array.forIn_toList]
  refine wpAny_forIn_list _ (fun left r z => z = s ∧ ∀ v ∈ left, ∃ x t, v = Value.str x t) _ (fun v left r z ⟨hz, q⟩ => ?_) (fun r z ⟨hz, _⟩ => ?_) _ _ ⟨rfl, x_items hi⟩
  · subst hz
    obtain ⟨x, t, rfl⟩ := q v (by simp)
    rw [x_byval]
    refine wpAny_bind (wpAny_pure ?_)
    rw [if_pos (by rfl)]
    exact wpAny_pure (wpAny_pure (h false))
  · subst hz
    obtain ⟨r1, r2⟩ := r
    cases r1 with
    | none => exact wpAny_pure (h true)
    | some c => exact wpAny_pure (h c)
/-- a search among such tuples shows nothing -/
theorem x_unseen {k : List Str} {b : Addr} {Q : Bool → Shared → Prop} (hk : IsX P w s.heap k b) {ys : List Value} (hy : ∀ y ∈ ys, ∃ q : Mem, y = Value.ref q.1 ∧ IsX P w s.heap q.2 q.1) (h : Q false s) :
    wpAny (model P w) A (searchCouldBeSeen (.ref b) ys) Q E s := by
  unfold searchCouldBeSeen
  refine wpAny_bind ?_
  refine wpAny_forIn_list _ (fun left r z => r.1 = none ∧ z = s ∧ ∀ y ∈ left, ∃ q : Mem, y = Value.ref q.1 ∧ IsX P w s.heap q.2 q.1) _ (fun v left r z ⟨hr, hz, al⟩ => ?_) (fun r z ⟨hr, hz, _⟩ => ?_) _ _ ⟨rfl, rfl, hy⟩
  · subst hz
    obtain ⟨⟨c, k'⟩, rfl, hc⟩ := al v (by simp)
    have al' : ∀ y ∈ left, ∃ q : Mem, y = Value.ref q.1 ∧ IsX P w z.heap q.2 q.1 := fun u hu => al u (by simp [hu])
    dsimp only
    by_cases hv : (b == c || (carriedByValue (.ref b) && carriedByValue (.ref c))) = true
    · exact wp_if_pos hv (wpAny_pure ⟨rfl, rfl, al'⟩)
    refine wp_if_neg hv (wpAny_bind (wpAny_eqIsQuiet_tuple hk ?_))
    simp only [Bool.not_true, Bool.false_eq_true, if_false]
    refine wpAny_bind (wpAny_eqIsQuiet_tuple hc ?_)
    simp only [Bool.not_true, Bool.false_eq_true, if_false]
    refine wpAny_bind (x_noClass hk ?_)
    simp only [Bool.false_eq_true, if_false]
    refine wpAny_bind (x_noClass hc ?_)
    simp only [Bool.false_eq_true, if_false]
    exact wpAny_pure ⟨rfl, rfl, al'⟩
  · obtain ⟨r1, r2⟩ := r
    subst hz
    simp only at hr
    subst hr
    exact wpAny_pure h
/-! ### the set -/
def xRow (P : Program) (w : World) (q : Mem) : Int × Value := (TxH P w q.2, Value.ref q.1)
/-- the set at a, its members L in the order of the table -/
structure XSet (P : Program) (w : World) (h : Heap) (a : Addr) (L : List Mem) (es : Array (Int × Value)) (ep : Nat) (t : SetTable) : Prop where
  ob : ∃ o, h.get? a = some o ∧ o.ExactSet ∧ o.data = .set es ep t
  rows : es.toList = L.map (xRow P w)
  tab : TabOk t (L.map fun q => TxH P w q.2)
  nd : (L.map (·.2)).Nodup
  mem : ∀ q ∈ L, IsX P w h q.2 q.1
  led : w.params.followText "set-order" = true ∨ t.led = true
  room : L.length * 5 < t.mask * 3
  few : L.length < 64
variable {a : Addr} {L : List Mem} {es : Array (Int × Value)} {ep : Nat} {t : SetTable}
theorem XSet.size {h : Heap} (R : XSet P w h a L es ep t) : es.size = L.length := by
  rw [← Array.length_toList, R.rows, List.length_map]
theorem fits_of {t : SetTable} {n : Nat} (h1 : t.place.size = n) (h2 : t.dummies = #[]) (h3 : n ≤ t.mask) : t.fits n = true := by
  unfold SetTable.fits SetTable.fill
  rw [h2, Bool.and_eq_true, beq_iff_eq, decide_eq_true_eq]
  exact ⟨h1, by show t.place.size + 0 ≤ t.mask; omega⟩
theorem XSet.fits {h : Heap} (R : XSet P w h a L es ep t) : t.fits es.size = true := by
  have h1 := R.tab.sz
  rw [List.length_map] at h1
  have h2 := R.size
  have h3 := R.room
  exact fits_of (by omega) R.tab.dm (by omega)
theorem XSet.entry {h : Heap} (R : XSet P w h a L es ep t) {i : Nat} {q : Mem} (e : L[i]? = some q) : es[i]? = some (xRow P w q) := by
  rw [← Array.getElem?_toList, R.rows, List.getElem?_map, e]
  rfl
theorem XSet.whole {h : Heap} (R : XSet P w h a L es ep t) : ¬ t.gaveWay = true := by
  unfold SetTable.gaveWay
  rw [mask_odd R.tab.mok]
  decide
end
end V0
namespace V0
open PySem PySem.Spec PyProof.Rows L2
/-- the c-th stop of a search for the hash h -/
def stp (m : Nat) (h : Int) (c : Nat) : SetTable.Probe := nth m (runAt m (SetTable.bits h % (m + 1)) (SetTable.bits h)) c
theorem stp_j (m : Nat) (h : Int) (c : Nat) : (stp m h c).j = way m h c := rfl
theorem stp_add (m : Nat) (h : Int) (c d : Nat) : nth m (stp m h c) d = stp m h (c + d) := (nth_add m c _ d).symm
theorem stp_new (m : Nat) (h : Int) : ∀ c, (stp m h c).dummy = none
  | 0 => rfl
  | c + 1 => by
    have e : stp m h (c + 1) = adv m (stp m h c) := nth_succ m _ c
    rw [e]
    have ih := stp_new m h c
    unfold adv
    split <;> exact ih
abbrev hsAt (es : Array (Int × Value)) (i : Nat) : Int := (es[i]?.map (·.1)).getD 0
section
variable {P : Program} {w : World} {A : Around} {E : Value → Shared → Prop} {s : Shared} {a : Addr} {L : List Mem} {es : Array (Int × Value)} {ep : Nat} {t : SetTable}
/-- from the c-th stop on: the member is found, or the first free place -/
theorem x_find (R : XSet P w s.heap a L es ep t) {x : Addr} {k : List Str} (hx : IsX P w s.heap k x) (hu : A.units < cLine) {K : Nat} (free : way t.mask (TxH P w k) K ∉ t.place.toList) (full : ∀ c, c < K → way t.mask (TxH P w k) c ∈ t.place.toList) (far : K < 10 * SetTable.turns t.mask)
    {Q : SetFound → Shared → Prop} (hin : k ∈ L.map (·.2) → Q (.there none) s) (hout : k ∉ L.map (·.2) → Q (.free (way t.mask (TxH P w k) K) false) s) :
    ∀ (f c : Nat) (at0 : Option SetTable.Probe), at0.getD (t.probeStart (TxH P w k)) = stp t.mask (TxH P w k) c → c ≤ K → K - c < f →
      (∀ (i : Nat) (q : Mem), L[i]? = some q → q.2 = k → ∃ d, c ≤ d ∧ d < K ∧ t.place.toList[i]? = some (way t.mask (TxH P w k) d)) →
      wpAny (model P w) A (setSearchFrom a (.ref x) (TxH P w k) true f at0) Q E s := by
  intro f
  induction f with
  | zero => exact fun c at0 _ _ z _ => absurd z (Nat.not_lt_zero _)
  | succ f ih =>
    intro c at0 start cK fuel ahead
    obtain ⟨o, ho, hex, hd⟩ := R.ob
    have here : ∀ (i : Nat) (q : Mem), L[i]? = some q → (hsAt es) i = TxH P w q.2 := fun i q e => by
      show (es[i]?.map (·.1)).getD 0 = _
      rw [R.entry e]
      rfl
    have jth : ∀ d, (nth t.mask (stp t.mask (TxH P w k) c) d).j = way t.mask (TxH P w k) (c + d) := fun d => by rw [stp_add]; rfl
    rw [setSearchFrom_succ]
    refine wpAny_bind (wpAny_setState_of ho hd R.fits ?_)
    dsimp only
    refine wp_if_neg R.whole ?_
    try refine wpAny_bind (wpAny_pure ?_)
    rw [start]
    have spec := go_spec t R.tab.ris R.tab.dm (hsAt es) (TxH P w k) (10 * SetTable.turns t.mask) (K - c) (stp t.mask (TxH P w k) c) (stp_new _ _ _) (by omega) (fun d hd => by rw [jth]; exact full _ (by omega)) (by rw [jth, show c + (K - c) = K by omega]; exact free)
    -- no member passed
    have pass : ∀ (i : Nat) (q : Mem) (d : Nat), L[i]? = some q → q.2 = k → t.place.toList[i]? = some (way t.mask (TxH P w k) d) → c ≤ d → ∀ n, (∀ k' i', k' < n → t.place.toList[i']? = some (nth t.mask (stp t.mask (TxH P w k) c) k').j → (hsAt es) i' ≠ TxH P w k) → c + n ≤ d := fun i q d e1 e2 e3 cd n no => by
      rcases Nat.lt_or_ge d (c + n) with z | z
      · exfalso
        exact no (d - c) i (by omega) (by rw [jth, show c + (d - c) = d by omega]; exact e3) ((here i q e1).trans (congrArg (TxH P w) e2))
      · exact z
    rcases spec with ⟨d, i, dK, hi, hh, no, pr⟩ | ⟨no, pr⟩
    · -- a candidate
      rw [jth] at hi
      have pr' : t.probe (hsAt es) (TxH P w k) (stp t.mask (TxH P w k) c) = some (.candidate (way t.mask (TxH P w k) (c + d)) i (stp t.mask (TxH P w k) (c + (d + 1)))) := by
        rw [← jth, ← stp_add]
        exact pr
      rw [pr']
      dsimp only
      obtain ⟨q, hq⟩ : ∃ q, L[i]? = some q := by
        have h1 := (List.getElem?_eq_some_iff.mp hi).1
        have h2 := R.tab.sz
        rw [List.length_map] at h2
        rw [Array.length_toList] at h1
        exact ⟨_, List.getElem?_eq_getElem (by omega)⟩
      have qL := List.mem_of_getElem? hq
      have slot : t.slot (way t.mask (TxH P w k) (c + d)) = .live i := slot_live R.tab.ris hi
      have on : wpAny (model P w) A (searchRest a (.ref x) (TxH P w k) true f es t (way t.mask (TxH P w k) (c + d)) i (stp t.mask (TxH P w k) (c + (d + 1)))) Q E s := by
        unfold searchRest
        rw [R.entry hq]
        dsimp only [xRow]
        refine wpAny_bind (wpAny_holding (wpAny_eqBool_tuple hu (R.mem q qL) hx ?_))
        refine wpAny_bind (wpAny_setState_of ho hd R.fits ?_)
        dsimp only
        by_cases same : q.2 = k
        · exact wp_if_pos (by simp [same]) (wpAny_pure (hin (List.mem_map.mpr ⟨q, qL, same⟩)))
        refine wp_if_neg (by simp [same]) ?_
        try refine wpAny_bind (wpAny_pure ?_)
        rw [sameMem]
        dsimp only
        simp only [if_true, slot, R.entry hq, xRow]
        refine wpAny_bind (wpAny_isSame_ref_self (wpAny_bind (wpAny_pure ?_)))
        simp only [if_true]
        refine wp_if_neg (by simp [same]) (ih (c + (d + 1)) _ rfl (by omega) (by omega) fun i0 q0 e1 e2 => ?_)
        obtain ⟨d0, g1, g2, g3⟩ := ahead i0 q0 e1 e2
        have g4 := pass i0 q0 d0 e1 e2 g3 g1 d no
        refine ⟨d0, ?_, g2, g3⟩
        rcases Nat.eq_or_lt_of_le g4 with z | z
        · exfalso
          rw [← z] at g3
          have s0 := slot_live R.tab.ris g3
          rw [slot] at s0
          injection s0 with s0
          rw [← s0, hq] at e1
          exact same ((congrArg Prod.snd (Option.some.inj e1)).trans e2)
        · omega
      by_cases hl : t.led = true
      · refine wp_if_neg (by simp [hl]) ?_
        try refine wpAny_bind (wpAny_pure ?_)
        exact on
      · refine wp_if_pos (by simp [hl]) (wpAny_bind (x_unseen hx (fun y hy => ?_) ?_))
        · obtain ⟨e, he, rfl⟩ := List.mem_map.mp hy
          have he2 : e ∈ es.toList := by
            have : e ∈ es ∧ e.1 = TxH P w k := by simpa using he
            simpa using this.1
          rw [R.rows] at he2
          obtain ⟨q2, m2, rfl⟩ := List.mem_map.mp he2
          exact ⟨q2, rfl, R.mem q2 m2⟩
        · refine wp_if_neg (by decide) ?_
          try refine wpAny_bind (wpAny_pure ?_)
          exact on
    · -- a free place
      have pr' : t.probe (hsAt es) (TxH P w k) (stp t.mask (TxH P w k) c) = some (.empty (way t.mask (TxH P w k) K) none) := by
        have e := jth (K - c)
        rw [show c + (K - c) = K by omega] at e
        rw [← e]
        exact pr
      rw [pr']
      dsimp only
      refine wpAny_pure (hout fun hm => ?_)
      obtain ⟨q0, m0, e2⟩ := List.mem_map.mp hm
      obtain ⟨i0, l0, e0⟩ := List.getElem_of_mem m0
      have e1 : L[i0]? = some q0 := by rw [List.getElem?_eq_getElem l0, e0]
      obtain ⟨d0, g1, g2, g3⟩ := ahead i0 q0 e1 e2
      have := pass i0 q0 d0 e1 e2 g3 g1 (K - c) no
      omega
/-- the search that adding asks for -/
theorem x_search (R : XSet P w s.heap a L es ep t) {x : Addr} {k : List Str} (hx : IsX P w s.heap k x) (hu : A.units < cLine) {Q : SetFound → Shared → Prop} (hin : k ∈ L.map (·.2) → Q (.there none) s)
    (hout : ∀ K, k ∉ L.map (·.2) → way t.mask (TxH P w k) K ∉ t.place.toList → (∀ c, c < K → way t.mask (TxH P w k) c ∈ t.place.toList) → Q (.free (way t.mask (TxH P w k) K) false) s) :
    wpAny (model P w) A (setSearch a (.ref x) (TxH P w k) true) Q E s := by
  have room := R.room
  obtain ⟨K, far, free, full⟩ := R.tab.first (by rw [List.length_map]; omega) (TxH P w k)
  have small : K < 100000 := by
    have : SetTable.turns t.mask ≤ 142 := by
      unfold SetTable.turns
      rcases R.tab.mok with e | e | e <;> omega
    omega
  unfold setSearch
  refine x_find R hx hu free full far hin (fun n => hout K n free full) 100000 0 none rfl (Nat.zero_le _) (by omega) fun i q e1 e2 => ?_
  have e3 : (L.map fun q => TxH P w q.2)[i]? = some (TxH P w k) := by
    rw [List.getElem?_map, e1, ← e2]
    rfl
  have il : i < t.place.toList.length := by
    have h1 := (List.getElem?_eq_some_iff.mp e1).1
    have h2 := R.tab.sz
    rw [List.length_map] at h2
    rw [Array.length_toList]
    omega
  obtain ⟨d, dK, e4⟩ := R.tab.before free e3 (List.getElem?_eq_getElem il)
  exact ⟨d, Nat.zero_le _, dK, by rw [List.getElem?_eq_getElem il, e4]⟩
end
end V0
namespace V0
open PySem PySem.Spec PyProof.Rows L2
theorem range_self {α : Type} : ∀ L : List α, (List.range L.length).filterMap (fun i => L[i]?) = L
  | [] => rfl
  | x :: L => by
    rw [List.length_cons, List.range_succ_eq_map, List.filterMap_cons_some (show (x :: L)[0]? = some x from rfl), List.filterMap_map]
    exact congrArg (x :: ·) (range_self L)
section
variable {P : Program} {w : World} {A : Around} {E : Value → Shared → Prop} {s : Shared} {a : Addr} {L : List Mem} {es : Array (Int × Value)} {ep : Nat} {t : SetTable}
theorem row_at {i : Nat} (hr : es.toList = L.map (xRow P w)) : es[i]? = (L[i]?).map (xRow P w) := by
  rw [← Array.getElem?_toList, hr, List.getElem?_map]
/-- the rows in another order -/
theorem x_order {order : Array Nat} (hr : es.toList = L.map (xRow P w)) (hp : order.toList.Perm (List.range L.length)) :
    ∃ L2 : List Mem, (order.filterMap (es[·]?)).toList = L2.map (xRow P w) ∧ L2.Perm L ∧ (L2.map fun q => TxH P w q.2) = order.toList.map fun i => (es.map (·.1)).getD i 0 := by
  have e : (fun i : Nat => es[i]?) = fun i => (L[i]?).map (xRow P w) := funext fun i => row_at hr
  refine ⟨order.toList.filterMap fun i => L[i]?, ?_, ?_, ?_⟩
  · rw [Array.toList_filterMap, e, List.map_filterMap]
  · have := hp.filterMap fun i => L[i]?
    rwa [range_self] at this
  · have key : ∀ l : List Nat, (∀ i ∈ l, i < L.length) → ((l.filterMap fun i => L[i]?).map fun q => TxH P w q.2) = l.map fun i => (es.map (·.1)).getD i 0 := by
      intro l
      induction l with
      | nil => exact fun _ => rfl
      | cons i l ih =>
        intro hl
        have hi := hl i (by simp)
        have h1 := List.getElem?_eq_getElem hi
        rw [List.filterMap_cons_some h1, List.map_cons, List.map_cons, ih fun j hj => hl j (by simp [hj])]
        congr 1
        have h2 : (es.map (·.1))[i]? = some (TxH P w (L[i]).2) := by
          rw [Array.getElem?_map, row_at hr, h1]
          rfl
        rw [Array.getD_eq_getD_getElem?, h2]
        rfl
    exact key order.toList fun i hi => List.mem_range.mp (hp.mem_iff.mp hi)
theorem IsX.aside {h h' : Heap} {k : List Str} {b : Addr} {o : Obj} (x : IsX P w h k b) (ho : h.get? a = some o) (hd : o.data = .set es ep t) (sb : Heap.SameBut a h h') : IsX P w h' k b := by
  refine x.at fun u hu => (sb.2 b fun z => ?_).trans hu
  obtain ⟨v, its, n, hv, _, dv, _⟩ := x
  rw [z, ho] at hv
  cases hv
  rw [hd] at dv
  exact nomatch dv
/-- laid anew in a greater table -/
theorem x_relay {o : Obj} (ho : s.heap.get? a = some o) (hex : o.ExactSet) (hd : o.data = .set es ep t) (hr : es.toList = L.map (xRow P w)) (hp : t.place.size = L.length) (hm : t.dummies = #[]) (fit : L.length ≤ t.mask)
    (nd : (L.map (·.2)).Nodup) (mem : ∀ q ∈ L, IsX P w s.heap q.2 q.1) (led : w.params.followText "set-order" = true ∨ t.led = true) (few : L.length < 64) {wanted M : Nat} (hw : SetTable.sizeAbove wanted - 1 = M) (hM : MaskOk M) (h128 : SetTable.sizeAbove wanted ≤ 128)
    (room : L.length * 5 < M * 3) {Q : Unit → Shared → Prop} (hQ : ∀ h' L' es' ep' t', Heap.SameBut a s.heap h' → XSet P w h' a L' es' ep' t' → L'.Perm L → Q () { s with heap := h' }) : wpAny (model P w) A (setRelay a wanted) Q E s := by
  have size : es.size = L.length := by rw [← Array.length_toList, hr, List.length_map]
  obtain ⟨t', order, e1, pm, T, e2, e3, _, _⟩ := relaid_ok t (hs := es.map (·.1)) (wanted := wanted) hw hM (by rw [Array.size_map, size]; omega)
  rw [Array.size_map, size] at pm
  obtain ⟨L2, r1, r2, r3⟩ := x_order hr pm
  rw [← r3] at T
  have size2 : (order.filterMap (es[·]?)).size = L.length := by rw [← Array.length_toList, r1, List.length_map, r2.length_eq]
  rw [setRelay_eq]
  refine wpAny_bind (wpAny_setState_of ho hd (by rw [size]; exact fits_of hp hm fit) ?_)
  dsimp only
  refine wp_if_neg (by rw [sizeLine_eq]; omega) ?_
  try refine wpAny_bind (wpAny_pure ?_)
  rw [e1]
  dsimp only
  refine wpAny_bind ?_
  refine wp_if_neg (by rw [size2, size]; simp) ?_
  try refine wpAny_bind (wpAny_pure ?_)
  refine wpAny_pure ?_
  dsimp only
  refine wpAny_storeSet_of ho hd ?_ (by rw [size2, sizeLine_eq]; omega)
  have sb : Heap.SameBut a s.heap (s.heap.update a (Obj.putSet (order.filterMap (es[·]?)) t')) := Heap.SameBut.update ..
  exact hQ _ L2 _ _ t' sb ⟨⟨_, store_at ho hd, ⟨hex.1, hex.2.1, hex.2.2⟩, rfl⟩, r1, T, (r2.map (·.2)).nodup_iff.mpr nd, fun q hq => (mem q (r2.mem_iff.mp hq)).aside ho hd sb, by rw [e3]; exact led, by rw [r2.length_eq, e2]; exact room, by rw [r2.length_eq]; exact few⟩ r2
theorem mid_perm {α : Type} (l : List α) (p : Nat) (x : α) : (l.take p ++ x :: l.drop p).Perm (x :: l) := by
  have h : (l.take p ++ x :: l.drop p).Perm (x :: (l.take p ++ l.drop p)) := List.perm_middle
  rwa [List.take_append_drop] at h
theorem mid_map {α β : Type} (f : α → β) (l : List α) (p : Nat) (x : α) : (l.take p ++ x :: l.drop p).map f = (l.map f).take p ++ f x :: (l.map f).drop p := by
  rw [List.map_append, List.map_cons, List.map_take, List.map_drop]
/-- a member more -/
theorem x_add (R : XSet P w s.heap a L es ep t) {x : Addr} {k : List Str} (hx : IsX P w s.heap k x) (hu : A.units < cLine) (few : L.length + 1 < 64) {Q : Bool → Shared → Prop}
    (hQ : ∀ b h' L' es' ep' t', Heap.SameBut a s.heap h' → XSet P w h' a L' es' ep' t' → (k ∈ L.map (·.2) → L' = L) → (k ∉ L.map (·.2) → L'.Perm ((x, k) :: L)) → Q b { s with heap := h' }) :
    wpAny (model P w) A (setAddHashed a (.ref x) (TxH P w k)) Q E s := by
  obtain ⟨o, ho, hex, hd⟩ := R.ob
  have size := R.size
  have room := R.room
  unfold setAddHashed
  refine wpAny_holding ?_
  rw [show (100000 : Nat) = 99999 + 1 from rfl, setAddHashedIn_succ]
  refine wpAny_bind (wpAny_setState_of ho hd R.fits ?_)
  dsimp only
  refine wp_if_neg (by simp [byScan, Value.scannable]) ?_
  try refine wpAny_bind (wpAny_pure ?_)
  refine wpAny_bind (x_search R hx hu (fun hm => ?_) fun K hn free full => ?_)
  · exact wpAny_pure (hQ false s.heap L es ep t (Heap.SameBut.refl a s.heap) R (fun _ => rfl) fun z => absurd hm z)
  dsimp only
  refine wpAny_bind (wpAny_setState_of ho hd R.fits ?_)
  dsimp only
  obtain ⟨g1, g2, g3, g4, g5, g6, g7, g8, g9⟩ := R.tab.put free full
  generalize t.put (way t.mask (TxH P w k) K) = pt at g1 g3 g4 g5 g6 g7 g8 g9 ⊢
  obtain ⟨t1, p⟩ := pt
  dsimp only at g1 g3 g4 g5 g6 g7 g8 g9 ⊢
  subst g1
  generalize SetTable.below t.place (way t.mask (TxH P w k) K) = p at g2 g3 ⊢
  rw [← mid_map (fun q : Mem => TxH P w q.2) L p (x, k)] at g3
  have pm := mid_perm L p (x, k)
  have rows1 : (SetTable.insertAt es p (TxH P w k, Value.ref x)).toList = (L.take p ++ (x, k) :: L.drop p).map (xRow P w) := by
    rw [SetTable.toList_insertAt, mid_map, R.rows]
    rfl
  generalize SetTable.insertAt es p (TxH P w k, Value.ref x) = es1 at rows1 ⊢
  generalize L.take p ++ (x, k) :: L.drop p = L1 at pm g3 rows1
  have len1 : L1.length = L.length + 1 := pm.length_eq
  have nd1 : (L1.map (·.2)).Nodup := (pm.map (·.2)).nodup_iff.mpr (List.nodup_cons.mpr ⟨hn, R.nd⟩)
  have size1 : es1.size = L.length + 1 := by rw [← Array.length_toList, rows1, List.length_map, len1]
  -- what is left to do, whatever the table is called
  have tail : ∀ t2 : SetTable, t2.place = t1.place → t2.mask = t1.mask → t2.dummies = t1.dummies → t2.led = t1.led → wpAny (model P w) A (do
      storeSet a es1 t2
      if (!false && t2.tooFull) = true then do
        setRelay a (SetTable.grown (es.size + 1))
        pure true
      else pure true) Q E s := fun t2 p1 p2 p3 p4 => by
    have T2 : TabOk t2 (L1.map fun q => TxH P w q.2) := ⟨by rw [p1]; exact g3.ris, by rw [p3]; exact g3.dm, by rw [p1]; exact g3.sz, by rw [p2]; exact g3.mok, by rw [p1, p2]; exact g3.bd, by rw [p1, p2]; exact g3.reach⟩
    have place2 : t2.place.size = L.length + 1 := by
      have := T2.sz
      rw [List.length_map, len1] at this
      exact this
    have led2 : w.params.followText "set-order" = true ∨ t2.led = true := by rw [p4, g5]; exact R.led
    have m2 : t2.mask = t.mask := p2.trans g4
    refine wpAny_bind (wpAny_storeSet_of ho hd ?_ (by rw [size1, sizeLine_eq]; omega))
    have sb : Heap.SameBut a s.heap (s.heap.update a (Obj.putSet es1 t2)) := Heap.SameBut.update ..
    have ho1 := store_at (es' := es1) (t' := t2) ho hd
    generalize s.heap.update a (Obj.putSet es1 t2) = h1 at sb ho1 ⊢
    have mem1 : ∀ q ∈ L1, IsX P w h1 q.2 q.1 := fun q hq => by
      rcases List.mem_cons.mp (pm.mem_iff.mp hq) with e | e
      · rw [e]; exact hx.aside ho hd sb
      · exact (R.mem q e).aside ho hd sb
    have fullIs : t2.tooFull = decide ((L.length + 1) * 5 ≥ t.mask * 3) := by
      unfold SetTable.tooFull SetTable.fill
      rw [T2.dm, place2, m2]
      rfl
    rw [fullIs]
    by_cases hf : (L.length + 1) * 5 ≥ t.mask * 3
    · refine wp_if_pos (by simp [hf]) (wpAny_bind ?_)
      have go : ∀ M, SetTable.sizeAbove (SetTable.grown (L.length + 1)) - 1 = M → MaskOk M → SetTable.sizeAbove (SetTable.grown (L.length + 1)) ≤ 128 → (L.length + 1) * 5 < M * 3 →
          wpAny (model P w) A (setRelay a (SetTable.grown (L.length + 1))) (fun _ s' => wpAny (model P w) A (pure true) Q E s') E { s with heap := h1 } := fun M w1 w2 w3 w4 =>
        x_relay (s := { s with heap := h1 }) ho1 ⟨hex.1, hex.2.1, hex.2.2⟩ rfl rows1 (by rw [place2, len1]) T2.dm (by rw [len1, m2]; rcases R.tab.mok with e | e | e <;> rw [e] at room hf ⊢ <;> omega) nd1 mem1 led2 (by omega) w1 w2 w3 (by omega)
          fun h2 L2 es2 ep2 t3 sb2 R2 pm2 => wpAny_pure (hQ true h2 L2 es2 ep2 t3 (sb.trans sb2) R2 (fun z => absurd z hn) fun _ => pm2.trans pm)
      rw [size]
      rcases R.tab.mok with e | e | e
      · rw [e] at room hf
        have : L.length = 4 := by omega
        rw [this] at go ⊢
        exact go 31 (by rw [size_20]) (.inr (.inl rfl)) (by rw [size_20]; decide) (by omega)
      · rw [e] at room hf
        have : L.length = 18 := by omega
        rw [this] at go ⊢
        exact go 127 (by rw [size_76]) (.inr (.inr rfl)) (by rw [size_76]; decide) (by omega)
      · rw [e] at hf
        omega
    · refine wp_if_neg (by simp [hf]) (wpAny_pure ?_)
      exact hQ true h1 L1 es1 _ t2 sb ⟨⟨_, ho1, ⟨hex.1, hex.2.1, hex.2.2⟩, rfl⟩, rows1, T2, nd1, mem1, led2, by rw [len1, m2]; omega, by omega⟩ (fun z => absurd z hn) fun _ => pm
  by_cases hpl : t1.plain = true
  · refine wp_if_pos hpl (wpAny_bind (x_hashBy hx fun c => ?_))
    cases c with
    | true => exact tail t1 rfl rfl rfl rfl
    | false => exact tail { t1 with plain := false } rfl rfl rfl rfl
  · refine wp_if_neg hpl (wpAny_bind (wpAny_pure ?_))
    exact tail t1 rfl rfl rfl rfl
/-- a new set -/
theorem x_fresh {h : Heap} (ho : h.get? a = some { cls := .type "set", dict := none, data := .set #[] 0 (.fresh 0 0 (!w.params.followText "set-order")) }) : XSet P w h a [] #[] 0 (.fresh 0 0 (!w.params.followText "set-order")) :=
  ⟨⟨_, ho, ⟨rfl, rfl, rfl⟩, rfl⟩, rfl, ⟨List.Pairwise.nil, rfl, rfl, .inl rfl, fun x hx => (by cases hx), fun i h j hi => (by simp at hi)⟩, List.nodup_nil, fun q hq => (by cases hq), by
    show _ ∨ (!w.params.followText "set-order") = true
    cases w.params.followText "set-order"
    · exact .inr rfl
    · exact .inl rfl, by show 0 * 5 < 7 * 3; decide, by show 0 < 64; decide⟩
end
end V0
namespace V0
open PySem PySem.Spec PyProof.Rows L2
/-! ### such sets as tracked things -/
/-- the set at a, its members' own objects aside -/
def XSet0 (P : Program) (w : World) (h : Heap) (a : Addr) (L : List Mem) : Prop := ∃ (es : Array (Int × Value)) (ep : Nat) (t : SetTable), (∃ o, h.get? a = some o ∧ o.ExactSet ∧ o.data = .set es ep t) ∧ es.toList = L.map (xRow P w) ∧ TabOk t (L.map fun q => TxH P w q.2) ∧ (L.map (·.2)).Nodup ∧
  (w.params.followText "set-order" = true ∨ t.led = true) ∧ L.length * 5 < t.mask * 3 ∧ L.length < 64
def XSetO (P : Program) (w : World) (a : Addr) (L : List Mem) : HO := .ext fun h => XSet0 P w h a L
theorem XSet.zero {P : Program} {w : World} {h : Heap} {a : Addr} {L : List Mem} {es : Array (Int × Value)} {ep : Nat} {t : SetTable} (R : XSet P w h a L es ep t) : XSet0 P w h a L := ⟨es, ep, t, R.ob, R.rows, R.tab, R.nd, R.led, R.room, R.few⟩
theorem XSet0.full {P : Program} {w : World} {h : Heap} {a : Addr} {L : List Mem} (R : XSet0 P w h a L) (hm : ∀ q ∈ L, IsX P w h q.2 q.1) : ∃ es ep t, XSet P w h a L es ep t := by
  obtain ⟨es, ep, t, h1, h2, h3, h4, h5, h6, h7⟩ := R
  exact ⟨es, ep, t, h1, h2, h3, h4, hm, h5, h6, h7⟩
theorem xset_new {P : Program} {w : World} {H : Hp} {h : Heap} {a : Addr} {L : List Mem} (R : XSet0 P w h a L) : ObjOk P w H h a (XSetO P w a L) := by
  have ⟨es, ep, t, ⟨o, ho, r⟩, q⟩ := R
  exact ⟨R, ⟨o, ho⟩, fun h1 h2 ⟨es', ep', t', ⟨o', ho', r'⟩, q'⟩ k => ⟨es', ep', t', ⟨o', k o' ho', r'⟩, q'⟩⟩
theorem x_itemsOf {P : Program} {w : World} : ∀ {k : List Str} {us : List Value}, Vals (k.map V.str) us → PySem.ItemsAre (TxK P w) k us
  | [], _, .nil => .nil
  | z :: k, _, .cons r t => by
    obtain ⟨tk, rfl⟩ := r
    exact .cons (by show Value.isStrOf z (.str z tk) = true; simp [Value.isStrOf]) (x_itemsOf t)
section
variable {X : Cx} {pins : List (Addr × Obj)} {σ : L2.St} {H : Hp} {s : Shared}
theorem Inv.isX {b : Addr} {k : List Str} (I : Inv X pins σ H s) (h : SqT X.K H b (k.map V.str)) : IsX X.prog X.w s.heap k b := by
  obtain ⟨its, r, ⟨o, ho, hc, n, hd⟩, _⟩ := I.tuple h
  exact ⟨o, its.toArray, n, ho, hc, hd, by simpa using x_itemsOf r⟩
theorem Inv.xset {a : Addr} {L : List Mem} (I : Inv X pins σ H s) (ha : H a = some (XSetO X.prog X.w a L)) (hm : ∀ q ∈ L, SqT X.K H q.1 (q.2.map V.str)) : ∃ es ep t, XSet X.prog X.w s.heap a L es ep t := XSet0.full (I.hok a _ ha).1 fun q hq => Inv.isX I (hm q hq)
/-- D.add(T) -/
theorem x_setAdd {E : Value → Shared → Prop} {D T : Addr} {k : List Str} {L : List Mem} {Q : Value → Shared → Prop} (hu : X.A.units + 64 < cLine) (I : Inv X pins σ H s) (hT : SqT X.K H T (k.map V.str)) (hD : H D = some (XSetO X.prog X.w D L)) (hm : ∀ q ∈ L, SqT X.K H q.1 (q.2.map V.str)) (few : L.length + 1 < 64)
    (h : ∀ L' s', (k ∈ L.map (·.2) → L' = L) → (k ∉ L.map (·.2) → L'.Perm ((T, k) :: L)) → Inv X pins σ (upd H D (XSetO X.prog X.w D L')) s' → Q .none s') : wpAny (model X.prog X.w) X.A (call (.builtin "set.add") [.ref D, .ref T]) Q E s := by
  obtain ⟨es, ep, t, R⟩ := Inv.xset I hD hm
  obtain ⟨o, ho, hex, hd⟩ := R.ob
  have ty : s.TypeIs (.ref D) "set" := ⟨o, ho, hex.1⟩
  have hx := Inv.isX I hT
  refine wpAny_call_entry F.slot_set_add ty F.entry_set_add ?_ (F.args_set_add_2 _ _)
  unfold Builtin.«set.add» Builtin.Frozenset.oneOther Builtin.Frozenset.addrOf setAdd
  simp only [List.isEmpty_nil, bind_assoc]
  refine wpAny_bind (wpAny_pure ?_)
  try dsimp only
  refine wpAny_bind (wpAny_pure ?_)
  try dsimp only
  refine wpAny_bind (wpAny_holding (wpAny_bind (wpAny_pyHash_tuple (by show X.A.units + 1 < cLine; omega) hx ?_)))
  refine x_add (s := { s with toks := s.toks + (k.length + 1) }) R hx (by show X.A.units + 1 < cLine; omega) few fun b h' L' es' ep' t' sb R' c1 c2 => ?_
  show wpAny _ _ (ret Value.none) _ _ _
  have he : ∃ u, h'.get? D = some u := let ⟨o', ho', _⟩ := R'.ob; ⟨o', ho'⟩
  exact wpAny_pure ⟨_, rfl, h L' _ c1 c2 (I.write (e := D) (t' := s.toks + (k.length + 1)) (by rw [hD]; trivial) (.inl rfl) (fun b u hb hu => (sb.2 b hb).trans hu) he (xset_new R'.zero))⟩
/-! ### {elt for target in iter if ..}, elt a tuple of texts -/
def tScX (P : Program) (w : World) (K : PySem.W.Frag) (wi : TI) (g : TG) (tt : TT) (te : TE) (vs : List Nat) : TE := fun σ H Q => wi σ H fun J H1 => ∀ D, H1 D = none → ∃ W : Nat → Nat → Hp → Prop, (∃ m, W 0 m (upd H1 D (XSetO P w D []))) ∧ ∀ i m H, W i m H →
  (J.stop i H ∧ Q (.ref D) H) ∨ (J.go i H ∧ ∃ Nx : Hp → Prop, (∀ H', Nx H' → ∃ m', m' < m ∧ W (i + 1) m' H') ∧ ∀ x H', J.yld i H x H' → g x (wipe σ vs) H' fun σ2 H2 => wipe σ2 vs = wipe σ vs ∧ tt σ2 H2 fun b H3 =>
    if b = true then te σ2 H3 fun y H4 => ∃ (T : Addr) (k : List Str) (L : List Mem), y = .ref T ∧ SqT K H4 T (k.map V.str) ∧ H4 D = some (XSetO P w D L) ∧ (∀ q ∈ L, SqT K H4 q.1 (q.2.map V.str)) ∧ L.length + 1 < 64 ∧
      (∀ L', (k ∈ L.map (·.2) → L' = L) → (k ∉ L.map (·.2) → L'.Perm ((T, k) :: L)) → Nx (upd H4 D (XSetO P w D L'))) else Nx H3)
theorem pe_scX {elt tg iter : Expr} {ifs : List Expr} {scope : Scope} {own : List (PySem.Str × Nat)} {pos : Pos} {wi : TI} {g : TG} {tt : TT} {te : TE} (hc : X.calm = true) (hu : X.A.units + 64 < cLine) (hN : X.N.Nodup) (hi : PI X tg iter wi) (ok : BlkOk X.N X.env.scope scope own)
    (hg : ∀ (s : Shared) (H : Hp) (C : Addr) (cl : List (PySem.Str × Addr)) (fp : List Addr), PG (X.blk s H scope (compEnvC scope cl C X.env) fp) tg g) (ht : ∀ (s : Shared) (H : Hp) (C : Addr) (cl : List (PySem.Str × Addr)) (fp : List Addr), PTs (X.blk s H scope (compEnvC scope cl C X.env) fp) ifs tt)
    (he : ∀ (s : Shared) (H : Hp) (C : Addr) (cl : List (PySem.Str × Addr)) (fp : List Addr), PE (X.blk s H scope (compEnvC scope cl C X.env) fp) elt te) (fold : ∀ x, foldedSetIterable iter X.env x = pure x := by intro _; rfl) :
    PE X (.SetComp elt [⟨tg, iter, ifs, 0⟩] scope pos) (tScX X.prog X.w X.K wi g tt te (own.map (·.2))) := by
  refine ⟨fun pins s σ H Q I h => ?_⟩
  rw [PpSet.eval_SetComp]
  have cells : ∀ y ∈ scope.names, y.2 = .free → ∃ c, X.env.cells.lookup y.1 = some c := fun y hy e => (ok.free y hy e).elim (fun k => I.ok.has _ (.inl k)) fun k => I.ok.has _ (.inr k)
  refine wpAny_comprehension_free rfl fold (closure_ok cells) ok.kind (fun y hy e => by rw [ok.uniq y hy, e]) (thn (hi.run pins s σ H _ I h) fun xv s1 hx => thn hx fun itv s2 h2 => ?_)
  obtain ⟨it, fp, tn, J, H2, rfl, I2, T, st2, f2, q⟩ := h2
  refine PpSet.newSet_ok (newEnv_comp ?_)
  generalize hD : s2.heap.objs.size = D
  have free : H2 D = none := I2.hok.fresh (Nat.le_of_eq hD)
  obtain ⟨W, ⟨m0, w0⟩, turn⟩ := q D free
  -- the set is laid, the block's own names behind it
  generalize ht0 : SetTable.fresh 0 0 (!X.w.params.followText "set-order") = t0
  generalize hs3 : ({ s2 with heap := s2.heap.push { cls := .type "set", dict := none, data := .set #[] 0 t0 } } : Shared) = s3
  have heap3 : s3.heap = s2.heap.push { cls := .type "set", dict := none, data := .set #[] 0 t0 } := by rw [← hs3]
  have I3 : L2.Inv X pins σ (upd H2 D (XSetO X.prog X.w D [])) s3 := by
    rw [← hs3]
    refine I2.laid (t' := s2.toks) (fun b o e => Heap.get?_push_of_some _ e) (Nat.le_of_eq hD) (xset_new ?_)
    rw [← hD, ← ht0]
    exact (x_fresh (Heap.get?_push_size _ rfl)).zero
  have old : ∀ b ∈ fp, b < s2.heap.objs.size := fun b hb => let ⟨o, e, _⟩ := T.obj _ _ st2 b hb; Heap.lt_size e
  have f3 : ∀ b ∈ fp, FpOk X pins (upd H2 D (XSetO X.prog X.w D [])) b ∧ b < s3.heap.objs.size := fun b hb =>
    ⟨⟨by rw [upd_ne (by rw [← hD]; exact Nat.ne_of_lt (old b hb))]; exact (f2 b hb).1, (f2 b hb).2⟩, by rw [heap3, Heap.size_push]; exact Nat.lt_succ_of_lt (old b hb)⟩
  have st3 : tn 0 s3.heap := T.keep _ _ _ st2 fun b _ o e => by rw [heap3]; exact Heap.get?_push_of_some _ e
  generalize hH3 : upd H2 D (XSetO X.prog X.w D []) = H3 at I3 f3 w0
  have I4 := block_start I3 ok hN f3
  have none3 : ∀ b ∈ fp, H3 b = none := fun b hb => (f3 b hb).1.1
  generalize hcl : cellsFrom (s3.heap.objs.size + 1) scope.names (cloFrom X.env.cells scope.names []) = cl at I4
  have pg := hg s3 H3 s3.heap.objs.size cl fp
  have pt := ht s3 H3 s3.heap.objs.size cl fp
  have pe := he s3 H3 s3.heap.objs.size cl fp
  have hlocals : (compEnvC scope cl s3.heap.objs.size X.env).locals = s3.heap.objs.size := rfl
  show codeAny _ _ (.compStart (.SetComp elt [⟨tg, iter, ifs, 0⟩] scope pos) 0 (.ref it) (.ref D) (compEnvC scope cl s3.heap.objs.size X.env)) (compPost (model X.prog X.w) X.A X.xe none (EP X pins σ Q) (.ref D) s3.heap.objs.size) { s3 with heap := pushCells (s3.heap.push { cls := .type "dict", data := .dict #[] }) scope.names }
  generalize compEnvC scope cl s3.heap.objs.size X.env = ce at I4 pg pt pe hlocals ⊢
  generalize hs4 : ({ s3 with heap := pushCells (s3.heap.push { cls := .type "dict", data := .dict #[] }) scope.names } : Shared) = s4 at I4 ⊢
  have st4 : tn 0 s4.heap := T.keep _ _ _ st3 fun b _ o e => by rw [← hs4]; exact pushCells_keeps _ _ _ _ (Heap.get?_push_of_some _ e)
  have foot : ∀ {σ' : L2.St} {H' : Hp} {z : Shared}, L2.Inv (X.blk s3 H3 scope ce fp) [] σ' H' z → (∀ b ∈ fp, H' b = none) → ∀ b ∈ fp, FpOk (X.blk s3 H3 scope ce fp) [] H' b := fun {σ' H' z} I' nn b hb =>
    ⟨nn b hb, (I'.ok.exf b hb).1, I'.ok.exfs b hb, .inl hb, fun x c e => (I'.ok.exf b hb).2 x c e, fun p hp => absurd (show p ∈ ([] : List (Addr × Obj)) ++ [] from hp) (by simp)⟩
  have loop : codeAny (model X.prog X.w) X.A (.compLoop (.SetComp elt [⟨tg, iter, ifs, 0⟩] scope pos) 0 (.ref it) (.ref D) ce) (compPost (model X.prog X.w) X.A X.xe none (EP X pins σ Q) (.ref D) s3.heap.objs.size) s4 := by
    refine PpSet.compLoopS_any (fun n z => ∃ i H', L2.Inv (X.blk s3 H3 scope ce fp) [] (wipe σ (own.map (·.2))) H' z ∧ tn i z.heap ∧ (∀ b ∈ fp, H' b = none) ∧ W i n H') (fun n s5 ⟨i, H5, I5, st5, n5, w5⟩ => ?_) m0 ⟨0, H3, I4, st4, none3, w0⟩
    rcases turn i n H5 w5 with ⟨stop, fin⟩ | ⟨go, Nx, less, step⟩
    · -- behind the last
      refine thnF (T.done (X.blk s3 H3 scope ce fp) rfl rfl rfl hc i [] s5 _ H5 (fun _ _ => False) I5 (foot I5 n5) st5 stop) fun r s6 ⟨hr, I6⟩ => ?_
      subst hr
      have I7 : L2.Inv X pins σ H5 s6 := I3.call' (ch := fp) I6.os I6.base I6.hok I6.bare fun b hb => let ⟨⟨_, z⟩, _⟩ := f3 b hb; ⟨z.2.2.1, z.1, z.2.2.2.1, z.2.2.2.2⟩
      have nC : H5 s3.heap.objs.size = none := by
        rw [← hlocals]
        exact I6.free
      obtain ⟨m, hn, _⟩ := I6.loc
      have hn : s6.heap.Ns ce.locals m := hn
      rw [hlocals] at hn
      obtain ⟨g0, g1, g2, g3, g4, g5⟩ := I3.fpOk (Nat.le_refl _) nC
      exact ⟨m, hn, fun h'' sb => ⟨.ref D, H5, I7.turned (t' := s6.toks) (fun b o hb e => (sb.2 b hb).trans e) g0 g1 g3 g4 g5, rfl, fin⟩⟩
    · refine thnF (T.item (X.blk s3 H3 scope ce fp) rfl rfl rfl hc i [] s5 _ H5 (fun _ _ => False) I5 (foot I5 n5) st5 go) fun r s6 ⟨u, hr, h6⟩ => ?_
      subst hr
      refine thnF h6 fun _ s7 ⟨x, H7, I7, r7, y7, st7, n7⟩ => ?_
      refine thnF (pg.run _ s7 _ H7 x u _ (I7.pinned (foot I7 n7) (T.obj _ _ st7)) r7 (step x H7 y7)) fun _ s8 ⟨σ8, H8, I8, hw8, q8⟩ => ?_
      refine thnF (pt.run _ s8 σ8 H8 _ I8 q8) fun b s9 ⟨H9, I9, q9⟩ => ?_
      have next : ∀ {z : Shared} {H' : Hp}, L2.Inv (X.blk s3 H3 scope ce fp) ([] ++ pinsAt fp s7.heap) σ8 H' z → Nx H' → ∃ m, m < n ∧ ∃ i H', L2.Inv (X.blk s3 H3 scope ce fp) [] (wipe σ (own.map (·.2))) H' z ∧ tn i z.heap ∧ (∀ b ∈ fp, H' b = none) ∧ W i m H' := fun {z H'} I' nx => by
        obtain ⟨m', hm, w'⟩ := less H' nx
        have kept : ∀ b ∈ fp, ∀ o, s7.heap.get? b = some o → z.heap.get? b = some o ∧ H' b = none := fun b hb o e => by
          have q := I'.pin (b, o) (List.mem_append_right _ (List.mem_append_right _ (mem_pinsAt hb e)))
          exact ⟨q.1, q.2.1⟩
        refine ⟨m', hm, i + 1, H', (I'.unpinned (pins := [])).weak (by rw [← hw8, wipe_length]) (fun j v e => ?_), T.keep _ _ _ st7 fun b hb o e => (kept b hb o e).1, fun b hb => ?_, w'⟩
        · rw [← hw8] at e
          exact (wipe_some e).1
        · obtain ⟨o, e, _⟩ := T.obj _ _ st7 b hb
          exact (kept b hb o e).2
      cases b with
      | false =>
        rw [if_neg (by decide)] at q9 ⊢
        exact next I9 q9
      | true =>
        rw [if_pos rfl] at q9 ⊢
        refine thnF (pe.run _ s9 σ8 H9 _ I9 q9) fun z s10 ⟨yv, H10, I10, r10, Ta, k, L, ey, hT, hDa, hm, few, nx⟩ => ?_
        subst ey
        cases (show z = Value.ref Ta from r10)
        exact x_setAdd (X := X.blk s3 H3 scope ce fp) hu I10 hT hDa hm few fun L' s11 c1 c2 I11 => next I11 (nx L' c1 c2)
  exact PpSet.codeAny_compStart_set loop (T.self X.A 0 _ _ _ st4 loop)
end
end V0
namespace V0
open PySem PySem.Spec PyProof.Rows L2
/-! ### tuples of texts in their order -/
def tkey (k : List Str) : List (Int ⊕ List Nat) := k.map fun z => Sum.inr z.cps.toList
/-- k stands ahead of k' -/
def ltT (k k' : List Str) : Bool := lexLt itemOrd (tkey k) (tkey k')
theorem tkey_inj : ∀ {k k' : List Str}, tkey k = tkey k' → k = k'
  | [], [], _ => rfl
  | [], _ :: _, h => nomatch h
  | _ :: _, [], h => nomatch h
  | x :: k, y :: k', h => by
    have h : (Sum.inr x.cps.toList : Int ⊕ List Nat) :: tkey k = Sum.inr y.cps.toList :: tkey k' := h
    injection h with h1 h2
    injection h1 with h1
    rw [tkey_inj h2]
    congr 1
    cases x; cases y
    simp only [Str.mk.injEq]
    exact Array.toList_inj.mp h1
theorem ltT_tri {k k' : List Str} (h1 : ltT k k' = false) (h2 : ltT k' k = false) : k = k' := tkey_inj (lex_total _ _ h1 h2)
theorem ltT_self (k : List Str) : ltT k k = false := lex_irrefl _
theorem ltT_trans {a b c : List Str} (h1 : ltT a b = true) (h2 : ltT b c = true) : ltT a c = true := lex_trans _ _ _ h1 h2
/-- a rearrangement of a map's list is the map of a rearrangement -/
theorem perm_map {α β : Type} {f : α → β} {xs ys : List β} (h : xs.Perm ys) : ∀ L : List α, xs = L.map f → ∃ L1 : List α, L1.Perm L ∧ ys = L1.map f := by
  induction h with
  | nil => exact fun L e => ⟨[], by rw [List.map_eq_nil_iff.mp e.symm], rfl⟩
  | cons x _ ih =>
    intro L e
    match L, e with
    | a :: L, e =>
      injection e with e1 e2
      obtain ⟨L1, p, q⟩ := ih L e2
      exact ⟨a :: L1, p.cons a, by rw [q, e1]; rfl⟩
  | swap x y l =>
    intro L e
    match L, e with
    | a :: b :: L, e =>
      injection e with e1 e2
      injection e2 with e2 e3
      exact ⟨b :: a :: L, List.Perm.swap .., by rw [e1, e2, e3]; rfl⟩
  | trans _ _ ih1 ih2 =>
    intro L e
    obtain ⟨L1, p, q⟩ := ih1 L e
    obtain ⟨L2, p2, q2⟩ := ih2 L1 q
    exact ⟨L2, p2.trans p, q2⟩
/-- two strictly ascending arrangements of the same are one -/
theorem ltT_one : ∀ {l m : List (List Str)}, l.Pairwise (fun a b => ltT a b = true) → m.Pairwise (fun a b => ltT a b = true) → l.Perm m → l = m
  | [], m, _, _, p => (List.nil_perm.mp p).symm
  | x :: l, [], _, _, p => absurd p.length_eq (by simp)
  | x :: l, y :: m, h1, h2, p => by
    have a1 := List.pairwise_cons.mp h1
    have a2 := List.pairwise_cons.mp h2
    have e : x = y := by
      rcases List.mem_cons.mp (p.mem_iff.mp (List.mem_cons_self : x ∈ x :: l)) with e | e
      · exact e
      · rcases List.mem_cons.mp (p.mem_iff.mpr (List.mem_cons_self : y ∈ y :: m)) with e2 | e2
        · exact e2.symm
        · have := ltT_trans (a2.1 x e) (a1.1 y e2)
          rw [ltT_self] at this
          cases this
    subst e
    rw [ltT_one a1.2 a2.2 (List.perm_cons x |>.mp p)]
section
variable {P : Program} {w : World} {A : Around} {E : Value → Shared → Prop} {s : Shared} {a : Addr} {L : List Mem} {es : Array (Int × Value)} {ep : Nat} {t : SetTable}
theorem x_tupItems {vs : List Value} {k : List Str} (h : PySem.ItemsAre (TxK P w) k vs) : ∀ i, tupItems (fun _ => true) i vs = some (tkey k) := by
  induction h with
  | nil => exact fun i => rfl
  | @cons z v k vs h1 _ ih =>
    intro i
    obtain ⟨t, rfl⟩ := Value.isStrOf_shape h1
    show (if true = true then (tupItems (fun _ => true) (i + 1) vs).map (Sum.inr z.cps.toList :: ·) else none) = _
    rw [ih]
    rfl
theorem IsX.key {h : Heap} {k : List Str} {b : Addr} (x : IsX P w h k b) : G.tupKeyC h (fun _ => true) (.ref b) = some (tkey k) := by
  obtain ⟨o, its, n, ho, hc, hd, hi⟩ := x
  unfold G.tupKeyC
  have e : G.isTupObj h (.ref b) = true := by simp [G.isTupObj, ho, hc]
  rw [if_pos e]
  show (match h.get? b with
    | some o => match o.data with
      | .seq xs _ => tupItems (fun _ => true) 0 xs.toList
      | _ => none
    | none => none) = _
  rw [ho]
  dsimp only
  rw [hd]
  exact x_tupItems hi 0
theorem IsX.first {h : Heap} {k : List Str} {b : Addr} (x : IsX P w h k b) (ne : k ≠ []) : ∃ f, TupOf h (fun _ => true) (.ref b) f := by
  obtain ⟨o, its, n, ho, hc, hd, hi⟩ := x
  cases hl : its.toList with
  | nil =>
    rw [hl] at hi
    cases hi
    exact absurd rfl ne
  | cons v vs =>
    rw [hl] at hi
    cases hi with
    | cons h1 _ =>
      obtain ⟨t, rfl⟩ := Value.isStrOf_shape h1
      exact ⟨_, b, o, its, n, rfl, ho, hc, hd, by rw [← Array.getElem?_toList, hl]; rfl, (fun z => by cases z), fun _ => ⟨_, t, rfl⟩⟩
theorem x_firsts {h : Heap} : ∀ L1 : List Mem, (∀ q ∈ L1, IsX P w h q.2 q.1 ∧ q.2 ≠ []) → ∃ fs, TupsOf h (fun _ => true) (L1.map fun q => Value.ref q.1) fs
  | [], _ => ⟨[], .nil⟩
  | q :: L1, m => by
    obtain ⟨f, hf⟩ := IsX.first (m q (by simp)).1 (m q (by simp)).2
    obtain ⟨fs, hfs⟩ := x_firsts L1 fun r hr => m r (by simp [hr])
    exact ⟨f :: fs, .cons hf hfs⟩
/-- xs.sort(), xs a list of such tuples, no two alike -/
theorem x_sort {l : Addr} {L1 : List Mem} {n : Nat} {R : PySem.Fin → Shared → Prop} (ho : s.heap.get? l = some (seqObj "list" (L1.map fun q => Value.ref q.1).toArray n)) (hm : ∀ q ∈ L1, IsX P w s.heap q.2 q.1 ∧ q.2 ≠ []) (hl : L1.length ≤ sizeLine) (nd : (L1.map (·.2)).Nodup)
    (h : ∀ L2 : List Mem, L2.Perm L1 → L2.Pairwise (fun q r => ltT q.2 r.2 = true) → R (.done (.ret .none)) { s with heap := sortedHeap s.heap l (L1.map fun q => Value.ref q.1) (L2.map fun q => Value.ref q.1).toArray }) :
    wpAny (model P w) A (Builtin.«list.sort» ⟨[.ref l], []⟩) R E s := by
  obtain ⟨fs, hfs⟩ := x_firsts L1 hm
  refine G.list_sort_tups ho hfs (fun v hv => ?_) (by rw [List.length_map]; exact hl) fun st pm sorted _ => ?_
  · obtain ⟨q, hq, rfl⟩ := List.mem_map.mp hv
    exact ⟨_, (hm q hq).1.key⟩
  have pl : (arrOf st).toList.Perm ((L1.map fun q => Value.ref q.1).zip (L1.map fun q => Value.ref q.1)) := by
    have := Array.perm_iff_toList_perm.mp pm
    rwa [pairsOf_toList] at this
  have twin : ∀ p ∈ (arrOf st).toList, p.1 = p.2 := fun p hp => (mem_zip_self (pl.mem_iff.mp hp)).1
  have p2 : ((arrOf st).toList.map (·.2)).Perm (L1.map fun q => Value.ref q.1) := by
    have := pl.map Prod.snd
    rwa [List.map_snd_zip (Nat.le_refl _)] at this
  obtain ⟨L2, pL, eL⟩ := perm_map p2.symm L1 rfl
  have arr2 : (arrOf st).map (·.2) = (L2.map fun q => Value.ref q.1).toArray := by
    apply Array.ext'
    rw [Array.toList_map, eL]
  rw [arr2]
  refine h L2 pL ?_
  have size : (pairsOf (L1.map fun q => Value.ref q.1)).size = L2.length := by
    rw [← Array.length_toList, pairsOf_toList, List.length_zip, List.length_map, Nat.min_self, pL.length_eq]
  have nd2 : (L2.map (·.2)).Nodup := (pL.map (·.2)).nodup_iff.mpr nd
  have keyAt : ∀ i (hi : i < L2.length), KK (G.tupKindC s.heap fun _ => true) (arrOf st) i = tkey (L2[i]).2 := fun i hi => by
    have hs : ((arrOf st).toList.map (·.2))[i]? = some (Value.ref (L2[i]).1) := by rw [eL, List.getElem?_map, List.getElem?_eq_getElem hi]; rfl
    rw [List.getElem?_map] at hs
    cases hq : (arrOf st).toList[i]? with
    | none => rw [hq] at hs; cases hs
    | some p =>
      rw [hq] at hs
      have e2 : p.2 = Value.ref (L2[i]).1 := Option.some.inj hs
      have e1 : p.1 = Value.ref (L2[i]).1 := (twin p (List.mem_of_getElem? hq)).trans e2
      unfold KK
      rw [← Array.getElem?_toList, hq]
      show ((G.tupKeyC s.heap fun _ => true) p.1).getD [] = _
      rw [e1, (hm _ (pL.mem_iff.mp (List.getElem_mem hi))).1.key]
      rfl
  refine List.pairwise_iff_getElem.mpr fun i j hi hj hij => ?_
  have le := sorted i j (Nat.le_of_lt hij) (by rw [size]; exact hj)
  rw [keyAt i hi, keyAt j hj] at le
  have le : ltT (L2[j]).2 (L2[i]).2 = false := le
  cases hlt : ltT (L2[i]).2 (L2[j]).2 with
  | true => rfl
  | false =>
    exfalso
    have e := ltT_tri hlt le
    have := List.pairwise_iff_getElem.mp nd2 i j (by rw [List.length_map]; exact hi) (by rw [List.length_map]; exact hj) hij
    rw [List.getElem_map, List.getElem_map] at this
    exact this e
end
end V0
namespace V0
open PySem PySem.Spec PyProof.Rows L2
/-! ### set(xs), whatever the members are -/
abbrev newSetObj (w : World) : Obj := { cls := .type "set", dict := none, data := .set #[] 0 (.fresh 0 0 (!w.params.followText "set-order")) }
/-- what Ok says of the set at D behind i of the items -/
structure Fill (P : Program) (w : World) (u : Nat) (h0 : Heap) (D : Addr) (items : Array Value) (Ok : Nat → Heap → Prop) : Prop where
  start : ∀ h, h.get? D = some (newSetObj w) → (∀ b o, h0.get? b = some o → h.get? b = some o) → Ok 0 h
  keep : ∀ i h h', Ok i h → (∀ o, h.get? D = some o → h'.get? D = some o) → (∀ b o, h0.get? b = some o → h'.get? b = some o) → Ok i h'
  step : ∀ (A : Around) (E : Value → Shared → Prop) (i : Nat) (v : Value) (s : Shared) (Q : Bool → Shared → Prop), A.units ≤ u → items[i]? = some v → Ok i s.heap → (∀ b o, h0.get? b = some o → s.heap.get? b = some o) →
    (∀ b h' tk, Heap.SameBut D s.heap h' → Ok (i + 1) h' → s.toks ≤ tk → Q b { s with heap := h', toks := tk }) → wpAny (model P w) A (setAdd D v) Q E s
section
variable {P : Program} {w : World} {A : Around} {E : Value → Shared → Prop} {s : Shared}
theorem fill_loop {u : Nat} {h0 : Heap} {D : Addr} {items : Array Value} {Ok : Nat → Heap → Prop} (Z : Fill P w u h0 D items Ok) {I : Addr} {fp wr : List Addr} {G : Array GenState → Array GenState → Prop} {St : Nat → Shared → Prop} {R : Result → Shared → Prop}
    (W : WalksS P w A.in1 I fp wr G items.size (fun i v => items[i]? = some v) St) (out : D ∉ fp) (fresh : h0.get? D = none) (new : ∀ b ∈ wr, h0.get? b = none) (hu : A.in1.units ≤ u) :
    ∀ (k i : Nat) (s : Shared), items.size - i = k → i ≤ items.size → St i s → (∀ b o, h0.get? b = some o → s.heap.get? b = some o) → Ok i s.heap →
      (∀ s', Moved (D :: wr) G s s' → Ok items.size s'.heap → (∀ b o, h0.get? b = some o → s'.heap.get? b = some o) → R (.ok (.ret .none)) s') → codeAny (model P w) A (.builtin "set.update.loop" ⟨[.ref D, .ref I], []⟩) R s := by
  have Dw : D ∉ wr := fun h => out (W.sub _ h)
  have wide : ∀ b ∈ wr, b ∈ D :: wr := fun b hb => List.mem_cons_of_mem _ hb
  have on : ∀ {s s' : Shared}, Moved wr G s s' → (∀ b o, h0.get? b = some o → s.heap.get? b = some o) → ∀ b o, h0.get? b = some o → s'.heap.get? b = some o := fun hm kp b o e =>
    hm.heap b o (fun hb => by rw [new b hb] at e; cases e) (kp b o e)
  intro k
  induction k with
  | zero =>
    intro i s ek le st kp ok fin
    obtain rfl : i = items.size := by omega
    refine codeAny_builtin F.entry_set_update_loop ?_
    rw [Around.under_plainId F.plain_set_update_loop _]
    show wpAny _ A.in1 (pyNext (.ref I) >>= _) _ _ s
    refine wpAny_bind (W.done s _ _ st fun s' hm => ?_)
    show wpAny _ A.in1 (ret Value.none) _ _ s'
    exact wpAny_pure (fin s' (hm.mono wide) (Z.keep _ _ _ ok (fun o e => hm.heap D o Dw e) (on hm kp)) (on hm kp))
  | succ k ih =>
    intro i s ek le st kp ok fin
    have lt : i < items.size := by omega
    refine codeAny_builtin F.entry_set_update_loop ?_
    rw [Around.under_plainId F.plain_set_update_loop _]
    show wpAny _ A.in1 (pyNext (.ref I) >>= _) _ _ s
    refine wpAny_bind (W.item i s _ _ lt st fun v s' hv st' hm => ?_)
    show wpAny _ A.in1 (holding [v] (setAdd D v) >>= _) _ _ s'
    refine wpAny_bind (wpAny_holding (Z.step A.in1 _ i v s' _ hu hv (Z.keep _ _ _ ok (fun o e => hm.heap D o Dw e) (on hm kp)) (on hm kp) fun b h' tk sb ok' tl => ?_))
    have kp' : ∀ b o, h0.get? b = some o → h'.get? b = some o := fun b o e => (sb.2 b fun z => by rw [z, fresh] at e; cases e).trans (on hm kp b o e)
    refine wpAny_pure ⟨plainId_quiet F.plain_set_update_loop _, ih (i + 1) _ (by omega) lt (W.frame _ s' _ _ st' tl fun b hb o e => ?_) kp' ok' fun s'' hm2 ok2 kp2 => ?_⟩
    · rw [sb.2 b fun h : b = D => out (by rw [← h]; exact hb)]
      exact e
    · refine fin s'' (Moved.trans W.gtrans ((hm.mono wide).then_heap tl fun b o hb e => ?_) hm2) ok2 kp2
      rw [sb.2 b fun h : b = D => hb (by rw [h]; exact List.mem_cons_self)]
      exact e
set_option maxHeartbeats 4000000 in
theorem fill_list {l : Addr} {items : Array Value} {Ok : Nat → Heap → Prop} {Q : Value → Shared → Prop} (Z : Fill P w (A.units + 5) s.heap s.heap.objs.size items Ok) (hh : A.handled = none) (hl : s.heap.IsList l items)
    (h : ∀ (h' : Heap) (tk : Nat), Ok items.size h' → (∀ b o, s.heap.get? b = some o → h'.get? b = some o) → Q (.ref s.heap.objs.size) { s with heap := h', toks := tk }) : wpAny (model P w) A (call (.type "set") [.ref l]) Q E s := by
  obtain ⟨c, tl, hmro⟩ := F.called_set.mro
  have hmade := F.called_set.made
  have hsub := F.called_set.sub
  refine wpAny_call (codeAny_of_tree ?_)
  show wpAny _ _ (callAny (.type "set") _) _ _ _
  refine wpAny_pure ⟨Code.quiet_builtin _ (by decide +kernel), codeAny_builtin F.entry_type_call ?_⟩
  rw [Around.under_plain (weight_type_call_type "set" [.ref l] []) rfl]
  have h1 := F.called_set.notType
  have h2 := F.called_set.canCreate
  have h3 := F.typeCall_set_1 (.ref l)
  repeat (any_goals (first | assumption | wp_step))
  refine codeAny_mono (code_set_led1 (.ref l) (E := E) (Q₁ := fun obj s₁ => obj = .ref s.heap.objs.size ∧ s₁ = { s with heap := s.heap.push (newSetObj w) }) ⟨rfl, rfl⟩) fun r s₁ hr => ?_
  cases r with
  | error e => exact hr
  | ok fl =>
    cases fl with
    | ret obj =>
      obtain ⟨rfl, rfl⟩ := hr
      have at1 : (s.heap.push (newSetObj w)).get? s.heap.objs.size = some (newSetObj w) := Heap.get?_push_size _ rfl
      have ty1 : Shared.TypeIs { s with heap := s.heap.push (newSetObj w) } (.ref s.heap.objs.size) "set" := ⟨_, at1, rfl⟩
      have h4 := F.called_set.init.lookup
      have h5 := F.called_set.init.bind (.ref s.heap.objs.size)
      repeat (any_goals (first | assumption | wp_step))
      refine codeAny_mono (codeAny_call_builtin (R := wants (fun r s₂ => r = .none ∧ ∃ h' tk, s₂ = { s with heap := h', toks := tk } ∧ Ok items.size h' ∧ (∀ b o, s.heap.get? b = some o → h'.get? b = some o)) E) F.called_set.init.plain F.entry_set_init (check_set_init_1 ty1 ?_)) fun r₂ s₂ hr₂ => ?_
      · obtain ⟨ol, hol, hcl, nl, hdl⟩ := hl
        obtain ⟨ocls, odict, odata, oslots⟩ := ol
        simp only at hcl hdl
        subst hcl
        subst hdl
        have at2 : (s.heap.push (newSetObj w)).get? l = some { cls := .type "list", dict := odict, data := .seq items nl, slots := oslots } := Heap.get?_push_of_some _ hol
        have h6 := F.sub_list_set
        have h7 := F.sub_list_frozenset
        have h8 : (Value.type "list" == Value.type "dict") = false := by decide
        have hl1 : (s.heap.push (newSetObj w)).IsList l items := ⟨_, at2, rfl, nl, rfl⟩
        unfold Builtin.«set.__init__» noKeywords Builtin.Frozenset.updateFrom
        generalize hPI : pyIter = PI
        wp_walk
        subst hPI
        refine wpAny_pyIter_list hl1 ?_
        refine wpAny_bind (wpAny_runValue ?_)
        have hlS : l < s.heap.objs.size := Heap.lt_size hol
        have hh3 : A.in1.in1.in1.handled = none := by simp [hh]
        have none_of : ∀ b, s.heap.objs.size ≤ b → s.heap.get? b = none := fun b hb => by
          cases q : s.heap.get? b with
          | none => rfl
          | some o => exact absurd (Nat.lt_of_lt_of_le (Heap.lt_size q) hb) (Nat.lt_irrefl _)
        have size1 : (s.heap.push (newSetObj w)).objs.size = s.heap.objs.size + 1 := Heap.size_push ..
        have apart : l ≠ (s.heap.push (newSetObj w)).objs.size := by rw [size1]; exact Nat.ne_of_lt (Nat.lt_succ_of_lt hlS)
        have out : s.heap.objs.size ∉ [(s.heap.push (newSetObj w)).objs.size, l] := by
          rw [size1]
          simp only [List.mem_cons, List.not_mem_nil, or_false, not_or]
          exact ⟨Nat.ne_of_lt (Nat.lt_succ_self _), Nat.ne_of_gt hlS⟩
        refine fill_loop Z ((Walks.list hh3 _ l apart items).toS) out (none_of _ (Nat.le_refl _)) (fun b hb => none_of b (by rw [List.mem_singleton.mp hb, size1]; exact Nat.le_succ _)) (by show A.units + 1 + 1 + 1 ≤ _; omega) (items.size - 0) 0 _ (by omega) (Nat.zero_le _)
          ⟨⟨_, Heap.get?_push_size _ rfl, rfl, rfl⟩, (hl1.push _)⟩ (fun b o e => Heap.get?_push_of_some _ (Heap.get?_push_of_some _ e)) (Z.start _ (Heap.get?_push_of_some _ at1) fun b o e => Heap.get?_push_of_some _ (Heap.get?_push_of_some _ e)) fun s' hm ok kp => ?_
        obtain ⟨h', g2, d', tk', os'⟩ := s'
        obtain rfl : g2 = s.gens := hm.gens
        obtain rfl : d' = s.drawn := hm.drawn
        obtain rfl : os' = s.os := hm.os
        show wpAny _ _ _ _ _ _
        refine wpAny_pure ?_
        show wpAny _ _ (ret Value.none) _ _ _
        exact wpAny_pure ⟨rfl, h', tk', rfl, ok, kp⟩
      · cases r₂ with
        | error e => exact hr₂
        | ok fl₂ =>
          cases fl₂ with
          | ret r =>
            obtain ⟨rfl, h', tk, rfl, ok, kp⟩ := hr₂
            repeat (any_goals (first | assumption | wp_step))
            exact h _ _ ok kp
          | _ => exact hr₂.elim
    | _ => exact hr.elim
set_option maxHeartbeats 4000000 in
theorem fill_tuple {l : Addr} {items : Array Value} {Ok : Nat → Heap → Prop} {Q : Value → Shared → Prop} (Z : Fill P w (A.units + 5) s.heap s.heap.objs.size items Ok) (hh : A.handled = none) (hl : s.heap.IsTuple l items)
    (h : ∀ (h' : Heap) (tk : Nat), Ok items.size h' → (∀ b o, s.heap.get? b = some o → h'.get? b = some o) → Q (.ref s.heap.objs.size) { s with heap := h', toks := tk }) : wpAny (model P w) A (call (.type "set") [.ref l]) Q E s := by
  obtain ⟨c, tl, hmro⟩ := F.called_set.mro
  have hmade := F.called_set.made
  have hsub := F.called_set.sub
  refine wpAny_call (codeAny_of_tree ?_)
  show wpAny _ _ (callAny (.type "set") _) _ _ _
  refine wpAny_pure ⟨Code.quiet_builtin _ (by decide +kernel), codeAny_builtin F.entry_type_call ?_⟩
  rw [Around.under_plain (weight_type_call_type "set" [.ref l] []) rfl]
  have h1 := F.called_set.notType
  have h2 := F.called_set.canCreate
  have h3 := F.typeCall_set_1 (.ref l)
  repeat (any_goals (first | assumption | wp_step))
  refine codeAny_mono (code_set_led1 (.ref l) (E := E) (Q₁ := fun obj s₁ => obj = .ref s.heap.objs.size ∧ s₁ = { s with heap := s.heap.push (newSetObj w) }) ⟨rfl, rfl⟩) fun r s₁ hr => ?_
  cases r with
  | error e => exact hr
  | ok fl =>
    cases fl with
    | ret obj =>
      obtain ⟨rfl, rfl⟩ := hr
      have at1 : (s.heap.push (newSetObj w)).get? s.heap.objs.size = some (newSetObj w) := Heap.get?_push_size _ rfl
      have ty1 : Shared.TypeIs { s with heap := s.heap.push (newSetObj w) } (.ref s.heap.objs.size) "set" := ⟨_, at1, rfl⟩
      have h4 := F.called_set.init.lookup
      have h5 := F.called_set.init.bind (.ref s.heap.objs.size)
      repeat (any_goals (first | assumption | wp_step))
      refine codeAny_mono (codeAny_call_builtin (R := wants (fun r s₂ => r = .none ∧ ∃ h' tk, s₂ = { s with heap := h', toks := tk } ∧ Ok items.size h' ∧ (∀ b o, s.heap.get? b = some o → h'.get? b = some o)) E) F.called_set.init.plain F.entry_set_init (check_set_init_1 ty1 ?_)) fun r₂ s₂ hr₂ => ?_
      · obtain ⟨ol, hol, hcl, nl, hdl⟩ := hl
        obtain ⟨ocls, odict, odata, oslots⟩ := ol
        simp only at hcl hdl
        subst hcl
        subst hdl
        have at2 : (s.heap.push (newSetObj w)).get? l = some { cls := .type "tuple", dict := odict, data := .seq items nl, slots := oslots } := Heap.get?_push_of_some _ hol
        have h6 := F.sub_tuple_set
        have h7 := F.sub_tuple_frozenset
        have h8 : (Value.type "tuple" == Value.type "dict") = false := by decide
        have hl1 : (s.heap.push (newSetObj w)).IsTuple l items := ⟨_, at2, rfl, nl, rfl⟩
        unfold Builtin.«set.__init__» noKeywords Builtin.Frozenset.updateFrom
        generalize hPI : pyIter = PI
        wp_walk
        subst hPI
        refine wpAny_pyIter_tuple hl1 ?_
        refine wpAny_bind (wpAny_runValue ?_)
        have hlS : l < s.heap.objs.size := Heap.lt_size hol
        have hh3 : A.in1.in1.in1.handled = none := by simp [hh]
        have none_of : ∀ b, s.heap.objs.size ≤ b → s.heap.get? b = none := fun b hb => by
          cases q : s.heap.get? b with
          | none => rfl
          | some o => exact absurd (Nat.lt_of_lt_of_le (Heap.lt_size q) hb) (Nat.lt_irrefl _)
        have size1 : (s.heap.push (newSetObj w)).objs.size = s.heap.objs.size + 1 := Heap.size_push ..
        have apart : l ≠ (s.heap.push (newSetObj w)).objs.size := by rw [size1]; exact Nat.ne_of_lt (Nat.lt_succ_of_lt hlS)
        have out : s.heap.objs.size ∉ [(s.heap.push (newSetObj w)).objs.size, l] := by
          rw [size1]
          simp only [List.mem_cons, List.not_mem_nil, or_false, not_or]
          exact ⟨Nat.ne_of_lt (Nat.lt_succ_self _), Nat.ne_of_gt hlS⟩
        refine fill_loop Z ((Walks.tuple hh3 _ l apart items).toS) out (none_of _ (Nat.le_refl _)) (fun b hb => none_of b (by rw [List.mem_singleton.mp hb, size1]; exact Nat.le_succ _)) (by show A.units + 1 + 1 + 1 ≤ _; omega) (items.size - 0) 0 _ (by omega) (Nat.zero_le _)
          ⟨⟨_, Heap.get?_push_size _ rfl, rfl, rfl⟩, (hl1.push _)⟩ (fun b o e => Heap.get?_push_of_some _ (Heap.get?_push_of_some _ e)) (Z.start _ (Heap.get?_push_of_some _ at1) fun b o e => Heap.get?_push_of_some _ (Heap.get?_push_of_some _ e)) fun s' hm ok kp => ?_
        obtain ⟨h', g2, d', tk', os'⟩ := s'
        obtain rfl : g2 = s.gens := hm.gens
        obtain rfl : d' = s.drawn := hm.drawn
        obtain rfl : os' = s.os := hm.os
        show wpAny _ _ _ _ _ _
        refine wpAny_pure ?_
        show wpAny _ _ (ret Value.none) _ _ _
        exact wpAny_pure ⟨rfl, h', tk', rfl, ok, kp⟩
      · cases r₂ with
        | error e => exact hr₂
        | ok fl₂ =>
          cases fl₂ with
          | ret r =>
            obtain ⟨rfl, h', tk, rfl, ok, kp⟩ := hr₂
            repeat (any_goals (first | assumption | wp_step))
            exact h _ _ ok kp
          | _ => exact hr₂.elim
    | _ => exact hr.elim
end
end V0
namespace V0
open PySem PySem.Spec PyProof.Rows L2
/-- what the set has got of the first i members -/
structure GotX (ks : List Mem) (i : Nat) (L : List Mem) : Prop where
  sub : ∀ q ∈ L, q ∈ ks.take i
  all : ∀ q ∈ ks.take i, q.2 ∈ L.map (·.2)
  len : L.length ≤ i
theorem take_snoc {α : Type} {l : List α} {i : Nat} {x : α} (h : l[i]? = some x) : l.take (i + 1) = l.take i ++ [x] := by
  rw [List.take_succ, h]
  rfl
theorem GotX.next {ks L L' : List Mem} {i : Nat} {x : Mem} (g : GotX ks i L) (h : ks[i]? = some x) (c1 : x.2 ∈ L.map (·.2) → L' = L) (c2 : x.2 ∉ L.map (·.2) → L'.Perm (x :: L)) : GotX ks (i + 1) L' := by
  by_cases hm : x.2 ∈ L.map (·.2)
  · rw [c1 hm]
    refine ⟨fun q hq => ?_, fun q hq => ?_, Nat.le_succ_of_le g.len⟩
    · rw [take_snoc h]
      exact List.mem_append_left _ (g.sub q hq)
    · rw [take_snoc h] at hq
      rcases List.mem_append.mp hq with z | z
      · exact g.all q z
      · rw [List.mem_singleton.mp z]; exact hm
  · have pm := c2 hm
    refine ⟨fun q hq => ?_, fun q hq => ?_, by rw [pm.length_eq]; exact Nat.succ_le_succ g.len⟩
    · rw [take_snoc h]
      rcases List.mem_cons.mp (pm.mem_iff.mp hq) with e | z
      · rw [e]; simp
      · exact List.mem_append_left _ (g.sub q z)
    · rw [(pm.map (·.2)).mem_iff, List.map_cons]
      rw [take_snoc h] at hq
      rcases List.mem_append.mp hq with z | z
      · exact List.mem_cons_of_mem _ (g.all q z)
      · rw [List.mem_singleton.mp z]; simp
section
variable {P : Program} {w : World} {A : Around} {E : Value → Shared → Prop} {s : Shared}
theorem XSet.keep {h h' : Heap} {a : Addr} {L : List Mem} {es : Array (Int × Value)} {ep : Nat} {t : SetTable} (R : XSet P w h a L es ep t) (ha : ∀ o, h.get? a = some o → h'.get? a = some o) (hm : ∀ q ∈ L, IsX P w h' q.2 q.1) : XSet P w h' a L es ep t := by
  obtain ⟨o, ho, r⟩ := R.ob
  exact ⟨⟨o, ha o ho, r⟩, R.rows, R.tab, R.nd, hm, R.led, R.room, R.few⟩
theorem fillX {u : Nat} {h0 : Heap} {D : Addr} {items : Array Value} {ks : List Mem} (hu : u < cLine) (hi : items.toList = ks.map fun q => Value.ref q.1) (hk : ∀ q ∈ ks, IsX P w h0 q.2 q.1) (few : ks.length < 64) :
    Fill P w u h0 D items fun i h => ∃ L es ep t, XSet P w h D L es ep t ∧ GotX ks i L := by
  refine ⟨fun h ho kp => ⟨[], _, _, _, x_fresh ho, ⟨fun q hq => (by cases hq), fun q hq => (by simp at hq), Nat.le_refl _⟩⟩, fun i h h' ⟨L, es, ep, t, R, g⟩ hD kp => ⟨L, es, ep, t, R.keep hD fun q hq => (hk q (List.mem_of_mem_take (g.sub q hq))).at fun o e => kp _ o e, g⟩,
    fun A E i v s Q hA hv ⟨L, es, ep, t, R, g⟩ kp h => ?_⟩
  have hq : (ks.map fun q => Value.ref q.1)[i]? = some v := by rw [← hi, Array.getElem?_toList]; exact hv
  rw [List.getElem?_map] at hq
  cases hks : ks[i]? with
  | none => rw [hks] at hq; cases hq
  | some x =>
    rw [hks] at hq
    obtain rfl := Option.some.inj hq
    have il := (List.getElem?_eq_some_iff.mp hks).1
    have hx : IsX P w s.heap x.2 x.1 := (hk x (List.mem_of_getElem? hks)).at fun o e => kp _ o e
    unfold setAdd
    refine wpAny_holding (wpAny_bind (wpAny_pyHash_tuple (by omega) hx ?_))
    exact x_add (s := { s with toks := s.toks + (x.2.length + 1) }) R hx (by omega) (by have := g.len; omega) fun b h' L' es' ep' t' sb R' c1 c2 => h b h' _ sb ⟨L', es', ep', t', R', g.next hks c1 c2⟩ (Nat.le_add_right _ _)
/-- the texts of a set -/
def TxtSet (P : Program) (w : World) (h : Heap) (D : Addr) (zs : List Str) : Prop := ∃ n, h.SetOf (TxK P w) D (fun k => decide (k ∈ zs)) n ∧ n ≤ zs.length ∧ (n = zs.length ↔ zs.Nodup)
theorem fillT {u : Nat} {h0 : Heap} {D : Addr} {items : Array Value} {zs : List Str} (hi : StrsAre items.toList zs) (room : zs.length + 1 < scanBound) : Fill P w u h0 D items fun i h => TxtSet P w h D (zs.take i) := by
  refine ⟨fun h ho kp => ⟨0, ?_, by simp, by simp⟩, fun i h h' ⟨n, ⟨o, es, ep, t, ho, q⟩, r⟩ hD kp => ⟨n, ⟨o, es, ep, t, hD o ho, q⟩, r⟩, fun A E i v s Q hA hv ⟨n, R, le, nd⟩ kp h => ?_⟩
  · exact ⟨_, #[], 0, _, ho, ⟨rfl, rfl, rfl⟩, rfl, (fun e he => by simp at he), (fun k => by simp), (by decide), (by rfl), rfl⟩
  · obtain ⟨z, tk, rfl, hz⟩ := StrsAre.item hi i v (by rw [Array.getElem?_toList]; exact hv)
    have il := (List.getElem?_eq_some_iff.mp hz).1
    have isz : (TxK P w).is z (.str z tk) = true := by show Value.isStrOf z (.str z tk) = true; simp [Value.isStrOf]
    have nl : (zs.take i).length = i := by rw [List.length_take]; omega
    unfold setAdd
    refine wpAny_holding (wpAny_bind ((TxK P w).pyHash isz ?_))
    refine wpAny_setAddHashed_of (s := { s with toks := s.toks + 1 }) isz rfl R (by omega) fun h' sb R' => h _ h' _ sb ⟨_, SetOf_congr R' (fun k' => ?_) rfl, ?_, ?_⟩ (Nat.le_add_right _ _)
    · rw [take_snoc hz]
      by_cases e : k' = z
      · simp [e]
      · simp [e]
    · rw [take_snoc hz, List.length_append]
      split
      · exact Nat.le_succ_of_le le
      · exact Nat.succ_le_succ le
    · rw [take_snoc hz, List.length_append, List.length_singleton, List.nodup_append]
      by_cases hm : z ∈ zs.take i
      · rw [if_pos (by simpa using hm)]
        constructor
        · intro e; omega
        · rintro ⟨_, _, dj⟩
          exact absurd rfl (dj z hm z (by simp))
      · rw [if_neg (by simpa using hm)]
        constructor
        · intro e
          exact ⟨nd.mp (by omega), by simp, fun a ha b hb e2 => hm (by rw [List.mem_singleton.mp hb] at e2; rw [← e2]; exact ha)⟩
        · rintro ⟨h1, _, _⟩
          rw [nd.mpr h1]
end
section
variable {X : Cx}
theorem x_ofRefs : ∀ {ks : List Mem} {us : List Value}, Vals (ks.map fun q => V.ref q.1) us → us = ks.map fun q => Value.ref q.1
  | [], _, .nil => rfl
  | q :: ks, _, .cons r t => by
    cases r
    rw [x_ofRefs t]
    rfl
theorem x_toRefs : ∀ ks : List Mem, Vals (ks.map fun q => V.ref q.1) (ks.map fun q => Value.ref q.1)
  | [] => .nil
  | q :: ks => .cons rfl (x_toRefs ks)
/-- set(xs), xs a list of tuples of texts -/
def rSetX (K : PySem.W.Frag) (P : Program) (w : World) : List V → Hp → VK → Prop := fun xs H Q => ∃ (l : Addr) (ks : List Mem), xs = [V.ref l] ∧ SqL K H l (ks.map fun q => V.ref q.1) ∧ (∀ q ∈ ks, SqT K H q.1 (q.2.map V.str)) ∧ ks.length < 64 ∧
  ∀ a L, H a = none → (L.map (·.2)).Nodup → (∀ q ∈ L, q ∈ ks) → (∀ q ∈ ks, q.2 ∈ L.map (·.2)) → Q (.ref a) (upd H a (XSetO P w a L))
theorem cr_setX (hc : X.calm = true) (hu : X.A.units + 64 < cLine) : CallR X (.type "set") (rSetX X.K X.prog X.w) := by
  intro pins s σ H xs us Q I r h
  obtain ⟨l, ks, rfl, hl, hk, few, q⟩ := h
  rw [Vals.ref1 r]
  obtain ⟨its, rv, pl, hz⟩ := I.list hl
  have free : H s.heap.objs.size = none := I.hok.fresh (Nat.le_refl _)
  have ei := x_ofRefs rv
  refine fill_list (P := X.prog) (w := X.w) (fillX (by omega) (by rw [← ei]) (fun p hp => Inv.isX I (hk p hp)) few) (I.ok.hd hc) pl.isList fun h' tk ⟨L, es, ep, t, R, g⟩ kp => ?_
  have hn : its.toArray.size = ks.length := by rw [List.size_toArray, ei, List.length_map]
  rw [hn] at g
  exact ⟨.ref s.heap.objs.size, _, I.laid (t' := tk) kp (Nat.le_refl _) (xset_new R.zero), rfl, q _ L free R.nd (fun p hp => List.mem_of_mem_take (g.sub p hp)) fun p hp => g.all p (by rw [List.take_length]; exact hp)⟩
end
end V0
namespace V0
open PySem PySem.Spec PyProof.Rows L2
section
variable {P : Program} {w : World} {A : Around} {E : Value → Shared → Prop} {s : Shared}
/-- sorted(set) -/
theorem x_sorted {a : Addr} {L : List Mem} {es : Array (Int × Value)} {ep : Nat} {t : SetTable} {Q : Value → Shared → Prop} (R : XSet P w s.heap a L es ep t) (hh : A.handled = none) (ne : ∀ q ∈ L, q.2 ≠ [])
    (hQ : ∀ (s' : Shared) (p : Addr) (c : Nat) (L' : List Mem), (∀ b o, s.heap.get? b = some o → s'.heap.get? b = some o) → s'.gens = s.gens → s'.os = s.os → s.heap.objs.size ≤ p → s'.heap.get? p = some (seqObj "list" (L'.map fun q => Value.ref q.1).toArray c) →
      L'.Perm L → L'.Pairwise (fun q r => ltT q.2 r.2 = true) → Q (.ref p) s') : wpAny (model P w) A (call (.builtin "sorted") [.ref a]) Q E s := by
  obtain ⟨o, ho, hex, hd⟩ := R.ob
  have size := R.size
  have few := R.few
  refine Calls.call_function_entry kind_sorted plain_sorted entry_sorted (args_sorted1 _) ?_
  unfold Builtin.«sorted»
  refine wpAny_bind (m := checkCount "sorted" 1 1 _) (wpAny_pure ?_)
  refine wpAny_bind (collect_set (A := A.in1) hh ⟨o, ho, hex.1, hd⟩ R.fits (by unfold scanBound; omega) R.tab.ris R.led fun s1 vs k1 hz g1 o1 pm => ?_)
  have er : es.toList.map (·.2) = L.map fun q => Value.ref q.1 := by
    rw [R.rows, List.map_map]
    rfl
  rw [er] at pm
  obtain ⟨L1, p1, rfl⟩ := perm_map pm.symm L rfl
  have len1 : L1.length ≤ sizeLine := by rw [p1.length_eq, sizeLine_eq]; omega
  refine wpAny_bind (wpAny_newList ?_ (by rw [List.length_map]; exact len1))
  have hoL : (s1.heap.push (seqObj "list" (L1.map fun q => Value.ref q.1).toArray 0)).get? s1.heap.objs.size = some (seqObj "list" (L1.map fun q => Value.ref q.1).toArray 0) := Heap.get?_push_size _ rfl
  refine wpAny_bind (wpAny_holding (wpAny_call_entry slot_list_sort ⟨_, hoL, rfl⟩ entry_list_sort (x_sort (P := P) (w := w) (s := { s1 with heap := s1.heap.push (seqObj "list" (L1.map fun q => Value.ref q.1).toArray 0) }) hoL (fun q hq => ⟨(R.mem q (p1.mem_iff.mp hq)).at fun u e => Heap.get?_push_of_some _ (k1 _ u e), ne q (p1.mem_iff.mp hq)⟩) len1 ((p1.map (·.2)).nodup_iff.mpr R.nd) fun L2 p2 ord => ⟨_, rfl, ?_⟩) (args_list_sort _)))
  obtain ⟨c, hc⟩ := sortedHeap_at (vs := L1.map fun q => Value.ref q.1) (out := (L2.map fun q => Value.ref q.1).toArray) hoL
  refine wpAny_pure ⟨_, rfl, hQ _ s1.heap.objs.size c L2 (fun b u e => ?_) g1 o1 hz hc (p2.trans p1) ord⟩
  have q := k1 b u e
  have lt := Heap.lt_size q
  show (sortedHeap (s1.heap.push (seqObj "list" (L1.map fun q => Value.ref q.1).toArray 0)) s1.heap.objs.size (L1.map fun q => Value.ref q.1) (L2.map fun q => Value.ref q.1).toArray).get? b = some u
  rw [sortedHeap_old (Nat.ne_of_lt lt) (by rw [size_push']; exact Nat.lt_succ_of_lt lt)]
  exact Heap.get?_push_of_some _ q
end
section
variable {X : Cx}
/-- sorted(set), the tuples not empty -/
def rSortedX (K : PySem.W.Frag) (P : Program) (w : World) : List V → Hp → VK → Prop := fun vs H Q => ∃ (a : Addr) (L : List Mem), vs = [V.ref a] ∧ H a = some (XSetO P w a L) ∧ (∀ q ∈ L, SqT K H q.1 (q.2.map V.str)) ∧ (∀ q ∈ L, q.2 ≠ []) ∧
  ∀ (L' : List Mem) (p : Addr), L'.Perm L → L'.length < 64 → L'.Pairwise (fun q r => ltT q.2 r.2 = true) → H p = none → Q (.ref p) (upd H p (.lst (L'.map fun q => V.ref q.1)))
theorem cr_sortedX (hc : X.calm = true) : CallR X (.builtin "sorted") (rSortedX X.K X.prog X.w) := by
  intro pins s σ H vs us Q I r h
  obtain ⟨a, L, rfl, ha, hk, ne, q⟩ := h
  obtain ⟨es, ep, t, R⟩ := Inv.xset I ha hk
  rw [Vals.ref1 r]
  refine x_sorted R (I.ok.hd hc) ne fun s' p c L' k g o hp hg pm ord => ?_
  have few : L'.length < 64 := by rw [pm.length_eq]; exact R.few
  have free : H p = none := I.hok.fresh hp
  have J : L2.Inv X pins σ (upd H p (.lst (L'.map fun q => V.ref q.1))) { s with heap := s'.heap, gens := s'.gens, drawn := s'.drawn, toks := s'.toks } :=
    I.call (ch := []) (Un.laid k hp free) (I.hok.laid k hp ⟨by rw [List.length_map, sizeLine_eq]; omega, _, c, x_toRefs L', hg⟩) (by rw [g]; exact I.bare) (fun _ z => nomatch z)
  have e : s' = { s with heap := s'.heap, gens := s'.gens, drawn := s'.drawn, toks := s'.toks } := by
    cases s'
    cases s
    cases o
    rfl
  rw [e]
  exact ⟨.ref p, _, J, rfl, q L' p pm few ord free⟩
/-- len(set(xs)), xs a list or a tuple of texts: n, that is their number just if no two are alike -/
def tLenSetS (K : PySem.W.Frag) (ta : TE) : TE := fun σ H Q => ta σ H fun x H1 => ∃ (l : Addr) (zs : List Str), x = .ref l ∧ (SqL K H1 l (zs.map V.str) ∨ SqT K H1 l (zs.map V.str)) ∧ zs.length ≤ 1000 ∧ ∀ n : Nat, n ≤ zs.length → (n = zs.length ↔ zs.Nodup) → Q (.int n) H1
theorem pe_lenSetS {a : Expr} {ta : TE} {p p2 q pos : Pos} (hc : X.calm = true) (hg : Gl X "len") (hm : X.mg "len" = none) (hg2 : Gl X "set") (hm2 : X.mg "set" = none) (ha : PE X a ta)
    (na : starEach [a] X.env = (false, eval a X.env) :: starEach [] X.env := by rfl) : PE X (.Call (.Name "len" p) [.Call (.Name "set" p2) [a] [] q] [] pos) (tLenSetS X.K ta) := by
  refine ⟨fun pins s σ H Q I h => ?_⟩
  refine Call_ (ld_blt I hg hm boot_len ?_)
  refine PyProof.Rows.callWith_builtin1 (PyProof.Rows.args_cons ?_ rfl) rfl rfl
  refine Call_ (ld_blt I hg2 hm2 boot_set ?_)
  refine PyProof.Rows.callWith_type1 (PyProof.Rows.args_cons (thn (ha.run pins s σ H _ I h) fun v s1 ⟨x, H1, I1, r1, q1⟩ => PyProof.Rows.args_nil ?_) na) na rfl
  obtain ⟨l, zs, rfl, hq, le, q1⟩ := q1
  cases r1
  have fin : ∀ (its : List Value), Vals (zs.map V.str) its → ∀ (h' : Heap) (tk : Nat), TxtSet X.prog X.w h' s1.heap.objs.size (zs.take its.toArray.size) → (∀ b o, s1.heap.get? b = some o → h'.get? b = some o) →
      wpAny (model X.prog X.w) X.A (spliced (backTo pos (starEach [] X.env))) (fun vs s₂ => wpAny (model X.prog X.w) X.A (call (.builtin "len") (Value.ref s1.heap.objs.size :: vs)) (EP X pins σ Q) X.xe s₂) X.xe { s1 with heap := h', toks := tk } := fun its r h' tk hS hk => by
    refine PyProof.Rows.args_nil ?_
    have hl : its.toArray.size = zs.length := by rw [List.size_toArray, ← r.length, List.length_map]
    rw [hl, List.take_length] at hS
    obtain ⟨n, ⟨o, es, ep, t, ho, hex, hd, _, _, _, hf, hn⟩, n1, n2⟩ := hS
    have I2 : L2.Inv X pins σ H1 { s1 with heap := h', toks := tk } := I1.kept fun b o e => hk b o e
    exact call_len_set ho hex hd hf (by rw [hn]; omega) ⟨.int n, H1, I2.tok _, ⟨_, by rw [hn]⟩, q1 n n1 n2⟩
  have room : zs.length + 1 < scanBound := by unfold scanBound; omega
  rcases hq with hq | hq
  · obtain ⟨its, r, pl, hz⟩ := I1.list hq
    exact fill_list (fillT (by simpa using strsAre_of r) room) (I1.ok.hd hc) pl.isList fun h' tk ok kp => fin its r h' tk ok kp
  · obtain ⟨its, r, pl, hz⟩ := I1.tuple hq
    exact fill_tuple (fillT (by simpa using strsAre_of r) room) (I1.ok.hd hc) pl fun h' tk ok kp => fin its r h' tk ok kp
end
end V0
namespace V0
open PySem PySem.Spec PyProof.Rows L2
def hide (p : Addr) (H : Hp) : Hp := fun b => if b = p then none else H b
theorem hide_ne {p b : Addr} {H : Hp} (h : b ≠ p) : hide p H b = H b := if_neg h
theorem hide_eq {p b : Addr} {H : Hp} {o : HO} (h : hide p H b = some o) : b ≠ p ∧ H b = some o := by
  by_cases e : b = p
  · have q : hide p H b = none := if_pos e
    rw [q] at h
    cases h
  · exact ⟨e, (hide_ne (H := H) e).symm.trans h⟩
theorem But.hide {p : Addr} {H H' : Hp} (b : But p H H') : Same (hide p H) (hide p H') := fun c o h => by
  obtain ⟨e, q⟩ := hide_eq h
  rw [hide_ne e]
  exact b c o q e
theorem hide_same {p : Addr} {H : Hp} : Same (hide p H) H := fun c o h => (hide_eq h).2
theorem Pot.but {H H' : Hp} {p q : Addr} (h : Pot H p) (b : But q H H') (n : p ≠ q) : Pot H' p := by
  obtain ⟨a, b', c, hp, r⟩ := h
  exact ⟨a, b', c, b _ _ hp n, r⟩
theorem Pot.some {H : Hp} {p : Addr} (h : Pot H p) : ∃ o, H p = some o := by
  obtain ⟨a, b, c, hp, _⟩ := h
  exact ⟨_, hp⟩
theorem pot_ne {H : Hp} {p q : Addr} (h : Pot H p) (n : H q = none) : q ≠ p := fun z => by
  obtain ⟨o, e⟩ := h.some
  rw [← z, n] at e
  cases e
theorem perm_at {α : Type} : ∀ (l : List α) (k : Nat) (h : k < l.length), (l[k] :: l.eraseIdx k).Perm l
  | x :: l, 0, _ => by simp
  | x :: l, k + 1, h => by
    have h' : k < l.length := Nat.lt_of_succ_lt_succ h
    show (l[k] :: x :: l.eraseIdx k).Perm (x :: l)
    exact (List.Perm.swap _ _ _).trans ((perm_at l k h').cons x)
def spShuffle : Sp := fun vs H Q _ => ∃ (p l : Addr) (xs : List V), vs = [.ref p, .ref l] ∧ Pot H p ∧ l ≠ p ∧ H l = some (.lst xs) ∧ xs.length ≤ 100 ∧
  ∀ (q : Addr) (ys : List V) (H' : Hp), ys.Perm xs → H' q = some (.lst ys) → q ≠ p → H q = none → Pot H' p → But p H H' → Q (.ref q) H'
section
variable {P : Program} {w : World} {K : PySem.W.Frag} {mg : Str → Option Value} {base : Heap}
def t_pop (K : PySem.W.Frag) : TE := tBM K "list" rPopAt (tVar 2) (tCons (tCall spStir [] E0 (tCons (tVar 0) (tCons (tCB (fun xs H Q => ∃ x n, xs = [x] ∧ LenV K x H n ∧ Q (.int n) H) (tCons (tVar 2) tNil)) tNil))) tNil)
abbrev s_shuffled : Stmt := top 61
abbrev N_shuffled : List Str := ["_law_pot_here", "_law_items", "_law_waits", "_law_turn"]
abbrev P_shuffled : List Str := ["_law_pot_here", "_law_items"]
theorem sc_shuffled : FnScope N_shuffled P_shuffled (defScope s_shuffled) := ⟨rfl, rfl, rfl, by decide +kernel, rfl, by decide +kernel, by decide +kernel⟩
theorem ok_shuffle {f f1 : Addr} {fd fd1 : FuncData} (B : Bl mg) (D_stir : Df K mg "_law_stir" s_stir P_stir f1 fd1) (D : Df K mg "_law_shuffled" s_shuffled P_shuffled f fd) : FnOk P w K mg base CX0 2 f fd P_shuffled spShuffle := by
  have G_stir : FnOk P w K mg base CX0 1 f1 fd1 P_stir spStir := ok_stir B D_stir
  refine D.F.ok sc_shuffled (fun vs H Q E h => ?_) (fun cdv A outer s H vs Q E hr h => ?_)
  · obtain ⟨p, l, xs, rfl, _⟩ := h
    rfl
  · obtain ⟨p, l, xs, rfl, hp, hlp, hl, hn, k⟩ := h
    refine ⟨_, (pss_cons (ps_set (i := 2) sc_shuffled.nd rfl (Or.inr rfl) (pe_callTy call_list_of (by rfl) B.b_list (by decide +kernel) (pa_cons (pv 1) pa_nil)))
      (pss_one (ps_ret (pe_lc (own := [("_law_turn", 3)]) (g := gName 3) (tt := tYes) rfl sc_shuffled.nd (pi_range1 rfl B.b_range (pa_cons (pe_callB call_len (by rfl) B.b_len (by decide +kernel) (pa_cons (pv 1) pa_nil)) pa_nil)) (blkOk_by (own := [("_law_turn", 3)]) (N := N_shuffled) (sc := defScope s_shuffled) (by decide +kernel)) (fun _ _ _ _ _ => (pg_name (i := 3) sc_shuffled.nd rfl (Or.inl rfl))) (fun _ _ _ _ _ => pts_nil) (fun _ _ _ _ _ => (show PE _ _ (t_pop K) from by exact (pe_bm PySem.F.plainAttrs_list PySem.F.slot_list_pop PySem.F.type_list_pop mt_popAt (pv 2) (pa_cons (by exact (pe_call G_stir (hr.mono (by decide)) (by rfl) D_stir.g D_stir.F.kp D_stir.b .nil pass0 (pa_cons (pv 0) (pa_cons (by exact (pe_callB call_len (by rfl) B.b_len (by decide +kernel) (pa_cons (pv 2) pa_nil))) pa_nil)))) pa_nil)))))))), ?_⟩
    refine ⟨_, rfl, l, xs, rfl, .inl (SqL.of hl), fun W hW => ?_⟩
    have sW := Same.new (o := .lst xs) hW
    have eW : (upd H W (.lst xs)) W = _ := upd_same
    have nWp := pot_ne hp hW
    generalize upd H W (.lst xs) = H1 at sW eW
    refine ⟨_, rfl, _, xs.length, rfl, .inl ⟨_, SqL.of (sW _ _ hl), rfl⟩, (xs.length : Int), rfl, by omega, by omega, fun D hD => ?_⟩
    have nDp := pot_ne (hp.same sW) hD
    have nDW := ne_of_none eW hD
    have nD0 : H D = none := by
      cases e : H D with
      | none => rfl
      | some o => rw [sW _ _ e] at hD; cases hD
    refine lc_range (lo := 0) (n := _) (fun m H' => Pot H' p ∧ But p H H' ∧ ∃ rs ys : List V, H' W = some (.lst rs) ∧ rs.length + m = xs.length ∧ H' D = some (.lst ys) ∧ ys.length = m ∧ (rs ++ ys).Perm xs)
      ⟨(hp.same sW).same (Same.new hD), But.of (sW.trans (Same.new hD)), xs, [], Same.new hD _ _ eW, rfl, upd_same, rfl, by rw [List.append_nil]⟩ (fun m H' hm ⟨pm, bm, rs, ys, e1, e2, e4, e5, e6⟩ => ?_) (fun H' ⟨pm, bm, rs, ys, e1, e2, e4, e5, e6⟩ => ?_)
    · refine ⟨rfl, ?_⟩
      dsimp only [tYes]
      rw [if_pos (show true = true from rfl)]
      refine ⟨_, rfl, .inl ⟨rfl, _, SqL.of e1⟩, _, rfl, _, rfl, _, rs.length, rfl, .inl ⟨_, SqL.of e1, rfl⟩, p, _, rfl, pm, by omega, by omega, fun r H2 r0 r1 p2 b2 => ?_⟩
      have e1' := b2 _ _ e1 nWp
      have e4' := b2 _ _ e4 nDp
      have hr : r.toNat < rs.length := by omega
      refine ⟨W, rs, r, r.toNat, rs[r.toNat], rfl, rfl, e1', by omega, by omega, seqIndex_of r0 r1, List.getElem?_eq_getElem hr, ys, ?_, by rw [e5]; show m < sizeLine; rw [sizeLine_eq]; omega, ?_⟩
      · rw [upd_ne nDW.symm]; exact e4'
      · refine ⟨?_, fun b o e hb => ?_, rs.eraseIdx r.toNat, ys ++ [rs[r.toNat]], ?_, ?_, upd_same, ?_, ?_⟩
        · obtain ⟨a, b', c, hp', r'⟩ := p2
          exact ⟨a, b', c, by rw [upd_ne nDp.symm, upd_ne nWp.symm]; exact hp', r'⟩
        · rw [upd_ne (fun z => by have := sW b o e; rw [z, hD] at this; cases this), upd_ne (ne_of_none e hW)]
          exact b2 b o (bm b o e hb) hb
        · rw [upd_ne nDW, upd_same]
        · rw [List.length_eraseIdx_of_lt hr]
          omega
        · rw [List.length_append, e5]
          rfl
        · refine List.Perm.trans ?_ e6
          rw [← List.append_assoc]
          refine List.Perm.trans (List.perm_append_comm) ?_
          show (rs[r.toNat] :: (rs.eraseIdx r.toNat ++ ys)).Perm _
          exact (perm_at rs r.toNat hr).append_right ys
    · have r0 : rs = [] := List.length_eq_zero_iff.mp (by omega)
      rw [r0] at e6
      exact k D ys H' e6 e4 nDp nD0 pm bm
end
end V0

namespace V0
open PySem PySem.Spec PyProof.Rows L2
/-- more built-in names -/
structure Bm (mg : Str → Option Value) : Prop where
  b_sorted : mg "sorted" = none
  b_set : mg "set" = none
  b_enumerate : mg "enumerate" = none
  b_zip : mg "zip" = none
  b_iter : mg "iter" = none
/-- the words that name things -/
def wordsL : List Str := ["a", "b", "c", "d", "e", "f", "g", "h", "ab", "zz", "hue", "thing", "zzzzzzzz"]
/-- names of things: texts of one to eight small letters, all different, in their order -/
structure Ws (zs : List Str) : Prop where
  sub : ∀ z ∈ zs, z ∈ wordsL
  nodup : zs.Nodup
  ord : sortedS zs = true
def spWords : Sp := fun vs H Q _ => ∃ (p : Addr) (n : Nat), vs = [.ref p, .int n] ∧ Pot H p ∧ 1 ≤ n ∧ n ≤ 8 ∧
  ∀ (q : Addr) (zs : List Str) (H' : Hp), Ws zs → zs.length = n → H' q = some (.tup (zs.map .str)) → H q = none → Pot H' p → But p H H' → Q (.ref q) H'
theorem none_up {H H' : Hp} {b : Addr} (s : Same H H') (h : H' b = none) : H b = none := by
  cases e : H b with
  | none => rfl
  | some o => rw [s b o e] at h; cases h
theorem map_perm {ys : List V} {zs : List Str} (h : ys.Perm (zs.map .str)) : ∃ us : List Str, ys = us.map .str ∧ us.Perm zs := by
  have all : ∀ y ∈ ys, ∃ z : Str, y = .str z := fun y hy => by
    obtain ⟨z, _, e⟩ := List.mem_map.mp (h.subset hy)
    exact ⟨z, e.symm⟩
  have un : ∀ (l : List V), (∀ y ∈ l, ∃ z : Str, y = .str z) → ∃ us : List Str, l = us.map .str := fun l => by
    induction l with
    | nil => intro _; exact ⟨[], rfl⟩
    | cons x l ih =>
      intro hl
      obtain ⟨z, rfl⟩ := hl x (by simp)
      obtain ⟨us, rfl⟩ := ih fun y hy => hl y (by simp [hy])
      exact ⟨z :: us, rfl⟩
  obtain ⟨us, rfl⟩ := un ys all
  refine ⟨us, rfl, ?_⟩
  let g : V → Str := fun v => match v with | .str z => z | _ => ⟨#[]⟩
  have e : ∀ l : List Str, (l.map V.str).map g = l := fun l => by
    rw [List.map_map]
    show l.map (fun z => z) = l
    rw [List.map_id']
  have := h.map g
  rw [e, e] at this
  exact this
section
variable {P : Program} {w : World} {K : PySem.W.Frag} {mg : Str → Option Value} {base : Heap}
abbrev s_words : Stmt := top 63
abbrev N_words : List Str := ["_law_pot_here", "_law_size", "_law_some"]
abbrev P_words : List Str := ["_law_pot_here", "_law_size"]
theorem sc_words : FnScope N_words P_words (defScope s_words) := ⟨rfl, rfl, rfl, by decide +kernel, rfl, by decide +kernel, by decide +kernel⟩
theorem ok_words {f f1 f2 : Addr} {fd fd1 fd2 : FuncData} (B : Bl mg) (M : Bm mg) (D_stir : Df K mg "_law_stir" s_stir P_stir f1 fd1) (D_shuffled : Df K mg "_law_shuffled" s_shuffled P_shuffled f2 fd2)
    (D : Df K mg "_law_words" s_words P_words f fd) : FnOk P w K mg base CX0 3 f fd P_words spWords := by
  have G_shuffled : FnOk P w K mg base CX0 2 f2 fd2 P_shuffled spShuffle := ok_shuffle B D_stir D_shuffled
  refine D.F.ok sc_words (fun vs H Q E h => ?_) (fun cdv A outer s H vs Q E hr h => ?_)
  · obtain ⟨p, n, rfl, _⟩ := h
    rfl
  · obtain ⟨p, n, rfl, hp, h1, h8, k⟩ := h
    refine ⟨_, (pss_cons (ps_set (i := 2) sc_words.nd rfl (Or.inl rfl) (pe_lst (pa_cons pe_str (pa_cons pe_str (pa_cons pe_str (pa_cons pe_str (pa_cons pe_str (pa_cons pe_str (pa_cons pe_str (pa_cons pe_str (pa_cons pe_str (pa_cons pe_str (pa_cons pe_str (pa_cons pe_str (pa_cons pe_str pa_nil)))))))))))))))
      (pss_one (ps_ret (pe_callTy call_tuple_of (by rfl) B.b_tuple (by decide +kernel) (pa_cons (pe_callB cr_sortedS (by rfl) M.b_sorted (by decide +kernel) (pa_cons (pe_slice sl_list (pe_call G_shuffled (hr.mono (by decide)) (by rfl) D_shuffled.g D_shuffled.F.kp D_shuffled.b .nil pass0 (pa_cons (pv 0) (pa_cons (pv 2) pa_nil))) po_none (po_some (pv 1))) pa_nil)) pa_nil))))), ?_⟩
    refine ⟨by show 13 ≤ sizeLine; decide, fun l hl => ?_⟩
    have nl := pot_ne hp hl
    have s1 := Same.new (o := .lst (wordsL.map V.str)) hl
    have e1 : (upd H l (.lst (wordsL.map V.str))) l = _ := upd_same
    refine ⟨_, rfl, _, rfl, p, l, _, rfl, hp.same s1, nl, e1, by rw [List.length_map]; decide, fun q ys H2 hperm hq nqp nq p2 b2 => ?_⟩
    obtain ⟨us, rfl, hus⟩ := map_perm hperm
    have ul : us.length = 13 := hus.length_eq
    refine ⟨_, rfl, _, rfl, q, _, rfl, SqL.of hq, fun c hc => ?_⟩
    have s3 := Same.new (o := .lst (cutV (us.map V.str) none (some (n : Int)))) hc
    have e3 : (upd H2 c (.lst (cutV (us.map V.str) none (some (n : Int))))) c = _ := upd_same
    have ec : cutV (us.map V.str) none (some (n : Int)) = (us.take n).map V.str := by
      unfold cutV
      rw [HT.sIx_nat, HT.sIx_none, List.length_map, List.drop_zero, Nat.sub_zero, Nat.min_eq_left (by omega), List.map_take]
    rw [ec] at e3 s3
    rw [ec]
    refine ⟨c, us.take n, rfl, SqL.of e3, by rw [List.length_take]; omega, fun zs d hz hord hd => ?_⟩
    refine ⟨d, _, rfl, .inl ⟨SqL.of upd_same, fun u hu => ?_⟩⟩
    have s4 := Same.new (o := .lst (zs.map V.str)) hd
    have s5 := Same.new (o := .tup (zs.map V.str)) hu
    have p5 := ((p2.same s3).same s4).same s5
    have h2u : H2 u = none := none_up s3 (none_up s4 hu)
    have nup := pot_ne p2 h2u
    have hu0 : H u = none := none_up s1 (by
      cases e : (upd H l (.lst (wordsL.map V.str))) u with
      | none => rfl
      | some o => rw [b2 _ _ e nup] at h2u; cases h2u)
    have mem : ∀ z ∈ zs, z ∈ us := fun z h => List.mem_of_mem_take (hz.subset h)
    refine k u zs _ ⟨fun z h => hus.subset (mem z h), ?_, hord⟩ (by rw [hz.length_eq, List.length_take]; omega) upd_same hu0 p5 ((((But.of s1).trans b2).trans (But.of (s3.trans s4))).trans (But.of s5))
    exact hz.nodup_iff.mpr ((hus.nodup_iff.mpr (by decide +kernel)).sublist (List.take_sublist _ _))
end
end V0

namespace V0
open PySem PySem.Spec PyProof.Rows L2
abbrev tupS (zs : List Str) : HO := .tup (zs.map V.str)
/-- names of things in any order -/
structure Nz (zs : List Str) : Prop where
  nd : zs.Nodup
  nm : ∀ z ∈ zs, nameB (.str z) = true ∧ z.length ≤ 8
  l1 : 1 ≤ zs.length
  l8 : zs.length ≤ 8
theorem str_at {zs : List Str} {i : Nat} {x : V} (h : (zs.map V.str)[i]? = some x) : ∃ z, zs[i]? = some z ∧ x = .str z := by
  rw [List.getElem?_map] at h
  cases e : zs[i]? with
  | none => rw [e] at h; cases h
  | some z => rw [e] at h; injection h with h; exact ⟨z, rfl, h.symm⟩
def spCheckNames : Sp := fun vs H Q _ => ∃ (a : Addr) (zs : List Str), vs = [.ref a] ∧ H a = some (tupS zs) ∧ Nz zs ∧ ∀ H', Same H H' → Q .non H'
section
variable {P : Program} {w : World} {K : PySem.W.Frag} {mg : Str → Option Value} {base : Heap}
abbrev s_check_names : Stmt := top 24
abbrev N_check_names : List Str := ["names", "name"]
abbrev P_check_names : List Str := ["names"]
theorem sc_check_names : FnScope N_check_names P_check_names (defScope s_check_names) := ⟨rfl, rfl, rfl, by decide +kernel, rfl, by decide +kernel, by decide +kernel⟩
theorem ok_check_names {f f1 : Addr} {fd fd1 : FuncData} (B : Bl mg) (M : Bm mg) (CN : Nm mg) (D_is_name : Df K mg "is_name" s_is_name P_is_name f1 fd1) (D : Df K mg "check_names" s_check_names P_check_names f fd) : FnOk P w K mg base CX0 3 f fd P_check_names spCheckNames := by
  have G_is_name : FnOk P w K mg base CX0 1 f1 fd1 P_is_name spIsName := ok_is_name B CN D_is_name
  have C := CN
  refine D.F.ok sc_check_names (fun vs H Q E h => ?_) (fun cdv A outer s H vs Q E hr h => ?_)
  · obtain ⟨a, zs, rfl, _⟩ := h
    rfl
  · obtain ⟨a, zs, rfl, ha, hz, k⟩ := h
    refine ⟨_, (pss_cons (ps_if (PW.pt (pw_or (pt_not (pt_val (pe_callB call_is (by rfl) B.b_isinstance (by decide +kernel) (pa_cons (pv 0) (pa_cons (pe_ty (n := "tuple") (by rfl) B.b_tuple (by decide +kernel)) pa_nil))))) (pw_or1 (pt_not (pt_chain op_le op_le pe_int (pe_callB call_len (by rfl) B.b_len (by decide +kernel) (pa_cons (pv 0) pa_nil)) (pe_gv rfl C.g_MAX_THINGS)))))) (pss_one ps_never) pss_nil)
      (pss_cons (ps_if (pt_not (pt_val (pe_callB (cr_all rfl) (by rfl) B.b_all (by decide +kernel) (pa_cons (pe_lc (own := [("name", 1)]) (g := gName 1) (tt := tYes) rfl sc_check_names.nd (pi_tup (pv 0)) (blkOk_by (own := [("name", 1)]) (N := N_check_names) (sc := defScope s_check_names) (by decide +kernel)) (fun _ _ _ _ _ => (pg_name (i := 1) sc_check_names.nd rfl (Or.inl rfl))) (fun _ _ _ _ _ => pts_nil) (fun _ _ _ _ _ => (pe_call G_is_name (hr.mono (by decide)) (by rfl) D_is_name.g D_is_name.F.kp D_is_name.b .nil pass0 (pa_cons (pv 1) pa_nil)))) pa_nil)))) (pss_one ps_never) pss_nil)
      (pss_one (ps_if (pt_cmpR op_lt (pe_lenSetS rfl (by rfl) B.b_len (by rfl) M.b_set (pv 0)) (pe_callB call_len (by rfl) B.b_len (by decide +kernel) (pa_cons (pv 0) pa_nil)) (nomark _)) (pss_one ps_never) pss_nil)))), ?_⟩
    refine ⟨_, rfl, _, .tup, .tup, rfl, .tup ha, by decide, _, rfl, ite2 (fun z => by cases z) (fun _ => ?_)⟩
    have z1 := hz.l1
    have z8 := hz.l8
    have lm : (zs.map V.str).length = zs.length := List.length_map _
    refine ⟨_, rfl, _, (zs.map V.str).length, rfl, .inr ⟨_, SqT.of ha, rfl⟩, _, _, rfl, rfl, _, rfl, ite2 (fun _ => ?_) (fun z => absurd (decide_eq_true (by rw [lm]; omega)) z)⟩
    refine ⟨_, _, rfl, rfl, _, rfl, ite2 (fun z => ?_) (fun _ => ?_)⟩
    · rw [lm, decide_eq_true (show ((zs.length : Nat) : Int) ≤ 8 by omega)] at z
      cases z
    -- all names
    refine ⟨_, rfl, a, rfl, ⟨_, SqT.of ha⟩, fun L hL => ?_⟩
    refine lc_it (walk_tup (xs := zs.map V.str)) (fun i H' => Same H H' ∧ H' L = some (.lst ((List.replicate i true).map V.bl))) ⟨Same.new hL, upd_same⟩ (fun i H' _ ⟨s1, _⟩ => SqT.of (s1 _ _ ha)) ?_ ?_
    · rintro i x H1 H2 hi ⟨s1, h1⟩ ⟨rfl, hx⟩
      obtain ⟨z, hzi, rfl⟩ := str_at hx
      have nz := hz.nm z (List.mem_of_getElem? hzi)
      refine ⟨rfl, _, rfl, .str z, .str, rfl, .str _, fun z' e => by injection e with e; rw [← e]; omega, fun H2 s2 => ⟨_, s2 _ _ h1, ?_, ?_, ?_⟩⟩
      · rw [List.length_map, List.length_replicate, sizeLine_eq]
        rw [List.length_map] at hi
        omega
      · exact fun b o e => by rw [upd_ne (ne_of_none e hL)]; exact s2 b o (s1 b o e)
      · rw [upd_same, List.replicate_succ', List.map_append, nz.1]
        rfl
    rintro H1 ⟨s1, h1⟩
    have ha1 := s1 _ _ ha
    refine ⟨L, _, rfl, SqL.of h1, ?_⟩
    rw [lm, show (List.replicate zs.length true).all id = true by simp]
    refine ⟨true, rfl, iteF ?_⟩
    -- no two alike
    refine ⟨_, rfl, a, zs, rfl, .inr (SqT.of ha1), by omega, fun n n1 n2 => ?_⟩
    have en : n = zs.length := n2.mpr hz.nd
    refine ⟨_, rfl, _, (zs.map V.str).length, rfl, .inr ⟨_, SqT.of ha1, rfl⟩, _, _, rfl, rfl, _, rfl, ite2 (fun z => ?_) (fun _ => k _ s1)⟩
    rw [lm, en] at z
    exact absurd (of_decide_eq_true z) (Int.lt_irrefl _)
end
end V0

namespace V0
open PySem PySem.Spec PyProof.Rows L2
theorem paired_mono {α β : Type} {R S : α → β → Prop} : ∀ {xs : List α} {ys : List β}, (∀ a b, R a b → S a b) → Paired R xs ys → Paired S xs ys
  | _, _, _, .nil => .nil
  | _, _, h, .cons a b => .cons (h _ _ a) (paired_mono h b)
theorem paired_get {α β : Type} {R : α → β → Prop} : ∀ {xs : List α} {ys : List β} {i : Nat} {b : β}, Paired R xs ys → ys[i]? = some b → ∃ a, xs[i]? = some a ∧ R a b
  | _, _, i, b, .nil, h => by simp at h
  | _, _, 0, b, .cons r _, h => by
    rw [List.getElem?_cons_zero] at h
    cases h
    exact ⟨_, rfl, r⟩
  | _, _, i + 1, b, .cons _ q, h => by
    rw [List.getElem?_cons_succ] at h ⊢
    exact paired_get q h
theorem inV_str (y : Str) : ∀ zs : List Str, inV (.str y) (zs.map .str) = decide (y ∈ zs)
  | [] => rfl
  | z :: zs => by
    have ih := inV_str y zs
    unfold inV at ih ⊢
    rw [List.map_cons, List.any_cons, ih]
    have e : eqV (.str z) (.str y) = decide (z = y) := by
      first | rfl | (unfold eqV; rfl) | (show decide (V.str z = V.str y) = _; exact decide_eq_decide.mpr ⟨fun q => by injection q, fun q => by rw [q]⟩)
    rw [e]
    by_cases h : z = y
    · subst h; simp
    · simp [h, Ne.symm h]
theorem flat_map (zs : List Str) : (zs.map V.str).all flatV = true := by
  rw [List.all_map, List.all_eq_true]
  intro z _
  rfl
/-- a pair of two texts -/
abbrev Pai := Str × Str
def PrAt (H : Hp) (p : Pai) (a : Addr) : Prop := H a = some (tupS [p.1, p.2])
/-- a pair that may be in conflict, of the things zs -/
def PrOk (zs : List Str) (p : Pai) : Prop := p.1 ∈ zs ∧ p.2 ∈ zs ∧ p.1 ≠ p.2
theorem PrAt.same {H H' : Hp} {p : Pai} {a : Addr} (h : PrAt H p a) (s : Same H H') : PrAt H' p a := s _ _ h
def spIsConflict : Sp := fun vs H Q _ => ∃ (t a : Addr) (zs : List Str) (p : Pai), vs = [.ref t, .ref a] ∧ H t = some (tupS zs) ∧ PrAt H p a ∧ PrOk zs p ∧ ∀ H', Same H H' → Q (.bl true) H'
def spAreConflicts : Sp := fun vs H Q _ => ∃ (t c : Addr) (zs : List Str) (ps : List Pai) (as : List Addr), vs = [.ref t, .ref c] ∧ H t = some (tupS zs) ∧ H c = some (.tup (as.map V.ref)) ∧ Paired (PrAt H) ps as ∧ (∀ p ∈ ps, PrOk zs p) ∧ ps.length ≤ 1000 ∧ ∀ H', Same H H' → Q (.bl true) H'
section
variable {P : Program} {w : World} {K : PySem.W.Frag} {mg : Str → Option Value} {base : Heap}
abbrev s__is_conflict : Stmt := top 26
abbrev N__is_conflict : List Str := ["things", "value", "thing"]
abbrev P__is_conflict : List Str := ["things", "value"]
theorem sc__is_conflict : FnScope N__is_conflict P__is_conflict (defScope s__is_conflict) := ⟨rfl, rfl, rfl, by decide +kernel, rfl, by decide +kernel, by decide +kernel⟩
theorem ok_is_conflict {f : Addr} {fd : FuncData} (B : Bl mg) (D : Df K mg "_is_conflict" s__is_conflict P__is_conflict f fd) : FnOk P w K mg base CX0 1 f fd P__is_conflict spIsConflict := by
  refine D.F.ok sc__is_conflict (fun vs H Q E h => ?_) (fun cdv A outer s H vs Q E hr h => ?_)
  · obtain ⟨t, a, zs, p, rfl, _⟩ := h
    rfl
  · obtain ⟨t, a, zs, p, rfl, ht, ha, ⟨m1, m2, ne⟩, k⟩ := h
    refine ⟨_, (pss_cons (ps_if (PW.pt (pw_or (pt_not (pt_val (pe_callB call_is (by rfl) B.b_isinstance (by decide +kernel) (pa_cons (pv 1) (pa_cons (pe_ty (n := "tuple") (by rfl) B.b_tuple (by decide +kernel)) pa_nil))))) (pw_or1 (pt_cmpR op_ne (pe_callB call_len (by rfl) B.b_len (by decide +kernel) (pa_cons (pv 1) pa_nil)) pe_int (nomark _))))) (pss_one (ps_ret pe_bl)) pss_nil)
      (pss_one (ps_ret (pe_and (pe_callB (cr_all rfl) (by rfl) B.b_all (by decide +kernel) (pa_cons (pe_lc (own := [("thing", 2)]) (g := gName 2) (tt := tYes) rfl sc__is_conflict.nd (pi_tup (pv 1)) (blkOk_by (own := [("thing", 2)]) (N := N__is_conflict) (sc := defScope s__is_conflict) (by decide +kernel)) (fun _ _ _ _ _ => (pg_name (i := 2) sc__is_conflict.nd rfl (Or.inl rfl))) (fun _ _ _ _ _ => pts_nil) (fun _ _ _ _ _ => (pe_and (pe_callB call_is (by rfl) B.b_isinstance (by decide +kernel) (pa_cons (pv 2) (pa_cons (pe_ty (n := "str") (by rfl) B.b_str (by decide +kernel)) pa_nil))) (pe_one (show PE _ _ (tOp (rIn K false) (tVar 2) (tVar 0)) from by exact (pe_cmpR op_in_seq (pv 2) (pv 0) (by rfl))))))) pa_nil)) (pe_one (pe_cmpR op_ne (pe_ix ix_tup (pv 1) pe_int (fun _ _ => rfl)) (pe_ix ix_tup (pv 1) pe_int (fun _ _ => rfl)) (nomark _))))))), ?_⟩
    refine ⟨_, rfl, _, .tup, .tup, rfl, .tup ha, by decide, _, rfl, ite2 (fun z => by cases z) (fun _ => ?_)⟩
    refine ⟨_, rfl, _, 2, rfl, .inr ⟨_, SqT.of ha, rfl⟩, rfl, _, rfl, ite2 (fun z => absurd z (by decide)) (fun _ => ?_)⟩
    refine ⟨_, rfl, a, rfl, ⟨_, SqT.of ha⟩, fun L hL => ?_⟩
    refine lc_it (walk_tup (xs := [p.1, p.2].map V.str)) (fun i H' => Same H H' ∧ H' L = some (.lst ((List.replicate i true).map V.bl))) ⟨Same.new hL, upd_same⟩ (fun i H' _ ⟨s1, _⟩ => SqT.of (s1 _ _ ha)) ?_ ?_
    · rintro i x H1 H2 hi ⟨s1, h1⟩ ⟨rfl, hx⟩
      obtain ⟨z, hzi, rfl⟩ := str_at hx
      have hm : z ∈ zs := by
        rcases List.mem_cons.mp (List.mem_of_getElem? hzi) with e | e
        · rw [e]; exact m1
        · rw [List.mem_singleton.mp e]; exact m2
      refine ⟨rfl, _, rfl, _, .str, .str, rfl, .str _, by decide, _, rfl, ite2 (fun _ => ?_) (fun z => absurd rfl z)⟩
      refine ⟨_, rfl, _, rfl, t, _, rfl, .inr (SqT.of (s1 _ _ ht)), rfl, flat_map zs, _, h1, ?_, ?_, ?_⟩
      · rw [List.length_map, List.length_replicate, sizeLine_eq]
        have : i < 2 := hi
        omega
      · exact fun b o e => by rw [upd_ne (ne_of_none e hL)]; exact s1 b o e
      · rw [upd_same, List.replicate_succ', List.map_append, inV_str, decide_eq_true hm]
        rfl
    rintro H1 ⟨s1, h1⟩
    refine ⟨L, _, rfl, SqL.of h1, ?_⟩
    refine ⟨_, rfl, ite2 (fun _ => ?_) (fun z => absurd rfl z)⟩
    have ha1 := PrAt.same ha s1
    refine ⟨_, rfl, a, _, 0, .str p.1, rfl, rfl, SqT.of ha1, rfl, _, rfl, a, _, 1, .str p.2, rfl, rfl, SqT.of ha1, rfl, rfl, ?_⟩
    rw [decide_eq_false (show ¬ (V.str p.1 = V.str p.2) from fun e => by injection e with e; exact ne e)]
    exact k _ s1
abbrev s__are_conflicts : Stmt := top 25
abbrev N__are_conflicts : List Str := ["things", "value", "pair"]
abbrev P__are_conflicts : List Str := ["things", "value"]
theorem sc__are_conflicts : FnScope N__are_conflicts P__are_conflicts (defScope s__are_conflicts) := ⟨rfl, rfl, rfl, by decide +kernel, rfl, by decide +kernel, by decide +kernel⟩
theorem ok_are_conflicts {f f1 : Addr} {fd fd1 : FuncData} (B : Bl mg) (D_is_conflict : Df K mg "_is_conflict" s__is_conflict P__is_conflict f1 fd1) (D : Df K mg "_are_conflicts" s__are_conflicts P__are_conflicts f fd) : FnOk P w K mg base CX0 2 f fd P__are_conflicts spAreConflicts := by
  have G__is_conflict : FnOk P w K mg base CX0 1 f1 fd1 P__is_conflict spIsConflict := ok_is_conflict B D_is_conflict
  have D__is_conflict := D_is_conflict
  refine D.F.ok sc__are_conflicts (fun vs H Q E h => ?_) (fun cdv A outer s H vs Q E hr h => ?_)
  · obtain ⟨t, c, zs, ps, as, rfl, _⟩ := h
    rfl
  · obtain ⟨t, c, zs, ps, as, rfl, ht, hc, pa, good, len, k⟩ := h
    refine ⟨_, (pss_one (ps_ret (pe_and (pe_callB call_is (by rfl) B.b_isinstance (by decide +kernel) (pa_cons (pv 1) (pa_cons (pe_ty (n := "tuple") (by rfl) B.b_tuple (by decide +kernel)) pa_nil))) (pe_one (pe_callB (cr_all rfl) (by rfl) B.b_all (by decide +kernel) (pa_cons (pe_lc (own := [("pair", 2)]) (g := gName 2) (tt := tYes) rfl sc__are_conflicts.nd (pi_tup (pv 1)) (blkOk_by (own := [("pair", 2)]) (N := N__are_conflicts) (sc := defScope s__are_conflicts) (by decide +kernel)) (fun _ _ _ _ _ => (pg_name (i := 2) sc__are_conflicts.nd rfl (Or.inl rfl))) (fun _ _ _ _ _ => pts_nil) (fun _ _ _ _ _ => (pe_call G__is_conflict (hr.mono (by decide)) (by rfl) D__is_conflict.g D__is_conflict.F.kp D__is_conflict.b .nil pass0 (pa_cons (pv 0) (pa_cons (pv 2) pa_nil))))) pa_nil)))))), ?_⟩
    have al : as.length = ps.length := pa.length.symm
    refine ⟨_, rfl, _, .tup, .tup, rfl, .tup hc, by decide, _, rfl, ite2 (fun _ => ?_) (fun z => absurd rfl z)⟩
    refine ⟨_, rfl, c, rfl, ⟨_, SqT.of hc⟩, fun L hL => ?_⟩
    refine lc_it (walk_tup (xs := as.map V.ref)) (fun i H' => Same H H' ∧ H' L = some (.lst ((List.replicate i true).map V.bl))) ⟨Same.new hL, upd_same⟩ (fun i H' _ ⟨s1, _⟩ => SqT.of (s1 _ _ hc)) ?_ ?_
    · rintro i x H1 H2 hi ⟨s1, h1⟩ ⟨rfl, hx⟩
      rw [List.length_map] at hi
      obtain ⟨a, ha, rfl⟩ : ∃ a, as[i]? = some a ∧ x = .ref a := by
        rw [List.getElem?_map] at hx
        cases e : as[i]? with
        | none => rw [e] at hx; cases hx
        | some a => rw [e] at hx; injection hx with hx; exact ⟨a, rfl, hx.symm⟩
      obtain ⟨p, hp, pat⟩ := paired_get pa ha
      refine ⟨rfl, _, rfl, _, rfl, t, a, zs, p, rfl, s1 _ _ ht, PrAt.same pat s1, good p (List.mem_of_getElem? hp), fun H2 s2 => ⟨_, s2 _ _ h1, ?_, ?_, ?_⟩⟩
      · rw [List.length_map, List.length_replicate, sizeLine_eq]
        omega
      · exact fun b o e => by rw [upd_ne (ne_of_none e hL)]; exact s2 b o (s1 b o e)
      · rw [upd_same, List.replicate_succ', List.map_append]
        rfl
    rintro H1 ⟨s1, h1⟩
    refine ⟨L, _, rfl, SqL.of h1, ?_⟩
    rw [show (List.replicate (List.map V.ref as).length true).all id = true by simp]
    exact k _ s1
end
end V0

namespace V0
open PySem PySem.Spec PyProof.Rows L2
/-- what stands beside z in these pairs -/
def partner (z : Str) (p : Pai) : Option Str := if z = p.1 ∨ z = p.2 then some (if p.1 = z then p.2 else p.1) else none
def partners (z : Str) (ps : List Pai) : List Str := ps.filterMap (partner z)
def spPartners : Sp := fun vs H Q _ => ∃ (z : Str) (c : Addr) (ps : List Pai) (as : List Addr), vs = [.str z, .ref c] ∧ H c = some (.tup (as.map V.ref)) ∧ Paired (PrAt H) ps as ∧ ps.length < 64 ∧
  ∀ (q : Addr) (ys : List Str) (H' : Hp), Same H H' → ys.Perm (partners z ps) → sortedS ys = true → H' q = some (tupS ys) → H q = none → Q (.ref q) H'
section
variable {P : Program} {w : World} {K : PySem.W.Frag} {mg : Str → Option Value} {base : Heap}
abbrev s__partners : Stmt := top 27
abbrev N__partners : List Str := ["thing", "conflicts", "one", "other"]
abbrev P__partners : List Str := ["thing", "conflicts"]
theorem sc__partners : FnScope N__partners P__partners (defScope s__partners) := ⟨rfl, rfl, rfl, by decide +kernel, rfl, by decide +kernel, by decide +kernel⟩
theorem ok_partners {f : Addr} {fd : FuncData} (B : Bl mg) (M : Bm mg) (D : Df K mg "_partners" s__partners P__partners f fd) : FnOk P w K mg base CX0 1 f fd P__partners spPartners := by
  refine D.F.ok sc__partners (fun vs H Q E h => ?_) (fun cdv A outer s H vs Q E hr h => ?_)
  · obtain ⟨z, c, ps, as, rfl, _⟩ := h
    rfl
  · obtain ⟨z, c, ps, as, rfl, hc, pa, len, k⟩ := h
    refine ⟨_, (pss_one (ps_ret (pe_callTy call_tuple_of (by rfl) B.b_tuple (by decide +kernel) (pa_cons (pe_callB cr_sortedS (by rfl) M.b_sorted (by decide +kernel) (pa_cons (pe_lc (own := [("one", 2), ("other", 3)]) (g := gTup K 2 (gCons (gName 2) (gCons (gName 3) (gNil)))) rfl sc__partners.nd (pi_tup (pv 1)) (blkOk_by (own := [("one", 2), ("other", 3)]) (N := N__partners) (sc := defScope s__partners) (by decide +kernel)) (fun _ _ _ _ _ => (pg_tup rfl (pgs_cons (pg_name (i := 2) sc__partners.nd rfl (Or.inl rfl)) (pgs_cons (pg_name (i := 3) sc__partners.nd rfl (Or.inl rfl)) pgs_nil)))) (fun _ _ _ _ _ => pts_one (show PT _ _ (tTest (tOp (rIn K false) (tVar 0) (tTup (tCons (tVar 2) (tCons (tVar 3) tNil))))) from by exact (pt_cmpR op_in_seq (pv 0) (pe_tup (pa_cons (pv 2) (pa_cons (pv 3) pa_nil))) (by rfl)))) (fun _ _ _ _ _ => (pe_ifExp (pt_cmpR op_eq (pv 2) (pv 0) (nomark _)) (pv 3) (pv 2)))) pa_nil)) pa_nil)))), ?_⟩
    have al : as.length = ps.length := pa.length.symm
    refine ⟨_, rfl, c, rfl, ⟨_, SqT.of hc⟩, fun L hL => ?_⟩
    refine lc_it (walk_tup (xs := as.map V.ref)) (fun i H' => Same H H' ∧ H' L = some (.lst ((partners z (ps.take i)).map V.str))) ⟨Same.new hL, upd_same⟩ (fun i H' _ ⟨s1, _⟩ => SqT.of (s1 _ _ hc)) ?_ ?_
    · rintro i x H1 H2 hi ⟨s1, h1⟩ ⟨rfl, hx⟩
      rw [List.length_map] at hi
      obtain ⟨a, ha, rfl⟩ : ∃ a, as[i]? = some a ∧ x = .ref a := by
        rw [List.getElem?_map] at hx
        cases e : as[i]? with
        | none => rw [e] at hx; cases hx
        | some a => rw [e] at hx; injection hx with hx; exact ⟨a, rfl, hx.symm⟩
      obtain ⟨p, hp, pat⟩ := paired_get pa ha
      have pat := PrAt.same pat s1
      refine ⟨a, [.str p.1, .str p.2], rfl, SqT.of pat, rfl, _, _, rfl, _, _, rfl, rfl, rfl, _, rfl, _, rfl, _, rfl, by show 2 ≤ sizeLine; decide, fun e he => ?_⟩
      have s3 := Same.new (o := .tup [.str p.1, .str p.2]) he
      refine ⟨e, _, rfl, .inr (SqT.of upd_same), rfl, flat_map [p.1, p.2], _, rfl, ?_⟩
      rw [show inV (.str z) [.str p.1, .str p.2] = decide (z = p.1 ∨ z = p.2) from by rw [show [V.str p.1, V.str p.2] = [p.1, p.2].map V.str from rfl, inV_str]; simp]
      have hL3 := s3 _ _ h1
      have s13 := Same.trans s1 s3
      generalize upd H2 e (.tup [.str p.1, .str p.2]) = H3 at s3 hL3 s13
      have step : partners z (ps.take (i + 1)) = partners z (ps.take i) ++ (partner z p).toList := by
        unfold partners
        rw [take_one hp, List.filterMap_append]
        cases hq : partner z p with
        | none => rw [List.filterMap_cons_none hq]; rfl
        | some y => rw [List.filterMap_cons_some hq]; rfl
      by_cases hm : z = p.1 ∨ z = p.2
      · have hq : partner z p = some (if p.1 = z then p.2 else p.1) := if_pos hm
        rw [decide_eq_true hm]
        refine ite2 (fun _ => ?_) (fun z => absurd rfl z)
        refine ⟨_, rfl, _, rfl, rfl, _, rfl, ?_⟩
        have fin : ∀ y : Str, y = (if p.1 = z then p.2 else p.1) → ∃ acc, H3 L = some (HO.lst acc) ∧ acc.length < sizeLine ∧ Same H (upd H3 L (HO.lst (acc ++ [V.str y]))) ∧ upd H3 L (HO.lst (acc ++ [V.str y])) L = some (HO.lst (List.map V.str (partners z (List.take (i + 1) ps)))) := fun y ey => by
          refine ⟨_, hL3, ?_, fun b o e => by rw [upd_ne (ne_of_none e hL)]; exact s13 b o e, ?_⟩
          · have : (partners z (ps.take i)).length ≤ (ps.take i).length := List.length_filterMap_le _ _
            rw [List.length_take] at this
            rw [List.length_map, sizeLine_eq]
            omega
          · rw [upd_same, step, hq, List.map_append, ey]
            rfl
        by_cases e : p.1 = z
        · rw [decide_eq_true (show V.str p.1 = V.str z by rw [e])]
          exact ⟨_, rfl, fin _ (if_pos e).symm⟩
        · rw [decide_eq_false (show ¬ V.str p.1 = V.str z from fun q => by injection q with q; exact e q)]
          exact ⟨_, rfl, fin _ (if_neg e).symm⟩
      · have hq : partner z p = none := if_neg hm
        rw [decide_eq_false hm]
        refine ⟨s13, ?_⟩
        rw [step, hq]
        simpa using hL3
    rintro H1 ⟨s1, h1⟩
    rw [List.length_map, List.take_of_length_le (by omega)] at h1
    have pl : (partners z ps).length < 64 := Nat.lt_of_le_of_lt (List.length_filterMap_le _ _) len
    refine ⟨L, _, rfl, SqL.of h1, pl, fun ys q pm ord hq => ?_⟩
    have s2 := Same.new (o := .lst (ys.map V.str)) hq
    refine ⟨q, _, rfl, .inl ⟨SqL.of upd_same, fun r hr => ?_⟩⟩
    have s3 := Same.new (o := .tup (ys.map V.str)) hr
    have sE := Same.trans s1 (Same.trans s2 s3)
    refine k r ys _ sE pm ord upd_same ?_
    cases e : H r with
    | none => rfl
    | some o => exact absurd (s2 _ _ (s1 _ _ e)) (by rw [hr]; simp)
end
end V0
namespace V0
open PySem PySem.Spec PyProof.Rows L2
/-! ### texts in their order -/
def leS (a b : Str) : Prop := ltCps b.cps.toList a.cps.toList = false
theorem leS_iff {a b : Str} : leS a b ↔ a.cps.toList ≤ b.cps.toList := by
  unfold leS
  rw [ltCps_eq, decide_eq_false_iff_not]
  exact List.not_lt
theorem leS_trans {a b c : Str} (h : leS a b) (k : leS b c) : leS a c := leS_iff.mpr (List.le_trans (leS_iff.mp h) (leS_iff.mp k))
theorem str_ext {a b : Str} (h : a.cps.toList = b.cps.toList) : a = b := by
  cases a; cases b
  simp at h
  rw [h]
theorem leS_antisymm {a b : Str} (h : leS a b) (k : leS b a) : a = b := str_ext (List.le_antisymm (leS_iff.mp h) (leS_iff.mp k))
theorem rising_pw : ∀ (p : Str) (l : List Str), risingS p l = true → (p :: l).Pairwise leS
  | p, [], _ => by simp
  | p, x :: l, h => by
    have h' : (!ltCps x.cps.toList p.cps.toList && risingS x l) = true := h
    obtain ⟨h1, h2⟩ := Bool.and_eq_true_iff.mp h'
    have ih := rising_pw x l h2
    have px : leS p x := by
      unfold leS
      simpa using h1
    refine List.pairwise_cons.mpr ⟨fun y hy => ?_, ih⟩
    rcases List.mem_cons.mp hy with rfl | hy
    · exact px
    · exact leS_trans px ((List.pairwise_cons.mp ih).1 y hy)
theorem sorted_pw : ∀ (l : List Str), sortedS l = true → l.Pairwise leS
  | [], _ => List.Pairwise.nil
  | x :: l, h => rising_pw x l h
theorem sorted_one {xs ys : List Str} (p : xs.Perm ys) (hx : sortedS xs = true) (hy : sortedS ys = true) : xs = ys :=
  List.Perm.eq_of_pairwise (le := leS) (fun a b _ _ h k => leS_antisymm h k) (sorted_pw _ hx) (sorted_pw _ hy) p
/-! ### what things pay, in whole numbers -/
abbrev Bag := List (Str × Int)
def kvs (ps : Bag) : List (Key × V) := ps.map fun p => (.inr p.1, .int p.2)
def nms (ps : Bag) : List Str := ps.map (·.1)
def look (ps : Bag) (z : Str) : Int := ((ps.find? fun p => decide (p.1 = z)).map (·.2)).getD 0
theorem kvs_keys (ps : Bag) : (kvs ps).map (·.1) = (nms ps).map Sum.inr := by
  unfold kvs nms
  rw [List.map_map, List.map_map]
  rfl
theorem valV_kvs : ∀ (ps : Bag) (z : Str), valV (kvs ps) (.inr z) = (ps.find? fun p => decide (p.1 = z)).map fun p => V.int p.2
  | [], _ => rfl
  | p :: ps, z => by
    by_cases h : p.1 = z
    · rw [show kvs (p :: ps) = (.inr p.1, .int p.2) :: kvs ps from rfl, valV_pos (by rw [h]), List.find?_cons_of_pos (by simpa using h)]
      rfl
    · rw [show kvs (p :: ps) = (.inr p.1, .int p.2) :: kvs ps from rfl, valV_neg (by intro e; injection e with e; exact h e), List.find?_cons_of_neg (by simpa using h)]
      exact valV_kvs ps z
theorem find_some {ps : Bag} {z : Str} (h : z ∈ nms ps) : ∃ p, ps.find? (fun p => decide (p.1 = z)) = some p ∧ p ∈ ps ∧ p.1 = z := by
  obtain ⟨q, hq, e⟩ := List.mem_map.mp h
  cases f : ps.find? (fun p => decide (p.1 = z)) with
  | none =>
    have := List.find?_eq_none.mp f q hq
    simp [e] at this
  | some p => exact ⟨p, rfl, List.mem_of_find?_eq_some f, by simpa using List.find?_some f⟩
theorem valV_in {ps : Bag} {z : Str} (h : z ∈ nms ps) : valV (kvs ps) (.inr z) = some (.int (look ps z)) := by
  obtain ⟨p, f, _, _⟩ := find_some h
  rw [valV_kvs, look, f]
  rfl
theorem valV_out {ps : Bag} {z : Str} (h : z ∉ nms ps) : valV (kvs ps) (.inr z) = none := by
  rw [valV_kvs]
  cases f : ps.find? (fun p => decide (p.1 = z)) with
  | none => rfl
  | some p => exact absurd (List.mem_map.mpr ⟨p, List.mem_of_find?_eq_some f, by simpa using List.find?_some f⟩) h
theorem look_of {ps : Bag} {z : Str} {i : Int} (nd : (nms ps).Nodup) (h : (z, i) ∈ ps) : look ps z = i := by
  induction ps with
  | nil => cases h
  | cons p ps ih =>
    have nd' := List.nodup_cons.mp nd
    unfold look
    by_cases e : p.1 = z
    · rw [List.find?_cons_of_pos (by simpa using e)]
      rcases List.mem_cons.mp h with h | h
      · rw [← h]; rfl
      · exact absurd (List.mem_map.mpr ⟨_, h, e.symm⟩) nd'.1
    · rw [List.find?_cons_of_neg (by simpa using e)]
      rcases List.mem_cons.mp h with h | h
      · exact absurd (by rw [← h]) e
      · exact ih nd'.2 h
theorem look_mem {ps : Bag} {z : Str} (h : z ∈ nms ps) : (z, look ps z) ∈ ps := by
  obtain ⟨p, f, hp, e⟩ := find_some h
  have : look ps z = p.2 := by rw [look, f]; rfl
  rw [this, ← e]
  exact hp
theorem look_perm {ps qs : Bag} (nd : (nms ps).Nodup) (p : ps.Perm qs) (z : Str) : look ps z = look qs z := by
  have nd2 : (nms qs).Nodup := (p.map (fun q : Str × Int => q.1)).nodup_iff.mp nd
  by_cases h : z ∈ nms ps
  · exact (look_of nd2 (p.mem_iff.mp (look_mem h))).symm
  · have h2 : z ∉ nms qs := fun k => h ((p.map (fun q : Str × Int => q.1)).mem_iff.mpr k)
    have none_of : ∀ {rs : Bag}, z ∉ nms rs → look rs z = 0 := fun {rs} k => by
      unfold look
      cases f : rs.find? (fun p => decide (p.1 = z)) with
      | none => rfl
      | some p => exact absurd (List.mem_map.mpr ⟨p, List.mem_of_find?_eq_some f, by simpa using List.find?_some f⟩) k
    rw [none_of h, none_of h2]
theorem look_map (f : Int → Int) (h0 : f 0 = 0) : ∀ (ps : Bag) (z : Str), look (ps.map fun p => (p.1, f p.2)) z = f (look ps z)
  | [], _ => h0.symm
  | p :: ps, z => by
    have ih := look_map f h0 ps z
    unfold look at ih ⊢
    by_cases e : p.1 = z
    · rw [List.map_cons, List.find?_cons_of_pos (by simpa using e), List.find?_cons_of_pos (by simpa using e)]
      rfl
    · rw [List.map_cons, List.find?_cons_of_neg (by simpa using e), List.find?_cons_of_neg (by simpa using e)]
      exact ih
/-- the bag told anew in its own order -/
theorem look_self {ps : Bag} (nd : (nms ps).Nodup) : (nms ps).map (fun z => (z, look ps z)) = ps := by
  unfold nms
  rw [List.map_map]
  conv => rhs; rw [← List.map_id ps]
  exact List.map_congr_left fun p hp => by
    show (p.1, look ps p.1) = p
    rw [look_of nd (z := p.1) (i := p.2) hp]
/-! ### the greatest common divisor -/
def gcdB (u : Int) (ps : Bag) : Nat := ps.foldl (fun g p => Nat.gcd g p.2.natAbs) u.natAbs
theorem dvd_foldl (ps : Bag) : ∀ (g d : Nat), d ∣ ps.foldl (fun g p => Nat.gcd g p.2.natAbs) g ↔ d ∣ g ∧ ∀ p ∈ ps, d ∣ p.2.natAbs := by
  induction ps with
  | nil => intro g d; simp
  | cons p ps ih =>
    intro g d
    rw [List.foldl_cons, ih, Nat.dvd_gcd_iff]
    constructor
    · rintro ⟨⟨h1, h2⟩, h3⟩
      exact ⟨h1, fun q hq => (List.mem_cons.mp hq).elim (fun e => e ▸ h2) (h3 q)⟩
    · rintro ⟨h1, h2⟩
      exact ⟨⟨h1, h2 p (by simp)⟩, fun q hq => h2 q (by simp [hq])⟩
theorem dvd_gcdB {u : Int} {ps : Bag} {d : Nat} : d ∣ gcdB u ps ↔ d ∣ u.natAbs ∧ ∀ p ∈ ps, d ∣ p.2.natAbs := dvd_foldl ps _ d
theorem gcdB_u (u : Int) (ps : Bag) : gcdB u ps ∣ u.natAbs := (dvd_gcdB.mp (Nat.dvd_refl _)).1
theorem gcdB_p {u : Int} {ps : Bag} {p : Str × Int} (h : p ∈ ps) : gcdB u ps ∣ p.2.natAbs := (dvd_gcdB.mp (Nat.dvd_refl _)).2 p h
theorem gcdB_pos {u : Int} {ps : Bag} (hu : u ≠ 0) : 0 < gcdB u ps := by
  rcases Nat.eq_zero_or_pos (gcdB u ps) with h | h
  · have := gcdB_u u ps
    rw [h, Nat.zero_dvd] at this
    omega
  · exact h
theorem gcdB_le {u : Int} {ps : Bag} (hu : u ≠ 0) : gcdB u ps ≤ u.natAbs := Nat.le_of_dvd (by omega) (gcdB_u u ps)
theorem gcdB_perm {u : Int} {ps qs : Bag} (p : ps.Perm qs) : gcdB u ps = gcdB u qs :=
  Nat.dvd_antisymm (dvd_gcdB.mpr ⟨gcdB_u u ps, fun q hq => gcdB_p (p.mem_iff.mpr hq)⟩) (dvd_gcdB.mpr ⟨gcdB_u u qs, fun q hq => gcdB_p (p.mem_iff.mp hq)⟩)
theorem gcdB_mul (m : Int) (u : Int) (ps : Bag) : gcdB (u * m) (ps.map fun p => (p.1, p.2 * m)) = gcdB u ps * m.natAbs := by
  unfold gcdB
  rw [List.foldl_map, Int.natAbs_mul]
  generalize u.natAbs = g
  induction ps generalizing g with
  | nil => rfl
  | cons p ps ih =>
    rw [List.foldl_cons, List.foldl_cons, Int.natAbs_mul, Nat.gcd_mul_right]
    exact ih _
/-- the charge that is kept: each number divided by what all share -/
def nfU (u : Int) (ps : Bag) : Int := u / (gcdB u ps : Int)
def nfB (u : Int) (ps : Bag) : Bag := ps.map fun p => (p.1, p.2 / (gcdB u ps : Int))
theorem nfB_nms (u : Int) (ps : Bag) : nms (nfB u ps) = nms ps := by
  unfold nms nfB
  rw [List.map_map]
  rfl
theorem nf_mul {m u : Int} {ps : Bag} (hm : 0 < m) (hu : u ≠ 0) : nfU (u * m) (ps.map fun p => (p.1, p.2 * m)) = nfU u ps ∧ nfB (u * m) (ps.map fun p => (p.1, p.2 * m)) = nfB u ps := by
  have e : ((gcdB (u * m) (ps.map fun p => (p.1, p.2 * m)) : Nat) : Int) = (gcdB u ps : Int) * m := by
    rw [gcdB_mul, Int.natCast_mul]
    congr 1
    omega
  constructor
  · unfold nfU
    rw [e, Int.mul_ediv_mul_of_pos_left _ _ hm]
  · unfold nfB
    rw [List.map_map]
    refine List.map_congr_left fun p hp => ?_
    show (p.1, p.2 * m / _) = _
    rw [e, Int.mul_ediv_mul_of_pos_left _ _ hm]
theorem nf_inj {u : Int} {ps qs : Bag} (hu : 0 < u) (h1 : nfU u ps = nfU u qs) (h2 : nfB u ps = nfB u qs) : ps = qs := by
  have gp : (0 : Int) < (gcdB u ps : Int) := by have := gcdB_pos (u := u) (ps := ps) (by omega); omega
  have gq : (0 : Int) < (gcdB u qs : Int) := by have := gcdB_pos (u := u) (ps := qs) (by omega); omega
  have d1 : (gcdB u ps : Int) ∣ u := Int.ofNat_dvd_left.mpr (gcdB_u u ps)
  have d2 : (gcdB u qs : Int) ∣ u := Int.ofNat_dvd_left.mpr (gcdB_u u qs)
  have eg : (gcdB u ps : Int) = (gcdB u qs : Int) := by
    unfold nfU at h1
    have a1 := Int.ediv_mul_cancel d1
    have a2 := Int.ediv_mul_cancel d2
    rw [← h1] at a2
    have pos : u / (gcdB u ps : Int) ≠ 0 := fun z => by rw [z] at a1; omega
    exact Int.eq_of_mul_eq_mul_left pos (a1.trans a2.symm)
  have back : ∀ rs : Bag, (nfB u rs).map (fun p => (p.1, p.2 * (gcdB u rs : Int))) = rs := fun rs => by
    unfold nfB
    rw [List.map_map]
    conv => rhs; rw [← List.map_id rs]
    exact List.map_congr_left fun p hp => by
      show (p.1, p.2 / _ * _) = p
      rw [Int.ediv_mul_cancel (Int.ofNat_dvd_left.mpr (gcdB_p hp))]
  rw [← back ps, ← back qs, h2, eg]
end V0
namespace V0
open PySem PySem.Spec PyProof.Rows L2
section
variable {P : Program} {w : World} {A : Around} {E : Value → Shared → Prop} {s : Shared}
/-- the items of a tuple, gathered into a list -/
theorem collect_tup {l : Addr} {items : Array Value} {Q : List Value → Shared → Prop} (hl : s.heap.IsTuple l items) (len : items.size ≤ sizeLine)
    (h : Q items.toList { s with heap := (s.heap.push (seqObj "list" #[] 0)).update s.heap.objs.size (Obj.mapSeq (· ++ items)) }) : wpAny (model P w) A (collect (.ref l)) Q E s := by
  obtain ⟨o, ho, hc, n, hd⟩ := id hl
  unfold collect
  refine wpAny_bind (wpAny_runValue (codeAny_builtin F.entry_proto_collect ?_))
  show wpAny _ _ (do again (.builtin "list.__iadd__" ⟨[← newList [], .ref l], []⟩)) _ _ s
  refine wpAny_bind (wpAny_newList (wpAny_pure ⟨Code.quiet_builtin _ (by decide +kernel), codeAny_builtin F.entry_list_iadd ?_⟩))
  show wpAny _ _ (Builtin.List.listExtendWith (.ref s.heap.objs.size) (.ref l) (.ref s.heap.objs.size)) _ _ { s with heap := s.heap.push (seqObj "list" #[] 0) }
  unfold Builtin.List.listExtendWith
  have ho' : (s.heap.push (seqObj "list" #[] 0)).get? l = some o := Heap.get?_push_of_some _ ho
  refine wpAny_bind (wpAny_typeOf (T := "tuple") ⟨o, ho', hc⟩ ?_)
  rw [if_pos (by simp)]
  refine wpAny_bind (listItems_at ho' hd ?_)
  have new : (s.heap.push (seqObj "list" #[] 0)).get? s.heap.objs.size = some (seqObj "list" #[] 0) := Heap.get?_push_size _ rfl
  refine wpAny_bind (listItems_at (xs := #[]) (n := 0) new rfl ?_)
  rw [if_neg (by simp)]
  refine wpAny_bind (listUpdate_at (xs := #[]) (n := 0) new rfl ?_ (Nat.zero_le _) (by show (#[] ++ items).size ≤ sizeLine + 1; rw [Array.size_append]; show 0 + items.size ≤ _; omega))
  refine wpAny_pure ?_
  show wpAny (model P w) A (do
      let o ← load s.heap.objs.size
      match o.data with
      | .seq xs _ => pure xs.toList
      | _ => unsupported "internal:collect") Q E { s with heap := (s.heap.push (seqObj "list" #[] 0)).update s.heap.objs.size (Obj.mapSeq (· ++ items)) }
  refine wpAny_bind (wpAny_load (get?_update_seq new _) ?_)
  show wpAny _ _ (pure ((#[] : Array Value) ++ items).toList) Q E _
  rw [show ((#[] : Array Value) ++ items).toList = items.toList by simp]
  exact wpAny_pure h
end
section
variable {X : Cx}
/-- sorted(xs), xs a tuple of fewer than 64 texts -/
def rSortedTS (K : PySem.W.Frag) : List V → Hp → VK → Prop := fun vs H Q => ∃ (a : Addr) (zs : List Str), vs = [V.ref a] ∧ SqT K H a (zs.map V.str) ∧ zs.length < 64 ∧
  ∀ (ys : List Str) (p : Addr), ys.Perm zs → sortedS ys = true → H p = none → Q (.ref p) (upd H p (.lst (ys.map V.str)))
theorem cr_sortedTS : CallR X (.builtin "sorted") (rSortedTS X.K) := by
  intro pins s σ H vs us Q I r h
  obtain ⟨a, zs, rfl, hs, h64, q⟩ := h
  obtain ⟨its, rv, hl, _⟩ := I.tuple hs
  rw [Vals.ref1 r]
  have hS : StrsAre its zs := rv.strs
  have il : its.length = zs.length := StrsAre.length hS
  refine Calls.call_function_entry kind_sorted plain_sorted entry_sorted (args_sorted1 _) ?_
  unfold Builtin.«sorted»
  refine wpAny_bind (m := checkCount "sorted" 1 1 _) (wpAny_pure ?_)
  refine wpAny_bind (collect_tup (P := X.prog) (w := X.w) hl (by rw [List.size_toArray, il, sizeLine_eq]; omega) ?_)
  rw [show its.toArray.toList = its from rfl]
  have size1 : ((s.heap.push (seqObj "list" #[] 0)).update s.heap.objs.size (Obj.mapSeq (· ++ its.toArray))).objs.size = s.heap.objs.size + 1 := by rw [Heap.size_update, size_push']
  have kp1 : ∀ b u, s.heap.get? b = some u → ((s.heap.push (seqObj "list" #[] 0)).update s.heap.objs.size (Obj.mapSeq (· ++ its.toArray))).get? b = some u := fun b u e => by
    rw [Heap.get?_update_ne _ _ _ _ (Nat.ne_of_lt (Heap.lt_size e))]
    exact Heap.get?_push_of_some _ e
  generalize (s.heap.push (seqObj "list" #[] 0)).update s.heap.objs.size (Obj.mapSeq (· ++ its.toArray)) = h1 at size1 kp1
  refine wpAny_bind (wpAny_newList ?_ (by rw [il, sizeLine_eq]; omega))
  have hoL : (h1.push (seqObj "list" its.toArray 0)).get? h1.objs.size = some (seqObj "list" its.toArray 0) := Heap.get?_push_size _ rfl
  show wpAny _ _ _ _ _ { s with heap := h1.push (seqObj "list" its.toArray 0) }
  refine wpAny_bind (wpAny_holding (wpAny_call_entry PyProof.Rows.slot_list_sort ⟨_, hoL, rfl⟩ PyProof.Rows.entry_list_sort
    (list_sort_treeK strKind_oneLt (s := { s with heap := h1.push (seqObj "list" its.toArray 0) }) hoL hS.keysOf (fun v₁ v₂ rest e => keyKind_strs (by rw [← e]; exact hS)) (by rw [il]; exact h64) fun st' hp hs => ⟨_, rfl, ?_⟩) (PyProof.Rows.args_list_sort _)))
  obtain ⟨ys, g1, g2, g3⟩ := sorted_out_str hS hp hs
  obtain ⟨e', he'⟩ := PyProof.Rows.sortedHeap_at (vs := its) (out := (arrOf st').map (·.2)) hoL
  have yl : (ys.map V.str).length ≤ sizeLine := by rw [List.length_map, g2.length_eq, sizeLine_eq]; omega
  have le1 : s.heap.objs.size ≤ h1.objs.size := by rw [size1]; exact Nat.le_succ _
  refine wpAny_pure ⟨_, rfl, .ref h1.objs.size, upd H h1.objs.size (.lst (ys.map V.str)), I.laid (t' := s.toks) (fun b u e => ?_) le1 (show ObjOk X.prog X.w _ _ _ (.lst (ys.map V.str)) from ⟨yl, ((arrOf st').map (·.2)).toList, e', vals_of_strs g1, by rw [Array.toArray_toList]; exact he'⟩), rfl, q ys _ g2 g3 (I.hok.fresh le1)⟩
  have hb : b < h1.objs.size := Nat.lt_of_lt_of_le (Heap.lt_size e) le1
  rw [PyProof.Rows.sortedHeap_old (Nat.ne_of_lt hb) (by rw [size_push']; exact Nat.lt_succ_of_lt hb)]
  exact Heap.get?_push_of_some _ (kp1 b u e)
end
end V0
namespace V0
open PySem PySem.Spec PyProof.Rows L2
/-! ### names in their order -/
def Asc (zs : List Str) : Prop := zs.Pairwise fun a b => a.cps.toList < b.cps.toList
theorem rising_asc : ∀ (p : Str) (l : List Str), Asc (p :: l) → risingS p l = true
  | _, [], _ => rfl
  | p, x :: l, h => by
    have h2 := List.pairwise_cons.mp h
    show (!ltCps x.cps.toList p.cps.toList && risingS x l) = true
    rw [rising_asc x l h2.2, Bool.and_true, ltCps_eq, decide_eq_false (List.not_lt.mpr (List.le_of_lt (h2.1 x (by simp))))]
    rfl
theorem sorted_asc : ∀ l : List Str, Asc l → sortedS l = true
  | [], _ => rfl
  | p :: l, h => rising_asc p l h
theorem asc_sorted {zs : List Str} (h : sortedS zs = true) (nd : zs.Nodup) : Asc zs := by
  refine ((sorted_pw _ h).and nd).imp fun {x y} ⟨h1, h2⟩ => ?_
  rcases List.le_iff_lt_or_eq.mp (leS_iff.mp h1) with z | z
  · exact z
  · exact absurd (str_ext z) h2
theorem Asc.nd {zs : List Str} (h : Asc zs) : zs.Nodup := h.imp fun hab e => by
  subst e
  exact absurd hab (List.lt_irrefl _)
theorem asc_one {xs ys : List Str} (p : xs.Perm ys) (hx : Asc xs) (hy : Asc ys) : xs = ys := sorted_one p (sorted_asc _ hx) (sorted_asc _ hy)
theorem lt_tri {a b : Str} (h : a ≠ b) : a.cps.toList < b.cps.toList ∨ b.cps.toList < a.cps.toList := by
  by_cases q : a.cps.toList < b.cps.toList
  · exact .inl q
  · rcases List.le_iff_lt_or_eq.mp (List.not_lt.mp q) with z | z
    · exact .inr z
    · exact absurd (str_ext z).symm h
/-! ### pairs in their order -/
def pk (p : Pai) : List Str := [p.1, p.2]
theorem pk_inj {p q : Pai} (h : pk p = pk q) : p = q := by
  injection h with h1 h2
  injection h2 with h2 _
  exact Prod.ext h1 h2
theorem ltT_pair {a b c d : Str} : ltT [a, b] [c, d] = true ↔ a.cps.toList < c.cps.toList ∨ (a = c ∧ b.cps.toList < d.cps.toList) := by
  have lt : ∀ x y : Str, itemOrd.blt (Sum.inr x.cps.toList) (Sum.inr y.cps.toList) = decide (x.cps.toList < y.cps.toList) := fun x y => by
    show PyProof.Rows.strKind.blt x.cps.toList y.cps.toList = _
    first | rfl | exact ltCps_eq _ _
  have e : lexLt itemOrd ([] : List (Int ⊕ List Nat)) [] = false := rfl
  show lexLt itemOrd [Sum.inr a.cps.toList, Sum.inr b.cps.toList] [Sum.inr c.cps.toList, Sum.inr d.cps.toList] = true ↔ _
  rw [lex_true, lex_true, lt, lt, lt, lt, e, decide_eq_true_iff, decide_eq_true_iff, decide_eq_false_iff_not, decide_eq_false_iff_not]
  constructor
  · rintro (h | ⟨h1, h2 | ⟨_, h2⟩⟩)
    · exact .inl h
    · by_cases q : a = c
      · exact .inr ⟨q, h2⟩
      · rcases lt_tri q with z | z
        · exact .inl z
        · exact absurd z h1
    · cases h2
  · rintro (h | ⟨rfl, h⟩)
    · exact .inl h
    · exact .inr ⟨List.lt_irrefl _, .inl h⟩
/-- all pairs of some names, each with those behind it -/
def prs : List Str → List Pai
  | [] => []
  | z :: zs => zs.map (fun y => (z, y)) ++ prs zs
theorem mem_prs : ∀ {zs : List Str}, Asc zs → ∀ {a b : Str}, (a, b) ∈ prs zs ↔ a ∈ zs ∧ b ∈ zs ∧ a.cps.toList < b.cps.toList
  | [], _, a, b => by simp [prs]
  | z :: zs, h, a, b => by
    have h2 := List.pairwise_cons.mp h
    have ih := mem_prs (zs := zs) h2.2 (a := a) (b := b)
    show (a, b) ∈ zs.map (fun y => (z, y)) ++ prs zs ↔ _
    rw [List.mem_append, ih, List.mem_map]
    constructor
    · rintro (⟨y, hy, e⟩ | ⟨h3, h4, h5⟩)
      · injection e with e1 e2
        subst e1
        subst e2
        exact ⟨by simp, by simp [hy], h2.1 y hy⟩
      · exact ⟨by simp [h3], by simp [h4], h5⟩
    · rintro ⟨h3, h4, h5⟩
      rcases List.mem_cons.mp h3 with e | e
      · subst e
        rcases List.mem_cons.mp h4 with e | e
        · subst e
          exact absurd h5 (List.lt_irrefl _)
        · exact .inl ⟨b, e, rfl⟩
      · rcases List.mem_cons.mp h4 with e4 | e4
        · subst e4
          exact absurd (List.lt_trans h5 (h2.1 a e)) (List.lt_irrefl _)
        · exact .inr ⟨e, e4, h5⟩
theorem prs_asc : ∀ {zs : List Str}, Asc zs → ((prs zs).map pk).Pairwise fun a b => ltT a b = true
  | [], _ => List.Pairwise.nil
  | z :: zs, h => by
    have h2 := List.pairwise_cons.mp h
    show ((zs.map (fun y => (z, y)) ++ prs zs).map pk).Pairwise _
    rw [List.map_append, List.map_map, List.pairwise_append]
    refine ⟨List.pairwise_map.mpr (h2.2.imp fun {a b} q => ltT_pair.mpr (.inr ⟨rfl, q⟩)), prs_asc h2.2, fun a ha b hb => ?_⟩
    obtain ⟨y, hy, rfl⟩ := List.mem_map.mp ha
    obtain ⟨⟨c, d⟩, hq, rfl⟩ := List.mem_map.mp hb
    exact ltT_pair.mpr (.inl (h2.1 c ((mem_prs h2.2).mp hq).1))
/-- the conflicts -/
def cfl (zs : List Str) (tie : Str → Str → Bool) : List Pai := (prs zs).filter fun p => tie p.1 p.2
/-- what is beside z -/
def nbs (zs : List Str) (tie : Str → Str → Bool) (z : Str) : List Str := zs.filter fun y => tie z y
theorem cfl_asc {zs : List Str} {tie : Str → Str → Bool} (h : Asc zs) : ((cfl zs tie).map pk).Pairwise fun a b => ltT a b = true :=
  (prs_asc h).sublist (List.filter_sublist.map pk)
theorem mem_cfl {zs : List Str} {tie : Str → Str → Bool} (h : Asc zs) {a b : Str} : (a, b) ∈ cfl zs tie ↔ a ∈ zs ∧ b ∈ zs ∧ a.cps.toList < b.cps.toList ∧ tie a b = true := by
  unfold cfl
  rw [List.mem_filter, mem_prs h]
  simp only [and_assoc]
theorem nbs_asc {zs : List Str} {tie : Str → Str → Bool} {z : Str} (h : Asc zs) : Asc (nbs zs tie z) := h.sublist List.filter_sublist
/-- ties go both ways, and to others -/
structure Tie (tie : Str → Str → Bool) : Prop where
  sym : ∀ a b, tie a b = tie b a
  irr : ∀ a, tie a a = false
theorem partner_some {z y : Str} {p : Pai} (ne : p.1 ≠ p.2) : partner z p = some y ↔ (p.1 = z ∧ p.2 = y) ∨ (p.2 = z ∧ p.1 = y) := by
  unfold partner
  by_cases h1 : p.1 = z
  · rw [if_pos (.inl h1.symm), if_pos h1]
    constructor
    · intro e
      exact .inl ⟨h1, Option.some.inj e⟩
    · rintro (⟨_, e⟩ | ⟨e, _⟩)
      · rw [e]
      · exact absurd (h1.trans e.symm) ne
  · by_cases h2 : p.2 = z
    · rw [if_pos (.inr h2.symm), if_neg h1]
      constructor
      · intro e
        exact .inr ⟨h2, Option.some.inj e⟩
      · rintro (⟨e, _⟩ | ⟨_, e⟩)
        · exact absurd e h1
        · rw [e]
    · rw [if_neg (fun q => q.elim (fun e => h1 e.symm) fun e => h2 e.symm)]
      constructor
      · intro e; cases e
      · rintro (⟨e, _⟩ | ⟨e, _⟩)
        · exact absurd e h1
        · exact absurd e h2
/-- the partners in the conflicts are what is beside -/
theorem partners_cfl {zs : List Str} {tie : Str → Str → Bool} (T : Tie tie) (h : Asc zs) {z : Str} (hz : z ∈ zs) : (partners z (cfl zs tie)).Perm (nbs zs tie z) := by
  have nd : (cfl zs tie).Nodup := by
    have := (cfl_asc (tie := tie) h).imp (S := fun a b => a ≠ b) fun {a b} q e => by
      rw [e, ltT_self] at q
      cases q
    exact List.Pairwise.of_map pk (fun a b q e => q (by rw [e])) this
  have ok : ∀ p ∈ cfl zs tie, p.1 ≠ p.2 := fun p hp e => by
    have := ((mem_cfl h).mp (show (p.1, p.2) ∈ _ from hp)).2.2.1
    rw [e] at this
    exact List.lt_irrefl _ this
  have ndp : (partners z (cfl zs tie)).Nodup := by
    unfold partners
    refine List.pairwise_filterMap.mpr (List.Pairwise.imp_of_mem (fun {p q} hp hq ne y hy y' hy' e => ?_) nd)
    subst e
    have ap := (mem_cfl h).mp (show (p.1, p.2) ∈ _ from hp)
    have aq := (mem_cfl h).mp (show (q.1, q.2) ∈ _ from hq)
    rcases (partner_some (ok p hp)).mp hy with ⟨a1, a2⟩ | ⟨a1, a2⟩ <;> rcases (partner_some (ok q hq)).mp hy' with ⟨b1, b2⟩ | ⟨b1, b2⟩
    · exact ne (Prod.ext (a1.trans b1.symm) (a2.trans b2.symm))
    · have l1 := ap.2.2.1
      have l2 := aq.2.2.1
      rw [a1, a2] at l1
      rw [b1, b2] at l2
      exact List.lt_irrefl _ (List.lt_trans l1 l2)
    · have l1 := ap.2.2.1
      have l2 := aq.2.2.1
      rw [a1, a2] at l1
      rw [b1, b2] at l2
      exact List.lt_irrefl _ (List.lt_trans l1 l2)
    · exact ne (Prod.ext (a2.trans b2.symm) (a1.trans b1.symm))
  refine (List.perm_ext_iff_of_nodup ndp (nbs_asc h).nd).mpr fun y => ?_
  unfold partners nbs
  rw [List.mem_filterMap, List.mem_filter]
  constructor
  · rintro ⟨p, hp, e⟩
    have ap := (mem_cfl h).mp (show (p.1, p.2) ∈ _ from hp)
    rcases (partner_some (ok p hp)).mp e with ⟨a1, a2⟩ | ⟨a1, a2⟩
    · rw [← a1, ← a2]; exact ⟨ap.2.1, ap.2.2.2⟩
    · rw [← a1, ← a2, T.sym]; exact ⟨ap.1, ap.2.2.2⟩
  · rintro ⟨hy, ht⟩
    have ne : z ≠ y := fun e => by rw [e, T.irr] at ht; cases ht
    rcases lt_tri ne with l | l
    · exact ⟨(z, y), (mem_cfl h).mpr ⟨hz, hy, l, ht⟩, (partner_some ne).mpr (.inl ⟨rfl, rfl⟩)⟩
    · exact ⟨(y, z), (mem_cfl h).mpr ⟨hy, hz, l, by rw [T.sym]; exact ht⟩, (partner_some (fun e => ne e.symm)).mpr (.inr ⟨rfl, rfl⟩)⟩
end V0

namespace V0
open PySem PySem.Spec PyProof.Rows L2
structure Md (K : PySem.W.Frag) (qual name : Str) (C : Addr) (st : Stmt) (ps : List Str) (f : Addr) (fd : FuncData) : Prop where
  F : Fun K name qual st f fd
  b : Binds K fd ps []
  m : Meth K C name f
structure Pr (K : PySem.W.Frag) (qual name : Str) (C : Addr) (st : Stmt) (ps : List Str) (p f : Addr) (fd : FuncData) : Prop where
  F : Fun K name qual st f fd
  b : Binds K fd ps []
  pr : PropOf K C name p f
theorem md_own {P : Program} {w : World} {K : PySem.W.Frag} {mg : Str → Option Value} {base : Heap} {CX : CXT} {k : Nat} {C f : Addr} {fd : FuncData} {qual name : Str} {st : Stmt} {ps : List Str} {sp : Sp} (Y : Md K qual name C st ps f fd) (G : FnOk P w K mg base CX k f fd ps sp) : OwnM P w K mg base CX k C name sp :=
  ⟨f, fd, ps, Y.m.at_, Y.m.fn, Y.b, G⟩
/-- a dict comprehension over a walk -/
theorem dc_it {J : It} {n : Nat} {G : Hp → Prop} {Y : Nat → Hp → V → Hp → Prop} (wk : Walk J n G Y) {g : TG} {tt : TT} {tk tv : TE} {vs : List Nat} {σ : L2.St} {H1 : Hp} {D : Addr} {Qd : Hp → Prop} (Pv : Nat → Hp → Prop) (h0 : Pv 0 (upd H1 D (.dK []))) (hG : ∀ i H, i ≤ n → Pv i H → G H)
    (hs : ∀ i x H H', i < n → Pv i H → Y i H x H' → g x (wipe σ vs) H' fun σ2 H2 => wipe σ2 vs = wipe σ vs ∧ tt σ2 H2 fun b H3 =>
      if b = true then tk σ2 H3 fun y H4 => tv σ2 H4 fun z H5 => ∃ kvs k, y = kV k ∧ H5 D = some (.dK kvs) ∧ kvs.length < sizeLine ∧ Pv (i + 1) (upd H5 D (.dK (putK kvs k z))) else Pv (i + 1) H3) (hd : ∀ H, Pv n H → Qd H) :
    ∃ W : Nat → Nat → Hp → Prop, (∃ m, W 0 m (upd H1 D (.dK []))) ∧ ∀ i m H, W i m H →
      (J.stop i H ∧ Qd H) ∨ (J.go i H ∧ ∃ Nx : Hp → Prop, (∀ H', Nx H' → ∃ m', m' < m ∧ W (i + 1) m' H') ∧ ∀ x H', J.yld i H x H' → g x (wipe σ vs) H' fun σ2 H2 => wipe σ2 vs = wipe σ vs ∧ tt σ2 H2 fun b H3 =>
        if b = true then tk σ2 H3 fun y H4 => tv σ2 H4 fun z H5 => ∃ kvs k, y = kV k ∧ H5 D = some (.dK kvs) ∧ kvs.length < sizeLine ∧ Nx (upd H5 D (.dK (putK kvs k z))) else Nx H3) := by
  refine ⟨fun i m H => i ≤ n ∧ m = n - i ∧ Pv i H, ⟨n, Nat.zero_le _, rfl, h0⟩, fun i m H ⟨hi, hm, p⟩ => ?_⟩
  rcases Nat.lt_or_ge i n with hlt | hge
  · exact .inr ⟨wk.goes i H hlt (hG i H hi p), Pv (i + 1), fun H' p' => ⟨n - (i + 1), by omega, hlt, rfl, p'⟩, fun x H' y => hs i x H H' hlt p (wk.yields i H x H' hlt (hG i H hi p) y)⟩
  · obtain rfl : i = n := by omega
    exact .inl ⟨wk.stops H (hG i H hi p), hd H p⟩
/-- a set comprehension over a walk -/
theorem xsc_it {P : Program} {w : World} {K : PySem.W.Frag} {J : It} {n : Nat} {G : Hp → Prop} {Y : Nat → Hp → V → Hp → Prop} (wk : Walk J n G Y) {g : TG} {tt : TT} {te : TE} {vs : List Nat} {σ : L2.St} {H1 : Hp} {D : Addr} {Qd : Hp → Prop} (Pv : Nat → Hp → Prop) (h0 : Pv 0 (upd H1 D (XSetO P w D []))) (hG : ∀ i H, i ≤ n → Pv i H → G H)
    (hs : ∀ i x H H', i < n → Pv i H → Y i H x H' → g x (wipe σ vs) H' fun σ2 H2 => wipe σ2 vs = wipe σ vs ∧ tt σ2 H2 fun b H3 =>
      if b = true then te σ2 H3 fun y H4 => ∃ (T : Addr) (k : List Str) (L : List Mem), y = .ref T ∧ SqT K H4 T (k.map V.str) ∧ H4 D = some (XSetO P w D L) ∧ (∀ q ∈ L, SqT K H4 q.1 (q.2.map V.str)) ∧ L.length + 1 < 64 ∧
        (∀ L', (k ∈ L.map (·.2) → L' = L) → (k ∉ L.map (·.2) → L'.Perm ((T, k) :: L)) → Pv (i + 1) (upd H4 D (XSetO P w D L'))) else Pv (i + 1) H3) (hd : ∀ H, Pv n H → Qd H) :
    ∃ W : Nat → Nat → Hp → Prop, (∃ m, W 0 m (upd H1 D (XSetO P w D []))) ∧ ∀ i m H, W i m H →
      (J.stop i H ∧ Qd H) ∨ (J.go i H ∧ ∃ Nx : Hp → Prop, (∀ H', Nx H' → ∃ m', m' < m ∧ W (i + 1) m' H') ∧ ∀ x H', J.yld i H x H' → g x (wipe σ vs) H' fun σ2 H2 => wipe σ2 vs = wipe σ vs ∧ tt σ2 H2 fun b H3 =>
        if b = true then te σ2 H3 fun y H4 => ∃ (T : Addr) (k : List Str) (L : List Mem), y = .ref T ∧ SqT K H4 T (k.map V.str) ∧ H4 D = some (XSetO P w D L) ∧ (∀ q ∈ L, SqT K H4 q.1 (q.2.map V.str)) ∧ L.length + 1 < 64 ∧
          (∀ L', (k ∈ L.map (·.2) → L' = L) → (k ∉ L.map (·.2) → L'.Perm ((T, k) :: L)) → Nx (upd H4 D (XSetO P w D L'))) else Nx H3) := by
  refine ⟨fun i m H => i ≤ n ∧ m = n - i ∧ Pv i H, ⟨n, Nat.zero_le _, rfl, h0⟩, fun i m H ⟨hi, hm, p⟩ => ?_⟩
  rcases Nat.lt_or_ge i n with hlt | hge
  · exact .inr ⟨wk.goes i H hlt (hG i H hi p), Pv (i + 1), fun H' p' => ⟨n - (i + 1), by omega, hlt, rfl, p'⟩, fun x H' y => hs i x H H' hlt p (wk.yields i H x H' hlt (hG i H hi p) y)⟩
  · obtain rfl : i = n := by omega
    exact .inl ⟨wk.stops H (hG i H hi p), hd H p⟩
def lkv (zs : List Str) (as : List Addr) : List (Key × V) := (zs.zip as).map fun q => (.inr q.1, .ref q.2)
theorem lkv_keys : ∀ {zs : List Str} {as : List Addr}, zs.length = as.length → (lkv zs as).map (·.1) = zs.map Sum.inr
  | [], [], _ => rfl
  | z :: zs, a :: as, h => by
    have ih := lkv_keys (zs := zs) (as := as) (Nat.succ.inj h)
    show Sum.inr z :: (lkv zs as).map (·.1) = _
    rw [ih]
    rfl
theorem lkv_nd {zs : List Str} {as : List Addr} (h : zs.length = as.length) (nd : zs.Nodup) : ((lkv zs as).map (·.1)).Nodup := by
  rw [lkv_keys h]
  exact List.Pairwise.map _ (fun a b e z => e (Sum.inr.inj z)) nd
theorem lkv_at {R : Str → Addr → Prop} : ∀ {zs : List Str} {as : List Addr} {z : Str}, Paired R zs as → z ∈ zs → ∃ p, valV (lkv zs as) (.inr z) = some (.ref p) ∧ R z p
  | _, _, _, .nil, h => by cases h
  | _, _, z, .cons (a := y) (b := b) (l₁ := zs) (l₂ := as) r rs, h => by
    by_cases e : y = z
    · subst e
      exact ⟨b, valV_pos rfl, r⟩
    · have hz : z ∈ zs := by
        rcases List.mem_cons.mp h with q | q
        · exact absurd q.symm e
        · exact q
      obtain ⟨p, h1, h2⟩ := lkv_at rs hz
      exact ⟨p, by rw [← h1]; exact valV_neg (by intro q; exact e (Sum.inr.inj q)), h2⟩
theorem lkv_snoc {zs : List Str} {as : List Addr} {z : Str} {a : Addr} (h : zs.length = as.length) : lkv (zs ++ [z]) (as ++ [a]) = lkv zs as ++ [(.inr z, .ref a)] := by
  unfold lkv
  rw [List.zip_append h, List.map_append]
  rfl
theorem lkv_len {zs : List Str} {as : List Addr} (h : zs.length = as.length) : (lkv zs as).length = zs.length := by
  unfold lkv
  rw [List.length_map, List.length_zip]
  omega
theorem lkv_put {zs : List Str} {bs : List Addr} {z : Str} {a : Addr} (h : zs.length = bs.length) (hz : z ∉ zs) : putK (lkv zs bs) (.inr z) (.ref a) = lkv (zs ++ [z]) (bs ++ [a]) := by
  unfold putK
  have e : ((lkv zs bs).any fun kv => decide (kv.1 = Sum.inr z)) = false := by
    refine Bool.eq_false_iff.mpr fun q => hz ?_
    obtain ⟨kv, hk, e⟩ := List.any_eq_true.mp q
    have m : kv.1 ∈ (lkv zs bs).map (·.1) := List.mem_map.mpr ⟨kv, hk, rfl⟩
    rw [lkv_keys h, of_decide_eq_true e] at m
    obtain ⟨y, hy, e2⟩ := List.mem_map.mp m
    rw [← Sum.inr.inj e2]
    exact hy
  rw [e, if_neg Bool.false_ne_true, lkv_snoc h]
theorem prs_len : ∀ {zs : List Str}, zs.length ≤ 8 → (prs zs).length ≤ 7 * zs.length
  | [], _ => Nat.le_refl _
  | z :: zs, h => by
    rw [List.length_cons] at h
    have ih := prs_len (zs := zs) (by omega)
    show (zs.map (fun y => (z, y)) ++ prs zs).length ≤ 7 * (zs.length + 1)
    rw [List.length_append, List.length_map]
    omega
theorem cfl_len {zs : List Str} {tie : Str → Str → Bool} (h : zs.length ≤ 8) : (cfl zs tie).length < 64 := by
  have h1 : (cfl zs tie).length ≤ (prs zs).length := List.length_filter_le _ _
  have h2 := prs_len h
  omega
theorem paired_snoc {α β : Type} {R : α → β → Prop} {a : α} {b : β} : ∀ {xs : List α} {ys : List β}, Paired R xs ys → R a b → Paired R (xs ++ [a]) (ys ++ [b])
  | _, _, .nil, h => .cons h .nil
  | _, _, .cons a b, h => .cons a (paired_snoc b h)
/-! ### webs as objects -/
structure WbN (K : PySem.W.Frag) (C : Addr) : Prop where
  n1 : NoAttr K C "_things"
  n2 : NoAttr K C "_conflicts"
  n3 : NoAttr K C "_beside"
structure WbK (K : PySem.W.Frag) (C fi : Addr) (fdi : FuncData) (st : Stmt) (ps : List Str) : Prop where
  F : Fun K "__init__" "Web.__init__" st fi fdi
  mkC : Mk K C fi
  b : Binds K fdi ps []
def wbF (t c b : Addr) : List (Str × V) := [("_things", .ref t), ("_conflicts", .ref c), ("_beside", .ref b)]
/-- the web at x: its things, and which are tied -/
structure WbAt (C : Addr) (H : Hp) (x : Addr) (zs : List Str) (tie : Str → Str → Bool) (dx t c b : Addr) (as bs : List Addr) : Prop where
  at_ : H x = some (.ins C dx (wbF t c b))
  th : H t = some (tupS zs)
  cf : H c = some (.tup (as.map V.ref))
  cp : Paired (PrAt H) (cfl zs tie) as
  bd : H b = some (.dK (lkv zs bs))
  bp : Paired (fun z a => H a = some (tupS (nbs zs tie z))) zs bs
def IsWb (C : Addr) (H : Hp) (x : Addr) (zs : List Str) (tie : Str → Str → Bool) : Prop := ∃ dx t c b as bs, WbAt C H x zs tie dx t c b as bs
theorem WbAt.same {C : Addr} {H H' : Hp} {x : Addr} {zs : List Str} {tie : Str → Str → Bool} {dx t c b : Addr} {as bs : List Addr} (h : WbAt C H x zs tie dx t c b as bs) (s : Same H H') : WbAt C H' x zs tie dx t c b as bs :=
  ⟨s _ _ h.at_, s _ _ h.th, s _ _ h.cf, paired_mono (fun _ _ e => PrAt.same e s) h.cp, s _ _ h.bd, paired_mono (fun _ _ e => s _ _ e) h.bp⟩
theorem IsWb.same {C : Addr} {H H' : Hp} {x : Addr} {zs : List Str} {tie : Str → Str → Bool} (h : IsWb C H x zs tie) (s : Same H H') : IsWb C H' x zs tie := let ⟨dx, t, c, b, as, bs, q⟩ := h; ⟨dx, t, c, b, as, bs, q.same s⟩
/-- the ties that pairs tell -/
def tieP (ps : List Pai) (a b : Str) : Bool := decide ((a, b) ∈ ps ∨ (b, a) ∈ ps)
theorem tieP_tie {us : List Str} {ps : List Pai} (ok : ∀ p ∈ ps, PrOk us p) : Tie (tieP ps) := by
  refine ⟨fun a b => by unfold tieP; rw [decide_eq_decide, or_comm], fun a => ?_⟩
  refine decide_eq_false fun h => ?_
  have h : (a, a) ∈ ps := h.elim id id
  exact (ok _ h).2.2 rfl
/-- a pair in its order -/
def srt (p : Pai) : List Str := if p.1.cps.toList < p.2.cps.toList then [p.1, p.2] else [p.2, p.1]
theorem srt_one {p : Pai} {ys : List Str} (pm : ys.Perm [p.1, p.2]) (ord : sortedS ys = true) (ne : p.1 ≠ p.2) : ys = srt p := by
  unfold srt
  by_cases h : p.1.cps.toList < p.2.cps.toList
  · rw [if_pos h]
    exact sorted_one pm ord (sorted_asc _ (List.pairwise_cons.mpr ⟨fun b hb => by rw [List.mem_singleton.mp hb]; exact h, List.pairwise_singleton _ _⟩))
  · rw [if_neg h]
    have h2 := (lt_tri ne).resolve_left h
    exact sorted_one (pm.trans (List.Perm.swap ..)) ord (sorted_asc _ (List.pairwise_cons.mpr ⟨fun b hb => by rw [List.mem_singleton.mp hb]; exact h2, List.pairwise_singleton _ _⟩))
/-- the keys of the set are the conflicts -/
theorem srt_cfl {us zs : List Str} {ps : List Pai} (asc : Asc zs) (pm : zs.Perm us) (good : ∀ p ∈ ps, PrOk us p) {k : List Str} : (∃ p ∈ ps, k = srt p) ↔ k ∈ (cfl zs (tieP ps)).map pk := by
  rw [List.mem_map]
  constructor
  · rintro ⟨p, hp, rfl⟩
    obtain ⟨m1, m2, ne⟩ := good p hp
    unfold srt
    by_cases h : p.1.cps.toList < p.2.cps.toList
    · rw [if_pos h]
      exact ⟨(p.1, p.2), (mem_cfl asc).mpr ⟨pm.mem_iff.mpr m1, pm.mem_iff.mpr m2, h, decide_eq_true (.inl hp)⟩, rfl⟩
    · rw [if_neg h]
      exact ⟨(p.2, p.1), (mem_cfl asc).mpr ⟨pm.mem_iff.mpr m2, pm.mem_iff.mpr m1, (lt_tri ne).resolve_left h, decide_eq_true (.inr hp)⟩, rfl⟩
  · rintro ⟨⟨a, b⟩, hq, rfl⟩
    obtain ⟨_, _, lt, ht⟩ := (mem_cfl asc).mp hq
    rcases of_decide_eq_true ht with h | h
    · exact ⟨(a, b), h, (if_pos lt).symm⟩
    · exact ⟨(b, a), h, by unfold srt; rw [if_neg (fun z => List.lt_irrefl _ (List.lt_trans z lt))]; rfl⟩
theorem pairs_of {H : Hp} : ∀ {L : List Mem} {qs : List Pai}, L.map (·.2) = qs.map pk → (∀ q ∈ L, H q.1 = some (tupS q.2)) → Paired (PrAt H) qs (L.map (·.1))
  | [], [], _, _ => .nil
  | [], _ :: _, e, _ => nomatch e
  | _ :: _, [], e, _ => nomatch e
  | q :: L, p :: qs, e, h => by
    injection e with e1 e2
    refine .cons ?_ (pairs_of e2 fun r hr => h r (by simp [hr]))
    have hq := h q (by simp)
    rw [show q.2 = pk p from e1] at hq
    exact hq
theorem perm_nodup_iff {l m : List (List Str)} (hl : l.Nodup) (hm : m.Nodup) (h : ∀ k, k ∈ l ↔ k ∈ m) : l.Perm m := (List.perm_ext_iff_of_nodup hl hm).mpr h
def spWeb (C : Addr) : Sp := fun vs H Q _ => ∃ (x dx t c : Addr) (us : List Str) (ps : List Pai) (as : List Addr), vs = [.ref x, .ref t, .ref c] ∧ H x = some (.ins C dx []) ∧ H t = some (tupS us) ∧ Nz us ∧ H c = some (.tup (as.map V.ref)) ∧ Paired (PrAt H) ps as ∧ (∀ p ∈ ps, PrOk us p) ∧ ps.length ≤ 60 ∧
  ∀ (zs : List Str) (H' : Hp), Asc zs → zs.Perm us → But x H H' → IsWb C H' x zs (tieP ps) → Q .non H'
/-- tuple(xs) -/
def rTupOf (K : PySem.W.Frag) : List V → Hp → VK → Prop := fun xs H Q => ∃ p ys, xs = [V.ref p] ∧ ((SqL K H p ys ∧ ∀ l, H l = none → Q (.ref l) (upd H l (.tup ys))) ∨ (SqT K H p ys ∧ Q (.ref p) H))
theorem cr_tupOf {X : Cx} : CallR X (.type "tuple") (rTupOf X.K) := call_tuple_of
section
variable {P : Program} {w : World} {K : PySem.W.Frag} {mg : Str → Option Value} {base : Heap} {C : Addr}
abbrev s_Web_init : Stmt := inClass (top 17) 0
abbrev N_Web_init : List Str := ["self", "things", "conflicts", "pair", "thing"]
abbrev P_Web_init : List Str := ["self", "things", "conflicts"]
theorem sc_Web_init : FnScope N_Web_init P_Web_init (defScope s_Web_init) := ⟨rfl, rfl, rfl, by decide +kernel, rfl, by decide +kernel, by decide +kernel⟩
theorem ok_web {fi f1 f2 f3 f4 f5 : Addr} {fdi fd1 fd2 fd3 fd4 fd5 : FuncData} (B : Bl mg) (M : Bm mg) (CN : Nm mg) (KWeb : Kls K mg "Web" C) (N : WbN K C) (D_is_name : Df K mg "is_name" s_is_name P_is_name f1 fd1) (D_check_names : Df K mg "check_names" s_check_names P_check_names f2 fd2) (D__is_conflict : Df K mg "_is_conflict" s__is_conflict P__is_conflict f3 fd3)
    (D__are_conflicts : Df K mg "_are_conflicts" s__are_conflicts P__are_conflicts f4 fd4) (D__partners : Df K mg "_partners" s__partners P__partners f5 fd5) (Y : WbK K C fi fdi s_Web_init P_Web_init) : FnOk P w K mg base CX0 4 fi fdi P_Web_init (spWeb C) := by
  have G_check_names : FnOk P w K mg base CX0 3 f2 fd2 P_check_names spCheckNames := ok_check_names B M CN D_is_name D_check_names
  have G__are_conflicts : FnOk P w K mg base CX0 2 f4 fd4 P__are_conflicts spAreConflicts := ok_are_conflicts B D__is_conflict D__are_conflicts
  have G__partners : FnOk P w K mg base CX0 1 f5 fd5 P__partners spPartners := ok_partners B M D__partners
  refine Y.F.ok sc_Web_init (fun vs H Q E h => ?_) (fun cdv A outer s H vs Q E hr h => ?_)
  · obtain ⟨x, dx, t, c, us, ps, as, rfl, _⟩ := h
    rfl
  · obtain ⟨x, dx, t, c, us, ps, as, rfl, hx, ht, nz, hc, pa, good, len, k⟩ := h
    refine ⟨_, (pss_cons (ps_expr (pe_call G_check_names (hr.mono (by decide)) (by rfl) D_check_names.g D_check_names.F.kp D_check_names.b .nil pass0 (pa_cons (pv 1) pa_nil)))
      (pss_cons (ps_if (pt_not (pt_val (pe_call G__are_conflicts (hr.mono (by decide)) (by rfl) D__are_conflicts.g D__are_conflicts.F.kp D__are_conflicts.b .nil pass0 (pa_cons (pv 1) (pa_cons (pv 2) pa_nil))))) (pss_one ps_never) pss_nil)
      (pss_cons (ps_fld (pv 0) (pe_callTy call_tuple_of (by rfl) B.b_tuple (by decide +kernel) (pa_cons (pe_callB cr_sortedTS (by rfl) M.b_sorted (by decide +kernel) (pa_cons (pv 1) pa_nil)) pa_nil)) rfl)
      (pss_cons (ps_fld (pv 0) (pe_callTy call_tuple_of (by rfl) B.b_tuple (by decide +kernel) (pa_cons (pe_callB (cr_sortedX rfl) (by rfl) M.b_sorted (by decide +kernel) (pa_cons (pe_scX (own := [("pair", 3)]) (g := gName 3) (tt := tYes) rfl hr.units sc_Web_init.nd (pi_tup (pv 2)) (blkOk_by (own := [("pair", 3)]) (N := N_Web_init) (sc := defScope s_Web_init) (by decide +kernel)) (fun _ _ _ _ _ => (pg_name (i := 3) sc_Web_init.nd rfl (Or.inl rfl))) (fun _ _ _ _ _ => pts_nil) (fun _ _ _ _ _ => (show PE _ _ (tCB (rTupOf K) (tCons (tCB (rSortedTS K) (tCons (tVar 3) tNil)) tNil)) from by exact (pe_callTy cr_tupOf (by rfl) B.b_tuple (by decide +kernel) (pa_cons (pe_callB cr_sortedTS (by rfl) M.b_sorted (by decide +kernel) (pa_cons (pv 3) pa_nil)) pa_nil))))) pa_nil)) pa_nil)) rfl)
      (pss_one (ps_fld (pv 0) (pe_dc (own := [("thing", 4)]) (g := gName 4) (tt := tYes) rfl sc_Web_init.nd (pi_tup (pe_fld (pv 0) rfl)) (blkOk_by (own := [("thing", 4)]) (N := N_Web_init) (sc := defScope s_Web_init) (by decide +kernel)) (fun _ _ _ _ _ => (pg_name (i := 4) sc_Web_init.nd rfl (Or.inl rfl))) (fun _ _ _ _ _ => pts_nil) (fun _ _ _ _ _ => (pv 4)) (fun _ _ _ _ _ => (show PE _ _ (tCall spPartners [] E0 (tCons (tVar 4) (tCons (tFld K (tVar 0) "_conflicts") tNil))) from by exact (pe_call G__partners (hr.mono (by decide)) (by rfl) D__partners.g D__partners.F.kp D__partners.b .nil pass0 (pa_cons (pv 4) (pa_cons (pe_fld (pv 0) rfl) pa_nil)))))) rfl)))))), ?_⟩
    have n8 := nz.l8
    refine ⟨_, rfl, t, us, rfl, ht, nz, fun H1 s1 => ?_⟩
    refine ⟨_, rfl, _, rfl, t, c, us, ps, as, rfl, s1 _ _ ht, s1 _ _ hc, paired_mono (fun _ _ e => PrAt.same e s1) pa, good, by omega, fun H2 s2 => ⟨true, rfl, iteF ?_⟩⟩
    have s12 := Same.trans s1 s2
    -- self._things
    refine ⟨_, rfl, t, us, rfl, SqT.of (s12 _ _ ht), by omega, fun zs p pm ord hp => ?_⟩
    have asc : Asc zs := asc_sorted ord (pm.nodup_iff.mpr nz.nd)
    have s3 := Same.trans s12 (Same.new (o := .lst (zs.map V.str)) hp)
    refine ⟨p, _, rfl, .inl ⟨SqL.of upd_same, fun tt htt => ?_⟩⟩
    have s3 := Same.trans s3 (Same.new (o := .tup (zs.map V.str)) htt)
    have et : (upd (upd H2 p (.lst (zs.map V.str))) tt (.tup (zs.map V.str))) tt = some (tupS zs) := upd_same
    generalize upd (upd H2 p (.lst (zs.map V.str))) tt (.tup (zs.map V.str)) = H3 at s3 et
    refine ⟨_, rfl, x, C, dx, _, rfl, s3 _ _ hx, KWeb.cl, N.n1, by show 0 < 1000; decide, ?_⟩
    have ntx : tt ≠ x := ne_of et (s3 _ _ hx) (fun z => nomatch z)
    have ncx : c ≠ x := ne_of hc hx (fun z => nomatch z)
    have bx : But x H (upd H3 x (.ins C dx [("_things", .ref tt)])) := (But.of s3).trans But.upd
    have ex : (upd H3 x (.ins C dx [("_things", .ref tt)])) x = some (.ins C dx [("_things", .ref tt)]) := upd_same
    have et4 : (upd H3 x (.ins C dx [("_things", .ref tt)])) tt = some (tupS zs) := by rw [upd_ne ntx]; exact et
    refine (fun (z : ∀ H4 : Hp, But x H H4 → H4 x = some (.ins C dx [("_things", .ref tt)]) → H4 tt = some (tupS zs) → _) => z _ bx ex et4) fun H4 bx ex et => ?_
    have hc4 := bx _ _ hc ncx
    have pa4 : Paired (PrAt H4) ps as := paired_mono (fun q a (e : H a = _) => (show H4 a = _ from bx _ _ e (ne_of e hx fun z => nomatch z))) pa
    have al : as.length = ps.length := pa.length.symm
    -- the set
    refine ⟨_, rfl, c, rfl, ⟨_, SqT.of hc4⟩, fun D hD => ?_⟩
    refine xsc_it (walk_tup (xs := as.map V.ref)) (fun i H' => Same H4 H' ∧ ∃ L : List Mem, H' D = some (XSetO P w D L) ∧ (∀ q ∈ L, H' q.1 = some (tupS q.2)) ∧ (L.map (·.2)).Nodup ∧ L.length ≤ i ∧ ∀ k, k ∈ L.map (·.2) ↔ ∃ p ∈ ps.take i, k = srt p) ?_ (fun i H' _ ⟨s, _⟩ => SqT.of (s _ _ hc4)) ?_ ?_
    · exact ⟨Same.new hD, [], upd_same, fun q hq => (by cases hq), List.nodup_nil, Nat.le_refl _, fun k => by simp⟩
    · rintro i y H5 H6 hi ⟨s5, L, hL, hm, nd, ll, keys⟩ ⟨rfl, hy⟩
      rw [List.length_map] at hi
      obtain ⟨a, ha, rfl⟩ : ∃ a, as[i]? = some a ∧ y = .ref a := by
        rw [List.getElem?_map] at hy
        cases e : as[i]? with
        | none => rw [e] at hy; cases hy
        | some a => rw [e] at hy; injection hy with hy; exact ⟨a, rfl, hy.symm⟩
      obtain ⟨p0, hp0, pat⟩ := paired_get pa4 ha
      have pat := PrAt.same pat s5
      have ok0 := good p0 (List.mem_of_getElem? hp0)
      refine ⟨rfl, _, rfl, a, [p0.1, p0.2], rfl, SqT.of pat, by show 2 < 64; decide, fun ys q pmy ordy hq => ?_⟩
      have ey := srt_one pmy ordy ok0.2.2
      subst ey
      have s6 := Same.new (o := .lst ((srt p0).map V.str)) hq
      refine ⟨q, _, rfl, .inl ⟨SqL.of upd_same, fun T hT => ?_⟩⟩
      have s7 := Same.trans s6 (Same.new (o := .tup ((srt p0).map V.str)) hT)
      have eT : (upd (upd H6 q (.lst ((srt p0).map V.str))) T (.tup ((srt p0).map V.str))) T = some (tupS (srt p0)) := upd_same
      generalize upd (upd H6 q (.lst ((srt p0).map V.str))) T (.tup ((srt p0).map V.str)) = H7 at s7 eT
      have hL7 := s7 _ _ hL
      have notD : ∀ {b : Addr} {zz : List Str}, H7 b = some (tupS zz) → b ≠ D := fun e => ne_of e hL7 fun z => nomatch z
      refine ⟨T, srt p0, L, rfl, SqT.of eT, hL7, fun r hr => SqT.of (s7 _ _ (hm r hr)), by omega, fun L' c1 c2 => ⟨fun b o e => ?_, L', upd_same, ?_⟩⟩
      · rw [upd_ne (ne_of_none e hD)]
        exact s7 _ _ (s5 _ _ e)
      have tk : ∀ k, (∃ p ∈ ps.take (i + 1), k = srt p) ↔ (∃ p ∈ ps.take i, k = srt p) ∨ k = srt p0 := fun k => by
        rw [take_snoc hp0]
        constructor
        · rintro ⟨p, hp, rfl⟩
          rcases List.mem_append.mp hp with z | z
          · exact .inl ⟨p, z, rfl⟩
          · rw [List.mem_singleton.mp z]; exact .inr rfl
        · rintro (⟨p, hp, rfl⟩ | rfl)
          · exact ⟨p, List.mem_append_left _ hp, rfl⟩
          · exact ⟨p0, List.mem_append_right _ (by simp), rfl⟩
      by_cases hk : srt p0 ∈ L.map (·.2)
      · rw [c1 hk]
        refine ⟨fun r hr => ?_, nd, by omega, fun k => ?_⟩
        · rw [upd_ne (notD (s7 _ _ (hm r hr)))]
          exact s7 _ _ (hm r hr)
        · rw [tk, keys]
          exact ⟨.inl, fun z => z.elim id fun e => by rw [e]; exact (keys _).mp hk⟩
      · have pL := c2 hk
        refine ⟨fun r hr => ?_, (pL.map (·.2)).nodup_iff.mpr (List.nodup_cons.mpr ⟨hk, nd⟩), by rw [pL.length_eq, List.length_cons]; omega, fun k => ?_⟩
        · rcases List.mem_cons.mp (pL.mem_iff.mp hr) with e | e
          · subst e
            rw [upd_ne (notD eT)]
            exact eT
          · rw [upd_ne (notD (s7 _ _ (hm r e)))]
            exact s7 _ _ (hm r e)
        · rw [(pL.map (·.2)).mem_iff, List.map_cons, List.mem_cons, tk, keys]
          exact or_comm
    rintro H5 ⟨s5, L, hL, hm, nd, ll, keys⟩
    rw [List.length_map, al, List.take_of_length_le (Nat.le_refl _)] at keys
    have neL : ∀ q ∈ L, q.2 ≠ [] := fun q hq => by
      obtain ⟨p, _, e⟩ := (keys _).mp (List.mem_map.mpr ⟨q, hq, rfl⟩)
      rw [e]
      unfold srt
      split <;> simp
    refine ⟨D, L, rfl, hL, fun q hq => SqT.of (hm q hq), neL, fun L' pl pL few ordL hpl => ?_⟩
    have s6 := Same.new (o := .lst (L'.map fun q => V.ref q.1)) hpl
    refine ⟨pl, _, rfl, .inl ⟨SqL.of upd_same, fun cc hcc => ?_⟩⟩
    have s6 := Same.trans s5 (Same.trans s6 (Same.new (o := .tup (L'.map fun q => V.ref q.1)) hcc))
    have ecc : (upd (upd H5 pl (.lst (L'.map fun q => V.ref q.1))) cc (.tup (L'.map fun q => V.ref q.1))) cc = some (.tup ((L'.map (·.1)).map V.ref)) := by rw [upd_same, List.map_map]; rfl
    have hm6 : ∀ q ∈ L', (upd (upd H5 pl (.lst (L'.map fun q => V.ref q.1))) cc (.tup (L'.map fun q => V.ref q.1))) q.1 = some (tupS q.2) := fun q hq => (Same.trans (Same.new hpl) (Same.new hcc)) _ _ (hm q (pL.mem_iff.mp hq))
    generalize upd (upd H5 pl (.lst (L'.map fun q => V.ref q.1))) cc (.tup (L'.map fun q => V.ref q.1)) = H6 at s6 ecc hm6
    have eks : L'.map (·.2) = (cfl zs (tieP ps)).map pk := by
      have cp := cfl_asc (tie := tieP ps) asc
      refine ltT_one (List.pairwise_map.mpr ordL) cp (perm_nodup_iff ((pL.map (·.2)).nodup_iff.mpr nd) (cp.imp fun {a b} q e => by rw [e, ltT_self] at q; cases q) fun k => ?_)
      rw [(pL.map (·.2)).mem_iff, keys]
      exact srt_cfl asc pm good
    have cp6 := pairs_of eks hm6
    generalize L'.map (·.1) = as' at ecc cp6
    refine ⟨_, rfl, x, C, dx, _, rfl, s6 _ _ ex, KWeb.cl, N.n2, by show 1 < 1000; decide, ?_⟩
    have bx7 : But x H (upd H6 x (.ins C dx [("_things", .ref tt), ("_conflicts", .ref cc)])) := (bx.trans (But.of s6)).trans But.upd
    have ex7 : (upd H6 x (.ins C dx [("_things", .ref tt), ("_conflicts", .ref cc)])) x = some (.ins C dx [("_things", .ref tt), ("_conflicts", .ref cc)]) := upd_same
    have nx6 : ∀ {b : Addr} {vs : List V}, H6 b = some (.tup vs) → b ≠ x := fun e => ne_of e (s6 _ _ ex) fun z => nomatch z
    have et7 : (upd H6 x (.ins C dx [("_things", .ref tt), ("_conflicts", .ref cc)])) tt = some (tupS zs) := by rw [upd_ne ntx]; exact s6 _ _ et
    have ec7 : (upd H6 x (.ins C dx [("_things", .ref tt), ("_conflicts", .ref cc)])) cc = some (.tup (as'.map V.ref)) := by rw [upd_ne (nx6 ecc)]; exact ecc
    have cp7 : Paired (PrAt (upd H6 x (.ins C dx [("_things", .ref tt), ("_conflicts", .ref cc)]))) (cfl zs (tieP ps)) as' := paired_mono (fun q a (e : H6 a = _) => (show upd H6 x _ a = _ from by rw [upd_ne (nx6 e)]; exact e)) cp6
    refine (fun (z : ∀ H7 : Hp, But x H H7 → H7 x = some (.ins C dx [("_things", .ref tt), ("_conflicts", .ref cc)]) → H7 tt = some (tupS zs) → H7 cc = some (.tup (as'.map V.ref)) → Paired (PrAt H7) (cfl zs (tieP ps)) as' → _) => z _ bx7 ex7 et7 ec7 cp7) fun H7 bx7 ex7 et7 ec7 cp7 => ?_
    clear ecc cp6 eks hm6 nx6 keys hm nd ordL pL s6
    refine ⟨_, rfl, x, C, dx, _, _, rfl, ex7, KWeb.cl, N.n1, rfl, tt, rfl, ⟨_, SqT.of et7⟩, fun D2 hD2 => ?_⟩
    have zl : zs.length ≤ 8 := by rw [pm.length_eq]; exact n8
    have T := tieP_tie good
    refine dc_it (walk_tup (xs := zs.map V.str)) (fun i H' => Same H7 H' ∧ ∃ bs, H' D2 = some (.dK (lkv (zs.take i) bs)) ∧ Paired (fun z a => H' a = some (tupS (nbs zs (tieP ps) z))) (zs.take i) bs) ⟨Same.new hD2, [], upd_same, .nil⟩ (fun i H' _ ⟨s, _⟩ => SqT.of (s _ _ et7)) ?_ ?_
    · rintro i y H8 H9 hi ⟨s8, bs, eD, bp⟩ ⟨rfl, hy⟩
      obtain ⟨z, hz, rfl⟩ := str_at hy
      rw [List.length_map] at hi
      have zm := List.mem_of_getElem? hz
      refine ⟨rfl, _, rfl, _, rfl, _, rfl, x, C, dx, _, _, rfl, s8 _ _ ex7, KWeb.cl, N.n2, rfl, z, cc, cfl zs (tieP ps), as', rfl, s8 _ _ ec7, paired_mono (fun _ _ e => PrAt.same e s8) cp7, cfl_len zl, fun q ys H10 s10 pmy ordy eq nq => ?_⟩
      have ey : ys = nbs zs (tieP ps) z := sorted_one (pmy.trans (partners_cfl T asc zm)) ordy (sorted_asc _ (nbs_asc asc))
      subst ey
      have eD10 := s10 _ _ eD
      have bl : (zs.take i).length = bs.length := bp.length
      have nin : z ∉ zs.take i := fun hm => by
        have nd := asc.nd
        rw [← List.take_append_drop (i + 1) zs, take_snoc hz] at nd
        have := (List.nodup_append.mp (List.nodup_append.mp nd).1).2.2 z hm z (by simp)
        exact this rfl
      refine ⟨_, .inr z, rfl, eD10, by rw [lkv_len bl, List.length_take, sizeLine_eq]; omega, fun b o e => ?_, bs ++ [q], ?_, ?_⟩
      · rw [upd_ne (ne_of_none e hD2)]
        exact s10 _ _ (s8 _ _ e)
      · rw [upd_same, lkv_put bl nin, take_snoc hz]
      · rw [take_snoc hz]
        have nD : ∀ {b : Addr} {zz : List Str}, H10 b = some (tupS zz) → b ≠ D2 := fun e => ne_of e eD10 fun z => nomatch z
        exact paired_snoc (paired_mono (fun z' a' (e : H9 a' = _) => (show upd H10 D2 _ a' = _ from by rw [upd_ne (nD (s10 _ _ e))]; exact s10 _ _ e)) bp) (show upd H10 D2 _ q = _ from by rw [upd_ne (nD eq)]; exact eq)
    rintro H8 ⟨s8, bs, eD, bp⟩
    rw [List.length_map, List.take_length] at eD bp
    refine ⟨_, rfl, x, C, dx, _, rfl, s8 _ _ ex7, KWeb.cl, N.n3, by show 2 < 1000; decide, ?_⟩
    have nx : ∀ {b : Addr} {o : HO}, H8 b = some o → (∀ fs, o ≠ .ins C dx fs) → b ≠ x := fun e h => ne_of e (s8 _ _ ex7) (h _)
    refine k zs _ asc pm ((bx7.trans (But.of s8)).trans But.upd) ⟨dx, tt, cc, D2, as', bs, upd_same, ?_, ?_, ?_, ?_, ?_⟩
    · rw [upd_ne (nx (s8 _ _ et7) fun _ z => nomatch z)]; exact s8 _ _ et7
    · rw [upd_ne (nx (s8 _ _ ec7) fun _ z => nomatch z)]; exact s8 _ _ ec7
    · exact paired_mono (fun q a (e : H7 a = _) => (show upd H8 x _ a = _ from by rw [upd_ne (nx (s8 _ _ e) fun _ z => nomatch z)]; exact s8 _ _ e)) cp7
    · rw [upd_ne (nx eD fun _ z => nomatch z)]; exact eD
    · exact paired_mono (fun z a (e : H8 a = _) => (show upd H8 x _ a = _ from by rw [upd_ne (nx e fun _ z => nomatch z)]; exact e)) bp
end
end V0
namespace V0
open PySem PySem.Spec PyProof.Rows L2
/-! ### the law's call, where it is known that no repr is under way -/
section
variable {P : Program} {w : World} {K : PySem.W.Frag} {mg mb : Str → Option Value}
/-- a body that is right at one place is right when the def is called there -/
theorem runs_at {base : Heap} {k : Nat} {f : Addr} {fd : FuncData} {x qual : Str} {st : Stmt} {N ps : List Str} {A : Around} {outer : List Env} {s : Shared} {H : Hp} {args : Args} {us : List Value} {vs : List V} {Q : VK}
    (F : Fun K x qual st f fd) (S : FnScope N ps (defScope st)) (hr : Room (k + 1) A) (e0 : Env0 P w K mg base A outer s H) (hb : BindsTo s fd args (ps.zip us)) (r : Vals vs us) (hl : vs.length = ps.length)
    (body : ∀ cdv : Value, Room k (A.deeper (envOfC qual (defScope st) s.heap.objs.size f cdv)) → ∃ t, PSs (cxOf CX0 P w K mg base N qual (defScope st) f cdv A outer s H E0).nox (defBody st) t ∧ t { nx := fun _ H' => Q .non H', rt := Q } (L2.start N vs) H) :
    codeAny (model P w) A (.call (.ref f) args) (CR CX0 outer P w H s Q E0) s := by
  obtain ⟨oc, od, kV, doc, pm, an, cdv, ct, osl, rfl, lk, hcd⟩ := F.ex
  have inBase : ∀ b o, base.get? b = some o → s.heap.get? b = some o := fun b o z => (e0.bs b o z).1
  have hK : K.In s.heap := e0.mod.kin.keeps inBase
  refine codeAny_call_function hr.depth (hK _ _ lk) rfl S.co S.gen rfl (PySem.W.codeRec_of hK hcd) (hb _ _ _ _ ?_)
  refine wpAny_newFunctionEnv_cells S.kind (fun ⟨n, v⟩ hy => ?_) fun env he s1 C => ?_
  · rcases S.par n (List.of_mem_zip hy).1 with q | q
    · exact .inl q
    · exact .inr ⟨q, PySem.W.cellsFrom_some _ _ _ (.inl q)⟩
  subst he
  refine ⟨(e0.mod.nolimit.keeps inBase).keeps C.toInCall.keep, codeAny_func ?_⟩
  obtain ⟨t, ht, hq⟩ := body cdv (hr.deeper _)
  have I := inv_start (CX := CX0) (P := P) (w := w) (K := K) (mg := mg) (E := E0) (N := N) S hr.hd e0 hl r C
  refine wpAny_mono (ht.nox.run [] s1 _ H _ I hq) (fun fl s' hs => ?_) fun e s' hs => hs
  cases fl with
  | ret u => exact let ⟨v, _, H', J, rv, q⟩ := hs; ⟨v, H', J.os, J.bare, J.base, J.hok, rv, q⟩
  | next => exact let ⟨_, H', J, q⟩ := hs; ⟨.non, H', J.os, J.bare, J.base, J.hok, rfl, q⟩
  | brk => exact let ⟨_, _, _, q⟩ := hs; q.elim
  | cont => exact let ⟨_, _, _, q⟩ := hs; q.elim
end
end V0


namespace V0
open PySem PySem.Spec PyProof.Rows L2
def spThW (C : Addr) : Sp := fun vs H Q _ => ∃ (x dx t c b : Addr), vs = [.ref x] ∧ H x = some (.ins C dx (wbF t c b)) ∧ Q (.ref t) H
def spCfW (C : Addr) : Sp := fun vs H Q _ => ∃ (x dx t c b : Addr), vs = [.ref x] ∧ H x = some (.ins C dx (wbF t c b)) ∧ Q (.ref c) H
def spContW (C : Addr) : Sp := fun vs H Q _ => ∃ (x : Addr) (zs : List Str) (tie : Str → Str → Bool) (z : Str), vs = [.ref x, .str z] ∧ IsWb C H x zs tie ∧ Q (.bl (decide (z ∈ zs))) H
def spCheckThing (C : Addr) : Sp := fun vs H Q _ => ∃ (x : Addr) (zs : List Str) (tie : Str → Str → Bool) (z : Str), vs = [.ref x, .str z] ∧ IsWb C H x zs tie ∧ z ∈ zs ∧ Q .non H
def spBesideW (C : Addr) : Sp := fun vs H Q _ => ∃ (x : Addr) (zs : List Str) (tie : Str → Str → Bool) (z : Str), vs = [.ref x, .str z] ∧ IsWb C H x zs tie ∧ z ∈ zs ∧ ∀ p, H p = some (tupS (nbs zs tie z)) → Q (.ref p) H
def spTied (C : Addr) : Sp := fun vs H Q _ => ∃ (x : Addr) (zs : List Str) (tie : Str → Str → Bool) (y z : Str), vs = [.ref x, .str y, .str z] ∧ IsWb C H x zs tie ∧ y ∈ zs ∧ z ∈ zs ∧ Q (.bl (tie y z)) H
section
variable {P : Program} {w : World} {K : PySem.W.Frag} {mg : Str → Option Value} {base : Heap} {C : Addr}
abbrev s_Web_things : Stmt := inClass (top 17) 1
abbrev N_Web_things : List Str := ["self"]
abbrev P_Web_things : List Str := ["self"]
theorem sc_Web_things : FnScope N_Web_things P_Web_things (defScope s_Web_things) := ⟨rfl, rfl, rfl, by decide +kernel, rfl, by decide +kernel, by decide +kernel⟩
theorem ok_thW {p f : Addr} {fd : FuncData} (KWeb : Kls K mg "Web" C) (N : WbN K C) (Y : Pr K "Web.things" "things" C s_Web_things P_Web_things p f fd) : FnOk P w K mg base CX0 1 f fd P_Web_things (spThW C) := by
  refine Y.F.ok sc_Web_things (fun vs H Q E h => ?_) (fun cdv A outer s H vs Q E hr h => ?_)
  · obtain ⟨x, dx, t, c, b, rfl, _⟩ := h
    rfl
  · obtain ⟨x, dx, t, c, b, rfl, hx, k⟩ := h
    exact ⟨_, (pss_one (ps_ret (pe_fld (pv 0) rfl))), _, rfl, x, C, dx, _, _, rfl, hx, KWeb.cl, N.n1, rfl, k⟩
abbrev s_Web_conflicts : Stmt := inClass (top 17) 2
abbrev N_Web_conflicts : List Str := ["self"]
abbrev P_Web_conflicts : List Str := ["self"]
theorem sc_Web_conflicts : FnScope N_Web_conflicts P_Web_conflicts (defScope s_Web_conflicts) := ⟨rfl, rfl, rfl, by decide +kernel, rfl, by decide +kernel, by decide +kernel⟩
theorem ok_cfW {p f : Addr} {fd : FuncData} (KWeb : Kls K mg "Web" C) (N : WbN K C) (Y : Pr K "Web.conflicts" "conflicts" C s_Web_conflicts P_Web_conflicts p f fd) : FnOk P w K mg base CX0 1 f fd P_Web_conflicts (spCfW C) := by
  refine Y.F.ok sc_Web_conflicts (fun vs H Q E h => ?_) (fun cdv A outer s H vs Q E hr h => ?_)
  · obtain ⟨x, dx, t, c, b, rfl, _⟩ := h
    rfl
  · obtain ⟨x, dx, t, c, b, rfl, hx, k⟩ := h
    exact ⟨_, (pss_one (ps_ret (pe_fld (pv 0) rfl))), _, rfl, x, C, dx, _, _, rfl, hx, KWeb.cl, N.n2, rfl, k⟩
abbrev s_Web_contains : Stmt := inClass (top 17) 13
abbrev N_Web_contains : List Str := ["self", "value"]
abbrev P_Web_contains : List Str := ["self", "value"]
theorem sc_Web_contains : FnScope N_Web_contains P_Web_contains (defScope s_Web_contains) := ⟨rfl, rfl, rfl, by decide +kernel, rfl, by decide +kernel, by decide +kernel⟩
theorem ok_contW {f : Addr} {fd : FuncData} (B : Bl mg) (KWeb : Kls K mg "Web" C) (N : WbN K C) (Y : Md K "Web.__contains__" "__contains__" C s_Web_contains P_Web_contains f fd) : FnOk P w K mg base CX0 1 f fd P_Web_contains (spContW C) := by
  refine Y.F.ok sc_Web_contains (fun vs H Q E h => ?_) (fun cdv A outer s H vs Q E hr h => ?_)
  · obtain ⟨x, zs, tie, z, rfl, _⟩ := h
    rfl
  · obtain ⟨x, zs, tie, z, rfl, ⟨dx, t, c, b, as, bs, W⟩, k⟩ := h
    refine ⟨_, (pss_one (ps_ret (pe_and (pe_callB call_is (by rfl) B.b_isinstance (by decide +kernel) (pa_cons (pv 1) (pa_cons (pe_ty (n := "str") (by rfl) B.b_str (by decide +kernel)) pa_nil))) (pe_one (pe_cmpR op_in_seq (pv 1) (pe_fld (pv 0) rfl) (by rfl)))))), ?_⟩
    refine ⟨_, rfl, _, .str, .str, rfl, .str _, by decide, _, rfl, iteT ⟨_, rfl, _, rfl, x, C, dx, _, _, rfl, W.at_, KWeb.cl, N.n1, rfl, t, _, rfl, .inr (SqT.of W.th), rfl, flat_map zs, ?_⟩⟩
    rw [inV_str]
    exact k
abbrev s_check_thing : Stmt := top 22
abbrev N_check_thing : List Str := ["web", "thing"]
abbrev P_check_thing : List Str := ["web", "thing"]
theorem sc_check_thing : FnScope N_check_thing P_check_thing (defScope s_check_thing) := ⟨rfl, rfl, rfl, by decide +kernel, rfl, by decide +kernel, by decide +kernel⟩
theorem ok_check_thing {f : Addr} {fd : FuncData} (O_cont : OwnM P w K mg base CX0 1 C "__contains__" (spContW C)) (D : Df K mg "check_thing" s_check_thing P_check_thing f fd) : FnOk P w K mg base CX0 2 f fd P_check_thing (spCheckThing C) := by
  refine D.F.ok sc_check_thing (fun vs H Q E h => ?_) (fun cdv A outer s H vs Q E hr h => ?_)
  · obtain ⟨x, zs, tie, z, rfl, _⟩ := h
    rfl
  · obtain ⟨x, zs, tie, z, rfl, W, hz, k⟩ := h
    refine ⟨_, (pss_one (ps_if (pt_cmpR (op_notInO O_cont (hr.mono (by decide)) pass0) (pv 1) (pv 0) (by rfl)) (pss_one ps_never) pss_nil)), ?_⟩
    obtain ⟨dx, t, c, b, as, bs, W'⟩ := id W
    refine ⟨_, rfl, _, rfl, x, dx, _, rfl, W'.at_, x, zs, tie, z, rfl, W, _, rfl, _, rfl, ?_⟩
    rw [decide_eq_true hz]
    exact iteF k
abbrev s_Web_beside : Stmt := inClass (top 17) 3
abbrev N_Web_beside : List Str := ["self", "thing"]
abbrev P_Web_beside : List Str := ["self", "thing"]
theorem sc_Web_beside : FnScope N_Web_beside P_Web_beside (defScope s_Web_beside) := ⟨rfl, rfl, rfl, by decide +kernel, rfl, by decide +kernel, by decide +kernel⟩
theorem ok_besideW {f f1 : Addr} {fd fd1 : FuncData} (KWeb : Kls K mg "Web" C) (N : WbN K C) (O_cont : OwnM P w K mg base CX0 1 C "__contains__" (spContW C)) (D_check_thing : Df K mg "check_thing" s_check_thing P_check_thing f1 fd1) (Y : Md K "Web.beside" "beside" C s_Web_beside P_Web_beside f fd) : FnOk P w K mg base CX0 3 f fd P_Web_beside (spBesideW C) := by
  have G_check_thing : FnOk P w K mg base CX0 2 f1 fd1 P_check_thing (spCheckThing C) := ok_check_thing O_cont D_check_thing
  refine Y.F.ok sc_Web_beside (fun vs H Q E h => ?_) (fun cdv A outer s H vs Q E hr h => ?_)
  · obtain ⟨x, zs, tie, z, rfl, _⟩ := h
    rfl
  · obtain ⟨x, zs, tie, z, rfl, W, hz, k⟩ := h
    refine ⟨_, (pss_cons (ps_expr (pe_call G_check_thing (hr.mono (by decide)) (by rfl) D_check_thing.g D_check_thing.F.kp D_check_thing.b .nil pass0 (pa_cons (pv 0) (pa_cons (pv 1) pa_nil))))
      (pss_one (ps_ret (pe_dget (hu_of hr) (pe_fld (pv 0) rfl) (pv 1) (fun _ _ => rfl))))), ?_⟩
    obtain ⟨dx, t, c, b, as, bs, W'⟩ := id W
    obtain ⟨p, h1, h2⟩ := lkv_at W'.bp hz
    exact ⟨_, rfl, _, rfl, x, zs, tie, z, rfl, W, hz, _, rfl, x, C, dx, _, _, rfl, W'.at_, KWeb.cl, N.n3, rfl, _, rfl, b, _, rfl, .inl ⟨_, .inr z, .inl W'.bd, rfl, h1.symm⟩, k p h2⟩
abbrev s_Web_iter : Stmt := inClass (top 17) 15
abbrev N_Web_iter : List Str := ["self"]
abbrev P_Web_iter : List Str := ["self"]
theorem sc_Web_iter : FnScope N_Web_iter P_Web_iter (defScope s_Web_iter) := ⟨rfl, rfl, rfl, by decide +kernel, rfl, by decide +kernel, by decide +kernel⟩
theorem ok_iterW {f : Addr} {fd : FuncData} (M : Bm mg) (KWeb : Kls K mg "Web" C) (N : WbN K C) (Y : Md K "Web.__iter__" "__iter__" C s_Web_iter P_Web_iter f fd) : ItM P w K mg base 1 C "_things" := by
  refine ⟨f, Y.m.at_, Y.m.fn, fun A outer s H a dx t fs xs hr e0 ha hl ht => ?_⟩
  have inBase : ∀ b o, base.get? b = some o → s.heap.get? b = some o := fun b o z => (e0.bs b o z).1
  have b := Y.b s [.ref a] (e0.mod.kin.keeps inBase) rfl
  refine runs_at (k := 0) (vs := [.ref a]) (us := [.ref a]) Y.F sc_Web_iter hr e0 b (.cons rfl .nil) rfl fun cdv hr' => ?_
  exact ⟨_, (pss_one (ps_ret (pe_callB call_iterT (by rfl) M.b_iter (by decide +kernel) (pa_cons (pe_fld (pv 0) rfl) pa_nil)))), _, rfl, a, C, dx, fs, _, rfl, ha, KWeb.cl, N.n1, hl, t, xs, rfl, ht, fun it hn hz => ⟨it, rfl, hz, hn, rfl⟩⟩
end
end V0
namespace V0
open PySem PySem.Spec PyProof.Rows L2
theorem dp_strs {K : PySem.W.Frag} {H : Hp} : ∀ zs : List Str, DpAll K H (zs.map V.str) (zs.map PyData.str)
  | [] => .nil
  | z :: zs => .cons (.str z) (dp_strs zs)
theorem low_ok {z : Str} (h : nameB (.str z) = true) : PyData.strOk z = true := by
  have hk : nameB (.str z) = (decide (1 ≤ z.length ∧ z.length ≤ 8) && z.cps.toList.all low26) := rfl
  rw [hk, Bool.and_eq_true] at h
  have q := List.all_eq_true.mp h.2
  show z.cps.all (· < 0x110000) = true
  rw [Array.all_eq_true_iff_forall_mem]
  intro c hc
  have qc := q c (Array.mem_toList_iff.mpr hc)
  unfold low26 at qc
  simp at qc ⊢
  omega
theorem canLay_strs : ∀ zs : List Str, (∀ z ∈ zs, PyData.strOk z = true) → PyData.canLayAll0 (zs.map PyData.str) = true
  | [], _ => rfl
  | z :: zs, h => by
    show (PyData.strOk z && PyData.canLayAll0 (zs.map PyData.str)) = true
    rw [h z (by simp), canLay_strs zs fun y hy => h y (by simp [hy])]
    rfl
theorem depth_strs : ∀ zs : List Str, PyData.depthAll (zs.map PyData.str) = 0
  | [] => rfl
  | z :: zs => by
    show max 0 (PyData.depthAll (zs.map PyData.str)) = 0
    rw [depth_strs zs]
    rfl
theorem sh_strs (zs : List Str) (h : ∀ z ∈ zs, nameB (.str z) = true) : SeqAt.shaped (.tuple (zs.map PyData.str)) = true := by
  show (PyData.canLayAll0 (zs.map PyData.str) && decide (PyData.depthAll (zs.map PyData.str) + 1 ≤ 64)) = true
  rw [canLay_strs zs fun z hz => low_ok (h z hz), depth_strs]
  rfl
theorem eqvAll_strs : ∀ zs ys : List Str, PyData.eqvAll (zs.map PyData.str) (ys.map PyData.str) = decide (zs = ys)
  | [], [] => by simp [PyData.eqvAll]
  | [], _ :: _ => by simp [PyData.eqvAll]
  | _ :: _, [] => by simp [PyData.eqvAll]
  | z :: zs, y :: ys => by
    rw [List.map_cons, List.map_cons, PyData.eqvAll, eqvAll_strs zs ys]
    rw [show PyData.eqv (.str z) (.str y) = (z == y) from by simp [PyData.eqv]]
    by_cases h : z = y
    · subst h; simp
    · simp [h]
/-- pairs as data -/
def dP (p : Pai) : PyData := .tuple [.str p.1, .str p.2]
theorem eqv_dP (p q : Pai) : PyData.eqv (dP p) (dP q) = decide (p = q) := by
  have := eqvAll_strs [p.1, p.2] [q.1, q.2]
  unfold dP
  rw [PyData.eqv]
  rw [show ([PyData.str p.1, PyData.str p.2] : List PyData) = [p.1, p.2].map PyData.str from rfl, show ([PyData.str q.1, PyData.str q.2] : List PyData) = [q.1, q.2].map PyData.str from rfl, this, decide_eq_decide]
  obtain ⟨a, b⟩ := p
  obtain ⟨c, d⟩ := q
  simp
theorem eqvAll_dP : ∀ ps qs : List Pai, PyData.eqvAll (ps.map dP) (qs.map dP) = decide (ps = qs)
  | [], [] => by simp [PyData.eqvAll]
  | [], _ :: _ => by simp [PyData.eqvAll]
  | _ :: _, [] => by simp [PyData.eqvAll]
  | p :: ps, q :: qs => by
    rw [List.map_cons, List.map_cons, PyData.eqvAll, eqvAll_dP ps qs, eqv_dP]
    by_cases h : p = q
    · subst h; simp
    · simp [h]
theorem dp_pr {K : PySem.W.Frag} {H : Hp} {p : Pai} {a : Addr} (h : PrAt H p a) : Dp K H (.ref a) (dP p) := .tup (SqT.of h) (dp_strs [p.1, p.2])
theorem dp_prs {K : PySem.W.Frag} {H : Hp} : ∀ {ps : List Pai} {as : List Addr}, Paired (PrAt H) ps as → DpAll K H (as.map V.ref) (ps.map dP)
  | _, _, .nil => .nil
  | _, _, .cons h q => .cons (dp_pr h) (dp_prs q)
/-- good names on both sides -/
def PrN (p : Pai) : Prop := nameB (.str p.1) = true ∧ nameB (.str p.2) = true
theorem canLay_dP : ∀ ps : List Pai, (∀ p ∈ ps, PrN p) → PyData.canLayAll0 (ps.map dP) = true
  | [], _ => rfl
  | p :: ps, h => by
    have hp := h p (by simp)
    show (PyData.canLayAll0 ([p.1, p.2].map PyData.str) && PyData.canLayAll0 (ps.map dP)) = true
    rw [canLay_strs [p.1, p.2] (fun z hz => by
      rcases List.mem_cons.mp hz with e | e
      · rw [e]; exact low_ok hp.1
      · rw [List.mem_singleton.mp e]; exact low_ok hp.2), canLay_dP ps fun q hq => h q (by simp [hq])]
    rfl
theorem depth_dP : ∀ ps : List Pai, PyData.depthAll (ps.map dP) ≤ 1
  | [] => Nat.zero_le _
  | p :: ps => by
    have ih := depth_dP ps
    show max (PyData.depthAll ([p.1, p.2].map PyData.str) + 1) (PyData.depthAll (ps.map dP)) ≤ 1
    rw [depth_strs]
    omega
theorem sh_dP (ps : List Pai) (h : ∀ p ∈ ps, PrN p) : SeqAt.shaped (.tuple (ps.map dP)) = true := by
  show (PyData.canLayAll0 (ps.map dP) && decide (PyData.depthAll (ps.map dP) + 1 ≤ 64)) = true
  have := depth_dP ps
  rw [canLay_dP ps h, decide_eq_true (by omega)]
  rfl
theorem shL_dP (ps : List Pai) (h : ∀ p ∈ ps, PrN p) : SeqAt.shaped (.list (ps.map dP)) = true := by
  show (PyData.canLayAll0 (ps.map dP) && decide (PyData.depthAll (ps.map dP) + 1 ≤ 64)) = true
  have := depth_dP ps
  rw [canLay_dP ps h, decide_eq_true (by omega)]
  rfl
end V0

namespace V0
open PySem PySem.Spec PyProof.Rows L2
/-- names of things, in their order -/
structure Zs (zs : List Str) : Prop where
  asc : Asc zs
  nm : ∀ z ∈ zs, nameB (.str z) = true ∧ z.length ≤ 8
  l1 : 1 ≤ zs.length
  l8 : zs.length ≤ 8
/-- a web as the law means it -/
structure Wbs (C : Addr) (H : Hp) (x : Addr) (zs : List Str) (tie : Str → Str → Bool) : Prop where
  w : IsWb C H x zs tie
  z : Zs zs
  t : Tie tie
theorem Wbs.same {C : Addr} {H H' : Hp} {x : Addr} {zs : List Str} {tie : Str → Str → Bool} (h : Wbs C H x zs tie) (s : Same H H') : Wbs C H' x zs tie := ⟨h.w.same s, h.z, h.t⟩
theorem cfl_nm {zs : List Str} {tie : Str → Str → Bool} (h : Zs zs) : ∀ p ∈ cfl zs tie, PrN p ∧ p.1.length ≤ 8 ∧ p.2.length ≤ 8 := fun p hp => by
  have m := (mem_cfl h.asc).mp (show (p.1, p.2) ∈ _ from hp)
  exact ⟨⟨(h.nm _ m.1).1, (h.nm _ m.2.1).1⟩, (h.nm _ m.1).2, (h.nm _ m.2.1).2⟩
/-- what a web is compared with -/
def EqW (K : PySem.W.Frag) (C : Addr) (H : Hp) (zs : List Str) (tie : Str → Str → Bool) (y : V) (b : Bool) : Prop :=
  (∃ t : Kd, TyX K H y (.type t.nm) ∧ b = false) ∨ ∃ c zs' tie', y = .ref c ∧ Wbs C H c zs' tie' ∧ b = (decide (zs = zs') && decide (cfl zs tie = cfl zs' tie'))
def spEqW (K : PySem.W.Frag) (C : Addr) : Sp := fun vs H Q _ => ∃ (x : Addr) (zs : List Str) (tie : Str → Str → Bool) (y : V) (b : Bool), vs = [.ref x, y] ∧ Wbs C H x zs tie ∧ EqW K C H zs tie y b ∧ Q (.bl b) H
/-- the text of conflicts -/
def cfText (ps : List Pai) : Str := if ps = [] then Str.ofString "-" else Txt.join (Str.ofString " ") (ps.map fun p => p.1 ++ Str.ofString "-" ++ p.2)
def wbText (zs : List Str) (tie : Str → Str → Bool) : Str := Str.ofString "web of " ++ Txt.join (Str.ofString " ") zs ++ Str.ofString ": " ++ cfText (cfl zs tie)
theorem join_len (sep : Str) : ∀ l : List Str, (Txt.join sep l).length ≤ (l.map (·.length)).sum + l.length * sep.length
  | [] => by show (Str.empty).length ≤ _; exact Nat.zero_le _
  | a :: r => by
    show (PySem.Builtin.Str.glued sep (a :: r)).length ≤ _
    rw [StrLaws.glued_eq_join, len_join_cons, List.length_cons, Nat.succ_mul]
    omega
theorem sum8 {zs : List Str} (h : ∀ z ∈ zs, z.length ≤ 8) : (zs.map (·.length)).sum ≤ zs.length * 8 := by
  induction zs with
  | nil => exact Nat.le_refl _
  | cons z zs ih =>
    have i1 := ih fun y hy => h y (by simp [hy])
    have i2 := h z (by simp)
    rw [List.map_cons, List.sum_cons, List.length_cons, Nat.succ_mul]
    omega
theorem sum17 {ps : List Pai} (h : ∀ p ∈ ps, p.1.length ≤ 8 ∧ p.2.length ≤ 8) : ((ps.map fun p => p.1 ++ Str.ofString "-" ++ p.2).map (·.length)).sum ≤ ps.length * 17 := by
  induction ps with
  | nil => exact Nat.le_refl _
  | cons p ps ih =>
    have i1 := ih fun y hy => h y (by simp [hy])
    have i2 := h p (by simp)
    have l1 : (Str.ofString "-").length = 1 := by decide +kernel
    have lp : (p.1 ++ Str.ofString "-" ++ p.2).length ≤ 17 := by
      rw [PySem.Str.length_append, PySem.Str.length_append]
      omega
    rw [List.map_cons, List.map_cons, List.sum_cons, List.length_cons, Nat.succ_mul]
    omega
theorem cfText_len {ps : List Pai} (h : ∀ p ∈ ps, p.1.length ≤ 8 ∧ p.2.length ≤ 8) (l : ps.length < 64) : (cfText ps).length ≤ 1200 := by
  unfold cfText
  split
  · decide +kernel
  · have q := join_len (Str.ofString " ") (ps.map fun p => p.1 ++ Str.ofString "-" ++ p.2)
    have q2 := sum17 h
    have l2 : (Str.ofString " ").length = 1 := by decide +kernel
    rw [List.length_map, l2] at q
    omega
def tPairF : TE := fun σ H Q => tJs [tFmt (tVar 1), tC (.str "-"), tFmt (tVar 2)] Str.empty σ H fun out H1 => Q (.str out) H1
theorem empty_app (a : Str) : Str.empty ++ a = a := by
  refine str_ext ?_
  rw [PySem.Str.cps_append]
  simp [Str.empty]
def spCfText : Sp := fun vs H Q _ => ∃ (c : Addr) (ps : List Pai) (as : List Addr), vs = [.ref c] ∧ H c = some (.tup (as.map V.ref)) ∧ Paired (PrAt H) ps as ∧ (∀ p ∈ ps, PrN p ∧ p.1.length ≤ 8 ∧ p.2.length ≤ 8) ∧ ps.length < 64 ∧ ∀ H', Same H H' → Q (.str (cfText ps)) H'
section
variable {P : Program} {w : World} {K : PySem.W.Frag} {mg : Str → Option Value} {base : Heap} {C : Addr}
abbrev s_Web_eq : Stmt := inClass (top 17) 16
abbrev N_Web_eq : List Str := ["self", "other"]
abbrev P_Web_eq : List Str := ["self", "other"]
theorem sc_Web_eq : FnScope N_Web_eq P_Web_eq (defScope s_Web_eq) := ⟨rfl, rfl, rfl, by decide +kernel, rfl, by decide +kernel, by decide +kernel⟩
theorem ok_eqW {f : Addr} {fd : FuncData} (B : Bl mg) (KWeb : Kls K mg "Web" C) (N : WbN K C) (Y : Md K "Web.__eq__" "__eq__" C s_Web_eq P_Web_eq f fd) : FnOk P w K mg base CX0 1 f fd P_Web_eq (spEqW K C) := by
  refine Y.F.ok sc_Web_eq (fun vs H Q E h => ?_) (fun cdv A outer s H vs Q E hr h => ?_)
  · obtain ⟨x, zs, tie, y, b, rfl, _⟩ := h
    rfl
  · obtain ⟨x, zs, tie, y, b, rfl, ⟨⟨dx, t, c, bb, as, bs, W⟩, hz, ht⟩, hy, k⟩ := h
    refine ⟨_, (pss_one (ps_ret (pe_and (pe_callB call_isi (by rfl) B.b_isinstance (by decide +kernel) (pa_cons (pv 1) (pa_cons (pe_gv rfl KWeb.gv) pa_nil))) (pe_and (pe_cmpR (op_eqD hr.units) (pe_fld (pv 0) rfl) (pe_fld (pv 1) rfl) (nomark _)) (pe_one (pe_cmpR (op_eqD hr.units) (pe_fld (pv 0) rfl) (pe_fld (pv 1) rfl) (nomark _))))))), ?_⟩
    rcases hy with ⟨tt, ty, rfl⟩ | ⟨y, zs', tie', rfl, ⟨⟨dx', t', c', bb', as', bs', W'⟩, hz', ht'⟩, rfl⟩
    · exact ⟨_, rfl, y, _, _, _, _, rfl, .own C, ty, KWeb.kd tt, _, rfl, iteF k⟩
    · refine ⟨_, rfl, _, _, _, _, _, rfl, .own C, KWeb.ins W'.at_, Kls.self, _, rfl, iteT ?_⟩
      refine ⟨_, rfl, x, C, dx, _, _, rfl, W.at_, KWeb.cl, N.n1, rfl, _, rfl, y, C, dx', _, _, rfl, W'.at_, KWeb.cl, N.n1, rfl, _, _, .tup (SqT.of W.th) (dp_strs zs), .tup (SqT.of W'.th) (dp_strs zs'), sh_strs zs (fun z h => (hz.nm z h).1), sh_strs zs' (fun z h => (hz'.nm z h).1), ?_⟩
      rw [show PyData.eqv (.tuple (zs.map PyData.str)) (.tuple (zs'.map PyData.str)) = decide (zs = zs') from by rw [PyData.eqv, eqvAll_strs]]
      refine ⟨_, rfl, ite2 (fun e => ?_) (fun e => ?_)⟩
      · rw [e, Bool.true_and] at k
        refine ⟨_, rfl, x, C, dx, _, _, rfl, W.at_, KWeb.cl, N.n2, rfl, _, rfl, y, C, dx', _, _, rfl, W'.at_, KWeb.cl, N.n2, rfl, _, _, .tup (SqT.of W.cf) (dp_prs W.cp), .tup (SqT.of W'.cf) (dp_prs W'.cp), sh_dP _ (fun p h => (cfl_nm hz p h).1), sh_dP _ (fun p h => (cfl_nm hz' p h).1), ?_⟩
        rw [show PyData.eqv (.tuple ((cfl zs tie).map dP)) (.tuple ((cfl zs' tie').map dP)) = decide (cfl zs tie = cfl zs' tie') from by rw [PyData.eqv, eqvAll_dP]]
        exact k
      · rw [show decide (zs = zs') = false from by simpa using e, Bool.false_and] at k
        exact k
abbrev s__conflicts_text : Stmt := top 28
abbrev N__conflicts_text : List Str := ["conflicts", "one", "other"]
abbrev P__conflicts_text : List Str := ["conflicts"]
theorem sc__conflicts_text : FnScope N__conflicts_text P__conflicts_text (defScope s__conflicts_text) := ⟨rfl, rfl, rfl, by decide +kernel, rfl, by decide +kernel, by decide +kernel⟩
theorem ok_cfText {f : Addr} {fd : FuncData} (D : Df K mg "_conflicts_text" s__conflicts_text P__conflicts_text f fd) : FnOk P w K mg base CX0 1 f fd P__conflicts_text spCfText := by
  refine D.F.ok sc__conflicts_text (fun vs H Q E h => ?_) (fun cdv A outer s H vs Q E hr h => ?_)
  · obtain ⟨c, ps, as, rfl, _⟩ := h
    rfl
  · obtain ⟨c, ps, as, rfl, hc, pa, nm, len, k⟩ := h
    refine ⟨_, (pss_cons (ps_if (pt_cmpR (op_eqD hr.units) (pv 0) (pe_tup pa_nil) (nomark _)) (pss_one (ps_ret pe_str)) pss_nil)
      (pss_one (ps_ret (pe_join pe_str (pe_lc (own := [("one", 1), ("other", 2)]) (g := gTup K 2 (gCons (gName 1) (gCons (gName 2) (gNil)))) (tt := tYes) rfl sc__conflicts_text.nd (pi_tup (pv 0)) (blkOk_by (own := [("one", 1), ("other", 2)]) (N := N__conflicts_text) (sc := defScope s__conflicts_text) (by decide +kernel)) (fun _ _ _ _ _ => (pg_tup rfl (pgs_cons (pg_name (i := 1) sc__conflicts_text.nd rfl (Or.inl rfl)) (pgs_cons (pg_name (i := 2) sc__conflicts_text.nd rfl (Or.inl rfl)) pgs_nil)))) (fun _ _ _ _ _ => pts_nil) (fun _ _ _ _ _ => (show PE _ _ tPairF from by exact (pe_joined (.cons (pe_fmt (pv 1)) (.cons pe_str (.cons (pe_fmt (pv 2)) .nil))))))))))), ?_⟩
    have al : as.length = ps.length := pa.length.symm
    refine ⟨_, rfl, Nat.zero_le _, fun e he => ?_⟩
    have s0 := Same.new (o := .tup []) he
    refine ⟨_, _, .tup (SqT.of (s0 _ _ hc)) (dp_prs (paired_mono (fun _ _ q => PrAt.same q s0) pa)), .tup (SqT.of upd_same) .nil, sh_dP ps (fun p h => (nm p h).1), rfl, _, rfl, ?_⟩
    rw [show PyData.eqv (.tuple (ps.map dP)) (.tuple []) = decide (ps = []) from by rw [PyData.eqv]; exact eqvAll_dP ps []]
    generalize upd H e (.tup []) = H0 at s0
    by_cases em : ps = []
    · rw [decide_eq_true em]
      have := k H0 s0
      unfold cfText at this
      rw [if_pos em] at this
      exact this
    rw [decide_eq_false em]
    have k' : ∀ H', Same H H' → Q (.str (Txt.join (Str.ofString " ") (ps.map fun p => p.1 ++ Str.ofString "-" ++ p.2))) H' := fun H' s => by
      have := k H' s
      unfold cfText at this
      rwa [if_neg em] at this
    have hc0 := s0 _ _ hc
    have l1 : (Str.ofString "-").length = 1 := by decide +kernel
    have l2 : (Str.ofString " ").length = 1 := by decide +kernel
    refine ite2 (fun z => by cases z) (fun _ => ?_)
    refine ⟨⟨_, rfl⟩, _, rfl, c, rfl, ⟨_, SqT.of hc0⟩, fun L hL => ?_⟩
    refine lc_it (walk_tup (xs := as.map V.ref)) (fun i H' => Same H0 H' ∧ H' L = some (.lst (((ps.take i).map fun p => p.1 ++ Str.ofString "-" ++ p.2).map V.str))) ⟨Same.new hL, upd_same⟩ (fun i H' _ ⟨s1, _⟩ => SqT.of (s1 _ _ hc0)) ?_ ?_
    · rintro i x H1 H2 hi ⟨s1, e1⟩ ⟨rfl, hx⟩
      rw [List.length_map] at hi
      obtain ⟨a, ha, rfl⟩ : ∃ a, as[i]? = some a ∧ x = .ref a := by
        rw [List.getElem?_map] at hx
        cases e : as[i]? with
        | none => rw [e] at hx; cases hx
        | some a => rw [e] at hx; injection hx with hx; exact ⟨a, rfl, hx.symm⟩
      obtain ⟨p, hp, pat⟩ := paired_get pa ha
      have pat := PrAt.same (PrAt.same pat s0) s1
      obtain ⟨_, n1, n2⟩ := nm p (List.mem_of_getElem? hp)
      refine ⟨a, [.str p.1, .str p.2], rfl, SqT.of pat, rfl, _, _, rfl, _, _, rfl, rfl, rfl, _, rfl, .inl ⟨_, rfl, by rw [sizeLine_eq]; omega, _, rfl, by rw [empty_app, sizeLine_eq]; omega, ?_⟩⟩
      rw [empty_app]
      refine ⟨_, rfl, by rw [PySem.Str.length_append, sizeLine_eq]; omega, ?_⟩
      refine ⟨_, rfl, .inl ⟨_, rfl, by rw [sizeLine_eq]; omega, _, rfl, by rw [PySem.Str.length_append, PySem.Str.length_append, sizeLine_eq]; omega, _, e1, ?_, ?_, ?_⟩⟩
      · rw [List.length_map, List.length_map, List.length_take, sizeLine_eq]
        omega
      · exact fun b o e => by rw [upd_ne (ne_of_none e hL)]; exact s1 b o e
      · rw [upd_same, take_snoc hp, List.map_append, List.map_append]
        rfl
    · rintro H1 ⟨s1, e1⟩
      rw [List.length_map, List.take_of_length_le (by omega)] at e1
      refine ⟨_, L, ps.map fun p => p.1 ++ Str.ofString "-" ++ p.2, rfl, rfl, .inl (SqL.of e1), ?_, k' H1 (Same.trans s0 s1)⟩
      have q := sum17 (ps := ps) fun p hp => (nm p hp).2
      rw [List.length_map, l2]
      omega
abbrev s_Web_str : Stmt := inClass (top 17) 17
abbrev N_Web_str : List Str := ["self"]
abbrev P_Web_str : List Str := ["self"]
theorem sc_Web_str : FnScope N_Web_str P_Web_str (defScope s_Web_str) := ⟨rfl, rfl, rfl, by decide +kernel, rfl, by decide +kernel, by decide +kernel⟩
def spTextW (C : Addr) : Sp := fun vs H Q _ => ∃ (x : Addr) (zs : List Str) (tie : Str → Str → Bool), vs = [.ref x] ∧ Wbs C H x zs tie ∧ ∀ H', Same H H' → Q (.str (wbText zs tie)) H'
theorem ok_textW {f f1 : Addr} {fd fd1 : FuncData} (KWeb : Kls K mg "Web" C) (N : WbN K C) (D__conflicts_text : Df K mg "_conflicts_text" s__conflicts_text P__conflicts_text f1 fd1) (Y : Md K "Web.__str__" "__str__" C s_Web_str P_Web_str f fd) : FnOk P w K mg base CX0 2 f fd P_Web_str (spTextW C) := by
  have G__conflicts_text : FnOk P w K mg base CX0 1 f1 fd1 P__conflicts_text spCfText := ok_cfText D__conflicts_text
  refine Y.F.ok sc_Web_str (fun vs H Q E h => ?_) (fun cdv A outer s H vs Q E hr h => ?_)
  · obtain ⟨x, zs, tie, rfl, _⟩ := h
    rfl
  · obtain ⟨x, zs, tie, rfl, ⟨⟨dx, t, c, bb, as, bs, W⟩, hz, ht⟩, k⟩ := h
    refine ⟨_, (pss_one (ps_ret (pe_joined (.cons pe_str (.cons (pe_fmt (pe_join pe_str (pe_fld (pv 0) rfl))) (.cons pe_str (.cons (pe_fmt (pe_call G__conflicts_text (hr.mono (by decide)) (by rfl) D__conflicts_text.g D__conflicts_text.F.kp D__conflicts_text.b .nil pass0 (pa_cons (pe_fld (pv 0) rfl) pa_nil))) .nil))))))), ?_⟩
    have m1 : (Str.ofString "web of ").length = 7 := by decide +kernel
    have m2 : (Str.ofString " ").length = 1 := by decide +kernel
    have m3 : (Str.ofString ": ").length = 2 := by decide +kernel
    have z8 := hz.l8
    have q1 := sum8 (zs := zs) fun z h => (hz.nm z h).2
    have q2 := join_len (Str.ofString " ") zs
    rw [m2] at q2
    have cn := cfl_nm (tie := tie) hz
    have cl := cfl_len (tie := tie) z8
    have q3 := cfText_len (fun p h => (cn p h).2) cl
    refine ⟨_, rfl, by rw [empty_app, m1, sizeLine_eq]; omega, ?_⟩
    rw [empty_app]
    refine ⟨⟨_, rfl⟩, _, rfl, x, C, dx, _, _, rfl, W.at_, KWeb.cl, N.n1, rfl, _, t, zs, rfl, rfl, .inr (SqT.of W.th), by rw [m2]; omega, .inl ⟨_, rfl, by rw [sizeLine_eq]; omega, _, rfl, by rw [PySem.Str.length_append, sizeLine_eq]; omega, ?_⟩⟩
    refine ⟨_, rfl, by rw [PySem.Str.length_append, PySem.Str.length_append, sizeLine_eq]; omega, ?_⟩
    refine ⟨_, rfl, x, C, dx, _, _, rfl, W.at_, KWeb.cl, N.n2, rfl, c, cfl zs tie, as, rfl, W.cf, W.cp, cn, cl, fun H1 s1 => .inl ⟨_, rfl, by rw [sizeLine_eq]; omega, _, rfl, by rw [PySem.Str.length_append, PySem.Str.length_append, PySem.Str.length_append, sizeLine_eq]; omega, ?_⟩⟩
    exact k H1 s1
end
end V0
namespace V0
open PySem PySem.Spec PyProof.Rows L2
theorem Room.units70 {k : Nat} {A : Around} (r : Room k A) : A.units + 70 < cLine := by have := r.un; omega
theorem Room.units65 {k : Nat} {A : Around} (r : Room k A) : A.units + 65 < cLine := by have := r.un; omega
section
variable {X : Cx}
/-- in, not in, of a tuple of plain data -/
def rInT (K : PySem.W.Frag) : R2 := fun x y H Q => ∃ d ds, Dp K H x d ∧ Dp K H y (.tuple ds) ∧ SeqAt.shaped d = true ∧ SeqAt.shaped (.tuple ds) = true ∧ Q (.bl (ds.any fun z => PyData.eqv z d)) H
def rNotInT (K : PySem.W.Frag) : R2 := fun x y H Q => ∃ d ds, Dp K H x d ∧ Dp K H y (.tuple ds) ∧ SeqAt.shaped d = true ∧ SeqAt.shaped (.tuple ds) = true ∧ Q (.bl (!ds.any fun z => PyData.eqv z d)) H
theorem canLay_tup {ds : List PyData} (h : SeqAt.shaped (.tuple ds) = true) : PyData.canLayAll0 ds = true := by
  have h : (PyData.canLayAll0 ds && decide (PyData.depthAll ds + 1 ≤ 64)) = true := h
  exact (Bool.and_eq_true_iff.mp h).1
theorem op_inT (hu : X.A.units + 65 < cLine) : OpR X (compareOp .In) (rInT X.K) := by
  intro pins s σ H x y v u Q I rx ry h
  obtain ⟨d, ds, hd, he, sd, se, q⟩ := h
  obtain ⟨as, r1⟩ := Dp.reads I d x v hd rx
  obtain ⟨bs, r2⟩ := Dp.reads I (.tuple ds) y u he ry
  exact SeqAt.in_tuple_reads r2 r1 (canLay_tup se) (SeqAt.canLay_of_shaped sd) (room_in_shaped sd hu) ⟨.bl _, H, I, rfl, q⟩
theorem op_notInT (hu : X.A.units + 65 < cLine) : OpR X (compareOp .NotIn) (rNotInT X.K) := by
  intro pins s σ H x y v u Q I rx ry h
  obtain ⟨d, ds, hd, he, sd, se, q⟩ := h
  obtain ⟨as, r1⟩ := Dp.reads I d x v hd rx
  obtain ⟨bs, r2⟩ := Dp.reads I (.tuple ds) y u he ry
  exact SeqAt.notIn_tuple_reads r2 r1 (canLay_tup se) (SeqAt.canLay_of_shaped sd) (room_in_shaped sd hu) ⟨.bl _, H, I, rfl, q⟩
end
end V0

namespace V0
open PySem PySem.Spec PyProof.Rows L2
theorem cfl_congr {zs : List Str} {tie tie' : Str → Str → Bool} (asc : Asc zs) (h : ∀ a ∈ zs, ∀ b ∈ zs, a.cps.toList < b.cps.toList → tie a b = tie' a b) : cfl zs tie = cfl zs tie' := by
  unfold cfl
  refine List.filter_congr fun p hp => ?_
  have m := (mem_prs asc).mp (show (p.1, p.2) ∈ _ from hp)
  exact h _ m.1 _ m.2.1 m.2.2
theorem nbs_congr {zs : List Str} {tie tie' : Str → Str → Bool} {z : Str} (h : ∀ b ∈ zs, tie z b = tie' z b) : nbs zs tie z = nbs zs tie' z := List.filter_congr h
theorem paired_mem {α β : Type} {R S : α → β → Prop} : ∀ {xs : List α} {ys : List β}, Paired R xs ys → (∀ x ∈ xs, ∀ y, R x y → S x y) → Paired S xs ys
  | _, _, .nil, _ => .nil
  | _, _, .cons a b, h => .cons (h _ (by simp) _ a) (paired_mem b fun x hx => h x (by simp [hx]))
theorem IsWb.congr {C : Addr} {H : Hp} {x : Addr} {zs : List Str} {tie tie' : Str → Str → Bool} (asc : Asc zs) (h : ∀ a ∈ zs, ∀ b ∈ zs, tie a b = tie' a b) (W : IsWb C H x zs tie) : IsWb C H x zs tie' := by
  obtain ⟨dx, t, c, b, as, bs, w⟩ := W
  refine ⟨dx, t, c, b, as, bs, w.at_, w.th, w.cf, ?_, w.bd, paired_mem w.bp fun z hz a e => ?_⟩
  · rw [← cfl_congr asc fun a ha b hb _ => h a ha b hb]
    exact w.cp
  · rw [← nbs_congr fun b hb => h z hz b hb]
    exact e
theorem Wbs.congr {C : Addr} {H : Hp} {x : Addr} {zs : List Str} {tie tie' : Str → Str → Bool} (h : ∀ a ∈ zs, ∀ b ∈ zs, tie a b = tie' a b) (T : Tie tie') (W : Wbs C H x zs tie) : Wbs C H x zs tie' := ⟨W.w.congr W.z.asc h, W.z, T⟩
theorem Nz.zs {us zs : List Str} (n : Nz us) (asc : Asc zs) (pm : zs.Perm us) : Zs zs := ⟨asc, fun z hz => n.nm z (pm.mem_iff.mp hz), by rw [pm.length_eq]; exact n.l1, by rw [pm.length_eq]; exact n.l8⟩
theorem Zs.nz {zs : List Str} (h : Zs zs) : Nz zs := ⟨h.asc.nd, h.nm, h.l1, h.l8⟩
/-- a web is made -/
theorem mk_web {C : Addr} {H : Hp} {t c : Addr} {us zs : List Str} {ps : List Pai} {as : List Addr} {E : XK} {R : V → Hp → Prop} (ht : H t = some (tupS us)) (nz : Nz us) (asc : Asc zs) (pm : zs.Perm us) (hc : H c = some (.tup (as.map V.ref))) (pa : Paired (PrAt H) ps as) (good : ∀ p ∈ ps, PrOk us p) (len : ps.length ≤ 60)
    (k : ∀ x H', Same H H' → H x = none → Wbs C H' x zs (tieP ps) → R (.ref x) H') :
    ∀ x dx : Addr, H x = none → H dx = none → dx ≠ x → spWeb C [.ref x, .ref t, .ref c] (upd (upd H dx (.own x)) x (.ins C dx [])) (fun v H2 => v = .non ∧ R (.ref x) H2) E := by
  intro x dx hx hdx ne
  have s0 : Same H (upd (upd H dx (.own x)) x (.ins C dx [])) := fun b o e => by rw [upd_ne (ne_of_none e hx), upd_ne (ne_of_none e hdx)]; exact e
  refine ⟨x, dx, t, c, us, ps, as, rfl, upd_same, s0 _ _ ht, nz, s0 _ _ hc, paired_mono (fun _ _ e => PrAt.same e s0) pa, good, len, fun zs' H' asc' pm' b W => ⟨rfl, k x H' (fun a o e => ?_) hx ?_⟩⟩
  · exact b a o (s0 a o e) (ne_of_none e hx)
  · have ez : zs' = zs := asc_one (pm'.trans pm.symm) asc' asc
    subst ez
    exact ⟨W, nz.zs asc pm, tieP_tie good⟩
def tieLess (tie : Str → Str → Bool) (a b p q : Str) : Bool := tie p q && !(decide ((p = a ∧ q = b) ∨ (p = b ∧ q = a)))
def tieTurn (tie : Str → Str → Bool) (p q : Str) : Bool := decide (p ≠ q) && !tie p q
theorem tieLess_tie {tie : Str → Str → Bool} {a b : Str} (T : Tie tie) : Tie (tieLess tie a b) := by
  refine ⟨fun p q => ?_, fun p => ?_⟩
  · unfold tieLess
    rw [T.sym p q]
    congr 2
    rw [decide_eq_decide]
    exact ⟨fun h => h.elim (fun ⟨h1, h2⟩ => .inr ⟨h2, h1⟩) fun ⟨h1, h2⟩ => .inl ⟨h2, h1⟩, fun h => h.elim (fun ⟨h1, h2⟩ => .inr ⟨h2, h1⟩) fun ⟨h1, h2⟩ => .inl ⟨h2, h1⟩⟩
  · unfold tieLess
    rw [T.irr]
    rfl
theorem tieTurn_tie {tie : Str → Str → Bool} (T : Tie tie) : Tie (tieTurn tie) := by
  refine ⟨fun p q => ?_, fun p => ?_⟩
  · unfold tieTurn
    rw [T.sym p q]
    congr 1
    rw [decide_eq_decide]
    exact ⟨fun h e => h e.symm, fun h e => h e.symm⟩
  · unfold tieTurn
    simp
theorem sh_dP1 {p : Pai} (h : PrN p) : SeqAt.shaped (dP p) = true := sh_strs [p.1, p.2] fun z hz => by
  rcases List.mem_cons.mp hz with e | e
  · rw [e]; exact h.1
  · rw [List.mem_singleton.mp e]; exact h.2
/-- ties told by a part of the conflicts -/
theorem tieP_filter {zs : List Str} {tie : Str → Str → Bool} {f : Pai → Bool} (asc : Asc zs) (T : Tie tie) (sym : ∀ p q, f (p, q) = f (q, p)) {p q : Str} (hp : p ∈ zs) (hq : q ∈ zs) : tieP ((cfl zs tie).filter f) p q = (tie p q && f (p, q)) := by
  unfold tieP
  rw [Bool.eq_iff_iff, decide_eq_true_iff, Bool.and_eq_true, List.mem_filter, List.mem_filter, mem_cfl asc, mem_cfl asc]
  constructor
  · rintro (⟨⟨_, _, _, h1⟩, h2⟩ | ⟨⟨_, _, _, h1⟩, h2⟩)
    · exact ⟨h1, h2⟩
    · rw [T.sym, sym]; exact ⟨h1, h2⟩
  · rintro ⟨h1, h2⟩
    have ne : p ≠ q := fun e => by rw [e, T.irr] at h1; cases h1
    rcases lt_tri ne with l | l
    · exact .inl ⟨⟨hp, hq, l, h1⟩, h2⟩
    · exact .inr ⟨⟨hq, hp, l, by rw [T.sym]; exact h1⟩, by rw [sym]; exact h2⟩
theorem cfl_ok {zs : List Str} {tie : Str → Str → Bool} (asc : Asc zs) : ∀ p ∈ cfl zs tie, PrOk zs p := fun p hp => by
  have m := (mem_cfl asc).mp (show (p.1, p.2) ∈ _ from hp)
  exact ⟨m.1, m.2.1, fun e => by rw [e] at m; exact List.lt_irrefl _ m.2.2.1⟩
end V0
namespace V0
open PySem PySem.Spec PyProof.Rows L2
/-- the outer walk of a comprehension with two clauses -/
theorem lc2_out {J : It} {n : Nat} {G : Hp → Prop} {Y : Nat → Hp → V → Hp → Prop} (wk : Walk J n G Y) {g : TG} {tt : TT} {wi1 : TI} {g1 : TG} {tt1 : TT} {te : TE} {vs vs1 : List Nat} {σ : L2.St} {H1 : Hp} {D : Addr} {Qd : Hp → Prop} (Pv : Nat → Hp → Prop) (h0 : Pv 0 (upd H1 D (.lst []))) (hG : ∀ i H, i ≤ n → Pv i H → G H)
    (hs : ∀ i x H H', i < n → Pv i H → Y i H x H' → g x (wipe σ vs) H' fun σ2 H2 => wipe σ2 vs = wipe σ vs ∧ tt σ2 H2 fun b H3 =>
      if b = true then wi1 σ2 H3 fun J1 H4 => ∃ W1 : Nat → Nat → Hp → Prop, (∃ m, W1 0 m H4) ∧ ∀ j k H, W1 j k H →
        (J1.stop j H ∧ Pv (i + 1) H) ∨ (J1.go j H ∧ ∃ Nx1 : Hp → Prop, (∀ H', Nx1 H' → ∃ k', k' < k ∧ W1 (j + 1) k' H') ∧ ∀ x H', J1.yld j H x H' → g1 x (wipe σ2 vs1) H' fun σ3 H5 => wipe σ3 vs1 = wipe σ2 vs1 ∧ tt1 σ3 H5 fun b H6 =>
          if b = true then te σ3 H6 fun y H7 => ∃ acc, H7 D = some (.lst acc) ∧ acc.length < sizeLine ∧ Nx1 (upd H7 D (.lst (acc ++ [y]))) else Nx1 H6)
      else Pv (i + 1) H3) (hd : ∀ H, Pv n H → Qd H) :
    ∃ W : Nat → Nat → Hp → Prop, (∃ m, W 0 m (upd H1 D (.lst []))) ∧ ∀ i m H, W i m H →
      (J.stop i H ∧ Qd H) ∨ (J.go i H ∧ ∃ Nx : Hp → Prop, (∀ H', Nx H' → ∃ m', m' < m ∧ W (i + 1) m' H') ∧ ∀ x H', J.yld i H x H' → g x (wipe σ vs) H' fun σ2 H2 => wipe σ2 vs = wipe σ vs ∧ tt σ2 H2 fun b H3 =>
        if b = true then wi1 σ2 H3 fun J1 H4 => ∃ W1 : Nat → Nat → Hp → Prop, (∃ m, W1 0 m H4) ∧ ∀ j k H, W1 j k H →
          (J1.stop j H ∧ Nx H) ∨ (J1.go j H ∧ ∃ Nx1 : Hp → Prop, (∀ H', Nx1 H' → ∃ k', k' < k ∧ W1 (j + 1) k' H') ∧ ∀ x H', J1.yld j H x H' → g1 x (wipe σ2 vs1) H' fun σ3 H5 => wipe σ3 vs1 = wipe σ2 vs1 ∧ tt1 σ3 H5 fun b H6 =>
            if b = true then te σ3 H6 fun y H7 => ∃ acc, H7 D = some (.lst acc) ∧ acc.length < sizeLine ∧ Nx1 (upd H7 D (.lst (acc ++ [y]))) else Nx1 H6)
        else Nx H3) := by
  refine ⟨fun i m H => i ≤ n ∧ m = n - i ∧ Pv i H, ⟨n, Nat.zero_le _, rfl, h0⟩, fun i m H ⟨hi, hm, p⟩ => ?_⟩
  rcases Nat.lt_or_ge i n with hlt | hge
  · exact .inr ⟨wk.goes i H hlt (hG i H hi p), Pv (i + 1), fun H' p' => ⟨n - (i + 1), by omega, hlt, rfl, p'⟩, fun x H' y => hs i x H H' hlt p (wk.yields i H x H' hlt (hG i H hi p) y)⟩
  · obtain rfl : i = n := by omega
    exact .inl ⟨wk.stops H (hG i H hi p), hd H p⟩
/-- the inner walk -/
theorem lc2_in {J1 : It} {n : Nat} {G : Hp → Prop} {Y : Nat → Hp → V → Hp → Prop} (wk : Walk J1 n G Y) {g1 : TG} {tt1 : TT} {te : TE} {vs1 : List Nat} {σ2 : L2.St} {H4 : Hp} {D : Addr} {Qd : Hp → Prop} (Pv : Nat → Hp → Prop) (h0 : Pv 0 H4) (hG : ∀ i H, i ≤ n → Pv i H → G H)
    (hs : ∀ j x H H', j < n → Pv j H → Y j H x H' → g1 x (wipe σ2 vs1) H' fun σ3 H5 => wipe σ3 vs1 = wipe σ2 vs1 ∧ tt1 σ3 H5 fun b H6 =>
      if b = true then te σ3 H6 fun y H7 => ∃ acc, H7 D = some (.lst acc) ∧ acc.length < sizeLine ∧ Pv (j + 1) (upd H7 D (.lst (acc ++ [y]))) else Pv (j + 1) H6) (hd : ∀ H, Pv n H → Qd H) :
    ∃ W1 : Nat → Nat → Hp → Prop, (∃ m, W1 0 m H4) ∧ ∀ j k H, W1 j k H →
      (J1.stop j H ∧ Qd H) ∨ (J1.go j H ∧ ∃ Nx1 : Hp → Prop, (∀ H', Nx1 H' → ∃ k', k' < k ∧ W1 (j + 1) k' H') ∧ ∀ x H', J1.yld j H x H' → g1 x (wipe σ2 vs1) H' fun σ3 H5 => wipe σ3 vs1 = wipe σ2 vs1 ∧ tt1 σ3 H5 fun b H6 =>
        if b = true then te σ3 H6 fun y H7 => ∃ acc, H7 D = some (.lst acc) ∧ acc.length < sizeLine ∧ Nx1 (upd H7 D (.lst (acc ++ [y]))) else Nx1 H6) := by
  refine ⟨fun i m H => i ≤ n ∧ m = n - i ∧ Pv i H, ⟨n, Nat.zero_le _, rfl, h0⟩, fun i m H ⟨hi, hm, p⟩ => ?_⟩
  rcases Nat.lt_or_ge i n with hlt | hge
  · exact .inr ⟨wk.goes i H hlt (hG i H hi p), Pv (i + 1), fun H' p' => ⟨n - (i + 1), by omega, hlt, rfl, p'⟩, fun x H' y => hs i x H H' hlt p (wk.yields i H x H' hlt (hG i H hi p) y)⟩
  · obtain rfl : i = n := by omega
    exact .inl ⟨wk.stops H (hG i H hi p), hd H p⟩
end V0

namespace V0
open PySem PySem.Spec PyProof.Rows L2
/-- the pairs of a turn of the outer walk -/
def row1 (z : Str) (zs : List Str) : List Pai := (zs.filter fun y => decide (z.cps.toList < y.cps.toList)).map fun y => (z, y)
theorem row1_len (z : Str) (zs : List Str) : (row1 z zs).length ≤ zs.length := by
  unfold row1
  rw [List.length_map]
  exact List.length_filter_le _ _
theorem rows_len {zs : List Str} : ∀ l : List Str, (l.flatMap fun z => row1 z zs).length ≤ l.length * zs.length
  | [] => Nat.zero_le _
  | z :: l => by
    have ih := rows_len (zs := zs) l
    have h1 := row1_len z zs
    rw [List.flatMap_cons, List.length_append, List.length_cons, Nat.succ_mul]
    omega
theorem row1_none {z y : Str} {zs : List Str} (h : ¬ y.cps.toList < z.cps.toList) : row1 y (z :: zs) = row1 y zs := by
  unfold row1
  rw [List.filter_cons_of_neg (by simpa using h)]
theorem rows_prs : ∀ {zs : List Str}, Asc zs → (zs.flatMap fun z => row1 z zs) = prs zs
  | [], _ => rfl
  | z :: zs, h => by
    have h2 := List.pairwise_cons.mp h
    rw [List.flatMap_cons]
    have e1 : row1 z (z :: zs) = zs.map fun y => (z, y) := by
      rw [row1_none (List.lt_irrefl _)]
      unfold row1
      rw [List.filter_eq_self.mpr fun y hy => decide_eq_true (h2.1 y hy)]
    have e2 : (zs.flatMap fun y => row1 y (z :: zs)) = zs.flatMap fun y => row1 y zs := by
      unfold List.flatMap
      congr 1
      exact List.map_congr_left fun y hy => row1_none fun l => List.lt_irrefl _ (List.lt_trans l (h2.1 y hy))
    rw [e1, e2, rows_prs h2.2]
    rfl
theorem row1_snoc (z : Str) {zs : List Str} {j : Nat} {y : Str} (h : zs[j]? = some y) : row1 z (zs.take (j + 1)) = row1 z (zs.take j) ++ (if z.cps.toList < y.cps.toList then [(z, y)] else []) := by
  unfold row1
  rw [take_snoc h, List.filter_append, List.map_append]
  congr 1
  by_cases l : z.cps.toList < y.cps.toList
  · rw [if_pos l, List.filter_cons_of_pos (by simpa using l)]
    rfl
  · rw [if_neg l, List.filter_cons_of_neg (by simpa using l)]
    rfl
theorem ref_at {as : List Addr} {i : Nat} {y : V} (hy : (as.map V.ref)[i]? = some y) : ∃ a, as[i]? = some a ∧ y = .ref a := by
  rw [List.getElem?_map] at hy
  cases e : as[i]? with
  | none => rw [e] at hy; cases hy
  | some a => rw [e] at hy; injection hy with hy; exact ⟨a, rfl, hy.symm⟩
end V0
namespace V0
open PySem PySem.Spec PyProof.Rows L2
/-! ### a def with a star parameter, called by positions -/
/-- a def f(a, .., *v) of the text that stands under its own name -/
structure DfS (K : PySem.W.Frag) (mg : Str → Option Value) (x : Str) (st : Stmt) (ps : List Str) (pv : Str) (f : Addr) (fd : FuncData) : Prop where
  F : Fun K x x st f fd
  b : ∀ us rest : List Value, us.length = ps.length → bindArgs fd ⟨us ++ rest, []⟩ = (newTuple rest >>= fun t => pure (ps.zip us ++ [(pv, t)]))
  g : mg x = some (.ref f)
/-- what its callers tell -/
def spStar (n : Nat) (sp : Sp) : Sp := fun vs H Q E => ∃ ws rest, vs = ws ++ rest ∧ ws.length = n ∧ rest.length ≤ sizeLine ∧ ∀ p, H p = none → sp (ws ++ [V.ref p]) (upd H p (.tup rest)) Q E
section
variable {P : Program} {w : World} {K : PySem.W.Frag} {mg : Str → Option Value} {base : Heap}
theorem DfS.ok {x : Str} {st : Stmt} {ps : List Str} {pv : Str} {f : Addr} {fd : FuncData} {N : List Str} {k : Nat} {sp : Sp} (D : DfS K mg x st ps pv f fd) (S : FnScope N (ps ++ [pv]) (defScope st))
    (hbody : ∀ (cdv : Value) (A : Around) (outer : List Env) (s : Shared) (H : Hp) (vs : List V) (Q : VK) (E : XK), Room k (A.deeper (envOfC x (defScope st) s.heap.objs.size f cdv)) → sp vs H Q E →
      ∃ t, PSs (cxOf CX0 P w K mg base N x (defScope st) f cdv A outer s H E).nox (defBody st) t ∧ t { nx := fun _ H' => Q .non H', rt := Q } (start N vs) H) : FnR P w K mg base CX0 (k + 1) f (spStar ps.length sp) := by
  obtain ⟨oc, od, kV, doc, pm, an, cdv, ct, osl, rfl, lk, hcd⟩ := D.F.ex
  exact StX.fn_star lk hcd S StX.cxUp_none D.b fun A outer s H vs Q E hr hsp => by
    obtain ⟨t, h, q⟩ := hbody cdv A outer s H vs Q E hr hsp
    exact ⟨t, h.nox, q⟩
end
section
variable {X : Cx} {CX : CXT} {k : Nat} {f : Addr} {sp : Sp} {E : XK} {x : Str} {e : Expr} {es : List Expr} {t : TA} {p pos : Pos}
/-- f(e, ..) -/
theorem pe_callP (F : FnR X.prog X.w X.K X.mg X.base CX k f sp) (hr : Room k X.A) (hg : Gl X x) (hm : X.mg x = some (.ref f)) (hk : PySem.W.keepIn X.K (.ref f) = true) (hx : Passes CX X E)
    (ha : PA X (e :: es) t) (hdb : (x == ("__debug__" : Str)) = false := by decide) (he : starEach (e :: es) X.env = (false, eval e X.env) :: starEach es X.env := by rfl) (hpl : (backTo pos (starEach es X.env)).any (·.1) = false := by rfl) :
    PE X (.Call (.Name x p) (e :: es) [] pos) (tCall sp [] E t) := by
  refine ⟨fun pins s σ H Q I h => ?_⟩
  refine wpAny_Call_Name_kw (ld_glob I hg hm ?_ hdb)
  refine PySem.W.callWith_K (h₀ := X.base) I.ok.mod.kin hk (thn (ha.run pos pins s σ H _ I h) fun us s1 ⟨vs, H1, I1, r, q⟩ => ⟨I1.kIn, ?_⟩) he hpl
  have q : sp (vs ++ []) H1 Q E := q
  rw [List.append_nil] at q
  exact wpAny_call (run_fnR F hr hx I1 r q)
end
end V0

namespace V0
open PySem PySem.Spec PyProof.Rows L2
/-- a web is made of names in any order -/
theorem mk_web2 {C : Addr} {H : Hp} {t c : Addr} {us : List Str} {ps : List Pai} {as : List Addr} {E : XK} {R : V → Hp → Prop} (ht : H t = some (tupS us)) (nz : Nz us) (hc : H c = some (.tup (as.map V.ref))) (pa : Paired (PrAt H) ps as) (good : ∀ p ∈ ps, PrOk us p) (len : ps.length ≤ 60)
    (k : ∀ x zs H', Same H H' → H x = none → Asc zs → zs.Perm us → Wbs C H' x zs (tieP ps) → R (.ref x) H') :
    ∀ x dx : Addr, H x = none → H dx = none → dx ≠ x → spWeb C [.ref x, .ref t, .ref c] (upd (upd H dx (.own x)) x (.ins C dx [])) (fun v H2 => v = .non ∧ R (.ref x) H2) E := by
  intro x dx hx hdx ne
  have s0 : Same H (upd (upd H dx (.own x)) x (.ins C dx [])) := fun b o e => by rw [upd_ne (ne_of_none e hx), upd_ne (ne_of_none e hdx)]; exact e
  refine ⟨x, dx, t, c, us, ps, as, rfl, upd_same, s0 _ _ ht, nz, s0 _ _ hc, paired_mono (fun _ _ e => PrAt.same e s0) pa, good, len, fun zs' H' asc' pm' b W => ⟨rfl, k x zs' H' (fun a o e => ?_) hx asc' pm' ?_⟩⟩
  · exact b a o (s0 a o e) (ne_of_none e hx)
  · exact ⟨W, nz.zs asc' pm', tieP_tie good⟩
/-- the ways of one step from the first j places -/
def wayR (n : Nat) (s : Int) (j : Nat) : List (Int × Int) := (List.range j).map fun i : Nat => (0 + (i : Int), (0 + (i : Int) + s) % (n : Int))
theorem wayR_len {n : Nat} {s : Int} {j : Nat} : (wayR n s j).length = j := by
  unfold wayR
  rw [List.length_map, List.length_range]
theorem wayR_snoc {n : Nat} {s : Int} {j : Nat} : wayR n s (j + 1) = wayR n s j ++ [(0 + (j : Int), (0 + (j : Int) + s) % (n : Int))] := by
  unfold wayR
  rw [List.range_succ, List.map_append]
  rfl
/-- the ways round a ring of n, by whole numbers -/
def ways (n : Nat) (ss : List Int) : List (Int × Int) := ss.flatMap fun s => wayR n s n
theorem ways_len {n : Nat} : ∀ ss : List Int, (ways n ss).length = ss.length * n
  | [] => by rw [List.length_nil, Nat.zero_mul]; rfl
  | s :: ss => by
    have ih := ways_len (n := n) ss
    unfold ways at ih ⊢
    rw [List.flatMap_cons, List.length_append, wayR_len, ih, List.length_cons, Nat.succ_mul, Nat.add_comm]
theorem ways_in {n : Nat} {ss : List Int} {p : Int × Int} (hn : 0 < n) (h : p ∈ ways n ss) : (0 ≤ p.1 ∧ p.1 < n) ∧ 0 ≤ p.2 ∧ p.2 < n := by
  unfold ways at h
  obtain ⟨s, _, h⟩ := List.mem_flatMap.mp h
  unfold wayR at h
  obtain ⟨i, hi, rfl⟩ := List.mem_map.mp h
  have hi := List.mem_range.mp hi
  exact ⟨⟨by show 0 ≤ 0 + (i : Int); omega, by show 0 + (i : Int) < n; omega⟩, Int.emod_nonneg _ (by omega), Int.emod_lt_of_pos _ (by omega)⟩
def nmAt (us : List Str) (i : Int) : Str := us.getD i.toNat Str.empty
def ringP (us : List Str) (ss : List Int) : List Pai := ((ways us.length ss).filter fun p => decide (p.1 ≠ p.2)).map fun p => (nmAt us p.1, nmAt us p.2)
/-- a pair of whole numbers -/
def IpAt (H : Hp) (p : Int × Int) (a : Addr) : Prop := H a = some (.tup [.int p.1, .int p.2])
theorem nmAt_at {us : List Str} {i : Int} (h0 : 0 ≤ i) (h1 : i < us.length) : us[i.toNat]? = some (nmAt us i) := by
  unfold nmAt
  have h : i.toNat < us.length := by omega
  rw [List.getD_eq_getElem?_getD, List.getElem?_eq_getElem h]
  rfl
theorem nmAt_ix {us : List Str} {i : Int} (h0 : 0 ≤ i) (h1 : i < us.length) : atI (us.map V.str) i = some (.str (nmAt us i)) := at_g h0 (by rw [List.getElem?_map, nmAt_at h0 h1]; rfl)
theorem nmAt_mem {us : List Str} {i : Int} (h0 : 0 ≤ i) (h1 : i < us.length) : nmAt us i ∈ us := List.mem_of_getElem? (nmAt_at h0 h1)
theorem nmAt_inj {us : List Str} {i j : Int} (nd : us.Nodup) (h0 : 0 ≤ i) (h1 : i < us.length) (h2 : 0 ≤ j) (h3 : j < us.length) (h : nmAt us i = nmAt us j) : i = j := by
  have e1 := nmAt_at h0 h1
  have e2 := nmAt_at h2 h3
  rw [h, ← e2] at e1
  have := (List.getElem?_inj (by omega) nd).mp e1
  omega
theorem ring_ok {us : List Str} {ss : List Int} (nz : Nz us) : ∀ p ∈ ringP us ss, PrOk us p := by
  intro p hp
  unfold ringP at hp
  obtain ⟨w, hw, rfl⟩ := List.mem_map.mp hp
  obtain ⟨hw, ne⟩ := List.mem_filter.mp hw
  have l1 := nz.l1
  obtain ⟨⟨a1, a2⟩, b1, b2⟩ := ways_in (by omega) hw
  exact ⟨nmAt_mem a1 a2, nmAt_mem b1 b2, fun e => of_decide_eq_true ne (nmAt_inj nz.nd a1 a2 b1 b2 e)⟩
end V0
namespace PySem
open Sem (wp)
set_option maxHeartbeats 1000000 in
theorem meets_enumerate_newB1 {v : Value} {o : Obj} {H : Heap → Prop} (B : Begins v o H) :
    Meets (Builtin.«enumerate.__new__» ⟨[.type "enumerate", v], []⟩) (fun _ R s => H s.heap ∧
      R (.ok (.ret (.ref (s.heap.push o).objs.size))) { s with heap := (s.heap.push o).push { cls := .type "enumerate", data := .fields #[.none, .bool false, .ref s.heap.objs.size, rawInt 0, .none, .none] } }) :=
  .of_wp fun prog w A R s h => by
    obtain ⟨hp, g, d, tk, os⟩ := s; obtain ⟨h1, h⟩ := h
    have hsub := sub_enumerate
    have q1 : ∀ {A' : Around} {E : Value → Shared → Prop} {Q : Value → Shared → Prop}, Q (.ref hp.objs.size) ⟨hp.push o, g, d, tk, os⟩ → wpAny (model prog w) A' (pyIter v) Q E ⟨hp, g, d, tk, os⟩ :=
      fun q => B.iter prog w _ _ ⟨hp, g, d, tk, os⟩ _ h1 q
    wp_walk using q1
    refine wpAny_stack_any fun st => wpAny_pure ?_
    split
    · rename_i c _ _ _ _ _
      cases (c == Value.type "enumerate")
      · wp_walk using q1
        exact ⟨_, rfl, h⟩
      · wp_walk using q1
        exact ⟨_, rfl, h⟩
    · wp_walk using q1
      exact ⟨_, rfl, h⟩
section
variable {prog : Program} {w : World} {A : Around} {E : Value → Shared → Prop} {s : Shared}
theorem enum_begins1 {v : Value} {o : Obj} {H : Heap → Prop} {Q : Value → Shared → Prop} (B : Begins v o H) (h1 : H s.heap)
    (h : ∀ h', IsEnum h' (s.heap.objs.size + 1) s.heap.objs.size 0 .none → h'.get? s.heap.objs.size = some o → h'.objs.size = s.heap.objs.size + 2 →
      (∀ b o, s.heap.get? b = some o → h'.get? b = some o) → Q (.ref (s.heap.objs.size + 1)) { s with heap := h' }) :
    wpAny (model prog w) A (call (.type "enumerate") [v]) Q E s := by
  refine callType_new F.called_enumerate (by decide) (F.typeCall_enumerate_1 _) (F.newCall_enumerate_1 _) (fun obj => F.args_object_init_2 obj _) F.entry_enumerate_new
    (meets_enumerate_newB1 B) ⟨h1, ?_⟩
  have hz : (s.heap.push o).objs.size = s.heap.objs.size + 1 := Heap.size_push ..
  show _ ∧ _
  rw [hz]
  have he : IsEnum ((s.heap.push o).push { cls := .type "enumerate", data := .fields #[.none, .bool false, .ref s.heap.objs.size, rawInt 0, .none, .none] }) (s.heap.objs.size + 1) s.heap.objs.size 0 .none := by
    have := Heap.get?_push_size (s.heap.push o) (o := { cls := .type "enumerate", data := .fields #[.none, .bool false, .ref s.heap.objs.size, rawInt 0, .none, .none] }) rfl
    rw [hz] at this; exact this
  refine ⟨⟨_, he, rfl⟩, h _ he (Heap.get?_push_of_some _ (Heap.get?_push_size _ B.free)) (by rw [Heap.size_push, hz]) fun b o x => Heap.get?_push_of_some _ (Heap.get?_push_of_some _ x)⟩
theorem wpAny_pyNext_enum_endT {e it l : Addr} {i : Nat} {items : Array Value} {old : Value} {Q : Option Value → Shared → Prop} (hh : A.handled = none)
    (he : IsEnum s.heap e it i old) (hit : s.heap.IsTupleIter it l i) (hl : s.heap.IsTuple l items) (hx : items[i]? = none)
    (hQ : ∀ h', Heap.ExtBut it s.heap h' → Q none { s with heap := h' }) : wpAny (model prog w) A (pyNext (.ref e)) Q E s := by
  have hT : s.TypeIs (.ref e) "enumerate" := ⟨_, he, rfl⟩
  unfold pyNext
  refine wpAny_bind (wpAny_attempt (wpAny_callSpecial?_slot (name := Str.ofString "__next__") hT F.slot_enumerate_next
    (wpAny_call_entry F.slot_enumerate_next hT F.entry_enumerate_next ?_ (F.args_enumerate_next_1 _))))
  show wpAny _ _ (field (.ref e) 2 >>= _) _ _ _
  refine wpAny_bind (wpAny_field he rfl (x := .ref it) rfl ?_)
  refine wpAny_bind (wpAny_nextOf_tuple_end hh hit hl hx fun h' x he' hx' => ?_)
  obtain ⟨o, ho, hc⟩ := hx'
  refine wpAny_bind (wpAny_isInstance (T := "StopIteration") (b := true) ⟨o, ho, hc⟩ isSubtype_stop ?_)
  exact wpAny_pure (hQ _ he')
end
end PySem
namespace V0
open PySem PySem.Spec PyProof.Rows L2
/-- the tuple at a, each item in a new pair -/
def IteT (K : PySem.W.Frag) (a : Addr) : It :=
  ⟨fun i H => ∃ (xs : List V) (x : V), SqT K H a xs ∧ xs[i]? = some x, fun i H v H' => ∃ T x, v = .ref T ∧ H T = none ∧ H' = upd H T (.tup [.int (i : Nat), x]) ∧ ∀ xs, SqT K H a xs → xs[i]? = some x, fun i H => ∃ xs : List V, SqT K H a xs ∧ xs.length ≤ i⟩
theorem turn_enumT {P : Program} {w : World} {K : PySem.W.Frag} {elts : List Expr} {kk : Nat} {tpos : Pos} (a e it : Addr) :
    Turn P w K (.Tuple elts kk tpos) (IteT K a) [e, it] e (fun i h => (∃ old, IsEnum h e it ((i : Nat) : Int) old) ∧ h.IsTupleIter it a i ∧ e ≠ it ∧ a ≠ it ∧ a ≠ e) where
  mem := by simp
  obj := fun i h st b hb => by
    obtain ⟨⟨old, he⟩, ⟨o, ho, hc, hd⟩, _⟩ := st
    have e' : b = e ∨ b = it := by simpa using hb
    rcases e' with z | z
    · rw [z]; exact ⟨_, he, fun v q => nomatch q⟩
    · rw [z]; exact ⟨o, ho, fun v q => by rw [hd] at q; cases q⟩
  keep := fun i h h' st k => let ⟨⟨old, he⟩, hi, hne⟩ := st; ⟨⟨old, k e (by simp) _ he⟩, hi.at fun o q => k it (by simp) o q, hne⟩
  item := by
    intro X hP hw hK hc i pins s σ H E I hf st hg
    subst hP hw hK
    obtain ⟨⟨old, he⟩, hit, hne, hat, hae⟩ := st
    obtain ⟨xs, x, hq, hx⟩ := hg
    obtain ⟨its, rv, p, hz⟩ := I.tuple hq
    obtain ⟨u, hu, ru⟩ := rv.get hx
    have hel : e < s.heap.objs.size := Heap.lt_size he
    have hil : it < s.heap.objs.size := by obtain ⟨_, q, _⟩ := hit; exact Heap.lt_size q
    have D := Draws.tuple (prog := X.prog) (w := X.w) (A := X.A.in1) (I.ok.hd hc) it a hat its.toArray
    have hef : e ∉ [it, a] := by
      intro z
      rcases List.mem_cons.mp z with z | z
      · exact hne z
      · exact hae (List.mem_singleton.mp z).symm
    have hlt : i < its.toArray.size := by
      have hl := rv.length
      have h2 : i < its.length := by
        rw [← hl]
        exact (List.getElem?_eq_some_iff.mp hx).1
      simpa using h2
    refine wpAny_pyNext_enum_itemC D he ⟨hit, p⟩ hlt hne hef fun y h' tk hP ho hs' hT hsz hk => ?_
    have hyu : y = u := by
      have h2 : its.toArray[i]? = some u := by simpa using hu
      rw [h2] at hP
      injection hP with hP
      exact hP.symm
    subst hyu
    refine ⟨_, rfl, wpAny_letOwnedTupleGo_enum (s := { s with heap := h', toks := tk + 1 }) ho fun h'' he' sb => ?_⟩
    have hT2 : h''.get? s.heap.objs.size = some { cls := .type "tuple", data := .seq #[.int i tk, y] } := (sb.2 _ (Nat.ne_of_gt hel)).trans hT
    have new : ObjOk X.prog X.w (upd H s.heap.objs.size (.tup [.int (i : Nat), x])) h'' s.heap.objs.size (.tup [.int (i : Nat), x]) :=
      ⟨by show 2 ≤ sizeLine; decide, [.int i tk, y], .cons ⟨_, rfl⟩ (.cons ru .nil), ⟨_, hT2, rfl, _, rfl⟩⟩
    have I1 : Inv X pins σ (upd H s.heap.objs.size (.tup [.int (i : Nat), x])) { s with heap := h'', toks := tk + 1 } :=
      I.turnedNew (ch := [e, it]) (fun b ob hb q => (sb.2 b (fun z => hb (by simp [z]))).trans (hk b ob (fun z => hb (by simp [z])) (fun z => hb (by simp [z])) q)) hf (Nat.le_refl _) new
    refine ⟨.ref s.heap.objs.size, _, I1, rfl, ⟨_, x, rfl, I.hok.fresh (Nat.le_refl _), rfl, fun ys hy => by rw [I.tuple_inj hy hq]; exact hx⟩, ⟨⟨y, ?_⟩, hs'.1.at fun o q => (sb.2 it (Ne.symm hne)).trans q, hne, hat, hae⟩, fun b hb => ?_⟩
    · have e1 : ((i + 1 : Nat) : Int) = (i : Int) + 1 := by omega
      rw [e1]; exact he'
    · have hb' : b < s.heap.objs.size := by
        have e' : b = e ∨ b = it := by simpa using hb
        rcases e' with z | z
        · rw [z]; exact hel
        · rw [z]; exact hil
      rw [upd_ne (Nat.ne_of_lt hb')]
      exact (hf b hb).1
  done := by
    intro X hP hw hK hc i pins s σ H E I hf st hg
    subst hP hw hK
    obtain ⟨⟨old, he⟩, hit, hne, hat, hae⟩ := st
    obtain ⟨xs, hq, hx⟩ := hg
    obtain ⟨its, rv, p, hz⟩ := I.tuple hq
    obtain ⟨f0, f1, f2, f3, f4, f5⟩ := hf it (by simp)
    have hl := rv.length
    have hx2 : its.toArray[i]? = none := by simp; omega
    refine wpAny_pyNext_enum_endT (I.ok.hd hc) he hit p hx2 fun h' eb => ⟨rfl, I.turned (t' := s.toks) (fun b o hb q => eb b o hb q) f0 f1 f3 f4 f5⟩
  self := fun A i s Q E st h => let ⟨⟨_, he⟩, _⟩ := st; wpAny_pyIter_enum he h
/-- enumerate of a list or a tuple -/
def iEnum2 (K : PySem.W.Frag) (ta : TA) : TI := fun σ H R => ta σ H fun vs H1 => ∃ a xs, vs = [.ref a] ∧ ((SqL K H1 a xs ∧ R (Ite K a) H1) ∨ (SqT K H1 a xs ∧ R (IteT K a) H1))
theorem pi_enum2 {X : Cx} {e : Expr} {ta : TA} {p pos tpos : Pos} {elts : List Expr} {kk : Nat} (hg : Gl X "enumerate") (hm : X.mg "enumerate" = none) (ha : PA X [e] ta) (hs : starEach [e] X.env = [(false, eval e X.env)] := by rfl) :
    PI X (.Tuple elts kk tpos) (.Call (.Name "enumerate" p) [e] [] pos) (iEnum2 X.K ta) := by
  refine ⟨fun pins s σ H R I h => ?_⟩
  refine Call_ (ld_blt I hg hm boot_enumerate (PyProof.Rows.callWith_type1 (thn (ha.run pos pins s σ H _ I h) fun us s1 ⟨vs, H1, I1, r1, q1⟩ => ?_) hs rfl))
  obtain ⟨a, xs, ex, q1⟩ := q1
  subst ex
  cases r1 with
  | cons r rr =>
    cases rr
    cases r
    have fresh2 : ∀ b, b ∈ [s1.heap.objs.size + 1, s1.heap.objs.size] → FpOk X pins H1 b := fun b hb => by
      have e' : b = s1.heap.objs.size + 1 ∨ b = s1.heap.objs.size := by simpa using hb
      have hle : s1.heap.objs.size ≤ b := by
        rcases e' with z | z
        · rw [z]; exact Nat.le_add_right _ _
        · rw [z]; exact Nat.le_refl _
      exact I1.fpOk hle (I1.hok.fresh hle)
    rcases q1 with ⟨hq, q⟩ | ⟨hq, q⟩
    · obtain ⟨its, rv, p', hz⟩ := I1.list hq
      refine call_enumerate_list p'.isList fun h' he hit hsz hk => wpAny_pyIter_enum he ?_
      have I2 : Inv X pins σ H1 { s1 with heap := h' } := I1.kept (t' := s1.toks) hk
      exact ⟨s1.heap.objs.size + 1, [s1.heap.objs.size + 1, s1.heap.objs.size], _, _, H1, rfl, I2, turn_enum a (s1.heap.objs.size + 1) s1.heap.objs.size, ⟨⟨.none, he⟩, hit, Nat.succ_ne_self _⟩, fresh2, q⟩
    · obtain ⟨its, rv, p', hz⟩ := I1.tuple hq
      have hlt : a < s1.heap.objs.size := by obtain ⟨o, ho, _⟩ := id p'; exact Heap.lt_size ho
      refine enum_begins1 (begins_tuple a its.toArray) (show s1.heap.IsTuple a its.toArray from p') fun h' he hit hsz hk => wpAny_pyIter_enum he ?_
      have I2 : Inv X pins σ H1 { s1 with heap := h' } := I1.kept (t' := s1.toks) hk
      exact ⟨s1.heap.objs.size + 1, [s1.heap.objs.size + 1, s1.heap.objs.size], _, _, H1, rfl, I2, turn_enumT a (s1.heap.objs.size + 1) s1.heap.objs.size, ⟨⟨.none, he⟩, ⟨_, hit, rfl, rfl⟩, Nat.succ_ne_self _, Nat.ne_of_lt hlt, Nat.ne_of_lt (Nat.lt_succ_of_lt hlt)⟩, fresh2, q⟩
theorem walk_enumT {K : PySem.W.Frag} {a : Addr} {xs : List V} : Walk (IteT K a) xs.length (fun H => SqT K H a xs) (YPair (fun i => some (.int (i : Nat))) (fun i => xs[i]?)) := by
  refine ⟨fun i _ hi q => ⟨xs, xs[i], q, by simp [hi]⟩, fun _ q => ⟨xs, q, Nat.le_refl _⟩, fun i H v H' _ q y => ?_⟩
  obtain ⟨T, x, h1, h2, h3, h4⟩ := y
  exact ⟨T, .int (i : Nat), x, h1, h2, h3, rfl, h4 xs q⟩
end V0
namespace V0
open PySem PySem.Spec PyProof.Rows L2
/-! ### a list or a tuple -/
def IsSq (H : Hp) (a : Addr) (xs : List V) : Prop := H a = some (.lst xs) ∨ H a = some (.tup xs)
theorem IsSq.same {H H' : Hp} {a : Addr} {xs : List V} (h : IsSq H a xs) (s : Same H H') : IsSq H' a xs := h.imp (s _ _) (s _ _)
theorem IsSq.kept {H H' : Hp} {a : Addr} {xs : List V} (h : IsSq H a xs) (s : Same H H') : H' a = H a := by
  rcases h with e | e
  · rw [e]; exact s _ _ e
  · rw [e]; exact s _ _ e
theorem IsSq.len {K : PySem.W.Frag} {H : Hp} {a : Addr} {xs : List V} (h : IsSq H a xs) : LenV K (.ref a) H xs.length := by
  rcases h with e | e
  · exact .inl ⟨_, SqL.of e, rfl⟩
  · exact .inr ⟨_, SqT.of e, rfl⟩
theorem IsSq.ne {H : Hp} {a b : Addr} {xs : List V} (h : IsSq H a xs) (hb : H b = none) : a ≠ b := by
  rcases h with e | e
  · exact ne_of_none e hb
  · exact ne_of_none e hb
def iSq (te : TE) : TI := fun σ H R => te σ H fun x H1 => ∃ a xs, x = .ref a ∧ IsSq H1 a xs ∧ ∀ J, Walk J xs.length (fun H' => H' a = H1 a) (YAt xs) → R J H1
def iEnumS (ta : TA) : TI := fun σ H R => ta σ H fun vs H1 => ∃ a xs, vs = [.ref a] ∧ IsSq H1 a xs ∧ ∀ J, Walk J xs.length (fun H' => H' a = H1 a) (YPair (fun i => some (.int (i : Nat))) (fun i => xs[i]?)) → R J H1
section
variable {X : Cx}
theorem pi_sq {tg l : Expr} {tl : TE} (hl : PE X l tl) : PI X tg l (iSq tl) := by
  refine ⟨fun pins s σ H R I h => ?_⟩
  refine thn (hl.run pins s σ H _ I h) fun v s1 ⟨x, H1, I1, r1, q1⟩ => ?_
  obtain ⟨a, xs, e, hq, q⟩ := q1
  subst e
  cases r1
  have fresh1 : ∀ b, b ∈ [s1.heap.objs.size] → FpOk X pins H1 b := fun b hb => by
    have e : b = s1.heap.objs.size := by simpa using hb
    subst e
    exact I1.fpOk (Nat.le_refl _) (I1.hok.fresh (Nat.le_refl _))
  rcases hq with hq | hq
  · obtain ⟨its, rv, p, hz⟩ := I1.list (SqL.of hq)
    refine wpAny_pyIter_list p.isList ?_
    exact ⟨s1.heap.objs.size, [s1.heap.objs.size], _, _, H1, rfl, I1.kept (t' := s1.toks) fun b o e => Heap.get?_push_of_some _ e, turn_list a _, ⟨_, Heap.get?_push_size _ rfl, rfl, rfl⟩, fresh1, q _ (walk_list.mono (fun H e => SqL.of (e.trans hq)) fun _ _ _ _ _ _ y => y)⟩
  · obtain ⟨its, rv, p, hz⟩ := I1.tuple (SqT.of hq)
    refine wpAny_pyIter_tuple (show s1.heap.IsTuple a its.toArray from p) ?_
    exact ⟨s1.heap.objs.size, [s1.heap.objs.size], _, _, H1, rfl, I1.kept (t' := s1.toks) fun b o e => Heap.get?_push_of_some _ e, turn_tuple a _, ⟨_, Heap.get?_push_size _ rfl, rfl, rfl⟩, fresh1, q _ (walk_tup.mono (fun H e => SqT.of (e.trans hq)) fun _ _ _ _ _ _ y => y)⟩
theorem pi_enumS {e : Expr} {ta : TA} {p pos tpos : Pos} {elts : List Expr} {kk : Nat} (hg : Gl X "enumerate") (hm : X.mg "enumerate" = none) (ha : PA X [e] ta) (hs : starEach [e] X.env = [(false, eval e X.env)] := by rfl) :
    PI X (.Tuple elts kk tpos) (.Call (.Name "enumerate" p) [e] [] pos) (iEnumS ta) := by
  refine ⟨fun pins s σ H R I h => ?_⟩
  refine Call_ (ld_blt I hg hm boot_enumerate (PyProof.Rows.callWith_type1 (thn (ha.run pos pins s σ H _ I h) fun us s1 ⟨vs, H1, I1, r1, q1⟩ => ?_) hs rfl))
  obtain ⟨a, xs, ex, hq, q⟩ := q1
  subst ex
  cases r1 with
  | cons r rr =>
    cases rr
    cases r
    have fresh2 : ∀ b, b ∈ [s1.heap.objs.size + 1, s1.heap.objs.size] → FpOk X pins H1 b := fun b hb => by
      have e' : b = s1.heap.objs.size + 1 ∨ b = s1.heap.objs.size := by simpa using hb
      have hle : s1.heap.objs.size ≤ b := by
        rcases e' with z | z
        · rw [z]; exact Nat.le_add_right _ _
        · rw [z]; exact Nat.le_refl _
      exact I1.fpOk hle (I1.hok.fresh hle)
    rcases hq with hq | hq
    · obtain ⟨its, rv, p', hz⟩ := I1.list (SqL.of hq)
      refine call_enumerate_list p'.isList fun h' he hit hsz hk => wpAny_pyIter_enum he ?_
      have I2 : Inv X pins σ H1 { s1 with heap := h' } := I1.kept (t' := s1.toks) hk
      exact ⟨s1.heap.objs.size + 1, [s1.heap.objs.size + 1, s1.heap.objs.size], _, _, H1, rfl, I2, turn_enum a (s1.heap.objs.size + 1) s1.heap.objs.size, ⟨⟨.none, he⟩, hit, Nat.succ_ne_self _⟩, fresh2, q _ (walk_enum.mono (fun H e => SqL.of (e.trans hq)) fun _ _ _ _ _ _ y => y)⟩
    · obtain ⟨its, rv, p', hz⟩ := I1.tuple (SqT.of hq)
      have hlt : a < s1.heap.objs.size := by obtain ⟨o, ho, _⟩ := id p'; exact Heap.lt_size ho
      refine enum_begins1 (begins_tuple a its.toArray) (show s1.heap.IsTuple a its.toArray from p') fun h' he hit hsz hk => wpAny_pyIter_enum he ?_
      have I2 : Inv X pins σ H1 { s1 with heap := h' } := I1.kept (t' := s1.toks) hk
      exact ⟨s1.heap.objs.size + 1, [s1.heap.objs.size + 1, s1.heap.objs.size], _, _, H1, rfl, I2, turn_enumT a (s1.heap.objs.size + 1) s1.heap.objs.size, ⟨⟨.none, he⟩, ⟨_, hit, rfl, rfl⟩, Nat.succ_ne_self _, Nat.ne_of_lt hlt, Nat.ne_of_lt (Nat.lt_succ_of_lt hlt)⟩, fresh2, q _ (walk_enumT.mono (fun H e => SqT.of (e.trans hq)) fun _ _ _ _ _ _ y => y)⟩
def rSlS : V → Option Int → Option Int → Hp → VK → Prop := fun x lo hi H Q => ∃ a xs, x = .ref a ∧ IsSq H a xs ∧ ¬ (HT.sIx xs.length 0 lo = 0 ∧ HT.sIx xs.length xs.length hi = xs.length) ∧ ∀ p o, H p = none → (o = .lst (cutV xs lo hi) ∨ o = .tup (cutV xs lo hi)) → Q (.ref p) (upd H p o)
theorem sl_sq : SlR X rSlS := by
  intro pins s σ H x v vl vu lo hi sl Q I rx hs pl pu h
  obtain ⟨a, xs, rfl, hq, nw, q⟩ := h
  rcases hq with hq | hq
  · exact sl_list pins s σ H _ v vl vu lo hi sl Q I rx hs pl pu ⟨a, xs, rfl, SqL.of hq, fun p hp => q p _ hp (.inl rfl)⟩
  · exact sl_tup pins s σ H _ v vl vu lo hi sl Q I rx hs pl pu ⟨a, xs, rfl, SqT.of hq, nw, fun p hp => q p _ hp (.inr rfl)⟩
/-- sorted(xs) of texts -/
def rSortedQ : List V → Hp → VK → Prop := fun vs H Q => ∃ (a : Addr) (zs : List Str), vs = [V.ref a] ∧ IsSq H a (zs.map V.str) ∧ zs.length < 64 ∧
  ∀ (ys : List Str) (p : Addr), ys.Perm zs → sortedS ys = true → H p = none → Q (.ref p) (upd H p (.lst (ys.map V.str)))
theorem cr_sortedQ : CallR X (.builtin "sorted") rSortedQ := by
  intro pins s σ H vs us Q I r h
  obtain ⟨a, zs, rfl, hq, l, q⟩ := h
  rcases hq with hq | hq
  · exact cr_sortedS pins s σ H _ us Q I r ⟨a, zs, rfl, SqL.of hq, l, q⟩
  · exact cr_sortedTS pins s σ H _ us Q I r ⟨a, zs, rfl, SqT.of hq, l, q⟩
/-- min(p), max(p) of a pair of texts -/
def loS (a b : Str) : Str := if b.cps.toList < a.cps.toList then b else a
def hiS (a b : Str) : Str := if a.cps.toList < b.cps.toList then b else a
def rMinP : List V → Hp → VK → Prop := fun vs H Q => ∃ (p : Addr) (a b : Str), vs = [V.ref p] ∧ H p = some (.tup [.str a, .str b]) ∧ Q (.str (loS a b)) H
def rMaxP : List V → Hp → VK → Prop := fun vs H Q => ∃ (p : Addr) (a b : Str), vs = [V.ref p] ∧ H p = some (.tup [.str a, .str b]) ∧ Q (.str (hiS a b)) H
theorem cr_minP (hc : X.calm = true) (hu : X.A.units + 65 < cLine) : CallR X (.builtin "min") rMinP := by
  intro pins s σ H vs us Q I r h
  obtain ⟨p, a, b, rfl, hp, q⟩ := h
  obtain ⟨its, rv, ht, _⟩ := I.tuple (SqT.of (K := X.K) hp)
  rw [Vals.ref1 r]
  cases rv with
  | cons r1 rr =>
    cases rr with
    | cons r2 rr =>
      cases rr
      obtain ⟨t1, rfl⟩ := r1
      obtain ⟨t2, rfl⟩ := r2
      refine PySem.W.min_tuple_data (x := .str a) (xs := [.str b]) (I.ok.hd hc) ht (.cons (.str _ _) (.cons (.str _ _) .nil)) ⟨fun x hx y hy => ?_, fun x hx => ?_⟩ (by show _ + 1 + 0 < _; omega) fun i v h' tk bs hv hr hk => ?_
      · rcases List.mem_cons.mp hx with rfl | hx
        · rcases List.mem_cons.mp hy with rfl | hy
          · rfl
          · rw [List.mem_singleton.mp hy]; rfl
        · rw [List.mem_singleton.mp hx]
          rcases List.mem_cons.mp hy with rfl | hy
          · rfl
          · rw [List.mem_singleton.mp hy]; rfl
      · rcases List.mem_cons.mp hx with rfl | hx
        · exact fun z => nomatch z
        · rw [List.mem_singleton.mp hx]
          exact fun z => nomatch z
      · have e : PySem.W.minD (.str a) [.str b] = .str (loS a b) := by
          show (if PySem.W.dataLt (.str b) (.str a) then PyData.str b else PyData.str a) = _
          rw [PySem.W.dataLt_str]
          unfold loS
          by_cases l : b.cps.toList < a.cps.toList
          · rw [if_pos l, if_pos (decide_eq_true l)]
          · rw [if_neg l, if_neg (by simpa using l)]
        rw [e] at hr
        cases hr with
        | str x t => exact ⟨.str _, H, I.kept (t' := tk) hk, ⟨t, rfl⟩, q⟩
theorem cr_maxP (hc : X.calm = true) (hu : X.A.units + 65 < cLine) : CallR X (.builtin "max") rMaxP := by
  intro pins s σ H vs us Q I r h
  obtain ⟨p, a, b, rfl, hp, q⟩ := h
  obtain ⟨its, rv, ht, _⟩ := I.tuple (SqT.of (K := X.K) hp)
  rw [Vals.ref1 r]
  cases rv with
  | cons r1 rr =>
    cases rr with
    | cons r2 rr =>
      cases rr
      obtain ⟨t1, rfl⟩ := r1
      obtain ⟨t2, rfl⟩ := r2
      refine PySem.W.max_tuple_data (x := .str a) (xs := [.str b]) (I.ok.hd hc) ht (.cons (.str _ _) (.cons (.str _ _) .nil)) ⟨fun x hx y hy => ?_, fun x hx => ?_⟩ (by show _ + 1 + 0 < _; omega) fun i v h' tk bs hv hr hk => ?_
      · rcases List.mem_cons.mp hx with rfl | hx
        · rcases List.mem_cons.mp hy with rfl | hy
          · rfl
          · rw [List.mem_singleton.mp hy]; rfl
        · rw [List.mem_singleton.mp hx]
          rcases List.mem_cons.mp hy with rfl | hy
          · rfl
          · rw [List.mem_singleton.mp hy]; rfl
      · rcases List.mem_cons.mp hx with rfl | hx
        · exact fun z => nomatch z
        · rw [List.mem_singleton.mp hx]
          exact fun z => nomatch z
      · have e : PySem.W.maxD (.str a) [.str b] = .str (hiS a b) := by
          show (if PySem.W.dataLt (.str a) (.str b) then PyData.str b else PyData.str a) = _
          rw [PySem.W.dataLt_str]
          unfold hiS
          by_cases l : a.cps.toList < b.cps.toList
          · rw [if_pos l, if_pos (decide_eq_true l)]
          · rw [if_neg l, if_neg (by simpa using l)]
        rw [e] at hr
        cases hr with
        | str x t => exact ⟨.str _, H, I.kept (t' := tk) hk, ⟨t, rfl⟩, q⟩
end
end V0

namespace V0
open PySem PySem.Spec PyProof.Rows L2
/-- a new list of pairs -/
def PrsL (H : Hp) (l : Addr) (ps : List Pai) : Prop := ∃ as : List Addr, H l = some (.lst (as.map V.ref)) ∧ Paired (PrAt H) ps as
theorem PrsL.same {H H' : Hp} {l : Addr} {ps : List Pai} (h : PrsL H l ps) (s : Same H H') : PrsL H' l ps := by
  obtain ⟨as, e, p⟩ := h
  exact ⟨as, s _ _ e, paired_mono (fun _ _ e => PrAt.same e s) p⟩
theorem paired_app2 {α β : Type} {R : α → β → Prop} {x2 : List α} {y2 : List β} : ∀ {xs : List α} {ys : List β}, Paired R xs ys → Paired R x2 y2 → Paired R (xs ++ x2) (ys ++ y2)
  | _, _, .nil, q => q
  | _, _, .cons a b, q => .cons a (paired_app2 b q)
theorem PrsL.nil {H : Hp} {D : Addr} : PrsL (upd H D (.lst [])) D [] := ⟨[], upd_same, .nil⟩
/-- a new pair at the end of a list of pairs -/
theorem prsL_push {H0 H : Hp} {D b : Addr} {qs : List Pai} {p : Pai} (hD : H0 D = none) (s : Same H0 H) (h : PrsL H D qs) (l : qs.length < 1000) (hb : H b = none) :
    ∃ acc, (upd H b (.tup [.str p.1, .str p.2])) D = some (.lst acc) ∧ acc.length < sizeLine ∧ Same H0 (upd (upd H b (.tup [.str p.1, .str p.2])) D (.lst (acc ++ [.ref b]))) ∧ PrsL (upd (upd H b (.tup [.str p.1, .str p.2])) D (.lst (acc ++ [.ref b]))) D (qs ++ [p]) := by
  obtain ⟨as, e, pa⟩ := h
  have nb : b ≠ D := fun z => by rw [z, e] at hb; cases hb
  refine ⟨_, by rw [upd_ne (Ne.symm nb)]; exact e, by rw [List.length_map, ← pa.length, sizeLine_eq]; omega, fun c o ec => ?_, as ++ [b], by rw [upd_same, List.map_append]; rfl, ?_⟩
  · rw [upd_ne (ne_of_none ec hD), upd_ne (ne_of_none (s _ _ ec) hb)]
    exact s _ _ ec
  · refine paired_snoc (paired_mono (fun q a (ea : PrAt H q a) => ?_) pa) ?_
    · have na : a ≠ D := fun z => by rw [z] at ea; rw [show H D = _ from ea] at e; cases e
      show upd _ D _ a = _
      rw [upd_ne na]
      exact (Same.new hb) _ _ ea
    · show upd _ D _ b = _
      rw [upd_ne nb]
      exact upd_same
/-- a pair that stands at the end of a list of pairs -/
theorem prsL_add {H0 H : Hp} {D b : Addr} {qs : List Pai} {p : Pai} (hD : H0 D = none) (s : Same H0 H) (h : PrsL H D qs) (l : qs.length < 1000) (hb : PrAt H p b) :
    ∃ acc, H D = some (.lst acc) ∧ acc.length < sizeLine ∧ Same H0 (upd H D (.lst (acc ++ [.ref b]))) ∧ PrsL (upd H D (.lst (acc ++ [.ref b]))) D (qs ++ [p]) := by
  obtain ⟨as, e, pa⟩ := h
  have nD : ∀ {q : Pai} {a : Addr}, PrAt H q a → a ≠ D := fun {q a} ea z => by rw [z] at ea; rw [show H D = _ from ea] at e; cases e
  refine ⟨_, e, by rw [List.length_map, ← pa.length, sizeLine_eq]; omega, fun c o ec => ?_, as ++ [b], by rw [upd_same, List.map_append]; rfl, ?_⟩
  · rw [upd_ne (ne_of_none ec hD)]
    exact s _ _ ec
  · refine paired_snoc (paired_mono (fun q a (ea : PrAt H q a) => ?_) pa) ?_
    · show upd _ D _ a = _
      rw [upd_ne (nD ea)]
      exact ea
    · show upd _ D _ b = _
      rw [upd_ne (nD hb)]
      exact hb
theorem cutV_from (xs : List V) (k : Nat) : cutV xs (some (k : Int)) none = xs.drop k := by
  unfold cutV
  rw [HT.sIx_nat, HT.sIx_none]
  by_cases h : k ≤ xs.length
  · rw [Nat.min_eq_left h]
    exact List.take_of_length_le (by rw [List.length_drop]; exact Nat.le_refl _)
  · rw [Nat.min_eq_right (by omega), Nat.sub_self, List.take_zero, List.drop_eq_nil_of_le (by omega)]
theorem prs_drop : ∀ {zs : List Str} {i : Nat} {z : Str}, zs[i]? = some z → prs (zs.drop i) = ((zs.drop (i + 1)).map fun y => (z, y)) ++ prs (zs.drop (i + 1))
  | [], i, z, h => by simp at h
  | y :: zs, 0, z, h => by
    have e : y = z := by simpa using h
    subst e
    rfl
  | y :: zs, i + 1, z, h => prs_drop (zs := zs) (i := i) (by simpa using h)
def spAllPairs : Sp := fun vs H Q _ => ∃ (a : Addr) (zs : List Str), vs = [.ref a] ∧ IsSq H a (zs.map V.str) ∧ zs.length ≤ 8 ∧ ∀ l H', Same H H' → H l = none → PrsL H' l (prs zs) → Q (.ref l) H'
section
variable {P : Program} {w : World} {K : PySem.W.Frag} {mg : Str → Option Value} {base : Heap} {C : Addr}
abbrev s_all_pairs : Stmt := top 64
abbrev N_all_pairs : List Str := ["_law_things", "_law_found", "_law_at", "_law_one", "_law_other"]
abbrev P_all_pairs : List Str := ["_law_things"]
theorem sc_all_pairs : FnScope N_all_pairs P_all_pairs (defScope s_all_pairs) := ⟨rfl, rfl, rfl, by decide +kernel, rfl, by decide +kernel, by decide +kernel⟩
theorem ok_all_pairs {f : Addr} {fd : FuncData} (B : Bl mg) (M : Bm mg) (D : Df K mg "_law_all_pairs" s_all_pairs P_all_pairs f fd) : FnOk P w K mg base CX0 1 f fd P_all_pairs spAllPairs := by
  refine D.F.ok sc_all_pairs (fun vs H Q E h => ?_) (fun cdv A outer s H vs Q E hr h => ?_)
  · obtain ⟨a, zs, rfl, _⟩ := h
    rfl
  · obtain ⟨a, zs, rfl, hs, l8, k⟩ := h
    refine ⟨_, (pss_cons (ps_set (i := 1) sc_all_pairs.nd rfl (Or.inl rfl) (pe_lst pa_nil))
      (pss_cons (ps_for PassesOwn.never rfl (pi_enumS (by rfl) M.b_enumerate (pa_cons (pv 0) pa_nil)) (pg_tup rfl (pgs_cons (pg_name (i := 2) sc_all_pairs.nd rfl (Or.inl rfl)) (pgs_cons (pg_name (i := 3) sc_all_pairs.nd rfl (Or.inr rfl)) pgs_nil))) (pss_one (ps_set (i := 1) sc_all_pairs.nd rfl (Or.inl rfl) (pe_op op_cat (pv 1) (pe_lc (own := [("_law_other", 4)]) (g := gName 4) (tt := tYes) rfl sc_all_pairs.nd (pi_sq (pe_slice sl_sq (pv 0) (po_some (pe_op op_add (pv 2) pe_int)) po_none)) (blkOk_by (own := [("_law_other", 4)]) (N := N_all_pairs) (sc := defScope s_all_pairs) (by decide +kernel)) (fun _ _ _ _ _ => (pg_name (i := 4) sc_all_pairs.nd rfl (Or.inl rfl))) (fun _ _ _ _ _ => pts_nil) (fun _ _ _ _ _ => (pe_tup (pa_cons (pv 3) (pa_cons (pv 4) pa_nil)))))))))
      (pss_one (ps_ret (pv 1))))), ?_⟩
    refine ⟨Nat.zero_le _, fun l hl => ?_⟩
    have s1 := Same.new (o := .lst []) hl
    have p1 : PrsL (upd H l (.lst [])) l [] := PrsL.nil
    generalize upd H l (.lst []) = H1 at s1 p1 ⊢
    refine ⟨_, rfl, a, zs.map V.str, rfl, hs.same s1, fun J wk => ?_⟩
    have hs1 := hs.same s1
    refine for_it wk (fun i σ H' => Same H1 H' ∧ ∃ (l : Addr) (o2 o3 o4 : Option V) (qs : List Pai), σ = [some (.ref a), some (.ref l), o2, o3, o4] ∧ H l = none ∧ PrsL H' l qs ∧ qs ++ prs (zs.drop i) = prs zs) ⟨Same.refl _, l, none, none, none, [], rfl, hl, p1, rfl⟩ (fun i σ H' _ ⟨s2, _⟩ => hs1.kept s2) ?_ ?_
    · rintro i v σ H2 H3 hi ⟨s2, l, o2, o3, o4, qs, rfl, hl, pl, eq⟩ ⟨T, x, y, rfl, hT, rfl, hx, hy⟩
      obtain rfl : x = .int (i : Nat) := by injection hx with hx; exact hx.symm
      obtain ⟨z, hz, rfl⟩ := str_at hy
      rw [List.length_map] at hi
      have s3 := Same.trans s2 (Same.new (o := .tup [.int (i : Nat), .str z]) hT)
      have pl3 := pl.same (Same.new (o := .tup [.int (i : Nat), .str z]) hT)
      have eT : (upd H2 T (.tup [.int (i : Nat), .str z])) T = some (.tup [.int (i : Nat), .str z]) := upd_same
      generalize upd H2 T (.tup [.int (i : Nat), .str z]) = H3 at s3 pl3 eT ⊢
      refine ⟨T, _, rfl, SqT.of eT, rfl, _, _, rfl, _, _, rfl, rfl, ?_⟩
      have hs3 := hs1.same s3
      refine ⟨_, rfl, _, rfl, _, rfl, _, _, rfl, rfl, _, rfl, a, zs.map V.str, rfl, hs3, fun e => ?_, fun p o hp ho => ?_⟩
      · have e := e.1
        rw [show ((i : Int) + 1) = ((i + 1 : Nat) : Int) from rfl, HT.sIx_nat, List.length_map] at e
        omega
      rw [show ((i : Int) + 1) = ((i + 1 : Nat) : Int) from rfl, cutV_from, ← List.map_drop] at ho
      have sp := Same.new (o := o) hp
      have hp4 : IsSq (upd H3 p o) p ((zs.drop (i + 1)).map V.str) := by
        rcases ho with e | e
        · exact .inl (by rw [upd_same, e])
        · exact .inr (by rw [upd_same, e])
      have s4 := Same.trans s3 sp
      have pl4 := pl3.same sp
      generalize upd H3 p o = H4 at s4 pl4 hp4 ⊢
      refine ⟨p, _, rfl, hp4, fun J2 wk2 D hD => ?_⟩
      have ql : qs.length ≤ 56 := by
        have h1 := congrArg List.length eq
        rw [List.length_append] at h1
        have h2 := prs_len l8
        omega
      refine lc_it wk2 (fun j H' => Same H4 H' ∧ PrsL H' D (((zs.drop (i + 1)).take j).map fun y => (z, y))) ⟨Same.new hD, PrsL.nil⟩ (fun j H' _ ⟨s5, _⟩ => hp4.kept s5) ?_ ?_
      · rintro j v H5 H6 hj ⟨s5, pd⟩ ⟨rfl, hy⟩
        obtain ⟨y, hy2, rfl⟩ := str_at hy
        refine ⟨rfl, _, rfl, _, rfl, by show 2 ≤ sizeLine; decide, fun b hb => ?_⟩
        rw [take_snoc hy2, List.map_append]
        exact prsL_push (p := (z, y)) hD s5 pd (by rw [List.length_map, List.length_take, List.length_drop]; omega) hb
      · rintro H5 ⟨s5, pd⟩
        rw [List.length_map, List.take_length] at pd
        obtain ⟨as1, e1, pa1⟩ := pl4.same s5
        obtain ⟨as2, e2, pa2⟩ := pd
        have l1 := pa1.length
        have l2 := pa2.length
        rw [List.length_map, List.length_drop] at l2
        refine ⟨l, D, _, _, rfl, rfl, e1, e2, by rw [List.length_map, List.length_map, sizeLine_eq]; omega, fun r hr => ?_⟩
        have s45 := Same.trans s4 s5
        refine ⟨Same.trans s45 (Same.new hr), r, _, _, _, qs ++ (zs.drop (i + 1)).map (fun y => (z, y)), rfl, none_up (Same.trans s1 s45) hr, ⟨as1 ++ as2, by rw [upd_same, List.map_append], ?_⟩, ?_⟩
        · exact paired_mono (fun _ _ e => PrAt.same e (Same.new hr)) (paired_app2 pa1 pa2)
        · rw [List.append_assoc, ← prs_drop hz]
          exact eq
    · rintro σ H2 ⟨s2, l, o2, o3, o4, qs, rfl, hl, pl, eq⟩
      rw [List.length_map, List.drop_length, show prs [] = [] from rfl, List.append_nil] at eq
      subst eq
      exact ⟨_, rfl, k l H2 (Same.trans s1 s2) hl pl⟩
end
end V0

namespace V0
open PySem PySem.Spec PyProof.Rows L2
def plF (t l : Addr) : List (Key × V) := [(.inr "things", .ref t), (.inr "ties", .ref l)]
/-- the plain web at p: a dict of the things and the ties -/
def IsPl (H : Hp) (p : Addr) (zs : List Str) (tie : Str → Str → Bool) : Prop := ∃ t l, H p = some (.dK (plF t l)) ∧ H t = some (tupS zs) ∧ PrsL H l (cfl zs tie)
theorem IsPl.same {H H' : Hp} {p : Addr} {zs : List Str} {tie : Str → Str → Bool} (h : IsPl H p zs tie) (s : Same H H') : IsPl H' p zs tie := by
  obtain ⟨t, l, e1, e2, e3⟩ := h
  exact ⟨t, l, s _ _ e1, s _ _ e2, e3.same s⟩
def loP (p : Pai) : Pai := (loS p.1 p.2, hiS p.1 p.2)
theorem loP_srt {p : Pai} (ne : p.1 ≠ p.2) : pk (loP p) = srt p := by
  unfold pk loP srt loS hiS
  rcases lt_tri ne with l | l
  · rw [if_pos l, if_pos l, if_neg (fun z => List.lt_irrefl _ (List.lt_trans z l))]
  · rw [if_pos l, if_neg (fun z => List.lt_irrefl _ (List.lt_trans z l)), if_neg (fun z => List.lt_irrefl _ (List.lt_trans z l))]
theorem mems_of {H : Hp} : ∀ {qs : List Pai} {bs : List Addr}, Paired (PrAt H) qs bs → ∃ ks : List Mem, ks.map (·.1) = bs ∧ ks.map (·.2) = qs.map pk ∧ ∀ q ∈ ks, H q.1 = some (tupS q.2)
  | _, _, .nil => ⟨[], rfl, rfl, fun q hq => by cases hq⟩
  | p :: qs, b :: bs, .cons e q => by
    obtain ⟨ks, k1, k2, k3⟩ := mems_of q
    refine ⟨(b, pk p) :: ks, by rw [List.map_cons, k1], by rw [List.map_cons, k2]; rfl, fun q hq => ?_⟩
    rcases List.mem_cons.mp hq with e1 | e1
    · rw [e1]; exact e
    · exact k3 q e1
def spPlain : Sp := fun vs H Q _ => ∃ (a l : Addr) (us : List Str) (ts : List Pai), vs = [.ref a, .ref l] ∧ IsSq H a (us.map V.str) ∧ us.Nodup ∧ us.length ≤ 8 ∧ PrsL H l ts ∧ (∀ p ∈ ts, PrOk us p) ∧ ts.length < 64 ∧
  ∀ p zs H', Same H H' → H p = none → Asc zs → zs.Perm us → IsPl H' p zs (tieP ts) → Q (.ref p) H'
section
variable {P : Program} {w : World} {K : PySem.W.Frag} {mg : Str → Option Value} {base : Heap} {C : Addr}
abbrev s_plain : Stmt := top 65
abbrev N_plain : List Str := ["_law_things", "_law_ties", "_law_pair"]
abbrev P_plain : List Str := ["_law_things", "_law_ties"]
theorem sc_plain : FnScope N_plain P_plain (defScope s_plain) := ⟨rfl, rfl, rfl, by decide +kernel, rfl, by decide +kernel, by decide +kernel⟩
theorem ok_plain {f : Addr} {fd : FuncData} (B : Bl mg) (M : Bm mg) (D : Df K mg "_law_plain" s_plain P_plain f fd) : FnOk P w K mg base CX0 1 f fd P_plain spPlain := by
  refine D.F.ok sc_plain (fun vs H Q E h => ?_) (fun cdv A outer s H vs Q E hr h => ?_)
  · obtain ⟨a, l, us, ts, rfl, _⟩ := h
    rfl
  · obtain ⟨a, l, us, ts, rfl, hs, nd, l8, hl, good, few, k⟩ := h
    refine ⟨_, (pss_one (ps_ret (pe_disp (pps_cons pe_str (show PE _ _ (tCB (rTupOf K) (tCons (tCB rSortedQ (tCons (tVar 0) tNil)) tNil)) from by exact (pe_callTy cr_tupOf (by rfl) B.b_tuple (by decide +kernel) (pa_cons (pe_callB cr_sortedQ (by rfl) M.b_sorted (by decide +kernel) (pa_cons (pv 0) pa_nil)) pa_nil))) (pps_cons pe_str (pe_callB (cr_sortedX rfl) (by rfl) M.b_sorted (by decide +kernel) (pa_cons (pe_callTy (cr_setX rfl hr.units) (by rfl) M.b_set (by decide +kernel) (pa_cons (pe_lc (own := [("_law_pair", 2)]) (g := gName 2) (tt := tYes) rfl sc_plain.nd (pi_list (pv 1)) (blkOk_by (own := [("_law_pair", 2)]) (N := N_plain) (sc := defScope s_plain) (by decide +kernel)) (fun _ _ _ _ _ => (pg_name (i := 2) sc_plain.nd rfl (Or.inl rfl))) (fun _ _ _ _ _ => pts_nil) (fun _ _ _ _ _ => (pe_tup (pa_cons (pe_callB (cr_minP rfl (Room.units65 hr)) (by rfl) B.b_min (by decide +kernel) (pa_cons (pv 2) pa_nil)) (pa_cons (pe_callB (cr_maxP rfl (Room.units65 hr)) (by rfl) B.b_max (by decide +kernel) (pa_cons (pv 2) pa_nil)) pa_nil))))) pa_nil)) pa_nil)) pps_nil)) (by rfl) (by rfl) (fun z => by cases z) (by decide)))), ?_⟩
    intro p hp
    have s0 := Same.new (o := .dK []) hp
    have ep : (upd H p (.dK [])) p = some (.dK []) := upd_same
    generalize upd H p (.dK []) = H0 at s0 ep ⊢
    -- the things
    refine ⟨_, rfl, a, us, rfl, hs.same s0, by omega, fun zs q pm ord hq => ?_⟩
    have asc : Asc zs := asc_sorted ord (pm.nodup_iff.mpr nd)
    refine ⟨q, _, rfl, .inl ⟨SqL.of upd_same, fun t ht => ?_⟩⟩
    have s1 := Same.trans (Same.new (o := .lst (zs.map V.str)) hq) (Same.new (o := .tup (zs.map V.str)) ht)
    have et : (upd (upd H0 q (.lst (zs.map V.str))) t (.tup (zs.map V.str))) t = some (tupS zs) := upd_same
    generalize upd (upd H0 q (.lst (zs.map V.str))) t (.tup (zs.map V.str)) = H1 at s1 et ⊢
    have s01 := Same.trans s0 s1
    obtain ⟨as, el, pa⟩ := hl.same s01
    -- the pairs in their order
    refine ⟨_, rfl, l, rfl, ⟨_, SqL.of el⟩, fun L hL => ?_⟩
    refine lc_it (walk_list (xs := as.map V.ref)) (fun i H' => Same H1 H' ∧ PrsL H' L ((ts.take i).map loP)) ⟨Same.new hL, PrsL.nil⟩ (fun i H' _ ⟨s2, _⟩ => SqL.of (s2 _ _ el)) ?_ ?_
    · rintro i v H2 H3 hi ⟨s2, pl⟩ ⟨rfl, hy⟩
      rw [List.length_map] at hi
      obtain ⟨p0, hp0, rfl⟩ := ref_at hy
      obtain ⟨p1, hp1, pat⟩ := paired_get pa hp0
      have pat := PrAt.same pat s2
      refine ⟨rfl, _, rfl, p0, p1.1, p1.2, rfl, pat, _, rfl, p0, p1.1, p1.2, rfl, pat, by show 2 ≤ sizeLine; decide, fun b hb => ?_⟩
      rw [take_snoc hp1, List.map_append]
      exact prsL_push (p := loP p1) hL s2 pl (by rw [List.length_map, List.length_take]; omega) hb
    · rintro H2 ⟨s2, pl⟩
      rw [List.length_map, ← pa.length, List.take_of_length_le (Nat.le_refl _)] at pl
      obtain ⟨bs, eL, pb⟩ := pl
      obtain ⟨ks, k1, k2, k3⟩ := mems_of pb
      have ksl : ks.length = ts.length := by
        have h := congrArg List.length k2
        rw [List.length_map, List.length_map, List.length_map] at h
        exact h
      -- the set
      refine ⟨L, ks, rfl, SqL.of (by rw [eL, ← k1, List.map_map]; rfl), fun q hq => SqT.of (k3 q hq), by omega, fun S Ls hS ndL sub cov => ?_⟩
      have s3 := Same.new (o := XSetO P w S Ls) hS
      have keys : ∀ k, k ∈ Ls.map (·.2) ↔ ∃ p ∈ ts, k = srt p := fun k => by
        constructor
        · intro h
          obtain ⟨q, hq, rfl⟩ := List.mem_map.mp h
          have h2 : q.2 ∈ ks.map (·.2) := List.mem_map.mpr ⟨q, sub q hq, rfl⟩
          rw [k2, List.map_map] at h2
          obtain ⟨p, hp, e⟩ := List.mem_map.mp h2
          exact ⟨p, hp, by rw [← e]; exact loP_srt (good p hp).2.2⟩
        · rintro ⟨p, hp, rfl⟩
          have h2 : srt p ∈ ks.map (·.2) := by
            rw [k2, List.map_map]
            exact List.mem_map.mpr ⟨p, hp, loP_srt (good p hp).2.2⟩
          obtain ⟨q, hq, e⟩ := List.mem_map.mp h2
          rw [← e]
          exact cov q hq
      refine ⟨S, Ls, rfl, upd_same, fun q hq => SqT.of (s3 _ _ (k3 q (sub q hq))), fun q hq => ?_, fun L' pl pL few' ordL hpl => ?_⟩
      · obtain ⟨p, _, e⟩ := (keys _).mp (List.mem_map.mpr ⟨q, hq, rfl⟩)
        rw [e]
        unfold srt
        split <;> simp
      have s4 := Same.trans s3 (Same.new (o := .lst (L'.map fun q => V.ref q.1)) hpl)
      have eks : L'.map (·.2) = (cfl zs (tieP ts)).map pk := by
        have cp := cfl_asc (tie := tieP ts) asc
        refine ltT_one (List.pairwise_map.mpr ordL) cp (perm_nodup_iff ((pL.map (·.2)).nodup_iff.mpr ndL) (cp.imp fun {a b} q e => by rw [e, ltT_self] at q; cases q) fun k => ?_)
        rw [(pL.map (·.2)).mem_iff, keys]
        exact srt_cfl asc pm good
      have hm : ∀ q ∈ L', (upd (upd H2 S (XSetO P w S Ls)) pl (.lst (L'.map fun q => V.ref q.1))) q.1 = some (tupS q.2) := fun q hq => s4 _ _ (k3 q (sub q (pL.mem_iff.mp hq)))
      have prl : PrsL (upd (upd H2 S (XSetO P w S Ls)) pl (.lst (L'.map fun q => V.ref q.1))) pl (cfl zs (tieP ts)) := ⟨L'.map (·.1), by rw [upd_same, List.map_map]; rfl, pairs_of eks hm⟩
      have s14 := Same.trans s2 s4
      generalize hH4 : upd (upd H2 S (XSetO P w S Ls)) pl (.lst (L'.map fun q => V.ref q.1)) = H4 at s14 prl
      have ep4 := s14 _ _ (s1 _ _ ep)
      have et4 := s14 _ _ et
      have s5 : Same H (upd H4 p (.dK (plF t pl))) := fun b o e => by rw [upd_ne (ne_of_none e hp)]; exact s14 _ _ (s01 _ _ e)
      have pl5 : IsPl (upd H4 p (.dK (plF t pl))) p zs (tieP ts) := by
        refine ⟨t, pl, upd_same, ?_, ?_⟩
        · rw [upd_ne (ne_of et4 ep4 fun z => nomatch z)]
          exact et4
        · obtain ⟨cs, e1, e2⟩ := prl
          refine ⟨cs, ?_, paired_mono (fun q b e => ?_) e2⟩
          · rw [upd_ne (ne_of e1 ep4 fun z => nomatch z)]
            exact e1
          · show upd _ p _ b = _
            rw [upd_ne (ne_of e ep4 fun z => nomatch z)]
            exact e
      subst hH4
      exact ⟨ep4, plF t pl, rfl, by show 2 ≤ 15; decide, k p zs _ s5 hp asc pm pl5⟩
end
end V0

namespace V0
open PySem PySem.Spec PyProof.Rows L2
def spShufQ : Sp := fun vs H Q _ => ∃ (p l : Addr) (xs : List V), vs = [.ref p, .ref l] ∧ Pot H p ∧ l ≠ p ∧ IsSq H l xs ∧ xs.length ≤ 100 ∧
  ∀ (q : Addr) (ys : List V) (H' : Hp), ys.Perm xs → H' q = some (.lst ys) → q ≠ p → H q = none → Pot H' p → But p H H' → Q (.ref q) H'
/-- a pair that stands at the end of a list of pairs, while the pot changes -/
theorem prsL_addB {H0 H : Hp} {p D b : Addr} {qs : List Pai} {q : Pai} (hD : H0 D = none) (s : But p H0 H) (h : PrsL H D qs) (l : qs.length < 1000) (hb : PrAt H q b) :
    ∃ acc, H D = some (.lst acc) ∧ acc.length < sizeLine ∧ But p H0 (upd H D (.lst (acc ++ [.ref b]))) ∧ PrsL (upd H D (.lst (acc ++ [.ref b]))) D (qs ++ [q]) := by
  obtain ⟨acc, e1, e2, _, e4⟩ := prsL_add (H0 := fun b => if b = D then none else H b) (if_pos rfl) (fun c o ec => by
    by_cases e : c = D
    · have ec : (if c = D then none else H c) = some o := ec
      rw [if_pos e] at ec; cases ec
    · have ec : (if c = D then none else H c) = some o := ec
      rw [if_neg e] at ec; exact ec) h l hb
  exact ⟨acc, e1, e2, fun c o ec n => by rw [upd_ne (ne_of_none ec hD)]; exact s _ _ ec n, e4⟩
theorem PrAt.but {p : Addr} {H H' : Hp} {q : Pai} {a : Addr} (s : But p H H') (hp : Pot H p) (h : PrAt H q a) : PrAt H' q a := s _ _ h (by
  rintro rfl
  obtain ⟨i, j, k, e, _⟩ := hp
  rw [show H a = _ from h] at e
  cases e)
theorem PrsL.but {p : Addr} {H H' : Hp} {l : Addr} {qs : List Pai} (h : PrsL H l qs) (s : But p H H') (hp : Pot H p) (n : l ≠ p) : PrsL H' l qs := by
  obtain ⟨as, e, pa⟩ := h
  exact ⟨as, s _ _ e n, paired_mono (fun _ _ e => PrAt.but s hp e) pa⟩
theorem IsSq.but {p : Addr} {H H' : Hp} {a : Addr} {xs : List V} (h : IsSq H a xs) (s : But p H H') (n : a ≠ p) : IsSq H' a xs := h.imp (fun e => s _ _ e n) fun e => s _ _ e n
section
variable {P : Program} {w : World} {K : PySem.W.Frag} {mg : Str → Option Value} {base : Heap}
theorem ok_shufQ {f f1 : Addr} {fd fd1 : FuncData} (B : Bl mg) (D_stir : Df K mg "_law_stir" s_stir P_stir f1 fd1) (D : Df K mg "_law_shuffled" s_shuffled P_shuffled f fd) : FnOk P w K mg base CX0 2 f fd P_shuffled spShufQ := by
  have G_stir : FnOk P w K mg base CX0 1 f1 fd1 P_stir spStir := ok_stir B D_stir
  refine D.F.ok sc_shuffled (fun vs H Q E h => ?_) (fun cdv A outer s H vs Q E hr h => ?_)
  · obtain ⟨p, l, xs, rfl, _⟩ := h
    rfl
  · obtain ⟨p, l, xs, rfl, hp, hlp, hl, hn, k⟩ := h
    refine ⟨_, (pss_cons (ps_set (i := 2) sc_shuffled.nd rfl (Or.inr rfl) (pe_callTy call_list_of (by rfl) B.b_list (by decide +kernel) (pa_cons (pv 1) pa_nil)))
      (pss_one (ps_ret (pe_lc (own := [("_law_turn", 3)]) (g := gName 3) (tt := tYes) rfl sc_shuffled.nd (pi_range1 rfl B.b_range (pa_cons (pe_callB call_len (by rfl) B.b_len (by decide +kernel) (pa_cons (pv 1) pa_nil)) pa_nil)) (blkOk_by (own := [("_law_turn", 3)]) (N := N_shuffled) (sc := defScope s_shuffled) (by decide +kernel)) (fun _ _ _ _ _ => (pg_name (i := 3) sc_shuffled.nd rfl (Or.inl rfl))) (fun _ _ _ _ _ => pts_nil) (fun _ _ _ _ _ => (show PE _ _ (t_pop K) from by exact (pe_bm PySem.F.plainAttrs_list PySem.F.slot_list_pop PySem.F.type_list_pop mt_popAt (pv 2) (pa_cons (by exact (pe_call G_stir (hr.mono (by decide)) (by rfl) D_stir.g D_stir.F.kp D_stir.b .nil pass0 (pa_cons (pv 0) (pa_cons (by exact (pe_callB call_len (by rfl) B.b_len (by decide +kernel) (pa_cons (pv 2) pa_nil))) pa_nil)))) pa_nil)))))))), ?_⟩
    refine ⟨_, rfl, l, xs, rfl, hl.imp SqL.of SqT.of, fun W hW => ?_⟩
    have sW := Same.new (o := .lst xs) hW
    have eW : (upd H W (.lst xs)) W = _ := upd_same
    have nWp := pot_ne hp hW
    generalize upd H W (.lst xs) = H1 at sW eW
    refine ⟨_, rfl, _, xs.length, rfl, (hl.same sW).len, (xs.length : Int), rfl, by omega, by omega, fun D hD => ?_⟩
    have nDp := pot_ne (hp.same sW) hD
    have nDW := ne_of_none eW hD
    have nD0 : H D = none := by
      cases e : H D with
      | none => rfl
      | some o => rw [sW _ _ e] at hD; cases hD
    refine lc_range (lo := 0) (n := _) (fun m H' => Pot H' p ∧ But p H H' ∧ ∃ rs ys : List V, H' W = some (.lst rs) ∧ rs.length + m = xs.length ∧ H' D = some (.lst ys) ∧ ys.length = m ∧ (rs ++ ys).Perm xs)
      ⟨(hp.same sW).same (Same.new hD), But.of (sW.trans (Same.new hD)), xs, [], Same.new hD _ _ eW, rfl, upd_same, rfl, by rw [List.append_nil]⟩ (fun m H' hm ⟨pm, bm, rs, ys, e1, e2, e4, e5, e6⟩ => ?_) (fun H' ⟨pm, bm, rs, ys, e1, e2, e4, e5, e6⟩ => ?_)
    · refine ⟨rfl, ?_⟩
      dsimp only [tYes]
      rw [if_pos (show true = true from rfl)]
      refine ⟨_, rfl, .inl ⟨rfl, _, SqL.of e1⟩, _, rfl, _, rfl, _, rs.length, rfl, .inl ⟨_, SqL.of e1, rfl⟩, p, _, rfl, pm, by omega, by omega, fun r H2 r0 r1 p2 b2 => ?_⟩
      have e1' := b2 _ _ e1 nWp
      have e4' := b2 _ _ e4 nDp
      have hr : r.toNat < rs.length := by omega
      refine ⟨W, rs, r, r.toNat, rs[r.toNat], rfl, rfl, e1', by omega, by omega, seqIndex_of r0 r1, List.getElem?_eq_getElem hr, ys, ?_, by rw [e5]; show m < sizeLine; rw [sizeLine_eq]; omega, ?_⟩
      · rw [upd_ne nDW.symm]; exact e4'
      · refine ⟨?_, fun b o e hb => ?_, rs.eraseIdx r.toNat, ys ++ [rs[r.toNat]], ?_, ?_, upd_same, ?_, ?_⟩
        · obtain ⟨a, b', c, hp', r'⟩ := p2
          exact ⟨a, b', c, by rw [upd_ne nDp.symm, upd_ne nWp.symm]; exact hp', r'⟩
        · rw [upd_ne (fun z => by have := sW b o e; rw [z, hD] at this; cases this), upd_ne (ne_of_none e hW)]
          exact b2 b o (bm b o e hb) hb
        · rw [upd_ne nDW, upd_same]
        · rw [List.length_eraseIdx_of_lt hr]
          omega
        · rw [List.length_append, e5]
          rfl
        · refine List.Perm.trans ?_ e6
          rw [← List.append_assoc]
          refine List.Perm.trans (List.perm_append_comm) ?_
          show (rs[r.toNat] :: (rs.eraseIdx r.toNat ++ ys)).Perm _
          exact (perm_at rs r.toNat hr).append_right ys
    · have r0 : rs = [] := List.length_eq_zero_iff.mp (by omega)
      rw [r0] at e6
      exact k D ys H' e6 e4 nDp nD0 pm bm
end
end V0

namespace V0
open PySem PySem.Spec PyProof.Rows L2
/-- what the makers of plain webs give -/
def GenQ (H : Hp) (p : Addr) (us : List Str) (Q : VK) : Prop := ∀ q zs tie H', Pot H' p → But p H H' → H q = none → q ≠ p → Asc zs → zs.Perm us → Tie tie → IsPl H' q zs tie → Q (.ref q) H'
def spGen : Sp := fun vs H Q _ => ∃ (p a : Addr) (us : List Str), vs = [.ref p, .ref a] ∧ Pot H p ∧ a ≠ p ∧ IsSq H a (us.map V.str) ∧ us.Nodup ∧ us.length ≤ 8 ∧ GenQ H p us Q
theorem none_but {p b : Addr} {H H' : Hp} (s : But p H H') (pot : Pot H' p) (h : H' b = none) : H b = none ∧ b ≠ p := by
  have n := pot_ne pot h
  refine ⟨?_, n⟩
  cases e : H b with
  | none => rfl
  | some o => rw [s _ _ e n] at h; cases h
theorem plain_gen {H Hk : Hp} {p : Addr} {us : List Str} {Q : VK} {ts : List Pai} (b : But p H Hk) (pk : Pot Hk p) (g : GenQ H p us Q) (ok : ∀ q ∈ ts, PrOk us q) :
    ∀ q zs H', Same Hk H' → Hk q = none → Asc zs → zs.Perm us → IsPl H' q zs (tieP ts) → Q (.ref q) H' := fun q zs H' s nq asc pm pl => by
  obtain ⟨n1, n2⟩ := none_but b pk nq
  exact g q zs _ H' (pk.same s) (b.trans (But.of s)) n1 n2 asc pm (tieP_tie ok) pl
theorem prs_ok : ∀ {us : List Str}, us.Nodup → ∀ q ∈ prs us, PrOk us q
  | [], _, q, h => by cases h
  | z :: us, nd, q, h => by
    have n2 := List.nodup_cons.mp nd
    rcases List.mem_append.mp (show q ∈ us.map (fun y => (z, y)) ++ prs us from h) with h | h
    · obtain ⟨y, hy, rfl⟩ := List.mem_map.mp h
      exact ⟨by simp, List.mem_cons_of_mem _ hy, fun e => n2.1 (by rw [show z = y from e]; exact hy)⟩
    · obtain ⟨a, b, c⟩ := prs_ok n2.2 q h
      exact ⟨List.mem_cons_of_mem _ a, List.mem_cons_of_mem _ b, c⟩
theorem prs_28 {us : List Str} (h : us.length ≤ 8) : (prs us).length ≤ 28 := by
  have e : ∀ us : List Str, 2 * (prs us).length = us.length * (us.length - 1) := by
    intro us
    induction us with
    | nil => rfl
    | cons z us ih =>
      show 2 * (us.map (fun y => (z, y)) ++ prs us).length = (us.length + 1) * us.length
      rw [List.length_append, List.length_map, Nat.mul_add, ih]
      cases us.length with
      | zero => rfl
      | succ n =>
        show 2 * (n + 1) + (n + 1) * n = (n + 1 + 1) * (n + 1)
        rw [Nat.add_mul, Nat.add_mul, Nat.add_mul, Nat.mul_add, Nat.mul_add]
        omega
  have := e us
  have h3 : us.length * (us.length - 1) ≤ 8 * 7 := Nat.mul_le_mul h (by omega)
  omega
section
variable {P : Program} {w : World} {K : PySem.W.Frag} {mg : Str → Option Value} {base : Heap}
end
end V0

namespace V0
open PySem PySem.Spec PyProof.Rows L2
/-- text keys to whole numbers -/
def zsI (ps : List (Str × Int)) : List (Key × V) := ps.map fun q => (.inr q.1, .int q.2)
theorem zsI_merge : ∀ {ps qs : List (Str × Int)}, ((qs ++ ps).map (·.1)).Nodup → mergeK (zsI qs) (zsI ps) = zsI (qs ++ ps)
  | [], qs, _ => by rw [List.append_nil]; rfl
  | p :: ps, qs, nd => by
    show mergeK (putK (zsI qs) (.inr p.1) (.int p.2)) (zsI ps) = _
    have e : putK (zsI qs) (.inr p.1) (.int p.2) = zsI (qs ++ [p]) := by
      unfold putK
      have e1 : ((zsI qs).any fun kv => decide (kv.1 = Sum.inr p.1)) = false := by
        refine Bool.eq_false_iff.mpr fun q => ?_
        obtain ⟨kv, hk, e⟩ := List.any_eq_true.mp q
        unfold zsI at hk
        obtain ⟨y, hy, rfl⟩ := List.mem_map.mp hk
        have e2 : y.1 = p.1 := Sum.inr.inj (of_decide_eq_true e)
        rw [List.map_append, List.map_cons] at nd
        exact (List.nodup_append.mp nd).2.2 y.1 (List.mem_map.mpr ⟨y, hy, rfl⟩) p.1 (by simp) e2
      rw [e1, if_neg Bool.false_ne_true]
      unfold zsI
      rw [List.map_append]
      rfl
    rw [e, zsI_merge (by rw [List.append_assoc]; exact nd), List.append_assoc]
    rfl
theorem zsI_at : ∀ {ps : List (Str × Int)} {z : Str}, z ∈ ps.map (·.1) → ∃ i, valV (zsI ps) (.inr z) = some (.int i)
  | [], z, h => by cases h
  | p :: ps, z, h => by
    by_cases e : p.1 = z
    · subst e
      exact ⟨p.2, valV_pos rfl⟩
    · obtain ⟨i, hi⟩ := zsI_at (ps := ps) (z := z) ((List.mem_cons.mp h).resolve_left fun q => e q.symm)
      exact ⟨i, by rw [← hi]; exact valV_neg (by intro q; exact e (Sum.inr.inj q))⟩
def rLen (K : PySem.W.Frag) : List V → Hp → VK → Prop := fun xs H Q => ∃ x n, xs = [x] ∧ LenV K x H n ∧ Q (.int (n : Nat)) H
theorem cr_len {X : Cx} : CallR X (.builtin "len") (rLen X.K) := call_len
def IiAt (H : Hp) (q : Str × Int) (a : Addr) : Prop := H a = some (.tup [.str q.1, .int q.2])
theorem iiAt_kv {K : PySem.W.Frag} {H : Hp} : ∀ {qs : List (Str × Int)} {as : List Addr}, Paired (IiAt H) qs as → Paired (fun (p : Addr) (kv : Key × V) => SqT K H p [kV kv.1, kv.2]) as (zsI qs)
  | _, _, .nil => .nil
  | _, _, .cons e q => .cons (SqT.of e) (iiAt_kv q)
section
variable {P : Program} {w : World} {K : PySem.W.Frag} {mg : Str → Option Value} {base : Heap}
end
end V0

namespace V0
open PySem PySem.Spec PyProof.Rows L2
theorem cutV_to (xs : List V) (k : Nat) : cutV xs none (some (k : Int)) = xs.take k := by
  unfold cutV
  rw [HT.sIx_nat, HT.sIx_none, List.drop_zero, Nat.sub_zero]
  by_cases h : k ≤ xs.length
  · rw [Nat.min_eq_left h]
  · rw [Nat.min_eq_right (by omega), List.take_length, List.take_of_length_le (by omega)]
theorem pot_upd {H : Hp} {p b : Addr} {o : HO} (h : Pot H p) (n : b ≠ p) : Pot (upd H b o) p := by
  obtain ⟨i1, i2, i3, e, r⟩ := h
  exact ⟨i1, i2, i3, by rw [upd_ne (Ne.symm n)]; exact e, r⟩
/-- a list of pairs behind a list of pairs -/
theorem prsL_ext {H : Hp} {l D : Addr} {ts ps : List Pai} (h1 : PrsL H l ts) (h2 : PrsL H D ps) :
    ∃ xs zs, H l = some (.lst xs) ∧ H D = some (.lst zs) ∧ xs.length = ts.length ∧ zs.length = ps.length ∧ PrsL (upd H l (.lst (xs ++ zs))) l (ts ++ ps) := by
  obtain ⟨as, e1, p1⟩ := h1
  obtain ⟨bs, e2, p2⟩ := h2
  refine ⟨_, _, e1, e2, by rw [List.length_map, p1.length], by rw [List.length_map, p2.length], as ++ bs, by rw [upd_same, List.map_append], paired_mono (fun q a (ea : PrAt H q a) => ?_) (paired_app2 p1 p2)⟩
  have na : a ≠ l := fun z => by rw [z] at ea; rw [show H l = _ from ea] at e1; cases e1
  show upd _ l _ a = _
  rw [upd_ne na]
  exact ea
def tri : Nat → Nat
  | 0 => 0
  | i + 1 => tri i + i
theorem tri_28 : ∀ i ≤ 8, tri i ≤ 28 := by decide
section
variable {P : Program} {w : World} {K : PySem.W.Frag} {mg : Str → Option Value} {base : Heap}
end
end V0

namespace V0
open PySem PySem.Spec PyProof.Rows L2
theorem prs_tri : ∀ zs : List Str, (prs zs).length = tri zs.length
  | [] => rfl
  | z :: zs => by
    show (zs.map (fun y => (z, y)) ++ prs zs).length = tri zs.length + zs.length
    rw [List.length_append, List.length_map, prs_tri zs, Nat.add_comm]
theorem tri_29 : ∀ a ≤ 8, ∀ b ≤ 8, a + b ≤ 10 → tri a + tri b ≤ 29 := by decide
theorem prs_in {us xs : List Str} (nd : xs.Nodup) (sub : ∀ z ∈ xs, z ∈ us) : ∀ q ∈ prs xs, PrOk us q := fun q hq =>
  let ⟨a, b, c⟩ := prs_ok nd q hq
  ⟨sub _ a, sub _ b, c⟩
theorem prsL_cat {H : Hp} {l1 l2 : Addr} {ts ps : List Pai} (h1 : PrsL H l1 ts) (h2 : PrsL H l2 ps) :
    ∃ xs zs, H l1 = some (.lst xs) ∧ H l2 = some (.lst zs) ∧ xs.length = ts.length ∧ zs.length = ps.length ∧ ∀ q, H q = none → PrsL (upd H q (.lst (xs ++ zs))) q (ts ++ ps) := by
  obtain ⟨as, e1, p1⟩ := h1
  obtain ⟨bs, e2, p2⟩ := h2
  exact ⟨_, _, e1, e2, by rw [List.length_map, p1.length], by rw [List.length_map, p2.length], fun q hq => ⟨as ++ bs, by rw [upd_same, List.map_append], paired_mono (fun _ _ e => PrAt.same e (Same.new hq)) (paired_app2 p1 p2)⟩⟩
def spGen1 : Sp := fun vs H Q E => ∃ (p a : Addr) (us : List Str), vs = [.ref p, .ref a] ∧ Pot H p ∧ a ≠ p ∧ IsSq H a (us.map V.str) ∧ us.Nodup ∧ 1 ≤ us.length ∧ us.length ≤ 8 ∧ GenQ H p us Q
section
variable {P : Program} {w : World} {K : PySem.W.Frag} {mg : Str → Option Value} {base : Heap}
end
end V0

namespace V0
open PySem PySem.Spec PyProof.Rows L2
theorem tri_two : ∀ a ≤ 8, ∀ b ≤ 8, a + b ≤ 8 → tri a + tri b + a * b ≤ 28 := by decide
theorem cfl_tri {zs : List Str} {tie : Str → Str → Bool} : (cfl zs tie).length ≤ tri zs.length := by
  rw [← prs_tri]
  exact List.length_filter_le _ _
theorem plF_ties {t l : Addr} : valV (plF t l) (.inr "ties") = some (.ref l) := by
  unfold plF
  rw [valV_neg (show (Sum.inr (Str.ofString "things") : Key) ≠ Sum.inr (Str.ofString "ties") from by decide)]
  exact valV_pos rfl
theorem plF_things {t l : Addr} : valV (plF t l) (.inr "things") = some (.ref t) := valV_pos rfl
theorem prsL_np {H : Hp} {p l : Addr} {qs : List Pai} (h : PrsL H l qs) (hp : Pot H p) : l ≠ p := by
  rintro rfl
  obtain ⟨as, e, _⟩ := h
  obtain ⟨i, j, k, e2, _⟩ := hp
  rw [e] at e2
  cases as with
  | nil => cases e2
  | cons a as => cases e2
theorem cfl_in {us zs : List Str} {tie : Str → Str → Bool} (asc : Asc zs) (sub : ∀ z ∈ zs, z ∈ us) : ∀ q ∈ cfl zs tie, PrOk us q := fun q hq =>
  let ⟨a, b, c⟩ := cfl_ok asc q hq
  ⟨sub _ a, sub _ b, c⟩
section
variable {P : Program} {w : World} {K : PySem.W.Frag} {mg : Str → Option Value} {base : Heap}
end
end V0
namespace PySem
open Sem (wp)
section
variable {prog : Program} {w : World} {A : Around} {E : Value → Shared → Prop} {s : Shared} {z TI TO T i1 i2 : Addr} {f : Bool} {oT : Obj} {fp1 fp2 : List Addr} {n1 n2 i : Nat} {P1 P2 : Nat → Value → Prop} {St1 St2 : Nat → Heap → Prop} {a1 a2 : Value}
/-- next of a zip whose tuple is still held: a new tuple -/
theorem zipD2_held_item {Q : Value → Shared → Prop} (S : ZipSep2 z TI TO i1 i2 fp1 fp2) (D1 : Draws prog w A i1 fp1 n1 P1 St1) (D2 : Draws prog w A i2 fp2 n2 P2 St2)
    (hz : IsZipHeld s.heap z TI TO T f) (hT : s.heap.get? T = some oT) (hTI : IsTupOf2 s.heap TI (.ref i1) (.ref i2)) (st1 : St1 i s.heap) (st2 : St2 i s.heap) (hlt1 : i < n1) (hlt2 : i < n2)
    (hQ : ∀ x1 x2 h' tk, P1 i x1 → P2 i x2 → IsZipHeld h' z TI TO T true → St1 (i + 1) h' → St2 (i + 1) h' → IsTupOf2 h' s.heap.objs.size x1 x2 → h'.objs.size = s.heap.objs.size + 1 →
      (∀ c o, c ≠ z → c ≠ i1 → c ≠ i2 → s.heap.get? c = some o → h'.get? c = some o) → Q (.ref s.heap.objs.size) { s with heap := h', toks := tk }) :
    wpAny (model prog w) A (Builtin.«zip.__next__» ⟨[.ref z], []⟩) (fun fin s' => ∃ v, fin = .done (.ret v) ∧ Q v s') E s := by
  obtain ⟨hp, g, d, tk0, os⟩ := s
  show wpAny _ _ (field (.ref z) 2 >>= _) _ _ _
  refine wpAny_bind (wpAny_field hz rfl (x := .bool false) rfl ?_)
  show wpAny _ _ (field (.ref z) 3 >>= _) _ _ _
  refine wpAny_bind (wpAny_field hz rfl (x := .ref TI) rfl ?_)
  refine wpAny_bind (wpAny_seqItems hTI rfl ?_)
  show wpAny _ _ (Builtin.SmallTypes.ownedTupleIsFree (.ref z) >>= _) _ _ _
  refine wpAny_bind (wpAny_tupleHeld_zip hz hT fun h₁ hz₁ hs₁ => ?_)
  replace hz₁ : IsZipHeld h₁ z TI TO T true := hz₁
  replace hs₁ : Heap.SameBut z hp h₁ := hs₁
  simp only [Bool.false_eq_true, if_false]
  refine wpAny_bind ?_
  rw [← Array.forIn_toList]
  simp only [List.forIn_cons, List.forIn_nil]
  refine wpAny_bind (wpAny_bind (wpAny_holding ?_))
  show wpAny _ _ (Builtin.SmallTypes.nextOf (.ref i1) >>= _) _ _ ⟨h₁, g, d, tk0, os⟩
  refine wpAny_bind (D1.item i _ _ _ hlt1 (D1.over st1 hs₁ S.zf1) fun x1 p1 tk1 hx1 sn1 hp1 => wpAny_pure ?_)
  replace hp1 : Heap.SameBut i1 h₁ p1 := hp1
  refine wpAny_pure ?_
  refine wpAny_bind (wpAny_bind (wpAny_holding ?_))
  show wpAny _ _ (Builtin.SmallTypes.nextOf (.ref i2) >>= _) _ _ ⟨p1, g, d, tk1, os⟩
  refine wpAny_bind (D2.item i _ _ _ hlt2 (D2.over (D2.over st2 hs₁ S.zf2) hp1 S.sep1_2) fun x2 p2 tk2 hx2 sn2 hp2 => wpAny_pure ?_)
  replace hp2 : Heap.SameBut i2 p1 p2 := hp2
  refine wpAny_pure (wpAny_pure ?_)
  show wpAny _ _ (newTuple [x1, x2] >>= _) _ _ ⟨p2, g, d, tk2, os⟩
  refine wpAny_bind (wpAny_newTuple ?_)
  have hsz : p2.objs.size = hp.objs.size := by rw [hp2.1, hp1.1, hs₁.1]
  have hz₃ : IsZipHeld p2 z TI TO T true := hp2.extBut _ _ S.zi2 (hp1.extBut _ _ S.zi1 hz₁)
  have hk : ∀ c o, c ≠ z → c ≠ i1 → c ≠ i2 → hp.get? c = some o → p2.get? c = some o := fun c o c1 c2 c3 e => hp2.extBut _ _ c3 (hp1.extBut _ _ c2 (hs₁.extBut _ _ c1 e))
  have hj1 : St1 (i + 1) p2 := D1.over sn1 hp2 S.sep2_1
  refine wpAny_pure ⟨_, rfl, ?_⟩
  show Q (.ref p2.objs.size) ⟨p2.push { cls := .type "tuple", data := .seq #[x1, x2] }, g, d, tk2, os⟩
  have hpt : IsTupOf2 (p2.push { cls := .type "tuple", data := .seq #[x1, x2] }) p2.objs.size x1 x2 := Heap.get?_push_size _ rfl
  have hz4 : (p2.push { cls := .type "tuple", data := .seq #[x1, x2] }).objs.size = p2.objs.size + 1 := Heap.size_push ..
  rw [hsz] at hpt hz4 ⊢
  exact hQ x1 x2 _ tk2 hx1 hx2 (Heap.get?_push_of_some _ hz₃) (D1.frame _ _ _ hj1 fun b hb o e => Heap.get?_push_of_some _ e) (D2.frame _ _ _ sn2 fun b hb o e => Heap.get?_push_of_some _ e) hpt hz4 fun c o c1 c2 c3 e => Heap.get?_push_of_some _ (hk c o c1 c2 c3 e)
theorem zipD2_held_end {Q : Fin → Shared → Prop} (S : ZipSep2 z TI TO i1 i2 fp1 fp2) (D1 : Draws prog w A i1 fp1 n1 P1 St1) (D2 : Draws prog w A i2 fp2 n2 P2 St2)
    (hz : IsZipHeld s.heap z TI TO T f) (hT : s.heap.get? T = some oT) (hTI : IsTupOf2 s.heap TI (.ref i1) (.ref i2)) (st1 : St1 i s.heap) (st2 : St2 i s.heap) (hle1 : i ≤ n1) (hle2 : i ≤ n2) (hend : i = n1 ∨ i = n2)
    (hE : ∀ h' tk e, (∀ c o, c ≠ z → c ≠ i1 → c ≠ i2 → s.heap.get? c = some o → h'.get? c = some o) → (∃ o, h'.get? e = some o ∧ o.cls = .type "StopIteration") → E (.ref e) { s with heap := h', toks := tk }) :
    wpAny (model prog w) A (Builtin.«zip.__next__» ⟨[.ref z], []⟩) Q E s := by
  obtain ⟨hp, g, d, tk0, os⟩ := s
  show wpAny _ _ (field (.ref z) 2 >>= _) _ _ _
  refine wpAny_bind (wpAny_field hz rfl (x := .bool false) rfl ?_)
  show wpAny _ _ (field (.ref z) 3 >>= _) _ _ _
  refine wpAny_bind (wpAny_field hz rfl (x := .ref TI) rfl ?_)
  refine wpAny_bind (wpAny_seqItems hTI rfl ?_)
  show wpAny _ _ (Builtin.SmallTypes.ownedTupleIsFree (.ref z) >>= _) _ _ _
  refine wpAny_bind (wpAny_tupleHeld_zip hz hT fun h₁ hz₁ hs₁ => ?_)
  replace hs₁ : Heap.SameBut z hp h₁ := hs₁
  simp only [Bool.false_eq_true, if_false]
  refine wpAny_bind ?_
  rw [← Array.forIn_toList]
  simp only [List.forIn_cons, List.forIn_nil]
  refine wpAny_bind (wpAny_bind (wpAny_holding ?_))
  show wpAny _ _ (Builtin.SmallTypes.nextOf (.ref i1) >>= _) _ _ ⟨h₁, g, d, tk0, os⟩
  by_cases hlt1 : i < n1
  · refine wpAny_bind (D1.item i _ _ _ hlt1 (D1.over st1 hs₁ S.zf1) fun x1 p1 tk1 hx1 sn1 hp1 => wpAny_pure ?_)
    replace hp1 : Heap.SameBut i1 h₁ p1 := hp1
    refine wpAny_pure ?_
    have hi2 : i = n2 := by omega
    refine wpAny_bind (wpAny_bind (wpAny_holding ?_))
    show wpAny _ _ (Builtin.SmallTypes.nextOf (.ref i2) >>= _) _ _ ⟨p1, g, d, tk1, os⟩
    refine wpAny_bind (D2.done ⟨p1, g, d, tk1, os⟩ _ _ (by rw [← hi2]; exact D2.over (D2.over st2 hs₁ S.zf2) hp1 S.sep1_2) fun q e hq he => ?_)
    replace hq : Heap.ExtBut i2 p1 q := hq
    exact hE q tk1 e (fun c o c1 c2 c3 x => hq _ _ c3 (hp1.extBut _ _ c2 (hs₁.extBut _ _ c1 x))) he
  · have hi1 : i = n1 := by omega
    refine wpAny_bind (D1.done ⟨h₁, g, d, tk0, os⟩ _ _ (by rw [← hi1]; exact D1.over st1 hs₁ S.zf1) fun q e hq he => ?_)
    replace hq : Heap.ExtBut i1 h₁ q := hq
    exact hE q tk0 e (fun c o c1 c2 _ x => hq _ _ c2 (hs₁.extBut _ _ c1 x)) he
end
/-- a zip under way, its tuple free or held -/
def ZUp (L z TI TO : Addr) (h : Heap) : Prop := (IsZip h z TI TO .none ∧ ∃ a1 a2, IsTupOf2 h TO a1 a2) ∨ ∃ T f o, IsZipHeld h z TI TO T f ∧ h.get? T = some o ∧ T ≠ L
section
variable {prog : Program} {w : World} {A : Around} {E : Value → Shared → Prop} {s : Shared} {L z TI TO i1 i2 : Addr} {fp1 fp2 : List Addr} {n1 n2 i : Nat} {P1 P2 : Nat → Value → Prop} {St1 St2 : Nat → Heap → Prop}
theorem pyNext_zup_item {Q : Option Value → Shared → Prop} (S : ZipSep2 z TI TO i1 i2 fp1 fp2) (D1 : Draws prog w A.in1 i1 fp1 n1 P1 St1) (D2 : Draws prog w A.in1 i2 fp2 n2 P2 St2) (hL : L < s.heap.objs.size)
    (hz : ZUp L z TI TO s.heap) (hTI : IsTupOf2 s.heap TI (.ref i1) (.ref i2)) (st1 : St1 i s.heap) (st2 : St2 i s.heap) (hlt1 : i < n1) (hlt2 : i < n2)
    (hQ : ∀ x1 x2 h' tk, P1 i x1 → P2 i x2 → ZUp L z TI TO h' → IsTupOf2 h' TI (.ref i1) (.ref i2) → St1 (i + 1) h' → St2 (i + 1) h' → IsTupOf2 h' s.heap.objs.size x1 x2 → h'.objs.size = s.heap.objs.size + 1 →
      (∀ c o, c ≠ z → c ≠ TO → c ≠ i1 → c ≠ i2 → s.heap.get? c = some o → h'.get? c = some o) → Q (some (.ref s.heap.objs.size)) { s with heap := h', toks := tk }) :
    wpAny (model prog w) A (pyNext (.ref z)) Q E s := by
  rcases hz with ⟨hz, a1, a2, hTO⟩ | ⟨T, f, o, hz, hT, hne⟩
  · refine wpAny_pyNext_zipD2_item S D1 D2 hz hTI hTO st1 st2 hlt1 hlt2 fun x1 x2 h' tk y1 y2 b1 b2 d1 d2 b5 b6 b7 => ?_
    exact hQ x1 x2 h' tk y1 y2 (.inr ⟨_, false, _, b1, b5, Ne.symm (Nat.ne_of_lt hL)⟩) (b7 _ _ S.TIz S.TITO S.TIi1 S.TIi2 hTI) d1 d2 b5 b6 b7
  · have hTy : s.TypeIs (.ref z) "zip" := ⟨_, hz, rfl⟩
    unfold pyNext
    refine wpAny_bind (wpAny_attempt (wpAny_callSpecial?_slot (name := Str.ofString "__next__") hTy F.slot_zip_next
      (wpAny_call_entry F.slot_zip_next hTy F.entry_zip_next
        (zipD2_held_item S D1 D2 hz hT hTI st1 st2 hlt1 hlt2 fun x1 x2 h' tk y1 y2 b1 d1 d2 b5 b6 b7 => wpAny_pure ?_) (F.args_zip_next_1 _))))
    refine hQ x1 x2 h' tk y1 y2 ?_ (b7 _ _ S.TIz S.TIi1 S.TIi2 hTI) d1 d2 b5 b6 fun c o c1 _ c3 c4 e => b7 c o c1 c3 c4 e
    have there : ∃ o', h'.get? T = some o' := by
      by_cases e1 : T = z
      · exact ⟨_, by rw [e1]; exact b1⟩
      by_cases e2 : T = i1
      · obtain ⟨o', h2⟩ := D1.live _ _ d1
        exact ⟨o', by rw [e2]; exact h2⟩
      by_cases e3 : T = i2
      · obtain ⟨o', h2⟩ := D2.live _ _ d2
        exact ⟨o', by rw [e3]; exact h2⟩
      exact ⟨o, b7 _ _ e1 e2 e3 hT⟩
    obtain ⟨o', h2⟩ := there
    exact .inr ⟨T, true, o', b1, h2, hne⟩
theorem pyNext_zup_end {Q : Option Value → Shared → Prop} (S : ZipSep2 z TI TO i1 i2 fp1 fp2) (D1 : Draws prog w A.in1 i1 fp1 n1 P1 St1) (D2 : Draws prog w A.in1 i2 fp2 n2 P2 St2)
    (hz : ZUp L z TI TO s.heap) (hTI : IsTupOf2 s.heap TI (.ref i1) (.ref i2)) (st1 : St1 i s.heap) (st2 : St2 i s.heap) (hle1 : i ≤ n1) (hle2 : i ≤ n2) (hend : i = n1 ∨ i = n2)
    (hQ : ∀ h' tk, (∀ c o, c ≠ z → c ≠ TO → c ≠ i1 → c ≠ i2 → s.heap.get? c = some o → h'.get? c = some o) → Q none { s with heap := h', toks := tk }) : wpAny (model prog w) A (pyNext (.ref z)) Q E s := by
  rcases hz with ⟨hz, a1, a2, hTO⟩ | ⟨T, f, o, hz, hT, hne⟩
  · exact wpAny_pyNext_zipD2_end S D1 D2 hz hTI hTO st1 st2 hle1 hle2 hend hQ
  · have hTy : s.TypeIs (.ref z) "zip" := ⟨_, hz, rfl⟩
    unfold pyNext
    refine wpAny_bind (wpAny_attempt (wpAny_callSpecial?_slot (name := Str.ofString "__next__") hTy F.slot_zip_next
      (wpAny_call_entry F.slot_zip_next hTy F.entry_zip_next (zipD2_held_end S D1 D2 hz hT hTI st1 st2 hle1 hle2 hend fun h' tk e hk he => ?_) (F.args_zip_next_1 _))))
    obtain ⟨o, ho, hc⟩ := he
    refine wpAny_bind (wpAny_isInstance (T := "StopIteration") (b := true) ⟨o, ho, hc⟩ isSubtype_stop ?_)
    exact wpAny_pure (hQ _ _ fun c o c1 _ c3 c4 e => hk c o c1 c3 c4 e)
end
end PySem
namespace PySem
open Sem (wp)
/-- what a zip gave so far: new tuples -/
def ZGot (P1 P2 : Nat → Value → Prop) (B : Nat) (acc : Array Value) (k : Nat) (h : Heap) : Prop := ∃ as : List Addr, acc.toList = as.map Value.ref ∧ as.length = k ∧ as.Pairwise (· < ·) ∧ ∀ j a, as[j]? = some a → B ≤ a ∧ ∃ x1 x2, P1 j x1 ∧ P2 j x2 ∧ IsTupOf2 h a x1 x2
section
variable {prog : Program} {w : World} {A : Around} {R : Result → Shared → Prop} {E : Value → Shared → Prop} {L z TI TO i1 i2 B : Addr} {fp1 fp2 : List Addr} {n1 n2 : Nat} {P1 P2 : Nat → Value → Prop} {St1 St2 : Nat → Heap → Prop}
theorem ZGot.keep {acc : Array Value} {k : Nat} {h h' : Heap} (g : ZGot P1 P2 B acc k h) (kp : ∀ b o, B ≤ b → h.get? b = some o → h'.get? b = some o) : ZGot P1 P2 B acc k h' := by
  obtain ⟨as, e1, e2, e4, e3⟩ := g
  refine ⟨as, e1, e2, e4, fun j a ha => ?_⟩
  obtain ⟨b1, x1, x2, y1, y2, t⟩ := e3 j a ha
  exact ⟨b1, x1, x2, y1, y2, kp _ _ b1 t⟩
theorem zip_loop (S : ZipSep2 z TI TO i1 i2 fp1 fp2) (D1 : Draws prog w A.in1.in1 i1 fp1 n1 P1 St1) (D2 : Draws prog w A.in1.in1 i2 fp2 n2 P2 St2) (hn : min n1 n2 ≤ sizeLine) (hB : ∀ b ∈ L :: z :: TI :: TO :: (fp1 ++ fp2), b < B) (hLn : L ∉ z :: TI :: TO :: (fp1 ++ fp2)) (res : Value) :
    ∀ (k i : Nat) (s : Shared) (acc : Array Value) (c : Nat), min n1 n2 - i = k → i ≤ min n1 n2 → ZUp L z TI TO s.heap → IsTupOf2 s.heap TI (.ref i1) (.ref i2) → St1 i s.heap → St2 i s.heap → B ≤ s.heap.objs.size →
    s.heap.get? L = some { cls := .type "list", dict := none, data := .seq acc c, slots := #[] } → ZGot P1 P2 B acc i s.heap →
    (∀ h' tk acc' c', (∀ b o, b ≠ L → b ≠ z → b ≠ TO → b ≠ i1 → b ≠ i2 → s.heap.get? b = some o → h'.get? b = some o) → h'.get? L = some { cls := .type "list", dict := none, data := .seq acc' c', slots := #[] } → ZGot P1 P2 B acc' (min n1 n2) h' → R (.ok (.ret res)) { s with heap := h', toks := tk }) →
    codeAny (model prog w) A (.builtin "list.extend.loop" ⟨[.ref L, .ref z, res], []⟩) R s := by
  have hL1 : L ∉ fp1 := fun h => hLn (by simp [h])
  have hL2 : L ∉ fp2 := fun h => hLn (by simp [h])
  have Lz : L ≠ z := fun h => hLn (by simp [h])
  have LTI : L ≠ TI := fun h => hLn (by simp [h])
  have LTO : L ≠ TO := fun h => hLn (by simp [h])
  have Li1 : L ≠ i1 := fun h => hL1 (h ▸ S.mem1)
  have Li2 : L ≠ i2 := fun h => hL2 (h ▸ S.mem2)
  have hi1 : i1 < B := hB i1 (by simp [S.mem1])
  have hi2 : i2 < B := hB i2 (by simp [S.mem2])
  have hz0 : z < B := hB z (by simp)
  have hTO0 : TO < B := hB TO (by simp)
  have hL0 : L < B := hB L (by simp)
  have ge : ∀ {b c : Nat}, b < B → B ≤ c → c ≠ b := fun h1 h2 => Nat.ne_of_gt (Nat.lt_of_lt_of_le h1 h2)
  intro k
  induction k with
  | zero =>
    intro i s acc c hk hi hz hTI st1 st2 hb hS hacc hR
    have hin : i = min n1 n2 := by omega
    refine codeAny_builtin F.entry_extend_loop ?_
    rw [Around.under_plainId F.plain_extend_loop _]
    show wpAny _ A.in1 (pyNext (.ref z) >>= _) _ _ s
    refine wpAny_bind (pyNext_zup_end S D1 D2 hz hTI st1 st2 (by omega) (by omega) (by omega) fun h' tk kp => ?_)
    refine wpAny_pure (hR h' tk acc c (fun b o _ b1 b2 b3 b4 e => kp b o b1 b2 b3 b4 e) (kp _ _ Lz LTO Li1 Li2 hS) ?_)
    rw [← hin]
    exact hacc.keep fun b o hb e => kp b o (ge hz0 hb) (ge hTO0 hb) (ge hi1 hb) (ge hi2 hb) e
  | succ k ih =>
    intro i s acc c hk hi hz hTI st1 st2 hb hS hacc hR
    refine codeAny_builtin F.entry_extend_loop ?_
    rw [Around.under_plainId F.plain_extend_loop _]
    show wpAny _ A.in1 (pyNext (.ref z) >>= _) _ _ s
    refine wpAny_bind (pyNext_zup_item S D1 D2 (Nat.lt_of_lt_of_le hL0 hb) hz hTI st1 st2 (by omega) (by omega) fun x1 x2 h' tk y1 y2 u1 u2 d1 d2 t sz kp => ?_)
    have hS' := kp _ _ Lz LTO Li1 Li2 hS
    show wpAny _ A.in1 (updateSeq L (·.push (.ref s.heap.objs.size)) >>= _) _ _ _
    refine wpAny_bind ?_
    obtain ⟨as, e1, e2, e4, e3⟩ := id hacc
    have asz : acc.size = i := by rw [← e2, ← Array.length_toList, e1, List.length_map]
    have oth : ∀ {b : Addr} {o : Obj}, b ≠ L → h'.get? b = some o → (h'.update L (Obj.mapSeq (·.push (Value.ref s.heap.objs.size)))).get? b = some o := fun hb e => (Heap.get?_update_other _ _ (Ne.symm hb)).trans e
    refine wpAny_updateSeq (s := { s with heap := h', toks := tk }) hS' rfl (wpAny_pure ⟨plainId_quiet F.plain_extend_loop _, ih (i + 1) _ (acc.push (.ref s.heap.objs.size)) _ (by omega) (by omega) ?_ (oth (Ne.symm LTI) u2) (D1.frame _ _ _ d1 fun b hb o e => oth (fun q => hL1 (q ▸ hb)) e) (D2.frame _ _ _ d2 fun b hb o e => oth (fun q => hL2 (q ▸ hb)) e) ?_ (Heap.get?_update_self _ hS' rfl) ?_ fun h'' tk' acc' c' kp' hS'' hacc' => ?_⟩)
      (by rw [asz]; omega) (by show (acc.push _).size ≤ sizeLine + 1; rw [Array.size_push, asz]; omega)
    · rcases u1 with ⟨a, b1, b2, c⟩ | ⟨T, f, o, a, b, n⟩
      · exact .inl ⟨oth (Ne.symm Lz) a, b1, b2, oth (Ne.symm LTO) c⟩
      · exact .inr ⟨T, f, o, oth (Ne.symm Lz) a, oth n b, n⟩
    · show B ≤ (h'.update L (Obj.mapSeq (·.push (Value.ref s.heap.objs.size)))).objs.size
      rw [(show Heap.SameBut L h' (h'.update L (Obj.mapSeq (·.push (Value.ref s.heap.objs.size)))) from Heap.SameBut.update ..).1, sz]
      exact Nat.le_succ_of_le hb
    · refine ⟨as ++ [s.heap.objs.size], by rw [Array.toList_push, e1, List.map_append]; rfl, by rw [List.length_append, e2]; rfl, List.pairwise_append.mpr ⟨e4, List.pairwise_singleton _ _, fun a ha b hb => ?_⟩, fun j a ha => ?_⟩
      · rw [List.mem_singleton.mp hb]
        obtain ⟨j, hj⟩ := List.mem_iff_getElem?.mp ha
        obtain ⟨_, _, _, _, _, w3⟩ := e3 j a hj
        exact Heap.lt_size w3
      by_cases hj : j < as.length
      · rw [List.getElem?_append_left hj] at ha
        obtain ⟨q1, v1, v2, w1, w2, w3⟩ := e3 j a ha
        exact ⟨q1, v1, v2, w1, w2, oth (ge hL0 q1) (kp _ _ (ge hz0 q1) (ge hTO0 q1) (ge hi1 q1) (ge hi2 q1) w3)⟩
      · rw [List.getElem?_append_right (by omega)] at ha
        have hj2 : j = i := by
          have := (List.getElem?_eq_some_iff.mp ha).1
          rw [List.length_singleton] at this
          omega
        subst hj2
        rw [e2, Nat.sub_self] at ha
        have ea : s.heap.objs.size = a := by simpa using ha
        subst ea
        exact ⟨hb, x1, x2, y1, y2, oth (ge hL0 hb) t⟩
    · refine hR h'' tk' acc' c' (fun b o b0 b1 b2 b3 b4 e => kp' b o b0 b1 b2 b3 b4 (oth b0 (kp b o b1 b2 b3 b4 e))) hS'' hacc'
end
end PySem
namespace PySem
open Sem (wp)
theorem nolen_zip : typeLookup (.type "zip") "__len__" = pure none := by rw [typeLookup_type, builtinLookup_eq_fast]; kernel_rfl
theorem nohint_zip : typeLookup (.type "zip") "__length_hint__" = pure none := by rw [typeLookup_type, builtinLookup_eq_fast]; kernel_rfl
section
variable {prog : Program} {w : World} {A : Around} {E : Value → Shared → Prop} {s : Shared} {z TI TO i1 i2 : Addr} {fp1 fp2 : List Addr} {n1 n2 : Nat} {P1 P2 : Nat → Value → Prop} {St1 St2 : Nat → Heap → Prop}
theorem collect_zip {Q : List Value → Shared → Prop} (S : ZipSep2 z TI TO i1 i2 fp1 fp2) (D1 : Draws prog w A.in1.in1 i1 fp1 n1 P1 St1) (D2 : Draws prog w A.in1.in1 i2 fp2 n2 P2 St2) (hn : min n1 n2 ≤ sizeLine)
    (hz : IsZip s.heap z TI TO .none) (hTI : IsTupOf2 s.heap TI (.ref i1) (.ref i2)) (hTO : IsTupOf2 s.heap TO .none .none) (st1 : St1 0 s.heap) (st2 : St2 0 s.heap) (hfp : ∀ b ∈ z :: TI :: TO :: (fp1 ++ fp2), b < s.heap.objs.size)
    (hQ : ∀ h' tk acc, (∀ b o, b ≠ z → b ≠ TO → b ≠ i1 → b ≠ i2 → s.heap.get? b = some o → h'.get? b = some o) → ZGot P1 P2 (s.heap.objs.size + 1) acc (min n1 n2) h' → Q acc.toList { s with heap := h', toks := tk }) :
    wpAny (model prog w) A (collect (.ref z)) Q E s := by
  have hSf : s.heap.objs.size ∉ z :: TI :: TO :: (fp1 ++ fp2) := fun hm => Nat.lt_irrefl _ (hfp _ hm)
  have hSI : s.heap.objs.size ≠ z := fun e => hSf (by simp [e])
  have hTI1 : s.heap.objs.size ≠ TI := fun e => hSf (by simp [e])
  have hTO1 : s.heap.objs.size ≠ TO := fun e => hSf (by simp [e])
  have hS1 : ∀ b ∈ fp1, b ≠ s.heap.objs.size := fun b hb e => hSf (by simp [← e, hb])
  have hS2 : ∀ b ∈ fp2, b ≠ s.heap.objs.size := fun b hb e => hSf (by simp [← e, hb])
  unfold collect
  refine wpAny_bind (wpAny_runValue (codeAny_builtin F.entry_proto_collect ?_))
  rw [Around.under_plainId F.plain_proto_collect _]
  show wpAny _ A.in1 (newList [] >>= fun l => again (.builtin "list.__iadd__" ⟨[l, .ref z], []⟩)) _ _ s
  refine wpAny_bind (wpAny_newObj_type ?_)
  refine wpAny_pure ⟨plainId_quiet F.plain_list_iadd _, codeAny_builtin F.entry_list_iadd ?_⟩
  rw [Around.under_plainId F.plain_list_iadd _]
  have k1 : ∀ b o, s.heap.get? b = some o → (s.heap.push { cls := .type "list", data := .seq ([] : List Value).toArray }).get? b = some o := fun b o e => Heap.get?_push_of_some _ e
  show wpAny _ A.in1 (Builtin.List.listExtendWith (.ref s.heap.objs.size) (.ref z) (.ref s.heap.objs.size)) _ _ _
  unfold Builtin.List.listExtendWith
  have hz1 := k1 _ _ hz
  have hT1 : ({ s with heap := s.heap.push { cls := .type "list", data := .seq ([] : List Value).toArray } } : Shared).TypeIs (.ref z) "zip" := ⟨_, hz1, rfl⟩
  refine wpAny_bind (wpAny_typeOf hT1 ?_)
  have h1 : Builtin.List.listSameRef (.ref s.heap.objs.size) (.ref z) = false := by simp [Builtin.List.listSameRef, hSI]
  have h2 : (Value.type "zip" == Value.type "list") = false := by decide
  have h3 : (Value.type "zip" == Value.type "tuple") = false := by decide
  simp only [h1, h2, h3, Bool.or_false, Bool.false_eq_true, if_false]
  refine wpAny_bind (wpAny_pyIter_zip (s := { s with heap := s.heap.push { cls := .type "list", data := .seq ([] : List Value).toArray } }) hz1 ?_)
  refine wpAny_bind (wpAny_holding ?_)
  unfold Builtin.List.listLengthHint
  refine wpAny_bind (wpAny_specialOf hT1 nolen_zip ?_)
  show wpAny _ A.in1 (specialOf (Value.ref z) (Str.ofString "__length_hint__") >>= _) _ _ _
  refine wpAny_bind (wpAny_specialOf hT1 nohint_zip ?_)
  refine wpAny_pure ?_
  show wpAny _ A.in1 (rule "list.extend.makes-room" >>= fun _ => Builtin.List.listTouch (.ref s.heap.objs.size) >>= fun _ =>
    again (.builtin "list.extend.loop" ⟨[.ref s.heap.objs.size, .ref z, .ref s.heap.objs.size], []⟩)) _ _ _
  refine wpAny_bind (wpAny_rule ?_)
  have hS₁ : (s.heap.push { cls := .type "list", data := .seq ([] : List Value).toArray }).get? s.heap.objs.size = some { cls := .type "list", data := .seq ([] : List Value).toArray } := Heap.get?_push_size _ rfl
  refine wpAny_bind ?_
  show wpAny _ A.in1 (updateSeq s.heap.objs.size (·.push .none) >>= fun _ => updateSeq s.heap.objs.size (·.pop)) _ _ _
  refine wpAny_bind (wpAny_updateSeq hS₁ rfl ?_)
  have hS₂ := Heap.get?_update_self (Obj.mapSeq (·.push Value.none)) hS₁ rfl
  refine wpAny_updateSeq hS₂ rfl ?_
  have hS₃ := Heap.get?_update_self (Obj.mapSeq (·.pop)) hS₂ rfl
  have oth : ∀ b o, b ≠ s.heap.objs.size → s.heap.get? b = some o →
      (((s.heap.push { cls := .type "list", data := .seq ([] : List Value).toArray }).update s.heap.objs.size (Obj.mapSeq (·.push Value.none))).update s.heap.objs.size (Obj.mapSeq (·.pop))).get? b = some o :=
    fun b o hb e => (Heap.get?_update_other _ _ (Ne.symm hb)).trans ((Heap.get?_update_other _ _ (Ne.symm hb)).trans (k1 _ _ e))
  have sz : (((s.heap.push { cls := .type "list", data := .seq ([] : List Value).toArray }).update s.heap.objs.size (Obj.mapSeq (·.push Value.none))).update s.heap.objs.size (Obj.mapSeq (·.pop))).objs.size = s.heap.objs.size + 1 := by
    rw [(show Heap.SameBut s.heap.objs.size ((s.heap.push { cls := .type "list", data := .seq ([] : List Value).toArray }).update s.heap.objs.size (Obj.mapSeq (·.push Value.none))) _ from Heap.SameBut.update ..).1, (show Heap.SameBut s.heap.objs.size (s.heap.push { cls := .type "list", data := .seq ([] : List Value).toArray }) _ from Heap.SameBut.update ..).1, Heap.size_push]
  refine wpAny_pure ⟨plainId_quiet F.plain_extend_loop _, zip_loop (B := s.heap.objs.size + 1) S D1 D2 hn (fun b hb => ?_) hSf _ _ 0 _ _ _ rfl (Nat.zero_le _) (.inl ⟨oth _ _ (Ne.symm hSI) hz, _, _, oth _ _ (Ne.symm hTO1) hTO⟩) (oth _ _ (Ne.symm hTI1) hTI)
    (D1.frame _ _ _ st1 fun b hb o e => oth _ _ (hS1 b hb) e) (D2.frame _ _ _ st2 fun b hb o e => oth _ _ (hS2 b hb) e) (by show _ ≤ (((s.heap.push _).update _ _).update _ _).objs.size; rw [sz]; exact Nat.le_refl _) hS₃ ⟨[], rfl, rfl, .nil, fun j a h => by cases h⟩ fun h' tk acc c kp hS' got => ?_⟩
  · rcases List.mem_cons.mp hb with e | hb
    · rw [e]; exact Nat.lt_succ_self _
    · exact Nat.lt_succ_of_lt (hfp b hb)
  · show wpAny _ A (load s.heap.objs.size >>= _) _ _ _
    refine wpAny_bind (wpAny_load (s := { s with heap := h', toks := tk }) hS' ?_)
    exact wpAny_pure (hQ h' tk acc (fun b o b1 b2 b3 b4 e => kp b o (fun q => by rw [q] at e; exact absurd (Heap.lt_size e) (Nat.lt_irrefl _)) b1 b2 b3 b4 (oth b o (fun q => by rw [q] at e; exact absurd (Heap.lt_size e) (Nat.lt_irrefl _)) e)) got)
end
end PySem
namespace PySem
open Sem (wp)
open PyProof.Rows L2
section
variable {prog : Program} {w : World} {A : Around} {E : Value → Shared → Prop} {s : Shared} {z TI TO i1 i2 : Addr} {fp1 fp2 : List Addr} {n1 n2 : Nat} {P1 P2 : Nat → Value → Prop} {St1 St2 : Nat → Heap → Prop}
theorem code_tuple_new_zip {Q₁ : Value → Shared → Prop} (S : ZipSep2 z TI TO i1 i2 fp1 fp2) (D1 : Draws prog w A.in1.in1.in1 i1 fp1 n1 P1 St1) (D2 : Draws prog w A.in1.in1.in1 i2 fp2 n2 P2 St2) (hn : min n1 n2 ≤ sizeLine)
    (hz : IsZip s.heap z TI TO .none) (hTI : IsTupOf2 s.heap TI (.ref i1) (.ref i2)) (hTO : IsTupOf2 s.heap TO .none .none) (st1 : St1 0 s.heap) (st2 : St2 0 s.heap) (hfp : ∀ b ∈ z :: TI :: TO :: (fp1 ++ fp2), b < s.heap.objs.size)
    (h : ∀ h' tk acc, (∀ b o, b ≠ z → b ≠ TO → b ≠ i1 → b ≠ i2 → s.heap.get? b = some o → h'.get? b = some o) → ZGot P1 P2 (s.heap.objs.size + 1) acc (min n1 n2) h' → Q₁ (.ref h'.objs.size) { s with heap := h'.push { cls := .type "tuple", data := .seq acc }, toks := tk }) :
    codeAny (model prog w) A (.call (.builtin "tuple.__new__") ⟨[.type "tuple", .ref z], []⟩) (wants Q₁ E) s := by
  refine codeAny_of_tree ?_
  show wpAny _ A.in1 (do checkBuiltinCall "tuple.__new__" ⟨[.type "tuple", .ref z], []⟩; again (.builtin "tuple.__new__" ⟨[.type "tuple", .ref z], []⟩)) _ _ s
  refine wpAny_bind (wpAny_of_eq (F.newCall_tuple_1 _) (wpAny_pure ⟨plainId_quiet F.plain_tuple_new _, codeAny_builtin F.entry_tuple_new ?_⟩))
  rw [Around.under_plainId F.plain_tuple_new _]
  have hsub := sub_tuple_self
  have hinit := init_tuple_lookup
  have hmh := madeHere_tuple
  have hTI0 : s.TypeIs (.ref z) "zip" := ⟨_, hz, rfl⟩
  wp_walk using wpAny_typeOf hTI0, collect_zip (A := A.in1) S D1 D2 hn hz hTI hTO st1 st2 hfp
  intro h' tk acc hk got
  have asz : acc.size = min n1 n2 := by
    obtain ⟨as, e1, e2, _⟩ := got
    rw [← e2, ← Array.length_toList, e1, List.length_map]
  show wpAny _ _ (Builtin.Tuple.tupleExact acc.toList.toArray >>= fun v => ret v) _ _ _
  unfold Builtin.Tuple.tupleExact
  refine wpAny_bind (wpAny_newObj_type ?_ (by show acc.toList.toArray.size ≤ sizeLine; simp only [Array.toArray_toList]; rw [asz]; exact hn))
  refine wpAny_pure ?_
  have e : acc.toList.toArray = acc := by simp
  rw [e]
  exact h h' tk acc hk got
theorem call_tuple_zip {Q : Value → Shared → Prop} (S : ZipSep2 z TI TO i1 i2 fp1 fp2) (D1 : Draws prog w A.in1.in1.in1.in1 i1 fp1 n1 P1 St1) (D2 : Draws prog w A.in1.in1.in1.in1 i2 fp2 n2 P2 St2) (hn : min n1 n2 ≤ sizeLine)
    (hz : IsZip s.heap z TI TO .none) (hTI : IsTupOf2 s.heap TI (.ref i1) (.ref i2)) (hTO : IsTupOf2 s.heap TO .none .none) (st1 : St1 0 s.heap) (st2 : St2 0 s.heap) (hfp : ∀ b ∈ z :: TI :: TO :: (fp1 ++ fp2), b < s.heap.objs.size)
    (hQ : ∀ h' tk acc, (∀ b o, b ≠ z → b ≠ TO → b ≠ i1 → b ≠ i2 → s.heap.get? b = some o → h'.get? b = some o) → ZGot P1 P2 (s.heap.objs.size + 1) acc (min n1 n2) h' → Q (.ref h'.objs.size) { s with heap := h'.push { cls := .type "tuple", data := .seq acc }, toks := tk }) :
    wpAny (model prog w) A (call (.type "tuple") [.ref z]) Q E s := by
  refine callType_codes (Q₁ := fun obj s₁ => s₁.TypeIs obj "tuple" ∧ Q obj s₁) F.called_tuple (F.typeCall_tuple_1 _) F.entry_object_init
    (code_tuple_new_zip (A := A.in1) S D1 D2 hn hz hTI hTO st1 st2 hfp fun h' tk acc hk got => ⟨⟨_, Heap.get?_push_size _ rfl, rfl⟩, hQ h' tk acc hk got⟩) fun obj s₁ h₁ => ?_
  exact ⟨h₁.1, F.args_object_init_2 obj _, object_init_meets F.called_tuple.init.lookup F.called_tuple.made (by decide) prog w A.in1 _ s₁ ⟨h₁.1, rfl, h₁.2⟩⟩
theorem call_list_zip {Q : Value → Shared → Prop} (S : ZipSep2 z TI TO i1 i2 fp1 fp2) (D1 : Draws prog w A.in1.in1.in1 i1 fp1 n1 P1 St1) (D2 : Draws prog w A.in1.in1.in1 i2 fp2 n2 P2 St2) (hn : min n1 n2 ≤ sizeLine)
    (hz : IsZip s.heap z TI TO .none) (hTI : IsTupOf2 s.heap TI (.ref i1) (.ref i2)) (hTO : IsTupOf2 s.heap TO .none .none) (st1 : St1 0 s.heap) (st2 : St2 0 s.heap) (hfp : ∀ b ∈ z :: TI :: TO :: (fp1 ++ fp2), b < s.heap.objs.size)
    (hQ : ∀ h' tk acc c, (∀ b o, b ≠ z → b ≠ TO → b ≠ i1 → b ≠ i2 → s.heap.get? b = some o → h'.get? b = some o) → ZGot P1 P2 (s.heap.objs.size + 1) acc (min n1 n2) h' → h'.get? s.heap.objs.size = some { cls := .type "list", dict := none, data := .seq acc c, slots := #[] } → Q (.ref s.heap.objs.size) { s with heap := h', toks := tk }) :
    wpAny (model prog w) A (call (.type "list") [.ref z]) Q E s := by
  have hSf : s.heap.objs.size ∉ z :: TI :: TO :: (fp1 ++ fp2) := fun hm => Nat.lt_irrefl _ (hfp _ hm)
  have hSI : s.heap.objs.size ≠ z := fun e => hSf (by simp [e])
  have hTI1 : s.heap.objs.size ≠ TI := fun e => hSf (by simp [e])
  have hTO1 : s.heap.objs.size ≠ TO := fun e => hSf (by simp [e])
  have hS1 : ∀ b ∈ fp1, b ≠ s.heap.objs.size := fun b hb e => hSf (by simp [← e, hb])
  have hS2 : ∀ b ∈ fp2, b ≠ s.heap.objs.size := fun b hb e => hSf (by simp [← e, hb])
  refine callType_codes (Q₁ := fun obj s₁ => obj = .ref s.heap.objs.size ∧ s₁ = { s with heap := s.heap.push { cls := .type "list", data := .seq #[] } }) F.called_list (F.typeCall_list_1 _) F.entry_list_init
    (code_list_new _ ⟨rfl, rfl⟩) fun obj s₁ h₁ => ?_
  obtain ⟨rfl, rfl⟩ := h₁
  have hS : (s.heap.push { cls := .type "list", data := .seq #[] }).get? s.heap.objs.size = some { cls := .type "list", data := .seq #[] } := Heap.get?_push_size _ rfl
  refine ⟨⟨_, hS, rfl⟩, F.args_list_init_2 _ _, ?_⟩
  show wpAny _ A.in1.in1 (do let old ← Builtin.List.listItems (.ref s.heap.objs.size); Builtin.List.listUpdate (.ref s.heap.objs.size) (fun _ => #[]); letGo old.toList.reverse; Builtin.List.listExtendWith (.ref s.heap.objs.size) (.ref z) .none) _ _ _
  refine wpAny_bind ?_
  unfold Builtin.List.listItems
  refine wpAny_bind (wpAny_seqItems hS rfl (wpAny_pure ?_))
  show wpAny _ A.in1.in1 (updateSeq s.heap.objs.size (fun _ => #[]) >>= fun _ => letGo (#[] : Array Value).toList.reverse >>= fun _ => Builtin.List.listExtendWith (.ref s.heap.objs.size) (.ref z) .none) _ _ _
  refine wpAny_bind (wpAny_updateSeq hS rfl ?_)
  have hS2' := Heap.get?_update_self (Obj.mapSeq (fun _ => (#[] : Array Value))) hS rfl
  refine wpAny_bind (wpAny_letGo ?_)
  unfold Builtin.List.listExtendWith
  have up : ∀ (h : Heap) (f : Obj → Obj), (∀ b o, s.heap.get? b = some o → h.get? b = some o) → ∀ b o, s.heap.get? b = some o → (h.update s.heap.objs.size f).get? b = some o := fun h f q b o e =>
    (Heap.get?_update_other _ _ (Ne.symm (Nat.ne_of_lt (Heap.lt_size e)))).trans (q b o e)
  have k1 : ∀ b o, s.heap.get? b = some o → (s.heap.push { cls := .type "list", data := .seq #[] }).get? b = some o := fun b o e => Heap.get?_push_of_some _ e
  have k2 := up _ (Obj.mapSeq (fun _ => (#[] : Array Value))) k1
  have hz2 := k2 _ _ hz
  have hT2 : ({ s with heap := (s.heap.push { cls := .type "list", data := .seq #[] }).update s.heap.objs.size (Obj.mapSeq (fun _ => (#[] : Array Value))) } : Shared).TypeIs (.ref z) "zip" := ⟨_, hz2, rfl⟩
  refine wpAny_bind (wpAny_typeOf hT2 ?_)
  have h1 : Builtin.List.listSameRef (.ref s.heap.objs.size) (.ref z) = false := by simp [Builtin.List.listSameRef, hSI]
  have h2 : (Value.type "zip" == Value.type "list") = false := by decide
  have h3 : (Value.type "zip" == Value.type "tuple") = false := by decide
  simp only [h1, h2, h3, Bool.or_false, Bool.false_eq_true, if_false]
  refine wpAny_bind (wpAny_pyIter_zip (s := { s with heap := (s.heap.push { cls := .type "list", data := .seq #[] }).update s.heap.objs.size (Obj.mapSeq (fun _ => (#[] : Array Value))) }) hz2 ?_)
  refine wpAny_bind (wpAny_holding ?_)
  unfold Builtin.List.listLengthHint
  refine wpAny_bind (wpAny_specialOf hT2 nolen_zip ?_)
  show wpAny _ A.in1.in1 (specialOf (Value.ref z) (Str.ofString "__length_hint__") >>= _) _ _ _
  refine wpAny_bind (wpAny_specialOf hT2 nohint_zip ?_)
  refine wpAny_pure ?_
  show wpAny _ A.in1.in1 (rule "list.extend.makes-room" >>= fun _ => Builtin.List.listTouch (.ref s.heap.objs.size) >>= fun _ =>
    again (.builtin "list.extend.loop" ⟨[.ref s.heap.objs.size, .ref z, .none], []⟩)) _ _ _
  refine wpAny_bind (wpAny_rule ?_)
  refine wpAny_bind ?_
  show wpAny _ A.in1.in1 (updateSeq s.heap.objs.size (·.push .none) >>= fun _ => updateSeq s.heap.objs.size (·.pop)) _ _ _
  refine wpAny_bind (wpAny_updateSeq hS2' rfl ?_)
  have hS3 := Heap.get?_update_self (Obj.mapSeq (·.push Value.none)) hS2' rfl
  refine wpAny_updateSeq (hz := by seq_fits) hS3 rfl ?_
  have hS4 := Heap.get?_update_self (Obj.mapSeq (·.pop)) hS3 rfl
  have k4 := up _ (Obj.mapSeq (·.pop)) (up _ (Obj.mapSeq (·.push Value.none)) k2)
  have upsz : ∀ (h : Heap) (f : Obj → Obj), (h.update s.heap.objs.size f).objs.size = h.objs.size := fun h f => (show Heap.SameBut s.heap.objs.size h (h.update s.heap.objs.size f) from Heap.SameBut.update ..).1
  refine wpAny_pure ⟨plainId_quiet F.plain_extend_loop _, zip_loop (A := A.in1) (B := s.heap.objs.size + 1) S D1 D2 hn (fun b hb => ?_) hSf _ _ 0 _ _ _ rfl (Nat.zero_le _) (.inl ⟨k4 _ _ hz, _, _, k4 _ _ hTO⟩) (k4 _ _ hTI)
    (D1.frame _ _ _ st1 fun b hb o e => k4 _ _ e) (D2.frame _ _ _ st2 fun b hb o e => k4 _ _ e) ?_ hS4 ⟨[], rfl, rfl, .nil, fun j a h => by cases h⟩ fun h' tk acc c kp hS' got => ?_⟩
  · rcases List.mem_cons.mp hb with e | hb
    · rw [e]; exact Nat.lt_succ_self _
    · exact Nat.lt_succ_of_lt (hfp b hb)
  · show s.heap.objs.size + 1 ≤ Array.size _
    have e := (upsz _ (Obj.mapSeq (·.pop))).trans ((upsz _ (Obj.mapSeq (·.push Value.none))).trans ((upsz _ (Obj.mapSeq (fun _ => (#[] : Array Value)))).trans (Heap.size_push s.heap { cls := .type "list", data := .seq #[] })))
    exact Nat.le_of_eq e.symm
  · exact ⟨rfl, hQ h' tk acc c (fun b o b1 b2 b3 b4 e => kp b o (fun q => by rw [q] at e; exact absurd (Heap.lt_size e) (Nat.lt_irrefl _)) b1 b2 b3 b4 (k4 b o e)) got hS'⟩
end
end PySem
namespace V0
open PySem PySem.Spec PyProof.Rows L2
/-- the pairs tracked at their addresses -/
def putV : Hp → List Addr → List (V × V) → Hp
  | H, a :: as, p :: qs => putV (upd H a (.tup [p.1, p.2])) as qs
  | H, _, _ => H
theorem putV_off {b : Addr} : ∀ (as : List Addr) (qs : List (V × V)) (H : Hp), b ∉ as → putV H as qs b = H b
  | [], _, _, _ => rfl
  | _ :: _, [], _, _ => rfl
  | a :: as, p :: qs, H, h => by
    show putV (upd H a (.tup [p.1, p.2])) as qs b = H b
    rw [putV_off as qs _ (fun z => h (List.mem_cons_of_mem _ z)), upd_ne (fun z => h (by rw [z]; exact List.mem_cons_self))]
theorem putV_at : ∀ (as : List Addr) (qs : List (V × V)) (H : Hp), as.length = qs.length → as.Nodup → Paired (fun (q : V × V) (t : Addr) => putV H as qs t = some (.tup [q.1, q.2])) qs as
  | [], [], _, _, _ => .nil
  | [], _ :: _, _, h, _ => by cases h
  | _ :: _, [], _, h, _ => by cases h
  | a :: as, p :: qs, H, h, hn => by
    have hn' := List.nodup_cons.mp hn
    have ih := putV_at as qs (upd H a (.tup [p.1, p.2])) (Nat.succ.inj h) hn'.2
    refine .cons ?_ ih
    show putV (upd H a (.tup [p.1, p.2])) as qs a = some (.tup [p.1, p.2])
    rw [putV_off as qs _ hn'.1, upd_same]
/-- what a zip of xs and ys gave, in a new object p that holds the new pairs -/
def rZipQ (mk : List V → HO) (xs ys : List V) : Hp → VK → Prop := fun H Q => ∀ (H' : Hp) (p : Addr) (ts : List Addr), Same H H' → H p = none → (∀ t ∈ ts, H t = none) → H' p = some (mk (ts.map V.ref)) →
  Paired (fun (q : V × V) (t : Addr) => H' t = some (.tup [q.1, q.2])) (xs.zip ys) ts → Q (.ref p) H'
section
variable {X : Cx}
theorem zip_laid {pins : List (Addr × Obj)} {σ : L2.St} {H : Hp} {s : Shared} {h' : Heap} {tk : Nat} {xs ys : List V} {us vs : List Value} {acc : Array Value} {p B : Addr} {mk : List V → HO} (I : Inv X pins σ H s) (hu : Vals xs us) (hv : Vals ys vs) (hB : s.heap.objs.size ≤ B) (hp : s.heap.objs.size ≤ p)
    (hk : ∀ b o, s.heap.get? b = some o → h'.get? b = some o) (got : ZGot (fun i v => us.toArray[i]? = some v) (fun i v => vs.toArray[i]? = some v) B acc (min xs.length ys.length) h')
    (hpn : ∀ as : List Addr, acc.toList = as.map Value.ref → as.length = min xs.length ys.length → p ∉ as ∧ ∀ H', ObjOk X.prog X.w H' h' p (mk (as.map V.ref))) {Q : VK} (q : rZipQ mk xs ys H Q) : EP X pins σ Q (.ref p) { s with heap := h', toks := tk } := by
  obtain ⟨as, e1, e2, e4, e3⟩ := got
  obtain ⟨pn, pok⟩ := hpn as e1 e2
  have nd : as.Nodup := e4.imp fun {a b} (h : a < b) => Nat.ne_of_lt h
  have ge : ∀ t ∈ as, s.heap.objs.size ≤ t := fun t ht => by
    obtain ⟨j, hj⟩ := List.mem_iff_getElem?.mp ht
    exact Nat.le_trans hB (e3 j t hj).1
  have new : ∀ t ∈ as, H t = none := fun t ht => I.hok.fresh (ge t ht)
  have newp : H p = none := I.hok.fresh hp
  have lz : (xs.zip ys).length = as.length := by rw [List.length_zip, e2]
  have atP := putV_at as (xs.zip ys) (upd H p (mk (as.map V.ref))) lz.symm nd
  have off : ∀ b, b ∉ as → b ≠ p → putV (upd H p (mk (as.map V.ref))) as (xs.zip ys) b = H b := fun b h1 h2 => by rw [putV_off as _ _ h1, upd_ne h2]
  have low : ∀ b o, s.heap.get? b = some o → b ∉ as ∧ b ≠ p := fun b o e => ⟨fun z => absurd (Heap.lt_size e) (Nat.not_lt.mpr (ge b z)), fun z => absurd (Heap.lt_size e) (Nat.not_lt.mpr (by rw [z]; exact hp))⟩
  have kp : ∀ b u, H b = some u → (putV (upd H p (mk (as.map V.ref))) as (xs.zip ys)) b = some u := fun b u e => by
    rw [off b (fun z => by rw [new b z] at e; cases e) (fun z => by rw [z, newp] at e; cases e)]
    exact e
  have ep : putV (upd H p (mk (as.map V.ref))) as (xs.zip ys) p = some (mk (as.map V.ref)) := by rw [putV_off as _ _ pn, upd_same]
  refine ⟨.ref p, putV (upd H p (mk (as.map V.ref))) as (xs.zip ys), ?_, rfl, q _ p as kp newp new ep atP⟩
  refine I.call' (ch := []) rfl ⟨fun b o q _ _ _ => hk b o q, fun b o q _ _ _ => ⟨o.slots, hk b o q⟩, fun b o q n _ => ?_, fun b o q _ => ⟨o, hk b o q⟩, fun b xs q => kp b _ q, fun b o u q => kp b _ q, fun b ps q => ⟨#[], by rw [kp b _ q]; simp⟩⟩ (fun b u q => ?_) I.bare fun b z => by simp at z
  · obtain ⟨z1, z2⟩ := low b o q
    rw [off b z1 z2]
    exact n
  · by_cases hb : b ∈ as
    · obtain ⟨j, hj⟩ := List.mem_iff_getElem?.mp hb
      obtain ⟨pr, g1⟩ : ∃ pr, (xs.zip ys)[j]? = some pr := ⟨_, List.getElem?_eq_getElem (by rw [lz]; exact (List.getElem?_eq_some_iff.mp hj).1)⟩
      obtain ⟨b', hb', g2⟩ := LiI.paired_get atP g1
      rw [hj] at hb'
      injection hb' with hb'
      subst hb'
      rw [g2] at q
      cases q
      obtain ⟨_, x1, x2, y1, y2, t⟩ := e3 j b hj
      have gz := List.getElem?_zip_eq_some.mp g1
      obtain ⟨u, hu1, ru⟩ := hu.get gz.1
      obtain ⟨v, hv1, rv⟩ := hv.get gz.2
      have e5 : us.toArray[j]? = some u := by simpa using hu1
      have e6 : vs.toArray[j]? = some v := by simpa using hv1
      have e5 := e5.symm.trans y1
      have e6 := e6.symm.trans y2
      injection e5 with e5
      injection e6 with e6
      subst e5
      subst e6
      exact ⟨by show 2 ≤ sizeLine; decide, [u, v], .cons ru (.cons rv .nil), ⟨_, t, rfl, _, rfl⟩⟩
    · by_cases hb2 : b = p
      · rw [hb2] at q ⊢
        rw [ep] at q
        cases q
        exact pok _
      · rw [off b hb hb2] at q
        exact (I.hok b u q).stay (fun d v _ y => hk d v y) (fun d y => kp d _ y) fun d xs y => kp d _ y
end
end V0
namespace V0
open PySem PySem.Spec PyProof.Rows L2
theorem sep_mk (n a b : Nat) (ha : a < n) (hb : b < n) : ZipSep2 (n + 4) (n + 2) (n + 3) n (n + 1) [n, a] [n + 1, b] := by
  refine ⟨?_, ?_, ?_, ?_, by simp, ?_, ?_, ?_, by simp, ?_, ?_, ?_, ?_⟩ <;> first
    | (show ¬ (_ = _); exact Nat.ne_of_gt (by omega))
    | (show ¬ (_ = _); exact Nat.ne_of_lt (by omega))
    | (intro h
       rcases List.mem_cons.mp h with h | h
       · exact absurd h (by first | exact Nat.ne_of_gt (by omega) | exact Nat.ne_of_lt (by omega))
       · exact absurd (List.mem_singleton.mp h) (by first | exact Nat.ne_of_gt (by omega) | exact Nat.ne_of_lt (by omega)))
theorem cells_lt {n a b c : Nat} (ha : a < n) (hb : b < n) (h : c ∈ (n + 4) :: (n + 2) :: (n + 3) :: ([n, a] ++ [n + 1, b])) : c < n + 5 := by
  simp at h
  omega
section
variable {X : Cx}
/-- a list or a tuple: what its iterator draws -/
theorem sq_draws {pins : List (Addr × Obj)} {σ : L2.St} {H : Hp} {s : Shared} {a : Addr} {xs : List V} (I : Inv X pins σ H s) (h : IsSq H a xs) :
    ∃ (us : List Value) (o : Obj) (Hh : Heap → Prop) (St : Addr → Nat → Heap → Prop), Vals xs us ∧ Begins (.ref a) o Hh ∧ Hh s.heap ∧ a < s.heap.objs.size ∧
      (∀ A : Around, A.handled = none → ∀ it, a ≠ it → Draws X.prog X.w A it [it, a] us.toArray.size (fun i v => us.toArray[i]? = some v) (St it)) ∧
      ∀ it h', h'.get? it = some o → (∀ b o, s.heap.get? b = some o → h'.get? b = some o) → St it 0 h' := by
  rcases h with h | h
  · obtain ⟨us, rv, p, hz⟩ := I.list (SqL.of h)
    have pl := p.isList
    refine ⟨us, _, _, fun it i h => h.IsListIter it a i ∧ h.IsList a us.toArray, rv, begins_list a us.toArray, pl, by obtain ⟨_, e, _⟩ := pl; exact Heap.lt_size e, fun A hh it ne => Draws.list hh it a ne us.toArray, fun it h' e k => ⟨⟨_, e, rfl, rfl⟩, pl.at fun o e => k a o e⟩⟩
  · obtain ⟨us, rv, p, hz⟩ := I.tuple (SqT.of h)
    have pl : s.heap.IsTuple a us.toArray := p
    refine ⟨us, _, _, fun it i h => h.IsTupleIter it a i ∧ h.IsTuple a us.toArray, rv, begins_tuple a us.toArray, pl, by obtain ⟨_, e, _⟩ := id pl; exact Heap.lt_size e, fun A hh it ne => Draws.tuple hh it a ne us.toArray, fun it h' e k => ⟨⟨_, e, rfl, rfl⟩, pl.at fun o e => k a o e⟩⟩
def tZip (mk : List V → HO) (ta : TA) : TE := fun σ H Q => ta σ H fun vs H1 => ∃ a b xs ys, vs = [.ref a, .ref b] ∧ IsSq H1 a xs ∧ IsSq H1 b ys ∧ xs.length ≤ 1000 ∧ rZipQ mk xs ys H1 Q
theorem pe_tupZip {e e2 : Expr} {ta : TA} {p p2 q pos : Pos} (hc : X.calm = true) (hg : Gl X "tuple") (hm : X.mg "tuple" = none) (hg2 : Gl X "zip") (hm2 : X.mg "zip" = none) (ha : PA X [e, e2] ta)
    (hs : starEach [e, e2] X.env = (false, eval e X.env) :: starEach [e2] X.env := by rfl) (hpl : (backTo q (starEach [e2] X.env)).any (·.1) = false := by rfl)
    (na : starEach [.Call (.Name "zip" p2) [e, e2] [] q] X.env = (false, eval (.Call (.Name "zip" p2) [e, e2] [] q) X.env) :: starEach [] X.env := by rfl) : PE X (.Call (.Name "tuple" p) [.Call (.Name "zip" p2) [e, e2] [] q] [] pos) (tZip HO.tup ta) := by
  refine ⟨fun pins s σ H Q I h => ?_⟩
  refine Call_ (ld_blt I hg hm (by rfl) ?_)
  refine PyProof.Rows.callWith_type1 (PyProof.Rows.args_cons ?_ na) na rfl
  refine Call_ (ld_blt I hg2 hm2 boot_zip ?_)
  refine PyProof.Rows.callWith_type1 (thn (ha.run q pins s σ H _ I h) fun us s1 ⟨vs, H1, I1, r1, q1⟩ => ?_) hs hpl
  obtain ⟨a, b, xs, ys, rfl, hqa, hqb, le, qq⟩ := q1
  cases r1 with
  | cons r rr =>
    cases rr with
    | cons r' rr =>
      cases rr
      cases r
      cases r'
      obtain ⟨u1, o1, Hh1, St1, v1, B1, k1, la, d1, t1⟩ := sq_draws I1 hqa
      obtain ⟨u2, o2, Hh2, St2, v2, B2, k2, lb, d2, t2⟩ := sq_draws I1 hqb
      refine zip_begins2 B1 B2 k1 k2 fun h' hz hTI hTO g1 g2 hsz hk => PyProof.Rows.args_nil ?_
      have l1 : u1.toArray.size = xs.length := by rw [List.size_toArray]; exact v1.length.symm
      have l2 : u2.toArray.size = ys.length := by rw [List.size_toArray]; exact v2.length.symm
      have I2 : L2.Inv X pins σ H1 { s1 with heap := h' } := I1.kept (t' := s1.toks) hk
      refine call_tuple_zip (s := { s1 with heap := h' }) (sep_mk s1.heap.objs.size a b la lb) (d1 X.A.in1.in1.in1.in1 (I1.ok.hd hc) _ (Nat.ne_of_lt la)) (d2 X.A.in1.in1.in1.in1 (I1.ok.hd hc) _ (Nat.ne_of_lt (Nat.lt_succ_of_lt lb))) ?_ hz hTI hTO (t1 _ _ g1 hk) (t2 _ _ g2 hk) ?_ fun h'' tk acc kp got => ?_
      · rw [l1, sizeLine_eq]; omega
      · intro c hcm
        show c < h'.objs.size
        rw [hsz]
        exact cells_lt la lb hcm
      · rw [l1, l2] at got
        have eTI : h''.get? (s1.heap.objs.size + 2) = _ := kp _ _ (Nat.ne_of_lt (by omega)) (Nat.ne_of_lt (by omega)) (Nat.ne_of_gt (by omega)) (Nat.ne_of_gt (by omega)) hTI
        have hlt : s1.heap.objs.size ≤ h''.objs.size := Nat.le_of_lt (Nat.lt_of_le_of_lt (Nat.le_add_right _ 2) (Heap.lt_size eTI))
        have old : ∀ b o, s1.heap.get? b = some o → h''.get? b = some o := fun b o e => by
          have l := Heap.lt_size e
          exact kp b o (Nat.ne_of_lt (Nat.lt_of_lt_of_le l (Nat.le_add_right _ 4))) (Nat.ne_of_lt (Nat.lt_of_lt_of_le l (Nat.le_add_right _ 3))) (Nat.ne_of_lt l) (Nat.ne_of_lt (Nat.lt_of_lt_of_le l (Nat.le_add_right _ 1))) (hk b o e)
        refine zip_laid (s := s1) (p := h''.objs.size) (mk := HO.tup) I1 v1 v2 (show s1.heap.objs.size ≤ h'.objs.size + 1 by rw [hsz]; omega) hlt (fun b o e => Heap.get?_push_of_some _ (old b o e)) (got.keep fun b o _ e => Heap.get?_push_of_some _ e) (fun as ea el => ⟨fun hm => ?_, fun H' => ⟨?_, acc.toList, ?_, ?_⟩⟩) qq
        · obtain ⟨as', e1, e2, e4, e3⟩ := got
          have ee : as = as' := List.map_inj_right (f := Value.ref) (fun a b h => by injection h) |>.mp (ea.symm.trans e1)
          rw [ee] at hm
          obtain ⟨j, hj⟩ := List.mem_iff_getElem?.mp hm
          obtain ⟨_, _, _, _, _, w3⟩ := e3 j _ hj
          exact absurd (Heap.lt_size w3) (Nat.lt_irrefl _)
        · rw [List.length_map, el, sizeLine_eq]; omega
        · rw [ea]
          exact LiI.vals_refs as
        · rw [Array.toArray_toList]
          exact ⟨_, Heap.get?_push_size _ rfl, rfl, _, rfl⟩
theorem pe_listZip {e e2 : Expr} {ta : TA} {p p2 q pos : Pos} (hc : X.calm = true) (hg : Gl X "list") (hm : X.mg "list" = none) (hg2 : Gl X "zip") (hm2 : X.mg "zip" = none) (ha : PA X [e, e2] ta)
    (hs : starEach [e, e2] X.env = (false, eval e X.env) :: starEach [e2] X.env := by rfl) (hpl : (backTo q (starEach [e2] X.env)).any (·.1) = false := by rfl)
    (na : starEach [.Call (.Name "zip" p2) [e, e2] [] q] X.env = (false, eval (.Call (.Name "zip" p2) [e, e2] [] q) X.env) :: starEach [] X.env := by rfl) : PE X (.Call (.Name "list" p) [.Call (.Name "zip" p2) [e, e2] [] q] [] pos) (tZip HO.lst ta) := by
  refine ⟨fun pins s σ H Q I h => ?_⟩
  refine Call_ (ld_blt I hg hm (by rfl) ?_)
  refine PyProof.Rows.callWith_type1 (PyProof.Rows.args_cons ?_ na) na rfl
  refine Call_ (ld_blt I hg2 hm2 boot_zip ?_)
  refine PyProof.Rows.callWith_type1 (thn (ha.run q pins s σ H _ I h) fun us s1 ⟨vs, H1, I1, r1, q1⟩ => ?_) hs hpl
  obtain ⟨a, b, xs, ys, rfl, hqa, hqb, le, qq⟩ := q1
  cases r1 with
  | cons r rr =>
    cases rr with
    | cons r' rr =>
      cases rr
      cases r
      cases r'
      obtain ⟨u1, o1, Hh1, St1, v1, B1, k1, la, d1, t1⟩ := sq_draws I1 hqa
      obtain ⟨u2, o2, Hh2, St2, v2, B2, k2, lb, d2, t2⟩ := sq_draws I1 hqb
      refine zip_begins2 B1 B2 k1 k2 fun h' hz hTI hTO g1 g2 hsz hk => PyProof.Rows.args_nil ?_
      have l1 : u1.toArray.size = xs.length := by rw [List.size_toArray]; exact v1.length.symm
      have l2 : u2.toArray.size = ys.length := by rw [List.size_toArray]; exact v2.length.symm
      refine call_list_zip (s := { s1 with heap := h' }) (sep_mk s1.heap.objs.size a b la lb) (d1 X.A.in1.in1.in1 (I1.ok.hd hc) _ (Nat.ne_of_lt la)) (d2 X.A.in1.in1.in1 (I1.ok.hd hc) _ (Nat.ne_of_lt (Nat.lt_succ_of_lt lb))) ?_ hz hTI hTO (t1 _ _ g1 hk) (t2 _ _ g2 hk) ?_ fun h'' tk acc c kp got hL => ?_
      · rw [l1, sizeLine_eq]; omega
      · intro c hcm
        show c < h'.objs.size
        rw [hsz]
        exact cells_lt la lb hcm
      · rw [l1, l2] at got
        have old : ∀ b o, s1.heap.get? b = some o → h''.get? b = some o := fun b o e => by
          have l := Heap.lt_size e
          exact kp b o (Nat.ne_of_lt (Nat.lt_of_lt_of_le l (Nat.le_add_right _ 4))) (Nat.ne_of_lt (Nat.lt_of_lt_of_le l (Nat.le_add_right _ 3))) (Nat.ne_of_lt l) (Nat.ne_of_lt (Nat.lt_of_lt_of_le l (Nat.le_add_right _ 1))) (hk b o e)
        have hL : h''.get? h'.objs.size = some { cls := .type "list", dict := none, data := .seq acc c, slots := #[] } := hL
        refine zip_laid (s := s1) (p := h'.objs.size) (mk := HO.lst) I1 v1 v2 (show s1.heap.objs.size ≤ h'.objs.size + 1 by rw [hsz]; omega) (by rw [hsz]; omega) old got (fun as ea el => ⟨fun hm => ?_, fun H' => ⟨?_, acc.toList, c, ?_, ?_⟩⟩) qq
        · obtain ⟨as', e1, e2, e4, e3⟩ := got
          have ee : as = as' := List.map_inj_right (f := Value.ref) (fun a b h => by injection h) |>.mp (ea.symm.trans e1)
          rw [ee] at hm
          obtain ⟨j, hj⟩ := List.mem_iff_getElem?.mp hm
          obtain ⟨w0, _⟩ := e3 j _ hj
          exact absurd w0 (Nat.not_le_of_lt (Nat.lt_succ_self _))
        · rw [List.length_map, el, sizeLine_eq]; omega
        · rw [ea]
          exact LiI.vals_refs as
        · rw [Array.toArray_toList]
          exact hL
end
end V0

namespace V0
open PySem PySem.Spec PyProof.Rows L2
def rowP (us : List Str) : List Pai := us.zip (us.drop 1)
theorem paired_mapL {α β γ : Type} {R : γ → β → Prop} {g : α → γ} : ∀ {xs : List α} {ys : List β}, Paired R (xs.map g) ys → Paired (fun a b => R (g a) b) xs ys
  | [], _, .nil => .nil
  | _ :: _, _, .cons a b => .cons a (paired_mapL b)
/-- pairs of texts out of a zip -/
theorem zip_prs {H : Hp} {us vs : List Str} {ts : List Addr} (h : Paired (fun (q : V × V) (t : Addr) => H t = some (.tup [q.1, q.2])) ((us.map V.str).zip (vs.map V.str)) ts) : Paired (PrAt H) (us.zip vs) ts := by
  rw [List.zip_map] at h
  have h2 := paired_mapL (g := Prod.map V.str V.str) h
  exact h2
theorem row_ok {us : List Str} (nd : us.Nodup) : ∀ p ∈ rowP us, PrOk us p := by
  intro p hp
  obtain ⟨i, hi⟩ := List.mem_iff_getElem?.mp hp
  obtain ⟨h1, h2⟩ := List.getElem?_zip_eq_some.mp hi
  rw [List.getElem?_drop] at h2
  refine ⟨List.mem_of_getElem? h1, List.mem_of_getElem? h2, fun e => ?_⟩
  rw [e, ← h2] at h1
  have hl : i < us.length := by
    have := (List.getElem?_eq_some_iff.mp h2).1
    omega
  have := (List.getElem?_inj hl nd).mp h1
  omega
theorem cutV_one (xs : List V) : cutV xs (some 1) none = xs.drop 1 := cutV_from xs 1
def spRow (C : Addr) : Sp := fun vs H Q _ => ∃ (t : Addr) (us : List Str), vs = [.ref t] ∧ H t = some (tupS us) ∧ Nz us ∧ ∀ x zs H', Same H H' → H x = none → Asc zs → zs.Perm us → Wbs C H' x zs (tieP (rowP us)) → Q (.ref x) H'
end V0

namespace V0
open PySem PySem.Spec PyProof.Rows L2
theorem cut_some (us : List Str) (lo hi : Option Int) : ∃ ws : List Str, cutV (us.map V.str) lo hi = ws.map V.str ∧ (∀ z ∈ ws, z ∈ us) ∧ ws.length ≤ us.length ∧ ws.Sublist us := by
  unfold cutV
  refine ⟨(us.drop (HT.sIx (us.map V.str).length 0 lo)).take (HT.sIx (us.map V.str).length (us.map V.str).length hi - HT.sIx (us.map V.str).length 0 lo), by rw [List.map_take, List.map_drop], fun z hz => List.mem_of_mem_drop (List.mem_of_mem_take hz), ?_, (List.take_sublist _ _).trans (List.drop_sublist _ _)⟩
  rw [List.length_take, List.length_drop]
  omega
theorem useKey {N I : L2.St → Hp → Prop} {G : Prop} (f : (∀ σ H, I σ H → N σ H) → G) (k : ∀ σ H, I σ H → N σ H) : G := f k
theorem loP_ok {us : List Str} {p : Pai} (h : PrOk us p) : PrOk us (loP p) := by
  obtain ⟨h1, h2, ne⟩ := h
  unfold loP loS hiS
  rcases lt_tri ne with l | l
  · rw [if_neg (fun z => List.lt_irrefl _ (List.lt_trans z l)), if_pos l]
    exact ⟨h1, h2, ne⟩
  · rw [if_pos l, if_neg (fun z => List.lt_irrefl _ (List.lt_trans z l))]
    exact ⟨h2, h1, Ne.symm ne⟩
theorem PrOk.nm {us : List Str} {p : Pai} (nz : Nz us) (h : PrOk us p) : PrN p := ⟨(nz.nm _ h.1).1, (nz.nm _ h.2.1).1⟩
def spGenN : Sp := fun vs H Q E => ∃ (p a : Addr) (us : List Str), vs = [.ref p, .ref a] ∧ Pot H p ∧ a ≠ p ∧ IsSq H a (us.map V.str) ∧ Nz us ∧ GenQ H p us Q
section
variable {P : Program} {w : World} {K : PySem.W.Frag} {mg : Str → Option Value} {base : Heap}
end
end V0

namespace V0
open PySem PySem.Spec PyProof.Rows L2
theorem IsPl.np {H : Hp} {p q : Addr} {zs : List Str} {tie : Str → Str → Bool} (h : IsPl H q zs tie) (hp : Pot H p) : q ≠ p := by
  rintro rfl
  obtain ⟨t, l, e, _⟩ := h
  obtain ⟨i, j, k, e2, _⟩ := hp
  rw [e] at e2
  cases e2
theorem tup_np {H : Hp} {p t : Addr} {xs : List V} (h : H t = some (.tup xs)) (hp : Pot H p) : t ≠ p := by
  rintro rfl
  obtain ⟨i, j, k, e2, _⟩ := hp
  rw [h] at e2
  cases e2
theorem IsPl.but {H H' : Hp} {p q : Addr} {zs : List Str} {tie : Str → Str → Bool} (h : IsPl H q zs tie) (s : But p H H') (hp : Pot H p) : IsPl H' q zs tie := by
  have n := h.np hp
  obtain ⟨t, l, e1, e2, e3⟩ := h
  exact ⟨t, l, s _ _ e1 n, s _ _ e2 (tup_np e2 hp), e3.but s hp (prsL_np e3 hp)⟩
def spNearly : Sp := fun vs H Q _ => ∃ (p q : Addr) (zs : List Str) (tie : Str → Str → Bool), vs = [.ref p, .ref q] ∧ Pot H p ∧ IsPl H q zs tie ∧ Zs zs ∧ Tie tie ∧
  ∀ q' tie' H', Pot H' p → But p H H' → (q' = q ∨ H q' = none) → Tie tie' → IsPl H' q' zs tie' → Q (.ref q') H'
section
variable {P : Program} {w : World} {K : PySem.W.Frag} {mg : Str → Option Value} {base : Heap}
abbrev s_nearly : Stmt := top 66
abbrev N_nearly : List Str := ["_law_pot_here", "_law_plain_here", "_law_pairs", "_law_pair", "_law_one", "_law_ties"]
abbrev P_nearly : List Str := ["_law_pot_here", "_law_plain_here"]
theorem sc_nearly : FnScope N_nearly P_nearly (defScope s_nearly) := ⟨rfl, rfl, rfl, by decide +kernel, rfl, by decide +kernel, by decide +kernel⟩
theorem ok_nearly {f f1 f2 f3 f4 : Addr} {fd fd1 fd2 fd3 fd4 : FuncData} (B : Bl mg) (M : Bm mg) (D_stir : Df K mg "_law_stir" s_stir P_stir f1 fd1) (D_one_of : Df K mg "_law_one_of" s_one_of P_one_of f2 fd2) (D_all_pairs : Df K mg "_law_all_pairs" s_all_pairs P_all_pairs f3 fd3) (D_plain : Df K mg "_law_plain" s_plain P_plain f4 fd4)
    (D : Df K mg "_law_nearly" s_nearly P_nearly f fd) : FnOk P w K mg base CX0 3 f fd P_nearly spNearly := by
  have G_one_of : FnOk P w K mg base CX0 2 f2 fd2 P_one_of (spOneOf K) := ok_one_of B D_stir D_one_of
  have G_all_pairs : FnOk P w K mg base CX0 1 f3 fd3 P_all_pairs spAllPairs := ok_all_pairs B M D_all_pairs
  have G_plain : FnOk P w K mg base CX0 1 f4 fd4 P_plain spPlain := ok_plain B M D_plain
  refine D.F.ok sc_nearly (fun vs H Q E h => ?_) (fun cdv A outer s H vs Q E hr h => ?_)
  · obtain ⟨p, q, zs, tie, rfl, _⟩ := h
    rfl
  · obtain ⟨p, q, zs, tie, rfl, hp, pl, hz, T, k⟩ := h
    refine ⟨_, (pss_cons (ps_set (i := 2) sc_nearly.nd rfl (Or.inl rfl) (pe_call G_all_pairs (hr.mono (by decide)) (by rfl) D_all_pairs.g D_all_pairs.F.kp D_all_pairs.b .nil pass0 (pa_cons (pe_dget (hu_of hr) (pv 1) pe_str (fun _ _ => rfl)) pa_nil)))
      (pss_cons (ps_if (pt_cmpR (op_eqD hr.units) (pv 2) (pe_lst pa_nil) (nomark _)) (pss_one (ps_ret (pv 1))) pss_nil)
      (pss_cons (ps_set (i := 3) sc_nearly.nd rfl (Or.inr rfl) (pe_call G_one_of (hr.mono (by decide)) (by rfl) D_one_of.g D_one_of.F.kp D_one_of.b .nil pass0 (pa_cons (pv 0) (pa_cons (pv 2) pa_nil))))
      (pss_cons (ps_set (i := 5) sc_nearly.nd rfl (Or.inl rfl) (pe_op op_cat (pe_lc (own := [("_law_one", 4)]) (g := gName 4) rfl sc_nearly.nd (pi_list (pe_dget (hu_of hr) (pv 1) pe_str (fun _ _ => rfl))) (blkOk_by (own := [("_law_one", 4)]) (N := N_nearly) (sc := defScope s_nearly) (by decide +kernel)) (fun _ _ _ _ _ => (pg_name (i := 4) sc_nearly.nd rfl (Or.inl rfl))) (fun _ _ _ _ _ => pts_one (show PT _ _ (tTest (tOp (rNeD K) (tVar 4) (tVar 3))) from by exact (pt_cmpR (op_neD hr.units) (pv 4) (pv 3) (nomark _)))) (fun _ _ _ _ _ => (pv 4))) (pe_op op_rep (pe_lst (pa_cons (pv 3) pa_nil)) (pe_callTy call_int1 (by rfl) B.b_int (by decide +kernel) (pa_cons (pe_cmpR (op_notInD (Room.units65 hr)) (pv 3) (pe_dget (hu_of hr) (pv 1) pe_str (fun _ _ => rfl)) (by rfl)) pa_nil)))))
      (pss_one (ps_ret (pe_call G_plain (hr.mono (by decide)) (by rfl) D_plain.g D_plain.F.kp D_plain.b .nil pass0 (pa_cons (pe_dget (hu_of hr) (pv 1) pe_str (fun _ _ => rfl)) (pa_cons (pv 5) pa_nil))))))))), ?_⟩
    obtain ⟨t, l, e1, e2, e3⟩ := id pl
    have z8 := hz.l8
    have nz := hz.nz
    refine ⟨_, rfl, q, .ref t, rfl, .inl ⟨_, .inr "things", .inl e1, rfl, plF_things.symm⟩, t, zs, rfl, .inr e2, z8, fun L H1 s1 nL prl => ?_⟩
    have p1 := hp.same s1
    obtain ⟨as, eL, pa⟩ := id prl
    have nLp := prsL_np prl p1
    have zok := prs_ok nz.nd
    refine ⟨_, rfl, Nat.zero_le _, fun e he => ?_⟩
    have s2 := Same.new (o := .lst []) he
    have ee : (upd H1 e (.lst [])) e = some (.lst []) := upd_same
    generalize upd H1 e (.lst []) = H2 at s2 ee ⊢
    have s12 := Same.trans s1 s2
    have p2 := p1.same s2
    have eL2 := s2 _ _ eL
    have pa2 := paired_mono (fun _ _ e => PrAt.same e s2) pa
    refine ⟨.list ((prs zs).map dP), .list [], .lst (SqL.of eL2) (dp_prs pa2), .lst (SqL.of ee) .nil, shL_dP _ (fun r hr => (zok r hr).nm nz), by decide, _, rfl, ite2 (fun _ => ?_) (fun z => ?_)⟩
    · exact ⟨_, rfl, k q tie H2 p2 (But.of s12) (.inl rfl) T (pl.same s12)⟩
    have ne : prs zs ≠ [] := fun e => z (by rw [e]; rfl)
    have nas : as.map V.ref ≠ [] := fun e => by
      have h1 := congrArg List.length e
      rw [List.length_map, ← pa.length] at h1
      exact ne (List.length_eq_zero_iff.mp h1)
    have l28 := prs_28 z8
    refine ⟨_, rfl, _, rfl, p, _, rfl, p2, .inl ⟨L, _, rfl, nLp, eL2, nas, by rw [List.length_map, ← pa.length]; omega, fun x hx H3 p3 b3 => ?_⟩⟩
    obtain ⟨a0, ha0, rfl⟩ := List.mem_map.mp hx
    obtain ⟨j, hj⟩ := List.mem_iff_getElem?.mp ha0
    obtain ⟨q0, hq0, pat⟩ := paired_get pa2 hj
    have ok0 := zok q0 (List.mem_of_getElem? hq0)
    have pat3 := PrAt.but b3 p2 pat
    have b03 := (But.of s12).trans b3
    have pl3 := pl.but b03 hp
    obtain ⟨t3, l3, f1, f2, f3⟩ := id pl3
    obtain ⟨bs, el, pb⟩ := id f3
    have cok := cfl_ok (tie := tie) hz.asc
    have c28 : (cfl zs tie).length ≤ 28 := Nat.le_trans (List.length_filter_le _ _) l28
    -- the ties but that one
    refine ⟨_, rfl, q, .ref l3, rfl, .inl ⟨_, .inr "ties", .inl f1, rfl, plF_ties.symm⟩, l3, rfl, ⟨_, SqL.of el⟩, fun D hD => ?_⟩
    refine lc_it (walk_list (xs := bs.map V.ref)) (fun i H' => Same H3 H' ∧ ∃ qs, PrsL H' D qs ∧ qs.length ≤ i ∧ ∀ r ∈ qs, PrOk zs r) ⟨Same.new hD, [], PrsL.nil, Nat.le_refl _, fun q hq => by cases hq⟩ (fun i H' _ ⟨s9, _⟩ => SqL.of (s9 _ _ el)) ?_ ?_
    · rintro i v H9 H10 hi ⟨s9, qs, pd, ql, qm⟩ ⟨rfl, hy⟩
      rw [List.length_map] at hi
      obtain ⟨a1, ha1, rfl⟩ := ref_at hy
      obtain ⟨q1, hq1, pat1⟩ := paired_get pb ha1
      have pat1 := PrAt.same pat1 s9
      have il : i < 28 := by rw [← pb.length] at hi; omega
      have ok1 := cok q1 (List.mem_of_getElem? hq1)
      refine ⟨rfl, _, rfl, _, rfl, dP q1, dP q0, dp_pr pat1, dp_pr (PrAt.same pat3 s9), sh_dP1 (ok1.nm nz), sh_dP1 (ok0.nm nz), _, rfl, ite2 (fun _ => ?_) (fun _ => ⟨s9, qs, pd, by omega, qm⟩)⟩
      obtain ⟨acc, g1, g2, g3, g4⟩ := prsL_add hD s9 pd (by omega) pat1
      refine ⟨_, rfl, acc, g1, g2, g3, _, g4, by rw [List.length_append, List.length_singleton]; omega, fun r hr => ?_⟩
      rcases List.mem_append.mp hr with h | h
      · exact qm r h
      · rw [List.mem_singleton.mp h]
        exact ok1
    rintro H9 ⟨s9, qs, pd, ql, qm⟩
    rw [List.length_map, ← pb.length] at ql
    -- and that one
    refine ⟨_, rfl, by show 1 ≤ sizeLine; decide, fun e he => ?_⟩
    have s10 := Same.new (o := .lst [V.ref a0]) he
    have ee : (upd H9 e (.lst [V.ref a0])) e = some (.lst [V.ref a0]) := upd_same
    generalize upd H9 e (.lst [V.ref a0]) = H10 at s10 ee ⊢
    have s310 := Same.trans s9 s10
    have pat10 := PrAt.same pat3 s310
    refine ⟨_, rfl, _, rfl, q, .ref l3, rfl, .inl ⟨_, .inr "ties", .inl (s310 _ _ f1), rfl, plF_ties.symm⟩, dP q0, (cfl zs tie).map dP, dp_pr pat10, .lst (SqL.of (s310 _ _ el)) (dp_prs (paired_mono (fun _ _ e => PrAt.same e s310) pb)), sh_dP1 (ok0.nm nz), shL_dP _ (fun r hr => (cok r hr).nm nz), .inr ⟨_, rfl, ?_⟩⟩
    generalize (!((cfl zs tie).map dP).any fun z => PyData.eqv z (dP q0)) = bb
    obtain ⟨qs2, hq2, q2l, hrep⟩ : ∃ qs2 : List Pai, (∀ r ∈ qs2, PrOk zs r) ∧ qs2.length ≤ 1 ∧ ∀ r, H10 r = none → PrsL (upd H10 r (.lst (List.replicate (if bb then (1 : Int) else 0).toNat [V.ref a0]).flatten)) r qs2 := by
      cases bb with
      | false => exact ⟨[], (fun r hr => by cases hr), by decide, fun r hr => PrsL.nil⟩
      | true => exact ⟨[q0], (fun r hr => by rw [List.mem_singleton.mp hr]; exact ok0), Nat.le_refl 1, fun r hr => ⟨[a0], upd_same, .cons (PrAt.same pat10 (Same.new hr)) .nil⟩⟩
    refine ⟨e, _, _, rfl, rfl, ee, by split <;> decide, by split <;> decide, by split <;> first | (show 1 * 1 ≤ sizeLine; decide) | (show 1 * 0 ≤ sizeLine; decide), fun r hr => ?_⟩
    have prr := hrep r hr
    have s11 := Same.new (o := .lst (List.replicate (if bb then (1 : Int) else 0).toNat [V.ref a0]).flatten) hr
    generalize upd H10 r (.lst (List.replicate (if bb then (1 : Int) else 0).toNat [V.ref a0]).flatten) = H11 at prr s11 ⊢
    obtain ⟨xs2, zs2, g1, g2, k1, k2, cat2⟩ := prsL_cat (pd.same (Same.trans s10 s11)) prr
    refine ⟨D, r, xs2, zs2, rfl, rfl, g1, g2, by rw [sizeLine_eq]; omega, fun c hc => ?_⟩
    have prc := cat2 c hc
    have s12' := Same.new (o := .lst (xs2 ++ zs2)) hc
    generalize upd H11 c (.lst (xs2 ++ zs2)) = H12 at prc s12' ⊢
    have s312 := Same.trans s310 (Same.trans s11 s12')
    have ok : ∀ r ∈ qs ++ qs2, PrOk zs r := fun r hr => by
      rcases List.mem_append.mp hr with h | h
      · exact qm r h
      · exact hq2 r h
    refine ⟨_, rfl, q, .ref t3, rfl, .inl ⟨_, .inr "things", .inl (s312 _ _ f1), rfl, plF_things.symm⟩, _, rfl, t3, c, zs, _, rfl, .inr (s312 _ _ f2), nz.nd, z8, prc, ok, by rw [List.length_append]; omega, fun q' zs' H13 s13 nq asc pm pl' => ?_⟩
    have ez : zs' = zs := asc_one pm asc hz.asc
    subst ez
    have b013 := b03.trans (But.of s312)
    obtain ⟨n1, n2⟩ := none_but b013 (p3.same s312) nq
    exact k q' _ H13 ((p3.same s312).same s13) (b013.trans (But.of s13)) (.inr n1) (tieP_tie ok) pl'
end
end V0

namespace V0
open PySem PySem.Spec PyProof.Rows L2
def spLWeb : Sp := fun vs H Q _ => ∃ (p : Addr) (n : Nat), vs = [.ref p, .int (n : Nat)] ∧ Pot H p ∧ 1 ≤ n ∧ n ≤ 8 ∧
  ∀ q zs tie H', Pot H' p → But p H H' → H q = none → Zs zs → zs.length ≤ n → Tie tie → IsPl H' q zs tie → Q (.ref q) H'
theorem ws_nz {zs : List Str} (h : Ws zs) (l1 : 1 ≤ zs.length) (l8 : zs.length ≤ 8) : Nz zs :=
  ⟨h.nodup, fun z hz => (by decide +kernel : ∀ z ∈ wordsL, nameB (.str z) = true ∧ z.length ≤ 8) z (h.sub z hz), l1, l8⟩
section
variable {P : Program} {w : World} {K : PySem.W.Frag} {mg : Str → Option Value} {base : Heap}
end
end V0

namespace V0
open PySem PySem.Spec PyProof.Rows L2
theorem tieP_cfl {zs : List Str} {tie : Str → Str → Bool} (asc : Asc zs) (T : Tie tie) {p q : Str} (hp : p ∈ zs) (hq : q ∈ zs) : tieP (cfl zs tie) p q = tie p q := by
  have h := tieP_filter (zs := zs) (tie := tie) (f := fun _ => true) asc T (fun _ _ => rfl) hp hq
  rw [List.filter_eq_self.mpr fun _ _ => rfl, Bool.and_true] at h
  exact h
end V0

namespace V0
open PySem PySem.Spec PyProof.Rows L2
def spTurn (C : Addr) : Sp := fun vs H Q _ => ∃ (x : Addr) (zs : List Str) (tie : Str → Str → Bool), vs = [.ref x] ∧ Wbs C H x zs tie ∧ ∀ y H', Same H H' → H y = none → Wbs C H' y zs (tieTurn tie) → Q (.ref y) H'
section
variable {P : Program} {w : World} {K : PySem.W.Frag} {mg : Str → Option Value} {base : Heap} {C : Addr}
abbrev s_Web_turned : Stmt := inClass (top 17) 10
abbrev N_Web_turned : List Str := ["self", "one", "other", "pairs", "pair"]
abbrev P_Web_turned : List Str := ["self"]
theorem sc_Web_turned : FnScope N_Web_turned P_Web_turned (defScope s_Web_turned) := ⟨rfl, rfl, rfl, by decide +kernel, rfl, by decide +kernel, by decide +kernel⟩
theorem ok_turn {f fi : Addr} {fd fdi : FuncData} (B : Bl mg) (KWeb : Kls K mg "Web" C) (N : WbN K C) (Y_init : WbK K C fi fdi s_Web_init P_Web_init) (G_init : FnOk P w K mg base CX0 4 fi fdi P_Web_init (spWeb C)) (Y : Md K "Web.turned" "turned" C s_Web_turned P_Web_turned f fd) : FnOk P w K mg base CX0 6 f fd P_Web_turned (spTurn C) := by
  refine Y.F.ok sc_Web_turned (fun vs H Q E h => ?_) (fun cdv A outer s H vs Q E hr h => ?_)
  · obtain ⟨x, zs, tie, rfl, _⟩ := h
    rfl
  · obtain ⟨x, zs, tie, rfl, W, k⟩ := h
    refine ⟨_, (pss_cons (ps_setLc2 (i := 3) (own := [("one", 1), ("other", 2)]) (vs1 := [2]) (g := gName 1) (tt := tYes) (g1 := gName 2) (te := tTup (tCons (tVar 1) (tCons (tVar 2) tNil))) rfl sc_Web_turned.nd rfl rfl (sw_true rfl rfl rfl (by decide +kernel)) (pi_tup (pe_fld (pv 0) rfl)) (blkOk_by (own := [("one", 1), ("other", 2)]) (N := N_Web_turned) (sc := defScope s_Web_turned) (by decide +kernel)) (by decide) (fun _ _ _ _ _ => (pg_name (i := 1) sc_Web_turned.nd rfl (Or.inl rfl))) (fun _ _ _ _ _ => pts_nil) (fun _ _ _ _ _ => (show PI _ _ _ (iTup K (tFld K (tVar 0) "_things")) from by exact (pi_tup (pe_fld (pv 0) rfl)))) (fun _ _ _ _ _ => (pg_name (i := 2) sc_Web_turned.nd rfl (Or.inl rfl))) (fun _ _ _ _ _ => pts_one (pt_cmpR op_lt_str (pv 1) (pv 2) (nomark _))) (fun _ _ _ _ _ => (pe_tup (pa_cons (pv 1) (pa_cons (pv 2) pa_nil)))))
      (pss_one (ps_ret (pe_make Y_init.mkC G_init (hr.mono (by decide)) (by rfl) KWeb.g Y_init.b .nil pass0 (pa_cons (pe_fld (pv 0) rfl) (pa_cons (pe_callTy call_tuple_of (by rfl) B.b_tuple (by decide +kernel) (pa_cons (pe_lc (own := [("pair", 4)]) (g := gName 4) rfl sc_Web_turned.nd (pi_list (pv 3)) (blkOk_by (own := [("pair", 4)]) (N := N_Web_turned) (sc := defScope s_Web_turned) (by decide +kernel)) (fun _ _ _ _ _ => (pg_name (i := 4) sc_Web_turned.nd rfl (Or.inl rfl))) (fun _ _ _ _ _ => pts_one (show PT _ _ (tTest (tOp (rNotInT K) (tVar 4) (tFld K (tVar 0) "_conflicts"))) from by exact (pt_cmpR (op_notInT (Room.units65 hr)) (pv 4) (pe_fld (pv 0) rfl) (by rfl)))) (fun _ _ _ _ _ => (pv 4))) pa_nil)) pa_nil)))))), ?_⟩
    obtain ⟨dx, t, c, bb, as, bs, w⟩ := id W.w
    have z8 := W.z.l8
    -- all pairs
    refine ⟨_, rfl, x, C, dx, _, _, rfl, w.at_, KWeb.cl, N.n1, rfl, t, rfl, ⟨_, SqT.of w.th⟩, fun L hL => ?_⟩
    refine lc2_out (walk_tup (xs := zs.map V.str)) (fun i H' => Same H H' ∧ ∃ as', H' L = some (.lst (as'.map V.ref)) ∧ Paired (PrAt H') ((zs.take i).flatMap fun z => row1 z zs) as') ⟨Same.new hL, [], upd_same, .nil⟩ (fun i H' _ ⟨s1, _⟩ => SqT.of (s1 _ _ w.th)) ?_ ?_
    · rintro i y H1 H2 hi ⟨s1, as', e1, pa⟩ ⟨rfl, hy⟩
      obtain ⟨z, hz, rfl⟩ := str_at hy
      refine ⟨rfl, ?_⟩
      dsimp only [tYes]
      rw [if_pos (show true = true from rfl)]
      refine ⟨_, rfl, x, C, dx, _, _, rfl, s1 _ _ w.at_, KWeb.cl, N.n1, rfl, t, rfl, ⟨_, SqT.of (s1 _ _ w.th)⟩, ?_⟩
      refine lc2_in (walk_tup (xs := zs.map V.str)) (fun j H' => Same H H' ∧ ∃ as', H' L = some (.lst (as'.map V.ref)) ∧ Paired (PrAt H') (((zs.take i).flatMap fun z => row1 z zs) ++ row1 z (zs.take j)) as') ⟨s1, as', e1, by rw [show row1 z (zs.take 0) = [] from rfl, List.append_nil]; exact pa⟩ (fun j H' _ ⟨s, _⟩ => SqT.of (s _ _ w.th)) ?_ ?_
      · rintro j y H3 H4 hj ⟨s3, as3, e3, pa3⟩ ⟨rfl, hy2⟩
        obtain ⟨y, hyz, rfl⟩ := str_at hy2
        refine ⟨rfl, _, rfl, _, rfl, z, y, rfl, rfl, _, rfl, ?_⟩
        have al3 : as3.length < 1000 := by
          rw [← pa3.length, List.length_append]
          have h1 := rows_len (zs := zs) (zs.take i)
          have h2 := row1_len z (zs.take j)
          rw [List.length_take] at h1 h2
          have h3 : min i zs.length * zs.length ≤ 8 * 8 := Nat.mul_le_mul (by omega) z8
          omega
        by_cases l : z.cps.toList < y.cps.toList
        · rw [decide_eq_true l]
          refine ite2 (fun _ => ?_) (fun z => absurd rfl z)
          refine ⟨_, rfl, _, rfl, by show 2 ≤ sizeLine; decide, fun q hq => ⟨_, (Same.new hq) _ _ e3, by rw [List.length_map, sizeLine_eq]; omega, fun c0 o e => ?_, as3 ++ [q], by rw [upd_same, List.map_append]; rfl, ?_⟩⟩
          · rw [upd_ne (ne_of_none e hL), upd_ne (ne_of_none (s3 _ _ e) hq)]
            exact s3 _ _ e
          · rw [row1_snoc z hyz, if_pos l, ← List.append_assoc]
            have nL : q ≠ L := fun e => by rw [e, e3] at hq; cases hq
            refine paired_snoc (paired_mono (fun p a (e : PrAt H4 p a) => ?_) pa3) ?_
            · have na : a ≠ L := fun e2 => by rw [e2] at e; rw [show H4 L = _ from e] at e3; cases e3
              show upd _ L _ a = _
              rw [upd_ne na]
              exact (Same.new hq) _ _ e
            · show upd _ L _ q = _
              rw [upd_ne nL]
              exact upd_same
        · rw [decide_eq_false l]
          refine ⟨s3, as3, e3, ?_⟩
          rw [row1_snoc z hyz, if_neg l, List.append_nil]
          exact pa3
      · rintro H3 ⟨s3, as3, e3, pa3⟩
        rw [List.length_map, List.take_length] at pa3
        refine ⟨s3, as3, e3, ?_⟩
        rw [take_snoc hz, List.flatMap_append, List.flatMap_cons, List.flatMap_nil, List.append_nil]
        exact pa3
    · rintro H1 ⟨s1, as1, e1, pa1⟩
      rw [List.length_map, List.take_length, rows_prs W.z.asc] at pa1
      have pl : as1.length ≤ 56 := by rw [← pa1.length]; exact Nat.le_trans (prs_len z8) (by omega)
      have cn := cfl_nm (tie := tie) W.z
      refine ⟨_, rfl, x, C, dx, _, _, rfl, s1 _ _ w.at_, KWeb.cl, N.n1, rfl, _, rfl, L, rfl, ⟨_, SqL.of e1⟩, fun M hM => ?_⟩
      have wcp := paired_mono (fun _ _ e => PrAt.same e s1) w.cp
      have cth := s1 _ _ w.cf
      have al : as1.length = (prs zs).length := pa1.length.symm
      refine lc_it (walk_list (xs := as1.map V.ref)) (fun i H' => Same H1 H' ∧ ∃ bs', H' M = some (.lst (bs'.map V.ref)) ∧ Paired (PrAt H1) (((prs zs).take i).filter fun p => tieTurn tie p.1 p.2) bs') ⟨Same.new hM, [], upd_same, .nil⟩ (fun i H' _ ⟨s2, _⟩ => SqL.of (s2 _ _ e1)) ?_ ?_
      · rintro i y H2 H3 hi ⟨s2, bs', e2, bp⟩ ⟨rfl, hy⟩
        rw [List.length_map] at hi
        obtain ⟨p0, hp0, rfl⟩ := ref_at hy
        obtain ⟨p, hp, pat⟩ := paired_get pa1 hp0
        have pm := (mem_prs W.z.asc).mp (show (p.1, p.2) ∈ prs zs from List.mem_of_getElem? hp)
        refine ⟨rfl, _, rfl, _, rfl, x, C, dx, _, _, rfl, s2 _ _ (s1 _ _ w.at_), KWeb.cl, N.n2, rfl, ?_⟩
        refine ⟨dP p, (cfl zs tie).map dP, dp_pr (PrAt.same pat s2), .tup (SqT.of (s2 _ _ cth)) (dp_prs (paired_mono (fun _ _ e => PrAt.same e s2) wcp)), sh_dP1 ⟨(W.z.nm _ pm.1).1, (W.z.nm _ pm.2.1).1⟩, sh_dP _ fun q hq => (cn q hq).1, _, rfl, ?_⟩
        have en : (!((cfl zs tie).map dP).any fun z => PyData.eqv z (dP p)) = tieTurn tie p.1 p.2 := by
          have ne : p.1 ≠ p.2 := fun e => by rw [e] at pm; exact List.lt_irrefl _ pm.2.2
          unfold tieTurn
          rw [decide_eq_true ne, Bool.true_and]
          congr 1
          rw [List.any_map, Bool.eq_iff_iff, List.any_eq_true]
          constructor
          · rintro ⟨q, hq, e⟩
            have e : PyData.eqv (dP q) (dP p) = true := e
            rw [eqv_dP, decide_eq_true_iff] at e
            rw [← e]
            exact ((mem_cfl W.z.asc).mp (show (q.1, q.2) ∈ _ from hq)).2.2.2
          · intro h
            refine ⟨p, (mem_cfl W.z.asc).mpr ⟨pm.1, pm.2.1, pm.2.2, h⟩, ?_⟩
            show PyData.eqv (dP p) (dP p) = true
            rw [eqv_dP]
            exact decide_eq_true rfl
        rw [en]
        have bl : bs'.length ≤ 56 := by
          rw [← bp.length]
          refine Nat.le_trans (List.length_filter_le _ _) ?_
          rw [List.length_take]
          omega
        by_cases hf : tieTurn tie p.1 p.2 = true
        · rw [hf]
          refine ite2 (fun _ => ?_) (fun z => absurd rfl z)
          refine ⟨_, rfl, _, e2, by rw [List.length_map, sizeLine_eq]; omega, fun c0 o e => by rw [upd_ne (ne_of_none e hM)]; exact s2 _ _ e, bs' ++ [p0], by rw [upd_same, List.map_append]; rfl, ?_⟩
          rw [take_snoc hp, List.filter_append, List.filter_cons_of_pos (p := fun p : Pai => tieTurn tie p.1 p.2) hf, List.filter_nil]
          exact paired_snoc bp pat
        · have hf' : tieTurn tie p.1 p.2 = false := by simpa using hf
          rw [hf']
          refine ite2 (fun z => by cases z) (fun _ => ⟨s2, bs', e2, ?_⟩)
          rw [take_snoc hp, List.filter_append, List.filter_cons_of_neg (p := fun p : Pai => tieTurn tie p.1 p.2) hf, List.filter_nil, List.append_nil]
          exact bp
      · rintro H2 ⟨s2, bs', e2, bp⟩
        rw [List.length_map, al, List.take_of_length_le (Nat.le_refl _)] at bp
        refine ⟨M, _, rfl, .inl ⟨SqL.of e2, fun q hq => ?_⟩⟩
        have s3 := Same.trans s2 (Same.new (o := .tup (bs'.map V.ref)) hq)
        have e3 : (upd H2 q (.tup (bs'.map V.ref))) q = some (.tup (bs'.map V.ref)) := upd_same
        generalize upd H2 q (.tup (bs'.map V.ref)) = H3 at s3 e3 ⊢
        refine mk_web (s3 _ _ (s1 _ _ w.th)) W.z.nz W.z.asc (List.Perm.refl _) e3 (paired_mono (fun _ _ e => PrAt.same e s3) bp) (cfl_ok (tie := tieTurn tie) W.z.asc) ?_ fun y H4 s4 ny Wy => k y H4 (Same.trans s1 (Same.trans s3 s4)) ?_ ?_
        · refine Nat.le_trans (List.length_filter_le _ _) ?_
          have h2 := prs_len z8
          omega
        · exact none_up s1 (none_up s3 ny)
        · refine Wy.congr (fun p hp q hq => ?_) (tieTurn_tie W.t)
          have h := tieP_filter (zs := zs) (tie := tieTurn tie) (f := fun _ => true) W.z.asc (tieTurn_tie W.t) (fun _ _ => rfl) hp hq
          rw [List.filter_eq_self.mpr fun _ _ => rfl, Bool.and_true] at h
          exact h
end
end V0

namespace V0
open PySem PySem.Spec PyProof.Rows L2
section
variable {P : Program} {w : World} {K : PySem.W.Frag} {mg : Str → Option Value} {base : Heap} {C : Addr}
abbrev s_Web_invert : Stmt := inClass (top 17) 12
abbrev N_Web_invert : List Str := ["self"]
abbrev P_Web_invert : List Str := ["self"]
theorem sc_Web_invert : FnScope N_Web_invert P_Web_invert (defScope s_Web_invert) := ⟨rfl, rfl, rfl, by decide +kernel, rfl, by decide +kernel, by decide +kernel⟩
theorem ok_inv {f f1 : Addr} {fd fd1 : FuncData} (B : Bl mg) (KWeb : Kls K mg "Web" C) (Y_Web_turned : Md K "Web.turned" "turned" C s_Web_turned P_Web_turned f1 fd1) (G_Web_turned : FnOk P w K mg base CX0 6 f1 fd1 P_Web_turned (spTurn C)) (Y : Md K "Web.__invert__" "__invert__" C s_Web_invert P_Web_invert f fd) : FnOk P w K mg base CX0 7 f fd P_Web_invert (spTurn C) := by
  refine Y.F.ok sc_Web_invert (fun vs H Q E h => ?_) (fun cdv A outer s H vs Q E hr h => ?_)
  · obtain ⟨x, zs, tie, rfl, _⟩ := h
    rfl
  · obtain ⟨x, zs, tie, rfl, W, k⟩ := h
    refine ⟨_, (pss_one (ps_ret (pe_meth0 (pv 0) KWeb.cl Y_Web_turned.m G_Web_turned (hr.mono (by decide)) Y_Web_turned.b .nil pass0))), ?_⟩
    obtain ⟨dx, t, c, bb, as, bs, w⟩ := id W.w
    exact ⟨_, rfl, x, dx, _, rfl, w.at_, rfl, x, zs, tie, rfl, W, k⟩
end
end V0

namespace V0
open PySem PySem.Spec PyProof.Rows L2
def spRound (C : Addr) : Sp := fun vs H Q _ => ∃ (t q : Addr) (us : List Str) (ss : List Int), vs = [.ref t, .ref q] ∧ H t = some (tupS us) ∧ Nz us ∧ H q = some (.tup (ss.map V.int)) ∧ ss.length ≤ 4 ∧ (∀ s ∈ ss, 1 ≤ s ∧ s < 8) ∧
  ∀ x zs H', Same H H' → H x = none → Asc zs → zs.Perm us → Wbs C H' x zs (tieP (ringP us ss)) → Q (.ref x) H'
section
variable {P : Program} {w : World} {K : PySem.W.Frag} {mg : Str → Option Value} {base : Heap} {C : Addr}
abbrev s_round_web : Stmt := top 18
abbrev N_round_web : List Str := ["names", "steps", "step", "many", "at", "ways", "start", "end"]
abbrev P_round_web : List Str := ["names", "steps"]
theorem sc_round_web : FnScope N_round_web P_round_web (defScope s_round_web) := ⟨rfl, rfl, rfl, by decide +kernel, rfl, by decide +kernel, by decide +kernel⟩
theorem ok_round {f fi f1 f2 f3 f4 : Addr} {fd fdi fd1 fd2 fd3 fd4 : FuncData} (B : Bl mg) (M : Bm mg) (CN : Nm mg) (KWeb : Kls K mg "Web" C) (Y_init : WbK K C fi fdi s_Web_init P_Web_init) (G_init : FnOk P w K mg base CX0 4 fi fdi P_Web_init (spWeb C))
    (D_is_whole : Df K mg "is_whole" s_is_whole P_is_whole f1 fd1) (D_is_integer : Df K mg "is_integer" s_is_integer P_is_integer f2 fd2) (D_is_name : Df K mg "is_name" s_is_name P_is_name f3 fd3) (D_check_names : Df K mg "check_names" s_check_names P_check_names f4 fd4)
    (D : DfS K mg "round_web" s_round_web ["names"] "steps" f fd) : FnR P w K mg base CX0 6 f (spStar 1 (spRound C)) := by
  have G_check_names : FnOk P w K mg base CX0 3 f4 fd4 P_check_names spCheckNames := ok_check_names B M CN D_is_name D_check_names
  have G_is_integer : FnOk P w K mg base CX0 2 f2 fd2 P_is_integer spIsInteger := ok_is_integer B CN D_is_whole D_is_integer
  have C := CN
  refine D.ok sc_round_web (fun cdv A outer s H vs Q E hr h => ?_)
  obtain ⟨t, q, us, ss, rfl, ht, nz, hq, sl, hs, k⟩ := h
  refine ⟨_, (pss_cons (ps_expr (pe_call G_check_names (hr.mono (by decide)) (by rfl) D_check_names.g D_check_names.F.kp D_check_names.b .nil pass0 (pa_cons (pv 0) pa_nil)))
      (pss_cons (ps_for PassesOwn.never rfl (pi_tup (pv 1)) (pg_name (i := 2) sc_round_web.nd rfl (Or.inl rfl)) (pss_one (ps_if (PW.pt (pw_or (pt_not (pt_val (pe_call G_is_integer (hr.mono (by decide)) (by rfl) D_is_integer.g D_is_integer.F.kp D_is_integer.b .nil pass0 (pa_cons (pv 2) pa_nil)))) (pw_or1 (pt_not (pt_chain op_le op_lt pe_int (pv 2) (pe_gv rfl C.g_MAX_THINGS)))))) (pss_one ps_never) pss_nil)))
      (pss_cons (ps_set (i := 3) sc_round_web.nd rfl (Or.inr rfl) (pe_callB call_len (by rfl) B.b_len (by decide +kernel) (pa_cons (pv 0) pa_nil)))
      (pss_cons (ps_setLc2 (i := 5) (own := [("step", 2), ("at", 4)]) (vs1 := [4]) (g := gName 2) (tt := tYes) (g1 := gName 4) rfl sc_round_web.nd rfl rfl (sw_true rfl rfl rfl (by decide +kernel)) (pi_tup (pv 1)) (blkOk_by (own := [("step", 2), ("at", 4)]) (N := N_round_web) (sc := defScope s_round_web) (by decide +kernel)) (by decide) (fun _ _ _ _ _ => (pg_name (i := 2) sc_round_web.nd rfl (Or.inl rfl))) (fun _ _ _ _ _ => pts_nil) (fun _ _ _ _ _ => (pi_range1 (by rfl) B.b_range (pa_cons (pv 3) pa_nil))) (fun _ _ _ _ _ => (pg_name (i := 4) sc_round_web.nd rfl (Or.inl rfl))) (fun _ _ _ _ _ => pts_nil) (fun _ _ _ _ _ => (pe_tup (pa_cons (pv 4) (pa_cons (pe_op op_mod (pe_op op_add (pv 4) (pv 2)) (pv 3)) pa_nil)))))
      (pss_one (ps_ret (pe_make Y_init.mkC G_init (hr.mono (by decide)) (by rfl) KWeb.g Y_init.b .nil pass0 (pa_cons (pv 0) (pa_cons (pe_callTy call_tuple_of (by rfl) B.b_tuple (by decide +kernel) (pa_cons (pe_lc (own := [("start", 6), ("end", 7)]) (g := gTup K 2 (gCons (gName 6) (gCons (gName 7) (gNil)))) rfl sc_round_web.nd (pi_list (pv 5)) (blkOk_by (own := [("start", 6), ("end", 7)]) (N := N_round_web) (sc := defScope s_round_web) (by decide +kernel)) (fun _ _ _ _ _ => (pg_tup rfl (pgs_cons (pg_name (i := 6) sc_round_web.nd rfl (Or.inl rfl)) (pgs_cons (pg_name (i := 7) sc_round_web.nd rfl (Or.inl rfl)) pgs_nil)))) (fun _ _ _ _ _ => pts_one (pt_cmpR op_ne (pv 6) (pv 7) (nomark _))) (fun _ _ _ _ _ => (pe_tup (pa_cons (show PE _ _ (tOp (rIxT K) (tVar 0) (tVar 6)) from by exact (pe_ix ix_tup (pv 0) (pv 6) (fun _ _ => rfl))) (pa_cons (show PE _ _ (tOp (rIxT K) (tVar 0) (tVar 7)) from by exact (pe_ix ix_tup (pv 0) (pv 7) (fun _ _ => rfl))) pa_nil))))) pa_nil)) pa_nil))))))))), ?_⟩
  refine ⟨_, rfl, t, us, rfl, ht, nz, fun H1 s1 => ?_⟩
  have sm : ∀ i y, (ss.map V.int)[i]? = some y → ∃ s, ss[i]? = some s ∧ y = V.int s := fun i y h => by
    rw [List.getElem?_map] at h
    cases e : ss[i]? with
    | none => rw [e] at h; cases h
    | some z => rw [e] at h; injection h with h; exact ⟨z, by first | exact e | rfl, h.symm⟩
  refine ⟨_, rfl, q, rfl, ⟨_, SqT.of (s1 _ _ hq)⟩, ?_⟩
  refine for_it (walk_tup (xs := ss.map V.int)) (fun i σ H' => Same H H' ∧ ∃ o, σ = [some (.ref t), some (.ref q), o, none, none, none, none, none]) ⟨s1, none, rfl⟩ (fun i σ H' _ ⟨s2, _⟩ => SqT.of (s2 _ _ hq)) ?_ ?_
  · rintro i y σ H2 H3 hi ⟨s2, o, rfl⟩ ⟨rfl, hy⟩
    obtain ⟨s, hs1, rfl⟩ := sm i y hy
    obtain ⟨b1, b2⟩ := hs s (List.mem_of_getElem? hs1)
    refine ⟨_, rfl, _, .int, rfl, .int s, _, rfl, ?_⟩
    rw [show intB (.int s) = true from decide_eq_true (by omega)]
    refine iteF ⟨_, rfl, _, _, rfl, rfl, _, rfl, ite2 (fun _ => ?_) (fun z => absurd (decide_eq_true b1) z)⟩
    refine ⟨_, _, rfl, rfl, _, rfl, ite2 (fun z => ?_) (fun _ => ?_)⟩
    · rw [decide_eq_true (show s < 8 from b2)] at z
      cases z
    · exact ⟨s2, _, rfl⟩
  · rintro σ H2 ⟨s2, o, rfl⟩
    have n8 := nz.l8
    have n1 := nz.l1
    refine ⟨_, rfl, _, us.length, rfl, .inr ⟨_, SqT.of (s2 _ _ ht), (List.length_map _).symm⟩, ?_⟩
    -- the ways
    refine ⟨_, rfl, q, rfl, ⟨_, SqT.of (s2 _ _ hq)⟩, fun L hL => ?_⟩
    refine lc2_out (walk_tup (xs := ss.map V.int)) (fun i H' => Same H2 H' ∧ ∃ as', H' L = some (.lst (as'.map V.ref)) ∧ Paired (IpAt H') (ways us.length (ss.take i)) as') ⟨Same.new hL, [], upd_same, .nil⟩ (fun i H' _ ⟨s1, _⟩ => SqT.of (s1 _ _ (s2 _ _ hq))) ?_ ?_
    · rintro i y H3 H4 hi ⟨s3, as', e1, pa⟩ ⟨rfl, hy⟩
      rw [List.length_map] at hi
      obtain ⟨s, hs1, rfl⟩ := sm i y hy
      refine ⟨rfl, ?_⟩
      refine ⟨_, rfl, _, rfl, by omega, by omega, ?_⟩
      refine lc2_in (tt1 := tYes) (walk_range (lo := 0) (n := us.length)) (fun j H' => Same H2 H' ∧ ∃ as', H' L = some (.lst (as'.map V.ref)) ∧ Paired (IpAt H') (ways us.length (ss.take i) ++ wayR us.length s j) as') ⟨s3, as', e1, by rw [show wayR us.length s 0 = [] from rfl, List.append_nil]; exact pa⟩ (fun _ _ _ _ => trivial) ?_ ?_
      · rintro j y H5 H6 hj ⟨s5, as5, e5, pa5⟩ ⟨rfl, rfl⟩
        refine ⟨rfl, ?_⟩
        have al : as5.length < 1000 := by
          rw [← pa5.length, List.length_append, ways_len, wayR_len, List.length_take]
          have h3 : min i ss.length * us.length ≤ 4 * 8 := Nat.mul_le_mul (by omega) n8
          omega
        refine ⟨_, rfl, _, rfl, _, rfl, _, _, rfl, rfl, _, rfl, _, _, rfl, rfl, by omega, by show 2 ≤ sizeLine; decide, fun b hb => ?_⟩
        have nL : b ≠ L := fun e => by rw [e, e5] at hb; cases hb
        refine ⟨_, (Same.new hb) _ _ e5, by rw [List.length_map, sizeLine_eq]; omega, fun c0 o e => ?_, as5 ++ [b], by rw [upd_same, List.map_append]; rfl, ?_⟩
        · rw [upd_ne (ne_of_none e hL), upd_ne (ne_of_none (s5 _ _ e) hb)]
          exact s5 _ _ e
        · rw [wayR_snoc, ← List.append_assoc]
          refine paired_snoc (paired_mono (fun p a (e : IpAt _ p a) => ?_) pa5) ?_
          · have na : a ≠ L := fun e2 => by rw [e2] at e; rw [show _ = _ from e] at e5; cases e5
            show upd _ L _ a = _
            rw [upd_ne na]
            exact (Same.new hb) _ _ e
          · show upd _ L _ b = _
            rw [upd_ne nL]
            exact upd_same
      · rintro H5 ⟨s5, as5, e5, pa5⟩
        refine ⟨s5, as5, e5, ?_⟩
        unfold ways
        rw [take_snoc hs1, List.flatMap_append, List.flatMap_cons, List.flatMap_nil, List.append_nil]
        exact pa5
    · rintro H3 ⟨s3, as3, e3, pa3⟩
      rw [List.length_map, List.take_length] at pa3
      have wl : (ways us.length ss).length ≤ 32 := by
        rw [ways_len]
        exact Nat.mul_le_mul sl n8
      refine ⟨_, rfl, _, rfl, L, rfl, ⟨_, SqL.of e3⟩, fun M hM => ?_⟩
      have s23 := Same.trans s2 s3
      refine lc_it (walk_list (xs := as3.map V.ref)) (fun i H' => Same H3 H' ∧ ∃ bs', H' M = some (.lst (bs'.map V.ref)) ∧ Paired (PrAt H') ((((ways us.length ss).take i).filter fun p : Int × Int => decide (p.1 ≠ p.2)).map fun p : Int × Int => (nmAt us p.1, nmAt us p.2)) bs') ⟨Same.new hM, [], upd_same, .nil⟩ (fun i H' _ ⟨s4, _⟩ => SqL.of (s4 _ _ e3)) ?_ ?_
      · rintro i y H4 H5 hi ⟨s4, bs', e4, bp⟩ ⟨rfl, hy⟩
        obtain ⟨p0, hp0, rfl⟩ := ref_at hy
        obtain ⟨p, hp, pat⟩ := paired_get pa3 hp0
        have pat1 := s4 _ _ pat
        obtain ⟨⟨a1, a2⟩, b1, b2⟩ := ways_in (by omega) (List.mem_of_getElem? hp)
        have bl : bs'.length ≤ 32 := by
          rw [← bp.length, List.length_map]
          refine Nat.le_trans (List.length_filter_le _ _) ?_
          rw [List.length_take]
          omega
        refine ⟨p0, [.int p.1, .int p.2], rfl, SqT.of pat1, rfl, _, _, rfl, _, _, rfl, rfl, rfl, _, rfl, _, rfl, rfl, _, rfl, ?_⟩
        have e24 := s4 _ _ (s23 _ _ ht)
        by_cases ne : p.1 = p.2
        · refine ite2 (fun z => ?_) (fun _ => ⟨s4, bs', e4, ?_⟩)
          · rw [ne, decide_eq_true rfl] at z
            cases z
          · rw [take_snoc hp, List.filter_append, List.filter_cons_of_neg (p := fun p : Int × Int => decide (p.1 ≠ p.2)) (by rw [decide_eq_true_iff]; exact fun h => h ne), List.filter_nil, List.append_nil]
            exact bp
        · refine ite2 (fun _ => ?_) (fun z => ?_)
          · refine ⟨_, rfl, _, rfl, t, _, _, _, rfl, rfl, SqT.of e24, nmAt_ix a1 a2, _, rfl, _, rfl, t, _, _, _, rfl, rfl, SqT.of e24, nmAt_ix b1 b2, by show 2 ≤ sizeLine; decide, fun b hb => ?_⟩
            have nM : b ≠ M := fun e => by rw [e, e4] at hb; cases hb
            refine ⟨_, (Same.new hb) _ _ e4, by rw [List.length_map, sizeLine_eq]; omega, fun c0 o e => ?_, bs' ++ [b], by rw [upd_same, List.map_append]; rfl, ?_⟩
            · rw [upd_ne (ne_of_none e hM), upd_ne (ne_of_none (s4 _ _ e) hb)]
              exact s4 _ _ e
            · rw [take_snoc hp, List.filter_append, List.filter_cons_of_pos (p := fun p : Int × Int => decide (p.1 ≠ p.2)) (decide_eq_true ne), List.filter_nil, List.map_append]
              refine paired_snoc (paired_mono (fun p a (e : PrAt _ p a) => ?_) bp) ?_
              · have na : a ≠ M := fun e2 => by rw [e2] at e; rw [show _ = _ from e] at e4; cases e4
                show upd _ M _ a = _
                rw [upd_ne na]
                exact (Same.new hb) _ _ e
              · show upd _ M _ b = _
                rw [upd_ne nM]
                exact upd_same
          · rw [decide_eq_false (show ¬ V.int p.1 = V.int p.2 from fun e => ne (by injection e))] at z
            exact absurd rfl z
      · rintro H4 ⟨s4, bs', e4, bp⟩
        rw [List.length_map, ← pa3.length, List.take_of_length_le (Nat.le_refl _)] at bp
        refine ⟨M, _, rfl, .inl ⟨SqL.of e4, fun r hr => ?_⟩⟩
        have s5 := Same.new (o := .tup (bs'.map V.ref)) hr
        have s25 := Same.trans s23 (Same.trans s4 s5)
        have e5 : (upd H4 r (.tup (bs'.map V.ref))) r = some (.tup (bs'.map V.ref)) := upd_same
        have bp5 := paired_mono (fun _ _ e => PrAt.same e s5) bp
        generalize upd H4 r (.tup (bs'.map V.ref)) = H5 at s5 s25 e5 bp5 ⊢
        refine mk_web2 (s25 _ _ ht) nz e5 bp5 (ring_ok nz) ?_ fun x zs H6 s6 nx asc pm W => k x zs H6 (Same.trans s25 s6) (none_up s25 nx) asc pm W
        show (ringP us ss).length ≤ 60
        unfold ringP
        rw [List.length_map]
        exact Nat.le_trans (List.length_filter_le _ _) (by omega)
end
end V0

namespace V0
open PySem PySem.Spec PyProof.Rows L2
section
variable {P : Program} {w : World} {K : PySem.W.Frag} {mg : Str → Option Value} {base : Heap} {C : Addr}
abbrev s_Web_are_tied : Stmt := inClass (top 17) 4
abbrev N_Web_are_tied : List Str := ["self", "one", "other"]
abbrev P_Web_are_tied : List Str := ["self", "one", "other"]
theorem sc_Web_are_tied : FnScope N_Web_are_tied P_Web_are_tied (defScope s_Web_are_tied) := ⟨rfl, rfl, rfl, by decide +kernel, rfl, by decide +kernel, by decide +kernel⟩
theorem ok_tied {f f1 : Addr} {fd fd1 : FuncData} (KWeb : Kls K mg "Web" C) (N : WbN K C) (O_cont : OwnM P w K mg base CX0 1 C "__contains__" (spContW C)) (D_check_thing : Df K mg "check_thing" s_check_thing P_check_thing f1 fd1) (Y : Md K "Web.are_tied" "are_tied" C s_Web_are_tied P_Web_are_tied f fd) : FnOk P w K mg base CX0 3 f fd P_Web_are_tied (spTied C) := by
  have G_check_thing : FnOk P w K mg base CX0 2 f1 fd1 P_check_thing (spCheckThing C) := ok_check_thing O_cont D_check_thing
  refine Y.F.ok sc_Web_are_tied (fun vs H Q E h => ?_) (fun cdv A outer s H vs Q E hr h => ?_)
  · obtain ⟨x, zs, tie, y, z, rfl, _⟩ := h
    rfl
  · obtain ⟨x, zs, tie, y, z, rfl, W, hy, hz, k⟩ := h
    refine ⟨_, (pss_cons (ps_expr (pe_call G_check_thing (hr.mono (by decide)) (by rfl) D_check_thing.g D_check_thing.F.kp D_check_thing.b .nil pass0 (pa_cons (pv 0) (pa_cons (pv 1) pa_nil))))
      (pss_cons (ps_expr (pe_call G_check_thing (hr.mono (by decide)) (by rfl) D_check_thing.g D_check_thing.F.kp D_check_thing.b .nil pass0 (pa_cons (pv 0) (pa_cons (pv 2) pa_nil))))
      (pss_one (ps_ret (pe_cmpR op_in_seq (pv 2) (pe_dget (hu_of hr) (pe_fld (pv 0) rfl) (pv 1) (fun _ _ => rfl)) (by rfl)))))), ?_⟩
    obtain ⟨dx, t, c, b, as, bs, W'⟩ := id W
    obtain ⟨p, h1, h2⟩ := lkv_at W'.bp hy
    refine ⟨_, rfl, _, rfl, x, zs, tie, y, rfl, W, hy, _, rfl, _, rfl, x, zs, tie, z, rfl, W, hz, _, rfl, _, rfl, x, C, dx, _, _, rfl, W'.at_, KWeb.cl, N.n3, rfl, _, rfl, b, _, rfl, .inl ⟨_, .inr y, .inl W'.bd, rfl, h1.symm⟩, p, _, rfl, .inr (SqT.of h2), rfl, flat_map (nbs zs tie y), ?_⟩
    rw [inV_str]
    unfold nbs
    rw [show decide (z ∈ zs.filter fun q => tie y q) = tie y z from by rw [Bool.eq_iff_iff, decide_eq_true_iff, List.mem_filter]; exact ⟨fun q => q.2, fun q => ⟨hz, q⟩⟩]
    exact k
end
end V0
namespace HT
open PySem PySem.Spec PyProof.Rows L2
section
variable {prog : Program} {w : World} {A : Around} {E : Value → Shared → Prop} {s : Shared}
theorem adjust_rev (n : Nat) : Builtin.Slice.sliceAdjust none none (-1) (n : Int) = ((n : Int) - 1, -1) := by
  unfold Builtin.Slice.sliceAdjust
  simp
theorem places_rev (n : Nat) : Builtin.Slice.slicePlaces ((n : Int) - 1) (-1) (-1) = n := by
  unfold Builtin.Slice.slicePlaces
  have h1 : ¬ ((-1 : Int) > 0) := by omega
  rw [if_neg h1]
  have e : (-(-1) : Int) = 1 := by omega
  rw [e, Int.ediv_one]
  split <;> omega
theorem sliceApplied_rev {sl : Addr} {n : Nat} {t : Tok} {Q : Int × Int × Nat → Shared → Prop} (hs : s.heap.IsSliceOf sl .none .none (.int (-1) t))
    (h : Q ((n : Int) - 1, -1, n) s) : wpAny (model prog w) A (Builtin.Slice.sliceApplied (.ref sl) (pure (n : Int))) Q E s := by
  obtain ⟨os, hos, hcs, hds⟩ := id hs
  unfold Builtin.Slice.sliceApplied Builtin.Slice.sliceFields
  refine wpAny_bind (wpAny_bind (wpAny_field hos hds (x := .none) rfl (wpAny_bind (wpAny_field hos hds (x := .none) rfl (wpAny_bind (wpAny_field hos hds (x := .int (-1) t) rfl (wpAny_pure ?_)))))))
  refine wpAny_bind (slicePart_int ?_)
  show wpAny _ _ (if ((-1 : Int) == 0) = true then _ else _) _ _ s
  rw [if_neg (by decide)]
  refine wpAny_bind (slicePart_none (wpAny_bind (slicePart_none (wpAny_bind (wpAny_pure ?_)))))
  show wpAny _ _ (match Builtin.Slice.sliceAdjust none none (-1) (n : Int) with | (lo, hi) => pure (lo, (-1 : Int), Builtin.Slice.slicePlaces lo hi (-1))) _ _ s
  rw [adjust_rev n]
  show wpAny _ _ (pure ((n : Int) - 1, (-1 : Int), Builtin.Slice.slicePlaces ((n : Int) - 1) (-1) (-1))) _ _ s
  rw [places_rev]
  exact wpAny_pure h
theorem fm_congr {α β : Type} {f g : α → Option β} : ∀ l : List α, (∀ x ∈ l, f x = g x) → l.filterMap f = l.filterMap g
  | [], _ => rfl
  | x :: l, h => by
    rw [List.filterMap_cons, List.filterMap_cons, h x (by simp), fm_congr l fun y hy => h y (by simp [hy])]
theorem pick_rev (xs : Array Value) : ((List.range xs.size).filterMap fun (k : Nat) => xs[(((xs.size : Nat) : Int) - 1 + (k : Int) * (-1)).toNat]?).toArray = xs.toList.reverse.toArray := by
  have e : (List.range xs.size).filterMap (fun (k : Nat) => xs[(((xs.size : Nat) : Int) - 1 + (k : Int) * (-1)).toNat]?) = (List.range xs.size).filterMap ((fun i => xs[i]?) ∘ fun k => xs.size - 1 - k) := by
    refine fm_congr _ fun k hk => ?_
    have hk := List.mem_range.mp hk
    have : (((xs.size : Nat) : Int) - 1 + (k : Int) * (-1)).toNat = xs.size - 1 - k := by omega
    rw [this]
    rfl
  rw [e, ← List.filterMap_map, PySem.W.krv_range, List.filterMap_reverse, PySem.W.krv_all]
theorem getItem_tuple_rev {t sl : Addr} {items : Array Value} {tk : Tok} {Q : Value → Shared → Prop} (ht : IsTup s.heap t items) (hs : s.heap.IsSliceOf sl .none .none (.int (-1) tk)) (h2 : 2 ≤ items.size ∨ items.size ≤ 1)
    (h : Q (.ref s.heap.objs.size) { s with heap := s.heap.push { cls := .type "tuple", data := .seq items.toList.reverse.toArray } })
    (hsz : items.size ≤ sizeLine) : wpAny (model prog w) A (getItem (.ref t) (.ref sl)) Q E s := by
  have htake : sizeOk (.seq items.toList.reverse.toArray) := by
    show items.toList.reverse.toArray.size ≤ sizeLine
    rw [List.size_toArray, List.length_reverse, Array.length_toList]
    exact hsz
  obtain ⟨os, hos, hcs, hds⟩ := id hs
  have hTs : s.TypeIs (.ref sl) "slice" := ⟨os, hos, hcs⟩
  unfold getItem
  try with_reducible refine wpAny_holding ?_
  first | refine wpAny_bind (wpAny_pure ?_) | skip
  refine wpAny_bind (wpAny_sequenceKey ht.typeIs (by decide) ?_)
  refine wpAny_bind (wpAny_callSpecial?_slot (name := Str.ofString "__getitem__") ht.typeIs PyProof.Rows.slot_tuple_getitem
    (wpAny_call_entry PyProof.Rows.slot_tuple_getitem ht.typeIs entry_tuple_getitem ?_ (args_tuple_getitem _ _)))
  show wpAny _ _ (Builtin.Tuple.tupleItemsOf (.ref t) >>= _) _ _ s
  refine wpAny_bind (tupleItemsOf_ ht ?_)
  refine wpAny_bind (wpAny_typeOf hTs ?_)
  rw [if_pos (by decide)]
  refine wpAny_bind (sliceApplied_rev hs ?_)
  have hno : ¬ (((((items.size : Nat) : Int) - 1) == 0 && (-1 : Int) == 1 && items.size == items.size) = true) := by
    intro q
    rw [Bool.and_eq_true, Bool.and_eq_true] at q
    exact absurd q.1.2 (by decide)
  show wpAny _ _ (if ((((items.size : Nat) : Int) - 1) == 0 && (-1 : Int) == 1 && items.size == items.size) = true then _ else _) _ _ s
  rw [if_neg hno, pick_rev]
  first
    | exact wpAny_bind (m := Builtin.Tuple.tupleExact _) (wpAny_newObj_type (wpAny_pure ⟨_, rfl, wpAny_pure h⟩) htake)
    | exact wpAny_bind (m := Builtin.Tuple.tupleExact _) (wpAny_newObj_type (wpAny_bind (wpAny_pure (wpAny_pure ⟨_, rfl, wpAny_pure h⟩))) htake)
    | exact wpAny_bind (wpAny_bind (m := Builtin.Tuple.tupleExact _) (wpAny_newObj_type (wpAny_pure (wpAny_pure ⟨_, rfl, wpAny_pure h⟩)) htake))
    | exact wpAny_bind (wpAny_bind (m := Builtin.Tuple.tupleExact _) (wpAny_newObj_type (wpAny_pure ⟨_, rfl, wpAny_pure h⟩) htake))
end
end HT
namespace V0
open PySem PySem.Spec PyProof.Rows L2
/-- t[::-1] of a tuple -/
def tRevT (K : PySem.W.Frag) (te tst : TE) : TE := fun σ H Q => te σ H fun x H1 => tst σ H1 fun y H2 => y = .int (-1) ∧ ∃ a xs, x = .ref a ∧ SqT K H2 a xs ∧ ∀ p, H2 p = none → Q (.ref p) (upd H2 p (.tup xs.reverse))
theorem pe_revT {X : Cx} {e st : Expr} {te tst : TE} {p2 pos : Pos} (he : PE X e te) (hst : PE X st tst) : PE X (.Subscript e (.Slice none none (some st) p2) pos) (tRevT X.K te tst) := by
  refine ⟨fun pins s σ H Q I h => ?_⟩
  refine Subscript_ (thn (he.run pins s σ H _ I h) fun v s1 ⟨x, H1, I1, r1, q1⟩ => ?_)
  refine wpAny_Slice ?_
  rw [evalPart_none]
  refine wpAny_pure ?_
  refine wpAny_pure ?_
  rw [evalPart_some]
  refine thn (hst.run pins s1 σ H1 _ I1 q1) fun vs s3 ⟨y, H3, I3, ry, ey, a, xs, ex, hq, q⟩ => ?_
  subst ey
  subst ex
  cases r1
  obtain ⟨t, rfl⟩ : ∃ t, vs = Value.int (-1) t := ry
  have I4 : L2.Inv X pins σ H3 { s3 with heap := s3.heap.push { cls := .type "slice", data := .fields #[.none, .none, .int (-1) t] } } := I3.kept (t' := s3.toks) fun b ob q => Heap.get?_push_of_some _ q
  obtain ⟨its, r, ht, hz⟩ := I4.tuple hq
  have hlen := r.length
  show wpAny (model X.prog X.w) X.A (subscriptTail e (.Slice none none (some st) p2) (.ref a) (.ref s3.heap.objs.size)) (EP X pins σ Q) X.xe { s3 with heap := s3.heap.push { cls := .type "slice", data := .fields #[.none, .none, .int (-1) t] } }
  refine tail_any (ops := [.ref a, .ref s3.heap.objs.size]) ht.typeIs PyProof.Rows.slot_tuple_getitem.lookup ?_ (by with_unfolding_all rfl)
  refine HT.getItem_tuple_rev (s := { s3 with heap := s3.heap.push { cls := .type "slice", data := .fields #[.none, .none, .int (-1) t] } }) ht (Heap.IsSliceOf.new ..) (by omega) ?_ (by rw [List.size_toArray]; omega)
  refine ⟨.ref _, _, I4.laid (t' := s3.toks) (o := .tup xs.reverse) (fun b ob q => Heap.get?_push_of_some _ q) (Nat.le_refl _) ?_, rfl, q _ (I4.hok.fresh (Nat.le_refl _))⟩
  exact ⟨by rw [List.length_reverse]; exact hz, _, r.reverse, IsTup.new _ _⟩
end V0
namespace PySem.SeqAt
open AutoSeq1 (wpAny_loadPart')
open MeetsSeq MeetsSeq2 MeetsSeq3 SeqRoads2
section
variable {A : Around} {s : Shared}
/-- the call of tuple's own __lt__, as sorting makes it -/
theorem call_tuple_ltV {prog : Program} {w : World} {E : Value → Shared → Prop} {Q : Value → Shared → Prop} {l b : Addr} {items items2 : Array Value} {e r : Nat → Bool} (hl : s.heap.IsTuple l items) (hb : s.heap.IsTuple b items2)
    (he : ∀ j (h1 : j < items.size) (h2 : j < items2.size), EqAt A.in1 s items[j] items2[j] (e j)) (hr : ∀ j (h1 : j < items.size) (h2 : j < items2.size), e j = false → RcLt A.in1 s items[j] items2[j] (r j))
    (h : Q (.bool (firstLt e r (decide (items.size < items2.size)) (List.range (min items.size items2.size)))) s) : wpAny (model prog w) A (call (.builtin "tuple.__lt__") [.ref l, .ref b]) Q E s := by
  obtain ⟨⟨cls, dd, data, sl⟩, ho, hc, n, hd⟩ := id hl
  obtain ⟨⟨cls2, dd2, data2, sl2⟩, ho2, hc2, n2, hd2⟩ := id hb
  simp only at hc hd hc2 hd2
  subst hc hd hc2 hd2
  exact call_meets F.slot_tuple_lt ⟨_, ho, rfl⟩ F.entry_tuple_lt (F.args_tuple_lt_2 _ _) (tuple_ltAt l b items items2 n n2 dd dd2 sl sl2 e r) ⟨ho, ho2, he, hr, h⟩
end
end PySem.SeqAt
namespace PySem.W
open PySem PySem.Calls PyProof.Rows PySem.SeqAt
section
variable {prog : Program} {w : World} {A : Around} {E : Value → Shared → Prop} {s : Shared}
theorem oneLt_tup {xs ys : List PyData} {a b : Value} {as bs : List Addr} {Q : Bool → Shared → Prop} (ra : Reads s.heap a (.tuple xs) as) (rb : Reads s.heap b (.tuple ys) bs) (hal : alikeAll xs ys = true)
    (hu : A.units + min (PyData.tuple xs).depth (PyData.tuple ys).depth < cLine) (hq : Q (dataLt (.tuple xs) (.tuple ys)) s) : wpAny (model prog w) A (oneLt' true a b) Q E s := by
  cases ra with
  | @tuple l o vs n _ as₁ h1 h2 h3 h4 =>
    cases rb with
    | @tuple l' o' vs' n' _ bs₁ k1 k2 k3 k4 =>
      have n1 : vs.size = xs.length := by simpa using ReadsAll.length _ _ _ h4
      have n2 : vs'.size = ys.length := by simpa using ReadsAll.length _ _ _ k4
      rw [dataLt_tuple, ← firstLt_toks xs ys hal, ← n1, ← n2] at hq
      rw [oneLt'_eq]
      simp only [if_true]
      refine wpAny_bind (wpAny_cRoomFor (room_here hu) ?_)
      refine wpAny_bind (wpAny_callSpecialIfBound?_slot (T := "tuple") ⟨_, h1, h2⟩ F.slot_tuple_lt (call_tuple_ltV (e := pairEq xs ys) (r := fun j => dataLt (xs.getD j .none) (ys.getD j .none)) ⟨_, h1, h2, _, h3⟩ ⟨_, k1, k2, _, k3⟩ (fun j j1 j2 => ?_) (fun j j1 j2 hj => ?_) ?_))
      · have := eqAt_alikeAll xs ys A.in1 s vs.toList vs'.toList _ _ h4 k4 hal (room_in hu) j (by simpa using j1) (by simpa using j2)
        simpa using this
      · have := rcLt_alikeAll xs ys A.in1 s vs.toList vs'.toList _ _ h4 k4 hal (room_in hu) j (by simpa using j1) (by simpa using j2) hj
        simpa using this
      · exact wpAny_truthy_bool hq
end
section
variable {M : Model} {A : Around} {E : Value → Shared → Prop} {s : Shared}
/-- a tuple of the heap with the first item f, if any -/
def FirstIs (h : Heap) (v : Value) (f : Option Value) : Prop := ∃ a o xs n, v = .ref a ∧ h.get? a = some o ∧ o.cls = .type "tuple" ∧ o.data = .seq xs n ∧ xs[0]? = f
theorem te_firsts : ∀ (vs : List Value) (fs : List (Option Value)) {Q : List (Option Value) → Shared → Prop}, EachIs (FirstIs s.heap) vs fs → Q fs s → wpAny M A (vs.mapM firstOfTuple') Q E s
  | _, _, _, .nil, h => by rw [List.mapM_nil]; exact wpAny_pure h
  | _, _, Q, @EachIs.cons _ _ _ v f vs fs ⟨a, o, xs, n, e, ho, hc, hd, hf⟩ t, h => by
    subst e
    rw [List.mapM_cons]
    refine wpAny_bind ?_
    rw [kas_first_eq]
    refine wpAny_bind (Looks.here (show Looks M s.heap (typeOf (.ref a)) o.cls from (Looks.ld ho).andThen .now) ?_)
    rw [hc, if_neg (by first | decide | simp)]
    refine wpAny_bind (listItems_at ho hd (wpAny_pure ?_))
    rw [hf]
    exact wpAny_bind (te_firsts vs fs (Q := fun bs s' => wpAny M A (pure (f :: bs)) Q E s') t (wpAny_pure h))
theorem te_kind {v : Value} {vs : List Value} {fs : List (Option Value)} {Q : SortKind → Shared → Prop} (t : EachIs (FirstIs s.heap) (v :: vs) (none :: fs)) (h : Q oneType' s) : wpAny M A (keyKind' (v :: vs).toArray) Q E s := by
  rw [kat_kind_eq, List.mapM_toArray, map_eq_pure_bind]
  refine wpAny_bind (wpAny_bind (te_firsts _ _ t (wpAny_pure ?_)))
  rw [if_neg (by simp), if_neg (by simp)]
  rw [oneTypeOnly'_eq, List.mapM_toArray, map_eq_pure_bind]
  have all : ∀ u ∈ v :: vs, Looks M s.heap (typeOf u) (.type "tuple") := fun u hu => by
    obtain ⟨f, _, a, o, xs, n, rfl, ho, hc, _⟩ := t.left u hu
    have q : Looks M s.heap (typeOf (.ref a)) o.cls := (Looks.ld ho).andThen .now
    rw [hc] at q
    exact q
  refine wpAny_bind (wpAny_bind (wpAny_bind (kas_mapM (r := Value.type "tuple") _ (fun u hu Q' hq => (all u hu).here hq) (wpAny_pure ?_))))
  have hall : ((List.map (fun _ => Value.type "tuple") (v :: vs)).toArray.all fun x => x == Value.type "tuple") = true := by
    simp only [List.all_toArray, List.all_map, List.all_eq_true]
    intro _ _
    show (Value.type "tuple" == Value.type "tuple") = true
    decide
  have h0 : (List.map (fun _ => Value.type "tuple") (v :: vs)).toArray[0]? = some (Value.type "tuple") := by simp
  rw [h0]
  simp only [hall, if_true]
  exact wpAny_pure (wpAny_pure h)
end
section
variable {prog : Program} {w : World} {A : Around} {E : Value → Shared → Prop} {s : Shared}
theorem firsts_reads {h : Heap} : ∀ {vs : List Value} {ds : List PyData}, EachIs (fun v d => ∃ as, Reads h v d as) vs ds → (∀ d, d ∈ ds → ∃ xs, d = .tuple xs) → ∃ fs : List (Option Value), EachIs (fun v f => FirstIs h v f) vs fs ∧ ∀ v r d, vs = v :: r → ds.head? = some d → d = .tuple [] → ∃ r', fs = none :: r'
  | _, _, .nil, _ => ⟨[], .nil, fun v r d e => by cases e⟩
  | _, _, @EachIs.cons _ _ _ v d vs ds ⟨as, r⟩ t, ht => by
    obtain ⟨fs, h1, _⟩ := firsts_reads t fun d hd => ht d (List.mem_cons_of_mem _ hd)
    obtain ⟨xs, rfl⟩ := ht d (List.mem_cons_self ..)
    cases r with
    | @tuple l o its n _ _ k1 k2 k3 k4 =>
      refine ⟨its[0]? :: fs, .cons ⟨l, o, its, n, rfl, k1, k2, k3, rfl⟩ h1, fun v' r' d' _ hd e => ?_⟩
      have hd : some (PyData.tuple xs) = some d' := hd
      injection hd with hd
      rw [← hd] at e
      injection e with e
      subst e
      have n1 : its.size = ([] : List PyData).length := by simpa using ReadsAll.length _ _ _ k4
      have z : its[0]? = none := by
        rw [Array.getElem?_eq_none]
        rw [n1]
        exact Nat.le_refl _
      rw [z]
      exact ⟨_, rfl⟩
/-- tuples that read as alike data, the first one empty, can be sorted -/
theorem SortsAt.tupE {vs : List Value} {ds : List PyData} (e : EachIs (fun v d => ∃ as, Reads s.heap v d as) vs ds) (hal : AllAlike ds) (ht : ∀ d, d ∈ ds → ∃ xs, d = .tuple xs) (h0 : ds.head? = some (.tuple [])) (hu : ∀ d, d ∈ ds → A.units + d.depth < cLine) : SortsAt prog w A s (dataKind s.heap ds) vs := by
  have room : ∀ {d d' : PyData}, d ∈ ds → A.units + min d.depth d'.depth < cLine := fun {d d'} hd => Nat.lt_of_le_of_lt (Nat.add_le_add_left (Nat.min_le_left _ _) _) (hu d hd)
  refine ⟨fun v hv => ?_, oneType', fun E x y a b Q ha hb hq => ?_, fun h2 E Q hq => ?_⟩
  · obtain ⟨d, hd, as, r⟩ := e.left v hv
    exact ⟨_, dataKind_some hal hd r⟩
  · obtain ⟨d, as, hd, ra, rfl⟩ := dataKind_inv ha
    obtain ⟨d', as', hd', rb, rfl⟩ := dataKind_inv hb
    have hdd := hal d hd d' hd'
    have hroom := room (d' := d') hd
    obtain ⟨xs, rfl⟩ := ht d hd
    obtain ⟨ys, rfl⟩ := ht d' hd'
    rw [keyLt'_oneType]
    exact oneLt_tup ra rb (by simpa [alike] using hdd) hroom hq
  · obtain ⟨fs, h1, h3⟩ := firsts_reads e ht
    cases vs with
    | nil => exact absurd h2 (by simp)
    | cons v r =>
      obtain ⟨r', rfl⟩ := h3 v r _ rfl h0 rfl
      exact te_kind h1 hq
variable {β : Type} {enc : β → PyData} {R : Value → β → Prop} {vs : List Value} {bs : List β}
/-- sorted(xs), the first of xs the empty tuple -/
theorem sorted_tupE {l : Addr} {Q : Value → Shared → Prop} (hl : s.heap.IsList l vs.toArray) (e : EachIs R vs bs) (er : EachIs (fun v b => ∃ as, Reads s.heap v (enc b) as) vs bs) (hal : AllAlike (bs.map enc)) (ht : ∀ b, ∃ xs, enc b = .tuple xs) (h0 : (bs.map enc).head? = some (.tuple [])) (hL : bs.length ≤ sizeLine)
    (hu : ∀ b, b ∈ bs → A.units + 2 + (enc b).depth < cLine) (h : ∀ out, out.length = bs.length → EachIs R out (bs.mergeSort (dataLe false enc)) → Q (.ref (s.heap.objs.size + 1)) { s with heap := sortedAll s.heap vs (List.toArray out) }) :
    wpAny (model prog w) A (call (.builtin "sorted") [.ref l]) Q E s := by
  have er' : EachIs (fun v b => ∃ as, Reads (sortingHeap (copyHeap s.heap vs) (s.heap.objs.size + 1) vs) v (enc b) as) vs bs := er.mono fun _ _ ⟨as, r⟩ => ⟨as, PyProof.Rows.Reads.keeps (fun _ _ => sorting_copy_old) r⟩
  exact sorted_vals hl (SortsAt.tupE (s := { s with heap := sortingHeap (copyHeap s.heap vs) (s.heap.objs.size + 1) vs }) (each_map (R := fun v d => ∃ as, Reads (sortingHeap (copyHeap s.heap vs) (s.heap.objs.size + 1) vs) v d as) enc er') hal (fun d hd => by
      obtain ⟨b, _, rfl⟩ := List.mem_map.mp hd
      exact ht b) h0 (bound_map hu)) (by rw [e.length]; exact hL)
    (h _ (by rw [sortVals_length false rfl]; exact e.length) (sortVals_data false e er' hal))
end
end PySem.W
namespace V0
open PySem PySem.Spec PyProof.Rows L2
/-- tuple(z), z a text: its signs -/
def signsV (z : Str) : List V := z.cps.toList.map fun c => V.str ⟨#[c]⟩
theorem signs_vals {z : Str} {acc : Array Value} (h : ItemsOf (SignAt z) acc z.cps.size) : Vals (signsV z) acc.toList := by
  obtain ⟨hs, hi⟩ := h
  have go : ∀ (l : List Nat) (vs : List Value), l.length = vs.length → (∀ j v, vs[j]? = some v → ∃ c u, l[j]? = some c ∧ v = Value.str ⟨#[c]⟩ u) → Vals (l.map fun c => V.str ⟨#[c]⟩) vs := fun l => by
    induction l with
    | nil =>
      intro vs hl _
      cases vs with
      | nil => exact .nil
      | cons _ _ => cases hl
    | cons c l ih =>
      intro vs hl hv
      cases vs with
      | nil => cases hl
      | cons v vs =>
        obtain ⟨c', u, e1, e2⟩ := hv 0 v rfl
        have e1 : some c = some c' := e1
        injection e1 with e1
        subst e1
        exact .cons ⟨u, e2⟩ (ih vs (Nat.succ.inj hl) fun j v hj => hv (j + 1) v hj)
  refine go _ _ (by simp [hs]) fun j v hj => ?_
  obtain ⟨c, u, e1, e2⟩ := hi j v (by rw [← hj]; simp)
  exact ⟨c, u, by rw [← e1]; simp, e2⟩
def rTupStr : List V → Hp → VK → Prop := fun xs H Q => ∃ z : Str, xs = [V.str z] ∧ z.length ≤ 1000 ∧ ∀ q, H q = none → Q (.ref q) (upd H q (.tup (signsV z)))
theorem cr_tupStr {X : Cx} (hc : X.calm = true) : CallR X (.type "tuple") rTupStr := by
  intro pins s σ H xs us Q I r h
  obtain ⟨z, rfl, hl, q⟩ := h
  obtain ⟨u, rfl, rx⟩ := vals1 r
  obtain ⟨t, rfl⟩ := (show ∃ t, u = Value.str z t from rx)
  have zl : z.cps.size ≤ sizeLine := by
    have : z.cps.size ≤ 1000 := hl
    rw [sizeLine_eq]
    omega
  refine call_tuple_str (I.ok.hd hc) z t (fun h' tk acc hk got => ?_) zl
  have sv := signs_vals got
  have lz : (signsV z).length ≤ sizeLine := by
    unfold signsV
    rw [List.length_map, Array.length_toList]
    exact zl
  have I1 : Inv X pins σ H { s with heap := h', toks := tk } := I.kept hk
  have I2 : Inv X pins σ (upd H h'.objs.size (.tup (signsV z))) { s with heap := h'.push { cls := .type "tuple", data := .seq acc }, toks := tk } :=
    I1.laid (t' := tk) (fun b o e => Heap.get?_push_of_some _ e) (Nat.le_refl _) (show ObjOk X.prog X.w _ _ _ (.tup (signsV z)) from ⟨lz, acc.toList, sv, by
      have := IsTup.new h' acc
      simpa using this⟩)
  exact ⟨.ref h'.objs.size, _, I2, rfl, q _ (I1.hok.fresh (Nat.le_refl _))⟩
end V0
namespace PySem
open Sem (wp)
/-! ### min and max of two texts -/
section
variable {prog : Program} {w : World} {A : Around} {E : Value → Shared → Prop} {s : Shared}
theorem two_at {a b v : Value} {i : Nat} (h : (#[a, b] : Array Value)[i]? = some v) : (i = 0 ∧ v = a) ∨ (i = 1 ∧ v = b) := by
  match i, h with
  | 0, h => exact .inl ⟨rfl, by simpa using h.symm⟩
  | 1, h => exact .inr ⟨rfl, by simpa using h.symm⟩
  | n + 2, h => simp at h
theorem cmp2_lt {x y : Str} {t u : Tok} : CmpOf prog w A .Lt (fun i v => (#[.str x t, .str y u] : Array Value)[i]? = some v) (fun i j => decide ((if i = 0 then x else y).cps.toList < (if j = 0 then x else y).cps.toList)) := fun i j vi vj s Q E hi hj h => by
  rcases two_at hi with ⟨rfl, rfl⟩ | ⟨rfl, rfl⟩ <;> rcases two_at hj with ⟨rfl, rfl⟩ | ⟨rfl, rfl⟩ <;> exact P.lt_str (by simpa using h)
theorem cmp2_gt {x y : Str} {t u : Tok} : CmpOf prog w A .Gt (fun i v => (#[.str x t, .str y u] : Array Value)[i]? = some v) (fun i j => decide ((if j = 0 then x else y).cps.toList < (if i = 0 then x else y).cps.toList)) := fun i j vi vj s Q E hi hj h => by
  rcases two_at hi with ⟨rfl, rfl⟩ | ⟨rfl, rfl⟩ <;> rcases two_at hj with ⟨rfl, rfl⟩ | ⟨rfl, rfl⟩ <;> exact P.gt_str (by simpa using h)

theorem min_two_str {x y : Str} {t u : Tok} {Q : Value → Shared → Prop} (hh : A.handled = none)
    (h : ∀ h' tk, (∀ c o, s.heap.get? c = some o → h'.get? c = some o) → Q (if y.cps.toList < x.cps.toList then .str y u else .str x t) { s with heap := h', toks := tk }) :
    wpAny (model prog w) A (call (.builtin "min") [.str x t, .str y u]) Q E s := by
  have hT : (s.heap.push { cls := .type "tuple", data := .seq #[.str x t, .str y u] }).IsTuple s.heap.objs.size #[.str x t, .str y u] := ⟨_, Heap.get?_push_size _ rfl, rfl, 0, rfl⟩
  refine call_min_two (wpAny_pyIter_tuple hT ?_)
  have hsz : (s.heap.push { cls := .type "tuple", data := .seq #[.str x t, .str y u] }).objs.size = s.heap.objs.size + 1 := Heap.size_push ..
  refine ⟨_, [_, s.heap.objs.size], [_], _, _, _, _, rfl, Walks.tuple (A := A.in1) hh _ s.heap.objs.size (by rw [hsz]; exact Nat.ne_of_lt (Nat.lt_succ_self _)) #[.str x t, .str y u],
    ⟨⟨_, Heap.get?_push_size _ rfl, rfl, rfl⟩, hT.push _⟩, fun c hc => ?_, by simp, cmp2_lt, fun v h' tk hP hk => ?_⟩
  · show c < ((s.heap.push _).push _).objs.size
    rw [Heap.size_push, hsz]
    rcases List.mem_cons.mp hc with rfl | hc
    · rw [hsz]; exact Nat.lt_succ_self _
    · rcases List.mem_cons.mp hc with rfl | hc
      · exact Nat.lt_succ_of_lt (Nat.lt_succ_self _)
      · cases hc
  · have hold : ∀ c o, s.heap.get? c = some o → h'.get? c = some o := fun c o e => by
      refine hk c o (fun hm => ?_) (Heap.get?_push_of_some _ (Heap.get?_push_of_some _ e))
      rcases List.mem_cons.mp hm with e1 | hm
      · have := Heap.lt_size e; rw [e1, hsz] at this; exact Nat.lt_irrefl _ (Nat.lt_of_succ_lt this)
      · cases hm
    have := h h' tk hold
    have hv : (if y.cps.toList < x.cps.toList then Value.str y u else Value.str x t) = v := by
      by_cases l : y.cps.toList < x.cps.toList
      · have l2 : y.cps < x.cps := by simpa using l
        simp [argBest, l2] at hP
        rw [if_pos l]
        exact hP
      · have l2 : ¬ y.cps < x.cps := by simpa using l
        simp only [List.size_toArray, List.length_cons, List.length_nil, argBest] at hP
        simp [l2] at hP
        rw [if_neg l]
        exact hP
    rw [hv] at this
    exact this
theorem max_two_str {x y : Str} {t u : Tok} {Q : Value → Shared → Prop} (hh : A.handled = none)
    (h : ∀ h' tk, (∀ c o, s.heap.get? c = some o → h'.get? c = some o) → Q (if x.cps.toList < y.cps.toList then .str y u else .str x t) { s with heap := h', toks := tk }) :
    wpAny (model prog w) A (call (.builtin "max") [.str x t, .str y u]) Q E s := by
  have hT : (s.heap.push { cls := .type "tuple", data := .seq #[.str x t, .str y u] }).IsTuple s.heap.objs.size #[.str x t, .str y u] := ⟨_, Heap.get?_push_size _ rfl, rfl, 0, rfl⟩
  refine call_max_two (wpAny_pyIter_tuple hT ?_)
  have hsz : (s.heap.push { cls := .type "tuple", data := .seq #[.str x t, .str y u] }).objs.size = s.heap.objs.size + 1 := Heap.size_push ..
  refine ⟨_, [_, s.heap.objs.size], [_], _, _, _, _, rfl, Walks.tuple (A := A.in1) hh _ s.heap.objs.size (by rw [hsz]; exact Nat.ne_of_lt (Nat.lt_succ_self _)) #[.str x t, .str y u],
    ⟨⟨_, Heap.get?_push_size _ rfl, rfl, rfl⟩, hT.push _⟩, fun c hc => ?_, by simp, cmp2_gt, fun v h' tk hP hk => ?_⟩
  · show c < ((s.heap.push _).push _).objs.size
    rw [Heap.size_push, hsz]
    rcases List.mem_cons.mp hc with rfl | hc
    · rw [hsz]; exact Nat.lt_succ_self _
    · rcases List.mem_cons.mp hc with rfl | hc
      · exact Nat.lt_succ_of_lt (Nat.lt_succ_self _)
      · cases hc
  · have hold : ∀ c o, s.heap.get? c = some o → h'.get? c = some o := fun c o e => by
      refine hk c o (fun hm => ?_) (Heap.get?_push_of_some _ (Heap.get?_push_of_some _ e))
      rcases List.mem_cons.mp hm with e1 | hm
      · have := Heap.lt_size e; rw [e1, hsz] at this; exact Nat.lt_irrefl _ (Nat.lt_of_succ_lt this)
      · cases hm
    have := h h' tk hold
    have hv : (if x.cps.toList < y.cps.toList then Value.str y u else Value.str x t) = v := by
      by_cases l : x.cps.toList < y.cps.toList
      · have l2 : x.cps < y.cps := by simpa using l
        simp [argBest, l2] at hP
        rw [if_pos l]
        exact hP
      · have l2 : ¬ x.cps < y.cps := by simpa using l
        simp only [List.size_toArray, List.length_cons, List.length_nil, argBest] at hP
        simp [l2] at hP
        rw [if_neg l]
        exact hP
    rw [hv] at this
    exact this
end
end PySem
namespace V0
open PySem PySem.Spec PyProof.Rows L2
section
variable {X : Cx}
def rMin2 : List V → Hp → VK → Prop := fun vs H Q => ∃ (a b : Str), vs = [.str a, .str b] ∧ Q (.str (loS a b)) H
def rMax2 : List V → Hp → VK → Prop := fun vs H Q => ∃ (a b : Str), vs = [.str a, .str b] ∧ Q (.str (hiS a b)) H
theorem cr_min2S (hc : X.calm = true) : CallR X (.builtin "min") rMin2 := by
  intro pins s σ H xs us Q I r h
  obtain ⟨i, j, rfl, q⟩ := h
  obtain ⟨u, w', rfl, ⟨t, rfl⟩, ⟨t', rfl⟩⟩ := vals2 r
  refine min_two_str (I.ok.hd hc) fun h' tk k => ⟨_, H, I.kept k, ?_, q⟩
  unfold loS
  by_cases hj : j.cps.toList < i.cps.toList
  · rw [if_pos hj, if_pos hj]; exact ⟨_, rfl⟩
  · rw [if_neg hj, if_neg hj]; exact ⟨_, rfl⟩
theorem cr_max2S (hc : X.calm = true) : CallR X (.builtin "max") rMax2 := by
  intro pins s σ H xs us Q I r h
  obtain ⟨i, j, rfl, q⟩ := h
  obtain ⟨u, w', rfl, ⟨t, rfl⟩, ⟨t', rfl⟩⟩ := vals2 r
  refine max_two_str (I.ok.hd hc) fun h' tk k => ⟨_, H, I.kept k, ?_, q⟩
  unfold hiS
  by_cases hj : i.cps.toList < j.cps.toList
  · rw [if_pos hj, if_pos hj]; exact ⟨_, rfl⟩
  · rw [if_neg hj, if_neg hj]; exact ⟨_, rfl⟩
end
end V0
namespace V0
open PySem PySem.Spec PyProof.Rows L2
/-! ### sets of any kind of key whose table can be walked -/
section
variable {P : Program} {w : World} {κ : Type} [DecidableEq κ] {kd : PySem.KeyKind P w κ}
/-- one row: the key it stands for -/
structure RowG (kd : PySem.KeyKind P w κ) (e : Int × Value) (k : κ) : Prop where
  is : kd.is k e.2 = true
  hs : e.1 = kd.hash k
  sc : e.2.scannable = true
theorem rows_elems : ∀ {es : List (Int × Value)} {ks : List κ}, Paired (RowG kd) es ks → ElemsOf kd es
  | _, _, .nil => fun e he => by cases he
  | _, _, .cons r q => fun e he => by
    rcases List.mem_cons.mp he with z | z
    · rw [z]; exact ⟨⟨_, r.is, r.hs⟩, r.sc⟩
    · exact rows_elems q e z
theorem rows_mem {k : κ} : ∀ {es : List (Int × Value)} {ks : List κ}, Paired (RowG kd) es ks → ((∃ e ∈ es, kd.is k e.2 = true) ↔ k ∈ ks)
  | _, _, .nil => ⟨fun ⟨e, he, _⟩ => (by cases he), fun h => (by cases h)⟩
  | _, _, .cons r q => by
    have ih := rows_mem (k := k) q
    constructor
    · rintro ⟨e, he, z⟩
      rcases List.mem_cons.mp he with y | y
      · rw [y] at z
        rw [kd.inj _ _ _ z r.is]
        exact List.mem_cons_self
      · exact List.mem_cons_of_mem _ (ih.mp ⟨e, y, z⟩)
    · intro h
      rcases List.mem_cons.mp h with y | y
      · exact ⟨_, List.mem_cons_self, by rw [y]; exact r.is⟩
      · obtain ⟨e, he, z⟩ := ih.mpr y
        exact ⟨e, List.mem_cons_of_mem _ he, z⟩
theorem rows_perm {es fs : List (Int × Value)} {ks : List κ} (q : Paired (RowG kd) es ks) (pm : fs.Perm es) : ∃ js : List κ, Paired (RowG kd) fs js ∧ js.Perm ks := by
  induction pm generalizing ks with
  | nil => exact ⟨ks, q, List.Perm.refl _⟩
  | cons b _ ih =>
    cases q with
    | cons e q =>
      obtain ⟨js, r1, r2⟩ := ih q
      exact ⟨_ :: js, .cons e r1, r2.cons _⟩
  | swap a b l =>
    cases q with
    | cons e q =>
      cases q with
      | cons e2 q2 => exact ⟨_ :: _ :: _, .cons e2 (.cons e q2), List.Perm.swap _ _ _⟩
  | trans _ _ ih1 ih2 =>
    obtain ⟨js, r1, r2⟩ := ih2 q
    obtain ⟨is, t1, t2⟩ := ih1 r1
    exact ⟨is, t1, t2.trans r2⟩
/-- the set at a has the keys ks, each once -/
structure TabG (w : World) (n : Nat) (t : SetTable) : Prop where
  ft : t.fits n = true
  rs : Ris t.place.toList
  ld : w.params.followText "set-order" = true ∨ t.led = true
structure SetG (kd : PySem.KeyKind P w κ) (h : Heap) (a : Addr) (ks : List κ) : Prop where
  ob : ∃ o es ep t, h.get? a = some o ∧ o.ExactSet ∧ o.data = .set es ep t ∧ Paired (RowG kd) es.toList ks ∧ TabG w es.size t
  nd : ks.Nodup
  few : ks.length < scanBound
theorem SetG.keep {h h' : Heap} {a : Addr} {ks : List κ} (R : SetG kd h a ks) (k : ∀ o, h.get? a = some o → h'.get? a = some o) : SetG kd h' a ks := by
  obtain ⟨⟨o, es, ep, t, ho, r⟩, r2, r3⟩ := R
  exact ⟨⟨o, es, ep, t, k o ho, r⟩, r2, r3⟩
variable {A : Around} {E : Value → Shared → Prop} {s : Shared} {a : Addr} {ks : List κ}
/-- the new row stored, the table laid anew where it is too full -/
theorem g_store {G : Bool → Sem Unit} (hG : ∀ (b : Bool) (s₁ : Shared) (Q' : Unit → Shared → Prop), Q' () s₁ → wpAny (model P w) A (G b) Q' E s₁) {o : Obj} {es fs : Array (Int × Value)} {ep : Nat} {t u : SetTable} {js : List κ} {b : Bool} {R : Option Bool → Shared → Prop}
    (ho : s.heap.get? a = some o) (hex : o.ExactSet) (hd : o.data = .set es ep t) (rows : Paired (RowG kd) fs.toList js) (nd : js.Nodup) (few : js.length < scanBound) (T : TabG w fs.size u)
    (hR : ∀ h' ks', Heap.SameBut a s.heap h' → SetG kd h' a ks' → ks'.Perm js → R (some true) { s with heap := h' }) :
    wpAny (model P w) A (do
      storeSet a fs u
      if (!b && u.tooFull) = true then do
        G (relayAll u fs (SetTable.grown fs.size)).2.2
        storeSet a (relayAll u fs (SetTable.grown fs.size)).1 (relayAll u fs (SetTable.grown fs.size)).2.1
        pure (some true)
      else pure (some true)) R E s := by
  have size : fs.size = js.length := by rw [← Array.length_toList]; exact rows.length
  have lines := fits_of_scanBound (by rw [size]; exact few : fs.size < scanBound)
  refine wpAny_bind (wpAny_storeSet_of ho hd ?_ lines)
  have at1 := L2.store_at (es' := fs) (t' := u) ho hd
  have sb := Heap.SameBut.update s.heap a (Obj.putSet fs u)
  by_cases full : (!b && u.tooFull) = true
  · refine wp_if_pos full ?_
    have pm := relayAll_perm u fs (SetTable.grown fs.size)
    have T2 : TabG w fs.size (relayAll u fs (SetTable.grown fs.size)).2.1 := ⟨by
      have := relayAll_fits u fs (SetTable.grown fs.size)
      rwa [show (relayAll u fs (SetTable.grown fs.size)).1.size = fs.size from by rw [← Array.length_toList, pm.length_eq, Array.length_toList]] at this, relayAll_ris .., T.ld.imp id fun z => (relayAll_led ..).trans z⟩
    generalize relayAll u fs (SetTable.grown fs.size) = r at pm T2 ⊢
    obtain ⟨gs, v, c⟩ := r
    obtain ⟨is, r1, r2⟩ := rows_perm rows pm
    have size2 : gs.size = fs.size := by rw [← Array.length_toList, pm.length_eq, Array.length_toList]
    refine wpAny_bind (hG _ _ _ (wpAny_bind (wpAny_storeSet_of at1 rfl (wpAny_pure (hR _ is (sb.trans (Heap.SameBut.update ..)) ⟨⟨_, gs, _, v, L2.store_at at1 rfl, hex, rfl, r1, by rw [size2]; exact T2⟩, r2.nodup_iff.mpr nd, by rw [r2.length_eq]; exact few⟩ r2)) (by rw [size2]; exact lines))))
  · exact wp_if_neg full (wpAny_pure (hR _ js sb ⟨⟨_, fs, _, u, at1, hex, rfl, rows, T⟩, nd, few⟩ (List.Perm.refl _)))
/-- a key more, found by scanning -/
theorem g_add {k : κ} {v : Value} (hv : kd.is k v = true) (sc : v.scannable = true) (R : SetG kd s.heap a ks) (room : ks.length + 1 < scanBound) {Q : Bool → Shared → Prop}
    (hQ : ∀ b h' ks', Heap.SameBut a s.heap h' → SetG kd h' a ks' → (k ∈ ks → ks'.Perm ks) → (k ∉ ks → ks'.Perm (k :: ks)) → Q b { s with heap := h' }) : wpAny (model P w) A (setAddHashed a v (kd.hash k)) Q E s := by
  obtain ⟨o, es, ep, t, ho, hex, hd, rows, T⟩ := R.ob
  have size : es.size = ks.length := by rw [← Array.length_toList]; exact rows.length
  have el := rows_elems rows
  have few : es.size < scanBound := by rw [size]; exact R.few
  unfold setAddHashed setAddHashedIn
  refine wpAny_holding (wpAny_bind (wpAny_setState_of ho hd T.ft ?_))
  dsimp only
  rw [byScan_of sc few el]
  refine wp_if_pos rfl ?_
  unfold setAddByScan
  refine wpAny_bind (wpAny_bind (wpAny_rule (wpAny_bind (wpAny_setScan_of hv ho hd T.ft el ?_))))
  have seen := rows_mem (k := k) rows
  cases hf : List.findIdx? (fun e => kd.is k e.2) es.toList with
  | some j =>
    obtain ⟨hj, pj, _⟩ := List.findIdx?_eq_some_iff_getElem.mp hf
    have hm : k ∈ ks := seen.mp ⟨_, List.getElem_mem hj, pj⟩
    exact wpAny_pure (wpAny_pure (hQ _ s.heap ks (Heap.SameBut.refl a s.heap) R (fun _ => List.Perm.refl _) fun z => absurd hm z))
  | none =>
    have hn : k ∉ ks := fun z => by
      obtain ⟨e, he, q⟩ := seen.mpr z
      rw [List.findIdx?_eq_none_iff.mp hf e he] at q
      cases q
    dsimp only
    have pm := layNew_perm t es (kd.hash k) v
    have T1 : TabG w (layNew t es (kd.hash k) v).1.size (layNew t es (kd.hash k) v).2.1 := ⟨layNew_fits .., layNew_ris _ _ _ _ T.rs, T.ld.imp id fun z => (layNew_led ..).trans z⟩
    generalize layNew t es (kd.hash k) v = r at pm T1 ⊢
    obtain ⟨fs, u, b, c⟩ := r
    dsimp only at pm T1 ⊢
    rw [Array.toList_push] at pm
    obtain ⟨js, r1, r2⟩ := rows_perm (Paired.cons (⟨hv, rfl, sc⟩ : RowG kd (kd.hash k, v) k) rows) (pm.trans (List.perm_append_singleton _ _))
    have nd1 : js.Nodup := r2.nodup_iff.mpr (List.nodup_cons.mpr ⟨hn, R.nd⟩)
    have few1 : js.length < scanBound := by rw [r2.length_eq]; exact room
    have fin : ∀ h' ks', Heap.SameBut a s.heap h' → SetG kd h' a ks' → ks'.Perm js → Q true { s with heap := h' } := fun h' ks' sb g p => hQ true h' ks' sb g (fun z => absurd z hn) fun _ => p.trans r2
    have give : ∀ (c : Bool) (s₁ : Shared) (Q' : Unit → Shared → Prop), Q' () s₁ → wpAny (model P w) A (match c with | true => rule "set.scan.the-table-gave-way" | false => pure ()) Q' E s₁ := fun c s₁ Q' q => by cases c <;> first | exact wpAny_pure q | exact wpAny_rule q
    refine wpAny_bind (give c _ _ ?_)
    by_cases hp : u.plain = true
    · refine wp_if_pos hp (wpAny_bind ?_)
      rw [hashByValue_scannable 8 sc]
      refine wpAny_pure ?_
      refine g_store ?_ ho hex hd r1 nd1 few1 ?_ ?_
      · intro c s₁ Q' q; cases c <;> first | exact wpAny_pure q | exact wpAny_rule q
      · split <;> first | exact T1 | exact ⟨SetTable.fits_plain_off T1.ft, T1.rs, T1.ld⟩
      · intro h' ks' sb g p
        dsimp only
        exact wpAny_pure (fin h' ks' sb g p)
    · refine wp_if_neg hp (wpAny_bind (wpAny_pure ?_))
      simp only [↓reduceIte]
      refine g_store ?_ ho hex hd r1 nd1 few1 T1 ?_
      · intro c s₁ Q' q; cases c <;> first | exact wpAny_pure q | exact wpAny_rule q
      · intro h' ks' sb g p
        dsimp only
        exact wpAny_pure (fin h' ks' sb g p)
end
end V0
namespace V0
open PySem PySem.Spec PyProof.Rows L2
section
variable {P : Program} {w : World} {A : Around} {E : Value → Shared → Prop} {s : Shared}
theorem g_fresh {h : Heap} {a : Addr} (ho : h.get? a = some (newSetObj w)) : SetG (TxK P w) h a [] :=
  ⟨⟨_, #[], _, _, ho, ⟨rfl, rfl, rfl⟩, rfl, .nil, ⟨rfl, List.Pairwise.nil, by
    show _ ∨ (!w.params.followText "set-order") = true
    cases w.params.followText "set-order"
    · exact .inr rfl
    · exact .inl rfl⟩⟩, List.nodup_nil, by decide⟩
theorem fillS {u : Nat} {h0 : Heap} {D : Addr} {items : Array Value} {zs : List Str} (hi : StrsAre items.toList zs) (room : zs.length + 1 < scanBound) : Fill P w u h0 D items fun i h => ∃ ks : List Str, SetG (TxK P w) h D ks ∧ (∀ z, z ∈ ks ↔ z ∈ zs.take i) ∧ ks.length ≤ i := by
  refine ⟨fun h ho kp => ⟨[], g_fresh ho, fun z => by simp, Nat.le_refl _⟩, fun i h h' ⟨ks, R, g⟩ hD kp => ⟨ks, R.keep hD, g⟩, fun A E i v s Q hA hv ⟨ks, R, g, le⟩ kp h => ?_⟩
  obtain ⟨z, tk, rfl, hz⟩ := StrsAre.item hi i v (by rw [Array.getElem?_toList]; exact hv)
  have il := (List.getElem?_eq_some_iff.mp hz).1
  have isz := strKind_is P w z tk
  unfold setAdd
  refine wpAny_holding (wpAny_bind ((TxK P w).pyHash isz ?_))
  refine g_add (s := { s with toks := s.toks + 1 }) isz rfl R (by omega) fun b h' ks' sb R' c1 c2 => h b h' _ sb ⟨ks', R', fun y => ?_, ?_⟩ (Nat.le_add_right _ _)
  · rw [take_snoc hz, List.mem_append, List.mem_singleton, ← g y]
    by_cases hm : z ∈ ks
    · rw [(c1 hm).mem_iff]
      exact ⟨.inl, fun q => q.elim id fun e => by rw [e]; exact hm⟩
    · rw [(c2 hm).mem_iff, List.mem_cons]
      exact Or.comm
  · by_cases hm : z ∈ ks
    · rw [(c1 hm).length_eq]; omega
    · rw [(c2 hm).length_eq, List.length_cons]; omega
theorem strOf_is {z : Str} {v : Value} (h : (TxK P w).is z v = true) : ∃ tk, v = Value.str z tk := by
  have h : Value.isStrOf z v = true := h
  cases v with
  | str y tk =>
    have e : y = z := by simpa [Value.isStrOf] using h
    exact ⟨tk, by rw [e]⟩
  | _ => exact absurd h (by simp [Value.isStrOf])
theorem rows_strs : ∀ {es : List (Int × Value)} {ks : List Str}, Paired (RowG (TxK P w)) es ks → StrsAre (es.map (·.2)) ks
  | _, _, .nil => .nil
  | (e, v) :: es, _, .cons r q => by
    obtain ⟨tk, rfl⟩ := strOf_is (show (TxK P w).is _ v = true from r.is)
    exact .cons _ _ (rows_strs q)
theorem strs_perm {us vs : List Value} {ks : List Str} (q : StrsAre us ks) (pm : vs.Perm us) : ∃ js : List Str, StrsAre vs js ∧ js.Perm ks := by
  induction pm generalizing ks with
  | nil => exact ⟨ks, q, List.Perm.refl _⟩
  | cons b _ ih =>
    cases q with
    | cons y t q =>
      obtain ⟨js, r1, r2⟩ := ih q
      exact ⟨y :: js, .cons _ _ r1, r2.cons _⟩
  | swap a b l =>
    cases q with
    | cons y t q =>
      cases q with
      | cons y2 t2 q2 => exact ⟨_ :: _ :: _, .cons _ _ (.cons _ _ q2), List.Perm.swap _ _ _⟩
  | trans _ _ ih1 ih2 =>
    obtain ⟨js, r1, r2⟩ := ih2 q
    obtain ⟨is, t1, t2⟩ := ih1 r1
    exact ⟨is, t1, t2.trans r2⟩
/-- sorted(set of texts) -/
theorem g_sorted {a : Addr} {ks : List Str} {Q : Value → Shared → Prop} (R : SetG (TxK P w) s.heap a ks) (hh : A.handled = none) (few : ks.length < 64)
    (hQ : ∀ (s' : Shared) (p : Addr) (c : Nat) (out : Array Value) (ys : List Str), (∀ b o, s.heap.get? b = some o → s'.heap.get? b = some o) → s'.gens = s.gens → s'.os = s.os → s.heap.objs.size ≤ p → s'.heap.get? p = some (seqObj "list" out c) → StrsAre out.toList ys →
      ys.Perm ks → sortedS ys = true → Q (.ref p) s') : wpAny (model P w) A (call (.builtin "sorted") [.ref a]) Q E s := by
  obtain ⟨o, es, ep, t, ho, hex, hd, rows, T⟩ := R.ob
  have size : es.size = ks.length := by rw [← Array.length_toList]; exact rows.length
  refine Calls.call_function_entry kind_sorted plain_sorted entry_sorted (args_sorted1 _) ?_
  unfold Builtin.«sorted»
  refine wpAny_bind (m := checkCount "sorted" 1 1 _) (wpAny_pure ?_)
  refine wpAny_bind (collect_set (A := A.in1) hh ⟨o, ho, hex.1, hd⟩ T.ft (by rw [size]; exact R.few) T.rs T.ld fun s1 vs k1 hz g1 o1 pm => ?_)
  obtain ⟨js, hS, pj⟩ := strs_perm (rows_strs rows) pm
  have il : vs.length = ks.length := by rw [StrsAre.length hS, pj.length_eq]
  refine wpAny_bind (wpAny_newList ?_ (by rw [il, sizeLine_eq]; omega))
  have hoL : (s1.heap.push (seqObj "list" vs.toArray 0)).get? s1.heap.objs.size = some (seqObj "list" vs.toArray 0) := Heap.get?_push_size _ rfl
  refine wpAny_bind (wpAny_holding (wpAny_call_entry PyProof.Rows.slot_list_sort ⟨_, hoL, rfl⟩ PyProof.Rows.entry_list_sort
    (list_sort_treeK strKind_oneLt (s := { s1 with heap := s1.heap.push (seqObj "list" vs.toArray 0) }) hoL hS.keysOf (fun v₁ v₂ rest e => keyKind_strs (by rw [← e]; exact hS)) (by rw [il]; exact few) fun st' hp hs => ⟨_, rfl, ?_⟩) (PyProof.Rows.args_list_sort _)))
  obtain ⟨ys, y1, y2, y3⟩ := sorted_out_str hS hp hs
  obtain ⟨c, hc⟩ := sortedHeap_at (vs := vs) (out := (arrOf st').map (·.2)) hoL
  refine wpAny_pure ⟨_, rfl, hQ _ s1.heap.objs.size c _ ys (fun b u e => ?_) g1 o1 hz hc y1 (y2.trans pj) y3⟩
  have q := k1 b u e
  have lt := Heap.lt_size q
  show (sortedHeap (s1.heap.push (seqObj "list" vs.toArray 0)) s1.heap.objs.size vs _).get? b = some u
  rw [sortedHeap_old (Nat.ne_of_lt lt) (by rw [size_push']; exact Nat.lt_succ_of_lt lt)]
  exact Heap.get?_push_of_some _ q
end
section
variable {X : Cx}
/-- sorted(set(xs)), xs a list or a tuple of texts -/
def tSortSet (K : PySem.W.Frag) (ta : TE) : TE := fun σ H Q => ta σ H fun x H1 => ∃ (l : Addr) (zs : List Str), x = .ref l ∧ (SqL K H1 l (zs.map V.str) ∨ SqT K H1 l (zs.map V.str)) ∧ zs.length < 64 ∧
  ∀ (p : Addr) (ys : List Str), ys.Nodup → (∀ z, z ∈ ys ↔ z ∈ zs) → sortedS ys = true → H1 p = none → Q (.ref p) (upd H1 p (.lst (ys.map V.str)))
theorem pe_sortSet {a : Expr} {ta : TE} {p p2 q pos : Pos} (hc : X.calm = true) (hg : Gl X "sorted") (hm : X.mg "sorted" = none) (hg2 : Gl X "set") (hm2 : X.mg "set" = none) (ha : PE X a ta)
    (na : starEach [a] X.env = (false, eval a X.env) :: starEach [] X.env := by rfl) : PE X (.Call (.Name "sorted" p) [.Call (.Name "set" p2) [a] [] q] [] pos) (tSortSet X.K ta) := by
  refine ⟨fun pins s σ H Q I h => ?_⟩
  refine Call_ (ld_blt I hg hm boot_sorted ?_)
  refine PyProof.Rows.callWith_builtin1 (PyProof.Rows.args_cons ?_ rfl) rfl rfl
  refine Call_ (ld_blt I hg2 hm2 boot_set ?_)
  refine PyProof.Rows.callWith_type1 (PyProof.Rows.args_cons (thn (ha.run pins s σ H _ I h) fun v s1 ⟨x, H1, I1, r1, q1⟩ => PyProof.Rows.args_nil ?_) na) na rfl
  obtain ⟨l, zs, rfl, hq, le, q1⟩ := q1
  cases r1
  have fin : ∀ (its : List Value), Vals (zs.map V.str) its → ∀ (h' : Heap) (tk : Nat), (∃ ks : List Str, SetG (TxK X.prog X.w) h' s1.heap.objs.size ks ∧ (∀ z, z ∈ ks ↔ z ∈ zs.take its.toArray.size) ∧ ks.length ≤ its.toArray.size) → (∀ b o, s1.heap.get? b = some o → h'.get? b = some o) →
      wpAny (model X.prog X.w) X.A (spliced (backTo pos (starEach [] X.env))) (fun vs s₂ => wpAny (model X.prog X.w) X.A (call (.builtin "sorted") (Value.ref s1.heap.objs.size :: vs)) (EP X pins σ Q) X.xe s₂) X.xe { s1 with heap := h', toks := tk } := fun its r h' tk ⟨ks, R, mem, le2⟩ hk => by
    refine PyProof.Rows.args_nil ?_
    have hl : its.toArray.size = zs.length := by rw [List.size_toArray, ← r.length, List.length_map]
    rw [hl] at mem le2
    rw [List.take_length] at mem
    have I2 : L2.Inv X pins σ H1 { s1 with heap := h', toks := tk } := I1.kept fun b o e => hk b o e
    refine g_sorted (s := { s1 with heap := h', toks := tk }) R (I1.ok.hd hc) (by omega) fun s' p c out ys k g o hp hg gs pm ord => ?_
    have few : ys.length < 64 := by rw [pm.length_eq]; omega
    have free : H1 p = none := I2.hok.fresh hp
    have J : L2.Inv X pins σ (upd H1 p (.lst (ys.map V.str))) { { s1 with heap := h', toks := tk } with heap := s'.heap, gens := s'.gens, drawn := s'.drawn, toks := s'.toks } :=
      I2.call (ch := []) (Un.laid k hp free) (I2.hok.laid k hp ⟨by rw [List.length_map, sizeLine_eq]; omega, _, c, vals_of_strs gs, by rw [Array.toArray_toList]; exact hg⟩) (by rw [g]; exact I2.bare) (fun _ z => nomatch z)
    have e : s' = { { s1 with heap := h', toks := tk } with heap := s'.heap, gens := s'.gens, drawn := s'.drawn, toks := s'.toks } := by
      cases s'
      cases s1
      cases o
      rfl
    rw [e]
    exact ⟨.ref p, _, J, rfl, q1 p ys (pm.nodup_iff.mpr R.nd) (fun z => by rw [pm.mem_iff, mem]) ord free⟩
  have room : zs.length + 1 < scanBound := by unfold scanBound; omega
  rcases hq with hq | hq
  · obtain ⟨its, r, pl, hz⟩ := I1.list hq
    exact fill_list (fillS (by simpa using strsAre_of r) room) (I1.ok.hd hc) pl.isList fun h' tk ok kp => fin its r h' tk ok kp
  · obtain ⟨its, r, pl, hz⟩ := I1.tuple hq
    exact fill_tuple (fillS (by simpa using strsAre_of r) room) (I1.ok.hd hc) pl fun h' tk ok kp => fin its r h' tk ok kp
end
end V0
namespace V0
open PySem PySem.Spec PyProof.Rows L2
section
variable {X : Cx}
theorem cutV_whole {xs : List V} {lo hi : Option Int} (h : HT.sIx xs.length 0 lo = 0 ∧ HT.sIx xs.length xs.length hi = xs.length) : cutV xs lo hi = xs := by
  unfold cutV
  rw [h.1, h.2, List.drop_zero, Nat.sub_zero, List.take_length]
/-- t[lo:hi], be it the whole of t or not -/
def rSlB : V → Option Int → Option Int → Hp → VK → Prop := fun x lo hi H Q => ∃ a xs, x = .ref a ∧ H a = some (.tup xs) ∧ ∀ p H', Same H H' → H' p = some (.tup (cutV xs lo hi)) → Q (.ref p) H'
theorem sl_tupB : SlR X rSlB := by
  intro pins s σ H x v vl vu lo hi sl Q I rx hs pl pu h
  obtain ⟨a, xs, rfl, hx, q⟩ := h
  refine sl_tupA pins s σ H _ v vl vu lo hi sl Q I rx hs pl pu ⟨a, xs, rfl, SqT.of hx, fun w => q a H (fun _ _ e => e) ?_, fun _ p hp => q p _ (Same.new hp) upd_same⟩
  rw [cutV_whole w]
  exact hx
/-- t + u, be they empty or not -/
def rCatB : R2 := fun x y H Q => ∃ a b xs ys, x = .ref a ∧ y = .ref b ∧ H a = some (.tup xs) ∧ H b = some (.tup ys) ∧ xs.length + ys.length ≤ sizeLine ∧ ∀ p H', Same H H' → H' p = some (.tup (xs ++ ys)) → Q (.ref p) H'
theorem op_catB : OpR X (binaryOp .Add) rCatB := by
  intro pins s σ H x y v u Q I rx ry h
  obtain ⟨a, b, xs, ys, rfl, rfl, ha, hb, hz, q⟩ := h
  refine op_catA pins s σ H _ _ v u Q I rx ry ⟨a, b, xs, ys, rfl, rfl, SqT.of ha, SqT.of hb, hz, fun e => q b H (fun _ _ e => e) ?_, fun _ e => q a H (fun _ _ e => e) ?_, fun _ _ p hp => q p _ (Same.new hp) upd_same⟩
  · rw [e, List.nil_append]; exact hb
  · rw [e, List.append_nil]; exact ha
end
end V0

namespace V0
open PySem PySem.Spec PyProof.Rows L2
/-! ### groups: tuples of names -/
abbrev Gr := List Str
def GrAt (H : Hp) (g : Gr) (a : Addr) : Prop := H a = some (tupS g)
theorem GrAt.same {H H' : Hp} {g : Gr} {a : Addr} (h : GrAt H g a) (s : Same H H') : GrAt H' g a := s _ _ h
def GrsL (H : Hp) (l : Addr) (gs : List Gr) : Prop := ∃ as : List Addr, H l = some (.lst (as.map V.ref)) ∧ Paired (GrAt H) gs as
def GrsT (H : Hp) (l : Addr) (gs : List Gr) : Prop := ∃ as : List Addr, H l = some (.tup (as.map V.ref)) ∧ Paired (GrAt H) gs as
theorem GrsL.same {H H' : Hp} {l : Addr} {gs : List Gr} (h : GrsL H l gs) (s : Same H H') : GrsL H' l gs := by
  obtain ⟨as, e, pa⟩ := h
  exact ⟨as, s _ _ e, paired_mono (fun _ _ e => GrAt.same e s) pa⟩
theorem GrsT.same {H H' : Hp} {l : Addr} {gs : List Gr} (h : GrsT H l gs) (s : Same H H') : GrsT H' l gs := by
  obtain ⟨as, e, pa⟩ := h
  exact ⟨as, s _ _ e, paired_mono (fun _ _ e => GrAt.same e s) pa⟩
def dG (g : Gr) : PyData := .tuple (g.map PyData.str)
theorem eqv_dG (g h : Gr) : PyData.eqv (dG g) (dG h) = decide (g = h) := by
  unfold dG
  rw [PyData.eqv, eqvAll_strs]
theorem eqvAll_dG : ∀ ps qs : List Gr, PyData.eqvAll (ps.map dG) (qs.map dG) = decide (ps = qs)
  | [], [] => by simp [PyData.eqvAll]
  | [], _ :: _ => by simp [PyData.eqvAll]
  | _ :: _, [] => by simp [PyData.eqvAll]
  | p :: ps, q :: qs => by
    rw [List.map_cons, List.map_cons, PyData.eqvAll, eqvAll_dG ps qs, eqv_dG]
    by_cases h : p = q
    · subst h; simp
    · simp [h]
theorem dp_gr {K : PySem.W.Frag} {H : Hp} {g : Gr} {a : Addr} (h : GrAt H g a) : Dp K H (.ref a) (dG g) := .tup (SqT.of h) (dp_strs g)
theorem dp_grs {K : PySem.W.Frag} {H : Hp} : ∀ {ps : List Gr} {as : List Addr}, Paired (GrAt H) ps as → DpAll K H (as.map V.ref) (ps.map dG)
  | _, _, .nil => .nil
  | _, _, .cons h q => .cons (dp_gr h) (dp_grs q)
/-- names of things in every group -/
def GrN (g : Gr) : Prop := ∀ z ∈ g, PyData.strOk z = true
theorem canLay_dG : ∀ ps : List Gr, (∀ p ∈ ps, GrN p) → PyData.canLayAll0 (ps.map dG) = true
  | [], _ => rfl
  | p :: ps, h => by
    show (PyData.canLayAll0 (p.map PyData.str) && PyData.canLayAll0 (ps.map dG)) = true
    rw [canLay_strs p (h p (by simp)), canLay_dG ps fun q hq => h q (by simp [hq])]
    rfl
theorem depth_dG : ∀ ps : List Gr, PyData.depthAll (ps.map dG) ≤ 1
  | [] => Nat.zero_le _
  | p :: ps => by
    have ih := depth_dG ps
    show max (PyData.depthAll (p.map PyData.str) + 1) (PyData.depthAll (ps.map dG)) ≤ 1
    rw [depth_strs]
    omega
theorem sh_dG (ps : List Gr) (h : ∀ p ∈ ps, GrN p) : SeqAt.shaped (.tuple (ps.map dG)) = true := by
  show (PyData.canLayAll0 (ps.map dG) && decide (PyData.depthAll (ps.map dG) + 1 ≤ 64)) = true
  have := depth_dG ps
  rw [canLay_dG ps h, decide_eq_true (by omega)]
  rfl
theorem shL_dG (ps : List Gr) (h : ∀ p ∈ ps, GrN p) : SeqAt.shaped (.list (ps.map dG)) = true := by
  show (PyData.canLayAll0 (ps.map dG) && decide (PyData.depthAll (ps.map dG) + 1 ≤ 64)) = true
  have := depth_dG ps
  rw [canLay_dG ps h, decide_eq_true (by omega)]
  rfl
theorem sh_dG1 (g : Gr) (h : GrN g) : SeqAt.shaped (dG g) = true := by
  show (PyData.canLayAll0 (g.map PyData.str) && decide (PyData.depthAll (g.map PyData.str) + 1 ≤ 64)) = true
  rw [canLay_strs g h, depth_strs]
  rfl
theorem toks_ltT : ∀ g h : List Str, PyProof.Rows.lexLt itemOrd (PySem.W.keyToksAll (g.map PyData.str)) (PySem.W.keyToksAll (h.map PyData.str)) = ltT g h
  | [], [] => by
    show PyProof.Rows.lexLt itemOrd [Sum.inl 0] [Sum.inl 0] = _
    rw [lex_irrefl]
    rfl
  | [], y :: h => by
    show PyProof.Rows.lexLt itemOrd [Sum.inl 0] (Sum.inl 1 :: _) = _
    rw [lex_diff (O := itemOrd) (by simp)]
    rfl
  | x :: g, [] => by
    show PyProof.Rows.lexLt itemOrd (Sum.inl 1 :: _) [Sum.inl 0] = _
    rw [lex_diff (O := itemOrd) (by simp)]
    rfl
  | x :: g, y :: h => by
    have ih := toks_ltT g h
    show PyProof.Rows.lexLt itemOrd (Sum.inl 1 :: (Sum.inr x.cps.toList :: PySem.W.keyToksAll (g.map PyData.str))) (Sum.inl 1 :: (Sum.inr y.cps.toList :: PySem.W.keyToksAll (h.map PyData.str))) = PyProof.Rows.lexLt itemOrd (Sum.inr x.cps.toList :: tkey g) (Sum.inr y.cps.toList :: tkey h)
    rw [lex_self, lex_cons, lex_cons, ih]
    rfl
theorem dataLt_dG (g h : Gr) : PySem.W.dataLt (dG g) (dG h) = ltT g h := by
  unfold dG
  rw [PySem.W.dataLt_tuple]
  exact toks_ltT g h
/-- strictly ascending -/
def AscG (gs : List Gr) : Prop := gs.Pairwise fun a b => ltT a b = true
theorem AscG.nd {gs : List Gr} (h : AscG gs) : gs.Nodup := h.imp fun {a b} q e => by rw [e, ltT_self] at q; cases q
/-- two ascending lists of the same groups are one -/
theorem ascG_one {gs hs : List Gr} (a : AscG gs) (b : AscG hs) (h : ∀ g, g ∈ gs ↔ g ∈ hs) : gs = hs := ltT_one a b ((List.perm_ext_iff_of_nodup a.nd b.nd).mpr h)
theorem alike_strs : ∀ g h : List Str, PySem.W.alikeAll (g.map PyData.str) (h.map PyData.str) = true
  | [], _ => by simp [PySem.W.alikeAll]
  | x :: g, [] => by simp [PySem.W.alikeAll]
  | x :: g, y :: h => by
    show (PySem.W.alike (.str x) (.str y) && PySem.W.alikeAll (g.map PyData.str) (h.map PyData.str)) = true
    rw [alike_strs g h]
    rfl
theorem alike_dG (g h : Gr) : PySem.W.alike (dG g) (dG h) = true := by
  unfold dG
  simpa [PySem.W.alike] using alike_strs g h
theorem vals_refs_eq : ∀ {as : List Addr} {us : List Value}, Vals (as.map V.ref) us → us = as.map Value.ref
  | [], _, .nil => rfl
  | a :: as, _, .cons h q => by
    rw [vals_refs_eq q]
    cases (show _ = Value.ref a from h)
    rfl
theorem each_grs {H : Hp} {R : Value → Gr × Addr → Prop} : ∀ {gs : List Gr} {as : List Addr}, Paired (GrAt H) gs as → (∀ g a, GrAt H g a → R (.ref a) (g, a)) → PySem.W.EachIs R (as.map Value.ref) (gs.zip as)
  | _, _, .nil, _ => .nil
  | _, _, .cons h q, f => .cons (f _ _ h) (each_grs q f)
theorem zip_grs {H : Hp} : ∀ {gs : List Gr} {as : List Addr}, Paired (GrAt H) gs as → ∀ q ∈ gs.zip as, GrAt H q.1 q.2
  | _, _, .nil, q, h => by cases h
  | _, _, .cons h p, q, hq => by
    rcases List.mem_cons.mp hq with e | e
    · rw [e]; exact h
    · exact zip_grs p q e
theorem paired_pairs {H : Hp} : ∀ {m : List (Gr × Addr)}, (∀ q ∈ m, GrAt H q.1 q.2) → Paired (GrAt H) (m.map (·.1)) (m.map (·.2))
  | [], _ => .nil
  | q :: m, h => .cons (h q (by simp)) (paired_pairs fun r hr => h r (by simp [hr]))
theorem each_refs : ∀ {m : List (Gr × Addr)} {out : List Value}, PySem.W.EachIs (fun v (q : Gr × Addr) => v = Value.ref q.2) out m → out = (m.map (·.2)).map Value.ref
  | _, _, .nil => rfl
  | _, _, .cons h t => by rw [h, each_refs t]; rfl
theorem vals_of_refs : ∀ as : List Addr, Vals (as.map V.ref) (as.map Value.ref)
  | [] => .nil
  | _ :: as => .cons rfl (vals_of_refs as)
section
variable {X : Cx}
/-- sorted(xs) of groups, all different: none empty, or the first -/
def rSortedGr : List V → Hp → VK → Prop := fun vs H Q => ∃ (a : Addr) (gs : List Gr), vs = [V.ref a] ∧ GrsL H a gs ∧ gs.length ≤ 1000 ∧ gs.Nodup ∧ (gs.head? = some [] ∨ ∀ g ∈ gs, g ≠ []) ∧
  ∀ p gs' H', Same H H' → H p = none → gs'.Perm gs → AscG gs' → GrsL H' p gs' → Q (.ref p) H'
theorem cr_sortedGr (hu : X.A.units + 65 < cLine) : CallR X (.builtin "sorted") rSortedGr := by
  intro pins s σ H vs us Q I r h
  obtain ⟨a, gs, rfl, ⟨as, ha, pa⟩, few, nd, hd, q⟩ := h
  rw [Vals.ref1 r]
  obtain ⟨its, rv, pl, hz⟩ := I.list (SqL.of ha)
  have hl := pl.isList
  have ei := vals_refs_eq rv
  subst ei
  have el : PySem.W.EachIs (fun v (q : Gr × Addr) => v = Value.ref q.2) (as.map Value.ref) (gs.zip as) := each_grs pa fun g a _ => rfl
  have er : PySem.W.EachIs (fun v (q : Gr × Addr) => ∃ bs, Reads s.heap v (dG q.1) bs) (as.map Value.ref) (gs.zip as) := each_grs pa fun g a h => Dp.reads I (dG g) (.ref a) (.ref a) (dp_gr h) rfl
  have hal : PySem.W.AllAlike ((gs.zip as).map fun q : Gr × Addr => dG q.1) := fun d hd d' hd' => by
    obtain ⟨x, _, rfl⟩ := List.mem_map.mp hd
    obtain ⟨y, _, rfl⟩ := List.mem_map.mp hd'
    exact alike_dG _ _
  have zl : (gs.zip as).length = gs.length := by rw [List.length_zip, ← pa.length, Nat.min_self]
  have zg : (gs.zip as).map (·.1) = gs := by rw [List.map_fst_zip (by rw [pa.length]; exact Nat.le_refl _)]
  have fin : ∀ out : List Value, out.length = (gs.zip as).length → PySem.W.EachIs (fun v (q : Gr × Addr) => v = Value.ref q.2) out ((gs.zip as).mergeSort (PySem.W.dataLe false fun q : Gr × Addr => dG q.1)) → EP X pins σ Q (.ref (s.heap.objs.size + 1)) { s with heap := sortedAll s.heap (as.map Value.ref) (List.toArray out) } := fun out lo eo => by
    have pm := List.mergeSort_perm (gs.zip as) (PySem.W.dataLe false fun q : Gr × Addr => dG q.1)
    have pw := PySem.W.sort_pairwise (PySem.W.sortLe_total (listOrd itemOrd) false fun q : Gr × Addr => PySem.W.keyToks (dG q.1)) (gs.zip as)
    have pw : ((gs.zip as).mergeSort (PySem.W.dataLe false fun q : Gr × Addr => dG q.1)).Pairwise (fun a b => PySem.W.dataLe false (fun q : Gr × Addr => dG q.1) a b = true) := pw
    generalize (gs.zip as).mergeSort (PySem.W.dataLe false fun q : Gr × Addr => dG q.1) = m at pm pw eo
    have eo := each_refs eo
    subst eo
    have pmg : (m.map (·.1)).Perm gs := by
      have := pm.map (·.1)
      rw [zg] at this
      exact this
    have asc : AscG (m.map (·.1)) := by
      have w1 : (m.map (·.1)).Pairwise fun a b => ltT b a = false := List.pairwise_map.mpr (pw.imp fun {x y} h => by
        have h : (!PySem.W.dataLt (dG y.1) (dG x.1)) = true := h
        rw [dataLt_dG] at h
        simpa using h)
      have w2 : (m.map (·.1)).Nodup := pmg.nodup_iff.mpr nd
      refine (w1.and w2).imp fun {x y} ⟨h1, h2⟩ => ?_
      cases e : ltT x y with
      | true => rfl
      | false => exact absurd (ltT_tri e h1) h2
    have hp : H (s.heap.objs.size + 1) = none := I.hok.fresh (Nat.le_succ _)
    have sm : Same H (upd H (s.heap.objs.size + 1) (.lst ((m.map (·.2)).map V.ref))) := Same.new hp
    obtain ⟨c, hc⟩ := sortedAll_at s.heap (as.map Value.ref) ((m.map (·.2)).map Value.ref).toArray
    refine ⟨.ref (s.heap.objs.size + 1), _, I.laid (t' := s.toks) (fun b u e => sortedAll_old e) (Nat.le_succ _) (show ObjOk X.prog X.w _ _ _ (.lst ((m.map (·.2)).map V.ref)) from ⟨?_, _, c, vals_of_refs _, hc⟩), rfl, q _ _ _ sm hp pmg asc ⟨m.map (·.2), upd_same, ?_⟩⟩
    · rw [List.length_map, List.length_map, pm.length_eq, zl, sizeLine_eq]
      omega
    · exact paired_mono (fun _ _ e => GrAt.same e sm) (paired_pairs fun q hq => zip_grs pa q (pm.mem_iff.mp hq))
  have dep : ∀ b : Gr × Addr, b ∈ gs.zip as → X.A.units + 2 + (dG b.1).depth < cLine := fun b _ => by
    have : (dG b.1).depth = 1 := by
      show PyData.depthAll (b.1.map PyData.str) + 1 = 1
      rw [depth_strs]
    omega
  have lz : (gs.zip as).length ≤ sizeLine := by rw [zl, sizeLine_eq]; omega
  rcases hd with hd | hd
  · refine PySem.W.sorted_tupE hl el er hal (fun b => ⟨_, rfl⟩) ?_ lz dep fin
    cases pa with
    | nil => cases hd
    | cons h p =>
      have hd : some _ = some ([] : Gr) := hd
      injection hd with hd
      show some (dG _) = _
      rw [hd]
      rfl
  · refine PySem.W.sorted_data hl el er hal (.inl fun d hd' => ?_) lz dep fin
    obtain ⟨b, hb, rfl⟩ := List.mem_map.mp hd'
    have hm : b.1 ∈ gs := by
      have := List.mem_map_of_mem (f := (·.1)) hb
      rw [zg] at this
      exact this
    obtain ⟨g, a⟩ := b
    cases g with
    | nil => exact absurd rfl (hd _ hm)
    | cons x g => exact ⟨_, _, rfl⟩
end
end V0

namespace V0
open PySem PySem.Spec PyProof.Rows L2
theorem Wbs.ins {C : Addr} {H : Hp} {x : Addr} {zs : List Str} {tie : Str → Str → Bool} (h : Wbs C H x zs tie) : ∃ dx fs, H x = some (.ins C dx fs) := by
  obtain ⟨dx, t, c, bb, as, bs, w⟩ := h.w
  exact ⟨dx, _, w.at_⟩
theorem Wbs.but {C p : Addr} {H H' : Hp} {x : Addr} {zs : List Str} {tie : Str → Str → Bool} (h : Wbs C H x zs tie) (s : But p H H') (hp : Pot H p) : Wbs C H' x zs tie := by
  obtain ⟨⟨dx, t, c, bb, as, bs, w⟩, hz, ht⟩ := h
  obtain ⟨_, _, _, e, _⟩ := hp
  refine ⟨⟨dx, t, c, bb, as, bs, s _ _ w.at_ (ne_of w.at_ e fun z => nomatch z), s _ _ w.th (ne_of w.th e fun z => nomatch z), s _ _ w.cf (ne_of w.cf e fun z => nomatch z), ?_, s _ _ w.bd (ne_of w.bd e fun z => nomatch z), ?_⟩, hz, ht⟩
  · exact paired_mono (fun q a (h : H a = _) => s _ _ h (ne_of h e fun z => nomatch z)) w.cp
  · exact paired_mono (fun q a (h : H a = _) => s _ _ h (ne_of h e fun z => nomatch z)) w.bp
theorem Nz.perm {us vs : List Str} (h : Nz us) (pm : vs.Perm us) : Nz vs := ⟨pm.nodup_iff.mpr h.nd, fun z hz => h.nm z (pm.mem_iff.mp hz), by rw [pm.length_eq]; exact h.l1, by rw [pm.length_eq]; exact h.l8⟩
/-- two webs that are one -/
theorem webs_eq {K : PySem.W.Frag} {mg : Str → Option Value} {C : Addr} {H : Hp} {x y : Addr} {zs zs' : List Str} {tie tie' : Str → Str → Bool} {neg : Bool} {R : VK} (KWeb : Kls K mg "Web" C) (W : Wbs C H x zs tie) (W' : Wbs C H y zs' tie') (e : zs' = zs) (h : ∀ a ∈ zs, ∀ b ∈ zs, tie a b = tie' a b) (q : R (.bl (!neg)) H) :
    rEqO K C (spEqW K C) E0 neg (.ref x) (.ref y) H R := by
  subst e
  obtain ⟨dx, fx, ix⟩ := W.ins
  obtain ⟨dy, fy, iy⟩ := W'.ins
  have ec : cfl zs' tie = cfl zs' tie' := cfl_congr W.z.asc fun a ha b hb _ => h a ha b hb
  refine ⟨x, dx, fx, .ref C, rfl, ix, KWeb.ins iy, nf_self, x, zs', tie, .ref y, true, rfl, W, .inr ⟨y, zs', tie', rfl, W', by rw [decide_eq_true rfl, decide_eq_true ec]; rfl⟩, true, rfl, ?_⟩
  cases neg <;> exact q
end V0

namespace V0
open PySem PySem.Spec PyProof.Rows L2
/-! ### what is a group -/
theorem walk_zipT {K : PySem.W.Frag} {a b : Addr} {xs ys : List V} {n : Nat} (hn : n = min xs.length ys.length) : Walk (RZ.ItzT K a b) n (fun H => SqT K H a xs ∧ SqT K H b ys) (YPair (fun i => xs[i]?) (fun i => ys[i]?)) := by
  refine ⟨fun i H hi q => ⟨xs, ys, xs[i]'(by omega), ys[i]'(by omega), q.1, q.2, List.getElem?_eq_getElem _, List.getElem?_eq_getElem _⟩, fun H q => ⟨xs, ys, q.1, q.2, by omega⟩, fun i H x H' _ q y => ?_⟩
  obtain ⟨T, u, v, e1, e2, e3, e4, e5⟩ := y
  exact ⟨T, u, v, e1, e2, e3, e4 xs q.1, e5 ys q.2⟩
instance : DecidablePred Asc := fun zs => by unfold Asc; infer_instance
def okI (zs : List Str) : V → Bool
  | .str z => decide (z ∈ zs)
  | _ => false
def strO : V → Option Str
  | .str z => some z
  | _ => none
def adjB (g : List Str) : List Bool := (g.zip (g.drop 1)).map fun p => decide (p.1.cps.toList < p.2.cps.toList)
theorem adj_asc : ∀ g : List Str, (adjB g).all id = decide (Asc g)
  | [] => by
    show true = _
    exact (decide_eq_true List.Pairwise.nil).symm
  | [x] => by
    show true = _
    exact (decide_eq_true (List.pairwise_singleton _ _)).symm
  | x :: y :: g => by
    have ih := adj_asc (y :: g)
    show (decide (x.cps.toList < y.cps.toList) && (adjB (y :: g)).all id) = _
    rw [ih, Bool.eq_iff_iff, Bool.and_eq_true, decide_eq_true_iff, decide_eq_true_iff, decide_eq_true_iff]
    constructor
    · rintro ⟨h1, h2⟩
      refine List.pairwise_cons.mpr ⟨fun z hz => ?_, h2⟩
      rcases List.mem_cons.mp hz with e | e
      · rw [e]; exact h1
      · exact List.lt_trans h1 ((List.pairwise_cons.mp h2).1 z e)
    · intro h
      have h2 := List.pairwise_cons.mp h
      exact ⟨h2.1 y (by simp), h2.2⟩
def grpV (zs : List Str) (xs : List V) : Bool := xs.all (okI zs) && decide (Asc (xs.filterMap strO))
theorem okI_strs {zs : List Str} : ∀ {xs : List V}, xs.all (okI zs) = true → ∃ g : List Str, xs = g.map V.str ∧ (∀ z ∈ g, z ∈ zs)
  | [], _ => ⟨[], rfl, fun z h => by cases h⟩
  | x :: xs, h => by
    rw [List.all_cons, Bool.and_eq_true] at h
    obtain ⟨g, rfl, hg⟩ := okI_strs h.2
    cases x with
    | str z => exact ⟨z :: g, rfl, fun y hy => (List.mem_cons.mp hy).elim (fun e => by rw [e]; exact of_decide_eq_true h.1) (hg y)⟩
    | _ => exact absurd h.1 (by simp [okI])
theorem strO_map (g : List Str) : (g.map V.str).filterMap strO = g := by
  rw [List.filterMap_map]
  show g.filterMap (fun z => some z) = g
  exact List.filterMap_some
theorem grpV_strs {zs g : List Str} (h : ∀ z ∈ g, z ∈ zs) : grpV zs (g.map V.str) = decide (Asc g) := by
  unfold grpV
  rw [strO_map, show (g.map V.str).all (okI zs) = true from by
    rw [List.all_map, List.all_eq_true]
    intro z hz
    exact decide_eq_true (h z hz), Bool.true_and]
/-- v is the group g of the things zs, or none -/
def VG (H : Hp) (zs : List Str) (v : V) : Option Gr → Prop
  | some g => ∃ a, v = .ref a ∧ H a = some (tupS g) ∧ Asc g ∧ ∀ z ∈ g, z ∈ zs
  | none => (∃ k, Kn H v k ∧ k ≠ .tup) ∨ ∃ a xs, v = .ref a ∧ H a = some (.tup xs) ∧ xs.length ≤ 100 ∧ (∀ x ∈ xs, ∃ k, Kn H x k) ∧ grpV zs xs = false
theorem VG.same {H H' : Hp} {zs : List Str} {v : V} {o : Option Gr} (h : VG H zs v o) (s : Same H H') : VG H' zs v o := by
  cases o with
  | some g =>
    obtain ⟨a, e, h1, h2⟩ := h
    exact ⟨a, e, s _ _ h1, h2⟩
  | none =>
    rcases h with ⟨k, h1, h2⟩ | ⟨a, xs, e, h1, h2, h3, h4⟩
    · exact .inl ⟨k, h1.same s, h2⟩
    · exact .inr ⟨a, xs, e, s _ _ h1, h2, fun x hx => (h3 x hx).imp fun k hk => hk.same s, h4⟩
theorem Asc.sub {zs g : List Str} (h : Asc zs) (hg : Asc g) (sub : ∀ z ∈ g, z ∈ zs) : g.Sublist zs := by
  have e : zs.filter (fun z => decide (z ∈ g)) = g := by
    refine asc_one ((List.perm_ext_iff_of_nodup (Asc.nd (h.sublist List.filter_sublist)) hg.nd).mpr fun z => ?_) (h.sublist List.filter_sublist) hg
    rw [List.mem_filter, decide_eq_true_iff]
    exact ⟨fun q => q.2, fun q => ⟨sub z q, q⟩⟩
  rw [← e]
  exact List.filter_sublist
theorem asc8 {zs g : List Str} (h : Asc zs) (l8 : zs.length ≤ 8) (hg : Asc g) (sub : ∀ z ∈ g, z ∈ zs) : g.length ≤ 8 := Nat.le_trans (h.sub hg sub).length_le l8
def spIsGrp : Sp := fun vs H Q _ => ∃ (t : Addr) (zs : List Str) (v : V) (o : Option Gr), vs = [.ref t, v] ∧ H t = some (tupS zs) ∧ Asc zs ∧ zs.length ≤ 8 ∧ VG H zs v o ∧ ∀ H', Same H H' → Q (.bl o.isSome) H'
section
variable {P : Program} {w : World} {K : PySem.W.Frag} {mg : Str → Option Value} {base : Heap}
abbrev s_is_group_of : Stmt := top 19
abbrev N_is_group_of : List Str := ["things", "value", "thing", "one", "other"]
abbrev P_is_group_of : List Str := ["things", "value"]
theorem sc_is_group_of : FnScope N_is_group_of P_is_group_of (defScope s_is_group_of) := ⟨rfl, rfl, rfl, by decide +kernel, rfl, by decide +kernel, by decide +kernel⟩
theorem ok_is_grp {f : Addr} {fd : FuncData} (B : Bl mg) (M : Bm mg) (D : Df K mg "is_group_of" s_is_group_of P_is_group_of f fd) : FnOk P w K mg base CX0 1 f fd P_is_group_of spIsGrp := by
  refine D.F.ok sc_is_group_of (fun vs H Q E h => ?_) (fun cdv A outer s H vs Q E hr h => ?_)
  · obtain ⟨t, zs, v, o, rfl, _⟩ := h
    rfl
  · obtain ⟨t, zs, v, o, rfl, ht, asc, l8, hv, k⟩ := h
    refine ⟨_, (pss_cons (ps_if (pt_not (pt_val (pe_callB call_is (by rfl) B.b_isinstance (by decide +kernel) (pa_cons (pv 1) (pa_cons (pe_ty (n := "tuple") (by rfl) B.b_tuple (by decide +kernel)) pa_nil))))) (pss_one (ps_ret pe_bl)) pss_nil)
      (pss_cons (ps_if (pt_not (pt_val (pe_callB (cr_all rfl) (by rfl) B.b_all (by decide +kernel) (pa_cons (pe_lc (own := [("thing", 2)]) (g := gName 2) (tt := tYes) rfl sc_is_group_of.nd (pi_tup (pv 1)) (blkOk_by (own := [("thing", 2)]) (N := N_is_group_of) (sc := defScope s_is_group_of) (by decide +kernel)) (fun _ _ _ _ _ => (pg_name (i := 2) sc_is_group_of.nd rfl (Or.inl rfl))) (fun _ _ _ _ _ => pts_nil) (fun _ _ _ _ _ => (pe_and (pe_callB call_is (by rfl) B.b_isinstance (by decide +kernel) (pa_cons (pv 2) (pa_cons (pe_ty (n := "str") (by rfl) B.b_str (by decide +kernel)) pa_nil))) (pe_one (show PE _ _ (tOp (rIn K false) (tVar 2) (tVar 0)) from by exact (pe_cmpR op_in_seq (pv 2) (pv 0) (by rfl))))))) pa_nil)))) (pss_one (ps_ret pe_bl)) pss_nil)
      (pss_one (ps_ret (pe_callB (cr_all rfl) (by rfl) B.b_all (by decide +kernel) (pa_cons (pe_lc (own := [("one", 3), ("other", 4)]) (g := gTup K 2 (gCons (gName 3) (gCons (gName 4) (gNil)))) (tt := tYes) rfl sc_is_group_of.nd (RZ.pi_zipA (by rfl) M.b_zip (pa_cons (pv 1) (pa_cons (pe_slice sl_tupB (pv 1) (po_some pe_int) po_none) pa_nil))) (blkOk_by (own := [("one", 3), ("other", 4)]) (N := N_is_group_of) (sc := defScope s_is_group_of) (by decide +kernel)) (fun _ _ _ _ _ => (pg_tup rfl (pgs_cons (pg_name (i := 3) sc_is_group_of.nd rfl (Or.inl rfl)) (pgs_cons (pg_name (i := 4) sc_is_group_of.nd rfl (Or.inl rfl)) pgs_nil)))) (fun _ _ _ _ _ => pts_nil) (fun _ _ _ _ _ => (pe_cmpR op_lt_str (pv 3) (pv 4) (nomark _)))) pa_nil)))))), ?_⟩
    have split : (∃ kd, Kn H v kd ∧ kd ≠ .tup ∧ o = none) ∨ ∃ g xs, v = .ref g ∧ H g = some (.tup xs) ∧ xs.length ≤ 100 ∧ (∀ x ∈ xs, ∃ k, Kn H x k) ∧ grpV zs xs = o.isSome := by
      cases o with
      | some g =>
        obtain ⟨a, e, h1, h2, h3⟩ := hv
        have gl := asc8 asc l8 h2 h3
        exact .inr ⟨a, _, e, h1, by rw [List.length_map]; omega, fun x hx => by
          obtain ⟨z, _, rfl⟩ := List.mem_map.mp hx
          exact ⟨_, .str z⟩, by rw [grpV_strs h3, decide_eq_true h2]; rfl⟩
      | none =>
        rcases hv with ⟨kd, h1, h2⟩ | ⟨a, xs, e, h1, h2, h3, h4⟩
        · exact .inl ⟨kd, h1, h2, rfl⟩
        · exact .inr ⟨a, xs, e, h1, h2, h3, h4⟩
    rcases split with ⟨kd, hk, hne, rfl⟩ | ⟨g, xs, rfl, hg, l100, hks, hb⟩
    · refine ⟨_, rfl, _, kd, .tup, rfl, hk, by decide, _, rfl, ?_⟩
      have e : kd.is .tup = false := by cases kd <;> first | rfl | exact absurd rfl hne
      rw [e]
      exact ite2 (fun _ => k H (fun _ _ e => e)) (fun z => absurd rfl z)
    refine ⟨_, rfl, _, .tup, .tup, rfl, .tup hg, by decide, _, rfl, iteF ?_⟩
    refine ⟨_, rfl, g, rfl, ⟨_, SqT.of hg⟩, fun L hL => ?_⟩
    refine lc_it (walk_tup (xs := xs)) (fun i H' => Same H H' ∧ H' L = some (.lst (((xs.take i).map (okI zs)).map V.bl))) ⟨Same.new hL, upd_same⟩ (fun i H' _ ⟨s1, _⟩ => SqT.of (s1 _ _ hg)) ?_ ?_
    · rintro i x H1 H2 hi ⟨s1, h1⟩ ⟨rfl, hx⟩
      obtain ⟨kd, hk⟩ := hks x (List.mem_of_getElem? hx)
      have hk1 := hk.same s1
      have push : ∀ b : Bool, okI zs x = b → ∃ acc, H2 L = some (.lst acc) ∧ acc.length < sizeLine ∧ Same H (upd H2 L (.lst (acc ++ [V.bl b]))) ∧ (upd H2 L (.lst (acc ++ [V.bl b]))) L = some (.lst (((xs.take (i + 1)).map (okI zs)).map V.bl)) := fun b e => by
        refine ⟨_, h1, ?_, fun c o ec => ?_, ?_⟩
        · rw [List.length_map, List.length_map, List.length_take, sizeLine_eq]
          omega
        · rw [upd_ne (ne_of_none ec hL)]
          exact s1 _ _ ec
        · rw [upd_same, take_snoc hx, List.map_append, List.map_append, ← e]
          rfl
      refine ⟨rfl, _, rfl, _, kd, .str, rfl, hk1, by decide, _, rfl, ?_⟩
      cases hk with
      | str z =>
        refine iteT ⟨_, rfl, _, rfl, t, _, rfl, .inr (SqT.of (s1 _ _ ht)), rfl, flat_map zs, ?_⟩
        rw [show (if false = true then !inV (V.str z) (zs.map V.str) else inV (V.str z) (zs.map V.str)) = decide (z ∈ zs) from inV_str _ _]
        exact push _ rfl
      | non => exact push false rfl
      | bl b => exact push false rfl
      | int j => exact push false rfl
      | lst h => exact push false rfl
      | tup h => exact push false rfl
      | dct h => exact push false rfl
    · rintro H1 ⟨s1, h1⟩
      rw [List.take_length] at h1
      have hg1 := s1 _ _ hg
      refine ⟨L, _, rfl, SqL.of h1, ?_⟩
      have eall : ((xs.map (okI zs)).all id) = xs.all (okI zs) := by rw [List.all_map]; rfl
      rw [eall]
      cases hall : xs.all (okI zs) with
      | false =>
        have e : o.isSome = false := by rw [← hb]; unfold grpV; rw [hall]; rfl
        have k := k H1 s1
        rw [e] at k
        exact ⟨_, rfl, ite2 (fun _ => k) (fun z => absurd rfl z)⟩
      | true =>
        obtain ⟨ys, rfl, sub⟩ := okI_strs hall
        rw [grpV_strs sub] at hb
        refine ⟨true, rfl, iteF ?_⟩
        refine ⟨_, rfl, _, rfl, _, rfl, g, _, rfl, hg1, fun b H2 s2 eb => ?_⟩
        rw [cutV_one, ← List.map_drop] at eb
        have hg2 := s2 _ _ hg1
        have s12 := Same.trans s1 s2
        refine ⟨g, b, _, _, rfl, .inr ⟨SqT.of hg2, SqT.of eb, fun D hD => ?_⟩⟩
        rw [List.length_map] at l100
        refine lc_it (walk_zipT (xs := ys.map V.str) (ys := (ys.drop 1).map V.str) (n := ys.length - 1) (by rw [List.length_map, List.length_map, List.length_drop]; omega)) (fun i H' => Same H2 H' ∧ H' D = some (.lst (((adjB ys).take i).map V.bl))) ⟨Same.new hD, upd_same⟩ (fun i H' _ ⟨s3, _⟩ => ⟨SqT.of (s3 _ _ hg2), SqT.of (s3 _ _ eb)⟩) ?_ ?_
        · rintro i x H3 H4 hi ⟨s3, h3⟩ ⟨T, u, v, rfl, hT, rfl, hu, hv⟩
          obtain ⟨y1, hy1, rfl⟩ := str_at hu
          obtain ⟨y2, hy2, rfl⟩ := str_at hv
          have hDT := ne_of_none h3 hT
          have ad : (adjB ys)[i]? = some (decide (y1.cps.toList < y2.cps.toList)) := by
            unfold adjB
            rw [List.getElem?_map, (show (ys.zip (ys.drop 1))[i]? = some (y1, y2) from List.getElem?_zip_eq_some.mpr ⟨hy1, hy2⟩)]
            rfl
          refine ⟨T, _, rfl, SqT.of upd_same, rfl, _, _, rfl, _, _, rfl, rfl, rfl, _, rfl, _, rfl, _, _, rfl, rfl, _, by rw [upd_ne hDT]; exact h3, ?_, ?_, ?_⟩
          · rw [List.length_map, List.length_take, sizeLine_eq]
            omega
          · intro c o e
            rw [upd_ne (ne_of_none e hD), upd_ne (ne_of_none (s3 _ _ e) hT)]
            exact s3 c o e
          · rw [upd_same, take_snoc ad, List.map_append]
            rfl
        · rintro H3 ⟨s3, h3⟩
          have la : (adjB ys).length = ys.length - 1 := by
            unfold adjB
            rw [List.length_map, List.length_zip, List.length_drop]
            omega
          rw [← la, List.take_length] at h3
          refine ⟨D, _, rfl, SqL.of h3, ?_⟩
          rw [adj_asc, hb]
          exact k H3 (Same.trans s12 s3)
end
end V0

namespace V0
open PySem PySem.Spec PyProof.Rows L2
def spContAny (C : Addr) : Sp := fun vs H Q _ => ∃ (x : Addr) (zs : List Str) (tie : Str → Str → Bool) (v : V) (k : Kd), vs = [.ref x, v] ∧ IsWb C H x zs tie ∧ Kn H v k ∧ Q (.bl (okI zs v)) H
theorem tyes_of {σ : L2.St} {H : Hp} {X Y : Hp → Prop} (h : X H) : tYes σ H (fun b H3 => if b = true then X H3 else Y H3) := by
  show (if true = true then X H else Y H)
  rw [if_pos rfl]
  exact h
/-- a list of pairs of numbers -/
def IPs (H : Hp) (l : Addr) (ps : List (Int × Int)) : Prop := ∃ as : List Addr, H l = some (.lst (as.map V.ref)) ∧ Paired (fun p a => H a = some (.tup [.int p.1, .int p.2])) ps as
theorem IPs.same {H H' : Hp} {l : Addr} {ps : List (Int × Int)} (h : IPs H l ps) (s : Same H H') : IPs H' l ps := by
  obtain ⟨as, e, pa⟩ := h
  exact ⟨as, s _ _ e, paired_mono (fun _ _ e => s _ _ e) pa⟩
def rowI (h : Nat) (n : Nat) : List (Int × Int) := (List.range n).map fun (l : Nat) => (((l : Nat) : Int), ((h : Nat) : Int))
def prI (n : Nat) : List (Int × Int) := (List.range n).flatMap fun (h : Nat) => rowI h h
theorem prI_succ (n : Nat) : prI (n + 1) = prI n ++ rowI n n := by
  unfold prI
  rw [List.range_succ, List.flatMap_append]
  simp
theorem rowI_succ (h n : Nat) : rowI h (n + 1) = rowI h n ++ [((n : Int), (h : Int))] := by
  unfold rowI
  rw [List.range_succ, List.map_append]
  rfl
theorem prI_len (n : Nat) (h : n ≤ 8) : (prI n).length ≤ 28 := (by decide : ∀ m : Fin 9, (prI m.1).length ≤ 28) ⟨n, by omega⟩
theorem mem_prI {n : Nat} {p : Int × Int} : p ∈ prI n ↔ ∃ i j : Nat, i < j ∧ j < n ∧ p = ((i : Int), (j : Int)) := by
  unfold prI rowI
  rw [List.mem_flatMap]
  constructor
  · rintro ⟨j, hj, hp⟩
    obtain ⟨i, hi, rfl⟩ := List.mem_map.mp hp
    exact ⟨i, j, List.mem_range.mp hi, List.mem_range.mp hj, rfl⟩
  · rintro ⟨i, j, ij, jn, rfl⟩
    exact ⟨j, List.mem_range.mpr jn, List.mem_map.mpr ⟨i, List.mem_range.mpr ij, rfl⟩⟩
def dI (p : Int × Int) : PyData := .tuple [.int p.1, .int p.2]
theorem eqv_dI (p q : Int × Int) : PyData.eqv (dI p) (dI q) = decide (p = q) := by
  obtain ⟨a, b⟩ := p
  obtain ⟨c, d⟩ := q
  unfold dI
  simp [PyData.eqv, PyData.eqvAll]
  rfl
theorem any_dI (ps : List (Int × Int)) (p : Int × Int) : ((ps.map dI).any fun z => PyData.eqv z (dI p)) = decide (p ∈ ps) := by
  rw [Bool.eq_iff_iff, List.any_eq_true, decide_eq_true_iff]
  constructor
  · rintro ⟨z, hz, e⟩
    obtain ⟨q, hq, rfl⟩ := List.mem_map.mp hz
    rw [eqv_dI, decide_eq_true_iff] at e
    rw [← e]
    exact hq
  · intro h
    exact ⟨dI p, List.mem_map_of_mem h, by rw [eqv_dI]; exact decide_eq_true rfl⟩
theorem dp_ips {K : PySem.W.Frag} {H : Hp} : ∀ {ps : List (Int × Int)} {as : List Addr}, Paired (fun (p : Int × Int) a => H a = some (.tup [.int p.1, .int p.2])) ps as → DpAll K H (as.map V.ref) (ps.map dI)
  | _, _, .nil => .nil
  | _, _, .cons h q => .cons (.tup (SqT.of h) (.cons (.int _) (.cons (.int _) .nil))) (dp_ips q)
theorem lay_dI : ∀ ps : List (Int × Int), PyData.canLayAll0 (ps.map dI) = true ∧ PyData.depthAll (ps.map dI) ≤ 1
  | [] => ⟨rfl, Nat.zero_le _⟩
  | p :: ps => by
    obtain ⟨h1, h2⟩ := lay_dI ps
    refine ⟨?_, ?_⟩
    · show (true && PyData.canLayAll0 (ps.map dI)) = true
      rw [h1]
      rfl
    · show max 1 (PyData.depthAll (ps.map dI)) ≤ 1
      omega
theorem shL_dI (ps : List (Int × Int)) : SeqAt.shaped (.list (ps.map dI)) = true := by
  obtain ⟨h1, h2⟩ := lay_dI ps
  show (PyData.canLayAll0 (ps.map dI) && decide (PyData.depthAll (ps.map dI) + 1 ≤ 64)) = true
  rw [h1, decide_eq_true (by omega)]
  rfl
/-- whether these are different things, tied just where a pair of places is told -/
def ShapeG (zs : List Str) (tie : Str → Str → Bool) (ps : List (Int × Int)) (xs : List V) : Prop := ∃ ys : List Str, xs = ys.map V.str ∧ (∀ y ∈ ys, y ∈ zs) ∧ ys.Nodup ∧ ∀ (i j : Nat) (a b : Str), i < j → ys[i]? = some a → ys[j]? = some b → tie a b = decide (((i : Int), (j : Int)) ∈ ps)
def pairOk (tie : Str → Str → Bool) (ps : List (Int × Int)) (ys : List Str) (p : Int × Int) : Bool := decide (V.bl (tie (ys.getD p.1.toNat "") (ys.getD p.2.toNat "")) = V.bl (decide (p ∈ ps)))
theorem pairs_ok {tie : Str → Str → Bool} {ps : List (Int × Int)} {ys : List Str} : ((prI ys.length).all (pairOk tie ps ys)) = true ↔ ∀ (i j : Nat) (a b : Str), i < j → ys[i]? = some a → ys[j]? = some b → tie a b = decide (((i : Int), (j : Int)) ∈ ps) := by
  have one : ∀ (i j : Nat) (a b : Str), ys[i]? = some a → ys[j]? = some b → (pairOk tie ps ys ((i : Int), (j : Int)) = true ↔ tie a b = decide (((i : Int), (j : Int)) ∈ ps)) := fun i j a b ha hb => by
    unfold pairOk
    rw [show (((i : Int), (j : Int)) : Int × Int).1.toNat = i from rfl, show (((i : Int), (j : Int)) : Int × Int).2.toNat = j from rfl, List.getD_eq_getElem?_getD, List.getD_eq_getElem?_getD, ha, hb, decide_eq_true_iff]
    exact ⟨fun h => V.bl.inj h, fun h => congrArg V.bl h⟩
  rw [List.all_eq_true]
  constructor
  · intro h i j a b ij ha hb
    exact (one i j a b ha hb).mp (h _ (mem_prI.mpr ⟨i, j, ij, (List.getElem?_eq_some_iff.mp hb).1, rfl⟩))
  · intro h p hp
    obtain ⟨i, j, ij, jn, rfl⟩ := mem_prI.mp hp
    have ha : ys[i]? = some (ys[i]'(by omega)) := List.getElem?_eq_getElem _
    have hb : ys[j]? = some ys[j] := List.getElem?_eq_getElem _
    exact (one i j _ _ ha hb).mpr (h i j _ _ ij ha hb)
def spShapeG (C : Addr) : Sp := fun vs H Q _ => ∃ (x t pl : Addr) (zs : List Str) (tie : Str → Str → Bool) (ps : List (Int × Int)) (xs : List V), vs = [.ref x, .ref t, .ref pl] ∧ Wbs C H x zs tie ∧ H t = some (.tup xs) ∧ xs.length ≤ 8 ∧ (∀ y ∈ xs, ∃ k, Kn H y k) ∧ IPs H pl ps ∧ ∀ r H', Same H H' → (r = true ↔ ShapeG zs tie ps xs) → Q (.bl r) H'
theorem ips_add {H0 H : Hp} {D b : Addr} {ps : List (Int × Int)} {l h : Int} (hD : H0 D = none) (s : Same H0 H) (ip : IPs H D ps) (few : ps.length < 1000) (hb : H b = some (.tup [.int l, .int h])) :
    ∃ acc, H D = some (.lst acc) ∧ acc.length < sizeLine ∧ Same H0 (upd H D (.lst (acc ++ [.ref b]))) ∧ IPs (upd H D (.lst (acc ++ [.ref b]))) D (ps ++ [(l, h)]) := by
  obtain ⟨as, e, pa⟩ := ip
  have keep : ∀ {a : Addr} {xs : List V}, H a = some (.tup xs) → (upd H D (.lst (as.map V.ref ++ [V.ref b]))) a = some (.tup xs) := fun {a xs} ea => by rw [upd_ne (ne_of ea e fun z => nomatch z)]; exact ea
  refine ⟨as.map V.ref, e, by rw [List.length_map, ← pa.length, sizeLine_eq]; omega, fun c o ec => by rw [upd_ne (ne_of_none ec hD)]; exact s _ _ ec, as ++ [b], by rw [upd_same, List.map_append]; rfl, paired_app2 (paired_mono (fun _ _ ea => keep ea) pa) (.cons (keep hb) .nil)⟩
section
variable {P : Program} {w : World} {K : PySem.W.Frag} {mg : Str → Option Value} {base : Heap} {C : Addr}
theorem ok_contAny {f : Addr} {fd : FuncData} (B : Bl mg) (KWeb : Kls K mg "Web" C) (N : WbN K C) (Y : Md K "Web.__contains__" "__contains__" C s_Web_contains P_Web_contains f fd) : FnOk P w K mg base CX0 1 f fd P_Web_contains (spContAny C) := by
  refine Y.F.ok sc_Web_contains (fun vs H Q E h => ?_) (fun cdv A outer s H vs Q E hr h => ?_)
  · obtain ⟨x, zs, tie, v, k, rfl, _⟩ := h
    rfl
  · obtain ⟨x, zs, tie, v, kd, rfl, ⟨dx, t, c, bb, as, bs, w⟩, hk, k⟩ := h
    refine ⟨_, (pss_one (ps_ret (pe_and (pe_callB call_is (by rfl) B.b_isinstance (by decide +kernel) (pa_cons (pv 1) (pa_cons (pe_ty (n := "str") (by rfl) B.b_str (by decide +kernel)) pa_nil))) (pe_one (pe_cmpR op_in_seq (pv 1) (pe_fld (pv 0) rfl) (by rfl)))))), ?_⟩
    refine ⟨_, rfl, v, kd, .str, rfl, hk, by decide, _, rfl, ?_⟩
    cases hk with
    | str z =>
      refine ite2 (fun _ => ?_) (fun z => absurd rfl z)
      refine ⟨_, rfl, _, rfl, x, C, dx, _, _, rfl, w.at_, KWeb.cl, N.n1, rfl, t, _, rfl, .inr (SqT.of w.th), rfl, flat_map zs, ?_⟩
      rw [show (if false = true then !inV (V.str z) (zs.map V.str) else inV (V.str z) (zs.map V.str)) = decide (z ∈ zs) from inV_str _ _]
      exact k
    | non => exact ite2 (fun z => by cases z) (fun _ => k)
    | bl b => exact ite2 (fun z => by cases z) (fun _ => k)
    | int j => exact ite2 (fun z => by cases z) (fun _ => k)
    | lst h => exact ite2 (fun z => by cases z) (fun _ => k)
    | tup h => exact ite2 (fun z => by cases z) (fun _ => k)
    | dct h => exact ite2 (fun z => by cases z) (fun _ => k)
abbrev s_has_shape : Stmt := top 20
abbrev N_has_shape : List Str := ["web", "things", "places", "thing", "high", "low", "pairs"]
abbrev P_has_shape : List Str := ["web", "things", "places"]
theorem sc_has_shape : FnScope N_has_shape P_has_shape (defScope s_has_shape) := ⟨rfl, rfl, rfl, by decide +kernel, rfl, by decide +kernel, by decide +kernel⟩
theorem ok_shapeG {f f1 f2 : Addr} {fd fd1 fd2 : FuncData} (B : Bl mg) (M : Bm mg) (KWeb : Kls K mg "Web" C) (O_cont : OwnM P w K mg base CX0 1 C "__contains__" (spContAny C)) (Y_Web_are_tied : Md K "Web.are_tied" "are_tied" C s_Web_are_tied P_Web_are_tied f1 fd1) (G_Web_are_tied : FnOk P w K mg base CX0 3 f1 fd1 P_Web_are_tied (spTied C)) (D : Df K mg "has_shape" s_has_shape P_has_shape f fd) : FnOk P w K mg base CX0 4 f fd P_has_shape (spShapeG C) := by
  refine D.F.ok sc_has_shape (fun vs H Q E h => ?_) (fun cdv A outer s H vs Q E hr h => ?_)
  · obtain ⟨x, t, pl, zs, tie, ps, xs, rfl, _⟩ := h
    rfl
  · obtain ⟨x, t, pl, zs, tie, ps, xs, rfl, W, ht, l8, hk, hd, k⟩ := h
    refine ⟨_, (pss_cons (ps_if (PW.pt (pw_or (pt_not (pt_val (pe_callB (cr_all rfl) (by rfl) B.b_all (by decide +kernel) (pa_cons (pe_lc (own := [("thing", 3)]) (g := gName 3) (tt := tYes) rfl sc_has_shape.nd (pi_tup (pv 1)) (blkOk_by (own := [("thing", 3)]) (N := N_has_shape) (sc := defScope s_has_shape) (by decide +kernel)) (fun _ _ _ _ _ => (pg_name (i := 3) sc_has_shape.nd rfl (Or.inl rfl))) (fun _ _ _ _ _ => pts_nil) (fun _ _ _ _ _ => (show PE _ _ (tOp (rInO C (spContAny C) E0 false) (tVar 3) (tVar 0)) from by exact (pe_cmpR (op_inO O_cont (hr.mono (by decide)) pass0) (pv 3) (pv 0) (by rfl))))) pa_nil)))) (pw_or1 (pt_cmpR op_lt (pe_lenSetS rfl (by rfl) B.b_len (by rfl) M.b_set (pv 1)) (pe_callB call_len (by rfl) B.b_len (by decide +kernel) (pa_cons (pv 1) pa_nil)) (nomark _))))) (pss_one (ps_ret pe_bl)) pss_nil)
      (pss_cons (ps_setLc2 (i := 6) (own := [("high", 4), ("low", 5)]) (vs1 := [5]) (g := gName 4) (tt := tYes) (g1 := gName 5) (tt1 := tYes) (te := tTup (tCons (tVar 5) (tCons (tVar 4) tNil))) rfl sc_has_shape.nd rfl rfl (sw_true rfl rfl rfl (by decide +kernel)) (pi_range1 rfl B.b_range (pa_cons (pe_callB call_len (by rfl) B.b_len (by decide +kernel) (pa_cons (pv 1) pa_nil)) pa_nil)) (blkOk_by (own := [("high", 4), ("low", 5)]) (N := N_has_shape) (sc := defScope s_has_shape) (by decide +kernel)) (by decide) (fun _ _ _ _ _ => (pg_name (i := 4) sc_has_shape.nd rfl (Or.inl rfl))) (fun _ _ _ _ _ => pts_nil) (fun _ _ _ _ _ => (show PI _ _ _ (iRng1 (tCons (tVar 4) tNil)) from by exact (pi_range1 (by rfl) B.b_range (pa_cons (pv 4) pa_nil)))) (fun _ _ _ _ _ => (pg_name (i := 5) sc_has_shape.nd rfl (Or.inl rfl))) (fun _ _ _ _ _ => pts_nil) (fun _ _ _ _ _ => (pe_tup (pa_cons (pv 5) (pa_cons (pv 4) pa_nil)))))
      (pss_one (ps_ret (pe_callB (cr_all rfl) (by rfl) B.b_all (by decide +kernel) (pa_cons (pe_lc (own := [("low", 5), ("high", 4)]) (g := gTup K 2 (gCons (gName 5) (gCons (gName 4) (gNil)))) (tt := tYes) rfl sc_has_shape.nd (pi_list (pv 6)) (blkOk_by (own := [("low", 5), ("high", 4)]) (N := N_has_shape) (sc := defScope s_has_shape) (by decide +kernel)) (fun _ _ _ _ _ => (pg_tup rfl (pgs_cons (pg_name (i := 5) sc_has_shape.nd rfl (Or.inl rfl)) (pgs_cons (pg_name (i := 4) sc_has_shape.nd rfl (Or.inl rfl)) pgs_nil)))) (fun _ _ _ _ _ => pts_nil) (fun _ _ _ _ _ => (show PE _ _ (tOp rEq (tMeth C "are_tied" (spTied C) [] E0 (tVar 0) (tCons (tOp (rIxT K) (tVar 1) (tVar 5)) (tCons (tOp (rIxT K) (tVar 1) (tVar 4)) tNil))) (tOp (rInD K) (tTup (tCons (tVar 5) (tCons (tVar 4) tNil))) (tVar 2))) from by exact (pe_cmpR op_eq (pe_meth (pv 0) KWeb.cl Y_Web_are_tied.m G_Web_are_tied (hr.mono (by decide)) Y_Web_are_tied.b .nil pass0 (pa_cons (pe_ix ix_tup (pv 1) (pv 5) (fun _ _ => rfl)) (pa_cons (pe_ix ix_tup (pv 1) (pv 4) (fun _ _ => rfl)) pa_nil))) (pe_cmpR (op_inD (Room.units65 hr)) (pe_tup (pa_cons (pv 5) (pa_cons (pv 4) pa_nil))) (pv 2) (by rfl)) (nomark _))))) pa_nil)))))), ?_⟩
    obtain ⟨dx, tt, c, bb, as, bs, w⟩ := id W.w
    refine ⟨_, rfl, t, rfl, ⟨_, SqT.of ht⟩, fun L hL => ?_⟩
    refine lc_it (walk_tup (xs := xs)) (fun i H' => Same H H' ∧ H' L = some (.lst (((xs.take i).map (okI zs)).map V.bl))) ⟨Same.new hL, upd_same⟩ (fun i H' _ ⟨s1, _⟩ => SqT.of (s1 _ _ ht)) ?_ ?_
    · rintro i v H1 H2 hi ⟨s1, h1⟩ ⟨rfl, hx⟩
      obtain ⟨kd, hkd⟩ := hk v (List.mem_of_getElem? hx)
      refine ⟨rfl, _, rfl, _, rfl, x, dx, _, rfl, s1 _ _ w.at_, x, zs, tie, v, kd, rfl, (W.same s1).w, hkd.same s1, _, rfl, _, h1, ?_, fun c o ec => ?_, ?_⟩
      · rw [List.length_map, List.length_map, List.length_take, sizeLine_eq]
        omega
      · rw [upd_ne (ne_of_none ec hL)]
        exact s1 _ _ ec
      · rw [upd_same, take_snoc hx, List.map_append, List.map_append]
        rfl
    rintro H1 ⟨s1, h1⟩
    rw [List.take_length] at h1
    refine ⟨L, _, rfl, SqL.of h1, ?_⟩
    rw [show ((xs.map (okI zs)).all id) = xs.all (okI zs) from by rw [List.all_map]; rfl]
    cases hall : xs.all (okI zs) with
    | false =>
      refine ⟨_, rfl, ite2 (fun _ => k false H1 s1 ⟨(fun z => by cases z), fun ⟨ys, e, sub, _⟩ => ?_⟩) (fun z => absurd rfl z)⟩
      have : xs.all (okI zs) = true := by
        rw [e, List.all_map, List.all_eq_true]
        exact fun y hy => decide_eq_true (sub y hy)
      rw [hall] at this
      cases this
    | true =>
      obtain ⟨ys, rfl, sub⟩ := okI_strs hall
      have l8 : ys.length ≤ 8 := by rw [List.length_map] at l8; exact l8
      have inj : ∀ {us vs : List Str}, us.map V.str = vs.map V.str → us = vs := fun h => (List.map_inj_right (f := V.str) fun a b e => V.str.inj e).mp h
      refine ⟨true, rfl, iteF ?_⟩
      have ht1 := s1 _ _ ht
      refine ⟨_, rfl, t, ys, rfl, .inr (SqT.of ht1), by omega, fun n n1 n2 => ⟨_, rfl, _, (ys.map V.str).length, rfl, .inr ⟨_, SqT.of ht1, rfl⟩, _, _, rfl, rfl, _, rfl, ?_⟩⟩
      rw [List.length_map]
      by_cases hn : n < ys.length
      · rw [decide_eq_true (show (n : Int) < ((ys.length : Nat) : Int) from by omega)]
        refine ite2 (fun _ => k false H1 s1 ⟨(fun z => by cases z), fun ⟨us, e, _, nd, _⟩ => ?_⟩) (fun z => absurd rfl z)
        obtain rfl := inj e
        have := n2.mpr nd
        omega
      · rw [decide_eq_false (show ¬ (n : Int) < ((ys.length : Nat) : Int) from by omega)]
        have nd : ys.Nodup := n2.mp (by omega)
        refine iteF ?_
        refine ⟨_, rfl, _, (ys.map V.str).length, rfl, .inr ⟨_, SqT.of ht1, rfl⟩, (ys.length : Int), by rw [List.length_map], by omega, by omega, fun LP hLP => ?_⟩
        refine lc2_out walk_range (fun i H' => Same H1 H' ∧ IPs H' LP (prI i)) ⟨Same.new hLP, [], upd_same, .nil⟩ (fun _ _ _ _ => trivial) ?_ ?_
        · rintro i v H2 H3 hi ⟨s2, ip⟩ ⟨rfl, rfl⟩
          have i8 : i < 8 := by omega
          refine ⟨rfl, tyes_of ?_⟩
          refine ⟨_, rfl, (0 : Int) + i, rfl, by omega, by omega, ?_⟩
          refine lc2_in (n := i) (J1 := Itr 0 ((0 : Int) + i).toNat) (by rw [show ((0 : Int) + i).toNat = i from by omega]; exact walk_range) (fun j H' => Same H1 H' ∧ IPs H' LP (prI i ++ rowI i j)) ⟨s2, by rw [show rowI i 0 = [] from rfl, List.append_nil]; exact ip⟩ (fun _ _ _ _ => trivial) ?_ ?_
          · rintro j v H5 H4 hj ⟨s4, ip4⟩ ⟨rfl, rfl⟩
            refine ⟨rfl, tyes_of ?_⟩
            refine ⟨_, rfl, _, rfl, by show 2 ≤ sizeLine; decide, fun q hq => ?_⟩
            have s5 := Same.new (o := .tup [V.int (0 + j), V.int (0 + i)]) hq
            have eq : (upd H4 q (.tup [V.int (0 + j), V.int (0 + i)])) q = some (.tup [V.int (j : Int), V.int (i : Int)]) := by rw [upd_same, Int.zero_add, Int.zero_add]
            have l1 := prI_len i (by omega)
            have rl : (rowI i j).length = j := by
              unfold rowI
              rw [List.length_map, List.length_range]
            have lr : (prI i ++ rowI i j).length < 1000 := by
              rw [List.length_append, rl]
              omega
            obtain ⟨acc, c1, c2, c3, c4⟩ := ips_add hLP (Same.trans s4 s5) (ip4.same s5) lr eq
            refine ⟨acc, c1, c2, c3, ?_⟩
            rw [rowI_succ, ← List.append_assoc]
            exact c4
          · rintro H4 ⟨s4, ip4⟩
            exact ⟨s4, by rw [prI_succ]; exact ip4⟩
        · rintro H2 ⟨s2, ip2⟩
          rw [show ((ys.length : Int)).toNat = ys.length from by omega] at ip2
          obtain ⟨as2, e2, pa2⟩ := ip2
          have s12 := Same.trans s1 s2
          have l28 := prI_len ys.length l8
          refine ⟨_, rfl, LP, rfl, ⟨_, SqL.of e2⟩, fun D hD => ?_⟩
          refine lc_it (walk_list (xs := as2.map V.ref)) (fun i H' => Same H2 H' ∧ H' D = some (.lst ((((prI ys.length).take i).map (pairOk tie ps ys)).map V.bl))) ⟨Same.new hD, upd_same⟩ (fun i H' _ ⟨s3, _⟩ => SqL.of (s3 _ _ e2)) ?_ ?_
          · rintro i v H3 H4 hi ⟨s3, e3⟩ ⟨rfl, hy⟩
            obtain ⟨a0, ha0, rfl⟩ := ref_at hy
            obtain ⟨p, hp, pat⟩ := paired_get pa2 ha0
            have pat3 := s3 _ _ pat
            refine ⟨a0, _, rfl, SqT.of pat3, rfl, _, _, rfl, _, _, rfl, rfl, rfl, ?_⟩
            obtain ⟨m, n', mn, nn, ep⟩ := mem_prI.mp (List.mem_of_getElem? hp)
            obtain ⟨y, hy1⟩ : ∃ y, ys[m]? = some y := ⟨_, List.getElem?_eq_getElem (by omega)⟩
            obtain ⟨z, hz1⟩ : ∃ z, ys[n']? = some z := ⟨_, List.getElem?_eq_getElem nn⟩
            have k1 : atI (ys.map V.str) p.1 = some (.str y) := by
              rw [ep]
              exact atI_nat (j := m) (by rw [List.getElem?_map, hy1]; rfl)
            have k2 : atI (ys.map V.str) p.2 = some (.str z) := by
              rw [ep]
              exact atI_nat (j := n') (by rw [List.getElem?_map, hz1]; rfl)
            have k7 : pairOk tie ps ys p = decide (V.bl (tie y z) = V.bl (decide (p ∈ ps))) := by
              unfold pairOk
              rw [ep, show (((m : Int), (n' : Int)) : Int × Int).1.toNat = m from rfl, show (((m : Int), (n' : Int)) : Int × Int).2.toNat = n' from rfl, List.getD_eq_getElem?_getD, List.getD_eq_getElem?_getD, hy1, hz1]
              rfl
            have ht3 := s3 _ _ (s12 _ _ ht)
            have W3 := (W.same s12).same s3
            refine ⟨_, rfl, x, dx, _, rfl, s3 _ _ (s12 _ _ w.at_), rfl, _, rfl, _, rfl, t, _, p.1, _, rfl, rfl, SqT.of ht3, k1, _, rfl, _, rfl, t, _, p.2, _, rfl, rfl, SqT.of ht3, k2, x, zs, tie, y, z, rfl, W3.w, sub y (List.mem_of_getElem? hy1), sub z (List.mem_of_getElem? hz1), ?_⟩
            refine ⟨_, rfl, _, rfl, by show 2 ≤ sizeLine; decide, fun q hq => ?_⟩
            have s4 := Same.new (o := .tup [V.int p.1, V.int p.2]) hq
            obtain ⟨pas, pe, pp⟩ := hd.same (Same.trans s12 (Same.trans s3 s4))
            refine ⟨_, rfl, dI p, ps.map dI, .tup (SqT.of upd_same) (.cons (.int _) (.cons (.int _) .nil)), .lst (SqL.of pe) (dp_ips pp), rfl, shL_dI ps, rfl, ?_⟩
            rw [any_dI]
            refine ⟨_, s4 _ _ e3, by rw [List.length_map, List.length_map, List.length_take, sizeLine_eq]; omega, fun c o ec => by rw [upd_ne (ne_of_none ec hD)]; exact s4 _ _ (s3 _ _ ec), ?_⟩
            rw [upd_same, take_snoc hp, List.map_append, List.map_append, ← k7]
            rfl
          · rintro H3 ⟨s3, e3⟩
            rw [List.length_map, ← pa2.length, List.take_length] at e3
            refine ⟨D, _, rfl, SqL.of e3, ?_⟩
            rw [show (((prI ys.length).map (pairOk tie ps ys)).all id) = (prI ys.length).all (pairOk tie ps ys) from by rw [List.all_map]; rfl]
            refine k _ H3 (s12.trans s3) ?_
            rw [pairs_ok]
            constructor
            · exact fun h => ⟨ys, rfl, sub, nd, h⟩
            · rintro ⟨us, e, _, _, h⟩
              obtain rfl := inj e
              exact h
end
end V0
namespace V0
open PySem PySem.Spec PyProof.Rows L2
/-! ### how groups are listed -/
def genF (p : Str → Gr → Bool) (zs : List Str) : List Gr := zs.foldl (fun acc z => acc ++ (acc.filter (p z)).map (fun g => g ++ [z])) [[]]
theorem genF_snoc {p : Str → Gr → Bool} {zs : List Str} {z : Str} : genF p (zs ++ [z]) = genF p zs ++ ((genF p zs).filter (p z)).map (fun g => g ++ [z]) := by
  unfold genF
  rw [List.foldl_append]
  rfl
theorem snoc_ind {C : List Str → Prop} (h0 : C []) (h1 : ∀ zs z, C zs → C (zs ++ [z])) : ∀ zs, C zs := fun zs => by
  have go : ∀ n (zs : List Str), zs.length = n → C zs := fun n => by
    induction n with
    | zero => intro zs h; rw [List.length_eq_zero_iff.mp h]; exact h0
    | succ n ih =>
      intro zs h
      have ne : zs ≠ [] := fun e => by rw [e] at h; cases h
      rw [← List.dropLast_concat_getLast ne]
      exact h1 _ _ (ih _ (by rw [List.length_dropLast]; omega))
  exact go _ zs rfl
def OkF (p : Str → Gr → Bool) (g : Gr) : Prop := ∀ pre z suf, g = pre ++ z :: suf → p z pre = true
theorem okF_snoc {p : Str → Gr → Bool} {h : Gr} {z : Str} : OkF p (h ++ [z]) ↔ OkF p h ∧ p z h = true := by
  constructor
  · intro q
    exact ⟨fun pre w suf e => q pre w (suf ++ [z]) (by rw [e, List.append_assoc]; rfl), q h z [] rfl⟩
  · rintro ⟨q1, q2⟩ pre w suf e
    by_cases ne : suf = []
    · subst ne
      obtain ⟨e1, e2⟩ := List.append_inj' e rfl
      injection e2 with e2 _
      rw [← e1, ← e2]
      exact q2
    · rw [← List.dropLast_concat_getLast ne] at e
      have e : h ++ [z] = (pre ++ w :: suf.dropLast) ++ [suf.getLast ne] := by rw [e, List.append_assoc]; rfl
      obtain ⟨e1, _⟩ := List.append_inj' e rfl
      exact q1 pre w _ e1
theorem mem_genF {p : Str → Gr → Bool} : ∀ (zs : List Str) (g : Gr), g ∈ genF p zs ↔ g.Sublist zs ∧ OkF p g := by
  refine snoc_ind (fun g => ?_) fun zs z ih g => ?_
  · show g ∈ [[]] ↔ _
    rw [List.mem_singleton, List.sublist_nil]
    exact ⟨fun e => ⟨e, fun pre z suf q => by rw [e] at q; simp at q⟩, fun q => q.1⟩
  · rw [genF_snoc, List.mem_append, ih, List.mem_map]
    constructor
    · rintro (⟨h1, h2⟩ | ⟨h, hh, rfl⟩)
      · exact ⟨h1.trans (List.sublist_append_left _ _), h2⟩
      · obtain ⟨h1, h2⟩ := List.mem_filter.mp hh
        obtain ⟨h3, h4⟩ := (ih h).mp h1
        exact ⟨List.Sublist.append h3 (List.Sublist.refl _), okF_snoc.mpr ⟨h4, h2⟩⟩
    · rintro ⟨h1, h2⟩
      obtain ⟨l1, l2, rfl, s1, s2⟩ := List.sublist_append_iff.mp h1
      rcases List.sublist_cons_iff.mp s2 with e | ⟨r, e, s3⟩
      · rw [List.sublist_nil.mp e, List.append_nil] at h2 ⊢
        exact .inl ⟨s1, h2⟩
      · rw [List.sublist_nil.mp s3] at e
        subst e
        obtain ⟨q1, q2⟩ := okF_snoc.mp h2
        exact .inr ⟨l1, List.mem_filter.mpr ⟨(ih l1).mpr ⟨s1, q1⟩, q2⟩, rfl⟩
theorem genF_head {p : Str → Gr → Bool} : ∀ zs : List Str, (genF p zs).head? = some [] := by
  refine snoc_ind rfl fun zs z ih => ?_
  rw [genF_snoc, List.head?_append, ih]
  rfl
theorem genF_len {p : Str → Gr → Bool} : ∀ zs : List Str, (genF p zs).length ≤ 2 ^ zs.length := by
  refine snoc_ind (Nat.le_refl _) fun zs z ih => ?_
  rw [genF_snoc, List.length_append, List.length_map, List.length_append, List.length_singleton, Nat.pow_succ]
  have := List.length_filter_le (p z) (genF p zs)
  omega
theorem genF_nd {p : Str → Gr → Bool} : ∀ zs : List Str, zs.Nodup → (genF p zs).Nodup := by
  refine snoc_ind (fun _ => by show [([] : Gr)].Nodup; simp) fun zs z ih nd => ?_
  obtain ⟨n1, _, n3⟩ := List.nodup_append.mp nd
  rw [genF_snoc]
  refine List.nodup_append.mpr ⟨ih n1, List.Pairwise.map _ (fun a b ne e => ne (List.append_inj' e rfl).1) ((ih n1).sublist List.filter_sublist), fun a ha b hb e => ?_⟩
  obtain ⟨h, _, rfl⟩ := List.mem_map.mp hb
  have hs := ((mem_genF zs a).mp ha).1
  have hz : z ∈ a := by rw [e]; simp
  exact n3 z (hs.subset hz) z (by simp) rfl
theorem len256 {zs : List Str} (h : zs.length ≤ 8) {p : Str → Gr → Bool} : (genF p zs).length ≤ 256 := Nat.le_trans (genF_len zs) (Nat.le_trans (Nat.pow_le_pow_right (by decide) h) (by decide))
theorem pw_split {R : Str → Str → Prop} : ∀ {g : Gr}, g.Pairwise R ↔ ∀ pre z suf, g = pre ++ z :: suf → ∀ y ∈ pre, R y z := fun {g} => by
  constructor
  · rintro h pre z suf rfl y hy
    exact (List.pairwise_append.mp h).2.2 y hy z (by simp)
  · intro h
    refine List.pairwise_iff_getElem.mpr fun i j hi hj lt => ?_
    have e : g = g.take j ++ g[j] :: g.drop (j + 1) := by
      rw [← List.drop_eq_getElem_cons hj, List.take_append_drop]
    exact h _ _ _ e _ (List.mem_iff_getElem.mpr ⟨i, by rw [List.length_take]; omega, by rw [List.getElem_take]⟩)
/-- a loose group: no two of it are tied -/
def Ls (tie : Str → Str → Bool) (g : Gr) : Prop := g.Pairwise fun a b => tie a b = false
instance {tie : Str → Str → Bool} : DecidablePred (Ls tie) := fun g => by unfold Ls; infer_instance
def meetB (g bs : List Str) : Bool := g.any fun z => decide (z ∈ bs)
theorem meet_nbs {zs : List Str} {tie : Str → Str → Bool} {g : Gr} {z : Str} (h : ∀ y ∈ g, y ∈ zs) : meetB g (nbs zs tie z) = g.any fun y => tie z y := by
  unfold meetB nbs
  rw [Bool.eq_iff_iff, List.any_eq_true, List.any_eq_true]
  constructor
  · rintro ⟨y, hy, e⟩
    rw [decide_eq_true_iff, List.mem_filter] at e
    exact ⟨y, hy, e.2⟩
  · rintro ⟨y, hy, e⟩
    exact ⟨y, hy, by rw [decide_eq_true_iff, List.mem_filter]; exact ⟨h y hy, e⟩⟩
theorem okF_ls {zs : List Str} {tie : Str → Str → Bool} (T : Tie tie) {g : Gr} (hg : ∀ y ∈ g, y ∈ zs) : OkF (fun z h => !meetB h (nbs zs tie z)) g ↔ Ls tie g := by
  unfold Ls OkF
  rw [pw_split]
  refine forall_congr' fun pre => forall_congr' fun z => forall_congr' fun suf => ?_
  constructor
  · intro q e y hy
    have q := q e
    rw [Bool.not_eq_true', meet_nbs (fun w hw => hg w (by rw [e]; simp [hw])), List.any_eq_false] at q
    rw [T.sym]
    simpa using q y hy
  · intro q e
    rw [Bool.not_eq_true', meet_nbs (fun w hw => hg w (by rw [e]; simp [hw])), List.any_eq_false]
    intro y hy
    rw [T.sym, q e y hy]
    decide
/-- the group is loose, and each other thing meets it -/
def fullB (zs : List Str) (tie : Str → Str → Bool) (g : Gr) : Bool := zs.all fun z => decide (z ∈ g) || meetB g (nbs zs tie z)
def LsG (zs : List Str) (tie : Str → Str → Bool) (g : Gr) : Prop := g.Sublist zs ∧ g ≠ [] ∧ Ls tie g
def FuG (zs : List Str) (tie : Str → Str → Bool) (g : Gr) : Prop := LsG zs tie g ∧ fullB zs tie g = true
/-- the tuple at p lists, ascending, the groups with P -/
def IsGT (H : Hp) (p : Addr) (P : Gr → Prop) : Prop := ∃ L, GrsT H p L ∧ AscG L ∧ (∀ g, g ∈ L ↔ P g) ∧ L.length ≤ 256
theorem IsGT.same {H H' : Hp} {p : Addr} {P : Gr → Prop} (h : IsGT H p P) (s : Same H H') : IsGT H' p P := by
  obtain ⟨L, h1, h2⟩ := h
  exact ⟨L, h1.same s, h2⟩
theorem ltT_nil (g : Gr) : ltT g [] = false := by
  cases g <;> rfl
/-- what stands behind the empty group -/
theorem asc_nil {L : List Gr} (h : AscG L) (m : [] ∈ L) : AscG (L.drop 1) ∧ ∀ g, g ∈ L.drop 1 ↔ g ∈ L ∧ g ≠ [] := by
  cases L with
  | nil => cases m
  | cons g L =>
    have h2 := List.pairwise_cons.mp h
    have e : g = [] := by
      rcases List.mem_cons.mp m with e | e
      · exact e.symm
      · have := h2.1 [] e
        rw [ltT_nil] at this
        cases this
    subst e
    refine ⟨h2.2, fun g => ?_⟩
    show g ∈ L ↔ _
    constructor
    · intro hg
      refine ⟨List.mem_cons_of_mem _ hg, fun e => ?_⟩
      rw [e] at hg
      have := h2.1 [] hg
      rw [ltT_nil] at this
      cases this
    · rintro ⟨hg, ne⟩
      exact (List.mem_cons.mp hg).resolve_left ne
end V0

namespace V0
open PySem PySem.Spec PyProof.Rows L2
/-- a group that stands at the end of a list of groups -/
theorem grsL_add {H0 H : Hp} {D b : Addr} {qs : List Gr} {p : Gr} (hD : H0 D = none) (s : Same H0 H) (h : GrsL H D qs) (l : qs.length < 1000) (hb : GrAt H p b) :
    ∃ acc, H D = some (.lst acc) ∧ acc.length < sizeLine ∧ Same H0 (upd H D (.lst (acc ++ [.ref b]))) ∧ GrsL (upd H D (.lst (acc ++ [.ref b]))) D (qs ++ [p]) := by
  obtain ⟨as, e, pa⟩ := h
  have nD : ∀ {q : Gr} {a : Addr}, GrAt H q a → a ≠ D := fun {q a} ea z => by rw [z] at ea; rw [show H D = _ from ea] at e; cases e
  refine ⟨_, e, by rw [List.length_map, ← pa.length, sizeLine_eq]; omega, fun c o ec => ?_, as ++ [b], by rw [upd_same, List.map_append]; rfl, ?_⟩
  · rw [upd_ne (ne_of_none ec hD)]
    exact s _ _ ec
  · refine paired_snoc (paired_mono (fun q a (ea : GrAt H q a) => ?_) pa) ?_
    · show upd _ D _ a = _
      rw [upd_ne (nD ea)]
      exact ea
    · show upd _ D _ b = _
      rw [upd_ne (nD hb)]
      exact hb
theorem GrsL.nil {H : Hp} {D : Addr} : GrsL (upd H D (.lst [])) D [] := ⟨[], upd_same, .nil⟩
def spCheckWeb (C : Addr) : Sp := fun vs H Q _ => ∃ (x : Addr) (zs : List Str) (tie : Str → Str → Bool), vs = [.ref x] ∧ Wbs C H x zs tie ∧ Q .non H
def spMeets : Sp := fun vs H Q _ => ∃ (g b : Addr) (gs bs : List Str), vs = [.ref g, .ref b] ∧ H g = some (tupS gs) ∧ H b = some (tupS bs) ∧ gs.length ≤ 100 ∧ ∀ H', Same H H' → Q (.bl (meetB gs bs)) H'
def spGroups (C : Addr) : Sp := fun vs H Q _ => ∃ (x : Addr) (zs : List Str) (tie : Str → Str → Bool), vs = [.ref x] ∧ Wbs C H x zs tie ∧ ∀ p H', Same H H' → IsGT H' p (fun g => g.Sublist zs) → Q (.ref p) H'
def spLooseGs (C : Addr) : Sp := fun vs H Q _ => ∃ (x : Addr) (zs : List Str) (tie : Str → Str → Bool), vs = [.ref x] ∧ Wbs C H x zs tie ∧ ∀ p H', Same H H' → IsGT H' p (LsG zs tie) → Q (.ref p) H'
section
variable {P : Program} {w : World} {K : PySem.W.Frag} {mg : Str → Option Value} {base : Heap} {C : Addr}
abbrev s_check_web : Stmt := top 21
abbrev N_check_web : List Str := ["web"]
abbrev P_check_web : List Str := ["web"]
theorem sc_check_web : FnScope N_check_web P_check_web (defScope s_check_web) := ⟨rfl, rfl, rfl, by decide +kernel, rfl, by decide +kernel, by decide +kernel⟩
theorem ok_check_web {f : Addr} {fd : FuncData} (B : Bl mg) (KWeb : Kls K mg "Web" C) (D : Df K mg "check_web" s_check_web P_check_web f fd) : FnOk P w K mg base CX0 1 f fd P_check_web (spCheckWeb C) := by
  refine D.F.ok sc_check_web (fun vs H Q E h => ?_) (fun cdv A outer s H vs Q E hr h => ?_)
  · obtain ⟨x, zs, tie, rfl, _⟩ := h
    rfl
  · obtain ⟨x, zs, tie, rfl, W, k⟩ := h
    obtain ⟨dx, fx, ix⟩ := W.ins
    exact ⟨_, (pss_one (ps_if (pt_not (pt_val (pe_callB call_isi (by rfl) B.b_isinstance (by decide +kernel) (pa_cons (pv 0) (pa_cons (pe_gv rfl KWeb.gv) pa_nil))))) (pss_one ps_never) pss_nil)), _, rfl, _, _, _, _, _, rfl, .own C, KWeb.ins ix, Kls.self, _, rfl, iteF k⟩
abbrev s__meets : Stmt := top 36
abbrev N__meets : List Str := ["group", "beside", "thing"]
abbrev P__meets : List Str := ["group", "beside"]
theorem sc__meets : FnScope N__meets P__meets (defScope s__meets) := ⟨rfl, rfl, rfl, by decide +kernel, rfl, by decide +kernel, by decide +kernel⟩
theorem ok_meets {f : Addr} {fd : FuncData} (B : Bl mg) (D : Df K mg "_meets" s__meets P__meets f fd) : FnOk P w K mg base CX0 1 f fd P__meets spMeets := by
  refine D.F.ok sc__meets (fun vs H Q E h => ?_) (fun cdv A outer s H vs Q E hr h => ?_)
  · obtain ⟨g, b, gs, bs, rfl, _⟩ := h
    rfl
  · obtain ⟨g, b, gs, bs, rfl, hg, hb, few, k⟩ := h
    refine ⟨_, (pss_one (ps_ret (pe_callB (cr_any rfl) (by rfl) B.b_any (by decide +kernel) (pa_cons (pe_lc (own := [("thing", 2)]) (g := gName 2) (tt := tYes) rfl sc__meets.nd (pi_tup (pv 0)) (blkOk_by (own := [("thing", 2)]) (N := N__meets) (sc := defScope s__meets) (by decide +kernel)) (fun _ _ _ _ _ => (pg_name (i := 2) sc__meets.nd rfl (Or.inl rfl))) (fun _ _ _ _ _ => pts_nil) (fun _ _ _ _ _ => (show PE _ _ (tOp (rIn K false) (tVar 2) (tVar 1)) from by exact (pe_cmpR op_in_seq (pv 2) (pv 1) (by rfl))))) pa_nil)))), ?_⟩
    refine ⟨_, rfl, g, rfl, ⟨_, SqT.of hg⟩, fun L hL => ?_⟩
    refine lc_it (walk_tup (xs := gs.map V.str)) (fun i H' => Same H H' ∧ H' L = some (.lst (((gs.take i).map fun z => decide (z ∈ bs)).map V.bl))) ⟨Same.new hL, upd_same⟩ (fun i H' _ ⟨s1, _⟩ => SqT.of (s1 _ _ hg)) ?_ ?_
    · rintro i x H1 H2 hi ⟨s1, h1⟩ ⟨rfl, hx⟩
      obtain ⟨z, hz, rfl⟩ := str_at hx
      rw [List.length_map] at hi
      refine ⟨rfl, _, rfl, _, rfl, b, _, rfl, .inr (SqT.of (s1 _ _ hb)), rfl, flat_map bs, ?_⟩
      rw [show (if false = true then !inV (V.str z) (bs.map V.str) else inV (V.str z) (bs.map V.str)) = decide (z ∈ bs) from inV_str _ _]
      refine ⟨_, h1, ?_, fun c o ec => ?_, ?_⟩
      · rw [List.length_map, List.length_map, List.length_take, sizeLine_eq]
        omega
      · rw [upd_ne (ne_of_none ec hL)]
        exact s1 _ _ ec
      · rw [upd_same, take_snoc hz, List.map_append, List.map_append]
        rfl
    · rintro H1 ⟨s1, h1⟩
      rw [List.length_map, List.take_length] at h1
      refine ⟨L, _, rfl, SqL.of h1, ?_⟩
      rw [show ((gs.map fun z => decide (z ∈ bs)).any id) = meetB gs bs from by rw [List.any_map]; rfl]
      exact k H1 s1
abbrev s_groups : Stmt := top 30
abbrev N_groups : List Str := ["web", "found", "thing", "group"]
abbrev P_groups : List Str := ["web"]
theorem sc_groups : FnScope N_groups P_groups (defScope s_groups) := ⟨rfl, rfl, rfl, by decide +kernel, rfl, by decide +kernel, by decide +kernel⟩
theorem ok_groups {f f1 p2 f2 : Addr} {fd fd1 fd2 : FuncData} (B : Bl mg) (M : Bm mg) (KWeb : Kls K mg "Web" C) (N : WbN K C) (Y_Web_things : Pr K "Web.things" "things" C s_Web_things P_Web_things p2 f2 fd2) (D_check_web : Df K mg "check_web" s_check_web P_check_web f1 fd1) (D : Df K mg "groups" s_groups P_groups f fd) : FnOk P w K mg base CX0 3 f fd P_groups (spGroups C) := by
  have G_check_web : FnOk P w K mg base CX0 1 f1 fd1 P_check_web (spCheckWeb C) := ok_check_web B KWeb D_check_web
  have G_Web_things : FnOk P w K mg base CX0 1 f2 fd2 P_Web_things (spThW C) := ok_thW KWeb N Y_Web_things
  refine D.F.ok sc_groups (fun vs H Q E h => ?_) (fun cdv A outer s H vs Q E hr h => ?_)
  · obtain ⟨x, zs, tie, rfl, _⟩ := h
    rfl
  · obtain ⟨x, zs, tie, rfl, W, k⟩ := h
    refine ⟨_, (pss_cons (ps_expr (pe_call G_check_web (hr.mono (by decide)) (by rfl) D_check_web.g D_check_web.F.kp D_check_web.b .nil pass0 (pa_cons (pv 0) pa_nil)))
      (pss_cons (ps_set (i := 1) sc_groups.nd rfl (Or.inl rfl) (pe_lst (pa_cons (pe_tup pa_nil) pa_nil)))
      (pss_cons (ps_for PassesOwn.never rfl (pi_tup (pe_prop (pv 0) KWeb.cl Y_Web_things.pr G_Web_things (hr.mono (by decide)) Y_Web_things.b .nil pass0 rfl)) (pg_name (i := 2) sc_groups.nd rfl (Or.inr rfl)) (pss_one (ps_set (i := 1) sc_groups.nd rfl (Or.inl rfl) (pe_op op_cat (pv 1) (pe_lc (own := [("group", 3)]) (g := gName 3) (tt := tYes) rfl sc_groups.nd (pi_list (pv 1)) (blkOk_by (own := [("group", 3)]) (N := N_groups) (sc := defScope s_groups) (by decide +kernel)) (fun _ _ _ _ _ => (pg_name (i := 3) sc_groups.nd rfl (Or.inl rfl))) (fun _ _ _ _ _ => pts_nil) (fun _ _ _ _ _ => (show PE _ _ (tOp rCatB (tVar 3) (tTup (tCons (tVar 2) tNil))) from by exact (pe_op op_catB (pv 3) (pe_tup (pa_cons (pv 2) pa_nil))))))))))
      (pss_one (ps_ret (show PE _ _ (tCB (rTupOf K) (tCons (tCB rSortedGr (tCons (tVar 1) tNil)) tNil)) from by exact (pe_callTy cr_tupOf (by rfl) B.b_tuple (by decide +kernel) (pa_cons (pe_callB (cr_sortedGr (Room.units65 hr)) (by rfl) M.b_sorted (by decide +kernel) (pa_cons (pv 1) pa_nil)) pa_nil)))))))), ?_⟩
    obtain ⟨dx, t, c, bb, as, bs, w⟩ := id W.w
    have z8 := W.z.l8
    refine ⟨_, rfl, x, zs, tie, rfl, W, ?_⟩
    refine ⟨Nat.zero_le _, fun e he => ⟨by show 1 ≤ sizeLine; decide, fun l hl => ?_⟩⟩
    have s0 := Same.new (o := .tup []) he
    have ee : GrAt (upd H e (.tup [])) [] e := upd_same
    generalize upd H e (.tup []) = H0 at s0 ee hl ⊢
    have s1 := Same.new (o := .lst [V.ref e]) hl
    have gl : GrsL (upd H0 l (.lst [V.ref e])) l [[]] := ⟨[e], upd_same, .cons (GrAt.same ee s1) .nil⟩
    have s01 := Same.trans s0 s1
    generalize upd H0 l (.lst [V.ref e]) = H1 at s1 gl s01 ⊢
    refine ⟨_, rfl, x, dx, _, rfl, s01 _ _ w.at_, x, dx, t, c, bb, rfl, s01 _ _ w.at_, t, rfl, ⟨_, SqT.of (s01 _ _ w.th)⟩, ?_⟩
    refine for_it (walk_tup (xs := zs.map V.str)) (fun i σ H' => Same H1 H' ∧ ∃ l o2 o3, σ = [some (.ref x), some (.ref l), o2, o3] ∧ GrsL H' l (genF (fun _ _ => true) (zs.take i))) ⟨Same.refl _, l, none, none, rfl, gl⟩ (fun i σ H' _ ⟨s2, _⟩ => SqT.of (s2 _ _ (s01 _ _ w.th))) ?_ ?_
    · rintro i v σ H2 H3 hi ⟨s2, l2, o2, o3, rfl, gl2⟩ ⟨rfl, hy⟩
      obtain ⟨z, hz, rfl⟩ := str_at hy
      obtain ⟨as2, el2, pa2⟩ := id gl2
      have l256 : (genF (fun _ _ => true) (zs.take i)).length ≤ 256 := len256 (by rw [List.length_take]; omega)
      refine ⟨_, rfl, _, rfl, l2, rfl, ⟨_, SqL.of el2⟩, fun D hD => ?_⟩
      refine lc_it (walk_list (xs := as2.map V.ref)) (fun j H' => Same H3 H' ∧ GrsL H' D (((genF (fun _ _ => true) (zs.take i)).take j).map fun g => g ++ [z])) ⟨Same.new hD, GrsL.nil⟩ (fun j H' _ ⟨s5, _⟩ => SqL.of (s5 _ _ el2)) ?_ ?_
      · rintro j v H5 H6 hj ⟨s5, pd⟩ ⟨rfl, hy2⟩
        obtain ⟨a0, ha0, rfl⟩ := ref_at hy2
        obtain ⟨g0, hg0, pat⟩ := paired_get pa2 ha0
        have pat := GrAt.same pat s5
        rw [List.length_map, ← pa2.length] at hj
        have sub := ((mem_genF _ _).mp (List.mem_of_getElem? hg0)).1.length_le
        rw [List.length_take] at sub
        refine ⟨rfl, _, rfl, _, rfl, by show 1 ≤ sizeLine; decide, fun q hq => ?_⟩
        have s6 := Same.new (o := .tup [V.str z]) hq
        refine ⟨a0, q, _, _, rfl, rfl, s6 _ _ pat, upd_same, by rw [List.length_map, List.length_singleton, sizeLine_eq]; omega, fun r H7 s7 er => ?_⟩
        have s67 := Same.trans s6 s7
        have er : GrAt H7 (g0 ++ [z]) r := by
          show H7 r = some (.tup ((g0 ++ [z]).map V.str))
          rw [er, List.map_append]
          rfl
        rw [take_snoc hg0, List.map_append]
        exact grsL_add hD (Same.trans s5 s67) (pd.same s67) (by rw [List.length_map, List.length_take]; omega) er
      · rintro H5 ⟨s5, pd⟩
        rw [List.length_map, ← pa2.length, List.take_length] at pd
        obtain ⟨as4, e4, pa4⟩ := pd
        have pa2' := paired_mono (fun _ _ e => GrAt.same e s5) pa2
        have l4 := pa4.length
        have l3 := pa2.length
        rw [List.length_map] at l4
        refine ⟨l2, D, _, _, rfl, rfl, s5 _ _ el2, e4, by rw [List.length_map, List.length_map, sizeLine_eq]; omega, fun r hr => ?_⟩
        refine ⟨Same.trans s2 (Same.trans s5 (Same.new hr)), r, _, _, rfl, ⟨as2 ++ as4, by rw [upd_same, List.map_append], ?_⟩⟩
        rw [take_snoc hz, genF_snoc, List.filter_eq_self.mpr fun _ _ => rfl]
        exact paired_mono (fun _ _ e => GrAt.same e (Same.new hr)) (paired_app2 pa2' pa4)
    · rintro σ H2 ⟨s2, l2, o2, o3, rfl, gl2⟩
      rw [List.length_map, List.take_length] at gl2
      refine ⟨_, rfl, l2, _, rfl, gl2, Nat.le_trans (len256 z8) (by decide), genF_nd _ W.z.asc.nd, .inl (genF_head _), fun q L H3 s3 nq pm aL ⟨as3, e3, pa3⟩ => ?_⟩
      refine ⟨q, _, rfl, .inl ⟨SqL.of e3, fun r hr => ?_⟩⟩
      have s4 := Same.new (o := .tup (as3.map V.ref)) hr
      refine k r _ (Same.trans s01 (Same.trans s2 (Same.trans s3 s4))) ⟨L, ⟨as3, upd_same, paired_mono (fun _ _ e => GrAt.same e s4) pa3⟩, aL, fun g => ?_, by rw [pm.length_eq]; exact len256 z8⟩
      rw [pm.mem_iff, mem_genF]
      exact ⟨fun h => h.1, fun h => ⟨h, fun _ _ _ _ => rfl⟩⟩
end
end V0

namespace V0
open PySem PySem.Spec PyProof.Rows L2
theorem ls_all {zs : List Str} {tie : Str → Str → Bool} (T : Tie tie) {g : Gr} (hg : ∀ y ∈ g, y ∈ zs) : (g.all fun z => !meetB g (nbs zs tie z)) = decide (Ls tie g) := by
  rw [Bool.eq_iff_iff, List.all_eq_true, decide_eq_true_iff]
  constructor
  · intro h
    refine List.pairwise_iff_getElem.mpr fun i j hi hj _ => ?_
    have q := h g[i] (List.getElem_mem hi)
    rw [Bool.not_eq_true', meet_nbs hg, List.any_eq_false] at q
    simpa using q g[j] (List.getElem_mem hj)
  · intro h z hz
    rw [Bool.not_eq_true', meet_nbs hg, List.any_eq_false]
    intro y hy
    have all : ∀ a ∈ g, ∀ b ∈ g, tie a b = false := fun a ha b hb => by
      obtain ⟨i, hi, rfl⟩ := List.mem_iff_getElem.mp ha
      obtain ⟨j, hj, rfl⟩ := List.mem_iff_getElem.mp hb
      rcases Nat.lt_trichotomy i j with l | l | l
      · exact List.pairwise_iff_getElem.mp h i j hi hj l
      · subst l; exact T.irr _
      · rw [T.sym]; exact List.pairwise_iff_getElem.mp h j i hj hi l
    rw [all z hz y hy]
    decide
theorem paired_drop {α β : Type} {R : α → β → Prop} : ∀ {xs : List α} {ys : List β}, Paired R xs ys → ∀ n, Paired R (xs.drop n) (ys.drop n)
  | _, _, .nil, n => by rw [List.drop_nil, List.drop_nil]; exact .nil
  | _, _, .cons a b, 0 => .cons a b
  | _, _, .cons a b, n + 1 => paired_drop b n
def spIsGroupW (C : Addr) : Sp := fun vs H Q _ => ∃ (x : Addr) (zs : List Str) (tie : Str → Str → Bool) (v : V) (o : Option Gr), vs = [.ref x, v] ∧ Wbs C H x zs tie ∧ VG H zs v o ∧ ∀ H', Same H H' → Q (.bl o.isSome) H'
def spIsLoose (C : Addr) : Sp := fun vs H Q _ => ∃ (x : Addr) (zs : List Str) (tie : Str → Str → Bool) (v : V) (o : Option Gr), vs = [.ref x, v] ∧ Wbs C H x zs tie ∧ VG H zs v o ∧ ∀ H', Same H H' → Q (.bl (o.any fun g => decide (Ls tie g))) H'
def spIsKnot (C : Addr) : Sp := fun vs H Q _ => ∃ (x : Addr) (zs : List Str) (tie : Str → Str → Bool) (v : V) (o : Option Gr), vs = [.ref x, v] ∧ Wbs C H x zs tie ∧ VG H zs v o ∧ ∀ H', Same H H' → Q (.bl (o.any fun g => decide (Ls (tieTurn tie) g))) H'
def spIsFull (C : Addr) : Sp := fun vs H Q _ => ∃ (x a : Addr) (zs : List Str) (tie : Str → Str → Bool) (g : Gr), vs = [.ref x, .ref a] ∧ Wbs C H x zs tie ∧ GrAt H g a ∧ g.length ≤ 100 ∧ ∀ H', Same H H' → Q (.bl (fullB zs tie g)) H'
section
variable {P : Program} {w : World} {K : PySem.W.Frag} {mg : Str → Option Value} {base : Heap} {C : Addr}
abbrev s_loose_groups : Stmt := top 31
abbrev N_loose_groups : List Str := ["web", "found", "thing", "beside", "group"]
abbrev P_loose_groups : List Str := ["web"]
theorem sc_loose_groups : FnScope N_loose_groups P_loose_groups (defScope s_loose_groups) := ⟨rfl, rfl, rfl, by decide +kernel, rfl, by decide +kernel, by decide +kernel⟩
theorem ok_loose_groups {f f1 p2 f2 f3 f4 : Addr} {fd fd1 fd2 fd3 fd4 : FuncData} (B : Bl mg) (M : Bm mg) (KWeb : Kls K mg "Web" C) (N : WbN K C) (Y_Web_things : Pr K "Web.things" "things" C s_Web_things P_Web_things p2 f2 fd2) (D_check_web : Df K mg "check_web" s_check_web P_check_web f1 fd1)
    (D__meets : Df K mg "_meets" s__meets P__meets f4 fd4) (Y_Web_beside : Md K "Web.beside" "beside" C s_Web_beside P_Web_beside f3 fd3) (G_Web_beside : FnOk P w K mg base CX0 3 f3 fd3 P_Web_beside (spBesideW C)) (D : Df K mg "loose_groups" s_loose_groups P_loose_groups f fd) : FnOk P w K mg base CX0 4 f fd P_loose_groups (spLooseGs C) := by
  have G_check_web : FnOk P w K mg base CX0 1 f1 fd1 P_check_web (spCheckWeb C) := ok_check_web B KWeb D_check_web
  have G_Web_things : FnOk P w K mg base CX0 1 f2 fd2 P_Web_things (spThW C) := ok_thW KWeb N Y_Web_things
  have G__meets : FnOk P w K mg base CX0 1 f4 fd4 P__meets spMeets := ok_meets B D__meets
  refine D.F.ok sc_loose_groups (fun vs H Q E h => ?_) (fun cdv A outer s H vs Q E hr h => ?_)
  · obtain ⟨x, zs, tie, rfl, _⟩ := h
    rfl
  · obtain ⟨x, zs, tie, rfl, W, k⟩ := h
    refine ⟨_, (pss_cons (ps_expr (pe_call G_check_web (hr.mono (by decide)) (by rfl) D_check_web.g D_check_web.F.kp D_check_web.b .nil pass0 (pa_cons (pv 0) pa_nil)))
      (pss_cons (ps_set (i := 1) sc_loose_groups.nd rfl (Or.inl rfl) (pe_lst (pa_cons (pe_tup pa_nil) pa_nil)))
      (pss_cons (ps_for PassesOwn.never rfl (pi_tup (pe_prop (pv 0) KWeb.cl Y_Web_things.pr G_Web_things (hr.mono (by decide)) Y_Web_things.b .nil pass0 rfl)) (pg_name (i := 2) sc_loose_groups.nd rfl (Or.inr rfl)) (pss_cons (ps_set (i := 3) sc_loose_groups.nd rfl (Or.inr rfl) (pe_meth (pv 0) KWeb.cl Y_Web_beside.m G_Web_beside (hr.mono (by decide)) Y_Web_beside.b .nil pass0 (pa_cons (pv 2) pa_nil)))
      (pss_one (ps_set (i := 1) sc_loose_groups.nd rfl (Or.inl rfl) (pe_op op_cat (pv 1) (pe_lc (own := [("group", 4)]) (g := gName 4) rfl sc_loose_groups.nd (pi_list (pv 1)) (blkOk_by (own := [("group", 4)]) (N := N_loose_groups) (sc := defScope s_loose_groups) (by decide +kernel)) (fun _ _ _ _ _ => (pg_name (i := 4) sc_loose_groups.nd rfl (Or.inl rfl))) (fun _ _ _ _ _ => pts_one (pt_not (pt_val (pe_call G__meets (hr.mono (by decide)) (by rfl) D__meets.g D__meets.F.kp D__meets.b .nil pass0 (pa_cons (pv 4) (pa_cons (pv 3) pa_nil)))))) (fun _ _ _ _ _ => (show PE _ _ (tOp rCatB (tVar 4) (tTup (tCons (tVar 2) tNil))) from by exact (pe_op op_catB (pv 4) (pe_tup (pa_cons (pv 2) pa_nil)))))))))))
      (pss_one (ps_ret (pe_callTy call_tuple_of (by rfl) B.b_tuple (by decide +kernel) (pa_cons (pe_slice sl_list (pe_callB (cr_sortedGr (Room.units65 hr)) (by rfl) M.b_sorted (by decide +kernel) (pa_cons (pv 1) pa_nil)) (po_some pe_int) po_none) pa_nil))))))), ?_⟩
    obtain ⟨dx, t, c, bb, as, bs, w⟩ := id W.w
    have z8 := W.z.l8
    refine ⟨_, rfl, x, zs, tie, rfl, W, ?_⟩
    refine ⟨Nat.zero_le _, fun e he => ⟨by show 1 ≤ sizeLine; decide, fun l hl => ?_⟩⟩
    have s0 := Same.new (o := .tup []) he
    have ee : GrAt (upd H e (.tup [])) [] e := upd_same
    generalize upd H e (.tup []) = H0 at s0 ee hl ⊢
    have s1 := Same.new (o := .lst [V.ref e]) hl
    have gl : GrsL (upd H0 l (.lst [V.ref e])) l [[]] := ⟨[e], upd_same, .cons (GrAt.same ee s1) .nil⟩
    have s01 := Same.trans s0 s1
    generalize upd H0 l (.lst [V.ref e]) = H1 at s1 gl s01 ⊢
    refine ⟨_, rfl, x, dx, _, rfl, s01 _ _ w.at_, x, dx, t, c, bb, rfl, s01 _ _ w.at_, t, rfl, ⟨_, SqT.of (s01 _ _ w.th)⟩, ?_⟩
    have W1 := W.same s01
    generalize hp : (fun (z : Str) (h : Gr) => !meetB h (nbs zs tie z)) = pf
    refine for_it (walk_tup (xs := zs.map V.str)) (fun i σ H' => Same H1 H' ∧ ∃ l o2 o3 o4, σ = [some (.ref x), some (.ref l), o2, o3, o4] ∧ GrsL H' l (genF pf (zs.take i))) ⟨Same.refl _, l, none, none, none, rfl, gl⟩ (fun i σ H' _ ⟨s2, _⟩ => SqT.of (s2 _ _ (s01 _ _ w.th))) ?_ ?_
    · rintro i v σ H2 H3 hi ⟨s2, l2, o2, o3, o4, rfl, gl2⟩ ⟨rfl, hy⟩
      obtain ⟨z, hz, rfl⟩ := str_at hy
      obtain ⟨as2, el2, pa2⟩ := id gl2
      have l256 : (genF pf (zs.take i)).length ≤ 256 := len256 (by rw [List.length_take]; omega)
      have W3 := W1.same s2
      obtain ⟨dx3, t3, c3, bb3, as3, bs3, w3⟩ := id W3.w
      refine ⟨_, rfl, x, dx3, _, rfl, w3.at_, rfl, _, rfl, x, zs, tie, z, rfl, W3.w, List.mem_of_getElem? hz, fun b hb => ?_⟩
      refine ⟨_, rfl, _, rfl, l2, rfl, ⟨_, SqL.of el2⟩, fun D hD => ?_⟩
      refine lc_it (walk_list (xs := as2.map V.ref)) (fun j H' => Same H3 H' ∧ GrsL H' D ((((genF pf (zs.take i)).take j).filter (pf z)).map fun g => g ++ [z])) ⟨Same.new hD, GrsL.nil⟩ (fun j H' _ ⟨s5, _⟩ => SqL.of (s5 _ _ el2)) ?_ ?_
      · rintro j v H5 H6 hj ⟨s5, pd⟩ ⟨rfl, hy2⟩
        obtain ⟨a0, ha0, rfl⟩ := ref_at hy2
        obtain ⟨g0, hg0, pat⟩ := paired_get pa2 ha0
        have pat := GrAt.same pat s5
        rw [List.length_map, ← pa2.length] at hj
        have sub := ((mem_genF _ _).mp (List.mem_of_getElem? hg0)).1.length_le
        rw [List.length_take] at sub
        refine ⟨rfl, _, rfl, _, rfl, a0, b, g0, _, rfl, pat, s5 _ _ hb, by omega, fun H7 s7 => ?_⟩
        have e1 : pf z g0 = !meetB g0 (nbs zs tie z) := by rw [← hp]
        cases hm : meetB g0 (nbs zs tie z) with
        | true =>
          refine ⟨_, rfl, ite2 (fun z => by cases z) (fun _ => ⟨Same.trans s5 s7, ?_⟩)⟩
          rw [hm] at e1
          rw [take_snoc hg0, List.filter_append, List.filter_cons_of_neg (by rw [e1]; decide), List.filter_nil, List.append_nil]
          exact pd.same s7
        | false =>
          rw [hm] at e1
          refine ⟨_, rfl, ite2 (fun _ => ?_) (fun z => absurd rfl z)⟩
          refine ⟨_, rfl, _, rfl, by show 1 ≤ sizeLine; decide, fun q hq => ?_⟩
          have s6 := Same.new (o := .tup [V.str z]) hq
          refine ⟨a0, q, _, _, rfl, rfl, s6 _ _ (GrAt.same pat s7), upd_same, by rw [List.length_map, List.length_singleton, sizeLine_eq]; omega, fun r H8 s8 er => ?_⟩
          have s68 := Same.trans s7 (Same.trans s6 s8)
          have er : GrAt H8 (g0 ++ [z]) r := by
            show H8 r = some (.tup ((g0 ++ [z]).map V.str))
            rw [er, List.map_append]
            rfl
          rw [take_snoc hg0, List.filter_append, List.filter_cons_of_pos (by rw [e1]; rfl), List.filter_nil, List.map_append]
          have lf := List.length_filter_le (pf z) ((genF pf (zs.take i)).take j)
          rw [List.length_take] at lf
          exact grsL_add hD (Same.trans s5 s68) (pd.same s68) (by rw [List.length_map]; omega) er
      · rintro H5 ⟨s5, pd⟩
        rw [List.length_map, ← pa2.length, List.take_length] at pd
        obtain ⟨as4, e4, pa4⟩ := pd
        have pa2' := paired_mono (fun _ _ e => GrAt.same e s5) pa2
        have l4 := pa4.length
        have l3 := pa2.length
        have lf := List.length_filter_le (pf z) (genF pf (zs.take i))
        rw [List.length_map] at l4
        refine ⟨l2, D, _, _, rfl, rfl, s5 _ _ el2, e4, by rw [List.length_map, List.length_map, sizeLine_eq]; omega, fun r hr => ?_⟩
        refine ⟨Same.trans s2 (Same.trans s5 (Same.new hr)), r, _, _, _, rfl, ⟨as2 ++ as4, by rw [upd_same, List.map_append], ?_⟩⟩
        rw [take_snoc hz, genF_snoc]
        exact paired_mono (fun _ _ e => GrAt.same e (Same.new hr)) (paired_app2 pa2' pa4)
    · rintro σ H2 ⟨s2, l2, o2, o3, o4, rfl, gl2⟩
      rw [List.length_map, List.take_length] at gl2
      refine ⟨_, rfl, l2, _, rfl, gl2, Nat.le_trans (len256 z8) (by decide), genF_nd _ W.z.asc.nd, .inl (genF_head _), fun q L H3 s3 nq pm aL ⟨as3, e3, pa3⟩ => ?_⟩
      have ll : L.length ≤ 256 := by rw [pm.length_eq]; exact len256 z8
      have l3 := pa3.length
      refine ⟨_, rfl, q, _, rfl, SqL.of e3, fun cc hcc => ?_⟩
      rw [cutV_one, ← List.map_drop]
      have s4 := Same.new (o := .lst ((as3.drop 1).map V.ref)) hcc
      refine ⟨cc, _, rfl, .inl ⟨SqL.of upd_same, fun r hr => ?_⟩⟩
      have s5 := Same.new (o := .tup ((as3.drop 1).map V.ref)) hr
      have s45 := Same.trans s4 s5
      have m0 : [] ∈ L := pm.mem_iff.mpr ((mem_genF _ _).mpr ⟨List.nil_sublist _, fun pre z suf e => by simp at e⟩)
      obtain ⟨d1, d2⟩ := asc_nil aL m0
      refine k r _ (Same.trans s01 (Same.trans s2 (Same.trans s3 s45))) ⟨L.drop 1, ⟨as3.drop 1, upd_same, paired_drop (paired_mono (fun _ _ e => GrAt.same e s45) pa3) 1⟩, d1, fun g => ?_, by rw [List.length_drop]; omega⟩
      rw [d2, pm.mem_iff, mem_genF, ← hp]
      constructor
      · rintro ⟨⟨h1, h2⟩, h3⟩
        exact ⟨h1, h3, (okF_ls W.t fun y hy => h1.subset hy).mp h2⟩
      · rintro ⟨h1, h3, h2⟩
        exact ⟨⟨h1, (okF_ls W.t fun y hy => h1.subset hy).mpr h2⟩, h3⟩
end
end V0
namespace V0
open PySem PySem.Spec PyProof.Rows L2
theorem cfl_part {zs us : List Str} {tie : Str → Str → Bool} (asc : Asc zs) (sub : us.Sublist zs) : (cfl zs tie).filter (fun p => decide (p.1 ∈ us) && decide (p.2 ∈ us)) = cfl us tie := by
  have asu : Asc us := asc.sublist sub
  have e : ((cfl zs tie).filter (fun p => decide (p.1 ∈ us) && decide (p.2 ∈ us))).map pk = (cfl us tie).map pk := by
    have h1 := cfl_asc (tie := tie) asc
    have h2 := cfl_asc (tie := tie) asu
    have h3 : (((cfl zs tie).filter (fun p => decide (p.1 ∈ us) && decide (p.2 ∈ us))).map pk).Pairwise fun a b => ltT a b = true := h1.sublist (List.filter_sublist.map pk)
    refine ltT_one h3 h2 (perm_nodup_iff (h3.imp fun {a b} q e => by rw [e, ltT_self] at q; cases q) (h2.imp fun {a b} q e => by rw [e, ltT_self] at q; cases q) fun k => ?_)
    rw [List.mem_map, List.mem_map]
    constructor
    · rintro ⟨p, hp, rfl⟩
      obtain ⟨h, h'⟩ := List.mem_filter.mp hp
      rw [Bool.and_eq_true, decide_eq_true_iff, decide_eq_true_iff] at h'
      have m := (mem_cfl asc).mp (show (p.1, p.2) ∈ _ from h)
      exact ⟨p, (mem_cfl asu).mpr ⟨h'.1, h'.2, m.2.2.1, m.2.2.2⟩, rfl⟩
    · rintro ⟨p, hp, rfl⟩
      have m := (mem_cfl asu).mp (show (p.1, p.2) ∈ _ from hp)
      exact ⟨p, List.mem_filter.mpr ⟨(mem_cfl asc).mpr ⟨sub.subset m.1, sub.subset m.2.1, m.2.2.1, m.2.2.2⟩, by rw [decide_eq_true m.1, decide_eq_true m.2.1]; rfl⟩, rfl⟩
  exact (List.map_inj_right (f := pk) fun a b h => pk_inj h).mp e
end V0


namespace V0
open PySem PySem.Spec PyProof.Rows L2
def spCheckGroup (C : Addr) : Sp := fun vs H Q _ => ∃ (x a : Addr) (zs : List Str) (tie : Str → Str → Bool) (g : Gr), vs = [.ref x, .ref a] ∧ Wbs C H x zs tie ∧ GrAt H g a ∧ g.Sublist zs ∧ ∀ H', Same H H' → Q .non H'
def spPartW (C : Addr) : Sp := fun vs H Q _ => ∃ (x a : Addr) (zs : List Str) (tie : Str → Str → Bool) (g : Gr), vs = [.ref x, .ref a] ∧ Wbs C H x zs tie ∧ GrAt H g a ∧ g.Sublist zs ∧ g ≠ [] ∧ ∀ y H', Same H H' → H y = none → Wbs C H' y g tie → Q (.ref y) H'
section
variable {P : Program} {w : World} {K : PySem.W.Frag} {mg : Str → Option Value} {base : Heap} {C : Addr}
abbrev s_check_group : Stmt := top 23
abbrev N_check_group : List Str := ["web", "group"]
abbrev P_check_group : List Str := ["web", "group"]
theorem sc_check_group : FnScope N_check_group P_check_group (defScope s_check_group) := ⟨rfl, rfl, rfl, by decide +kernel, rfl, by decide +kernel, by decide +kernel⟩
theorem ok_check_group {f f2 f3 p3 : Addr} {fd fd2 fd3 : FuncData} (B : Bl mg) (M : Bm mg) (KWeb : Kls K mg "Web" C) (N : WbN K C) (Y_Web_things : Pr K "Web.things" "things" C s_Web_things P_Web_things p3 f3 fd3) (D_is_group_of : Df K mg "is_group_of" s_is_group_of P_is_group_of f2 fd2) (D : Df K mg "check_group" s_check_group P_check_group f fd) : FnOk P w K mg base CX0 3 f fd P_check_group (spCheckGroup C) := by
  have G_is_group_of : FnOk P w K mg base CX0 1 f2 fd2 P_is_group_of spIsGrp := ok_is_grp B M D_is_group_of
  have G_Web_things : FnOk P w K mg base CX0 1 f3 fd3 P_Web_things (spThW C) := ok_thW KWeb N Y_Web_things
  refine D.F.ok sc_check_group (fun vs H Q E h => ?_) (fun cdv A outer s H vs Q E hr h => ?_)
  · obtain ⟨x, a, zs, tie, g, rfl, _⟩ := h
    rfl
  · obtain ⟨x, a, zs, tie, g, rfl, W, ha, sub, k⟩ := h
    obtain ⟨dx, t, c, bb, as, bs, w⟩ := id W.w
    exact ⟨_, (pss_one (ps_if (pt_not (pt_val (pe_call G_is_group_of (hr.mono (by decide)) (by rfl) D_is_group_of.g D_is_group_of.F.kp D_is_group_of.b .nil pass0 (pa_cons (pe_prop (pv 0) KWeb.cl Y_Web_things.pr G_Web_things (hr.mono (by decide)) Y_Web_things.b .nil pass0 rfl) (pa_cons (pv 1) pa_nil))))) (pss_one ps_never) pss_nil)), _, rfl, x, dx, _, rfl, w.at_, x, dx, t, c, bb, rfl, w.at_, _, rfl, t, zs, _, some g, rfl, w.th, W.z.asc, W.z.l8, ⟨a, rfl, ha, W.z.asc.sublist sub, fun z hz => sub.subset hz⟩, fun H1 s1 => ⟨_, rfl, iteF (k H1 s1)⟩⟩
abbrev s_Web_part : Stmt := inClass (top 17) 9
abbrev N_Web_part : List Str := ["self", "group", "one", "other"]
abbrev P_Web_part : List Str := ["self", "group"]
theorem sc_Web_part : FnScope N_Web_part P_Web_part (defScope s_Web_part) := ⟨rfl, rfl, rfl, by decide +kernel, rfl, by decide +kernel, by decide +kernel⟩
theorem ok_partW {f fi f1 : Addr} {fd fdi fd1 : FuncData} (B : Bl mg) (KWeb : Kls K mg "Web" C) (N : WbN K C) (Y_init : WbK K C fi fdi s_Web_init P_Web_init) (G_init : FnOk P w K mg base CX0 4 fi fdi P_Web_init (spWeb C)) (D_check_group : Df K mg "check_group" s_check_group P_check_group f1 fd1) (G_check_group : FnOk P w K mg base CX0 3 f1 fd1 P_check_group (spCheckGroup C))
    (Y : Md K "Web.part" "part" C s_Web_part P_Web_part f fd) : FnOk P w K mg base CX0 6 f fd P_Web_part (spPartW C) := by
  refine Y.F.ok sc_Web_part (fun vs H Q E h => ?_) (fun cdv A outer s H vs Q E hr h => ?_)
  · obtain ⟨x, a, zs, tie, g, rfl, _⟩ := h
    rfl
  · obtain ⟨x, a, zs, tie, g, rfl, W, ha, sub, ne, k⟩ := h
    refine ⟨_, (pss_cons (ps_expr (pe_call G_check_group (hr.mono (by decide)) (by rfl) D_check_group.g D_check_group.F.kp D_check_group.b .nil pass0 (pa_cons (pv 0) (pa_cons (pv 1) pa_nil))))
      (pss_cons (ps_if (pt_cmpR (op_eqD hr.units) (pv 1) (pe_tup pa_nil) (nomark _)) (pss_one ps_never) pss_nil)
      (pss_one (ps_ret (pe_make Y_init.mkC G_init (hr.mono (by decide)) (by rfl) KWeb.g Y_init.b .nil pass0 (pa_cons (pv 1) (pa_cons (pe_callTy call_tuple_of (by rfl) B.b_tuple (by decide +kernel) (pa_cons (pe_lc (own := [("one", 2), ("other", 3)]) (g := gTup K 2 (gCons (gName 2) (gCons (gName 3) (gNil)))) rfl sc_Web_part.nd (pi_tup (pe_fld (pv 0) rfl)) (blkOk_by (own := [("one", 2), ("other", 3)]) (N := N_Web_part) (sc := defScope s_Web_part) (by decide +kernel)) (fun _ _ _ _ _ => (pg_tup rfl (pgs_cons (pg_name (i := 2) sc_Web_part.nd rfl (Or.inl rfl)) (pgs_cons (pg_name (i := 3) sc_Web_part.nd rfl (Or.inl rfl)) pgs_nil)))) (fun _ _ _ _ _ => pts_one (PW.pt (pw_and (show PT _ _ (tTest (tOp (rIn K false) (tVar 2) (tVar 1))) from by exact (pt_cmpR op_in_seq (pv 2) (pv 1) (by rfl))) (pw_and1 (show PT _ _ (tTest (tOp (rIn K false) (tVar 3) (tVar 1))) from by exact (pt_cmpR op_in_seq (pv 3) (pv 1) (by rfl))))))) (fun _ _ _ _ _ => (pe_tup (pa_cons (pv 2) (pa_cons (pv 3) pa_nil))))) pa_nil)) pa_nil))))))), ?_⟩
    refine ⟨_, rfl, _, rfl, x, a, zs, tie, g, rfl, W, ha, sub, fun H1 s1 => ?_⟩
    have W1 := W.same s1
    have ha1 := s1 _ _ ha
    have zg : Zs g := ⟨W.z.asc.sublist sub, fun z hz => W.z.nm z (sub.subset hz), List.length_pos_iff.mpr ne, Nat.le_trans sub.length_le W.z.l8⟩
    refine ⟨_, rfl, Nat.zero_le _, fun e he => ?_⟩
    have s2 := Same.new (o := .tup []) he
    have ee : (upd H1 e (.tup [])) e = some (.tup []) := upd_same
    generalize upd H1 e (.tup []) = H2 at s2 ee ⊢
    have s12 := Same.trans s1 s2
    refine ⟨dG g, .tuple [], dp_gr (GrAt.same ha1 s2), .tup (SqT.of ee) .nil, sh_dG1 g (fun z hz => low_ok (zg.nm z hz).1), by decide, _, rfl, ?_⟩
    have eg : PyData.eqv (dG g) (.tuple []) = false := by
      have := eqv_dG g []
      rw [decide_eq_false ne] at this
      exact this
    rw [eg]
    refine ite2 (fun z => by cases z) (fun _ => ?_)
    have W2 := W.same s12
    obtain ⟨dx, t, c, bb, as, bs, w⟩ := id W2.w
    have ha2 := s2 _ _ ha1
    have cn := cfl_nm (tie := tie) W.z
    have cl := cfl_len (tie := tie) W.z.l8
    refine ⟨_, rfl, _, rfl, x, C, dx, _, _, rfl, w.at_, KWeb.cl, N.n2, rfl, c, rfl, ⟨_, SqT.of w.cf⟩, fun L hL => ?_⟩
    have cp := w.cp
    refine lc_it (walk_tup (xs := as.map V.ref)) (fun i H' => Same H2 H' ∧ PrsL H' L (((cfl zs tie).take i).filter fun p => decide (p.1 ∈ g) && decide (p.2 ∈ g))) ⟨Same.new hL, PrsL.nil⟩ (fun i H' _ ⟨s9, _⟩ => SqT.of (s9 _ _ w.cf)) ?_ ?_
    · rintro i v H3 H4 hi ⟨s3, pd⟩ ⟨rfl, hy⟩
      rw [List.length_map] at hi
      obtain ⟨a0, ha0, rfl⟩ := ref_at hy
      obtain ⟨p, hp, pat⟩ := paired_get cp ha0
      have pat1 := PrAt.same pat s3
      have ha3 := s3 _ _ ha2
      have il : i < 64 := by rw [← cp.length] at hi; omega
      refine ⟨a0, [.str p.1, .str p.2], rfl, SqT.of pat1, rfl, _, _, rfl, _, _, rfl, rfl, rfl, _, rfl, _, rfl, a, _, rfl, .inr (SqT.of ha3), rfl, flat_map g, _, rfl, ?_⟩
      rw [show (if false = true then !inV (V.str p.1) (g.map V.str) else inV (V.str p.1) (g.map V.str)) = decide (p.1 ∈ g) from inV_str _ _]
      have stay : ∀ b : Bool, b = (decide (p.1 ∈ g) && decide (p.2 ∈ g)) → b = false → PrsL H4 L (((cfl zs tie).take (i + 1)).filter fun p => decide (p.1 ∈ g) && decide (p.2 ∈ g)) := fun b e1 e2 => by
        rw [take_snoc hp, List.filter_append, List.filter_cons_of_neg (p := fun p : Pai => decide (p.1 ∈ g) && decide (p.2 ∈ g)) (by rw [← e1, e2]; decide), List.filter_nil, List.append_nil]
        exact pd
      by_cases h1 : p.1 ∈ g
      · rw [decide_eq_true h1]
        refine ⟨_, rfl, _, rfl, a, _, rfl, .inr (SqT.of ha3), rfl, flat_map g, _, rfl, ?_⟩
        rw [show (if false = true then !inV (V.str p.2) (g.map V.str) else inV (V.str p.2) (g.map V.str)) = decide (p.2 ∈ g) from inV_str _ _]
        by_cases h2 : p.2 ∈ g
        · rw [decide_eq_true h2]
          refine ⟨_, rfl, _, rfl, by show 2 ≤ sizeLine; decide, fun b hb => ?_⟩
          rw [take_snoc hp, List.filter_append, List.filter_cons_of_pos (p := fun p : Pai => decide (p.1 ∈ g) && decide (p.2 ∈ g)) (by rw [decide_eq_true h1, decide_eq_true h2]; rfl), List.filter_nil]
          exact prsL_push (p := p) hL s3 pd (by have := List.length_filter_le (fun p : Pai => decide (p.1 ∈ g) && decide (p.2 ∈ g)) ((cfl zs tie).take i); rw [List.length_take] at this; omega) hb
        · rw [decide_eq_false h2]
          exact ⟨s3, stay false (by rw [decide_eq_false h2, Bool.and_false]) rfl⟩
      · rw [decide_eq_false h1]
        exact ⟨s3, stay false (by rw [decide_eq_false h1, Bool.false_and]) rfl⟩
    rintro H3 ⟨s3, pd⟩
    rw [List.length_map, ← cp.length, List.take_of_length_le (Nat.le_refl _), cfl_part W.z.asc sub] at pd
    obtain ⟨as2, e2, pa2⟩ := pd
    refine ⟨L, _, rfl, .inl ⟨SqL.of e2, fun q hq => ?_⟩⟩
    have s4 := Same.new (o := .tup (as2.map V.ref)) hq
    have s14 := Same.trans s12 (Same.trans s3 s4)
    have e4 : (upd H3 q (.tup (as2.map V.ref))) q = some (.tup (as2.map V.ref)) := upd_same
    have pa4 := paired_mono (fun _ _ e => PrAt.same e s4) pa2
    generalize upd H3 q (.tup (as2.map V.ref)) = H4 at s4 s14 e4 pa4 ⊢
    refine mk_web (s14 _ _ ha) zg.nz zg.asc (List.Perm.refl _) e4 pa4 (cfl_ok zg.asc) ?_ fun y H5 s5 ny Wy => k y H5 (Same.trans s14 s5) (none_up s14 ny) (Wy.congr (fun a ha b hb => tieP_cfl zg.asc W.t ha hb) W.t)
    have h2 := prs_28 zg.l8
    have h3 : (cfl g tie).length ≤ (prs g).length := List.length_filter_le _ _
    omega
end
end V0

namespace V0
open PySem PySem.Spec PyProof.Rows L2
abbrev s_some_of : Stmt := top 62
abbrev N_some_of : List Str := ["_law_pot_here", "_law_items", "_law_one"]
abbrev P_some_of : List Str := ["_law_pot_here", "_law_items"]
theorem sc_some_of : FnScope N_some_of P_some_of (defScope s_some_of) := ⟨rfl, rfl, rfl, by decide +kernel, rfl, by decide +kernel, by decide +kernel⟩
end V0

namespace V0
open PySem PySem.Spec PyProof.Rows L2
theorem filter_one {α : Type} {f : α → Bool} {a : α} : [a].filter f = if f a = true then [a] else [] := by
  by_cases h : f a = true
  · rw [if_pos h, List.filter_cons_of_pos h]; rfl
  · rw [if_neg h, List.filter_cons_of_neg h]; rfl
theorem shL_strs (zs : List Str) (h : ∀ z ∈ zs, PyData.strOk z = true) : SeqAt.shaped (.list (zs.map PyData.str)) = true := by
  show (PyData.canLayAll0 (zs.map PyData.str) && decide (PyData.depthAll (zs.map PyData.str) + 1 ≤ 64)) = true
  rw [canLay_strs zs h, depth_strs]
  rfl
def spSomeN : Sp := fun vs H Q _ => ∃ (p t : Addr) (zs : List Str), vs = [.ref p, .ref t] ∧ Pot H p ∧ H t = some (tupS zs) ∧ zs.length ≤ 8 ∧ ∀ b g H', Pot H' p → But p H H' → H b = none → GrAt H' g b → g.Sublist zs → Q (.ref b) H'
def spGroupOf : Sp := fun vs H Q _ => ∃ (p q : Addr) (zs : List Str) (tie : Str → Str → Bool), vs = [.ref p, .ref q] ∧ Pot H p ∧ IsPl H q zs tie ∧ zs.length ≤ 8 ∧ ∀ b g H', Pot H' p → But p H H' → H b = none → GrAt H' g b → g.Sublist zs → Q (.ref b) H'
def spTiedL : Sp := fun vs H Q _ => ∃ (q : Addr) (a b : Str) (zs : List Str) (tie : Str → Str → Bool), vs = [.ref q, .str a, .str b] ∧ IsPl H q zs tie ∧ Zs zs ∧ Tie tie ∧ a ∈ zs ∧ b ∈ zs ∧ a ≠ b ∧ ∀ H', Same H H' → Q (.bl (tie a b)) H'
def spIsIn : Sp := fun vs H Q _ => ∃ (a b : Addr) (g h : Gr), vs = [.ref a, .ref b] ∧ GrAt H g a ∧ GrAt H h b ∧ g.length ≤ 100 ∧ (∀ z ∈ g, PyData.strOk z = true) ∧ ∀ H', Same H H' → Q (.bl (g.all fun z => decide (z ∈ h))) H'
section
variable {P : Program} {w : World} {K : PySem.W.Frag} {mg : Str → Option Value} {base : Heap} {C : Addr}
theorem ok_some_n {f f1 : Addr} {fd fd1 : FuncData} (B : Bl mg) (D_stir : Df K mg "_law_stir" s_stir P_stir f1 fd1) (D : Df K mg "_law_some_of" s_some_of P_some_of f fd) : FnOk P w K mg base CX0 2 f fd P_some_of spSomeN := by
  have G_stir : FnOk P w K mg base CX0 1 f1 fd1 P_stir spStir := ok_stir B D_stir
  refine D.F.ok sc_some_of (fun vs H Q E h => ?_) (fun cdv A outer s H vs Q E hr h => ?_)
  · obtain ⟨p, l, ps, rfl, _⟩ := h
    rfl
  · obtain ⟨p, t, zs, rfl, hp, ht, few, k⟩ := h
    refine ⟨_, (pss_one (ps_ret (pe_callTy call_tuple_of (by rfl) B.b_tuple (by decide +kernel) (pa_cons (pe_lc (own := [("_law_one", 2)]) (g := gName 2) rfl sc_some_of.nd (pi_tup (pv 1)) (blkOk_by (own := [("_law_one", 2)]) (N := N_some_of) (sc := defScope s_some_of) (by decide +kernel)) (fun _ _ _ _ _ => (pg_name (i := 2) sc_some_of.nd rfl (Or.inl rfl))) (fun _ _ _ _ _ => pts_one (pt_cmpR op_eq (pe_call G_stir (hr.mono (by decide)) (by rfl) D_stir.g D_stir.F.kp D_stir.b .nil pass0 (pa_cons (pv 0) (pa_cons pe_int pa_nil))) pe_int (nomark _))) (fun _ _ _ _ _ => (pv 2))) pa_nil)))), ?_⟩
    have ntp := tup_np ht hp
    refine ⟨_, rfl, t, rfl, ⟨_, SqT.of ht⟩, fun D hD => ?_⟩
    have nDp := pot_ne hp hD
    refine lc_it (walk_tup (xs := zs.map V.str)) (fun i H' => Pot H' p ∧ But p H H' ∧ ∃ g : Gr, H' D = some (.lst (g.map V.str)) ∧ g.Sublist (zs.take i)) ⟨hp.same (Same.new hD), But.of (Same.new hD), [], upd_same, List.nil_sublist _⟩ (fun i H' _ ⟨_, b4, _⟩ => SqT.of (b4 _ _ ht ntp)) ?_ ?_
    · rintro i v H1 H2 hi ⟨p1, b1, g, pd, sub⟩ ⟨rfl, hy⟩
      obtain ⟨z, hz, rfl⟩ := str_at hy
      refine ⟨rfl, _, rfl, p, _, rfl, p1, by decide, by decide, fun r H3 r0 r1 p3 b3 => ?_⟩
      have b03 := b1.trans b3
      have pd3 := b3 _ _ pd nDp
      have sub1 : g.Sublist (zs.take (i + 1)) := by
        rw [take_snoc hz]
        exact sub.trans (List.sublist_append_left _ _)
      refine ⟨rfl, _, rfl, ite2 (fun _ => ?_) (fun _ => ⟨p3, b03, g, pd3, sub1⟩)⟩
      refine ⟨_, rfl, _, pd3, ?_, pot_upd p3 nDp, fun b o eb n => ?_, g ++ [z], ?_, ?_⟩
      · have := sub.length_le
        rw [List.length_map, sizeLine_eq]
        rw [List.length_take] at this
        omega
      · rw [upd_ne (ne_of_none eb hD)]
        exact b03 _ _ eb n
      · rw [upd_same, List.map_append]
        rfl
      · rw [take_snoc hz]
        exact sub.append_right _
    · rintro H1 ⟨p1, b1, g, pd, sub⟩
      rw [List.length_map, List.take_length] at sub
      refine ⟨D, _, rfl, .inl ⟨SqL.of pd, fun b hb => ?_⟩⟩
      have s2 := Same.new (o := .tup (g.map V.str)) hb
      exact k b g _ (p1.same s2) (b1.trans (But.of s2)) (none_but b1 p1 hb).1 upd_same sub
abbrev s_are_tied : Stmt := top 52
abbrev N_are_tied : List Str := ["_law_plain_here", "_law_one", "_law_other"]
abbrev P_are_tied : List Str := ["_law_plain_here", "_law_one", "_law_other"]
theorem sc_are_tied : FnScope N_are_tied P_are_tied (defScope s_are_tied) := ⟨rfl, rfl, rfl, by decide +kernel, rfl, by decide +kernel, by decide +kernel⟩
theorem ok_tiedL {f : Addr} {fd : FuncData} (B : Bl mg) (D : Df K mg "_law_are_tied" s_are_tied P_are_tied f fd) : FnOk P w K mg base CX0 1 f fd P_are_tied spTiedL := by
  refine D.F.ok sc_are_tied (fun vs H Q E h => ?_) (fun cdv A outer s H vs Q E hr h => ?_)
  · obtain ⟨q, a, b, zs, tie, rfl, _⟩ := h
    rfl
  · obtain ⟨q, a, b, zs, tie, rfl, pl, hz, T, ha, hb, ne, k⟩ := h
    refine ⟨_, (pss_one (ps_ret (pe_cmpR (op_inD (Room.units65 hr)) (pe_tup (pa_cons (pe_callB (cr_min2S rfl) (by rfl) B.b_min (by decide +kernel) (pa_cons (pv 1) (pa_cons (pv 2) pa_nil))) (pa_cons (pe_callB (cr_max2S rfl) (by rfl) B.b_max (by decide +kernel) (pa_cons (pv 1) (pa_cons (pv 2) pa_nil))) pa_nil))) (pe_dget (hu_of hr) (pv 0) pe_str (fun _ _ => rfl)) (by rfl)))), ?_⟩
    obtain ⟨t, l, e1, e2, e3⟩ := id pl
    refine ⟨_, rfl, _, rfl, a, b, rfl, _, rfl, _, rfl, a, b, rfl, by show 2 ≤ sizeLine; decide, fun r hr => ?_⟩
    refine ⟨_, rfl, q, .ref l, rfl, .inl ⟨_, .inr "ties", .inl ((Same.new hr) _ _ e1), rfl, plF_ties.symm⟩, ?_⟩
    have s1 := Same.new (o := .tup [V.str (loS a b), V.str (hiS a b)]) hr
    have er : PrAt (upd H r (.tup [V.str (loS a b), V.str (hiS a b)])) (loS a b, hiS a b) r := upd_same
    generalize upd H r (.tup [V.str (loS a b), V.str (hiS a b)]) = H1 at s1 er ⊢
    obtain ⟨as, el, pa⟩ := e3
    have cok := cfl_ok (tie := tie) hz.asc
    have nz := hz.nz
    have el1 := s1 _ _ el
    have pa1 := paired_mono (fun _ _ e => PrAt.same e s1) pa
    have lh : loS a b ∈ zs ∧ hiS a b ∈ zs ∧ (loS a b).cps.toList < (hiS a b).cps.toList ∧ tie (loS a b) (hiS a b) = tie a b := by
      unfold loS hiS
      rcases lt_tri ne with h | h
      · have h' : ¬ b.cps.toList < a.cps.toList := fun z => absurd (List.lt_trans h z) (List.lt_irrefl _)
        rw [if_pos h, if_neg h']
        exact ⟨ha, hb, h, rfl⟩
      · have h' : ¬ a.cps.toList < b.cps.toList := fun z => absurd (List.lt_trans h z) (List.lt_irrefl _)
        rw [if_pos h, if_neg h']
        exact ⟨hb, ha, h, T.sym b a⟩
    refine ⟨dP (loS a b, hiS a b), (cfl zs tie).map dP, dp_pr er, .lst (SqL.of el1) (dp_prs pa1), sh_dP1 ⟨(hz.nm _ lh.1).1, (hz.nm _ lh.2.1).1⟩, shL_dP _ fun q hq => (cok q hq).nm nz, ?_⟩
    have en : (((cfl zs tie).map dP).any fun z => PyData.eqv z (dP (loS a b, hiS a b))) = tie a b := by
      rw [List.any_map, Bool.eq_iff_iff, List.any_eq_true]
      constructor
      · rintro ⟨q, hq, e⟩
        have e : PyData.eqv (dP q) (dP (loS a b, hiS a b)) = true := e
        rw [eqv_dP, decide_eq_true_iff] at e
        rw [← lh.2.2.2]
        rw [e] at hq
        exact ((mem_cfl hz.asc).mp hq).2.2.2
      · intro h
        refine ⟨(loS a b, hiS a b), (mem_cfl hz.asc).mpr ⟨lh.1, lh.2.1, lh.2.2.1, by rw [lh.2.2.2]; exact h⟩, ?_⟩
        show PyData.eqv (dP (loS a b, hiS a b)) (dP (loS a b, hiS a b)) = true
        rw [eqv_dP]
        exact decide_eq_true rfl
    rw [en]
    exact k H1 s1
end
end V0

namespace V0
open PySem PySem.Spec PyProof.Rows L2
def spAllGroups : Sp := fun vs H Q _ => ∃ (t : Addr) (zs : List Str), vs = [.ref t] ∧ H t = some (tupS zs) ∧ zs.length ≤ 8 ∧ ∀ l H', Same H H' → GrsL H' l (genF (fun _ _ => true) zs) → Q (.ref l) H'
def spLLoose : Sp := fun vs H Q _ => ∃ (q a : Addr) (zs : List Str) (tie : Str → Str → Bool) (g : Gr), vs = [.ref q, .ref a] ∧ IsPl H q zs tie ∧ Zs zs ∧ Tie tie ∧ GrAt H g a ∧ g.Sublist zs ∧ ∀ H', Same H H' → Q (.bl (decide (Ls tie g))) H'
def spLKnot : Sp := fun vs H Q _ => ∃ (q a : Addr) (zs : List Str) (tie : Str → Str → Bool) (g : Gr), vs = [.ref q, .ref a] ∧ IsPl H q zs tie ∧ Zs zs ∧ Tie tie ∧ GrAt H g a ∧ g.Sublist zs ∧ ∀ H', Same H H' → Q (.bl (decide (Ls (tieTurn tie) g))) H'
theorem prs_ls {g : Gr} (asc : Asc g) (t : Str → Str → Bool) : ((prs g).filter fun p => t p.1 p.2).isEmpty = decide (Ls t g) := by
  rw [Bool.eq_iff_iff, decide_eq_true_iff, List.isEmpty_iff, List.filter_eq_nil_iff]
  constructor
  · intro h
    refine List.Pairwise.imp_of_mem (fun {a b} ha hb l => ?_) asc
    have := h (a, b) ((mem_prs asc).mpr ⟨ha, hb, l⟩)
    simpa using this
  · intro h p hp
    have m := (mem_prs asc).mp (show (p.1, p.2) ∈ prs g from hp)
    have h2 : g.Pairwise fun a b => a.cps.toList < b.cps.toList ∧ t a b = false := List.Pairwise.and asc h
    obtain ⟨m1, m2, m3⟩ := m
    have key : ∀ g : Gr, (g.Pairwise fun a b => a.cps.toList < b.cps.toList ∧ t a b = false) → p.1 ∈ g → p.2 ∈ g → t p.1 p.2 = false := fun g => by
      induction g with
      | nil => intro _ h; cases h
      | cons x g ih =>
        intro pw m1 m2
        obtain ⟨p1, p2⟩ := List.pairwise_cons.mp pw
        rcases List.mem_cons.mp m1 with e1 | e1
        · rcases List.mem_cons.mp m2 with e2 | e2
          · rw [e1, e2] at m3
            exact absurd m3 (List.lt_irrefl _)
          · rw [e1]
            exact (p1 _ e2).2
        · rcases List.mem_cons.mp m2 with e2 | e2
          · have := (p1 _ e1).1
            rw [← e2] at this
            exact absurd (List.lt_trans m3 this) (List.lt_irrefl _)
          · exact ih p2 e1 e2
    have := key g h2 m1 m2
    rw [this]
    decide
section
variable {P : Program} {w : World} {K : PySem.W.Frag} {mg : Str → Option Value} {base : Heap} {C : Addr}
abbrev s_all_groups : Stmt := top 53
abbrev N_all_groups : List Str := ["_law_things", "_law_found", "_law_one", "_law_some"]
abbrev P_all_groups : List Str := ["_law_things"]
theorem sc_all_groups : FnScope N_all_groups P_all_groups (defScope s_all_groups) := ⟨rfl, rfl, rfl, by decide +kernel, rfl, by decide +kernel, by decide +kernel⟩
theorem ok_all_groups {f : Addr} {fd : FuncData} (B : Bl mg) (D : Df K mg "_law_all_groups" s_all_groups P_all_groups f fd) : FnOk P w K mg base CX0 1 f fd P_all_groups spAllGroups := by
  refine D.F.ok sc_all_groups (fun vs H Q E h => ?_) (fun cdv A outer s H vs Q E hr h => ?_)
  · obtain ⟨t, zs, rfl, _⟩ := h
    rfl
  · obtain ⟨t, zs, rfl, ht, z8, k⟩ := h
    refine ⟨_, (pss_cons (ps_set (i := 1) sc_all_groups.nd rfl (Or.inl rfl) (pe_lst (pa_cons (pe_tup pa_nil) pa_nil)))
      (pss_cons (ps_for PassesOwn.never rfl (pi_tup (pv 0)) (pg_name (i := 2) sc_all_groups.nd rfl (Or.inr rfl)) (pss_one (ps_set (i := 1) sc_all_groups.nd rfl (Or.inl rfl) (pe_op op_cat (pv 1) (pe_lc (own := [("_law_some", 3)]) (g := gName 3) (tt := tYes) rfl sc_all_groups.nd (pi_list (pv 1)) (blkOk_by (own := [("_law_some", 3)]) (N := N_all_groups) (sc := defScope s_all_groups) (by decide +kernel)) (fun _ _ _ _ _ => (pg_name (i := 3) sc_all_groups.nd rfl (Or.inl rfl))) (fun _ _ _ _ _ => pts_nil) (fun _ _ _ _ _ => (show PE _ _ (tOp rCatB (tVar 3) (tTup (tCons (tVar 2) tNil))) from by exact (pe_op op_catB (pv 3) (pe_tup (pa_cons (pv 2) pa_nil))))))))))
      (pss_one (ps_ret (pv 1))))), ?_⟩
    refine ⟨Nat.zero_le _, fun e he => ⟨by show 1 ≤ sizeLine; decide, fun l hl => ?_⟩⟩
    have s0 := Same.new (o := .tup []) he
    have ee : GrAt (upd H e (.tup [])) [] e := upd_same
    generalize upd H e (.tup []) = H0 at s0 ee hl ⊢
    have s1 := Same.new (o := .lst [V.ref e]) hl
    have gl : GrsL (upd H0 l (.lst [V.ref e])) l [[]] := ⟨[e], upd_same, .cons (GrAt.same ee s1) .nil⟩
    have s01 := Same.trans s0 s1
    generalize upd H0 l (.lst [V.ref e]) = H1 at s1 gl s01 ⊢
    refine ⟨_, rfl, t, rfl, ⟨_, SqT.of (s01 _ _ ht)⟩, ?_⟩
    refine for_it (walk_tup (xs := zs.map V.str)) (fun i σ H' => Same H1 H' ∧ ∃ l o2 o3, σ = [some (.ref t), some (.ref l), o2, o3] ∧ GrsL H' l (genF (fun _ _ => true) (zs.take i))) ⟨Same.refl _, l, none, none, rfl, gl⟩ (fun i σ H' _ ⟨s2, _⟩ => SqT.of (s2 _ _ (s01 _ _ ht))) ?_ ?_
    · rintro i v σ H2 H3 hi ⟨s2, l2, o2, o3, rfl, gl2⟩ ⟨rfl, hy⟩
      obtain ⟨z, hz, rfl⟩ := str_at hy
      obtain ⟨as2, el2, pa2⟩ := id gl2
      have l256 : (genF (fun _ _ => true) (zs.take i)).length ≤ 256 := len256 (by rw [List.length_take]; omega)
      refine ⟨_, rfl, _, rfl, l2, rfl, ⟨_, SqL.of el2⟩, fun D hD => ?_⟩
      refine lc_it (walk_list (xs := as2.map V.ref)) (fun j H' => Same H3 H' ∧ GrsL H' D (((genF (fun _ _ => true) (zs.take i)).take j).map fun g => g ++ [z])) ⟨Same.new hD, GrsL.nil⟩ (fun j H' _ ⟨s5, _⟩ => SqL.of (s5 _ _ el2)) ?_ ?_
      · rintro j v H5 H6 hj ⟨s5, pd⟩ ⟨rfl, hy2⟩
        obtain ⟨a0, ha0, rfl⟩ := ref_at hy2
        obtain ⟨g0, hg0, pat⟩ := paired_get pa2 ha0
        have pat := GrAt.same pat s5
        rw [List.length_map, ← pa2.length] at hj
        have sub := ((mem_genF _ _).mp (List.mem_of_getElem? hg0)).1.length_le
        rw [List.length_take] at sub
        refine ⟨rfl, _, rfl, _, rfl, by show 1 ≤ sizeLine; decide, fun q hq => ?_⟩
        have s6 := Same.new (o := .tup [V.str z]) hq
        refine ⟨a0, q, _, _, rfl, rfl, s6 _ _ pat, upd_same, by rw [List.length_map, List.length_singleton, sizeLine_eq]; omega, fun r H7 s7 er => ?_⟩
        have s67 := Same.trans s6 s7
        have er : GrAt H7 (g0 ++ [z]) r := by
          show H7 r = some (.tup ((g0 ++ [z]).map V.str))
          rw [er, List.map_append]
          rfl
        rw [take_snoc hg0, List.map_append]
        exact grsL_add hD (Same.trans s5 s67) (pd.same s67) (by rw [List.length_map, List.length_take]; omega) er
      · rintro H5 ⟨s5, pd⟩
        rw [List.length_map, ← pa2.length, List.take_length] at pd
        obtain ⟨as4, e4, pa4⟩ := pd
        have pa2' := paired_mono (fun _ _ e => GrAt.same e s5) pa2
        have l4 := pa4.length
        have l3 := pa2.length
        rw [List.length_map] at l4
        refine ⟨l2, D, _, _, rfl, rfl, s5 _ _ el2, e4, by rw [List.length_map, List.length_map, sizeLine_eq]; omega, fun r hr => ?_⟩
        refine ⟨Same.trans s2 (Same.trans s5 (Same.new hr)), r, _, _, rfl, ⟨as2 ++ as4, by rw [upd_same, List.map_append], ?_⟩⟩
        rw [take_snoc hz, genF_snoc, List.filter_eq_self.mpr fun _ _ => rfl]
        exact paired_mono (fun _ _ e => GrAt.same e (Same.new hr)) (paired_app2 pa2' pa4)
    · rintro σ H2 ⟨s2, l2, o2, o3, rfl, gl2⟩
      rw [List.length_map, List.take_length] at gl2
      exact ⟨_, rfl, k l2 H2 (Same.trans s01 s2) gl2⟩
abbrev s_lis_loose : Stmt := top 54
abbrev N_lis_loose : List Str := ["_law_plain_here", "_law_some", "_law_pair"]
abbrev P_lis_loose : List Str := ["_law_plain_here", "_law_some"]
theorem sc_lis_loose : FnScope N_lis_loose P_lis_loose (defScope s_lis_loose) := ⟨rfl, rfl, rfl, by decide +kernel, rfl, by decide +kernel, by decide +kernel⟩
theorem ok_lloose {f f1 f2 : Addr} {fd fd1 fd2 : FuncData} (B : Bl mg) (D_all_pairs : Df K mg "_law_all_pairs" s_all_pairs P_all_pairs f1 fd1) (G_all_pairs : FnOk P w K mg base CX0 1 f1 fd1 P_all_pairs spAllPairs) (D_are_tied : Df K mg "_law_are_tied" s_are_tied P_are_tied f2 fd2) (D : Df K mg "_law_is_loose" s_lis_loose P_lis_loose f fd) : FnOk P w K mg base CX0 2 f fd P_lis_loose spLLoose := by
  have G_are_tied : FnOk P w K mg base CX0 1 f2 fd2 P_are_tied spTiedL := ok_tiedL B D_are_tied
  refine D.F.ok sc_lis_loose (fun vs H Q E h => ?_) (fun cdv A outer s H vs Q E hr h => ?_)
  · obtain ⟨q, a, zs, tie, g, rfl, _⟩ := h
    rfl
  · obtain ⟨q, a, zs, tie, g, rfl, pl, hz, T, ha, sub, k⟩ := h
    refine ⟨_, (pss_one (ps_ret (pe_cmpR (op_eqD hr.units) (pe_lc (own := [("_law_pair", 2)]) (g := gName 2) rfl sc_lis_loose.nd (pi_list (pe_call G_all_pairs (hr.mono (by decide)) (by rfl) D_all_pairs.g D_all_pairs.F.kp D_all_pairs.b .nil pass0 (pa_cons (pv 1) pa_nil))) (blkOk_by (own := [("_law_pair", 2)]) (N := N_lis_loose) (sc := defScope s_lis_loose) (by decide +kernel)) (fun _ _ _ _ _ => (pg_name (i := 2) sc_lis_loose.nd rfl (Or.inl rfl))) (fun _ _ _ _ _ => pts_one (show PT _ _ (tTest (tCall spTiedL [] E0 (tCons (tVar 0) (tCons (tOp (rIxT K) (tVar 2) (tC (.int 0))) (tCons (tOp (rIxT K) (tVar 2) (tC (.int 1))) tNil))))) from by exact (pt_val (pe_call G_are_tied (hr.mono (by decide)) (by rfl) D_are_tied.g D_are_tied.F.kp D_are_tied.b .nil pass0 (pa_cons (pv 0) (pa_cons (pe_ix ix_tup (pv 2) pe_int (fun _ _ => rfl)) (pa_cons (pe_ix ix_tup (pv 2) pe_int (fun _ _ => rfl)) pa_nil))))))) (fun _ _ _ _ _ => (pv 2))) (pe_lst pa_nil) (nomark _)))), ?_⟩
    have asu := hz.asc.sublist sub
    have g8 := Nat.le_trans sub.length_le hz.l8
    refine ⟨_, rfl, a, g, rfl, .inr ha, g8, fun l H1 s1 nl pl1 => ?_⟩
    obtain ⟨as, el, pa⟩ := id pl1
    refine ⟨l, rfl, ⟨_, SqL.of el⟩, fun D hD => ?_⟩
    refine lc_it (walk_list (xs := as.map V.ref)) (fun i H' => Same H1 H' ∧ PrsL H' D (((prs g).take i).filter fun p => tie p.1 p.2)) ⟨Same.new hD, PrsL.nil⟩ (fun i H' _ ⟨s9, _⟩ => SqL.of (s9 _ _ el)) ?_ ?_
    · rintro i v H2 H3 hi ⟨s2, pd⟩ ⟨rfl, hy⟩
      rw [List.length_map] at hi
      obtain ⟨a0, ha0, rfl⟩ := ref_at hy
      obtain ⟨p, hp, pat⟩ := paired_get pa ha0
      have pm := (mem_prs asu).mp (show (p.1, p.2) ∈ prs g from List.mem_of_getElem? hp)
      have ne : p.1 ≠ p.2 := fun e => by rw [e] at pm; exact List.lt_irrefl _ pm.2.2
      have pat2 := PrAt.same pat s2
      have pl2 := pl.same (Same.trans s1 s2)
      have il : i < 28 := by have := prs_28 g8; rw [← pa.length] at hi; omega
      refine ⟨rfl, _, rfl, _, rfl, a0, _, _, _, rfl, rfl, SqT.of pat2, rfl, _, rfl, a0, _, _, _, rfl, rfl, SqT.of pat2, rfl, ?_⟩
      refine ⟨q, p.1, p.2, zs, tie, rfl, pl2, hz, T, sub.subset pm.1, sub.subset pm.2.1, ne, fun H4 s4 => ?_⟩
      have pd4 := pd.same s4
      have s24 := Same.trans s2 s4
      rw [take_snoc hp, List.filter_append, filter_one]
      cases hf : tie p.1 p.2 with
      | true =>
        refine ⟨_, rfl, ite2 (fun _ => ?_) (fun z => absurd rfl z)⟩
        obtain ⟨acc, c1, c2, c3, c4⟩ := prsL_add hD s24 pd4 (by have := List.length_filter_le (fun p : Pai => tie p.1 p.2) ((prs g).take i); rw [List.length_take] at this; omega) (PrAt.same pat2 s4)
        exact ⟨_, rfl, acc, c1, c2, c3, c4⟩
      | false =>
        refine ⟨_, rfl, ite2 (fun z => by cases z) (fun _ => ⟨s24, ?_⟩)⟩
        rw [show (if false = true then [p] else ([] : List Pai)) = [] from rfl, List.append_nil]
        exact pd4
    · rintro H2 ⟨s2, pd⟩
      rw [List.length_map, ← pa.length, List.take_length] at pd
      obtain ⟨bs, ed, pb⟩ := pd
      refine ⟨Nat.zero_le _, fun e he => ?_⟩
      have s3 := Same.new (o := .lst []) he
      have k2 := k _ (Same.trans s1 (Same.trans s2 s3))
      refine ⟨.list (((prs g).filter fun p => tie p.1 p.2).map dP), .list [], .lst (SqL.of (s3 _ _ ed)) (dp_prs (paired_mono (fun _ _ e => PrAt.same e s3) pb)), .lst (SqL.of upd_same) .nil, shL_dP _ fun r hr => ?_, by decide, ?_⟩
      · have m := (mem_prs asu).mp (show (r.1, r.2) ∈ prs g from (List.mem_filter.mp hr).1)
        exact ⟨(hz.nm _ (sub.subset m.1)).1, (hz.nm _ (sub.subset m.2.1)).1⟩
      · have ev : ∀ xs : List Pai, PyData.eqv (.list (xs.map dP)) (.list []) = xs.isEmpty := fun xs => by cases xs <;> rfl
        rw [ev, prs_ls asu tie]
        exact k2
end
end V0
namespace V0
open PySem PySem.Spec PyProof.Rows L2
/-! ### the colours of a group -/
/-- a group can be coloured with k colours -/
def Cb (tie : Str → Str → Bool) (g : Gr) (k : Nat) : Prop := ∃ c : Str → Nat, (∀ z ∈ g, c z < k) ∧ ∀ a ∈ g, ∀ b ∈ g, tie a b = true → c a ≠ c b
/-- k colours are the fewest -/
structure IsCol (tie : Str → Str → Bool) (g : Gr) (k : Nat) : Prop where
  cb : Cb tie g k
  least : ∀ j, Cb tie g j → k ≤ j
theorem isCol_one {tie : Str → Str → Bool} {g : Gr} {k j : Nat} (h : IsCol tie g k) (h' : IsCol tie g j) : k = j := Nat.le_antisymm (h.least _ h'.cb) (h'.least _ h.cb)
theorem Cb.sub {tie : Str → Str → Bool} {g h : Gr} {k : Nat} (c : Cb tie g k) (s : ∀ z ∈ h, z ∈ g) : Cb tie h k :=
  c.imp fun _ c => ⟨fun z hz => c.1 z (s z hz), fun a ha b hb => c.2 a (s a ha) b (s b hb)⟩
theorem Cb.up {tie : Str → Str → Bool} {g : Gr} {k j : Nat} (c : Cb tie g k) (l : k ≤ j) : Cb tie g j :=
  c.imp fun _ c => ⟨fun z hz => Nat.lt_of_lt_of_le (c.1 z hz) l, c.2⟩
theorem least_of {p : Nat → Prop} : ∀ n, p n → ∃ k, p k ∧ ∀ j, p j → k ≤ j := fun n => by
  induction n using Nat.strongRecOn with
  | _ n ih =>
    intro h
    by_cases q : ∃ m, m < n ∧ p m
    · obtain ⟨m, l, hm⟩ := q
      exact ih m l hm
    · exact ⟨n, h, fun j hj => Nat.le_of_not_lt fun l => q ⟨j, l, hj⟩⟩
theorem cb_len {tie : Str → Str → Bool} (irr : ∀ z, tie z z = false) (g : Gr) : Cb tie g g.length :=
  ⟨fun z => g.idxOf z, fun z hz => List.idxOf_lt_length_of_mem hz, fun a ha b hb t e => by
    have e1 : a = b := by
      have h1 := List.getElem_idxOf (List.idxOf_lt_length_of_mem ha)
      have h2 := List.getElem_idxOf (List.idxOf_lt_length_of_mem hb)
      rw [← h1, ← h2]
      congr 1
    rw [e1, irr] at t
    cases t⟩
theorem exists_col {tie : Str → Str → Bool} (irr : ∀ z, tie z z = false) (g : Gr) : ∃ k, IsCol tie g k := by
  obtain ⟨k, h1, h2⟩ := least_of (p := Cb tie g) _ (cb_len irr g)
  exact ⟨k, h1, h2⟩
theorem IsCol.congr {tie : Str → Str → Bool} {g h : Gr} {k : Nat} (c : IsCol tie g k) (e : ∀ z, z ∈ g ↔ z ∈ h) : IsCol tie h k :=
  ⟨c.cb.sub fun z hz => (e z).mpr hz, fun j hj => c.least j (hj.sub fun z hz => (e z).mp hz)⟩
theorem IsCol.mono {tie : Str → Str → Bool} {g h : Gr} {k j : Nat} (c : IsCol tie g k) (d : IsCol tie h j) (s : ∀ z ∈ h, z ∈ g) : j ≤ k := d.least _ (c.cb.sub s)
theorem col_nil {tie : Str → Str → Bool} : IsCol tie [] 0 := ⟨⟨fun _ => 0, fun _ h => by simp at h, fun _ h => by simp at h⟩, fun _ _ => Nat.zero_le _⟩
theorem IsCol.pos {tie : Str → Str → Bool} {g : Gr} {k : Nat} (c : IsCol tie g k) (ne : g ≠ []) : 1 ≤ k := by
  obtain ⟨f, h, _⟩ := c.cb
  obtain ⟨z, hz⟩ := List.exists_mem_of_ne_nil _ ne
  have := h z hz
  omega
theorem ls_iff {tie : Str → Str → Bool} {g : Gr} (irr : ∀ z, tie z z = false) (sym : ∀ a b, tie a b = tie b a) : Ls tie g ↔ ∀ a ∈ g, ∀ b ∈ g, tie a b = false := by
  constructor
  · intro h
    induction g with
    | nil => intro a ha; simp at ha
    | cons x g ih =>
      obtain ⟨p1, p2⟩ := List.pairwise_cons.mp h
      intro a ha b hb
      rcases List.mem_cons.mp ha with e1 | e1
      · rcases List.mem_cons.mp hb with e2 | e2
        · rw [e1, e2, irr]
        · rw [e1]; exact p1 _ e2
      · rcases List.mem_cons.mp hb with e2 | e2
        · rw [e2, sym]; exact p1 _ e1
        · exact ih p2 a e1 b e2
  · intro h
    refine List.Pairwise.imp_of_mem (fun {a b} ha hb _ => h a ha b hb) (List.pairwise_of_forall (fun _ _ => trivial) : g.Pairwise fun _ _ => True)
/-- a loose group out of it costs one colour at most -/
theorem cb_split {tie : Str → Str → Bool} {g R : Gr} {k : Nat} (irr : ∀ z, tie z z = false) (sym : ∀ a b, tie a b = tie b a) (l : Ls tie R) (c : Cb tie (g.filter fun z => decide (z ∉ R)) k) : Cb tie g (1 + k) := by
  obtain ⟨f, f1, f2⟩ := c
  have l := (ls_iff irr sym).mp l
  have out : ∀ z ∈ g, z ∉ R → z ∈ g.filter fun z => decide (z ∉ R) := fun z hz n => List.mem_filter.mpr ⟨hz, decide_eq_true n⟩
  refine ⟨fun z => if z ∈ R then k else f z, fun z hz => ?_, fun a ha b hb t => ?_⟩
  · show (if z ∈ R then k else f z) < 1 + k
    split
    · omega
    · have := f1 z (out z hz (by assumption))
      omega
  · show (if a ∈ R then k else f a) ≠ (if b ∈ R then k else f b)
    by_cases a1 : a ∈ R
    · by_cases b1 : b ∈ R
      · rw [l a a1 b b1] at t; cases t
      · rw [if_pos a1, if_neg b1]
        have := f1 b (out b hb b1)
        omega
    · by_cases b1 : b ∈ R
      · rw [if_neg a1, if_pos b1]
        have := f1 a (out a ha a1)
        omega
      · rw [if_neg a1, if_neg b1]
        exact f2 a (out a ha a1) b (out b hb b1) t
/-- .. and some loose group with a given thing is worth one -/
theorem cb_class {tie : Str → Str → Bool} {g : Gr} {x : Str} {j : Nat} (hx : x ∈ g) (c : Cb tie g j) :
    ∃ R : Gr, R.Sublist g ∧ x ∈ R ∧ Ls tie R ∧ 1 ≤ j ∧ Cb tie (g.filter fun z => decide (z ∉ R)) (j - 1) := by
  obtain ⟨f, f1, f2⟩ := c
  have inR : ∀ z, z ∈ g.filter (fun z => decide (f z = f x)) ↔ z ∈ g ∧ f z = f x := fun z => by rw [List.mem_filter, decide_eq_true_iff]
  have j1 := f1 x hx
  refine ⟨g.filter fun z => decide (f z = f x), List.filter_sublist, (inR x).mpr ⟨hx, rfl⟩, ?_, by omega, fun z => if f x < f z then f z - 1 else f z, fun z hz => ?_, fun a ha b hb t => ?_⟩
  · refine List.Pairwise.imp_of_mem (fun {a b} ha hb _ => ?_) (List.pairwise_of_forall (fun _ _ => trivial) : (g.filter fun z => decide (f z = f x)).Pairwise fun _ _ => True)
    cases e : tie a b with
    | false => rfl
    | true => exact absurd (((inR a).mp ha).2.trans ((inR b).mp hb).2.symm) (f2 a ((inR a).mp ha).1 b ((inR b).mp hb).1 e)
  · obtain ⟨h1, h2⟩ := List.mem_filter.mp hz
    have h2 := of_decide_eq_true h2
    have h3 : f z ≠ f x := fun e => h2 ((inR z).mpr ⟨h1, e⟩)
    have h4 := f1 z h1
    show (if f x < f z then f z - 1 else f z) < j - 1
    split <;> omega
  · obtain ⟨a1, a2⟩ := List.mem_filter.mp ha
    obtain ⟨b1, b2⟩ := List.mem_filter.mp hb
    have a3 : f a ≠ f x := fun e => of_decide_eq_true a2 ((inR a).mpr ⟨a1, e⟩)
    have b3 : f b ≠ f x := fun e => of_decide_eq_true b2 ((inR b).mpr ⟨b1, e⟩)
    have := f2 a a1 b b1 t
    show (if f x < f a then f a - 1 else f a) ≠ (if f x < f b then f b - 1 else f b)
    split <;> split <;> omega
/-- the fewest colours by the loose groups with the first thing -/
theorem col_step {tie : Str → Str → Bool} {x : Str} {r : Gr} {m : Nat} (irr : ∀ z, tie z z = false) (sym : ∀ a b, tie a b = tie b a) (nd : (x :: r).Nodup) (f : Gr → Nat)
    (hf : ∀ R : Gr, R.Sublist r → Ls tie (x :: R) → IsCol tie (r.filter fun z => decide (z ∉ R)) (f R))
    (lo : ∀ R : Gr, R.Sublist r → Ls tie (x :: R) → m ≤ 1 + f R) (hi : m = (x :: r).length ∨ ∃ R : Gr, R.Sublist r ∧ Ls tie (x :: R) ∧ m = 1 + f R) : IsCol tie (x :: r) m := by
  have xr := (List.nodup_cons.mp nd).1
  have rest : ∀ R : Gr, ∀ z, z ∈ ((x :: r).filter fun z => decide (z ∉ x :: R)) ↔ z ∈ (r.filter fun z => decide (z ∉ R)) := fun R z => by
    rw [List.mem_filter, List.mem_filter, decide_eq_true_iff, decide_eq_true_iff, List.mem_cons, List.mem_cons, not_or]
    constructor
    · rintro ⟨h1 | h1, h2, h3⟩
      · exact absurd h1 h2
      · exact ⟨h1, h3⟩
    · rintro ⟨h1, h2⟩
      exact ⟨.inr h1, fun e => xr (by rw [← e]; exact h1), h2⟩
  constructor
  · rcases hi with e | ⟨R, s, l, e⟩
    · rw [e]; exact cb_len irr _
    · rw [e]
      exact cb_split irr sym l ((hf R s l).cb.sub fun z hz => (rest R z).mp hz)
  · intro j hj
    obtain ⟨R, s, hx, l, j1, c⟩ := cb_class (x := x) (by simp) hj
    obtain ⟨R', e, s'⟩ : ∃ R', R = x :: R' ∧ R'.Sublist r := by
      rcases List.sublist_cons_iff.mp s with h | ⟨R', e, h⟩
      · exact absurd (h.subset hx) xr
      · exact ⟨R', e, h⟩
    subst e
    have h1 := lo R' s' l
    have h2 := (hf R' s' l).least _ (c.sub fun z hz => (rest R' z).mpr hz)
    omega
/-- the fewest colours of a group -/
noncomputable def colN (tie : Str → Str → Bool) (g : Gr) : Nat := by
  classical exact if h : ∃ k, IsCol tie g k then Classical.choose h else 0
theorem colN_is {tie : Str → Str → Bool} (T : Tie tie) (g : Gr) : IsCol tie g (colN tie g) := by
  have h := exists_col T.irr g
  unfold colN
  rw [dif_pos h]
  exact Classical.choose_spec h
theorem colN_eq {tie : Str → Str → Bool} (T : Tie tie) {g : Gr} {k : Nat} (h : IsCol tie g k) : colN tie g = k := isCol_one (colN_is T g) h
theorem colN_nil {tie : Str → Str → Bool} (T : Tie tie) : colN tie [] = 0 := colN_eq T col_nil
theorem notin_take {α : Type} {l : List α} {i : Nat} {x : α} (nd : l.Nodup) (h : l[i]? = some x) : x ∉ l.take i := fun m => by
  obtain ⟨j, hj⟩ := List.mem_iff_getElem?.mp m
  rw [List.getElem?_take] at hj
  split at hj
  · have h1 := (List.getElem?_eq_some_iff.mp h)
    have h2 := (List.getElem?_eq_some_iff.mp hj)
    obtain ⟨l1, e1⟩ := h1
    obtain ⟨l2, e2⟩ := h2
    exact (List.pairwise_iff_getElem.mp nd) j i l2 l1 (by assumption) (by rw [e1, e2])
  · cases hj
/-! ### in the list of all groups each one stands behind its parts -/
theorem genF_before : ∀ (zs : List Str) (i : Nat) (g h : Gr), (genF (fun _ _ => true) zs)[i]? = some g → h.Sublist g → h ≠ g → h ∈ (genF (fun _ _ => true) zs).take i := by
  refine snoc_ind (fun i g h hi s ne => ?_) fun zs z ih i g h hi s ne => ?_
  · have e : g = [] := by
      have : g ∈ [([] : Gr)] := List.mem_of_getElem? hi
      exact List.mem_singleton.mp this
    rw [e] at s ne
    exact absurd (List.sublist_nil.mp s) ne
  · rw [genF_snoc, List.filter_eq_self.mpr fun _ _ => rfl] at hi ⊢
    generalize hG : genF (fun _ _ => true) zs = G at ih hi ⊢
    by_cases l : i < G.length
    · rw [List.getElem?_append_left l] at hi
      rw [List.take_append_of_le_length (Nat.le_of_lt l)]
      exact ih i g h hi s ne
    · rw [List.getElem?_append_right (by omega)] at hi
      rw [List.getElem?_map] at hi
      obtain ⟨g0, h0, rfl⟩ := Option.map_eq_some_iff.mp hi
      rw [List.take_append, List.take_of_length_le (by omega), ← List.map_take]
      have g0z : g0.Sublist zs := ((mem_genF zs g0).mp (by rw [hG]; exact List.mem_of_getElem? h0)).1
      obtain ⟨l1, l2, rfl, s1, s2⟩ := List.sublist_append_iff.mp s
      rcases List.sublist_cons_iff.mp s2 with e | ⟨r, e, s3⟩
      · rw [List.sublist_nil.mp e, List.append_nil]
        refine List.mem_append.mpr (.inl ?_)
        rw [← hG, mem_genF]
        exact ⟨s1.trans g0z, fun _ _ _ _ => rfl⟩
      · rw [List.sublist_nil.mp s3] at e
        subst e
        refine List.mem_append.mpr (.inr (List.mem_map.mpr ⟨l1, ih _ g0 l1 h0 s1 fun e => ne (by rw [e]), rfl⟩))
theorem mem_all {zs : List Str} {g : Gr} : g ∈ genF (fun _ _ => true) zs ↔ g.Sublist zs := by
  rw [mem_genF]
  exact ⟨fun h => h.1, fun h => ⟨h, fun _ _ _ _ => rfl⟩⟩
/-! ### tables of groups -/
def gk (g : Gr) : List Key := g.map Sum.inr
theorem gk_kV (g : Gr) : (gk g).map kV = g.map V.str := by
  unfold gk
  rw [List.map_map]
  rfl
theorem strs_one : ∀ {g h : Gr}, g.map V.str = h.map V.str → g = h
  | [], [], _ => rfl
  | [], _ :: _, e => by cases e
  | _ :: _, [], e => by cases e
  | x :: g, y :: h, e => by
    rw [List.map_cons, List.map_cons] at e
    injection e with e1 e2
    injection e1 with e1
    rw [e1, strs_one e2]
theorem gk_inj {g h : Gr} (e : gk g = gk h) : g = h := by
  have := congrArg (List.map kV) e
  rw [gk_kV, gk_kV] at this
  exact strs_one this
def tabK (F : Gr → V) (L : List Gr) : List (List Key × V) := L.map fun g => (gk g, F g)
def fset (F : Gr → V) (g : Gr) (v : V) : Gr → V := fun h => if h = g then v else F h
theorem fset_same {F : Gr → V} {g : Gr} {v : V} : fset F g v g = v := if_pos rfl
theorem fset_ne {F : Gr → V} {g h : Gr} {v : V} (n : h ≠ g) : fset F g v h = F h := if_neg n
theorem valV_tab {F : Gr → V} {g : Gr} : ∀ {L : List Gr}, g ∈ L → valV (tabK F L) (gk g) = some (F g)
  | h :: L, m => by
    by_cases e : h = g
    · subst e
      show valV ((gk h, F h) :: tabK F L) (gk h) = _
      rw [valV_pos rfl]
    · show valV ((gk h, F h) :: tabK F L) (gk g) = _
      rw [valV_neg fun z => e (gk_inj z)]
      exact valV_tab ((List.mem_cons.mp m).resolve_left fun z => e z.symm)
theorem valV_tab_none {F : Gr → V} {g : Gr} : ∀ {L : List Gr}, g ∉ L → valV (tabK F L) (gk g) = none
  | [], _ => rfl
  | h :: L, m => by
    show valV ((gk h, F h) :: tabK F L) (gk g) = _
    rw [valV_neg fun z => m (by rw [gk_inj z]; simp)]
    exact valV_tab_none fun z => m (List.mem_cons_of_mem _ z)
theorem tabK_congr {F F' : Gr → V} {L : List Gr} (h : ∀ g ∈ L, F g = F' g) : tabK F L = tabK F' L := List.map_congr_left fun g hg => by rw [h g hg]
theorem putK_tab_new {F : Gr → V} {L : List Gr} {g : Gr} {v : V} (h : g ∉ L) : putK (tabK F L) (gk g) v = tabK (fset F g v) (L ++ [g]) := by
  rw [putK_new v (valV_tab_none h)]
  show _ = (L ++ [g]).map _
  rw [List.map_append]
  show _ = tabK (fset F g v) L ++ [(gk g, fset F g v g)]
  rw [fset_same, tabK_congr (F := F) (F' := fset F g v) fun x hx => (fset_ne fun e => h (by rw [← e]; exact hx)).symm]
theorem putK_tab_old {F : Gr → V} {L : List Gr} {g : Gr} {v : V} (h : g ∈ L) : putK (tabK F L) (gk g) v = tabK (fset F g v) L := by
  have e : ((tabK F L).any fun kv => decide (kv.1 = gk g)) = true := List.any_eq_true.mpr ⟨(gk g, F g), List.mem_map.mpr ⟨g, h, rfl⟩, decide_eq_true rfl⟩
  unfold putK
  rw [if_pos e]
  unfold tabK
  rw [List.map_map]
  refine List.map_congr_left fun x _ => ?_
  show (if gk x = gk g then (gk x, v) else (gk x, F x)) = (gk x, fset F g v x)
  by_cases e : x = g
  · subst e
    rw [if_pos rfl, fset_same]
  · rw [if_neg fun z => e (gk_inj z), fset_ne e]
end V0
namespace V0
open PySem PySem.Spec PyProof.Rows L2
/-- the heap but for some things that change -/
def eras (ds : List Addr) (H : Hp) : Hp := fun a => if a ∈ ds then none else H a
section
variable {ds : List Addr} {H H' H0 : Hp} {a : Addr} {o : HO}
theorem eras_at (h : H a = some o) (n : a ∉ ds) : eras ds H a = some o := by
  unfold eras
  rw [if_neg n]
  exact h
theorem eras_up : Same (eras ds H) H := fun b o e => by
  unfold eras at e
  split at e
  · cases e
  · exact e
theorem eras_upd (h : a ∈ ds) : eras ds (upd H a o) = eras ds H := by
  funext b
  unfold eras
  by_cases m : b ∈ ds
  · rw [if_pos m, if_pos m]
  · rw [if_neg m, if_neg m, upd_ne fun e => m (by rw [e]; exact h)]
theorem eras_same (s : Same H H') : Same (eras ds H) (eras ds H') := fun b o e => by
  unfold eras at e ⊢
  split at e
  · cases e
  · rw [if_neg (by assumption)]
    exact s _ _ e
theorem eras_set (h : a ∈ ds) : Same (eras ds H) (eras ds (upd H a o)) := by
  rw [eras_upd h]
  exact Same.refl _
theorem eras_new (n : ∀ d ∈ ds, H0 d = none) (s : Same H0 H) : Same H0 (eras ds H) := fun b o e => eras_at (s _ _ e) fun m => by
  rw [n b m] at e
  cases e
theorem eras_mono {es : List Addr} (h : ∀ d ∈ es, d ∈ ds) : Same (eras ds H) (eras es H) := fun b o e => by
  unfold eras at e ⊢
  split at e
  · cases e
  · rw [if_neg fun m => (by assumption : b ∉ ds) (h b m)]
    exact e
/-- what is no dict of groups stands outside the tables -/
theorem out2 {d1 d2 : Addr} {k1 k2 : List (List Key × V)} (h1 : H d1 = some (.dT k1)) (h2 : H d2 = some (.dT k2)) (h : H a = some o) (n : ∀ k, o ≠ .dT k) : a ∉ [d1, d2] := fun m => by
  rcases List.mem_cons.mp m with e | m
  · rw [e, h1] at h
    injection h with h
    exact n _ h.symm
  · rw [List.mem_singleton.mp m, h2] at h
    injection h with h
    exact n _ h.symm
end
end V0

namespace V0
open PySem PySem.Spec PyProof.Rows L2
def allG (zs : List Str) : List Gr := genF (fun _ _ => true) zs
def ColAt (H : Hp) (d : Addr) (zs : List Str) (tie : Str → Str → Bool) : Prop := H d = some (.dT (tabK (fun g => .int (colN tie g : Nat)) (allG zs)))
def spColTab : Sp := fun vs H Q _ => ∃ (q : Addr) (zs : List Str) (tie : Str → Str → Bool), vs = [.ref q] ∧ IsPl H q zs tie ∧ Zs zs ∧ Tie tie ∧ ∀ d H', Same H H' → H d = none → ColAt H' d zs tie → Q (.ref d) H'
theorem DGet.tab {H : Hp} {d b : Addr} {F : Gr → V} {L : List Gr} {g : Gr} (e : H d = some (.dT (tabK F L))) (eb : GrAt H g b) (m : g ∈ L) : DGet H d (.ref b) (some (F g)) := by
  have := DGet.t (k := gk g) e (by rw [gk_kV]; exact eb)
  rw [valV_tab m] at this
  exact this
theorem DPut.tab_new {H : Hp} {d b : Addr} {F F' : Gr → V} {L : List Gr} {g : Gr} {v : V} (hv : F' g = v) (e : H d = some (.dT (tabK F L))) (eb : GrAt H g b) (m : g ∉ L) (l : L.length < 1000) (hF : ∀ h ∈ L, F h = F' h) : DPut H d (.ref b) v (upd H d (.dT (tabK F' (L ++ [g])))) := by
  subst hv
  have := DPut.t (k := gk g) (v := F' g) e (by rw [gk_kV]; exact eb) (by unfold tabK; rw [List.length_map, sizeLine_eq]; omega)
  rw [putK_tab_new m, tabK_congr (F := fset F g (F' g)) (F' := F') fun h hh => by
    by_cases z : h = g
    · rw [z, fset_same]
    · rw [fset_ne z]
      exact hF h ((List.mem_append.mp hh).resolve_right fun w => z (List.mem_singleton.mp w))] at this
  exact this
theorem DPut.tab_old {H : Hp} {d b : Addr} {F F' : Gr → V} {L : List Gr} {g : Gr} {v : V} (hv : F' g = v) (e : H d = some (.dT (tabK F L))) (eb : GrAt H g b) (m : g ∈ L) (l : L.length < 1000) (hF : ∀ h ∈ L, h ≠ g → F h = F' h) : DPut H d (.ref b) v (upd H d (.dT (tabK F' L))) := by
  subst hv
  have := DPut.t (k := gk g) (v := F' g) e (by rw [gk_kV]; exact eb) (by unfold tabK; rw [List.length_map, sizeLine_eq]; omega)
  rw [putK_tab_old m, tabK_congr (F := fset F g (F' g)) (F' := F') fun h hh => by
    by_cases z : h = g
    · rw [z, fset_same]
    · rw [fset_ne z]
      exact hF h hh z] at this
  exact this
def lsF (tie : Str → Str → Bool) (g : Gr) : V := .bl (decide (Ls tie g))
noncomputable def coF (tie : Str → Str → Bool) (g : Gr) : V := .int (colN tie g : Nat)
/-- what is left of a group -/
def restG (r R : Gr) : Gr := r.filter fun z => decide (z ∉ R)
section
variable {P : Program} {w : World} {K : PySem.W.Frag} {mg : Str → Option Value} {base : Heap} {C : Addr}
abbrev s_colour_table : Stmt := top 55
abbrev N_colour_table : List Str := ["_law_plain_here", "_law_found", "_law_loose", "_law_some", "_law_fewest", "_law_rest", "_law_one", "_law_left"]
abbrev P_colour_table : List Str := ["_law_plain_here"]
theorem sc_colour_table : FnScope N_colour_table P_colour_table (defScope s_colour_table) := ⟨rfl, rfl, rfl, by decide +kernel, rfl, by decide +kernel, by decide +kernel⟩
theorem ok_coltab {f f1 f2 : Addr} {fd fd1 fd2 : FuncData} (B : Bl mg) (D_all_groups : Df K mg "_law_all_groups" s_all_groups P_all_groups f1 fd1) (D_lis_loose : Df K mg "_law_is_loose" s_lis_loose P_lis_loose f2 fd2) (G_lis_loose : FnOk P w K mg base CX0 2 f2 fd2 P_lis_loose spLLoose) (D : Df K mg "_law_colour_table" s_colour_table P_colour_table f fd) : FnOk P w K mg base CX0 3 f fd P_colour_table spColTab := by
  have G_all_groups : FnOk P w K mg base CX0 1 f1 fd1 P_all_groups spAllGroups := ok_all_groups B D_all_groups
  refine D.F.ok sc_colour_table (fun vs H Q E h => ?_) (fun cdv A outer s H vs Q E hr h => ?_)
  · obtain ⟨q, zs, tie, rfl, _⟩ := h
    rfl
  · obtain ⟨q, zs, tie, rfl, pl, hz, T, k⟩ := h
    refine ⟨_, (pss_cons (ps_par (i := 1) (j := 2) (by rfl) sc_colour_table.nd rfl rfl (by decide) rfl rfl (pa_cons pe_dnewT (pa_cons pe_dnewT pa_nil)) (by rfl))
      (pss_cons (ps_for PassesOwn.never rfl (pi_list (pe_call G_all_groups (hr.mono (by decide)) (by rfl) D_all_groups.g D_all_groups.F.kp D_all_groups.b .nil pass0 (pa_cons (pe_dget (hu_of hr) (pv 0) pe_str (fun _ _ => rfl)) pa_nil))) (pg_name (i := 3) sc_colour_table.nd rfl (Or.inl rfl)) (pss_cons (ps_asg (pe_call G_lis_loose (hr.mono (by decide)) (by rfl) D_lis_loose.g D_lis_loose.F.kp D_lis_loose.b .nil pass0 (pa_cons (pv 0) (pa_cons (pv 3) pa_nil))) (pg_sub (pv 2) (pv 3) (set_dict (hu_of hr))))
      (pss_cons (ps_asg pe_int (pg_sub (pv 1) (pv 3) (set_dict (hu_of hr))))
      (pss_one (ps_if (pt_cmpR (op_neD hr.units) (pv 3) (pe_tup pa_nil) (nomark _)) (pss_cons (ps_set (i := 4) sc_colour_table.nd rfl (Or.inl rfl) (pe_callB call_len (by rfl) B.b_len (by decide +kernel) (pa_cons (pv 3) pa_nil)))
      (pss_cons (ps_for PassesOwn.never rfl (pi_list (pe_call G_all_groups (hr.mono (by decide)) (by rfl) D_all_groups.g D_all_groups.F.kp D_all_groups.b .nil pass0 (pa_cons (pe_slice sl_tupB (pv 3) (po_some pe_int) po_none) pa_nil))) (pg_name (i := 5) sc_colour_table.nd rfl (Or.inr rfl)) (pss_one (ps_if (pt_val (pe_dget (hu_of hr) (pv 2) (pe_op op_catB (pe_slice sl_tupB (pv 3) po_none (po_some pe_int)) (pv 5)) (fun _ _ => rfl))) (pss_cons (ps_set (i := 7) sc_colour_table.nd rfl (Or.inl rfl) (pe_callTy call_tuple_of (by rfl) B.b_tuple (by decide +kernel) (pa_cons (pe_lc (own := [("_law_one", 6)]) (g := gName 6) rfl sc_colour_table.nd (pi_tup (pe_slice sl_tupB (pv 3) (po_some pe_int) po_none)) (blkOk_by (own := [("_law_one", 6)]) (N := N_colour_table) (sc := defScope s_colour_table) (by decide +kernel)) (fun _ _ _ _ _ => (pg_name (i := 6) sc_colour_table.nd rfl (Or.inl rfl))) (fun _ _ _ _ _ => pts_one (show PT _ _ (tTest (tOp (rIn K true) (tVar 6) (tVar 5))) from by exact (pt_cmpR op_notIn_seq (pv 6) (pv 5) (by rfl)))) (fun _ _ _ _ _ => (pv 6))) pa_nil)))
      (pss_one (ps_set (i := 4) sc_colour_table.nd rfl (Or.inl rfl) (pe_callB (call_min2 rfl) (by rfl) B.b_min (by decide +kernel) (pa_cons (pv 4) (pa_cons (pe_op op_add pe_int (pe_dget (hu_of hr) (pv 1) (pv 7) (fun _ _ => rfl))) pa_nil)))))) pss_nil)))
      (pss_one (ps_asg (pv 4) (pg_sub (pv 1) (pv 3) (set_dict (hu_of hr))))))) pss_nil)))))
      (pss_one (ps_ret (pv 1))))), ?_⟩
    obtain ⟨t, tl, e1, e2, e3⟩ := id pl
    intro d1 hd1 d2 hd2
    refine ⟨_, _, rfl, ?_⟩
    have n12 : d1 ≠ d2 := fun e => by rw [e, upd_same] at hd2; cases hd2
    have hd2' : H d2 = none := by rw [upd_ne n12.symm] at hd2; exact hd2
    have s0 : Same H (eras [d1, d2] (upd (upd H d1 (.dT [])) d2 (.dT []))) := eras_new (fun d hd => by
      rcases List.mem_cons.mp hd with e | hd
      · rw [e]; exact hd1
      · rw [List.mem_singleton.mp hd]; exact hd2') fun b o e => by rw [upd_ne (ne_of_none e hd2'), upd_ne (ne_of_none e hd1)]; exact e
    have a1 : (upd (upd H d1 (.dT [])) d2 (.dT [])) d1 = some (.dT []) := by rw [upd_ne n12, upd_same]
    have a2 : (upd (upd H d1 (.dT [])) d2 (.dT [])) d2 = some (.dT []) := upd_same
    generalize upd (upd H d1 (.dT [])) d2 (.dT []) = H0 at s0 a1 a2 ⊢
    refine ⟨_, rfl, q, .ref t, rfl, .inl ⟨_, .inr "things", .inl (eras_up _ _ (s0 _ _ e1)), rfl, plF_things.symm⟩, t, zs, rfl, eras_up _ _ (s0 _ _ e2), hz.l8, fun l H1 s1 gl => ?_⟩
    obtain ⟨as, el, pa⟩ := id gl
    have a1 := s1 _ _ a1
    have a2 := s1 _ _ a2
    have s01 := Same.trans s0 (eras_same s1)
    have pl1 : IsPl (eras [d1, d2] H1) q zs tie := pl.same s01
    have el1 : (eras [d1, d2] H1) l = some (.lst (as.map V.ref)) := eras_at el (out2 a1 a2 el fun k z => nomatch z)
    have pa1 : Paired (GrAt (eras [d1, d2] H1)) (genF (fun _ _ => true) zs) as := paired_mono (fun g a (e : GrAt H1 g a) => eras_at e (out2 a1 a2 e fun k z => nomatch z)) pa
    have ndG := genF_nd (p := fun _ _ => true) zs hz.asc.nd
    have lG : (genF (fun _ _ => true) zs).length ≤ 256 := len256 hz.l8
    have befo := genF_before zs
    have allm := fun g => mem_all (zs := zs) (g := g)
    have dm1 : d1 ∈ [d1, d2] := by simp
    have dm2 : d2 ∈ [d1, d2] := by simp
    refine ⟨l, rfl, ⟨_, SqL.of el⟩, ?_⟩
    show ∃ W : Nat → Nat → L2.St → Hp → Prop, _
    generalize hG : genF (fun _ _ => true) zs = G at pa1 ndG lG befo allm
    refine for_it (walk_list (xs := as.map V.ref)) (fun i σ H' => Same (eras [d1, d2] H1) (eras [d1, d2] H') ∧ H' d1 = some (.dT (tabK (coF tie) (G.take i))) ∧ H' d2 = some (.dT (tabK (lsF tie) (G.take i))) ∧ ∃ o3 o4 o5 o6 o7 : Option V, σ = [some (.ref q), some (.ref d1), some (.ref d2), o3, o4, o5, o6, o7]) ⟨Same.refl _, a1, a2, _, _, _, _, _, rfl⟩ (fun i σ H' _ ⟨s2, _⟩ => SqL.of (eras_up _ _ (s2 _ _ el1))) ?_ ?_
    · rintro i v σ H2 H3 hi ⟨s2, b1, b2, o3, o4, o5, o6, o7, rfl⟩ ⟨rfl, hy⟩
      obtain ⟨a0, ha0, rfl⟩ := ref_at hy
      obtain ⟨g, hg, ga⟩ := paired_get pa1 ha0
      have sg : g.Sublist zs := (allm g).mp (List.mem_of_getElem? hg)
      have gok : GrN g := fun z h => low_ok (hz.nm z (sg.subset h)).1
      have g8 := Nat.le_trans sg.length_le hz.l8
      have ng := notin_take ndG hg
      have il : (G.take i).length < 1000 := by rw [List.length_take]; omega
      refine ⟨_, rfl, _, rfl, q, a0, zs, tie, g, rfl, (pl1.same s2).same eras_up, hz, T, eras_up _ _ (s2 _ _ ga), sg, fun H4 s4 => ?_⟩
      have q4 := Same.trans s2 (eras_same s4)
      refine ⟨_, rfl, _, rfl, d2, _, rfl, DPut.tab_new (F' := lsF tie) rfl (s4 _ _ b2) (eras_up _ _ (q4 _ _ ga)) ng il (fun _ _ => rfl), ?_⟩
      have b1 : (upd H4 d2 (.dT (tabK (lsF tie) (G.take i ++ [g])))) d1 = _ := (upd_ne n12).trans (s4 _ _ b1)
      have b2 : (upd H4 d2 (.dT (tabK (lsF tie) (G.take i ++ [g])))) d2 = some (.dT (tabK (lsF tie) (G.take i ++ [g]))) := upd_same
      have q5 := Same.trans q4 (eras_set (H := H4) (o := .dT (tabK (lsF tie) (G.take i ++ [g]))) dm2)
      generalize upd H4 d2 (.dT (tabK (lsF tie) (G.take i ++ [g]))) = H5 at b1 b2 q5 ⊢
      refine ⟨_, rfl, _, rfl, d1, _, rfl, DPut.tab_new (F' := fset (coF tie) g (.int 0)) fset_same b1 (eras_up _ _ (q5 _ _ ga)) ng il (fun h hh => (fset_ne fun e => ng (by rw [← e]; exact hh)).symm), ?_⟩
      have b2 : (upd H5 d1 (.dT (tabK (fset (coF tie) g (.int 0)) (G.take i ++ [g])))) d2 = _ := (upd_ne n12.symm).trans b2
      have b1 : (upd H5 d1 (.dT (tabK (fset (coF tie) g (.int 0)) (G.take i ++ [g])))) d1 = some (.dT (tabK (fset (coF tie) g (.int 0)) (G.take i ++ [g]))) := upd_same
      have q6 := Same.trans q5 (eras_set (H := H5) (o := .dT (tabK (fset (coF tie) g (.int 0)) (G.take i ++ [g]))) dm1)
      generalize upd H5 d1 (.dT (tabK (fset (coF tie) g (.int 0)) (G.take i ++ [g]))) = H6 at b1 b2 q6 ⊢
      refine ⟨_, rfl, Nat.zero_le _, fun e he => ?_⟩
      have s7 := Same.new (o := .tup []) he
      have ee : (upd H6 e (.tup [])) e = some (.tup []) := upd_same
      generalize upd H6 e (.tup []) = H7 at s7 ee ⊢
      have b1 := s7 _ _ b1
      have b2 := s7 _ _ b2
      have q7 := Same.trans q6 (eras_same s7)
      have ga7 : GrAt H7 g a0 := eras_up _ _ (q7 _ _ ga)
      refine ⟨dG g, .tuple [], dp_gr ga7, .tup (SqT.of ee) .nil, sh_dG1 g gok, by decide, _, rfl, ?_⟩
      rw [show PyData.eqv (dG g) (.tuple []) = decide (g = []) from eqv_dG g []]
      by_cases ge : g = []
      · subst ge
        refine ite2 (fun z => by cases z) (fun _ => ⟨q7, ?_, ?_, _, _, _, _, _, rfl⟩)
        · rw [take_snoc hg, b1, tabK_congr fun h hh => ?_]
          by_cases z : h = []
          · rw [z, fset_same]; unfold coF; rw [colN_nil T]; rfl
          · rw [fset_ne z]
        · rw [take_snoc hg]; exact b2
      obtain ⟨x, r, rfl⟩ := List.exists_cons_of_ne_nil ge
      rw [decide_eq_false ge]
      refine ite2 (fun _ => ?_) (fun z => absurd rfl z)
      refine ⟨_, rfl, _, _, rfl, .inr ⟨_, SqT.of ga7, rfl⟩, ?_⟩
      refine ⟨_, rfl, _, rfl, a0, _, rfl, ga7, fun c H8 s8 ec => ⟨c, r, rfl, by rw [ec, cutV_one]; rfl, by rw [List.length_cons] at g8; omega, fun l2 H9 s9 gl2 => ?_⟩⟩
      obtain ⟨as2, el2, pa2⟩ := id gl2
      have s79 := Same.trans s8 s9
      have b1 := s79 _ _ b1
      have b2 := s79 _ _ b2
      have ga9 : GrAt H9 (x :: r) a0 := s79 _ _ ga7
      have rt : ∀ (n : Nat) (H' : Hp), Same H9 H' → True := fun _ _ _ => trivial
      have lG2 : (genF (fun _ _ => true) r).length ≤ 256 := len256 (by rw [List.length_cons] at g8; omega)
      have allm2 := fun g => mem_all (zs := r) (g := g)
      have rx : (x :: r).Nodup := hz.asc.nd.sublist sg
      have lsm : ∀ h : Gr, h.Sublist (x :: r) → h ∈ G.take i ++ [x :: r] := fun h sh => by
        by_cases z : h = x :: r
        · rw [z]; simp
        · exact List.mem_append.mpr (.inl (befo i _ h hg sh z))
      refine ⟨l2, rfl, ⟨_, SqL.of el2⟩, ?_⟩
      generalize hG2 : genF (fun _ _ => true) r = G2 at pa2 lG2 allm2
      refine for_it (walk_list (xs := as2.map V.ref)) (fun j σ H' => Same H9 H' ∧ ∃ (m : Nat) (o5 o6 o7 : Option V), σ = [some (.ref q), some (.ref d1), some (.ref d2), some (.ref a0), some (.int (m : Nat)), o5, o6, o7] ∧ (∀ R ∈ G2.take j, Ls tie (x :: R) → m ≤ 1 + colN tie (restG r R)) ∧ (m = (x :: r).length ∨ ∃ R ∈ G2.take j, Ls tie (x :: R) ∧ m = 1 + colN tie (restG r R))) ⟨Same.refl _, (x :: r).length, o5, o6, o7, by rw [List.length_map]; rfl, (fun _ h => by cases h), .inl rfl⟩ (fun j σ H' _ ⟨sj, _⟩ => SqL.of (sj _ _ el2)) ?_ ?_
      · rintro j v σ K0 K1 hj ⟨sj, m, o5, o6, o7, rfl, lo, hi2⟩ ⟨rfl, hy2⟩
        obtain ⟨a5, ha5, rfl⟩ := ref_at hy2
        obtain ⟨R, hR, gR⟩ := paired_get pa2 ha5
        have sR : R.Sublist r := (allm2 R).mp (List.mem_of_getElem? hR)
        have gR1 : GrAt K1 R a5 := sj _ _ gR
        have r8 := sR.length_le
        rw [List.length_cons] at g8
        refine ⟨_, rfl, _, rfl, _, rfl, a0, _, rfl, sj _ _ ga9, fun c1 K2 t1 ec1 => ⟨_, rfl, c1, a5, _, _, rfl, rfl, ec1, t1 _ _ gR1, ?_, fun c2 K3 t2 ec2 => ?_⟩⟩
        · have := cutV_length ((x :: r).map V.str) none (some 1)
          rw [List.length_map, List.length_cons] at this
          rw [List.length_map, sizeLine_eq]
          omega
        have t13 := Same.trans sj (Same.trans t1 t2)
        have ec2 : GrAt K3 (x :: R) c2 := by
          show K3 c2 = some (.tup ((x :: R).map V.str))
          rw [ec2, show (1 : Int) = ((1 : Nat) : Int) from rfl, cutV_to]
          rfl
        refine ⟨d2, _, rfl, DGet.tab (t13 _ _ b2) ec2 (lsm _ (List.Sublist.cons_cons x sR)), ?_⟩
        have lo' : ∀ {m' : Nat}, m' ≤ m → (Ls tie (x :: R) → m' ≤ 1 + colN tie (restG r R)) → ∀ S ∈ G2.take (j + 1), Ls tie (x :: S) → m' ≤ 1 + colN tie (restG r S) := fun {m'} h1 h2 S hS lS => by
          rw [take_snoc hR] at hS
          rcases List.mem_append.mp hS with h | h
          · exact Nat.le_trans h1 (lo S h lS)
          · rw [List.mem_singleton.mp h] at lS ⊢
            exact h2 lS
        have hi' : (m = (x :: r).length ∨ ∃ R ∈ G2.take j, Ls tie (x :: R) ∧ m = 1 + colN tie (restG r R)) → m = (x :: r).length ∨ ∃ R ∈ G2.take (j + 1), Ls tie (x :: R) ∧ m = 1 + colN tie (restG r R) := fun h => h.imp id fun ⟨S, h1, h2⟩ => ⟨S, by rw [take_snoc hR]; exact List.mem_append.mpr (.inl h1), h2⟩
        by_cases hl : Ls tie (x :: R)
        · refine ⟨true, congrArg V.bl (decide_eq_true hl), ite2 (fun _ => ?_) (fun z => absurd rfl z)⟩
          have xR : x ∉ R := fun z => (List.nodup_cons.mp rx).1 (sR.subset z)
          refine ⟨_, rfl, _, rfl, a0, _, rfl, t13 _ _ ga9, fun c3 K4 t4 ec3 => ⟨c3, rfl, ⟨_, SqT.of ec3⟩, fun D hD => ?_⟩⟩
          rw [cutV_one] at ec3
          have ec3 : K4 c3 = some (tupS r) := ec3
          refine lc_it (walk_tup (xs := r.map V.str)) (fun n H' => Same K4 H' ∧ H' D = some (.lst ((restG (r.take n) R).map V.str))) ⟨Same.new hD, upd_same⟩ (fun n H' _ ⟨sn, _⟩ => SqT.of (sn _ _ ec3)) ?_ ?_
          · rintro n y L1 L2 hn ⟨sn, eD⟩ ⟨rfl, hyn⟩
            obtain ⟨z, hz1, rfl⟩ := str_at hyn
            refine ⟨rfl, _, rfl, _, rfl, a5, _, rfl, .inr (SqT.of (sn _ _ (t4 _ _ ((Same.trans t1 t2) _ _ gR1)))), rfl, flat_map R, _, rfl, ?_⟩
            rw [show (if true = true then !inV (V.str z) (R.map V.str) else inV (V.str z) (R.map V.str)) = decide (z ∉ R) from by rw [inV_str]; by_cases w : z ∈ R <;> simp [w]]
            have e1 : restG (r.take (n + 1)) R = restG (r.take n) R ++ (if z ∉ R then [z] else []) := by
              unfold restG
              rw [take_snoc hz1, List.filter_append, filter_one]
              by_cases w : z ∈ R <;> simp [w]
            rw [e1]
            by_cases w : z ∈ R
            · rw [decide_eq_false fun h => h w, if_neg fun h => h w, List.append_nil]
              exact ite2 (fun z => by cases z) (fun _ => ⟨sn, eD⟩)
            · rw [decide_eq_true w, if_pos w]
              refine ite2 (fun _ => ?_) (fun z => absurd rfl z)
              have l1 : (restG (r.take n) R).length ≤ (r.take n).length := List.length_filter_le _ _
              rw [List.length_take] at l1
              refine ⟨_, rfl, _, eD, by rw [List.length_map, sizeLine_eq]; omega, fun b o e => by rw [upd_ne (ne_of_none e hD)]; exact sn _ _ e, by rw [upd_same, List.map_append]; rfl⟩
          rintro L1 ⟨s5, eD⟩
          rw [List.length_map, List.take_length] at eD
          refine ⟨D, _, rfl, .inl ⟨SqL.of eD, fun w1 hw1 => ?_⟩⟩
          have s6 := Same.new (o := .tup ((restG r R).map V.str)) hw1
          have ew : GrAt (upd L1 w1 (.tup ((restG r R).map V.str))) (restG r R) w1 := upd_same
          generalize upd L1 w1 (.tup ((restG r R).map V.str)) = L2 at s6 ew ⊢
          have t16 := Same.trans t13 (Same.trans t4 (Same.trans s5 s6))
          have rin : restG r R ∈ G.take i := befo i _ _ hg (List.filter_sublist.trans (List.sublist_cons_self x r)) fun e => by
            have := congrArg List.length e
            have l1 : (restG r R).length ≤ r.length := List.length_filter_le _ _
            rw [List.length_cons] at this
            omega
          have rne : restG r R ≠ x :: r := fun e => by
            have := congrArg List.length e
            have l1 : (restG r R).length ≤ r.length := List.length_filter_le _ _
            rw [List.length_cons] at this
            omega
          have dg : DGet L2 d1 (.ref w1) (some (.int (colN tie (restG r R) : Nat))) := by
            have := DGet.tab (t16 _ _ b1) ew (List.mem_append.mpr (.inl rin))
            rw [fset_ne rne] at this
            exact this
          refine ⟨_, rfl, _, rfl, _, rfl, d1, _, rfl, dg, _, _, rfl, rfl, _, _, rfl, ?_⟩
          have ml : R ∈ G2.take (j + 1) := by rw [take_snoc hR]; simp
          by_cases lt : 1 + colN tie (restG r R) < m
          · rw [if_pos (show (1 : Int) + (colN tie (restG r R) : Nat) < (m : Nat) from by omega)]
            exact ⟨t16, 1 + colN tie (restG r R), some (.ref a5), o6, some (.ref w1), by rw [show (1 : Int) + (colN tie (restG r R) : Nat) = ((1 + colN tie (restG r R) : Nat) : Int) from by omega]; rfl, lo' (Nat.le_of_lt lt) (fun _ => Nat.le_refl _), .inr ⟨R, ml, hl, rfl⟩⟩
          · rw [if_neg (show ¬ (1 : Int) + (colN tie (restG r R) : Nat) < (m : Nat) from by omega)]
            exact ⟨t16, m, _, _, _, rfl, lo' (Nat.le_refl _) (fun _ => by omega), hi' hi2⟩
        · refine ⟨false, congrArg V.bl (decide_eq_false hl), ite2 (fun z => by cases z) (fun _ => ?_)⟩
          exact ⟨t13, m, _, _, _, rfl, lo' (Nat.le_refl _) (fun h => absurd h hl), hi' hi2⟩
      · rintro σ K0 ⟨sj, m, p5, p6, p7, rfl, lo, hi2⟩
        have cl : IsCol tie (x :: r) m := by
          have full : ∀ R : Gr, R.Sublist r → R ∈ G2.take (as2.map V.ref).length := fun R h => by
            rw [List.length_map, ← pa2.length, List.take_length]
            exact (allm2 R).mpr h
          refine col_step T.irr T.sym rx (fun R => colN tie (restG r R)) (fun R _ _ => colN_is T _) (fun R h l => lo R (full R h) l) (hi2.imp id fun ⟨R, h1, h2, h3⟩ => ⟨R, (allm2 R).mp (List.mem_of_mem_take h1), h2, h3⟩)
        have b1 := sj _ _ b1
        have b2 := sj _ _ b2
        have q9 := Same.trans q7 (eras_same (Same.trans s79 sj))
        refine ⟨_, rfl, _, rfl, _, rfl, d1, _, rfl, DPut.tab_old (F' := coF tie) (by unfold coF; rw [colN_eq T cl]) b1 (eras_up _ _ (q9 _ _ ga)) (by simp) (by rw [List.length_append, List.length_take]; show _ + 1 < 1000; omega) (fun h _ n => fset_ne n), ?_⟩
        rw [← take_snoc hg] at b2 ⊢
        exact ⟨Same.trans q9 (eras_set dm1), upd_same, (upd_ne n12.symm).trans b2, _, _, _, _, _, rfl⟩
    · rintro σ H2 ⟨s2, b1, b2, o3, o4, o5, o6, o7, rfl⟩
      rw [List.length_map, ← pa1.length, List.take_length, ← hG] at b1
      exact ⟨_, rfl, k d1 H2 (Same.trans (Same.trans s01 s2) eras_up) hd1 b1⟩
end
end V0
namespace V0
open PySem PySem.Spec PyProof.Rows L2
/-! ### how many colours a known web needs, by kernel -/
def dfs (tie : Str → Str → Bool) (k : Nat) : Gr → List (Str × Nat) → Bool
  | [], _ => true
  | x :: r, cs => (List.range k).any fun c => (cs.all fun p => !(decide (p.2 = c) && tie x p.1)) && dfs tie k r ((x, c) :: cs)
theorem dfs_of {tie : Str → Str → Bool} {k : Nat} {c : Str → Nat} : ∀ {g done : Gr}, (∀ z ∈ g, c z < k) → (∀ a ∈ g ++ done, ∀ b ∈ g ++ done, tie a b = true → c a ≠ c b) → dfs tie k g (done.map fun z => (z, c z)) = true
  | [], _, _, _ => rfl
  | x :: r, done, h1, h2 => by
    show ((List.range k).any fun d => ((done.map fun z => (z, c z)).all fun p => !(decide (p.2 = d) && tie x p.1)) && dfs tie k r ((x, d) :: done.map fun z => (z, c z))) = true
    refine List.any_eq_true.mpr ⟨c x, List.mem_range.mpr (h1 x (by simp)), ?_⟩
    rw [Bool.and_eq_true]
    refine ⟨List.all_eq_true.mpr fun p hp => ?_, ?_⟩
    · obtain ⟨z, hz, rfl⟩ := List.mem_map.mp hp
      show (!(decide (c z = c x) && tie x z)) = true
      cases ht : tie x z with
      | false => rw [Bool.and_false]; rfl
      | true =>
        have := h2 x (by simp) z (by simp [hz]) ht
        rw [decide_eq_false fun e => this e.symm]
        rfl
    · have := dfs_of (tie := tie) (k := k) (c := c) (g := r) (done := x :: done) (fun z hz => h1 z (by simp [hz])) (fun a ha b hb => h2 a (by simp at ha ⊢; rcases ha with h | h | h <;> simp [h]) b (by simp at hb ⊢; rcases hb with h | h | h <;> simp [h]))
      exact this
/-- k colours do by the map c, fewer don't -/
theorem col_known {tie : Str → Str → Bool} {g : Gr} {k : Nat} (c : Str → Nat) (h1 : (g.all fun z => decide (c z < k)) = true) (h2 : (g.all fun a => g.all fun b => !(tie a b && decide (c a = c b))) = true) (h3 : k = 0 ∨ dfs tie (k - 1) g [] = false) : IsCol tie g k := by
  refine ⟨⟨c, fun z hz => of_decide_eq_true (List.all_eq_true.mp h1 z hz), fun a ha b hb t e => ?_⟩, fun j hj => ?_⟩
  · have := List.all_eq_true.mp (List.all_eq_true.mp h2 a ha) b hb
    rw [t, decide_eq_true e] at this
    cases this
  · rcases h3 with rfl | h3
    · exact Nat.zero_le _
    · refine Classical.byContradiction fun n => ?_
      obtain ⟨f, f1, f2⟩ := hj.up (show j ≤ k - 1 by omega)
      have := dfs_of (tie := tie) (k := k - 1) (c := f) (g := g) (done := []) f1 (fun a ha b hb => f2 a (by simpa using ha) b (by simpa using hb))
      rw [List.map_nil, h3] at this
      cases this
end V0
namespace V0
open PySem PySem.Spec PyProof.Rows L2
/-! ### colours of changed webs (the part that other laws use) -/
/-- more ties, no fewer colours -/
theorem Cb.less {tie tie' : Str → Str → Bool} {g : Gr} {k : Nat} (h : ∀ a ∈ g, ∀ b ∈ g, tie a b = true → tie' a b = true) (c : Cb tie' g k) : Cb tie g k :=
  c.imp fun _ c => ⟨c.1, fun a ha b hb t => c.2 a ha b hb (h a ha b hb t)⟩
/-- ties that differ at one thing alone: one colour more is enough -/
theorem Cb.one_more {tie tie' : Str → Str → Bool} {g : Gr} {k : Nat} {x : Str} (irr : tie' x x = false) (h : ∀ a ∈ g, ∀ b ∈ g, a ≠ x → b ≠ x → tie' a b = true → tie a b = true) (c : Cb tie (g.filter fun z => decide (z ≠ x)) k) : Cb tie' g (k + 1) := by
  obtain ⟨c, h1, h2⟩ := c
  have m : ∀ z ∈ g, z ≠ x → z ∈ g.filter fun z => decide (z ≠ x) := fun z hz n => List.mem_filter.mpr ⟨hz, decide_eq_true n⟩
  refine ⟨fun z => if z = x then k else c z, fun z hz => ?_, fun a ha b hb t => ?_⟩
  · show (if z = x then k else c z) < k + 1
    by_cases e : z = x
    · rw [if_pos e]; exact Nat.lt_succ_self k
    · rw [if_neg e]; exact Nat.lt_succ_of_lt (h1 z (m z hz e))
  · show (if a = x then k else c a) ≠ (if b = x then k else c b)
    by_cases ea : a = x <;> by_cases eb : b = x
    · rw [ea, eb, irr] at t; cases t
    · rw [if_pos ea, if_neg eb]; exact Nat.ne_of_gt (h1 b (m b hb eb))
    · rw [if_neg ea, if_pos eb]; exact Nat.ne_of_lt (h1 a (m a ha ea))
    · rw [if_neg ea, if_neg eb]; exact h2 a (m a ha ea) b (m b hb eb) (h a ha b hb ea eb t)
theorem colN_less {tie tie' : Str → Str → Bool} {g : Gr} (T : Tie tie) (T' : Tie tie') (h : ∀ a ∈ g, ∀ b ∈ g, tie a b = true → tie' a b = true) : colN tie g ≤ colN tie' g :=
  (colN_is T g).least _ ((colN_is T' g).cb.less h)
theorem colN_one {tie tie' : Str → Str → Bool} {g h : Gr} {x : Str} (T : Tie tie) (T' : Tie tie') (hs : ∀ z ∈ g, z ≠ x → z ∈ h) (q : ∀ a ∈ g, ∀ b ∈ g, a ≠ x → b ≠ x → tie' a b = true → tie a b = true) : colN tie' g ≤ colN tie h + 1 := by
  refine (colN_is T' g).least _ (Cb.one_more (tie := tie) (x := x) (T'.irr x) q ((colN_is T h).cb.sub fun z hz => ?_))
  obtain ⟨h1, h2⟩ := List.mem_filter.mp hz
  exact hs z h1 (of_decide_eq_true h2)
/-- same ties in a group -/
theorem colN_same {tie tie' : Str → Str → Bool} {g : Gr} (T : Tie tie) (T' : Tie tie') (h : ∀ a ∈ g, ∀ b ∈ g, tie a b = tie' a b) : colN tie g = colN tie' g :=
  Nat.le_antisymm (colN_less T T' fun a ha b hb t => by rw [← h a ha b hb]; exact t) (colN_less T' T fun a ha b hb t => by rw [h a ha b hb]; exact t)
theorem colN_mem {tie : Str → Str → Bool} {g h : Gr} (T : Tie tie) (e : ∀ z, z ∈ g ↔ z ∈ h) : colN tie g = colN tie h := colN_eq T ((colN_is T h).congr fun z => (e z).symm)
theorem colN_sub {tie : Str → Str → Bool} {g h : Gr} (T : Tie tie) (s : ∀ z ∈ g, z ∈ h) : colN tie g ≤ colN tie h := (colN_is T h).mono (colN_is T g) s
/-- a thing that is tied to all of a group wants one colour more -/
theorem colN_apex {tie : Str → Str → Bool} {g h : Gr} {x : Str} (T : Tie tie) (hx : x ∈ h) (s : ∀ z ∈ g, z ∈ h) (t : ∀ z ∈ g, tie x z = true) : colN tie g + 1 ≤ colN tie h := by
  obtain ⟨c, h1, h2⟩ := (colN_is T h).cb
  have cx := h1 x hx
  have key : Cb tie g (colN tie h - 1) := by
    refine ⟨fun z => if c z = colN tie h - 1 then c x else c z, fun z hz => ?_, fun a ha b hb q => ?_⟩
    · show (if c z = colN tie h - 1 then c x else c z) < _
      have n1 := h2 x hx z (s z hz) (t z hz)
      have n2 := h1 z (s z hz)
      by_cases e : c z = colN tie h - 1
      · rw [if_pos e]; omega
      · rw [if_neg e]; omega
    · show (if c a = colN tie h - 1 then c x else c a) ≠ (if c b = colN tie h - 1 then c x else c b)
      have n0 := h2 a (s a ha) b (s b hb) q
      have na := h2 x hx a (s a ha) (t a ha)
      have nb := h2 x hx b (s b hb) (t b hb)
      by_cases ea : c a = colN tie h - 1 <;> by_cases eb : c b = colN tie h - 1
      · exact absurd (ea.trans eb.symm) n0
      · rw [if_pos ea, if_neg eb]; exact nb
      · rw [if_neg ea, if_pos eb]; exact Ne.symm na
      · rw [if_neg ea, if_neg eb]; exact n0
  have := (colN_is T g).least _ key
  omega
theorem nodup_leA {α : Type} [DecidableEq α] : ∀ {g h : List α}, g.Nodup → (∀ z ∈ g, z ∈ h) → g.length ≤ h.length
  | [], _, _, _ => Nat.zero_le _
  | x :: g, h, nd, s => by
    obtain ⟨n1, n2⟩ := List.nodup_cons.mp nd
    have hx := s x (by simp)
    have ih := nodup_leA (g := g) (h := h.erase x) n2 fun z hz => (List.mem_erase_of_ne (fun e => n1 (by rw [← e]; exact hz))).mpr (s z (by simp [hz]))
    rw [List.length_erase_of_mem hx] at ih
    have := List.length_pos_of_mem hx
    rw [List.length_cons]
    omega
/-- a thing with fewer ties than colours makes no colour more -/
theorem free_colour {tie : Str → Str → Bool} (T : Tie tie) {x : Str} {r : Gr} {k : Nat} (c : Cb tie r k) (nx : x ∉ r) (few : (r.filter (tie x)).length < k) : Cb tie (x :: r) k := by
  obtain ⟨c, h1, h2⟩ := c
  have : ∃ j, j < k ∧ ∀ z ∈ r, tie x z = true → c z ≠ j := by
    apply Classical.byContradiction
    intro q
    have all : ∀ j ∈ List.range k, j ∈ (r.filter (tie x)).map c := fun j hj => by
      apply Classical.byContradiction
      intro n
      exact q ⟨j, List.mem_range.mp hj, fun z hz t e => n (List.mem_map.mpr ⟨z, List.mem_filter.mpr ⟨hz, t⟩, e⟩)⟩
    have := nodup_leA List.nodup_range all
    rw [List.length_range, List.length_map] at this
    omega
  obtain ⟨j, j1, j2⟩ := this
  have ne : ∀ z ∈ r, z ≠ x := fun z hz e => nx (by rw [← e]; exact hz)
  refine ⟨fun z => if z = x then j else c z, fun z hz => ?_, fun a ha b hb t => ?_⟩
  · show (if z = x then j else c z) < k
    by_cases e : z = x
    · rw [if_pos e]; exact j1
    · rw [if_neg e]; exact h1 z ((List.mem_cons.mp hz).resolve_left e)
  · show (if a = x then j else c a) ≠ (if b = x then j else c b)
    by_cases ea : a = x <;> by_cases eb : b = x
    · rw [ea, eb, T.irr] at t; cases t
    · rw [if_pos ea, if_neg eb]; rw [ea] at t; exact (j2 b ((List.mem_cons.mp hb).resolve_left eb) t).symm
    · rw [if_neg ea, if_pos eb]; rw [eb, T.sym] at t; exact j2 a ((List.mem_cons.mp ha).resolve_left ea) t
    · rw [if_neg ea, if_neg eb]; exact h2 a ((List.mem_cons.mp ha).resolve_left ea) b ((List.mem_cons.mp hb).resolve_left eb) t
end V0
namespace V0
open PySem PySem.Spec PyProof.Rows L2
/-- the name at the same place of another list -/
def toN (us vs : List Str) (z : Str) : Str := vs.getD (us.idxOf z) ""
theorem toN_at {us vs : List Str} (nd : us.Nodup) {i : Nat} {z : Str} (h : us[i]? = some z) {y : Str} (hy : vs[i]? = some y) : toN us vs z = y := by
  obtain ⟨l, e⟩ := List.getElem?_eq_some_iff.mp h
  have : us.idxOf z = i := by rw [← e]; exact nd.idxOf_getElem i l
  unfold toN
  rw [this, List.getD_eq_getElem?_getD, hy]
  rfl
theorem zip_toN {us vs : List Str} (nd : us.Nodup) (l : us.length = vs.length) : us.zip vs = us.map fun z => (z, toN us vs z) := by
  refine List.ext_getElem? fun i => ?_
  rw [List.getElem?_map]
  cases h : us[i]? with
  | none =>
    have := List.getElem?_eq_none_iff.mp h
    exact List.getElem?_eq_none (by rw [List.length_zip]; omega)
  | some z =>
    obtain ⟨li, _⟩ := List.getElem?_eq_some_iff.mp h
    have hy : vs[i]? = some vs[i] := List.getElem?_eq_getElem (by omega)
    rw [(List.getElem?_zip_eq_some (z := (z, vs[i]))).mpr ⟨h, hy⟩, Option.map_some, toN_at nd h hy]
theorem toN_mem {us vs : List Str} (nd : us.Nodup) (l : us.length = vs.length) {z : Str} (h : z ∈ us) : toN us vs z ∈ vs := by
  obtain ⟨i, hi⟩ := List.getElem?_of_mem h
  obtain ⟨li, _⟩ := List.getElem?_eq_some_iff.mp hi
  rw [toN_at nd hi (List.getElem?_eq_getElem (l := vs) (i := i) (by omega))]
  exact List.getElem_mem _
theorem toN_back {us vs : List Str} (nu : us.Nodup) (nv : vs.Nodup) (l : us.length = vs.length) {z : Str} (h : z ∈ us) : toN vs us (toN us vs z) = z := by
  obtain ⟨i, hi⟩ := List.getElem?_of_mem h
  obtain ⟨li, _⟩ := List.getElem?_eq_some_iff.mp hi
  have hy : vs[i]? = some vs[i] := List.getElem?_eq_getElem (by omega)
  rw [toN_at nu hi hy, toN_at nv hy hi]
theorem map_toN {us vs : List Str} (nu : us.Nodup) (l : us.length = vs.length) : us.map (toN us vs) = vs := by
  refine List.ext_getElem? fun i => ?_
  rw [List.getElem?_map]
  cases h : us[i]? with
  | none =>
    have := List.getElem?_eq_none_iff.mp h
    exact (List.getElem?_eq_none (by omega)).symm
  | some z =>
    obtain ⟨li, _⟩ := List.getElem?_eq_some_iff.mp h
    have hy : vs[i]? = some vs[i] := List.getElem?_eq_getElem (by omega)
    rw [Option.map_some, toN_at nu h hy, hy]
end V0
namespace V0
open PySem PySem.Spec PyProof.Rows L2
/-! ### webs of at most seven things: which need more colours than their knots have things -/
/-- a knot, as a list of different things in any order -/
def Kno (tie : Str → Str → Bool) (h : Gr) : Prop := ∀ a ∈ h, ∀ b ∈ h, a ≠ b → tie a b = true
/-- some knot has as many things as there are colours -/
def Gd (tie : Str → Str → Bool) (g : Gr) : Prop := ∃ h : Gr, h.Nodup ∧ (∀ z ∈ h, z ∈ g) ∧ Kno tie h ∧ colN tie g ≤ h.length
theorem Kno.sub {tie : Str → Str → Bool} {h k : Gr} (p : Kno tie h) (s : ∀ z ∈ k, z ∈ h) : Kno tie k := fun a ha b hb => p a (s a ha) b (s b hb)
theorem Kno.cons {tie : Str → Str → Bool} {h : Gr} {x : Str} (T : Tie tie) (p : Kno tie h) (t : ∀ z ∈ h, z ≠ x → tie x z = true) : Kno tie (x :: h) := fun a ha b hb n => by
  rcases List.mem_cons.mp ha with e1 | h1 <;> rcases List.mem_cons.mp hb with e2 | h2
  · exact absurd (e1.trans e2.symm) n
  · rw [e1]; exact t b h2 fun e => n (by rw [e1, e])
  · rw [e2, T.sym]; exact t a h1 fun e => n (by rw [e2, e])
  · exact p a h1 b h2 n
theorem Gd.mem {tie : Str → Str → Bool} {g h : Gr} (T : Tie tie) (e : ∀ z, z ∈ g ↔ z ∈ h) (q : Gd tie g) : Gd tie h := by
  obtain ⟨k, k1, k2, k3, k4⟩ := q
  exact ⟨k, k1, fun z hz => (e z).mp (k2 z hz), k3, by rw [← colN_mem T e]; exact k4⟩
/-- the empty knot, one thing, two things -/
theorem Kno.nil {tie : Str → Str → Bool} : Kno tie [] := fun _ h => by cases h
theorem gd_small {tie : Str → Str → Bool} (T : Tie tie) {g : Gr} (c : Cb tie g 2) : Gd tie g := by
  have l2 := (colN_is T g).least _ c
  by_cases h2 : ∃ a ∈ g, ∃ b ∈ g, tie a b = true
  · obtain ⟨a, ha, b, hb, t⟩ := h2
    have n : a ≠ b := fun e => by rw [e, T.irr] at t; cases t
    refine ⟨[a, b], by simp [n], fun z hz => ?_, fun x hx y hy nn => ?_, l2⟩
    · rcases List.mem_cons.mp hz with e | h
      · rw [e]; exact ha
      · rw [List.mem_singleton.mp h]; exact hb
    · simp only [List.mem_cons, List.not_mem_nil, or_false] at hx hy
      rcases hx with rfl | rfl <;> rcases hy with rfl | rfl
      · exact absurd rfl nn
      · exact t
      · rw [T.sym]; exact t
      · exact absurd rfl nn
  · have c1 : Cb tie g 1 := ⟨fun _ => 0, fun _ _ => Nat.zero_lt_one, fun a ha b hb t => absurd ⟨a, ha, b, hb, t⟩ h2⟩
    have l1 := (colN_is T g).least _ c1
    cases g with
    | nil => exact ⟨[], List.nodup_nil, (fun _ h => by cases h), Kno.nil, by rw [colN_nil T]; exact Nat.zero_le _⟩
    | cons x g =>
      refine ⟨[x], by simp, fun z hz => by rw [List.mem_singleton.mp hz]; simp, fun a ha b hb n => ?_, l1⟩
      exact absurd ((List.mem_singleton.mp ha).trans (List.mem_singleton.mp hb).symm) n
/-- a round of things: just the neighbours are tied -/
def cyc (n i j : Nat) : Bool := decide ((i + 1) % n = j) || decide ((j + 1) % n = i)
def CycL (tie : Str → Str → Bool) (w : List Str) : Prop := ∀ (i j : Nat) (a b : Str), w[i]? = some a → w[j]? = some b → tie a b = cyc w.length i j
def RingOf (tie : Str → Str → Bool) (g : Gr) : Prop := ∃ w : List Str, w.Perm g ∧ CycL tie w ∧ (w.length = 5 ∨ w.length = 7)
/-- five in a ring, told by their ties -/
theorem cyc5 {tie : Str → Str → Bool} (T : Tie tie) {a b c d e : Str} (h1 : tie a b = true) (h2 : tie b c = true) (h3 : tie c d = true) (h4 : tie d e = true) (h5 : tie e a = true) (n1 : tie a c = false) (n2 : tie a d = false) (n3 : tie b d = false) (n4 : tie b e = false) (n5 : tie c e = false) : CycL tie [a, b, c, d, e] := by
  intro i j x y hx hy
  have li := (List.getElem?_eq_some_iff.mp hx).1
  have lj := (List.getElem?_eq_some_iff.mp hy).1
  have sy := T.sym
  show tie x y = cyc 5 i j
  have : ∀ i j : Fin 5, tie ([a, b, c, d, e][i]) ([a, b, c, d, e][j]) = cyc 5 i j := fun i j => by
    match i, j with
    | 0, 0 => exact T.irr _
    | 0, 1 => exact h1
    | 0, 2 => exact n1
    | 0, 3 => exact n2
    | 0, 4 => exact (sy _ _).trans h5
    | 1, 0 => exact (sy _ _).trans h1
    | 1, 1 => exact T.irr _
    | 1, 2 => exact h2
    | 1, 3 => exact n3
    | 1, 4 => exact n4
    | 2, 0 => exact (sy _ _).trans n1
    | 2, 1 => exact (sy _ _).trans h2
    | 2, 2 => exact T.irr _
    | 2, 3 => exact h3
    | 2, 4 => exact n5
    | 3, 0 => exact (sy _ _).trans n2
    | 3, 1 => exact (sy _ _).trans n3
    | 3, 2 => exact (sy _ _).trans h3
    | 3, 3 => exact T.irr _
    | 3, 4 => exact h4
    | 4, 0 => exact h5
    | 4, 1 => exact (sy _ _).trans n4
    | 4, 2 => exact (sy _ _).trans n5
    | 4, 3 => exact (sy _ _).trans h4
    | 4, 4 => exact T.irr _
  have q := this ⟨i, li⟩ ⟨j, lj⟩
  have ex : [a, b, c, d, e][i] = x := (List.getElem?_eq_some_iff.mp hx).2
  have ey : [a, b, c, d, e][j] = y := (List.getElem?_eq_some_iff.mp hy).2
  rw [← ex, ← ey]
  exact q
theorem cyc7 {tie : Str → Str → Bool} (T : Tie tie) {a b c d e f g : Str} (h1 : tie a b = true) (h2 : tie b c = true) (h3 : tie c d = true) (h4 : tie d e = true) (h5 : tie e f = true) (h6 : tie f g = true) (h7 : tie g a = true)
    (n1 : tie a c = false) (n2 : tie a d = false) (n3 : tie a e = false) (n4 : tie a f = false) (n5 : tie b d = false) (n6 : tie b e = false) (n7 : tie b f = false) (n8 : tie b g = false) (n9 : tie c e = false) (m1 : tie c f = false) (m2 : tie c g = false) (m3 : tie d f = false) (m4 : tie d g = false) (m5 : tie e g = false) : CycL tie [a, b, c, d, e, f, g] := by
  intro i j x y hx hy
  have li := (List.getElem?_eq_some_iff.mp hx).1
  have lj := (List.getElem?_eq_some_iff.mp hy).1
  have sy := T.sym
  show tie x y = cyc 7 i j
  have this : ∀ i j : Fin 7, tie ([a, b, c, d, e, f, g][i]) ([a, b, c, d, e, f, g][j]) = cyc 7 i j := fun i j => by
    match i, j with
    | 0, 0 => exact T.irr _
    | 0, 1 => exact h1
    | 0, 2 => exact n1
    | 0, 3 => exact n2
    | 0, 4 => exact n3
    | 0, 5 => exact n4
    | 0, 6 => exact ((sy _ _).trans h7)
    | 1, 0 => exact (sy _ _).trans h1
    | 1, 1 => exact T.irr _
    | 1, 2 => exact h2
    | 1, 3 => exact n5
    | 1, 4 => exact n6
    | 1, 5 => exact n7
    | 1, 6 => exact n8
    | 2, 0 => exact (sy _ _).trans n1
    | 2, 1 => exact (sy _ _).trans h2
    | 2, 2 => exact T.irr _
    | 2, 3 => exact h3
    | 2, 4 => exact n9
    | 2, 5 => exact m1
    | 2, 6 => exact m2
    | 3, 0 => exact (sy _ _).trans n2
    | 3, 1 => exact (sy _ _).trans n5
    | 3, 2 => exact (sy _ _).trans h3
    | 3, 3 => exact T.irr _
    | 3, 4 => exact h4
    | 3, 5 => exact m3
    | 3, 6 => exact m4
    | 4, 0 => exact (sy _ _).trans n3
    | 4, 1 => exact (sy _ _).trans n6
    | 4, 2 => exact (sy _ _).trans n9
    | 4, 3 => exact (sy _ _).trans h4
    | 4, 4 => exact T.irr _
    | 4, 5 => exact h5
    | 4, 6 => exact m5
    | 5, 0 => exact (sy _ _).trans n4
    | 5, 1 => exact (sy _ _).trans n7
    | 5, 2 => exact (sy _ _).trans m1
    | 5, 3 => exact (sy _ _).trans m3
    | 5, 4 => exact (sy _ _).trans h5
    | 5, 5 => exact T.irr _
    | 5, 6 => exact h6
    | 6, 0 => exact h7
    | 6, 1 => exact (sy _ _).trans n8
    | 6, 2 => exact (sy _ _).trans m2
    | 6, 3 => exact (sy _ _).trans m4
    | 6, 4 => exact (sy _ _).trans m5
    | 6, 5 => exact (sy _ _).trans h6
    | 6, 6 => exact T.irr _
  have q := this ⟨i, li⟩ ⟨j, lj⟩
  have ex : [a, b, c, d, e, f, g][i] = x := (List.getElem?_eq_some_iff.mp hx).2
  have ey : [a, b, c, d, e, f, g][j] = y := (List.getElem?_eq_some_iff.mp hy).2
  rw [← ex, ← ey]
  exact q
end V0
namespace V0
open PySem PySem.Spec PyProof.Rows L2
theorem cyc_far5 : ∀ i j : Fin 5, i ≠ j → ∃ k : Fin 5, cyc 5 i k ≠ cyc 5 j k := by decide
theorem cyc_far7 : ∀ i j : Fin 7, i ≠ j → ∃ k : Fin 7, cyc 7 i k ≠ cyc 7 j k := by decide
theorem CycL.nd {tie : Str → Str → Bool} {w : List Str} (c : CycL tie w) (l : w.length = 5 ∨ w.length = 7) : w.Nodup := by
  refine List.pairwise_iff_getElem.mpr fun i j hi hj lt e => ?_
  have far : ∃ k, k < w.length ∧ cyc w.length i k ≠ cyc w.length j k := by
    rcases l with l | l <;> rw [l] at hi hj ⊢
    · obtain ⟨k, h⟩ := cyc_far5 ⟨i, hi⟩ ⟨j, hj⟩ fun q => by have := congrArg Fin.val q; simp only at this; omega
      exact ⟨k, k.isLt, h⟩
    · obtain ⟨k, h⟩ := cyc_far7 ⟨i, hi⟩ ⟨j, hj⟩ fun q => by have := congrArg Fin.val q; simp only at this; omega
      exact ⟨k, k.isLt, h⟩
  obtain ⟨k, hk, h⟩ := far
  refine h ?_
  rw [← c i k _ _ (List.getElem?_eq_getElem hi) (List.getElem?_eq_getElem hk), ← c j k _ _ (List.getElem?_eq_getElem hj) (List.getElem?_eq_getElem hk), e]
theorem all_in {g l : List Str} (nl : l.Nodup) (s : ∀ z ∈ l, z ∈ g) (le : g.length ≤ l.length) : ∀ z ∈ g, z ∈ l := fun z hz => Classical.byContradiction fun n => by
  have := nodup_leA (g := z :: l) (h := g) (List.nodup_cons.mpr ⟨n, nl⟩) fun y hy => (List.mem_cons.mp hy).elim (fun e => by rw [e]; exact hz) (s y)
  rw [List.length_cons] at this
  omega
theorem two_of {l : List Str} (nd : l.Nodup) (h : ¬ l.length < 2) : ∃ a b, a ∈ l ∧ b ∈ l ∧ a ≠ b := by
  match l, nd, h with
  | [], _, h => exact absurd (by decide) h
  | [a], _, h => exact absurd (by show 1 < 2; decide) h
  | a :: b :: l, nd, _ => exact ⟨a, b, by simp, by simp, fun e => (List.nodup_cons.mp nd).1 (by rw [e]; simp)⟩
/-- no three tied, more than two colours: a ring of five or seven -/
theorem odd_ring {tie : Str → Str → Bool} (T : Tie tie) : ∀ (n : Nat) {g : Gr}, g.length ≤ n → g.Nodup → g.length ≤ 7 → (∀ a ∈ g, ∀ b ∈ g, ∀ c ∈ g, tie a b = true → tie b c = true → tie a c = true → False) → ¬ Cb tie g 2 →
    ∃ w : List Str, (∀ z ∈ w, z ∈ g) ∧ CycL tie w ∧ (w.length = 5 ∨ w.length = 7)
  | 0, g, ln, _, _, _, no => by
    have : g = [] := List.eq_nil_of_length_eq_zero (by omega)
    subst this
    exact absurd ⟨fun _ => 0, (fun _ h => by cases h), (fun _ h => by cases h)⟩ no
  | n + 1, g, ln, nd, l7, tf, no => by
    by_cases hm : ∃ z ∈ g, ¬ Cb tie (g.filter fun y => decide (y ≠ z)) 2
    · obtain ⟨z, hz, nz⟩ := hm
      have lt : (g.filter fun y => decide (y ≠ z)).length < g.length := by
        have h := List.length_filter_lt_length_iff_exists (p := fun y => decide (y ≠ z)) (l := g)
        exact h.mpr ⟨z, hz, by simp⟩
      have sb : ∀ y ∈ g.filter (fun y => decide (y ≠ z)), y ∈ g := fun y hy => (List.mem_filter.mp hy).1
      obtain ⟨w, h1, h2, h3⟩ := odd_ring T n (g := g.filter fun y => decide (y ≠ z)) (by omega) (nd.filter _) (by omega) (fun a ha b hb c hc => tf a (sb a ha) b (sb b hb) c (sb c hc)) nz
      exact ⟨w, fun y hy => sb y (h1 y hy), h2, h3⟩
    have min : ∀ z ∈ g, Cb tie (g.filter fun y => decide (y ≠ z)) 2 := fun z hz => Classical.byContradiction fun q => hm ⟨z, hz, q⟩
    apply Classical.byContradiction
    intro noW
    have noC : ∀ w : List Str, (∀ z ∈ w, z ∈ g) → CycL tie w → (w.length = 5 ∨ w.length = 7) → False := fun w a b c => noW ⟨w, a, b, c⟩
    have sy := T.sym
    obtain ⟨v, hv⟩ : ∃ v, v ∈ g := by
      cases g with
      | nil => exact absurd ⟨fun _ => 0, (fun _ h => by cases h), (fun _ h => by cases h)⟩ no
      | cons v g => exact ⟨v, by simp⟩
    -- the second round is loose
    have L1 : ∀ x ∈ g, ∀ y ∈ g, tie x y = true → tie v x = false → tie v y = false → ∀ a ∈ g, ∀ b ∈ g, tie v a = true → tie v b = true → tie a x = true → tie b y = true → False := fun x hx y hy txy nx ny a ha b hb ta tb tax tby => by
      have nay : tie a y = false := Bool.eq_false_iff.mpr fun h => tf a ha x hx y hy tax txy h
      have nbx : tie x b = false := Bool.eq_false_iff.mpr fun h => tf x hx y hy b hb txy ((sy _ _).trans tby) h
      have nab : tie a b = false := Bool.eq_false_iff.mpr fun h => tf v hv a ha b hb ta h tb
      refine noC [v, a, x, y, b] (fun z hz => ?_) (cyc5 T ta tax txy ((sy _ _).trans tby) ((sy _ _).trans tb) nx ny nay nab nbx) (.inl rfl)
      simp only [List.mem_cons, List.not_mem_nil, or_false] at hz
      rcases hz with rfl | rfl | rfl | rfl | rfl <;> assumption
    let R1 : Str → Prop := fun z => z ∈ g ∧ z ≠ v ∧ tie v z = false ∧ ∃ a ∈ g, tie v a = true ∧ tie a z = true
    let R0 : Str → Prop := fun z => z ∈ g ∧ z ≠ v ∧ tie v z = false ∧ ∀ a ∈ g, tie v a = true → tie a z = false
    -- colours of the far ones
    have COL : ∀ d : Str → Nat, (∀ z, R0 z → d z < 2) → (∀ z y, R0 z → R0 y → tie z y = true → d z ≠ d y) → (∀ z y, R0 z → R1 y → tie z y = true → d z = 1) → False := fun d d1 d2 d3 => by
      classical
      refine no ⟨fun z => if z = v then 0 else if tie v z = true then 1 else if R1 z then 0 else d z, fun z hz => ?_, fun a ha b hb t => ?_⟩
      · show (if z = v then 0 else if tie v z = true then 1 else if R1 z then 0 else d z) < 2
        by_cases e : z = v
        · rw [if_pos e]; decide
        · rw [if_neg e]
          by_cases e2 : tie v z = true
          · rw [if_pos e2]; decide
          · rw [if_neg e2]
            by_cases e3 : R1 z
            · rw [if_pos e3]; decide
            · rw [if_neg e3]
              refine d1 z ⟨hz, e, by simpa using e2, fun a ha ta => Bool.eq_false_iff.mpr fun q => e3 ⟨hz, e, by simpa using e2, a, ha, ta, q⟩⟩
      · show (if a = v then 0 else if tie v a = true then 1 else if R1 a then 0 else d a) ≠ (if b = v then 0 else if tie v b = true then 1 else if R1 b then 0 else d b)
        have cls : ∀ z ∈ g, z ≠ v → ¬ tie v z = true → ¬ R1 z → R0 z := fun z hz e e2 e3 => ⟨hz, e, by simpa using e2, fun a ha ta => Bool.eq_false_iff.mpr fun q => e3 ⟨hz, e, by simpa using e2, a, ha, ta, q⟩⟩
        by_cases a1 : a = v
        · have tb : tie v b = true := by rw [← a1]; exact t
          have b1 : b ≠ v := fun e => by rw [e, T.irr] at tb; cases tb
          rw [if_pos a1, if_neg b1, if_pos tb]; decide
        · by_cases b1 : b = v
          · have ta : tie v a = true := by rw [← b1, sy]; exact t
            rw [if_neg a1, if_pos ta, if_pos b1]; decide
          · rw [if_neg a1, if_neg b1]
            by_cases a2 : tie v a = true <;> by_cases b2 : tie v b = true
            · exact absurd (tf v hv a ha b hb a2 t b2) id
            · rw [if_pos a2, if_neg b2]
              have : R1 b := ⟨hb, b1, by simpa using b2, a, ha, a2, t⟩
              rw [if_pos this]; decide
            · rw [if_neg a2, if_pos b2]
              have : R1 a := ⟨ha, a1, by simpa using a2, b, hb, b2, (sy _ _).trans t⟩
              rw [if_pos this]; decide
            · rw [if_neg a2, if_neg b2]
              by_cases a3 : R1 a <;> by_cases b3 : R1 b
              · obtain ⟨_, _, na, x, hx, tx, txa⟩ := a3
                obtain ⟨_, _, nb, y, hy, ty, tyb⟩ := b3
                exact absurd (L1 a ha b hb t na nb x hx y hy tx ty txa tyb) id
              · rw [if_pos a3, if_neg b3, d3 b a (cls b hb b1 b2 b3) a3 ((sy _ _).trans t)]; decide
              · rw [if_neg a3, if_pos b3, d3 a b (cls a ha a1 a2 a3) b3 t]; decide
              · rw [if_neg a3, if_neg b3]
                exact d2 a b (cls a ha a1 a2 a3) (cls b hb b1 b2 b3) t
    -- two far ones are tied
    obtain ⟨e, f, He, Hf, tef⟩ : ∃ e f, R0 e ∧ R0 f ∧ tie e f = true := Classical.byContradiction fun q => COL (fun _ => 1) (fun _ _ => by decide) (fun z y hz hy t => absurd ⟨z, y, hz, hy, t⟩ q) fun _ _ _ _ _ => rfl
    obtain ⟨d0, D1, D2⟩ := min v hv
    have inR : ∀ z ∈ g, z ≠ v → z ∈ g.filter (fun y => decide (y ≠ v)) := fun z hz n => List.mem_filter.mpr ⟨hz, decide_eq_true n⟩
    -- two in the second round
    obtain ⟨c, d, Hc, Hd, ncd⟩ : ∃ c d, R1 c ∧ R1 d ∧ c ≠ d := by
      apply Classical.byContradiction
      intro q
      have one : ∀ x y, R1 x → R1 y → x = y := fun x y hx hy => Classical.byContradiction fun n => q ⟨x, y, hx, hy, n⟩
      by_cases he : ∃ c, R1 c
      · obtain ⟨c, Hc⟩ := he
        have lc := D1 c (inR c Hc.1 Hc.2.1)
        refine COL (fun z => if d0 c = 0 then d0 z else 1 - d0 z) (fun z hz => ?_) (fun z y hz hy t => ?_) fun z y hz hy t => ?_
        · have := D1 z (inR z hz.1 hz.2.1)
          show (if d0 c = 0 then d0 z else 1 - d0 z) < 2
          split <;> omega
        · have l1 := D1 z (inR z hz.1 hz.2.1)
          have l2 := D1 y (inR y hy.1 hy.2.1)
          have := D2 z (inR z hz.1 hz.2.1) y (inR y hy.1 hy.2.1) t
          show (if d0 c = 0 then d0 z else 1 - d0 z) ≠ (if d0 c = 0 then d0 y else 1 - d0 y)
          split <;> omega
        · have e1 := one y c hy Hc
          rw [e1] at t
          have l1 := D1 z (inR z hz.1 hz.2.1)
          have := D2 z (inR z hz.1 hz.2.1) c (inR c Hc.1 Hc.2.1) t
          show (if d0 c = 0 then d0 z else 1 - d0 z) = 1
          split <;> omega
      · exact COL d0 (fun z hz => D1 z (inR z hz.1 hz.2.1)) (fun z y hz hy t => D2 z (inR z hz.1 hz.2.1) y (inR y hy.1 hy.2.1) t) fun z y _ hy _ => absurd ⟨y, hy⟩ he
    -- two neighbours
    obtain ⟨a, b, Ha, Hb, nab⟩ := two_of (l := (g.filter fun y => decide (y ≠ v)).filter (tie v)) ((nd.filter _).filter _) fun few => no ((free_colour T ⟨d0, D1, D2⟩ (fun m => of_decide_eq_true (List.mem_filter.mp m).2 rfl) few).sub fun z hz => by
      by_cases e : z = v
      · rw [e]; simp
      · exact List.mem_cons_of_mem _ (inR z hz e))
    obtain ⟨Ha', ta⟩ := List.mem_filter.mp Ha
    obtain ⟨Hb', tb⟩ := List.mem_filter.mp Hb
    have ha := (List.mem_filter.mp Ha').1
    have hb := (List.mem_filter.mp Hb').1
    have nva := of_decide_eq_true (List.mem_filter.mp Ha').2
    have nvb := of_decide_eq_true (List.mem_filter.mp Hb').2
    have nef : e ≠ f := fun q => by rw [q, T.irr] at tef; cases tef
    have r10 : ∀ x y, R1 x → R0 y → x ≠ y := fun x y hx hy q => by
      obtain ⟨_, _, _, z, hz, tz, tzx⟩ := hx
      have := hy.2.2.2 z hz tz
      rw [← q, tzx] at this
      cases this
    have nn : ∀ x y, tie v x = true → tie v y = false → x ≠ y := fun x y h1 h2 q => by rw [q, h2] at h1; cases h1
    have all7 := all_in (g := g) (l := [v, a, b, c, d, e, f]) (by
      simp only [List.nodup_cons, List.mem_cons, List.not_mem_nil, or_false, not_or, not_false_eq_true, List.nodup_nil, and_true]
      exact ⟨⟨fun q => nva q.symm, fun q => nvb q.symm, fun q => Hc.2.1 q.symm, fun q => Hd.2.1 q.symm, fun q => He.2.1 q.symm, fun q => Hf.2.1 q.symm⟩, ⟨nab, nn _ _ ta Hc.2.2.1, nn _ _ ta Hd.2.2.1, nn _ _ ta He.2.2.1, nn _ _ ta Hf.2.2.1⟩, ⟨nn _ _ tb Hc.2.2.1, nn _ _ tb Hd.2.2.1, nn _ _ tb He.2.2.1, nn _ _ tb Hf.2.2.1⟩, ⟨ncd, r10 _ _ Hc He, r10 _ _ Hc Hf⟩, ⟨r10 _ _ Hd He, r10 _ _ Hd Hf⟩, nef⟩)
      (fun z hz => by
        simp only [List.mem_cons, List.not_mem_nil, or_false] at hz
        rcases hz with rfl | rfl | rfl | rfl | rfl | rfl | rfl
        · exact hv
        · exact ha
        · exact hb
        · exact Hc.1
        · exact Hd.1
        · exact He.1
        · exact Hf.1) (by show g.length ≤ 7; omega)
    have only0 : ∀ z, R0 z → z = e ∨ z = f := fun z hz => by
      have := all7 z hz.1
      simp only [List.mem_cons, List.not_mem_nil, or_false] at this
      rcases this with q | q | q | q | q | q | q
      · exact absurd q hz.2.1
      · exact absurd q.symm (nn _ _ ta hz.2.2.1)
      · exact absurd q.symm (nn _ _ tb hz.2.2.1)
      · exact absurd q.symm (r10 _ _ Hc hz)
      · exact absurd q.symm (r10 _ _ Hd hz)
      · exact .inl q
      · exact .inr q
    -- both far ones have a neighbour in the second round
    have far : ∀ x y, R0 x → R0 y → tie x y = true → (∀ z, R0 z → z = x ∨ z = y) → ∃ c, R1 c ∧ tie c x = true := fun x y hx hy txy only => Classical.byContradiction fun q => by
      have nxy : x ≠ y := fun w => by rw [w, T.irr] at txy; cases txy
      refine COL (fun z => if z = x then 0 else 1) (fun z _ => by show (if z = x then 0 else 1) < 2; split <;> decide) (fun z y' hz hy' t => ?_) fun z y' hz hy' t => ?_
      · show (if z = x then 0 else 1) ≠ (if y' = x then 0 else 1)
        rcases only z hz with e1 | e1 <;> rcases only y' hy' with e2 | e2
        · rw [e1, e2, T.irr] at t; cases t
        · rw [if_pos e1, if_neg (by rw [e2]; exact Ne.symm nxy)]; decide
        · rw [if_neg (by rw [e1]; exact Ne.symm nxy), if_pos e2]; decide
        · rw [e1, e2, T.irr] at t; cases t
      · show (if z = x then 0 else 1) = 1
        rw [if_neg fun w => q ⟨y', hy', by rw [← w, sy]; exact t⟩]
    obtain ⟨c', Hc', tce⟩ := far e f He Hf tef only0
    obtain ⟨d', Hd', tdf⟩ := far f e Hf He ((sy _ _).trans tef) fun z hz => (only0 z hz).symm
    obtain ⟨hc', nvc, ntc, a', ha', ta', tac⟩ := id Hc'
    obtain ⟨hd', nvd, ntd, b', hb', tb', tbd⟩ := id Hd'
    have ncf : tie c' f = false := Bool.eq_false_iff.mpr fun h => tf c' hc' e He.1 f Hf.1 tce tef h
    have ned : tie e d' = false := Bool.eq_false_iff.mpr fun h => tf e He.1 f Hf.1 d' hd' tef ((sy _ _).trans tdf) h
    have ncd' : tie c' d' = false := Bool.eq_false_iff.mpr fun h => L1 c' hc' d' hd' h ntc ntd a' ha' b' hb' ta' tb' tac tbd
    have five : ∀ x ∈ g, tie v x = true → tie x c' = true → tie x d' = true → False := fun x hx tx txc txd => by
      refine noC [x, c', e, f, d'] (fun z hz => ?_) (cyc5 T txc tce tef ((sy _ _).trans tdf) ((sy _ _).trans txd) (He.2.2.2 x hx tx) (Hf.2.2.2 x hx tx) ncf ncd' ned) (.inl rfl)
      simp only [List.mem_cons, List.not_mem_nil, or_false] at hz
      rcases hz with rfl | rfl | rfl | rfl | rfl
      · exact hx
      · exact hc'
      · exact He.1
      · exact Hf.1
      · exact hd'
    have nad : tie a' d' = false := Bool.eq_false_iff.mpr fun h => five a' ha' ta' tac h
    have nbc : tie c' b' = false := Bool.eq_false_iff.mpr fun h => five b' hb' tb' ((sy _ _).trans h) tbd
    have nab' : tie a' b' = false := Bool.eq_false_iff.mpr fun h => tf v hv a' ha' b' hb' ta' h tb'
    refine noC [v, a', c', e, f, d', b'] (fun z hz => ?_) (cyc7 T ta' tac tce tef ((sy _ _).trans tdf) ((sy _ _).trans tbd) ((sy _ _).trans tb') ntc He.2.2.1 Hf.2.2.1 ntd (He.2.2.2 a' ha' ta') (Hf.2.2.2 a' ha' ta') nad nab' ncf ncd' nbc ned ((sy _ _).trans (He.2.2.2 b' hb' tb')) ((sy _ _).trans (Hf.2.2.2 b' hb' tb'))) (.inr rfl)
    simp only [List.mem_cons, List.not_mem_nil, or_false] at hz
    rcases hz with rfl | rfl | rfl | rfl | rfl | rfl | rfl
    · exact hv
    · exact ha'
    · exact hc'
    · exact He.1
    · exact Hf.1
    · exact hd'
    · exact hb'
end V0
namespace V0
open PySem PySem.Spec PyProof.Rows L2
/-! ### a web in other names -/
structure Iso (zs : List Str) (tie : Str → Str → Bool) (ys : List Str) (tie' : Str → Str → Bool) (F G : Str → Str) : Prop where
  mF : ∀ z ∈ zs, F z ∈ ys
  mG : ∀ y ∈ ys, G y ∈ zs
  gf : ∀ z ∈ zs, G (F z) = z
  fg : ∀ y ∈ ys, F (G y) = y
  t : ∀ a ∈ zs, ∀ b ∈ zs, tie' (F a) (F b) = tie a b
section
variable {zs ys : List Str} {tie tie' : Str → Str → Bool} {F G : Str → Str}
theorem Iso.symm (i : Iso zs tie ys tie' F G) : Iso ys tie' zs tie G F := ⟨i.mG, i.mF, i.fg, i.gf, fun a ha b hb => by
  have := i.t (G a) (i.mG a ha) (G b) (i.mG b hb)
  rw [i.fg a ha, i.fg b hb] at this
  exact this.symm⟩
theorem Iso.turn (i : Iso zs tie ys tie' F G) : Iso zs (tieTurn tie) ys (tieTurn tie') F G := ⟨i.mF, i.mG, i.gf, i.fg, fun a ha b hb => by
  unfold tieTurn
  rw [i.t a ha b hb]
  congr 1
  rw [decide_eq_decide]
  exact not_congr ⟨fun e => by rw [← i.gf a ha, ← i.gf b hb, e], fun e => by rw [e]⟩⟩
theorem Iso.cb (i : Iso zs tie ys tie' F G) {k : Nat} (c : Cb tie' ys k) : Cb tie zs k := by
  obtain ⟨c, h1, h2⟩ := c
  exact ⟨fun z => c (F z), fun z hz => h1 _ (i.mF z hz), fun a ha b hb t => h2 _ (i.mF a ha) _ (i.mF b hb) (by rw [i.t a ha b hb]; exact t)⟩
theorem Iso.col (i : Iso zs tie ys tie' F G) (T : Tie tie) (T' : Tie tie') : colN tie' ys = colN tie zs :=
  Nat.le_antisymm ((colN_is T' ys).least _ (i.symm.cb (colN_is T zs).cb)) ((colN_is T zs).least _ (i.cb (colN_is T' ys).cb))
end
end V0

namespace V0
open PySem PySem.Spec PyProof.Rows L2
/-- colours of both together -/
theorem col_two {tie : Str → Str → Bool} {a b u : Gr} (T : Tie tie) (m : ∀ z, z ∈ u ↔ z ∈ a ∨ z ∈ b) : colN tie u ≤ colN tie a + colN tie b ∧ colN tie a ≤ colN tie u ∧ colN tie b ≤ colN tie u := by
  refine ⟨?_, ?_, ?_⟩
  · obtain ⟨f, f1, f2⟩ := (colN_is T a).cb
    obtain ⟨g, g1, g2⟩ := (colN_is T b).cb
    refine (colN_is T u).least _ ⟨fun z => if z ∈ a then f z else colN tie a + g z, fun z hz => ?_, fun x hx y hy t => ?_⟩
    · show (if z ∈ a then f z else colN tie a + g z) < _
      by_cases h : z ∈ a
      · rw [if_pos h]; have := f1 z h; omega
      · rw [if_neg h]; have := g1 z (((m z).mp hz).resolve_left h); omega
    · show (if x ∈ a then f x else colN tie a + g x) ≠ (if y ∈ a then f y else colN tie a + g y)
      by_cases h : x ∈ a <;> by_cases h' : y ∈ a
      · rw [if_pos h, if_pos h']; exact f2 x h y h' t
      · rw [if_pos h, if_neg h']; have := f1 x h; omega
      · rw [if_neg h, if_pos h']; have := f1 y h'; omega
      · rw [if_neg h, if_neg h']
        have := g2 x (((m x).mp hx).resolve_left h) y (((m y).mp hy).resolve_left h') t
        omega
  · exact (colN_is T a).least _ ((colN_is T u).cb.sub fun z hz => (m z).mpr (.inl hz))
  · exact (colN_is T b).least _ ((colN_is T u).cb.sub fun z hz => (m z).mpr (.inr hz))
end V0
namespace V0
open PySem PySem.Spec PyProof.Rows L2
/-! ### rings are bad, and what else is bad has a ring in it -/
def uC (n : Nat) : List Str := (["a", "b", "c", "d", "e", "f", "g"] : List Str).take n
def tCy (n : Nat) (a b : Str) : Bool := cyc n ((uC n).idxOf a) ((uC n).idxOf b)
theorem cyc_irr5 : ∀ i : Fin 6, cyc 5 i i = false := by decide
theorem cyc_irr7 : ∀ i : Fin 8, cyc 7 i i = false := by decide
theorem tCy_tie {n : Nat} (h : n = 5 ∨ n = 7) : Tie (tCy n) := by
  refine ⟨fun a b => Bool.or_comm _ _, fun a => ?_⟩
  have l : (uC n).idxOf a ≤ (uC n).length := List.idxOf_le_length
  rcases h with rfl | rfl
  · exact cyc_irr5 ⟨(uC 5).idxOf a, Nat.lt_succ_of_le l⟩
  · exact cyc_irr7 ⟨(uC 7).idxOf a, Nat.lt_succ_of_le l⟩
theorem flt_add (p : Str → Bool) : ∀ l : Gr, (l.filter p).length + (l.filter fun z => !p z).length = l.length
  | [] => rfl
  | a :: l => by
    have ih := flt_add p l
    cases h : p a with
    | true => rw [List.filter_cons_of_pos h, List.filter_cons_of_neg (by rw [h]; decide), List.length_cons, List.length_cons]; omega
    | false => rw [List.filter_cons_of_neg (by rw [h]; decide), List.filter_cons_of_pos (by rw [h]; rfl), List.length_cons, List.length_cons]; omega
theorem uC_nd {n : Nat} : (uC n).Nodup := List.Nodup.sublist (List.take_sublist _ _) (by decide +kernel)
theorem CycL.iso {tie : Str → Str → Bool} {w : List Str} (c : CycL tie w) {n : Nat} (l : w.length = n) (h : n = 5 ∨ n = 7) : Iso w tie (uC n) (tCy n) (toN w (uC n)) (toN (uC n) w) := by
  have nd : w.Nodup := c.nd (by rw [l]; exact h)
  have lc : w.length = (uC n).length := by rw [l]; rcases h with rfl | rfl <;> rfl
  refine ⟨fun z hz => toN_mem nd lc hz, fun z hz => toN_mem uC_nd lc.symm hz, fun z hz => toN_back nd uC_nd lc hz, fun z hz => toN_back uC_nd nd lc.symm hz, fun a ha b hb => ?_⟩
  obtain ⟨i, hi⟩ := List.getElem?_of_mem ha
  obtain ⟨j, hj⟩ := List.getElem?_of_mem hb
  have li := (List.getElem?_eq_some_iff.mp hi).1
  have lj := (List.getElem?_eq_some_iff.mp hj).1
  have ei : (uC n)[i]? = some (uC n)[i] := List.getElem?_eq_getElem (by omega)
  have ej : (uC n)[j]? = some (uC n)[j] := List.getElem?_eq_getElem (by omega)
  rw [toN_at nd hi ei, toN_at nd hj ej, c i j a b hi hj, l]
  show cyc n ((uC n).idxOf _) ((uC n).idxOf _) = _
  rw [uC_nd.idxOf_getElem, uC_nd.idxOf_getElem]
def dyC (l : List (Str × Nat)) (z : Str) : Nat := (l.lookup z).getD 0
theorem kc5 : IsCol (tCy 5) (uC 5) 3 := col_known (dyC [("b", 1), ("d", 1), ("e", 2)]) (by decide +kernel) (by decide +kernel) (.inr (by decide +kernel))
theorem kc7 : IsCol (tCy 7) (uC 7) 3 := col_known (dyC [("b", 1), ("d", 1), ("f", 1), ("g", 2)]) (by decide +kernel) (by decide +kernel) (.inr (by decide +kernel))
theorem kt5 : IsCol (tieTurn (tCy 5)) (uC 5) 3 := col_known (dyC [("c", 1), ("d", 1), ("e", 2)]) (by decide +kernel) (by decide +kernel) (.inr (by decide +kernel))
theorem kt7 : IsCol (tieTurn (tCy 7)) (uC 7) 4 := col_known (dyC [("c", 1), ("d", 1), ("e", 2), ("f", 2), ("g", 3)]) (by decide +kernel) (by decide +kernel) (.inr (by decide +kernel))
theorem three5 : ∀ i j k : Fin 5, i ≠ j → j ≠ k → i ≠ k → ¬ (cyc 5 i j = true ∧ cyc 5 j k = true ∧ cyc 5 i k = true) := by decide
theorem three7 : ∀ i j k : Fin 7, i ≠ j → j ≠ k → i ≠ k → ¬ (cyc 7 i j = true ∧ cyc 7 j k = true ∧ cyc 7 i k = true) := by decide
theorem free5 : ∀ i j k : Fin 5, i ≠ j → j ≠ k → i ≠ k → ¬ (cyc 5 i j = false ∧ cyc 5 j k = false ∧ cyc 5 i k = false) := by decide
theorem free7 : ∀ i j k l : Fin 7, i ≠ j → i ≠ k → i ≠ l → j ≠ k → j ≠ l → k ≠ l → ¬ (cyc 7 i j = false ∧ cyc 7 i k = false ∧ cyc 7 i l = false ∧ cyc 7 j k = false ∧ cyc 7 j l = false ∧ cyc 7 k l = false) := by decide +kernel
theorem at_w {w : List Str} {a : Str} (h : a ∈ w) : ∃ i : Nat, ∃ l : i < w.length, w[i]? = some a ∧ w[i] = a := by
  obtain ⟨i, hi⟩ := List.getElem?_of_mem h
  obtain ⟨l, e⟩ := List.getElem?_eq_some_iff.mp hi
  exact ⟨i, l, hi, e⟩
/-- a knot in a ring has two things at most, a loose group of five two, of seven three -/
theorem ring_knot {tie : Str → Str → Bool} {w : List Str} (c : CycL tie w) (l : w.length = 5 ∨ w.length = 7) {h : Gr} (nd : h.Nodup) (s : ∀ z ∈ h, z ∈ w) (p : Kno tie h) : h.length ≤ 2 := by
  match h, nd, s, p with
  | [], _, _, _ => exact Nat.zero_le _
  | [_], _, _, _ => exact by show 1 ≤ 2; decide
  | [_, _], _, _, _ => exact Nat.le_refl 2
  | x :: y :: z :: r, nd, s, p =>
    simp only [List.nodup_cons, List.mem_cons, not_or] at nd
    obtain ⟨⟨n1, n2, _⟩, ⟨n3, _⟩, _⟩ := nd
    obtain ⟨i, li, hi, ei⟩ := at_w (s x (by simp))
    obtain ⟨j, lj, hj, ej⟩ := at_w (s y (by simp))
    obtain ⟨k, lk, hk, ek⟩ := at_w (s z (by simp))
    have t1 := p x (by simp) y (by simp) n1
    have t2 := p y (by simp) z (by simp) n3
    have t3 := p x (by simp) z (by simp) n2
    rw [c i j x y hi hj] at t1
    rw [c j k y z hj hk] at t2
    rw [c i k x z hi hk] at t3
    have d1 : i ≠ j := fun e => n1 (by rw [← ei, ← ej]; simp [e])
    have d2 : j ≠ k := fun e => n3 (by rw [← ej, ← ek]; simp [e])
    have d3 : i ≠ k := fun e => n2 (by rw [← ei, ← ek]; simp [e])
    rcases l with l | l <;> rw [l] at t1 t2 t3 li lj lk
    · exact absurd ⟨t1, t2, t3⟩ (three5 ⟨i, li⟩ ⟨j, lj⟩ ⟨k, lk⟩ (fun e => d1 (congrArg Fin.val e)) (fun e => d2 (congrArg Fin.val e)) fun e => d3 (congrArg Fin.val e))
    · exact absurd ⟨t1, t2, t3⟩ (three7 ⟨i, li⟩ ⟨j, lj⟩ ⟨k, lk⟩ (fun e => d1 (congrArg Fin.val e)) (fun e => d2 (congrArg Fin.val e)) fun e => d3 (congrArg Fin.val e))
theorem turn_no {tie : Str → Str → Bool} {a b : Str} (h : tieTurn tie a b = true) : tie a b = false := by
  unfold tieTurn at h
  rw [Bool.and_eq_true] at h
  simpa using h.2
theorem ring_free {tie : Str → Str → Bool} {w : List Str} (c : CycL tie w) (l : w.length = 5 ∨ w.length = 7) {h : Gr} (nd : h.Nodup) (s : ∀ z ∈ h, z ∈ w) (p : Kno (tieTurn tie) h) : h.length ≤ (if w.length = 5 then 2 else 3) := by
  match h, nd, s, p with
  | [], _, _, _ => exact Nat.zero_le _
  | [_], _, _, _ => show 1 ≤ _; split <;> decide
  | [_, _], _, _, _ => show 2 ≤ _; split <;> decide
  | x :: y :: z :: r, nd, s, p =>
    simp only [List.nodup_cons, List.mem_cons, not_or] at nd
    obtain ⟨⟨n1, n2, nr⟩, ⟨n3, ny⟩, nz, _⟩ := nd
    obtain ⟨i, li, hi, ei⟩ := at_w (s x (by simp))
    obtain ⟨j, lj, hj, ej⟩ := at_w (s y (by simp))
    obtain ⟨k, lk, hk, ek⟩ := at_w (s z (by simp))
    have t1 := turn_no (p x (by simp) y (by simp) n1)
    have t2 := turn_no (p y (by simp) z (by simp) n3)
    have t3 := turn_no (p x (by simp) z (by simp) n2)
    rw [c i j x y hi hj] at t1
    rw [c j k y z hj hk] at t2
    rw [c i k x z hi hk] at t3
    have d1 : i ≠ j := fun e => n1 (by rw [← ei, ← ej]; simp [e])
    have d2 : j ≠ k := fun e => n3 (by rw [← ej, ← ek]; simp [e])
    have d3 : i ≠ k := fun e => n2 (by rw [← ei, ← ek]; simp [e])
    rcases l with l | l
    · rw [l] at t1 t2 t3 li lj lk
      exact absurd ⟨t1, t2, t3⟩ (free5 ⟨i, li⟩ ⟨j, lj⟩ ⟨k, lk⟩ (fun e => d1 (congrArg Fin.val e)) (fun e => d2 (congrArg Fin.val e)) fun e => d3 (congrArg Fin.val e))
    · rw [if_neg (by rw [l]; decide)]
      match r, nr, ny, nz, s, p with
      | [], _, _, _, _, _ => exact Nat.le_refl 3
      | u :: r, nr, ny, nz, s, p =>
        simp only [List.mem_cons, not_or] at nr ny nz
        obtain ⟨m, lm, hm, em⟩ := at_w (s u (by simp))
        have t4 := turn_no (p x (by simp) u (by simp) nr.1)
        have t5 := turn_no (p y (by simp) u (by simp) ny.1)
        have t6 := turn_no (p z (by simp) u (by simp) nz.1)
        rw [c i m x u hi hm] at t4
        rw [c j m y u hj hm] at t5
        rw [c k m z u hk hm] at t6
        have d4 : i ≠ m := fun e => nr.1 (by rw [← ei, ← em]; simp [e])
        have d5 : j ≠ m := fun e => ny.1 (by rw [← ej, ← em]; simp [e])
        have d6 : k ≠ m := fun e => nz.1 (by rw [← ek, ← em]; simp [e])
        rw [l] at t1 t2 t3 t4 t5 t6 li lj lk lm
        exact absurd ⟨t1, t3, t4, t2, t5, t6⟩ (free7 ⟨i, li⟩ ⟨j, lj⟩ ⟨k, lk⟩ ⟨m, lm⟩ (fun e => d1 (congrArg Fin.val e)) (fun e => d3 (congrArg Fin.val e)) (fun e => d4 (congrArg Fin.val e)) (fun e => d2 (congrArg Fin.val e)) (fun e => d5 (congrArg Fin.val e)) fun e => d6 (congrArg Fin.val e))
theorem ring_bad {tie : Str → Str → Bool} (T : Tie tie) {w : List Str} (c : CycL tie w) (l : w.length = 5 ∨ w.length = 7) : ¬ Gd tie w ∧ ¬ Gd (tieTurn tie) w := by
  have iso := c.iso rfl l
  have TC := tCy_tie l
  have e1 := iso.col T TC
  have e2 := iso.turn.col (tieTurn_tie T) (tieTurn_tie TC)
  constructor
  · rintro ⟨h, h1, h2, h3, h4⟩
    have := ring_knot c l h1 h2 h3
    have c3 : colN (tCy w.length) (uC w.length) = 3 := by
      rcases l with l | l
      · rw [l] at TC ⊢; exact colN_eq TC kc5
      · rw [l] at TC ⊢; exact colN_eq TC kc7
    omega
  · rintro ⟨h, h1, h2, h3, h4⟩
    have b := ring_free c l h1 h2 h3
    have TU := tieTurn_tie TC
    rcases l with l | l
    · rw [if_pos l] at b
      have c3 : colN (tieTurn (tCy w.length)) (uC w.length) = 3 := by rw [l] at TU ⊢; exact colN_eq TU kt5
      omega
    · rw [if_neg (by rw [l]; decide)] at b
      have c4 : colN (tieTurn (tCy w.length)) (uC w.length) = 4 := by rw [l] at TU ⊢; exact colN_eq TU kt7
      omega
/-- every smaller group is good -/
def MinB (tie : Str → Str → Bool) (g : Gr) : Prop := ∀ h : Gr, h.Nodup → (∀ z ∈ h, z ∈ g) → (∃ x ∈ g, x ∉ h) → Gd tie h
/-- without a loose group a knot of as many things stays -/
theorem stays {tie : Str → Str → Bool} (T : Tie tie) {g : Gr} (nd : g.Nodup) (bad : ¬ Gd tie g) (min : MinB tie g) {R : Gr} (lr : Ls tie R) (hr : ∃ x ∈ R, x ∈ g) : ∃ K : Gr, K.Nodup ∧ (∀ z ∈ K, z ∈ g ∧ z ∉ R) ∧ Kno tie K ∧ K.length < colN tie g ∧ ∀ h : Gr, h.Nodup → (∀ z ∈ h, z ∈ g) → Kno tie h → h.length ≤ K.length := by
  obtain ⟨x, xr, xg⟩ := hr
  obtain ⟨K, k1, k2, k3, k4⟩ := min (g.filter fun z => decide (z ∉ R)) (nd.filter _) (fun z hz => (List.mem_filter.mp hz).1) ⟨x, xg, fun m => of_decide_eq_true (List.mem_filter.mp m).2 xr⟩
  have up := (colN_is T g).least _ (cb_split T.irr T.sym lr (colN_is T (g.filter fun z => decide (z ∉ R))).cb)
  have lt : ∀ h : Gr, h.Nodup → (∀ z ∈ h, z ∈ g) → Kno tie h → h.length < colN tie g := fun h h1 h2 h3 => Classical.byContradiction fun q => bad ⟨h, h1, h2, h3, by omega⟩
  have k2' : ∀ z ∈ K, z ∈ g ∧ z ∉ R := fun z hz => ⟨(List.mem_filter.mp (k2 z hz)).1, of_decide_eq_true (List.mem_filter.mp (k2 z hz)).2⟩
  exact ⟨K, k1, k2', k3, lt K k1 (fun z hz => (k2' z hz).1) k3, fun h h1 h2 h3 => by have := lt h h1 h2 h3; omega⟩
theorem ls_two {tie : Str → Str → Bool} {x y : Str} (t : tie x y = false) : Ls tie [x, y] := List.pairwise_cons.mpr ⟨fun b hb => by rw [List.mem_singleton.mp hb]; exact t, List.pairwise_singleton _ _⟩
/-- two knots together: good -/
theorem konig {tie : Str → Str → Bool} (T : Tie tie) {g : Gr} (nd : g.Nodup) (min : MinB tie g) (X : Str → Prop) (hX : ∀ a ∈ g, ∀ b ∈ g, a ≠ b → X a → X b → tie a b = true) (hY : ∀ a ∈ g, ∀ b ∈ g, a ≠ b → ¬ X a → ¬ X b → tie a b = true) : Gd tie g := by
  classical
  apply Classical.byContradiction
  intro bad
  by_cases all : ∃ x ∈ g, ∃ y ∈ g, x ≠ y ∧ tie x y = false
  · obtain ⟨x, hx, y, hy, nxy, txy⟩ := all
    obtain ⟨K, k1, k2, k3, k4, k5⟩ := stays T nd bad min (ls_two txy) ⟨x, by simp, hx⟩
    have xK : x ∉ K := fun m => (k2 x m).2 (by simp)
    have yK : y ∉ K := fun m => (k2 y m).2 (by simp)
    have sides : (X x ∧ ¬ X y) ∨ (¬ X x ∧ X y) := by
      by_cases h1 : X x <;> by_cases h2 : X y
      · rw [hX x hx y hy nxy h1 h2] at txy; cases txy
      · exact .inl ⟨h1, h2⟩
      · exact .inr ⟨h1, h2⟩
      · rw [hY x hx y hy nxy h1 h2] at txy; cases txy
    let G1 : Gr := g.filter fun z => decide ((X z ∧ z ∈ K) ∨ (¬ X z ∧ z ∉ K))
    let G2 : Gr := g.filter fun z => decide ((X z ∧ z ∉ K) ∨ (¬ X z ∧ z ∈ K))
    let S : Gr := K.filter fun z => decide (X z)
    let R : Gr := K.filter fun z => decide (¬ X z)
    have m1 : ∀ z, z ∈ G1 ↔ z ∈ g ∧ ((X z ∧ z ∈ K) ∨ (¬ X z ∧ z ∉ K)) := fun z => by show z ∈ g.filter _ ↔ _; rw [List.mem_filter, decide_eq_true_iff]
    have m2 : ∀ z, z ∈ G2 ↔ z ∈ g ∧ ((X z ∧ z ∉ K) ∨ (¬ X z ∧ z ∈ K)) := fun z => by show z ∈ g.filter _ ↔ _; rw [List.mem_filter, decide_eq_true_iff]
    have mS : ∀ z, z ∈ S ↔ z ∈ K ∧ X z := fun z => by show z ∈ K.filter _ ↔ _; rw [List.mem_filter, decide_eq_true_iff]
    have mR : ∀ z, z ∈ R ↔ z ∈ K ∧ ¬ X z := fun z => by show z ∈ K.filter _ ↔ _; rw [List.mem_filter, decide_eq_true_iff]
    have lSR : S.length + R.length = K.length := by
      have e : R = K.filter fun z => !decide (X z) := List.filter_congr fun z _ => by simp
      rw [e]
      exact flt_add _ K
    have out1 : ∃ z ∈ g, z ∉ G1 := by
      rcases sides with ⟨h1, h2⟩ | ⟨h1, h2⟩
      · exact ⟨x, hx, fun m => by rcases ((m1 x).mp m).2 with q | q; exact xK q.2; exact q.1 h1⟩
      · exact ⟨y, hy, fun m => by rcases ((m1 y).mp m).2 with q | q; exact yK q.2; exact q.1 h2⟩
    have out2 : ∃ z ∈ g, z ∉ G2 := by
      rcases sides with ⟨h1, h2⟩ | ⟨h1, h2⟩
      · exact ⟨y, hy, fun m => by rcases ((m2 y).mp m).2 with q | q; exact h2 q.1; exact yK q.2⟩
      · exact ⟨x, hx, fun m => by rcases ((m2 x).mp m).2 with q | q; exact h1 q.1; exact xK q.2⟩
    obtain ⟨h1, a1, a2, a3, a4⟩ := min G1 (nd.filter _) (fun z hz => ((m1 z).mp hz).1) out1
    obtain ⟨h2, b1, b2, b3, b4⟩ := min G2 (nd.filter _) (fun z hz => ((m2 z).mp hz).1) out2
    have gK : ∀ z ∈ K, z ∈ g := fun z hz => (k2 z hz).1
    have le1 : h1.length + R.length ≤ K.length := by
      have := k5 (h1 ++ R) (List.nodup_append.mpr ⟨a1, k1.filter _, fun p hp q hq e => ?_⟩) (fun z hz => ?_) fun p hp q hq n => ?_
      · rw [List.length_append] at this; exact this
      · have u := ((m1 p).mp (a2 p hp)).2
        obtain ⟨v1, v2⟩ := (mR q).mp hq
        rw [← e] at v1 v2
        rcases u with u | u
        · exact v2 u.1
        · exact u.2 v1
      · rcases List.mem_append.mp hz with q | q
        · exact ((m1 z).mp (a2 z q)).1
        · exact gK z ((mR z).mp q).1
      · have mix : ∀ p ∈ h1, ∀ q ∈ R, p ≠ q → tie p q = true := fun p hp q hq n => by
          obtain ⟨u0, u⟩ := (m1 p).mp (a2 p hp)
          obtain ⟨v1, v2⟩ := (mR q).mp hq
          rcases u with u | u
          · exact k3 p u.2 q v1 n
          · exact hY p u0 q (gK q v1) n u.1 v2
        rcases List.mem_append.mp hp with u | u <;> rcases List.mem_append.mp hq with v | v
        · exact a3 p u q v n
        · exact mix p u q v n
        · rw [T.sym]; exact mix q v p u (Ne.symm n)
        · exact k3 p ((mR p).mp u).1 q ((mR q).mp v).1 n
    have le2 : h2.length + S.length ≤ K.length := by
      have := k5 (h2 ++ S) (List.nodup_append.mpr ⟨b1, k1.filter _, fun p hp q hq e => ?_⟩) (fun z hz => ?_) fun p hp q hq n => ?_
      · rw [List.length_append] at this; exact this
      · have u := ((m2 p).mp (b2 p hp)).2
        obtain ⟨v1, v2⟩ := (mS q).mp hq
        rw [← e] at v1 v2
        rcases u with u | u
        · exact u.2 v1
        · exact u.1 v2
      · rcases List.mem_append.mp hz with q | q
        · exact ((m2 z).mp (b2 z q)).1
        · exact gK z ((mS z).mp q).1
      · have mix : ∀ p ∈ h2, ∀ q ∈ S, p ≠ q → tie p q = true := fun p hp q hq n => by
          obtain ⟨u0, u⟩ := (m2 p).mp (b2 p hp)
          obtain ⟨v1, v2⟩ := (mS q).mp hq
          rcases u with u | u
          · exact hX p u0 q (gK q v1) n u.1 v2
          · exact k3 p u.2 q v1 n
        rcases List.mem_append.mp hp with u | u <;> rcases List.mem_append.mp hq with v | v
        · exact b3 p u q v n
        · exact mix p u q v n
        · rw [T.sym]; exact mix q v p u (Ne.symm n)
        · exact k3 p ((mS p).mp u).1 q ((mS q).mp v).1 n
    have cov : ∀ z, z ∈ g ↔ z ∈ G1 ∨ z ∈ G2 := fun z => by
      rw [m1, m2]
      constructor
      · intro hz
        by_cases u : X z <;> by_cases v : z ∈ K
        · exact .inl ⟨hz, .inl ⟨u, v⟩⟩
        · exact .inr ⟨hz, .inl ⟨u, v⟩⟩
        · exact .inr ⟨hz, .inr ⟨u, v⟩⟩
        · exact .inl ⟨hz, .inr ⟨u, v⟩⟩
      · rintro (h | h) <;> exact h.1
    have c2 := (col_two (tie := tie) (a := G1) (b := G2) (u := g) T cov).1
    omega
  · refine bad ⟨g, nd, fun _ h => h, fun a ha b hb n => ?_, (colN_is T g).least _ (cb_len T.irr g)⟩
    cases t : tie a b with
    | true => rfl
    | false => exact absurd ⟨a, ha, b, hb, n, t⟩ all
end V0
namespace V0
open PySem PySem.Spec PyProof.Rows L2
theorem tt_eq {tie : Str → Str → Bool} (T : Tie tie) : tieTurn (tieTurn tie) = tie := by
  funext p q
  unfold tieTurn
  by_cases h : p = q
  · rw [h, T.irr]; simp
  · rw [decide_eq_true h]; simp
theorem ring_whole {tie : Str → Str → Bool} {g w : Gr} (nd : g.Nodup) (nw : w.Nodup) (s : ∀ z ∈ w, z ∈ g) (bw : ¬ Gd tie w) (min : MinB tie g) : w.Perm g := by
  refine (List.perm_ext_iff_of_nodup nw nd).mpr fun z => ⟨s z, fun hz => Classical.byContradiction fun n => bw (min w nw s ⟨z, hz, n⟩)⟩
/-- what is bad, and nothing smaller in it, is a ring of five or seven, or the turned one of such a ring -/
theorem spoil {tie : Str → Str → Bool} (T : Tie tie) {g : Gr} (nd : g.Nodup) (l7 : g.length ≤ 7) (bad : ¬ Gd tie g) (min : MinB tie g) : RingOf tie g ∨ RingOf (tieTurn tie) g := by
  classical
  have U := tieTurn_tie T
  have whole : ∀ w : List Str, (∀ z ∈ w, z ∈ g) → CycL tie w → (w.length = 5 ∨ w.length = 7) → RingOf tie g := fun w s c l => ⟨w, ring_whole nd (c.nd l) s (ring_bad T c l).1 min, c, l⟩
  have wholeT : ∀ w : List Str, (∀ z ∈ w, z ∈ g) → CycL (tieTurn tie) w → (w.length = 5 ∨ w.length = 7) → RingOf (tieTurn tie) g := fun w s c l => ⟨w, ring_whole nd (c.nd l) s (by have := (ring_bad U c l).2; rw [tt_eq T] at this; exact this) min, c, l⟩
  by_cases h3 : ∃ a ∈ g, ∃ b ∈ g, ∃ c ∈ g, tie a b = true ∧ tie b c = true ∧ tie a c = true
  · by_cases s3 : ∃ a ∈ g, ∃ b ∈ g, ∃ c ∈ g, tieTurn tie a b = true ∧ tieTurn tie b c = true ∧ tieTurn tie a c = true
    · left
      obtain ⟨p, hp, q, hq, r, hr, t1, t2, t3⟩ := h3
      obtain ⟨x, hx, y, hy, z, hz, u1, u2, u3⟩ := s3
      have ne : ∀ {t : Str → Str → Bool} {a b : Str}, Tie t → t a b = true → a ≠ b := fun Tt h e => by rw [e, Tt.irr] at h; cases h
      have lS : Ls tie [x, y, z] := List.pairwise_cons.mpr ⟨fun b hb => by
        rcases List.mem_cons.mp hb with e | e
        · rw [e]; exact turn_no u1
        · rw [List.mem_singleton.mp e]; exact turn_no u3, ls_two (turn_no u2)⟩
      have lS' := (ls_iff T.irr T.sym).mp lS
      obtain ⟨K, k1, k2, k3, k4, k5⟩ := stays T nd bad min lS ⟨x, by simp, hx⟩
      have gK : ∀ a ∈ K, a ∈ g := fun a h => (k2 a h).1
      have nK : ∀ a ∈ K, a ∉ [x, y, z] := fun a h => (k2 a h).2
      have gS : ∀ a ∈ [x, y, z], a ∈ g := fun a h => by
        simp only [List.mem_cons, List.not_mem_nil, or_false] at h
        rcases h with rfl | rfl | rfl <;> assumption
      have K3 : 3 ≤ K.length := k5 [p, q, r] (by simp [ne T t1, ne T t2, ne T t3]) (fun a h => by
        simp only [List.mem_cons, List.not_mem_nil, or_false] at h
        rcases h with rfl | rfl | rfl <;> assumption) fun a ha b hb n => by
        simp only [List.mem_cons, List.not_mem_nil, or_false] at ha hb
        rcases ha with rfl | rfl | rfl <;> rcases hb with rfl | rfl | rfl
        · exact absurd rfl n
        · exact t1
        · exact t3
        · rw [T.sym]; exact t1
        · exact absurd rfl n
        · exact t2
        · rw [T.sym]; exact t3
        · rw [T.sym]; exact t2
        · exact absurd rfl n
      have nSK : ([x, y, z] ++ K).Nodup := List.nodup_append.mpr ⟨by simp [ne U u1, ne U u2, ne U u3], k1, fun a ha b hb e => nK b hb (by rw [← e]; exact ha)⟩
      -- at most one thing more
      have one : ∀ a b, a ∈ g → b ∈ g → a ∉ K → b ∉ K → a ∉ [x, y, z] → b ∉ [x, y, z] → a = b := fun a b ha hb na nb ma mb => Classical.byContradiction fun n => by
        have := nodup_leA (g := a :: b :: ([x, y, z] ++ K)) (h := g) (List.nodup_cons.mpr ⟨fun m => (List.mem_cons.mp m).elim n fun m => (List.mem_append.mp m).elim ma na, List.nodup_cons.mpr ⟨fun m => (List.mem_append.mp m).elim mb nb, nSK⟩⟩) fun c hc => by
          rcases List.mem_cons.mp hc with e | hc
          · rw [e]; exact ha
          · rcases List.mem_cons.mp hc with e | hc
            · rw [e]; exact hb
            · exact (List.mem_append.mp hc).elim (gS c) (gK c)
        have e : (a :: b :: ([x, y, z] ++ K)).length = K.length + 5 := rfl
        omega
      have miss : ∀ a ∈ g, a ∉ K → ∃ k ∈ K, tie a k = false := fun a ha na => Classical.byContradiction fun q => by
        have := k5 (a :: K) (List.nodup_cons.mpr ⟨na, k1⟩) (fun c hc => (List.mem_cons.mp hc).elim (fun e => by rw [e]; exact ha) (gK c)) (k3.cons T fun k hk _ => by
          cases t : tie a k with
          | true => rfl
          | false => exact absurd ⟨k, hk, t⟩ q)
        rw [List.length_cons] at this
        omega
      apply Classical.byContradiction
      intro noR
      -- colours by what is missed
      have fin : ∀ col : Str → Str, (∀ a ∈ K, col a = a) → (∀ a ∈ g, a ∉ K → col a ∈ K ∧ tie a (col a) = false) → (∀ a ∈ g, a ∉ K → a ∉ [x, y, z] → ∀ s ∈ [x, y, z], tie a s = true → col a ≠ col s) → False := fun col c1 c2 c3 => by
        have inK : ∀ a ∈ g, col a ∈ K := fun a ha => by
          by_cases h : a ∈ K
          · rw [c1 a h]; exact h
          · exact (c2 a ha h).1
        have inj : ∀ a b, a ∈ K → b ∈ K → K.idxOf a = K.idxOf b → a = b := fun a b ha hb e => by
          have h1 := List.getElem_idxOf (List.idxOf_lt_length_of_mem ha)
          have h2 := List.getElem_idxOf (List.idxOf_lt_length_of_mem hb)
          rw [← h1, ← h2]
          congr 1
        have := (colN_is T g).least K.length ⟨fun a => K.idxOf (col a), fun a ha => List.idxOf_lt_length_of_mem (inK a ha), fun a ha b hb t e => ?_⟩
        · omega
        have e := inj _ _ (inK a ha) (inK b hb) e
        have nab : a ≠ b := ne T t
        by_cases a1 : a ∈ K <;> by_cases b1 : b ∈ K
        · rw [c1 a a1, c1 b b1] at e; exact nab e
        · rw [c1 a a1] at e
          have := (c2 b hb b1).2
          rw [← e, T.sym, t] at this
          cases this
        · rw [c1 b b1] at e
          have := (c2 a ha a1).2
          rw [e, t] at this
          cases this
        · by_cases a2 : a ∈ [x, y, z] <;> by_cases b2 : b ∈ [x, y, z]
          · rw [lS' a a2 b b2] at t; cases t
          · exact c3 b hb b1 b2 a a2 (by rw [T.sym]; exact t) e.symm
          · exact c3 a ha a1 a2 b b2 t e
          · exact nab (one a b ha hb a1 b1 a2 b2)
      by_cases hw : ∃ w ∈ g, w ∉ K ∧ w ∉ [x, y, z]
      · obtain ⟨w, hwg, hwK, hwS⟩ := hw
        -- a colour for the one more
        have pick : ∃ k ∈ K, tie w k = false ∧ ∀ s ∈ [x, y, z], tie w s = true → ∃ k' ∈ K, tie s k' = false ∧ k' ≠ k := by
          apply Classical.byContradiction
          intro q
          have only : ∀ k ∈ K, tie w k = false → ∃ s ∈ [x, y, z], tie w s = true ∧ ∀ k' ∈ K, tie s k' = false → k' = k := fun k hk tk => Classical.byContradiction fun q2 => q ⟨k, hk, tk, fun s hs ts => Classical.byContradiction fun q3 => q2 ⟨s, hs, ts, fun k' hk' tk' => Classical.byContradiction fun n => q3 ⟨k', hk', tk', n⟩⟩⟩
          have sK : ∀ s ∈ [x, y, z], s ∉ K := fun s hs m => nK s m hs
          obtain ⟨a, ha, ta⟩ := miss w hwg hwK
          obtain ⟨s, hs, ts, os⟩ := only a ha ta
          have tsa : tie s a = false := by
            obtain ⟨k, hk, tk⟩ := miss s (gS s hs) (sK s hs)
            rw [← os k hk tk]; exact tk
          by_cases h2 : ∃ b ∈ K, tie w b = false ∧ b ≠ a
          · obtain ⟨b, hb, tb, nba⟩ := h2
            obtain ⟨s', hs', ts', os'⟩ := only b hb tb
            have tsb' : tie s' b = false := by
              obtain ⟨k, hk, tk⟩ := miss s' (gS s' hs') (sK s' hs')
              rw [← os' k hk tk]; exact tk
            have t_sb : tie s b = true := by
              cases t : tie s b with
              | true => rfl
              | false => exact absurd (os b hb t) nba
            have t_s'a : tie s' a = true := by
              cases t : tie s' a with
              | true => rfl
              | false => exact absurd (os' a ha t).symm nba
            refine noR (whole [w, s, b, a, s'] (fun c hc => ?_) (cyc5 T ts t_sb (k3 b hb a ha nba) ((T.sym _ _).trans t_s'a) ((T.sym _ _).trans ts') tb ta tsa (lS' s hs s' hs') ((T.sym _ _).trans tsb')) (.inl rfl))
            simp only [List.mem_cons, List.not_mem_nil, or_false] at hc
            rcases hc with rfl | rfl | rfl | rfl | rfl
            · exact hwg
            · exact gS _ hs
            · exact gK _ hb
            · exact gK _ ha
            · exact gS _ hs'
          · have tw : ∀ k ∈ K, k ≠ a → tie w k = true := fun k hk n => by
              cases t : tie w k with
              | true => rfl
              | false => exact absurd ⟨k, hk, t, n⟩ h2
            have tsk : ∀ k ∈ K, k ≠ a → tie s k = true := fun k hk n => by
              cases t : tie s k with
              | true => rfl
              | false => exact absurd (os k hk t) n
            have me : ∀ k, k ∈ K.erase a → k ∈ K ∧ k ≠ a := fun k hk => ⟨List.mem_of_mem_erase hk, fun e => (List.Nodup.not_mem_erase (a := a) k1) (by rw [e] at hk; exact hk)⟩
            have nws : w ≠ s := ne T ts
            have pk : Kno tie (K.erase a) := k3.sub fun k hk => (me k hk).1
            have := k5 (w :: s :: K.erase a) (List.nodup_cons.mpr ⟨fun m => (List.mem_cons.mp m).elim nws fun m => hwK (me w m).1, List.nodup_cons.mpr ⟨fun m => sK s hs (me s m).1, k1.erase a⟩⟩) (fun c hc => by
              rcases List.mem_cons.mp hc with e | hc
              · rw [e]; exact hwg
              · rcases List.mem_cons.mp hc with e | hc
                · rw [e]; exact gS s hs
                · exact gK c (me c hc).1) ((pk.cons T fun k hk _ => tsk k (me k hk).1 (me k hk).2).cons T fun k hk n => by
              rcases List.mem_cons.mp hk with e | hk
              · rw [e]; exact ts
              · exact tw k (me k hk).1 (me k hk).2)
            rw [List.length_cons, List.length_cons, List.length_erase_of_mem ha] at this
            omega
        obtain ⟨kw, hkw, tkw, free⟩ := pick
        have ch : ∀ a : Str, ∃ k : Str, a ∈ g → a ∉ K → k ∈ K ∧ tie a k = false ∧ (a ∈ [x, y, z] → tie w a = true → k ≠ kw) := fun a => by
          by_cases h : a ∈ g ∧ a ∉ K
          · by_cases h2 : a ∈ [x, y, z] ∧ tie w a = true
            · obtain ⟨k', q1, q2, q3⟩ := free a h2.1 h2.2
              exact ⟨k', fun _ _ => ⟨q1, q2, fun _ _ => q3⟩⟩
            · obtain ⟨k', q1, q2⟩ := miss a h.1 h.2
              exact ⟨k', fun _ _ => ⟨q1, q2, fun u v => absurd ⟨u, v⟩ h2⟩⟩
          · exact ⟨a, fun u v => absurd ⟨u, v⟩ h⟩
        let m : Str → Str := fun a => Classical.choose (ch a)
        have hm := fun a => Classical.choose_spec (ch a)
        have mw : ∀ a ∈ g, a ∉ K → a ∉ [x, y, z] → a = w := fun a ha na sa => one a w ha hwg na hwK sa hwS
        refine fin (fun a => if a ∈ K then a else if a = w then kw else m a) (fun a ha => if_pos ha) (fun a ha na => ?_) fun a ha na sa s hs ts => ?_
        · show (if a ∈ K then a else if a = w then kw else m a) ∈ K ∧ tie a (if a ∈ K then a else if a = w then kw else m a) = false
          rw [if_neg na]
          by_cases e : a = w
          · rw [if_pos e, e]; exact ⟨hkw, tkw⟩
          · rw [if_neg e]; exact ⟨(hm a ha na).1, (hm a ha na).2.1⟩
        · have e := mw a ha na sa
          subst e
          have ns : s ∉ K := fun q => nK s q hs
          have nsw : s ≠ a := fun q => sa (by rw [← q]; exact hs)
          show (if a ∈ K then a else if a = a then kw else m a) ≠ (if s ∈ K then s else if s = a then kw else m s)
          rw [if_neg na, if_pos rfl, if_neg ns, if_neg nsw]
          exact Ne.symm ((hm s (gS s hs) ns).2.2 hs ts)
      · have ch : ∀ a : Str, ∃ k : Str, a ∈ g → a ∉ K → k ∈ K ∧ tie a k = false := fun a => by
          by_cases h : a ∈ g ∧ a ∉ K
          · obtain ⟨k', q1, q2⟩ := miss a h.1 h.2
            exact ⟨k', fun _ _ => ⟨q1, q2⟩⟩
          · exact ⟨a, fun u v => absurd ⟨u, v⟩ h⟩
        let m : Str → Str := fun a => Classical.choose (ch a)
        have hm := fun a => Classical.choose_spec (ch a)
        refine fin (fun a => if a ∈ K then a else m a) (fun a ha => if_pos ha) (fun a ha na => ?_) fun a ha na sa => absurd ⟨a, ha, na, sa⟩ hw
        show (if a ∈ K then a else m a) ∈ K ∧ tie a (if a ∈ K then a else m a) = false
        rw [if_neg na]
        exact hm a ha na
    · by_cases c2 : Cb (tieTurn tie) g 2
      · obtain ⟨c, e1, e2⟩ := c2
        have no : ∀ a ∈ g, ∀ b ∈ g, a ≠ b → c a = c b → tie a b = true := fun a ha b hb n e => by
          cases t : tie a b with
          | true => rfl
          | false => exact absurd e (e2 a ha b hb (by unfold tieTurn; rw [decide_eq_true n, t]; rfl))
        refine absurd (konig T nd min (fun z => c z = 0) (fun a ha b hb n p q => no a ha b hb n (by rw [p, q])) fun a ha b hb n p q => no a ha b hb n ?_) bad
        have := e1 a ha
        have := e1 b hb
        omega
      · right
        obtain ⟨w, w1, w2, w3⟩ := odd_ring U g.length (Nat.le_refl _) nd l7 (fun a ha b hb c hc p q r => s3 ⟨a, ha, b, hb, c, hc, p, q, r⟩) c2
        exact wholeT w w1 w2 w3
  · by_cases c2 : Cb tie g 2
    · exact absurd (gd_small T c2) bad
    · left
      obtain ⟨w, w1, w2, w3⟩ := odd_ring T g.length (Nat.le_refl _) nd l7 (fun a ha b hb c hc p q r => h3 ⟨a, ha, b, hb, c, hc, p, q, r⟩) c2
      exact whole w w1 w2 w3
end V0
namespace V0
open PySem PySem.Spec PyProof.Rows L2
/-! ### the way round, thing by thing -/
def nxtW (tie : Str → Str → Bool) (g : Gr) (p c : Str) : Str := match g.filter (tie c) with
  | [a, b] => if a = p then b else a
  | _ => c
def sqW (tie : Str → Str → Bool) (g : Gr) (a b : Str) : Nat → Str × Str
  | 0 => (a, b)
  | k + 1 => ((sqW tie g a b k).2, nxtW tie g (sqW tie g a b k).1 (sqW tie g a b k).2)
def sW (tie : Str → Str → Bool) (g : Gr) (a b : Str) (k : Nat) : Str := (sqW tie g a b k).1
/-- the way of so many things -/
def wayW (tie : Str → Str → Bool) (g : Gr) (a b : Str) (n : Nat) : List Str := (List.range n).map (sW tie g a b)
def Deg2 (tie : Str → Str → Bool) (g : Gr) : Prop := ∀ z ∈ g, (g.filter (tie z)).length = 2
theorem sW_next {tie : Str → Str → Bool} {g : Gr} {a b : Str} (k : Nat) : sW tie g a b (k + 2) = nxtW tie g (sW tie g a b k) (sW tie g a b (k + 1)) := rfl
theorem two_list {l : List Str} (h : l.length = 2) : ∃ a b, l = [a, b] := by
  match l, h with
  | [a, b], _ => exact ⟨a, b, rfl⟩
theorem two_mem {l : List Str} (h : l.length = 2) {a b : Str} (ha : a ∈ l) (hb : b ∈ l) (n : a ≠ b) : ∀ z ∈ l, z = a ∨ z = b := by
  obtain ⟨x, y, rfl⟩ := two_list h
  intro z hz
  simp only [List.mem_cons, List.not_mem_nil, or_false] at ha hb hz
  rcases ha with rfl | rfl <;> rcases hb with rfl | rfl <;> rcases hz with rfl | rfl <;> first | exact absurd rfl n | exact .inl rfl | exact .inr rfl
section
variable {tie : Str → Str → Bool} {g : Gr} {a b : Str}
theorem nxtW_mem (d : Deg2 tie g) {p c : Str} (hc : c ∈ g) (hp : p ∈ g.filter (tie c)) (nd : g.Nodup) : nxtW tie g p c ∈ g.filter (tie c) ∧ nxtW tie g p c ≠ p := by
  obtain ⟨x, y, e⟩ := two_list (d c hc)
  have nxy : x ≠ y := by
    have := nd.filter (tie c)
    rw [e] at this
    exact fun q => (List.nodup_cons.mp this).1 (by rw [q]; simp)
  unfold nxtW
  rw [e] at hp ⊢
  show (if x = p then y else x) ∈ [x, y] ∧ (if x = p then y else x) ≠ p
  by_cases h : x = p
  · rw [if_pos h]; exact ⟨by simp, fun q => nxy (h.trans q.symm)⟩
  · rw [if_neg h]; exact ⟨by simp, h⟩
theorem sW_ok (T : Tie tie) (d : Deg2 tie g) (nd : g.Nodup) (ha : a ∈ g) (hb : b ∈ g) (t : tie a b = true) : ∀ k, sW tie g a b k ∈ g ∧ sW tie g a b (k + 1) ∈ g ∧ tie (sW tie g a b k) (sW tie g a b (k + 1)) = true
  | 0 => ⟨ha, hb, t⟩
  | k + 1 => by
    obtain ⟨h1, h2, h3⟩ := sW_ok T d nd ha hb t k
    have := (nxtW_mem d (p := sW tie g a b k) h2 (List.mem_filter.mpr ⟨h1, by rw [T.sym]; exact h3⟩) nd).1
    obtain ⟨m1, m2⟩ := List.mem_filter.mp this
    exact ⟨h2, m1, m2⟩
theorem wayW_get {n i : Nat} (h : i < n) : (wayW tie g a b n)[i]? = some (sW tie g a b i) := by
  unfold wayW
  rw [List.getElem?_map, List.getElem?_range h]
  rfl
theorem wayW_len {n : Nat} : (wayW tie g a b n).length = n := by unfold wayW; rw [List.length_map, List.length_range]
/-- a way without a thing twice is a round -/
theorem ring_of_walk (T : Tie tie) (d : Deg2 tie g) (nd : g.Nodup) (ha : a ∈ g) (hb : b ∈ g) (t : tie a b = true) (n3 : 3 ≤ g.length) (nw : (wayW tie g a b g.length).Nodup) : CycL tie (wayW tie g a b g.length) ∧ (wayW tie g a b g.length).Perm g := by
  have ok := sW_ok T d nd ha hb t
  have inj : ∀ i j, i < g.length → j < g.length → sW tie g a b i = sW tie g a b j → i = j := fun i j hi hj e => by
    have h := nw.idxOf_getElem i (by rw [wayW_len]; exact hi)
    have h2 := nw.idxOf_getElem j (by rw [wayW_len]; exact hj)
    have e1 : (wayW tie g a b g.length)[i]'(by rw [wayW_len]; exact hi) = sW tie g a b i := (List.getElem?_eq_some_iff.mp (wayW_get hi)).2
    have e2 : (wayW tie g a b g.length)[j]'(by rw [wayW_len]; exact hj) = sW tie g a b j := (List.getElem?_eq_some_iff.mp (wayW_get hj)).2
    rw [e1, e] at h
    rw [e2] at h2
    omega
  have sub : ∀ z ∈ wayW tie g a b g.length, z ∈ g := fun z hz => by
    obtain ⟨i, _, rfl⟩ := List.mem_map.mp hz
    exact (ok i).1
  have all : ∀ z ∈ g, ∃ j, j < g.length ∧ z = sW tie g a b j := fun z hz => by
    obtain ⟨j, hj, e⟩ := List.mem_map.mp (all_in nw sub (by rw [wayW_len]; exact Nat.le_refl _) z hz)
    exact ⟨j, List.mem_range.mp hj, e.symm⟩
  have back : ∀ i, tie (sW tie g a b (i + 1)) (sW tie g a b i) = true := fun i => by rw [T.sym]; exact (ok i).2.2
  have mid : ∀ i, 1 ≤ i → i + 1 < g.length → ∀ z ∈ g, tie (sW tie g a b i) z = true → z = sW tie g a b (i - 1) ∨ z = sW tie g a b (i + 1) := fun i h1 h2 z hz tz => by
    refine two_mem (d _ (ok i).1) (List.mem_filter.mpr ⟨(ok (i - 1)).1, ?_⟩) (List.mem_filter.mpr ⟨(ok (i + 1)).1, (ok i).2.2⟩) (fun e => ?_) z (List.mem_filter.mpr ⟨hz, tz⟩)
    · have := back (i - 1)
      rw [show i - 1 + 1 = i from by omega] at this
      exact this
    · have := inj _ _ (by omega) h2 e
      omega
  have ends : tie (sW tie g a b 0) (sW tie g a b (g.length - 1)) = true := by
    obtain ⟨x, y, e⟩ := two_list (d _ (ok 0).1)
    have nxy : x ≠ y := by
      have := nd.filter (tie (sW tie g a b 0))
      rw [e] at this
      exact fun q => (List.nodup_cons.mp this).1 (by rw [q]; simp)
    obtain ⟨u, hu, nu⟩ : ∃ u, u ∈ g.filter (tie (sW tie g a b 0)) ∧ u ≠ sW tie g a b 1 := by
      by_cases h : x = sW tie g a b 1
      · exact ⟨y, by rw [e]; simp, fun q => nxy (h.trans q.symm)⟩
      · exact ⟨x, by rw [e]; simp, h⟩
    obtain ⟨u1, u2⟩ := List.mem_filter.mp hu
    obtain ⟨j, hj, rfl⟩ := all u u1
    have j0 : j ≠ 0 := fun q => by rw [q, T.irr] at u2; cases u2
    have j1 : j ≠ 1 := fun q => nu (by rw [q])
    by_cases h : j + 1 < g.length
    · rcases mid j (by omega) h _ (ok 0).1 (by rw [T.sym]; exact u2) with q | q
      · have := inj _ _ (by omega) (by omega) q; omega
      · have := inj _ _ (by omega) h q; omega
    · rw [show g.length - 1 = j from by omega]; exact u2
  have first : ∀ z ∈ g, tie (sW tie g a b 0) z = true → z = sW tie g a b 1 ∨ z = sW tie g a b (g.length - 1) := fun z hz tz =>
    two_mem (d _ (ok 0).1) (List.mem_filter.mpr ⟨(ok 1).1, (ok 0).2.2⟩) (List.mem_filter.mpr ⟨(ok _).1, ends⟩) (fun e => by have := inj _ _ (by omega) (by omega) e; omega) z (List.mem_filter.mpr ⟨hz, tz⟩)
  have last : ∀ z ∈ g, tie (sW tie g a b (g.length - 1)) z = true → z = sW tie g a b (g.length - 2) ∨ z = sW tie g a b 0 := fun z hz tz => by
    have bk := back (g.length - 2)
    rw [show g.length - 2 + 1 = g.length - 1 from by omega] at bk
    exact two_mem (d _ (ok _).1) (List.mem_filter.mpr ⟨(ok _).1, bk⟩) (List.mem_filter.mpr ⟨(ok 0).1, by rw [T.sym]; exact ends⟩) (fun e => by have := inj _ _ (by omega) (by omega) e; omega) z (List.mem_filter.mpr ⟨hz, tz⟩)
  refine ⟨fun i j p q hp hq => ?_, (List.perm_ext_iff_of_nodup nw nd).mpr fun z => ⟨sub z, fun hz => by obtain ⟨j, hj, rfl⟩ := all z hz; exact List.mem_map.mpr ⟨j, List.mem_range.mpr hj, rfl⟩⟩⟩
  have li := (List.getElem?_eq_some_iff.mp hp).1
  have lj := (List.getElem?_eq_some_iff.mp hq).1
  rw [wayW_len] at li lj ⊢
  rw [wayW_get li] at hp
  rw [wayW_get lj] at hq
  cases hp
  cases hq
  have step : ∀ i, i < g.length → (i + 1) % g.length = (if i + 1 = g.length then 0 else i + 1) := fun i hi => by
    by_cases h : i + 1 = g.length
    · rw [if_pos h, h, Nat.mod_self]
    · rw [if_neg h, Nat.mod_eq_of_lt (by omega)]
  unfold cyc
  rw [Bool.eq_iff_iff, Bool.or_eq_true, decide_eq_true_iff, decide_eq_true_iff, step i li, step j lj]
  constructor
  · intro tt
    by_cases h0 : i = 0
    · subst h0
      rcases first _ (ok j).1 tt with q | q
      · have := inj _ _ lj (by omega) q
        left; rw [if_neg (by omega)]; omega
      · have := inj _ _ lj (by omega) q
        right; rw [if_pos (by omega)]
    · by_cases h1 : i + 1 = g.length
      · rw [show i = g.length - 1 from by omega] at tt
        rcases last _ (ok j).1 tt with q | q
        · have := inj _ _ lj (by omega) q
          right; rw [if_neg (by omega)]; omega
        · have := inj _ _ lj (by omega) q
          left; rw [if_pos h1]; omega
      · rcases mid i (by omega) (by omega) _ (ok j).1 tt with q | q
        · have := inj _ _ lj (by omega) q
          right; rw [if_neg (by omega)]; omega
        · have := inj _ _ lj (by omega) q
          left; rw [if_neg h1]; omega
  · rintro (h | h)
    · by_cases h1 : i + 1 = g.length
      · rw [if_pos h1] at h
        rw [← h, show i = g.length - 1 from by omega, T.sym]
        exact ends
      · rw [if_neg h1] at h
        rw [← h]
        exact (ok i).2.2
    · by_cases h1 : j + 1 = g.length
      · rw [if_pos h1] at h
        rw [← h, show j = g.length - 1 from by omega]
        exact ends
      · rw [if_neg h1] at h
        rw [← h]
        exact back j
end
theorem turn5 : ∀ s i j : Fin 5, cyc 5 ((s.val + 1 * i.val) % 5) ((s.val + 1 * j.val) % 5) = cyc 5 i.val j.val ∧ cyc 5 ((s.val + 4 * i.val) % 5) ((s.val + 4 * j.val) % 5) = cyc 5 i.val j.val := by decide +kernel
theorem turn7 : ∀ s i j : Fin 7, cyc 7 ((s.val + 1 * i.val) % 7) ((s.val + 1 * j.val) % 7) = cyc 7 i.val j.val ∧ cyc 7 ((s.val + 6 * i.val) % 7) ((s.val + 6 * j.val) % 7) = cyc 7 i.val j.val := by decide +kernel
theorem deg5 : ∀ i : Fin 5, ((List.range 5).filter (cyc 5 i.val)).length = 2 := by decide
theorem deg7 : ∀ i : Fin 7, ((List.range 7).filter (cyc 7 i.val)).length = 2 := by decide
end V0
namespace V0
open PySem PySem.Spec PyProof.Rows L2
theorem filter_idx {w : List Str} (p : Str → Bool) : (w.filter p).length = ((List.range w.length).filter fun j => p (w.getD j "")).length := by
  have e : w = (List.range w.length).map fun j => w.getD j "" := by
    refine List.ext_getElem? fun i => ?_
    rw [List.getElem?_map]
    by_cases h : i < w.length
    · rw [List.getElem?_range h, Option.map_some, List.getD_eq_getElem?_getD, List.getElem?_eq_getElem h]; rfl
    · rw [List.getElem?_eq_none (by omega), List.getElem?_eq_none (by rw [List.length_range]; omega)]; rfl
  have : (w.filter p).length = (((List.range w.length).map fun j => w.getD j "").filter p).length := by rw [← e]
  rw [this, List.filter_map, List.length_map]
  rfl
theorem getD_at {w : List Str} {i : Nat} (h : i < w.length) : w[i]? = some (w.getD i "") := by
  rw [List.getD_eq_getElem?_getD, List.getElem?_eq_getElem h]
  rfl
/-- a round with a given way round and beginning: just its things, one after the other -/
theorem walk_of_ring {tie : Str → Str → Bool} {g : Gr} (T : Tie tie) (nd : g.Nodup) (r : RingOf tie g) : Deg2 tie g ∧ (g.length = 5 ∨ g.length = 7) ∧ ∀ a b, a ∈ g → b ∈ g → tie a b = true → (wayW tie g a b g.length).Nodup := by
  obtain ⟨w, pm, c, l⟩ := r
  have nw : w.Nodup := c.nd l
  have lw := pm.length_eq
  have tie_w : ∀ i j, i < w.length → j < w.length → tie (w.getD i "") (w.getD j "") = cyc w.length i j := fun i j hi hj => c i j _ _ (getD_at hi) (getD_at hj)
  have inw : ∀ z ∈ g, ∃ i, i < w.length ∧ z = w.getD i "" := fun z hz => by
    obtain ⟨i, li, hi, e⟩ := at_w (pm.mem_iff.mpr hz)
    exact ⟨i, li, by rw [List.getD_eq_getElem?_getD, hi]; rfl⟩
  have ing : ∀ i, i < w.length → w.getD i "" ∈ g := fun i hi => pm.mem_iff.mp (List.mem_of_getElem? (getD_at hi))
  have injw : ∀ i j, i < w.length → j < w.length → w.getD i "" = w.getD j "" → i = j := fun i j hi hj e => by
    have h1 := (List.getElem?_eq_some_iff.mp (getD_at hi)).2
    have h2 := (List.getElem?_eq_some_iff.mp (getD_at hj)).2
    have h := nw.idxOf_getElem i hi
    have h' := nw.idxOf_getElem j hj
    rw [h1, e] at h
    rw [h2] at h'
    omega
  have d2 : Deg2 tie g := fun z hz => by
    obtain ⟨i, hi, rfl⟩ := inw z hz
    rw [← (pm.filter (tie (w.getD i ""))).length_eq, filter_idx]
    have e : (List.range w.length).filter (fun j => tie (w.getD i "") (w.getD j "")) = (List.range w.length).filter (cyc w.length i) := List.filter_congr fun j hj => tie_w i j hi (List.mem_range.mp hj)
    rw [e]
    rcases l with l | l <;> rw [l] at hi ⊢
    · exact deg5 ⟨i, hi⟩
    · exact deg7 ⟨i, hi⟩
  refine ⟨d2, by rw [← lw]; exact l, fun a b ha hb t => ?_⟩
  obtain ⟨s, hs, rfl⟩ := inw a ha
  obtain ⟨s', hs', rfl⟩ := inw b hb
  rw [tie_w s s' hs hs'] at t
  -- steps of one on, or of one back
  have go : ∀ m : Nat, (∀ x, x < w.length → cyc w.length x ((x + m) % w.length) = true ∧ ((x + m) % w.length + m) % w.length ≠ x) → (∀ i j, i < w.length → j < w.length → (s + m * i) % w.length = (s + m * j) % w.length → i = j) → (s + m) % w.length = s' → (wayW tie g (w.getD s "") (w.getD s' "") g.length).Nodup := fun m h1 h2 h3 => by
    have pos : 0 < w.length := by omega
    have lt : ∀ k, (s + m * k) % w.length < w.length := fun k => Nat.mod_lt _ pos
    have nxt : ∀ k, (s + m * (k + 1)) % w.length = ((s + m * k) % w.length + m) % w.length := fun k => by rw [Nat.mul_succ, ← Nat.add_assoc, Nat.mod_add_mod]
    have F : ∀ k, sW tie g (w.getD s "") (w.getD s' "") k = w.getD ((s + m * k) % w.length) "" ∧ sW tie g (w.getD s "") (w.getD s' "") (k + 1) = w.getD ((s + m * (k + 1)) % w.length) "" := fun k => by
      induction k with
      | zero =>
        refine ⟨?_, ?_⟩
        · rw [Nat.mul_zero, Nat.add_zero, Nat.mod_eq_of_lt hs]; rfl
        · rw [Nat.zero_add, Nat.mul_one, h3]; rfl
      | succ k ih =>
        refine ⟨ih.2, ?_⟩
        rw [sW_next, ih.1, ih.2]
        have x0 := lt k
        have x1 := lt (k + 1)
        have x2 := lt (k + 1 + 1)
        obtain ⟨p1, p2⟩ := h1 _ x0
        obtain ⟨q1, _⟩ := h1 _ x1
        rw [← nxt k] at p1 p2
        rw [← nxt (k + 1)] at q1 p2
        have cs : ∀ i j, cyc w.length i j = cyc w.length j i := fun i j => Bool.or_comm _ _
        have mk : w.getD ((s + m * k) % w.length) "" ∈ g.filter (tie (w.getD ((s + m * (k + 1)) % w.length) "")) := List.mem_filter.mpr ⟨ing _ x0, by rw [tie_w _ _ x1 x0, cs]; exact p1⟩
        have mk2 : w.getD ((s + m * (k + 1 + 1)) % w.length) "" ∈ g.filter (tie (w.getD ((s + m * (k + 1)) % w.length) "")) := List.mem_filter.mpr ⟨ing _ x2, by rw [tie_w _ _ x1 x2]; exact q1⟩
        obtain ⟨n1, n2⟩ := nxtW_mem d2 (ing _ x1) mk nd
        exact (two_mem (d2 _ (ing _ x1)) mk mk2 (fun e => p2 (injw _ _ x0 x2 e).symm) _ n1).resolve_left n2
    unfold wayW
    refine List.pairwise_map.mpr (List.nodup_range.imp_of_mem fun {i j} hi hj n e => n ?_)
    rw [(F i).1, (F j).1] at e
    have hi := List.mem_range.mp hi
    have hj := List.mem_range.mp hj
    exact h2 i j (by omega) (by omega) (injw _ _ (lt i) (lt j) e)
  unfold cyc at t
  rw [Bool.or_eq_true, decide_eq_true_iff, decide_eq_true_iff] at t
  have cy : ∀ n x y : Nat, (x + 1) % n = y ∨ (y + 1) % n = x → cyc n x y = true := fun n x y h => by
    unfold cyc
    rw [Bool.or_eq_true, decide_eq_true_iff, decide_eq_true_iff]
    exact h
  rcases t with t | t
  · refine go 1 (fun x hx => ⟨cy _ _ _ (.inl rfl), ?_⟩) (fun i j hi hj e => ?_) t
    · rcases l with l | l <;> rw [l] at hx ⊢ <;> omega
    · rcases l with l | l <;> rw [l] at hi hj e hs <;> omega
  · refine go (w.length - 1) (fun x hx => ⟨cy _ _ _ (.inr ?_), ?_⟩) (fun i j hi hj e => ?_) ?_
    · rcases l with l | l <;> rw [l] at hx ⊢ <;> omega
    · rcases l with l | l <;> rw [l] at hx ⊢ <;> omega
    · rcases l with l | l <;> rw [l] at hi hj e hs <;> simp only [Nat.reduceSub] at e <;> omega
    · rcases l with l | l <;> rw [l] at t hs hs' ⊢ <;> omega
/-- a ring, by the way that begins with two given things -/
theorem ring_iff {tie : Str → Str → Bool} {g : Gr} (T : Tie tie) (nd : g.Nodup) (l : g.length = 5 ∨ g.length = 7) {a b : Str} (ha : a ∈ g) (hb : b ∈ g) (t : tie a b = true) (d : Deg2 tie g) : RingOf tie g ↔ (wayW tie g a b g.length).Nodup :=
  ⟨fun r => (walk_of_ring T nd r).2.2 a b ha hb t, fun n => by
    obtain ⟨c, pm⟩ := ring_of_walk T d nd ha hb t (by omega) n
    exact ⟨_, pm, c, by rw [wayW_len]; exact l⟩⟩
end V0
namespace V0
open PySem PySem.Spec PyProof.Rows L2
def rLenQ (K : PySem.W.Frag) : List V → Hp → VK → Prop := fun xs H Q => ∃ x n, xs = [x] ∧ LenV K x H n ∧ Q (.int n) H
end V0

namespace V0
open PySem PySem.Spec PyProof.Rows L2
/-- where a way round begins -/
def w0 (g : Gr) : Str := g.getD 0 ""
def w1 (tie : Str → Str → Bool) (g : Gr) : Str := (g.filter (tie (w0 g))).getD 0 ""
/-- the way round that is told -/
def wayG (tie : Str → Str → Bool) (g : Gr) : List Str := wayW tie g (w0 g) (w1 tie g) g.length
def spRing (C : Addr) : Sp := fun vs H Q _ => ∃ (x a : Addr) (zs : List Str) (tie : Str → Str → Bool) (g : Gr), vs = [.ref x, .ref a] ∧ Wbs C H x zs tie ∧ GrAt H g a ∧ g.Sublist zs ∧ (g.length = 5 ∨ g.length = 7) ∧
  (∀ H', Same H H' → ¬ RingOf tie g → Q .non H') ∧ ∀ p H', Same H H' → RingOf tie g → GrAt H' (wayG tie g) p → Q (.ref p) H'
theorem ref_paired {α : Type} {R : α → Addr → Prop} {xs : List α} {as : List Addr} {x : α} (h : Paired R xs as) (m : x ∈ xs) : ∃ (i : Nat) (a : Addr), xs[i]? = some x ∧ as[i]? = some a ∧ R x a := by
  induction h with
  | nil => cases m
  | cons r _ ih =>
    rcases List.mem_cons.mp m with e | m
    · exact ⟨0, _, by rw [e]; rfl, rfl, by rw [e]; exact r⟩
    · obtain ⟨i, a, h1, h2, h3⟩ := ih m
      exact ⟨i + 1, a, h1, h2, h3⟩
/-- web.beside(z), those of a group -/
theorem nbs_in {zs g : List Str} {tie : Str → Str → Bool} (asc : Asc zs) (s : g.Sublist zs) (z : Str) : (nbs zs tie z).filter (fun y => decide (y ∈ g)) = g.filter (tie z) := by
  refine asc_one ((List.perm_ext_iff_of_nodup (Asc.nd (nbs_asc asc |>.sublist List.filter_sublist)) (Asc.nd ((asc.sublist s).sublist List.filter_sublist))).mpr fun y => ?_) (nbs_asc asc |>.sublist List.filter_sublist) ((asc.sublist s).sublist List.filter_sublist)
  unfold nbs
  rw [List.mem_filter, List.mem_filter, List.mem_filter, decide_eq_true_iff]
  exact ⟨fun h => ⟨h.2, h.1.2⟩, fun h => ⟨⟨s.subset h.1, h.2⟩, h.1⟩⟩
theorem at_neg {xs : List V} {k j : Nat} {v : V} (h : k + j = xs.length) (k1 : 1 ≤ k) (e : xs[j]? = some v) : atI xs (-(k : Int)) = some v := by
  unfold atI ixN
  rw [if_neg (by omega), if_pos (by omega)]
  show xs[(-(k : Int) + (xs.length : Int)).toNat]? = some v
  rw [show (-(k : Int) + (xs.length : Int)).toNat = j from by omega]
  exact e
section
variable {P : Program} {w : World} {K : PySem.W.Frag} {mg : Str → Option Value} {base : Heap} {C : Addr}
abbrev s__ring : Stmt := top 46
abbrev N__ring : List Str := ["web", "group", "thing", "other", "beside", "way", "one"]
abbrev P__ring : List Str := ["web", "group"]
theorem sc__ring : FnScope N__ring P__ring (defScope s__ring) := ⟨rfl, rfl, rfl, by decide +kernel, rfl, by decide +kernel, by decide +kernel⟩
theorem ok_ring {f f1 : Addr} {fd fd1 : FuncData} (B : Bl mg) (M : Bm mg) (KWeb : Kls K mg "Web" C) (Y_Web_beside : Md K "Web.beside" "beside" C s_Web_beside P_Web_beside f1 fd1) (G_Web_beside : FnOk P w K mg base CX0 3 f1 fd1 P_Web_beside (spBesideW C)) (D : Df K mg "_ring" s__ring P__ring f fd) : FnOk P w K mg base CX0 4 f fd P__ring (spRing C) := by
  refine D.F.ok sc__ring (fun vs H Q E h => ?_) (fun cdv A outer s H vs Q E hr h => ?_)
  · obtain ⟨x, a, zs, tie, g, rfl, _⟩ := h
    rfl
  · obtain ⟨x, a, zs, tie, g, rfl, W, ga, sg, l57, kN, kY⟩ := h
    refine ⟨_, (pss_cons (ps_set (i := 4) sc__ring.nd rfl (Or.inr rfl) (pe_dc (own := [("thing", 2)]) (g := gName 2) (tt := tYes) rfl sc__ring.nd (pi_tup (pv 1)) (blkOk_by (own := [("thing", 2)]) (N := N__ring) (sc := defScope s__ring) (by decide +kernel)) (fun _ _ _ _ _ => (pg_name (i := 2) sc__ring.nd rfl (Or.inl rfl))) (fun _ _ _ _ _ => pts_nil) (fun _ _ _ _ _ => (pv 2)) (fun _ _ _ _ _ => (show PE _ _ (tLc (iTup K (tMeth C "beside" (spBesideW C) [] E0 (tVar 0) (tCons (tVar 2) tNil))) (gName 3) (tTest (tOp (rIn K false) (tVar 3) (tVar 1))) (tVar 3) [3]) from by exact (pe_lc (own := [("other", 3)]) (g := gName 3) (tt := (tTest (tOp (rIn K false) (tVar 3) (tVar 1)))) (te := tVar 3) rfl sc__ring.nd (pi_tup (pe_meth (pv 0) KWeb.cl Y_Web_beside.m G_Web_beside (hr.mono (by decide)) Y_Web_beside.b .nil pass0 (pa_cons (pv 2) pa_nil))) (blkOk_by (by rfl)) (fun _ _ _ _ _ => (pg_name (i := 3) sc__ring.nd rfl (Or.inl rfl))) (fun _ _ _ _ _ => pts_one (show PT _ _ (tTest (tOp (rIn K false) (tVar 3) (tVar 1))) from by exact (pt_cmpR op_in_seq (pv 3) (pv 1) (by rfl)))) (fun _ _ _ _ _ => (show PE _ _ (tVar 3) from by exact (pv 3))))))))
      (pss_cons (ps_if (pt_val (pe_callB (cr_any rfl) (by rfl) B.b_any (by decide +kernel) (pa_cons (pe_lc (own := [("thing", 2)]) (g := gName 2) (tt := tYes) rfl sc__ring.nd (pi_tup (pv 1)) (blkOk_by (own := [("thing", 2)]) (N := N__ring) (sc := defScope s__ring) (by decide +kernel)) (fun _ _ _ _ _ => (pg_name (i := 2) sc__ring.nd rfl (Or.inl rfl))) (fun _ _ _ _ _ => pts_nil) (fun _ _ _ _ _ => (show PE _ _ (tOp rNe (tCB (rLenQ K) (tCons (tDGet (tVar 4) (tVar 2)) tNil)) (tC (V.int 2))) from by exact (pe_cmpR op_ne (pe_callB call_len (by rfl) B.b_len (by decide +kernel) (pa_cons (pe_dget (hu_of hr) (pv 4) (pv 2) (fun _ _ => rfl)) pa_nil)) pe_int (nomark _))))) pa_nil))) (pss_one (ps_ret pe_non)) pss_nil)
      (pss_cons (ps_set (i := 5) sc__ring.nd rfl (Or.inl rfl) (pe_lst (pa_cons (pe_ix ix_tup (pv 1) pe_int (fun _ _ => rfl)) (pa_cons (pe_ix ix_list (pe_dget (hu_of hr) (pv 4) (pe_ix ix_tup (pv 1) pe_int (fun _ _ => rfl)) (fun _ _ => rfl)) pe_int (fun _ _ => rfl)) pa_nil))))
      (pss_cons (ps_while PassesOwn.never (pt_cmpR op_lt (pe_callB call_len (by rfl) B.b_len (by decide +kernel) (pa_cons (pv 5) pa_nil)) (pe_callB call_len (by rfl) B.b_len (by decide +kernel) (pa_cons (pv 1) pa_nil)) (nomark _)) (pss_cons (ps_asg (pe_dget (hu_of hr) (pv 4) (pe_ix ix_list (pv 5) (pe_un un_neg pe_int) (fun _ _ => rfl)) (fun _ _ => rfl)) (pg_lst rfl (pgs_cons (pg_name (i := 6) sc__ring.nd rfl (Or.inl rfl)) (pgs_cons (pg_name (i := 3) sc__ring.nd rfl (Or.inl rfl)) pgs_nil))))
      (pss_one (ps_expr (pe_bm PySem.F.plainAttrs_list PySem.F.slot_list_append PySem.F.type_list_append mt_append (pv 5) (pa_cons (pe_ifExp (pt_cmpR op_eq (pv 6) (pe_ix ix_list (pv 5) (pe_un un_neg pe_int) (fun _ _ => rfl)) (nomark _)) (pv 3) (pv 6)) pa_nil))))))
      (pss_one (ps_ret (pe_ifExp (pt_cmpR op_eq (pe_lenSetS rfl (by rfl) B.b_len (by rfl) M.b_set (pv 5)) (pe_callB call_len (by rfl) B.b_len (by decide +kernel) (pa_cons (pv 1) pa_nil)) (nomark _)) (pe_callTy call_tuple_of (by rfl) B.b_tuple (by decide +kernel) (pa_cons (pv 5) pa_nil)) pe_non))))))), ?_⟩
    have T := W.t
    have hz := W.z
    have asc := hz.asc
    have asg := asc.sublist sg
    have gnd : g.Nodup := Asc.nd asg
    have gm : ∀ z ∈ g, z ∈ zs := fun z h => sg.subset h
    have gne : g ≠ [] := fun e => by rw [e] at l57; rcases l57 with l | l <;> cases l
    have gl : g.length ≤ 8 := by omega
    refine ⟨_, rfl, a, rfl, ⟨_, SqT.of ga⟩, fun D hD => ?_⟩
    refine dc_it (walk_tup (xs := g.map V.str)) (fun i H' => Same H H' ∧ ∃ bs, H' D = some (.dK (lkv (g.take i) bs)) ∧ Paired (fun z b => H' b = some (.lst ((g.filter (tie z)).map V.str))) (g.take i) bs) ⟨Same.new hD, [], upd_same, .nil⟩ (fun i H' _ ⟨s, _⟩ => SqT.of (s _ _ ga)) ?_ ?_
    · rintro i y H8 H9 hi ⟨s8, bs, eD, bp⟩ ⟨rfl, hy⟩
      obtain ⟨z, hz1, rfl⟩ := str_at hy
      rw [List.length_map] at hi
      have zm := List.mem_of_getElem? hz1
      have W8 := W.same s8
      obtain ⟨dx, tx, cx, bx, asx, bsx, wx⟩ := id W8.w
      refine ⟨rfl, _, rfl, _, rfl, x, dx, _, rfl, wx.at_, rfl, _, rfl, x, zs, tie, z, rfl, W8.w, gm z zm, fun p ep => ?_⟩
      refine ⟨p, rfl, ⟨_, SqT.of ep⟩, fun D2 hD2 => ?_⟩
      refine lc_it (walk_tup (xs := (nbs zs tie z).map V.str)) (fun j H' => Same H9 H' ∧ H' D2 = some (.lst ((((nbs zs tie z).take j).filter fun y => decide (y ∈ g)).map V.str))) ⟨Same.new hD2, upd_same⟩ (fun j H' _ ⟨s3, _⟩ => SqT.of (s3 _ _ ep)) ?_ ?_
      · rintro j w1 G3 G4 hj ⟨s3, eD2⟩ ⟨rfl, hw⟩
        obtain ⟨u, hu, rfl⟩ := str_at hw
        refine ⟨rfl, _, rfl, _, rfl, a, _, rfl, .inr (SqT.of (s3 _ _ (GrAt.same ga s8))), rfl, flat_map g, _, rfl, ?_⟩
        rw [show (if false = true then !inV (V.str u) (g.map V.str) else inV (V.str u) (g.map V.str)) = decide (u ∈ g) from by rw [if_neg (by decide), inV_str]]
        by_cases hm : u ∈ g
        · rw [decide_eq_true hm]
          refine ite2 (fun _ => ?_) (fun w => absurd rfl w)
          refine ⟨_, rfl, _, eD2, ?_, fun b o e => by rw [upd_ne (ne_of_none e hD2)]; exact s3 _ _ e, ?_⟩
          · have := List.length_filter_le (fun y => decide (y ∈ g)) ((nbs zs tie z).take j)
            have h2 := hz.l8
            have h3 : (nbs zs tie z).length ≤ zs.length := List.length_filter_le _ _
            rw [List.length_take] at this
            rw [List.length_map, sizeLine_eq]; omega
          · rw [upd_same, take_snoc hu, List.filter_append, filter_one, decide_eq_true hm, List.map_append]
            rfl
        · rw [decide_eq_false hm]
          refine ite2 (fun w => by cases w) (fun _ => ⟨s3, ?_⟩)
          rw [take_snoc hu, List.filter_append, filter_one, decide_eq_false hm, show (if false = true then [u] else ([] : List Str)) = [] from rfl, List.append_nil]
          exact eD2
      rintro H10 ⟨s10, eD2⟩
      rw [List.length_map, List.take_length, nbs_in asc sg] at eD2
      have eD10 := s10 _ _ eD
      have bl : (g.take i).length = bs.length := bp.length
      have nin : z ∉ g.take i := fun hm => by
        have nd := gnd
        rw [← List.take_append_drop (i + 1) g, take_snoc hz1] at nd
        exact (List.nodup_append.mp (List.nodup_append.mp nd).1).2.2 z hm z (by simp) rfl
      refine ⟨_, .inr z, rfl, eD10, by rw [lkv_len bl, List.length_take, sizeLine_eq]; omega, fun b o e => ?_, bs ++ [D2], ?_, ?_⟩
      · rw [upd_ne (ne_of_none e hD)]
        exact s10 _ _ (s8 _ _ e)
      · rw [upd_same, lkv_put bl nin, take_snoc hz1]
      · rw [take_snoc hz1]
        have nD : ∀ {b : Addr} {xs : List V}, H10 b = some (.lst xs) → b ≠ D := fun e => ne_of e eD10 fun z => nomatch z
        exact paired_snoc (paired_mono (fun z' a' (e : H9 a' = _) => (show upd H10 D _ a' = _ from by rw [upd_ne (nD (s10 _ _ e))]; exact s10 _ _ e)) bp) (show upd H10 D _ D2 = _ from by rw [upd_ne (nD eD2)]; exact eD2)
    rintro H1 ⟨s1, bs, eD, bp⟩
    rw [List.length_map, List.take_length] at eD bp
    have ga1 := GrAt.same ga s1
    refine ⟨_, rfl, a, rfl, ⟨_, SqT.of ga1⟩, fun D3 hD3 => ?_⟩
    refine lc_it (walk_tup (xs := g.map V.str)) (fun i H' => Same H1 H' ∧ H' D3 = some (.lst (((g.take i).map fun z => !decide ((g.filter (tie z)).length = 2)).map V.bl))) ⟨Same.new hD3, upd_same⟩ (fun i H' _ ⟨s, _⟩ => SqT.of (s _ _ ga1)) ?_ ?_
    · rintro i y H8 H9 hi ⟨s8, eD3⟩ ⟨rfl, hy⟩
      obtain ⟨z, hz1, rfl⟩ := str_at hy
      have zm := List.mem_of_getElem? hz1
      obtain ⟨b, h1, h2⟩ := lkv_at bp zm
      refine ⟨rfl, _, rfl, _, rfl, D, .ref b, rfl, .inl ⟨_, .inr z, .inl (s8 _ _ eD), rfl, h1.symm⟩, _, (g.filter (tie z)).length, rfl, .inl ⟨_, SqL.of (s8 _ _ h2), by rw [List.length_map]⟩, ?_⟩
      have ev : (!decide (V.int ((g.filter (tie z)).length : Nat) = V.int 2)) = !decide ((g.filter (tie z)).length = 2) := by
        congr 1
        rw [decide_eq_decide]
        exact ⟨fun e => by have := V.int.inj e; omega, fun e => by rw [e]; rfl⟩
      refine ⟨rfl, _, eD3, by rw [List.length_map, List.length_map, List.length_take, sizeLine_eq]; omega, fun b o e => by rw [upd_ne (ne_of_none e hD3)]; exact s8 _ _ e, ?_⟩
      rw [upd_same, take_snoc hz1, List.map_append, List.map_append]
      show _ = some (HO.lst (_ ++ [V.bl (!decide ((g.filter (tie z)).length = 2))]))
      rw [← ev]
    rintro H2 ⟨s2, eD3⟩
    rw [List.length_map, List.take_length] at eD3
    refine ⟨D3, _, rfl, SqL.of eD3, _, rfl, ?_⟩
    have s02 := s1.trans s2
    by_cases dg : Deg2 tie g
    · rw [show ((g.map fun z => !decide ((g.filter (tie z)).length = 2)).any id) = false from by
        rw [List.any_map, List.any_eq_false]
        intro z hz1
        show ¬ (!decide ((g.filter (tie z)).length = 2)) = true
        rw [dg z hz1]; decide]
      refine ite2 (fun w => by cases w) (fun _ => ?_)
      have eD := s2 _ _ eD
      have bp := paired_mono (fun _ _ (e : H1 _ = _) => (s2 _ _ e)) bp
      have ga2 := GrAt.same ga1 s2
      have hw0 : w0 g ∈ g ∧ (g.map V.str)[0]? = some (.str (w0 g)) := by
        cases g with
        | nil => exact absurd rfl gne
        | cons z g => exact ⟨by show z ∈ _; simp, rfl⟩
      obtain ⟨b0, h1, h2⟩ := lkv_at bp hw0.1
      have hw1 : w1 tie g ∈ g.filter (tie (w0 g)) ∧ ((g.filter (tie (w0 g))).map V.str)[0]? = some (.str (w1 tie g)) := by
        unfold w1
        obtain ⟨p, q, e⟩ := two_list (dg _ hw0.1)
        rw [e]
        exact ⟨by show p ∈ _; simp, rfl⟩
      refine ⟨_, rfl, a, _, 0, _, rfl, rfl, SqT.of ga2, at_of (j := 0) rfl hw0.2, _, rfl, _, rfl, a, _, 0, _, rfl, rfl, SqT.of ga2, at_of (j := 0) rfl hw0.2, D, .ref b0, rfl, .inl ⟨_, .inr (w0 g), .inl eD, rfl, h1.symm⟩, b0, _, 0, _, rfl, rfl, SqL.of h2, at_of (j := 0) rfl hw1.2, by show 2 ≤ sizeLine; decide, fun L hL => ?_⟩
      have s3 := Same.new (o := .lst [V.str (w0 g), V.str (w1 tie g)]) hL
      have eL : (upd H2 L (.lst [V.str (w0 g), V.str (w1 tie g)])) L = some (.lst [V.str (w0 g), V.str (w1 tie g)]) := upd_same
      show gName 5 (V.ref L) _ (upd H2 L (.lst [V.str (w0 g), V.str (w1 tie g)])) _
      generalize upd H2 L (.lst [V.str (w0 g), V.str (w1 tie g)]) = H3 at s3 eL ⊢
      obtain ⟨m1, t01⟩ := List.mem_filter.mp hw1.1
      have ok := sW_ok T dg gnd hw0.1 m1 t01
      -- the way
      refine ⟨fun m σ H' => ∃ (i : Nat) (o3 o6 : Option V), 2 ≤ i ∧ i ≤ g.length ∧ σ = [some (.ref x), some (.ref a), none, o3, some (.ref D), some (.ref L), o6] ∧ Same H2 H' ∧ H' L = some (.lst ((wayW tie g (w0 g) (w1 tie g) i).map V.str)) ∧ m = g.length - i, ⟨g.length - 2, 2, none, none, Nat.le_refl _, by omega, rfl, s3, eL, rfl⟩, ?_⟩
      rintro m σ H4 ⟨i, o3, o6, i2, il, rfl, s4, eL4, rfl⟩
      have ga4 := GrAt.same ga2 s4
      refine ⟨_, rfl, _, i, rfl, .inl ⟨_, SqL.of eL4, by rw [List.length_map, wayW_len]⟩, _, rfl, _, g.length, rfl, .inr ⟨_, SqT.of ga4, by rw [List.length_map]⟩, _, _, rfl, rfl, _, rfl, ite2 (fun w => ?_) (fun w => ?_)⟩
      · have lt : i < g.length := by have := of_decide_eq_true w; omega
        obtain ⟨k, rfl⟩ : ∃ k, i = k + 2 := ⟨i - 2, by omega⟩
        refine ⟨fun σ' H' => ∃ o3 o6 : Option V, σ' = [some (.ref x), some (.ref a), none, o3, some (.ref D), some (.ref L), o6] ∧ Same H2 H' ∧ H' L = some (.lst ((wayW tie g (w0 g) (w1 tie g) (k + 2 + 1)).map V.str)), fun σ' H' ⟨o3, o6, q1, q2, q3⟩ => ⟨g.length - (k + 2 + 1), by omega, k + 2 + 1, o3, o6, by omega, by omega, q1, q2, q3, rfl⟩, ?_⟩
        obtain ⟨c1, c2, c3⟩ := ok (k + 1)
        obtain ⟨c0, _, c4⟩ := ok k
        obtain ⟨bz, q1, q2⟩ := lkv_at bp c1
        have wl : ((wayW tie g (w0 g) (w1 tie g) (k + 2)).map V.str).length = k + 2 := by rw [List.length_map, wayW_len]
        have g1 : ((wayW tie g (w0 g) (w1 tie g) (k + 2)).map V.str)[k + 1]? = some (.str (sW tie g (w0 g) (w1 tie g) (k + 1))) := by rw [List.getElem?_map, wayW_get (by omega)]; rfl
        have g0 : ((wayW tie g (w0 g) (w1 tie g) (k + 2)).map V.str)[k]? = some (.str (sW tie g (w0 g) (w1 tie g) k)) := by rw [List.getElem?_map, wayW_get (by omega)]; rfl
        obtain ⟨p, q, epq⟩ := two_list (dg _ c1)
        refine ⟨_, rfl, _, rfl, _, rfl, L, _, -1, _, rfl, rfl, SqL.of eL4, at_neg (k := 1) (j := k + 1) (by rw [wl]; omega) (by decide) g1, D, .ref bz, rfl, .inl ⟨_, .inr _, .inl (s4 _ _ eD), rfl, q1.symm⟩, bz, _, rfl, SqL.of (s4 _ _ q2), ?_, ?_⟩
        · rw [List.length_map]; exact dg _ c1
        rw [epq]
        refine ⟨_, _, rfl, _, _, rfl, rfl, ?_⟩
        have nx : sW tie g (w0 g) (w1 tie g) (k + 2) = if p = sW tie g (w0 g) (w1 tie g) k then q else p := by
          rw [sW_next]
          unfold nxtW
          rw [epq]
        have snoc : (wayW tie g (w0 g) (w1 tie g) (k + 2 + 1)).map V.str = (wayW tie g (w0 g) (w1 tie g) (k + 2)).map V.str ++ [.str (sW tie g (w0 g) (w1 tie g) (k + 2))] := by
          unfold wayW
          rw [List.range_succ, List.map_append, List.map_append]
          rfl
        refine ⟨_, rfl, .inl ⟨rfl, _, SqL.of eL4⟩, _, rfl, _, rfl, _, rfl, L, _, -2, _, rfl, rfl, SqL.of eL4, at_neg (k := 2) (j := k) (by rw [wl]; omega) (by decide) g0, rfl, _, rfl, ite2 (fun w => ?_) (fun w => ?_)⟩
        · have e := V.str.inj (of_decide_eq_true w)
          rw [if_pos e] at nx
          refine ⟨_, rfl, L, _, _, rfl, rfl, eL4, by rw [wl, sizeLine_eq]; omega, _, _, rfl, fun b o e => by rw [upd_ne (ne_of_none e hL)]; exact s4 _ _ e, ?_⟩
          rw [upd_same, snoc, nx]
        · have e : ¬ p = sW tie g (w0 g) (w1 tie g) k := fun e => w (decide_eq_true (by rw [e]))
          rw [if_neg e] at nx
          refine ⟨_, rfl, L, _, _, rfl, rfl, eL4, by rw [wl, sizeLine_eq]; omega, _, _, rfl, fun b o e => by rw [upd_ne (ne_of_none e hL)]; exact s4 _ _ e, ?_⟩
          rw [upd_same, snoc, nx]
      · have ei : i = g.length := by
          have : ¬ (i : Int) < (g.length : Int) := fun q => w (decide_eq_true q)
          omega
        subst ei
        have s24 := s02.trans s4
        refine ⟨_, rfl, L, wayW tie g (w0 g) (w1 tie g) g.length, rfl, .inl (SqL.of eL4), by rw [wayW_len]; omega, fun n nle niff => ?_⟩
        rw [wayW_len] at nle niff
        refine ⟨_, rfl, _, g.length, rfl, .inr ⟨_, SqT.of ga4, by rw [List.length_map]⟩, rfl, _, rfl, ite2 (fun w => ?_) (fun w => ?_)⟩
        · have e : n = g.length := by have := V.int.inj (of_decide_eq_true w); omega
          have nw := niff.mp e
          refine ⟨_, rfl, L, _, rfl, .inl ⟨SqL.of eL4, fun c hc => ?_⟩⟩
          exact kY c _ (s24.trans (Same.new hc)) ((ring_iff T gnd l57 hw0.1 m1 t01 dg).mpr nw) upd_same
        · have e : ¬ n = g.length := fun q => w (decide_eq_true (by rw [q]))
          exact kN H4 s24 fun r => e (niff.mpr ((ring_iff T gnd l57 hw0.1 m1 t01 dg).mp r))
    · rw [show ((g.map fun z => !decide ((g.filter (tie z)).length = 2)).any id) = true from by
        rw [List.any_map, List.any_eq_true]
        apply Classical.byContradiction
        intro q
        refine dg fun z hz1 => Classical.byContradiction fun n => q ⟨z, hz1, ?_⟩
        show (!decide ((g.filter (tie z)).length = 2)) = true
        rw [decide_eq_false n]; rfl]
      refine ite2 (fun _ => ?_) (fun w => absurd rfl w)
      exact kN H2 s02 fun r => dg (walk_of_ring T gnd r).1
end
end V0

namespace V0
open PySem PySem.Spec PyProof.Rows L2
/-- the sizes of rings -/
structure Rgs (K : PySem.W.Frag) (mg : Str → Option Value) (a : Addr) : Prop where
  g : mg "_RINGS" = some (.ref a)
  t : ∀ H : Hp, SqT K H a [.int 5, .int 7]
/-- a ring, or the turned one of a ring -/
def RG (tie : Str → Str → Bool) (g : Gr) : Prop := RingOf tie g ∨ RingOf (tieTurn tie) g
theorem RG.len {tie : Str → Str → Bool} {g : Gr} (h : RG tie g) : g.length = 5 ∨ g.length = 7 := by
  rcases h with ⟨w, pm, _, l⟩ | ⟨w, pm, _, l⟩ <;> rw [← pm.length_eq] <;> exact l
/-- the first one, the smaller ones first -/
def FirstR (zs : List Str) (tie : Str → Str → Bool) (g : Gr) : Prop := g.Sublist zs ∧ RG tie g ∧ ∀ h : Gr, h.Sublist zs → RG tie h → g.length < h.length ∨ (g.length = h.length ∧ (g = h ∨ ltT g h = true))
def spSpPaper (C : Addr) : Sp := fun vs H Q _ => ∃ (x : Addr) (zs : List Str) (tie : Str → Str → Bool), vs = [.ref x] ∧ Wbs C H x zs tie ∧
  (∀ H', Same H H' → (∀ h : Gr, h.Sublist zs → ¬ RG tie h) → Q .non H') ∧
  ∀ (p r : Addr) (g : Gr) (nm : Str) (t : Str → Str → Bool) (H' : Hp), Same H H' → FirstR zs tie g → ((nm = "ring" ∧ t = tie) ∨ (nm = "turned" ∧ ¬ RingOf tie g ∧ t = tieTurn tie)) → RingOf t g → GrAt H' (wayG t g) r → H' p = some (.tup [.str nm, .ref r]) → Q (.ref p) H'
section
variable {P : Program} {w : World} {K : PySem.W.Frag} {mg : Str → Option Value} {base : Heap} {C : Addr}
abbrev s__spoiled_paper : Stmt := top 45
abbrev N__spoiled_paper : List Str := ["web", "found", "turned", "many", "one", "group", "ring"]
abbrev P__spoiled_paper : List Str := ["web"]
theorem sc__spoiled_paper : FnScope N__spoiled_paper P__spoiled_paper (defScope s__spoiled_paper) := ⟨rfl, rfl, rfl, by decide +kernel, rfl, by decide +kernel, by decide +kernel⟩
theorem ok_spPaper {f f1 f2 f3 ra : Addr} {fd fd1 fd2 fd3 : FuncData} (B : Bl mg) (M : Bm mg) (RK : Rgs K mg ra) (KWeb : Kls K mg "Web" C) (D_groups : Df K mg "groups" s_groups P_groups f1 fd1) (G_groups : FnOk P w K mg base CX0 3 f1 fd1 P_groups (spGroups C)) (Y_Web_turned : Md K "Web.turned" "turned" C s_Web_turned P_Web_turned f2 fd2) (G_Web_turned : FnOk P w K mg base CX0 6 f2 fd2 P_Web_turned (spTurn C)) (D__ring : Df K mg "_ring" s__ring P__ring f3 fd3) (G__ring : FnOk P w K mg base CX0 4 f3 fd3 P__ring (spRing C))
    (D : Df K mg "_spoiled_paper" s__spoiled_paper P__spoiled_paper f fd) : FnOk P w K mg base CX0 7 f fd P__spoiled_paper (spSpPaper C) := by
  refine D.F.ok sc__spoiled_paper (fun vs H Q E h => ?_) (fun cdv A outer s H vs Q E hr h => ?_)
  · obtain ⟨x, zs, tie, rfl, _⟩ := h
    rfl
  · obtain ⟨x, zs, tie, rfl, W, kN, kY⟩ := h
    refine ⟨_, (pss_cons (ps_set (i := 1) sc__spoiled_paper.nd rfl (Or.inl rfl) (pe_call G_groups (hr.mono (by decide)) (by rfl) D_groups.g D_groups.F.kp D_groups.b .nil pass0 (pa_cons (pv 0) pa_nil)))
      (pss_cons (ps_set (i := 2) sc__spoiled_paper.nd rfl (Or.inl rfl) (pe_meth0 (pv 0) KWeb.cl Y_Web_turned.m G_Web_turned (hr.mono (by decide)) Y_Web_turned.b .nil pass0))
      (pss_cons (ps_for PassesOwn.never rfl (pi_tup (pe_glob (by rfl) RK.g (show RelV (V.ref ra) (Value.ref ra) from rfl))) (pg_name (i := 3) sc__spoiled_paper.nd rfl (Or.inr rfl)) (pss_one (ps_for PassesOwn.never rfl (pi_list (pe_lc (own := [("one", 4)]) (g := gName 4) rfl sc__spoiled_paper.nd (pi_tup (pv 1)) (blkOk_by (own := [("one", 4)]) (N := N__spoiled_paper) (sc := defScope s__spoiled_paper) (by decide +kernel)) (fun _ _ _ _ _ => (pg_name (i := 4) sc__spoiled_paper.nd rfl (Or.inl rfl))) (fun _ _ _ _ _ => pts_one (show PT _ _ (tTest (tOp rEq (tCB (rLenQ K) (tCons (tVar 4) tNil)) (tVar 3))) from by exact (pt_cmpR op_eq (pe_callB call_len (by rfl) B.b_len (by decide +kernel) (pa_cons (pv 4) pa_nil)) (pv 3) (nomark _)))) (fun _ _ _ _ _ => (pv 4)))) (pg_name (i := 5) sc__spoiled_paper.nd rfl (Or.inl rfl)) (pss_cons (ps_set (i := 6) sc__spoiled_paper.nd rfl (Or.inl rfl) (pe_call G__ring (hr.mono (by decide)) (by rfl) D__ring.g D__ring.F.kp D__ring.b .nil pass0 (pa_cons (pv 0) (pa_cons (pv 5) pa_nil))))
      (pss_cons (ps_if (pt_cmpR op_notN (pv 6) pe_non (nomark _)) (pss_one (ps_ret (pe_tup (pa_cons pe_str (pa_cons (pv 6) pa_nil))))) pss_nil)
      (pss_cons (ps_set (i := 6) sc__spoiled_paper.nd rfl (Or.inl rfl) (pe_call G__ring (hr.mono (by decide)) (by rfl) D__ring.g D__ring.F.kp D__ring.b .nil pass0 (pa_cons (pv 2) (pa_cons (pv 5) pa_nil))))
      (pss_one (ps_if (pt_cmpR op_notN (pv 6) pe_non (nomark _)) (pss_one (ps_ret (pe_tup (pa_cons pe_str (pa_cons (pv 6) pa_nil))))) pss_nil))))))))
      (pss_one (ps_ret pe_non))))), ?_⟩
    have T := W.t
    have hz := W.z
    refine ⟨_, rfl, x, zs, tie, rfl, W, fun pL H1 s1 ⟨L, ⟨as, eL, pa⟩, aL, mL, lL⟩ => ?_⟩
    have W := W.same s1
    obtain ⟨dx, tx, cx, bx, asx, bsx, wx⟩ := id W.w
    refine ⟨_, rfl, x, dx, _, rfl, wx.at_, rfl, x, zs, tie, rfl, W, fun y H2 s2 _ Wy => ?_⟩
    have W := W.same s2
    have eL := s2 _ _ eL
    have pa := paired_mono (fun _ _ e => GrAt.same e s2) pa
    have s02 := s1.trans s2
    have gms : ∀ g ∈ L, g.Sublist zs := fun g h => (mL g).mp h
    refine ⟨ra, rfl, ⟨_, RK.t _⟩, ?_⟩
    refine for_it (walk_tup (xs := [V.int 5, V.int 7])) (fun i σ H' => Same H2 H' ∧ (∀ h : Gr, h.Sublist zs → RG tie h → (1 ≤ i → h.length ≠ 5) ∧ (2 ≤ i → h.length ≠ 7)) ∧ ∃ o3 o4 o5 o6 : Option V, σ = [some (.ref x), some (.ref pL), some (.ref y), o3, o4, o5, o6]) ⟨Same.refl _, fun h _ _ => ⟨fun q => absurd q (by decide), fun q => absurd q (by decide)⟩, _, _, _, _, rfl⟩ (fun i σ H' _ _ => RK.t _) ?_ ?_
    · rintro i v σ H3 H4 hi ⟨s3, none3, o3, o4, o5, o6, rfl⟩ ⟨rfl, hv⟩
      obtain ⟨m, rfl, hm⟩ : ∃ m : Nat, v = .int m ∧ ((i = 0 ∧ m = 5) ∨ (i = 1 ∧ m = 7)) := by
        match i, hv with
        | 0, hv => exact ⟨5, by injection hv with hv; exact hv.symm, .inl ⟨rfl, rfl⟩⟩
        | 1, hv => exact ⟨7, by injection hv with hv; exact hv.symm, .inr ⟨rfl, rfl⟩⟩
      have eL3 := s3 _ _ eL
      refine ⟨_, rfl, pL, rfl, ⟨_, SqT.of eL3⟩, fun D hD => ?_⟩
      refine lc_it (walk_tup (xs := as.map V.ref)) (fun i H' => Same H4 H' ∧ GrsL H' D ((L.take i).filter fun g => decide (g.length = m))) ⟨Same.new hD, GrsL.nil⟩ (fun i H' _ ⟨s2, _⟩ => SqT.of (s2 _ _ eL3)) ?_ ?_
      · rintro j v G2 G3 hj ⟨s4, pd⟩ ⟨rfl, hy⟩
        rw [List.length_map, ← pa.length] at hj
        obtain ⟨a0, ha0, rfl⟩ := ref_at hy
        obtain ⟨g, hg, gat⟩ := paired_get pa ha0
        have gat := GrAt.same gat (s3.trans s4)
        refine ⟨rfl, _, rfl, _, g.length, rfl, .inr ⟨_, SqT.of gat, by rw [List.length_map]⟩, _, rfl, rfl, _, rfl, ite2 (fun w => ?_) (fun w => ?_)⟩
        · have e : g.length = m := by have := V.int.inj (of_decide_eq_true w); omega
          obtain ⟨acc, c1, c2, c3, c4⟩ := grsL_add hD s4 pd (by have := List.length_filter_le (fun g : Gr => decide (g.length = m)) (L.take j); rw [List.length_take] at this; omega) gat
          refine ⟨_, rfl, acc, c1, c2, c3, ?_⟩
          rw [take_snoc hg, List.filter_append, filter_one, decide_eq_true e]
          exact c4
        · have e : ¬ g.length = m := fun q => w (decide_eq_true (by rw [q]))
          refine ⟨s4, ?_⟩
          rw [take_snoc hg, List.filter_append, filter_one, decide_eq_false e, show (if false = true then [g] else ([] : List Gr)) = [] from rfl, List.append_nil]
          exact pd
      rintro H5 ⟨s5, gD⟩
      rw [List.length_map, ← pa.length, List.take_length] at gD
      have inM : ∀ g, g ∈ L.filter (fun g => decide (g.length = m)) ↔ g.Sublist zs ∧ g.length = m := fun g => by rw [List.mem_filter, mL, decide_eq_true_iff]
      have aM : AscG (L.filter fun g => decide (g.length = m)) := List.Pairwise.sublist List.filter_sublist aL
      generalize (L.filter fun g => decide (g.length = m)) = LM at gD inM aM
      obtain ⟨asD, eD, paD⟩ := gD
      have s25 := s3.trans s5
      have W5 := W.same s25
      have Wy5 := Wy.same s25
      refine ⟨D, rfl, ⟨_, SqL.of eD⟩, ?_⟩
      refine for_it (walk_list (xs := asD.map V.ref)) (fun j σ H' => Same H5 H' ∧ (∀ h ∈ LM.take j, ¬ RG tie h) ∧ ∃ o4 o5 o6 : Option V, σ = [some (.ref x), some (.ref pL), some (.ref y), some (.int m), o4, o5, o6]) ⟨Same.refl _, (fun h hh => by cases hh), _, _, _, rfl⟩ (fun j σ H' _ ⟨s1, _⟩ => SqL.of (s1 _ _ eD)) ?_ ?_
      · rintro j v σ H6 H7 hj ⟨s6, none6, o4, o5, o6, rfl⟩ ⟨rfl, hv⟩
        rw [List.length_map, ← paD.length] at hj
        obtain ⟨a0, ha0, rfl⟩ := ref_at hv
        obtain ⟨g, hg, gat⟩ := paired_get paD ha0
        have gat := GrAt.same gat s6
        obtain ⟨sub, lm⟩ := (inM g).mp (List.mem_of_getElem? hg)
        have l57 : g.length = 5 ∨ g.length = 7 := by rcases hm with ⟨_, e⟩ | ⟨_, e⟩ <;> omega
        have W6 := W5.same s6
        have Wy6 := Wy5.same s6
        have s06 := s02.trans (s25.trans s6)
        have first : RG tie g → FirstR zs tie g := fun hr => ⟨sub, hr, fun h hs hh => by
          obtain ⟨n1, n2⟩ := none3 h hs hh
          by_cases e : h.length = m
          · have mh := (inM h).mpr ⟨hs, e⟩
            obtain ⟨j', hj'⟩ := List.getElem?_of_mem mh
            refine .inr ⟨by omega, ?_⟩
            rcases Nat.lt_trichotomy j' j with q | q | q
            · exact absurd hh (none6 h (List.mem_iff_getElem?.mpr ⟨j', by rw [List.getElem?_take_of_lt q]; exact hj'⟩))
            · rw [q, hg] at hj'
              exact .inl (Option.some.inj hj')
            · refine .inr ?_
              obtain ⟨l1, e1⟩ := List.getElem?_eq_some_iff.mp hg
              obtain ⟨l2, e2⟩ := List.getElem?_eq_some_iff.mp hj'
              rw [← e1, ← e2]
              exact (List.pairwise_iff_getElem.mp aM) j j' l1 l2 q
          · left
            rcases hm with ⟨q, e5⟩ | ⟨q, e7⟩ <;> rcases hh.len with l | l
            · omega
            · omega
            · exact absurd l (n1 (by omega))
            · omega⟩
        refine ⟨_, rfl, _, rfl, x, a0, zs, tie, g, rfl, W6, gat, sub, l57, fun H8 s8 nr => ?_, fun p H8 s8 hr gp => ?_⟩
        · refine ⟨_, rfl, rfl, _, rfl, ite2 (fun w => by cases w) (fun _ => ?_)⟩
          refine ⟨_, rfl, _, rfl, y, a0, zs, tieTurn tie, g, rfl, Wy6.same s8, GrAt.same gat s8, sub, l57, fun H9 s9 nt => ?_, fun p H9 s9 hr gp => ?_⟩
          · refine ⟨_, rfl, rfl, _, rfl, ite2 (fun w => by cases w) (fun _ => ⟨s6.trans (s8.trans s9), fun h hh => ?_, _, _, _, rfl⟩)⟩
            rw [take_snoc hg] at hh
            rcases List.mem_append.mp hh with q | q
            · exact none6 h q
            · rw [List.mem_singleton.mp q]
              exact fun r => r.elim nr nt
          · refine ⟨_, rfl, rfl, _, rfl, ite2 (fun _ => ?_) (fun w => absurd rfl w)⟩
            refine ⟨_, rfl, by show 2 ≤ sizeLine; decide, fun c hc => ?_⟩
            exact kY c p g "turned" (tieTurn tie) _ (s06.trans (s8.trans (s9.trans (Same.new hc)))) (first (.inr hr)) (.inr ⟨rfl, nr, rfl⟩) hr (GrAt.same gp (Same.new hc)) upd_same
        · refine ⟨_, rfl, rfl, _, rfl, ite2 (fun _ => ?_) (fun w => absurd rfl w)⟩
          refine ⟨_, rfl, by show 2 ≤ sizeLine; decide, fun c hc => ?_⟩
          exact kY c p g "ring" tie _ (s06.trans (s8.trans (Same.new hc))) (first (.inl hr)) (.inl ⟨rfl, rfl⟩) hr (GrAt.same gp (Same.new hc)) upd_same
      · rintro σ H6 ⟨s6, none6, o4, o5, o6, rfl⟩
        rw [List.length_map, ← paD.length, List.take_length] at none6
        refine ⟨s25.trans s6, fun h hs hh => ?_, _, _, _, _, rfl⟩
        obtain ⟨n1, n2⟩ := none3 h hs hh
        have ne : h.length ≠ m := fun e => none6 h ((inM h).mpr ⟨hs, e⟩) hh
        rcases hm with ⟨e0, e5⟩ | ⟨e0, e7⟩
        · exact ⟨fun _ => by omega, fun q => by omega⟩
        · exact ⟨fun _ => n1 (by omega), fun _ => by omega⟩
    · rintro σ H3 ⟨s3, none3, o3, o4, o5, o6, rfl⟩
      refine kN H3 (s02.trans s3) fun h hs hr => ?_
      obtain ⟨n1, n2⟩ := none3 h hs hr
      rcases hr.len with l | l
      · exact n1 (by decide) l
      · exact n2 (by decide) l
end
end V0

namespace V0
open PySem PySem.Spec PyProof.Rows L2
def spSpoiled (C : Addr) : Sp := fun vs H Q _ => ∃ (x : Addr) (zs : List Str) (tie : Str → Str → Bool), vs = [.ref x] ∧ Wbs C H x zs tie ∧
  (∀ H', Same H H' → (∀ h : Gr, h.Sublist zs → ¬ RG tie h) → Q .non H') ∧ ∀ (p : Addr) (g : Gr) (H' : Hp), Same H H' → FirstR zs tie g → GrAt H' g p → Q (.ref p) H'
def spIsGood (C : Addr) : Sp := fun vs H Q _ => ∃ (x : Addr) (zs : List Str) (tie : Str → Str → Bool), vs = [.ref x] ∧ Wbs C H x zs tie ∧ ∀ b H', Same H H' → (b = true ↔ ∀ h : Gr, h.Sublist zs → ¬ RG tie h) → Q (.bl b) H'
theorem way_perm {t : Str → Str → Bool} {g : Gr} (T : Tie t) (nd : g.Nodup) (r : RingOf t g) : (wayG t g).Perm g := by
  obtain ⟨d, l, all⟩ := walk_of_ring T nd r
  have gne : g ≠ [] := fun e => by rw [e] at l; rcases l with l | l <;> cases l
  have hw0 : w0 g ∈ g := by
    cases g with
    | nil => exact absurd rfl gne
    | cons z g => show z ∈ _; simp
  have hw1 : w1 t g ∈ g.filter (t (w0 g)) := by
    unfold w1
    obtain ⟨p, q, e⟩ := two_list (d _ hw0)
    rw [e]
    show p ∈ _; simp
  obtain ⟨m1, t01⟩ := List.mem_filter.mp hw1
  exact (ring_of_walk T d nd hw0 m1 t01 (by omega) (all _ _ hw0 m1 t01)).2
section
variable {P : Program} {w : World} {K : PySem.W.Frag} {mg : Str → Option Value} {base : Heap} {C : Addr}
abbrev s_spoiled_group : Stmt := top 41
abbrev N_spoiled_group : List Str := ["web", "paper"]
abbrev P_spoiled_group : List Str := ["web"]
theorem sc_spoiled_group : FnScope N_spoiled_group P_spoiled_group (defScope s_spoiled_group) := ⟨rfl, rfl, rfl, by decide +kernel, rfl, by decide +kernel, by decide +kernel⟩
theorem ok_spoiled {f f1 : Addr} {fd fd1 : FuncData} (B : Bl mg) (M : Bm mg) (D__spoiled_paper : Df K mg "_spoiled_paper" s__spoiled_paper P__spoiled_paper f1 fd1) (G__spoiled_paper : FnOk P w K mg base CX0 7 f1 fd1 P__spoiled_paper (spSpPaper C)) (D : Df K mg "spoiled_group" s_spoiled_group P_spoiled_group f fd) : FnOk P w K mg base CX0 8 f fd P_spoiled_group (spSpoiled C) := by
  refine D.F.ok sc_spoiled_group (fun vs H Q E h => ?_) (fun cdv A outer s H vs Q E hr h => ?_)
  · obtain ⟨x, zs, tie, rfl, _⟩ := h
    rfl
  · obtain ⟨x, zs, tie, rfl, W, kN, kY⟩ := h
    refine ⟨_, (pss_cons (ps_set (i := 1) sc_spoiled_group.nd rfl (Or.inl rfl) (pe_call G__spoiled_paper (hr.mono (by decide)) (by rfl) D__spoiled_paper.g D__spoiled_paper.F.kp D__spoiled_paper.b .nil pass0 (pa_cons (pv 0) pa_nil)))
      (pss_one (ps_ret (pe_ifExp (pt_cmpR op_isN (pv 1) pe_non (nomark _)) pe_non (pe_callTy call_tuple_of (by rfl) B.b_tuple (by decide +kernel) (pa_cons (pe_callB cr_sortedQ (by rfl) M.b_sorted (by decide +kernel) (pa_cons (pe_ix ix_tup (pv 1) pe_int (fun _ _ => rfl)) pa_nil)) pa_nil)))))), ?_⟩
    refine ⟨_, rfl, x, zs, tie, rfl, W, fun H1 s1 none => ?_, fun p r g nm t H1 s1 first ht hr gr ep => ?_⟩
    · exact ⟨_, rfl, rfl, _, rfl, ite2 (fun _ => kN H1 s1 none) (fun w => absurd rfl w)⟩
    · refine ⟨_, rfl, rfl, _, rfl, ite2 (fun w => by cases w) (fun _ => ?_)⟩
      have Tt : Tie t := by
        rcases ht with ⟨_, e⟩ | ⟨_, _, e⟩ <;> rw [e]
        · exact W.t
        · exact tieTurn_tie W.t
      have asg := W.z.asc.sublist first.1
      have pm := way_perm Tt (Asc.nd asg) hr
      have l57 := first.2.1.len
      refine ⟨_, rfl, p, _, 1, .ref r, rfl, rfl, SqT.of ep, at_of (j := 1) rfl rfl, r, wayG t g, rfl, .inr gr, by rw [pm.length_eq]; omega, fun ys q pmy ord nq => ?_⟩
      obtain rfl : ys = g := sorted_one (pmy.trans pm) ord (sorted_asc _ asg)
      refine ⟨q, _, rfl, .inl ⟨SqL.of upd_same, fun c hc => ?_⟩⟩
      exact kY c ys _ (s1.trans ((Same.new nq).trans (Same.new hc))) first upd_same
abbrev s_is_good : Stmt := top 40
abbrev N_is_good : List Str := ["web"]
abbrev P_is_good : List Str := ["web"]
theorem sc_is_good : FnScope N_is_good P_is_good (defScope s_is_good) := ⟨rfl, rfl, rfl, by decide +kernel, rfl, by decide +kernel, by decide +kernel⟩
theorem ok_isgood {f f1 : Addr} {fd fd1 : FuncData} (B : Bl mg) (D_spoiled_group : Df K mg "spoiled_group" s_spoiled_group P_spoiled_group f1 fd1) (G_spoiled_group : FnOk P w K mg base CX0 8 f1 fd1 P_spoiled_group (spSpoiled C)) (D : Df K mg "is_good" s_is_good P_is_good f fd) : FnOk P w K mg base CX0 9 f fd P_is_good (spIsGood C) := by
  refine D.F.ok sc_is_good (fun vs H Q E h => ?_) (fun cdv A outer s H vs Q E hr h => ?_)
  · obtain ⟨x, zs, tie, rfl, _⟩ := h
    rfl
  · obtain ⟨x, zs, tie, rfl, W, k⟩ := h
    refine ⟨_, (pss_one (ps_ret (pe_cmpR op_isN (pe_call G_spoiled_group (hr.mono (by decide)) (by rfl) D_spoiled_group.g D_spoiled_group.F.kp D_spoiled_group.b .nil pass0 (pa_cons (pv 0) pa_nil)) pe_non (nomark _)))), ?_⟩
    refine ⟨_, rfl, x, zs, tie, rfl, W, fun H1 s1 none => ?_, fun p g H1 s1 first gp => ?_⟩
    · exact ⟨rfl, k true H1 s1 ⟨fun _ => none, fun _ => rfl⟩⟩
    · exact ⟨rfl, k false H1 s1 ⟨(fun (e : false = true) => by cases e), fun q => absurd first.2.1 (q g first.1)⟩⟩
end
end V0
namespace V0
open PySem PySem.Spec PyProof.Rows L2
/-! ### pairs of a number and a group -/
abbrev NG := Int × Gr
def NgAt (H : Hp) (q : NG) (p : Addr) : Prop := ∃ a, H p = some (.tup [.int q.1, .ref a]) ∧ GrAt H q.2 a
theorem NgAt.same {H H' : Hp} {q : NG} {p : Addr} (h : NgAt H q p) (s : Same H H') : NgAt H' q p := by
  obtain ⟨a, e, g⟩ := h
  exact ⟨a, s _ _ e, GrAt.same g s⟩
def NgL (H : Hp) (l : Addr) (qs : List NG) : Prop := ∃ ps : List Addr, H l = some (.lst (ps.map V.ref)) ∧ Paired (NgAt H) qs ps
theorem NgL.same {H H' : Hp} {l : Addr} {qs : List NG} (h : NgL H l qs) (s : Same H H') : NgL H' l qs := by
  obtain ⟨as, e, pa⟩ := h
  exact ⟨as, s _ _ e, paired_mono (fun _ _ e => NgAt.same e s) pa⟩
def dN (q : NG) : PyData := .tuple [.int q.1, dG q.2]
def ltN (q r : NG) : Bool := decide (q.1 < r.1) || (!decide (r.1 < q.1) && ltT q.2 r.2)
theorem dp_ng {K : PySem.W.Frag} {H : Hp} {q : NG} {p : Addr} (h : NgAt H q p) : Dp K H (.ref p) (dN q) := by
  obtain ⟨a, e, g⟩ := h
  exact .tup (SqT.of e) (.cons (.int _) (.cons (dp_gr g) .nil))
theorem toks_ltS (u : List itemOrd.α) : ∀ g h : List Str, PyProof.Rows.lexLt itemOrd (PySem.W.keyToksAll (g.map PyData.str) ++ u) (PySem.W.keyToksAll (h.map PyData.str) ++ u) = ltT g h
  | [], [] => by
    rw [lex_irrefl]
    rfl
  | [], y :: h => by
    show PyProof.Rows.lexLt itemOrd (Sum.inl 0 :: u) (Sum.inl 1 :: _) = _
    rw [lex_diff (O := itemOrd) (by simp)]
    rfl
  | x :: g, [] => by
    show PyProof.Rows.lexLt itemOrd (Sum.inl 1 :: _) (Sum.inl 0 :: u) = _
    rw [lex_diff (O := itemOrd) (by simp)]
    rfl
  | x :: g, y :: h => by
    have ih := toks_ltS u g h
    show PyProof.Rows.lexLt itemOrd (Sum.inl 1 :: (Sum.inr x.cps.toList :: (PySem.W.keyToksAll (g.map PyData.str) ++ u))) (Sum.inl 1 :: (Sum.inr y.cps.toList :: (PySem.W.keyToksAll (h.map PyData.str) ++ u))) = PyProof.Rows.lexLt itemOrd (Sum.inr x.cps.toList :: tkey g) (Sum.inr y.cps.toList :: tkey h)
    rw [lex_self, lex_cons, lex_cons, ih]
    rfl
theorem dataLt_dN (q r : NG) : PySem.W.dataLt (dN q) (dN r) = ltN q r := by
  unfold dN
  rw [PySem.W.dataLt_tuple]
  show PyProof.Rows.lexLt itemOrd (Sum.inl 1 :: (Sum.inl q.1 :: (Sum.inl 1 :: (PySem.W.keyToksAll (q.2.map PyData.str) ++ [Sum.inl 0])))) (Sum.inl 1 :: (Sum.inl r.1 :: (Sum.inl 1 :: (PySem.W.keyToksAll (r.2.map PyData.str) ++ [Sum.inl 0])))) = _
  rw [lex_self, lex_cons, lex_self, toks_ltS]
  rfl
theorem alike_dN (q r : NG) : PySem.W.alike (dN q) (dN r) = true := by
  unfold dN
  simpa [PySem.W.alike, PySem.W.alikeAll] using alike_dG q.2 r.2
theorem ltN_self (q : NG) : ltN q q = false := by
  unfold ltN
  rw [ltT_self, decide_eq_false (Int.lt_irrefl _)]
  rfl
theorem ltN_tri {q r : NG} (h : ltN q r = false) (k : ltN r q = false) : q = r := by
  obtain ⟨n, g⟩ := q
  obtain ⟨m, e⟩ := r
  unfold ltN at h k
  have a1 : ¬ n < m := fun w => by rw [show decide ((n, g).1 < (m, e).1) = true from decide_eq_true w] at h; cases h
  have a2 : ¬ m < n := fun w => by rw [show decide ((m, e).1 < (n, g).1) = true from decide_eq_true w] at k; cases k
  obtain rfl : n = m := by omega
  rw [decide_eq_false (Int.lt_irrefl _)] at h k
  rw [ltT_tri (show ltT g e = false from by simpa using h) (by simpa using k)]
/-- strictly ascending -/
def AscN (qs : List NG) : Prop := qs.Pairwise fun a b => ltN a b = true
theorem each_ngs {H : Hp} {R : Value → NG × Addr → Prop} : ∀ {gs : List NG} {as : List Addr}, Paired (NgAt H) gs as → (∀ g a, NgAt H g a → R (.ref a) (g, a)) → PySem.W.EachIs R (as.map Value.ref) (gs.zip as)
  | _, _, .nil, _ => .nil
  | _, _, .cons h q, f => .cons (f _ _ h) (each_ngs q f)
theorem zip_ngs {H : Hp} : ∀ {gs : List NG} {as : List Addr}, Paired (NgAt H) gs as → ∀ q ∈ gs.zip as, NgAt H q.1 q.2
  | _, _, .nil, q, h => by cases h
  | _, _, .cons h p, q, hq => by
    rcases List.mem_cons.mp hq with e | e
    · rw [e]; exact h
    · exact zip_ngs p q e
theorem paired_ngs {H : Hp} : ∀ {m : List (NG × Addr)}, (∀ q ∈ m, NgAt H q.1 q.2) → Paired (NgAt H) (m.map (·.1)) (m.map (·.2))
  | [], _ => .nil
  | q :: m, h => .cons (h q (by simp)) (paired_ngs fun r hr => h r (by simp [hr]))
theorem each_refsN : ∀ {m : List (NG × Addr)} {out : List Value}, PySem.W.EachIs (fun v (q : NG × Addr) => v = Value.ref q.2) out m → out = (m.map (·.2)).map Value.ref
  | _, _, .nil => rfl
  | _, _, .cons h t => by rw [h, each_refsN t]; rfl
section
variable {X : Cx}
/-- sorted(xs) of pairs of a number and a group, all different -/
def rSortedNg : List V → Hp → VK → Prop := fun vs H Q => ∃ (a : Addr) (gs : List NG), vs = [V.ref a] ∧ NgL H a gs ∧ gs.length ≤ 1000 ∧ gs.Nodup ∧
  ∀ p gs' H', Same H H' → H p = none → gs'.Perm gs → AscN gs' → NgL H' p gs' → Q (.ref p) H'
theorem cr_sortedNg (hu : X.A.units + 65 < cLine) : CallR X (.builtin "sorted") rSortedNg := by
  intro pins s σ H vs us Q I r h
  obtain ⟨a, gs, rfl, ⟨as, ha, pa⟩, few, nd, q⟩ := h
  rw [Vals.ref1 r]
  obtain ⟨its, rv, pl, hz⟩ := I.list (SqL.of ha)
  have hl := pl.isList
  have ei := vals_refs_eq rv
  subst ei
  have el : PySem.W.EachIs (fun v (q : NG × Addr) => v = Value.ref q.2) (as.map Value.ref) (gs.zip as) := each_ngs pa fun g a _ => rfl
  have er : PySem.W.EachIs (fun v (q : NG × Addr) => ∃ bs, Reads s.heap v (dN q.1) bs) (as.map Value.ref) (gs.zip as) := each_ngs pa fun g a h => Dp.reads I (dN g) (.ref a) (.ref a) (dp_ng h) rfl
  have hal : PySem.W.AllAlike ((gs.zip as).map fun q : NG × Addr => dN q.1) := fun d hd d' hd' => by
    obtain ⟨x, _, rfl⟩ := List.mem_map.mp hd
    obtain ⟨y, _, rfl⟩ := List.mem_map.mp hd'
    exact alike_dN _ _
  have zl : (gs.zip as).length = gs.length := by rw [List.length_zip, ← pa.length, Nat.min_self]
  have zg : (gs.zip as).map (·.1) = gs := by rw [List.map_fst_zip (by rw [pa.length]; exact Nat.le_refl _)]
  have lz : (gs.zip as).length ≤ sizeLine := by rw [zl, sizeLine_eq]; omega
  refine PySem.W.sorted_data hl el er hal (.inl fun d hd' => ?_) lz (fun b _ => ?_) (fun out lo eo => ?_)
  · obtain ⟨b, hb, rfl⟩ := List.mem_map.mp hd'
    exact ⟨_, _, rfl⟩
  · have : (dN b.1).depth = 2 := by
      show max 0 (max (PyData.depthAll (b.1.2.map PyData.str) + 1) 0) + 1 = 2
      rw [depth_strs]
      rfl
    omega
  · have pm := List.mergeSort_perm (gs.zip as) (PySem.W.dataLe false fun q : NG × Addr => dN q.1)
    have pw := PySem.W.sort_pairwise (PySem.W.sortLe_total (listOrd itemOrd) false fun q : NG × Addr => PySem.W.keyToks (dN q.1)) (gs.zip as)
    have pw : ((gs.zip as).mergeSort (PySem.W.dataLe false fun q : NG × Addr => dN q.1)).Pairwise (fun a b => PySem.W.dataLe false (fun q : NG × Addr => dN q.1) a b = true) := pw
    generalize (gs.zip as).mergeSort (PySem.W.dataLe false fun q : NG × Addr => dN q.1) = m at pm pw eo
    have eo := each_refsN eo
    subst eo
    have pmg : (m.map (·.1)).Perm gs := by
      have := pm.map (·.1)
      rw [zg] at this
      exact this
    have asc : AscN (m.map (·.1)) := by
      have w1 : (m.map (·.1)).Pairwise fun a b => ltN b a = false := List.pairwise_map.mpr (pw.imp fun {x y} h => by
        have h : (!PySem.W.dataLt (dN y.1) (dN x.1)) = true := h
        rw [dataLt_dN] at h
        simpa using h)
      have w2 : (m.map (·.1)).Nodup := pmg.nodup_iff.mpr nd
      refine (w1.and w2).imp fun {x y} ⟨h1, h2⟩ => ?_
      cases e : ltN x y with
      | true => rfl
      | false => exact absurd (ltN_tri e h1) h2
    have hp : H (s.heap.objs.size + 1) = none := I.hok.fresh (Nat.le_succ _)
    have sm : Same H (upd H (s.heap.objs.size + 1) (.lst ((m.map (·.2)).map V.ref))) := Same.new hp
    obtain ⟨c, hc⟩ := sortedAll_at s.heap (as.map Value.ref) ((m.map (·.2)).map Value.ref).toArray
    refine ⟨.ref (s.heap.objs.size + 1), _, I.laid (t' := s.toks) (fun b u e => sortedAll_old e) (Nat.le_succ _) (show ObjOk X.prog X.w _ _ _ (.lst ((m.map (·.2)).map V.ref)) from ⟨?_, _, c, vals_of_refs _, hc⟩), rfl, q _ _ _ sm hp pmg asc ⟨m.map (·.2), upd_same, ?_⟩⟩
    · rw [List.length_map, List.length_map, pm.length_eq, zl, sizeLine_eq]
      omega
    · exact paired_mono (fun _ _ e => NgAt.same e sm) (paired_ngs fun q hq => zip_ngs pa q (pm.mem_iff.mp hq))
end
end V0

namespace V0
open PySem PySem.Spec PyProof.Rows L2
theorem NgL.nil {H : Hp} {D : Addr} : NgL (upd H D (.lst [])) D [] := ⟨[], upd_same, .nil⟩
theorem ngL_push {H0 H : Hp} {D b a : Addr} {qs : List NG} {n : Int} {g : Gr} (hD : H0 D = none) (s : Same H0 H) (h : NgL H D qs) (l : qs.length < 1000) (hb : H b = none) (ga : GrAt H g a) :
    ∃ acc, (upd H b (.tup [.int n, .ref a])) D = some (.lst acc) ∧ acc.length < sizeLine ∧ Same H0 (upd (upd H b (.tup [.int n, .ref a])) D (.lst (acc ++ [.ref b]))) ∧ NgL (upd (upd H b (.tup [.int n, .ref a])) D (.lst (acc ++ [.ref b]))) D (qs ++ [(n, g)]) := by
  obtain ⟨as, e, pa⟩ := h
  have nb : b ≠ D := fun z => by rw [z, e] at hb; cases hb
  have keep : ∀ {c : Addr} {xs : List V}, H c = some (.tup xs) → upd (upd H b (.tup [.int n, .ref a])) D (.lst (as.map V.ref ++ [.ref b])) c = some (.tup xs) := fun {c xs} hc => by
    have n1 : c ≠ D := fun z => by rw [z, e] at hc; cases hc
    rw [upd_ne n1]
    exact (Same.new hb) _ _ hc
  refine ⟨_, by rw [upd_ne (Ne.symm nb)]; exact e, by rw [List.length_map, ← pa.length, sizeLine_eq]; omega, fun c o ec => ?_, as ++ [b], by rw [upd_same, List.map_append]; rfl, ?_⟩
  · rw [upd_ne (ne_of_none ec hD), upd_ne (ne_of_none (s _ _ ec) hb)]
    exact s _ _ ec
  · refine paired_snoc (paired_mono (fun q c ⟨x, ex, gx⟩ => ⟨x, keep ex, keep gx⟩) pa) ⟨a, ?_, keep ga⟩
    rw [upd_ne nb]
    exact upd_same
/-- the knots, the greater ones first, those of one size ascending -/
def BySz (gs : List Gr) : Prop := gs.Pairwise fun a b => b.length < a.length ∨ (a.length = b.length ∧ ltT a b = true)
def IsKns (zs : List Str) (tie : Str → Str → Bool) (gs : List Gr) : Prop := BySz gs ∧ ∀ g, g ∈ gs ↔ LsG zs (tieTurn tie) g
def spKns (C : Addr) : Sp := fun vs H Q _ => ∃ (x : Addr) (zs : List Str) (tie : Str → Str → Bool), vs = [.ref x] ∧ Wbs C H x zs tie ∧ ∀ p gs H', Same H H' → IsKns zs tie gs → gs.length ≤ 256 → GrsL H' p gs → Q (.ref p) H'
def withinG (g : Gr) (gs : List Gr) : Gr := (gs.find? fun k => k.all fun z => decide (z ∈ g)).getD []
def spWithin : Sp := fun vs H Q _ => ∃ (l a : Addr) (gs : List Gr) (g : Gr), vs = [.ref l, .ref a] ∧ GrsL H l gs ∧ GrAt H g a ∧ (∀ k ∈ gs, k.length ≤ 8) ∧ ∀ p H', Same H H' → GrAt H' (withinG g gs) p → Q (.ref p) H'
/-- the first greatest knot in a group -/
def FirstK (tie : Str → Str → Bool) (g h : Gr) : Prop := h.Sublist g ∧ Ls (tieTurn tie) h ∧ ∀ k : Gr, k.Sublist g → Ls (tieTurn tie) k → k.length < h.length ∨ (k.length = h.length ∧ (h = k ∨ ltT h k = true))
def spKnotIn (C : Addr) : Sp := fun vs H Q _ => ∃ (x a : Addr) (zs : List Str) (tie : Str → Str → Bool) (g : Gr), vs = [.ref x, .ref a] ∧ Wbs C H x zs tie ∧ GrAt H g a ∧ g.Sublist zs ∧ ∀ p h H', Same H H' → FirstK tie g h → GrAt H' h p → Q (.ref p) H'
theorem ltT_noboth {a b : List Str} (h : ltT a b = true) : ltT b a = false := by
  cases e : ltT b a with
  | false => rfl
  | true =>
    have := ltT_trans h e
    rw [ltT_self] at this
    cases this
theorem FirstK.one {tie : Str → Str → Bool} {g h k : Gr} (a : FirstK tie g h) (b : FirstK tie g k) : h = k := by
  obtain ⟨ha, hl, hm⟩ := a
  obtain ⟨ka, kl, km⟩ := b
  rcases hm k ka kl with l | ⟨l, e⟩
  · rcases km h ha hl with l2 | ⟨l2, _⟩ <;> omega
  · rcases km h ha hl with l2 | ⟨_, e2⟩
    · omega
    · rcases e with e | e
      · exact e
      · rcases e2 with e2 | e2
        · exact e2.symm
        · rw [ltT_noboth e] at e2
          cases e2
theorem find_at {p : Gr → Bool} {h : Gr} : ∀ {gs : List Gr} {j : Nat}, gs[j]? = some h → p h = true → (∀ k ∈ gs.take j, p k = false) → gs.find? p = some h
  | [], j, e, _, _ => by simp at e
  | x :: gs, 0, e, t, _ => by
    have e : x = h := by simpa using e
    rw [e, List.find?_cons_of_pos t]
  | x :: gs, j + 1, e, t, n => by
    rw [List.find?_cons_of_neg (by rw [n x (by simp)]; decide)]
    exact find_at (j := j) (by simpa using e) t fun k hk => n k (by rw [List.take_succ_cons]; exact List.mem_cons_of_mem _ hk)
theorem kns_first {zs g : Gr} {tie : Str → Str → Bool} {gs : List Gr} (asc : Asc zs) (kn : IsKns zs tie gs) (sub : g.Sublist zs) : FirstK tie g (withinG g gs) := by
  have inK : ∀ k : Gr, k.Sublist g → k ≠ [] → Ls (tieTurn tie) k → k ∈ gs ∧ (k.all fun z => decide (z ∈ g)) = true := fun k ks ne kl =>
    ⟨(kn.2 k).mpr ⟨ks.trans sub, ne, kl⟩, List.all_eq_true.mpr fun z hz => decide_eq_true (ks.subset hz)⟩
  unfold withinG
  cases e : gs.find? (fun k => k.all fun z => decide (z ∈ g)) with
  | none =>
    refine ⟨List.nil_sublist _, List.Pairwise.nil, fun k ks kl => ?_⟩
    by_cases ne : k = []
    · subst ne
      exact .inr ⟨rfl, .inl rfl⟩
    · obtain ⟨m0, a0⟩ := inK k ks ne kl
      exact absurd a0 (List.find?_eq_none.mp e k m0)
  | some h =>
    obtain ⟨ph, as, bs, eq, na⟩ := List.find?_eq_some_iff_append.mp e
    show FirstK tie g h
    have hm : h ∈ gs := by rw [eq]; simp
    obtain ⟨hs, hne, hl⟩ := (kn.2 h).mp hm
    refine ⟨Asc.sub (asc.sublist sub) (asc.sublist hs) fun z hz => of_decide_eq_true (List.all_eq_true.mp ph z hz), hl, fun k ks kl => ?_⟩
    by_cases ne : k = []
    · subst ne
      cases h with
      | nil => exact absurd rfl hne
      | cons _ _ => exact .inl (Nat.succ_pos _)
    · obtain ⟨mk, ak⟩ := inK k ks ne kl
      have bz := kn.1
      rw [eq] at mk bz
      rcases List.mem_append.mp mk with q | q
      · have := na k q
        rw [ak] at this
        cases this
      · rcases List.mem_cons.mp q with q | q
        · exact .inr ⟨by rw [q], .inl q.symm⟩
        · have := (List.pairwise_cons.mp (List.pairwise_append.mp bz).2.1).1 k q
          rcases this with l | ⟨l, t⟩
          · exact .inl l
          · exact .inr ⟨l.symm, .inr t⟩
section
variable {P : Program} {w : World} {K : PySem.W.Frag} {mg : Str → Option Value} {base : Heap} {C : Addr}
abbrev s__knots_by_size : Stmt := top 48
abbrev N__knots_by_size : List Str := ["web", "knot", "knots", "_"]
abbrev P__knots_by_size : List Str := ["web"]
theorem sc__knots_by_size : FnScope N__knots_by_size P__knots_by_size (defScope s__knots_by_size) := ⟨rfl, rfl, rfl, by decide +kernel, rfl, by decide +kernel, by decide +kernel⟩
theorem ok_kns {f f1 f2 : Addr} {fd fd1 fd2 : FuncData} (B : Bl mg) (M : Bm mg) (KWeb : Kls K mg "Web" C) (D_loose_groups : Df K mg "loose_groups" s_loose_groups P_loose_groups f1 fd1) (G_loose_groups : FnOk P w K mg base CX0 4 f1 fd1 P_loose_groups (spLooseGs C)) (Y_Web_turned : Md K "Web.turned" "turned" C s_Web_turned P_Web_turned f2 fd2) (G_Web_turned : FnOk P w K mg base CX0 6 f2 fd2 P_Web_turned (spTurn C))
    (D : Df K mg "_knots_by_size" s__knots_by_size P__knots_by_size f fd) : FnOk P w K mg base CX0 7 f fd P__knots_by_size (spKns C) := by
  refine D.F.ok sc__knots_by_size (fun vs H Q E h => ?_) (fun cdv A outer s H vs Q E hr h => ?_)
  · obtain ⟨x, zs, tie, rfl, _⟩ := h
    rfl
  · obtain ⟨x, zs, tie, rfl, W, k⟩ := h
    refine ⟨_, (pss_cons (ps_setLc (i := 2) (own := [("knot", 1)]) (g := gName 1) (tt := tYes) rfl sc__knots_by_size.nd rfl rfl (sw_true rfl rfl rfl (by decide +kernel)) (pi_tup (pe_call G_loose_groups (hr.mono (by decide)) (by rfl) D_loose_groups.g D_loose_groups.F.kp D_loose_groups.b .nil pass0 (pa_cons (pe_meth0 (pv 0) KWeb.cl Y_Web_turned.m G_Web_turned (hr.mono (by decide)) Y_Web_turned.b .nil pass0) pa_nil))) (blkOk_by (own := [("knot", 1)]) (N := N__knots_by_size) (sc := defScope s__knots_by_size) (by decide +kernel)) (fun _ _ _ _ _ => (pg_name (i := 1) sc__knots_by_size.nd rfl (Or.inl rfl))) (fun _ _ _ _ _ => pts_nil) (fun _ _ _ _ _ => (show PE _ _ (tTup (tCons (tUn (rU fun i => .int (-i)) (tCB (rLenQ K) (tCons (tVar 1) tNil))) (tCons (tVar 1) tNil))) from by exact (pe_tup (pa_cons (pe_un un_neg (pe_callB call_len (by rfl) B.b_len (by decide +kernel) (pa_cons (pv 1) pa_nil))) (pa_cons (pv 1) pa_nil))))))
      (pss_one (ps_ret (pe_lc (own := [("_", 3), ("knot", 1)]) (g := gTup K 2 (gCons (gName 3) (gCons (gName 1) (gNil)))) (tt := tYes) rfl sc__knots_by_size.nd (pi_list (pe_callB (cr_sortedNg (Room.units65 hr)) (by rfl) M.b_sorted (by decide +kernel) (pa_cons (pv 2) pa_nil))) (blkOk_by (own := [("_", 3), ("knot", 1)]) (N := N__knots_by_size) (sc := defScope s__knots_by_size) (by decide +kernel)) (fun _ _ _ _ _ => (pg_tup rfl (pgs_cons (pg_name (i := 3) sc__knots_by_size.nd rfl (Or.inl rfl)) (pgs_cons (pg_name (i := 1) sc__knots_by_size.nd rfl (Or.inl rfl)) pgs_nil)))) (fun _ _ _ _ _ => pts_nil) (fun _ _ _ _ _ => (pv 1)))))), ?_⟩
    obtain ⟨dx, tx, cx, bx, asx, bsx, wx⟩ := id W.w
    refine ⟨_, rfl, x, dx, _, rfl, wx.at_, rfl, x, zs, tie, rfl, W, fun y H1 s1 _ Wy => ?_⟩
    refine ⟨y, zs, tieTurn tie, rfl, Wy, fun pL H2 s2 ⟨L, ⟨as, eL, pa⟩, aL, mL, lL⟩ => ?_⟩
    have s02 := s1.trans s2
    refine ⟨pL, rfl, ⟨_, SqT.of eL⟩, fun D hD => ?_⟩
    refine lc_it (walk_tup (xs := as.map V.ref)) (fun i H' => Same H2 H' ∧ NgL H' D ((L.take i).map fun g => (-(g.length : Int), g))) ⟨Same.new hD, NgL.nil⟩ (fun i H' _ ⟨s2, _⟩ => SqT.of (s2 _ _ eL)) ?_ ?_
    · rintro j v G2 G3 hj ⟨s4, pd⟩ ⟨rfl, hy⟩
      rw [List.length_map, ← pa.length] at hj
      obtain ⟨a0, ha0, rfl⟩ := ref_at hy
      obtain ⟨g, hg, gat⟩ := paired_get pa ha0
      have gat := GrAt.same gat s4
      refine ⟨rfl, _, rfl, .ref a0, g.length, rfl, .inr ⟨_, SqT.of gat, by rw [List.length_map]⟩, g.length, rfl, _, rfl, by show 2 ≤ sizeLine; decide, fun b hb => ?_⟩
      obtain ⟨acc, c1, c2, c3, c4⟩ := ngL_push (n := -(g.length : Int)) hD s4 pd (by rw [List.length_map, List.length_take]; omega) hb gat
      refine ⟨acc, c1, c2, c3, ?_⟩
      rw [take_snoc hg, List.map_append]
      exact c4
    · rintro H3 ⟨s3, nD⟩
      rw [List.length_map, ← pa.length, List.take_length] at nD
      have nd : (L.map fun g => ((-(g.length : Int), g) : NG)).Nodup := List.pairwise_map.mpr (aL.nd.imp fun {a b} n e => n (congrArg Prod.snd e))
      have lq : (L.map fun g => ((-(g.length : Int), g) : NG)).length = L.length := List.length_map _
      have mq : ∀ q : NG, q ∈ (L.map fun g => ((-(g.length : Int), g) : NG)) ↔ LsG zs (tieTurn tie) q.2 ∧ q.1 = -(q.2.length : Int) := fun q => by
        rw [List.mem_map]
        constructor
        · rintro ⟨g, hg, rfl⟩
          exact ⟨(mL g).mp hg, rfl⟩
        · rintro ⟨h1, h2⟩
          exact ⟨q.2, (mL _).mpr h1, by rw [← h2]⟩
      generalize (L.map fun g => ((-(g.length : Int), g) : NG)) = qs at nD nd lq mq
      refine ⟨_, rfl, D, qs, rfl, nD, by omega, nd, fun p gs H4 s4 hp pm asc nl => ?_⟩
      have kn : IsKns zs tie (gs.map (·.2)) := by
        have mg' : ∀ q : NG, q ∈ gs ↔ LsG zs (tieTurn tie) q.2 ∧ q.1 = -(q.2.length : Int) := fun q => (pm.mem_iff).trans (mq q)
        refine ⟨?_, fun g => ?_⟩
        · refine List.pairwise_map.mpr ((List.pairwise_iff_getElem.mpr fun i j hi hj l => ?_))
          have lt := (List.pairwise_iff_getElem.mp asc) i j hi hj l
          have e1 := ((mg' _).mp (List.getElem_mem hi)).2
          have e2 := ((mg' _).mp (List.getElem_mem hj)).2
          generalize gs[i] = q at lt e1
          generalize gs[j] = r at lt e2
          unfold ltN at lt
          by_cases h1 : q.1 < r.1
          · left
            omega
          · rw [decide_eq_false h1, Bool.false_or, Bool.and_eq_true] at lt
            have h2 : ¬ r.1 < q.1 := by simpa using lt.1
            exact .inr ⟨by omega, lt.2⟩
        · rw [List.mem_map]
          constructor
          · rintro ⟨q, hq, rfl⟩
            exact ((mg' q).mp hq).1
          · intro h
            exact ⟨(-(g.length : Int), g), (mg' _).mpr ⟨h, rfl⟩, rfl⟩
      have lg : gs.length ≤ 256 := by rw [pm.length_eq]; omega
      obtain ⟨ps, eP, pp⟩ := nl
      refine ⟨p, rfl, ⟨_, SqL.of eP⟩, fun D2 hD2 => ?_⟩
      refine lc_it (walk_list (xs := ps.map V.ref)) (fun i H' => Same H4 H' ∧ GrsL H' D2 ((gs.take i).map (·.2))) ⟨Same.new hD2, GrsL.nil⟩ (fun i H' _ ⟨s2, _⟩ => SqL.of (s2 _ _ eP)) ?_ ?_
      · rintro j v G2 G3 hj ⟨s5, pd⟩ ⟨rfl, hy⟩
        rw [List.length_map, ← pp.length] at hj
        obtain ⟨a0, ha0, rfl⟩ := ref_at hy
        obtain ⟨q, hq, qat⟩ := paired_get pp ha0
        obtain ⟨a, ea, ga⟩ := NgAt.same qat s5
        refine ⟨a0, [.int q.1, .ref a], rfl, SqT.of ea, rfl, _, _, rfl, _, _, rfl, rfl, rfl, _, rfl, ?_⟩
        obtain ⟨acc, c1, c2, c3, c4⟩ := grsL_add hD2 s5 pd (by rw [List.length_map, List.length_take]; omega) ga
        refine ⟨acc, c1, c2, c3, ?_⟩
        rw [take_snoc hq, List.map_append]
        exact c4
      · rintro H5 ⟨s5, gl⟩
        rw [List.length_map, ← pp.length, List.take_length] at gl
        exact k D2 _ H5 (s02.trans (s3.trans (s4.trans s5))) kn (by rw [List.length_map]; exact lg) gl
abbrev s__first_within : Stmt := top 49
abbrev N__first_within : List Str := ["knots", "group", "knot", "thing"]
abbrev P__first_within : List Str := ["knots", "group"]
theorem sc__first_within : FnScope N__first_within P__first_within (defScope s__first_within) := ⟨rfl, rfl, rfl, by decide +kernel, rfl, by decide +kernel, by decide +kernel⟩
theorem ok_within {f : Addr} {fd : FuncData} (B : Bl mg) (D : Df K mg "_first_within" s__first_within P__first_within f fd) : FnOk P w K mg base CX0 1 f fd P__first_within spWithin := by
  refine D.F.ok sc__first_within (fun vs H Q E h => ?_) (fun cdv A outer s H vs Q E hr h => ?_)
  · obtain ⟨l, a, gs, g, rfl, _⟩ := h
    rfl
  · obtain ⟨l, a, gs, g, rfl, ⟨as, el, pa⟩, ga, kb, k⟩ := h
    refine ⟨_, (pss_cons (ps_for PassesOwn.never rfl (pi_list (pv 0)) (pg_name (i := 2) sc__first_within.nd rfl (Or.inl rfl)) (pss_one (ps_if (pt_val (pe_callB (cr_all rfl) (by rfl) B.b_all (by decide +kernel) (pa_cons (pe_lc (own := [("thing", 3)]) (g := gName 3) (tt := tYes) rfl sc__first_within.nd (pi_tup (pv 2)) (blkOk_by (own := [("thing", 3)]) (N := N__first_within) (sc := defScope s__first_within) (by decide +kernel)) (fun _ _ _ _ _ => (pg_name (i := 3) sc__first_within.nd rfl (Or.inl rfl))) (fun _ _ _ _ _ => pts_nil) (fun _ _ _ _ _ => (show PE _ _ (tOp (rIn K false) (tVar 3) (tVar 1)) from by exact (pe_cmpR op_in_seq (pv 3) (pv 1) (by rfl))))) pa_nil))) (pss_one (ps_ret (pv 2))) pss_nil)))
      (pss_one (ps_ret (pe_tup pa_nil)))), ?_⟩
    refine ⟨_, rfl, l, rfl, ⟨_, SqL.of el⟩, ?_⟩
    refine for_it (walk_list (xs := as.map V.ref)) (fun i σ H' => Same H H' ∧ (∀ h ∈ gs.take i, (h.all fun z => decide (z ∈ g)) = false) ∧ ∃ o2 o3 : Option V, σ = [some (.ref l), some (.ref a), o2, o3]) ⟨Same.refl _, (fun h hh => by cases hh), _, _, rfl⟩ (fun i σ H' _ ⟨s1, _⟩ => SqL.of (s1 _ _ el)) ?_ ?_
    · rintro j v σ H3 H4 hj ⟨s3, none3, o2, o3, rfl⟩ ⟨rfl, hv⟩
      rw [List.length_map, ← pa.length] at hj
      obtain ⟨a0, ha0, rfl⟩ := ref_at hv
      obtain ⟨h, hh, hat⟩ := paired_get pa ha0
      have hat := GrAt.same hat s3
      have hb := kb h (List.mem_of_getElem? hh)
      refine ⟨_, rfl, a0, rfl, ⟨_, SqT.of hat⟩, fun L hL => ?_⟩
      refine lc_it (walk_tup (xs := h.map V.str)) (fun i H' => Same H4 H' ∧ H' L = some (.lst (((h.take i).map fun z => decide (z ∈ g)).map V.bl))) ⟨Same.new hL, upd_same⟩ (fun i H' _ ⟨s2, _⟩ => SqT.of (s2 _ _ hat)) ?_ ?_
      · rintro i y H2 H5 hi ⟨s2, h2⟩ ⟨rfl, hy⟩
        obtain ⟨z, hz, rfl⟩ := str_at hy
        refine ⟨rfl, _, rfl, _, rfl, a, _, rfl, .inr (SqT.of (s2 _ _ (s3 _ _ ga))), rfl, flat_map g, ?_⟩
        rw [show (if false = true then !inV (V.str z) (g.map V.str) else inV (V.str z) (g.map V.str)) = decide (z ∈ g) from inV_str _ _]
        refine ⟨_, h2, ?_, fun c o ec => ?_, ?_⟩
        · rw [List.length_map, List.length_map, List.length_take, sizeLine_eq]
          omega
        · rw [upd_ne (ne_of_none ec hL)]
          exact s2 _ _ ec
        · rw [upd_same, take_snoc hz, List.map_append, List.map_append]
          rfl
      · rintro H2 ⟨s2, h2⟩
        rw [List.length_map, List.take_length] at h2
        refine ⟨L, _, rfl, SqL.of h2, _, rfl, ?_⟩
        have ea : ((h.map fun z => decide (z ∈ g)).all id) = (h.all fun z => decide (z ∈ g)) := by rw [List.all_map]; rfl
        rw [ea]
        cases e : (h.all fun z => decide (z ∈ g)) with
        | true =>
          refine ite2 (fun _ => ?_) (fun w => absurd rfl w)
          refine ⟨_, rfl, k a0 H2 (s3.trans s2) ?_⟩
          rw [show withinG g gs = h from ?_]
          · exact GrAt.same hat s2
          · exact congrArg (fun o => Option.getD o []) (find_at hh e none3)
        | false =>
          refine ite2 (fun w => by cases w) (fun _ => ⟨s3.trans s2, ?_, _, _, rfl⟩)
          rw [take_snoc hh]
          intro q hq
          rcases List.mem_append.mp hq with q1 | q1
          · exact none3 q q1
          · rw [List.mem_singleton.mp q1]
            exact e
    · rintro σ H3 ⟨s3, none3, o2, o3, rfl⟩
      rw [List.length_map, ← pa.length, List.take_length] at none3
      refine ⟨Nat.zero_le _, fun e he => k e _ (s3.trans (Same.new he)) ?_⟩
      rw [show withinG g gs = [] from congrArg (fun o => Option.getD o []) (List.find?_eq_none.mpr fun h hh => by rw [none3 h hh]; decide)]
      exact upd_same
end
end V0

namespace V0
open PySem PySem.Spec PyProof.Rows L2
/-- the places that are neighbours in a ring -/
def ringI (n : Nat) : List (Int × Int) := ((List.range (n - 1)).map fun (i : Nat) => ((i : Int), (i : Int) + 1)) ++ [(0, (n : Int) - 1)]
theorem mem_ringI {n i j : Nat} (ij : i < j) (jn : j < n) : ((i : Int), (j : Int)) ∈ ringI n ↔ (j = i + 1 ∨ (i = 0 ∧ j = n - 1)) := by
  unfold ringI
  rw [List.mem_append, List.mem_map, List.mem_singleton]
  constructor
  · rintro (⟨a, ha, e⟩ | e)
    · have h1 := congrArg Prod.fst e
      have h2 := congrArg Prod.snd e
      dsimp only at h1 h2
      left
      omega
    · have h1 := congrArg Prod.fst e
      have h2 := congrArg Prod.snd e
      dsimp only at h1 h2
      right
      omega
  · rintro (e | ⟨h1, h2⟩)
    · exact .inl ⟨i, List.mem_range.mpr (by omega), by rw [e]; rfl⟩
    · refine .inr ?_
      rw [h1, h2]
      exact congrArg (fun z : Int => ((0 : Int), z)) (by omega)
theorem cyc_up {n i j : Nat} (ij : i < j) (jn : j < n) (n3 : 3 ≤ n) : cyc n i j = decide (j = i + 1 ∨ (i = 0 ∧ j = n - 1)) := by
  unfold cyc
  rw [← Bool.decide_or, decide_eq_decide, Nat.mod_eq_of_lt (show i + 1 < n by omega)]
  by_cases e : j + 1 = n
  · rw [e, Nat.mod_self]
    omega
  · rw [Nat.mod_eq_of_lt (show j + 1 < n by omega)]
    omega
theorem cyc_sym (n i j : Nat) : cyc n i j = cyc n j i := by
  unfold cyc
  rw [Bool.or_comm]
theorem cyc_self {n i : Nat} (h : i < n) (n3 : 3 ≤ n) : cyc n i i = false := by
  unfold cyc
  have : (i + 1) % n ≠ i := by
    by_cases e : i + 1 = n
    · rw [e, Nat.mod_self]
      omega
    · rw [Nat.mod_eq_of_lt (by omega)]
      omega
  rw [decide_eq_false this]
  rfl
/-- what stands in the shape of a ring is a ring -/
theorem shape_ring {zs : List Str} {t : Str → Str → Bool} (T : Tie t) {xs : List V} (n3 : 3 ≤ xs.length) : ShapeG zs t (ringI xs.length) xs ↔ ∃ ys : List Str, xs = ys.map V.str ∧ (∀ y ∈ ys, y ∈ zs) ∧ ys.Nodup ∧ CycL t ys := by
  unfold ShapeG
  refine exists_congr fun ys => and_congr_right fun e => and_congr_right fun _ => and_congr_right fun _ => ?_
  have el : xs.length = ys.length := by rw [e, List.length_map]
  rw [el] at n3 ⊢
  constructor
  · intro h i j a b ha hb
    have li := (List.getElem?_eq_some_iff.mp ha).1
    have lj := (List.getElem?_eq_some_iff.mp hb).1
    rcases Nat.lt_trichotomy i j with q | q | q
    · rw [h i j a b q ha hb, cyc_up q lj n3, decide_eq_decide]
      exact mem_ringI q lj
    · subst q
      rw [ha] at hb
      rw [Option.some.inj hb, T.irr, cyc_self li n3]
    · rw [T.sym, h j i b a q hb ha, cyc_sym, cyc_up q li n3, decide_eq_decide]
      exact mem_ringI q li
  · intro h i j a b ij ha hb
    have lj := (List.getElem?_eq_some_iff.mp hb).1
    rw [h i j a b ha hb, cyc_up ij lj n3, decide_eq_decide]
    exact (mem_ringI ij lj).symm
def spPlaces : Sp := fun vs H Q _ => ∃ n : Nat, vs = [.int (n : Nat)] ∧ 1 ≤ n ∧ n ≤ 8 ∧ ∀ l H', Same H H' → IPs H' l (ringI n) → Q (.ref l) H'
section
variable {P : Program} {w : World} {K : PySem.W.Frag} {mg : Str → Option Value} {base : Heap} {C : Addr}
abbrev s__ring_places : Stmt := top 47
abbrev N__ring_places : List Str := ["many", "at"]
abbrev P__ring_places : List Str := ["many"]
theorem sc__ring_places : FnScope N__ring_places P__ring_places (defScope s__ring_places) := ⟨rfl, rfl, rfl, by decide +kernel, rfl, by decide +kernel, by decide +kernel⟩
theorem ok_places {f : Addr} {fd : FuncData} (B : Bl mg) (D : Df K mg "_ring_places" s__ring_places P__ring_places f fd) : FnOk P w K mg base CX0 1 f fd P__ring_places spPlaces := by
  refine D.F.ok sc__ring_places (fun vs H Q E h => ?_) (fun cdv A outer s H vs Q E hr h => ?_)
  · obtain ⟨n, rfl, _⟩ := h
    rfl
  · obtain ⟨n, rfl, n1, n8, k⟩ := h
    refine ⟨_, (pss_one (ps_ret (pe_op op_cat (pe_lc (own := [("at", 1)]) (g := gName 1) (tt := tYes) rfl sc__ring_places.nd (pi_range1 rfl B.b_range (pa_cons (pe_op op_sub (pv 0) pe_int) pa_nil)) (blkOk_by (own := [("at", 1)]) (N := N__ring_places) (sc := defScope s__ring_places) (by decide +kernel)) (fun _ _ _ _ _ => (pg_name (i := 1) sc__ring_places.nd rfl (Or.inl rfl))) (fun _ _ _ _ _ => pts_nil) (fun _ _ _ _ _ => (show PE _ _ (tTup (tCons (tVar 1) (tCons (tOp (rI0 fun i j => .int (i + j)) (tVar 1) (tC (.int 1))) tNil))) from by exact (pe_tup (pa_cons (pv 1) (pa_cons (pe_op op_add (pv 1) pe_int) pa_nil)))))) (pe_lst (pa_cons (pe_tup (pa_cons pe_int (pa_cons (pe_op op_sub (pv 0) pe_int) pa_nil))) pa_nil))))), ?_⟩
    refine ⟨_, rfl, _, _, rfl, rfl, (n : Int) - 1, rfl, by omega, by omega, fun D hD => ?_⟩
    refine lc_it walk_range (fun i H' => Same H H' ∧ IPs H' D ((List.range i).map fun (i : Nat) => ((i : Int), (i : Int) + 1))) ⟨Same.new hD, [], upd_same, .nil⟩ (fun _ _ _ _ => trivial) ?_ ?_
    · rintro i v H1 H2 hi ⟨s2, ip⟩ ⟨rfl, rfl⟩
      refine ⟨rfl, _, rfl, _, rfl, _, _, rfl, rfl, by show 2 ≤ sizeLine; decide, fun q hq => ?_⟩
      have s5 := Same.new (o := .tup [V.int (0 + i), V.int (0 + i + 1)]) hq
      have eq : (upd H2 q (.tup [V.int (0 + i), V.int (0 + i + 1)])) q = some (.tup [V.int (i : Int), V.int ((i : Int) + 1)]) := by rw [upd_same, Int.zero_add]
      obtain ⟨acc, c1, c2, c3, c4⟩ := ips_add hD (Same.trans s2 s5) (ip.same s5) (by rw [List.length_map, List.length_range]; omega) eq
      refine ⟨acc, c1, c2, c3, ?_⟩
      rw [List.range_succ, List.map_append]
      exact c4
    · rintro H3 ⟨s3, ip⟩
      rw [show ((n : Int) - 1).toNat = n - 1 from by omega] at ip
      refine ⟨_, rfl, _, _, rfl, rfl, by show 2 ≤ sizeLine; decide, fun q hq => ⟨by show 1 ≤ sizeLine; decide, fun L1 hL1 => ?_⟩⟩
      have s4 := Same.new (o := .tup [V.int 0, V.int ((n : Int) - 1)]) hq
      have eq : (upd H3 q (.tup [V.int 0, V.int ((n : Int) - 1)])) q = some (.tup [V.int 0, V.int ((n : Int) - 1)]) := upd_same
      generalize upd H3 q (.tup [V.int 0, V.int ((n : Int) - 1)]) = H4 at s4 eq hL1 ⊢
      have s5 := Same.new (o := .lst [V.ref q]) hL1
      have e5 : (upd H4 L1 (.lst [V.ref q])) L1 = some (.lst [V.ref q]) := upd_same
      generalize upd H4 L1 (.lst [V.ref q]) = H5 at s5 e5 ⊢
      have eq := s5 _ _ eq
      obtain ⟨as, eD, pa⟩ := ip.same (s4.trans s5)
      have la : as.length = n - 1 := by rw [← pa.length, List.length_map, List.length_range]
      refine ⟨D, L1, _, _, rfl, rfl, eD, e5, by rw [List.length_map, la, sizeLine_eq]; show _ + 1 ≤ _; omega, fun M hM => ?_⟩
      have s6 := Same.new (o := .lst (as.map V.ref ++ [V.ref q])) hM
      refine k M _ (s3.trans (s4.trans (s5.trans s6))) ⟨as ++ [q], by rw [upd_same, List.map_append]; rfl, ?_⟩
      exact paired_app2 (paired_mono (fun _ _ e => s6 _ _ e) pa) (.cons (s6 _ _ eq) .nil)
end
end V0

namespace V0
open PySem PySem.Spec PyProof.Rows L2
/-- whether a word and a tuple of things are a paper against a web -/
def SpPap (zs : List Str) (tie : Str → Str → Bool) (wd : Str) (xs : List V) : Prop := ∃ ys : List Str, xs = ys.map V.str ∧ (∀ y ∈ ys, y ∈ zs) ∧ ys.Nodup ∧ ((wd = "ring" ∧ CycL tie ys ∧ (ys.length = 5 ∨ ys.length = 7)) ∨ (wd = "turned" ∧ CycL (tieTurn tie) ys ∧ ys.length = 7))
def spIsSpP (C : Addr) : Sp := fun vs H Q _ => ∃ (x t : Addr) (zs : List Str) (tie : Str → Str → Bool) (wd : Str) (xs : List V), vs = [.ref x, .str wd, .ref t] ∧ Wbs C H x zs tie ∧ H t = some (.tup xs) ∧ xs.length ≤ 1000 ∧ (∀ y ∈ xs, ∃ k, Kn H y k) ∧ ∀ r H', Same H H' → (r = true ↔ SpPap zs tie wd xs) → Q (.bl r) H'
section
variable {P : Program} {w : World} {K : PySem.W.Frag} {mg : Str → Option Value} {base : Heap} {C : Addr}
abbrev s_is_spoiled_paper : Stmt := top 44
abbrev N_is_spoiled_paper : List Str := ["web", "word", "things"]
abbrev P_is_spoiled_paper : List Str := ["web", "word", "things"]
theorem sc_is_spoiled_paper : FnScope N_is_spoiled_paper P_is_spoiled_paper (defScope s_is_spoiled_paper) := ⟨rfl, rfl, rfl, by decide +kernel, rfl, by decide +kernel, by decide +kernel⟩
theorem ok_isSpP {f f1 f2 f3 f4 ra : Addr} {fd fd1 fd2 fd3 fd4 : FuncData} (B : Bl mg) (RK : Rgs K mg ra) (TN : GV mg "_TURNED" (.int 7)) (KWeb : Kls K mg "Web" C) (D_check_web : Df K mg "check_web" s_check_web P_check_web f1 fd1) (D_has_shape : Df K mg "has_shape" s_has_shape P_has_shape f2 fd2) (G_has_shape : FnOk P w K mg base CX0 4 f2 fd2 P_has_shape (spShapeG C)) (D__ring_places : Df K mg "_ring_places" s__ring_places P__ring_places f3 fd3)
    (Y_Web_turned : Md K "Web.turned" "turned" C s_Web_turned P_Web_turned f4 fd4) (G_Web_turned : FnOk P w K mg base CX0 6 f4 fd4 P_Web_turned (spTurn C)) (D : Df K mg "is_spoiled_paper" s_is_spoiled_paper P_is_spoiled_paper f fd) : FnOk P w K mg base CX0 7 f fd P_is_spoiled_paper (spIsSpP C) := by
  have G_check_web : FnOk P w K mg base CX0 1 f1 fd1 P_check_web (spCheckWeb C) := ok_check_web B KWeb D_check_web
  have G__ring_places : FnOk P w K mg base CX0 1 f3 fd3 P__ring_places spPlaces := ok_places B D__ring_places
  refine D.F.ok sc_is_spoiled_paper (fun vs H Q E h => ?_) (fun cdv A outer s H vs Q E hr h => ?_)
  · obtain ⟨x, t, zs, tie, wd, xs, rfl, _⟩ := h
    rfl
  · obtain ⟨x, t, zs, tie, wd, xs, rfl, W, ht, l1000, kn, k⟩ := h
    refine ⟨_, (pss_cons (ps_expr (pe_call G_check_web (hr.mono (by decide)) (by rfl) D_check_web.g D_check_web.F.kp D_check_web.b .nil pass0 (pa_cons (pv 0) pa_nil)))
      (pss_cons (ps_if (pt_not (pt_val (pe_callB call_is (by rfl) B.b_isinstance (by decide +kernel) (pa_cons (pv 2) (pa_cons (pe_ty (n := "tuple") (by rfl) B.b_tuple (by decide +kernel)) pa_nil))))) (pss_one (ps_ret pe_bl)) pss_nil)
      (pss_cons (ps_if (pt_cmpR op_eq (pv 1) pe_str (nomark _)) (pss_one (ps_ret (pe_and (pe_cmpR op_in_seq (pe_callB call_len (by rfl) B.b_len (by decide +kernel) (pa_cons (pv 2) pa_nil)) (pe_glob (by rfl) RK.g (show RelV (V.ref ra) (Value.ref ra) from rfl)) (by rfl)) (pe_one (pe_call G_has_shape (hr.mono (by decide)) (by rfl) D_has_shape.g D_has_shape.F.kp D_has_shape.b .nil pass0 (pa_cons (pv 0) (pa_cons (pv 2) (pa_cons (pe_call G__ring_places (hr.mono (by decide)) (by rfl) D__ring_places.g D__ring_places.F.kp D__ring_places.b .nil pass0 (pa_cons (pe_callB call_len (by rfl) B.b_len (by decide +kernel) (pa_cons (pv 2) pa_nil)) pa_nil)) pa_nil)))))))) pss_nil)
      (pss_one (ps_ret (pe_and (pe_cmpR op_eq (pv 1) pe_str (nomark _)) (pe_and (pe_cmpR op_eq (pe_callB call_len (by rfl) B.b_len (by decide +kernel) (pa_cons (pv 2) pa_nil)) (pe_gv rfl TN) (nomark _)) (pe_one (pe_call G_has_shape (hr.mono (by decide)) (by rfl) D_has_shape.g D_has_shape.F.kp D_has_shape.b .nil pass0 (pa_cons (pe_meth0 (pv 0) KWeb.cl Y_Web_turned.m G_Web_turned (hr.mono (by decide)) Y_Web_turned.b .nil pass0) (pa_cons (pv 2) (pa_cons (pe_call G__ring_places (hr.mono (by decide)) (by rfl) D__ring_places.g D__ring_places.F.kp D__ring_places.b .nil pass0 (pa_cons (pe_gv rfl TN) pa_nil)) pa_nil)))))))))))), ?_⟩
    refine ⟨_, rfl, x, zs, tie, rfl, W, ?_⟩
    refine ⟨_, rfl, .ref t, .tup, .tup, rfl, .tup ht, by decide, _, rfl, ite2 (fun z => by cases z) (fun _ => ?_)⟩
    have lenE : ∀ {ys : List Str}, xs = ys.map V.str → xs.length = ys.length := fun e => by rw [e, List.length_map]
    refine ⟨_, rfl, rfl, _, rfl, ?_⟩
    by_cases hw : wd = "ring"
    · rw [decide_eq_true (congrArg V.str hw)]
      refine ite2 (fun _ => ?_) (fun z => absurd rfl z)
      refine ⟨_, rfl, .ref t, xs.length, rfl, .inr ⟨_, SqT.of ht, rfl⟩, ra, _, rfl, .inr (RK.t _), rfl, rfl, ?_⟩
      have iv : (if false = true then !inV (V.int (xs.length : Nat)) [V.int 5, V.int 7] else inV (V.int (xs.length : Nat)) [V.int 5, V.int 7]) = decide (xs.length = 5 ∨ xs.length = 7) := by
        have one : ∀ m : Nat, eqV (V.int (m : Nat)) (V.int (xs.length : Nat)) = decide (xs.length = m) := fun m => by
          rw [show eqV (V.int (m : Nat)) (V.int (xs.length : Nat)) = decide ((m : Int) = (xs.length : Nat)) from rfl, decide_eq_decide]
          omega
        show (eqV (V.int ((5 : Nat) : Int)) (V.int (xs.length : Nat)) || (eqV (V.int ((7 : Nat) : Int)) (V.int (xs.length : Nat)) || false)) = _
        rw [one, one, Bool.or_false, ← Bool.decide_or]
      rw [iv]
      by_cases hl : xs.length = 5 ∨ xs.length = 7
      · rw [decide_eq_true hl]
        refine ⟨_, rfl, ite2 (fun _ => ?_) (fun z => absurd rfl z)⟩
        refine ⟨_, rfl, _, rfl, _, rfl, .ref t, xs.length, rfl, .inr ⟨_, SqT.of ht, rfl⟩, xs.length, rfl, by omega, by omega, fun l H1 s1 ip => ?_⟩
        refine ⟨x, t, l, zs, tie, ringI xs.length, xs, rfl, W.same s1, s1 _ _ ht, by omega, fun y hy => (kn y hy).imp fun _ h => h.same s1, ip, fun r H2 s2 hr => k r H2 (s1.trans s2) ?_⟩
        rw [hr, shape_ring W.t (by omega)]
        refine exists_congr fun ys => and_congr_right fun e => and_congr_right fun _ => and_congr_right fun _ => ?_
        have := lenE e
        constructor
        · exact fun c => .inl ⟨hw, c, by omega⟩
        · rintro (⟨_, c, _⟩ | ⟨h, _⟩)
          · exact c
          · rw [hw] at h
            exact absurd h (by decide +kernel)
      · rw [decide_eq_false hl]
        refine ⟨_, rfl, ite2 (fun z => by cases z) (fun _ => k false H (Same.refl _) ⟨(fun z => by cases z), fun ⟨ys, e, _, _, h⟩ => ?_⟩)⟩
        have := lenE e
        rcases h with ⟨_, _, l⟩ | ⟨_, _, l⟩ <;> omega
    · rw [decide_eq_false (fun e => hw (V.str.inj e))]
      refine ite2 (fun z => by cases z) (fun _ => ?_)
      refine ⟨_, rfl, rfl, _, rfl, ?_⟩
      by_cases ht2 : wd = "turned"
      · rw [decide_eq_true (congrArg V.str ht2)]
        refine ite2 (fun _ => ?_) (fun z => absurd rfl z)
        refine ⟨_, rfl, .ref t, xs.length, rfl, .inr ⟨_, SqT.of ht, rfl⟩, rfl, _, rfl, ?_⟩
        by_cases h7 : xs.length = 7
        · rw [decide_eq_true (show V.int ((xs.length : Nat) : Int) = V.int 7 from by rw [h7]; rfl), if_pos rfl]
          obtain ⟨dx, tx, cx, bx, asx, bsx, wx⟩ := id W.w
          refine ⟨_, rfl, x, dx, _, rfl, wx.at_, rfl, x, zs, tie, rfl, W, fun y H1 s1 _ Wy => ?_⟩
          refine ⟨_, rfl, 7, rfl, by decide, by decide, fun l H2 s2 ip => ?_⟩
          have s12 := s1.trans s2
          refine ⟨y, t, l, zs, tieTurn tie, ringI 7, xs, rfl, Wy.same s2, s12 _ _ ht, by omega, fun y hy => (kn y hy).imp fun _ h => h.same s12, ip, fun r H3 s3 hr => k r H3 (s12.trans s3) ?_⟩
          have sr := shape_ring (zs := zs) (xs := xs) (tieTurn_tie W.t) (by omega)
          rw [h7] at sr
          rw [hr, sr]
          refine exists_congr fun ys => and_congr_right fun e => and_congr_right fun _ => and_congr_right fun _ => ?_
          have := lenE e
          constructor
          · exact fun c => .inr ⟨ht2, c, by omega⟩
          · rintro (⟨h, _⟩ | ⟨_, c, _⟩)
            · exact absurd h hw
            · exact c
        · rw [decide_eq_false (show ¬ V.int ((xs.length : Nat) : Int) = V.int 7 from fun e => h7 (by have := V.int.inj e; omega)), if_neg (fun z => by cases z)]
          refine k false H (Same.refl _) ⟨(fun z => by cases z), fun ⟨ys, e, _, _, h⟩ => ?_⟩
          have := lenE e
          rcases h with ⟨h, _⟩ | ⟨_, _, l⟩
          · exact absurd h hw
          · omega
      · rw [decide_eq_false (fun e => ht2 (V.str.inj e))]
        refine ite2 (fun z => by cases z) (fun _ => k false H (Same.refl _) ⟨(fun z => by cases z), fun ⟨ys, e, _, _, h⟩ => ?_⟩)
        rcases h with ⟨h, _⟩ | ⟨h, _⟩
        · exact absurd h hw
        · exact absurd h ht2
end
end V0

namespace V0
open PySem PySem.Spec PyProof.Rows L2
theorem fnOk_never {P : Program} {w : World} {K : PySem.W.Frag} {mg : Str → Option Value} {base : Heap} {CX : CXT} {k : Nat} {f : Addr} {fd : FuncData} {ps : List Str} : FnOk P w K mg base CX k f fd ps (fun _ _ _ _ => False) :=
  ⟨fun _ _ _ _ h => h.elim, fun _ _ _ _ _ _ _ _ _ _ _ _ _ h => h.elim⟩
/-- a value that is no paper for a web -/
def spIsGP (C : Addr) : Sp := fun vs H Q _ => ∃ (x p t : Addr) (zs : List Str) (tie : Str → Str → Bool) (wd : Str) (xs : List V), vs = [.ref x, .ref p] ∧ Wbs C H x zs tie ∧ H p = some (.tup [.str wd, .ref t]) ∧ wd ≠ "good" ∧ H t = some (.tup xs) ∧ xs.length ≤ 1000 ∧ (∀ y ∈ xs, ∃ k, Kn H y k) ∧ ∀ r H', Same H H' → (r = true ↔ SpPap zs tie wd xs) → Q (.bl r) H'
/-- the paper against a web that is not good -/
def spGoodPB (C : Addr) : Sp := fun vs H Q _ => ∃ (x : Addr) (zs : List Str) (tie : Str → Str → Bool), vs = [.ref x] ∧ Wbs C H x zs tie ∧ (∃ h : Gr, h.Sublist zs ∧ RG tie h) ∧
  ∀ (p r : Addr) (g : Gr) (nm : Str) (t : Str → Str → Bool) (H' : Hp), Same H H' → FirstR zs tie g → ((nm = "ring" ∧ t = tie) ∨ (nm = "turned" ∧ ¬ RingOf tie g ∧ t = tieTurn tie)) → RingOf t g → GrAt H' (wayG t g) r → H' p = some (.tup [.str nm, .ref r]) → Q (.ref p) H'
section
variable {P : Program} {w : World} {K : PySem.W.Frag} {mg : Str → Option Value} {base : Heap} {C : Addr}
abbrev s__are_good_knots : Stmt := top 50
abbrev N__are_good_knots : List Str := ["web", "value", "counts", "knots", "group", "knot", "thing"]
abbrev P__are_good_knots : List Str := ["web", "value"]
theorem sc__are_good_knots : FnScope N__are_good_knots P__are_good_knots (defScope s__are_good_knots) := ⟨rfl, rfl, rfl, by decide +kernel, rfl, by decide +kernel, by decide +kernel⟩
abbrev s_is_good_paper : Stmt := top 43
abbrev N_is_good_paper : List Str := ["web", "value", "word", "shown"]
abbrev P_is_good_paper : List Str := ["web", "value"]
theorem sc_is_good_paper : FnScope N_is_good_paper P_is_good_paper (defScope s_is_good_paper) := ⟨rfl, rfl, rfl, by decide +kernel, rfl, by decide +kernel, by decide +kernel⟩
theorem ok_isGP {f f1 f2 f3 : Addr} {fd fd1 fd2 fd3 : FuncData} (B : Bl mg) (KWeb : Kls K mg "Web" C) (D_check_web : Df K mg "check_web" s_check_web P_check_web f1 fd1) (D_is_spoiled_paper : Df K mg "is_spoiled_paper" s_is_spoiled_paper P_is_spoiled_paper f2 fd2) (G_is_spoiled_paper : FnOk P w K mg base CX0 7 f2 fd2 P_is_spoiled_paper (spIsSpP C)) (D__are_good_knots : Df K mg "_are_good_knots" s__are_good_knots P__are_good_knots f3 fd3)
    (D : Df K mg "is_good_paper" s_is_good_paper P_is_good_paper f fd) : FnOk P w K mg base CX0 8 f fd P_is_good_paper (spIsGP C) := by
  have G_check_web : FnOk P w K mg base CX0 1 f1 fd1 P_check_web (spCheckWeb C) := ok_check_web B KWeb D_check_web
  have G__are_good_knots : FnOk P w K mg base CX0 7 f3 fd3 P__are_good_knots (fun _ _ _ _ => False) := fnOk_never
  refine D.F.ok sc_is_good_paper (fun vs H Q E h => ?_) (fun cdv A outer s H vs Q E hr h => ?_)
  · obtain ⟨x, p, t, zs, tie, wd, xs, rfl, _⟩ := h
    rfl
  · obtain ⟨x, p, t, zs, tie, wd, xs, rfl, W, hp, ng, ht, l1000, kn, k⟩ := h
    refine ⟨_, (pss_cons (ps_expr (pe_call G_check_web (hr.mono (by decide)) (by rfl) D_check_web.g D_check_web.F.kp D_check_web.b .nil pass0 (pa_cons (pv 0) pa_nil)))
      (pss_cons (ps_if (PW.pt (pw_or (pt_not (pt_val (pe_callB call_is (by rfl) B.b_isinstance (by decide +kernel) (pa_cons (pv 1) (pa_cons (pe_ty (n := "tuple") (by rfl) B.b_tuple (by decide +kernel)) pa_nil))))) (pw_or1 (pt_cmpR op_ne (pe_callB call_len (by rfl) B.b_len (by decide +kernel) (pa_cons (pv 1) pa_nil)) pe_int (nomark _))))) (pss_one (ps_ret pe_bl)) pss_nil)
      (pss_cons (ps_asg (pv 1) (pg_tup rfl (pgs_cons (pg_name (i := 2) sc_is_good_paper.nd rfl (Or.inl rfl)) (pgs_cons (pg_name (i := 3) sc_is_good_paper.nd rfl (Or.inl rfl)) pgs_nil))))
      (pss_cons (ps_if (pt_cmpR op_eq (pv 2) pe_str (nomark _)) (pss_one (ps_ret (pe_call G__are_good_knots (hr.mono (by decide)) (by rfl) D__are_good_knots.g D__are_good_knots.F.kp D__are_good_knots.b .nil pass0 (pa_cons (pv 0) (pa_cons (pv 3) pa_nil))))) pss_nil)
      (pss_one (ps_ret (pe_call G_is_spoiled_paper (hr.mono (by decide)) (by rfl) D_is_spoiled_paper.g D_is_spoiled_paper.F.kp D_is_spoiled_paper.b .nil pass0 (pa_cons (pv 0) (pa_cons (pv 2) (pa_cons (pv 3) pa_nil)))))))))), ?_⟩
    refine ⟨_, rfl, x, zs, tie, rfl, W, ?_⟩
    refine ⟨_, rfl, .ref p, .tup, .tup, rfl, .tup hp, by decide, _, rfl, ?_⟩
    refine ite2 (fun z => by cases z) (fun _ => ?_)
    refine ⟨_, rfl, .ref p, 2, rfl, .inr ⟨_, SqT.of hp, rfl⟩, rfl, _, rfl, ?_⟩
    refine ite2 (fun z => by cases z) (fun _ => ?_)
    refine ⟨_, rfl, p, _, rfl, SqT.of hp, rfl, _, _, rfl, _, _, rfl, rfl, ?_⟩
    refine ⟨_, rfl, rfl, _, rfl, ?_⟩
    rw [decide_eq_false (fun e => ng (V.str.inj e))]
    refine ite2 (fun z => by cases z) (fun _ => ?_)
    exact ⟨_, rfl, _, rfl, _, rfl, x, t, zs, tie, wd, xs, rfl, W, ht, l1000, kn, k⟩
abbrev s_good_paper : Stmt := top 42
abbrev N_good_paper : List Str := ["web", "paper", "knots", "group"]
abbrev P_good_paper : List Str := ["web"]
theorem sc_good_paper : FnScope N_good_paper P_good_paper (defScope s_good_paper) := ⟨rfl, rfl, rfl, by decide +kernel, rfl, by decide +kernel, by decide +kernel⟩
theorem ok_goodPB {f f1 f2 f3 f4 : Addr} {fd fd1 fd2 fd3 fd4 : FuncData} (B : Bl mg) (D__spoiled_paper : Df K mg "_spoiled_paper" s__spoiled_paper P__spoiled_paper f1 fd1) (G__spoiled_paper : FnOk P w K mg base CX0 7 f1 fd1 P__spoiled_paper (spSpPaper C)) (D__knots_by_size : Df K mg "_knots_by_size" s__knots_by_size P__knots_by_size f2 fd2) (D_groups : Df K mg "groups" s_groups P_groups f3 fd3) (D__first_within : Df K mg "_first_within" s__first_within P__first_within f4 fd4)
    (D : Df K mg "good_paper" s_good_paper P_good_paper f fd) : FnOk P w K mg base CX0 8 f fd P_good_paper (spGoodPB C) := by
  have G__knots_by_size : FnOk P w K mg base CX0 7 f2 fd2 P__knots_by_size (fun _ _ _ _ => False) := fnOk_never
  have G_groups : FnOk P w K mg base CX0 3 f3 fd3 P_groups (fun _ _ _ _ => False) := fnOk_never
  have G__first_within : FnOk P w K mg base CX0 1 f4 fd4 P__first_within (fun _ _ _ _ => False) := fnOk_never
  refine D.F.ok sc_good_paper (fun vs H Q E h => ?_) (fun cdv A outer s H vs Q E hr h => ?_)
  · obtain ⟨x, zs, tie, rfl, _⟩ := h
    rfl
  · obtain ⟨x, zs, tie, rfl, W, ⟨h0, hs0, hr0⟩, k⟩ := h
    refine ⟨_, (pss_cons (ps_set (i := 1) sc_good_paper.nd rfl (Or.inl rfl) (pe_call G__spoiled_paper (hr.mono (by decide)) (by rfl) D__spoiled_paper.g D__spoiled_paper.F.kp D__spoiled_paper.b .nil pass0 (pa_cons (pv 0) pa_nil)))
      (pss_cons (ps_if (pt_cmpR op_notN (pv 1) pe_non (nomark _)) (pss_one (ps_ret (pv 1))) pss_nil)
      (pss_cons (ps_set (i := 2) sc_good_paper.nd rfl (Or.inr rfl) (pe_call G__knots_by_size (hr.mono (by decide)) (by rfl) D__knots_by_size.g D__knots_by_size.F.kp D__knots_by_size.b .nil pass0 (pa_cons (pv 0) pa_nil)))
      (pss_one (ps_ret (pe_tup (pa_cons pe_str (pa_cons (pe_dc (own := [("group", 3)]) (g := gName 3) (tt := tYes) rfl sc_good_paper.nd (pi_list (pe_slice sl_list (pe_call G_groups (hr.mono (by decide)) (by rfl) D_groups.g D_groups.F.kp D_groups.b .nil pass0 (pa_cons (pv 0) pa_nil)) (po_some pe_int) po_none)) (blkOk_by (own := [("group", 3)]) (N := N_good_paper) (sc := defScope s_good_paper) (by decide +kernel)) (fun _ _ _ _ _ => (pg_name (i := 3) sc_good_paper.nd rfl (Or.inl rfl))) (fun _ _ _ _ _ => pts_nil) (fun _ _ _ _ _ => (pv 3)) (fun _ _ _ _ _ => (pe_call G__first_within (hr.mono (by decide)) (by rfl) D__first_within.g D__first_within.F.kp D__first_within.b .nil pass0 (pa_cons (pv 2) (pa_cons (pv 3) pa_nil))))) pa_nil)))))))), ?_⟩
    refine ⟨_, rfl, x, zs, tie, rfl, W, fun H1 s1 none => absurd hr0 (none h0 hs0), fun p r g nm t H1 s1 first ht hr gr ep => ?_⟩
    exact ⟨_, rfl, rfl, _, rfl, ite2 (fun _ => ⟨_, rfl, k p r g nm t H1 s1 first ht hr gr ep⟩) (fun w => absurd rfl w)⟩
end
end V0
namespace V0
open PySem PySem.Spec PyProof.Rows L2
/-- the pairs of a line closed to a ring: each thing with the one ahead of it, the first with the last -/
def rndL (us : List Str) : List Pai := (List.range us.length).map fun i => (us.getD i "", us.getD ((i + us.length - 1) % us.length) "")
theorem nodup_at {us : List Str} (nd : us.Nodup) {i j : Nat} {a : Str} (h1 : us[i]? = some a) (h2 : us[j]? = some a) : i = j := by
  obtain ⟨l1, e1⟩ := List.getElem?_eq_some_iff.mp h1
  obtain ⟨l2, e2⟩ := List.getElem?_eq_some_iff.mp h2
  have pw := List.pairwise_iff_getElem.mp nd
  rcases Nat.lt_trichotomy i j with q | q | q
  · exact absurd (e1.trans e2.symm) (pw i j l1 l2 q)
  · exact q
  · exact absurd (e2.trans e1.symm) (pw j i l2 l1 q)
theorem mem_rndL {us : List Str} (nd : us.Nodup) (n1 : 1 ≤ us.length) {i j : Nat} {a b : Str} (ha : us[i]? = some a) (hb : us[j]? = some b) : (a, b) ∈ rndL us ↔ (j + 1) % us.length = i := by
  have li := (List.getElem?_eq_some_iff.mp ha).1
  have lj := (List.getElem?_eq_some_iff.mp hb).1
  have back : ∀ m : Nat, m < us.length → ((m + us.length - 1) % us.length = j ↔ (j + 1) % us.length = m) := fun m lm => by
    by_cases z : m = 0
    · subst z
      rw [show 0 + us.length - 1 = us.length - 1 from by omega, Nat.mod_eq_of_lt (show us.length - 1 < us.length by omega)]
      by_cases e : j + 1 = us.length
      · rw [e, Nat.mod_self]
        omega
      · rw [Nat.mod_eq_of_lt (show j + 1 < us.length by omega)]
        omega
    · rw [show m + us.length - 1 = (m - 1) + us.length from by omega, Nat.add_mod_right, Nat.mod_eq_of_lt (show m - 1 < us.length by omega)]
      by_cases e : j + 1 = us.length
      · rw [e, Nat.mod_self]
        omega
      · rw [Nat.mod_eq_of_lt (show j + 1 < us.length by omega)]
        omega
  unfold rndL
  rw [List.mem_map]
  constructor
  · rintro ⟨m, hm, e⟩
    have lm := List.mem_range.mp hm
    have h1 := congrArg Prod.fst e
    have h2 := congrArg Prod.snd e
    dsimp only at h1 h2
    have lk : (m + us.length - 1) % us.length < us.length := Nat.mod_lt _ (by omega)
    rw [List.getD_eq_getElem?_getD, List.getElem?_eq_getElem lm] at h1
    rw [List.getD_eq_getElem?_getD, List.getElem?_eq_getElem lk] at h2
    have m1 : us[m]? = some a := by rw [List.getElem?_eq_getElem lm]; exact congrArg some h1
    have m2 : us[(m + us.length - 1) % us.length]? = some b := by rw [List.getElem?_eq_getElem lk]; exact congrArg some h2
    obtain rfl := nodup_at nd m1 ha
    exact (back m lm).mp (nodup_at nd m2 hb)
  · intro h
    refine ⟨i, List.mem_range.mpr li, ?_⟩
    rw [(back i li).mpr h, List.getD_eq_getElem?_getD, List.getD_eq_getElem?_getD, ha, hb]
    rfl
theorem rnd_cyc {us : List Str} (nd : us.Nodup) : CycL (tieP (rndL us)) us := fun i j a b ha hb => by
  have n1 : 1 ≤ us.length := by have := (List.getElem?_eq_some_iff.mp ha).1; omega
  unfold tieP cyc
  rw [← Bool.decide_or, decide_eq_decide, mem_rndL nd n1 ha hb, mem_rndL nd n1 hb ha]
  exact or_comm
end V0

namespace V0
open PySem PySem.Spec PyProof.Rows L2
def spRndP : Sp := fun vs H Q _ => ∃ (a : Addr) (us : List Str) (b : Bool), vs = [.ref a, .bl b] ∧ H a = some (tupS us) ∧ Nz us ∧ 3 ≤ us.length ∧
  ∀ q zs tie H', Same H H' → H q = none → Asc zs → zs.Perm us → Tie tie → (if b = true then CycL (tieTurn tie) us else CycL tie us) → IsPl H' q zs tie → Q (.ref q) H'
theorem rnd_ok {us : List Str} (nd : us.Nodup) (n2 : 2 ≤ us.length) : ∀ p ∈ rndL us, PrOk us p := fun p hp => by
  unfold rndL at hp
  obtain ⟨i, hi, rfl⟩ := List.mem_map.mp hp
  have li := List.mem_range.mp hi
  have lk : (i + us.length - 1) % us.length < us.length := Nat.mod_lt _ (by omega)
  have e1 : us[i]? = some (us.getD i "") := by rw [List.getD_eq_getElem?_getD, List.getElem?_eq_getElem li]; rfl
  have e2 : us[(i + us.length - 1) % us.length]? = some (us.getD ((i + us.length - 1) % us.length) "") := by rw [List.getD_eq_getElem?_getD, List.getElem?_eq_getElem lk]; rfl
  refine ⟨List.mem_of_getElem? e1, List.mem_of_getElem? e2, fun e => ?_⟩
  have e : us.getD i "" = us.getD ((i + us.length - 1) % us.length) "" := e
  rw [← e] at e2
  have := nodup_at nd e1 e2
  by_cases z : i = 0
  · rw [z, Nat.mod_eq_of_lt (show 0 + us.length - 1 < us.length by omega)] at this
    omega
  · rw [show i + us.length - 1 = (i - 1) + us.length from by omega, Nat.add_mod_right, Nat.mod_eq_of_lt (by omega)] at this
    omega
theorem any_dP (cs : List Pai) (p : Pai) : ((cs.map dP).any fun z => PyData.eqv z (dP p)) = decide (p ∈ cs) := by
  rw [Bool.eq_iff_iff, List.any_eq_true, decide_eq_true_iff]
  constructor
  · rintro ⟨z, hz, e⟩
    obtain ⟨q, hq, rfl⟩ := List.mem_map.mp hz
    rw [eqv_dP, decide_eq_true_iff] at e
    rw [← e]
    exact hq
  · intro h
    exact ⟨dP p, List.mem_map_of_mem h, by rw [eqv_dP]; exact decide_eq_true rfl⟩
/-- the pairs that are not tied -/
def offL (zs : List Str) (tie : Str → Str → Bool) : List Pai := (prs zs).filter fun p => !decide (p ∈ cfl zs tie)
theorem off_tie {zs : List Str} {tie : Str → Str → Bool} (asc : Asc zs) (T : Tie tie) {a b : Str} (ha : a ∈ zs) (hb : b ∈ zs) : tieTurn (tieP (offL zs tie)) a b = tie a b := by
  have one : ∀ {x y : Str}, x ∈ zs → y ∈ zs → x.cps.toList < y.cps.toList → ((x, y) ∈ offL zs tie ↔ tie x y = false) := fun {x y} hx hy l => by
    unfold offL
    rw [List.mem_filter, mem_prs asc]
    constructor
    · rintro ⟨_, h⟩
      cases e : tie x y with
      | false => rfl
      | true =>
        rw [decide_eq_true ((mem_cfl asc).mpr ⟨hx, hy, l, e⟩)] at h
        cases h
    · intro h
      refine ⟨⟨hx, hy, l⟩, ?_⟩
      rw [decide_eq_false fun m => by rw [((mem_cfl asc).mp m).2.2.2] at h; cases h]
      rfl
  have low : ∀ {x y : Str}, (x, y) ∈ offL zs tie → x.cps.toList < y.cps.toList := fun {x y} h => ((mem_prs asc).mp (List.mem_filter.mp h).1).2.2
  unfold tieTurn
  by_cases e : a = b
  · rw [decide_eq_false (fun h => h e), e, T.irr]
    rfl
  · rw [decide_eq_true e, Bool.true_and]
    unfold tieP
    rcases lt_tri e with l | l
    · have n : (b, a) ∉ offL zs tie := fun h => List.lt_irrefl _ (List.lt_trans l (low h))
      cases t : tie a b with
      | false => rw [decide_eq_true (.inl ((one ha hb l).mpr t))]; rfl
      | true => rw [decide_eq_false (fun h => h.elim (fun h => by rw [(one ha hb l).mp h] at t; cases t) n)]; rfl
    · have n : (a, b) ∉ offL zs tie := fun h => List.lt_irrefl _ (List.lt_trans l (low h))
      cases t : tie a b with
      | false => rw [decide_eq_true (.inr ((one hb ha l).mpr (by rw [T.sym]; exact t)))]; rfl
      | true => rw [decide_eq_false (fun h => h.elim n (fun h => by rw [T.sym, (one hb ha l).mp h] at t; cases t))]; rfl
theorem rnd_at {us : List Str} {i : Nat} (li : i < us.length) : (rndL us)[i]? = some (us.getD i "", us.getD ((i + us.length - 1) % us.length) "") := by
  unfold rndL
  rw [List.getElem?_map, List.getElem?_range li]
  rfl
section
variable {P : Program} {w : World} {K : PySem.W.Frag} {mg : Str → Option Value} {base : Heap} {C : Addr}
abbrev s_round_plain : Stmt := top 68
abbrev N_round_plain : List Str := ["_law_line", "_law_is_turned", "_law_at", "_law_pairs", "_law_pair", "_law_found"]
abbrev P_round_plain : List Str := ["_law_line", "_law_is_turned"]
theorem sc_round_plain : FnScope N_round_plain P_round_plain (defScope s_round_plain) := ⟨rfl, rfl, rfl, by decide +kernel, rfl, by decide +kernel, by decide +kernel⟩
theorem ok_rndP {f f1 f2 : Addr} {fd fd1 fd2 : FuncData} (B : Bl mg) (M : Bm mg) (D_plain : Df K mg "_law_plain" s_plain P_plain f1 fd1) (G_plain : FnOk P w K mg base CX0 1 f1 fd1 P_plain spPlain) (D_all_pairs : Df K mg "_law_all_pairs" s_all_pairs P_all_pairs f2 fd2) (G_all_pairs : FnOk P w K mg base CX0 1 f2 fd2 P_all_pairs spAllPairs) (D : Df K mg "_law_round_plain" s_round_plain P_round_plain f fd) : FnOk P w K mg base CX0 2 f fd P_round_plain spRndP := by
  refine D.F.ok sc_round_plain (fun vs H Q E h => ?_) (fun cdv A outer s H vs Q E hr h => ?_)
  · obtain ⟨a, us, b, rfl, _⟩ := h
    rfl
  · obtain ⟨a, us, b, rfl, ha, nz, n3, k⟩ := h
    refine ⟨_, (pss_cons (ps_setLc (i := 3) (own := [("_law_at", 2)]) (g := gName 2) (tt := tYes) rfl sc_round_plain.nd rfl rfl (sw_true rfl rfl rfl (by decide +kernel)) (pi_range1 rfl B.b_range (pa_cons (pe_callB call_len (by rfl) B.b_len (by decide +kernel) (pa_cons (pv 0) pa_nil)) pa_nil)) (blkOk_by (own := [("_law_at", 2)]) (N := N_round_plain) (sc := defScope s_round_plain) (by decide +kernel)) (fun _ _ _ _ _ => (pg_name (i := 2) sc_round_plain.nd rfl (Or.inl rfl))) (fun _ _ _ _ _ => pts_nil) (fun _ _ _ _ _ => (show PE _ _ (tTup (tCons (tOp (rIxT K) (tVar 0) (tVar 2)) (tCons (tOp (rIxT K) (tVar 0) (tOp (rI0 fun i j => .int (i - j)) (tVar 2) (tC (.int 1)))) tNil))) from by exact (pe_tup (pa_cons (pe_ix ix_tup (pv 0) (pv 2) (fun _ _ => rfl)) (pa_cons (pe_ix ix_tup (pv 0) (pe_op op_sub (pv 2) pe_int) (fun _ _ => rfl)) pa_nil))))))
      (pss_cons (ps_set (i := 5) sc_round_plain.nd rfl (Or.inr rfl) (pe_call G_plain (hr.mono (by decide)) (by rfl) D_plain.g D_plain.F.kp D_plain.b .nil pass0 (pa_cons (pv 0) (pa_cons (pe_lc (own := [("_law_pair", 4)]) (g := gName 4) rfl sc_round_plain.nd (pi_list (pv 3)) (blkOk_by (own := [("_law_pair", 4)]) (N := N_round_plain) (sc := defScope s_round_plain) (by decide +kernel)) (fun _ _ _ _ _ => (pg_name (i := 4) sc_round_plain.nd rfl (Or.inl rfl))) (fun _ _ _ _ _ => pts_one (show PT _ _ (tTest (tOp rNe (tOp (rIxT K) (tVar 4) (tC (.int 0))) (tOp (rIxT K) (tVar 4) (tC (.int 1))))) from by exact (pt_cmpR op_ne (pe_ix ix_tup (pv 4) pe_int (fun _ _ => rfl)) (pe_ix ix_tup (pv 4) pe_int (fun _ _ => rfl)) (nomark _)))) (fun _ _ _ _ _ => (pv 4))) pa_nil))))
      (pss_cons (ps_if (pt_not (pt_val (pv 1))) (pss_one (ps_ret (pv 5))) pss_nil)
      (pss_one (ps_ret (pe_call G_plain (hr.mono (by decide)) (by rfl) D_plain.g D_plain.F.kp D_plain.b .nil pass0 (pa_cons (pv 0) (pa_cons (pe_lc (own := [("_law_pair", 4)]) (g := gName 4) rfl sc_round_plain.nd (pi_list (pe_call G_all_pairs (hr.mono (by decide)) (by rfl) D_all_pairs.g D_all_pairs.F.kp D_all_pairs.b .nil pass0 (pa_cons (pe_dget (hu_of hr) (pv 5) pe_str (fun _ _ => rfl)) pa_nil))) (blkOk_by (own := [("_law_pair", 4)]) (N := N_round_plain) (sc := defScope s_round_plain) (by decide +kernel)) (fun _ _ _ _ _ => (pg_name (i := 4) sc_round_plain.nd rfl (Or.inl rfl))) (fun _ _ _ _ _ => pts_one (show PT _ _ (tTest (tOp (rNotInD K) (tVar 4) (tDGet (tVar 5) (tC (.str "ties"))))) from by exact (pt_cmpR (op_notInD (Room.units65 hr)) (pv 4) (pe_dget (hu_of hr) (pv 5) pe_str (fun _ _ => rfl)) (by rfl)))) (fun _ _ _ _ _ => (pv 4))) pa_nil)))))))), ?_⟩
    have nd := nz.nd
    have l8 := nz.l8
    refine ⟨_, rfl, .ref a, us.length, rfl, .inr ⟨_, SqT.of ha, by rw [List.length_map]⟩, (us.length : Int), rfl, by omega, by omega, fun D hD => ?_⟩
    have pred : ∀ i : Nat, i < us.length → atI (us.map V.str) ((i : Int) - 1) = some (.str (us.getD ((i + us.length - 1) % us.length) "")) := fun i li => by
      have lk : (i + us.length - 1) % us.length < us.length := Nat.mod_lt _ (by omega)
      have e : (us.map V.str)[(i + us.length - 1) % us.length]? = some (.str (us.getD ((i + us.length - 1) % us.length) "")) := by
        rw [List.getElem?_map, List.getD_eq_getElem?_getD, List.getElem?_eq_getElem lk]
        rfl
      by_cases z : i = 0
      · subst z
        exact at_neg (k := 1) (j := (0 + us.length - 1) % us.length) (by rw [List.length_map, Nat.mod_eq_of_lt (show 0 + us.length - 1 < us.length by omega)]; omega) (Nat.le_refl _) e
      · rw [show (i + us.length - 1) % us.length = i - 1 from by rw [show i + us.length - 1 = (i - 1) + us.length from by omega, Nat.add_mod_right, Nat.mod_eq_of_lt (by omega)]] at e ⊢
        exact at_of (j := i - 1) (by omega) e
    refine lc_it walk_range (fun i H' => Same H H' ∧ PrsL H' D ((rndL us).take i)) ⟨Same.new hD, PrsL.nil⟩ (fun _ _ _ _ => trivial) ?_ ?_
    · rintro i v H1 H2 hi ⟨s2, pd⟩ ⟨rfl, rfl⟩
      have li : i < us.length := by omega
      have e1 : (us.map V.str)[i]? = some (.str (us.getD i "")) := by
        rw [List.getElem?_map, List.getD_eq_getElem?_getD, List.getElem?_eq_getElem li]
        rfl
      refine ⟨rfl, _, rfl, _, rfl, a, _, _, .str (us.getD i ""), rfl, rfl, SqT.of (s2 _ _ ha), at_of (j := i) (by omega) e1, _, rfl, _, rfl, _, _, rfl, rfl, a, _, _, .str (us.getD ((i + us.length - 1) % us.length) ""), rfl, rfl, SqT.of (s2 _ _ ha), by rw [Int.zero_add]; exact pred i li, by show 2 ≤ sizeLine; decide, fun q hq => ?_⟩
      rw [take_snoc (rnd_at li)]
      exact prsL_push (p := (us.getD i "", us.getD ((i + us.length - 1) % us.length) "")) hD s2 pd (by rw [List.length_take]; omega) hq
    · rintro H3 ⟨s3, pd⟩
      have ll : (rndL us).length = us.length := by unfold rndL; rw [List.length_map, List.length_range]
      rw [show ((us.length : Int)).toNat = us.length from by omega, List.take_of_length_le (by omega)] at pd
      have okR := rnd_ok nd (by omega)
      obtain ⟨as, eD, pa⟩ := id pd
      refine ⟨_, rfl, _, rfl, D, rfl, ⟨_, SqL.of eD⟩, fun D2 hD2 => ?_⟩
      refine lc_it (walk_list (xs := as.map V.ref)) (fun i H' => Same H3 H' ∧ PrsL H' D2 ((rndL us).take i)) ⟨Same.new hD2, PrsL.nil⟩ (fun i H' _ ⟨s1, _⟩ => SqL.of (s1 _ _ eD)) ?_ ?_
      · rintro i v H4 H5 hi ⟨s4, pd2⟩ ⟨rfl, hy⟩
        rw [List.length_map, ← pa.length] at hi
        obtain ⟨a0, ha0, rfl⟩ := ref_at hy
        obtain ⟨p, hp, pat⟩ := paired_get pa ha0
        have pat := PrAt.same pat s4
        have ok := okR p (List.mem_of_getElem? hp)
        refine ⟨rfl, _, rfl, a0, _, _, _, rfl, rfl, SqT.of pat, rfl, _, rfl, a0, _, _, _, rfl, rfl, SqT.of pat, rfl, rfl, _, rfl, ?_⟩
        rw [show (!decide (V.str p.1 = V.str p.2)) = true from by rw [decide_eq_false fun e => ok.2.2 (V.str.inj e)]; rfl]
        refine ite2 (fun _ => ?_) (fun z => absurd rfl z)
        obtain ⟨acc, c1, c2, c3, c4⟩ := prsL_add hD2 s4 pd2 (by rw [List.length_take]; omega) pat
        refine ⟨_, rfl, acc, c1, c2, c3, ?_⟩
        rw [take_snoc hp]
        exact c4
      · rintro H4 ⟨s4, pd2⟩
        rw [List.length_map, ← pa.length, List.take_length] at pd2
        have s34 := s3.trans s4
        refine ⟨a, D2, us, rndL us, rfl, .inr (s34 _ _ ha), nd, l8, pd2, okR, by omega, fun q zs H5 s5 nq asc pm pl => ?_⟩
        have T := tieP_tie okR
        have cy := rnd_cyc nd
        have s35 := s34.trans s5
        have none_back : ∀ {b : Addr}, H4 b = none → H b = none := fun {b} hb => by
          cases e : H b with
          | none => rfl
          | some o =>
            rw [s34 _ _ e] at hb
            cases hb
        cases b with
        | false =>
          refine ⟨_, rfl, _, rfl, ite2 (fun _ => ?_) (fun z => absurd rfl z)⟩
          exact ⟨_, rfl, k q zs (tieP (rndL us)) H5 s35 (none_back nq) asc pm T cy pl⟩
        | true =>
          refine ⟨_, rfl, _, rfl, ite2 (fun z => by cases z) (fun _ => ?_)⟩
          obtain ⟨tq, lq, eq, etq, cs, eC, pC⟩ := id pl
          have z8 : zs.length ≤ 8 := by rw [pm.length_eq]; exact l8
          have nmz : ∀ z ∈ zs, nameB (.str z) = true := fun z h => (nz.nm z (pm.mem_iff.mp h)).1
          refine ⟨_, rfl, _, rfl, q, .ref tq, rfl, .inl ⟨_, .inr "things", .inl eq, rfl, plF_things.symm⟩, tq, zs, rfl, .inr etq, z8, fun l H6 s6 nl pl6 => ?_⟩
          obtain ⟨ls, el, pL⟩ := id pl6
          refine ⟨l, rfl, ⟨_, SqL.of el⟩, fun D3 hD3 => ?_⟩
          have p28 := prs_28 z8
          refine lc_it (walk_list (xs := ls.map V.ref)) (fun i H' => Same H6 H' ∧ PrsL H' D3 (((prs zs).take i).filter fun p => !decide (p ∈ cfl zs (tieP (rndL us))))) ⟨Same.new hD3, PrsL.nil⟩ (fun i H' _ ⟨s1, _⟩ => SqL.of (s1 _ _ el)) ?_ ?_
          · rintro i v H7 H8 hi ⟨s7, pd3⟩ ⟨rfl, hy⟩
            rw [List.length_map, ← pL.length] at hi
            obtain ⟨a0, ha0, rfl⟩ := ref_at hy
            obtain ⟨p, hp, pat⟩ := paired_get pL ha0
            have pat := PrAt.same pat s7
            have s67 := s6.trans s7
            have mp' := (mem_prs asc).mp (show (p.1, p.2) ∈ prs zs from List.mem_of_getElem? hp)
            refine ⟨rfl, _, rfl, _, rfl, q, .ref lq, rfl, .inl ⟨_, .inr "ties", .inl (s67 _ _ eq), rfl, plF_ties.symm⟩, dP p, (cfl zs (tieP (rndL us))).map dP, dp_pr pat, .lst (SqL.of (s67 _ _ eC)) (dp_prs (paired_mono (fun _ _ e => PrAt.same e s67) pC)), sh_dP1 ⟨nmz _ mp'.1, nmz _ mp'.2.1⟩, shL_dP _ (fun r hr' => ?_), _, rfl, ?_⟩
            · have m := (mem_cfl asc).mp (show (r.1, r.2) ∈ _ from hr')
              exact ⟨nmz _ m.1, nmz _ m.2.1⟩
            rw [any_dP, take_snoc hp, List.filter_append, filter_one]
            cases hf : (!decide (p ∈ cfl zs (tieP (rndL us)))) with
            | true =>
              refine ite2 (fun _ => ?_) (fun z => absurd rfl z)
              obtain ⟨acc, c1, c2, c3, c4⟩ := prsL_add hD3 s7 pd3 (by have := List.length_filter_le (fun p : Pai => !decide (p ∈ cfl zs (tieP (rndL us)))) ((prs zs).take i); rw [List.length_take] at this; omega) pat
              exact ⟨_, rfl, acc, c1, c2, c3, c4⟩
            | false =>
              refine ite2 (fun z => by cases z) (fun _ => ⟨s7, ?_⟩)
              rw [show (if false = true then [p] else ([] : List Pai)) = [] from rfl, List.append_nil]
              exact pd3
          · rintro H7 ⟨s7, pd3⟩
            rw [List.length_map, ← pL.length, List.take_length] at pd3
            have s67 := s6.trans s7
            have okO : ∀ p ∈ offL zs (tieP (rndL us)), PrOk us p := fun p hp => by
              have m := (mem_prs asc).mp (show (p.1, p.2) ∈ prs zs from (List.mem_filter.mp hp).1)
              exact ⟨pm.mem_iff.mp m.1, pm.mem_iff.mp m.2.1, fun e => by have := m.2.2; rw [e] at this; exact List.lt_irrefl _ this⟩
            have lO : (offL zs (tieP (rndL us))).length < 64 := Nat.lt_of_le_of_lt (List.length_filter_le _ _) (by omega)
            refine ⟨a, D3, us, offL zs (tieP (rndL us)), rfl, .inr (s67 _ _ (s35 _ _ ha)), nd, l8, pd3, okO, lO, fun q2 zs2 H9 s9 nq2 asc2 pm2 pl2 => ?_⟩
            have e2 : zs2 = zs := asc_one (pm2.trans pm.symm) asc2 asc
            subst e2
            refine k q2 zs2 _ H9 (s35.trans (s67.trans s9)) ?_ asc2 pm2 (tieP_tie okO) ?_ pl2
            · cases e : H q2 with
              | none => rfl
              | some o =>
                rw [(s35.trans s67) _ _ e] at nq2
                cases nq2
            · intro i j x y hx hy
              rw [off_tie asc2 T (pm2.mem_iff.mpr (List.mem_of_getElem? hx)) (pm2.mem_iff.mpr (List.mem_of_getElem? hy))]
              exact cy i j x y hx hy
end
end V0

namespace V0
open PySem PySem.Spec PyProof.Rows L2
/-- a method m(self, *v) -/
structure MdS (K : PySem.W.Frag) (qual name : Str) (C : Addr) (st : Stmt) (ps : List Str) (pv : Str) (f : Addr) (fd : FuncData) : Prop where
  F : Fun K name qual st f fd
  b : ∀ us rest : List Value, us.length = ps.length → bindArgs fd ⟨us ++ rest, []⟩ = (newTuple rest >>= fun t => pure (ps.zip us ++ [(pv, t)]))
  m : Meth K C name f
def spWout (C : Addr) : Sp := fun vs H Q _ => ∃ (x p : Addr) (zs : List Str) (tie : Str → Str → Bool) (ds : List Str), vs = [.ref x, .ref p] ∧ Wbs C H x zs tie ∧ GrAt H ds p ∧ (∀ d ∈ ds, d ∈ zs) ∧ ds.length ≤ 8 ∧ (zs.filter fun z => !decide (z ∈ ds)) ≠ [] ∧
  ∀ y H', Same H H' → H y = none → Wbs C H' y (zs.filter fun z => !decide (z ∈ ds)) tie → Q (.ref y) H'
section
variable {P : Program} {w : World} {K : PySem.W.Frag} {mg : Str → Option Value} {base : Heap} {C : Addr}
theorem MdS.ok {q x : Str} {st : Stmt} {ps : List Str} {pv : Str} {f : Addr} {fd : FuncData} {N : List Str} {k : Nat} {sp : Sp} (D : MdS K q x C st ps pv f fd) (S : FnScope N (ps ++ [pv]) (defScope st))
    (hbody : ∀ (cdv : Value) (A : Around) (outer : List Env) (s : Shared) (H : Hp) (vs : List V) (Q : VK) (E : XK), Room k (A.deeper (envOfC q (defScope st) s.heap.objs.size f cdv)) → sp vs H Q E →
      ∃ t, PSs (cxOf CX0 P w K mg base N q (defScope st) f cdv A outer s H E).nox (defBody st) t ∧ t { nx := fun _ H' => Q .non H', rt := Q } (start N vs) H) : FnR P w K mg base CX0 (k + 1) f (spStar ps.length sp) := by
  obtain ⟨oc, od, kV, doc, pm, an, cdv, ct, osl, rfl, lk, hcd⟩ := D.F.ex
  exact StX.fn_star lk hcd S StX.cxUp_none D.b fun A outer s H vs Q E hr hsp => by
    obtain ⟨t, h, q⟩ := hbody cdv A outer s H vs Q E hr hsp
    exact ⟨t, h.nox, q⟩
abbrev s_Web_without : Stmt := inClass (top 17) 8
abbrev N_Web_without : List Str := ["self", "things", "thing"]
abbrev P_Web_without : List Str := ["self", "things"]
theorem sc_Web_without : FnScope N_Web_without P_Web_without (defScope s_Web_without) := ⟨rfl, rfl, rfl, by decide +kernel, rfl, by decide +kernel, by decide +kernel⟩
theorem ok_wout {f f1 f2 : Addr} {fd fd1 fd2 : FuncData} (B : Bl mg) (KWeb : Kls K mg "Web" C) (N : WbN K C) (O_cont : OwnM P w K mg base CX0 1 C "__contains__" (spContW C)) (D_check_thing : Df K mg "check_thing" s_check_thing P_check_thing f1 fd1) (Y_Web_part : Md K "Web.part" "part" C s_Web_part P_Web_part f2 fd2) (G_Web_part : FnOk P w K mg base CX0 6 f2 fd2 P_Web_part (spPartW C))
    (Y : MdS K "Web.without" "without" C s_Web_without ["self"] "things" f fd) : FnR P w K mg base CX0 7 f (spStar 1 (spWout C)) := by
  have G_check_thing : FnOk P w K mg base CX0 2 f1 fd1 P_check_thing (spCheckThing C) := ok_check_thing O_cont D_check_thing
  refine Y.ok sc_Web_without (fun cdv A outer s H vs Q E hr h => ?_)
  obtain ⟨x, p, zs, tie, ds, rfl, W, gp, dz, d8, ne, k⟩ := h
  refine ⟨_, (pss_cons (ps_for PassesOwn.never rfl (pi_tup (pv 1)) (pg_name (i := 2) sc_Web_without.nd rfl (Or.inl rfl)) (pss_one (ps_expr (pe_call G_check_thing (hr.mono (by decide)) (by rfl) D_check_thing.g D_check_thing.F.kp D_check_thing.b .nil pass0 (pa_cons (pv 0) (pa_cons (pv 2) pa_nil))))))
      (pss_one (ps_ret (pe_meth (pv 0) KWeb.cl Y_Web_part.m G_Web_part (hr.mono (by decide)) Y_Web_part.b .nil pass0 (pa_cons (pe_callTy call_tuple_of (by rfl) B.b_tuple (by decide +kernel) (pa_cons (pe_lc (own := [("thing", 2)]) (g := gName 2) rfl sc_Web_without.nd (pi_tup (pe_fld (pv 0) rfl)) (blkOk_by (own := [("thing", 2)]) (N := N_Web_without) (sc := defScope s_Web_without) (by decide +kernel)) (fun _ _ _ _ _ => (pg_name (i := 2) sc_Web_without.nd rfl (Or.inl rfl))) (fun _ _ _ _ _ => pts_one (show PT _ _ (tTest (tOp (rIn K true) (tVar 2) (tVar 1))) from by exact (pt_cmpR op_notIn_seq (pv 2) (pv 1) (by rfl)))) (fun _ _ _ _ _ => (pv 2))) pa_nil)) pa_nil))))), ?_⟩
  obtain ⟨dx, tx, cx, bx, asx, bsx, wx⟩ := id W.w
  refine ⟨_, rfl, p, rfl, ⟨_, SqT.of gp⟩, ?_⟩
  refine for_it (walk_tup (xs := ds.map V.str)) (fun i σ H' => H' = H ∧ ∃ o2, σ = [some (.ref x), some (.ref p), o2]) ⟨rfl, _, rfl⟩ (fun i σ H' _ ⟨e, _⟩ => by rw [e]; exact SqT.of gp) ?_ ?_
  · rintro i v σ H1 H2 hi ⟨rfl, o2, rfl⟩ ⟨rfl, hy⟩
    obtain ⟨z, hz, rfl⟩ := str_at hy
    exact ⟨_, rfl, _, rfl, x, zs, tie, z, rfl, W.w, dz z (List.mem_of_getElem? hz), rfl, _, rfl⟩
  · rintro σ H1 ⟨rfl, o2, rfl⟩
    refine ⟨_, rfl, x, dx, _, rfl, wx.at_, rfl, ?_⟩
    refine ⟨_, rfl, x, C, dx, _, _, rfl, wx.at_, KWeb.cl, N.n1, rfl, tx, rfl, ⟨_, SqT.of wx.th⟩, fun D hD => ?_⟩
    refine lc_it (walk_tup (xs := zs.map V.str)) (fun i H' => Same H1 H' ∧ H' D = some (.lst (((zs.take i).filter fun z => !decide (z ∈ ds)).map V.str))) ⟨Same.new hD, upd_same⟩ (fun i H' _ ⟨s1, _⟩ => SqT.of (s1 _ _ wx.th)) ?_ ?_
    · rintro i v H3 H2 hi ⟨s1, eD⟩ ⟨rfl, hy⟩
      obtain ⟨z, hz, rfl⟩ := str_at hy
      rw [List.length_map] at hi
      have z8 := W.z.l8
      refine ⟨rfl, _, rfl, _, rfl, p, _, rfl, .inr (SqT.of (s1 _ _ gp)), rfl, flat_map ds, ?_⟩
      rw [show (if true = true then !inV (V.str z) (ds.map V.str) else inV (V.str z) (ds.map V.str)) = !decide (z ∈ ds) from congrArg (!·) (inV_str _ _)]
      refine ⟨_, rfl, ?_⟩
      rw [take_snoc hz, List.filter_append, filter_one]
      cases hf : (!decide (z ∈ ds)) with
      | true =>
        refine ite2 (fun _ => ?_) (fun z => absurd rfl z)
        refine ⟨_, rfl, _, eD, ?_, fun c o e => by rw [upd_ne (ne_of_none e hD)]; exact s1 _ _ e, ?_⟩
        · rw [List.length_map, sizeLine_eq]
          have := List.length_filter_le (fun z => !decide (z ∈ ds)) (zs.take i)
          rw [List.length_take] at this
          omega
        · rw [upd_same, List.map_append]
          rfl
      | false =>
        refine ite2 (fun z => by cases z) (fun _ => ⟨s1, ?_⟩)
        rw [show (if false = true then [z] else ([] : Gr)) = [] from rfl, List.append_nil]
        exact eD
    · rintro H3 ⟨s1, eD⟩
      rw [List.length_map, List.take_length] at eD
      refine ⟨D, _, rfl, .inl ⟨SqL.of eD, fun q hq => ?_⟩⟩
      have s2 := Same.new (o := .tup ((zs.filter fun z => !decide (z ∈ ds)).map V.str)) hq
      refine ⟨x, q, zs, tie, _, rfl, W.same (s1.trans s2), upd_same, List.filter_sublist, ne, fun y H4 s4 ny Wy => ?_⟩
      refine k y H4 (s1.trans (s2.trans s4)) ?_ Wy
      cases e : H1 y with
      | none => rfl
      | some o =>
        rw [(s1.trans s2) _ _ e] at ny
        cases ny
end
end V0

namespace V0
open PySem PySem.Spec PyProof.Rows L2
/-- how many things a greatest knot has -/
def omN (tie : Str → Str → Bool) : Gr → Nat
  | [] => 0
  | x :: r => max (omN tie r) (1 + omN tie (r.filter (tie x)))
termination_by g => g.length
decreasing_by
  · exact Nat.lt_succ_self _
  · exact Nat.lt_succ_of_le (by rw [List.unattach, List.length_map]; exact Nat.le_trans (List.length_filter_le _ _) (by rw [List.length_attach]; exact Nat.le_refl _))
theorem omN_nil {tie : Str → Str → Bool} : omN tie [] = 0 := by unfold omN; rfl
theorem omN_cons {tie : Str → Str → Bool} {x : Str} {r : Gr} : omN tie (x :: r) = max (omN tie r) (1 + omN tie (r.filter (tie x))) := by rw [omN]
theorem omN_has {tie : Str → Str → Bool} (T : Tie tie) : ∀ (n : Nat) (g : Gr), g.length ≤ n → g.Nodup → ∃ h : Gr, h.Sublist g ∧ Kno tie h ∧ h.length = omN tie g
  | _, [], _, _ => ⟨[], List.Sublist.refl _, Kno.nil, by rw [omN_nil]; rfl⟩
  | 0, x :: r, l, _ => absurd l (by rw [List.length_cons]; omega)
  | n + 1, x :: r, l, nd => by
    rw [List.length_cons] at l
    obtain ⟨nx, nr⟩ := List.nodup_cons.mp nd
    obtain ⟨h1, s1, k1, e1⟩ := omN_has T n r (by omega) nr
    have lf := List.length_filter_le (tie x) r
    obtain ⟨h2, s2, k2, e2⟩ := omN_has T n (r.filter (tie x)) (by omega) (nr.sublist List.filter_sublist)
    rw [omN_cons]
    by_cases c : omN tie r ≤ 1 + omN tie (r.filter (tie x))
    · refine ⟨x :: h2, (s2.trans List.filter_sublist).cons_cons x, Kno.cons T k2 fun z hz _ => (List.mem_filter.mp (s2.subset hz)).2, ?_⟩
      rw [List.length_cons, e2, Nat.max_eq_right c]
      omega
    · exact ⟨h1, s1.cons x, k1, by rw [e1, Nat.max_eq_left (by omega)]⟩
theorem omN_top {tie : Str → Str → Bool} : ∀ (n : Nat) (g : Gr), g.length ≤ n → ∀ h : Gr, h.Nodup → (∀ z ∈ h, z ∈ g) → Kno tie h → h.length ≤ omN tie g
  | _, [], _, h, _, s, _ => by
    cases h with
    | nil => exact Nat.zero_le _
    | cons z t => exact nomatch s z (by simp)
  | 0, x :: r, l, _, _, _, _ => absurd l (by rw [List.length_cons]; omega)
  | n + 1, x :: r, l, h, nd, s, k => by
    rw [List.length_cons] at l
    rw [omN_cons]
    have lf := List.length_filter_le (tie x) r
    by_cases c : x ∈ h
    · have pm := List.perm_cons_erase c
      have ne := nd.erase x
      have nx : x ∉ h.erase x := fun q => (List.Nodup.mem_erase_iff nd).mp q |>.1 rfl
      have := omN_top n (r.filter (tie x)) (by omega) (h.erase x) ne (fun z hz => by
        have zh := List.mem_of_mem_erase hz
        have zx : z ≠ x := fun e => nx (e ▸ hz)
        exact List.mem_filter.mpr ⟨(List.mem_cons.mp (s z zh)).resolve_left zx, k x c z zh zx.symm⟩) (k.sub fun z hz => List.mem_of_mem_erase hz)
      rw [pm.length_eq, List.length_cons]
      omega
    · have := omN_top n r (by omega) h nd (fun z hz => (List.mem_cons.mp (s z hz)).resolve_left fun e => c (e ▸ hz)) k
      omega
theorem gd_om {tie : Str → Str → Bool} (T : Tie tie) {g : Gr} (nd : g.Nodup) : Gd tie g ↔ colN tie g ≤ omN tie g := by
  constructor
  · rintro ⟨h, hn, hs, hk, l⟩
    exact Nat.le_trans l (omN_top _ g (Nat.le_refl _) h hn hs hk)
  · intro l
    obtain ⟨h, s, k, e⟩ := omN_has T _ g (Nat.le_refl _) nd
    exact ⟨h, nd.sublist s, fun z hz => s.subset hz, k, by rw [e]; exact l⟩
def omF (tie : Str → Str → Bool) (g : Gr) : V := .int (omN tie g : Nat)
def spKsz : Sp := fun vs H Q _ => ∃ (q : Addr) (zs : List Str) (tie : Str → Str → Bool), vs = [.ref q] ∧ IsPl H q zs tie ∧ Zs zs ∧ Tie tie ∧ ∀ d H', Same H H' → H d = none → H' d = some (.dT (tabK (omF tie) (allG zs))) → Q (.ref d) H'
section
variable {P : Program} {w : World} {K : PySem.W.Frag} {mg : Str → Option Value} {base : Heap} {C : Addr}
abbrev s_knot_sizes : Stmt := top 56
abbrev N_knot_sizes : List Str := ["_law_plain_here", "_law_found", "_law_group", "_law_one", "_law_held"]
abbrev P_knot_sizes : List Str := ["_law_plain_here"]
theorem sc_knot_sizes : FnScope N_knot_sizes P_knot_sizes (defScope s_knot_sizes) := ⟨rfl, rfl, rfl, by decide +kernel, rfl, by decide +kernel, by decide +kernel⟩
theorem ok_ksz {f f1 f2 : Addr} {fd fd1 fd2 : FuncData} (B : Bl mg) (D_all_groups : Df K mg "_law_all_groups" s_all_groups P_all_groups f1 fd1) (D_are_tied : Df K mg "_law_are_tied" s_are_tied P_are_tied f2 fd2) (D : Df K mg "_law_knot_sizes" s_knot_sizes P_knot_sizes f fd) : FnOk P w K mg base CX0 2 f fd P_knot_sizes spKsz := by
  have G_all_groups : FnOk P w K mg base CX0 1 f1 fd1 P_all_groups spAllGroups := ok_all_groups B D_all_groups
  have G_are_tied : FnOk P w K mg base CX0 1 f2 fd2 P_are_tied spTiedL := ok_tiedL B D_are_tied
  refine D.F.ok sc_knot_sizes (fun vs H Q E h => ?_) (fun cdv A outer s H vs Q E hr h => ?_)
  · obtain ⟨q, zs, tie, rfl, _⟩ := h
    rfl
  · obtain ⟨q, zs, tie, rfl, pl, hz, T, k⟩ := h
    refine ⟨_, (pss_cons (ps_set (i := 1) sc_knot_sizes.nd rfl (Or.inl rfl) pe_dnewT)
      (pss_cons (ps_for PassesOwn.never rfl (pi_list (pe_call G_all_groups (hr.mono (by decide)) (by rfl) D_all_groups.g D_all_groups.F.kp D_all_groups.b .nil pass0 (pa_cons (pe_dget (hu_of hr) (pv 0) pe_str (fun _ _ => rfl)) pa_nil))) (pg_name (i := 2) sc_knot_sizes.nd rfl (Or.inr rfl)) (pss_cons (ps_asg pe_int (pg_sub (pv 1) (pv 2) (set_dict (hu_of hr))))
      (pss_one (ps_if (pt_cmpR (op_neD hr.units) (pv 2) (pe_tup pa_nil) (nomark _)) (pss_cons (ps_set (i := 4) sc_knot_sizes.nd rfl (Or.inl rfl) (pe_callTy call_tuple_of (by rfl) B.b_tuple (by decide +kernel) (pa_cons (pe_lc (own := [("_law_one", 3)]) (g := gName 3) rfl sc_knot_sizes.nd (pi_tup (pe_slice sl_tupB (pv 2) (po_some pe_int) po_none)) (blkOk_by (own := [("_law_one", 3)]) (N := N_knot_sizes) (sc := defScope s_knot_sizes) (by decide +kernel)) (fun _ _ _ _ _ => (pg_name (i := 3) sc_knot_sizes.nd rfl (Or.inl rfl))) (fun _ _ _ _ _ => pts_one (show PT _ _ (tTest (tCall spTiedL [] E0 (tCons (tVar 0) (tCons (tOp (rIxT K) (tVar 2) (tC (.int 0))) (tCons (tVar 3) tNil))))) from by exact (pt_val (pe_call G_are_tied (hr.mono (by decide)) (by rfl) D_are_tied.g D_are_tied.F.kp D_are_tied.b .nil pass0 (pa_cons (pv 0) (pa_cons (pe_ix ix_tup (pv 2) pe_int (fun _ _ => rfl)) (pa_cons (pv 3) pa_nil))))))) (fun _ _ _ _ _ => (pv 3))) pa_nil)))
      (pss_one (ps_asg (pe_callB (call_max2 rfl) (by rfl) B.b_max (by decide +kernel) (pa_cons (pe_dget (hu_of hr) (pv 1) (pe_slice sl_tupB (pv 2) (po_some pe_int) po_none) (fun _ _ => rfl)) (pa_cons (pe_op op_add pe_int (pe_dget (hu_of hr) (pv 1) (pv 4) (fun _ _ => rfl))) pa_nil))) (pg_sub (pv 1) (pv 2) (set_dict (hu_of hr)))))) pss_nil))))
      (pss_one (ps_ret (pv 1))))), ?_⟩
    obtain ⟨t, tl, e1, e2, e3⟩ := id pl
    intro d hd
    have s0 : Same H (eras [d] (upd H d (.dT []))) := eras_new (fun z hz => by rw [List.mem_singleton.mp hz]; exact hd) (Same.new hd)
    have a1 : (upd H d (.dT [])) d = some (.dT []) := upd_same
    generalize upd H d (.dT []) = H0 at s0 a1 ⊢
    refine ⟨_, rfl, q, .ref t, rfl, .inl ⟨_, .inr "things", .inl (eras_up _ _ (s0 _ _ e1)), rfl, plF_things.symm⟩, t, zs, rfl, eras_up _ _ (s0 _ _ e2), hz.l8, fun l H1 s1 gl => ?_⟩
    obtain ⟨as, el, pa⟩ := id gl
    have a1 := s1 _ _ a1
    have s01 := Same.trans s0 (eras_same s1)
    have pl1 : IsPl (eras [d] H1) q zs tie := pl.same s01
    have nd1 : ∀ {c : Addr} {o : HO}, H1 c = some o → (∀ k, o ≠ .dT k) → (eras [d] H1) c = some o := fun {c o} e n => eras_at e fun m => by
      rw [List.mem_singleton.mp m, a1] at e
      exact n _ (Option.some.inj e).symm
    have el1 : (eras [d] H1) l = some (.lst (as.map V.ref)) := nd1 el fun k z => nomatch z
    have pa1 : Paired (GrAt (eras [d] H1)) (genF (fun _ _ => true) zs) as := paired_mono (fun g a (e : GrAt H1 g a) => nd1 e fun k z => nomatch z) pa
    have ndG := genF_nd (p := fun _ _ => true) zs hz.asc.nd
    have lG : (genF (fun _ _ => true) zs).length ≤ 256 := len256 hz.l8
    have befo := genF_before zs
    have allm := fun g => mem_all (zs := zs) (g := g)
    have dm1 : d ∈ [d] := by simp
    refine ⟨l, rfl, ⟨_, SqL.of el⟩, ?_⟩
    show ∃ W : Nat → Nat → L2.St → Hp → Prop, _
    generalize hG : genF (fun _ _ => true) zs = G at pa1 ndG lG befo allm
    refine for_it (walk_list (xs := as.map V.ref)) (fun i σ H' => Same (eras [d] H1) (eras [d] H') ∧ H' d = some (.dT (tabK (omF tie) (G.take i))) ∧ ∃ o2 o3 o4 : Option V, σ = [some (.ref q), some (.ref d), o2, o3, o4]) ⟨Same.refl _, a1, _, _, _, rfl⟩ (fun i σ H' _ ⟨s2, _⟩ => SqL.of (eras_up _ _ (s2 _ _ el1))) ?_ ?_
    · rintro i v σ H2 H3 hi ⟨s2, b1, o2, o3, o4, rfl⟩ ⟨rfl, hy⟩
      obtain ⟨a0, ha0, rfl⟩ := ref_at hy
      obtain ⟨g, hg, ga⟩ := paired_get pa1 ha0
      have sg : g.Sublist zs := (allm g).mp (List.mem_of_getElem? hg)
      have gok : GrN g := fun z h => low_ok (hz.nm z (sg.subset h)).1
      have g8 := Nat.le_trans sg.length_le hz.l8
      have ng := notin_take ndG hg
      have il : (G.take i).length < 1000 := by rw [List.length_take]; omega
      refine ⟨_, rfl, _, rfl, d, _, rfl, DPut.tab_new (F' := fset (omF tie) g (.int 0)) fset_same b1 (eras_up _ _ (s2 _ _ ga)) ng il (fun h hh => (fset_ne fun e => ng (by rw [← e]; exact hh)).symm), ?_⟩
      have b1 : (upd H3 d (.dT (tabK (fset (omF tie) g (.int 0)) (G.take i ++ [g])))) d = some (.dT (tabK (fset (omF tie) g (.int 0)) (G.take i ++ [g]))) := upd_same
      have q6 := Same.trans s2 (eras_set (H := H3) (o := .dT (tabK (fset (omF tie) g (.int 0)) (G.take i ++ [g]))) dm1)
      generalize upd H3 d (.dT (tabK (fset (omF tie) g (.int 0)) (G.take i ++ [g]))) = H6 at b1 q6 ⊢
      refine ⟨_, rfl, Nat.zero_le _, fun e he => ?_⟩
      have s7 := Same.new (o := .tup []) he
      have ee : (upd H6 e (.tup [])) e = some (.tup []) := upd_same
      generalize upd H6 e (.tup []) = H7 at s7 ee ⊢
      have b1 := s7 _ _ b1
      have q7 := Same.trans q6 (eras_same s7)
      have ga7 : GrAt H7 g a0 := eras_up _ _ (q7 _ _ ga)
      refine ⟨dG g, .tuple [], dp_gr ga7, .tup (SqT.of ee) .nil, sh_dG1 g gok, by decide, _, rfl, ?_⟩
      rw [show PyData.eqv (dG g) (.tuple []) = decide (g = []) from eqv_dG g []]
      by_cases ge : g = []
      · subst ge
        refine ite2 (fun z => by cases z) (fun _ => ⟨q7, ?_, _, _, _, rfl⟩)
        rw [take_snoc hg, b1, tabK_congr fun h hh => ?_]
        by_cases z : h = []
        · rw [z, fset_same]; unfold omF; rw [omN_nil]; rfl
        · rw [fset_ne z]
      obtain ⟨x, r, rfl⟩ := List.exists_cons_of_ne_nil ge
      rw [decide_eq_false ge]
      refine ite2 (fun _ => ?_) (fun z => absurd rfl z)
      rw [List.length_cons] at g8
      have rx : (x :: r).Nodup := hz.asc.nd.sublist sg
      obtain ⟨nx, nr⟩ := List.nodup_cons.mp rx
      refine ⟨_, rfl, _, rfl, a0, _, rfl, ga7, fun c3 K4 t4 ec3 => ⟨c3, rfl, ⟨_, SqT.of ec3⟩, fun D hD => ?_⟩⟩
      rw [cutV_one] at ec3
      have ec3 : K4 c3 = some (tupS r) := ec3
      refine lc_it (walk_tup (xs := r.map V.str)) (fun n H' => Same K4 H' ∧ H' D = some (.lst (((r.take n).filter (tie x)).map V.str))) ⟨Same.new hD, upd_same⟩ (fun n H' _ ⟨sn, _⟩ => SqT.of (sn _ _ ec3)) ?_ ?_
      · rintro n y L1 L2 hn ⟨sn, eD⟩ ⟨rfl, hyn⟩
        obtain ⟨z, hz1, rfl⟩ := str_at hyn
        have mz := List.mem_of_getElem? hz1
        have t4n := t4.trans sn
        refine ⟨rfl, _, rfl, _, rfl, a0, _, 0, .str x, rfl, rfl, SqT.of (t4n _ _ ga7), at_of (j := 0) rfl rfl, _, rfl, q, x, z, zs, tie, rfl, ((pl1.same q7).same eras_up).same t4n, hz, T, sg.subset (by simp), sg.subset (by simp [mz]), fun e => nx (e ▸ mz), fun H5 s5 => ?_⟩
        rw [take_snoc hz1, List.filter_append, filter_one]
        have eD := s5 _ _ eD
        have sn5 := sn.trans s5
        cases hf : tie x z with
        | true =>
          refine ⟨_, rfl, ite2 (fun _ => ?_) (fun z => absurd rfl z)⟩
          have l1 : ((r.take n).filter (tie x)).length ≤ (r.take n).length := List.length_filter_le _ _
          rw [List.length_take] at l1
          refine ⟨_, rfl, _, eD, by rw [List.length_map, sizeLine_eq]; omega, fun b o e => by rw [upd_ne (ne_of_none e hD)]; exact sn5 _ _ e, by rw [upd_same, List.map_append]; rfl⟩
        | false =>
          refine ⟨_, rfl, ite2 (fun z => by cases z) (fun _ => ⟨sn5, ?_⟩)⟩
          rw [show (if false = true then [z] else ([] : Gr)) = [] from rfl, List.append_nil]
          exact eD
      rintro L1 ⟨s5, eD⟩
      rw [List.length_map, List.take_length] at eD
      refine ⟨D, _, rfl, .inl ⟨SqL.of eD, fun w1 hw1 => ?_⟩⟩
      have s6 := Same.new (o := .tup ((r.filter (tie x)).map V.str)) hw1
      have ew : GrAt (upd L1 w1 (.tup ((r.filter (tie x)).map V.str))) (r.filter (tie x)) w1 := upd_same
      generalize upd L1 w1 (.tup ((r.filter (tie x)).map V.str)) = H8 at s6 ew ⊢
      have t48 := t4.trans (s5.trans s6)
      have lf := List.length_filter_le (tie x) r
      have get : ∀ {M : Hp} {h : Gr} {c : Addr}, Same H8 M → GrAt M h c → h.Sublist (x :: r) → h.length < (x :: r).length → DGet M d (.ref c) (some (.int (omN tie h : Nat))) := fun {M h c} sm ec sh lh => by
        have ne : h ≠ x :: r := fun e => by rw [e] at lh; exact Nat.lt_irrefl _ lh
        have := DGet.tab ((t48.trans sm) _ _ b1) ec (List.mem_append.mpr (.inl (befo i _ _ hg sh ne)))
        rw [fset_ne ne] at this
        exact this
      refine ⟨_, rfl, _, rfl, _, rfl, a0, _, rfl, t48 _ _ ga7, fun c4 K6 t6 ec4 => ?_⟩
      rw [cutV_one] at ec4
      refine ⟨d, _, rfl, get (h := r) t6 ec4 (List.sublist_cons_self x r) (by rw [List.length_cons]; omega), ?_⟩
      refine ⟨_, rfl, _, rfl, d, _, rfl, get t6 (t6 _ _ ew) (List.filter_sublist.trans (List.sublist_cons_self x r)) (by rw [List.length_cons]; omega), _, _, rfl, rfl, _, _, rfl, ?_⟩
      refine ⟨_, rfl, _, rfl, d, _, rfl, DPut.tab_old (F' := omF tie) ?_ ((t48.trans t6) _ _ b1) ((t48.trans t6) _ _ ga7) (by simp) (by rw [List.length_append, List.length_take]; show _ + 1 < 1000; omega) (fun h _ n => fset_ne n), ?_⟩
      · unfold omF
        rw [omN_cons]
        split <;> congr 1 <;> omega
      · have q9 := Same.trans q7 (eras_same (t48.trans t6))
        rw [← take_snoc hg]
        exact ⟨Same.trans q9 (eras_set dm1), upd_same, _, _, _, rfl⟩
    · rintro σ H2 ⟨s2, b1, o2, o3, o4, rfl⟩
      rw [List.length_map, ← pa1.length, List.take_length, ← hG] at b1
      exact ⟨_, rfl, k d H2 (Same.trans (Same.trans s01 s2) eras_up) hd b1⟩
end
end V0
namespace V0
open PySem PySem.Spec PyProof.Rows L2
theorem out1 {H : Hp} {a d : Addr} {o : HO} {k : List (List Key × V)} (h1 : H d = some (.dT k)) (h : H a = some o) (n : ∀ k, o ≠ .dT k) : a ∉ [d] := fun m => by
  rw [List.mem_singleton.mp m, h1] at h
  injection h with h
  exact n _ h.symm
theorem IsPl.out {H : Hp} {q d : Addr} {zs : List Str} {tie : Str → Str → Bool} {k : List (List Key × V)} (h : IsPl H q zs tie) (hd : H d = some (.dT k)) : IsPl (eras [d] H) q zs tie := by
  obtain ⟨t, l, e1, e2, as, el, pa⟩ := h
  exact ⟨t, l, eras_at e1 (out1 hd e1 fun k z => nomatch z), eras_at e2 (out1 hd e2 fun k z => nomatch z), as, eras_at el (out1 hd el fun k z => nomatch z), paired_mono (fun p a (e : PrAt H p a) => (eras_at e (out1 hd e fun k z => nomatch z) : PrAt _ p a)) pa⟩
theorem lock_back {H H' : Hp} {d : Addr} {u : HO} {od : Obj} (hd : H d = some u) (s : Same (upd H d (.frz od u)) H') : Same H (upd H' d u) := fun b o e => by
  by_cases z : b = d
  · rw [z, hd] at e
    rw [z, upd_same]
    exact e
  · rw [upd_ne z]
    exact s _ _ (by rw [upd_ne z]; exact e)
theorem DGet.tabF {H : Hp} {d b : Addr} {F : Gr → V} {L : List Gr} {g : Gr} {od : Obj} (e : H d = some (.frz od (.dT (tabK F L)))) (eb : GrAt H g b) (m : g ∈ L) : DGet H d (.ref b) (some (F g)) :=
  .inr ⟨tabK F L, gk g, b, .inr ⟨od, e⟩, rfl, by rw [gk_kV]; exact eb, (valV_tab m).symm⟩
theorem Wbs.out {C : Addr} {H : Hp} {x d : Addr} {zs : List Str} {tie : Str → Str → Bool} {k : List (List Key × V)} (h : Wbs C H x zs tie) (hd : H d = some (.dT k)) : Wbs C (eras [d] H) x zs tie := by
  obtain ⟨dx, t, c, b, as, bs, w⟩ := id h.w
  refine ⟨⟨dx, t, c, b, as, bs, eras_at w.at_ (out1 hd w.at_ fun k z => nomatch z), eras_at w.th (out1 hd w.th fun k z => nomatch z), eras_at w.cf (out1 hd w.cf fun k z => nomatch z), paired_mono (fun p a (e : PrAt H p a) => (eras_at e (out1 hd e fun k z => nomatch z) : PrAt _ p a)) w.cp, eras_at w.bd (out1 hd w.bd fun k z => nomatch z), paired_mono (fun _ _ e => eras_at e (out1 hd e fun k z => nomatch z)) w.bp⟩, h.z, h.t⟩
theorem nodup_leK {α : Type} [DecidableEq α] : ∀ {g h : List α}, g.Nodup → (∀ z ∈ g, z ∈ h) → g.length ≤ h.length
  | [], _, _, _ => Nat.zero_le _
  | x :: g, h, nd, s => by
    obtain ⟨n1, n2⟩ := List.nodup_cons.mp nd
    have := nodup_leK n2 (h := h.erase x) fun z hz => (List.mem_erase_of_ne (fun e => n1 (by rw [← e]; exact hz))).mpr (s z (List.mem_cons_of_mem _ hz))
    have hx := s x (by simp)
    have := List.length_erase_of_mem hx
    have := List.length_pos_of_mem hx
    rw [List.length_cons]
    omega
theorem knot_col {tie : Str → Str → Bool} {g : Gr} (T : Tie tie) (nd : g.Nodup) (l : Ls (tieTurn tie) g) : colN tie g = g.length := by
  refine colN_eq T ⟨cb_len T.irr g, fun j ⟨c, c1, c2⟩ => ?_⟩
  have l := (ls_iff (tieTurn_tie T).irr (tieTurn_tie T).sym).mp l
  have inj : ∀ a ∈ g, ∀ b ∈ g, a ≠ b → c a ≠ c b := fun a ha b hb n => by
    refine c2 a ha b hb ?_
    have := l a ha b hb
    unfold tieTurn at this
    rw [decide_eq_true n, Bool.true_and] at this
    cases h : tie a b with
    | true => rfl
    | false => rw [h] at this; cases this
  have nd2 : (g.map c).Nodup := List.pairwise_map.mpr (nd.imp_of_mem fun ha hb n => inj _ ha _ hb n)
  have := nodup_leK nd2 (h := List.range j) fun x hx => by
    obtain ⟨z, hz, rfl⟩ := List.mem_map.mp hx
    exact List.mem_range.mpr (c1 z hz)
  rw [List.length_map, List.length_range] at this
  exact this
theorem del_col {tie : Str → Str → Bool} {g : Gr} (T : Tie tie) (x : Str) : colN tie g ≤ colN tie (g.filter fun z => decide (z ≠ x)) + 1 := by
  have c := (colN_is T (g.filter fun z => decide (z ≠ x))).cb
  have e : (g.filter fun z => decide (z ≠ x)) = g.filter fun z => decide (z ∉ [x]) := List.filter_congr fun z _ => by simp
  rw [e] at c ⊢
  have := (colN_is T g).least _ (cb_split T.irr T.sym (by simp [Ls]) c)
  omega
end V0

namespace V0
open PySem PySem.Spec PyProof.Rows L2
theorem rg_bad {tie : Str → Str → Bool} (T : Tie tie) {g : Gr} (r : RG tie g) : ¬ Gd tie g := by
  rcases r with ⟨w, pm, c, l⟩ | ⟨w, pm, c, l⟩
  · exact fun q => (ring_bad T c l).1 (Gd.mem T (fun z => pm.mem_iff.symm) q)
  · have := (ring_bad (tieTurn_tie T) c l).2
    rw [tt_eq T] at this
    exact fun q => this (Gd.mem T (fun z => pm.mem_iff.symm) q)
/-- before, by the number of things and then ascending -/
def befG (h g : Gr) : Prop := h.length < g.length ∨ (h.length = g.length ∧ ltT h g = true)
theorem first_bad {tie : Str → Str → Bool} (T : Tie tie) {zs g : Gr} (asc : Asc zs) (l7 : zs.length ≤ 7) (sub : g.Sublist zs) (bad : ¬ Gd tie g) (bef : ∀ h : Gr, h.Sublist zs → befG h g → Gd tie h) : FirstR zs tie g := by
  have nd := Asc.nd (asc.sublist sub)
  have min : MinB tie g := fun h nh sh ⟨x, xg, xh⟩ => by
    have m : ∀ z, z ∈ g.filter (fun z => decide (z ∈ h)) ↔ z ∈ h := fun z => by
      rw [List.mem_filter, decide_eq_true_iff]
      exact ⟨fun q => q.2, fun q => ⟨sh z q, q⟩⟩
    refine Gd.mem T m (bef _ (List.filter_sublist.trans sub) (.inl ?_))
    have l1 : (g.filter fun z => decide (z ∈ h)).length ≤ g.length := List.length_filter_le _ _
    refine Nat.lt_of_le_of_ne l1 fun e => ?_
    have := List.Sublist.eq_of_length List.filter_sublist e
    exact xh ((m x).mp (by rw [this]; exact xg))
  refine ⟨sub, spoil T nd (Nat.le_trans sub.length_le l7) bad min, fun h hs hr => ?_⟩
  have nb : ¬ befG h g := fun q => rg_bad T hr (bef h hs q)
  by_cases c : g.length < h.length
  · exact .inl c
  · right
    have e : g.length = h.length := by
      have : ¬ h.length < g.length := fun q => nb (.inl q)
      omega
    refine ⟨e, ?_⟩
    by_cases c2 : ltT g h = true
    · exact .inr c2
    · left
      have n2 : ltT h g = false := by
        cases q : ltT h g with
        | false => rfl
        | true => exact absurd (.inr ⟨e.symm, q⟩) nb
      exact ltT_tri (by simpa using c2) n2
def spSpoL : Sp := fun vs H Q _ => ∃ (q : Addr) (zs : List Str) (tie : Str → Str → Bool), vs = [.ref q] ∧ IsPl H q zs tie ∧ Zs zs ∧ zs.length ≤ 7 ∧ Tie tie ∧
  (∀ H', Same H H' → (∀ h : Gr, h.Sublist zs → ¬ RG tie h) → Q .non H') ∧ ∀ (p : Addr) (g : Gr) (H' : Hp), Same H H' → FirstR zs tie g → GrAt H' g p → Q (.ref p) H'
theorem ngL_put {H : Hp} {l d : Addr} {qs : List NG} {od : Obj} {u v : HO} (e : H d = some (.frz od u)) (h : NgL H l qs) : NgL (upd H d v) l qs := by
  have nd : ∀ {c : Addr} {o : HO}, H c = some o → (∀ od u, o ≠ .frz od u) → (upd H d v) c = some o := fun {c o} ec n => by
    rw [upd_ne fun z => by rw [z, e] at ec; exact n _ _ (Option.some.inj ec).symm]
    exact ec
  obtain ⟨as, el, pa⟩ := h
  exact ⟨as, nd el (fun _ _ z => nomatch z), paired_mono (fun q c ⟨a, ea, ga⟩ => ⟨a, nd ea (fun _ _ z => nomatch z), nd ga (fun _ _ z => nomatch z)⟩) pa⟩
section
variable {P : Program} {w : World} {K : PySem.W.Frag} {mg : Str → Option Value} {base : Heap} {C : Addr}
abbrev s_spoiled : Stmt := top 57
abbrev N_spoiled : List Str := ["_law_plain_here", "_law_table", "_law_sizes", "_law_one", "_law_size", "_law_group"]
abbrev P_spoiled : List Str := ["_law_plain_here"]
theorem sc_spoiled : FnScope N_spoiled P_spoiled (defScope s_spoiled) := ⟨rfl, rfl, rfl, by decide +kernel, rfl, by decide +kernel, by decide +kernel⟩
theorem ok_spoL {f f1 f2 : Addr} {fd fd1 fd2 : FuncData} (B : Bl mg) (M : Bm mg) (D_colour_table : Df K mg "_law_colour_table" s_colour_table P_colour_table f1 fd1) (G_colour_table : FnOk P w K mg base CX0 3 f1 fd1 P_colour_table spColTab) (D_knot_sizes : Df K mg "_law_knot_sizes" s_knot_sizes P_knot_sizes f2 fd2) (G_knot_sizes : FnOk P w K mg base CX0 2 f2 fd2 P_knot_sizes spKsz)
    (D : Df K mg "_law_spoiled" s_spoiled P_spoiled f fd) : FnOk P w K mg base CX0 4 f fd P_spoiled spSpoL := by
  refine D.F.ok sc_spoiled (fun vs H Q E h => ?_) (fun cdv A outer s H vs Q E hr h => ?_)
  · obtain ⟨q, zs, tie, rfl, _⟩ := h
    rfl
  · obtain ⟨q, zs, tie, rfl, pl, hz, l7, T, kN, kY⟩ := h
    refine ⟨_, (pss_cons (ps_par (i := 1) (j := 2) (by rfl) sc_spoiled.nd rfl rfl (by decide) rfl rfl (pa_cons (pe_call G_colour_table (hr.mono (by decide)) (by rfl) D_colour_table.g D_colour_table.F.kp D_colour_table.b .nil pass0 (pa_cons (pv 0) pa_nil)) (pa_cons (pe_call G_knot_sizes (hr.mono (by decide)) (by rfl) D_knot_sizes.g D_knot_sizes.F.kp D_knot_sizes.b .nil pass0 (pa_cons (pv 0) pa_nil)) pa_nil)) (by rfl))
      (pss_cons (ps_for PassesOwn.never rfl (pi_list (pe_callB (cr_sortedNg (Room.units65 hr)) (by rfl) M.b_sorted (by decide +kernel) (pa_cons (show PE _ _ (tLockE (tLc (iKeys (tVar 1)) (gName 3) tYes (tTup (tCons (tCB (rLenQ K) (tCons (tVar 3) tNil)) (tCons (tVar 3) tNil))) [3])) from by exact (pe_lock (pe_lc (own := [("_law_one", 3)]) (g := gName 3) (tt := tYes) (te := (tTup (tCons (tCB (rLenQ K) (tCons (tVar 3) tNil)) (tCons (tVar 3) tNil)))) rfl sc_spoiled.nd (pi_keys (pv 1)) (blkOk_by (own := [("_law_one", 3)]) (N := N_spoiled) (sc := defScope s_spoiled) (by decide +kernel)) (fun _ _ _ _ _ => (pg_name (i := 3) sc_spoiled.nd rfl (Or.inl rfl))) (fun _ _ _ _ _ => pts_nil) (fun _ _ _ _ _ => (show PE _ _ (tTup (tCons (tCB (rLenQ K) (tCons (tVar 3) tNil)) (tCons (tVar 3) tNil))) from by exact (pe_tup (pa_cons (pe_callB call_len (by rfl) B.b_len (by decide +kernel) (pa_cons (pv 3) pa_nil)) (pa_cons (pv 3) pa_nil)))))))) pa_nil))) (pg_tup rfl (pgs_cons (pg_name (i := 4) sc_spoiled.nd rfl (Or.inl rfl)) (pgs_cons (pg_name (i := 5) sc_spoiled.nd rfl (Or.inl rfl)) pgs_nil))) (pss_one (ps_if (pt_cmpR op_lt (pe_dget (hu_of hr) (pv 2) (pv 5) (fun _ _ => rfl)) (pe_dget (hu_of hr) (pv 1) (pv 5) (fun _ _ => rfl)) (nomark _)) (pss_one (ps_ret (pv 5))) pss_nil)))
      (pss_one (ps_ret pe_non)))), ?_⟩
    refine ⟨_, rfl, q, zs, tie, rfl, pl, hz, T, fun t H1 s1 nt ct => ?_⟩
    refine ⟨_, rfl, q, zs, tie, rfl, pl.same s1, hz, T, fun d H2 s2 nd ot => ?_⟩
    have ct : H2 t = some (.dT (tabK (coF tie) (allG zs))) := s2 _ _ ct
    have s02 := s1.trans s2
    have ndt : d ≠ t := fun e => by
      have c1 := s2 _ _ ‹ColAt H1 t zs tie›
      rw [e, show H1 t = _ from ‹ColAt H1 t zs tie›] at nd
      cases nd
    refine ⟨_, _, rfl, t, _, ct, trivial, fun od => ?_⟩
    have cL : (upd H2 t (.frz od (.dT (tabK (coF tie) (allG zs))))) t = some (.frz od (.dT (tabK (coF tie) (allG zs)))) := upd_same
    have oL : (upd H2 t (.frz od (.dT (tabK (coF tie) (allG zs))))) d = some (.dT (tabK (omF tie) (allG zs))) := by rw [upd_ne ndt]; exact ot
    have back : ∀ {H' : Hp}, Same (upd H2 t (.frz od (.dT (tabK (coF tie) (allG zs))))) H' → Same H2 (upd H' t (.dT (tabK (coF tie) (allG zs)))) := fun s => lock_back ct s
    generalize upd H2 t (.frz od (.dT (tabK (coF tie) (allG zs)))) = HL at cL oL back ⊢
    have mG : ∀ g : Gr, g ∈ allG zs ↔ g.Sublist zs := fun g => mem_all
    have l256 : (allG zs).length ≤ 256 := len256 hz.l8
    have ndG : (allG zs).Nodup := genF_nd (p := fun _ _ => true) zs hz.asc.nd
    refine ⟨_, rfl, t, od, rfl, .inr ⟨_, cL, fun D hD => ?_⟩⟩
    refine lc_it walk_keysT (fun i H' => Same HL H' ∧ NgL H' D (((allG zs).take i).map fun g => ((g.length : Int), g))) ⟨Same.new hD, NgL.nil⟩ (fun i H' _ ⟨s1, _⟩ => s1 _ _ cL) ?_ ?_
    · rintro i v L1 L2 hi ⟨s1, pd⟩ ⟨rfl, kk, vv, a0, hkv, rfl, ea⟩
      obtain ⟨g, hg, ekv⟩ : ∃ g, (allG zs)[i]? = some g ∧ (gk g, coF tie g) = (kk, vv) := by
        unfold tabK at hkv
        rw [List.getElem?_map] at hkv
        exact Option.map_eq_some_iff.mp hkv
      injection ekv with ek ev
      subst ek
      have ga : GrAt L2 g a0 := by rw [gk_kV] at ea; exact ea
      refine ⟨rfl, _, rfl, .ref a0, g.length, rfl, .inr ⟨_, SqT.of ga, by rw [List.length_map]⟩, _, rfl, by show 2 ≤ sizeLine; decide, fun b hb => ?_⟩
      obtain ⟨acc, c1, c2, c3, c4⟩ := ngL_push (n := (g.length : Int)) hD s1 pd (by rw [List.length_map, List.length_take]; omega) hb ga
      refine ⟨acc, c1, c2, c3, ?_⟩
      rw [take_snoc hg, List.map_append]
      exact c4
    rintro H6 ⟨s6, nD⟩
    have tl : (tabK (coF tie) (allG zs)).length = (allG zs).length := by unfold tabK; rw [List.length_map]
    rw [tl, List.take_length] at nD
    have c6 := s6 _ _ cL
    refine ⟨c6, ?_⟩
    have s0 := back s6
    have ctE : (upd H6 t (.dT (tabK (coF tie) (allG zs)))) t = some (.dT (tabK (coF tie) (allG zs))) := upd_same
    have otE : (upd H6 t (.dT (tabK (coF tie) (allG zs)))) d = some (.dT (tabK (omF tie) (allG zs))) := by rw [upd_ne ndt]; exact s6 _ _ oL
    have nD := ngL_put (v := .dT (tabK (coF tie) (allG zs))) c6 nD
    generalize upd H6 t (.dT (tabK (coF tie) (allG zs))) = H7 at s0 ctE otE nD ⊢
    have nd2 : ((allG zs).map fun g => (((g.length : Int), g) : NG)).Nodup := List.pairwise_map.mpr (ndG.imp fun {a b} n e => n (congrArg Prod.snd e))
    have lq : ((allG zs).map fun g => (((g.length : Int), g) : NG)).length = (allG zs).length := List.length_map _
    have mq : ∀ q : NG, q ∈ ((allG zs).map fun g => (((g.length : Int), g) : NG)) ↔ q.2.Sublist zs ∧ q.1 = (q.2.length : Int) := fun q => by
      rw [List.mem_map]
      constructor
      · rintro ⟨g, hg, rfl⟩
        exact ⟨(mG g).mp hg, rfl⟩
      · rintro ⟨h1, h2⟩
        exact ⟨q.2, (mG _).mpr h1, by rw [← h2]⟩
    generalize ((allG zs).map fun g => (((g.length : Int), g) : NG)) = qs at nD nd2 lq mq
    refine ⟨D, qs, rfl, nD, by omega, nd2, fun p rs H8 s8 hp pm asc nl => ?_⟩
    have mr : ∀ q : NG, q ∈ rs ↔ q.2.Sublist zs ∧ q.1 = (q.2.length : Int) := fun q => pm.mem_iff.trans (mq q)
    obtain ⟨ps, eP, pp⟩ := nl
    have s08 := s02.trans (s0.trans s8)
    have ct8 := s8 _ _ ctE
    have ot8 := s8 _ _ otE
    refine ⟨p, rfl, ⟨_, SqL.of eP⟩, ?_⟩
    refine for_it (walk_list (xs := ps.map V.ref)) (fun i σ H' => Same H8 H' ∧ (∀ q ∈ rs.take i, Gd tie q.2) ∧ ∃ o3 o4 o5 : Option V, σ = [some (.ref q), some (.ref t), some (.ref d), o3, o4, o5]) ⟨Same.refl _, (fun _ h => by cases h), _, _, _, rfl⟩ (fun i σ H' _ ⟨s1, _⟩ => SqL.of (s1 _ _ eP)) ?_ ?_
    · rintro i v σ H9 HA hi ⟨s9, good, o3, o4, o5, rfl⟩ ⟨rfl, hy⟩
      rw [List.length_map, ← pp.length] at hi
      obtain ⟨a0, ha0, rfl⟩ := ref_at hy
      obtain ⟨r, hr', rat⟩ := paired_get pp ha0
      obtain ⟨a, ea, ga⟩ := NgAt.same rat s9
      obtain ⟨rs1, rs2⟩ := (mr r).mp (List.mem_of_getElem? hr')
      have mr1 := (mG _).mpr rs1
      have gdi := gd_om T (Asc.nd (hz.asc.sublist rs1))
      refine ⟨a0, [.int r.1, .ref a], rfl, SqT.of ea, rfl, _, _, rfl, _, _, rfl, rfl, ?_⟩
      refine ⟨_, rfl, _, rfl, d, _, rfl, DGet.tab (s9 _ _ ot8) ga mr1, _, rfl, _, rfl, t, _, rfl, DGet.tab (s9 _ _ ct8) ga mr1, _, _, rfl, rfl, _, rfl, ?_⟩
      by_cases c : colN tie r.2 ≤ omN tie r.2
      · rw [decide_eq_false (show ¬ ((omN tie r.2 : Nat) : Int) < (colN tie r.2 : Nat) from by omega)]
        refine ite2 (fun z => by cases z) (fun _ => ⟨s9, fun q hq => ?_, _, _, _, rfl⟩)
        rw [take_snoc hr'] at hq
        rcases List.mem_append.mp hq with m | m
        · exact good q m
        · rw [List.mem_singleton.mp m]
          exact gdi.mpr c
      · rw [decide_eq_true (show ((omN tie r.2 : Nat) : Int) < (colN tie r.2 : Nat) from by omega)]
        refine ite2 (fun _ => ?_) (fun z => absurd rfl z)
        refine ⟨_, rfl, kY a r.2 _ (s08.trans s9) (first_bad T hz.asc l7 rs1 (fun g => c (gdi.mp g)) fun h hs hb => ?_) ga⟩
        obtain ⟨j, hj⟩ := List.getElem?_of_mem ((mr ((h.length : Int), h)).mpr ⟨hs, rfl⟩)
        obtain ⟨l3, e3⟩ := List.getElem?_eq_some_iff.mp hj
        obtain ⟨l4, e4⟩ := List.getElem?_eq_some_iff.mp hr'
        rcases Nat.lt_trichotomy j i with q | q | q
        · exact good ((h.length : Int), h) (List.mem_iff_getElem?.mpr ⟨j, by rw [List.getElem?_take_of_lt q]; exact hj⟩)
        · exfalso
          rw [q, hr'] at hj
          have e : h = r.2 := (congrArg Prod.snd (Option.some.inj hj)).symm
          rw [e] at hb
          rcases hb with l | ⟨_, l⟩
          · exact Nat.lt_irrefl _ l
          · rw [ltT_self] at l
            cases l
        · exfalso
          have lt := (List.pairwise_iff_getElem.mp asc) i j l4 l3 q
          rw [e3, e4] at lt
          unfold ltN at lt
          rw [rs2] at lt
          rcases hb with l | ⟨l, t2⟩
          · rw [decide_eq_false (show ¬ (r.2.length : Int) < (h.length : Int) from by omega), decide_eq_true (show (h.length : Int) < (r.2.length : Int) from by omega)] at lt
            cases lt
          · rw [decide_eq_false (show ¬ (r.2.length : Int) < (h.length : Int) from by omega), decide_eq_false (show ¬ (h.length : Int) < (r.2.length : Int) from by omega)] at lt
            rw [ltT_noboth t2] at lt
            cases lt
    · rintro σ H9 ⟨s9, good, o3, o4, o5, rfl⟩
      rw [List.length_map, ← pp.length, List.take_length] at good
      exact kN H9 (s08.trans s9) fun h hs hr' => rg_bad T hr' (good ((h.length : Int), h) ((mr _).mpr ⟨hs, rfl⟩))
end
end V0

namespace V0
open PySem PySem.Spec PyProof.Rows L2
theorem fnOk_imp {P : Program} {w : World} {K : PySem.W.Frag} {mg : Str → Option Value} {base : Heap} {CX : CXT} {k : Nat} {f : Addr} {fd : FuncData} {ps : List Str} {sp sp' : Sp} (F : FnOk P w K mg base CX k f fd ps sp) (h : ∀ vs H Q E, sp' vs H Q E → sp vs H Q E) : FnOk P w K mg base CX k f fd ps sp' :=
  ⟨fun vs H Q E x => F.len vs H Q E (h _ _ _ _ x), fun A outer s H args us vs Q E hr e0 hb r x => F.run A outer s H args us vs Q E hr e0 hb r (h _ _ _ _ x)⟩
theorem FirstR.one {zs : List Str} {tie : Str → Str → Bool} {g h : Gr} (a : FirstR zs tie g) (b : FirstR zs tie h) : g = h := by
  rcases a.2.2 h b.1 b.2.1 with l | ⟨l, e⟩
  · rcases b.2.2 g a.1 a.2.1 with l2 | ⟨l2, _⟩ <;> omega
  · rcases b.2.2 g a.1 a.2.1 with l2 | ⟨_, e2⟩
    · omega
    · rcases e with e | e
      · exact e
      · rcases e2 with e2 | e2
        · exact e2.symm
        · rw [ltT_noboth e] at e2
          cases e2
/-- the first spoiled group, or none -/
def SpO (zs : List Str) (tie : Str → Str → Bool) : Option Gr → Prop
  | none => ∀ h : Gr, h.Sublist zs → ¬ RG tie h
  | some g => FirstR zs tie g
theorem SpO.one {zs : List Str} {tie : Str → Str → Bool} : ∀ {o o' : Option Gr}, SpO zs tie o → SpO zs tie o' → o = o'
  | none, none, _, _ => rfl
  | none, some g, a, b => absurd b.2.1 (a g b.1)
  | some g, none, a, b => absurd a.2.1 (b g a.1)
  | some g, some h, a, b => congrArg some (FirstR.one a b)
theorem RG.turn {tie : Str → Str → Bool} (T : Tie tie) {h : Gr} : RG (tieTurn tie) h ↔ RG tie h := by
  unfold RG
  rw [tt_eq T]
  exact ⟨fun h => h.symm, fun h => h.symm⟩
def VO (H : Hp) (v : V) : Option Gr → Prop
  | none => v = .non
  | some g => ∃ p, v = .ref p ∧ GrAt H g p
theorem VO.same {H H' : Hp} {v : V} : ∀ {o : Option Gr}, VO H v o → Same H H' → VO H' v o
  | none, h, _ => h
  | some _, ⟨p, e, g⟩, s => ⟨p, e, GrAt.same g s⟩
theorem VO.but {H H' : Hp} {v : V} {p : Addr} (hp : Pot H p) : ∀ {o : Option Gr}, VO H v o → But p H H' → VO H' v o
  | none, h, _ => h
  | some _, ⟨q, e, g⟩, s => ⟨q, e, s _ _ g (tup_np g hp)⟩
def dO : Option Gr → PyData
  | none => .none
  | some g => dG g
theorem vo_dp {K : PySem.W.Frag} {H : Hp} {v : V} : ∀ {o : Option Gr}, VO H v o → Dp K H v (dO o)
  | none, h => by rw [show v = .non from h]; exact .non
  | some _, ⟨p, e, g⟩ => by rw [e]; exact dp_gr g
theorem dO_sh : ∀ {o : Option Gr}, (∀ g, o = some g → GrN g) → SeqAt.shaped (dO o) = true
  | none, _ => by decide
  | some g, h => sh_dG1 g (h g rfl)
theorem dO_self : ∀ o : Option Gr, PyData.eqv (dO o) (dO o) = true
  | none => by decide
  | some g => by
    show PyData.eqv (dG g) (dG g) = true
    rw [eqv_dG]
    exact decide_eq_true rfl
theorem SpO.nm {zs : List Str} {tie : Str → Str → Bool} (hz : Zs zs) {o : Option Gr} (h : SpO zs tie o) : ∀ g, o = some g → GrN g := fun g e z hz' => by
  subst e
  exact low_ok (hz.nm z (h.1.subset hz')).1
def spSpoL2 : Sp := fun vs H Q _ => ∃ (q : Addr) (zs : List Str) (tie : Str → Str → Bool), vs = [.ref q] ∧ IsPl H q zs tie ∧ Zs zs ∧ zs.length ≤ 7 ∧ Tie tie ∧ ∀ v o H', Same H H' → SpO zs tie o → VO H' v o → Q v H'
def spSpoW2 (C : Addr) : Sp := fun vs H Q _ => ∃ (x : Addr) (zs : List Str) (tie : Str → Str → Bool), vs = [.ref x] ∧ Wbs C H x zs tie ∧ ∀ v o H', Same H H' → SpO zs tie o → VO H' v o → Q v H'
def spIsTold (C : Addr) : Sp := fun vs H Q _ => ∃ (p q : Addr) (zs : List Str) (tie : Str → Str → Bool), vs = [.ref p, .ref q] ∧ Pot H p ∧ IsPl H q zs tie ∧ Zs zs ∧ zs.length ≤ 7 ∧ Tie tie ∧ ∀ H', Pot H' p → But p H H' → Q (.bl true) H'
section
variable {P : Program} {w : World} {K : PySem.W.Frag} {mg : Str → Option Value} {base : Heap} {C : Addr}
theorem ok_spoL2 {f : Addr} {fd : FuncData} (G : FnOk P w K mg base CX0 4 f fd P_spoiled spSpoL) : FnOk P w K mg base CX0 4 f fd P_spoiled spSpoL2 :=
  fnOk_imp G fun _ _ _ _ ⟨q, zs, tie, e, pl, hz, l7, T, k⟩ => ⟨q, zs, tie, e, pl, hz, l7, T, fun H' s n => k .non none H' s n rfl, fun p g H' s fr gp => k (.ref p) (some g) H' s fr ⟨p, rfl, gp⟩⟩
theorem ok_spoW2 {f : Addr} {fd : FuncData} (G : FnOk P w K mg base CX0 8 f fd P_spoiled_group (spSpoiled C)) : FnOk P w K mg base CX0 8 f fd P_spoiled_group (spSpoW2 C) :=
  fnOk_imp G fun _ _ _ _ ⟨x, zs, tie, e, W, k⟩ => ⟨x, zs, tie, e, W, fun H' s n => k .non none H' s n rfl, fun p g H' s fr gp => k (.ref p) (some g) H' s fr ⟨p, rfl, gp⟩⟩
end
end V0
namespace V0
open PySem PySem.Spec PyProof.Rows L2
/-! ### known webs: rings of six, seven, a close ring of eight -/
theorem Same.of_but {H H1 H2 : Hp} {p : Addr} (s : Same H H1) (b : But p H1 H2) (hp : H p = none) : Same H H2 := fun c o e => b c o (s c o e) (ne_of_none e hp)
theorem nzOf {us : List Str} (h : us.Nodup ∧ (us.all fun z => nameB (.str z) && decide (z.length ≤ 8)) = true ∧ 1 ≤ us.length ∧ us.length ≤ 8) : Nz us :=
  ⟨h.1, fun z hz => by have := List.all_eq_true.mp h.2.1 z hz; rw [Bool.and_eq_true] at this; exact ⟨this.1, of_decide_eq_true this.2⟩, h.2.2.1, h.2.2.2⟩
/-- whether a few things stand round a ring of five or seven -/
def rgB (t : Str → Str → Bool) (g : Gr) : Bool := (g.length == 5 || g.length == 7) && ((g.all fun z => (g.filter (t z)).length == 2) && decide (wayG t g).Nodup)
theorem rgB_iff {t : Str → Str → Bool} {g : Gr} (T : Tie t) (nd : g.Nodup) : RingOf t g ↔ rgB t g = true := by
  have core : Deg2 t g → (g.length = 5 ∨ g.length = 7) → w0 g ∈ g ∧ w1 t g ∈ g ∧ t (w0 g) (w1 t g) = true := fun d l => by
    have gne : g ≠ [] := fun e => by rw [e] at l; rcases l with l | l <;> cases l
    have hw0 : w0 g ∈ g := by
      cases g with
      | nil => exact absurd rfl gne
      | cons z g => show z ∈ _; simp
    have hw1 : w1 t g ∈ g.filter (t (w0 g)) := by
      unfold w1
      obtain ⟨p, q, e⟩ := two_list (d _ hw0)
      rw [e]
      show p ∈ _; simp
    obtain ⟨m1, t01⟩ := List.mem_filter.mp hw1
    exact ⟨hw0, m1, t01⟩
  have fold : rgB t g = true ↔ (g.length = 5 ∨ g.length = 7) ∧ Deg2 t g ∧ (wayG t g).Nodup := by
    unfold rgB Deg2
    rw [Bool.and_eq_true, Bool.and_eq_true, Bool.or_eq_true, beq_iff_eq, beq_iff_eq, List.all_eq_true, decide_eq_true_iff]
    exact and_congr Iff.rfl (and_congr (forall_congr' fun z => forall_congr' fun _ => beq_iff_eq) Iff.rfl)
  rw [fold]
  constructor
  · intro r
    obtain ⟨d, l, all⟩ := walk_of_ring T nd r
    obtain ⟨h0, h1, t01⟩ := core d l
    exact ⟨l, d, all _ _ h0 h1 t01⟩
  · rintro ⟨l, d, n⟩
    obtain ⟨h0, h1, t01⟩ := core d l
    exact (ring_iff T nd l h0 h1 t01 d).mpr n
def rg2B (t : Str → Str → Bool) (g : Gr) : Bool := rgB t g || rgB (tieTurn t) g
theorem rg2_iff {t : Str → Str → Bool} {g : Gr} (T : Tie t) (nd : g.Nodup) : RG t g ↔ rg2B t g = true := by
  unfold RG rg2B
  rw [Bool.or_eq_true, rgB_iff T nd, rgB_iff (tieTurn_tie T) nd]
theorem none_known {zs : List Str} {t : Str → Str → Bool} (asc : Asc zs) (T : Tie t) (h : ((allG zs).all fun h => !rg2B t h) = true) : ∀ g : Gr, g.Sublist zs → ¬ RG t g := fun g hs hr => by
  have := List.all_eq_true.mp h g (mem_all.mpr hs)
  rw [(rg2_iff T (Asc.nd (asc.sublist hs))).mp hr] at this
  cases this
theorem first_known {zs g : List Str} {t : Str → Str → Bool} (asc : Asc zs) (T : Tie t) (h1 : g ∈ allG zs ∧ rg2B t g = true) (h2 : ((allG zs).all fun h => !rg2B t h || (decide (g.length < h.length) || (decide (g.length = h.length) && (decide (g = h) || ltT g h)))) = true) : FirstR zs t g := by
  have sub := mem_all.mp h1.1
  refine ⟨sub, (rg2_iff T (Asc.nd (asc.sublist sub))).mpr h1.2, fun h hs hr => ?_⟩
  have := List.all_eq_true.mp h2 h (mem_all.mpr hs)
  rw [(rg2_iff T (Asc.nd (asc.sublist hs))).mp hr] at this
  simpa using this
theorem FirstR.turn {zs g : List Str} {t : Str → Str → Bool} (T : Tie t) (f : FirstR zs t g) : FirstR zs (tieTurn t) g := ⟨f.1, (RG.turn T).mpr f.2.1, fun h hs hr => f.2.2 h hs ((RG.turn T).mp hr)⟩
def u6 : List Str := ["a", "b", "c", "d", "e", "f"]
def u7 : List Str := ["a", "b", "c", "d", "e", "f", "g"]
def u8 : List Str := ["a", "b", "c", "d", "e", "f", "g", "h"]
def e5 : List Str := ["a", "b", "d", "e", "g"]
theorem nz6 : Nz u6 := nzOf (by decide +kernel)
theorem nz7 : Nz u7 := nzOf (by decide +kernel)
theorem nz8 : Nz u8 := nzOf (by decide +kernel)
theorem ascu6 : Asc u6 := by unfold Asc; decide +kernel
theorem ascu7 : Asc u7 := by unfold Asc; decide +kernel
theorem ascu8 : Asc u8 := by unfold Asc; decide +kernel
theorem sg5 : (signsV "abdeg" : List V) = e5.map V.str := by decide +kernel
theorem sg6 : (signsV "abcdef" : List V) = u6.map V.str := by decide +kernel
theorem sg7 : (signsV "abcdefg" : List V) = u7.map V.str := by decide +kernel
theorem sg8 : (signsV "abcdefgh" : List V) = u8.map V.str := by decide +kernel
def t6 : Str → Str → Bool := tieP (ringP u6 [1])
def t7 : Str → Str → Bool := tieP (ringP u7 [1])
def t8 : Str → Str → Bool := tieP (ringP u8 [1, 2])
theorem f6 (T : Tie t6) : ∀ g : Gr, g.Sublist u6 → ¬ RG t6 g := none_known ascu6 T (by decide +kernel)
theorem f7 (T : Tie t7) : FirstR u7 t7 u7 := first_known ascu7 T (by decide +kernel) (by decide +kernel)
theorem f8 (T : Tie t8) : FirstR u8 t8 e5 := first_known ascu8 T (by decide +kernel) (by decide +kernel)
def v7 : List Str := u7.filter fun z => !decide (z ∈ (["d"] : List Str))
theorem v7n : v7 ≠ [] := by decide +kernel
theorem f7d (T : Tie t7) : ∀ g : Gr, g.Sublist v7 → ¬ RG t7 g := none_known (ascu7.sublist List.filter_sublist) T (by decide +kernel)
def due19 : PyData := .list [dG u7, dG u7, .none, .none, .bool true, dG e5]
theorem due19_ok : SeqAt.shaped due19 = true ∧ PyData.eqv due19 due19 = true := by decide +kernel
theorem rgs_mk {K : PySem.W.Frag} {h : Heap} {mg : Str → Option Value} {f : Addr} {od : Option Addr} {n : Nat} {sl : Array (Option Value)} {t1 t2 : Value} (X : K.In h) (G : h.Ns mainGlobals mg) (a : PySem.W.nsIn K mainGlobals "_RINGS" = some (some (.ref f))) (l : K.lookup f = some ⟨.type "tuple", od, .seq #[t1, t2] n, sl⟩) (r1 : RelV (.int 5) t1) (r2 : RelV (.int 7) t2) : ∃ ra, Rgs K mg ra :=
  ⟨f, PySem.W.mg_of X G a, fun H => .inr ⟨_, #[t1, t2], n, l, rfl, rfl, by show 2 ≤ sizeLine; decide, .cons r1 (.cons r2 .nil)⟩⟩
end V0

namespace V0
open PySem PySem.Spec PyProof.Rows L2
def spMade (C : Addr) : Sp := fun vs H Q _ => ∃ (q : Addr) (zs : List Str) (tie : Str → Str → Bool), vs = [.ref q] ∧ IsPl H q zs tie ∧ Zs zs ∧ Tie tie ∧ ∀ x H', Same H H' → H x = none → Wbs C H' x zs tie → Q (.ref x) H'
section
variable {P : Program} {w : World} {K : PySem.W.Frag} {mg : Str → Option Value} {base : Heap} {C : Addr}
abbrev s_made_web : Stmt := top 67
abbrev N_made_web : List Str := ["_law_plain_here"]
abbrev P_made_web : List Str := ["_law_plain_here"]
theorem sc_made_web : FnScope N_made_web P_made_web (defScope s_made_web) := ⟨rfl, rfl, rfl, by decide +kernel, rfl, by decide +kernel, by decide +kernel⟩
theorem ok_made {f fi : Addr} {fd fdi : FuncData} (B : Bl mg) (KWeb : Kls K mg "Web" C) (Y_init : WbK K C fi fdi s_Web_init P_Web_init) (G_init : FnOk P w K mg base CX0 4 fi fdi P_Web_init (spWeb C)) (D : Df K mg "_law_made_web" s_made_web P_made_web f fd) : FnOk P w K mg base CX0 6 f fd P_made_web (spMade C) := by
  refine D.F.ok sc_made_web (fun vs H Q E h => ?_) (fun cdv A outer s H vs Q E hr h => ?_)
  · obtain ⟨q, zs, tie, rfl, _⟩ := h
    rfl
  · obtain ⟨q, zs, tie, rfl, pl, hz, T, k⟩ := h
    refine ⟨_, (pss_one (ps_ret (pe_make Y_init.mkC G_init (hr.mono (by decide)) (by rfl) KWeb.g Y_init.b .nil pass0 (pa_cons (pe_dget (hu_of hr) (pv 0) pe_str (fun _ _ => rfl)) (pa_cons (pe_callTy call_tuple_of (by rfl) B.b_tuple (by decide +kernel) (pa_cons (pe_dget (hu_of hr) (pv 0) pe_str (fun _ _ => rfl)) pa_nil)) pa_nil))))), ?_⟩
    obtain ⟨t, l, e1, e2, e3⟩ := id pl
    obtain ⟨as, el, pa⟩ := id e3
    refine ⟨_, rfl, q, .ref t, rfl, .inl ⟨_, .inr "things", .inl e1, rfl, plF_things.symm⟩, _, rfl, q, .ref l, rfl, .inl ⟨_, .inr "ties", .inl e1, rfl, plF_ties.symm⟩, l, _, rfl, .inl ⟨SqL.of el, fun c hc => ?_⟩⟩
    have s1 := Same.new (o := .tup (as.map V.ref)) hc
    have ec : (upd H c (.tup (as.map V.ref))) c = some (.tup (as.map V.ref)) := upd_same
    generalize upd H c (.tup (as.map V.ref)) = H1 at s1 ec ⊢
    have z8 := hz.l8
    refine mk_web (s1 _ _ e2) hz.nz hz.asc (List.Perm.refl _) ec (paired_mono (fun _ _ e => PrAt.same e s1) pa) (cfl_ok hz.asc) ?_ fun x H2 s2 nx W => k x H2 (Same.trans s1 s2) (none_up s1 nx) (W.congr (fun p hp q hq => tieP_cfl hz.asc T hp hq) T)
    have h2 := prs_28 z8
    have h3 : (cfl zs tie).length ≤ (prs zs).length := List.length_filter_le _ _
    omega
end
end V0
namespace V0
open PySem PySem.Spec PyProof.Rows L2
/-! ### which webs that are a ring, or the opposite of one, are good -/
theorem cyc_rot {t : Str → Str → Bool} {w : List Str} (c : CycL t w) (k : Nat) (hk : k ≤ w.length) : CycL t (w.drop k ++ w.take k) := fun i j a b ha hb => by
  have ll : (w.drop k ++ w.take k).length = w.length := by rw [List.length_append, List.length_drop, List.length_take]; omega
  have at_ : ∀ {i : Nat} {a : Str}, (w.drop k ++ w.take k)[i]? = some a → i < w.length ∧ w[(i + k) % w.length]? = some a := fun {i a} h => by
    have li := (List.getElem?_eq_some_iff.mp h).1
    rw [ll] at li
    refine ⟨li, ?_⟩
    rw [List.getElem?_append, List.length_drop] at h
    split at h
    · rw [List.getElem?_drop] at h
      rw [Nat.mod_eq_of_lt (by omega), Nat.add_comm]
      exact h
    · rw [List.getElem?_take_of_lt (by omega)] at h
      rw [show i + k = (i - (w.length - k)) + w.length from by omega, Nat.add_mod_right, Nat.mod_eq_of_lt (by omega)]
      exact h
  obtain ⟨li, hi⟩ := at_ ha
  obtain ⟨lj, hj⟩ := at_ hb
  rw [c _ _ a b hi hj, ll]
  have one : ∀ {x y : Nat}, x < w.length → y < w.length → (((x + k) % w.length + 1) % w.length = (y + k) % w.length ↔ (x + 1) % w.length = y) := fun {x y} lx ly => by
    have m : ∀ z : Nat, z < w.length → (z + k) % w.length = if z + k < w.length then z + k else z + k - w.length := fun z lz => by
      split
      · exact Nat.mod_eq_of_lt (by omega)
      · rw [show z + k = (z + k - w.length) + w.length from by omega, Nat.add_mod_right, Nat.mod_eq_of_lt (by omega)]
        omega
    have m1 : ∀ z : Nat, z < w.length → (z + 1) % w.length = if z + 1 < w.length then z + 1 else 0 := fun z lz => by
      split
      · exact Nat.mod_eq_of_lt (by omega)
      · rw [show z + 1 = w.length from by omega, Nat.mod_self]
    rw [m1 _ (Nat.mod_lt _ (by omega)), m x lx, m y ly, m1 x lx]
    split <;> split <;> (try split) <;> (try split) <;> omega
  unfold cyc
  rw [← Bool.decide_or, ← Bool.decide_or, decide_eq_decide, one li lj, one lj li]
theorem cyc_rev {t : Str → Str → Bool} {w : List Str} (c : CycL t w) : CycL t w.reverse := fun i j a b ha hb => by
  have at_ : ∀ {i : Nat} {a : Str}, w.reverse[i]? = some a → i < w.length ∧ w[w.length - 1 - i]? = some a := fun {i a} h => by
    have li := (List.getElem?_eq_some_iff.mp h).1
    rw [List.length_reverse] at li
    rw [List.getElem?_reverse li] at h
    exact ⟨li, h⟩
  obtain ⟨li, hi⟩ := at_ ha
  obtain ⟨lj, hj⟩ := at_ hb
  rw [c _ _ a b hi hj, List.length_reverse]
  have m1 : ∀ z : Nat, z < w.length → (z + 1) % w.length = if z + 1 < w.length then z + 1 else 0 := fun z lz => by
    split
    · exact Nat.mod_eq_of_lt (by omega)
    · rw [show z + 1 = w.length from by omega, Nat.mod_self]
  unfold cyc
  rw [← Bool.decide_or, ← Bool.decide_or, decide_eq_decide, m1 _ (by omega), m1 _ (by omega), m1 i li, m1 j lj]
  split <;> split <;> (try split) <;> (try split) <;> omega
theorem five_list {w : List Str} (h : w.length = 5) : ∃ a b c d e, w = [a, b, c, d, e] := by
  match w, h with
  | [a, b, c, d, e], _ => exact ⟨a, b, c, d, e, rfl⟩
/-- every second one of a ring of five -/
def evr (w : List Str) : List Str := (List.range 5).map fun i => w.getD (2 * i % 5) ""
theorem cyc_evr {t : Str → Str → Bool} {w : List Str} (T : Tie t) (nd : w.Nodup) (l : w.length = 5) (c : CycL (tieTurn t) w) : CycL t (evr w) := by
  obtain ⟨a, b, e, d, f, rfl⟩ := five_list l
  have on : ∀ (i j : Nat) (x y : Str), [a, b, e, d, f][i]? = some x → [a, b, e, d, f][j]? = some y → i ≠ j → t x y = !cyc 5 i j := fun i j x y hx hy n => by
    have h := c i j x y hx hy
    rw [show [a, b, e, d, f].length = 5 from rfl] at h
    unfold tieTurn at h
    rw [decide_eq_true (show x ≠ y from fun z => n (nodup_at nd hx (by rw [z]; exact hy))), Bool.true_and] at h
    rw [← h, Bool.not_not]
  show CycL t [a, e, f, b, d]
  exact cyc5 T (on 0 2 _ _ rfl rfl (by decide)) (on 2 4 _ _ rfl rfl (by decide)) (on 4 1 _ _ rfl rfl (by decide)) (on 1 3 _ _ rfl rfl (by decide)) (on 3 0 _ _ rfl rfl (by decide)) (on 0 4 _ _ rfl rfl (by decide)) (on 0 1 _ _ rfl rfl (by decide)) (on 2 1 _ _ rfl rfl (by decide)) (on 2 3 _ _ rfl rfl (by decide)) (on 4 3 _ _ rfl rfl (by decide))
theorem evr_perm {w : List Str} (l : w.length = 5) : (evr w).Perm w := by
  obtain ⟨a, b, e, d, f, rfl⟩ := five_list l
  show [a, e, f, b, d].Perm [a, b, e, d, f]
  refine .cons a ?_
  have h1 : [e, f, b, d].Perm (b :: [e, f, d]) := (List.perm_middle (l₁ := [e, f]) (l₂ := [d]) (a := b))
  refine h1.trans (.cons b (.cons e ?_))
  exact List.Perm.swap d f []
theorem cyc_closed {t : Str → Str → Bool} {us g : List Str} (c : CycL t us) (nu : us.Nodup) (ng : g.Nodup) (d : Deg2 t g) (s : ∀ z ∈ g, z ∈ us) (ne : g ≠ []) : ∀ z ∈ us, z ∈ g := by
  have m1 : ∀ z : Nat, z < us.length → (z + 1) % us.length = if z + 1 < us.length then z + 1 else 0 := fun z lz => by
    split
    · exact Nat.mod_eq_of_lt (by omega)
    · rw [show z + 1 = us.length from by omega, Nat.mod_self]
  have step : ∀ i x, us[i]? = some x → x ∈ g → ∃ y, us[(i + 1) % us.length]? = some y ∧ y ∈ g := fun i x hx xg => by
    obtain ⟨p, q, e⟩ := two_list (d x xg)
    have nf := ng.sublist (List.filter_sublist (p := t x))
    rw [e] at nf
    have pq : p ≠ q := fun z => (List.nodup_cons.mp nf).1 (by rw [z]; simp)
    have mp' := List.mem_filter.mp (show p ∈ g.filter (t x) from by rw [e]; simp)
    have mq := List.mem_filter.mp (show q ∈ g.filter (t x) from by rw [e]; simp)
    obtain ⟨a, ha⟩ := List.mem_iff_getElem?.mp (s p mp'.1)
    obtain ⟨b, hb⟩ := List.mem_iff_getElem?.mp (s q mq.1)
    have la := (List.getElem?_eq_some_iff.mp ha).1
    have lb := (List.getElem?_eq_some_iff.mp hb).1
    have ca := mp'.2
    have cb := mq.2
    rw [c i a x p hx ha] at ca
    rw [c i b x q hx hb] at cb
    unfold cyc at ca cb
    rw [← Bool.decide_or, decide_eq_true_iff] at ca cb
    rcases ca with h | h
    · exact ⟨p, by rw [h]; exact ha, mp'.1⟩
    · rcases cb with h2 | h2
      · exact ⟨q, by rw [h2]; exact hb, mq.1⟩
      · exfalso
        rw [m1 a la] at h
        rw [m1 b lb] at h2
        have ab : a = b := by split at h <;> split at h2 <;> omega
        rw [ab, hb] at ha
        exact pq (Option.some.inj ha).symm
  obtain ⟨z0, g', rfl⟩ := List.exists_cons_of_ne_nil ne
  obtain ⟨i0, h0⟩ := List.mem_iff_getElem?.mp (s z0 (by simp))
  have l0 := (List.getElem?_eq_some_iff.mp h0).1
  have all : ∀ k, ∃ y, us[(i0 + k) % us.length]? = some y ∧ y ∈ z0 :: g' := fun k => by
    induction k with
    | zero => exact ⟨z0, by rw [Nat.add_zero, Nat.mod_eq_of_lt l0]; exact h0, by simp⟩
    | succ k ih =>
      obtain ⟨y, hy, yg⟩ := ih
      obtain ⟨y2, h2, g2⟩ := step _ y hy yg
      refine ⟨y2, ?_, g2⟩
      rw [Nat.mod_add_mod] at h2
      exact h2
  intro z hz
  obtain ⟨j, hj⟩ := List.mem_iff_getElem?.mp hz
  have lj := (List.getElem?_eq_some_iff.mp hj).1
  obtain ⟨y, hy, yg⟩ := all (j + us.length - i0)
  rw [show i0 + (j + us.length - i0) = j + us.length from by omega, Nat.add_mod_right, Nat.mod_eq_of_lt lj, hj] at hy
  rw [Option.some.inj hy]
  exact yg
theorem filter_two {α : Type} (p : α → Bool) : ∀ l : List α, l.length = (l.filter p).length + (l.filter fun x => !p x).length
  | [] => rfl
  | x :: l => by
    have := filter_two p l
    cases h : p x with
    | true => rw [List.filter_cons_of_pos h, List.filter_cons_of_neg (by rw [h]; decide), List.length_cons, List.length_cons]; omega
    | false => rw [List.filter_cons_of_neg (by rw [h]; decide), List.filter_cons_of_pos (by rw [h]; rfl), List.length_cons, List.length_cons]; omega
theorem deg_sum {t : Str → Str → Bool} {g : Gr} (T : Tie t) (nd : g.Nodup) {z : Str} (hz : z ∈ g) : (g.filter (tieTurn t z)).length + (g.filter (t z)).length + 1 = g.length := by
  have pm := List.perm_cons_erase hz
  have nz : z ∉ g.erase z := fun q => (List.Nodup.mem_erase_iff nd).mp q |>.1 rfl
  have l0 := pm.length_eq
  rw [List.length_cons] at l0
  have l1 := (pm.filter (tieTurn t z)).length_eq
  have l2 := (pm.filter (t z)).length_eq
  rw [List.filter_cons_of_neg (by rw [(tieTurn_tie T).irr]; decide)] at l1
  rw [List.filter_cons_of_neg (by rw [T.irr]; decide)] at l2
  have e : (g.erase z).filter (tieTurn t z) = (g.erase z).filter fun x => !t z x := List.filter_congr fun x hx => by
    unfold tieTurn
    rw [decide_eq_true (show z ≠ x from fun q => nz (by rw [q]; rw [q] at hx; exact hx)), Bool.true_and]
  have l3 := filter_two (t z) (g.erase z)
  rw [e] at l1
  omega
theorem deg_turn5 {t : Str → Str → Bool} {g : Gr} (T : Tie t) (nd : g.Nodup) (l : g.length = 5) (d : Deg2 (tieTurn t) g) : Deg2 t g := fun z hz => by
  have := deg_sum T nd hz
  have := d z hz
  omega
theorem rg_cyc {t : Str → Str → Bool} {us g : List Str} (T : Tie t) (c : CycL t us) (nu : us.Nodup) (l7 : us.length ≤ 7) (ng : g.Nodup) (s : ∀ z ∈ g, z ∈ us) (r : RG t g) : (us.length = 5 ∨ us.length = 7) ∧ ∀ z ∈ us, z ∈ g := by
  have lg := nodup_leK ng s
  have hl : g.length = 5 ∨ g.length = 7 := by
    rcases r with r | r
    · exact (walk_of_ring T ng r).2.1
    · exact (walk_of_ring (tieTurn_tie T) ng r).2.1
  rcases hl with h | h
  · have d : Deg2 t g := by
      rcases r with r | r
      · exact (walk_of_ring T ng r).1
      · exact deg_turn5 T ng h (walk_of_ring (tieTurn_tie T) ng r).1
    have a := cyc_closed c nu ng d s (fun e => by rw [e] at h; cases h)
    have := nodup_leK nu a
    exact ⟨.inl (by omega), a⟩
  · exact ⟨.inr (by omega), all_in ng s (by omega)⟩
/-- what is told of a ring, or of the opposite one: t is the ring's -/
theorem ring_none {tie t : Str → Str → Bool} {zs us : List Str} (T : Tie tie) (ht : t = tie ∨ t = tieTurn tie) (asc : Asc zs) (pm : zs.Perm us) (nu : us.Nodup) (l7 : us.length ≤ 7) (c : CycL t us) {us' : List Str} (sub : us'.Sublist zs) (h : (us.length ≠ 5 ∧ us.length ≠ 7) ∨ ∃ z ∈ us, z ∉ us') : ∀ g : Gr, g.Sublist us' → ¬ RG tie g := fun g hs hr => by
  have Tt : Tie t := by
    rcases ht with rfl | rfl
    · exact T
    · exact tieTurn_tie T
  have hr : RG t g := by
    rcases ht with rfl | rfl
    · exact hr
    · exact (RG.turn T).mpr hr
  obtain ⟨l, a⟩ := rg_cyc Tt c nu l7 (Asc.nd (asc.sublist (hs.trans sub))) (fun z hz => pm.mem_iff.mp ((hs.trans sub).subset hz)) hr
  rcases h with h | ⟨z, zu, zn⟩
  · omega
  · exact zn (hs.subset (a z zu))
theorem ring_first {tie t : Str → Str → Bool} {zs us : List Str} (T : Tie tie) (ht : t = tie ∨ t = tieTurn tie) (asc : Asc zs) (pm : zs.Perm us) (nu : us.Nodup) (c : CycL t us) (l : us.length = 5 ∨ us.length = 7) : FirstR zs tie zs := by
  have r : RG t zs := .inl ⟨us, pm.symm, c, l⟩
  have r' : RG tie zs := by
    rcases ht with rfl | rfl
    · exact r
    · exact (RG.turn T).mp r
  refine ⟨List.Sublist.refl _, r', fun h hs hr => ?_⟩
  by_cases e : h = zs
  · exact .inr ⟨by rw [e], .inl e.symm⟩
  · exfalso
    have hr : RG t h := by
      rcases ht with rfl | rfl
      · exact hr
      · exact (RG.turn T).mpr hr
    have Tt : Tie t := by
      rcases ht with rfl | rfl
      · exact T
      · exact tieTurn_tie T
    have a := (rg_cyc Tt c nu (by omega) (Asc.nd (asc.sublist hs)) (fun z hz => pm.mem_iff.mp (hs.subset hz)) hr).2
    have := nodup_leK nu a
    have := pm.length_eq
    exact e (List.Sublist.eq_of_length hs (by have := hs.length_le; omega))
/-- a ring of seven is no opposite one -/
theorem no_both7 {tie : Str → Str → Bool} {g : Gr} (T : Tie tie) (nd : g.Nodup) (l : g.length = 7) (r : RingOf (tieTurn tie) g) : ¬ RingOf tie g := fun r2 => by
  have d := (walk_of_ring (tieTurn_tie T) nd r).1
  have d2 := (walk_of_ring T nd r2).1
  obtain ⟨z, h, e⟩ := List.exists_cons_of_ne_nil (show g ≠ [] from fun e => by rw [e] at l; cases l)
  have hz : z ∈ g := by rw [e]; simp
  have := deg_sum T nd hz
  have := d z hz
  have := d2 z hz
  omega
theorem way_cyc {t : Str → Str → Bool} {g : Gr} (T : Tie t) (nd : g.Nodup) (r : RingOf t g) : CycL t (wayG t g) := by
  obtain ⟨d, l, all⟩ := walk_of_ring T nd r
  have gne : g ≠ [] := fun e => by rw [e] at l; rcases l with l | l <;> cases l
  have hw0 : w0 g ∈ g := by
    cases g with
    | nil => exact absurd rfl gne
    | cons z g => show z ∈ _; simp
  have hw1 : w1 t g ∈ g.filter (t (w0 g)) := by
    unfold w1
    obtain ⟨p, q, e⟩ := two_list (d _ hw0)
    rw [e]
    show p ∈ _; simp
  obtain ⟨m1, t01⟩ := List.mem_filter.mp hw1
  exact (ring_of_walk T d nd hw0 m1 t01 (by omega) (all _ _ hw0 m1 t01)).1
/-- the ring told on: every second one where the opposite ring of five is told -/
def toldL (us : List Str) (b : Bool) : List Str := if us.length = 5 ∧ b = true then evr us else us
def formS (us : List Str) (b : Bool) : Str := if us.length = 7 ∧ b = true then "turned" else "ring"
def tT (us : List Str) (b : Bool) (tie : Str → Str → Bool) : Str → Str → Bool := if us.length = 7 ∧ b = true then tieTurn tie else tie
theorem told_perm {us : List Str} {b : Bool} : (toldL us b).Perm us := by
  unfold toldL
  split
  · rename_i h
    exact evr_perm h.1
  · exact List.Perm.refl _
theorem told_cyc {tie t : Str → Str → Bool} {us : List Str} {b : Bool} (T : Tie tie) (nd : us.Nodup) (ht : t = if b = true then tieTurn tie else tie) (c : CycL t us) (l : us.length = 5 ∨ us.length = 7) : CycL (tT us b tie) (toldL us b) := by
  subst ht
  unfold tT toldL
  cases b with
  | false =>
    rw [if_neg (fun h => by cases h.2), if_neg (fun h => by cases h.2)]
    exact c
  | true =>
    rcases l with l | l
    · rw [if_neg (fun h => by omega), if_pos ⟨l, rfl⟩]
      exact cyc_evr T nd l c
    · rw [if_pos ⟨l, rfl⟩, if_neg (fun h => by omega)]
      exact c
theorem told_pap {tie : Str → Str → Bool} {zs us w : List Str} {b : Bool} (lw : w.length = us.length) (sw : ∀ z ∈ w, z ∈ zs) (nw : w.Nodup) (c : us.length = 5 ∨ us.length = 7 → CycL (tT us b tie) w) : SpPap zs tie (formS us b) (w.map V.str) ↔ (us.length = 5 ∨ us.length = 7) := by
  constructor
  · rintro ⟨ys, e, _, _, h⟩
    have := congrArg List.length e
    rw [List.length_map, List.length_map] at this
    rcases h with ⟨_, _, l⟩ | ⟨_, _, l⟩ <;> omega
  · intro l
    refine ⟨w, rfl, sw, nw, ?_⟩
    have c := c l
    unfold tT at c
    unfold formS
    by_cases h : us.length = 7 ∧ b = true
    · rw [if_pos h] at c ⊢
      exact .inr ⟨rfl, c, by omega⟩
    · rw [if_neg h] at c ⊢
      exact .inl ⟨rfl, c, by omega⟩
theorem way_pap {tie t : Str → Str → Bool} {zs us g : List Str} {b : Bool} {nm : Str} (T : Tie tie) (pm : zs.Perm us) (nz : zs.Nodup) (l : us.length = 5 ∨ us.length = 7) (c : CycL (tT us b tie) (toldL us b)) (asc : Asc zs) (f : FirstR zs tie zs) (fg : FirstR zs tie g) (h : (nm = "ring" ∧ t = tie) ∨ (nm = "turned" ∧ ¬ RingOf tie g ∧ t = tieTurn tie)) (r : RingOf t g) : g = zs ∧ nm = formS us b ∧ SpPap zs tie nm ((wayG t g).map V.str) := by
  have eg : zs = g := FirstR.one f fg
  subst eg
  have lz := pm.length_eq
  have tp := told_perm (us := us) (b := b)
  have r0 : RingOf (tT us b tie) zs := ⟨_, tp.trans pm.symm, c, by rw [tp.length_eq]; exact l⟩
  have same : nm = formS us b ∧ t = tT us b tie := by
    unfold formS tT
    unfold tT at r0
    by_cases q : us.length = 7 ∧ b = true
    · rw [if_pos q] at r0
      rw [if_pos q, if_pos q]
      rcases h with ⟨_, rfl⟩ | ⟨e, _, rfl⟩
      · exact absurd r (no_both7 T nz (by omega) r0)
      · exact ⟨e, rfl⟩
    · rw [if_neg q] at r0
      rw [if_neg q, if_neg q]
      rcases h with ⟨e, rfl⟩ | ⟨_, n, _⟩
      · exact ⟨e, rfl⟩
      · exact absurd r0 n
  obtain ⟨e1, e2⟩ := same
  have Tt : Tie t := by
    rcases h with ⟨_, rfl⟩ | ⟨_, _, rfl⟩
    · exact T
    · exact tieTurn_tie T
  have wp := way_perm Tt nz r
  refine ⟨rfl, e1, ?_⟩
  rw [e1, told_pap (by rw [wp.length_eq, lz]) (fun z hz => wp.mem_iff.mp hz) (wp.nodup_iff.mpr nz) fun _ => ?_]
  · exact l
  · rw [← e2]
    exact way_cyc Tt nz r
end V0

namespace V0
open PySem PySem.Spec PyProof.Rows L2
def spNearR : Sp := fun vs H Q _ => ∃ (p a : Addr) (us : List Str) (b : Bool), vs = [.ref p, .ref a, .bl b] ∧ Pot H p ∧ H a = some (tupS us) ∧ Nz us ∧ 3 ≤ us.length ∧ us.length ≤ 6 ∧ ("more" : Str) ∉ us ∧ ∀ H', Pot H' p → But p H H' → Q (.bl true) H'
section
variable {P : Program} {w : World} {K : PySem.W.Frag} {mg : Str → Option Value} {base : Heap} {C : Addr}
abbrev s_near_right : Stmt := top 70
abbrev N_near_right : List Str := ["_law_pot_here", "_law_line", "_law_is_turned", "_law_plain_here", "_law_one", "_law_ties"]
abbrev P_near_right : List Str := ["_law_pot_here", "_law_line", "_law_is_turned"]
theorem sc_near_right : FnScope N_near_right P_near_right (defScope s_near_right) := ⟨rfl, rfl, rfl, by decide +kernel, rfl, by decide +kernel, by decide +kernel⟩
theorem ok_nearR {f f1 f2 f3 f4 f5 f6 f7 : Addr} {fd fd1 fd2 fd3 fd4 fd5 fd6 fd7 : FuncData} (B : Bl mg) (M : Bm mg)
    (D_nearly : Df K mg "_law_nearly" s_nearly P_nearly f1 fd1) (G_nearly : FnOk P w K mg base CX0 3 f1 fd1 P_nearly spNearly) (D_made_web : Df K mg "_law_made_web" s_made_web P_made_web f2 fd2) (G_made_web : FnOk P w K mg base CX0 6 f2 fd2 P_made_web (spMade C)) (D_round_plain : Df K mg "_law_round_plain" s_round_plain P_round_plain f3 fd3) (G_round_plain : FnOk P w K mg base CX0 2 f3 fd3 P_round_plain spRndP)
    (D_spoiled : Df K mg "_law_spoiled" s_spoiled P_spoiled f4 fd4) (G_spoiled : FnOk P w K mg base CX0 4 f4 fd4 P_spoiled spSpoL2) (D_spoiled_group : Df K mg "spoiled_group" s_spoiled_group P_spoiled_group f5 fd5) (G_spoiled_group : FnOk P w K mg base CX0 8 f5 fd5 P_spoiled_group (spSpoW2 C))
    (D_some_of : Df K mg "_law_some_of" s_some_of P_some_of f6 fd6) (G_some_of : FnOk P w K mg base CX0 2 f6 fd6 P_some_of spSomeN) (D_plain : Df K mg "_law_plain" s_plain P_plain f7 fd7) (G_plain : FnOk P w K mg base CX0 1 f7 fd7 P_plain spPlain)
    (D : Df K mg "_law_near_right" s_near_right P_near_right f fd) : FnOk P w K mg base CX0 10 f fd P_near_right spNearR := by
  refine D.F.ok sc_near_right (fun vs H Q E h => ?_) (fun cdv A outer s H vs Q E hr h => ?_)
  · obtain ⟨p, a, us, b, rfl, _⟩ := h
    rfl
  · obtain ⟨p, a, us, b, rfl, hp, ha, nz, n3, n6, nm, k⟩ := h
    refine ⟨_, (pss_cons (ps_set (i := 3) sc_near_right.nd rfl (Or.inl rfl) (pe_call G_nearly (hr.mono (by decide)) (by rfl) D_nearly.g D_nearly.F.kp D_nearly.b .nil pass0 (pa_cons (pv 0) (pa_cons (pe_call G_round_plain (hr.mono (by decide)) (by rfl) D_round_plain.g D_round_plain.F.kp D_round_plain.b .nil pass0 (pa_cons (pv 1) (pa_cons (pv 2) pa_nil))) pa_nil))))
      (pss_cons (ps_if (pt_cmpR (op_neD hr.units) (pe_call G_spoiled_group (hr.mono (by decide)) (by rfl) D_spoiled_group.g D_spoiled_group.F.kp D_spoiled_group.b .nil pass0 (pa_cons (pe_call G_made_web (hr.mono (by decide)) (by rfl) D_made_web.g D_made_web.F.kp D_made_web.b .nil pass0 (pa_cons (pv 3) pa_nil)) pa_nil)) (pe_call G_spoiled (hr.mono (by decide)) (by rfl) D_spoiled.g D_spoiled.F.kp D_spoiled.b .nil pass0 (pa_cons (pv 3) pa_nil)) (nomark _)) (pss_one (ps_ret pe_bl)) pss_nil)
      (pss_cons (ps_set (i := 5) sc_near_right.nd rfl (Or.inl rfl) (pe_op op_cat (pe_dget (hu_of hr) (pv 3) pe_str (fun _ _ => rfl)) (pe_lc (own := [("_law_one", 4)]) (g := gName 4) (tt := tYes) rfl sc_near_right.nd (pi_tup (pe_call G_some_of (hr.mono (by decide)) (by rfl) D_some_of.g D_some_of.F.kp D_some_of.b .nil pass0 (pa_cons (pv 0) (pa_cons (pe_dget (hu_of hr) (pv 3) pe_str (fun _ _ => rfl)) pa_nil)))) (blkOk_by (own := [("_law_one", 4)]) (N := N_near_right) (sc := defScope s_near_right) (by decide +kernel)) (fun _ _ _ _ _ => (pg_name (i := 4) sc_near_right.nd rfl (Or.inl rfl))) (fun _ _ _ _ _ => pts_nil) (fun _ _ _ _ _ => (pe_tup (pa_cons pe_str (pa_cons (pv 4) pa_nil)))))))
      (pss_cons (ps_set (i := 3) sc_near_right.nd rfl (Or.inl rfl) (pe_call G_plain (hr.mono (by decide)) (by rfl) D_plain.g D_plain.F.kp D_plain.b .nil pass0 (pa_cons (pe_op op_catB (pe_dget (hu_of hr) (pv 3) pe_str (fun _ _ => rfl)) (pe_tup (pa_cons pe_str pa_nil))) (pa_cons (pv 5) pa_nil))))
      (pss_one (ps_ret (pe_cmpR (op_eqD hr.units) (pe_call G_spoiled_group (hr.mono (by decide)) (by rfl) D_spoiled_group.g D_spoiled_group.F.kp D_spoiled_group.b .nil pass0 (pa_cons (pe_call G_made_web (hr.mono (by decide)) (by rfl) D_made_web.g D_made_web.F.kp D_made_web.b .nil pass0 (pa_cons (pv 3) pa_nil)) pa_nil)) (pe_call G_spoiled (hr.mono (by decide)) (by rfl) D_spoiled.g D_spoiled.F.kp D_spoiled.b .nil pass0 (pa_cons (pv 3) pa_nil)) (nomark _)))))))), ?_⟩
    have ap := tup_np ha hp
    refine ⟨_, rfl, _, rfl, _, rfl, a, us, b, rfl, ha, nz, n3, fun q zs tie H1 s1 nq asc pm T _ pl => ?_⟩
    have zz : Zs zs := ⟨asc, fun z h => nz.nm z (pm.mem_iff.mp h), by rw [pm.length_eq]; exact nz.l1, by rw [pm.length_eq]; exact nz.l8⟩
    have z7 : zs.length ≤ 6 := by rw [pm.length_eq]; exact n6
    have nmz : ("more" : Str) ∉ zs := fun h => nm (pm.mem_iff.mp h)
    have p1 := hp.same s1
    refine ⟨p, q, zs, tie, rfl, p1, pl, zz, T, fun q2 tie2 H2 p2 b2 _ T2 pl2 => ?_⟩
    have b02 := (But.of s1).trans b2
    clear pl T nq
    refine ⟨_, rfl, q2, zs, tie2, rfl, pl2, zz, T2, fun x H3 s3 _ W => ?_⟩
    refine ⟨x, zs, tie2, rfl, W, fun v o H4 s4 so vo => ?_⟩
    have s34 := s3.trans s4
    refine ⟨_, rfl, q2, zs, tie2, rfl, pl2.same s34, zz, by omega, T2, fun v2 o2 H5 s5 so2 vo2 => ?_⟩
    obtain rfl := SpO.one so so2
    refine ⟨dO o, dO o, vo_dp (vo.same s5), vo_dp vo2, dO_sh (so.nm zz), dO_sh (so.nm zz), _, rfl, ?_⟩
    rw [dO_self]
    refine ite2 (fun z => by cases z) (fun _ => ?_)
    have s25 := s34.trans s5
    have pl5 := pl2.same s25
    have p5 := p2.same s25
    have b05 := b02.trans (But.of s25)
    clear pl2 W vo vo2 so so2 s34 s3 s4 s5 b02 p1 s1 b2 p2 s25
    obtain ⟨t, l, e1, e2, prl⟩ := id pl5
    have z8 := zz.l8
    have cok := cfl_ok (tie := tie2) zz.asc
    have c28 : (cfl zs tie2).length ≤ 28 := Nat.le_trans (List.length_filter_le _ _) (prs_28 z8)
    have lp := prsL_np prl p5
    have tp := tup_np e2 p5
    refine ⟨_, rfl, q2, .ref l, rfl, .inl ⟨_, .inr "ties", .inl e1, rfl, plF_ties.symm⟩, ?_⟩
    refine ⟨_, rfl, _, rfl, q2, .ref t, rfl, .inl ⟨_, .inr "things", .inl e1, rfl, plF_things.symm⟩, ?_⟩
    refine ⟨p, t, zs, rfl, p5, e2, z8, fun c g H6 p6 b6 _ gc sub => ?_⟩
    have pl6 := pl5.but b6 p5
    have b06 := b05.trans b6
    have prl := prl.but b6 p5 lp
    have e2 := b6 _ _ e2 tp
    have e1 := b6 _ _ e1 (pl5.np p5)
    clear pl5 b05 lp tp b6 p5
    refine ⟨c, rfl, ⟨_, SqT.of gc⟩, fun D hD => ?_⟩
    have g8 := Nat.le_trans sub.length_le z8
    refine lc_it (walk_tup (xs := g.map V.str)) (fun i H' => Same H6 H' ∧ PrsL H' D ((g.take i).map fun z => (("more" : Str), z))) ⟨Same.new hD, PrsL.nil⟩ (fun i H' _ ⟨s1, _⟩ => SqT.of (s1 _ _ gc)) ?_ ?_
    · rintro i u H7 H8 hi ⟨s7, pd⟩ ⟨rfl, hy⟩
      obtain ⟨z, hz, rfl⟩ := str_at hy
      refine ⟨rfl, _, rfl, by show 2 ≤ sizeLine; decide, fun q hq => ?_⟩
      rw [take_snoc hz, List.map_append]
      exact prsL_push (p := (("more" : Str), z)) hD s7 pd (by rw [List.length_map, List.length_take]; omega) hq
    rintro H7 ⟨s7, pd⟩
    rw [List.length_map, List.take_length] at pd
    obtain ⟨xs, ys, k1, k2, l1, l2, cat⟩ := prsL_cat (prl.same s7) pd
    rw [List.length_map] at l2
    refine ⟨l, D, xs, ys, rfl, rfl, k1, k2, by rw [sizeLine_eq]; omega, fun m hm => ?_⟩
    have prm := cat m hm
    have s8 := Same.new (o := .lst (xs ++ ys)) hm
    generalize upd H7 m (.lst (xs ++ ys)) = H8 at prm s8 ⊢
    have s68 := s7.trans s8
    have p8 := p6.same s68
    have b08 := b06.trans (But.of s68)
    have e1 := s68 _ _ e1
    have e2 := s68 _ _ e2
    have ok : ∀ r ∈ cfl zs tie2 ++ g.map (fun z => (("more" : Str), z)), PrOk (zs ++ [("more" : Str)]) r := fun r hr => by
      rcases List.mem_append.mp hr with h | h
      · have := cok r h
        exact ⟨List.mem_append.mpr (.inl this.1), List.mem_append.mpr (.inl this.2.1), this.2.2⟩
      · obtain ⟨z, hz, rfl⟩ := List.mem_map.mp h
        exact ⟨by simp, List.mem_append.mpr (.inl (sub.subset hz)), fun e => nmz (by rw [show ("more" : Str) = z from e]; exact sub.subset hz)⟩
    have lts : (cfl zs tie2 ++ g.map (fun z => (("more" : Str), z))).length < 64 := by rw [List.length_append, List.length_map]; omega
    generalize cfl zs tie2 ++ g.map (fun z => (("more" : Str), z)) = ts at prm ok lts
    clear prl pd gc sub cat k1 k2 hm hD s7 s8 s68 b06 p6 xs ys l1 l2
    refine ⟨_, rfl, q2, .ref t, rfl, .inl ⟨_, .inr "things", .inl e1, rfl, plF_things.symm⟩, ?_⟩
    refine ⟨by show 1 ≤ sizeLine; decide, fun e he => ?_⟩
    have s9 := Same.new (o := .tup [V.str "more"]) he
    have ee : (upd H8 e (.tup [V.str "more"])) e = some (.tup [V.str "more"]) := upd_same
    generalize upd H8 e (.tup [V.str "more"]) = H9 at s9 ee ⊢
    refine ⟨t, e, _, _, rfl, rfl, s9 _ _ e2, ee, by rw [List.length_map, sizeLine_eq]; show _ + 1 ≤ _; omega, fun u HA sA eu => ?_⟩
    have s8A := s9.trans sA
    have eu : HA u = some (.tup ((zs ++ [("more" : Str)]).map V.str)) := by rw [List.map_append]; exact eu
    have nd2 : (zs ++ [("more" : Str)]).Nodup := by
      rw [List.nodup_append]
      refine ⟨zz.asc.nd, (by decide), fun x hx y hy e => ?_⟩
      rw [List.mem_singleton.mp hy] at e
      exact nmz (by rw [← e]; exact hx)
    refine ⟨_, rfl, u, m, zs ++ [("more" : Str)], ts, rfl, .inr eu, nd2, by rw [List.length_append]; show _ + 1 ≤ 8; omega, prm.same s8A, ok, lts, fun q3 zs3 HB sB _ asc3 pm3 pl3 => ?_⟩
    have T3 := tieP_tie ok
    have zz3 : Zs zs3 := ⟨asc3, fun z h => by
      rcases List.mem_append.mp (pm3.mem_iff.mp h) with h | h
      · exact zz.nm z h
      · rw [List.mem_singleton.mp h]
        exact (by decide +kernel), by rw [pm3.length_eq, List.length_append]; show 1 ≤ _ + 1; omega, by rw [pm3.length_eq, List.length_append]; show _ + 1 ≤ 8; omega⟩
    have z37 : zs3.length ≤ 7 := by rw [pm3.length_eq, List.length_append]; show _ + 1 ≤ 7; omega
    have s8B := s8A.trans sB
    refine ⟨_, rfl, q3, zs3, _, rfl, pl3, zz3, T3, fun x HC sC _ W => ?_⟩
    refine ⟨x, zs3, _, rfl, W, fun v o HD sD so vo => ?_⟩
    have sCD := sC.trans sD
    refine ⟨_, rfl, q3, zs3, _, rfl, pl3.same sCD, zz3, z37, T3, fun v2 o2 HE sE so2 vo2 => ?_⟩
    obtain rfl := SpO.one so so2
    refine ⟨dO o, dO o, vo_dp (vo.same sE), vo_dp vo2, dO_sh (so.nm zz3), dO_sh (so.nm zz3), ?_⟩
    rw [dO_self]
    have sAll := s8B.trans (sCD.trans sE)
    exact k HE (p8.same sAll) (b08.trans (But.of sAll))
end
end V0

namespace V0
open PySem PySem.Spec PyProof.Rows L2
def rI1q : List V → Hp → VK → Prop := fun xs H Q => (∃ i, xs = [.int i] ∧ Q (.int i) H) ∨ ∃ k, xs = [.bl k] ∧ Q (.int (if k then 1 else 0)) H
theorem tIf_useV {c : TT} {ta tb : TE} {σ : L2.St} {H : Hp} {R : VK} (I : V → Hp → Prop) (f : ∀ R : VK, (∀ y H', I y H' → R y H') → tIf c ta tb σ H R) (k : ∀ y H', I y H' → R y H') : tIf c ta tb σ H R := f R k
theorem asgIf {c : TT} {ta tb : TE} {i : Nat} {u : TS} {D : Ends} {σ : L2.St} {H : Hp} (I : V → Hp → Prop) (f : ∀ R : VK, (∀ y H', I y H' → R y H') → tIf c ta tb σ H R) (k : ∀ y H', I y H' → u D (σ.set i (some y)) H') : tSeq (tAsg (tIf c ta tb) (gName i)) u D σ H := f _ k
def spRngR : Sp := fun vs H Q _ => ∃ (a : Addr) (us : List Str) (b : Bool), vs = [.ref a, .bl b] ∧ H a = some (tupS us) ∧ Nz us ∧ 3 ≤ us.length ∧ us.length ≤ 7 ∧ ∀ H', Same H H' → Q (.bl true) H'
section
variable {P : Program} {w : World} {K : PySem.W.Frag} {mg : Str → Option Value} {base : Heap} {C : Addr}
abbrev s_ring_right : Stmt := top 69
abbrev N_ring_right : List Str := ["_law_line", "_law_is_turned", "_law_web", "_law_size", "_law_is_bad", "_law_one", "_law_form", "_law_at", "_law_told", "_law_ring", "_law_way"]
abbrev P_ring_right : List Str := ["_law_line", "_law_is_turned"]
theorem sc_ring_right : FnScope N_ring_right P_ring_right (defScope s_ring_right) := ⟨rfl, rfl, rfl, by decide +kernel, rfl, by decide +kernel, by decide +kernel⟩
theorem ok_rngR {f p1 f1 f2 f3 f4 f5 f6 f7 f8 : Addr} {fd fd1 fd2 fd3 fd4 fd5 fd6 fd7 fd8 : FuncData} (B : Bl mg) (M : Bm mg) (KWeb : Kls K mg "Web" C) (O_iter : ItM P w K mg base 1 C "_things")
    (Y_Web_things : Pr K "Web.things" "things" C s_Web_things P_Web_things p1 f1 fd1) (G_Web_things : FnOk P w K mg base CX0 1 f1 fd1 P_Web_things (spThW C)) (D_made_web : Df K mg "_law_made_web" s_made_web P_made_web f2 fd2) (G_made_web : FnOk P w K mg base CX0 6 f2 fd2 P_made_web (spMade C)) (D_round_plain : Df K mg "_law_round_plain" s_round_plain P_round_plain f3 fd3) (G_round_plain : FnOk P w K mg base CX0 2 f3 fd3 P_round_plain spRndP)
    (D_is_good : Df K mg "is_good" s_is_good P_is_good f4 fd4) (G_is_good : FnOk P w K mg base CX0 9 f4 fd4 P_is_good (spIsGood C)) (D_spoiled_group : Df K mg "spoiled_group" s_spoiled_group P_spoiled_group f5 fd5) (G_spoiled_group : FnOk P w K mg base CX0 8 f5 fd5 P_spoiled_group (spSpoW2 C))
    (Y_without : MdS K "Web.without" "without" C s_Web_without ["self"] "things" f6 fd6) (G_without : FnR P w K mg base CX0 7 f6 (spStar 1 (spWout C)))
    (D_is_good_paper : Df K mg "is_good_paper" s_is_good_paper P_is_good_paper f7 fd7) (G_is_good_paper : FnOk P w K mg base CX0 8 f7 fd7 P_is_good_paper (spIsGP C)) (D_good_paper : Df K mg "good_paper" s_good_paper P_good_paper f8 fd8) (G_good_paper : FnOk P w K mg base CX0 8 f8 fd8 P_good_paper (spGoodPB C))
    (D : Df K mg "_law_ring_right" s_ring_right P_ring_right f fd) : FnOk P w K mg base CX0 10 f fd P_ring_right spRngR := by
  refine D.F.ok sc_ring_right (fun vs H Q E h => ?_) (fun cdv A outer s H vs Q E hr h => ?_)
  · obtain ⟨p, us, b, rfl, _⟩ := h
    rfl
  · obtain ⟨a, us, b, rfl, ha, nz, n3, n7, k⟩ := h
    refine ⟨_, (pss_cons (ps_par (i := 2) (j := 3) (by rfl) sc_ring_right.nd rfl rfl (by decide) rfl rfl (pa_cons (pe_call G_made_web (hr.mono (by decide)) (by rfl) D_made_web.g D_made_web.F.kp D_made_web.b .nil pass0 (pa_cons (pe_call G_round_plain (hr.mono (by decide)) (by rfl) D_round_plain.g D_round_plain.F.kp D_round_plain.b .nil pass0 (pa_cons (pv 0) (pa_cons (pv 1) pa_nil))) pa_nil)) (pa_cons (pe_callB call_len (by rfl) B.b_len (by decide +kernel) (pa_cons (pv 0) pa_nil)) pa_nil)) (by rfl))
      (pss_cons (ps_set (i := 4) sc_ring_right.nd rfl (Or.inl rfl) (pe_cmpR op_in_seq (pv 3) (pe_tup (pa_cons pe_int (pa_cons pe_int pa_nil))) (by rfl)))
      (pss_cons (ps_if (PW.pt (pw_or (pt_cmpR op_eq (pe_call G_is_good (hr.mono (by decide)) (by rfl) D_is_good.g D_is_good.F.kp D_is_good.b .nil pass0 (pa_cons (pv 2) pa_nil)) (pv 4) (nomark _)) (pw_or1 (pt_cmpR (op_neD hr.units) (pe_call G_spoiled_group (hr.mono (by decide)) (by rfl) D_spoiled_group.g D_spoiled_group.F.kp D_spoiled_group.b .nil pass0 (pa_cons (pv 2) pa_nil)) (pe_ifExp (pt_val (pv 4)) (pe_prop (pv 2) KWeb.cl Y_Web_things.pr G_Web_things (hr.mono (by decide)) Y_Web_things.b .nil pass0 rfl) pe_non) (nomark _))))) (pss_one (ps_ret pe_bl)) pss_nil)
      (pss_cons (ps_for PassesOwn.never rfl (pi_own O_iter (hr.mono (by decide)) (pv 2)) (pg_name (i := 5) sc_ring_right.nd rfl (Or.inl rfl)) (pss_one (ps_if (PW.pt (pw_and (pt_cmpR op_gt (pv 3) pe_int (nomark _)) (pw_and1 (pt_not (pt_val (pe_call G_is_good (hr.mono (by decide)) (by rfl) D_is_good.g D_is_good.F.kp D_is_good.b .nil pass0 (pa_cons (pe_methR (pv 2) KWeb.cl Y_without.m G_without (hr.mono (by decide)) pass0 (pa_cons (pv 5) pa_nil)) pa_nil))))))) (pss_one (ps_ret pe_bl)) pss_nil)))
      (pss_cons (ps_set (i := 6) sc_ring_right.nd rfl (Or.inl rfl) (pe_ifExp (PW.pt (pw_and (pt_val (pv 1)) (pw_and1 (pt_cmpR op_eq (pv 3) pe_int (nomark _))))) pe_str pe_str))
      (pss_cons (ps_set (i := 8) sc_ring_right.nd rfl (Or.inl rfl) (pe_ifExp (PW.pt (pw_or (pt_cmpR op_ne (pv 3) pe_int (nomark _)) (pw_or1 (pt_not (pt_val (pv 1)))))) (pv 0) (pe_callTy call_tuple_of (by rfl) B.b_tuple (by decide +kernel) (pa_cons (pe_lc (own := [("_law_at", 7)]) (g := gName 7) (tt := tYes) rfl sc_ring_right.nd (pi_range1 rfl B.b_range (pa_cons pe_int pa_nil)) (blkOk_by (own := [("_law_at", 7)]) (N := N_ring_right) (sc := defScope s_ring_right) (by decide +kernel)) (fun _ _ _ _ _ => (pg_name (i := 7) sc_ring_right.nd rfl (Or.inl rfl))) (fun _ _ _ _ _ => pts_nil) (fun _ _ _ _ _ => (show PE _ _ (tOp (rIxT K) (tVar 0) (tOp (rI (fun _ j => 0 < j) fun i j => .int (i % j)) (tCB rI1q (tCons (tOp (rI CMul fun i j => .int (i * j)) (tC (.int 2)) (tVar 7)) tNil)) (tC (.int 5)))) from by exact (pe_ix ix_tup (pv 0) (pe_op op_mod (pe_callTy call_int1 (by rfl) B.b_int (by decide +kernel) (pa_cons (pe_op op_mul pe_int (pv 7)) pa_nil)) pe_int) (fun _ _ => rfl))))) pa_nil))))
      (pss_cons (ps_for PassesOwn.never rfl (pi_range1 rfl B.b_range (pa_cons (pv 3) pa_nil)) (pg_name (i := 7) sc_ring_right.nd rfl (Or.inl rfl)) (pss_cons (ps_set (i := 9) sc_ring_right.nd rfl (Or.inl rfl) (pe_op op_catB (pe_slice sl_tupB (pv 8) (po_some (pv 7)) po_none) (pe_slice sl_tupB (pv 8) po_none (po_some (pv 7)))))
      (pss_one (ps_for PassesOwn.never rfl (pi_tup (pe_tup (pa_cons (pv 9) (pa_cons (pe_revT (pv 9) (pe_un un_neg pe_int)) pa_nil)))) (pg_name (i := 10) sc_ring_right.nd rfl (Or.inl rfl)) (pss_one (ps_if (pt_cmpR op_ne (pe_call G_is_good_paper (hr.mono (by decide)) (by rfl) D_is_good_paper.g D_is_good_paper.F.kp D_is_good_paper.b .nil pass0 (pa_cons (pv 2) (pa_cons (pe_tup (pa_cons (pv 6) (pa_cons (pv 10) pa_nil))) pa_nil))) (pv 4) (nomark _)) (pss_one (ps_ret pe_bl)) pss_nil))))))
      (pss_one (ps_ret (pe_or (pe_not (pv 4)) (pe_one (pe_and (pe_cmpR op_eq (pe_ix ix_tup (pe_call G_good_paper (hr.mono (by decide)) (by rfl) D_good_paper.g D_good_paper.F.kp D_good_paper.b .nil pass0 (pa_cons (pv 2) pa_nil)) pe_int (fun _ _ => rfl)) (pv 6) (nomark _)) (pe_one (pe_call G_is_good_paper (hr.mono (by decide)) (by rfl) D_is_good_paper.g D_is_good_paper.F.kp D_is_good_paper.b .nil pass0 (pa_cons (pv 2) (pa_cons (pe_call G_good_paper (hr.mono (by decide)) (by rfl) D_good_paper.g D_good_paper.F.kp D_good_paper.b .nil pass0 (pa_cons (pv 2) pa_nil)) pa_nil)))))))))))))))), ?_⟩
    have nd := nz.nd
    refine ⟨_, rfl, _, rfl, a, us, b, rfl, ha, nz, n3, fun q zs tie H1 s1 _ asc pm T cy pl => ?_⟩
    have zz : Zs zs := ⟨asc, fun z h => nz.nm z (pm.mem_iff.mp h), by rw [pm.length_eq]; exact nz.l1, by rw [pm.length_eq]; exact nz.l8⟩
    obtain ⟨t, ht, cy⟩ : ∃ t, (t = if b = true then tieTurn tie else tie) ∧ CycL t us := by
      refine ⟨_, rfl, ?_⟩
      cases b with
      | true => exact cy
      | false => exact cy
    have ht2 : t = tie ∨ t = tieTurn tie := by
      rw [ht]
      cases b with
      | true => exact .inr rfl
      | false => exact .inl rfl
    refine ⟨q, zs, tie, rfl, pl, zz, T, fun x H2 s2 _ W => ?_⟩
    have s02 := s1.trans s2
    have lm : (us.map V.str).length = us.length := List.length_map _
    refine ⟨_, rfl, .ref a, us.length, rfl, .inr ⟨_, SqT.of (s02 _ _ ha), lm.symm⟩, ?_⟩
    clear pl s1 s2
    refine ⟨_, _, rfl, ?_⟩
    refine ⟨_, rfl, by show 2 ≤ sizeLine; decide, fun e he => ?_⟩
    have s3 := Same.new (o := .tup [V.int 5, V.int 7]) he
    refine ⟨e, _, rfl, .inr (SqT.of upd_same), rfl, rfl, ?_⟩
    generalize upd H2 e (.tup [V.int 5, V.int 7]) = H3 at s3 ⊢
    have iv : (if false = true then !inV (V.int (us.length : Nat)) [V.int 5, V.int 7] else inV (V.int (us.length : Nat)) [V.int 5, V.int 7]) = decide (us.length = 5 ∨ us.length = 7) := by
      have one : ∀ m : Nat, eqV (V.int (m : Nat)) (V.int (us.length : Nat)) = decide (us.length = m) := fun m => by
        rw [show eqV (V.int (m : Nat)) (V.int (us.length : Nat)) = decide ((m : Int) = (us.length : Nat)) from rfl, decide_eq_decide]
        omega
      show (eqV (V.int ((5 : Nat) : Int)) (V.int (us.length : Nat)) || (eqV (V.int ((7 : Nat) : Int)) (V.int (us.length : Nat)) || false)) = _
      rw [one, one, Bool.or_false, ← Bool.decide_or]
    rw [iv]
    clear iv
    have s03 := s02.trans s3
    have W := W.same s3
    obtain ⟨bad, hbad⟩ : ∃ bad : Bool, bad = decide (us.length = 5 ∨ us.length = 7) := ⟨_, rfl⟩
    rw [← hbad]
    have good : ∀ {g : Bool}, (g = true ↔ ∀ h : Gr, h.Sublist zs → ¬ RG tie h) → g = !bad := fun {g} hg => by
      by_cases c : us.length = 5 ∨ us.length = 7
      · rw [hbad, decide_eq_true c]
        cases g with
        | false => rfl
        | true => exact absurd (ring_first T ht2 asc pm nd cy c).2.1 (hg.mp rfl zs (List.Sublist.refl _))
      · rw [hbad, decide_eq_false c]
        exact hg.mpr (ring_none T ht2 asc pm nd n7 cy (List.Sublist.refl _) (.inl (by omega)))
    refine ⟨_, rfl, x, zs, tie, rfl, W, fun g H4 s4 ib => ?_⟩
    obtain rfl := good ib
    refine ⟨_, rfl, rfl, _, rfl, ?_⟩
    rw [show decide (V.bl (!bad) = V.bl bad) = false from by cases bad <;> rfl]
    refine ite2 (fun z => by cases z) (fun _ => ?_)
    have W := W.same s4
    have s04 := s03.trans s4
    refine ⟨_, rfl, x, zs, tie, rfl, W, fun v o H5 s5 so vo => ?_⟩
    obtain ⟨o2, ho2, so2⟩ : ∃ o2, o2 = (if bad = true then some zs else none) ∧ SpO zs tie o2 := by
      refine ⟨_, rfl, ?_⟩
      by_cases c : us.length = 5 ∨ us.length = 7
      · rw [hbad, decide_eq_true c, if_pos rfl]
        exact ring_first T ht2 asc pm nd cy c
      · rw [hbad, decide_eq_false c, if_neg (by decide)]
        exact ring_none T ht2 asc pm nd n7 cy (List.Sublist.refl _) (.inl (by omega))
    obtain rfl := SpO.one so so2
    have W := W.same s5
    have s05 := s04.trans s5
    clear s02 s3 s03 s4 s04 he good s5
    refine tIf_useV (fun y H' => Same H5 H' ∧ VO H' y o) (fun R key => ?_) (fun y H6 ⟨s6, vo2⟩ => ?_)
    · obtain ⟨dx, tx, cx, bx, asx, bsx, wx⟩ := id W.w
      refine ⟨_, rfl, _, rfl, ite2 (fun z => ?_) (fun z => ?_)⟩
      · refine ⟨_, rfl, x, dx, _, rfl, wx.at_, x, dx, tx, cx, bx, rfl, wx.at_, key _ _ ⟨Same.refl _, ?_⟩⟩
        rw [ho2, if_pos z]
        exact ⟨tx, rfl, wx.th⟩
      · refine key _ _ ⟨Same.refl _, ?_⟩
        rw [ho2, if_neg z]
        rfl
    refine ⟨dO o, dO o, vo_dp (vo.same s6), vo_dp vo2, dO_sh (so.nm zz), dO_sh (so.nm zz), _, rfl, ?_⟩
    rw [dO_self]
    refine ite2 (fun z => by cases z) (fun _ => ?_)
    have W := W.same s6
    have s06 := s05.trans s6
    clear vo vo2 s05 s6 so so2 ho2
    obtain ⟨dx, tx, cx, bx, asx, bsx, wx⟩ := id W.w
    refine ⟨_, rfl, x, dx, _, tx, rfl, wx.at_, rfl, ⟨_, SqT.of wx.th⟩, ?_⟩
    refine for_it (walk_tup (xs := zs.map V.str)) (fun i σ H' => Same H6 H' ∧ ∃ o5 : Option V, σ = [some (.ref a), some (.bl b), some (.ref x), some (.int (us.length : Nat)), some (.bl bad), o5, none, none, none, none, none]) ⟨Same.refl _, none, rfl⟩ (fun i σ H' _ ⟨s1, _⟩ => SqT.of (s1 _ _ wx.th)) ?_ ?_
    · rintro i v σ H7 H8 hi ⟨s7, o5, rfl⟩ ⟨rfl, hy⟩
      obtain ⟨z, hz, rfl⟩ := str_at hy
      have mz := List.mem_of_getElem? hz
      have W := W.same s7
      obtain ⟨dx, tx, cx, bx, asx, bsx, wx⟩ := id W.w
      refine ⟨_, rfl, _, _, rfl, rfl, _, rfl, ?_⟩
      rw [decide_eq_true (show (1 : Int) < (us.length : Nat) from by omega)]
      refine ite2 (fun _ => ?_) (fun z => absurd rfl z)
      refine ⟨_, rfl, x, dx, _, rfl, wx.at_, rfl, _, rfl, [.ref x], [.str z], rfl, rfl, by show 1 ≤ sizeLine; decide, fun l hl => ?_⟩
      have sC := Same.new (o := .tup [V.str z]) hl
      have une : (zs.filter fun y => !decide (y ∈ [z])) ≠ [] := by
        have l3 : 2 ≤ zs.length := by rw [pm.length_eq]; omega
        intro e
        have e := List.filter_eq_nil_iff.mp e
        match zs, l3, Asc.nd asc, e with
        | [], l3, _, _ => exact absurd l3 (by decide)
        | [p], l3, _, _ => exact absurd l3 (by show ¬ 2 ≤ 1; decide)
        | p :: q :: r, _, nd, e =>
          have ha := e p (by simp)
          have hb := e q (by simp)
          have ea : p = z := by simpa using ha
          have eb : q = z := by simpa using hb
          exact (List.nodup_cons.mp nd).1 (by rw [ea, eb]; simp)
      refine ⟨x, l, zs, tie, [z], rfl, W.same sC, upd_same, fun d hd => by rw [List.mem_singleton.mp hd]; exact mz, by show 1 ≤ 8; decide, une, fun y2 HD sD _ Wy2 => ?_⟩
      refine ⟨y2, _, tie, rfl, Wy2, fun g HE sE ib => ⟨_, rfl, ?_⟩⟩
      obtain rfl : g = true := ib.mpr (ring_none T ht2 asc pm nd n7 cy List.filter_sublist (.inr ⟨z, pm.mem_iff.mp mz, fun h => by
        have := (List.mem_filter.mp h).2
        rw [decide_eq_true (List.mem_singleton.mpr rfl)] at this
        cases this⟩))
      exact ite2 (fun z => by cases z) (fun _ => ⟨s7.trans (sC.trans (sD.trans sE)), _, rfl⟩)
    rintro σ H7 ⟨s7, o5, rfl⟩
    have W := W.same s7
    have s07 := s06.trans s7
    clear wx s7 s06
    dsimp only
    refine asgIf (fun y H' => y = .str (formS us b) ∧ H' = H7) (fun R key => ?_) (fun y H8 ⟨ey, e8⟩ => ?_)
    · have seven : decide (V.int (us.length : Nat) = V.int 7) = decide (us.length = 7) := decide_eq_decide.mpr ⟨fun e => by have := V.int.inj e; omega, fun e => by rw [e]; rfl⟩
      refine ⟨_, rfl, _, rfl, ?_⟩
      unfold formS at key
      cases b with
      | true =>
        refine ite2 (fun _ => ⟨_, rfl, rfl, _, rfl, ?_⟩) (fun z => absurd rfl z)
        rw [seven]
        refine ite2 (fun c => key _ _ ⟨?_, rfl⟩) (fun c => key _ _ ⟨?_, rfl⟩)
        · rw [if_pos ⟨of_decide_eq_true c, rfl⟩]
        · rw [if_neg fun h => c (decide_eq_true h.1)]
      | false =>
        refine ite2 (fun z => by cases z) (fun _ => ite2 (fun z => by cases z) (fun _ => key _ _ ⟨?_, rfl⟩))
        rw [if_neg fun h => by cases h.2]
    obtain rfl := ey
    obtain rfl := e8
    refine asgIf (fun y H' => Same H8 H' ∧ ∃ l, y = .ref l ∧ H' l = some (tupS (toldL us b))) (fun R key => ?_) (fun y H9 ⟨s9, l, ey, hl⟩ => ?_)
    · have five : decide (V.int (us.length : Nat) = V.int 5) = decide (us.length = 5) := decide_eq_decide.mpr ⟨fun e => by have := V.int.inj e; omega, fun e => by rw [e]; rfl⟩
      refine ⟨_, rfl, rfl, _, rfl, ?_⟩
      rw [five]
      unfold toldL at key
      by_cases l5 : us.length = 5
      · rw [decide_eq_true l5]
        refine ite2 (fun z => by cases z) (fun _ => ⟨_, rfl, _, rfl, ?_⟩)
        cases b with
        | false =>
          refine ite2 (fun _ => ⟨_, rfl, key _ _ ⟨Same.refl _, a, rfl, ?_⟩⟩) (fun z => absurd rfl z)
          rw [if_neg fun h => by cases h.2]
          exact s07 _ _ ha
        | true =>
          refine ite2 (fun z => by cases z) (fun _ => ?_)
          rw [if_pos ⟨l5, rfl⟩] at key
          refine ⟨5, rfl, by decide, by decide, fun D hD => ?_⟩
          refine lc_it walk_range (fun i H' => Same H8 H' ∧ H' D = some (.lst (((evr us).take i).map V.str))) ⟨Same.new hD, upd_same⟩ (fun _ _ _ _ => trivial) ?_ ?_
          · rintro i v H9 H10 hi ⟨s9, eD⟩ ⟨rfl, rfl⟩
            have li : i < 5 := by omega
            have lk : 2 * i % 5 < us.length := by rw [l5]; exact Nat.mod_lt _ (by decide)
            have e1 : (us.map V.str)[2 * i % 5]? = some (.str (us.getD (2 * i % 5) "")) := by
              rw [List.getElem?_map, List.getD_eq_getElem?_getD, List.getElem?_eq_getElem lk]
              rfl
            have e2 : (evr us)[i]? = some (us.getD (2 * i % 5) "") := by
              unfold evr
              rw [List.getElem?_map, List.getElem?_range li]
              rfl
            refine ⟨rfl, _, rfl, _, rfl, _, _, rfl, rfl, by unfold CMul; omega, .inl ⟨_, rfl, _, _, rfl, rfl, by show (0 : Int) < 5; decide, a, _, _, .str (us.getD (2 * i % 5) ""), rfl, rfl, SqT.of (s9 _ _ (s07 _ _ ha)), at_of (j := 2 * i % 5) (by omega) e1, ?_⟩⟩
            refine ⟨_, eD, ?_, fun c o e => by rw [upd_ne (ne_of_none e hD)]; exact s9 _ _ e, ?_⟩
            · rw [List.length_map, List.length_take, sizeLine_eq]; omega
            · rw [upd_same, take_snoc e2, List.map_append]; rfl
          · rintro H9 ⟨s9, eD⟩
            rw [List.take_of_length_le (show (evr us).length ≤ ((5 : Int)).toNat from by unfold evr; rw [List.length_map, List.length_range]; decide)] at eD
            exact ⟨D, _, rfl, .inl ⟨SqL.of eD, fun l hl => key _ _ ⟨s9.trans (Same.new hl), l, rfl, upd_same⟩⟩⟩
      · rw [decide_eq_false l5]
        refine ite2 (fun _ => ⟨_, rfl, key _ _ ⟨Same.refl _, a, rfl, ?_⟩⟩) (fun z => absurd rfl z)
        rw [if_neg fun h => l5 h.1]
        exact s07 _ _ ha
    obtain rfl := ey
    have W := W.same s9
    have s09 := s07.trans s9
    clear s9 s07
    have l1000 : us.length < 1000 := by omega
    refine ⟨_, rfl, us.length, rfl, by omega, by omega, ?_⟩
    refine for_it walk_range (fun i σ H' => Same H9 H' ∧ ∃ o7 o9 o10 : Option V, σ = [some (.ref a), some (.bl b), some (.ref x), some (.int (us.length : Nat)), some (.bl bad), o5, some (.str (formS us b)), o7, some (.ref l), o9, o10]) ⟨Same.refl _, none, none, none, rfl⟩ (fun _ _ _ _ _ => trivial) ?_ ?_
    · rintro i y σ HA HB hi ⟨sA, o7, o9, o10, rfl⟩ ⟨rfl, rfl⟩
      have li : i < us.length := by omega
      have tp := told_perm (us := us) (b := b)
      have hlA := sA _ _ hl
      refine ⟨_, rfl, _, rfl, _, rfl, l, _, rfl, hlA, fun c1 Ha sa ea => ?_⟩
      refine ⟨_, rfl, _, rfl, _, rfl, l, _, rfl, sa _ _ hlA, fun c2 Hb sb eb => ?_⟩
      rw [show (0 + (i : Int)) = (i : Int) from by omega] at ea eb
      rw [cutV_from, ← List.map_drop] at ea
      rw [cutV_to, ← List.map_take] at eb
      refine ⟨c1, c2, _, _, rfl, rfl, sb _ _ ea, eb, by rw [List.length_map, List.length_map, List.length_drop, List.length_take, tp.length_eq, sizeLine_eq]; omega, fun c Hc sc ec => ?_⟩
      rw [← List.map_append] at ec
      have sAc := sA.trans (sa.trans (sb.trans sc))
      have pmr : ((toldL us b).drop i ++ (toldL us b).take i).Perm us := by
        refine List.perm_append_comm.trans ?_
        rw [List.take_append_drop]
        exact tp
      have cyr : us.length = 5 ∨ us.length = 7 → CycL (tT us b tie) ((toldL us b).drop i ++ (toldL us b).take i) := fun h => cyc_rot (told_cyc T nd ht cy h) i (by rw [tp.length_eq]; omega)
      generalize (toldL us b).drop i ++ (toldL us b).take i = w at ec pmr cyr
      refine ⟨_, rfl, _, rfl, _, rfl, rfl, c, _, rfl, SqT.of ec, fun r hr' => ?_⟩
      have sr := Same.new (o := .tup (w.map V.str).reverse) hr'
      have er : (upd Hc r (.tup (w.map V.str).reverse)) r = some (tupS w.reverse) := by rw [upd_same, ← List.map_reverse]
      have ec := sr _ _ ec
      generalize upd Hc r (.tup (w.map V.str).reverse) = Hd at sr er ec ⊢
      refine ⟨by show 2 ≤ sizeLine; decide, fun u hu => ?_⟩
      have su := Same.new (o := .tup [V.ref c, V.ref r]) hu
      have eu : (upd Hd u (.tup [V.ref c, V.ref r])) u = some (.tup [V.ref c, V.ref r]) := upd_same
      generalize upd Hd u (.tup [V.ref c, V.ref r]) = He at su eu ⊢
      have ec := su _ _ ec
      have er := su _ _ er
      have sAe := sAc.trans (sr.trans su)
      refine ⟨u, rfl, ⟨_, SqT.of eu⟩, ?_⟩
      refine for_it (walk_tup (xs := [V.ref c, V.ref r])) (fun j σ H' => Same He H' ∧ ∃ o10 : Option V, σ = [some (.ref a), some (.bl b), some (.ref x), some (.int (us.length : Nat)), some (.bl bad), o5, some (.str (formS us b)), some (.int (0 + (i : Int))), some (.ref l), some (.ref c), o10]) ⟨Same.refl _, _, rfl⟩ (fun j σ H' _ ⟨s1, _⟩ => SqT.of (s1 _ _ eu)) ?_ ?_
      · rintro j v σ Hf Hg hj ⟨sf, o10, rfl⟩ ⟨rfl, hy⟩
        obtain ⟨m, w2, ev, em, pm2, cy2⟩ : ∃ (m : Addr) (w2 : List Str), v = .ref m ∧ Hg m = some (tupS w2) ∧ w2.Perm us ∧ (us.length = 5 ∨ us.length = 7 → CycL (tT us b tie) w2) := by
          match j, hj, hy with
          | 0, _, hy => exact ⟨c, w, (Option.some.inj hy).symm, sf _ _ ec, pmr, cyr⟩
          | 1, _, hy => exact ⟨r, w.reverse, (Option.some.inj hy).symm, sf _ _ er, (List.reverse_perm w).trans pmr, fun h => cyc_rev (cyr h)⟩
        subst ev
        refine ⟨_, rfl, _, rfl, _, rfl, by show 2 ≤ sizeLine; decide, fun pp hpp => ?_⟩
        have sp := Same.new (o := .tup [V.str (formS us b), V.ref m]) hpp
        refine ⟨x, pp, m, zs, tie, formS us b, w2.map V.str, rfl, W.same (sAe.trans (sf.trans sp)), upd_same, ?_, sp _ _ em, by rw [List.length_map, pm2.length_eq]; omega, fun y hy => ?_, fun r2 Hh sh hr2 => ?_⟩
        · unfold formS
          split <;> decide +kernel
        · obtain ⟨z, _, rfl⟩ := List.mem_map.mp hy
          exact ⟨_, .str _⟩
        have pap := told_pap (tie := tie) (zs := zs) (us := us) (w := w2) (b := b) pm2.length_eq (fun z hz => pm.mem_iff.mpr (pm2.mem_iff.mp hz)) (pm2.nodup_iff.mpr nd) cy2
        obtain rfl : r2 = bad := by
          rw [hbad, Bool.eq_iff_iff, decide_eq_true_iff]
          exact hr2.trans pap
        refine ⟨_, rfl, rfl, _, rfl, ?_⟩
        rw [show (!decide (V.bl r2 = V.bl r2)) = false from by simp]
        exact ite2 (fun z => by cases z) (fun _ => ⟨sf.trans (sp.trans sh), _, rfl⟩)
      · rintro σ Hf ⟨sf, o10, rfl⟩
        exact ⟨sAe.trans sf, _, _, _, rfl⟩
    · rintro σ HA ⟨sA, o7, o9, o10, rfl⟩
      have W := W.same sA
      have s0A := s09.trans sA
      refine ⟨_, rfl, _, rfl, ?_⟩
      by_cases c : us.length = 5 ∨ us.length = 7
      · rw [hbad, decide_eq_true c]
        refine ⟨_, rfl, ite2 (fun z => by cases z) (fun _ => ?_)⟩
        have fz := ring_first T ht2 asc pm nd cy c
        have tc := told_cyc T nd ht cy c
        refine ⟨_, rfl, x, zs, tie, rfl, W, ⟨zs, List.Sublist.refl _, fz.2.1⟩, fun p r g nm t2 HB sB fr hn rr gr ep => ?_⟩
        obtain ⟨eg, en, pap⟩ := way_pap T pm asc.nd c tc asc fz fr hn rr
        refine ⟨p, _, _, _, rfl, rfl, SqT.of ep, rfl, _, rfl, rfl, _, rfl, ?_⟩
        rw [decide_eq_true (congrArg V.str en)]
        refine ite2 (fun _ => ?_) (fun z => absurd rfl z)
        have W := W.same sB
        refine ⟨_, rfl, _, rfl, x, zs, tie, rfl, W, ⟨zs, List.Sublist.refl _, fz.2.1⟩, fun p2 r2 g2 nm2 t3 HC sC fr2 hn2 rr2 gr2 ep2 => ?_⟩
        obtain ⟨eg2, en2, pap2⟩ := way_pap T pm asc.nd c tc asc fz fr2 hn2 rr2
        have wl : (wayG t3 g2).length = zs.length := by
          rw [eg2] at rr2 ⊢
          exact (way_perm (by rcases hn2 with ⟨_, e⟩ | ⟨_, _, e⟩ <;> rw [e]; exact T; exact tieTurn_tie T) asc.nd rr2).length_eq
        have lz := pm.length_eq
        refine ⟨x, p2, r2, zs, tie, nm2, (wayG t3 g2).map V.str, rfl, W.same sC, ep2, ?_, gr2, by rw [List.length_map]; omega, fun y hy => ?_, fun r3 HD sD h3 => ?_⟩
        · rw [en2]
          unfold formS
          split <;> decide +kernel
        · obtain ⟨z, _, rfl⟩ := List.mem_map.mp hy
          exact ⟨_, .str _⟩
        · obtain rfl : r3 = true := h3.mpr pap2
          exact k HD (s0A.trans (sB.trans (sC.trans sD)))
      · rw [hbad, decide_eq_false c]
        exact ⟨_, rfl, ite2 (fun _ => k HA s0A) (fun z => absurd rfl z)⟩
end
end V0
namespace V0
open PySem PySem.Spec PyProof.Rows L2
/-- what the text says of the class -/
structure ClsW (K : PySem.W.Frag) (mg : Str → Option Value) (C : Addr) (ad : Nat → Addr) (fdd : Nat → FuncData) : Prop where
  KWeb : Kls K mg "Web" C
  N : WbN K C
  Y_init : WbK K C (ad 0) (fdd 0) s_Web_init P_Web_init
  Y_things : Pr K "Web.things" "things" C s_Web_things P_Web_things (ad 11) (ad 1) (fdd 1)
  Y_conflicts : Pr K "Web.conflicts" "conflicts" C s_Web_conflicts P_Web_conflicts (ad 12) (ad 2) (fdd 2)
  Y_beside : Md K "Web.beside" "beside" C s_Web_beside P_Web_beside (ad 3) (fdd 3)
  Y_are_tied : Md K "Web.are_tied" "are_tied" C s_Web_are_tied P_Web_are_tied (ad 4) (fdd 4)
  Y_without : MdS K "Web.without" "without" C s_Web_without ["self"] "things" (ad 5) (fdd 5)
  Y_part : Md K "Web.part" "part" C s_Web_part P_Web_part (ad 6) (fdd 6)
  Y_turned : Md K "Web.turned" "turned" C s_Web_turned P_Web_turned (ad 7) (fdd 7)
  Y_invert : Md K "Web.__invert__" "__invert__" C s_Web_invert P_Web_invert (ad 8) (fdd 8)
  Y_contains : Md K "Web.__contains__" "__contains__" C s_Web_contains P_Web_contains (ad 9) (fdd 9)
  Y_iter : Md K "Web.__iter__" "__iter__" C s_Web_iter P_Web_iter (ad 10) (fdd 10)
/-- all that the text says of itself -/
structure AllW (K : PySem.W.Frag) (mg : Str → Option Value) (C : Addr) (ad : Nat → Addr) (fdd : Nat → FuncData) (bd : Nat → Addr) (bdd : Nat → FuncData) : Prop extends ClsW K mg C ad fdd where
  B : Bl mg
  M : Bm mg
  CN : Nm mg
  RK : ∃ ra, Rgs K mg ra
  TN : GV mg "_TURNED" (.int 7)
  DR : DfS K mg "round_web" s_round_web ["names"] "steps" (bd 0) (bdd 0)
  D_is_whole : Df K mg "is_whole" s_is_whole P_is_whole (bd 1) (bdd 1)
  D_is_integer : Df K mg "is_integer" s_is_integer P_is_integer (bd 2) (bdd 2)
  D_is_name : Df K mg "is_name" s_is_name P_is_name (bd 3) (bdd 3)
  D_is_group_of : Df K mg "is_group_of" s_is_group_of P_is_group_of (bd 4) (bdd 4)
  D_has_shape : Df K mg "has_shape" s_has_shape P_has_shape (bd 5) (bdd 5)
  D_check_web : Df K mg "check_web" s_check_web P_check_web (bd 6) (bdd 6)
  D_check_thing : Df K mg "check_thing" s_check_thing P_check_thing (bd 7) (bdd 7)
  D_check_group : Df K mg "check_group" s_check_group P_check_group (bd 8) (bdd 8)
  D_check_names : Df K mg "check_names" s_check_names P_check_names (bd 9) (bdd 9)
  D__are_conflicts : Df K mg "_are_conflicts" s__are_conflicts P__are_conflicts (bd 10) (bdd 10)
  D__is_conflict : Df K mg "_is_conflict" s__is_conflict P__is_conflict (bd 11) (bdd 11)
  D__partners : Df K mg "_partners" s__partners P__partners (bd 12) (bdd 12)
  D_groups : Df K mg "groups" s_groups P_groups (bd 13) (bdd 13)
  D_is_good : Df K mg "is_good" s_is_good P_is_good (bd 14) (bdd 14)
  D_spoiled_group : Df K mg "spoiled_group" s_spoiled_group P_spoiled_group (bd 15) (bdd 15)
  D_good_paper : Df K mg "good_paper" s_good_paper P_good_paper (bd 16) (bdd 16)
  D_is_good_paper : Df K mg "is_good_paper" s_is_good_paper P_is_good_paper (bd 17) (bdd 17)
  D_is_spoiled_paper : Df K mg "is_spoiled_paper" s_is_spoiled_paper P_is_spoiled_paper (bd 18) (bdd 18)
  D__spoiled_paper : Df K mg "_spoiled_paper" s__spoiled_paper P__spoiled_paper (bd 19) (bdd 19)
  D__ring : Df K mg "_ring" s__ring P__ring (bd 20) (bdd 20)
  D__ring_places : Df K mg "_ring_places" s__ring_places P__ring_places (bd 21) (bdd 21)
  D__knots_by_size : Df K mg "_knots_by_size" s__knots_by_size P__knots_by_size (bd 22) (bdd 22)
  D__first_within : Df K mg "_first_within" s__first_within P__first_within (bd 23) (bdd 23)
  D__are_good_knots : Df K mg "_are_good_knots" s__are_good_knots P__are_good_knots (bd 24) (bdd 24)
  D_are_tied : Df K mg "_law_are_tied" s_are_tied P_are_tied (bd 25) (bdd 25)
  D_all_groups : Df K mg "_law_all_groups" s_all_groups P_all_groups (bd 26) (bdd 26)
  D_lis_loose : Df K mg "_law_is_loose" s_lis_loose P_lis_loose (bd 27) (bdd 27)
  D_colour_table : Df K mg "_law_colour_table" s_colour_table P_colour_table (bd 28) (bdd 28)
  D_knot_sizes : Df K mg "_law_knot_sizes" s_knot_sizes P_knot_sizes (bd 29) (bdd 29)
  D_spoiled : Df K mg "_law_spoiled" s_spoiled P_spoiled (bd 30) (bdd 30)
  D_pot : Df K mg "_law_pot" s_pot P_pot (bd 31) (bdd 31)
  D_stir : Df K mg "_law_stir" s_stir P_stir (bd 32) (bdd 32)
  D_one_of : Df K mg "_law_one_of" s_one_of P_one_of (bd 33) (bdd 33)
  D_shuffled : Df K mg "_law_shuffled" s_shuffled P_shuffled (bd 34) (bdd 34)
  D_some_of : Df K mg "_law_some_of" s_some_of P_some_of (bd 35) (bdd 35)
  D_words : Df K mg "_law_words" s_words P_words (bd 36) (bdd 36)
  D_all_pairs : Df K mg "_law_all_pairs" s_all_pairs P_all_pairs (bd 37) (bdd 37)
  D_plain : Df K mg "_law_plain" s_plain P_plain (bd 38) (bdd 38)
  D_nearly : Df K mg "_law_nearly" s_nearly P_nearly (bd 39) (bdd 39)
  D_made_web : Df K mg "_law_made_web" s_made_web P_made_web (bd 40) (bdd 40)
  D_round_plain : Df K mg "_law_round_plain" s_round_plain P_round_plain (bd 41) (bdd 41)
  D_ring_right : Df K mg "_law_ring_right" s_ring_right P_ring_right (bd 42) (bdd 42)
  D_near_right : Df K mg "_law_near_right" s_near_right P_near_right (bd 43) (bdd 43)
end V0

namespace V0
open PySem PySem.Spec PyProof.Rows L2
def u3 : List Str := ["a", "b", "c"]
theorem nz3 : Nz u3 := nzOf (by decide +kernel)
theorem ascu3 : Asc u3 := by unfold Asc; decide +kernel
theorem sg3 : (signsV "abc" : List V) = u3.map V.str := by decide +kernel
def t81 : Str → Str → Bool := tieP (ringP u8 [1])
def t3 : Str → Str → Bool := tieP (ringP u3 [1, 2])
theorem f81 (T : Tie t81) : ∀ g : Gr, g.Sublist u8 → ¬ RG t81 g := none_known ascu8 T (by decide +kernel)
theorem f3 (T : Tie t3) : ∀ g : Gr, g.Sublist u3 → ¬ RG t3 g := none_known ascu3 T (by decide +kernel)
section
variable {P : Program} {w : World} {K : PySem.W.Frag} {mg : Str → Option Value} {base : Heap} {C : Addr} {ad : Nat → Addr} {fdd : Nat → FuncData} {bd : Nat → Addr} {bdd : Nat → FuncData}
abbrev s_law : Stmt := top 71
abbrev N_law : List Str := ["_law_script", "_law_at", "_law_pot_here", "_law_line", "_law_is_turned", "_law_eight"]
abbrev P_law : List Str := ["_law_script"]
theorem sc_law : FnScope N_law P_law (defScope s_law) := ⟨rfl, rfl, rfl, by decide +kernel, rfl, by decide +kernel, by decide +kernel⟩
theorem law_body (Z : AllW K mg C ad fdd bd bdd) {f : Addr} {cdv : Value} {A : Around} {outer : List Env} {s : Shared} {H : Hp} {Q : VK} {a : Addr} {ns : List Int}
    (hr : Room 20 (A.deeper (envOfC "law" (defScope s_law) s.heap.objs.size f cdv))) (hS : SqL K H a (ns.map V.int)) (hlen : ns.length ≤ 63) (k : ∀ H', Q (.bl true) H') :
    ∃ t, PSs (cxOf CX0 P w K mg base N_law "law" (defScope s_law) f cdv A outer s H E0).nox (defBody s_law) t ∧ t { nx := fun _ H' => Q .non H', rt := Q } (L2.start N_law [.ref a]) H := by
  have B := Z.B
  have M := Z.M
  have KWeb := Z.KWeb
  have N := Z.N
  have Y_init := Z.Y_init
  have D_round_web := Z.DR
  obtain ⟨ra, RK⟩ := Z.RK
  have O_cont : OwnM P w K mg base CX0 1 C "__contains__" (spContW C) := md_own Z.Y_contains (ok_contW B KWeb N Z.Y_contains)
  have O_contA : OwnM P w K mg base CX0 1 C "__contains__" (spContAny C) := md_own Z.Y_contains (ok_contAny B KWeb N Z.Y_contains)
  have O_iter : ItM P w K mg base 1 C "_things" := ok_iterW M KWeb N Z.Y_iter
  have G_Web_things : FnOk P w K mg base CX0 1 _ _ P_Web_things (spThW C) := ok_thW KWeb N Z.Y_things
  have G_Web_init : FnOk P w K mg base CX0 4 _ _ P_Web_init (spWeb C) := ok_web B M Z.CN KWeb N Z.D_is_name Z.D_check_names Z.D__is_conflict Z.D__are_conflicts Z.D__partners Y_init
  have G_Web_beside : FnOk P w K mg base CX0 3 _ _ P_Web_beside (spBesideW C) := ok_besideW KWeb N O_cont Z.D_check_thing Z.Y_beside
  have G_Web_are_tied : FnOk P w K mg base CX0 3 _ _ P_Web_are_tied (spTied C) := ok_tied KWeb N O_cont Z.D_check_thing Z.Y_are_tied
  have G_Web_turned : FnOk P w K mg base CX0 6 _ _ P_Web_turned (spTurn C) := ok_turn B KWeb N Y_init G_Web_init Z.Y_turned
  have O_inv : OwnM P w K mg base CX0 7 C "__invert__" (spTurn C) := md_own Z.Y_invert (ok_inv B KWeb Z.Y_turned G_Web_turned Z.Y_invert)
  have G_round_web : FnR P w K mg base CX0 6 _ (spStar 1 (spRound C)) := ok_round B M Z.CN KWeb Y_init G_Web_init Z.D_is_whole Z.D_is_integer Z.D_is_name Z.D_check_names Z.DR
  have G_groups : FnOk P w K mg base CX0 3 _ _ P_groups (spGroups C) := ok_groups B M KWeb N Z.Y_things Z.D_check_web Z.D_groups
  have G_without : FnR P w K mg base CX0 7 _ (spStar 1 (spWout C)) := ok_wout B KWeb N O_cont Z.D_check_thing Z.Y_part (ok_partW B KWeb N Y_init G_Web_init Z.D_check_group (ok_check_group B M KWeb N Z.Y_things Z.D_is_group_of Z.D_check_group) Z.Y_part) Z.Y_without
  have G_check_group : FnOk P w K mg base CX0 3 _ _ P_check_group (spCheckGroup C) := ok_check_group B M KWeb N Z.Y_things Z.D_is_group_of Z.D_check_group
  have G_Web_part : FnOk P w K mg base CX0 6 _ _ P_Web_part (spPartW C) := ok_partW B KWeb N Y_init G_Web_init Z.D_check_group G_check_group Z.Y_part
  have G__ring : FnOk P w K mg base CX0 4 _ _ P__ring (spRing C) := ok_ring B M KWeb Z.Y_beside G_Web_beside Z.D__ring
  have G__spoiled_paper : FnOk P w K mg base CX0 7 _ _ P__spoiled_paper (spSpPaper C) := ok_spPaper B M RK KWeb Z.D_groups G_groups Z.Y_turned G_Web_turned Z.D__ring G__ring Z.D__spoiled_paper
  have G_spoiled_group0 : FnOk P w K mg base CX0 8 _ _ P_spoiled_group (spSpoiled C) := ok_spoiled B M Z.D__spoiled_paper G__spoiled_paper Z.D_spoiled_group
  have G_spoiled_group : FnOk P w K mg base CX0 8 _ _ P_spoiled_group (spSpoW2 C) := ok_spoW2 G_spoiled_group0
  have G_is_good : FnOk P w K mg base CX0 9 _ _ P_is_good (spIsGood C) := ok_isgood B Z.D_spoiled_group G_spoiled_group0 Z.D_is_good
  have G_has_shape : FnOk P w K mg base CX0 4 _ _ P_has_shape (spShapeG C) := ok_shapeG (f2 := 0) (fd2 := fdd 0) B M KWeb O_contA Z.Y_are_tied G_Web_are_tied Z.D_has_shape
  have G_is_spoiled_paper : FnOk P w K mg base CX0 7 _ _ P_is_spoiled_paper (spIsSpP C) := ok_isSpP B RK Z.TN KWeb Z.D_check_web Z.D_has_shape G_has_shape Z.D__ring_places Z.Y_turned G_Web_turned Z.D_is_spoiled_paper
  have G_is_good_paper : FnOk P w K mg base CX0 8 _ _ P_is_good_paper (spIsGP C) := ok_isGP B KWeb Z.D_check_web Z.D_is_spoiled_paper G_is_spoiled_paper Z.D__are_good_knots Z.D_is_good_paper
  have G_good_paper : FnOk P w K mg base CX0 8 _ _ P_good_paper (spGoodPB C) := ok_goodPB B Z.D__spoiled_paper G__spoiled_paper Z.D__knots_by_size Z.D_groups Z.D__first_within Z.D_good_paper
  have G_pot : FnOk P w K mg base CX0 1 _ _ P_pot (spPot K) := ok_pot B Z.D_pot
  have G_stir : FnOk P w K mg base CX0 1 _ _ P_stir spStir := ok_stir B Z.D_stir
  have G_words : FnOk P w K mg base CX0 3 _ _ P_words spWords := ok_words B M Z.D_stir Z.D_shuffled Z.D_words
  have G_shuffled : FnOk P w K mg base CX0 2 _ _ P_shuffled spShufQ := ok_shufQ B Z.D_stir Z.D_shuffled
  have G_some_of : FnOk P w K mg base CX0 2 _ _ P_some_of spSomeN := ok_some_n B Z.D_stir Z.D_some_of
  have G_all_pairs : FnOk P w K mg base CX0 1 _ _ P_all_pairs spAllPairs := ok_all_pairs B M Z.D_all_pairs
  have G_plain : FnOk P w K mg base CX0 1 _ _ P_plain spPlain := ok_plain B M Z.D_plain
  have G_nearly : FnOk P w K mg base CX0 3 _ _ P_nearly spNearly := ok_nearly B M Z.D_stir Z.D_one_of Z.D_all_pairs Z.D_plain Z.D_nearly
  have G_round_plain : FnOk P w K mg base CX0 2 _ _ P_round_plain spRndP := ok_rndP B M Z.D_plain G_plain Z.D_all_pairs G_all_pairs Z.D_round_plain
  have G_made_web : FnOk P w K mg base CX0 6 _ _ P_made_web (spMade C) := ok_made B KWeb Y_init G_Web_init Z.D_made_web
  have G_lis_loose : FnOk P w K mg base CX0 2 _ _ P_lis_loose spLLoose := ok_lloose B Z.D_all_pairs G_all_pairs Z.D_are_tied Z.D_lis_loose
  have G_colour_table : FnOk P w K mg base CX0 3 _ _ P_colour_table spColTab := ok_coltab B Z.D_all_groups Z.D_lis_loose G_lis_loose Z.D_colour_table
  have G_knot_sizes : FnOk P w K mg base CX0 2 _ _ P_knot_sizes spKsz := ok_ksz B Z.D_all_groups Z.D_are_tied Z.D_knot_sizes
  have G_spoiled0 : FnOk P w K mg base CX0 4 _ _ P_spoiled spSpoL := ok_spoL B M Z.D_colour_table G_colour_table Z.D_knot_sizes G_knot_sizes Z.D_spoiled
  have G_spoiled : FnOk P w K mg base CX0 4 _ _ P_spoiled spSpoL2 := ok_spoL2 G_spoiled0
  have G_near_right : FnOk P w K mg base CX0 10 _ _ P_near_right spNearR := ok_nearR B M Z.D_nearly G_nearly Z.D_made_web G_made_web Z.D_round_plain G_round_plain Z.D_spoiled G_spoiled Z.D_spoiled_group G_spoiled_group Z.D_some_of G_some_of Z.D_plain G_plain Z.D_near_right
  have G_ring_right : FnOk P w K mg base CX0 10 _ _ P_ring_right spRngR := ok_rngR B M KWeb O_iter Z.Y_things G_Web_things Z.D_made_web G_made_web Z.D_round_plain G_round_plain Z.D_is_good G_is_good Z.D_spoiled_group G_spoiled_group Z.Y_without G_without Z.D_is_good_paper G_is_good_paper Z.D_good_paper G_good_paper Z.D_ring_right
  have D_is_good := Z.D_is_good
  have D_pot := Z.D_pot
  have D_stir := Z.D_stir
  have D_words := Z.D_words
  have D_shuffled := Z.D_shuffled
  have D_ring_right := Z.D_ring_right
  have D_near_right := Z.D_near_right
  refine ⟨_, (pss_cons (ps_for PassesOwn.never rfl (pi_range1 rfl B.b_range (pa_cons (pe_callB (call_max2 rfl) (by rfl) B.b_max (by decide +kernel) (pa_cons pe_int (pa_cons (pe_callB (call_min2 rfl) (by rfl) B.b_min (by decide +kernel) (pa_cons pe_int (pa_cons (pe_callB call_len (by rfl) B.b_len (by decide +kernel) (pa_cons (pv 0) pa_nil)) pa_nil))) pa_nil))) pa_nil)) (pg_name (i := 1) sc_law.nd rfl (Or.inl rfl)) (pss_cons (ps_set (i := 2) sc_law.nd rfl (Or.inl rfl) (pe_call G_pot (hr.mono (by decide)) (by rfl) D_pot.g D_pot.F.kp D_pot.b .nil pass0 (pa_cons (pv 0) (pa_cons (pv 1) pa_nil))))
      (pss_cons (ps_set (i := 3) sc_law.nd rfl (Or.inl rfl) (pe_callTy call_tuple_of (by rfl) B.b_tuple (by decide +kernel) (pa_cons (pe_call G_shuffled (hr.mono (by decide)) (by rfl) D_shuffled.g D_shuffled.F.kp D_shuffled.b .nil pass0 (pa_cons (pv 2) (pa_cons (pe_call G_words (hr.mono (by decide)) (by rfl) D_words.g D_words.F.kp D_words.b .nil pass0 (pa_cons (pv 2) (pa_cons (pe_op op_add pe_int (pe_call G_stir (hr.mono (by decide)) (by rfl) D_stir.g D_stir.F.kp D_stir.b .nil pass0 (pa_cons (pv 2) (pa_cons pe_int pa_nil)))) pa_nil))) pa_nil))) pa_nil)))
      (pss_cons (ps_for PassesOwn.never rfl (pi_tup (pe_tup (pa_cons pe_bl (pa_cons pe_bl pa_nil)))) (pg_name (i := 4) sc_law.nd rfl (Or.inl rfl)) (pss_one (ps_if (pt_not (pt_val (pe_call G_ring_right (hr.mono (by decide)) (by rfl) D_ring_right.g D_ring_right.F.kp D_ring_right.b .nil pass0 (pa_cons (pv 3) (pa_cons (pv 4) pa_nil))))) (pss_one (ps_ret pe_bl)) pss_nil)))
      (pss_one (ps_if (pt_not (pt_val (pe_call G_near_right (hr.mono (by decide)) (by rfl) D_near_right.g D_near_right.F.kp D_near_right.b .nil pass0 (pa_cons (pv 2) (pa_cons (pe_slice sl_tupB (pv 3) po_none (po_some pe_int)) (pa_cons (pe_cmpR op_eq (pe_call G_stir (hr.mono (by decide)) (by rfl) D_stir.g D_stir.F.kp D_stir.b .nil pass0 (pa_cons (pv 2) (pa_cons pe_int pa_nil))) pe_int (nomark _)) pa_nil)))))) (pss_one (ps_ret pe_bl)) pss_nil))))))
      (pss_cons (ps_set (i := 5) sc_law.nd rfl (Or.inl rfl) (pe_callP G_round_web (hr.mono (by decide)) (by rfl) D_round_web.g D_round_web.F.kp pass0 (pa_cons (pe_callTy (cr_tupStr rfl) (by rfl) B.b_tuple (by decide +kernel) (pa_cons pe_str pa_nil)) (pa_cons pe_int pa_nil))))
      (pss_one (ps_ret (pe_and (pe_call G_is_good (hr.mono (by decide)) (by rfl) D_is_good.g D_is_good.F.kp D_is_good.b .nil pass0 (pa_cons (pv 5) pa_nil)) (pe_and (pe_call G_is_good (hr.mono (by decide)) (by rfl) D_is_good.g D_is_good.F.kp D_is_good.b .nil pass0 (pa_cons (pe_un (un_invO O_inv (hr.mono (by decide)) pass0) (pv 5)) pa_nil)) (pe_and (pe_call G_is_good (hr.mono (by decide)) (by rfl) D_is_good.g D_is_good.F.kp D_is_good.b .nil pass0 (pa_cons (pe_callP G_round_web (hr.mono (by decide)) (by rfl) D_round_web.g D_round_web.F.kp pass0 (pa_cons (pe_callTy (cr_tupStr rfl) (by rfl) B.b_tuple (by decide +kernel) (pa_cons pe_str pa_nil)) (pa_cons pe_int (pa_cons pe_int pa_nil)))) pa_nil)) (pe_one (pe_not (pe_call G_is_good (hr.mono (by decide)) (by rfl) D_is_good.g D_is_good.F.kp D_is_good.b .nil pass0 (pa_cons (pe_callP G_round_web (hr.mono (by decide)) (by rfl) D_round_web.g D_round_web.F.kp pass0 (pa_cons (pe_callTy (cr_tupStr rfl) (by rfl) B.b_tuple (by decide +kernel) (pa_cons pe_str pa_nil)) (pa_cons pe_int (pa_cons pe_int pa_nil)))) pa_nil))))))))))), ?_⟩
  refine ⟨_, rfl, _, (ns.map V.int).length, rfl, .inl ⟨_, hS, rfl⟩, _, _, rfl, _, _, rfl, ?_⟩
  have hll : (ns.map V.int).length = ns.length := List.length_map _
  generalize hj : (if (if ((ns.map V.int).length : Int) < 2 then ((ns.map V.int).length : Int) else 2) > 1 then (if ((ns.map V.int).length : Int) < 2 then ((ns.map V.int).length : Int) else 2) else 1) = j
  have j0 : 1 ≤ j := by rw [← hj]; split <;> omega
  have j1 : j ≤ 2 := by rw [← hj]; split <;> (try split) <;> omega
  refine ⟨j, rfl, by omega, by omega, ?_⟩
  refine for_it walk_range (fun i σ H' => Same H H' ∧ ∃ x1 x2 x3 x4 : Option V, σ = [some (.ref a), x1, x2, x3, x4, none]) ⟨Same.refl H, _, _, _, _, rfl⟩ (fun _ _ _ _ _ => trivial) ?_ ?_
  · rintro i y σ H0 H0' hi ⟨s0, x1, x2, x3, x4, rfl⟩ ⟨rfl, rfl⟩
    refine ⟨_, rfl, _, rfl, a, ns, i, by show [V.ref a, V.int ((0 : Int) + i)] = _; rw [Int.zero_add], Same.seq s0 hS, by omega, by omega, fun p H1 hpn hp1 s1 => ?_⟩
    refine ⟨_, rfl, _, rfl, _, rfl, p, 5, rfl, hp1, by decide, by decide, fun r H2 r0 r1 p2 b2 => ⟨_, _, rfl, rfl, ?_⟩⟩
    refine ⟨p, 3 + r.toNat, by show [V.ref p, V.int (3 + r)] = _; rw [show (3 + r : Int) = ((3 + r.toNat : Nat) : Int) from by omega], p2, by omega, by omega, fun t ws H3 hws wl et nt p3 b3 => ?_⟩
    refine ⟨p, t, ws.map V.str, rfl, p3, tup_np et p3, .inr et, by rw [List.length_map]; omega, fun q ys H4 pmv eq nqp nq p4 b4 => ?_⟩
    obtain ⟨us, rfl, pmu⟩ := map_perm pmv
    have nz : Nz us := (ws_nz hws (by omega) (by omega)).perm pmu
    have lu : us.length = 3 + r.toNat := by rw [pmu.length_eq, wl]
    have nm : ("more" : Str) ∉ us := fun h => (by decide +kernel : ("more" : Str) ∉ wordsL) (hws.sub _ (pmu.mem_iff.mp h))
    refine ⟨q, _, rfl, .inl ⟨SqL.of eq, fun c hc => ?_⟩⟩
    have s5 := Same.new (o := .tup (us.map V.str)) hc
    have ec : (upd H4 c (.tup (us.map V.str))) c = some (tupS us) := upd_same
    have p5 := p4.same s5
    have b15 := (b2.trans (b3.trans b4)).trans (But.of s5)
    generalize upd H4 c (.tup (us.map V.str)) = H5 at s5 ec p5 b15 ⊢
    clear s5 p4 b4 hc eq pmv nqp nq p3 b3 et nt b2 hws wl pmu p2
    refine ⟨by show 2 ≤ sizeLine; decide, fun u hu => ?_⟩
    have s6 := Same.new (o := .tup [V.bl false, V.bl true]) hu
    have eu : (upd H5 u (.tup [V.bl false, V.bl true])) u = some (.tup [V.bl false, V.bl true]) := upd_same
    have ec := s6 _ _ ec
    have p6 := p5.same s6
    have b16 := b15.trans (But.of s6)
    generalize upd H5 u (.tup [V.bl false, V.bl true]) = H6 at s6 eu ec p6 b16 ⊢
    clear s6 hu b15 p5
    refine ⟨u, rfl, ⟨_, SqT.of eu⟩, ?_⟩
    refine for_it (walk_tup (xs := [V.bl false, V.bl true])) (fun j σ H' => Same H6 H' ∧ ∃ o4 : Option V, σ = [some (.ref a), some (.int (0 + (i : Int))), some (.ref p), some (.ref c), o4, none]) ⟨Same.refl _, _, rfl⟩ (fun j σ H' _ ⟨s7, _⟩ => SqT.of (s7 _ _ eu)) ?_ ?_
    · rintro j v σ H7 H8 hj ⟨s7, o4, rfl⟩ ⟨rfl, hy⟩
      obtain ⟨b, rfl⟩ : ∃ b : Bool, v = .bl b := by
        match j, hj, hy with
        | 0, _, hy => exact ⟨false, (Option.some.inj hy).symm⟩
        | 1, _, hy => exact ⟨true, (Option.some.inj hy).symm⟩
      refine ⟨_, rfl, _, rfl, c, us, b, rfl, s7 _ _ ec, nz, by omega, by omega, fun H9 s9 => ⟨_, rfl, ite2 (fun z => by cases z) (fun _ => ?_)⟩⟩
      exact ⟨s7.trans s9, _, rfl⟩
    rintro σ H7 ⟨s7, o4, rfl⟩
    have p7 := p6.same s7
    have b17 := b16.trans (But.of s7)
    have ec := s7 _ _ ec
    refine ⟨_, rfl, _, rfl, _, rfl, c, _, rfl, ec, fun d H8 s8 ed => ?_⟩
    rw [show cutV (us.map V.str) none (some 6) = (us.take 6).map V.str from by rw [show (6 : Int) = ((6 : Nat) : Int) from rfl, cutV_to, List.map_take]] at ed
    have p8 := p7.same s8
    refine ⟨_, rfl, p, 2, rfl, p8, by decide, by decide, fun r2 H9 _ _ p9 b9 => ⟨rfl, ?_⟩⟩
    have ed := b9 _ _ ed (tup_np ed p8)
    have sub6 : (us.take 6).Sublist us := List.take_sublist 6 us
    have l6 : (us.take 6).length ≤ 6 := by rw [List.length_take]; omega
    have l3 : 3 ≤ (us.take 6).length := by rw [List.length_take]; omega
    have nz6' : Nz (us.take 6) := ⟨nz.nd.sublist sub6, fun z h => nz.nm z (sub6.subset h), by omega, by omega⟩
    refine ⟨p, d, us.take 6, _, rfl, p9, ed, nz6', l3, l6, fun h => nm (sub6.subset h), fun HA pA bA => ⟨_, rfl, ite2 (fun z => by cases z) (fun _ => ?_)⟩⟩
    have sE := s0.trans (Same.of_but s1 (b17.trans ((But.of s8).trans (b9.trans bA))) hpn)
    exact ⟨sE, _, _, _, _, rfl⟩
  rintro σ H1 ⟨s1, x1, x2, x3, x4, rfl⟩
  clear s1 hS hj
  have ok1 : ∀ s ∈ ([1] : List Int), 1 ≤ s ∧ s < 8 := by decide
  have ok2 : ∀ s ∈ ([1, 2] : List Int), 1 ≤ s ∧ s < 8 := by decide
  refine ⟨_, rfl, by decide +kernel, fun t8_ ht8 => ?_⟩
  rw [sg8]
  have e8 : (upd H1 t8_ (.tup (u8.map V.str))) t8_ = some (tupS u8) := upd_same
  generalize upd H1 t8_ (.tup (u8.map V.str)) = H2 at e8 ⊢
  refine ⟨[.ref t8_], [.int 1], rfl, rfl, by show 1 ≤ sizeLine; decide, fun q hq => ⟨t8_, q, u8, [1], rfl, (Same.new hq) _ _ e8, nz8, upd_same, by decide, ok1, fun x zs H3 s3 _ as pm W => ?_⟩⟩
  obtain rfl := asc_one pm as ascu8
  have W : Wbs C H3 x u8 t81 := W
  clear e8 s3 hq ht8
  refine ⟨_, rfl, x, u8, t81, rfl, W, fun b1 H4 s4 ib => ?_⟩
  obtain rfl : b1 = true := ib.mpr (f81 W.t)
  have W := W.same s4
  refine ⟨_, rfl, ite2 (fun _ => ?_) (fun z => absurd rfl z)⟩
  obtain ⟨dx, tx, cx, bx, asx, bsx, wx⟩ := id W.w
  refine ⟨_, rfl, x, dx, _, rfl, wx.at_, x, u8, t81, rfl, W, fun y H5 s5 _ Vy => ?_⟩
  refine ⟨y, u8, tieTurn t81, rfl, Vy, fun b2 H6 s6 ib => ?_⟩
  obtain rfl : b2 = true := ib.mpr fun g hs hg => f81 W.t g hs ((RG.turn W.t).mp hg)
  refine ⟨_, rfl, ite2 (fun _ => ?_) (fun z => absurd rfl z)⟩
  refine ⟨_, rfl, by decide +kernel, fun t3_ ht3 => ?_⟩
  rw [sg3]
  have e3 : (upd H6 t3_ (.tup (u3.map V.str))) t3_ = some (tupS u3) := upd_same
  generalize upd H6 t3_ (.tup (u3.map V.str)) = H7 at e3 ⊢
  refine ⟨[.ref t3_], [.int 1, .int 2], rfl, rfl, by show 2 ≤ sizeLine; decide, fun q hq => ⟨t3_, q, u3, [1, 2], rfl, (Same.new hq) _ _ e3, nz3, upd_same, by decide, ok2, fun x3 zs3 H8 s8 _ as3 pm3 W3 => ?_⟩⟩
  obtain rfl := asc_one pm3 as3 ascu3
  have W3 : Wbs C H8 x3 u3 t3 := W3
  refine ⟨x3, u3, t3, rfl, W3, fun b3 H9 s9 ib => ?_⟩
  obtain rfl : b3 = true := ib.mpr (f3 W3.t)
  refine ⟨_, rfl, ite2 (fun _ => ?_) (fun z => absurd rfl z)⟩
  refine ⟨_, rfl, by decide +kernel, fun t9_ ht9 => ?_⟩
  rw [sg8]
  have e8 : (upd H9 t9_ (.tup (u8.map V.str))) t9_ = some (tupS u8) := upd_same
  generalize upd H9 t9_ (.tup (u8.map V.str)) = HA at e8 ⊢
  refine ⟨[.ref t9_], [.int 1, .int 2], rfl, rfl, by show 2 ≤ sizeLine; decide, fun q hq => ⟨t9_, q, u8, [1, 2], rfl, (Same.new hq) _ _ e8, nz8, upd_same, by decide, ok2, fun x4 zs4 HB sB _ as4 pm4 W4 => ?_⟩⟩
  obtain rfl := asc_one pm4 as4 ascu8
  have W4 : Wbs C HB x4 u8 t8 := W4
  refine ⟨x4, u8, t8, rfl, W4, fun b4 HC sC ib => ?_⟩
  obtain rfl : b4 = false := by
    cases b4 with
    | false => rfl
    | true => exact absurd (f8 W4.t).2.1 (ib.mp rfl _ (f8 W4.t).1)
  exact ⟨_, rfl, k _⟩
end
end V0

namespace V0
open PySem PySem.Spec PyProof.Rows L2
section
variable {P : Program} {w : World} {K : PySem.W.Frag} {mg mb : Str → Option Value}
/-- the law called on its script, from the heap behind the top -/
theorem law_at {k : Nat} {fa a : Addr} {fd : FuncData} {x : Str} {st : Stmt} {N : List Str} {s0 : Shared} {vs : List Value} {ns : List Int} (hK : K.In s0.heap) (hns : s0.heap.Ns mainGlobals mg) (hbl : s0.heap.Ns builtinsNs mb)
    (hbb : ∀ y : Str, y ≠ "__name__" → mb y = bootBuiltins y) (hlim : s0.heap.NoLimit) (hg : s0.gens = #[]) (ha : s0.heap.get? a = some { cls := .type "list", data := .seq vs.toArray }) (hi : IntsAre vs ns) (hl : ns.length ≤ sizeLine)
    (hr : Room (k + 1) callerA) (F : Fun K "law" "law" st fa fd) (S : FnScope N [x] (defScope st)) (hbind : ∀ (s : Shared) (u : Value), BindsTo s fd ⟨[u], []⟩ [(x, u)])
    (body : ∀ (base : Heap) (H : Hp) (cdv : Value), K.In base → base.Ns mainGlobals mg → SqL K H a (ns.map V.int) → Room k (callerA.deeper (envOfC "law" (defScope st) s0.heap.objs.size fa cdv)) →
      ∃ t, PSs (cxOf CX0 P w K mg base N "law" (defScope st) fa cdv callerA [] s0 H E0).nox (defBody st) t ∧ t { nx := fun _ _ => V.non = .bl true, rt := fun v _ => v = .bl true } (L2.start N [.ref a]) H) :
    codeAny (model P w) callerA (.call (.ref fa) ⟨[.ref a], []⟩) (fun r s' => r = .ok (.ret (.bool true)) ∧ OldK s0.heap s'.heap ∧ s'.os = s0.os ∧ AllBare s'.gens) s0 := by
  have rv := vals_ints hi
  have hlen := hi.length
  -- the abstract heap that tracks the script, or nothing
  obtain ⟨H, hO, hS, hok, hA, hKA⟩ : ∃ H : Hp, Only H ∧ SqL K H a (ns.map V.int) ∧ HOk P w H s0.heap ∧ (∀ b, H b ≠ none → b = a) ∧ (H a ≠ none → K.lookup a = none) := by
    cases hk : K.lookup a with
    | some o =>
      have e := hK a o hk
      rw [ha] at e
      cases e
      exact ⟨fun _ => none, fun _ => .inl rfl, .inr ⟨_, vs.toArray, _, hk, rfl, rfl, rfl, by rw [List.size_toArray, hlen]; exact hl, by simpa using rv⟩, (fun b u z => by have z' : (none : Option HO) = some u := z; cases z'), (fun b z => absurd rfl z), fun z => absurd rfl z⟩
    | none =>
      have at1 : ∀ {b : Addr} {u : HO}, (if b = a then some (HO.frz { cls := .type "list", data := .seq vs.toArray } (.lst (ns.map V.int))) else none) = some u → b = a ∧ u = HO.frz { cls := .type "list", data := .seq vs.toArray } (.lst (ns.map V.int)) := fun {b u} z => by
        by_cases hb : b = a
        · rw [if_pos hb] at z
          exact ⟨hb, (Option.some.inj z).symm⟩
        · rw [if_neg hb] at z
          cases z
      refine ⟨fun b => if b = a then some (.frz { cls := .type "list", data := .seq vs.toArray } (.lst (ns.map V.int))) else none, fun b => ?_, .inl (.inr ⟨{ cls := .type "list", data := .seq vs.toArray }, if_pos rfl⟩), fun b u z => ?_, fun b z => ?_, fun _ => rfl⟩
      · by_cases hb : b = a
        · exact .inr ⟨_, _, if_pos hb⟩
        · exact .inl (if_neg hb)
      · obtain ⟨rfl, rfl⟩ := at1 z
        exact ⟨ha, by rw [List.length_map]; exact hl, vs, _, rv, ha⟩
      · by_cases hb : b = a
        · exact hb
        · exact absurd (if_neg hb) z
  have inB : ∀ {b : Addr} {o : Obj}, s0.heap.get? b = some o → H b = none → (hidT s0.heap H).get? b = some o := fun e n => hidT_get e n
  have noD : ∀ {b : Addr} {m : Str → Option Value}, s0.heap.Ns b m → (hidT s0.heap H).Ns b m := fun {b m} ⟨o, es, ep, e, d, r⟩ => by
    refine ⟨o, es, ep, inB e ?_, d, r⟩
    cases q : H b with
    | none => rfl
    | some u =>
      obtain rfl := hA b (by rw [q]; simp)
      rw [ha] at e
      cases e
      cases (d : Data.seq vs.toArray _ = Data.dict es ep)
  have kB : K.In (hidT s0.heap H) := fun b o e => inB (hK b o e) (by
    cases q : H b with
    | none => rfl
    | some u =>
      obtain rfl := hA b (by rw [q]; simp)
      rw [hKA (by rw [q]; simp)] at e
      cases e)
  have hM : Mod K mg (hidT s0.heap H) := ⟨kB, noD hns, ⟨mb, noD hbl, hbb⟩, let ⟨mc, h1, h2⟩ := hlim; ⟨mc, noD h1, h2⟩⟩
  have e0 : Env0 P w K mg (hidT s0.heap H) callerA [] s0 H := ⟨rfl, hM, fun b o e => of_hidT e, Nat.le_of_eq (hidT_size _ _), trivial, fun b hb => absurd (show b ∈ ([] : List Addr) from hb) (by simp), hok, .of_eq hg⟩
  refine codeAny_mono (runs_at (Q := fun v _ => v = .bl true) (us := [Value.ref a]) (vs := [V.ref a]) F S hr e0 (hbind s0 (.ref a)) (.cons rfl .nil) rfl fun cdv hr' => body _ H cdv kB (noD hns) hS hr') fun r s' h => ?_
  cases r with
  | error e => exact h.elim
  | ok fl =>
    cases fl with
    | ret u =>
      obtain ⟨v, H', os, bare, un, hok', r', rfl⟩ := h
      obtain rfl : u = Value.bool true := r'
      refine ⟨rfl, OldK.of_keep fun b o e => ?_, os, bare⟩
      cases q : H b with
      | none => exact un.keep b o e q (fun z => absurd (show b ∈ ([] : List Addr) from z) (by simp)) (by simp)
      | some u =>
        rcases hO b with z | ⟨ob, xs, z⟩
        · rw [q] at z
          cases z
        · obtain ⟨e1, _⟩ := hok b _ z
          obtain ⟨e2, _⟩ := hok' b _ (un.frzs b ob _ z)
          rw [e] at e1
          cases e1
          exact e2
    | next => exact h.elim
    | brk => exact h.elim
    | cont => exact h.elim
end
end V0

namespace V0
open PySem PySem.Spec PyProof.Rows L2
theorem exm_own {K : PySem.W.Frag} {C : Addr} (b : PySem.W.subIn K (.ref C) (.type "BaseException") = some true) (i : PySem.W.isClsIn K C = true) (t : PySem.W.typeIn K (.ref C) = some (.type "type")) (s : PySem.W.subIn K (.ref C) (.ref C) = some true) :
    PySem.W.exmOne K (.ref C) (.ref C) = some true := by
  unfold PySem.W.exmOne PySem.W.kitCls
  simp only [b, t, s]
  unfold PySem.W.isClsIn at i
  simp [i]
section
variable {K : PySem.W.Frag} {h : Heap} {mg : Str → Option Value}
theorem df_mk {x : Str} {st : Stmt} {ps : List Str} {f : Addr} {oc : Value} {od an : Option Addr} {sl : Array (Option Value)} {kV dc pm cd ct : Value} (X : K.In h) (G : h.Ns mainGlobals mg)
    (hb : ∀ (kV doc pm : Value) (an : Option Addr) (cdv ct : Value) (us : List Value), us.length = ps.length → bindArgs (PySem.W.fnOf x x (defArgs st) (defBody st) (defScope st) .none kV doc pm an cdv ct) ⟨us, []⟩ = pure (ps.zip us))
    (a : PySem.W.nsIn K mainGlobals x = some (some (.ref f))) (l : K.lookup f = some ⟨oc, od, .func (PySem.W.fnOf x x (defArgs st) (defBody st) (defScope st) .none kV dc pm an cd ct), sl⟩) (c : PySem.W.codeIn K cd x = true) (k : PySem.W.keepIn K (.ref f) = true) : ∃ f fd, Df K mg x st ps f fd :=
  ⟨f, _, fun_mk l c k, (fun_mk l c k).binds hb, PySem.W.mg_of X G a⟩
theorem gv_mk {x : Str} {v : V} {u : Value} (X : K.In h) (G : h.Ns mainGlobals mg) (r : RelV v u) (a : PySem.W.nsIn K mainGlobals x = some (some u)) : GV mg x v := ⟨u, PySem.W.mg_of X G a, r⟩
theorem law_mk {fa f : Addr} {oc : Value} {od an : Option Addr} {sl : Array (Option Value)} {kV dc pm cd ct : Value} (X : K.In h) (G : h.Ns mainGlobals mg) (hfa : mg "law" = some (.ref fa))
    (a : PySem.W.nsIn K mainGlobals "law" = some (some (.ref f))) (l : K.lookup f = some ⟨oc, od, .func (PySem.W.fnOf "law" "law" (defArgs s_law) (defBody s_law) (defScope s_law) .none kV dc pm an cd ct), sl⟩) (c : PySem.W.codeIn K cd "law" = true) (k : PySem.W.keepIn K (.ref f) = true) :
    ∃ fd, Fun K "law" "law" s_law fa fd ∧ ∀ (s : Shared) (u : Value), BindsTo s fd ⟨[u], []⟩ [("_law_script", u)] := by
  have e := hfa.symm.trans (PySem.W.mg_of X G a)
  cases e
  exact ⟨_, fun_mk l c k, fun s v => .of_eq rfl⟩
end
end V0

namespace V0
open PySem PySem.Spec PyProof.Rows L2
section
variable {K : PySem.W.Frag} {h : Heap} {mg : Str → Option Value}
theorem cls_mk {C f0 f1 f2 f3 f4 f5 f6 f7 f8 f9 f10 g11 g12 : Addr} {oc0 kV0 dc0 pm0 cd0 ct0 oc1 kV1 dc1 pm1 cd1 ct1 oc2 kV2 dc2 pm2 cd2 ct2 oc3 kV3 dc3 pm3 cd3 ct3 oc4 kV4 dc4 pm4 cd4 ct4 oc5 kV5 dc5 pm5 cd5 ct5 oc6 kV6 dc6 pm6 cd6 ct6 oc7 kV7 dc7 pm7 cd7 ct7 oc8 kV8 dc8 pm8 cd8 ct8 oc9 kV9 dc9 pm9 cd9 ct9 oc10 kV10 dc10 pm10 cd10 ct10 : Value} {od0 an0 od1 an1 od2 an2 od3 an3 od4 an4 od5 an5 od6 an6 od7 an7 od8 an8 od9 an9 od10 an10 : Option Addr} {sl0 sl1 sl2 sl3 sl4 sl5 sl6 sl7 sl8 sl9 sl10 : Array (Option Value)} {rest11 rest12 : List Value} (X : K.In h) (G : h.Ns mainGlobals mg)
    (a : PySem.W.nsIn K mainGlobals "Web" = some (some (.ref C)))
    (kpg : PySem.W.plainGet K C Str.empty = true)
    (khd : PySem.W.hasDictIn K C = true)
    (kpo : PySem.W.plainOver K C = true)
    (ksa : PySem.W.findIn K (.ref C) "__setattr__" = some (some (.builtin "object.__setattr__")))
    (kha : PySem.W.findIn K (.ref C) "__class__" = some (some (.builtin "object.__class__")))
    (khn : PySem.W.specialIn K (.builtin "object.__class__") "__get__" = some (some (.builtin "getset_descriptor.__get__")))
    (khtk : PySem.W.takesIn K (.builtin "object.__class__") = some true)
    (khm : PySem.W.mroIn K C (.type "object") = some true)
    (kty : PySem.W.typeIn K (.ref C) = some (.type "type"))
    (kne : PySem.W.findIn K (.ref C) "__ne__" = some (some (.builtin "object.__ne__")))
    (n1 : PySem.W.findIn K (.ref C) "_things" = some none)
    (n2 : PySem.W.findIn K (.ref C) "_conflicts" = some none)
    (n3 : PySem.W.findIn K (.ref C) "_beside" = some none)
    (mks : PySem.W.makesIn K C = true)
    (kC : PySem.W.keepIn K (.ref C) = true)
    (at0 : PySem.W.findIn K (.ref C) "__init__" = some (some (.ref f0)))
    (fn0 : PySem.W.isFn K (.ref f0) = true)
    (l0 : K.lookup f0 = some ⟨oc0, od0, .func (PySem.W.fnOf "__init__" "Web.__init__" (defArgs s_Web_init) (defBody s_Web_init) (defScope s_Web_init) .none kV0 dc0 pm0 an0 cd0 ct0), sl0⟩)
    (c0 : PySem.W.codeIn K cd0 "Web.__init__" = true)
    (k0 : PySem.W.keepIn K (.ref f0) = true)
    (at1 : PySem.W.findIn K (.ref C) "things" = some (some (.ref g11)))
    (gt1 : PySem.W.specialIn K (.ref g11) "__get__" = some (some (.builtin "property.__get__")))
    (tk1 : PySem.W.takesIn K (.ref g11) = some true)
    (rc1 : PySem.W.recIn K g11 "property" = some (.ref f1 :: rest11))
    (l1 : K.lookup f1 = some ⟨oc1, od1, .func (PySem.W.fnOf "things" "Web.things" (defArgs s_Web_things) (defBody s_Web_things) (defScope s_Web_things) .none kV1 dc1 pm1 an1 cd1 ct1), sl1⟩)
    (c1 : PySem.W.codeIn K cd1 "Web.things" = true)
    (k1 : PySem.W.keepIn K (.ref f1) = true)
    (at2 : PySem.W.findIn K (.ref C) "conflicts" = some (some (.ref g12)))
    (gt2 : PySem.W.specialIn K (.ref g12) "__get__" = some (some (.builtin "property.__get__")))
    (tk2 : PySem.W.takesIn K (.ref g12) = some true)
    (rc2 : PySem.W.recIn K g12 "property" = some (.ref f2 :: rest12))
    (l2 : K.lookup f2 = some ⟨oc2, od2, .func (PySem.W.fnOf "conflicts" "Web.conflicts" (defArgs s_Web_conflicts) (defBody s_Web_conflicts) (defScope s_Web_conflicts) .none kV2 dc2 pm2 an2 cd2 ct2), sl2⟩)
    (c2 : PySem.W.codeIn K cd2 "Web.conflicts" = true)
    (k2 : PySem.W.keepIn K (.ref f2) = true)
    (at3 : PySem.W.findIn K (.ref C) "beside" = some (some (.ref f3)))
    (fn3 : PySem.W.isFn K (.ref f3) = true)
    (l3 : K.lookup f3 = some ⟨oc3, od3, .func (PySem.W.fnOf "beside" "Web.beside" (defArgs s_Web_beside) (defBody s_Web_beside) (defScope s_Web_beside) .none kV3 dc3 pm3 an3 cd3 ct3), sl3⟩)
    (c3 : PySem.W.codeIn K cd3 "Web.beside" = true)
    (k3 : PySem.W.keepIn K (.ref f3) = true)
    (at4 : PySem.W.findIn K (.ref C) "are_tied" = some (some (.ref f4)))
    (fn4 : PySem.W.isFn K (.ref f4) = true)
    (l4 : K.lookup f4 = some ⟨oc4, od4, .func (PySem.W.fnOf "are_tied" "Web.are_tied" (defArgs s_Web_are_tied) (defBody s_Web_are_tied) (defScope s_Web_are_tied) .none kV4 dc4 pm4 an4 cd4 ct4), sl4⟩)
    (c4 : PySem.W.codeIn K cd4 "Web.are_tied" = true)
    (k4 : PySem.W.keepIn K (.ref f4) = true)
    (at5 : PySem.W.findIn K (.ref C) "without" = some (some (.ref f5)))
    (fn5 : PySem.W.isFn K (.ref f5) = true)
    (l5 : K.lookup f5 = some ⟨oc5, od5, .func (PySem.W.fnOf "without" "Web.without" (defArgs s_Web_without) (defBody s_Web_without) (defScope s_Web_without) .none kV5 dc5 pm5 an5 cd5 ct5), sl5⟩)
    (c5 : PySem.W.codeIn K cd5 "Web.without" = true)
    (k5 : PySem.W.keepIn K (.ref f5) = true)
    (at6 : PySem.W.findIn K (.ref C) "part" = some (some (.ref f6)))
    (fn6 : PySem.W.isFn K (.ref f6) = true)
    (l6 : K.lookup f6 = some ⟨oc6, od6, .func (PySem.W.fnOf "part" "Web.part" (defArgs s_Web_part) (defBody s_Web_part) (defScope s_Web_part) .none kV6 dc6 pm6 an6 cd6 ct6), sl6⟩)
    (c6 : PySem.W.codeIn K cd6 "Web.part" = true)
    (k6 : PySem.W.keepIn K (.ref f6) = true)
    (at7 : PySem.W.findIn K (.ref C) "turned" = some (some (.ref f7)))
    (fn7 : PySem.W.isFn K (.ref f7) = true)
    (l7 : K.lookup f7 = some ⟨oc7, od7, .func (PySem.W.fnOf "turned" "Web.turned" (defArgs s_Web_turned) (defBody s_Web_turned) (defScope s_Web_turned) .none kV7 dc7 pm7 an7 cd7 ct7), sl7⟩)
    (c7 : PySem.W.codeIn K cd7 "Web.turned" = true)
    (k7 : PySem.W.keepIn K (.ref f7) = true)
    (at8 : PySem.W.findIn K (.ref C) "__invert__" = some (some (.ref f8)))
    (fn8 : PySem.W.isFn K (.ref f8) = true)
    (l8 : K.lookup f8 = some ⟨oc8, od8, .func (PySem.W.fnOf "__invert__" "Web.__invert__" (defArgs s_Web_invert) (defBody s_Web_invert) (defScope s_Web_invert) .none kV8 dc8 pm8 an8 cd8 ct8), sl8⟩)
    (c8 : PySem.W.codeIn K cd8 "Web.__invert__" = true)
    (k8 : PySem.W.keepIn K (.ref f8) = true)
    (at9 : PySem.W.findIn K (.ref C) "__contains__" = some (some (.ref f9)))
    (fn9 : PySem.W.isFn K (.ref f9) = true)
    (l9 : K.lookup f9 = some ⟨oc9, od9, .func (PySem.W.fnOf "__contains__" "Web.__contains__" (defArgs s_Web_contains) (defBody s_Web_contains) (defScope s_Web_contains) .none kV9 dc9 pm9 an9 cd9 ct9), sl9⟩)
    (c9 : PySem.W.codeIn K cd9 "Web.__contains__" = true)
    (k9 : PySem.W.keepIn K (.ref f9) = true)
    (at10 : PySem.W.findIn K (.ref C) "__iter__" = some (some (.ref f10)))
    (fn10 : PySem.W.isFn K (.ref f10) = true)
    (l10 : K.lookup f10 = some ⟨oc10, od10, .func (PySem.W.fnOf "__iter__" "Web.__iter__" (defArgs s_Web_iter) (defBody s_Web_iter) (defScope s_Web_iter) .none kV10 dc10 pm10 an10 cd10 ct10), sl10⟩)
    (c10 : PySem.W.codeIn K cd10 "Web.__iter__" = true)
    (k10 : PySem.W.keepIn K (.ref f10) = true)
    : ∃ C ad fdd, ClsW K mg C ad fdd := by
  have F0 := fun_mk (st := s_Web_init) l0 c0 k0
  have F1 := fun_mk (st := s_Web_things) l1 c1 k1
  have F2 := fun_mk (st := s_Web_conflicts) l2 c2 k2
  have F3 := fun_mk (st := s_Web_beside) l3 c3 k3
  have F4 := fun_mk (st := s_Web_are_tied) l4 c4 k4
  have F5 := fun_mk (st := s_Web_without) l5 c5 k5
  have F6 := fun_mk (st := s_Web_part) l6 c6 k6
  have F7 := fun_mk (st := s_Web_turned) l7 c7 k7
  have F8 := fun_mk (st := s_Web_invert) l8 c8 k8
  have F9 := fun_mk (st := s_Web_contains) l9 c9 k9
  have F10 := fun_mk (st := s_Web_iter) l10 c10 k10
  exact ⟨C, fun n => [f0, f1, f2, f3, f4, f5, f6, f7, f8, f9, f10, g11, g12].getD n 0, fun n => [(PySem.W.fnOf "__init__" "Web.__init__" (defArgs s_Web_init) (defBody s_Web_init) (defScope s_Web_init) .none kV0 dc0 pm0 an0 cd0 ct0), PySem.W.fnOf "things" "Web.things" (defArgs s_Web_things) (defBody s_Web_things) (defScope s_Web_things) .none kV1 dc1 pm1 an1 cd1 ct1, PySem.W.fnOf "conflicts" "Web.conflicts" (defArgs s_Web_conflicts) (defBody s_Web_conflicts) (defScope s_Web_conflicts) .none kV2 dc2 pm2 an2 cd2 ct2, PySem.W.fnOf "beside" "Web.beside" (defArgs s_Web_beside) (defBody s_Web_beside) (defScope s_Web_beside) .none kV3 dc3 pm3 an3 cd3 ct3, PySem.W.fnOf "are_tied" "Web.are_tied" (defArgs s_Web_are_tied) (defBody s_Web_are_tied) (defScope s_Web_are_tied) .none kV4 dc4 pm4 an4 cd4 ct4, PySem.W.fnOf "without" "Web.without" (defArgs s_Web_without) (defBody s_Web_without) (defScope s_Web_without) .none kV5 dc5 pm5 an5 cd5 ct5, PySem.W.fnOf "part" "Web.part" (defArgs s_Web_part) (defBody s_Web_part) (defScope s_Web_part) .none kV6 dc6 pm6 an6 cd6 ct6, PySem.W.fnOf "turned" "Web.turned" (defArgs s_Web_turned) (defBody s_Web_turned) (defScope s_Web_turned) .none kV7 dc7 pm7 an7 cd7 ct7, PySem.W.fnOf "__invert__" "Web.__invert__" (defArgs s_Web_invert) (defBody s_Web_invert) (defScope s_Web_invert) .none kV8 dc8 pm8 an8 cd8 ct8, PySem.W.fnOf "__contains__" "Web.__contains__" (defArgs s_Web_contains) (defBody s_Web_contains) (defScope s_Web_contains) .none kV9 dc9 pm9 an9 cd9 ct9, PySem.W.fnOf "__iter__" "Web.__iter__" (defArgs s_Web_iter) (defBody s_Web_iter) (defScope s_Web_iter) .none kV10 dc10 pm10 an10 cd10 ct10].getD n (PySem.W.fnOf "__init__" "Web.__init__" (defArgs s_Web_init) (defBody s_Web_init) (defScope s_Web_init) .none kV0 dc0 pm0 an0 cd0 ct0), ⟨PySem.W.mg_of X G a, ⟨kpg, khd, kpo, ksa⟩, kha, khn, khtk, khm, kty, kne⟩, ⟨n1, n2, n3⟩, ⟨F0, ⟨mks, at0, fn0, kC⟩, (F0.binds (ps := P_Web_init) fun _ _ _ _ _ _ us hl => match us, hl with | [_, _, _], _ => rfl)⟩, ⟨F1, (F1.binds (ps := P_Web_things) fun _ _ _ _ _ _ us hl => match us, hl with | [_], _ => rfl), ⟨at1, gt1, tk1, _, rc1⟩⟩, ⟨F2, (F2.binds (ps := P_Web_conflicts) fun _ _ _ _ _ _ us hl => match us, hl with | [_], _ => rfl), ⟨at2, gt2, tk2, _, rc2⟩⟩, ⟨F3, (F3.binds (ps := P_Web_beside) fun _ _ _ _ _ _ us hl => match us, hl with | [_, _], _ => rfl), ⟨at3, fn3, k3⟩⟩, ⟨F4, (F4.binds (ps := P_Web_are_tied) fun _ _ _ _ _ _ us hl => match us, hl with | [_, _, _], _ => rfl), ⟨at4, fn4, k4⟩⟩, ⟨F5, (StX.bind_star1 (B := fun xs => bindArgs _ ⟨xs, []⟩) (fun _ => rfl) (fun _ _ _ => rfl)), ⟨at5, fn5, k5⟩⟩, ⟨F6, (F6.binds (ps := P_Web_part) fun _ _ _ _ _ _ us hl => match us, hl with | [_, _], _ => rfl), ⟨at6, fn6, k6⟩⟩, ⟨F7, (F7.binds (ps := P_Web_turned) fun _ _ _ _ _ _ us hl => match us, hl with | [_], _ => rfl), ⟨at7, fn7, k7⟩⟩, ⟨F8, (F8.binds (ps := P_Web_invert) fun _ _ _ _ _ _ us hl => match us, hl with | [_], _ => rfl), ⟨at8, fn8, k8⟩⟩, ⟨F9, (F9.binds (ps := P_Web_contains) fun _ _ _ _ _ _ us hl => match us, hl with | [_, _], _ => rfl), ⟨at9, fn9, k9⟩⟩, ⟨F10, (F10.binds (ps := P_Web_iter) fun _ _ _ _ _ _ us hl => match us, hl with | [_], _ => rfl), ⟨at10, fn10, k10⟩⟩⟩
end
section
variable {K : PySem.W.Frag} {h : Heap} {mg : Str → Option Value}
theorem dfs_mk {f : Addr} {oc : Value} {od an : Option Addr} {sl : Array (Option Value)} {kV dc pm cd ct : Value} (X : K.In h) (G : h.Ns mainGlobals mg)
    (a : PySem.W.nsIn K mainGlobals "round_web" = some (some (.ref f))) (l : K.lookup f = some ⟨oc, od, .func (PySem.W.fnOf "round_web" "round_web" (defArgs s_round_web) (defBody s_round_web) (defScope s_round_web) .none kV dc pm an cd ct), sl⟩) (c : PySem.W.codeIn K cd "round_web" = true) (k : PySem.W.keepIn K (.ref f) = true) :
    ∃ f fd, DfS K mg "round_web" s_round_web ["names"] "steps" f fd :=
  ⟨f, _, fun_mk l c k, StX.bind_star1 (B := fun xs => bindArgs _ ⟨xs, []⟩) (fun _ => rfl) (fun _ _ _ => rfl), PySem.W.mg_of X G a⟩
end
end V0

namespace V0
open PySem PySem.Spec PyProof.Rows L2
theorem walk {l : PySem.W.OpenLaw} {q : Program} {loose : List Str} {XP : (Str → Option Value) → Heap → Prop} {YP : World → Heap → Prop} {d : DefRec} {K : Params → PySem.W.Frag} (hn : l.most = some 63) (hdf : d.params.defaults = [])
    (hY : ∀ (w : World) (h : Heap), YP w h → (K w.params).In h)
    (F : ∀ (w : World) (mg : Str → Option Value) (fa : Addr) (h : Heap), (K w.params).In h → h.Ns mainGlobals mg → mg d.name = some (.ref fa) →
      ∃ (C : Addr) (ad : Nat → Addr) (fdd : Nat → FuncData) (bd : Nat → Addr) (bdd : Nat → FuncData) (fd : FuncData), AllW (K w.params) mg C ad fdd bd bdd ∧ Fun (K w.params) "law" "law" s_law fa fd ∧ ∀ (s : Shared) (u : Value), BindsTo s fd ⟨[u], []⟩ [("_law_script", u)]) :
    PySem.W.WalkO q loose XP YP l.row.toRowW d [] (fun f vs => PySem.call f vs) := by
  refine Att.attach_call hn hdf fun w s0 s1 mg mb fa o pm cd doc a vs ns G Y ho hd hcd hmg hobj hints hlen hg => ?_
  have KX := hY w _ Y
  obtain ⟨C, ad, fdd, bd, bdd, fd, Z, Fl, hb⟩ := F w mg fa _ KX G.T.g hmg
  exact law_at (k := 20) (N := N_law) KX G.T.g G.T.b G.T.builtins G.T.nolimit hg hobj hints (Nat.le_trans hlen (by decide)) ⟨rfl, by decide, by decide⟩ Fl sc_law hb fun base H cdv kB nB hS hr => law_body (Q := fun v _ => v = .bl true) (outer := []) Z hr hS hlen (fun _ => rfl)
end V0
open PySem PySem.W PyProof.Rows L2
set_option maxRecDepth 100000 in
set_option maxHeartbeats 0 in
theorem PySem.Challenge.cw_huebill_k22_whole_rings_in_webs_holds : PySem.Challenge.rw_huebill_k22_whole_rings_in_webs.Holds := by
  w_on; o_law; k_head; (case hw => w_witness2)
  k_fill
  refine V0.walk (l := PySem.Challenge.rw_huebill_k22_whole_rings_in_webs) rfl rfl (fun w h Y => PySem.W.kIn_of Y) ?F
  case F =>
    intro w mg fa h KX G hmg
    have z0 : mg "len" = none := by (refine PySem.W.mg_none_of KX G ?z; (case z => k_is))
    have z1 : mg "abs" = none := by (refine PySem.W.mg_none_of KX G ?z; (case z => k_is))
    have z2 : mg "max" = none := by (refine PySem.W.mg_none_of KX G ?z; (case z => k_is))
    have z3 : mg "min" = none := by (refine PySem.W.mg_none_of KX G ?z; (case z => k_is))
    have z4 : mg "int" = none := by (refine PySem.W.mg_none_of KX G ?z; (case z => k_is))
    have z5 : mg "bool" = none := by (refine PySem.W.mg_none_of KX G ?z; (case z => k_is))
    have z6 : mg "str" = none := by (refine PySem.W.mg_none_of KX G ?z; (case z => k_is))
    have z7 : mg "tuple" = none := by (refine PySem.W.mg_none_of KX G ?z; (case z => k_is))
    have z8 : mg "list" = none := by (refine PySem.W.mg_none_of KX G ?z; (case z => k_is))
    have z9 : mg "dict" = none := by (refine PySem.W.mg_none_of KX G ?z; (case z => k_is))
    have z10 : mg "all" = none := by (refine PySem.W.mg_none_of KX G ?z; (case z => k_is))
    have z11 : mg "any" = none := by (refine PySem.W.mg_none_of KX G ?z; (case z => k_is))
    have z12 : mg "sum" = none := by (refine PySem.W.mg_none_of KX G ?z; (case z => k_is))
    have z13 : mg "repr" = none := by (refine PySem.W.mg_none_of KX G ?z; (case z => k_is))
    have z14 : mg "isinstance" = none := by (refine PySem.W.mg_none_of KX G ?z; (case z => k_is))
    have z15 : mg "range" = none := by (refine PySem.W.mg_none_of KX G ?z; (case z => k_is))
    have z16 : mg "sorted" = none := by (refine PySem.W.mg_none_of KX G ?z; (case z => k_is))
    have z17 : mg "set" = none := by (refine PySem.W.mg_none_of KX G ?z; (case z => k_is))
    have z18 : mg "enumerate" = none := by (refine PySem.W.mg_none_of KX G ?z; (case z => k_is))
    have z19 : mg "zip" = none := by (refine PySem.W.mg_none_of KX G ?z; (case z => k_is))
    have z20 : mg "iter" = none := by (refine PySem.W.mg_none_of KX G ?z; (case z => k_is))
    have hB : V0.Bl mg := ⟨z0, z1, z2, z3, z4, z5, z6, z7, z8, z9, z10, z11, z12, z13, z14, z15⟩
    have hM : V0.Bm mg := ⟨z16, z17, z18, z19, z20⟩
    have c0 : V0.GV mg "_TOO_LONG" (.int V0.TL) := by (refine' V0.gv_mk KX G ?r ?a; (case a => k_is); (case r => exact ⟨_, rfl⟩))
    have c1 : V0.GV mg "MAX_NAME" (.int 8) := by (refine' V0.gv_mk KX G ?r ?a; (case a => k_is); (case r => exact ⟨_, rfl⟩))
    have c2 : V0.GV mg "MAX_THINGS" (.int 8) := by (refine' V0.gv_mk KX G ?r ?a; (case a => k_is); (case r => exact ⟨_, rfl⟩))
    have c3 : V0.GV mg "_LETTERS" (.str V0.LET) := by (refine' V0.gv_mk KX G ?r ?a; (case a => k_is); (case r => exact ⟨_, rfl⟩))
    have hC : V0.Nm mg := ⟨c0, c1, c2, c3⟩
    obtain ⟨C, ad, fdd, Zc⟩ : ∃ C ad fdd, V0.ClsW _ mg C ad fdd := by
      refine' V0.cls_mk KX G ?a ?kpg ?khd ?kpo ?ksa ?kha ?khn ?khtk ?khm ?kty ?kne ?n1 ?n2 ?n3 ?mks ?kC ?at0 ?fn0 ?l0 ?c0 ?k0 ?at1 ?gt1 ?tk1 ?rc1 ?l1 ?c1 ?k1 ?at2 ?gt2 ?tk2 ?rc2 ?l2 ?c2 ?k2 ?at3 ?fn3 ?l3 ?c3 ?k3 ?at4 ?fn4 ?l4 ?c4 ?k4 ?at5 ?fn5 ?l5 ?c5 ?k5 ?at6 ?fn6 ?l6 ?c6 ?k6 ?at7 ?fn7 ?l7 ?c7 ?k7 ?at8 ?fn8 ?l8 ?c8 ?k8 ?at9 ?fn9 ?l9 ?c9 ?k9 ?at10 ?fn10 ?l10 ?c10 ?k10
      (case a => k_is)
      (case kpg => k_is)
      (case khd => k_is)
      (case kpo => k_is)
      (case ksa => k_is)
      (case kha => k_is)
      (case khn => k_is)
      (case khtk => k_is)
      (case khm => k_is)
      (case kty => k_is)
      (case kne => k_is)
      (case n1 => k_is)
      (case n2 => k_is)
      (case n3 => k_is)
      (case mks => k_is)
      (case kC => k_is)
      (case at0 => k_is)
      (case fn0 => k_is)
      (case l0 => k_is)
      (case c0 => k_is)
      (case k0 => k_is)
      (case at1 => k_is)
      (case gt1 => k_is)
      (case tk1 => k_is)
      (case rc1 => k_is)
      (case l1 => k_is)
      (case c1 => k_is)
      (case k1 => k_is)
      (case at2 => k_is)
      (case gt2 => k_is)
      (case tk2 => k_is)
      (case rc2 => k_is)
      (case l2 => k_is)
      (case c2 => k_is)
      (case k2 => k_is)
      (case at3 => k_is)
      (case fn3 => k_is)
      (case l3 => k_is)
      (case c3 => k_is)
      (case k3 => k_is)
      (case at4 => k_is)
      (case fn4 => k_is)
      (case l4 => k_is)
      (case c4 => k_is)
      (case k4 => k_is)
      (case at5 => k_is)
      (case fn5 => k_is)
      (case l5 => k_is)
      (case c5 => k_is)
      (case k5 => k_is)
      (case at6 => k_is)
      (case fn6 => k_is)
      (case l6 => k_is)
      (case c6 => k_is)
      (case k6 => k_is)
      (case at7 => k_is)
      (case fn7 => k_is)
      (case l7 => k_is)
      (case c7 => k_is)
      (case k7 => k_is)
      (case at8 => k_is)
      (case fn8 => k_is)
      (case l8 => k_is)
      (case c8 => k_is)
      (case k8 => k_is)
      (case at9 => k_is)
      (case fn9 => k_is)
      (case l9 => k_is)
      (case c9 => k_is)
      (case k9 => k_is)
      (case at10 => k_is)
      (case fn10 => k_is)
      (case l10 => k_is)
      (case c10 => k_is)
      (case k10 => k_is)
    obtain ⟨ra, hR⟩ : ∃ ra, V0.Rgs _ mg ra := by
      refine' V0.rgs_mk KX G ?a ?l ?r1 ?r2
      (case a => k_is); (case l => k_is); (case r1 => exact ⟨_, rfl⟩); (case r2 => exact ⟨_, rfl⟩)
    have hT : V0.GV mg "_TURNED" (.int 7) := by (refine' V0.gv_mk KX G ?r ?a; (case a => k_is); (case r => exact ⟨_, rfl⟩))
    obtain ⟨ar, dr, DR⟩ : ∃ f fd, V0.DfS _ mg "round_web" V0.s_round_web ["names"] "steps" f fd := by
      refine' V0.dfs_mk KX G ?a ?l ?c ?k
      (case a => k_is); (case l => k_is); (case c => k_is); (case k => k_is)
    obtain ⟨a0, d0, D0⟩ : ∃ f fd, V0.Df _ mg "is_whole" V0.s_is_whole V0.P_is_whole f fd := by
      refine' V0.df_mk KX G (fun _ _ _ _ _ _ us hl => match us, hl with | [_], _ => rfl) ?a ?l ?c ?k
      (case a => k_is); (case l => k_is); (case c => k_is); (case k => k_is)
    obtain ⟨a1, d1, D1⟩ : ∃ f fd, V0.Df _ mg "is_integer" V0.s_is_integer V0.P_is_integer f fd := by
      refine' V0.df_mk KX G (fun _ _ _ _ _ _ us hl => match us, hl with | [_], _ => rfl) ?a ?l ?c ?k
      (case a => k_is); (case l => k_is); (case c => k_is); (case k => k_is)
    obtain ⟨a2, d2, D2⟩ : ∃ f fd, V0.Df _ mg "is_name" V0.s_is_name V0.P_is_name f fd := by
      refine' V0.df_mk KX G (fun _ _ _ _ _ _ us hl => match us, hl with | [_], _ => rfl) ?a ?l ?c ?k
      (case a => k_is); (case l => k_is); (case c => k_is); (case k => k_is)
    obtain ⟨a3, d3, D3⟩ : ∃ f fd, V0.Df _ mg "is_group_of" V0.s_is_group_of V0.P_is_group_of f fd := by
      refine' V0.df_mk KX G (fun _ _ _ _ _ _ us hl => match us, hl with | [_, _], _ => rfl) ?a ?l ?c ?k
      (case a => k_is); (case l => k_is); (case c => k_is); (case k => k_is)
    obtain ⟨a4, d4, D4⟩ : ∃ f fd, V0.Df _ mg "has_shape" V0.s_has_shape V0.P_has_shape f fd := by
      refine' V0.df_mk KX G (fun _ _ _ _ _ _ us hl => match us, hl with | [_, _, _], _ => rfl) ?a ?l ?c ?k
      (case a => k_is); (case l => k_is); (case c => k_is); (case k => k_is)
    obtain ⟨a5, d5, D5⟩ : ∃ f fd, V0.Df _ mg "check_web" V0.s_check_web V0.P_check_web f fd := by
      refine' V0.df_mk KX G (fun _ _ _ _ _ _ us hl => match us, hl with | [_], _ => rfl) ?a ?l ?c ?k
      (case a => k_is); (case l => k_is); (case c => k_is); (case k => k_is)
    obtain ⟨a6, d6, D6⟩ : ∃ f fd, V0.Df _ mg "check_thing" V0.s_check_thing V0.P_check_thing f fd := by
      refine' V0.df_mk KX G (fun _ _ _ _ _ _ us hl => match us, hl with | [_, _], _ => rfl) ?a ?l ?c ?k
      (case a => k_is); (case l => k_is); (case c => k_is); (case k => k_is)
    obtain ⟨a7, d7, D7⟩ : ∃ f fd, V0.Df _ mg "check_group" V0.s_check_group V0.P_check_group f fd := by
      refine' V0.df_mk KX G (fun _ _ _ _ _ _ us hl => match us, hl with | [_, _], _ => rfl) ?a ?l ?c ?k
      (case a => k_is); (case l => k_is); (case c => k_is); (case k => k_is)
    obtain ⟨a8, d8, D8⟩ : ∃ f fd, V0.Df _ mg "check_names" V0.s_check_names V0.P_check_names f fd := by
      refine' V0.df_mk KX G (fun _ _ _ _ _ _ us hl => match us, hl with | [_], _ => rfl) ?a ?l ?c ?k
      (case a => k_is); (case l => k_is); (case c => k_is); (case k => k_is)
    obtain ⟨a9, d9, D9⟩ : ∃ f fd, V0.Df _ mg "_are_conflicts" V0.s__are_conflicts V0.P__are_conflicts f fd := by
      refine' V0.df_mk KX G (fun _ _ _ _ _ _ us hl => match us, hl with | [_, _], _ => rfl) ?a ?l ?c ?k
      (case a => k_is); (case l => k_is); (case c => k_is); (case k => k_is)
    obtain ⟨a10, d10, D10⟩ : ∃ f fd, V0.Df _ mg "_is_conflict" V0.s__is_conflict V0.P__is_conflict f fd := by
      refine' V0.df_mk KX G (fun _ _ _ _ _ _ us hl => match us, hl with | [_, _], _ => rfl) ?a ?l ?c ?k
      (case a => k_is); (case l => k_is); (case c => k_is); (case k => k_is)
    obtain ⟨a11, d11, D11⟩ : ∃ f fd, V0.Df _ mg "_partners" V0.s__partners V0.P__partners f fd := by
      refine' V0.df_mk KX G (fun _ _ _ _ _ _ us hl => match us, hl with | [_, _], _ => rfl) ?a ?l ?c ?k
      (case a => k_is); (case l => k_is); (case c => k_is); (case k => k_is)
    obtain ⟨a12, d12, D12⟩ : ∃ f fd, V0.Df _ mg "groups" V0.s_groups V0.P_groups f fd := by
      refine' V0.df_mk KX G (fun _ _ _ _ _ _ us hl => match us, hl with | [_], _ => rfl) ?a ?l ?c ?k
      (case a => k_is); (case l => k_is); (case c => k_is); (case k => k_is)
    obtain ⟨a13, d13, D13⟩ : ∃ f fd, V0.Df _ mg "is_good" V0.s_is_good V0.P_is_good f fd := by
      refine' V0.df_mk KX G (fun _ _ _ _ _ _ us hl => match us, hl with | [_], _ => rfl) ?a ?l ?c ?k
      (case a => k_is); (case l => k_is); (case c => k_is); (case k => k_is)
    obtain ⟨a14, d14, D14⟩ : ∃ f fd, V0.Df _ mg "spoiled_group" V0.s_spoiled_group V0.P_spoiled_group f fd := by
      refine' V0.df_mk KX G (fun _ _ _ _ _ _ us hl => match us, hl with | [_], _ => rfl) ?a ?l ?c ?k
      (case a => k_is); (case l => k_is); (case c => k_is); (case k => k_is)
    obtain ⟨a15, d15, D15⟩ : ∃ f fd, V0.Df _ mg "good_paper" V0.s_good_paper V0.P_good_paper f fd := by
      refine' V0.df_mk KX G (fun _ _ _ _ _ _ us hl => match us, hl with | [_], _ => rfl) ?a ?l ?c ?k
      (case a => k_is); (case l => k_is); (case c => k_is); (case k => k_is)
    obtain ⟨a16, d16, D16⟩ : ∃ f fd, V0.Df _ mg "is_good_paper" V0.s_is_good_paper V0.P_is_good_paper f fd := by
      refine' V0.df_mk KX G (fun _ _ _ _ _ _ us hl => match us, hl with | [_, _], _ => rfl) ?a ?l ?c ?k
      (case a => k_is); (case l => k_is); (case c => k_is); (case k => k_is)
    obtain ⟨a17, d17, D17⟩ : ∃ f fd, V0.Df _ mg "is_spoiled_paper" V0.s_is_spoiled_paper V0.P_is_spoiled_paper f fd := by
      refine' V0.df_mk KX G (fun _ _ _ _ _ _ us hl => match us, hl with | [_, _, _], _ => rfl) ?a ?l ?c ?k
      (case a => k_is); (case l => k_is); (case c => k_is); (case k => k_is)
    obtain ⟨a18, d18, D18⟩ : ∃ f fd, V0.Df _ mg "_spoiled_paper" V0.s__spoiled_paper V0.P__spoiled_paper f fd := by
      refine' V0.df_mk KX G (fun _ _ _ _ _ _ us hl => match us, hl with | [_], _ => rfl) ?a ?l ?c ?k
      (case a => k_is); (case l => k_is); (case c => k_is); (case k => k_is)
    obtain ⟨a19, d19, D19⟩ : ∃ f fd, V0.Df _ mg "_ring" V0.s__ring V0.P__ring f fd := by
      refine' V0.df_mk KX G (fun _ _ _ _ _ _ us hl => match us, hl with | [_, _], _ => rfl) ?a ?l ?c ?k
      (case a => k_is); (case l => k_is); (case c => k_is); (case k => k_is)
    obtain ⟨a20, d20, D20⟩ : ∃ f fd, V0.Df _ mg "_ring_places" V0.s__ring_places V0.P__ring_places f fd := by
      refine' V0.df_mk KX G (fun _ _ _ _ _ _ us hl => match us, hl with | [_], _ => rfl) ?a ?l ?c ?k
      (case a => k_is); (case l => k_is); (case c => k_is); (case k => k_is)
    obtain ⟨a21, d21, D21⟩ : ∃ f fd, V0.Df _ mg "_knots_by_size" V0.s__knots_by_size V0.P__knots_by_size f fd := by
      refine' V0.df_mk KX G (fun _ _ _ _ _ _ us hl => match us, hl with | [_], _ => rfl) ?a ?l ?c ?k
      (case a => k_is); (case l => k_is); (case c => k_is); (case k => k_is)
    obtain ⟨a22, d22, D22⟩ : ∃ f fd, V0.Df _ mg "_first_within" V0.s__first_within V0.P__first_within f fd := by
      refine' V0.df_mk KX G (fun _ _ _ _ _ _ us hl => match us, hl with | [_, _], _ => rfl) ?a ?l ?c ?k
      (case a => k_is); (case l => k_is); (case c => k_is); (case k => k_is)
    obtain ⟨a23, d23, D23⟩ : ∃ f fd, V0.Df _ mg "_are_good_knots" V0.s__are_good_knots V0.P__are_good_knots f fd := by
      refine' V0.df_mk KX G (fun _ _ _ _ _ _ us hl => match us, hl with | [_, _], _ => rfl) ?a ?l ?c ?k
      (case a => k_is); (case l => k_is); (case c => k_is); (case k => k_is)
    obtain ⟨a24, d24, D24⟩ : ∃ f fd, V0.Df _ mg "_law_are_tied" V0.s_are_tied V0.P_are_tied f fd := by
      refine' V0.df_mk KX G (fun _ _ _ _ _ _ us hl => match us, hl with | [_, _, _], _ => rfl) ?a ?l ?c ?k
      (case a => k_is); (case l => k_is); (case c => k_is); (case k => k_is)
    obtain ⟨a25, d25, D25⟩ : ∃ f fd, V0.Df _ mg "_law_all_groups" V0.s_all_groups V0.P_all_groups f fd := by
      refine' V0.df_mk KX G (fun _ _ _ _ _ _ us hl => match us, hl with | [_], _ => rfl) ?a ?l ?c ?k
      (case a => k_is); (case l => k_is); (case c => k_is); (case k => k_is)
    obtain ⟨a26, d26, D26⟩ : ∃ f fd, V0.Df _ mg "_law_is_loose" V0.s_lis_loose V0.P_lis_loose f fd := by
      refine' V0.df_mk KX G (fun _ _ _ _ _ _ us hl => match us, hl with | [_, _], _ => rfl) ?a ?l ?c ?k
      (case a => k_is); (case l => k_is); (case c => k_is); (case k => k_is)
    obtain ⟨a27, d27, D27⟩ : ∃ f fd, V0.Df _ mg "_law_colour_table" V0.s_colour_table V0.P_colour_table f fd := by
      refine' V0.df_mk KX G (fun _ _ _ _ _ _ us hl => match us, hl with | [_], _ => rfl) ?a ?l ?c ?k
      (case a => k_is); (case l => k_is); (case c => k_is); (case k => k_is)
    obtain ⟨a28, d28, D28⟩ : ∃ f fd, V0.Df _ mg "_law_knot_sizes" V0.s_knot_sizes V0.P_knot_sizes f fd := by
      refine' V0.df_mk KX G (fun _ _ _ _ _ _ us hl => match us, hl with | [_], _ => rfl) ?a ?l ?c ?k
      (case a => k_is); (case l => k_is); (case c => k_is); (case k => k_is)
    obtain ⟨a29, d29, D29⟩ : ∃ f fd, V0.Df _ mg "_law_spoiled" V0.s_spoiled V0.P_spoiled f fd := by
      refine' V0.df_mk KX G (fun _ _ _ _ _ _ us hl => match us, hl with | [_], _ => rfl) ?a ?l ?c ?k
      (case a => k_is); (case l => k_is); (case c => k_is); (case k => k_is)
    obtain ⟨a30, d30, D30⟩ : ∃ f fd, V0.Df _ mg "_law_pot" V0.s_pot V0.P_pot f fd := by
      refine' V0.df_mk KX G (fun _ _ _ _ _ _ us hl => match us, hl with | [_, _], _ => rfl) ?a ?l ?c ?k
      (case a => k_is); (case l => k_is); (case c => k_is); (case k => k_is)
    obtain ⟨a31, d31, D31⟩ : ∃ f fd, V0.Df _ mg "_law_stir" V0.s_stir V0.P_stir f fd := by
      refine' V0.df_mk KX G (fun _ _ _ _ _ _ us hl => match us, hl with | [_, _], _ => rfl) ?a ?l ?c ?k
      (case a => k_is); (case l => k_is); (case c => k_is); (case k => k_is)
    obtain ⟨a32, d32, D32⟩ : ∃ f fd, V0.Df _ mg "_law_one_of" V0.s_one_of V0.P_one_of f fd := by
      refine' V0.df_mk KX G (fun _ _ _ _ _ _ us hl => match us, hl with | [_, _], _ => rfl) ?a ?l ?c ?k
      (case a => k_is); (case l => k_is); (case c => k_is); (case k => k_is)
    obtain ⟨a33, d33, D33⟩ : ∃ f fd, V0.Df _ mg "_law_shuffled" V0.s_shuffled V0.P_shuffled f fd := by
      refine' V0.df_mk KX G (fun _ _ _ _ _ _ us hl => match us, hl with | [_, _], _ => rfl) ?a ?l ?c ?k
      (case a => k_is); (case l => k_is); (case c => k_is); (case k => k_is)
    obtain ⟨a34, d34, D34⟩ : ∃ f fd, V0.Df _ mg "_law_some_of" V0.s_some_of V0.P_some_of f fd := by
      refine' V0.df_mk KX G (fun _ _ _ _ _ _ us hl => match us, hl with | [_, _], _ => rfl) ?a ?l ?c ?k
      (case a => k_is); (case l => k_is); (case c => k_is); (case k => k_is)
    obtain ⟨a35, d35, D35⟩ : ∃ f fd, V0.Df _ mg "_law_words" V0.s_words V0.P_words f fd := by
      refine' V0.df_mk KX G (fun _ _ _ _ _ _ us hl => match us, hl with | [_, _], _ => rfl) ?a ?l ?c ?k
      (case a => k_is); (case l => k_is); (case c => k_is); (case k => k_is)
    obtain ⟨a36, d36, D36⟩ : ∃ f fd, V0.Df _ mg "_law_all_pairs" V0.s_all_pairs V0.P_all_pairs f fd := by
      refine' V0.df_mk KX G (fun _ _ _ _ _ _ us hl => match us, hl with | [_], _ => rfl) ?a ?l ?c ?k
      (case a => k_is); (case l => k_is); (case c => k_is); (case k => k_is)
    obtain ⟨a37, d37, D37⟩ : ∃ f fd, V0.Df _ mg "_law_plain" V0.s_plain V0.P_plain f fd := by
      refine' V0.df_mk KX G (fun _ _ _ _ _ _ us hl => match us, hl with | [_, _], _ => rfl) ?a ?l ?c ?k
      (case a => k_is); (case l => k_is); (case c => k_is); (case k => k_is)
    obtain ⟨a38, d38, D38⟩ : ∃ f fd, V0.Df _ mg "_law_nearly" V0.s_nearly V0.P_nearly f fd := by
      refine' V0.df_mk KX G (fun _ _ _ _ _ _ us hl => match us, hl with | [_, _], _ => rfl) ?a ?l ?c ?k
      (case a => k_is); (case l => k_is); (case c => k_is); (case k => k_is)
    obtain ⟨a39, d39, D39⟩ : ∃ f fd, V0.Df _ mg "_law_made_web" V0.s_made_web V0.P_made_web f fd := by
      refine' V0.df_mk KX G (fun _ _ _ _ _ _ us hl => match us, hl with | [_], _ => rfl) ?a ?l ?c ?k
      (case a => k_is); (case l => k_is); (case c => k_is); (case k => k_is)
    obtain ⟨a40, d40, D40⟩ : ∃ f fd, V0.Df _ mg "_law_round_plain" V0.s_round_plain V0.P_round_plain f fd := by
      refine' V0.df_mk KX G (fun _ _ _ _ _ _ us hl => match us, hl with | [_, _], _ => rfl) ?a ?l ?c ?k
      (case a => k_is); (case l => k_is); (case c => k_is); (case k => k_is)
    obtain ⟨a41, d41, D41⟩ : ∃ f fd, V0.Df _ mg "_law_ring_right" V0.s_ring_right V0.P_ring_right f fd := by
      refine' V0.df_mk KX G (fun _ _ _ _ _ _ us hl => match us, hl with | [_, _], _ => rfl) ?a ?l ?c ?k
      (case a => k_is); (case l => k_is); (case c => k_is); (case k => k_is)
    obtain ⟨a42, d42, D42⟩ : ∃ f fd, V0.Df _ mg "_law_near_right" V0.s_near_right V0.P_near_right f fd := by
      refine' V0.df_mk KX G (fun _ _ _ _ _ _ us hl => match us, hl with | [_, _, _], _ => rfl) ?a ?l ?c ?k
      (case a => k_is); (case l => k_is); (case c => k_is); (case k => k_is)
    obtain ⟨fd, hF, hb⟩ := V0.law_mk KX G hmg (by k_is) (by k_is) (by k_is) (by k_is)
    exact ⟨C, ad, fdd, fun n => [ar, a0, a1, a2, a3, a4, a5, a6, a7, a8, a9, a10, a11, a12, a13, a14, a15, a16, a17, a18, a19, a20, a21, a22, a23, a24, a25, a26, a27, a28, a29, a30, a31, a32, a33, a34, a35, a36, a37, a38, a39, a40, a41, a42].getD n 0, fun n => [dr, d0, d1, d2, d3, d4, d5, d6, d7, d8, d9, d10, d11, d12, d13, d14, d15, d16, d17, d18, d19, d20, d21, d22, d23, d24, d25, d26, d27, d28, d29, d30, d31, d32, d33, d34, d35, d36, d37, d38, d39, d40, d41, d42].getD n d0, fd, ⟨Zc, hB, hM, hC, ⟨ra, hR⟩, hT, DR, D0, D1, D2, D3, D4, D5, D6, D7, D8, D9, D10, D11, D12, D13, D14, D15, D16, D17, D18, D19, D20, D21, D22, D23, D24, D25, D26, D27, D28, D29, D30, D31, D32, D33, D34, D35, D36, D37, D38, D39, D40, D41, D42⟩, hF, hb⟩
