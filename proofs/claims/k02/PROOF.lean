import PyProof.Rows.All
import Wide.All
import OpenK.AllK
import Wide.FinOn
import KE.KStateDown
import Lean
import Wide.Once
import HandS.ForMost
import HandS.Exc
import HandS.WordsExc
import HandS.Defaults
import HandS.IsInst
import HandS.Strs
import HandS.SetKeys
import HandS.Deep
import HandS.Wide
import HandS.WideMore
import HandS.FStr
import HandS.Conv
import HandS.More
import HandS.StrMore
import HandS.Head0
import HandS.Head1
import HandS.Head2
import HandS.HeadEnd
import HandS.HeadHook1
import HandS.HeadHook2
import HandS.HeadHook3
import HandS.Walk
import HandS.DictComp
import PyProof.NeKinds
import PyProof.StrLawsRepr
import PyProof.ReprRoads
import HandS.Style
import HandS.TupLe
import PySem.Challenge.RW_nearhelp_k02_conditions_and_steps_judged
set_option Elab.async false
set_option linter.all false
set_option maxRecDepth 100000
set_option maxHeartbeats 4000000
namespace NH
open PySem PySem.Spec PyProof.Rows L2
/-- where a def of the top stands -/
structure DefAt (K : PySem.W.Frag) (mg : Str → Option Value) (x : Str) (st : Stmt) : Prop where
  g : mg x = some (.ref (He.ga K x))
  f : ∃ fd, FunD K x x (defArgs st) (defBody st) (defScope st) [] [] (He.ga K x) fd
/-- a def that keeps a promise -/
structure Callee (P : Program) (w : World) (K : PySem.W.Frag) (mg : Str → Option Value) (base : Heap) (k : Nat) (x : Str) (ps : List Str) (sp : Sp) : Prop where
  ex : ∃ f fd, mg x = some (.ref f) ∧ PySem.W.keepIn K (.ref f) = true ∧ Binds K fd ps [] ∧ FnOk P w K mg base CX0 k f fd ps sp
section
variable {P : Program} {w : World} {K : PySem.W.Frag} {mg : Str → Option Value} {base : Heap}
theorem callee {x : Str} {st : Stmt} {N ps : List Str} {k : Nat} {sp : Sp} (D : DefAt K mg x st) (S : FnScope N ps (defScope st)) (len : ∀ vs H Q E, sp vs H Q E → vs.length = ps.length)
    (hb : ∀ (kV doc pm : Value) (an : Option Addr) (cdv ct : Value) (us : List Value), us.length = ps.length → bindArgs (PySem.W.fnOf x x (defArgs st) (defBody st) (defScope st) .none kV doc pm an cdv ct) ⟨us, []⟩ = pure (ps.zip us))
    (hbody : ∀ (f : Addr) (cdv : Value) (A : Around) (outer : List Env) (s : Shared) (H : Hp) (vs : List V) (Q : VK) (E : XK), Room k (A.deeper (envOfC x (defScope st) s.heap.objs.size f cdv)) → sp vs H Q E →
      ∃ t, PSs (cxOf CX0 P w K mg base N x (defScope st) f cdv A outer s H E).nox (defBody st) t ∧ t { nx := fun _ H' => Q .non H', rt := Q } (start N vs) H) : Callee P w K mg base (k + 1) x ps sp := by
  obtain ⟨fd, F⟩ := D.f
  exact ⟨_, fd, D.g, F.kp, F.bindsN hb, F.ok S len fun cdv A outer s H vs Q E hr h => let ⟨t, h1, h2⟩ := hbody _ cdv A outer s H vs Q E hr h; ⟨t, h1.nox, h2⟩⟩
end
section
variable {X : Cx}
/-- f(e, ..) -/
theorem pe_cal {k j : Nat} {x : Str} {ps : List Str} {sp : Sp} {e : Expr} {es : List Expr} {p pos : Pos} {t : TA} (c : Callee X.prog X.w X.K X.mg X.base k x ps sp) (hr : Room j X.A) (hj : k ≤ j) (ha : PA X (e :: es) t) (hg : Gl X x := by rfl)
    (hdb : (x == ("__debug__" : Str)) = false := by decide) (he : starEach (e :: es) X.env = (false, eval e X.env) :: starEach es X.env := by rfl) (hpl : (backTo pos (starEach es X.env)).any (·.1) = false := by rfl) :
    PE X (.Call (.Name x p) (e :: es) [] pos) (tCall sp [] E0 t) := by
  obtain ⟨f, fd, hm, hk, hb, F⟩ := c.ex
  exact pe_call F (hr.mono hj) hg hm hk hb .nil pass0 ha hdb he hpl
end
theorem itd {c A B : Prop} [Decidable c] (h1 : c → A) (h2 : ¬ c → B) : if decide c = true then A else B := by
  by_cases h : c
  · rw [decide_eq_true h]; exact iteT (h1 h)
  · rw [decide_eq_false h]; exact iteF (h2 h)
theorem itb {b : Bool} {A B : Prop} (h1 : b = true → A) (h2 : b = false → B) : if b = true then A else B := by
  cases b with
  | true => exact iteT (h1 rfl)
  | false => exact iteF (h2 rfl)
theorem itt {b : Bool} {A B : Prop} (e : b = true) (h1 : A) : if b = true then A else B := by
  subst e; exact iteT h1
theorem itf {b : Bool} {A B : Prop} (e : b = false) (h1 : B) : if b = true then A else B := by
  subst e; exact iteF h1
theorem same_new {H : Hp} {p : Addr} {o : HO} (hp : H p = none) : Same H (upd H p o) := fun b u e => by rw [upd_ne (ne_of_none e hp)]; exact e
theorem atI_get {xs : List V} {i : Nat} {v : V} (h : xs[i]? = some v) : atI xs (i : Int) = some v := by
  have h1 : i < xs.length := (List.getElem?_eq_some_iff.mp h).1
  exact atI_nat h
end NH
set_option maxHeartbeats 4000000
namespace NH
open PySem PySem.Spec PyProof.Rows L2
def top (i : Nat) : Stmt := PySem.Challenge.pw_nearhelp_k02_conditions_and_steps_judged.main.body.getD i (.Pass ⟨0, 0, 0, 0⟩)
structure Bl (mg : Str → Option Value) : Prop where
  b_ValueError : mg "ValueError" = none
  b_abs : mg "abs" = none
  b_all : mg "all" = none
  b_bool : mg "bool" = none
  b_int : mg "int" = none
  b_isinstance : mg "isinstance" = none
  b_len : mg "len" = none
  b_list : mg "list" = none
  b_max : mg "max" = none
  b_min : mg "min" = none
  b_range : mg "range" = none
  b_repr : mg "repr" = none
  b_set : mg "set" = none
  b_sorted : mg "sorted" = none
  b_str : mg "str" = none
  b_sum : mg "sum" = none
  b_tuple : mg "tuple" = none
section
variable {P : Program} {w : World} {K : PySem.W.Frag} {mg : Str → Option Value} {base : Heap}
/-! ### _law_cell, _law_box, _law_take -/
abbrev s_law_cell : Stmt := top 37
theorem sc_law_cell : FnScope ["script", "k"] ["script", "k"] (defScope s_law_cell) := ⟨rfl, rfl, rfl, by decide +kernel, rfl, by decide +kernel, by decide +kernel⟩
def spCell (K : PySem.W.Frag) : Sp := fun vs H Q _ => ∃ (a : Addr) (ns : List Int) (k : Nat), vs = [.ref a, .int k] ∧ SqL K H a (ns.map V.int) ∧ ns.length ≤ 63 ∧ ∀ i H', Same H H' → Q (.int i) H'
theorem ok_law_cell (G : Bl mg) (D : DefAt K mg "_law_cell" s_law_cell) : Callee P w K mg base 2 "_law_cell" ["script", "k"] (spCell K) := by
  refine callee D sc_law_cell (fun vs H Q E h => by obtain ⟨a, ns, k, rfl, _⟩ := h; rfl) (fun _ _ _ _ _ _ us hl => match us, hl with | [_, _], _ => rfl) fun f cdv A outer s H vs Q E hr h => ?_
  obtain ⟨a, ns, k, rfl, hS, hl, q⟩ := h
  refine ⟨_, (pss_one (ps_ret (pe_ifExp (pt_cmpR op_lt (pv 1) (pe_callB call_len_seq (by rfl) G.b_len (by decide +kernel) (pa_cons (pv 0) pa_nil)) (nomark _)) (pe_ix ix_list (pv 0) (pv 1) (fun _ _ => rfl)) (pe_op op_add (pe_op op_mul pe_int (pv 1)) (pe_op op_mod (pe_callB (cr_sum rfl) (by rfl) G.b_sum (by decide +kernel) (pa_cons (pe_slice sl_list (pv 0) po_none (po_some pe_int)) pa_nil)) pe_int))))), ?_⟩
  have hS' : ∀ H', Same H H' → SqL K H' a (ns.map V.int) := fun H' e => e.seq hS
  refine ⟨_, rfl, _, rfl, a, _, rfl, .inl hS, _, _, rfl, rfl, _, rfl, itd (fun hk => ?_) fun hk => ?_⟩
  · have hk' : k < ns.length := by rw [List.length_map] at hk; omega
    exact ⟨_, rfl, _, rfl, a, _, _, _, rfl, rfl, hS, atI_get (by rw [List.getElem?_map, List.getElem?_eq_getElem hk']; rfl), q _ _ (Same.refl H)⟩
  · refine ⟨_, rfl, _, _, rfl, rfl, .inl ⟨by decide, by decide⟩, _, rfl, _, rfl, a, _, rfl, hS, fun p hp => ?_⟩
    have e1 : cutV (ns.map V.int) none (some 1) = (ns.take 1).map V.int := by
      cases ns <;> rfl
    rw [e1]
    exact ⟨p, _, rfl, SqL.of upd_same, _, _, rfl, rfl, (by show (0 : Int) < 1000033; decide), _, _, rfl, rfl, q _ _ (same_new hp)⟩
/-- the box of a drawing: n bounds how often it has been asked -/
def IsBox (n : Nat) (o : HO) : Prop := ∃ (x : Int) (f : Bool) (r : Int) (c : Nat), o = .lst [.int x, .bl f, .int r, .int c] ∧ 0 ≤ x ∧ 0 ≤ r ∧ r < 2147483648 ∧ c ≤ n
theorem IsBox.mono {n m : Nat} {o : HO} (h : IsBox n o) (e : n ≤ m) : IsBox m o := by
  obtain ⟨x, f, r, c, rfl, h1, h2, h3, h4⟩ := h
  exact ⟨x, f, r, c, rfl, h1, h2, h3, Nat.le_trans h4 e⟩
abbrev s_law_box : Stmt := top 38
theorem sc_law_box : FnScope ["great"] ["great"] (defScope s_law_box) := ⟨rfl, rfl, rfl, by decide +kernel, rfl, by decide +kernel, by decide +kernel⟩
def spBox : Sp := fun vs H Q _ => ∃ (i : Int), vs = [.int i] ∧ ∀ p o, H p = none → IsBox 0 o → Q (.ref p) (upd H p o)
theorem ok_law_box (G : Bl mg) (D : DefAt K mg "_law_box" s_law_box) : Callee P w K mg base 2 "_law_box" ["great"] spBox := by
  refine callee D sc_law_box (fun vs H Q E h => by obtain ⟨i, rfl, _⟩ := h; rfl) (fun _ _ _ _ _ _ us hl => match us, hl with | [_], _ => rfl) fun f cdv A outer s H vs Q E hr h => ?_
  obtain ⟨i, rfl, q⟩ := h
  refine ⟨_, (pss_one (ps_ret (pe_lst (pa_cons (pe_callB call_abs (by rfl) G.b_abs (by decide +kernel) (pa_cons (pv 0) pa_nil)) (pa_cons (pe_cmpR op_ge (pe_callB call_abs (by rfl) G.b_abs (by decide +kernel) (pa_cons (pv 0) pa_nil)) (pe_op op_pow pe_int pe_int) (nomark _)) (pa_cons (pe_op op_mod (pe_callTy call_int1 (by rfl) G.b_int (by decide +kernel) (pa_cons (pe_callB call_abs (by rfl) G.b_abs (by decide +kernel) (pa_cons (pv 0) pa_nil)) pa_nil)) pe_int) (pa_cons pe_int pa_nil))))))), ?_⟩
  refine ⟨_, rfl, i, rfl, _, rfl, i, rfl, _, _, rfl, rfl, ⟨by decide, by decide, by decide⟩, _, _, rfl, rfl, _, rfl, i, rfl, .inl ⟨_, rfl, _, _, rfl, rfl, (by show (0 : Int) < 2147483629; decide), (by show 4 ≤ sizeLine; decide), fun p hp => q p _ hp ⟨_, _, _, 0, rfl, ?_, ?_, ?_, Nat.le_refl _⟩⟩⟩
  · split <;> omega
  · exact Int.emod_nonneg _ (by decide)
  · have h1 : (if i < 0 then -i else i) % 2147483629 < 2147483629 := Int.emod_lt_of_pos _ (by decide)
    omega
abbrev s_law_take : Stmt := top 39
theorem sc_law_take : FnScope ["box", "many", "digit", "mixed"] ["box", "many"] (defScope s_law_take) := ⟨rfl, rfl, rfl, by decide +kernel, rfl, by decide +kernel, by decide +kernel⟩
def spTake : Sp := fun vs H Q _ => ∃ (b : Addr) (m n : Nat) (o : HO), vs = [.ref b, .int m] ∧ H b = some o ∧ IsBox n o ∧ n ≤ 1000000000 ∧ 0 < m ∧ m ≤ 1000000 ∧ ∀ (d : Nat) o', d < m → IsBox (n + 1) o' → Q (.int d) (upd H b o')
theorem ok_law_take (G : Bl mg) (D : DefAt K mg "_law_take" s_law_take) : Callee P w K mg base 2 "_law_take" ["box", "many"] spTake := by
  refine callee D sc_law_take (fun vs H Q E h => by obtain ⟨b, m, n, o, rfl, _⟩ := h; rfl) (fun _ _ _ _ _ _ us hl => match us, hl with | [_, _], _ => rfl) fun f cdv A outer s H vs Q E hr h => ?_
  obtain ⟨b, m, n, o, rfl, hb, ⟨x, fl, r, c, rfl, hx, hr0, hr1, hc⟩, hn, hm0, hm1, q⟩ := h
  refine ⟨_, (pss_cons (ps_if (PW.pt (pw_and (pt_val (pe_ix ix_list (pv 0) pe_int (fun _ _ => rfl))) (pw_and1 (pt_cmpR op_gt (pe_ix ix_list (pv 0) pe_int (fun _ _ => rfl)) pe_int (nomark _))))) (pss_cons (ps_set (i := 2) sc_law_take.nd rfl (Or.inl rfl) (pe_op op_mod (pe_callTy call_int1 (by rfl) G.b_int (by decide +kernel) (pa_cons (pe_ix ix_list (pv 0) pe_int (fun _ _ => rfl)) pa_nil)) (pv 1)))
    (pss_cons (ps_asg (pe_op op_fdiv (pe_ix ix_list (pv 0) pe_int (fun _ _ => rfl)) (pv 1)) (pg_sub (pv 0) pe_int set_list))
    (pss_one (ps_ret (pv 2))))) pss_nil)
    (pss_cons (ps_asg (pe_op op_add (pe_ix ix_list (pv 0) pe_int (fun _ _ => rfl)) pe_int) (pg_sub (pv 0) pe_int set_list))
    (pss_cons (ps_set (i := 3) sc_law_take.nd rfl (Or.inl rfl) (pe_op op_mod (pe_callTy call_int1 (by rfl) G.b_int (by decide +kernel) (pa_cons (pe_op op_pow (pe_op op_add (pe_op op_add (pe_ix ix_list (pv 0) pe_int (fun _ _ => rfl)) (pe_op op_mul pe_int (pe_ix ix_list (pv 0) pe_int (fun _ _ => rfl)))) pe_int) pe_int) pa_nil)) pe_int))
    (pss_one (ps_ret (pe_op op_mod (pe_op op_fdiv (pe_op op_mod (pe_callTy call_int1 (by rfl) G.b_int (by decide +kernel) (pa_cons (pe_op op_pow (pe_op op_add (pe_op op_mul (pv 3) pe_int) (pe_op op_mul pe_int (pe_ix ix_list (pv 0) pe_int (fun _ _ => rfl)))) pe_int) pa_nil)) pe_int) pe_int) (pv 1))))))), ?_⟩
  have i0 : atI ([.int x, .bl fl, .int r, .int (c : Int)] : List V) 0 = some (.int x) := rfl
  have i1 : atI ([.int x, .bl fl, .int r, .int (c : Int)] : List V) 1 = some (.bl fl) := rfl
  have i2 : atI ([.int x, .bl fl, .int r, .int (c : Int)] : List V) 2 = some (.int r) := rfl
  have i3 : atI ([.int x, .bl fl, .int r, .int (c : Int)] : List V) 3 = some (.int (c : Int)) := rfl
  have hm : (0 : Int) < (m : Int) := by omega
  have one : ixN ([.int x, .bl fl, .int r, .int (c : Int)] : List V).length 3 = some 3 := rfl
  have two : ixN ([.int x, .bl fl, .int r, .int (c : Int)] : List V).length 0 = some 0 := rfl
  refine ⟨_, rfl, b, _, _, _, rfl, rfl, SqL.of hb, i1, fl, rfl, ?_⟩
  refine itb (fun hf => ?T) fun hf => iteF ?C
  case' T => refine ⟨_, rfl, b, _, _, _, rfl, rfl, SqL.of hb, i0, _, _, rfl, rfl, _, rfl, itd (fun hx1 => ?A) fun _ => ?B⟩
  case A =>
    refine ⟨_, rfl, b, _, _, _, rfl, rfl, SqL.of hb, i0, .inl ⟨x, rfl, _, rfl, _, _, rfl, rfl, hm, ?_⟩⟩
    refine ⟨_, rfl, b, _, _, _, rfl, rfl, SqL.of hb, i0, _, rfl, _, _, rfl, rfl, ⟨by omega, by show (m : Int) < 1073741824; omega⟩, _, rfl, b, _, _, _, rfl, rfl, hb, two, _, rfl, ?_⟩
    have e1 : x % (m : Int) = ((x % (m : Int)).toNat : Int) := (Int.toNat_of_nonneg (Int.emod_nonneg _ (by omega))).symm
    have l1 : x % (m : Int) < m := Int.emod_lt_of_pos _ hm
    show Q (.int (x % (m : Int))) _
    rw [e1]
    exact q _ _ (by omega) ⟨x / m, fl, r, c, rfl, Int.ediv_nonneg hx (by omega), hr0, hr1, by omega⟩
  all_goals
    refine ⟨_, rfl, b, _, _, _, rfl, rfl, SqL.of hb, i3, _, _, rfl, rfl, _, rfl, b, _, _, _, rfl, rfl, hb, one, ?_⟩
    have q' : ∀ (d : Int), 0 ≤ d → d < m → Q (.int d) (upd H b (.lst [.int x, .bl fl, .int r, .int ((c : Int) + 1)])) := fun d h0 h1 => by
      have z := q d.toNat _ (by omega) ⟨x, fl, r, c + 1, rfl, hx, hr0, hr1, by omega⟩
      rw [Int.toNat_of_nonneg h0] at z
      exact z
    have hb' : ∀ o, (upd H b o) b = some o := fun o => upd_same
    refine ⟨_, rfl, b, _, _, _, rfl, rfl, SqL.of (hb' _), rfl, _, rfl, b, _, _, _, rfl, rfl, SqL.of (hb' _), rfl, _, _, rfl, rfl, .inl ⟨by decide, by decide⟩, _, _, rfl, rfl, _, _, rfl, rfl, _, _, rfl, rfl, ⟨by decide, by decide, ?_⟩, .inl ⟨_, rfl, _, _, rfl, rfl, (by show (0 : Int) < 2147483647; decide), ?_⟩⟩
    · show (r + 15485863 * ((c : Int) + 1) + 179424673).natAbs < 2 ^ 64
      omega
    · have m0 : 0 ≤ (r + 15485863 * ((c : Int) + 1) + 179424673) ^ (5 : Int).toNat % 2147483647 := Int.emod_nonneg _ (by decide)
      have m1 : (r + 15485863 * ((c : Int) + 1) + 179424673) ^ (5 : Int).toNat % 2147483647 < 2147483647 := Int.emod_lt_of_pos _ (by decide)
      refine ⟨_, rfl, _, _, rfl, rfl, .inr ⟨by decide, by decide⟩, _, rfl, b, _, _, _, rfl, rfl, SqL.of (hb' _), rfl, _, _, rfl, rfl, .inl ⟨by decide, by decide⟩, _, _, rfl, rfl, _, _, rfl, rfl, ⟨by decide, by decide, ?_⟩, .inl ⟨_, rfl, _, _, rfl, rfl, (by show (0 : Int) < 2147483587; decide), _, _, rfl, rfl, ⟨by decide, by decide⟩, _, rfl, _, _, rfl, rfl, hm, ?_⟩⟩
      · show ((r + 15485863 * ((c : Int) + 1) + 179424673) ^ (5 : Int).toNat % 2147483647 * 48271 + 104729 * ((c : Int) + 1)).natAbs < 2 ^ 64
        omega
      · exact q' _ (Int.emod_nonneg _ (by omega)) (Int.emod_lt_of_pos _ hm)
end
end NH
set_option maxHeartbeats 0
namespace NH
open PySem PySem.Spec PyProof.Rows L2 TL
def hfn0 : List He.DefD := [⟨("is_integer", none), "is_integer", "is_integer", defArgs (top 3), defBody (top 3), defScope (top 3), [], []⟩, ⟨("is_between", none), "is_between", "is_between", defArgs (top 4), defBody (top 4), defScope (top 4), [], []⟩, ⟨("is_list", none), "is_list", "is_list", defArgs (top 5), defBody (top 5), defScope (top 5), [], []⟩, ⟨("is_pair", none), "is_pair", "is_pair", defArgs (top 6), defBody (top 6), defScope (top 6), [], []⟩, ⟨("is_name", none), "is_name", "is_name", defArgs (top 7), defBody (top 7), defScope (top 7), [], []⟩, ⟨("are_different", none), "are_different", "are_different", defArgs (top 8), defBody (top 8), defScope (top 8), [], []⟩, ⟨("is_condition", none), "is_condition", "is_condition", defArgs (top 20), defBody (top 20), defScope (top 20), [], []⟩, ⟨("is_steps", none), "is_steps", "is_steps", defArgs (top 21), defBody (top 21), defScope (top 21), [], []⟩, ⟨("_is_condition", none), "_is_condition", "_is_condition", defArgs (top 22), defBody (top 22), defScope (top 22), [], []⟩, ⟨("_is_amount", none), "_is_amount", "_is_amount", defArgs (top 23), defBody (top 23), defScope (top 23), [], []⟩, ⟨("_are_steps", none), "_are_steps", "_are_steps", defArgs (top 24), defBody (top 24), defScope (top 24), [], []⟩, ⟨("_is_step", none), "_is_step", "_is_step", defArgs (top 25), defBody (top 25), defScope (top 25), [], []⟩, ⟨("_count_items", none), "_count_items", "_count_items", defArgs (top 26), defBody (top 26), defScope (top 26), [], []⟩, ⟨("_count_inner", none), "_count_inner", "_count_inner", defArgs (top 27), defBody (top 27), defScope (top 27), [], []⟩, ⟨("_are_kinds", none), "_are_kinds", "_are_kinds", defArgs (top 34), defBody (top 34), defScope (top 34), [], []⟩, ⟨("_is_kind", none), "_is_kind", "_is_kind", defArgs (top 35), defBody (top 35), defScope (top 35), [], []⟩, ⟨("_sides_of", none), "_sides_of", "_sides_of", defArgs (top 32), defBody (top 32), defScope (top 32), [], []⟩, ⟨("_without", none), "_without", "_without", defArgs (top 33), defBody (top 33), defScope (top 33), [], []⟩, ⟨("_law_cell", none), "_law_cell", "_law_cell", defArgs (top 37), defBody (top 37), defScope (top 37), [], []⟩, ⟨("_law_box", none), "_law_box", "_law_box", defArgs (top 38), defBody (top 38), defScope (top 38), [], []⟩, ⟨("_law_take", none), "_law_take", "_law_take", defArgs (top 39), defBody (top 39), defScope (top 39), [], []⟩, ⟨("_law_letters", none), "_law_letters", "_law_letters", defArgs (top 40), defBody (top 40), defScope (top 40), [], []⟩, ⟨("_law_kinds", none), "_law_kinds", "_law_kinds", defArgs (top 41), defBody (top 41), defScope (top 41), [], []⟩, ⟨("_law_sides", none), "_law_sides", "_law_sides", defArgs (top 42), defBody (top 42), defScope (top 42), [], []⟩, ⟨("_law_number", none), "_law_number", "_law_number", defArgs (top 43), defBody (top 43), defScope (top 43), [], []⟩, ⟨("_law_numbers", none), "_law_numbers", "_law_numbers", defArgs (top 44), defBody (top 44), defScope (top 44), [], []⟩, ⟨("_law_amount", none), "_law_amount", "_law_amount", defArgs (top 45), defBody (top 45), defScope (top 45), [], []⟩, ⟨("_law_condition", none), "_law_condition", "_law_condition", defArgs (top 46), defBody (top 46), defScope (top 46), [], []⟩, ⟨("_law_plain", none), "_law_plain", "_law_plain", defArgs (top 47), defBody (top 47), defScope (top 47), [], []⟩, ⟨("_law_item", none), "_law_item", "_law_item", defArgs (top 48), defBody (top 48), defScope (top 48), [], []⟩]
def hfn1 : List He.DefD := [⟨("_law_steps", none), "_law_steps", "_law_steps", defArgs (top 49), defBody (top 49), defScope (top 49), [], []⟩, ⟨("_law_full", none), "_law_full", "_law_full", defArgs (top 50), defBody (top 50), defScope (top 50), [], []⟩, ⟨("_law_paths", none), "_law_paths", "_law_paths", defArgs (top 51), defBody (top 51), defScope (top 51), [], []⟩, ⟨("_law_with", none), "_law_with", "_law_with", defArgs (top 52), defBody (top 52), defScope (top 52), [], []⟩, ⟨("_law_changed", none), "_law_changed", "_law_changed", defArgs (top 53), defBody (top 53), defScope (top 53), [], []⟩, ⟨("_law_amount_due", none), "_law_amount_due", "_law_amount_due", defArgs (top 54), defBody (top 54), defScope (top 54), [], []⟩, ⟨("_law_deep", none), "_law_deep", "_law_deep", defArgs (top 55), defBody (top 55), defScope (top 55), [], []⟩, ⟨("_law_condition_due", none), "_law_condition_due", "_law_condition_due", defArgs (top 56), defBody (top 56), defScope (top 56), [], []⟩, ⟨("_law_within", none), "_law_within", "_law_within", defArgs (top 57), defBody (top 57), defScope (top 57), [], []⟩, ⟨("_law_size", none), "_law_size", "_law_size", defArgs (top 58), defBody (top 58), defScope (top 58), [], []⟩, ⟨("_law_steps_due", none), "_law_steps_due", "_law_steps_due", defArgs (top 59), defBody (top 59), defScope (top 59), [], []⟩, ⟨("_law_yes", none), "_law_yes", "_law_yes", defArgs (top 60), defBody (top 60), defScope (top 60), [], []⟩, ⟨("_law_told_right", none), "_law_told_right", "_law_told_right", defArgs (top 61), defBody (top 61), defScope (top 61), [], []⟩, ⟨("_law_values", none), "_law_values", "_law_values", defArgs (top 62), defBody (top 62), defScope (top 62), [], []⟩, ⟨("_law_cell_right", none), "_law_cell_right", "_law_cell_right", defArgs (top 63), defBody (top 63), defScope (top 63), [], []⟩, ⟨("Ports", some "__init__"), "__init__", "Ports.__init__", defArgs (inClass (top 31) 0), defBody (inClass (top 31) 0), defScope (inClass (top 31) 0), [], []⟩, ⟨("Ports", some "has"), "has", "Ports.has", defArgs (inClass (top 31) 3), defBody (inClass (top 31) 3), defScope (inClass (top 31) 3), [], []⟩, ⟨("law", none), "law", "law", defArgs (top 64), defBody (top 64), defScope (top 64), [], []⟩]
def hfn : List He.DefD := hfn0 ++ hfn1
def hfa0 : List He.Fa := [.glo "is_integer", .glo "is_between", .glo "is_list", .glo "is_pair", .glo "is_name", .glo "are_different", .glo "is_condition", .glo "is_steps", .glo "_is_condition", .glo "_is_amount", .glo "_are_steps", .glo "_is_step", .glo "_count_items", .glo "_count_inner", .glo "_are_kinds", .glo "_is_kind", .glo "_sides_of", .glo "_without", .glo "_law_cell", .glo "_law_box", .glo "_law_take", .glo "_law_letters", .glo "_law_kinds", .glo "_law_sides", .glo "_law_number", .glo "_law_numbers", .glo "_law_amount", .glo "_law_condition", .glo "_law_plain", .glo "_law_item"]
def hfa1 : List He.Fa := [.glo "_law_steps", .glo "_law_full", .glo "_law_paths", .glo "_law_with", .glo "_law_changed", .glo "_law_amount_due", .glo "_law_deep", .glo "_law_condition_due", .glo "_law_within", .glo "_law_size", .glo "_law_steps_due", .glo "_law_yes", .glo "_law_told_right", .glo "_law_values", .glo "_law_cell_right", .glo "law", .glo "Ports", .glo "COMPARING", .glo "CHANGING", .glo "PARTS", .free "ValueError", .free "abs", .free "all", .free "bool", .free "int", .free "isinstance", .free "len", .free "list", .free "max", .free "min"]
def hfa2 : List He.Fa := [.free "range", .free "repr", .free "set", .free "sorted", .free "str", .free "sum", .free "tuple", .str "LETTERS" "abcdefghijklmnopqrstuvwxyz", .int "DEEPEST_CONDITION" 4, .int "DEEPEST_STEPS" 3, .int "MOST_STEPS" 6, .int "MOST_ITEMS" 24, .int "MOST_KINDS" 12, .int "MOST_LETTERS" 4, .cls "Ports", .noat "Ports" "kinds", .noat "Ports" "_names", .noat "Ports" "_sides", .noat "Ports" "_sides_by_name", .noat "Ports" "_others", .mkr "Ports", .meth "Ports" "has"]
def hfa : List He.Fa := hfa0 ++ hfa1 ++ hfa2
def loose0 : List Str := [("_wall" : Str), ("LETTERS" : Str), ("is_integer" : Str), ("is_between" : Str), ("is_list" : Str), ("is_pair" : Str), ("is_name" : Str), ("are_different" : Str), ("NearError" : Str), ("InvalidPorts" : Str), ("DEEPEST_CONDITION" : Str), ("DEEPEST_STEPS" : Str), ("MOST_STEPS" : Str), ("MOST_ITEMS" : Str), ("COMPARING" : Str), ("CHANGING" : Str), ("PARTS" : Str), ("is_condition" : Str), ("is_steps" : Str), ("_is_condition" : Str), ("_is_amount" : Str), ("_are_steps" : Str), ("_is_step" : Str), ("_count_items" : Str), ("_count_inner" : Str), ("MOST_KINDS" : Str), ("MOST_LETTERS" : Str), ("Ports" : Str), ("_sides_of" : Str), ("_without" : Str)]
def loose1 : List Str := [("_are_kinds" : Str), ("_is_kind" : Str), ("_law_cell" : Str), ("_law_box" : Str), ("_law_take" : Str), ("_law_letters" : Str), ("_law_kinds" : Str), ("_law_sides" : Str), ("_law_number" : Str), ("_law_numbers" : Str), ("_law_amount" : Str), ("_law_condition" : Str), ("_law_plain" : Str), ("_law_item" : Str), ("_law_steps" : Str), ("_law_full" : Str), ("_law_paths" : Str), ("_law_with" : Str), ("_law_changed" : Str), ("_law_amount_due" : Str), ("_law_deep" : Str), ("_law_condition_due" : Str), ("_law_within" : Str), ("_law_size" : Str), ("_law_steps_due" : Str), ("_law_yes" : Str), ("_law_told_right" : Str), ("_law_values" : Str), ("_law_cell_right" : Str)]
def loose : List Str := loose0 ++ loose1
def tabs : List He.Tab := [(fun K => He.ga K "PARTS", ["is", "above", "both", "either", "not"])]
def partsKV : List (Str × He.Dv) := [("is", .int 2), ("above", .int 2), ("both", .int 2), ("either", .int 2), ("not", .int 1)]
def exM (K : PySem.W.Frag) : Bool := (K.lookup sysModules).isSome && (He.tupB K "COMPARING" [.str "is", .str "above"] && (He.tupB K "CHANGING" [.str "set", .str "add", .str "take"] && He.valsB K (He.ga K "PARTS") partsKV))
abbrev AlM : Type := He.AlT × Bool
def obsM (K : PySem.W.Frag) : AlM := (He.obsT hfa hfn tabs K, exM K)
def valM (w : World) : AlM := (He.valT hfn tabs w, true)
def obsMG (g : Addr → Option Obj) : AlM := obsM (He.frG g (sysModules :: He.asD g 5))
def SaysM (w : World) (K : PySem.W.Frag) : Prop := obsM K = valM w
def hook : PySem.W.Hook where
  α := AlM
  obs := fun s => obsMG s.heap.get?
  val := fun w => valM w
  says := fun w h => ∃ K : PySem.W.Frag, K.In h ∧ SaysM w K
  of := fun _ _ e => ⟨_, He.frG_in, e⟩
  keeps := fun _ _ _ ⟨K, hK, c⟩ k => ⟨K, PySem.W.Frag.In.keeps hK k, c⟩
def ob (s : PySem.W.SharedT) : AlM := obsMG (HandSHeadRun.getT s)
theorem ob_eq (s : PySem.W.SharedT) : ob s = hook.obs s.abs := by
  have e : HandSHeadRun.getT s = s.abs.heap.get? := funext (HandSHeadRun.getT_eq s)
  show obsMG (HandSHeadRun.getT s) = obsMG s.abs.heap.get?
  rw [e]
abbrev R : PySem.W.OpenRow := PySem.W.OpenLaw.row PySem.Challenge.rw_nearhelp_k02_conditions_and_steps_judged
theorem run (w : World) : HandSHeadRun.RunEq R (PySem.W.view R.prog [64]) hook ob 4000 loose w := by
  refine PySem.W.byRow2 "special-get-raises" (P := fun w => HandSHeadRun.RunEq R (PySem.W.view R.prog [64]) hook ob 4000 loose w) (fun w os => ?_) (fun w os => ?_) w
  · kernel_rfl
  · kernel_rfl
end NH
set_option maxHeartbeats 4000000
namespace NH
open PySem PySem.Spec PyProof.Rows L2 TL
/-! ### heaps with some objects hidden -/
def hid (bs : List Addr) (H : Hp) : Hp := fun a => if a ∈ bs then none else H a
theorem hid_in {bs : List Addr} {H : Hp} {a : Addr} (h : a ∈ bs) : hid bs H a = none := if_pos h
theorem hid_out {bs : List Addr} {H : Hp} {a : Addr} (h : a ∉ bs) : hid bs H a = H a := if_neg h
theorem hid_some {bs : List Addr} {H : Hp} {a : Addr} {o : HO} (h : hid bs H a = some o) : a ∉ bs ∧ H a = some o := by
  by_cases e : a ∈ bs
  · rw [hid_in e] at h; cases h
  · rw [hid_out e] at h; exact ⟨e, h⟩
theorem hid_le {bs : List Addr} {H : Hp} : Same (hid bs H) H := fun a o h => (hid_some h).2
def Kp (bs : List Addr) (H H' : Hp) : Prop := ∀ a o, a ∉ bs → H a = some o → H' a = some o
theorem Kp.refl (bs : List Addr) (H : Hp) : Kp bs H H := fun _ _ _ h => h
theorem Kp.trans {bs : List Addr} {H H1 H2 : Hp} (x : Kp bs H H1) (y : Kp bs H1 H2) : Kp bs H H2 := fun a o n h => y a o n (x a o n h)
theorem Kp.of {bs : List Addr} {H H' : Hp} (x : Same H H') : Kp bs H H' := fun a o _ h => x a o h
theorem Kp.mono {bs cs : List Addr} {H H' : Hp} (x : Kp bs H H') (h : ∀ a ∈ bs, a ∈ cs) : Kp cs H H' := fun a o n q => x a o (fun z => n (h a z)) q
theorem Kp.new {bs : List Addr} {H : Hp} {p : Addr} {o : HO} (hp : H p = none) : Kp bs H (upd H p o) := Kp.of (same_new hp)
theorem Kp.atb {bs : List Addr} {H : Hp} {b : Addr} {o : HO} (h : b ∈ bs) : Kp bs H (upd H b o) := fun a u n e => by rw [upd_ne (fun z => n (by rw [z]; exact h))]; exact e
theorem Kp.put {bs : List Addr} {H H' : Hp} {p : Addr} {o : HO} (x : Kp bs H H') (hp : H p = none) : Kp bs H (upd H' p o) := fun a u n e => by rw [upd_ne (ne_of_none e hp)]; exact x a u n e
theorem Kp.hid {bs : List Addr} {H H' : Hp} (x : Kp bs H H') : Same (hid bs H) (hid bs H') := fun a o h => by
  obtain ⟨n, e⟩ := hid_some h
  rw [hid_out n]
  exact x a o n e
/-- all these stand -/
def Al (bs : List Addr) (H : Hp) : Prop := ∀ a ∈ bs, ∃ o, H a = some o
theorem Al.new {bs : List Addr} {H : Hp} {p : Addr} (x : Al bs H) (hp : H p = none) : p ∉ bs := fun z => by
  obtain ⟨o, e⟩ := x p z
  rw [hp] at e; cases e
theorem Al.same {bs : List Addr} {H H' : Hp} (x : Al bs H) (s : Same H H') : Al bs H' := fun a h => let ⟨o, e⟩ := x a h; ⟨o, s a o e⟩
/-- the box at b -/
def Bx (b : Addr) (n : Nat) (H : Hp) : Prop := ∃ o, H b = some o ∧ IsBox n o
theorem Bx.mono {b : Addr} {n m : Nat} {H : Hp} (x : Bx b n H) (h : n ≤ m) : Bx b m H := let ⟨o, e, i⟩ := x; ⟨o, e, i.mono h⟩
theorem Bx.same {b : Addr} {n : Nat} {H H' : Hp} (x : Bx b n H) (s : Same H H') : Bx b n H' := let ⟨o, e, i⟩ := x; ⟨o, s _ _ e, i⟩
theorem Bx.kp {b : Addr} {n : Nat} {bs : List Addr} {H H' : Hp} (x : Bx b n H) (s : Kp bs H H') (h : b ∉ bs) : Bx b n H' := let ⟨o, e, i⟩ := x; ⟨o, s _ _ h e, i⟩
theorem Al.kp {b : Addr} {n : Nat} {bs : List Addr} {H H' : Hp} (x : Al bs H) (s : Kp [b] H H') (h : Bx b n H') : Al bs H' := fun a z => by
  by_cases e : a = b
  · subst e; obtain ⟨o, q, _⟩ := h; exact ⟨o, q⟩
  · obtain ⟨o, q⟩ := x a z; exact ⟨o, s a o (by simpa using e) q⟩
theorem Bx.ne {b p : Addr} {n : Nat} {H : Hp} (x : Bx b n H) (hp : H p = none) : b ≠ p := fun z => by obtain ⟨o, e, _⟩ := x; rw [z, hp] at e; cases e
theorem Bx.put {b p : Addr} {n : Nat} {H : Hp} {o : HO} (x : Bx b n H) (h : b ≠ p) : Bx b n (upd H p o) := let ⟨u, e, i⟩ := x; ⟨u, by rw [upd_ne h]; exact e, i⟩
theorem tk {b : Addr} {m n : Nat} {H : Hp} {Q : VK} {E : XK} (x : Bx b n H) (hn : n ≤ 1000000000) (h0 : 0 < m) (h1 : m ≤ 1000000) (q : ∀ (d : Nat) H', d < m → Kp [b] H H' → Bx b (n + 1) H' → (∀ a, a ≠ b → H' a = H a) → Q (.int d) H') :
    spTake ([.ref b, .int m] ++ []) H Q E := by
  obtain ⟨o, e, i⟩ := x
  exact ⟨b, m, n, o, rfl, e, i, hn, h0, h1, fun d o' hd io => q d _ hd (Kp.atb (by simp)) ⟨o', upd_same, io⟩ fun a h => upd_ne h⟩
theorem tyes {σ : L2.St} {H : Hp} {F : Bool → Hp → Prop} (h : F true H) : tYes σ H F := h
/-! ### letters -/
def Ltr (x : Str) : Prop := ∀ c ∈ x.cps.toList, 97 ≤ c ∧ c ≤ 122
def abc : Str := Str.ofString "abcdefghijklmnopqrstuvwxyz"
theorem abc_at : ∀ d : Nat, d < 26 → abc.cps.toList[d]? = some (97 + d) := by decide +kernel
def sg (c : Nat) : Str := ⟨#[c]⟩
theorem join_sg (l : List Nat) : (Txt.join (Str.ofString "") (l.map sg)).cps.toList = l := by
  have h : tl (Str.join (Str.ofString "") (l.map sg)) = l := by
    rw [tl_join]
    have e0 : tl (Str.ofString "") = [] := rfl
    rw [e0]
    induction l with
    | nil => rfl
    | cons c r ih =>
      cases r with
      | nil => rfl
      | cons d r =>
        show tl (sg c) ++ ([] ++ joinL [] ((sg d :: r.map sg).map tl)) = _
        rw [List.nil_append]
        have ih' : joinL [] ((sg d :: r.map sg).map tl) = d :: r := ih
        rw [ih']
        rfl
  rw [join_eq]
  exact h
section
variable {P : Program} {w : World} {K : PySem.W.Frag} {mg : Str → Option Value} {base : Heap}
abbrev s_law_letters : Stmt := top 40
theorem sc_law_letters : FnScope ["box", "many", "k"] ["box", "many"] (defScope s_law_letters) := ⟨rfl, rfl, rfl, by decide +kernel, rfl, by decide +kernel, by decide +kernel⟩
def spLetters : Sp := fun vs H Q _ => ∃ (b : Addr) (m n : Nat), vs = [.ref b, .int m] ∧ Bx b n H ∧ n ≤ 900000000 ∧ m ≤ 1000 ∧ ∀ (l : List Nat) (x : Str) H', x.cps.toList = l → l.length = m → Ltr x → Kp [b] H H' → Bx b (n + m) H' → Q (.str x) H'
theorem ok_law_letters (G : Bl mg) (D : DefAt K mg "_law_letters" s_law_letters) (cT : Callee P w K mg base 2 "_law_take" ["box", "many"] spTake) : Callee P w K mg base 4 "_law_letters" ["box", "many"] spLetters := by
  refine callee D sc_law_letters (fun vs H Q E h => by obtain ⟨b, m, n, rfl, _⟩ := h; rfl) (fun _ _ _ _ _ _ us hl => match us, hl with | [_, _], _ => rfl) fun f cdv A outer s H vs Q E hr h => ?_
  obtain ⟨b, m, n, rfl, hb, hn, hm, q⟩ := h
  refine ⟨_, pss_one (ps_ret (pe_join pe_str (pe_lc (own := [("k", 2)]) (g := gName 2) rfl sc_law_letters.nd (pi_range1 (by rfl) G.b_range (pa_cons (pv 1) pa_nil)) (blkOk_by (N := ["box", "many", "k"]) (sc := defScope s_law_letters) (by decide +kernel)) (fun _ _ _ _ _ => pg_name (i := 2) sc_law_letters.nd rfl (Or.inl rfl)) (fun _ _ _ _ _ => pts_nil)
    (fun _ _ _ _ _ => pe_ix ix_str pe_str (pe_cal cT hr (by decide) (pa_cons (pv 0) (pa_cons pe_int pa_nil))) (fun _ _ => rfl))))), ?_⟩
  refine ⟨⟨_, rfl⟩, _, rfl, m, rfl, by omega, by omega, fun D hD => ?_⟩
  have bD := hb.ne hD
  refine lc_range (lo := 0) (n := m) (fun i H' => ∃ l : List Nat, l.length = i ∧ (∀ c ∈ l, 97 ≤ c ∧ c ≤ 122) ∧ Kp [b] H H' ∧ Bx b (n + i) H' ∧ H' D = some (.lst ((l.map sg).map V.str))) ⟨[], rfl, (by intro c h; cases h), Kp.new hD, hb.same (same_new hD), upd_same⟩ ?_ ?_
  · rintro i H1 hi ⟨l, hl, hc, k1, b1, d1⟩
    refine ⟨rfl, tyes ?_⟩
    refine iteT ?_
    refine ⟨_, rfl, ?_⟩
    obtain ⟨o1, e1, i1⟩ := id b1
    refine ⟨b, 26, _, o1, rfl, e1, i1, by omega, by decide, by decide, fun d o2 hd i2 => ?_⟩
    refine ⟨abc, d, 97 + d, rfl, rfl, by decide, atI_nat (abc_at d hd), (l.map sg).map V.str, by rw [upd_ne (Ne.symm bD)]; exact d1, ?_, l ++ [97 + d], by rw [List.length_append, hl]; rfl, ?_, (k1.trans (Kp.atb (by simp))).put hD, Bx.put ⟨o2, upd_same, i2⟩ bD, ?_⟩
    · rw [List.length_map, List.length_map]; exact small1000 (by omega)
    · intro c h
      rcases List.mem_append.mp h with h | h
      · exact hc c h
      · rw [List.mem_singleton.mp h]; omega
    · rw [upd_same, List.map_append, List.map_append]; rfl
  · rintro H1 ⟨l, hl, hc, k1, b1, d1⟩
    refine ⟨_, D, l.map sg, rfl, rfl, .inl (SqL.of d1), ?_, ?_⟩
    · have e1 : ((l.map sg).map (·.length)).sum = l.length := by
        clear hl hc d1
        induction l with
        | nil => rfl
        | cons c r ih => rw [List.map_cons, List.map_cons, List.sum_cons, ih, List.length_cons]; show 1 + _ = _; omega
      rw [e1, List.length_map]
      show l.length + l.length * 0 ≤ _
      omega
    · have e := join_sg l
      exact q l _ H1 e hl (fun c h => hc c (by rw [e] at h; exact h)) k1 b1
end
end NH
set_option maxHeartbeats 4000000
namespace NH
open PySem PySem.Spec PyProof.Rows L2 TL
def menuM (d : Nat) : Nat := ([1, 2, 3, 2, 1, 4, 12, 2] : List Nat).getD d 1
theorem menuM_at : ∀ d : Nat, d < 8 → atI ([.int 1, .int 2, .int 3, .int 2, .int 1, .int 4, .int 12, .int 2] : List V) (d : Int) = some (.int (menuM d : Int)) := by decide +kernel
theorem menuM_le : ∀ d : Nat, d < 8 → 1 ≤ menuM d ∧ menuM d ≤ 12 := by decide +kernel
abbrev Kind := Str × Nat
/-- a list of kinds -/
def KindsAt (H : Hp) : List V → List Kind → Prop := Paired fun v k => ∃ t, v = .ref t ∧ H t = some (.tup [.str k.1, .int (k.2 : Int)])
theorem KindsAt.same {H H' : Hp} (s : Same H H') : ∀ {vs : List V} {ks : List Kind}, KindsAt H vs ks → KindsAt H' vs ks
  | _, _, .nil => .nil
  | _, _, .cons ⟨t, e, h⟩ r => .cons ⟨t, e, s _ _ h⟩ (KindsAt.same s r)
structure GoodKinds (ks : List Kind) : Prop where
  len : 1 ≤ ks.length ∧ ks.length ≤ 12
  ltr : ∀ k ∈ ks, Ltr k.1 ∧ 1 ≤ k.1.cps.toList.length ∧ k.1.cps.toList.length ≤ 4
  two : ∀ k ∈ ks, k.2 = 2 ∨ k.2 = 3
  nd : (ks.map (·.1)).Nodup
def spin (s k : Nat) : Nat := 97 + (s + 5 * k) % 26
theorem spin_inj {s i j : Nat} (hi : i < 12) (hj : j < 12) (h : spin s i = spin s j) : i = j := by
  unfold spin at h
  omega
theorem Al.put {bs : List Addr} {H : Hp} {p : Addr} {o : HO} (x : Al bs H) : Al bs (upd H p o) := fun a h => by
  by_cases e : a = p
  · exact ⟨o, by rw [e]; exact upd_same⟩
  · obtain ⟨u, q⟩ := x a h; exact ⟨u, by rw [upd_ne e]; exact q⟩
theorem pairAll_append {α β : Type} {F : α → β → Prop} : ∀ {xs : List α} {ys : List β} {x : α} {y : β}, Paired F xs ys → F x y → Paired F (xs ++ [x]) (ys ++ [y])
  | _, _, _, _, .nil, h => .cons h .nil
  | _, _, _, _, .cons a r, h => .cons a (pairAll_append r h)
theorem Same.put {H H' : Hp} {p : Addr} {o : HO} (x : Same H H') (hp : H p = none) : Same H (upd H' p o) := fun a u e => by rw [upd_ne (ne_of_none e hp)]; exact x a u e
theorem Kp.put2 {bs : List Addr} {H H' : Hp} {p : Addr} {o : HO} (x : Kp bs H H') (hp : p ∈ bs) : Kp bs H (upd H' p o) := x.trans (Kp.atb hp)
theorem len_tl (x : Str) : x.length = x.cps.toList.length := (Array.length_toList).symm
theorem app_sg_inj {st : Str} {c d : Nat} (h : st ++ sg c = st ++ sg d) : c = d := by
  have e := congrArg tl h
  rw [tl_append, tl_append] at e
  have e2 := List.append_cancel_left e
  injection e2
theorem names_nd {st : Str} {sh n : Nat} (hn : n ≤ 12) : ((List.range n).map fun k => st ++ sg (spin sh k)).Nodup := by
  refine List.pairwise_map.mpr (List.Pairwise.imp_of_mem ?_ (List.pairwise_lt_range (n := n)))
  intro i j hi hj hlt e
  rw [List.mem_range] at hi hj
  have z := spin_inj (by omega) (by omega) (app_sg_inj e)
  omega
section
variable {P : Program} {w : World} {K : PySem.W.Frag} {mg : Str → Option Value} {base : Heap}
abbrev s_law_kinds : Stmt := top 41
theorem sc_law_kinds : FnScope ["box", "many", "stem", "shift", "letters", "k", "letter"] ["box"] (defScope s_law_kinds) := ⟨rfl, rfl, rfl, by decide +kernel, rfl, by decide +kernel, by decide +kernel⟩
def spKinds : Sp := fun vs H Q _ => ∃ (b : Addr) (n : Nat), vs = [.ref b] ∧ Bx b n H ∧ n ≤ 800000000 ∧ ∀ (a : Addr) (xs : List V) (ks : List Kind) H', hid [b] H' a = some (.lst xs) → KindsAt (hid [b] H') xs ks → GoodKinds ks → Kp [b] H H' → Bx b (n + 40) H' → Q (.ref a) H'
theorem ok_law_kinds (G : Bl mg) (D : DefAt K mg "_law_kinds" s_law_kinds) (cT : Callee P w K mg base 2 "_law_take" ["box", "many"] spTake) (cL : Callee P w K mg base 4 "_law_letters" ["box", "many"] spLetters) : Callee P w K mg base 6 "_law_kinds" ["box"] spKinds := by
  refine callee D sc_law_kinds (fun vs H Q E h => by obtain ⟨b, n, rfl, _⟩ := h; rfl) (fun _ _ _ _ _ _ us hl => match us, hl with | [_], _ => rfl) fun f cdv A outer s H vs Q E hr h => ?_
  obtain ⟨b, n, rfl, hb, hn, q⟩ := h
  refine ⟨_, (pss_cons (ps_asg (pe_tup (pa_cons (pe_ix ix_list (pe_lst (pa_cons pe_int (pa_cons pe_int (pa_cons pe_int (pa_cons pe_int (pa_cons pe_int (pa_cons pe_int (pa_cons pe_int (pa_cons pe_int pa_nil))))))))) (pe_cal cT hr (by decide) (pa_cons (pv 0) (pa_cons pe_int pa_nil))) (fun _ _ => rfl)) (pa_cons (pe_cal cL hr (by decide) (pa_cons (pv 0) (pa_cons (pe_cal cT hr (by decide) (pa_cons (pv 0) (pa_cons pe_int pa_nil))) pa_nil))) pa_nil))) (pg_tup (by rfl) (pgs_cons (pg_name (i := 1) sc_law_kinds.nd rfl (Or.inl rfl)) (pgs_cons (pg_name (i := 2) sc_law_kinds.nd rfl (Or.inr rfl)) pgs_nil))))
    (pss_cons (ps_set (i := 3) sc_law_kinds.nd rfl (Or.inr rfl) (pe_cal cT hr (by decide) (pa_cons (pv 0) (pa_cons pe_int pa_nil))))
    (pss_cons (ps_setLc (i := 4) (own := [("k", 5)]) (g := gName 5) rfl sc_law_kinds.nd rfl rfl (sw_true rfl rfl rfl (by decide +kernel)) (pi_range1 (by rfl) G.b_range (pa_cons (pv 1) pa_nil)) (blkOk_by (N := ["box", "many", "stem", "shift", "letters", "k", "letter"]) (sc := defScope s_law_kinds) (by decide +kernel)) (fun _ _ _ _ _ => (pg_name (i := 5) sc_law_kinds.nd rfl (Or.inl rfl))) (fun _ _ _ _ _ => pts_nil) (fun _ _ _ _ _ => (pe_ix ix_str pe_str (pe_op op_mod (pe_callTy call_int1 (by rfl) G.b_int (by decide +kernel) (pa_cons (pe_op op_add (pv 3) (pe_op op_mul pe_int (pv 5))) pa_nil)) pe_int) (fun _ _ => rfl))))
    (pss_one (ps_ret (pe_lc (own := [("letter", 6)]) (g := gName 6) rfl sc_law_kinds.nd (pi_list (pv 4)) (blkOk_by (N := ["box", "many", "stem", "shift", "letters", "k", "letter"]) (sc := defScope s_law_kinds) (by decide +kernel)) (fun _ _ _ _ _ => (pg_name (i := 6) sc_law_kinds.nd rfl (Or.inl rfl))) (fun _ _ _ _ _ => pts_nil) (fun _ _ _ _ _ => (pe_tup (pa_cons (pe_op op_add_str (pv 2) (pv 6)) (pa_cons (pe_op op_add pe_int (pe_cal cT hr (by decide) (pa_cons (pv 0) (pa_cons pe_int pa_nil)))) pa_nil)))))))))), ?_⟩
  -- many, stem
  refine ⟨by decide, fun p1 hp1 => ⟨_, rfl, ?_⟩⟩
  have b1 : Bx b n (upd H p1 (.lst [.int 1, .int 2, .int 3, .int 2, .int 1, .int 4, .int 12, .int 2])) := hb.same (same_new hp1)
  have k1 : Kp [b] H (upd H p1 (.lst [.int 1, .int 2, .int 3, .int 2, .int 1, .int 4, .int 12, .int 2])) := Kp.new hp1
  have n1 := hb.ne hp1
  obtain ⟨o1, e1, i1⟩ := id b1
  refine ⟨b, 8, n, o1, rfl, e1, i1, by omega, by decide, by decide, fun d1 o2 hd1 i2 => ?_⟩
  refine ⟨p1, _, d1, _, rfl, rfl, SqL.of (by rw [upd_ne (Ne.symm n1)]; exact upd_same), menuM_at d1 hd1, ⟨_, rfl, _, rfl, b, 4, n + 1, o2, rfl, upd_same, i2, by omega, by decide, by decide, fun d2 o3 hd2 i3 => ?_⟩⟩
  have k2 := (k1.trans (Kp.atb (o := o2) (by simp : b ∈ [b]))).trans (Kp.atb (o := o3) (by simp : b ∈ [b]))
  refine ⟨b, d2, n + 2, rfl, ⟨o3, upd_same, i3⟩, by omega, by omega, fun stl st H3 est lst ltst k3 b3 => ?_⟩
  refine ⟨by show 2 ≤ sizeLine; decide, fun p2 hp2 => ⟨p2, _, rfl, SqT.of upd_same, rfl, _, _, rfl, _, _, rfl, rfl, ?_⟩⟩
  have k4 := (k2.trans k3).trans (Kp.new (o := .tup [.int (menuM d1 : Int), .str st]) hp2)
  have b4 := b3.same (same_new (o := .tup [.int (menuM d1 : Int), .str st]) hp2)
  generalize upd H3 p2 (.tup [.int (menuM d1 : Int), .str st]) = H4 at k4 b4 ⊢
  obtain ⟨m1, m12⟩ := menuM_le d1 hd1
  generalize menuM d1 = mm at m1 m12 ⊢
  -- shift
  obtain ⟨o4, e4, i4⟩ := id b4
  refine ⟨_, rfl, b, 26, _, o4, rfl, e4, i4, by omega, by decide, by decide, fun sh o5 hsh i5 => ?_⟩
  have k5 := k4.trans (Kp.atb (o := o5) (by simp : b ∈ [b]))
  have b5 : Bx b (n + 20) (upd H4 b o5) := Bx.mono ⟨o5, upd_same, i5⟩ (by omega)
  generalize upd H4 b o5 = H5 at k5 b5 ⊢
  -- letters
  refine ⟨_, rfl, mm, rfl, by omega, by omega, fun D1 hD1 => ?_⟩
  have bD1 := b5.ne hD1
  refine lc_range (lo := 0) (n := mm) (fun i H' => Same H5 H' ∧ H' D1 = some (.lst ((List.range i).map fun k => V.str (sg (spin sh k))))) ⟨same_new hD1, upd_same⟩ ?_ ?_
  · rintro i H6 hi ⟨s6, d6⟩
    refine ⟨rfl, tyes ?_⟩
    refine iteT ?_
    have ei : ((sh : Int) + 5 * (0 + (i : Int))) % 26 = (((sh + 5 * i) % 26 : Nat) : Int) := by omega
    refine ⟨_, rfl, _, rfl, _, _, rfl, rfl, .inl ⟨by decide, by decide⟩, _, _, rfl, rfl, .inl ⟨_, rfl, _, _, rfl, rfl, (by show (0 : Int) < 26; decide), abc, _, 97 + (sh + 5 * i) % 26, rfl, rfl, by decide, ?_, _, d6, ?_, ?_⟩⟩
    · rw [ei]; exact atI_nat (abc_at _ (by omega))
    · rw [List.length_map, List.length_range]; exact small1000 (by omega)
    · refine ⟨Same.put s6 hD1, ?_⟩
      · rw [upd_same, List.range_succ, List.map_append]; rfl
  rintro H6 ⟨s6, d6⟩
  have k6 : Kp [b] H H6 := k5.trans (Kp.of s6)
  have b6 := b5.same s6
  -- the tuples
  refine ⟨_, rfl, D1, rfl, ⟨_, SqL.of d6⟩, fun D2 hD2 => ?_⟩
  have bD2 := b6.ne hD2
  have ne12 : D1 ≠ D2 := fun z => by rw [z, hD2] at d6; cases d6
  refine lc_list (K := K) (a := D1) (xs := (List.range mm).map fun k => V.str (sg (spin sh k))) (fun i H' => ∃ (xs : List V) (ks : List Kind), Kp [b] H6 H' ∧ Bx b (n + 20 + i) H' ∧ H' D2 = some (.lst xs) ∧ KindsAt (hid [b, D2] H') xs ks ∧ ks.map (·.1) = (List.range i).map (fun k => st ++ sg (spin sh k)) ∧ ∀ k ∈ ks, k.2 = 2 ∨ k.2 = 3)
    ⟨[], [], Kp.new hD2, b6.same (same_new hD2), upd_same, .nil, rfl, by intro k h; cases h⟩ (fun i H' _ ⟨_, _, k7, _⟩ => SqL.of (k7 D1 _ (by simpa using Ne.symm bD1) d6)) ?_ ?_
  · rintro i x H7 hx ⟨xs, ks, k7, b7, d7, kk, en, tw⟩
    have hi : i < mm := by
      have z := (List.getElem?_eq_some_iff.mp hx).1
      rw [List.length_map, List.length_range] at z; exact z
    have ex : x = V.str (sg (spin sh i)) := by
      rw [List.getElem?_map, List.getElem?_range hi] at hx
      exact (Option.some.inj hx).symm
    subst ex
    have ls : st.length ≤ 4 := by rw [len_tl, est]; omega
    have lks : ks.length = i := by have z := congrArg List.length en; rw [List.length_map, List.length_map, List.length_range] at z; exact z
    refine ⟨rfl, tyes ?_⟩
    refine iteT ?_
    obtain ⟨o7, e7, i7⟩ := id b7
    refine ⟨_, rfl, _, rfl, st, sg (spin sh i), rfl, rfl, (by show st.length + 1 ≤ sizeLine; exact Nat.le_of_lt (small1000 (by omega))), _, rfl, b, 2, _, o7, rfl, e7, i7, by omega, by decide, by decide, fun dd o8 hdd i8 => ?_⟩
    have b8 : Bx b (n + 20 + (i + 1)) (upd H7 b o8) := ⟨o8, upd_same, i8⟩
    have k8 : Kp [b] H7 (upd H7 b o8) := Kp.atb (by simp)
    have d8 : (upd H7 b o8) D2 = some (.lst xs) := by rw [upd_ne (Ne.symm bD2)]; exact d7
    generalize upd H7 b o8 = H8 at k8 b8 d8 ⊢
    refine ⟨_, _, rfl, rfl, by show 2 ≤ sizeLine; decide, fun p hp => ?_⟩
    have pb := b8.ne hp
    have pD : D2 ≠ p := fun z => by rw [z, hp] at d8; cases d8
    have lx : xs.length = ks.length := Paired.length kk
    refine ⟨xs, by rw [upd_ne pD]; exact d8, small1000 (by omega), xs ++ [.ref p], ks ++ [(st ++ sg (spin sh i), 2 + dd)], ?_, ?_, upd_same, ?_, ?_, ?_⟩
    · exact ((k7.trans k8).trans (Kp.new hp)).put hD2
    · exact Bx.put (b8.same (same_new hp)) bD2
    · refine pairAll_append (KindsAt.same ?_ kk) ⟨p, rfl, ?_⟩
      · refine Kp.hid (((k8.mono (by simp)).trans (Kp.new hp)).put2 (by simp))
      · rw [hid_out (by simp; exact ⟨Ne.symm pb, Ne.symm pD⟩), upd_ne (Ne.symm pD), upd_same]; rfl
    · rw [List.map_append, en, List.range_succ, List.map_append]; rfl
    · intro k hk
      rcases List.mem_append.mp hk with hk | hk
      · exact tw k hk
      · rw [List.mem_singleton.mp hk]
        show 2 + dd = 2 ∨ 2 + dd = 3
        omega
  · rintro H7 ⟨xs, ks, k7, b7, d7, kk, en, tw⟩
    rw [List.length_map, List.length_range] at b7 en
    have lks : ks.length = mm := by have z := congrArg List.length en; rw [List.length_map, List.length_map, List.length_range] at z; exact z
    refine q D2 xs ks H7 (by rw [hid_out (by simpa using Ne.symm bD2)]; exact d7) (KindsAt.same (fun a o e => ?_) kk) ⟨by omega, fun k hk => ?_, tw, by rw [en]; exact names_nd m12⟩ (k6.trans k7) (b7.mono (by omega))
    · obtain ⟨n1, e1⟩ := hid_some e
      rw [hid_out (fun z => n1 (by simp at z ⊢; exact .inl z))]; exact e1
    · have hk' : k.1 ∈ ks.map (·.1) := List.mem_map.mpr ⟨k, hk, rfl⟩
      rw [en] at hk'
      obtain ⟨j, hj, ej⟩ := List.mem_map.mp hk'
      rw [← ej]
      have e2 : tl (st ++ sg (spin sh j)) = stl ++ [spin sh j] := by rw [tl_append]; show tl st ++ _ = _; rw [show tl st = stl from est]; rfl
      refine ⟨fun c hc => ?_, ?_⟩
      · have hc' : c ∈ tl (st ++ sg (spin sh j)) := hc
        rw [e2] at hc'
        rcases List.mem_append.mp hc' with hc' | hc'
        · exact ltst c (by rw [est]; exact hc')
        · rw [List.mem_singleton.mp hc']; unfold spin; omega
      · have e3 : (st ++ sg (spin sh j)).cps.toList.length = d2 + 1 := by
          show (tl (st ++ sg (spin sh j))).length = _
          rw [e2, List.length_append, lst]; rfl
        omega
end
end NH
set_option maxHeartbeats 4000000
namespace NH
open PySem PySem.Spec PyProof.Rows L2 TL
theorem paired_get {α β : Type} {F : α → β → Prop} : ∀ {xs : List α} {ys : List β} {i : Nat} {x : α}, Paired F xs ys → xs[i]? = some x → ∃ y, ys[i]? = some y ∧ F x y
  | _, _, _, _, .nil, e => by simp at e
  | _, _, 0, _, .cons r _, e => by simp at e; subst e; exact ⟨_, rfl, r⟩
  | _, _, i + 1, x, .cons _ t, e => by
    obtain ⟨u, h1, h2⟩ := paired_get (i := i) (x := x) t (by simpa using e)
    exact ⟨u, by simpa using h1, h2⟩
def dg (i : Nat) : Str := sg (49 + i)
def d123 : Str := Str.ofString "123"
theorem d123_at : ∀ i : Nat, i < 3 → d123.cps.toList[i]? = some (49 + i) := by decide +kernel
def sidesK (k : Kind) : List Str := (List.range k.2).map fun i => k.1 ++ dg i
def sidesOf (ks : List Kind) : List Str := ks.flatMap sidesK
theorem sidesOf_take {ks : List Kind} {i : Nat} {k : Kind} (h : ks[i]? = some k) : sidesOf (ks.take (i + 1)) = sidesOf (ks.take i) ++ sidesK k := by
  obtain ⟨hi, e⟩ := List.getElem?_eq_some_iff.mp h
  unfold sidesOf
  rw [List.take_succ_eq_append_getElem hi, List.flatMap_append, e]
  simp
/-- kinds that sides can be told of -/
structure FairKinds (ks : List Kind) : Prop where
  len : ks.length ≤ 12
  nm : ∀ k ∈ ks, k.1.cps.toList.length ≤ 4
  two : ∀ k ∈ ks, k.2 = 2 ∨ k.2 = 3
theorem GoodKinds.fair {ks : List Kind} (g : GoodKinds ks) : FairKinds ks := ⟨g.len.2, fun k h => (g.ltr k h).2.2, g.two⟩
theorem sides_len : ∀ {ks : List Kind}, (∀ k ∈ ks, k.2 = 2 ∨ k.2 = 3) → (sidesOf ks).length ≤ 3 * ks.length
  | [], _ => by simp [sidesOf]
  | k :: r, h => by
    have ih := sides_len (ks := r) fun z hz => h z (List.mem_cons_of_mem _ hz)
    have e : sidesOf (k :: r) = sidesK k ++ sidesOf r := rfl
    have z : (sidesK k).length = k.2 := by unfold sidesK; rw [List.length_map, List.length_range]
    rw [e, List.length_append, z, List.length_cons]
    rcases h k (List.mem_cons_self ..) with q | q <;> omega
section
variable {P : Program} {w : World} {K : PySem.W.Frag} {mg : Str → Option Value} {base : Heap}
abbrev s_law_sides : Stmt := top 42
theorem sc_law_sides : FnScope ["kinds", "found", "name", "many", "k"] ["kinds"] (defScope s_law_sides) := ⟨rfl, rfl, rfl, by decide +kernel, rfl, by decide +kernel, by decide +kernel⟩
def spSides : Sp := fun vs H Q _ => ∃ (a : Addr) (xs : List V) (ks : List Kind), vs = [.ref a] ∧ H a = some (.lst xs) ∧ KindsAt H xs ks ∧ FairKinds ks ∧ ∀ (p : Addr) (ys : List Str) H', Same H H' → H p = none → H' p = some (.lst (ys.map .str)) → ys.Perm (sidesOf ks) → Q (.ref p) H'
theorem ok_law_sides (G : Bl mg) (D : DefAt K mg "_law_sides" s_law_sides) : Callee P w K mg base 2 "_law_sides" ["kinds"] spSides := by
  refine callee D sc_law_sides (fun vs H Q E h => by obtain ⟨a, xs, ks, rfl, _⟩ := h; rfl) (fun _ _ _ _ _ _ us hl => match us, hl with | [_], _ => rfl) fun f cdv A outer s H vs Q E hr h => ?_
  obtain ⟨a, xs, ks, rfl, ha, hk, fk, q⟩ := h
  refine ⟨_, (pss_cons (ps_set (i := 1) sc_law_sides.nd rfl (Or.inl rfl) (pe_lst pa_nil))
    (pss_cons (ps_for PassesOwn.never rfl (pi_list (pv 0)) (pg_tup (by rfl) (pgs_cons (pg_name (i := 2) sc_law_sides.nd rfl (Or.inr rfl)) (pgs_cons (pg_name (i := 3) sc_law_sides.nd rfl (Or.inl rfl)) pgs_nil))) (pss_one (ps_set (i := 1) sc_law_sides.nd rfl (Or.inl rfl) (pe_op op_cat (pv 1) (pe_lc (own := [("k", 4)]) (g := gName 4) rfl sc_law_sides.nd (pi_range1 (by rfl) G.b_range (pa_cons (pv 3) pa_nil)) (blkOk_by (N := ["kinds", "found", "name", "many", "k"]) (sc := defScope s_law_sides) (by decide +kernel)) (fun _ _ _ _ _ => (pg_name (i := 4) sc_law_sides.nd rfl (Or.inl rfl))) (fun _ _ _ _ _ => pts_nil) (fun _ _ _ _ _ => (pe_op op_add_str (pv 2) (pe_ix ix_str pe_str (pv 4) (fun _ _ => rfl)))))))))
    (pss_one (ps_ret (pe_callB cr_sortedS (by rfl) G.b_sorted (by decide +kernel) (pa_cons (pv 1) pa_nil)))))), ?_⟩
  refine ⟨by show 0 ≤ sizeLine; decide, fun p0 hp0 => ⟨_, rfl, a, rfl, ⟨xs, SqL.of (same_new hp0 a _ ha)⟩, for_list (K := K) (a := a) (xs := xs) (fun i σ H' => ∃ (fd : Addr) (x2 x3 : Option V), σ = [some (.ref a), some (.ref fd), x2, x3, none] ∧ Same H H' ∧ H fd = none ∧ H' fd = some (.lst ((sidesOf (ks.take i)).map .str)))
    ⟨p0, none, none, rfl, same_new hp0, hp0, upd_same⟩ (fun i σ H' _ ⟨_, _, _, _, s1, _⟩ => SqL.of (s1 a _ ha)) ?_ ?_⟩⟩
  · rintro i x σ H1 hx ⟨fd, x2, x3, rfl, s1, hfd, d1⟩
    obtain ⟨k, ek, t, rfl, ht⟩ := paired_get hk hx
    have mk : k ∈ ks := List.mem_of_getElem? ek
    have ltw := fk.two k mk
    have lnm := fk.nm k mk
    refine ⟨t, _, rfl, SqT.of (s1 t _ ht), rfl, _, _, rfl, _, _, rfl, rfl, _, rfl, _, rfl, k.2, rfl, by omega, by omega, fun D hD => ?_⟩
    refine lc_range (lo := 0) (n := k.2) (fun j H' => Same H1 H' ∧ H' D = some (.lst (((List.range j).map fun z => k.1 ++ dg z).map .str))) ⟨same_new hD, upd_same⟩ ?_ ?_
    · rintro j H2 hj ⟨s2, d2⟩
      refine ⟨rfl, tyes ?_⟩
      refine iteT ?_
      refine ⟨_, rfl, _, rfl, d123, _, 49 + j, rfl, rfl, by decide, ?_, _, _, rfl, rfl, ?_, _, d2, ?_, Same.put s2 hD, ?_⟩
      · rw [show (0 : Int) + (j : Int) = (j : Int) by omega]; exact atI_nat (d123_at _ (by omega))
      · have e1 : k.1.length ≤ 4 := by rw [len_tl]; exact lnm
        show k.1.length + 1 ≤ sizeLine
        exact Nat.le_of_lt (small1000 (by omega))
      · rw [List.length_map, List.length_map, List.length_range]; exact small1000 (by omega)
      · rw [upd_same, List.range_succ, List.map_append, List.map_append]; rfl
    · rintro H2 ⟨s2, d2⟩
      refine ⟨_, _, _, _, rfl, rfl, s2 fd _ d1, d2, ?_, fun p hp => ⟨p, _, _, rfl, Same.trans s1 (s2.trans (same_new hp)), ?_, ?_⟩⟩
      · have z1 := sides_len (ks := ks.take i) fun z hz => fk.two z (List.mem_of_mem_take hz)
        have z2 := fk.len
        rw [List.length_map, List.length_map, List.length_map, List.length_range]
        rw [List.length_take] at z1
        exact Nat.le_of_lt (small1000 (by omega))
      · exact (s1.trans s2).free hp
      · rw [upd_same, sidesOf_take ek, List.map_append]; rfl
  · rintro σ H1 ⟨fd, x2, x3, rfl, s1, hfd, d1⟩
    have e : ks.take xs.length = ks := by rw [Paired.length hk]; exact List.take_length
    rw [e] at d1
    refine ⟨_, rfl, fd, _, rfl, SqL.of d1, ?_, fun ys p perm _ hp => q p ys _ (s1.trans (same_new hp)) (s1.free hp) upd_same perm⟩
    have z1 := sides_len fk.two
    have z2 := fk.len
    omega
end
end NH
set_option maxHeartbeats 4000000
/-! set(xs) of texts that all differ, and its length. -/
namespace NSet
open PySem PySem.Spec PyProof.Rows L2
/-- the first so many texts, as a question -/
abbrev upto (zs : List Str) (j : Nat) : Str → Bool := fun q => (zs.take j).any (· == q)
theorem upto_step {zs : List Str} {j : Nat} (hj : j < zs.length) (q : Str) : (upto zs j q || decide (q = zs.getD j Str.empty)) = upto zs (j + 1) q := by
  have eD : zs.getD j Str.empty = zs[j] := by simp [List.getD, hj]
  show ((zs.take j).any (· == q) || decide (q = zs.getD j Str.empty)) = (zs.take (j + 1)).any (· == q)
  rw [List.take_succ_eq_append_getElem hj, List.any_append, eD]
  congr 1
  simp only [List.any_cons, List.any_nil, Bool.or_false]
  by_cases e : q = zs[j]
  · rw [decide_eq_true e, e]; simp
  · rw [decide_eq_false e]; exact (beq_eq_false_iff_ne.mpr (Ne.symm e)).symm
theorem upto_new {zs : List Str} (nd : zs.Nodup) {j : Nat} (hj : j < zs.length) : upto zs j (zs.getD j Str.empty) = false := by
  have eD : zs.getD j Str.empty = zs[j] := by simp [List.getD, hj]
  rw [eD]
  refine List.any_eq_false.mpr fun y hy e => ?_
  have e' : y = zs[j] := by simpa using e
  obtain ⟨m, hm, em⟩ := List.mem_iff_getElem.mp hy
  rw [List.length_take] at hm
  have em2 : zs[m]'(by omega) = zs[j] := by rw [← e', ← em, List.getElem_take]
  have z := (List.getElem_inj nd).mp em2
  omega
section
variable {prog : Program} {w : World} {A : Around} {R : Result → Shared → Prop} {I : Addr} {fp wr : List Addr} {Gn : Array GenState → Array GenState → Prop} {n : Nat} {P : Nat → Value → Prop} {St : Nat → Shared → Prop}
theorem fill (W : WalksS prog w A.in1 I fp wr Gn n P St) (a : Addr) (af : a ∉ fp) (zs : List Str) (nd : zs.Nodup) (hz : zs.length = n) (hs : n ≤ 1000) (val : ∀ j v, P j v → ∃ t, v = .str (zs.getD j Str.empty) t) :
    ∀ (left j : Nat) (s : Shared), j + left = n → St j s → s.heap.SetOf (PySem.strKind prog w) a (upto zs j) j →
      (∀ s', Moved (a :: wr) Gn s s' → s'.heap.SetOf (PySem.strKind prog w) a (upto zs n) n → R (.ok (.ret .none)) s') → codeAny (model prog w) A (.builtin "set.update.loop" ⟨[.ref a, .ref I], []⟩) R s := by
  have aw : a ∉ wr := fun h => af (W.sub _ h)
  have more : ∀ b ∈ wr, b ∈ a :: wr := fun b hb => List.mem_cons_of_mem _ hb
  intro left
  induction left with
  | zero =>
    intro j s hj hst hS hR
    obtain rfl : j = n := by omega
    refine codeAny_builtin PyProof.Rows.F.entry_set_update_loop ?_
    rw [Around.under_plainId PyProof.Rows.F.plain_set_update_loop _]
    show wpAny _ A.in1 (pyNext (.ref I) >>= _) _ _ s
    refine wpAny_bind (W.done s _ _ hst fun s1 mv => ?_)
    show wpAny _ A.in1 (ret Value.none) _ _ s1
    obtain ⟨o, es, ep, t, g, rest⟩ := hS
    exact wpAny_pure (hR s1 (mv.mono more) ⟨o, es, ep, t, mv.heap a _ aw g, rest⟩)
  | succ left ih =>
    intro j s hj hst hS hR
    have lt : j < n := by omega
    refine codeAny_builtin PyProof.Rows.F.entry_set_update_loop ?_
    rw [Around.under_plainId PyProof.Rows.F.plain_set_update_loop _]
    show wpAny _ A.in1 (pyNext (.ref I) >>= _) _ _ s
    refine wpAny_bind (W.item j s _ _ lt hst fun v s1 hP st1 mv => ?_)
    obtain ⟨t, rfl⟩ := val j v hP
    have hS1 : s1.heap.SetOf (PySem.strKind prog w) a (upto zs j) j := by
      obtain ⟨o, es, ep, tb, g, rest⟩ := hS
      exact ⟨o, es, ep, tb, mv.heap a _ aw g, rest⟩
    have new := upto_new nd (j := j) (by omega)
    show wpAny _ A.in1 (holding [Value.str (zs.getD j Str.empty) t] (setAdd a (.str (zs.getD j Str.empty) t)) >>= _) _ _ s1
    refine wpAny_bind (wpAny_holding ?_)
    unfold setAdd
    refine wpAny_holding (wpAny_bind ((PySem.strKind prog w).pyHash (k := zs.getD j Str.empty) (strKind_is _ _ _ _) ?_))
    refine wpAny_setAddHashed_of (knd := PySem.strKind prog w) (s := { s1 with toks := s1.toks + 1 }) (strKind_is _ _ _ _) rfl hS1 (by unfold scanBound; omega) fun h2 sb hS2 => ?_
    have hS3 : h2.SetOf (PySem.strKind prog w) a (upto zs (j + 1)) (j + 1) := PyProof.Rows.SetOf_congr hS2 (fun q => upto_step (by omega) q) (by rw [new]; rfl)
    refine wpAny_pure ⟨plainId_quiet PyProof.Rows.F.plain_set_update_loop _, ih (j + 1) _ (by omega) (W.frame _ s1 _ _ st1 (Nat.le_succ _) fun b hb o e => ?_) hS3 fun s4 mv4 hS4 => ?_⟩
    · exact (sb.2 b fun z => af (by rw [← z]; exact hb)).trans e
    · refine hR s4 (Moved.trans W.gtrans ((mv.mono more).then_heap (Nat.le_succ _) fun b o hb e => ?_) mv4) hS4
      exact (sb.2 b fun z => hb (by rw [z]; exact List.mem_cons_self)).trans e
end
end NSet
namespace NSet
open PySem PySem.Spec PyProof.Rows L2
section
variable {prog : Program} {w : World} {A : Around} {E : Value → Shared → Prop} {s : Shared}
/-- the empty set that set(..) begins with -/
abbrev setB (led : Bool) : Obj := { cls := .type "set", dict := none, data := .set #[] 0 (.fresh 0 0 led) }
abbrev grown (s : Shared) (led : Bool) : Shared := { s with heap := s.heap.push (setB led) }
/-- what set(xs) leaves -/
def Full (prog : Program) (w : World) (s : Shared) (zs : List Str) (s' : Shared) : Prop := ∃ h' tk, s' = { s with heap := h', toks := tk } ∧ h'.SetOf (PySem.strKind prog w) s.heap.objs.size (upto zs zs.length) zs.length ∧ ∀ b o, b < s.heap.objs.size → s.heap.get? b = some o → h'.get? b = some o
theorem init_list {B : Around} {l : Addr} {items : Array Value} {zs : List Str} {led : Bool} (hh : B.handled = none) (hl : s.heap.IsList l items) (hi : PyProof.Rows.StrsAre items.toList zs) (nd : zs.Nodup) (sm : zs.length ≤ 1000) :
    codeAny (model prog w) B (.call (.builtin "set.__init__") ⟨[.ref s.heap.objs.size, .ref l], []⟩) (wants (fun r s2 => r = .none ∧ Full prog w s zs s2) E) (grown s led) := by
  have at_ : (grown s led).heap.get? s.heap.objs.size = some (setB led) := Heap.get?_push_size _ rfl
  refine codeAny_call_builtin PySem.F.called_set.init.plain PySem.F.entry_set_init (check_set_init_1 ⟨_, at_, rfl⟩ ?_)
  obtain ⟨⟨oc, od, dt, sl⟩, hol, ec, nl, ed⟩ := hl
  dsimp only at ec ed
  subst ec ed
  have in2 : (grown s led).heap.get? l = some { cls := .type "list", dict := od, data := .seq items nl, slots := sl } := Heap.get?_push_of_some _ hol
  have il : (grown s led).heap.IsList l items := ⟨_, in2, rfl, nl, rfl⟩
  have f1 := PySem.F.sub_list_set
  have f2 := PySem.F.sub_list_frozenset
  have f3 : (Value.type "list" == Value.type "dict") = false := by decide
  unfold Builtin.«set.__init__» noKeywords Builtin.Frozenset.updateFrom
  generalize hP : pyIter = pyI
  wp_walk
  subst hP
  refine wpAny_pyIter_list il (wpAny_bind (wpAny_runValue ?_))
  have ll : l < s.heap.objs.size := Heap.lt_size hol
  have ez : (grown s led).heap.objs.size = s.heap.objs.size + 1 := Heap.size_push ..
  have h2 : B.in1.in1.handled = none := by simp [hh]
  have ne1 : l ≠ (grown s led).heap.objs.size := by rw [ez]; exact Nat.ne_of_lt (Nat.lt_succ_of_lt ll)
  have nf : s.heap.objs.size ∉ [(grown s led).heap.objs.size, l] := by
    rw [ez]
    intro z
    rcases List.mem_cons.mp z with z | z
    · exact Nat.ne_of_lt (Nat.lt_succ_self _) z
    · exact Nat.ne_of_gt ll (List.mem_singleton.mp z)
  have eL : zs.length = items.size := by rw [← StrsAre.len_eq hi, Array.length_toList]
  have val : ∀ (j : Nat) (v : Value), items[j]? = some v → ∃ t, v = .str (zs.getD j Str.empty) t := fun j v hv => SS.strs_at hi j v (by rw [Array.getElem?_toList]; exact hv)
  refine fill ((Walks.list h2 _ l ne1 items).toS) s.heap.objs.size nf zs nd eL (by omega) val items.size 0 _ (by omega) ⟨⟨_, Heap.get?_push_size _ rfl, rfl, rfl⟩, (il.push _)⟩ ?_ ?_
  · have g2 : ((grown s led).heap.push { cls := .type "list_iterator", data := .fields #[.ref l, .int 0 0] }).get? s.heap.objs.size = some (setB led) := Heap.get?_push_of_some _ at_
    exact PyProof.Rows.SetOf_congr ((PyProof.Rows.setObjOf_fresh (knd := PySem.strKind prog w) led).setOf g2 (by unfold scanBound; omega)) (fun _ => rfl) rfl
  · rintro ⟨h', g', d', tk', os'⟩ mv hS
    obtain rfl : g' = s.gens := mv.gens
    obtain rfl : d' = s.drawn := mv.drawn
    obtain rfl : os' = s.os := mv.os
    show wpAny _ _ _ _ _ _
    refine wpAny_pure ?_
    show wpAny _ _ (ret Value.none) _ _ _
    refine wpAny_pure ⟨rfl, h', tk', rfl, by rw [eL]; exact hS, fun b o hb e => ?_⟩
    refine mv.heap b o (fun z => ?_) (Heap.get?_push_of_some _ (Heap.get?_push_of_some _ e))
    rcases List.mem_cons.mp z with z | z
    · exact Nat.ne_of_lt hb z
    · have z2 := List.mem_singleton.mp z
      rw [ez] at z2
      exact Nat.ne_of_lt (Nat.lt_succ_of_lt hb) z2
set_option maxHeartbeats 8000000 in
theorem call_set_texts {l : Addr} {items : Array Value} {zs : List Str} {Q : Value → Shared → Prop} (hh : A.handled = none) (hl : s.heap.IsList l items) (hi : PyProof.Rows.StrsAre items.toList zs) (nd : zs.Nodup) (sm : zs.length ≤ 1000)
    (q : ∀ s', Full prog w s zs s' → Q (.ref s.heap.objs.size) s') : wpAny (model prog w) A (call (.type "set") [.ref l]) Q E s := by
  obtain ⟨mc, mt, mro⟩ := PySem.F.called_set.mro
  have made := PySem.F.called_set.made
  have sub := PySem.F.called_set.sub
  have nt := PySem.F.called_set.notType
  have cc := PySem.F.called_set.canCreate
  have tc := PySem.F.typeCall_set_1 (.ref l)
  refine wpAny_call (codeAny_of_tree ?_)
  show wpAny _ _ (callAny (.type "set") _) _ _ _
  refine wpAny_pure ⟨Code.quiet_builtin _ (by decide +kernel), codeAny_builtin PySem.F.entry_type_call ?_⟩
  rw [Around.under_plain (weight_type_call_type "set" [.ref l] []) rfl]
  repeat (any_goals (first | assumption | wp_step))
  refine codeAny_mono (code_set_new_1 (.ref l) (E := E) (Q₁ := fun obj s1 => ∃ led : Bool, obj = .ref s.heap.objs.size ∧ s1 = grown s led) fun led => ⟨led, rfl, rfl⟩) fun r s1 hr => ?_
  cases r with
  | error e => exact hr
  | ok fl =>
    cases fl with
    | ret obj =>
      obtain ⟨led, rfl, rfl⟩ := hr
      have at_ : (grown s led).heap.get? s.heap.objs.size = some (setB led) := Heap.get?_push_size _ rfl
      have ty : Shared.TypeIs (grown s led) (.ref s.heap.objs.size) "set" := ⟨_, at_, rfl⟩
      have li := PySem.F.called_set.init.lookup
      have bi := PySem.F.called_set.init.bind (.ref s.heap.objs.size)
      repeat (any_goals (first | assumption | wp_step))
      refine codeAny_mono (init_list (B := A.in1) (E := E) (by simp [hh]) hl hi nd sm) fun r2 s2 hr2 => ?_
      cases r2 with
      | error e => exact hr2
      | ok fl2 =>
        cases fl2 with
        | ret u =>
          obtain ⟨rfl, fu⟩ := hr2
          repeat (any_goals (first | assumption | wp_step))
          exact q _ fu
        | next => exact hr2.elim
        | brk => exact hr2.elim
        | cont => exact hr2.elim
    | next => exact hr.elim
    | brk => exact hr.elim
    | cont => exact hr.elim
end
end NSet
namespace NSet
open PySem PySem.Spec PyProof.Rows L2
/-- len(set(xs)), xs a list of texts that all differ -/
def tLenTx (K : PySem.W.Frag) (ta : TE) : TE := fun σ H Q => ta σ H fun x H1 => ∃ l, ∃ zs : List Str, x = .ref l ∧ SqL K H1 l (zs.map V.str) ∧ zs.Nodup ∧ zs.length ≤ 1000 ∧ Q (.int zs.length) H1
theorem strs_vals : ∀ {ys : List Str} {us : List Value}, Vals (ys.map V.str) us → StrsAre us ys
  | [], _, .nil => .nil
  | y :: ys, _, .cons r t => by
    obtain ⟨k, rfl⟩ := r
    exact .cons y k (strs_vals t)
variable {X : Cx}
theorem pe_lenTx {a : Expr} {ta : TE} {p p2 q pos : Pos} (hc : X.calm = true) (g1 : Gl X "len") (m1 : X.mg "len" = none) (g2 : Gl X "set") (m2 : X.mg "set" = none) (ha : PE X a ta)
    (na : starEach [a] X.env = (false, eval a X.env) :: starEach [] X.env := by rfl) : PE X (.Call (.Name "len" p) [.Call (.Name "set" p2) [a] [] q] [] pos) (tLenTx X.K ta) := by
  refine ⟨fun pins s σ H Q I h => Call_ (ld_blt I g1 m1 boot_len (PyProof.Rows.callWith_builtin1 (PyProof.Rows.args_cons (Call_ (ld_blt I g2 m2 boot_set (PyProof.Rows.callWith_type1 (PyProof.Rows.args_cons (thn (ha.run pins s σ H _ I h) fun v s1 h1 => PyProof.Rows.args_nil ?_) na) na rfl))) rfl) rfl rfl))⟩
  obtain ⟨x, H1, I1, r1, l, zs, rfl, hq, nd, sm, q1⟩ := h1
  cases r1
  obtain ⟨its, r, pl, hz⟩ := I1.list hq
  refine call_set_texts (I1.ok.hd hc) pl.isList (by simpa using strs_vals r) nd sm fun s' fu => PyProof.Rows.args_nil ?_
  obtain ⟨h', tk, rfl, hS, hk⟩ := fu
  obtain ⟨o, es, ep, t, ho, hex, hd, _, _, _, hf, hn⟩ := hS
  have I2 : Inv X pins σ H1 { s1 with heap := h', toks := tk } := I1.kept fun b o e => hk b o (Heap.lt_size e) e
  exact call_len_set ho hex hd hf (by rw [hn]; have := sm; omega) ⟨.int zs.length, H1, I2.tok _, ⟨_, by rw [hn]⟩, q1⟩
end NSet
set_option maxHeartbeats 4000000
namespace NH
open PySem PySem.Spec PyProof.Rows L2 TL
/-! ### data -/
inductive D where
  | non | bl (b : Bool) | int (i : Int) | str (x : Str) | lst (ds : List D) | tup (ds : List D) | dic
mutual
inductive Dd (H : Hp) : V → D → Prop
  | non : Dd H .non .non
  | bl (b : Bool) : Dd H (.bl b) (.bl b)
  | int (i : Int) : Dd H (.int i) (.int i)
  | str (x : Str) : Dd H (.str x) (.str x)
  | lst {a : Addr} {xs : List V} {ds : List D} : H a = some (.lst xs) → DdL H xs ds → Dd H (.ref a) (.lst ds)
  | tup {a : Addr} {xs : List V} {ds : List D} : H a = some (.tup xs) → DdL H xs ds → Dd H (.ref a) (.tup ds)
  | dic {a : Addr} : H a = some (.dK []) → Dd H (.ref a) .dic
inductive DdL (H : Hp) : List V → List D → Prop
  | nil : DdL H [] []
  | cons {v : V} {vs : List V} {d : D} {ds : List D} : Dd H v d → DdL H vs ds → DdL H (v :: vs) (d :: ds)
end
mutual
theorem Dd.same {H H' : Hp} (s : Same H H') : ∀ {v : V} {d : D}, Dd H v d → Dd H' v d
  | _, _, .non => .non
  | _, _, .bl b => .bl b
  | _, _, .int i => .int i
  | _, _, .str x => .str x
  | _, _, .lst e h => .lst (s _ _ e) (DdL.same s h)
  | _, _, .tup e h => .tup (s _ _ e) (DdL.same s h)
  | _, _, .dic e => .dic (s _ _ e)
theorem DdL.same {H H' : Hp} (s : Same H H') : ∀ {vs : List V} {ds : List D}, DdL H vs ds → DdL H' vs ds
  | _, _, .nil => .nil
  | _, _, .cons h r => .cons (Dd.same s h) (DdL.same s r)
end
def D.ty : D → String
  | .non => "NoneType" | .bl _ => "bool" | .int _ => "int" | .str _ => "str" | .lst _ => "list" | .tup _ => "tuple" | .dic => "dict"
def isaT (t s : String) : Bool := s == t || (t == "int" && s == "bool")
def D.isa (t : String) (d : D) : Bool := isaT t d.ty
def tys : List String := ["NoneType", "bool", "int", "str", "list", "tuple", "dict"]
theorem D.ty_mem (d : D) : d.ty ∈ tys := by cases d <;> simp [D.ty, tys]
theorem kit_of {K : PySem.W.Frag} {t : String} (h : ∀ s ∈ tys, kitB s t = some (isaT t s)) (d : D) : PySem.W.kitOne K (.type d.ty) (.type t) = some (d.isa t) := kit_ty (h _ d.ty_mem)
theorem Dd.tyx {K : PySem.W.Frag} {H : Hp} {v : V} {d : D} (h : Dd H v d) : TyX K H v (.type d.ty) := by
  cases h with
  | non => exact .base .non
  | bl b => exact .base (.bl b)
  | int i => exact .base (.int i)
  | str x => exact .base (.str x)
  | lst e _ => exact .base (.lst e)
  | tup e _ => exact .base (.tup e)
  | dic e => exact .base (.dK e)
theorem kit_int {K : PySem.W.Frag} (d : D) : PySem.W.kitOne K (.type d.ty) (.type "int") = some (d.isa "int") := kit_of (by decide +kernel) d
theorem kit_bool {K : PySem.W.Frag} (d : D) : PySem.W.kitOne K (.type d.ty) (.type "bool") = some (d.isa "bool") := kit_of (by decide +kernel) d
theorem kit_str {K : PySem.W.Frag} (d : D) : PySem.W.kitOne K (.type d.ty) (.type "str") = some (d.isa "str") := kit_of (by decide +kernel) d
theorem kit_tuple {K : PySem.W.Frag} (d : D) : PySem.W.kitOne K (.type d.ty) (.type "tuple") = some (d.isa "tuple") := kit_of (by decide +kernel) d
theorem kit_list {K : PySem.W.Frag} (d : D) : PySem.W.kitOne K (.type d.ty) (.type "list") = some (d.isa "list") := kit_of (by decide +kernel) d
/-- a list or a tuple -/
def D.seq : D → Bool
  | .lst _ => true | .tup _ => true | _ => false
theorem kit_seq {K : PySem.W.Frag} (d : D) : PySem.W.kitAny K (.type d.ty) [.type "list", .type "tuple"] = some d.seq := by
  refine kitAny_cons (b := d.isa "list") (kit_list d) (fun e => kitAny_cons (b := d.isa "tuple") (kit_tuple d) (fun e2 => ?_) (fun e2 => ?_)) (fun e => ?_)
  · rw [kitAny_nil]; cases d <;> first | rfl | (exfalso; revert e; simp [D.isa, isaT, D.ty]; done) | (exfalso; revert e2; simp [D.isa, isaT, D.ty]; done)
  · cases d <;> first | rfl | (exfalso; revert e2; simp [D.isa, isaT, D.ty]; done)
  · cases d <;> first | rfl | (exfalso; revert e; simp [D.isa, isaT, D.ty]; done)
/-- an integer from lo to hi -/
def D.btw (lo hi : Int) : D → Bool
  | .int i => decide (lo ≤ i) && decide (i ≤ hi)
  | _ => false
section
variable {P : Program} {w : World} {K : PySem.W.Frag} {mg : Str → Option Value} {base : Heap}
abbrev s_is_between : Stmt := top 4
theorem sc_is_between : FnScope ["value", "low", "high"] ["value", "low", "high"] (defScope s_is_between) := ⟨rfl, rfl, rfl, by decide +kernel, rfl, by decide +kernel, by decide +kernel⟩
def spBtw : Sp := fun vs H Q _ => ∃ (v : V) (d : D) (lo hi : Int), vs = [v, .int lo, .int hi] ∧ Dd H v d ∧ Q (.bl (d.btw lo hi)) H
abbrev s_is_integer : Stmt := top 3
theorem sc_is_integer : FnScope ["value"] ["value"] (defScope s_is_integer) := ⟨rfl, rfl, rfl, by decide +kernel, rfl, by decide +kernel, by decide +kernel⟩
def D.whole : D → Bool
  | .int _ => true
  | _ => false
def spInt : Sp := fun vs H Q _ => ∃ (v : V) (d : D), vs = [v] ∧ Dd H v d ∧ Q (.bl d.whole) H
theorem ok_is_integer (G : Bl mg) (DA : DefAt K mg "is_integer" s_is_integer) : Callee P w K mg base 1 "is_integer" ["value"] spInt := by
  refine callee DA sc_is_integer (fun vs H Q E h => by obtain ⟨v, d, rfl, _⟩ := h; rfl) (fun _ _ _ _ _ _ us hl => match us, hl with | [_], _ => rfl) fun f cdv A outer s H vs Q E hr h => ?_
  obtain ⟨v, d, rfl, hd, q⟩ := h
  refine ⟨_, (pss_one (ps_ret (pe_and (pe_callB call_isi (by rfl) G.b_isinstance (by decide +kernel) (pa_cons (pv 0) (pa_cons (pe_bltn (v := .ty "int") (u := .type "int") (by rfl) G.b_int (by decide +kernel) rfl) pa_nil))) (pe_one (pe_not (pe_callB call_isi (by rfl) G.b_isinstance (by decide +kernel) (pa_cons (pv 0) (pa_cons (pe_bltn (v := .ty "bool") (u := .type "bool") (by rfl) G.b_bool (by decide +kernel) rfl) pa_nil)))))))), ?_⟩
  refine ⟨v, rfl, _, _, _, _, _, rfl, .ty "int", hd.tyx, kit_int d, _, rfl, itb (fun e1 => ⟨v, rfl, _, _, _, _, _, rfl, .ty "bool", hd.tyx, kit_bool d, _, rfl, ?_⟩) fun e1 => ?_⟩
  · have e : d.whole = !d.isa "bool" := by cases d <;> first | rfl | (exfalso; revert e1; simp [D.isa, isaT, D.ty]; done) | (simp [D.whole, D.isa, isaT, D.ty]; done)
    rw [e] at q; exact q
  · have e : d.whole = false := by cases d <;> first | rfl | (exfalso; revert e1; simp [D.isa, isaT, D.ty]; done)
    rw [e] at q; exact q
theorem ok_is_between (cIi : Callee P w K mg base 1 "is_integer" ["value"] spInt) (DA : DefAt K mg "is_between" s_is_between) : Callee P w K mg base 2 "is_between" ["value", "low", "high"] spBtw := by
  refine callee DA sc_is_between (fun vs H Q E h => by obtain ⟨v, d, lo, hi, rfl, _⟩ := h; rfl) (fun _ _ _ _ _ _ us hl => match us, hl with | [_, _, _], _ => rfl) fun f cdv A outer s H vs Q E hr h => ?_
  obtain ⟨v, d, lo, hi, rfl, hd, q⟩ := h
  refine ⟨_, (pss_one (ps_ret (pe_and (pe_cal cIi hr (by decide) (pa_cons (pv 0) pa_nil)) (pe_one (pe_chain op_le op_le (pv 1) (pv 0) (pv 2)))))), ?_⟩
  refine ⟨v, rfl, v, d, rfl, hd, _, rfl, itb (fun e1 => ?_) fun e1 => ?_⟩
  · cases hd with
    | int i =>
      refine ⟨_, rfl, _, rfl, _, _, rfl, rfl, _, rfl, itd (fun h1 => ⟨_, rfl, _, _, rfl, rfl, ?_⟩) fun h1 => ?_⟩
      · have e : (D.int i).btw lo hi = decide (i ≤ hi) := by show (decide (lo ≤ i) && _) = _; rw [decide_eq_true h1, Bool.true_and]
        rw [e] at q; exact q
      · have e : (D.int i).btw lo hi = false := by show (decide (lo ≤ i) && _) = _; rw [decide_eq_false h1, Bool.false_and]
        rw [e] at q; exact q
    | _ => cases e1
  · have e : d.btw lo hi = false := by cases d <;> first | rfl | (cases e1)
    rw [e] at q; exact q
abbrev s_is_list : Stmt := top 5
theorem sc_is_list : FnScope ["value"] ["value"] (defScope s_is_list) := ⟨rfl, rfl, rfl, by decide +kernel, rfl, by decide +kernel, by decide +kernel⟩
def spIsl : Sp := fun vs H Q _ => ∃ (v : V) (d : D), vs = [v] ∧ Dd H v d ∧ ∀ H', Same H H' → Q (.bl d.seq) H'
theorem ok_is_list (G : Bl mg) (DA : DefAt K mg "is_list" s_is_list) : Callee P w K mg base 2 "is_list" ["value"] spIsl := by
  refine callee DA sc_is_list (fun vs H Q E h => by obtain ⟨v, d, rfl, _⟩ := h; rfl) (fun _ _ _ _ _ _ us hl => match us, hl with | [_], _ => rfl) fun f cdv A outer s H vs Q E hr h => ?_
  obtain ⟨v, d, rfl, hd, q⟩ := h
  refine ⟨_, (pss_one (ps_ret (pe_callB call_isiT (by rfl) G.b_isinstance (by decide +kernel) (pa_cons (pv 0) (pa_cons (pe_tup (pa_cons (pe_bltn (v := .ty "list") (u := .type "list") (by rfl) G.b_list (by decide +kernel) rfl) (pa_cons (pe_bltn (v := .ty "tuple") (u := .type "tuple") (by rfl) G.b_tuple (by decide +kernel) rfl) pa_nil))) pa_nil))))), ?_⟩
  exact ⟨v, rfl, by show 2 ≤ sizeLine; decide, fun p hp => ⟨v, p, _, _, _, _, rfl, upd_same, .cons (.ty "list") (.cons (.ty "tuple") .nil), (hd.same (same_new hp)).tyx, kit_seq d, q _ (same_new hp)⟩⟩
abbrev s_is_pair : Stmt := top 6
theorem sc_is_pair : FnScope ["value"] ["value"] (defScope s_is_pair) := ⟨rfl, rfl, rfl, by decide +kernel, rfl, by decide +kernel, by decide +kernel⟩
def spPair : Sp := fun vs H Q _ => ∃ (a : Addr) (x y : V), vs = [.ref a] ∧ H a = some (.tup [x, y]) ∧ Q (.bl true) H
theorem ok_is_pair (G : Bl mg) (DA : DefAt K mg "is_pair" s_is_pair) : Callee P w K mg base 2 "is_pair" ["value"] spPair := by
  refine callee DA sc_is_pair (fun vs H Q E h => by obtain ⟨v, x, y, rfl, _⟩ := h; rfl) (fun _ _ _ _ _ _ us hl => match us, hl with | [_], _ => rfl) fun f cdv A outer s H vs Q E hr h => ?_
  obtain ⟨a, x, y, rfl, ha, q⟩ := h
  refine ⟨_, (pss_one (ps_ret (pe_and (pe_callB call_isi (by rfl) G.b_isinstance (by decide +kernel) (pa_cons (pv 0) (pa_cons (pe_bltn (v := .ty "tuple") (u := .type "tuple") (by rfl) G.b_tuple (by decide +kernel) rfl) pa_nil))) (pe_one (pe_cmpR op_eq (pe_callB call_len_seq (by rfl) G.b_len (by decide +kernel) (pa_cons (pv 0) pa_nil)) pe_int (nomark _)))))), ?_⟩
  exact ⟨_, rfl, _, _, _, _, _, rfl, .ty "tuple", .base (.tup ha), kit_ty (by decide +kernel : kitB "tuple" "tuple" = some true), _, rfl, iteT ⟨_, rfl, a, _, rfl, .inr (SqT.of ha), rfl, q⟩⟩
abbrev s_is_name : Stmt := top 7
theorem sc_is_name : FnScope ["value", "most", "letter"] ["value", "most"] (defScope s_is_name) := ⟨rfl, rfl, rfl, by decide +kernel, rfl, by decide +kernel, by decide +kernel⟩
def spName : Sp := fun vs H Q _ => ∃ (x : Str) (m : Nat), vs = [.str x, .int m] ∧ Ltr x ∧ 1 ≤ x.cps.toList.length ∧ x.cps.toList.length ≤ m ∧ m ≤ 100 ∧ ∀ H', Same H H' → Q (.bl true) H'
theorem abc_mem : ∀ c : Nat, 97 ≤ c → c ≤ 122 → c ∈ abc.cps.toList := by
  intro c h1 h2
  have z := abc_at (c - 97) (by omega)
  rw [show 97 + (c - 97) = c by omega] at z
  exact List.mem_of_getElem? z
theorem ok_is_name (G : Bl mg) (gL : ∃ t, mg "LETTERS" = some (.str abc t)) (DA : DefAt K mg "is_name" s_is_name) : Callee P w K mg base 2 "is_name" ["value", "most"] spName := by
  refine callee DA sc_is_name (fun vs H Q E h => by obtain ⟨v, x, rfl, _⟩ := h; rfl) (fun _ _ _ _ _ _ us hl => match us, hl with | [_, _], _ => rfl) fun f cdv A outer s H vs Q E hr h => ?_
  obtain ⟨x, m, rfl, lt, l1, l2, l3, q⟩ := h
  obtain ⟨tL, gL⟩ := gL
  refine ⟨_, (pss_one (ps_ret (pe_and (pe_callB call_isi (by rfl) G.b_isinstance (by decide +kernel) (pa_cons (pv 0) (pa_cons (pe_bltn (v := .ty "str") (u := .type "str") (by rfl) G.b_str (by decide +kernel) rfl) pa_nil))) (pe_and (pe_chain op_le op_le pe_int (pe_callB call_len_str (by rfl) G.b_len (by decide +kernel) (pa_cons (pv 0) pa_nil)) (pv 1)) (pe_one (pe_callB (cr_all rfl) (by rfl) G.b_all (by decide +kernel) (pa_cons (pe_lc (own := [("letter", 2)]) (g := gName 2) rfl sc_is_name.nd (pi_str (pv 0)) (blkOk_by (N := ["value", "most", "letter"]) (sc := defScope s_is_name) (by decide +kernel)) (fun _ _ _ _ _ => (pg_name (i := 2) sc_is_name.nd rfl (Or.inl rfl))) (fun _ _ _ _ _ => pts_nil) (fun _ _ _ _ _ => (pe_cmpR op_in_sign (pv 2) (pe_glob (v := .str abc) (by rfl) gL ⟨_, rfl⟩) rfl))) pa_nil))))))), ?_⟩
  have lx := len_tl x
  refine ⟨_, rfl, _, _, _, _, _, rfl, .ty "str", .base (.str x), kit_ty (by decide +kernel : kitB "str" "str" = some true), _, rfl, iteT ⟨_, rfl, x, rfl, Nat.le_of_lt (small1000 (by omega)), _, _, rfl, rfl, _, rfl, ?_⟩⟩
  refine itt (decide_eq_true (by show (1 : Int) ≤ _; omega)) ⟨_, rfl, _, _, rfl, rfl, _, rfl, itt (decide_eq_true (by omega)) ?_⟩
  refine ⟨_, rfl, x, rfl, fun p hp => ?_⟩
  refine lc_it walk_str (fun i H' => Same H H' ∧ H' p = some (.lst ((List.replicate i true).map V.bl))) ⟨same_new hp, upd_same⟩ (fun _ _ _ _ => True.intro) ?_ ?_
  · rintro i v H1 H2 hi ⟨s1, d1⟩ ⟨rfl, c, hc, rfl⟩
    refine ⟨rfl, tyes ?_⟩
    refine iteT ?_
    have mc : c ∈ x.cps.toList := by
      have z : x.cps.toList[i]? = some c := by rw [Array.getElem?_toList]; exact hc
      exact List.mem_of_getElem? z
    have mm : c ∈ abc.cps.toList := abc_mem c (lt c mc).1 (lt c mc).2
    refine ⟨_, rfl, c, abc, rfl, rfl, _, d1, ?_, Same.put s1 hp, ?_⟩
    · rw [List.length_map, List.length_replicate]; exact small1000 (by have : x.cps.size = x.length := rfl; omega)
    · rw [upd_same, decide_eq_true mm, List.replicate_succ', List.map_append]; rfl
  · rintro H1 ⟨s1, d1⟩
    refine ⟨p, List.replicate x.cps.size true, rfl, SqL.of d1, ?_⟩
    have e : (List.replicate x.cps.size true).all id = true := by simp
    rw [e]
    exact q H1 s1
abbrev s_are_different : Stmt := top 8
theorem sc_are_different : FnScope ["items"] ["items"] (defScope s_are_different) := ⟨rfl, rfl, rfl, by decide +kernel, rfl, by decide +kernel, by decide +kernel⟩
def spDiff (K : PySem.W.Frag) : Sp := fun vs H Q _ => ∃ (a : Addr) (xs : List Str), vs = [.ref a] ∧ H a = some (.lst (xs.map .str)) ∧ xs.Nodup ∧ xs.length ≤ 100 ∧ Q (.bl true) H
theorem ok_are_different (G : Bl mg) (DA : DefAt K mg "are_different" s_are_different) : Callee P w K mg base 2 "are_different" ["items"] (spDiff K) := by
  refine callee DA sc_are_different (fun vs H Q E h => by obtain ⟨v, x, rfl, _⟩ := h; rfl) (fun _ _ _ _ _ _ us hl => match us, hl with | [_], _ => rfl) fun f cdv A outer s H vs Q E hr h => ?_
  obtain ⟨a, xs, rfl, ha, nd, l1, q⟩ := h
  refine ⟨_, (pss_one (ps_ret (pe_cmpR op_eq (NSet.pe_lenTx rfl (by rfl) G.b_len (by rfl) G.b_set (pv 0)) (pe_callB call_len_seq (by rfl) G.b_len (by decide +kernel) (pa_cons (pv 0) pa_nil)) (nomark _)))), ?_⟩
  refine ⟨_, rfl, a, xs, rfl, SqL.of ha, nd, by omega, _, rfl, a, _, rfl, .inl (SqL.of ha), rfl, ?_⟩
  have e : decide (V.int (xs.length : Int) = V.int ((xs.map V.str).length : Int)) = true := decide_eq_true (by rw [List.length_map])
  show Q (.bl (decide (V.int (xs.length : Int) = V.int ((xs.map V.str).length : Int)))) H
  rw [e]; exact q
end
end NH
set_option maxHeartbeats 4000000
namespace NH
open PySem PySem.Spec PyProof.Rows L2 TL
/-- a method of a class of the top -/
structure MethAt (K : PySem.W.Frag) (C : Addr) (c m : Str) (st : Stmt) : Prop where
  f : ∃ fd, FunD K m (c ++ "." ++ m) (defArgs st) (defBody st) (defScope st) [] [] (He.fAd K (c, some m)) fd
section
variable {P : Program} {w : World} {K : PySem.W.Frag} {mg : Str → Option Value} {base : Heap}
theorem meth_ok {m qual : Str} {st : Stmt} {f : Addr} {N ps : List Str} {k : Nat} {sp : Sp} (F : ∃ fd, FunD K m qual (defArgs st) (defBody st) (defScope st) [] [] f fd) (S : FnScope N ps (defScope st)) (len : ∀ vs H Q E, sp vs H Q E → vs.length = ps.length)
    (hb : ∀ (kV doc pm : Value) (an : Option Addr) (cdv ct : Value) (us : List Value), us.length = ps.length → bindArgs (PySem.W.fnOf m qual (defArgs st) (defBody st) (defScope st) .none kV doc pm an cdv ct) ⟨us, []⟩ = pure (ps.zip us))
    (hbody : ∀ (cdv : Value) (A : Around) (outer : List Env) (s : Shared) (H : Hp) (vs : List V) (Q : VK) (E : XK), Room k (A.deeper (envOfC qual (defScope st) s.heap.objs.size f cdv)) → sp vs H Q E →
      ∃ t, PSs (cxOf CX0 P w K mg base N qual (defScope st) f cdv A outer s H E).nox (defBody st) t ∧ t { nx := fun _ H' => Q .non H', rt := Q } (start N vs) H) : ∃ fd, Binds K fd ps [] ∧ FnOk P w K mg base CX0 (k + 1) f fd ps sp := by
  obtain ⟨fd, F⟩ := F
  exact ⟨fd, F.bindsN hb, F.ok S len fun cdv A outer s H vs Q E hr h => let ⟨t, h1, h2⟩ := hbody cdv A outer s H vs Q E hr h; ⟨t, h1.nox, h2⟩⟩
end
/-! ### Ports -/
theorem kind_d {H : Hp} : ∀ {vs : List V} {ks : List Kind}, KindsAt H vs ks → DdL H vs (ks.map fun k => D.tup [.str k.1, .int (k.2 : Int)])
  | _, _, .nil => .nil
  | _, _, .cons ⟨t, e, h⟩ r => by
    subst e
    exact .cons (.tup h (.cons (.str _) (.cons (.int _) .nil))) (kind_d r)
structure PortsAt (C : Addr) (H : Hp) (p : Addr) (ks : List Kind) : Prop where
  ex : ∃ dx fs d kvs, H p = some (.ins C dx fs) ∧ fs.lookup ("_names" : Str) = some (.ref d) ∧ fs.lookup ("has" : Str) = none ∧ H d = some (.dK kvs) ∧ ∀ x : Str, (valV kvs (Sum.inr x : Key)).isSome = true ↔ x ∈ sidesOf ks
theorem PortsAt.same {C : Addr} {H H' : Hp} {p : Addr} {ks : List Kind} (x : PortsAt C H p ks) (s : Same H H') : PortsAt C H' p ks := by
  obtain ⟨dx, fs, d, kvs, h1, l1, l2, h2, h3⟩ := x
  exact ⟨dx, fs, d, kvs, s _ _ h1, l1, l2, s _ _ h2, h3⟩
/-- the class as the top has made it -/
structure PortsC (K : PySem.W.Frag) (mg : Str → Option Value) (C fI fH : Addr) : Prop where
  cl : Cls K C
  nK : NoAttr K C "kinds"
  nN : NoAttr K C "_names"
  nS : NoAttr K C "_sides"
  nB : NoAttr K C "_sides_by_name"
  nO : NoAttr K C "_others"
  g : mg "Ports" = some (.ref C)
  mkP : Mk K C fI
  has : Meth K C "has" fH
theorem dg_str : ∀ j : Nat, j < 3 → (toString (1 + (j : Int)) : Str) = dg j := by decide +kernel
theorem empty_app (x : Str) : Str.empty ++ x = x := by
  have e : tl (Str.empty ++ x) = tl x := by rw [tl_append]; rfl
  exact ext_toList e
section
variable {P : Program} {w : World} {K : PySem.W.Frag} {mg : Str → Option Value} {base : Heap} {C fI fH : Addr}
abbrev s_is_kind : Stmt := top 35
theorem sc_is_kind : FnScope ["value"] ["value"] (defScope s_is_kind) := ⟨rfl, rfl, rfl, by decide +kernel, rfl, by decide +kernel, by decide +kernel⟩
def spIsk : Sp := fun vs H Q _ => ∃ (t : Addr) (k : Kind), vs = [.ref t] ∧ H t = some (.tup [.str k.1, .int (k.2 : Int)]) ∧ Ltr k.1 ∧ 1 ≤ k.1.cps.toList.length ∧ k.1.cps.toList.length ≤ 4 ∧ (k.2 = 2 ∨ k.2 = 3) ∧ ∀ H', Same H H' → Q (.bl true) H'
theorem ok_is_kind (gM : ∃ t, mg "MOST_LETTERS" = some (.int 4 t)) (DA : DefAt K mg "_is_kind" s_is_kind) (cIp : Callee P w K mg base 2 "is_pair" ["value"] spPair) (cIn : Callee P w K mg base 2 "is_name" ["value", "most"] spName) (cBt : Callee P w K mg base 2 "is_between" ["value", "low", "high"] spBtw) : Callee P w K mg base 4 "_is_kind" ["value"] spIsk := by
  refine callee DA sc_is_kind (fun vs H Q E h => by obtain ⟨v, k, rfl, _⟩ := h; rfl) (fun _ _ _ _ _ _ us hl => match us, hl with | [_], _ => rfl) fun f cdv A outer s H vs Q E hr h => ?_
  obtain ⟨t, k, rfl, ht, h1, h2, h3, h4, q⟩ := h
  obtain ⟨tM, gM⟩ := gM
  refine ⟨_, (pss_one (ps_ret (pe_and (pe_cal cIp hr (by decide) (pa_cons (pv 0) pa_nil)) (pe_and (pe_cal cIn hr (by decide) (pa_cons (pe_ix ix_tup (pv 0) pe_int (fun _ _ => rfl)) (pa_cons (pe_glob (v := .int 4) (by rfl) gM ⟨_, rfl⟩) pa_nil))) (pe_one (pe_cal cBt hr (by decide) (pa_cons (pe_ix ix_tup (pv 0) pe_int (fun _ _ => rfl)) (pa_cons pe_int (pa_cons pe_int pa_nil))))))))), ?_⟩
  refine ⟨_, rfl, t, _, _, rfl, ht, true, rfl, iteT ⟨_, rfl, t, _, _, _, rfl, rfl, SqT.of ht, rfl, k.1, 4, rfl, h1, h2, h3, by decide, fun H' s1 => ⟨true, rfl, iteT ⟨_, rfl, t, _, _, _, rfl, rfl, SqT.of (s1 _ _ ht), rfl, _, .int (k.2 : Int), 2, 3, rfl, .int _, ?_⟩⟩⟩⟩
  have e : (D.int (k.2 : Int)).btw 2 3 = true := by
    show (decide _ && decide _) = true
    rw [decide_eq_true (by omega), decide_eq_true (by omega)]; rfl
  rw [e]; exact q H' s1
abbrev s_are_kinds : Stmt := top 34
theorem sc_are_kinds : FnScope ["value", "item", "name", "_"] ["value"] (defScope s_are_kinds) := ⟨rfl, rfl, rfl, by decide +kernel, rfl, by decide +kernel, by decide +kernel⟩
def spAks : Sp := fun vs H Q _ => ∃ (a : Addr) (xs : List V) (ks : List Kind), vs = [.ref a] ∧ H a = some (.lst xs) ∧ KindsAt H xs ks ∧ GoodKinds ks ∧ ∀ H', Same H H' → Q (.bl true) H'
theorem ok_are_kinds (G : Bl mg) (gM : ∃ t, mg "MOST_KINDS" = some (.int 12 t)) (DA : DefAt K mg "_are_kinds" s_are_kinds) (cIl : Callee P w K mg base 2 "is_list" ["value"] spIsl) (cDf : Callee P w K mg base 2 "are_different" ["items"] (spDiff K)) (cIk : Callee P w K mg base 4 "_is_kind" ["value"] spIsk) : Callee P w K mg base 6 "_are_kinds" ["value"] spAks := by
  refine callee DA sc_are_kinds (fun vs H Q E h => by obtain ⟨v, k, _, rfl, _⟩ := h; rfl) (fun _ _ _ _ _ _ us hl => match us, hl with | [_], _ => rfl) fun f cdv A outer s H vs Q E hr h => ?_
  obtain ⟨a, xs, ks, rfl, ha, hk, gk, q⟩ := h
  obtain ⟨tM, gM⟩ := gM
  refine ⟨_, (pss_cons (ps_if (PW.pt (pw_or (pt_not (pt_val (pe_cal cIl hr (by decide) (pa_cons (pv 0) pa_nil)))) (pw_or1 (pt_not (pt_chain op_le op_le pe_int (pe_callB call_len_seq (by rfl) G.b_len (by decide +kernel) (pa_cons (pv 0) pa_nil)) (pe_glob (v := .int 12) (by rfl) gM ⟨_, rfl⟩)))))) (pss_one (ps_ret pe_bl)) pss_nil)
    (pss_one (ps_ret (pe_and (pe_callB (cr_all rfl) (by rfl) G.b_all (by decide +kernel) (pa_cons (pe_lc (own := [("item", 1)]) (g := gName 1) rfl sc_are_kinds.nd (pi_list (pv 0)) (blkOk_by (N := ["value", "item", "name", "_"]) (sc := defScope s_are_kinds) (by decide +kernel)) (fun _ _ _ _ _ => (pg_name (i := 1) sc_are_kinds.nd rfl (Or.inl rfl))) (fun _ _ _ _ _ => pts_nil) (fun _ _ _ _ _ => (pe_cal cIk hr (by decide) (pa_cons (pv 1) pa_nil)))) pa_nil)) (pe_one (pe_cal cDf hr (by decide) (pa_cons (pe_lc (own := [("name", 2), ("_", 3)]) (g := gTup K 2 (gCons (gName 2) (gCons (gName 3) gNil))) rfl sc_are_kinds.nd (pi_list (pv 0)) (blkOk_by (N := ["value", "item", "name", "_"]) (sc := defScope s_are_kinds) (by decide +kernel)) (fun _ _ _ _ _ => (pg_tup (by rfl) (pgs_cons (pg_name (i := 2) sc_are_kinds.nd rfl (Or.inl rfl)) (pgs_cons (pg_name (i := 3) sc_are_kinds.nd rfl (Or.inl rfl)) pgs_nil)))) (fun _ _ _ _ _ => pts_nil) (fun _ _ _ _ _ => (pv 2))) pa_nil))))))), ?_⟩
  have lx := Paired.length hk
  have hlen := gk.len
  refine ⟨_, rfl, _, _, rfl, .lst ha (kind_d hk), fun H1 s1 => ⟨_, rfl, ?_⟩⟩
  refine iteF ⟨_, rfl, a, _, rfl, .inl (SqL.of (s1 _ _ ha)), _, _, rfl, rfl, _, rfl, itt (decide_eq_true (by omega)) ⟨_, _, rfl, rfl, _, rfl, ?_⟩⟩
  rw [decide_eq_true (show (xs.length : Int) ≤ 12 by omega)]
  refine iteF ?_
  refine ⟨_, rfl, a, rfl, ⟨xs, SqL.of (s1 _ _ ha)⟩, fun p hp => ?_⟩
  refine lc_list (K := K) (a := a) (xs := xs) (fun i H' => Same H1 H' ∧ H' p = some (.lst ((List.replicate i true).map V.bl))) ⟨same_new hp, upd_same⟩ (fun i H' _ z => SqL.of (z.1 _ _ (s1 _ _ ha))) ?_ ?_
  · rintro i x H2 hx ⟨s2, d2⟩
    obtain ⟨k, ek, t, rfl, ht⟩ := paired_get hk hx
    have mk : k ∈ ks := List.mem_of_getElem? ek
    refine ⟨rfl, tyes ?_⟩
    refine iteT ?_
    have hi : i < xs.length := (List.getElem?_eq_some_iff.mp hx).1
    refine ⟨_, rfl, t, k, rfl, s2 _ _ (s1 _ _ ht), (gk.ltr k mk).1, (gk.ltr k mk).2.1, (gk.ltr k mk).2.2, gk.two k mk, fun H3 s3 => ⟨_, s3 _ _ d2, ?_, Same.put (s2.trans s3) hp, ?_⟩⟩
    · rw [List.length_map, List.length_replicate]; exact small1000 (by omega)
    · rw [upd_same, List.replicate_succ', List.map_append]; rfl
  · rintro H2 ⟨s2, d2⟩
    refine ⟨p, List.replicate xs.length true, rfl, SqL.of d2, ?_⟩
    have e : (List.replicate xs.length true).all id = true := by simp
    rw [e]
    refine ⟨true, rfl, iteT ?_⟩
    refine ⟨_, rfl, a, rfl, ⟨xs, SqL.of (s2 _ _ (s1 _ _ ha))⟩, fun p2 hp2 => ?_⟩
    refine lc_list (K := K) (a := a) (xs := xs) (fun i H' => Same H2 H' ∧ H' p2 = some (.lst (((ks.take i).map (·.1)).map V.str))) ⟨same_new hp2, upd_same⟩ (fun i H' _ z => SqL.of (z.1 _ _ (s2 _ _ (s1 _ _ ha)))) ?_ ?_
    · rintro i x H3 hx ⟨s3, d3⟩
      obtain ⟨k, ek, t, rfl, ht⟩ := paired_get hk hx
      have hi : i < xs.length := (List.getElem?_eq_some_iff.mp hx).1
      refine ⟨t, _, rfl, SqT.of (s3 _ _ (s2 _ _ (s1 _ _ ht))), rfl, _, _, rfl, _, _, rfl, rfl, rfl, tyes ?_⟩
      refine iteT ⟨_, rfl, _, d3, ?_, Same.put s3 hp2, ?_⟩
      · rw [List.length_map, List.length_map, List.length_take]; exact small1000 (by omega)
      · obtain ⟨hj, ej⟩ := List.getElem?_eq_some_iff.mp ek
        rw [upd_same, List.take_succ_eq_append_getElem hj, ej, List.map_append, List.map_append]; rfl
    · rintro H3 ⟨s3, d3⟩
      have e3 : ks.take xs.length = ks := by rw [lx]; exact List.take_length
      rw [e3] at d3
      exact ⟨p2, ks.map (·.1), rfl, d3, gk.nd, by rw [List.length_map]; omega, q H3 ((s1.trans s2).trans s3)⟩
end
end NH
set_option maxHeartbeats 4000000
/-! {k: v for .. in .. for .. in ..}: a dict comprehension with two clauses. -/
namespace NH
open PySem PySem.Spec PyProof.Rows L2
/-- the comprehension -/
abbrev dc2 (ke ve ga ia gb ib : Expr) (fa fb : List Expr) (sc : Scope) (po : Pos) : Expr := .DictComp ke ve [⟨ga, ia, fa, 0⟩, ⟨gb, ib, fb, 0⟩] sc po
section
variable (ke ve ga ia gb ib : Expr) (fa fb : List Expr) (sc : Scope) (po : Pos)
theorem turn_a (it acc : Value) (en : Env) : compTurn (dc2 ke ve ga ia gb ib fa fb sc po) 0 it acc en = (do
      standAt ia.pos
      match ← pyNext it with
      | none => pure (.done .next)
      | some u =>
        letOwnedTupleGo ga it u
        assign ga en u
        let mut yes := true
        for q in fa do
          if yes then yes ← isTrue q en (eval q en)
        if yes then
          let y ← eval ib en
          standAt ib.pos
          let y ← foldedSetIterable ib en y
          let _ ← runOwn (.compStart (dc2 ke ve ga ia gb ib fa fb sc po) 1 (← holding [y] (pyIter y)) acc en) en
        again (.compLoop (dc2 ke ve ga ia gb ib fa fb sc po) 0 it acc en)) := by rfl
theorem turn_b (it : Value) (Da : Addr) (en : Env) : compTurn (dc2 ke ve ga ia gb ib fa fb sc po) 1 it (.ref Da) en = (do
      standAt ib.pos
      match ← pyNext it with
      | none => pure (.done .next)
      | some u =>
        letOwnedTupleGo gb it u
        assign gb en u
        let mut yes := true
        for q in fb do
          if yes then yes ← isTrue q en (eval q en)
        if yes then
          (do
            let k1 ← eval ke en
            let v1 ← holding [k1] (eval ve en)
            standAt { ke.pos with endLine := ve.pos.endLine, endCol := ve.pos.endCol }
            holding [k1, v1] (dictSet Da k1 v1))
        again (.compLoop (dc2 ke ve ga ia gb ib fa fb sc po) 1 it (.ref Da) en)) := by rfl
end
section
variable {P : Program} {w : World} {A : Around} {R : Result → Shared → Prop} {s : Shared} {ke ve ga ia gb ib : Expr} {fa fb : List Expr} {sc : Scope} {po : Pos} {it acc : Value} {Da : Addr} {en : Env}
/-- where an error is told -/
abbrev Ot (P : Program) (w : World) (A : Around) (R : Result → Shared → Prop) (en : Env) : Value → Shared → Prop := notedBy (model P w) A en fun x s' => R (.error x) s'
/-- the tests of a clause -/
abbrev tests (l : List Expr) (en : Env) : Sem Bool := forIn l true fun q r => if r = true then do let ok ← isTrue q en (eval q en); pure (ForInStep.yield ok) else pure (ForInStep.yield r)
theorem loop_a (hs : ∀ y, foldedSetIterable ib en y = pure y) (J : Nat → Shared → Prop)
    (go : ∀ n s, J n s → wpAny (model P w) A (pyNext it) (fun r s1 => match r with
      | none => R (.ok .next) s1
      | some u => wpAny (model P w) A (letOwnedTupleGo ga it u) (fun _ s2 => wpAny (model P w) A (assign ga en u) (fun _ s3 => wpAny (model P w) A (tests fa en) (fun yes s4 =>
          if yes = true then wpAny (model P w) A (eval ib en) (fun y s5 => wpAny (model P w) A (pyIter y) (fun i2 s6 =>
              codeAny (model P w) A (.compStart (dc2 ke ve ga ia gb ib fa fb sc po) 1 i2 acc en) (fun r2 s' => match r2 with
                | .ok _ => ∃ m, m < n ∧ J m s'
                | .error _ => False) s6) (Ot P w A R en) s5) (Ot P w A R en) s4
          else ∃ m, m < n ∧ J m s4) (Ot P w A R en) s3) (Ot P w A R en) s2) (Ot P w A R en) s1) (Ot P w A R en) s)
    (n : Nat) (h : J n s) : codeAny (model P w) A (.compLoop (dc2 ke ve ga ia gb ib fa fb sc po) 0 it acc en) R s := by
  refine codeAny_loop rfl J (fun n s hJ => ?_) n h
  show wpAny _ A ((compTurn (dc2 ke ve ga ia gb ib fa fb sc po) 0 it acc en).onRaise (fun x => do noteFrame x en; theTreesLotGoes x)) _ _ s
  refine wpAny_noted ?_
  rw [turn_a]
  refine wpAny_bind (wpAny_standAt (wpAny_bind (wpAny_mono (go n s hJ) (fun r s1 h1 => ?_) fun _ _ z => z)))
  match r, h1 with
  | none, h1 => exact wpAny_pure h1
  | some u, h1 =>
    refine wpAny_bind (wpAny_mono h1 (fun _ s2 h2 => ?_) fun _ _ z => z)
    refine wpAny_bind (wpAny_mono h2 (fun _ s3 h3 => wpAny_bind (wpAny_mono h3 (fun yes s4 h4 => ?_) fun _ _ z => z)) fun _ _ z => z)
    match yes, h4 with
    | false, h4 => exact wpAny_pure ⟨rfl, h4⟩
    | true, h4 =>
      refine wpAny_bind (wpAny_mono h4 (fun y s5 h5 => ?_) fun _ _ z => z)
      refine wpAny_bind (wpAny_standAt (wpAny_bind (wpAny_of_eq (hs y) (wpAny_bind (wpAny_holding (wpAny_mono h5 (fun i2 s6 h6 => ?_) fun _ _ z => z))))))
      refine wpAny_bind (wpAny_runOwn ?_)
      rw [Around.mark_none]
      refine codeAny_mono h6 fun r2 s' hr => ?_
      match r2, hr with
      | .ok f, hr =>
        first
          | exact wpAny_pure ⟨rfl, hr⟩
          | exact wpAny_bind (wpAny_pure (wpAny_pure ⟨rfl, hr⟩))
      | .error e, hr => exact hr.elim
theorem loop_b (J : Nat → Shared → Prop)
    (go : ∀ n s, J n s → wpAny (model P w) A (pyNext it) (fun r s1 => match r with
      | none => R (.ok .next) s1
      | some u => wpAny (model P w) A (letOwnedTupleGo gb it u) (fun _ s2 => wpAny (model P w) A (assign gb en u) (fun _ s3 => wpAny (model P w) A (tests fb en) (fun yes s4 =>
          if yes = true then wpAny (model P w) A (eval ke en) (fun k1 s5 => wpAny (model P w) A (eval ve en) (fun v1 s6 =>
              wpAny (model P w) A (dictSet Da k1 v1) (fun _ s7 => ∃ m, m < n ∧ J m s7) (Ot P w A R en) s6) (Ot P w A R en) s5) (Ot P w A R en) s4
          else ∃ m, m < n ∧ J m s4) (Ot P w A R en) s3) (Ot P w A R en) s2) (Ot P w A R en) s1) (Ot P w A R en) s)
    (n : Nat) (h : J n s) : codeAny (model P w) A (.compLoop (dc2 ke ve ga ia gb ib fa fb sc po) 1 it (.ref Da) en) R s := by
  refine codeAny_loop rfl J (fun n s hJ => ?_) n h
  show wpAny _ A ((compTurn (dc2 ke ve ga ia gb ib fa fb sc po) 1 it (.ref Da) en).onRaise (fun x => do noteFrame x en; theTreesLotGoes x)) _ _ s
  refine wpAny_noted ?_
  rw [turn_b]
  refine wpAny_bind (wpAny_standAt (wpAny_bind (wpAny_mono (go n s hJ) (fun r s1 h1 => ?_) fun _ _ z => z)))
  match r, h1 with
  | none, h1 => exact wpAny_pure h1
  | some u, h1 =>
    refine wpAny_bind (wpAny_mono h1 (fun _ s2 h2 => ?_) fun _ _ z => z)
    refine wpAny_bind (wpAny_mono h2 (fun _ s3 h3 => wpAny_bind (wpAny_mono h3 (fun yes s4 h4 => ?_) fun _ _ z => z)) fun _ _ z => z)
    match yes, h4 with
    | false, h4 => exact wpAny_pure ⟨rfl, h4⟩
    | true, h4 =>
      exact wpAny_bind (wpAny_bind (wpAny_mono h4 (fun k1 s5 h5 => wpAny_bind (wpAny_holding (wpAny_mono h5 (fun v1 s6 h6 => wpAny_bind (wpAny_standAt (wpAny_holding (wpAny_mono h6 (fun _ s7 h7 => wpAny_pure ⟨rfl, h7⟩) fun _ _ z => z)))) fun _ _ z => z))) fun _ _ z => z))
theorem start_b (h0 : codeAny (model P w) A (.compLoop (dc2 ke ve ga ia gb ib fa fb sc po) 1 it acc en) R s)
    (h : wpAny (model P w) A (pyIter it) (fun i2 s' => codeAny (model P w) A (.compLoop (dc2 ke ve ga ia gb ib fa fb sc po) 1 i2 acc en) R s') (Ot P w A R en) s) :
    codeAny (model P w) A (.compStart (dc2 ke ve ga ia gb ib fa fb sc po) 1 it acc en) R s := by
  refine codeAny_of_tree ?_
  show wpAny _ _ ((compStart (dc2 ke ve ga ia gb ib fa fb sc po) 1 it acc en).onRaise (fun x => do noteFrame x en; standAt theWindowsPlace)) _ _ s
  refine wpAny_notedAt ?_
  unfold compStart
  show wpAny _ _ (ask >>= _) _ _ s
  refine wpAny_bind (wpAny_askSetting (wpAny_ite ?_))
  split
  · first
      | exact wpAny_bind (wpAny_pure (wpAny_pure ⟨rfl, h0⟩))
      | exact wpAny_pure ⟨rfl, h0⟩
  · first
      | exact wpAny_bind (wpAny_rule (wpAny_bind (wpAny_standAt (wpAny_bind (wpAny_mono h (fun i2 s' h' => wpAny_pure ⟨rfl, h'⟩) fun _ _ x => x)))))
      | (refine wpAny_bind (wpAny_rule ?_); show wpAny _ _ (standAt ib.pos >>= _) _ _ s; exact wpAny_bind (wpAny_standAt (wpAny_bind (wpAny_mono h (fun i2 s' h' => wpAny_pure ⟨rfl, h'⟩) fun _ _ x => x))))
end
section
variable {X : Cx}
/-- {k: v for a in .. if .. for b in .. if ..}: D the new dict; vs: the block's names, v2: those of the second target -/
def tDc2 (wi : TI) (g : TG) (tt : TT) (wi2 : TI) (g2 : TG) (tt2 : TT) (tk tv : TE) (vs v2 : List Nat) : TE := fun σ H Q => wi σ H fun J H1 => ∀ D, H1 D = none → ∃ W : Nat → Nat → Hp → Prop, (∃ m, W 0 m (upd H1 D (.dK []))) ∧ ∀ i m H, W i m H →
  (J.stop i H ∧ Q (.ref D) H) ∨ (J.go i H ∧ ∃ Nx : Hp → Prop, (∀ H', Nx H' → ∃ m', m' < m ∧ W (i + 1) m' H') ∧ ∀ x H', J.yld i H x H' → g x (wipe σ vs) H' fun σ2 H2 => wipe σ2 vs = wipe σ vs ∧ tt σ2 H2 fun b H3 =>
    if b = true then wi2 σ2 H3 fun J2 H4 => ∃ V : Nat → Nat → Hp → Prop, (∃ m, V 0 m H4) ∧ ∀ j k H, V j k H →
      (J2.stop j H ∧ Nx H) ∨ (J2.go j H ∧ ∃ Ny : Hp → Prop, (∀ H', Ny H' → ∃ k', k' < k ∧ V (j + 1) k' H') ∧ ∀ x H', J2.yld j H x H' → g2 x (wipe σ2 v2) H' fun σ3 H5 => wipe σ3 v2 = wipe σ2 v2 ∧ tt2 σ3 H5 fun b H6 =>
        if b = true then tk σ3 H6 fun y H7 => tv σ3 H7 fun z H8 => ∃ kvs q, y = kV q ∧ H8 D = some (.dK kvs) ∧ kvs.length < sizeLine ∧ Ny (upd H8 D (.dK (putK kvs q z))) else Ny H6)
    else Nx H3)
theorem pe_dc2 {ke ve ga ia gb ib : Expr} {fa fb : List Expr} {sc : Scope} {own : List (Str × Nat)} {v2 : List Nat} {po : Pos} {wi wi2 : TI} {g g2 : TG} {tt tt2 : TT} {tk tv : TE} (calm : X.calm = true) (nd : X.N.Nodup) (hi : PI X ga ia wi) (ok : BlkOk X.N X.env.scope sc own) (hv : ∀ i ∈ v2, i ∈ own.map (·.2))
    (hg : ∀ (s1 : Shared) (G : Hp) (C : Addr) (cs : List (Str × Addr)) (l : List Addr), PG (X.blk s1 G sc (compEnvC sc cs C X.env) l) ga g) (ht : ∀ (s1 : Shared) (G : Hp) (C : Addr) (cs : List (Str × Addr)) (l : List Addr), PTs (X.blk s1 G sc (compEnvC sc cs C X.env) l) fa tt) (hi2 : ∀ (s1 : Shared) (G : Hp) (C : Addr) (cs : List (Str × Addr)) (l : List Addr), PI (X.blk s1 G sc (compEnvC sc cs C X.env) l) gb ib wi2) (hg2 : ∀ (s1 : Shared) (G : Hp) (C : Addr) (cs : List (Str × Addr)) (l : List Addr), PG (X.blk s1 G sc (compEnvC sc cs C X.env) l) gb g2) (ht2 : ∀ (s1 : Shared) (G : Hp) (C : Addr) (cs : List (Str × Addr)) (l : List Addr), PTs (X.blk s1 G sc (compEnvC sc cs C X.env) l) fb tt2) (hk : ∀ (s1 : Shared) (G : Hp) (C : Addr) (cs : List (Str × Addr)) (l : List Addr), PE (X.blk s1 G sc (compEnvC sc cs C X.env) l) ke tk) (hw : ∀ (s1 : Shared) (G : Hp) (C : Addr) (cs : List (Str × Addr)) (l : List Addr), PE (X.blk s1 G sc (compEnvC sc cs C X.env) l) ve tv)
    (hs : ∀ x, foldedSetIterable ia X.env x = pure x := by intro _; rfl) (hs2 : ∀ e x, foldedSetIterable ib e x = pure x := by intro _ _; rfl) :
    PE X (dc2 ke ve ga ia gb ib fa fb sc po) (tDc2 wi g tt wi2 g2 tt2 tk tv (own.map (·.2)) v2) := by
  refine ⟨fun pins s σ H Q inv want => ?_⟩
  rw [arm_eval_DictComp]
  have closed : ∀ y ∈ sc.names, y.2 = .free → ∃ c, X.env.cells.lookup y.1 = some c := fun y hy e => (ok.free y hy e).elim (fun z => inv.ok.has _ (.inl z)) fun z => inv.ok.has _ (.inr z)
  refine wpAny_comprehension_free (use := none) rfl hs (closure_ok closed) ok.kind (fun y hy e => by rw [ok.uniq y hy, e]) (thn (hi.run pins s σ H _ inv want) fun xv s1 hx => thn hx fun itv s2 h2 => ?_)
  obtain ⟨it, fp, tn, J, H2, rfl, inv2, T, st2, f2, q⟩ := h2
  refine wpAny_newObj_type (newEnv_comp ?_)
  generalize hD : s2.heap.objs.size = D
  have Dn : H2 D = none := inv2.hok.fresh (Nat.le_of_eq hD)
  obtain ⟨W, ⟨m0, w0⟩, turn⟩ := q D Dn
  generalize hs3 : ({ s2 with heap := s2.heap.push { cls := .type "dict", data := .dict #[] } } : Shared) = s3
  have inv3 : Inv X pins σ (upd H2 D (.dK [])) s3 := by
    rw [← hs3]
    refine inv2.laid (t' := s2.toks) (fun _ _ e => Heap.get?_push_of_some _ e) (Nat.le_of_eq hD) ?_
    rw [← hD]
    exact dk_empty s2.heap inv2.big
  have h3 : s3.heap = s2.heap.push { cls := .type "dict", data := .dict #[] } := by rw [← hs3]
  have below : ∀ b ∈ fp, b < s2.heap.objs.size := fun b hb => by
    obtain ⟨o, e, _⟩ := T.obj _ _ st2 b hb
    exact Heap.lt_size e
  have f3 : ∀ b ∈ fp, FpOk X pins (upd H2 D (.dK [])) b ∧ b < s3.heap.objs.size := fun b hb => by
    refine ⟨⟨?_, (f2 b hb).2⟩, by rw [h3, Heap.size_push]; exact Nat.lt_succ_of_lt (below b hb)⟩
    rw [upd_ne (by rw [← hD]; exact Nat.ne_of_lt (below b hb))]
    exact (f2 b hb).1
  have st3 : tn 0 s3.heap := T.keep _ _ _ st2 fun b _ o e => by rw [h3]; exact Heap.get?_push_of_some _ e
  have inv4 := block_start inv3 ok nd f3
  have pg := hg s3 (upd H2 D (.dK [])) s3.heap.objs.size (cellsFrom (s3.heap.objs.size + 1) sc.names (cloFrom X.env.cells sc.names [])) fp
  have pt := ht s3 (upd H2 D (.dK [])) s3.heap.objs.size (cellsFrom (s3.heap.objs.size + 1) sc.names (cloFrom X.env.cells sc.names [])) fp
  have pi2 := hi2 s3 (upd H2 D (.dK [])) s3.heap.objs.size (cellsFrom (s3.heap.objs.size + 1) sc.names (cloFrom X.env.cells sc.names [])) fp
  have pg2 := hg2 s3 (upd H2 D (.dK [])) s3.heap.objs.size (cellsFrom (s3.heap.objs.size + 1) sc.names (cloFrom X.env.cells sc.names [])) fp
  have pt2 := ht2 s3 (upd H2 D (.dK [])) s3.heap.objs.size (cellsFrom (s3.heap.objs.size + 1) sc.names (cloFrom X.env.cells sc.names [])) fp
  have pk := hk s3 (upd H2 D (.dK [])) s3.heap.objs.size (cellsFrom (s3.heap.objs.size + 1) sc.names (cloFrom X.env.cells sc.names [])) fp
  have pw := hw s3 (upd H2 D (.dK [])) s3.heap.objs.size (cellsFrom (s3.heap.objs.size + 1) sc.names (cloFrom X.env.cells sc.names [])) fp
  show codeAny _ _ (.compStart (dc2 ke ve ga ia gb ib fa fb sc po) 0 (.ref it) (.ref D) (compEnvC sc (cellsFrom (s3.heap.objs.size + 1) sc.names (cloFrom X.env.cells sc.names [])) s3.heap.objs.size X.env)) (compPost (model X.prog X.w) X.A X.xe none _ (.ref D) s3.heap.objs.size) { s3 with heap := pushCells (s3.heap.push { cls := .type "dict", data := .dict #[] }) sc.names }
  have off : ∀ b ∈ fp, (upd H2 D (.dK [])) b = none := fun b hb => (f3 b hb).1.1
  generalize hce : compEnvC sc (cellsFrom (s3.heap.objs.size + 1) sc.names (cloFrom X.env.cells sc.names [])) s3.heap.objs.size X.env = ce at inv4 pg pt pi2 pg2 pt2 pk pw ⊢
  have cL : ce.locals = s3.heap.objs.size := by subst hce; rfl
  generalize hH3 : upd H2 D (.dK []) = H3 at inv3 inv4 pg pt pi2 pg2 pt2 pk pw w0 off f3
  generalize hs4 : ({ s3 with heap := pushCells (s3.heap.push { cls := .type "dict", data := .dict #[] }) sc.names } : Shared) = s4 at inv4 ⊢
  have st4 : tn 0 s4.heap := T.keep _ _ _ st3 fun b _ o e => by rw [← hs4]; exact pushCells_keeps _ _ _ _ (Heap.get?_push_of_some _ e)
  have calmly : ∀ {σ' : L2.St} {H' : Hp} {s' : Shared}, Inv (X.blk s3 H3 sc ce fp) [] σ' H' s' → (∀ b ∈ fp, H' b = none) → ∀ b ∈ fp, FpOk (X.blk s3 H3 sc ce fp) [] H' b := fun {σ' H' s'} i2 hn b hb =>
    ⟨hn b hb, (i2.ok.exf b hb).1, i2.ok.exfs b hb, .inl hb, fun x c e => (i2.ok.exf b hb).2 x c e, fun p hp => absurd (show p ∈ ([] : List (Addr × Obj)) ++ [] from hp) (by simp)⟩
  have run : codeAny (model X.prog X.w) X.A (.compLoop (dc2 ke ve ga ia gb ib fa fb sc po) 0 (.ref it) (.ref D) ce) (compPost (model X.prog X.w) X.A X.xe none (EP X pins σ Q) (.ref D) s3.heap.objs.size) s4 := by
    refine loop_a (hs2 ce) (fun n s' => ∃ i H', Inv (X.blk s3 H3 sc ce fp) [] (wipe σ (own.map (·.2))) H' s' ∧ tn i s'.heap ∧ (∀ b ∈ fp, H' b = none) ∧ W i n H') ?_ m0 ⟨0, H3, inv4, st4, off, w0⟩
    rintro n s5 ⟨i, H5, inv5, st5, n5, w5⟩
    rcases turn i n H5 w5 with ⟨stop, qq⟩ | ⟨go, Nx, hNx, next⟩
    · refine thnF (T.done (X.blk s3 H3 sc ce fp) rfl rfl rfl calm i [] s5 _ H5 (fun _ _ => False) inv5 (calmly inv5 n5) st5 stop) fun r s6 ⟨hr, inv6⟩ => ?_
      subst hr
      have inv7 : Inv X pins σ H5 s6 := inv3.call' (ch := fp) inv6.os inv6.base inv6.hok inv6.bare fun b hb => ⟨(f3 b hb).1.2.2.2.1, (f3 b hb).1.2.1, (f3 b hb).1.2.2.2.2.1, (f3 b hb).1.2.2.2.2.2⟩
      have nC : H5 s3.heap.objs.size = none := by
        have z : H5 ce.locals = none := inv6.free
        rwa [cL] at z
      obtain ⟨m, hn, _⟩ := inv6.loc
      have hn : s6.heap.Ns ce.locals m := hn
      rw [cL] at hn
      obtain ⟨e0, e1, e2, e3, e4, e5⟩ := inv3.fpOk (Nat.le_refl _) nC
      exact ⟨m, hn, fun h'' sb => ⟨.ref D, H5, inv7.turned (t' := s6.toks) (fun b o hb e => (sb.2 b hb).trans e) e0 e1 e3 e4 e5, rfl, qq⟩⟩
    · refine thnF (T.item (X.blk s3 H3 sc ce fp) rfl rfl rfl calm i [] s5 _ H5 (fun _ _ => False) inv5 (calmly inv5 n5) st5 go) fun r s6 ⟨u, hr, h6⟩ => ?_
      subst hr
      refine thnF h6 fun _ s7 ⟨x, H7, inv7, r7, y7, st7, n7⟩ => ?_
      refine thnF (pg.run _ s7 _ H7 x u _ (inv7.pinned (calmly inv7 n7) (T.obj _ _ st7)) r7 (next x H7 y7)) fun _ s8 ⟨σ8, H8, inv8, hw8, q8⟩ => ?_
      refine thnF (pt.run _ s8 σ8 H8 _ inv8 q8) fun b s9 ⟨H9, inv9, q9⟩ => ?_
      have fin : ∀ {σ9 : L2.St} {s' : Shared} {H' : Hp}, Inv (X.blk s3 H3 sc ce fp) ([] ++ pinsAt fp s7.heap) σ9 H' s' → (wipe σ (own.map (·.2))).length = σ9.length → (∀ (j : Nat) v, (wipe σ (own.map (·.2)))[j]? = some (some v) → σ9[j]? = some (some v)) → Nx H' →
          ∃ m, m < n ∧ ∃ i H', Inv (X.blk s3 H3 sc ce fp) [] (wipe σ (own.map (·.2))) H' s' ∧ tn i s'.heap ∧ (∀ b ∈ fp, H' b = none) ∧ W i m H' := fun {σ9 s' H'} i9 hl hkeep nx => by
        obtain ⟨m2, hm, w2⟩ := hNx H' nx
        have pinned : ∀ b ∈ fp, ∀ o, s7.heap.get? b = some o → s'.heap.get? b = some o ∧ H' b = none := fun b hb o e =>
          let z := i9.pin (b, o) (List.mem_append_right _ (List.mem_append_right _ (mem_pinsAt hb e)))
          ⟨z.1, z.2.1⟩
        refine ⟨m2, hm, i + 1, H', (i9.unpinned (pins := [])).weak hl hkeep, T.keep _ _ _ st7 fun b hb o e => (pinned b hb o e).1, fun b hb => ?_, w2⟩
        obtain ⟨o, e, _⟩ := T.obj _ _ st7 b hb
        exact (pinned b hb o e).2
      have l8 : (wipe σ (own.map (·.2))).length = σ8.length := by rw [← hw8, wipe_length]
      have k8 : ∀ (j : Nat) v, (wipe σ (own.map (·.2)))[j]? = some (some v) → σ8[j]? = some (some v) := fun j v e => by
        rw [← hw8] at e
        exact (wipe_some e).1
      have k9 : ∀ (j : Nat) v, (wipe σ (own.map (·.2)))[j]? = some (some v) → (wipe σ8 v2)[j]? = some (some v) := fun j v e => by
        rw [← hw8] at e
        obtain ⟨e1, e2⟩ := wipe_some e
        rw [wipe_out fun z => e2 (hv j z)]
        exact e1
      match b, q9 with
      | false, q9 => exact fin inv9 l8 k8 (by simpa using q9)
      | true, q9 =>
        refine thnF (pi2.run _ s9 σ8 H9 _ inv9 (by simpa using q9)) fun xv s10 hx => thnF hx fun itv s11 h11 => ?_
        obtain ⟨i1, p1, t1, J1, H11, rfl, inv11, T1, st11, f11, V, ⟨m1, v1⟩, turn1⟩ := h11
        have calm1 : ∀ {H' : Hp}, (∀ b ∈ p1, H' b = none) → ∀ b ∈ p1, FpOk (X.blk s3 H3 sc ce fp) ([] ++ pinsAt fp s7.heap) H' b := fun hn b hb => ⟨hn b hb, (f11 b hb).2⟩
        have run1 : codeAny (model X.prog X.w) X.A (.compLoop (dc2 ke ve ga ia gb ib fa fb sc po) 1 (.ref i1) (.ref D) ce)
            (fun r s' => match r with
              | .ok _ => ∃ m, m < n ∧ ∃ i H', Inv (X.blk s3 H3 sc ce fp) [] (wipe σ (own.map (·.2))) H' s' ∧ tn i s'.heap ∧ (∀ b ∈ fp, H' b = none) ∧ W i m H'
              | .error _ => False) s11 := by
          refine loop_b (fun k s' => ∃ j H', Inv (X.blk s3 H3 sc ce fp) ([] ++ pinsAt fp s7.heap) (wipe σ8 v2) H' s' ∧ t1 j s'.heap ∧ (∀ b ∈ p1, H' b = none) ∧ V j k H') ?_ m1 ⟨0, H11, inv11.weak (wipe_length _ _) (fun j v e => (wipe_some e).1), st11, fun b hb => (f11 b hb).1, v1⟩
          rintro k s12 ⟨j, H12, inv12, st12, n12, w12⟩
          rcases turn1 j k H12 w12 with ⟨stop1, nx1⟩ | ⟨go1, Ny, hNy, next1⟩
          · refine thnF (T1.done (X.blk s3 H3 sc ce fp) rfl rfl rfl calm j _ s12 (wipe σ8 v2) H12 (fun _ _ => False) inv12 (calm1 n12) st12 stop1) fun r s13 ⟨hr, inv13⟩ => ?_
            subst hr
            exact fin inv13 (l8.trans (wipe_length σ8 v2).symm) k9 nx1
          · refine thnF (T1.item (X.blk s3 H3 sc ce fp) rfl rfl rfl calm j _ s12 (wipe σ8 v2) H12 (fun _ _ => False) inv12 (calm1 n12) st12 go1) fun r s13 ⟨u1, hr, h13⟩ => ?_
            subst hr
            refine thnF h13 fun _ s14 ⟨x1, H14, inv14, r14, y14, st14, n14⟩ => ?_
            refine thnF (pg2.run _ s14 (wipe σ8 v2) H14 x1 u1 _ (inv14.pinned (calm1 n14) (T1.obj _ _ st14)) r14 (next1 x1 H14 y14)) fun _ s15 ⟨σ15, H15, inv15, hw15, q15⟩ => ?_
            refine thnF (pt2.run _ s15 σ15 H15 _ inv15 q15) fun b1 s16 ⟨H16, inv16, q16⟩ => ?_
            have fin1 : ∀ {s' : Shared} {H' : Hp}, Inv (X.blk s3 H3 sc ce fp) (([] ++ pinsAt fp s7.heap) ++ pinsAt p1 s14.heap) σ15 H' s' → Ny H' → ∃ m, m < k ∧ ∃ j H', Inv (X.blk s3 H3 sc ce fp) ([] ++ pinsAt fp s7.heap) (wipe σ8 v2) H' s' ∧ t1 j s'.heap ∧ (∀ b ∈ p1, H' b = none) ∧ V j m H' := fun {s' H'} i9 nx => by
              obtain ⟨m2, hm, w2⟩ := hNy H' nx
              have pinned : ∀ b ∈ p1, ∀ o, s14.heap.get? b = some o → s'.heap.get? b = some o ∧ H' b = none := fun b hb o e =>
                let z := i9.pin (b, o) (List.mem_append_right _ (List.mem_append_right _ (mem_pinsAt hb e)))
                ⟨z.1, z.2.1⟩
              refine ⟨m2, hm, j + 1, H', i9.unpinned.weak (by rw [← hw15, wipe_length]) (fun j v e => by rw [← hw15] at e; exact (wipe_some e).1), T1.keep _ _ _ st14 fun b hb o e => (pinned b hb o e).1, fun b hb => ?_, w2⟩
              obtain ⟨o, e, _⟩ := T1.obj _ _ st14 b hb
              exact (pinned b hb o e).2
            cases b1 with
            | false =>
              rw [if_neg Bool.false_ne_true] at q16
              exact fin1 inv16 q16
            | true =>
              rw [if_pos rfl] at q16
              refine thnF (pk.run _ s16 σ15 H16 _ inv16 q16) fun y s17 ⟨yk, H17, inv17, r17, q17⟩ => ?_
              refine thnF (pw.run _ s17 σ15 H17 _ inv17 q17) fun z s18 ⟨yv, H18, inv18, r18, kvs, k, ek, hD18, hz18, nx⟩ => ?_
              subst ek
              exact d_dictSet (X := X.blk s3 H3 sc ce fp) inv18 hD18 hz18 r17 r18 fun s19 inv19 => fin1 inv19 nx
        exact start_b run1 (T1.self X.A 0 _ _ _ st11 run1)
  exact codeAny_compStart_dict run (T.self X.A 0 _ _ _ st4 run)
end
end NH
set_option maxHeartbeats 4000000
namespace NH
open PySem PySem.Spec PyProof.Rows L2 TL
/-- the dict that a walk over a list that stays makes -/
theorem dc_lst {K : PySem.W.Frag} {a : Addr} {xs : List V} {g : TG} {tt : TT} {tk tv : TE} {vs : List Nat} {σ : L2.St} {H1 : Hp} {D : Addr} {Qd : Hp → Prop} (Z : Nat → Hp → Prop) (z0 : Z 0 (upd H1 D (.dK []))) (zl : ∀ i H, i ≤ xs.length → Z i H → SqL K H a xs)
    (zs : ∀ i x H, xs[i]? = some x → Z i H → g x (wipe σ vs) H fun σ2 H2 => wipe σ2 vs = wipe σ vs ∧ tt σ2 H2 fun b H3 =>
      if b = true then tk σ2 H3 fun y H4 => tv σ2 H4 fun z H5 => ∃ kvs k, y = kV k ∧ H5 D = some (.dK kvs) ∧ kvs.length < sizeLine ∧ Z (i + 1) (upd H5 D (.dK (putK kvs k z))) else Z (i + 1) H3) (zd : ∀ H, Z xs.length H → Qd H) :
    ∃ W : Nat → Nat → Hp → Prop, (∃ m, W 0 m (upd H1 D (.dK []))) ∧ ∀ i m H, W i m H →
      ((Itl K a).stop i H ∧ Qd H) ∨ ((Itl K a).go i H ∧ ∃ Nx : Hp → Prop, (∀ H', Nx H' → ∃ m', m' < m ∧ W (i + 1) m' H') ∧ ∀ x H', (Itl K a).yld i H x H' → g x (wipe σ vs) H' fun σ2 H2 => wipe σ2 vs = wipe σ vs ∧ tt σ2 H2 fun b H3 =>
        if b = true then tk σ2 H3 fun y H4 => tv σ2 H4 fun z H5 => ∃ kvs k, y = kV k ∧ H5 D = some (.dK kvs) ∧ kvs.length < sizeLine ∧ Nx (upd H5 D (.dK (putK kvs k z))) else Nx H3) := by
  refine ⟨fun i m H => m = xs.length - i ∧ i ≤ xs.length ∧ Z i H, ⟨xs.length, (Nat.sub_zero _).symm, Nat.zero_le _, z0⟩, ?_⟩
  rintro i m H ⟨rfl, hi, p⟩
  have q := zl i H hi p
  rcases Nat.lt_or_ge i xs.length with lt | ge
  · exact .inr ⟨⟨xs, xs[i], q, List.getElem?_eq_getElem lt⟩, Z (i + 1), fun H' p' => ⟨xs.length - (i + 1), by omega, rfl, lt, p'⟩, fun x H' ⟨e, y⟩ => e ▸ zs i x _ (y xs q) p⟩
  · have e : i = xs.length := Nat.le_antisymm hi ge
    subst e
    exact .inl ⟨⟨xs, q, Nat.le_refl _⟩, zd H p⟩
/-- the same for two clauses: a tuple, then for each item a list -/
theorem dc2_tl {K : PySem.W.Frag} {a : Addr} {xs : List V} {g g2 : TG} {tk tv t2 : TE} {vs v2 : List Nat} {σ : L2.St} {H1 : Hp} {D : Addr} {Qd : Hp → Prop} (Z : Nat → Hp → Prop) (z0 : Z 0 (upd H1 D (.dK []))) (zl : ∀ i H, i ≤ xs.length → Z i H → SqT K H a xs)
    (zs : ∀ i x H, xs[i]? = some x → Z i H → g x (wipe σ vs) H fun σ2 H2 => wipe σ2 vs = wipe σ vs ∧ t2 σ2 H2 fun y H4 => ∃ b, y = .ref b ∧ (∃ ys, SqL K H4 b ys) ∧ ∃ V : Nat → Nat → Hp → Prop, (∃ m, V 0 m H4) ∧ ∀ j k H, V j k H →
      ((Itl K b).stop j H ∧ Z (i + 1) H) ∨ ((Itl K b).go j H ∧ ∃ Ny : Hp → Prop, (∀ H', Ny H' → ∃ k', k' < k ∧ V (j + 1) k' H') ∧ ∀ x H', (Itl K b).yld j H x H' → g2 x (wipe σ2 v2) H' fun σ3 H5 => wipe σ3 v2 = wipe σ2 v2 ∧
        tk σ3 H5 fun y H7 => tv σ3 H7 fun z H8 => ∃ kvs q, y = kV q ∧ H8 D = some (.dK kvs) ∧ kvs.length < sizeLine ∧ Ny (upd H8 D (.dK (putK kvs q z))))) (zd : ∀ H, Z xs.length H → Qd H) :
    ∃ W : Nat → Nat → Hp → Prop, (∃ m, W 0 m (upd H1 D (.dK []))) ∧ ∀ i m H, W i m H →
      ((Itt K a).stop i H ∧ Qd H) ∨ ((Itt K a).go i H ∧ ∃ Nx : Hp → Prop, (∀ H', Nx H' → ∃ m', m' < m ∧ W (i + 1) m' H') ∧ ∀ x H', (Itt K a).yld i H x H' → g x (wipe σ vs) H' fun σ2 H2 => wipe σ2 vs = wipe σ vs ∧ tYes σ2 H2 fun b H3 =>
        if b = true then iList K t2 σ2 H3 fun J2 H4 => ∃ V : Nat → Nat → Hp → Prop, (∃ m, V 0 m H4) ∧ ∀ j k H, V j k H →
          (J2.stop j H ∧ Nx H) ∨ (J2.go j H ∧ ∃ Ny : Hp → Prop, (∀ H', Ny H' → ∃ k', k' < k ∧ V (j + 1) k' H') ∧ ∀ x H', J2.yld j H x H' → g2 x (wipe σ2 v2) H' fun σ3 H5 => wipe σ3 v2 = wipe σ2 v2 ∧ tYes σ3 H5 fun b H6 =>
            if b = true then tk σ3 H6 fun y H7 => tv σ3 H7 fun z H8 => ∃ kvs q, y = kV q ∧ H8 D = some (.dK kvs) ∧ kvs.length < sizeLine ∧ Ny (upd H8 D (.dK (putK kvs q z))) else Ny H6)
        else Nx H3) := by
  refine ⟨fun i m H => m = xs.length - i ∧ i ≤ xs.length ∧ Z i H, ⟨xs.length, (Nat.sub_zero _).symm, Nat.zero_le _, z0⟩, ?_⟩
  rintro i m H ⟨rfl, hi, p⟩
  have q := zl i H hi p
  rcases Nat.lt_or_ge i xs.length with lt | ge
  · exact .inr ⟨⟨xs, xs[i], q, List.getElem?_eq_getElem lt⟩, Z (i + 1), fun H' p' => ⟨xs.length - (i + 1), by omega, rfl, lt, p'⟩, fun x H' ⟨e, y⟩ => e ▸ zs i x _ (y xs q) p⟩
  · have e : i = xs.length := Nat.le_antisymm hi ge
    subst e
    exact .inl ⟨⟨xs, q, Nat.le_refl _⟩, zd H p⟩
/-- the turns over a list that stays -/
theorem inner_l {K : PySem.W.Frag} {b : Addr} {ys : List V} {H0 : Hp} {g2 : TG} {tk tv : TE} {v2 : List Nat} {σ : L2.St} {D : Addr} {Nx : Hp → Prop} (Y : Nat → Hp → Prop) (y0 : Y 0 H0) (yl : ∀ j H, j ≤ ys.length → Y j H → SqL K H b ys)
    (yt : ∀ j x H, ys[j]? = some x → Y j H → g2 x (wipe σ v2) H fun σ3 H5 => wipe σ3 v2 = wipe σ v2 ∧ tk σ3 H5 fun y H7 => tv σ3 H7 fun z H8 => ∃ kvs q, y = kV q ∧ H8 D = some (.dK kvs) ∧ kvs.length < sizeLine ∧ Y (j + 1) (upd H8 D (.dK (putK kvs q z)))) (yd : ∀ H, Y ys.length H → Nx H) :
    ∃ V : Nat → Nat → Hp → Prop, (∃ m, V 0 m H0) ∧ ∀ j k H, V j k H →
      ((Itl K b).stop j H ∧ Nx H) ∨ ((Itl K b).go j H ∧ ∃ Ny : Hp → Prop, (∀ H', Ny H' → ∃ k', k' < k ∧ V (j + 1) k' H') ∧ ∀ x H', (Itl K b).yld j H x H' → g2 x (wipe σ v2) H' fun σ3 H5 => wipe σ3 v2 = wipe σ v2 ∧
        tk σ3 H5 fun y H7 => tv σ3 H7 fun z H8 => ∃ kvs q, y = kV q ∧ H8 D = some (.dK kvs) ∧ kvs.length < sizeLine ∧ Ny (upd H8 D (.dK (putK kvs q z)))) := by
  refine ⟨fun j m H => m = ys.length - j ∧ j ≤ ys.length ∧ Y j H, ⟨ys.length, (Nat.sub_zero _).symm, Nat.zero_le _, y0⟩, ?_⟩
  rintro j m H ⟨rfl, hj, p⟩
  have q := yl j H hj p
  rcases Nat.lt_or_ge j ys.length with lt | ge
  · exact .inr ⟨⟨ys, ys[j], q, List.getElem?_eq_getElem lt⟩, Y (j + 1), fun H' p' => ⟨ys.length - (j + 1), by omega, rfl, lt, p'⟩, fun x H' ⟨e, y⟩ => e ▸ yt j x _ (y ys q) p⟩
  · have e : j = ys.length := Nat.le_antisymm hj ge
    subst e
    exact .inl ⟨⟨ys, q, Nat.le_refl _⟩, yd H p⟩
section
variable {P : Program} {w : World} {K : PySem.W.Frag} {mg : Str → Option Value} {base : Heap} {C fI fH : Addr}
theorem sidesK_mem {k : Kind} {x : Str} : x ∈ sidesK k ↔ ∃ j, j < k.2 ∧ x = k.1 ++ dg j := by
  unfold sidesK
  rw [List.mem_map]
  constructor
  · rintro ⟨j, hj, e⟩; exact ⟨j, List.mem_range.mp hj, e.symm⟩
  · rintro ⟨j, hj, e⟩; exact ⟨j, List.mem_range.mpr hj, e.symm⟩
theorem KindsAt.keep {H H' : Hp} (s : ∀ b l, H b = some (.tup l) → H' b = some (.tup l)) : ∀ {vs : List V} {ks : List Kind}, KindsAt H vs ks → KindsAt H' vs ks
  | _, _, .nil => .nil
  | _, _, .cons ⟨t, e, h⟩ r => .cons ⟨t, e, s _ _ h⟩ (KindsAt.keep s r)
/-! ### _sides_of, _without -/
abbrev s_sides_of : Stmt := top 32
theorem sc_sides_of : FnScope ["name", "many", "digit"] ["name", "many"] (defScope s_sides_of) := ⟨rfl, rfl, rfl, by decide +kernel, rfl, by decide +kernel, by decide +kernel⟩
def spSo : Sp := fun vs H Q _ => ∃ k : Kind, vs = [.str k.1, .int (k.2 : Int)] ∧ k.1.cps.toList.length ≤ 4 ∧ (k.2 = 2 ∨ k.2 = 3) ∧ ∀ p H', Same H H' → H p = none → H' p = some (.lst ((sidesK k).map .str)) → Q (.ref p) H'
theorem ok_sides_of (G : Bl mg) (DA : DefAt K mg "_sides_of" s_sides_of) : Callee P w K mg base 2 "_sides_of" ["name", "many"] spSo := by
  refine callee DA sc_sides_of (fun vs H Q E h => by obtain ⟨k, rfl, _⟩ := h; rfl) (fun _ _ _ _ _ _ us hl => match us, hl with | [_, _], _ => rfl) fun f cdv A outer s H vs Q E hr h => ?_
  obtain ⟨k, rfl, l4, ltw, q⟩ := h
  refine ⟨_, pss_one (ps_ret (pe_lc (own := [("digit", 2)]) (g := gName 2) rfl sc_sides_of.nd (pi_range2 (by rfl) G.b_range (pa_cons pe_int (pa_cons (pe_op op_add (pv 1) pe_int) pa_nil))) (blkOk_by (N := ["name", "many", "digit"]) (sc := defScope s_sides_of) (by decide +kernel)) (fun _ _ _ _ _ => pg_name (i := 2) sc_sides_of.nd rfl (Or.inl rfl)) (fun _ _ _ _ _ => pts_nil)
    (fun _ _ _ _ _ => pe_joined (PJ.cons (pe_fmt (pv 0)) (PJ.cons (pe_fmt (pv 2)) PJ.nil))))), ?_⟩
  refine ⟨_, rfl, _, _, rfl, rfl, 1, (k.2 : Int) + 1, rfl, ⟨by omega, by omega, by omega, by omega⟩, fun D hD => ?_⟩
  rw [show ((k.2 : Int) + 1 - 1).toNat = k.2 by omega]
  refine lc_range (te := fun σ H Q => tJs [tFmt (tVar 0), tFmt (tVar 2)] Str.empty σ H fun out H1 => Q (.str out) H1) (lo := 1) (n := k.2) (fun j H' => Same H H' ∧ H' D = some (.lst (((List.range j).map fun z => k.1 ++ dg z).map .str))) ⟨same_new hD, upd_same⟩ ?_ ?_
  · rintro j H2 hj ⟨s2, d2⟩
    have l4' : k.1.length ≤ 4 := by rw [len_tl]; exact l4
    have ekey : Str.empty ++ k.1 ++ (toString (1 + (j : Int)) : Str) = k.1 ++ dg j := by rw [empty_app, dg_str j (by omega)]
    have lkey : (Str.empty ++ k.1 ++ (toString (1 + (j : Int)) : Str)).length ≤ sizeLine := by
      rw [ekey]
      show (k.1.cps ++ (dg j).cps).size ≤ _
      rw [Array.size_append]
      show k.1.length + 1 ≤ _
      exact Nat.le_of_lt (small1000 (by omega))
    have lk1 : k.1.length ≤ sizeLine := Nat.le_of_lt (small1000 (by omega))
    have lg : (1 + (j : Int)).natAbs.log2 < 1920 := by
      have z : j = 0 ∨ j = 1 ∨ j = 2 := by omega
      rcases z with rfl | rfl | rfl <;> decide
    refine ⟨rfl, tyes (iteT ?_)⟩
    refine ⟨_, rfl, .inl ⟨k.1, rfl, lk1, k.1, rfl, by rw [empty_app]; exact lk1, _, rfl, .inr ⟨1 + (j : Int), rfl, lg, _, rfl, lkey, _, d2, ?_, Same.put s2 hD, ?_⟩⟩⟩
    · rw [List.length_map, List.length_map, List.length_range]; exact small1000 (by omega)
    · rw [upd_same, ekey, List.range_succ, List.map_append, List.map_append]; rfl
  · rintro H2 ⟨s2, d2⟩
    exact q D H2 s2 hD d2
abbrev s_without : Stmt := top 33
theorem sc_without : FnScope ["sides", "side", "other"] ["sides", "side"] (defScope s_without) := ⟨rfl, rfl, rfl, by decide +kernel, rfl, by decide +kernel, by decide +kernel⟩
def spWout (K : PySem.W.Frag) : Sp := fun vs H Q _ => ∃ (a : Addr) (xs : List Str) (x : Str), vs = [.ref a, .str x] ∧ H a = some (.lst (xs.map .str)) ∧ xs.length ≤ 100 ∧ ∀ p H', Same H H' → H p = none → H' p = some (.tup ((xs.filter fun y => y != x).map .str)) → Q (.ref p) H'
theorem ok_without (G : Bl mg) (DA : DefAt K mg "_without" s_without) : Callee P w K mg base 2 "_without" ["sides", "side"] (spWout K) := by
  refine callee DA sc_without (fun vs H Q E h => by obtain ⟨a, xs, x, rfl, _⟩ := h; rfl) (fun _ _ _ _ _ _ us hl => match us, hl with | [_, _], _ => rfl) fun f cdv A outer s H vs Q E hr h => ?_
  obtain ⟨a, xs, x, rfl, ha, l1, q⟩ := h
  refine ⟨_, pss_one (ps_ret (pe_callTy call_tuple_of (by rfl) G.b_tuple (by decide +kernel) (pa_cons (pe_lc (own := [("other", 2)]) (g := gName 2) rfl sc_without.nd (pi_list (pv 0)) (blkOk_by (N := ["sides", "side", "other"]) (sc := defScope s_without) (by decide +kernel)) (fun _ _ _ _ _ => pg_name (i := 2) sc_without.nd rfl (Or.inl rfl)) (fun _ _ _ _ _ => pts_one (pt_cmpR op_ne (pv 2) (pv 1) (nomark _)))
    (fun _ _ _ _ _ => pv 2)) pa_nil))), ?_⟩
  refine ⟨_, rfl, a, rfl, ⟨_, SqL.of ha⟩, fun D hD => ?_⟩
  refine lc_list (K := K) (a := a) (xs := xs.map .str) (fun i H' => Same H H' ∧ H' D = some (.lst (((xs.take i).filter fun y => y != x).map .str))) ⟨same_new hD, upd_same⟩ (fun i H' _ z => SqL.of (z.1 _ _ ha)) ?_ ?_
  · rintro i v H2 hv ⟨s2, d2⟩
    rw [List.getElem?_map] at hv
    obtain ⟨y, hy, rfl⟩ := Option.map_eq_some_iff.mp hv
    obtain ⟨hi, ey⟩ := List.getElem?_eq_some_iff.mp hy
    have et : (xs.take (i + 1)).filter (fun y => y != x) = ((xs.take i).filter fun y => y != x) ++ if y != x then [y] else [] := by
      rw [List.take_succ_eq_append_getElem hi, ey, List.filter_append]
      congr 1
      rw [List.filter_cons, List.filter_nil]
    refine ⟨rfl, _, rfl, _, rfl, rfl, ?_⟩
    have eb : (!decide (V.str y = V.str x)) = (y != x) := by
      by_cases z : y = x
      · subst z; simp
      · rw [decide_eq_false (fun e => z (V.str.inj e))]; simp [z]
    refine ⟨_, rfl, ?_⟩
    rw [eb]
    cases hb : (y != x) with
    | true =>
      refine iteT ⟨_, rfl, _, d2, ?_, Same.put s2 hD, ?_⟩
      · rw [List.length_map]
        exact small1000 (Nat.le_trans (List.length_filter_le _ _) (by rw [List.length_take]; omega))
      · rw [upd_same, et, hb, if_pos rfl, List.map_append]; rfl
    | false =>
      refine iteF ⟨s2, ?_⟩
      rw [et, hb, if_neg Bool.false_ne_true, List.append_nil]; exact d2
  · rintro H2 ⟨s2, d2⟩
    rw [List.length_map, List.take_length] at d2
    refine ⟨D, _, rfl, .inl ⟨SqL.of d2, fun l hl => ?_⟩⟩
    exact q l _ (s2.trans (same_new hl)) (s2.free hl) upd_same
abbrev s_init : Stmt := inClass (top 31) 0
abbrev s_has : Stmt := inClass (top 31) 3
theorem sc_init : FnScope ["self", "kinds", "name", "many", "side"] ["self", "kinds"] (defScope s_init) := ⟨rfl, rfl, rfl, by decide +kernel, rfl, by decide +kernel, by decide +kernel⟩
def spInit (C : Addr) : Sp := fun vs H Q _ => ∃ (p dx a : Addr) (xs : List V) (ks : List Kind), vs = [.ref p, .ref a] ∧ H p = some (.ins C dx []) ∧ H a = some (.lst xs) ∧ KindsAt H xs ks ∧ GoodKinds ks ∧ ∀ H', PortsAt C H' p ks → (∀ b o, b ≠ p → H b = some o → H' b = some o) → Q .non H'
/-- all but p, and what is new -/
def Off (p : Addr) (H H' : Hp) : Prop := ∀ b o, b ≠ p → H b = some o → H' b = some o
theorem Off.trans {p : Addr} {H H1 H2 : Hp} (a : Off p H H1) (b : Off p H1 H2) : Off p H H2 := fun x o n h => b x o n (a x o n h)
theorem Off.same {p : Addr} {H H' : Hp} (s : Same H H') : Off p H H' := fun b o _ h => s b o h
theorem Off.put {p : Addr} {H : Hp} {o : HO} : Off p H (upd H p o) := fun b u n h => by rw [upd_ne n]; exact h
theorem Off.new {p d : Addr} {H H' : Hp} {o : HO} (k : Off p H H') (hd : H d = none) : Off p H (upd H' d o) := fun b u n h => by rw [upd_ne (ne_of_none h hd)]; exact k b u n h
theorem keys_put (kvs : List (Key × V)) (q : Key) (v : V) : (q ∈ kvs.map (·.1) → (putK kvs q v).map (·.1) = kvs.map (·.1)) ∧ (¬ q ∈ kvs.map (·.1) → (putK kvs q v).map (·.1) = kvs.map (·.1) ++ [q]) := by
  unfold putK
  refine ⟨fun m => ?_, fun m => ?_⟩
  · have h : (kvs.any fun kv => decide (kv.1 = q)) = true := by
      obtain ⟨kv, h1, h2⟩ := List.mem_map.mp m
      exact List.any_eq_true.mpr ⟨kv, h1, decide_eq_true h2⟩
    rw [if_pos h, List.map_map]
    refine List.map_congr_left fun kv _ => ?_
    show (if kv.1 = q then (kv.1, v) else kv).1 = kv.1
    split <;> rfl
  · have h : ¬ (kvs.any fun kv => decide (kv.1 = q)) = true := fun h => by
      obtain ⟨kv, h1, h2⟩ := List.any_eq_true.mp h
      exact m (List.mem_map.mpr ⟨kv, h1, of_decide_eq_true h2⟩)
    rw [if_neg h, List.map_append]; rfl
theorem put_key {kvs : List (Key × V)} {ks : List Str} (h : kvs.map (·.1) = ks.map Sum.inr) (x : Str) (v : V) : ∃ k2 : List Str, (putK kvs (Sum.inr x) v).map (·.1) = k2.map Sum.inr ∧ (∀ y, y ∈ k2 ↔ y ∈ ks ∨ y = x) ∧ k2.length ≤ ks.length + 1 := by
  obtain ⟨e1, e2⟩ := keys_put kvs (Sum.inr x) v
  rw [h] at e1 e2
  by_cases m : (Sum.inr x : Key) ∈ ks.map Sum.inr
  · refine ⟨ks, e1 m, fun y => ⟨.inl, fun z => z.elim id fun z => ?_⟩, Nat.le_succ _⟩
    obtain ⟨u, hu, e⟩ := List.mem_map.mp m
    rw [z, ← Sum.inr.inj e]; exact hu
  · refine ⟨ks ++ [x], by rw [e2 m, List.map_append]; rfl, fun y => by rw [List.mem_append, List.mem_singleton], by rw [List.length_append]; exact Nat.le_refl _⟩
/-- a dict of texts -/
def Tab (kvs : List (Key × V)) (keys : List Str) (F : Str → V → Prop) : Prop := kvs.map (·.1) = keys.map Sum.inr ∧ kvs.length ≤ keys.length ∧ ∀ x ∈ keys, ∃ v, valV kvs (Sum.inr x : Key) = some v ∧ F x v
theorem Tab.nil (F : Str → V → Prop) : Tab [] [] F := ⟨rfl, Nat.le_refl _, fun x h => by cases h⟩
theorem Tab.put {kvs : List (Key × V)} {keys : List Str} {F : Str → V → Prop} (t : Tab kvs keys F) (x : Str) (v : V) (f : F x v) : ∃ k2, Tab (putK kvs (Sum.inr x) v) k2 F ∧ (∀ y, y ∈ k2 ↔ y ∈ keys ∨ y = x) ∧ k2.length ≤ keys.length + 1 := by
  obtain ⟨k2, e, m, l⟩ := put_key t.1 x v
  refine ⟨k2, ⟨e, ?_, fun y hy => ?_⟩, m, l⟩
  · have z := congrArg List.length e
    rw [List.length_map, List.length_map] at z
    omega
  · rw [valV_put]
    by_cases z : y = x
    · subst z; exact ⟨v, by rw [if_pos rfl], f⟩
    · rcases (m y).mp hy with q | q
      · obtain ⟨u, e1, e2⟩ := t.2.2 y q
        exact ⟨u, by rw [if_neg (fun w => z (Sum.inr.inj w))]; exact e1, e2⟩
      · exact absurd q z
theorem Tab.imp {kvs : List (Key × V)} {keys : List Str} {F G : Str → V → Prop} (t : Tab kvs keys F) (h : ∀ x v, F x v → G x v) : Tab kvs keys G := ⟨t.1, t.2.1, fun x hx => let ⟨v, e, f⟩ := t.2.2 x hx; ⟨v, e, h x v f⟩⟩
theorem valV_none {kvs : List (Key × V)} {q : Key} (h : q ∉ kvs.map (·.1)) : valV kvs q = none := by
  unfold valV
  rw [List.find?_eq_none.mpr fun kv hkv e => h (List.mem_map.mpr ⟨kv, hkv, of_decide_eq_true e⟩)]; rfl
theorem Tab.is {kvs : List (Key × V)} {keys : List Str} {F : Str → V → Prop} (t : Tab kvs keys F) (x : Str) : (valV kvs (Sum.inr x : Key)).isSome = true ↔ x ∈ keys := by
  constructor
  · intro h
    by_cases m : x ∈ keys
    · exact m
    · rw [valV_none (fun z => by rw [t.1] at z; obtain ⟨u, hu, e⟩ := List.mem_map.mp z; exact m (Sum.inr.inj e ▸ hu))] at h
      cases h
  · intro h
    obtain ⟨v, e, _⟩ := t.2.2 x h
    rw [e]; rfl
theorem lookup_put {f g : Str} {v : V} {fs : List (Str × V)} : (putF f v fs).lookup g = if g = f then some v else fs.lookup g := lookup_putF f g v fs
theorem ok_init (G : Bl mg) (T : PortsC K mg C fI fH) (F : ∃ fd, FunD K "__init__" "Ports.__init__" (defArgs s_init) (defBody s_init) (defScope s_init) [] [] fI fd) (cAk : Callee P w K mg base 6 "_are_kinds" ["value"] spAks)
    (cSo : Callee P w K mg base 2 "_sides_of" ["name", "many"] spSo) (cWo : Callee P w K mg base 2 "_without" ["sides", "side"] (spWout K)) :
    ∃ fd, Binds K fd ["self", "kinds"] [] ∧ FnOk P w K mg base CX0 8 fI fd ["self", "kinds"] (spInit C) := by
  refine meth_ok F sc_init (fun vs H Q E h => by obtain ⟨p, dx, a, xs, ks, rfl, _⟩ := h; rfl) (fun _ _ _ _ _ _ us hl => match us, hl with | [_, _], _ => rfl) fun cdv A outer s H vs Q E hr h => ?_
  obtain ⟨p, dx, a, xs, ks, rfl, hp, ha, hk, gk, q⟩ := h
  have hu := hu_of hr
  refine ⟨_, (pss_cons (ps_if (pt_not (pt_val (pe_cal cAk hr (by decide) (pa_cons (pv 1) pa_nil)))) (pss_one ps_never) pss_nil)
    (pss_cons (ps_fld (pv 0) (pe_callTy call_tuple_of (by rfl) G.b_tuple (by decide +kernel) (pa_cons (pv 1) pa_nil)) rfl)
    (pss_cons (ps_fld (pv 0) (pe_dc2 (own := [("name", 2), ("many", 3), ("side", 4)]) (v2 := [4]) (wi2 := iList K (tCall spSo [] E0 (tCons (tVar 2) (tCons (tVar 3) tNil)))) (g := gTup K 2 (gCons (gName 2) (gCons (gName 3) gNil))) (g2 := gName 4) rfl sc_init.nd (pi_tup (pe_fld (pv 0) rfl)) (blkOk_by (N := ["self", "kinds", "name", "many", "side"]) (sc := defScope s_init) (by decide +kernel)) (by decide)
        (fun _ _ _ _ _ => pg_tup (by rfl) (pgs_cons (pg_name (i := 2) sc_init.nd rfl (Or.inl rfl)) (pgs_cons (pg_name (i := 3) sc_init.nd rfl (Or.inl rfl)) pgs_nil))) (fun _ _ _ _ _ => pts_nil) (fun _ _ _ _ _ => pi_list (pe_cal cSo hr (by decide) (pa_cons (pv 2) (pa_cons (pv 3) pa_nil))))
        (fun _ _ _ _ _ => pg_name (i := 4) sc_init.nd rfl (Or.inl rfl)) (fun _ _ _ _ _ => pts_nil) (fun _ _ _ _ _ => pv 4) (fun _ _ _ _ _ => pv 2)) rfl)
    (pss_cons (ps_fld (pv 0) (pe_callB (call_sortedD rfl) (by rfl) G.b_sorted (by decide +kernel) (pa_cons (pe_fld (pv 0) rfl) pa_nil)) rfl)
    (pss_cons (ps_fld (pv 0) (pe_dc (own := [("name", 2), ("many", 3)]) (g := gTup K 2 (gCons (gName 2) (gCons (gName 3) gNil))) rfl sc_init.nd (pi_tup (pe_fld (pv 0) rfl)) (blkOk_by (N := ["self", "kinds", "name", "many", "side"]) (sc := defScope s_init) (by decide +kernel))
        (fun _ _ _ _ _ => pg_tup (by rfl) (pgs_cons (pg_name (i := 2) sc_init.nd rfl (Or.inl rfl)) (pgs_cons (pg_name (i := 3) sc_init.nd rfl (Or.inl rfl)) pgs_nil))) (fun _ _ _ _ _ => pts_nil) (fun _ _ _ _ _ => pv 2) (fun _ _ _ _ _ => pe_cal cSo hr (by decide) (pa_cons (pv 2) (pa_cons (pv 3) pa_nil)))) rfl)
    (pss_one (ps_fld (pv 0) (pe_dc (own := [("side", 4)]) (tv := tCall (spWout K) [] E0 (tCons (tDGet (tFld K (tVar 0) "_sides_by_name") (tDGet (tFld K (tVar 0) "_names") (tVar 4))) (tCons (tVar 4) tNil))) (g := gName 4) rfl sc_init.nd (pi_list (pe_fld (pv 0) rfl)) (blkOk_by (N := ["self", "kinds", "name", "many", "side"]) (sc := defScope s_init) (by decide +kernel))
        (fun _ _ _ _ _ => pg_name (i := 4) sc_init.nd rfl (Or.inl rfl)) (fun _ _ _ _ _ => pts_nil) (fun _ _ _ _ _ => pv 4)
        (fun _ _ _ _ _ => pe_cal cWo hr (by decide) (pa_cons (pe_dget hu (pe_fld (pv 0) rfl) (pe_dget hu (pe_fld (pv 0) rfl) (pv 4) (fun _ _ => rfl)) (fun _ _ => rfl)) (pa_cons (pv 4) pa_nil)))) rfl))))))), ?_⟩
  have lx := Paired.length hk
  have hlen := gk.len
  have sl := sides_len fun k h => gk.two k h
  refine ⟨_, rfl, a, xs, ks, rfl, ha, hk, gk, fun H1 s1 => ⟨true, rfl, iteF ?_⟩⟩
  -- self.kinds
  refine ⟨_, rfl, a, _, rfl, .inl ⟨SqL.of (s1 _ _ ha), fun t nt => ?_⟩⟩
  have p1 := s1 _ _ hp
  have ntp : p ≠ t := ne_of_none p1 nt
  have ka : KindsAt (upd H1 t (.tup xs)) xs ks := (hk.same s1).same (same_new nt)
  have et : (upd H1 t (.tup xs)) t = some (.tup xs) := upd_same
  have o1 : Off p H (upd H1 t (.tup xs)) := (Off.same s1).new (s1.free nt)
  have ep : (upd H1 t (.tup xs)) p = some (.ins C dx []) := by rw [upd_ne ntp]; exact p1
  generalize upd H1 t (.tup xs) = H2 at ka et o1 ep
  refine ⟨_, rfl, p, C, dx, [], rfl, ep, T.cl, T.nK, by show 0 < 1000; decide, ?_⟩
  have np : ∀ {G : Hp} {b l}, G p = some (.ins C dx l) → ∀ x, G b = some (.tup x) → b ≠ p := fun e x f => ne_of f e (by intro z; cases z)
  have ka3 : KindsAt (upd H2 p (.ins C dx (putF "kinds" (.ref t) []))) xs ks := ka.keep fun b l e => by rw [upd_ne (np ep l e)]; exact e
  have et3 : (upd H2 p (.ins C dx (putF "kinds" (.ref t) []))) t = some (.tup xs) := by rw [upd_ne (Ne.symm ntp)]; exact et
  have o3 := o1.trans (Off.put (p := p) (H := H2) (o := .ins C dx (putF "kinds" (.ref t) [])))
  have ep3 : (upd H2 p (.ins C dx (putF "kinds" (.ref t) []))) p = some (.ins C dx (putF "kinds" (.ref t) [])) := upd_same
  generalize upd H2 p (.ins C dx (putF "kinds" (.ref t) [])) = H3 at ka3 et3 o3 ep3
  -- self._names
  refine ⟨_, rfl, p, C, dx, _, _, rfl, ep3, T.cl, T.nK, by rw [lookup_put, if_pos rfl], t, rfl, ⟨_, SqT.of et3⟩, fun D nD => ?_⟩
  have nDp : p ≠ D := ne_of_none ep3 nD
  refine dc2_tl (K := K) (a := t) (xs := xs) (fun i H' => ∃ kvs keys, Same H3 H' ∧ H' D = some (.dK kvs) ∧ Tab kvs keys (fun x v => ∃ k ∈ ks, v = .str k.1) ∧ (∀ x, x ∈ keys ↔ x ∈ sidesOf (ks.take i)) ∧ keys.length ≤ 3 * i)
    ⟨[], [], same_new nD, upd_same, Tab.nil _, fun x => by simp [sidesOf], Nat.zero_le _⟩ ?_ ?_ ?_
  · rintro i H' _ ⟨kvs, keys, s, _⟩
    exact SqT.of (s _ _ et3)
  · rintro i x H4 hx ⟨kvs, keys, s4, d4, t4, m4, l4⟩
    obtain ⟨k, ek, tt, rfl, ht⟩ := paired_get ka3 hx
    have mk : k ∈ ks := List.mem_of_getElem? ek
    have g4 : ∀ {b o}, H3 b = some o → H4 b = some o := fun {b o} e => s4 _ _ e
    refine ⟨tt, _, rfl, SqT.of (g4 ht), rfl, _, _, rfl, _, _, rfl, rfl, rfl, _, rfl, _, rfl, k, rfl, (gk.ltr k mk).2.2, gk.two k mk, fun b H5 s5 nb hb => ⟨b, rfl, ⟨_, SqL.of hb⟩, ?_⟩⟩
    have nbD : b ≠ D := fun z => by rw [z] at nb; rw [nb] at d4; cases d4
    refine inner_l (K := K) (ys := (sidesK k).map .str) (fun j H' => ∃ kvs keys, Same H3 H' ∧ H' b = some (.lst ((sidesK k).map .str)) ∧ H' D = some (.dK kvs) ∧ Tab kvs keys (fun x v => ∃ k ∈ ks, v = .str k.1) ∧ (∀ x, x ∈ keys ↔ x ∈ sidesOf (ks.take i) ∨ x ∈ (sidesK k).take j) ∧ keys.length ≤ 3 * i + j)
      ⟨kvs, keys, fun c o e => s5 _ _ (g4 e), hb, s5 _ _ d4, t4, fun x => by rw [m4 x]; simp, by omega⟩ (fun j H' _ ⟨_, _, _, z, _⟩ => SqL.of z) ?_ ?_
    · rintro j v H6 hv ⟨kv6, keys6, s6, b6, d6, t6, m6, l6⟩
      rw [List.getElem?_map] at hv
      obtain ⟨y, hy, rfl⟩ := Option.map_eq_some_iff.mp hv
      obtain ⟨hj, ey⟩ := List.getElem?_eq_some_iff.mp hy
      obtain ⟨k2, t7, m7, l7⟩ := t6.put y (.str k.1) ⟨k, mk, rfl⟩
      have lk : (sidesK k).length = k.2 := by unfold sidesK; rw [List.length_map, List.length_range]
      have hi : i < ks.length := (List.getElem?_eq_some_iff.mp ek).1
      have k3 := gk.two k mk
      refine ⟨rfl, _, rfl, _, rfl, kv6, Sum.inr y, rfl, d6, ?_, putK kv6 (Sum.inr y) (.str k.1), k2, fun c o e => ?_, by rw [upd_ne nbD]; exact b6, upd_same, t7, fun x => ?_, by omega⟩
      · have := t6.2.1; exact small1000 (by omega)
      · rw [upd_ne (ne_of_none e nD)]; exact s6 _ _ e
      · rw [m7 x, m6 x, List.take_succ_eq_append_getElem hj, ey, List.mem_append, List.mem_singleton, or_assoc]
    · rintro H6 ⟨kv6, keys6, s6, b6, d6, t6, m6, l6⟩
      have lk : (sidesK k).length = k.2 := by unfold sidesK; rw [List.length_map, List.length_range]
      have k3 := gk.two k mk
      refine ⟨kv6, keys6, s6, d6, t6, fun x => ?_, ?_⟩
      · rw [m6 x, sidesOf_take ek, List.mem_append, List.length_map, List.take_length]
      · rw [List.length_map, lk] at l6; omega
  rintro H4 ⟨kvs, keys, s4, d4, t4, m4, l4⟩
  rw [show ks.take xs.length = ks by rw [lx]; exact List.take_length] at m4
  have ep4 := s4 _ _ ep3
  refine ⟨_, rfl, p, C, dx, _, rfl, ep4, T.cl, T.nN, by show 1 < 1000; decide, ?_⟩
  have o5 := (o3.trans (Off.same s4)).trans (Off.put (p := p) (H := H4) (o := .ins C dx (putF "_names" (.ref D) (putF "kinds" (.ref t) []))))
  have ep5 : (upd H4 p (.ins C dx (putF "_names" (.ref D) (putF "kinds" (.ref t) [])))) p = some (.ins C dx (putF "_names" (.ref D) (putF "kinds" (.ref t) []))) := upd_same
  have d5 : (upd H4 p (.ins C dx (putF "_names" (.ref D) (putF "kinds" (.ref t) [])))) D = some (.dK kvs) := by rw [upd_ne (Ne.symm nDp)]; exact d4
  have et5 : (upd H4 p (.ins C dx (putF "_names" (.ref D) (putF "kinds" (.ref t) [])))) t = some (.tup xs) := by rw [upd_ne (Ne.symm ntp)]; exact s4 _ _ et3
  have ka5 : KindsAt (upd H4 p (.ins C dx (putF "_names" (.ref D) (putF "kinds" (.ref t) [])))) xs ks := (ka3.same s4).keep fun b l e => by rw [upd_ne (np ep4 l e)]; exact e
  generalize upd H4 p (.ins C dx (putF "_names" (.ref D) (putF "kinds" (.ref t) []))) = H5 at o5 ep5 d5 et5 ka5
  -- self._sides
  refine ⟨_, rfl, p, C, dx, _, _, rfl, ep5, T.cl, T.nN, by rw [lookup_put, if_pos rfl], D, kvs, keys, rfl, .inl d5, t4.1, by omega, fun ys l perm _ nl => ?_⟩
  have nlp : p ≠ l := ne_of_none ep5 nl
  have s6 : Same H5 (upd H5 l (.lst (ys.map V.str))) := same_new nl
  have ep6 := s6 _ _ ep5
  refine ⟨_, rfl, p, C, dx, _, rfl, ep6, T.cl, T.nS, by show 2 < 1000; decide, ?_⟩
  have el6 : (upd H5 l (.lst (ys.map V.str))) l = some (.lst (ys.map V.str)) := upd_same
  have o6 := o5.trans (Off.same s6)
  have d6 := s6 _ _ d5
  have et6 := s6 _ _ et5
  have ka6 := ka5.same s6
  generalize upd H5 l (.lst (ys.map V.str)) = H6 at ep6 el6 o6 d6 et6 ka6
  have o7 := o6.trans (Off.put (p := p) (H := H6) (o := .ins C dx (putF "_sides" (.ref l) (putF "_names" (.ref D) (putF "kinds" (.ref t) [])))))
  have ep7 : (upd H6 p (.ins C dx (putF "_sides" (.ref l) (putF "_names" (.ref D) (putF "kinds" (.ref t) []))))) p = some (.ins C dx (putF "_sides" (.ref l) (putF "_names" (.ref D) (putF "kinds" (.ref t) [])))) := upd_same
  have d7 : (upd H6 p (.ins C dx (putF "_sides" (.ref l) (putF "_names" (.ref D) (putF "kinds" (.ref t) []))))) D = some (.dK kvs) := by rw [upd_ne (Ne.symm nDp)]; exact d6
  have et7 : (upd H6 p (.ins C dx (putF "_sides" (.ref l) (putF "_names" (.ref D) (putF "kinds" (.ref t) []))))) t = some (.tup xs) := by rw [upd_ne (Ne.symm ntp)]; exact et6
  have el7 : (upd H6 p (.ins C dx (putF "_sides" (.ref l) (putF "_names" (.ref D) (putF "kinds" (.ref t) []))))) l = some (.lst (ys.map V.str)) := by rw [upd_ne (Ne.symm nlp)]; exact el6
  have ka7 : KindsAt (upd H6 p (.ins C dx (putF "_sides" (.ref l) (putF "_names" (.ref D) (putF "kinds" (.ref t) []))))) xs ks := ka6.keep fun b l e => by rw [upd_ne (np ep6 l e)]; exact e
  generalize upd H6 p (.ins C dx (putF "_sides" (.ref l) (putF "_names" (.ref D) (putF "kinds" (.ref t) [])))) = H7 at o7 ep7 d7 et7 el7 ka7
  have k01 : ¬ (("kinds" : Str) = "_names") := by decide +kernel
  have k02 : ¬ (("kinds" : Str) = "_sides") := by decide +kernel
  -- self._sides_by_name
  refine ⟨_, rfl, p, C, dx, _, _, rfl, ep7, T.cl, T.nK, by rw [lookup_put, if_neg k02, lookup_put, if_neg k01, lookup_put, if_pos rfl], t, rfl, ⟨_, SqT.of et7⟩, fun B nB => ?_⟩
  have nBp : p ≠ B := ne_of_none ep7 nB
  refine dc_tup (K := K) (a := t) (xs := xs) (fun i H' => ∃ kv2 keys2, (∀ b o, H7 b = some o → H' b = some o) ∧ H' B = some (.dK kv2) ∧ Tab kv2 keys2 (fun x v => ∃ b, ∃ k ∈ ks, v = .ref b ∧ H' b = some (.lst ((sidesK k).map .str))) ∧ (∀ x, x ∈ keys2 ↔ x ∈ (ks.take i).map (·.1)) ∧ keys2.length ≤ i)
    ⟨[], [], fun b o e => by rw [upd_ne (ne_of_none e nB)]; exact e, upd_same, Tab.nil _, fun x => by simp, Nat.zero_le _⟩ (fun i H' _ ⟨_, _, s, _⟩ => SqT.of (s _ _ et7)) ?_ ?_
  · rintro i x H8 hx ⟨kv2, keys2, s8, d8, t8, m8, l8⟩
    obtain ⟨k, ek, tt, rfl, ht⟩ := paired_get ka7 hx
    have mk : k ∈ ks := List.mem_of_getElem? ek
    obtain ⟨hi, ee⟩ := List.getElem?_eq_some_iff.mp ek
    refine ⟨tt, _, rfl, SqT.of (s8 _ _ ht), rfl, _, _, rfl, _, _, rfl, rfl, rfl, tyes (iteT ?_)⟩
    refine ⟨_, rfl, _, rfl, _, rfl, k, rfl, (gk.ltr k mk).2.2, gk.two k mk, fun b H9 s9 nb hb => ?_⟩
    have nbB : b ≠ B := fun z => by rw [z] at nb; rw [nb] at d8; cases d8
    have st : ∀ {c xs}, H8 c = some (.lst xs) → upd H9 B (.dK (putK kv2 (Sum.inr k.1) (.ref b))) c = some (.lst xs) := fun {c xs} e => by
      rw [upd_ne (ne_of e d8 (by intro z; cases z))]; exact s9 _ _ e
    obtain ⟨k2, t9, m9, l9⟩ := (t8.imp (G := fun x v => ∃ b2, ∃ k ∈ ks, v = .ref b2 ∧ upd H9 B (.dK (putK kv2 (Sum.inr k.1) (.ref b))) b2 = some (.lst ((sidesK k).map .str))) fun x v ⟨c, k', mk', e1, e2⟩ => ⟨c, k', mk', e1, by
      rw [upd_ne (ne_of e2 d8 (by intro z; cases z))]; exact s9 _ _ e2⟩).put k.1 (.ref b) ⟨b, k, mk, rfl, by rw [upd_ne nbB]; exact hb⟩
    refine ⟨kv2, Sum.inr k.1, rfl, s9 _ _ d8, ?_, putK kv2 (Sum.inr k.1) (.ref b), k2, fun c o e => ?_, upd_same, ?_, fun x => ?_, by omega⟩
    · have := t8.2.1; exact small1000 (by omega)
    · have n : c ≠ B := ne_of_none e nB
      rw [upd_ne n]; exact s9 _ _ (s8 _ _ e)
    · refine ⟨t9.1, t9.2.1, fun x hx => ?_⟩
      obtain ⟨v, e1, c, k', mk', e2, e3⟩ := t9.2.2 x hx
      refine ⟨v, e1, c, k', mk', e2, ?_⟩
      by_cases z : c = B
      · subst z; rw [upd_same] at e3; cases e3
      · rw [upd_ne z] at e3 ⊢; exact e3
    · rw [m9 x, m8 x, List.take_succ_eq_append_getElem hi, ee, List.map_append, List.mem_append, List.map_cons, List.map_nil, List.mem_singleton]
  rintro H8 ⟨kv2, keys2, s8, d8, t8, m8, l8⟩
  rw [show ks.take xs.length = ks by rw [lx]; exact List.take_length] at m8
  have ep8 := s8 _ _ ep7
  refine ⟨_, rfl, p, C, dx, _, rfl, ep8, T.cl, T.nB, by show 3 < 1000; decide, ?_⟩
  have pd : ∀ {c o}, H8 c = some o → (∀ l, o ≠ .ins C dx l) → upd H8 p (.ins C dx (putF "_sides_by_name" (.ref B) (putF "_sides" (.ref l) (putF "_names" (.ref D) (putF "kinds" (.ref t) []))))) c = some o := fun {c o} e n => by
    rw [upd_ne (ne_of e ep8 (n _))]; exact e
  have o9 := (o7.trans (Off.same (H' := H8) fun b o e => s8 b o e)).trans (Off.put (p := p) (H := H8) (o := .ins C dx (putF "_sides_by_name" (.ref B) (putF "_sides" (.ref l) (putF "_names" (.ref D) (putF "kinds" (.ref t) []))))))
  have ep9 : (upd H8 p (.ins C dx (putF "_sides_by_name" (.ref B) (putF "_sides" (.ref l) (putF "_names" (.ref D) (putF "kinds" (.ref t) [])))))) p = some (.ins C dx (putF "_sides_by_name" (.ref B) (putF "_sides" (.ref l) (putF "_names" (.ref D) (putF "kinds" (.ref t) []))))) := upd_same
  have d9 := pd (s8 _ _ d7) (by intro l z; cases z)
  have el9 := pd (s8 _ _ el7) (by intro l z; cases z)
  have b9 := pd d8 (by intro l z; cases z)
  have t9 : Tab kv2 keys2 (fun x v => ∃ b, ∃ k ∈ ks, v = .ref b ∧ upd H8 p (.ins C dx (putF "_sides_by_name" (.ref B) (putF "_sides" (.ref l) (putF "_names" (.ref D) (putF "kinds" (.ref t) []))))) b = some (.lst ((sidesK k).map .str))) :=
    t8.imp fun x v ⟨b, k, mk, e1, e2⟩ => ⟨b, k, mk, e1, pd e2 (by intro l z; cases z)⟩
  generalize upd H8 p (.ins C dx (putF "_sides_by_name" (.ref B) (putF "_sides" (.ref l) (putF "_names" (.ref D) (putF "kinds" (.ref t) []))))) = H9 at o9 ep9 d9 el9 b9 t9
  have k12 : ¬ (("_names" : Str) = "_sides") := by decide +kernel
  have k13 : ¬ (("_names" : Str) = "_sides_by_name") := by decide +kernel
  have k23 : ¬ (("_sides" : Str) = "_sides_by_name") := by decide +kernel
  -- self._others
  refine ⟨_, rfl, p, C, dx, _, _, rfl, ep9, T.cl, T.nS, by rw [lookup_put, if_neg k23, lookup_put, if_pos rfl], l, rfl, ⟨_, SqL.of el9⟩, fun O nO => ?_⟩
  refine dc_lst (K := K) (a := l) (xs := ys.map V.str) (fun i H' => ∃ kv3 : List (Key × V), (∀ b o, H9 b = some o → H' b = some o) ∧ H' O = some (.dK kv3) ∧ kv3.length ≤ i)
    ⟨[], fun b o e => by rw [upd_ne (ne_of_none e nO)]; exact e, upd_same, Nat.le_refl _⟩ (fun i H' _ ⟨_, s, _⟩ => SqL.of (s _ _ el9)) ?_ ?_
  · rintro i v HA hv ⟨kv3, sA, dA, lA⟩
    rw [List.getElem?_map] at hv
    obtain ⟨y, hy, rfl⟩ := Option.map_eq_some_iff.mp hv
    have my : y ∈ keys := perm.mem_iff.mp (List.mem_of_getElem? hy)
    have hi : i < ys.length := (List.getElem?_eq_some_iff.mp hy).1
    have lp := perm.length_eq
    obtain ⟨u, eu, k, mk, rfl⟩ := t4.2.2 y my
    obtain ⟨u2, eu2, b, k', mk', rfl, hb⟩ := t9.2.2 k.1 ((m8 _).mpr (List.mem_map.mpr ⟨k, mk, rfl⟩))
    have gf : ∀ {f : Str} {v : V}, (putF "_sides_by_name" (.ref B) (putF "_sides" (.ref l) (putF "_names" (.ref D) (putF "kinds" (.ref t) [])))).lookup f = some v → ∃ dx fs, HA p = some (.ins C dx fs) ∧ fs.lookup f = some v := fun e => ⟨_, _, sA _ _ ep9, e⟩
    refine ⟨rfl, tyes (iteT ?_)⟩
    refine ⟨_, rfl, _, rfl, p, C, dx, _, _, rfl, sA _ _ ep9, T.cl, T.nB, by rw [lookup_put, if_pos rfl], _, rfl, p, C, dx, _, _, rfl, sA _ _ ep9, T.cl, T.nN, by rw [lookup_put, if_neg k13, lookup_put, if_neg k12, lookup_put, if_pos rfl], _, rfl, D, _, rfl, by rw [← eu]; exact DGet.k (k := Sum.inr y) (sA _ _ d9), B, _, rfl, by rw [← eu2]; exact DGet.k (k := Sum.inr k.1) (sA _ _ b9), _, rfl, b, sidesK k', y, rfl, sA _ _ hb, ?_, fun z HB sB nz hz => ?_⟩
    · have := gk.two k' mk'
      unfold sidesK; rw [List.length_map, List.length_range]; omega
    · refine ⟨kv3, Sum.inr y, rfl, sB _ _ dA, small1000 (by omega), putK kv3 (Sum.inr y) (.ref z), fun c o e => ?_, upd_same, ?_⟩
      · rw [upd_ne (ne_of_none e nO)]; exact sB _ _ (sA _ _ e)
      · have := length_putK kv3 (Sum.inr y : Key) (.ref z); omega
  rintro HA ⟨kv3, sA, dA, lA⟩
  have epA := sA _ _ ep9
  refine ⟨_, rfl, p, C, dx, _, rfl, epA, T.cl, T.nO, by show 4 < 1000; decide, ?_⟩
  have k14 : ¬ (("_names" : Str) = "_others") := by decide +kernel
  have h0 : ¬ (("has" : Str) = "_others") := by decide +kernel
  have h1 : ¬ (("has" : Str) = "_sides_by_name") := by decide +kernel
  have h2 : ¬ (("has" : Str) = "_sides") := by decide +kernel
  have h3 : ¬ (("has" : Str) = "_names") := by decide +kernel
  have h4 : ¬ (("has" : Str) = "kinds") := by decide +kernel
  refine q _ ⟨dx, _, D, kvs, upd_same, by rw [lookup_put, if_neg k14, lookup_put, if_neg k13, lookup_put, if_neg k12, lookup_put, if_pos rfl], by rw [lookup_put, if_neg h0, lookup_put, if_neg h1, lookup_put, if_neg h2, lookup_put, if_neg h3, lookup_put, if_neg h4]; rfl, ?_, fun x => (t4.is x).trans (m4 x)⟩ ((o9.trans (Off.same fun b o e => sA b o e)).trans Off.put)
  rw [upd_ne (Ne.symm nDp)]
  exact sA _ _ d9
def hasD (ks : List Kind) : D → Bool
  | .str x => decide (x ∈ sidesOf ks)
  | _ => false
theorem sc_has : FnScope ["self", "value"] ["self", "value"] (defScope s_has) := ⟨rfl, rfl, rfl, by decide +kernel, rfl, by decide +kernel, by decide +kernel⟩
def spHas (C : Addr) : Sp := fun vs H Q _ => ∃ (p : Addr) (ks : List Kind) (v : V) (d : D), vs = [.ref p, v] ∧ PortsAt C H p ks ∧ Dd H v d ∧ Q (.bl (hasD ks d)) H
theorem ok_has (G : Bl mg) (T : PortsC K mg C fI fH) (F : ∃ fd, FunD K "has" "Ports.has" (defArgs s_has) (defBody s_has) (defScope s_has) [] [] fH fd) :
    ∃ fd, Binds K fd ["self", "value"] [] ∧ FnOk P w K mg base CX0 2 fH fd ["self", "value"] (spHas C) := by
  refine meth_ok F sc_has (fun vs H Q E h => by obtain ⟨p, ks, v, d, rfl, _⟩ := h; rfl) (fun _ _ _ _ _ _ us hl => match us, hl with | [_, _], _ => rfl) fun cdv A outer s H vs Q E hr h => ?_
  obtain ⟨p, ks, v, d, rfl, ⟨dx, fs, dd, kvs, h1, lk, _, h2, h3⟩, hd, q⟩ := h
  have hu := hu_of hr
  refine ⟨_, (pss_one (ps_ret (pe_and (pe_callB call_isi (by rfl) G.b_isinstance (by decide +kernel) (pa_cons (pv 1) (pa_cons (pe_bltn (v := .ty "str") (u := .type "str") (by rfl) G.b_str (by decide +kernel) rfl) pa_nil))) (pe_one (pe_cmp (pc_din hu (pv 1) (pe_fld (pv 0) rfl)) rfl))))), ?_⟩
  refine ⟨v, rfl, _, _, _, _, _, rfl, .ty "str", hd.tyx, kit_str d, _, rfl, itb (fun e1 => ?_) fun e1 => ?_⟩
  · cases hd with
    | str x =>
      refine ⟨_, rfl, _, rfl, p, C, dx, _, _, rfl, h1, T.cl, T.nN, lk, dd, _, rfl, DGet.k (k := Sum.inr x) h2, ?_⟩
      have e : (valV kvs (Sum.inr x : Key)).isSome = hasD ks (.str x) := by
        show _ = decide (x ∈ sidesOf ks)
        by_cases m : x ∈ sidesOf ks
        · rw [decide_eq_true m, (h3 x).mpr m]
        · rw [decide_eq_false m]
          cases z : (valV kvs (Sum.inr x : Key)).isSome with
          | false => rfl
          | true => exact absurd ((h3 x).mp z) m
      show Q (.bl (valV kvs (Sum.inr x : Key)).isSome) H
      rw [e]; exact q
    | _ => exfalso; revert e1; simp [D.isa, isaT, D.ty]; done
  · have e : hasD ks d = false := by cases d <;> first | rfl | (exfalso; revert e1; simp [D.isa, isaT, D.ty]; done)
    rw [e] at q; exact q
end
end NH
set_option maxHeartbeats 4000000
/-! any datum against a text: ==, !=, in -/
namespace NEq
open PySem PySem.Spec PyProof.Rows PySem.SeqAt
section
variable {A : Around} {s : Shared}
abbrev dO (es : Array DictEntry) (n : Nat) : Obj := { cls := .type "dict", dict := none, data := .dict es n, slots := #[] }
theorem str_dict_eq (b : Str) (u : Tok) (l : Addr) (es : Array DictEntry) (n : Nat) : Meets (Builtin.«str.__eq__» ⟨[.str b u, .ref l], []⟩) (fun _ R s => s.heap.get? l = some (dO es n) ∧ R (.ok (.ret .notImplemented)) s) :=
  .of_wp fun prog w A R s h => by obtain ⟨hp, g, d, tk, os⟩ := s; obtain ⟨at_, h⟩ := h; wp_walk using wpAny_loadPart' at_, wpAny_load at_; exact ⟨_, rfl, h⟩
theorem dict_str_eq (b : Str) (u : Tok) (l : Addr) (es : Array DictEntry) (n : Nat) : Meets (Builtin.«dict.__eq__» ⟨[.ref l, .str b u], []⟩) (fun _ R s => s.heap.get? l = some (dO es n) ∧ R (.ok (.ret .notImplemented)) s) :=
  .of_wp fun prog w A R s h => by obtain ⟨hp, g, d, tk, os⟩ := s; obtain ⟨at_, h⟩ := h; have f1 := PySem.F.sub_str_dict; wp_walk using wpAny_loadPart' at_, wpAny_load at_; exact ⟨_, rfl, h⟩
theorem str_dict_ne (b : Str) (u : Tok) (l : Addr) (es : Array DictEntry) (n : Nat) : Meets (Builtin.«str.__ne__» ⟨[.str b u, .ref l], []⟩) (fun _ R s => s.heap.get? l = some (dO es n) ∧ R (.ok (.ret .notImplemented)) s) :=
  .of_wp fun prog w A R s h => by obtain ⟨hp, g, d, tk, os⟩ := s; obtain ⟨at_, h⟩ := h; wp_walk using wpAny_loadPart' at_, wpAny_load at_; exact ⟨_, rfl, h⟩
theorem dict_str_ne (b : Str) (u : Tok) (l : Addr) (es : Array DictEntry) (n : Nat) : Meets (Builtin.«dict.__ne__» ⟨[.ref l, .str b u], []⟩) (fun _ R s => s.heap.get? l = some (dO es n) ∧ R (.ok (.ret .notImplemented)) s) :=
  .of_wp fun prog w A R s h => by obtain ⟨hp, g, d, tk, os⟩ := s; obtain ⟨at_, h⟩ := h; have f1 := PySem.F.sub_str_dict; wp_walk using wpAny_loadPart' at_, wpAny_load at_; exact ⟨_, rfl, h⟩
theorem rc_dict_str {l : Addr} {es : Array DictEntry} {n : Nat} (b : Str) (u : Tok) (ho : s.heap.get? l = some (dO es n)) (hu : A.units < cLine) : RcAt A s (.ref l) (.str b u) false := fun prog w E Q h =>
  rc_eq_decline_or (k := false) ⟨_, ho, rfl⟩ (typeIs_str s b u) (by decide) PySem.F.sub_str_dict PySem.F.slot_dict_eq PySem.F.slot_str_eq_refl (fun _ hq => call_meets PySem.F.slot_dict_eq ⟨_, ho, rfl⟩ PySem.F.entry_dict_eq (PySem.F.args_dict_eq_2 _ _) (dict_str_eq b u l es n) ⟨ho, hq⟩)
    (fun _ hq => call_meets PySem.F.slot_str_eq_refl (typeIs_str s b u) PySem.F.entry_str_eq (PySem.F.args_str_eq_2 _ _) (str_dict_eq b u l es n) ⟨ho, hq⟩) (fun _ hq => wpAny_of_eq (rfl : isSame (.ref l) (.str b u) = pure false) hq) (.inr hu) h
theorem rc_str_dict {l : Addr} {es : Array DictEntry} {n : Nat} (b : Str) (u : Tok) (ho : s.heap.get? l = some (dO es n)) (hu : A.units < cLine) : RcAt A s (.str b u) (.ref l) false := fun prog w E Q h =>
  rc_eq_decline_or (k := false) (typeIs_str s b u) ⟨_, ho, rfl⟩ (by decide) PySem.F.sub_dict_str PySem.F.slot_str_eq PySem.F.slot_dict_eq_refl (fun _ hq => call_meets PySem.F.slot_str_eq (typeIs_str s b u) PySem.F.entry_str_eq (PySem.F.args_str_eq_2 _ _) (str_dict_eq b u l es n) ⟨ho, hq⟩)
    (fun _ hq => call_meets PySem.F.slot_dict_eq_refl ⟨_, ho, rfl⟩ PySem.F.entry_dict_eq (PySem.F.args_dict_eq_2 _ _) (dict_str_eq b u l es n) ⟨ho, hq⟩) (fun _ hq => wpAny_of_eq (rfl : isSame (.str b u) (.ref l) = pure false) hq) (.inr hu) h
theorem eq_str_dict {l : Addr} {es : Array DictEntry} {n : Nat} (b : Str) (u : Tok) (ho : s.heap.get? l = some (dO es n)) (hu : A.units < cLine) : EqAt A s (.str b u) (.ref l) false := fun prog w E Q h => by
  unfold eqBool
  exact wpAny_holding (wpAny_ite_split (fun z => absurd (eq_of_beq z) nofun) fun _ => wpAny_bind (rc_str_dict b u ho hu prog w E _ (wpAny_truthy_bool h)))
theorem ne_dict_str {l : Addr} {es : Array DictEntry} {n : Nat} (b : Str) (u : Tok) (ho : s.heap.get? l = some (dO es n)) (hu : A.units < cLine) : RcNeAt A s (.ref l) (.str b u) true := fun prog w E Q h =>
  rc_ne_decline_or (k := false) ⟨_, ho, rfl⟩ (typeIs_str s b u) (by decide) PySem.F.sub_str_dict PySem.F.slot_dict_ne PySem.F.slot_str_ne_refl (fun _ hq => call_meets PySem.F.slot_dict_ne ⟨_, ho, rfl⟩ PySem.F.entry_dict_ne (PySem.F.args_dict_ne_2 _ _) (dict_str_ne b u l es n) ⟨ho, hq⟩)
    (fun _ hq => call_meets PySem.F.slot_str_ne_refl (typeIs_str s b u) PySem.F.entry_str_ne (PySem.F.args_str_ne_2 _ _) (str_dict_ne b u l es n) ⟨ho, hq⟩) (fun _ hq => wpAny_of_eq (rfl : isSame (.ref l) (.str b u) = pure false) hq) (.inr hu) h
end
end NEq
namespace NH
open PySem PySem.Spec PyProof.Rows L2 TL
/-- is it this text -/
def D.isS (z : Str) : D → Bool
  | .str x => x == z
  | _ => false
/-- is it one of these texts -/
def D.inS (zs : List Str) (d : D) : Bool := zs.any fun z => d.isS z
section
variable {X : Cx} {pins : List (Addr × Obj)} {σ : L2.St} {H : Hp} {s : Shared} {v : V} {d : D} {u : Value} {A : Around}
theorem dict_obj (I : Inv X pins σ H s) {a : Addr} (e : H a = some (.dK [])) : ∃ es n, s.heap.get? a = some (NEq.dO es n) := by
  obtain ⟨_, _, vs, _, o, es, ep, h1, h2, h3, _⟩ := (show ObjOk X.prog X.w H s.heap a (.dK []) from I.hok a _ e)
  obtain ⟨oc, od, dt, sl⟩ := o
  obtain ⟨c1, c2, c3⟩ := h2
  dsimp only at c1 c2 c3 h3
  subst c1 c2 c3 h3
  exact ⟨es, ep, h1⟩
/-- u == 'z' -/
theorem rc_text (I : Inv X pins σ H s) (hu : A.units < cLine) (z : Str) (t : Tok) (hd : Dd H v d) (rv : RelV v u) : SeqAt.RcAt A s u (.str z t) (d.isS z) := by
  cases hd with
  | non => cases rv; exact SeqAt.RcAt.none_str z t
  | bl b => cases rv; exact SeqAt.RcAt.bool_str b z t
  | int i => obtain ⟨k, rfl⟩ := rv; exact SeqAt.RcAt.int_str i k z t
  | str x => obtain ⟨k, rfl⟩ := rv; exact SeqAt.RcAt.str_str x k z t
  | lst e _ => cases rv; obtain ⟨its, r, pl, _⟩ := I.list (SqL.of e); exact SeqAt.RcAt.list_str z t pl.isList hu
  | tup e _ => cases rv; obtain ⟨its, r, pl, _⟩ := I.tuple (SqT.of e); exact SeqAt.RcAt.tuple_str z t pl hu
  | dic e => cases rv; obtain ⟨es, n, ho⟩ := dict_obj I e; exact NEq.rc_dict_str z t ho hu
theorem ne_text (I : Inv X pins σ H s) (hu : A.units < cLine) (z : Str) (t : Tok) (hd : Dd H v d) (rv : RelV v u) : SeqAt.RcNeAt A s u (.str z t) (!d.isS z) := by
  cases hd with
  | non => cases rv; exact SeqAt.RcNeAt.none_str z t
  | bl b => cases rv; exact SeqAt.RcNeAt.bool_str b z t
  | int i => obtain ⟨k, rfl⟩ := rv; exact SeqAt.RcNeAt.int_str i k z t
  | str x => obtain ⟨k, rfl⟩ := rv; exact SeqAt.RcNeAt.str_str x k z t
  | lst e _ => cases rv; obtain ⟨its, r, pl, _⟩ := I.list (SqL.of e); exact SeqAt.RcNeAt.list_str z t pl.isList hu
  | tup e _ => cases rv; obtain ⟨its, r, pl, _⟩ := I.tuple (SqT.of e); exact SeqAt.RcNeAt.tuple_str z t pl hu
  | dic e => cases rv; obtain ⟨es, n, ho⟩ := dict_obj I e; exact NEq.ne_dict_str z t ho hu
/-- 'z' == u -/
theorem eq_text (I : Inv X pins σ H s) (hu : A.units < cLine) (z : Str) (t : Tok) (hd : Dd H v d) (rv : RelV v u) : SeqAt.EqAt A s (.str z t) u (d.isS z) := by
  cases hd with
  | non => cases rv; exact SeqAt.EqAt.str_none z t
  | bl b => cases rv; exact SeqAt.EqAt.str_bool z t b
  | int i => obtain ⟨k, rfl⟩ := rv; exact SeqAt.EqAt.str_int z t i k
  | str x => obtain ⟨k, rfl⟩ := rv; rw [show (D.str x).isS z = (z == x) from by show (x == z) = _; exact Bool.beq_comm ..]; exact SeqAt.EqAt.str_str z t x k
  | lst e _ => cases rv; obtain ⟨its, r, pl, _⟩ := I.list (SqL.of e); exact SeqAt.EqAt.str_list z t pl.isList hu
  | tup e _ => cases rv; obtain ⟨its, r, pl, _⟩ := I.tuple (SqT.of e); exact SeqAt.EqAt.str_tuple z t pl hu
  | dic e => cases rv; obtain ⟨es, n, ho⟩ := dict_obj I e; exact NEq.eq_str_dict z t ho hu
theorem op_eqT (hu : X.A.units < cLine) : OpR X (compareOp .Eq) (fun x y H Q => ∃ d z, y = .str z ∧ Dd H x d ∧ Q (.bl (d.isS z)) H) := by
  intro pins s σ H x y v u Q I rx ry h
  obtain ⟨d, z, rfl, hd, q⟩ := h
  obtain ⟨t, rfl⟩ := ry
  exact rc_text I hu z t hd rx X.prog X.w X.xe _ ⟨.bl _, H, I, rfl, q⟩
theorem op_neT (hu : X.A.units < cLine) : OpR X (compareOp .NotEq) (fun x y H Q => ∃ d z, y = .str z ∧ Dd H x d ∧ Q (.bl (!d.isS z)) H) := by
  intro pins s σ H x y v u Q I rx ry h
  obtain ⟨d, z, rfl, hd, q⟩ := h
  obtain ⟨t, rfl⟩ := ry
  exact ne_text I hu z t hd rx X.prog X.w X.xe _ ⟨.bl _, H, I, rfl, q⟩
def ansT (d : D) : Value → Bool
  | .str z _ => d.isS z
  | _ => false
theorem any_ansT : ∀ {zs : List Str} {us : List Value}, Vals (zs.map V.str) us → us.any (ansT d) = d.inS zs
  | [], _, .nil => rfl
  | z :: zs, _, .cons r t => by
    obtain ⟨k, rfl⟩ := r
    show (d.isS z || _) = (d.isS z || _)
    rw [any_ansT t]; rfl
theorem mem_ansT (I : Inv X pins σ H s) (hu : A.units < cLine) (hd : Dd H v d) (rv : RelV v u) : ∀ {zs : List Str} {us : List Value}, Vals (zs.map V.str) us → ∀ y ∈ us, SeqAt.EqAt A s y u (ansT d y)
  | [], _, .nil => fun y hy => by cases hy
  | z :: zs, _, .cons r t => fun y hy => by
    obtain ⟨k, rfl⟩ := r
    rcases List.mem_cons.mp hy with rfl | hy
    · exact eq_text I hu z k hd rv
    · exact mem_ansT I hu hd rv t y hy
theorem op_inT (hu : X.A.units + 1 < cLine) : OpR X (compareOp .In) (fun x y H Q => ∃ d p zs, y = .ref p ∧ (SqL X.K H p (zs.map V.str) ∨ SqT X.K H p (zs.map V.str)) ∧ Dd H x d ∧ Q (.bl (d.inS zs)) H) := by
  intro pins s σ H x y v u Q I rx ry h
  obtain ⟨d, p, zs, rfl, hq, hd, q⟩ := h
  cases ry
  have h1 : X.A.in1.units < cLine := hu
  rcases hq with hq | hq
  · obtain ⟨its, r, pl, _⟩ := I.list hq
    refine SeqAt.in_listAt (ansT d) pl.isList (fun y hy => mem_ansT I h1 hd rx r y (by simpa using hy)) ⟨.bl _, H, I, rfl, ?_⟩
    rw [show its.toArray.any (ansT d) = its.any (ansT d) by simp, any_ansT r]; exact q
  · obtain ⟨its, r, pl, _⟩ := I.tuple hq
    refine SeqAt.in_tupleAt (ansT d) pl (fun y hy => mem_ansT I h1 hd rx r y (by simpa using hy)) ⟨.bl _, H, I, rfl, ?_⟩
    rw [show its.toArray.any (ansT d) = its.any (ansT d) by simp, any_ansT r]; exact q
end
end NH
set_option maxHeartbeats 4000000
namespace NH
open PySem PySem.Spec PyProof.Rows L2 TL
section
variable {X : Cx} {d : Addr} {es : Array DictEntry} {n : Nat}
/-- d.get(y), d a written dict with text keys -/
def tKGet (K : PySem.W.Frag) (d : Addr) (ty : TE) : TE := fun σ H Q => ty σ H fun y H2 => ∃ (z : Str) (r : Option Value) (v : V), y = .str z ∧ PySem.W.nsIn K d z = some r ∧ RelV v (r.getD .none) ∧ Q v H2
theorem pe_kget {x : Str} {e : Expr} {ty : TE} {p apos cpos : Pos} (DK : KDict X.K X.w d es n) (hg : Gl X x) (hm : X.mg x = some (.ref d)) (he : PE X e ty) (m : M1 X (.Name x p) "get" apos e cpos) (hdb : (x == ("__debug__" : Str)) = false := by decide) : PE X (.Call (.Attribute (.Name x p) "get" apos) [e] [] cpos) (tKGet X.K d ty) := by
  refine ⟨fun pins s σ H Q I h => ?_⟩
  have ob := I.kIn _ _ DK.at_
  refine wpAny_Call_method m.base m.few m.line PySem.F.plainAttrs_dict PySem.F.slot_dict_get PySem.F.type_dict_get (ld_glob I hg hm ⟨⟨_, ob, rfl⟩, fun b q => by cases q; exact ⟨_, ob, rfl⟩, ?_⟩ hdb)
  rw [m.trees]
  refine Calls.callWith_builtin rfl (Calls.evalArgs_plain (Calls.spliced_cons (thn (he.run pins s σ H _ I h) fun iv s2 ⟨y, H2, I2, ry, z, r, v, ey, en, rv, q⟩ => Calls.spliced_nil ?_)))
  subst ey
  obtain ⟨t, rfl⟩ := ry
  have mo := PySem.W.mapOf_K (prog := X.prog) (w := X.w) I2.kIn DK.at_ DK.lit
  refine call_meetsIn PySem.F.slot_dict_get mo.typeIs PySem.F.entry_dict_get (PySem.F.args_dict_get_2 _ _) (meets_dict_get (strKind X.prog X.w) d (strKind_is X.prog X.w z t) DK.low) ⟨_, mo, v, H2, I2.tok _, ?_, q⟩
  rw [PySem.W.find_K DK.at_ en]
  exact rv
end
theorem DdL.len {H : Hp} : ∀ {vs : List V} {ds : List D}, DdL H vs ds → vs.length = ds.length
  | _, _, .nil => rfl
  | _, _, .cons _ r => congrArg Nat.succ (DdL.len r)
/-! ### the program's judges, as functions of data -/
def amtOk (ks : List Kind) (nm : List Str) : D → Bool
  | .tup [a, b] => a.isS "due" && hasD ks b
  | .tup _ => false
  | d => d.btw 0 9 || d.inS nm
def parts : Str → Option Nat
  | z => if z = "is" then some 2 else if z = "above" then some 2 else if z = "both" then some 2 else if z = "either" then some 2 else if z = "not" then some 1 else none
def condOk (ks : List Kind) (nm : List Str) : Nat → D → Bool
  | 0, _ => false
  | n + 1, .tup (.str z :: ds) => (parts z == some ds.length) && (if z = "is" ∨ z = "above" then ds.all (amtOk ks nm) else ds.all (condOk ks nm n))
  | _ + 1, _ => false
section
variable {P : Program} {w : World} {K : PySem.W.Frag} {mg : Str → Option Value} {base : Heap} {C fI fH : Addr}
/-- names of numbers: a list or a tuple of texts -/
def NamesAt (H : Hp) (v : V) (nm : List Str) : Prop := ∃ a, v = .ref a ∧ (H a = some (.lst (nm.map .str)) ∨ H a = some (.tup (nm.map .str)))
theorem NamesAt.same {H H' : Hp} {v : V} {nm : List Str} (x : NamesAt H v nm) (s : Same H H') : NamesAt H' v nm := by
  obtain ⟨a, e, h⟩ := x
  exact ⟨a, e, h.imp (s _ _) (s _ _)⟩
theorem NamesAt.sq {H : Hp} {a : Addr} {nm : List Str} (h : H a = some (.lst (nm.map .str)) ∨ H a = some (.tup (nm.map .str))) : SqL K H a (nm.map V.str) ∨ SqT K H a (nm.map V.str) := h.imp SqL.of SqT.of
abbrev s_is_amount : Stmt := top 23
theorem sc_is_amount : FnScope ["ports", "numbers", "value"] ["ports", "numbers", "value"] (defScope s_is_amount) := ⟨rfl, rfl, rfl, by decide +kernel, rfl, by decide +kernel, by decide +kernel⟩
def spAmt (C : Addr) : Sp := fun vs H Q _ => ∃ (p : Addr) (ks : List Kind) (u : V) (nm : List Str) (v : V) (d : D), vs = [.ref p, u, v] ∧ PortsAt C H p ks ∧ NamesAt H u nm ∧ Dd H v d ∧ Q (.bl (amtOk ks nm d)) H
theorem ok_is_amount (G : Bl mg) (T : PortsC K mg C fI fH) (DA : DefAt K mg "_is_amount" s_is_amount) (cBt : Callee P w K mg base 2 "is_between" ["value", "low", "high"] spBtw) (gH : ∃ fd, Binds K fd ["self", "value"] [] ∧ FnOk P w K mg base CX0 2 fH fd ["self", "value"] (spHas C)) : Callee P w K mg base 4 "_is_amount" ["ports", "numbers", "value"] (spAmt C) := by
  refine callee DA sc_is_amount (fun vs H Q E h => by obtain ⟨p, ks, u, nm, v, d, rfl, _⟩ := h; rfl) (fun _ _ _ _ _ _ us hl => match us, hl with | [_, _, _], _ => rfl) fun f cdv A outer s H vs Q E hr h => ?_
  obtain ⟨p, ks, u, nm, v, d, rfl, hP, hN, hd, q⟩ := h
  obtain ⟨fdH, bH, GH⟩ := gH
  have hu := hu_of hr
  have hr2 : Room 2 _ := hr.mono (by decide)
  refine ⟨_, (pss_cons (ps_if (pt_val (pe_callB call_isi (by rfl) G.b_isinstance (by decide +kernel) (pa_cons (pv 2) (pa_cons (pe_bltn (v := .ty "tuple") (u := .type "tuple") (by rfl) G.b_tuple (by decide +kernel) rfl) pa_nil)))) (pss_one (ps_ret (pe_and (pe_cmpR op_eq (pe_callB call_len_seq (by rfl) G.b_len (by decide +kernel) (pa_cons (pv 2) pa_nil)) pe_int (nomark _)) (pe_and (pe_cmpR (op_eqT (Nat.lt_of_succ_lt hu)) (pe_ix ix_tup (pv 2) pe_int (fun _ _ => rfl)) pe_str (nomark _)) (pe_one (pe_meth (pv 0) T.cl T.has GH hr2 bH .nil pass0 (pa_cons (pe_ix ix_tup (pv 2) pe_int (fun _ _ => rfl)) pa_nil))))))) pss_nil)
    (pss_one (ps_ret (pe_or (pe_cal cBt hr (by decide) (pa_cons (pv 2) (pa_cons pe_int (pa_cons pe_int pa_nil)))) (pe_one (pe_cmpR (op_inT hu) (pv 2) (pv 1) rfl)))))), ?_⟩
  refine ⟨v, rfl, _, _, _, _, _, rfl, .ty "tuple", hd.tyx, kit_tuple d, _, rfl, itb (fun e1 => ?_) fun e1 => ?_⟩
  · cases hd with
    | @tup a xs ds ha hds =>
      have el : xs.length = ds.length := DdL.len hds
      refine ⟨_, rfl, a, xs, rfl, .inr (SqT.of ha), rfl, _, rfl, ?_⟩
      refine itb (fun e2 => ?_) fun e2 => ?_
      · have e3 : xs.length = 2 := by
          have z := of_decide_eq_true e2
          injection z with z; omega
        match xs, ds, hds, e3, ha with
        | [x, y], _, .cons (d := d1) h1 (.cons (d := d2) h2 .nil), _, ha =>
          refine ⟨_, rfl, a, _, _, _, rfl, rfl, SqT.of ha, rfl, d1, _, rfl, h1, _, rfl, itb (fun e4 => ?_) fun e4 => ?_⟩
          · obtain ⟨dx, fs, dd, kvs, g1, _, g2, _⟩ := id hP.ex
            refine ⟨_, rfl, p, dx, _, rfl, g1, g2, _, rfl, a, _, _, _, rfl, rfl, SqT.of ha, rfl, p, ks, _, d2, rfl, hP, h2, ?_⟩
            have e : amtOk ks nm (.tup [d1, d2]) = hasD ks d2 := by show (_ && _) = _; rw [e4]; rfl
            rw [e] at q; exact q
          · have e : amtOk ks nm (.tup [d1, d2]) = false := by show (_ && _) = _; rw [e4]; rfl
            rw [e] at q; exact q
      · have e3 : ds.length ≠ 2 := fun z => by
          have z2 := of_decide_eq_false e2
          exact z2 (by rw [el, z]; rfl)
        have e : amtOk ks nm (.tup ds) = false := by
          match ds, e3 with
          | [], _ => rfl
          | [_], _ => rfl
          | [_, _], z => exact absurd rfl z
          | _ :: _ :: _ :: _, _ => rfl
        rw [e] at q; exact q
    | _ => exfalso; revert e1; simp [D.isa, isaT, D.ty]; done
  · have e0 : amtOk ks nm d = (d.btw 0 9 || d.inS nm) := by cases d <;> first | rfl | (exfalso; revert e1; simp [D.isa, isaT, D.ty]; done)
    obtain ⟨an, rfl, hn⟩ := hN
    refine ⟨_, rfl, v, d, 0, 9, rfl, hd, _, rfl, itb (fun e2 => ?_) fun e2 => ?_⟩
    · rw [e0, e2] at q; exact q
    · refine ⟨_, rfl, _, rfl, d, an, nm, rfl, NamesAt.sq hn, hd, ?_⟩
      rw [e0, e2] at q; exact q
end
end NH
set_option maxHeartbeats 4000000
namespace NH
open PySem PySem.Spec PyProof.Rows L2 TL
theorem DdL.at {H : Hp} : ∀ {xs : List V} {ds : List D} {i : Nat} {x : V}, DdL H xs ds → xs[i]? = some x → ∃ d, ds[i]? = some d ∧ Dd H x d
  | _, _, _, _, .nil, e => by simp at e
  | _, _, 0, _, .cons h _, e => by simp at e; subst e; exact ⟨_, rfl, h⟩
  | _, _, i + 1, x, .cons _ t, e => by
    obtain ⟨d, h1, h2⟩ := DdL.at (i := i) (x := x) t (by simpa using e)
    exact ⟨d, by simpa using h1, h2⟩
theorem take_succ_of {α : Type} {l : List α} {i : Nat} {x : α} (h : l[i]? = some x) : l.take (i + 1) = l.take i ++ [x] := by
  obtain ⟨hi, e⟩ := List.getElem?_eq_some_iff.mp h
  rw [List.take_succ_eq_append_getElem hi, e]
/-- a list of answers about data, one behind the other -/
theorem lcB {J : It} {Gd : Hp → Prop} {xs : List V} {ds : List D} {f : D → Bool} {i0 : Nat} {te : TE} {vs : List Nat} {σ : L2.St} {H1 : Hp} {p : Addr} {Qd : Hp → Prop} (w : Walk J xs.length Gd (YAt xs)) (hG : ∀ H', Same H1 H' → Gd H') (hp : H1 p = none) (hds : DdL H1 xs ds) (small : xs.length ≤ 1000)
    (hw : ∀ x, wipe ((wipe σ vs).set i0 (some x)) vs = wipe σ vs) (ht : ∀ x d H', Same H1 H' → Dd H' x d → d ∈ ds → ∀ F : VK, (∀ H'', Same H' H'' → F (.bl (f d)) H'') → te ((wipe σ vs).set i0 (some x)) H' F)
    (hd : ∀ H', Same H1 H' → H' p = some (.lst ((ds.map f).map V.bl)) → Qd H') :
    ∃ W : Nat → Nat → Hp → Prop, (∃ m, W 0 m (upd H1 p (.lst []))) ∧ ∀ i m H, W i m H → (J.stop i H ∧ Qd H) ∨ (J.go i H ∧ ∃ Nx : Hp → Prop, (∀ H', Nx H' → ∃ m', m' < m ∧ W (i + 1) m' H') ∧ ∀ x H', J.yld i H x H' → gName i0 x (wipe σ vs) H' fun σ2 H2 => wipe σ2 vs = wipe σ vs ∧ tYes σ2 H2 fun b H3 =>
      if b = true then te σ2 H3 fun y H4 => ∃ acc, H4 p = some (.lst acc) ∧ acc.length < sizeLine ∧ Nx (upd H4 p (.lst (acc ++ [y]))) else Nx H3) := by
  refine lc_it (g := gName i0) (tt := tYes) w (fun i H' => Same H1 H' ∧ H' p = some (.lst (((ds.take i).map f).map V.bl))) ⟨same_new hp, upd_same⟩ (fun _ H' _ h => hG H' h.1) ?_ ?_
  · rintro i x H2 H2' hi ⟨s2, d2⟩ ⟨rfl, hx⟩
    obtain ⟨d, ed, hd2⟩ := hds.at hx
    refine ⟨hw x, tyes ?_⟩
    refine iteT ?_
    refine ht x d H2' s2 (hd2.same s2) (List.mem_of_getElem? ed) _ fun H3 s3 => ⟨_, s3 _ _ d2, ?_, Same.put (s2.trans s3) hp, ?_⟩
    · rw [List.length_map, List.length_map, List.length_take]; exact small1000 (by omega)
    · rw [upd_same, take_succ_of ed, List.map_append, List.map_append]; rfl
  · rintro H2 ⟨s2, d2⟩
    rw [show ds.take xs.length = ds by rw [hds.len]; exact List.take_length] at d2
    exact hd H2 s2 d2
theorem six1 (x : V) (xs : List V) : HT.sIx (x :: xs).length 0 (some 1) = 1 := by
  have z := HT.sIx_nat (x :: xs).length 0 1
  rw [show ((1 : Nat) : Int) = 1 from rfl] at z
  rw [z, List.length_cons]; omega
theorem cut1 (x : V) (xs : List V) : cutV (x :: xs) (some 1) none = xs := by
  unfold cutV
  rw [six1, HT.sIx_none, List.length_cons, Nat.add_sub_cancel]
  exact List.take_length
theorem cut1_not (x : V) (xs : List V) : ¬ (HT.sIx (x :: xs).length 0 (some 1) = 0 ∧ HT.sIx (x :: xs).length (x :: xs).length none = (x :: xs).length) := by
  rw [six1]; omega
/-- the table PARTS -/
def partsV (z : Str) : V := match parts z with
  | some m => .int (m : Int)
  | none => .non
structure PartsT (K : PySem.W.Frag) (w : World) (mg : Str → Option Value) : Prop where
  ex : ∃ d es n, mg "PARTS" = some (.ref d) ∧ KDict K w d es n ∧ ∀ z, ∃ r, PySem.W.nsIn K d z = some r ∧ RelV (partsV z) (r.getD .none)
/-- a written tuple of texts -/
structure TupT (K : PySem.W.Frag) (mg : Str → Option Value) (x : Str) (zs : List Str) : Prop where
  ex : ∃ a, mg x = some (.ref a) ∧ ∀ H : Hp, SqT K H a (zs.map V.str)
def isAb : List Str := ["is", "above"]
theorem isAb_mem (z : Str) : (D.str z).inS isAb = decide (z = "is" ∨ z = "above") := by
  have e : (D.str z).inS isAb = ((z == ("is" : Str)) || ((z == ("above" : Str)) || false)) := rfl
  rw [e, Bool.or_false]
  by_cases h1 : z = "is"
  · rw [decide_eq_true (Or.inl h1), h1]; simp
  · by_cases h2 : z = "above"
    · rw [decide_eq_true (Or.inr h2), h2]; simp
    · rw [decide_eq_false (not_or.mpr ⟨h1, h2⟩), beq_eq_false_iff_ne.mpr h1, beq_eq_false_iff_ne.mpr h2]; rfl
section
variable {P : Program} {w : World} {K : PySem.W.Frag} {mg : Str → Option Value} {base : Heap} {C fI fH : Addr}
abbrev s_u_condition : Stmt := top 22
theorem sc_u_condition : FnScope ["ports", "numbers", "value", "deepest", "part"] ["ports", "numbers", "value", "deepest"] (defScope s_u_condition) := ⟨rfl, rfl, rfl, by decide +kernel, rfl, by decide +kernel, by decide +kernel⟩
def spCond (C : Addr) (n : Nat) : Sp := fun vs H Q _ => ∃ (p : Addr) (ks : List Kind) (u : V) (nm : List Str) (v : V) (d : D), vs = [.ref p, u, v, .int (n : Int)] ∧ PortsAt C H p ks ∧ NamesAt H u nm ∧ Dd H v d ∧ ∀ H', Same H H' → Q (.bl (condOk ks nm n d)) H'
theorem at0 (x : V) (xs : List V) : atI (x :: xs) 0 = some x := atI_nat (j := 0) rfl
theorem at1 (x y : V) (xs : List V) : atI (x :: y :: xs) 1 = some y := atI_nat (j := 1) rfl
theorem all_map {α : Type} (f : α → Bool) (l : List α) : (l.map f).all id = l.all f := by rw [List.all_map]; rfl
theorem ok_u_condition (G : Bl mg) (T : PortsC K mg C fI fH) (PT : PartsT K w mg) (TC : TupT K mg "COMPARING" isAb) (DA : DefAt K mg "_is_condition" s_u_condition) (cUa : Callee P w K mg base 4 "_is_amount" ["ports", "numbers", "value"] (spAmt C)) :
    ∀ n : Nat, Callee P w K mg base (6 + n) "_is_condition" ["ports", "numbers", "value", "deepest"] (spCond C n) := by
  intro n
  induction n with
  | zero =>
    refine callee (k := 5) DA sc_u_condition (fun vs H Q E h => by obtain ⟨p, ks, u, nm, v, d, rfl, _⟩ := h; rfl) (fun _ _ _ _ _ _ us hl => match us, hl with | [_, _, _, _], _ => rfl) fun f cdv A outer s H vs Q E hr h => ?_
    obtain ⟨p, ks, u, nm, v, d, rfl, hP, hN, hd, q⟩ := h
    obtain ⟨dP, es, nP, gP, DK, hPv⟩ := PT.ex
    obtain ⟨aC, gC, hC⟩ := TC.ex
    have hu := hu_of hr
    have ih0 : Callee P w K mg base 1 "_is_condition" ["ports", "numbers", "value", "deepest"] fun _ _ _ _ => False := callee (k := 0) DA sc_u_condition (fun _ _ _ _ h => h.elim) (fun _ _ _ _ _ _ us hl => match us, hl with | [_, _, _, _], _ => rfl) fun _ _ _ _ _ _ _ _ _ _ h => h.elim
    refine ⟨_, (pss_cons (ps_if (PW.pt (pw_or (pt_cmpR op_lt (pv 3) pe_int (nomark _)) (pw_or (pt_not (pt_val (pe_callB call_isi (by rfl) G.b_isinstance (by decide +kernel) (pa_cons (pv 2) (pa_cons (pe_bltn (v := .ty "tuple") (u := .type "tuple") (by rfl) G.b_tuple (by decide +kernel) rfl) pa_nil))))) (pw_or (pt_not (pt_truth (pv 2) (by intro _; rfl))) (pw_or1 (pt_not (pt_val (pe_callB call_isi (by rfl) G.b_isinstance (by decide +kernel) (pa_cons (pe_ix ix_tup (pv 2) pe_int (fun _ _ => rfl)) (pa_cons (pe_bltn (v := .ty "str") (u := .type "str") (by rfl) G.b_str (by decide +kernel) rfl) pa_nil)))))))))) (pss_one (ps_ret pe_bl)) pss_nil)
      (pss_cons (ps_if (pt_cmpR op_ne (pe_kget DK (by rfl) gP (pe_ix ix_tup (pv 2) pe_int (fun _ _ => rfl)) ⟨by rfl, by rfl, by rfl, by rfl⟩) (pe_op op_sub (pe_callB call_len_seq (by rfl) G.b_len (by decide +kernel) (pa_cons (pv 2) pa_nil)) pe_int) (nomark _)) (pss_one (ps_ret pe_bl)) pss_nil)
      (pss_cons (ps_if (pt_cmpR (op_inT hu) (pe_ix ix_tup (pv 2) pe_int (fun _ _ => rfl)) (pe_glob (v := .ref aC) (by rfl) gC rfl) rfl) (pss_one (ps_ret (pe_callB (cr_all rfl) (by rfl) G.b_all (by decide +kernel) (pa_cons (pe_lc (own := [("part", 4)]) (g := gName 4) rfl sc_u_condition.nd (pi_tup (pe_slice sl_tup (pv 2) (po_some pe_int) po_none)) (blkOk_by (N := ["ports", "numbers", "value", "deepest", "part"]) (sc := defScope s_u_condition) (by decide +kernel)) (fun _ _ _ _ _ => (pg_name (i := 4) sc_u_condition.nd rfl (Or.inl rfl))) (fun _ _ _ _ _ => pts_nil) (fun _ _ _ _ _ => (pe_cal cUa hr (by omega) (pa_cons (pv 0) (pa_cons (pv 1) (pa_cons (pv 4) pa_nil)))))) pa_nil)))) pss_nil)
      (pss_one (ps_ret (pe_callB (cr_all rfl) (by rfl) G.b_all (by decide +kernel) (pa_cons (pe_lc (own := [("part", 4)]) (g := gName 4) rfl sc_u_condition.nd (pi_tup (pe_slice sl_tup (pv 2) (po_some pe_int) po_none)) (blkOk_by (N := ["ports", "numbers", "value", "deepest", "part"]) (sc := defScope s_u_condition) (by decide +kernel)) (fun _ _ _ _ _ => (pg_name (i := 4) sc_u_condition.nd rfl (Or.inl rfl))) (fun _ _ _ _ _ => pts_nil) (fun _ _ _ _ _ => (pe_cal ih0 hr (by omega) (pa_cons (pv 0) (pa_cons (pv 1) (pa_cons (pv 4) (pa_cons (pe_op op_sub (pv 3) pe_int) pa_nil))))))) pa_nil))))))), ?_⟩
    refine ⟨_, rfl, _, _, rfl, rfl, _, rfl, ?_⟩
    exact iteT (q H (Same.refl H))
  | succ n ih =>
    refine callee (k := 6 + n) DA sc_u_condition (fun vs H Q E h => by obtain ⟨p, ks, u, nm, v, d, rfl, _⟩ := h; rfl) (fun _ _ _ _ _ _ us hl => match us, hl with | [_, _, _, _], _ => rfl) fun f cdv A outer s H vs Q E hr h => ?_
    obtain ⟨p, ks, u, nm, v, d, rfl, hP, hN, hd, q⟩ := h
    obtain ⟨dP, es, nP, gP, DK, hPv⟩ := PT.ex
    obtain ⟨aC, gC, hC⟩ := TC.ex
    have hu := hu_of hr
    refine ⟨_, (pss_cons (ps_if (PW.pt (pw_or (pt_cmpR op_lt (pv 3) pe_int (nomark _)) (pw_or (pt_not (pt_val (pe_callB call_isi (by rfl) G.b_isinstance (by decide +kernel) (pa_cons (pv 2) (pa_cons (pe_bltn (v := .ty "tuple") (u := .type "tuple") (by rfl) G.b_tuple (by decide +kernel) rfl) pa_nil))))) (pw_or (pt_not (pt_truth (pv 2) (by intro _; rfl))) (pw_or1 (pt_not (pt_val (pe_callB call_isi (by rfl) G.b_isinstance (by decide +kernel) (pa_cons (pe_ix ix_tup (pv 2) pe_int (fun _ _ => rfl)) (pa_cons (pe_bltn (v := .ty "str") (u := .type "str") (by rfl) G.b_str (by decide +kernel) rfl) pa_nil)))))))))) (pss_one (ps_ret pe_bl)) pss_nil)
      (pss_cons (ps_if (pt_cmpR op_ne (pe_kget DK (by rfl) gP (pe_ix ix_tup (pv 2) pe_int (fun _ _ => rfl)) ⟨by rfl, by rfl, by rfl, by rfl⟩) (pe_op op_sub (pe_callB call_len_seq (by rfl) G.b_len (by decide +kernel) (pa_cons (pv 2) pa_nil)) pe_int) (nomark _)) (pss_one (ps_ret pe_bl)) pss_nil)
      (pss_cons (ps_if (pt_cmpR (op_inT hu) (pe_ix ix_tup (pv 2) pe_int (fun _ _ => rfl)) (pe_glob (v := .ref aC) (by rfl) gC rfl) rfl) (pss_one (ps_ret (pe_callB (cr_all rfl) (by rfl) G.b_all (by decide +kernel) (pa_cons (pe_lc (own := [("part", 4)]) (g := gName 4) rfl sc_u_condition.nd (pi_tup (pe_slice sl_tup (pv 2) (po_some pe_int) po_none)) (blkOk_by (N := ["ports", "numbers", "value", "deepest", "part"]) (sc := defScope s_u_condition) (by decide +kernel)) (fun _ _ _ _ _ => (pg_name (i := 4) sc_u_condition.nd rfl (Or.inl rfl))) (fun _ _ _ _ _ => pts_nil) (fun _ _ _ _ _ => (pe_cal cUa hr (by omega) (pa_cons (pv 0) (pa_cons (pv 1) (pa_cons (pv 4) pa_nil)))))) pa_nil)))) pss_nil)
      (pss_one (ps_ret (pe_callB (cr_all rfl) (by rfl) G.b_all (by decide +kernel) (pa_cons (pe_lc (own := [("part", 4)]) (g := gName 4) rfl sc_u_condition.nd (pi_tup (pe_slice sl_tup (pv 2) (po_some pe_int) po_none)) (blkOk_by (N := ["ports", "numbers", "value", "deepest", "part"]) (sc := defScope s_u_condition) (by decide +kernel)) (fun _ _ _ _ _ => (pg_name (i := 4) sc_u_condition.nd rfl (Or.inl rfl))) (fun _ _ _ _ _ => pts_nil) (fun _ _ _ _ _ => (pe_cal ih hr (by omega) (pa_cons (pv 0) (pa_cons (pv 1) (pa_cons (pv 4) (pa_cons (pe_op op_sub (pv 3) pe_int) pa_nil))))))) pa_nil))))))), ?_⟩
    refine ⟨_, rfl, _, _, rfl, rfl, _, rfl, ?_⟩
    rw [decide_eq_false (show ¬ ((n + 1 : Nat) : Int) < 1 by omega)]
    have no : condOk ks nm (n + 1) d = false → Q (.bl false) H := fun e => by have z := q H (Same.refl H); rw [e] at z; exact z
    refine iteF ⟨v, rfl, _, _, _, _, _, rfl, .ty "tuple", hd.tyx, kit_tuple d, _, rfl, itb (fun e1 => ?_) fun e1 => ?_⟩
    · refine iteT (no ?_)
      cases d <;> first | rfl | (exfalso; revert e1; simp [D.isa, isaT, D.ty]; done)
    cases hd with
    | @tup a xs ds ha hds =>
      refine ⟨_, rfl, !xs.isEmpty, .inr (.inl ⟨xs, SqT.of ha, rfl⟩), ?_⟩
      cases hds with
      | nil =>
        refine iteT ?_
        have e0 : condOk ks nm (n + 1) (.tup []) = false := rfl
        change if true = true then _ else _
        refine iteT ?_
        exact no e0
      | @cons x xs d0 ds h0 hds =>
        refine iteF ⟨_, rfl, a, _, _, _, rfl, rfl, SqT.of ha, at0 _ _, _, _, _, _, _, rfl, .ty "str", h0.tyx, kit_str d0, _, rfl, itb (fun e2 => ?_) fun e2 => ?_⟩
        · refine no ?_
          cases d0 <;> first | rfl | (exfalso; revert e2; simp [D.isa, isaT, D.ty]; done)
        cases h0 with
        | str z =>
          have el := hds.len
          obtain ⟨r, er, rr⟩ := hPv z
          refine ⟨_, rfl, a, _, _, _, rfl, rfl, SqT.of ha, at0 _ _, z, r, _, rfl, er, rr, _, rfl, a, _, rfl, .inr (SqT.of ha), _, _, rfl, rfl, ?_⟩
          have lx : ((V.str z :: xs).length : Int) - 1 = (ds.length : Int) := by rw [List.length_cons, el]; omega
          cases ep : parts z with
          | none =>
            have ev : partsV z = .non := by unfold partsV; rw [ep]
            rw [ev]
            refine ⟨rfl, _, rfl, iteT (no ?_)⟩
            show ((parts z == some ds.length) && _) = false
            rw [ep]; rfl
          | some m =>
            have ev : partsV z = .int (m : Int) := by unfold partsV; rw [ep]
            rw [ev]
            by_cases hm : m = ds.length
            · refine ⟨rfl, _, rfl, itf (show (!decide (V.int (m : Int) = V.int (((V.str z :: xs).length : Int) - 1))) = false by rw [lx, hm, decide_eq_true rfl]; rfl) ?_⟩
              have qq : ∀ H', Same H H' → Q (.bl (if z = "is" ∨ z = "above" then ds.all (amtOk ks nm) else ds.all (condOk ks nm n))) H' := fun H' s1 => by
                have zz := q H' s1
                have e : condOk ks nm (n + 1) (.tup (.str z :: ds)) = (if z = "is" ∨ z = "above" then ds.all (amtOk ks nm) else ds.all (condOk ks nm n)) := by
                  show ((parts z == some ds.length) && _) = _
                  rw [ep, hm]; simp
                rw [e] at zz; exact zz
              have sm : xs.length ≤ 1000 := by
                have hm2 : m ≤ 2 := by
                  unfold parts at ep
                  by_cases a1 : z = "is"
                  · rw [if_pos a1] at ep; injection ep with ep; omega
                  rw [if_neg a1] at ep
                  by_cases a2 : z = "above"
                  · rw [if_pos a2] at ep; injection ep with ep; omega
                  rw [if_neg a2] at ep
                  by_cases a3 : z = "both"
                  · rw [if_pos a3] at ep; injection ep with ep; omega
                  rw [if_neg a3] at ep
                  by_cases a4 : z = "either"
                  · rw [if_pos a4] at ep; injection ep with ep; omega
                  rw [if_neg a4] at ep
                  by_cases a5 : z = "not"
                  · rw [if_pos a5] at ep; injection ep with ep; omega
                  rw [if_neg a5] at ep; cases ep
                omega
              refine ⟨_, rfl, a, _, _, _, rfl, rfl, SqT.of ha, at0 _ _, .str z, aC, isAb, rfl, .inr (hC _), .str z, _, rfl, ?_⟩
              rw [isAb_mem]
              refine itd (fun hz => ?_) fun hz => ?_
              · rw [if_pos hz] at qq
                refine ⟨_, rfl, 1, rfl, a, _, rfl, SqT.of ha, cut1_not _ _, fun t ht => ?_⟩
                rw [cut1]
                refine ⟨t, rfl, ⟨xs, SqT.of upd_same⟩, fun l hl => ?_⟩
                have ts : ∀ H', Same (upd H t (.tup xs)) H' → SqT K H' t xs := fun H' s1 => SqT.of (s1 _ _ upd_same)
                refine lcB (f := amtOk ks nm) (walk_tup (K := K) (a := t)) ts hl (hds.same (same_new ht)) sm (fun _ => rfl) (fun x d H' s1 hd' _ F k => ?_) fun H' s1 d1 => ?_
                · have s2 := (same_new ht).trans s1
                  exact ⟨_, rfl, _, rfl, x, rfl, p, ks, u, nm, x, d, rfl, hP.same s2, hN.same s2, hd', k H' (Same.refl _)⟩
                · refine ⟨l, _, rfl, SqL.of d1, ?_⟩
                  rw [all_map]
                  exact qq H' ((same_new ht).trans s1)
              · rw [if_neg hz] at qq
                refine ⟨_, rfl, 1, rfl, a, _, rfl, SqT.of ha, cut1_not _ _, fun t ht => ?_⟩
                rw [cut1]
                refine ⟨t, rfl, ⟨xs, SqT.of upd_same⟩, fun l hl => ?_⟩
                have ts : ∀ H', Same (upd H t (.tup xs)) H' → SqT K H' t xs := fun H' s1 => SqT.of (s1 _ _ upd_same)
                refine lcB (f := condOk ks nm n) (walk_tup (K := K) (a := t)) ts hl (hds.same (same_new ht)) sm (fun _ => rfl) (fun x d H' s1 hd' _ F k => ?_) fun H' s1 d1 => ?_
                · have s2 := (same_new ht).trans s1
                  have en : ((n + 1 : Nat) : Int) - 1 = (n : Int) := by omega
                  exact ⟨_, rfl, _, rfl, x, rfl, _, rfl, _, _, rfl, rfl, p, ks, u, nm, x, d, by show [V.ref p, u, x, V.int (((n + 1 : Nat) : Int) - 1)] = _; rw [en], hP.same s2, hN.same s2, hd', k⟩
                · refine ⟨l, _, rfl, SqL.of d1, ?_⟩
                  rw [all_map]
                  exact qq H' ((same_new ht).trans s1)
            · refine ⟨rfl, _, rfl, itt (show (!decide (V.int (m : Int) = V.int (((V.str z :: xs).length : Int) - 1))) = true by rw [lx, decide_eq_false (by intro e; injection e with e; omega)]; rfl) (no ?_)⟩
              show ((parts z == some ds.length) && _) = false
              rw [ep, Bool.and_eq_false_iff]
              left
              rw [beq_eq_false_iff_ne]
              intro e; injection e with e; exact hm e
        | _ => exfalso; revert e2; simp [D.isa, isaT, D.ty]; done
    | _ => exfalso; revert e1; simp [D.isa, isaT, D.ty]; done
end
end NH
set_option maxHeartbeats 4000000
namespace NH
open PySem PySem.Spec PyProof.Rows L2 TL
def D.items : D → Option (List D)
  | .lst ds => some ds
  | .tup ds => some ds
  | _ => none
def chg : List Str := ["set", "add", "take"]
def chgOk (ks : List Kind) (nm : List Str) : List D → Bool
  | [a, b] => a.inS nm && amtOk ks nm b
  | _ => false
def repOk (rec : D → Bool) : List D → Bool
  | [a, b] => a.btw 0 9 && rec b
  | _ => false
def ifOk (ks : List Kind) (nm : List Str) (rec : D → Bool) : List D → Bool
  | [a, b, c] => condOk ks nm 4 a && [b, c].all rec
  | _ => false
def itemOk (ks : List Kind) (nm : List Str) (rec : D → Bool) : D → Bool
  | .tup (w :: ps) => if w.inS chg = true then chgOk ks nm ps else if w.isS "repeat" = true then repOk rec ps else w.isS "if" && ifOk ks nm rec ps
  | _ => false
def stepsOk (ks : List Kind) (nm : List Str) : Nat → D → Bool
  | 0, _ => false
  | n + 1, d => match d.items with
    | some ds => decide (ds.length ≤ 6) && ds.all (itemOk ks nm (stepsOk ks nm n))
    | none => false
def cntItem (rec : D → Nat) : D → Nat
  | .tup (w :: ps) => if w.inS chg = true then 0 else ((ps.drop 1).map rec).sum
  | _ => 0
def cnt : Nat → D → Nat
  | 0, _ => 0
  | n + 1, d => match d.items with
    | some ds => (ds.map fun i => 1 + cntItem (cnt n) i).sum
    | none => 0
section
variable {P : Program} {w : World} {K : PySem.W.Frag} {mg : Str → Option Value} {base : Heap} {C fI fH : Addr}
/-- a number of the top -/
def NumT (mg : Str → Option Value) (x : Str) (i : Int) : Prop := ∃ t, mg x = some (.int i t)
abbrev s_is_condition : Stmt := top 20
theorem sc_is_condition : FnScope ["ports", "numbers", "value"] ["ports", "numbers", "value"] (defScope s_is_condition) := ⟨rfl, rfl, rfl, by decide +kernel, rfl, by decide +kernel, by decide +kernel⟩
def spIc (C : Addr) : Sp := fun vs H Q _ => ∃ (p : Addr) (ks : List Kind) (u : V) (nm : List Str) (v : V) (d : D), vs = [.ref p, u, v] ∧ PortsAt C H p ks ∧ NamesAt H u nm ∧ Dd H v d ∧ ∀ H', Same H H' → Q (.bl (condOk ks nm 4 d)) H'
theorem ok_is_condition (G4 : NumT mg "DEEPEST_CONDITION" 4) (DA : DefAt K mg "is_condition" s_is_condition) (cUc : Callee P w K mg base 10 "_is_condition" ["ports", "numbers", "value", "deepest"] (spCond C 4)) : Callee P w K mg base 11 "is_condition" ["ports", "numbers", "value"] (spIc C) := by
  refine callee DA sc_is_condition (fun vs H Q E h => by obtain ⟨p, ks, u, nm, v, d, rfl, _⟩ := h; rfl) (fun _ _ _ _ _ _ us hl => match us, hl with | [_, _, _], _ => rfl) fun f cdv A outer s H vs Q E hr h => ?_
  obtain ⟨p, ks, u, nm, v, d, rfl, hP, hN, hd, q⟩ := h
  obtain ⟨t4, g4⟩ := G4
  refine ⟨_, (pss_one (ps_ret (pe_cal cUc hr (by decide) (pa_cons (pv 0) (pa_cons (pv 1) (pa_cons (pv 2) (pa_cons (pe_glob (v := .int 4) (by rfl) g4 ⟨_, rfl⟩) pa_nil))))))), ?_⟩
  exact ⟨_, rfl, _, rfl, v, rfl, p, ks, u, nm, v, d, rfl, hP, hN, hd, q⟩
abbrev s_u_steps : Stmt := top 24
theorem sc_u_steps : FnScope ["ports", "numbers", "value", "deepest", "item"] ["ports", "numbers", "value", "deepest"] (defScope s_u_steps) := ⟨rfl, rfl, rfl, by decide +kernel, rfl, by decide +kernel, by decide +kernel⟩
abbrev s_u_step : Stmt := top 25
theorem sc_u_step : FnScope ["ports", "numbers", "value", "deepest", "word", "parts", "part"] ["ports", "numbers", "value", "deepest"] (defScope s_u_step) := ⟨rfl, rfl, rfl, by decide +kernel, rfl, by decide +kernel, by decide +kernel⟩
def spUs (C : Addr) (n : Nat) : Sp := fun vs H Q _ => ∃ (p : Addr) (ks : List Kind) (u : V) (nm : List Str) (v : V) (d : D), vs = [.ref p, u, v, .int (n : Int)] ∧ PortsAt C H p ks ∧ NamesAt H u nm ∧ Dd H v d ∧ ∀ H', Same H H' → Q (.bl (stepsOk ks nm n d)) H'
def spUt (C : Addr) (n : Nat) : Sp := fun vs H Q _ => ∃ (p : Addr) (ks : List Kind) (u : V) (nm : List Str) (v : V) (d : D), vs = [.ref p, u, v, .int (n + 1 : Nat)] ∧ PortsAt C H p ks ∧ NamesAt H u nm ∧ Dd H v d ∧ ∀ H', Same H H' → Q (.bl (itemOk ks nm (stepsOk ks nm n) d)) H'
theorem ok_u_steps0 (k : Nat) (hk : 2 ≤ k) (G : Bl mg) (G6 : NumT mg "MOST_STEPS" 6) (DA : DefAt K mg "_are_steps" s_u_steps) (DT : DefAt K mg "_is_step" s_u_step) (cIl : Callee P w K mg base 2 "is_list" ["value"] spIsl) : Callee P w K mg base (k + 1) "_are_steps" ["ports", "numbers", "value", "deepest"] (spUs C 0) := by
  refine callee DA sc_u_steps (fun vs H Q E h => by obtain ⟨p, ks, u, nm, v, d, rfl, _⟩ := h; rfl) (fun _ _ _ _ _ _ us hl => match us, hl with | [_, _, _, _], _ => rfl) fun f cdv A outer s H vs Q E hr h => ?_
  obtain ⟨p, ks, u, nm, v, d, rfl, hP, hN, hd, q⟩ := h
  obtain ⟨t6, g6⟩ := G6
  have c0 : Callee P w K mg base 1 "_is_step" ["ports", "numbers", "value", "deepest"] fun _ _ _ _ => False := callee (k := 0) DT sc_u_step (fun _ _ _ _ h => h.elim) (fun _ _ _ _ _ _ us hl => match us, hl with | [_, _, _, _], _ => rfl) fun _ _ _ _ _ _ _ _ _ _ h => h.elim
  refine ⟨_, (pss_cons (ps_if (PW.pt (pw_or (pt_cmpR op_lt (pv 3) pe_int (nomark _)) (pw_or (pt_not (pt_val (pe_cal cIl hr (by omega) (pa_cons (pv 2) pa_nil)))) (pw_or1 (pt_cmpR op_gt (pe_callB call_len_seq (by rfl) G.b_len (by decide +kernel) (pa_cons (pv 2) pa_nil)) (pe_glob (v := .int 6) (by rfl) g6 ⟨_, rfl⟩) (nomark _)))))) (pss_one (ps_ret pe_bl)) pss_nil)
    (pss_one (ps_ret (pe_callB (cr_all rfl) (by rfl) G.b_all (by decide +kernel) (pa_cons (pe_lc (own := [("item", 4)]) (g := gName 4) rfl sc_u_steps.nd (pi_list (pv 2)) (blkOk_by (N := ["ports", "numbers", "value", "deepest", "item"]) (sc := defScope s_u_steps) (by decide +kernel)) (fun _ _ _ _ _ => (pg_name (i := 4) sc_u_steps.nd rfl (Or.inl rfl))) (fun _ _ _ _ _ => pts_nil) (fun _ _ _ _ _ => (pe_cal c0 hr (by omega) (pa_cons (pv 0) (pa_cons (pv 1) (pa_cons (pv 4) (pa_cons (pv 3) pa_nil))))))) pa_nil))))), ?_⟩
  refine ⟨_, rfl, _, _, rfl, rfl, _, rfl, ?_⟩
  exact iteT (q H (Same.refl H))
theorem ok_u_steps1 (n k : Nat) (hk : 2 ≤ k) (G : Bl mg) (G6 : NumT mg "MOST_STEPS" 6) (DA : DefAt K mg "_are_steps" s_u_steps) (cIl : Callee P w K mg base 2 "is_list" ["value"] spIsl) (cUt : Callee P w K mg base k "_is_step" ["ports", "numbers", "value", "deepest"] (spUt C n)) : Callee P w K mg base (k + 1) "_are_steps" ["ports", "numbers", "value", "deepest"] (spUs C (n + 1)) := by
  refine callee DA sc_u_steps (fun vs H Q E h => by obtain ⟨p, ks, u, nm, v, d, rfl, _⟩ := h; rfl) (fun _ _ _ _ _ _ us hl => match us, hl with | [_, _, _, _], _ => rfl) fun f cdv A outer s H vs Q E hr h => ?_
  obtain ⟨p, ks, u, nm, v, d, rfl, hP, hN, hd, q⟩ := h
  obtain ⟨t6, g6⟩ := G6
  have no : stepsOk ks nm (n + 1) d = false → ∀ H', Same H H' → Q (.bl false) H' := fun e H' s1 => by have z := q H' s1; rw [e] at z; exact z
  have yes : ∀ ds, d.items = some ds → ds.length ≤ 6 → ∀ H', Same H H' → Q (.bl (ds.all (itemOk ks nm (stepsOk ks nm n)))) H' := fun ds e hl H' s1 => by
    have z := q H' s1
    have e2 : stepsOk ks nm (n + 1) d = ds.all (itemOk ks nm (stepsOk ks nm n)) := by
      show (match d.items with | some ds => decide (ds.length ≤ 6) && ds.all (itemOk ks nm (stepsOk ks nm n)) | none => false) = _
      rw [e]
      show (decide (ds.length ≤ 6) && _) = _
      rw [decide_eq_true hl, Bool.true_and]
    rw [e2] at z; exact z
  have big : ∀ ds, d.items = some ds → 6 < ds.length → stepsOk ks nm (n + 1) d = false := fun ds e hl => by
    show (match d.items with | some ds => decide (ds.length ≤ 6) && ds.all (itemOk ks nm (stepsOk ks nm n)) | none => false) = _
    rw [e]
    show (decide (ds.length ≤ 6) && _) = _
    rw [decide_eq_false (by omega), Bool.false_and]
  cases hd with
  | @lst a xs ds ha hds =>
    refine ⟨_, (pss_cons (ps_if (PW.pt (pw_or (pt_cmpR op_lt (pv 3) pe_int (nomark _)) (pw_or (pt_not (pt_val (pe_cal cIl hr (by omega) (pa_cons (pv 2) pa_nil)))) (pw_or1 (pt_cmpR op_gt (pe_callB call_len_seq (by rfl) G.b_len (by decide +kernel) (pa_cons (pv 2) pa_nil)) (pe_glob (v := .int 6) (by rfl) g6 ⟨_, rfl⟩) (nomark _)))))) (pss_one (ps_ret pe_bl)) pss_nil)
    (pss_one (ps_ret (pe_callB (cr_all rfl) (by rfl) G.b_all (by decide +kernel) (pa_cons (pe_lc (own := [("item", 4)]) (g := gName 4) rfl sc_u_steps.nd (pi_list (pv 2)) (blkOk_by (N := ["ports", "numbers", "value", "deepest", "item"]) (sc := defScope s_u_steps) (by decide +kernel)) (fun _ _ _ _ _ => (pg_name (i := 4) sc_u_steps.nd rfl (Or.inl rfl))) (fun _ _ _ _ _ => pts_nil) (fun _ _ _ _ _ => (pe_cal cUt hr (by omega) (pa_cons (pv 0) (pa_cons (pv 1) (pa_cons (pv 4) (pa_cons (pv 3) pa_nil))))))) pa_nil))))), ?_⟩
    refine ⟨_, rfl, _, _, rfl, rfl, _, rfl, iteF ⟨_, rfl, _, .lst ds, rfl, .lst ha hds, fun H1 s1 => ⟨_, rfl, iteF ⟨_, rfl, a, xs, rfl, (.inl (SqL.of (s1 _ _ ha))), _, _, rfl, rfl, _, rfl, itd (fun h6 => ?_) fun h6 => ?_⟩⟩⟩⟩
    · exact no (big ds rfl (by rw [← hds.len]; omega)) H1 s1
    · have sm : xs.length ≤ 6 := by omega
      refine ⟨_, rfl, a, rfl, ⟨xs, SqL.of (s1 _ _ ha)⟩, fun l hl => ?_⟩
      have ts : ∀ H', Same H1 H' → SqL K H' a xs := fun H' s2 => SqL.of (s2 _ _ (s1 _ _ ha))
      refine lcB (f := itemOk ks nm (stepsOk ks nm n)) (walk_list (K := K) (a := a)) ts hl (hds.same s1) (by omega) (fun _ => rfl) (fun x d H' s2 hd' _ F k => ?_) fun H' s2 d1 => ?_
      · have s3 := s1.trans s2
        exact ⟨_, rfl, _, rfl, x, rfl, _, rfl, p, ks, u, nm, x, d, rfl, hP.same s3, hN.same s3, hd', k⟩
      · refine ⟨l, _, rfl, SqL.of d1, ?_⟩
        rw [all_map]
        exact yes ds rfl (by rw [← hds.len]; omega) H' (s1.trans s2)
  | @tup a xs ds ha hds =>
    refine ⟨_, (pss_cons (ps_if (PW.pt (pw_or (pt_cmpR op_lt (pv 3) pe_int (nomark _)) (pw_or (pt_not (pt_val (pe_cal cIl hr (by omega) (pa_cons (pv 2) pa_nil)))) (pw_or1 (pt_cmpR op_gt (pe_callB call_len_seq (by rfl) G.b_len (by decide +kernel) (pa_cons (pv 2) pa_nil)) (pe_glob (v := .int 6) (by rfl) g6 ⟨_, rfl⟩) (nomark _)))))) (pss_one (ps_ret pe_bl)) pss_nil)
    (pss_one (ps_ret (pe_callB (cr_all rfl) (by rfl) G.b_all (by decide +kernel) (pa_cons (pe_lc (own := [("item", 4)]) (g := gName 4) rfl sc_u_steps.nd (pi_tup (pv 2)) (blkOk_by (N := ["ports", "numbers", "value", "deepest", "item"]) (sc := defScope s_u_steps) (by decide +kernel)) (fun _ _ _ _ _ => (pg_name (i := 4) sc_u_steps.nd rfl (Or.inl rfl))) (fun _ _ _ _ _ => pts_nil) (fun _ _ _ _ _ => (pe_cal cUt hr (by omega) (pa_cons (pv 0) (pa_cons (pv 1) (pa_cons (pv 4) (pa_cons (pv 3) pa_nil))))))) pa_nil))))), ?_⟩
    refine ⟨_, rfl, _, _, rfl, rfl, _, rfl, iteF ⟨_, rfl, _, .tup ds, rfl, .tup ha hds, fun H1 s1 => ⟨_, rfl, iteF ⟨_, rfl, a, xs, rfl, (.inr (SqT.of (s1 _ _ ha))), _, _, rfl, rfl, _, rfl, itd (fun h6 => ?_) fun h6 => ?_⟩⟩⟩⟩
    · exact no (big ds rfl (by rw [← hds.len]; omega)) H1 s1
    · have sm : xs.length ≤ 6 := by omega
      refine ⟨_, rfl, a, rfl, ⟨xs, SqT.of (s1 _ _ ha)⟩, fun l hl => ?_⟩
      have ts : ∀ H', Same H1 H' → SqT K H' a xs := fun H' s2 => SqT.of (s2 _ _ (s1 _ _ ha))
      refine lcB (f := itemOk ks nm (stepsOk ks nm n)) (walk_tup (K := K) (a := a)) ts hl (hds.same s1) (by omega) (fun _ => rfl) (fun x d H' s2 hd' _ F k => ?_) fun H' s2 d1 => ?_
      · have s3 := s1.trans s2
        exact ⟨_, rfl, _, rfl, x, rfl, _, rfl, p, ks, u, nm, x, d, rfl, hP.same s3, hN.same s3, hd', k⟩
      · refine ⟨l, _, rfl, SqL.of d1, ?_⟩
        rw [all_map]
        exact yes ds rfl (by rw [← hds.len]; omega) H' (s1.trans s2)
  | non =>
    refine ⟨_, (pss_cons (ps_if (PW.pt (pw_or (pt_cmpR op_lt (pv 3) pe_int (nomark _)) (pw_or (pt_not (pt_val (pe_cal cIl hr (by omega) (pa_cons (pv 2) pa_nil)))) (pw_or1 (pt_cmpR op_gt (pe_callB call_len_seq (by rfl) G.b_len (by decide +kernel) (pa_cons (pv 2) pa_nil)) (pe_glob (v := .int 6) (by rfl) g6 ⟨_, rfl⟩) (nomark _)))))) (pss_one (ps_ret pe_bl)) pss_nil)
    (pss_one (ps_ret (pe_callB (cr_all rfl) (by rfl) G.b_all (by decide +kernel) (pa_cons (pe_lc (own := [("item", 4)]) (g := gName 4) rfl sc_u_steps.nd (pi_list (pv 2)) (blkOk_by (N := ["ports", "numbers", "value", "deepest", "item"]) (sc := defScope s_u_steps) (by decide +kernel)) (fun _ _ _ _ _ => (pg_name (i := 4) sc_u_steps.nd rfl (Or.inl rfl))) (fun _ _ _ _ _ => pts_nil) (fun _ _ _ _ _ => (pe_cal cUt hr (by omega) (pa_cons (pv 0) (pa_cons (pv 1) (pa_cons (pv 4) (pa_cons (pv 3) pa_nil))))))) pa_nil))))), ?_⟩
    refine ⟨_, rfl, _, _, rfl, rfl, _, rfl, iteF ⟨_, rfl, _, _, rfl, .non, fun H1 s1 => ⟨_, rfl, itt rfl (no rfl H1 s1)⟩⟩⟩
  | bl b =>
    refine ⟨_, (pss_cons (ps_if (PW.pt (pw_or (pt_cmpR op_lt (pv 3) pe_int (nomark _)) (pw_or (pt_not (pt_val (pe_cal cIl hr (by omega) (pa_cons (pv 2) pa_nil)))) (pw_or1 (pt_cmpR op_gt (pe_callB call_len_seq (by rfl) G.b_len (by decide +kernel) (pa_cons (pv 2) pa_nil)) (pe_glob (v := .int 6) (by rfl) g6 ⟨_, rfl⟩) (nomark _)))))) (pss_one (ps_ret pe_bl)) pss_nil)
    (pss_one (ps_ret (pe_callB (cr_all rfl) (by rfl) G.b_all (by decide +kernel) (pa_cons (pe_lc (own := [("item", 4)]) (g := gName 4) rfl sc_u_steps.nd (pi_list (pv 2)) (blkOk_by (N := ["ports", "numbers", "value", "deepest", "item"]) (sc := defScope s_u_steps) (by decide +kernel)) (fun _ _ _ _ _ => (pg_name (i := 4) sc_u_steps.nd rfl (Or.inl rfl))) (fun _ _ _ _ _ => pts_nil) (fun _ _ _ _ _ => (pe_cal cUt hr (by omega) (pa_cons (pv 0) (pa_cons (pv 1) (pa_cons (pv 4) (pa_cons (pv 3) pa_nil))))))) pa_nil))))), ?_⟩
    refine ⟨_, rfl, _, _, rfl, rfl, _, rfl, iteF ⟨_, rfl, _, _, rfl, .bl b, fun H1 s1 => ⟨_, rfl, itt rfl (no rfl H1 s1)⟩⟩⟩
  | int i =>
    refine ⟨_, (pss_cons (ps_if (PW.pt (pw_or (pt_cmpR op_lt (pv 3) pe_int (nomark _)) (pw_or (pt_not (pt_val (pe_cal cIl hr (by omega) (pa_cons (pv 2) pa_nil)))) (pw_or1 (pt_cmpR op_gt (pe_callB call_len_seq (by rfl) G.b_len (by decide +kernel) (pa_cons (pv 2) pa_nil)) (pe_glob (v := .int 6) (by rfl) g6 ⟨_, rfl⟩) (nomark _)))))) (pss_one (ps_ret pe_bl)) pss_nil)
    (pss_one (ps_ret (pe_callB (cr_all rfl) (by rfl) G.b_all (by decide +kernel) (pa_cons (pe_lc (own := [("item", 4)]) (g := gName 4) rfl sc_u_steps.nd (pi_list (pv 2)) (blkOk_by (N := ["ports", "numbers", "value", "deepest", "item"]) (sc := defScope s_u_steps) (by decide +kernel)) (fun _ _ _ _ _ => (pg_name (i := 4) sc_u_steps.nd rfl (Or.inl rfl))) (fun _ _ _ _ _ => pts_nil) (fun _ _ _ _ _ => (pe_cal cUt hr (by omega) (pa_cons (pv 0) (pa_cons (pv 1) (pa_cons (pv 4) (pa_cons (pv 3) pa_nil))))))) pa_nil))))), ?_⟩
    refine ⟨_, rfl, _, _, rfl, rfl, _, rfl, iteF ⟨_, rfl, _, _, rfl, .int i, fun H1 s1 => ⟨_, rfl, itt rfl (no rfl H1 s1)⟩⟩⟩
  | str x =>
    refine ⟨_, (pss_cons (ps_if (PW.pt (pw_or (pt_cmpR op_lt (pv 3) pe_int (nomark _)) (pw_or (pt_not (pt_val (pe_cal cIl hr (by omega) (pa_cons (pv 2) pa_nil)))) (pw_or1 (pt_cmpR op_gt (pe_callB call_len_seq (by rfl) G.b_len (by decide +kernel) (pa_cons (pv 2) pa_nil)) (pe_glob (v := .int 6) (by rfl) g6 ⟨_, rfl⟩) (nomark _)))))) (pss_one (ps_ret pe_bl)) pss_nil)
    (pss_one (ps_ret (pe_callB (cr_all rfl) (by rfl) G.b_all (by decide +kernel) (pa_cons (pe_lc (own := [("item", 4)]) (g := gName 4) rfl sc_u_steps.nd (pi_list (pv 2)) (blkOk_by (N := ["ports", "numbers", "value", "deepest", "item"]) (sc := defScope s_u_steps) (by decide +kernel)) (fun _ _ _ _ _ => (pg_name (i := 4) sc_u_steps.nd rfl (Or.inl rfl))) (fun _ _ _ _ _ => pts_nil) (fun _ _ _ _ _ => (pe_cal cUt hr (by omega) (pa_cons (pv 0) (pa_cons (pv 1) (pa_cons (pv 4) (pa_cons (pv 3) pa_nil))))))) pa_nil))))), ?_⟩
    refine ⟨_, rfl, _, _, rfl, rfl, _, rfl, iteF ⟨_, rfl, _, _, rfl, .str x, fun H1 s1 => ⟨_, rfl, itt rfl (no rfl H1 s1)⟩⟩⟩
  | @dic a ha =>
    refine ⟨_, (pss_cons (ps_if (PW.pt (pw_or (pt_cmpR op_lt (pv 3) pe_int (nomark _)) (pw_or (pt_not (pt_val (pe_cal cIl hr (by omega) (pa_cons (pv 2) pa_nil)))) (pw_or1 (pt_cmpR op_gt (pe_callB call_len_seq (by rfl) G.b_len (by decide +kernel) (pa_cons (pv 2) pa_nil)) (pe_glob (v := .int 6) (by rfl) g6 ⟨_, rfl⟩) (nomark _)))))) (pss_one (ps_ret pe_bl)) pss_nil)
    (pss_one (ps_ret (pe_callB (cr_all rfl) (by rfl) G.b_all (by decide +kernel) (pa_cons (pe_lc (own := [("item", 4)]) (g := gName 4) rfl sc_u_steps.nd (pi_list (pv 2)) (blkOk_by (N := ["ports", "numbers", "value", "deepest", "item"]) (sc := defScope s_u_steps) (by decide +kernel)) (fun _ _ _ _ _ => (pg_name (i := 4) sc_u_steps.nd rfl (Or.inl rfl))) (fun _ _ _ _ _ => pts_nil) (fun _ _ _ _ _ => (pe_cal cUt hr (by omega) (pa_cons (pv 0) (pa_cons (pv 1) (pa_cons (pv 4) (pa_cons (pv 3) pa_nil))))))) pa_nil))))), ?_⟩
    refine ⟨_, rfl, _, _, rfl, rfl, _, rfl, iteF ⟨_, rfl, _, _, rfl, .dic ha, fun H1 s1 => ⟨_, rfl, itt rfl (no rfl H1 s1)⟩⟩⟩
end
end NH
set_option maxHeartbeats 4000000
namespace NH
open PySem PySem.Spec PyProof.Rows L2 TL
section
variable {P : Program} {w : World} {K : PySem.W.Frag} {mg : Str → Option Value} {base : Heap} {C fI fH : Addr}
theorem ok_u_step (n k : Nat) (hk : 11 ≤ k) (G : Bl mg) (TC : TupT K mg "CHANGING" chg) (DA : DefAt K mg "_is_step" s_u_step) (cBt : Callee P w K mg base 2 "is_between" ["value", "low", "high"] spBtw) (cUa : Callee P w K mg base 4 "_is_amount" ["ports", "numbers", "value"] (spAmt C))
    (cIc : Callee P w K mg base 11 "is_condition" ["ports", "numbers", "value"] (spIc C)) (cUs : Callee P w K mg base k "_are_steps" ["ports", "numbers", "value", "deepest"] (spUs C n)) : Callee P w K mg base (k + 1) "_is_step" ["ports", "numbers", "value", "deepest"] (spUt C n) := by
  refine callee DA sc_u_step (fun vs H Q E h => by obtain ⟨p, ks, u, nm, v, d, rfl, _⟩ := h; rfl) (fun _ _ _ _ _ _ us hl => match us, hl with | [_, _, _, _], _ => rfl) fun f cdv A outer s H vs Q E hr h => ?_
  obtain ⟨p, ks, u, nm, v, d, rfl, hP, hN, hd, q⟩ := h
  obtain ⟨aC, gC, hC⟩ := TC.ex
  have hu := hu_of hr
  have hu1 := Nat.lt_of_succ_lt hu
  refine ⟨_, (pss_cons (ps_if (PW.pt (pw_or (pt_not (pt_val (pe_callB call_isi (by rfl) G.b_isinstance (by decide +kernel) (pa_cons (pv 2) (pa_cons (pe_bltn (v := .ty "tuple") (u := .type "tuple") (by rfl) G.b_tuple (by decide +kernel) rfl) pa_nil))))) (pw_or1 (pt_not (pt_truth (pv 2) (by intro _; rfl)))))) (pss_one (ps_ret pe_bl)) pss_nil)
    (pss_cons (ps_par (i := 4) (j := 5) (by rfl) sc_u_step.nd rfl rfl (by decide) rfl rfl (pa_cons (pe_ix ix_tup (pv 2) pe_int (fun _ _ => rfl)) (pa_cons (pe_slice sl_tup (pv 2) (po_some pe_int) po_none) pa_nil)) (by rfl))
    (pss_cons (ps_if (pt_cmpR (op_inT hu) (pv 4) (pe_glob (v := .ref aC) (by rfl) gC rfl) rfl) (pss_one (ps_ret (pe_and (pe_cmpR op_eq (pe_callB call_len_seq (by rfl) G.b_len (by decide +kernel) (pa_cons (pv 5) pa_nil)) pe_int (nomark _)) (pe_and (pe_cmpR (op_inT hu) (pe_ix ix_tup (pv 5) pe_int (fun _ _ => rfl)) (pv 1) rfl) (pe_one (pe_cal cUa hr (by omega) (pa_cons (pv 0) (pa_cons (pv 1) (pa_cons (pe_ix ix_tup (pv 5) pe_int (fun _ _ => rfl)) pa_nil))))))))) pss_nil)
    (pss_cons (ps_if (pt_cmpR (op_eqT hu1) (pv 4) pe_str (nomark _)) (pss_one (ps_ret (pe_and (pe_cmpR op_eq (pe_callB call_len_seq (by rfl) G.b_len (by decide +kernel) (pa_cons (pv 5) pa_nil)) pe_int (nomark _)) (pe_and (pe_cal cBt hr (by omega) (pa_cons (pe_ix ix_tup (pv 5) pe_int (fun _ _ => rfl)) (pa_cons pe_int (pa_cons pe_int pa_nil)))) (pe_one (pe_cal cUs hr (by omega) (pa_cons (pv 0) (pa_cons (pv 1) (pa_cons (pe_ix ix_tup (pv 5) pe_int (fun _ _ => rfl)) (pa_cons (pe_op op_sub (pv 3) pe_int) pa_nil)))))))))) pss_nil)
    (pss_cons (ps_if (PW.pt (pw_or (pt_cmpR (op_neT hu1) (pv 4) pe_str (nomark _)) (pw_or (pt_cmpR op_ne (pe_callB call_len_seq (by rfl) G.b_len (by decide +kernel) (pa_cons (pv 5) pa_nil)) pe_int (nomark _)) (pw_or1 (pt_not (pt_val (pe_cal cIc hr (by omega) (pa_cons (pv 0) (pa_cons (pv 1) (pa_cons (pe_ix ix_tup (pv 5) pe_int (fun _ _ => rfl)) pa_nil)))))))))) (pss_one (ps_ret pe_bl)) pss_nil)
    (pss_one (ps_ret (pe_callB (cr_all rfl) (by rfl) G.b_all (by decide +kernel) (pa_cons (pe_lc (own := [("part", 6)]) (g := gName 6) rfl sc_u_step.nd (pi_tup (pe_slice sl_tup (pv 5) (po_some pe_int) po_none)) (blkOk_by (N := ["ports", "numbers", "value", "deepest", "word", "parts", "part"]) (sc := defScope s_u_step) (by decide +kernel)) (fun _ _ _ _ _ => (pg_name (i := 6) sc_u_step.nd rfl (Or.inl rfl))) (fun _ _ _ _ _ => pts_nil) (fun _ _ _ _ _ => (pe_cal cUs hr (by omega) (pa_cons (pv 0) (pa_cons (pv 1) (pa_cons (pv 6) (pa_cons (pe_op op_sub (pv 3) pe_int) pa_nil))))))) pa_nil))))))))), ?_⟩
  have no : itemOk ks nm (stepsOk ks nm n) d = false → ∀ H', Same H H' → Q (.bl false) H' := fun e H' s1 => by have z := q H' s1; rw [e] at z; exact z
  refine ⟨v, rfl, _, _, _, _, _, rfl, .ty "tuple", hd.tyx, kit_tuple d, _, rfl, itb (fun e1 => ?_) fun e1 => ?_⟩
  · refine no ?_ H (Same.refl H)
    cases d <;> first | rfl | (exfalso; revert e1; simp [D.isa, isaT, D.ty]; done)
  cases hd with
  | @tup a xs ds ha hds =>
    refine ⟨_, rfl, !xs.isEmpty, .inr (.inl ⟨xs, SqT.of ha, rfl⟩), ?_⟩
    cases hds with
    | nil => exact itt rfl (no rfl H (Same.refl H))
    | @cons x xs d0 ds h0 hds =>
      have yes : ∀ b, itemOk ks nm (stepsOk ks nm n) (.tup (d0 :: ds)) = b → ∀ H', Same H H' → Q (.bl b) H' := fun b e H' s1 => by have z := q H' s1; rw [e] at z; exact z
      have el := hds.len
      refine itf rfl ⟨_, rfl, a, _, _, _, rfl, rfl, SqT.of ha, at0 _ _, _, rfl, 1, rfl, a, _, rfl, SqT.of ha, cut1_not _ _, fun t ht => ?_⟩
      rw [cut1]
      have tt : (upd H t (.tup xs)) t = some (.tup xs) := upd_same
      have s1 : Same H (upd H t (.tup xs)) := same_new ht
      have h0 := h0.same s1
      have hds := hds.same s1
      have hP := hP.same s1
      have hN := hN.same s1
      have en : ((n + 1 : Nat) : Int) - 1 = (n : Int) := by omega
      generalize upd H t (.tup xs) = H1 at *
      have two : ∀ {z : Nat}, decide (V.int (xs.length : Int) = V.int (z : Int)) = true → xs.length = z := fun {z} e => by
        have e := of_decide_eq_true e
        injection e with e; omega
      have ntwo : ∀ {z : Nat}, decide (V.int (xs.length : Int) = V.int (z : Int)) = false → ds.length ≠ z := fun {z} e y => by
        exact of_decide_eq_false e (by rw [el, y])
      refine ⟨_, _, rfl, x, rfl, d0, aC, chg, rfl, .inr (hC _), h0, _, rfl, itb (fun e2 => ?_) fun e2 => ?_⟩
      · have eI : itemOk ks nm (stepsOk ks nm n) (.tup (d0 :: ds)) = chgOk ks nm ds := if_pos e2
        refine ⟨_, rfl, t, xs, rfl, .inr (SqT.of tt), rfl, _, rfl, itb (fun e3 => ?_) fun e3 => ?_⟩
        · have e3 := two (z := 2) e3
          match xs, ds, hds, e3, tt, eI with
          | [x1, x2], _, .cons (d := d1) h1 (.cons (d := d2) h2 .nil), _, tt, eI =>
            obtain ⟨an, rfl, hn⟩ := id hN
            refine ⟨_, rfl, t, _, _, _, rfl, rfl, SqT.of tt, at0 _ _, _, rfl, d1, an, nm, rfl, NamesAt.sq hn, h1, _, rfl, itb (fun e4 => ?_) fun e4 => ?_⟩
            · refine ⟨_, rfl, _, rfl, _, rfl, t, _, _, _, rfl, rfl, SqT.of tt, at1 _ _ _, p, ks, _, nm, _, d2, rfl, hP, hN, h2, ?_⟩
              refine yes _ ?_ H1 s1
              rw [eI]; show (_ && _) = _; rw [e4]; rfl
            · refine yes _ ?_ H1 s1
              rw [eI]; show (_ && _) = _; rw [e4]; rfl
        · refine yes _ ?_ H1 s1
          rw [eI]
          have e3 := ntwo (z := 2) e3
          match ds, e3 with
          | [], _ => rfl
          | [_], _ => rfl
          | [_, _], z => exact absurd rfl z
          | _ :: _ :: _ :: _, _ => rfl
      refine ⟨x, rfl, d0, _, rfl, h0, _, rfl, itb (fun e4 => ?_) fun e4 => ?_⟩
      · have eI : itemOk ks nm (stepsOk ks nm n) (.tup (d0 :: ds)) = repOk (stepsOk ks nm n) ds := by
          show (if d0.inS chg = true then _ else if _ then _ else _) = _
          rw [e2, if_neg (by decide), if_pos e4]
        refine ⟨_, rfl, t, xs, rfl, .inr (SqT.of tt), rfl, _, rfl, itb (fun e3 => ?_) fun e3 => ?_⟩
        · have e3 := two (z := 2) e3
          match xs, ds, hds, e3, tt, eI with
          | [x1, x2], _, .cons (d := d1) h1 (.cons (d := d2) h2 .nil), _, tt, eI =>
            refine ⟨_, rfl, t, _, _, _, rfl, rfl, SqT.of tt, at0 _ _, _, d1, 0, 9, rfl, h1, _, rfl, itb (fun e4 => ?_) fun e4 => ?_⟩
            · refine ⟨_, rfl, _, rfl, _, rfl, t, _, _, _, rfl, rfl, SqT.of tt, at1 _ _ _, _, rfl, _, _, rfl, rfl, p, ks, u, nm, _, d2, by show [V.ref p, u, x2, V.int (((n + 1 : Nat) : Int) - 1)] = _; rw [en], hP, hN, h2, fun H2 s2 => ?_⟩
              refine yes _ ?_ H2 (s1.trans s2)
              rw [eI]; show (_ && _) = _; rw [e4]; rfl
            · refine yes _ ?_ H1 s1
              rw [eI]; show (_ && _) = _; rw [e4]; rfl
        · refine yes _ ?_ H1 s1
          rw [eI]
          have e3 := ntwo (z := 2) e3
          match ds, e3 with
          | [], _ => rfl
          | [_], _ => rfl
          | [_, _], z => exact absurd rfl z
          | _ :: _ :: _ :: _, _ => rfl
      have eI : itemOk ks nm (stepsOk ks nm n) (.tup (d0 :: ds)) = (d0.isS "if" && ifOk ks nm (stepsOk ks nm n) ds) := by
        show (if d0.inS chg = true then _ else if _ then _ else _) = _
        rw [e2, if_neg (by decide), e4, if_neg (by decide)]
      refine ⟨x, rfl, d0, _, rfl, h0, _, rfl, itb (fun e5 => ?_) fun e5 => ?_⟩
      · refine yes _ ?_ H1 s1
        rw [eI, show d0.isS "if" = false by revert e5; cases d0.isS "if" <;> simp]; rfl
      have e5 : d0.isS "if" = true := by revert e5; cases d0.isS "if" <;> simp
      refine ⟨_, rfl, t, xs, rfl, .inr (SqT.of tt), rfl, _, rfl, itb (fun e3 => ?_) fun e3 => ?_⟩
      · refine yes _ ?_ H1 s1
        rw [eI, e5, Bool.true_and]
        have e3 : ds.length ≠ 3 := ntwo (z := 3) (by revert e3; cases decide (V.int (xs.length : Int) = V.int (3 : Nat)) <;> simp)
        match ds, e3 with
        | [], _ => rfl
        | [_], _ => rfl
        | [_, _], _ => rfl
        | [_, _, _], z => exact absurd rfl z
        | _ :: _ :: _ :: _ :: _, _ => rfl
      have e3 : xs.length = 3 := two (z := 3) (by revert e3; cases decide (V.int (xs.length : Int) = V.int (3 : Nat)) <;> simp)
      match xs, ds, hds, e3, tt, eI, yes with
      | [x1, x2, x3], _, .cons (d := d1) h1 (.cons (d := d2) h2 (.cons (d := d3) h3 .nil)), _, tt, eI, yes =>
        refine ⟨_, rfl, _, rfl, _, rfl, t, _, _, _, rfl, rfl, SqT.of tt, at0 _ _, p, ks, _, nm, _, d1, rfl, hP, hN, h1, fun H2 s2 => ?_⟩
        refine ⟨_, rfl, itb (fun e6 => ?_) fun e6 => ?_⟩
        · refine yes _ ?_ H2 (s1.trans s2)
          rw [eI, e5, Bool.true_and]
          show (_ && _) = _
          rw [show condOk ks nm 4 d1 = false by revert e6; cases condOk ks nm 4 d1 <;> simp]; rfl
        have e6 : condOk ks nm 4 d1 = true := by revert e6; cases condOk ks nm 4 d1 <;> simp
        have tt := s2 _ _ tt
        have s3 := s1.trans s2
        refine ⟨_, rfl, 1, rfl, t, _, rfl, SqT.of tt, cut1_not _ _, fun t2 ht2 => ?_⟩
        rw [cut1]
        refine ⟨t2, rfl, ⟨[x2, x3], SqT.of upd_same⟩, fun l hl => ?_⟩
        have ts : ∀ H', Same (upd H2 t2 (.tup [x2, x3])) H' → SqT K H' t2 [x2, x3] := fun H' s1 => SqT.of (s1 _ _ upd_same)
        refine lcB (f := stepsOk ks nm n) (walk_tup (K := K) (a := t2)) ts hl ((DdL.cons h2 (.cons h3 .nil)).same (s2.trans (same_new ht2))) (by show 2 ≤ 1000; decide) (fun _ => rfl) (fun x d H' s4 hd' _ F k => ?_) fun H' s4 d1 => ?_
        · have s5 := (same_new ht2).trans s4
          exact ⟨_, rfl, _, rfl, x, rfl, _, rfl, _, _, rfl, rfl, p, ks, u, nm, x, d, by show [V.ref p, u, x, V.int (((n + 1 : Nat) : Int) - 1)] = _; rw [en], (hP.same s2).same s5, (hN.same s2).same s5, hd', k⟩
        · refine ⟨l, _, rfl, SqL.of d1, ?_⟩
          rw [all_map]
          refine yes _ ?_ H' (s3.trans ((same_new ht2).trans s4))
          rw [eI, e5, Bool.true_and]
          show (_ && _) = _
          rw [e6, Bool.true_and]
  | _ => exfalso; revert e1; simp [D.isa, isaT, D.ty]; done
end
end NH
set_option maxHeartbeats 4000000
namespace NH
open PySem PySem.Spec PyProof.Rows L2 TL
/-- a list of answers about data, one behind the other -/
theorem lcD {J : It} {Gd : Hp → Prop} {xs : List V} {ds : List D} {f : D → V} {i0 : Nat} {te : TE} {vs : List Nat} {σ : L2.St} {H1 : Hp} {p : Addr} {Qd : Hp → Prop} (w : Walk J xs.length Gd (YAt xs)) (hG : ∀ H', Same H1 H' → Gd H') (hp : H1 p = none) (hds : DdL H1 xs ds) (small : xs.length ≤ 1000)
    (hw : ∀ x, wipe ((wipe σ vs).set i0 (some x)) vs = wipe σ vs) (ht : ∀ x d H', Same H1 H' → Dd H' x d → d ∈ ds → ∀ F : VK, (∀ H'', Same H' H'' → F (f d) H'') → te ((wipe σ vs).set i0 (some x)) H' F)
    (hd : ∀ H', Same H1 H' → H' p = some (.lst (ds.map f)) → Qd H') :
    ∃ W : Nat → Nat → Hp → Prop, (∃ m, W 0 m (upd H1 p (.lst []))) ∧ ∀ i m H, W i m H → (J.stop i H ∧ Qd H) ∨ (J.go i H ∧ ∃ Nx : Hp → Prop, (∀ H', Nx H' → ∃ m', m' < m ∧ W (i + 1) m' H') ∧ ∀ x H', J.yld i H x H' → gName i0 x (wipe σ vs) H' fun σ2 H2 => wipe σ2 vs = wipe σ vs ∧ tYes σ2 H2 fun b H3 =>
      if b = true then te σ2 H3 fun y H4 => ∃ acc, H4 p = some (.lst acc) ∧ acc.length < sizeLine ∧ Nx (upd H4 p (.lst (acc ++ [y]))) else Nx H3) := by
  refine lc_it (g := gName i0) (tt := tYes) w (fun i H' => Same H1 H' ∧ H' p = some (.lst ((ds.take i).map f))) ⟨same_new hp, upd_same⟩ (fun _ H' _ h => hG H' h.1) ?_ ?_
  · rintro i x H2 H2' hi ⟨s2, d2⟩ ⟨rfl, hx⟩
    obtain ⟨d, ed, hd2⟩ := hds.at hx
    refine ⟨hw x, tyes ?_⟩
    refine iteT ?_
    refine ht x d H2' s2 (hd2.same s2) (List.mem_of_getElem? ed) _ fun H3 s3 => ⟨_, s3 _ _ d2, ?_, Same.put (s2.trans s3) hp, ?_⟩
    · rw [List.length_map, List.length_take]; exact small1000 (by omega)
    · rw [upd_same, take_succ_of ed, List.map_append]; rfl
  · rintro H2 ⟨s2, d2⟩
    rw [show ds.take xs.length = ds by rw [hds.len]; exact List.take_length] at d2
    exact hd H2 s2 d2
theorem six2 (x y : V) (xs : List V) : HT.sIx (x :: y :: xs).length 0 (some 2) = 2 := by
  have z := HT.sIx_nat (x :: y :: xs).length 0 2
  rw [show ((2 : Nat) : Int) = 2 from rfl] at z
  rw [z, List.length_cons, List.length_cons]; omega
theorem cut2 (x y : V) (xs : List V) : cutV (x :: y :: xs) (some 2) none = xs := by
  unfold cutV
  rw [six2, HT.sIx_none, List.length_cons, List.length_cons]
  show List.take (xs.length + 1 + 1 - 2) (List.drop 2 (x :: y :: xs)) = xs
  rw [show xs.length + 1 + 1 - 2 = xs.length by omega]
  exact List.take_length
theorem cut2_not (x y : V) (xs : List V) : ¬ (HT.sIx (x :: y :: xs).length 0 (some 2) = 0 ∧ HT.sIx (x :: y :: xs).length (x :: y :: xs).length none = (x :: y :: xs).length) := by
  rw [six2]; omega
theorem sum_nat (l : List Nat) : (l.map fun n : Nat => (n : Int)).sum = (l.sum : Nat) := by
  induction l with
  | nil => rfl
  | cons x l ih => rw [List.map_cons, List.sum_cons, List.sum_cons, ih]; omega
section
variable {P : Program} {w : World} {K : PySem.W.Frag} {mg : Str → Option Value} {base : Heap} {C fI fH : Addr}
abbrev s_u_citems : Stmt := top 26
theorem sc_u_citems : FnScope ["steps", "item"] ["steps"] (defScope s_u_citems) := ⟨rfl, rfl, rfl, by decide +kernel, rfl, by decide +kernel, by decide +kernel⟩
abbrev s_u_cinner : Stmt := top 27
theorem sc_u_cinner : FnScope ["item", "part"] ["item"] (defScope s_u_cinner) := ⟨rfl, rfl, rfl, by decide +kernel, rfl, by decide +kernel, by decide +kernel⟩
def spCi (n : Nat) : Sp := fun vs H Q _ => ∃ (ks : List Kind) (nm : List Str) (v : V) (d : D), vs = [v] ∧ Dd H v d ∧ stepsOk ks nm n d = true ∧ ∀ H', Same H H' → Q (.int (cnt n d : Nat)) H'
def spCn (n : Nat) : Sp := fun vs H Q _ => ∃ (ks : List Kind) (nm : List Str) (v : V) (d : D), vs = [v] ∧ Dd H v d ∧ itemOk ks nm (stepsOk ks nm n) d = true ∧ ∀ H', Same H H' → Q (.int (cntItem (cnt n) d : Nat)) H'
theorem ok_u_cinner (n k : Nat) (G : Bl mg) (TC : TupT K mg "CHANGING" chg) (DA : DefAt K mg "_count_inner" s_u_cinner) (cCi : Callee P w K mg base k "_count_items" ["steps"] (spCi n)) : Callee P w K mg base (k + 1) "_count_inner" ["item"] (spCn n) := by
  refine callee DA sc_u_cinner (fun vs H Q E h => by obtain ⟨ks, nm, v, d, rfl, _⟩ := h; rfl) (fun _ _ _ _ _ _ us hl => match us, hl with | [_], _ => rfl) fun f cdv A outer s H vs Q E hr h => ?_
  obtain ⟨ks, nm, v, d, rfl, hd, ok, q⟩ := h
  obtain ⟨aC, gC, hC⟩ := TC.ex
  have hu := hu_of hr
  refine ⟨_, (pss_cons (ps_if (pt_cmpR (op_inT hu) (pe_ix ix_tup (pv 0) pe_int (fun _ _ => rfl)) (pe_glob (v := .ref aC) (by rfl) gC rfl) rfl) (pss_one (ps_ret pe_int)) pss_nil)
    (pss_one (ps_ret (pe_callB (cr_sum rfl) (by rfl) G.b_sum (by decide +kernel) (pa_cons (pe_lc (own := [("part", 1)]) (g := gName 1) rfl sc_u_cinner.nd (pi_tup (pe_slice sl_tup (pv 0) (po_some pe_int) po_none)) (blkOk_by (N := ["item", "part"]) (sc := defScope s_u_cinner) (by decide +kernel)) (fun _ _ _ _ _ => (pg_name (i := 1) sc_u_cinner.nd rfl (Or.inl rfl))) (fun _ _ _ _ _ => pts_nil) (fun _ _ _ _ _ => (pe_cal cCi hr (by omega) (pa_cons (pv 1) pa_nil)))) pa_nil))))), ?_⟩
  cases hd with
  | @tup a xs ds ha hds =>
    cases hds with
    | nil => cases ok
    | @cons x xs d0 ds h0 hds =>
      have eC : ∀ m : Nat, cntItem (cnt n) (.tup (d0 :: ds)) = m → ∀ H', Same H H' → Q (.int (m : Nat)) H' := fun m e H' s1 => by have z := q H' s1; rw [e] at z; exact z
      have ok : (if d0.inS chg = true then chgOk ks nm ds else if d0.isS "repeat" = true then repOk (stepsOk ks nm n) ds else d0.isS "if" && ifOk ks nm (stepsOk ks nm n) ds) = true := ok
      refine ⟨_, rfl, a, _, _, _, rfl, rfl, SqT.of ha, at0 _ _, d0, aC, chg, rfl, .inr (hC _), h0, _, rfl, itb (fun e2 => ?_) fun e2 => ?_⟩
      · exact eC 0 (if_pos e2) H (Same.refl H)
      rw [e2, if_neg (by decide)] at ok
      have e3 : ∃ d1 es, ds = d1 :: es ∧ (∀ d ∈ es, stepsOk ks nm n d = true) ∧ es.length ≤ 2 := by
        cases e4 : d0.isS "repeat"
        · rw [e4, if_neg (by decide), Bool.and_eq_true] at ok
          match ds, ok.2 with
          | [a, b, c], o =>
            have o := (Bool.and_eq_true _ _ ▸ o : condOk ks nm 4 a = true ∧ [b, c].all (stepsOk ks nm n) = true)
            exact ⟨_, _, rfl, fun d hd => List.all_eq_true.mp o.2 d hd, by show 2 ≤ 2; decide⟩
        · rw [e4, if_pos rfl] at ok
          match ds, ok with
          | [a, b], o =>
            have o := (Bool.and_eq_true _ _ ▸ o : a.btw 0 9 = true ∧ stepsOk ks nm n b = true)
            exact ⟨_, _, rfl, fun d hd => by rw [List.mem_singleton] at hd; rw [hd]; exact o.2, by show 1 ≤ 2; decide⟩
      obtain ⟨d1, es, rfl, he, le⟩ := e3
      cases hds with
      | @cons y ys _ _ h1 hds =>
        refine ⟨_, rfl, 2, rfl, a, _, rfl, SqT.of ha, cut2_not _ _ _, fun t ht => ?_⟩
        rw [cut2]
        refine ⟨t, rfl, ⟨ys, SqT.of upd_same⟩, fun l hl => ?_⟩
        have ts : ∀ H', Same (upd H t (.tup ys)) H' → SqT K H' t ys := fun H' s1 => SqT.of (s1 _ _ upd_same)
        refine lcD (f := fun d => .int (cnt n d : Nat)) (walk_tup (K := K) (a := t)) ts hl (hds.same (same_new ht)) (by rw [hds.len]; omega) (fun _ => rfl) (fun x d H' s1 hd' md F k => ?_) fun H' s1 d1 => ?_
        · exact ⟨_, rfl, ks, nm, x, d, rfl, hd', he d md, k⟩
        · refine ⟨l, (es.map (cnt n)).map fun n : Nat => (n : Int), rfl, ?_, ?_⟩
          · rw [List.map_map, List.map_map]; exact SqL.of d1
          · rw [sum_nat]
            refine eC _ ?_ H' ((same_new ht).trans s1)
            exact (if_neg (by rw [e2]; decide))
  | _ => cases ok
theorem ok_u_citems (n k : Nat) (G : Bl mg) (DA : DefAt K mg "_count_items" s_u_citems) (cCn : Callee P w K mg base k "_count_inner" ["item"] (spCn n)) : Callee P w K mg base (k + 1) "_count_items" ["steps"] (spCi (n + 1)) := by
  refine callee DA sc_u_citems (fun vs H Q E h => by obtain ⟨ks, nm, v, d, rfl, _⟩ := h; rfl) (fun _ _ _ _ _ _ us hl => match us, hl with | [_], _ => rfl) fun f cdv A outer s H vs Q E hr h => ?_
  obtain ⟨ks, nm, v, d, rfl, hd, ok, q⟩ := h
  cases hd with
  | @lst a xs ds ha hds =>
    have ok : (decide (ds.length ≤ 6) && ds.all (itemOk ks nm (stepsOk ks nm n))) = true := ok
    obtain ⟨o1, o2⟩ := (Bool.and_eq_true _ _ ▸ ok : decide (ds.length ≤ 6) = true ∧ ds.all (itemOk ks nm (stepsOk ks nm n)) = true)
    have o1 := of_decide_eq_true o1
    refine ⟨_, (pss_one (ps_ret (pe_callB (cr_sum rfl) (by rfl) G.b_sum (by decide +kernel) (pa_cons (pe_lc (own := [("item", 1)]) (g := gName 1) rfl sc_u_citems.nd (pi_list (pv 0)) (blkOk_by (N := ["steps", "item"]) (sc := defScope s_u_citems) (by decide +kernel)) (fun _ _ _ _ _ => (pg_name (i := 1) sc_u_citems.nd rfl (Or.inl rfl))) (fun _ _ _ _ _ => pts_nil) (fun _ _ _ _ _ => (pe_op op_add pe_int (pe_cal cCn hr (by omega) (pa_cons (pv 1) pa_nil))))) pa_nil)))), ?_⟩
    refine ⟨_, rfl, a, rfl, ⟨xs, SqL.of ha⟩, fun l hl => ?_⟩
    refine lcD (f := fun d => .int (1 + cntItem (cnt n) d : Nat)) (walk_list (K := K) (a := a)) (fun H' s1 => SqL.of (s1 _ _ ha)) hl hds (by rw [hds.len]; omega) (fun _ => rfl) (fun x d H' s1 hd' md F k => ?_) fun H' s1 d1 => ?_
    · refine ⟨x, rfl, ks, nm, x, d, rfl, hd', List.all_eq_true.mp o2 d md, fun H'' s2 => ⟨1, _, rfl, rfl, ?_⟩⟩
      have z := k H'' s2
      rw [show ((1 + cntItem (cnt n) d : Nat) : Int) = 1 + (cntItem (cnt n) d : Nat) by omega] at z; exact z
    · refine ⟨l, (ds.map fun d => 1 + cntItem (cnt n) d).map fun n : Nat => (n : Int), rfl, ?_, ?_⟩
      · rw [List.map_map, List.map_map]; exact SqL.of d1
      · rw [sum_nat]
        exact q H' s1
  | @tup a xs ds ha hds =>
    have ok : (decide (ds.length ≤ 6) && ds.all (itemOk ks nm (stepsOk ks nm n))) = true := ok
    obtain ⟨o1, o2⟩ := (Bool.and_eq_true _ _ ▸ ok : decide (ds.length ≤ 6) = true ∧ ds.all (itemOk ks nm (stepsOk ks nm n)) = true)
    have o1 := of_decide_eq_true o1
    refine ⟨_, (pss_one (ps_ret (pe_callB (cr_sum rfl) (by rfl) G.b_sum (by decide +kernel) (pa_cons (pe_lc (own := [("item", 1)]) (g := gName 1) rfl sc_u_citems.nd (pi_tup (pv 0)) (blkOk_by (N := ["steps", "item"]) (sc := defScope s_u_citems) (by decide +kernel)) (fun _ _ _ _ _ => (pg_name (i := 1) sc_u_citems.nd rfl (Or.inl rfl))) (fun _ _ _ _ _ => pts_nil) (fun _ _ _ _ _ => (pe_op op_add pe_int (pe_cal cCn hr (by omega) (pa_cons (pv 1) pa_nil))))) pa_nil)))), ?_⟩
    refine ⟨_, rfl, a, rfl, ⟨xs, SqT.of ha⟩, fun l hl => ?_⟩
    refine lcD (f := fun d => .int (1 + cntItem (cnt n) d : Nat)) (walk_tup (K := K) (a := a)) (fun H' s1 => SqT.of (s1 _ _ ha)) hl hds (by rw [hds.len]; omega) (fun _ => rfl) (fun x d H' s1 hd' md F k => ?_) fun H' s1 d1 => ?_
    · refine ⟨x, rfl, ks, nm, x, d, rfl, hd', List.all_eq_true.mp o2 d md, fun H'' s2 => ⟨1, _, rfl, rfl, ?_⟩⟩
      have z := k H'' s2
      rw [show ((1 + cntItem (cnt n) d : Nat) : Int) = 1 + (cntItem (cnt n) d : Nat) by omega] at z; exact z
    · refine ⟨l, (ds.map fun d => 1 + cntItem (cnt n) d).map fun n : Nat => (n : Int), rfl, ?_, ?_⟩
      · rw [List.map_map, List.map_map]; exact SqL.of d1
      · rw [sum_nat]
        exact q H' s1
  | _ => cases ok
theorem ok_u_citems0 (k : Nat) (DA : DefAt K mg "_count_items" s_u_citems) : Callee P w K mg base (k + 1) "_count_items" ["steps"] (spCi 0) := by
  refine callee DA sc_u_citems (fun vs H Q E h => by obtain ⟨ks, nm, v, d, rfl, _⟩ := h; rfl) (fun _ _ _ _ _ _ us hl => match us, hl with | [_], _ => rfl) fun f cdv A outer s H vs Q E hr h => ?_
  obtain ⟨ks, nm, v, d, rfl, hd, ok, q⟩ := h
  cases ok
def stepsYes (ks : List Kind) (nm : List Str) (d : D) : Bool := stepsOk ks nm 3 d && decide (cnt 3 d ≤ 24)
abbrev s_is_steps : Stmt := top 21
theorem sc_is_steps : FnScope ["ports", "numbers", "value"] ["ports", "numbers", "value"] (defScope s_is_steps) := ⟨rfl, rfl, rfl, by decide +kernel, rfl, by decide +kernel, by decide +kernel⟩
def spIs (C : Addr) : Sp := fun vs H Q _ => ∃ (p : Addr) (ks : List Kind) (u : V) (nm : List Str) (v : V) (d : D), vs = [.ref p, u, v] ∧ PortsAt C H p ks ∧ NamesAt H u nm ∧ Dd H v d ∧ ∀ H', Same H H' → Q (.bl (stepsYes ks nm d)) H'
theorem ok_is_steps (k : Nat) (hk : 10 ≤ k) (G3 : NumT mg "DEEPEST_STEPS" 3) (G24 : NumT mg "MOST_ITEMS" 24) (DA : DefAt K mg "is_steps" s_is_steps) (cUs : Callee P w K mg base k "_are_steps" ["ports", "numbers", "value", "deepest"] (spUs C 3)) (cCi : Callee P w K mg base 10 "_count_items" ["steps"] (spCi 3)) : Callee P w K mg base (k + 1) "is_steps" ["ports", "numbers", "value"] (spIs C) := by
  refine callee DA sc_is_steps (fun vs H Q E h => by obtain ⟨p, ks, u, nm, v, d, rfl, _⟩ := h; rfl) (fun _ _ _ _ _ _ us hl => match us, hl with | [_, _, _], _ => rfl) fun f cdv A outer s H vs Q E hr h => ?_
  obtain ⟨p, ks, u, nm, v, d, rfl, hP, hN, hd, q⟩ := h
  obtain ⟨t3, g3⟩ := G3
  obtain ⟨t24, g24⟩ := G24
  refine ⟨_, (pss_one (ps_ret (pe_and (pe_cal cUs hr (by omega) (pa_cons (pv 0) (pa_cons (pv 1) (pa_cons (pv 2) (pa_cons (pe_glob (v := .int 3) (by rfl) g3 ⟨_, rfl⟩) pa_nil))))) (pe_one (pe_cmpR op_le (pe_cal cCi hr (by omega) (pa_cons (pv 2) pa_nil)) (pe_glob (v := .int 24) (by rfl) g24 ⟨_, rfl⟩) (nomark _)))))), ?_⟩
  have yes : ∀ b, stepsYes ks nm d = b → ∀ H', Same H H' → Q (.bl b) H' := fun b e H' s1 => by have z := q H' s1; rw [e] at z; exact z
  refine ⟨_, rfl, _, rfl, v, rfl, p, ks, u, nm, v, d, rfl, hP, hN, hd, fun H1 s1 => ⟨_, rfl, itb (fun e1 => ?_) fun e1 => ?_⟩⟩
  · refine ⟨v, rfl, ks, nm, v, d, rfl, hd.same s1, e1, fun H2 s2 => ⟨_, _, rfl, rfl, ?_⟩⟩
    refine yes _ ?_ H2 (s1.trans s2)
    show (_ && _) = _
    rw [e1, Bool.true_and]
    by_cases h : cnt 3 d ≤ 24
    · rw [decide_eq_true h, decide_eq_true (by omega)]
    · rw [decide_eq_false h, decide_eq_false (by omega)]
  · refine yes _ ?_ H1 s1
    show (_ && _) = _
    rw [e1, Bool.false_and]
end
end NH
set_option maxHeartbeats 4000000
namespace NH
open PySem PySem.Spec PyProof.Rows L2
/-- a def's promise for calls under which no repr is under way -/
structure FnG (P : Program) (w : World) (K : PySem.W.Frag) (mg : Str → Option Value) (base : Heap) (k : Nat) (f : Addr) (fd : FuncData) (ps : List Str) (sp : Sp) : Prop where
  long : ∀ vs H Q E, sp vs H Q E → vs.length = ps.length
  goes : ∀ (A : Around) (ou : List Env) (s : Shared) (H : Hp) (ar : Args) (us : List Value) (vs : List V) (Q : VK) (E : XK), A.guards = some [] → Room k A → Env0 P w K mg base A ou s H →
    BindsTo s fd ar (ps.zip us) → Vals vs us → sp vs H Q E → codeAny (model P w) A (.call (.ref f) ar) (CR CX0 ou P w H s Q E) s
section
variable {P : Program} {w : World} {K : PySem.W.Frag} {mg : Str → Option Value} {base : Heap} {k : Nat} {f : Addr} {fd : FuncData} {sp : Sp}
theorem FnG.make {x : Str} {st : Stmt} {N ps : List Str} (F : FunD K x x (defArgs st) (defBody st) (defScope st) [] [] f fd) (S : FnScope N ps (defScope st)) (long : ∀ vs H Q E, sp vs H Q E → vs.length = ps.length)
    (does : ∀ (cd : Value) (A : Around) (ou : List Env) (s : Shared) (H : Hp) (vs : List V) (Q : VK) (E : XK), A.guards = some [] → Room k (A.deeper (envOfC x (defScope st) s.heap.objs.size f cd)) → sp vs H Q E →
      ∃ t, PSs (cxOf CX0 P w K mg base N x (defScope st) f cd A ou s H E) (defBody st) t ∧ t { nx := fun _ H' => Q .non H', rt := Q } (start N vs) H) : FnG P w K mg base (k + 1) f fd ps sp := by
  obtain ⟨_, _, _, _, _, _, _, cd, _, _, rfl, here, code, _⟩ := F.ex
  refine ⟨long, fun A ou s H ar us vs Q E hg hr e0 bnd rel want => ?_⟩
  have stays : ∀ (b : Addr) (o : Obj), base.get? b = some o → s.heap.get? b = some o := fun b o e => (e0.bs b o e).1
  have KH : K.In s.heap := e0.mod.kin.keeps stays
  have kinds : ∀ y ∈ ps.zip us, (defScope st).names.lookup y.1 = some .local ∨ ((defScope st).names.lookup y.1 = some .cell ∧ ((cellsFrom (s.heap.objs.size + 1) (defScope st).names []).lookup y.1).isSome = true) := by
    rintro ⟨n, v⟩ hy
    exact (S.par n (List.of_mem_zip hy).1).imp id fun q => ⟨q, PySem.W.cellsFrom_some _ _ _ (.inl q)⟩
  refine codeAny_call_function hr.depth (KH _ _ here) rfl S.co S.gen rfl (PySem.W.codeRec_of KH code) (bnd _ _ _ _ (wpAny_newFunctionEnv_cells S.kind kinds ?_))
  rintro env rfl s1 made
  refine ⟨(e0.mod.nolimit.keeps stays).keeps made.toInCall.keep, codeAny_func ?_⟩
  obtain ⟨t, runs, holds⟩ := does cd A ou s H vs Q E hg (hr.deeper _) want
  refine wpAny_mono (runs.run [] s1 (start N vs) H _ (inv_start S hr.hd e0 (long _ _ _ _ want) rel made) holds) (fun fl s' z => ?_) fun _ _ z => z
  cases fl with
  | brk => rcases z with ⟨_, _, _, z⟩; exact z.elim
  | cont => rcases z with ⟨_, _, _, z⟩; exact z.elim
  | ret u => obtain ⟨v, σ', H', J, rv, q⟩ := z; exact ⟨v, H', J.os, J.bare, J.base, J.hok, rv, q⟩
  | next => obtain ⟨σ', H', J, q⟩ := z; exact ⟨V.non, H', J.os, J.bare, J.base, J.hok, rfl, q⟩
end
theorem no_guard {A : Around} {env : Env} (h : A.guards = some []) : (A.deeper env).guards = some [] := h
/-- a def that keeps a promise where no repr is under way -/
structure CalleeG (P : Program) (w : World) (K : PySem.W.Frag) (mg : Str → Option Value) (base : Heap) (k : Nat) (x : Str) (ps : List Str) (sp : Sp) : Prop where
  ex : ∃ f fd, mg x = some (.ref f) ∧ PySem.W.keepIn K (.ref f) = true ∧ Binds K fd ps [] ∧ FnG P w K mg base k f fd ps sp
section
variable {P : Program} {w : World} {K : PySem.W.Frag} {mg : Str → Option Value} {base : Heap} {X : Cx}
theorem calleeG {x : Str} {st : Stmt} {N ps : List Str} {k : Nat} {sp : Sp} (D : DefAt K mg x st) (S : FnScope N ps (defScope st)) (len : ∀ vs H Q E, sp vs H Q E → vs.length = ps.length)
    (hb : ∀ (kV doc pm : Value) (an : Option Addr) (cdv ct : Value) (us : List Value), us.length = ps.length → bindArgs (PySem.W.fnOf x x (defArgs st) (defBody st) (defScope st) .none kV doc pm an cdv ct) ⟨us, []⟩ = pure (ps.zip us))
    (does : ∀ (f : Addr) (cdv : Value) (A : Around) (outer : List Env) (s : Shared) (H : Hp) (vs : List V) (Q : VK) (E : XK), A.guards = some [] → Room k (A.deeper (envOfC x (defScope st) s.heap.objs.size f cdv)) → sp vs H Q E →
      ∃ t, PSs (cxOf CX0 P w K mg base N x (defScope st) f cdv A outer s H E).nox (defBody st) t ∧ t { nx := fun _ H' => Q .non H', rt := Q } (start N vs) H) : CalleeG P w K mg base (k + 1) x ps sp := by
  obtain ⟨fd, F⟩ := D.f
  exact ⟨_, fd, D.g, F.kp, F.bindsN hb, FnG.make F S len fun cdv A outer s H vs Q E hg hr h => let ⟨t, h1, h2⟩ := does _ cdv A outer s H vs Q E hg hr h; ⟨t, h1.nox, h2⟩⟩
theorem pe_calG {k j : Nat} {x : Str} {ps : List Str} {sp : Sp} {e : Expr} {es : List Expr} {p pos : Pos} {t : TA} (c : CalleeG X.prog X.w X.K X.mg X.base k x ps sp) (hgu : X.A.guards = some []) (hr : Room j X.A) (hj : k ≤ j) (ha : PA X (e :: es) t) (hg : Gl X x := by rfl)
    (hdb : (x == ("__debug__" : Str)) = false := by decide) (he : starEach (e :: es) X.env = (false, eval e X.env) :: starEach es X.env := by rfl) (hpl : (backTo pos (starEach es X.env)).any (·.1) = false := by rfl) :
    PE X (.Call (.Name x p) (e :: es) [] pos) (tCall sp [] E0 t) := by
  obtain ⟨f, fd, hm, hk, hb, F⟩ := c.ex
  refine ⟨fun pins s σ H Q I h => wpAny_Call_Name_kw (ld_glob I hg hm ?_ hdb)⟩
  refine PySem.W.callWith_K (h₀ := X.base) I.ok.mod.kin hk (thn (ha.run pos pins s σ H _ I h) fun us s1 ⟨vs, H1, J, rel, want⟩ => ⟨J.kIn, ?_⟩) he hpl
  have want : sp (vs ++ []) H1 Q E0 := want
  rw [List.append_nil] at want
  have bnd := hb s1 us J.kIn (by rw [List.append_nil, ← rel.length]; exact F.long _ _ _ _ want)
  rw [List.append_nil] at bnd
  refine wpAny_call (codeAny_mono (F.goes X.A X.stack s1 H1 ⟨us, []⟩ us vs Q E0 hgu (hr.mono hj) J.env0 bnd rel want) fun r s' z => ?_)
  match r, z with
  | .ok (.ret _), z => exact J.after z
end
/-- the law's run, where its def is known by FnG; the base holds what stood there -/
theorem lawG {P : Program} {w : World} {K : PySem.W.Frag} {mg mb : Str → Option Value} {k : Nat} {fa a : Addr} {fd : FuncData} {x : Str} {sp : Sp} {s1 : Shared} {vs : List Value} {ns : List Int}
    (kin : K.In s1.heap) (glo : s1.heap.Ns mainGlobals mg) (bl : s1.heap.Ns builtinsNs mb) (boot : ∀ y : Str, y ≠ "__name__" → mb y = bootBuiltins y) (free : s1.heap.NoLimit) (calm : s1.gens = #[])
    (obj : s1.heap.get? a = some { cls := .type "list", data := .seq vs.toArray }) (nums : IntsAre vs ns) (most : ns.length ≤ sizeLine) (hr : Room k callerA)
    (F : ∀ base : Heap, K.In base → base.Ns mainGlobals mg → FnG P w K mg base k fa fd [x] sp) (bnd : ∀ (s : Shared) (u : Value), BindsTo s fd ⟨[u], []⟩ [(x, u)])
    (says : ∀ H : Hp, Only H → SqL K H a (ns.map V.int) → sp [.ref a] H (fun v _ => v = .bl true) fun _ _ _ => False) :
    codeAny (model P w) callerA (.call (.ref fa) ⟨[.ref a], []⟩) (fun r s' => r = .ok (.ret (.bool true)) ∧ OldK s1.heap s'.heap ∧ s'.os = s1.os ∧ AllBare s'.gens) s1 := by
  have rel := vals_ints nums
  have many := nums.length
  have go : ∀ H : Hp, Only H → SqL K H a (ns.map V.int) → HOk P w H s1.heap → (∀ b, H b ≠ none → b = a) → (H a ≠ none → K.lookup a = none) →
      codeAny (model P w) callerA (.call (.ref fa) ⟨[.ref a], []⟩) (fun r s' => r = .ok (.ret (.bool true)) ∧ OldK s1.heap s'.heap ∧ s'.os = s1.os ∧ AllBare s'.gens) s1 := by
    intro H one sq ok lone apart
    have off : ∀ {b : Addr} {o : Obj}, s1.heap.get? b = some o → (b = a → False) → (hidT s1.heap H).get? b = some o := fun {b o} e n => hidT_get e (Classical.byContradiction fun z => n (lone b z))
    have offNs : ∀ {b : Addr} {m : Str → Option Value}, s1.heap.Ns b m → (hidT s1.heap H).Ns b m := by
      rintro b m ⟨o, es, ep, e, d, r⟩
      refine ⟨o, es, ep, off e fun z => ?_, d, r⟩
      rw [z, obj] at e
      cases e
      cases d
    have kb : K.In (hidT s1.heap H) := fun b o e => by
      by_cases z : H b = none
      · exact hidT_get (kin b o e) z
      · have y := lone b z
        rw [y, apart (by rw [← y]; exact z)] at e
        cases e
    have e0 : Env0 P w K mg (hidT s1.heap H) callerA [] s1 H :=
      { frames := rfl, mod := ⟨kb, offNs glo, ⟨mb, offNs bl, boot⟩, free.elim fun mc z => ⟨mc, offNs z.1, z.2⟩⟩, bs := fun b o e => of_hidT e, bsz := by rw [hidT_size]; exact Nat.le_refl _
        funs := trivial, frf := (fun b hb => nomatch (show b ∈ ([] : List Addr) from hb)), hok := ok, bare := .of_eq calm }
    refine codeAny_mono ((F _ kb (offNs glo)).goes callerA [] s1 H ⟨[.ref a], []⟩ [.ref a] [.ref a] _ _ rfl hr e0 (bnd s1 (.ref a)) (.cons rfl .nil) (says H one sq)) fun r s' z => ?_
    match r, z with
    | .ok (.ret u), ⟨v, H', os, bare, un, ok', rv, ev⟩ =>
      have ev : v = .bl true := ev
      subst ev
      obtain rfl : u = Value.bool true := rv
      refine ⟨rfl, OldK.of_keep fun b o e => ?_, os, bare⟩
      rcases one b with z | ⟨ob, xs, z⟩
      · exact un.keep b o e z (by intro y; cases y) (by intro y; cases y)
      · have l1 := (show ObjOk P w H s1.heap b (.frz ob (.lst xs)) from ok b _ z).1
        have l2 := (show ObjOk P w H' s'.heap b (.frz ob (.lst xs)) from ok' b _ (un.frzs b ob _ z)).1
        rw [e] at l1
        cases l1
        exact l2
  cases hk : K.lookup a with
  | some o =>
    have e := kin a o hk
    rw [obj] at e
    cases e
    exact go (fun _ => none) (fun _ => .inl rfl) (.inr ⟨_, vs.toArray, _, hk, rfl, rfl, rfl, by rw [List.size_toArray, many]; exact most, by simpa using rel⟩) (fun _ _ z => nomatch z) (fun _ z => (z rfl).elim) fun z => (z rfl).elim
  | none =>
    have at_ : ∀ b, (if b = a then some (HO.frz { cls := .type "list", data := .seq vs.toArray } (.lst (ns.map V.int))) else none) ≠ none → b = a := fun b z => Classical.byContradiction fun y => z (if_neg y)
    refine go (fun b => if b = a then some (.frz { cls := .type "list", data := .seq vs.toArray } (.lst (ns.map V.int))) else none) (fun b => ?_) (.inl (.inr ⟨{ cls := .type "list", data := .seq vs.toArray }, if_pos rfl⟩)) (fun b u z => ?_) at_ fun _ => hk
    · by_cases y : b = a
      · exact .inr ⟨_, _, if_pos y⟩
      · exact .inl (if_neg y)
    · have y : b = a := at_ b fun t => nomatch (show (none : Option HO) = some u from t.symm.trans z)
      subst y
      have z := (if_pos rfl).symm.trans z
      cases z
      exact ⟨obj, by rw [List.length_map]; exact most, vs, _, rel, obj⟩
/-- the walk of a law, from FnG -/
theorem walkG {l : PySem.W.OpenLaw} {n k : Nat} {q : Program} {loose : List Str} {XP : (Str → Option Value) → Heap → Prop} {YP : World → Heap → Prop} {d : DefRec} {x : Str}
    (hn : l.most = some n) (hn2 : n ≤ sizeLine) (hdf : d.params.defaults = []) (hr : Room k callerA)
    (F : ∀ (w : World) (mg : Str → Option Value) (fa : Addr) (h : Heap), YP w h → h.Ns mainGlobals mg → mg d.name = some (.ref fa) →
      ∃ (K : PySem.W.Frag) (fd : FuncData) (sp : Sp), K.In h ∧ (∀ (s : Shared) (u : Value), BindsTo s fd ⟨[u], []⟩ [(x, u)]) ∧
        (∀ (H : Hp) (a : Addr) (ns : List Int), ns.length ≤ n → Only H → SqL K H a (ns.map V.int) → sp [.ref a] H (fun v _ => v = .bl true) fun _ _ _ => False) ∧
        ∀ base : Heap, K.In base → base.Ns mainGlobals mg → FnG l.prog w K mg base k fa fd [x] sp) : PySem.W.WalkO q loose XP YP l.row.toRowW d [] (fun f vs => PySem.call f vs) := by
  refine Att.attach_call hn hdf fun w s0 s1 mg mb fa o pm cd doc a vs ns G Y ho hd hcd name obj nums most calm => ?_
  obtain ⟨K, fd, sp, kin, bnd, says, does⟩ := F w mg fa _ Y G.T.g name
  exact lawG kin G.T.g G.T.b G.T.builtins G.T.nolimit calm obj nums (Nat.le_trans most hn2) hr does bnd fun H one sq => says H a ns most one sq
end NH
set_option maxHeartbeats 4000000
namespace NH
open PySem PySem.Spec PyProof.Rows L2 TL
/-! ### the repr of data -/
mutual
def D.py : D → PyData
  | .non => .none
  | .bl b => .bool b
  | .int i => .int i
  | .str x => .str x
  | .lst ds => .list (D.pys ds)
  | .tup ds => .tuple (D.pys ds)
  | .dic => .dict []
def D.pys : List D → List PyData
  | [] => []
  | d :: ds => d.py :: D.pys ds
end
mutual
/-- how much of it there is -/
def D.sz : D → Nat
  | .str x => 1 + x.length
  | .lst ds => 1 + D.szs ds
  | .tup ds => 1 + D.szs ds
  | _ => 1
def D.szs : List D → Nat
  | [] => 0
  | d :: ds => d.sz + D.szs ds
end
mutual
def D.dep : D → Nat
  | .lst ds => D.deps ds + 1
  | .tup ds => D.deps ds + 1
  | .dic => 1
  | _ => 0
def D.deps : List D → Nat
  | [] => 0
  | d :: ds => max d.dep (D.deps ds)
end
mutual
/-- small numbers, plain signs -/
def D.fit : D → Prop
  | .int i => i.natAbs ≤ 1000
  | .str x => ∀ c ∈ x.cps.toList, c < 128
  | .lst ds => D.fits ds
  | .tup ds => D.fits ds
  | _ => True
def D.fits : List D → Prop
  | [] => True
  | d :: ds => d.fit ∧ D.fits ds
end
theorem lst_len : ∀ ts : List Str, (listText ts).length ≤ 2 + piled ts
  | [] => by rw [listText_nil]; decide
  | t :: r => by
    have e : listText (t :: r) = textFrom 1 (("[" : Str) ++ ("" : Str) ++ t) r ++ "]" := rfl
    rw [e, strLen_append, textFrom_length_pos r 1 _ (by decide), strLen_append, strLen_append, piled_cons]
    have e1 : ("[" : Str).length = 1 := rfl
    have e2 : ("]" : Str).length = 1 := rfl
    have e3 : ("" : Str).length = 0 := rfl
    omega
theorem tup_len (ts : List Str) : (tupleText ts).length ≤ 3 + piled ts := by
  unfold tupleText
  rw [strLen_append, strLen_append]
  have e1 : (("(" : String) : Str).length = 1 := rfl
  have e3 : (((if ts.length == 1 then ",)" else ")" : String) : Str)).length ≤ 2 := by split <;> decide
  rw [e1]
  by_cases h : ts = []
  · subst h; exact Nat.le_trans (Nat.add_le_add_left e3 _) (by decide)
  · have := join_length_add ts h
    omega
theorem int_len : ∀ n : Nat, n ≤ 1000 → ((toString (n : Int) : String) : Str).length ≤ 5 ∧ ((toString (-(n : Int)) : String) : Str).length ≤ 5 := by decide +kernel
mutual
theorem D.shown_len : ∀ d : D, d.fit → d.py.shown.length + 2 ≤ 12 * d.sz
  | .non, _ => by decide
  | .bl b, _ => by cases b <;> decide
  | .int i, h => by
    have z := int_len i.natAbs h
    have e : ((toString i : String) : Str).length ≤ 5 := by
      rcases Int.natAbs_eq i with y | y
      · rw [y]; exact z.1
      · rw [y]; exact z.2
    show ((toString i : String) : Str).length + 2 ≤ 12 * 1
    omega
  | .str x, h => by
    have z := StrLaws.reprText_len x fun c hc => Nat.lt_trans (h c hc) (by decide)
    show (reprText x).length + 2 ≤ 12 * (1 + x.length)
    omega
  | .lst ds, h => by
    have z := D.shown_lens ds h
    have y := lst_len (PyData.shownAll (D.pys ds))
    show (listText (PyData.shownAll (D.pys ds))).length + 2 ≤ 12 * (1 + D.szs ds)
    omega
  | .tup ds, h => by
    have z := D.shown_lens ds h
    have y := tup_len (PyData.shownAll (D.pys ds))
    show (tupleText (PyData.shownAll (D.pys ds))).length + 2 ≤ 12 * (1 + D.szs ds)
    omega
  | .dic, _ => by decide
theorem D.shown_lens : ∀ ds : List D, D.fits ds → piled (PyData.shownAll (D.pys ds)) ≤ 12 * D.szs ds
  | [], _ => Nat.zero_le _
  | d :: ds, h => by
    have a := D.shown_len d h.1
    have b := D.shown_lens ds h.2
    show piled (d.py.shown :: PyData.shownAll (D.pys ds)) ≤ 12 * (d.sz + D.szs ds)
    rw [piled_cons]
    omega
end
mutual
theorem D.showable : ∀ d : D, d.fit → d.py.showable = true
  | .non, _ => rfl
  | .bl b, _ => rfl
  | .int i, h => decide_eq_true (Nat.lt_of_le_of_lt (Nat.log2_le_self _) (Nat.lt_of_le_of_lt h (by decide)))
  | .str x, _ => rfl
  | .lst ds, h => D.showables ds h
  | .tup ds, h => D.showables ds h
  | .dic, _ => rfl
theorem D.showables : ∀ ds : List D, D.fits ds → PyData.showableAll (D.pys ds) = true
  | [], _ => rfl
  | d :: ds, h => by
    show (d.py.showable && PyData.showableAll (D.pys ds)) = true
    rw [D.showable d h.1, D.showables ds h.2]; rfl
end
mutual
theorem D.dep_py : ∀ d : D, d.py.depth = d.dep
  | .non | .bl _ | .int _ | .str _ => rfl
  | .lst ds => congrArg (· + 1) (D.deps_py ds)
  | .tup ds => congrArg (· + 1) (D.deps_py ds)
  | .dic => rfl
theorem D.deps_py : ∀ ds : List D, PyData.depthAll (D.pys ds) = D.deps ds
  | [] => rfl
  | d :: ds => by
    show max d.py.depth (PyData.depthAll (D.pys ds)) = _
    rw [D.dep_py d, D.deps_py ds]; rfl
end
section
variable {X : Cx} {pins : List (Addr × Obj)} {σ : L2.St} {H : Hp} {s : Shared}
theorem dict_none (I : Inv X pins σ H s) {a : Addr} (e : H a = some (.dK [])) : ∃ n, s.heap.get? a = some (NEq.dO #[] n) := by
  obtain ⟨_, _, vs, kv, o, es, ep, h1, h2, h3, _, h4, _⟩ := (show ObjOk X.prog X.w H s.heap a (.dK []) from I.hok a _ e)
  cases kv
  obtain ⟨oc, od, dt, sl⟩ := o
  obtain ⟨c1, c2, c3⟩ := h2
  dsimp only at c1 c2 c3 h3
  subst c1 c2 c3 h3
  have e2 : es = #[] := Array.toList_inj.mp (by generalize es.toList = l at h4; cases h4; rfl)
  subst e2
  exact ⟨ep, h1⟩
mutual
theorem Dd.reads (I : Inv X pins σ H s) : ∀ {v : V} {d : D} {u : Value}, Dd H v d → RelV v u → ∃ as, Reads s.heap u d.py as ∧ ∀ a ∈ as, ∃ o, H a = some o
  | _, _, _, .non, r => by cases r; exact ⟨_, Reads.none, by simp⟩
  | _, _, _, .bl b, r => by cases r; exact ⟨_, Reads.bool b, by simp⟩
  | _, _, _, .int i, r => by obtain ⟨t, rfl⟩ := r; exact ⟨_, Reads.int i t, by simp⟩
  | _, _, _, .str x, r => by obtain ⟨t, rfl⟩ := r; exact ⟨_, Reads.str x t, by simp⟩
  | _, _, _, .lst (a := a) e h, r => by
    cases r
    obtain ⟨its, rv, ⟨o, n, ho, hc, _, hd⟩, _⟩ := I.list (SqL.of e)
    obtain ⟨as, hr, ha⟩ := DdL.reads I h rv
    exact ⟨_, Reads.list ho hc hd hr, fun b hb => by
      rcases List.mem_cons.mp hb with rfl | hb
      · exact ⟨_, e⟩
      · exact ha b hb⟩
  | _, _, _, .tup e h, r => by
    cases r
    obtain ⟨its, rv, ⟨o, ho, hc, n, hd⟩, _⟩ := I.tuple (SqT.of e)
    obtain ⟨as, hr, ha⟩ := DdL.reads I h rv
    exact ⟨_, Reads.tuple ho hc hd hr, ha⟩
  | _, _, _, .dic (a := a) e, r => by
    cases r
    obtain ⟨n, ho⟩ := dict_none I e
    exact ⟨_, Reads.dict (as := []) (bs := []) ho rfl rfl .nil .nil, fun b hb => by
      have hb : b ∈ a :: ([] ++ []) := hb
      rcases List.mem_cons.mp hb with rfl | hb
      · exact ⟨_, e⟩
      · simp at hb⟩
theorem DdL.reads (I : Inv X pins σ H s) : ∀ {vs : List V} {ds : List D} {us : List Value}, DdL H vs ds → Vals vs us → ∃ as, ReadsAll s.heap us (D.pys ds) as ∧ ∀ a ∈ as, ∃ o, H a = some o
  | _, _, _, .nil, r => by cases r; exact ⟨_, .nil, by simp⟩
  | _, _, _, .cons h t, r => by
    cases r with
    | cons r1 r2 =>
      obtain ⟨as, q1, a1⟩ := Dd.reads I h r1
      obtain ⟨bs, q2, a2⟩ := DdL.reads I t r2
      exact ⟨_, .cons q1 q2, fun b hb => (List.mem_append.mp hb).elim (a1 b) (a2 b)⟩
end
/-- repr(x), x any datum, where no repr is under way -/
def rRepr : List V → Hp → VK → Prop := fun xs H Q => ∃ (v : V) (d : D), xs = [v] ∧ Dd H v d ∧ d.fit ∧ d.sz ≤ 1000000 ∧ d.dep ≤ 40 ∧ Q (.str d.py.shown) H
theorem call_repr (hg : X.A.guards = some []) (hu : X.A.units + 64 < cLine) (sm : ∃ o, X.base.get? sysModules = some o) : CallR X (.builtin "repr") rRepr := by
  intro pins s σ H xs us Q I r h
  obtain ⟨v, d, rfl, hd, fit, sz, dep, q⟩ := h
  obtain ⟨u, rfl, rv⟩ := vals1 r
  have short : d.py.shown.length ≤ sizeLine := Nat.le_trans (by have := D.shown_len d fit; omega : d.py.shown.length ≤ 12000000) (by decide)
  obtain ⟨as, rd, ours⟩ := Dd.reads I hd rv
  have fin : ∀ (h' : Heap) (w' tk : Tok), (∀ b o, s.heap.get? b = some o → h'.get? b = some o) → EP X pins σ Q (.str d.py.shown w') { s with heap := h', toks := tk } := fun h' w' tk hk => ⟨.str d.py.shown, H, I.kept hk, ⟨w', rfl⟩, q⟩
  have same : ∀ tk : Tok, EP X pins σ Q (.str d.py.shown s.toks) { s with toks := tk } := fun tk => fin s.heap _ tk fun _ _ e => e
  have far : sysModules ∉ as := fun z => by
    obtain ⟨o, e⟩ := ours _ z
    obtain ⟨b, y⟩ := sm
    rw [(I.bs _ b y).2] at e; cases e
  have room : X.A.units + (d.py.depth + 1) < cLine := by rw [D.dep_py]; omega
  cases hd with
  | non => cases rv; exact P.repr_of_none (same _)
  | bl b => cases rv; cases b <;> exact P.repr_of_bool (same _)
  | int i => obtain ⟨t, rfl⟩ := rv; exact P.repr_of_int (Nat.lt_of_le_of_lt (Nat.log2_le_self _) (Nat.lt_of_le_of_lt fit (by decide))) (same _)
  | str x => obtain ⟨t, rfl⟩ := rv; exact P.repr_of_str (same _) short
  | lst e _ => cases rv; exact repr_of_reads' rd (D.showable _ fit) (fun _ => far) hg room (fun _ _ e => e) fin short
  | tup e _ => cases rv; exact repr_of_reads' rd (D.showable _ fit) (fun _ => far) hg room (fun _ _ e => e) fin short
  | dic e => cases rv; exact repr_of_reads' rd (D.showable _ fit) (fun _ => far) hg room (fun _ _ e => e) fin short
end
end NH
set_option maxHeartbeats 4000000
namespace NH
open PySem PySem.Spec PyProof.Rows L2 TL
/-- a plain short text -/
def Pl (k : Nat) (x : Str) : Prop := (∀ c ∈ tl x, c < 128) ∧ (tl x).length ≤ k
theorem Pl.mono {k j : Nat} {x : Str} (h : Pl k x) (l : k ≤ j) : Pl j x := ⟨h.1, Nat.le_trans h.2 l⟩
theorem Pl.app {k j : Nat} {x y : Str} (h : Pl k x) (g : Pl j y) : Pl (k + j) (x ++ y) := by
  unfold Pl
  rw [tl_append]
  exact ⟨fun c hc => (List.mem_append.mp hc).elim (h.1 c) (g.1 c), by rw [List.length_append]; exact Nat.add_le_add h.2 g.2⟩
theorem Pl.cut {k : Nat} {x : Str} (h : Pl k x) (lo hi : Option Int) : Pl k (cutS x lo hi) := by
  have e : ∃ i j, tl (cutS x lo hi) = ((tl x).drop i).take j := ⟨_, _, rfl⟩
  obtain ⟨i, j, e⟩ := e
  unfold Pl
  rw [e]
  exact ⟨fun c hc => h.1 c (List.mem_of_mem_drop (List.mem_of_mem_take hc)), Nat.le_trans (List.length_take_le' ..) (Nat.le_trans (by rw [List.length_drop]; omega) h.2)⟩
theorem Pl.len {k : Nat} {x : Str} (h : Pl k x) : x.length ≤ k := h.2
theorem Ltr.pl {x : Str} (h : Ltr x) {k : Nat} (l : (tl x).length ≤ k) : Pl k x := ⟨fun c hc => Nat.lt_of_le_of_lt (h c hc).2 (by decide), l⟩
theorem pl_of (x : Str) (h : ((tl x).all fun c => decide (c < 128)) = true) : Pl (tl x).length x := ⟨fun c hc => of_decide_eq_true (List.all_eq_true.mp h c hc), Nat.le_refl _⟩
theorem nw {H H1 : Hp} {p : Addr} {o : HO} (e : upd H p o = H1) (hp : H p = none) : Same H H1 ∧ H1 p = some o := by subst e; exact ⟨same_new hp, upd_same⟩
theorem old {H H1 : Hp} {p : Addr} (s : Same H H1) (h : H1 p = none) : H p = none := by
  cases y : H p with
  | none => rfl
  | some o => rw [s _ _ y] at h; cases h
theorem tkf {b n : Nat} {H H1 : Hp} {o : HO} (e : upd H b o = H1) (i : IsBox n o) : Kp [b] H H1 ∧ Bx b n H1 ∧ ∀ a, a ≠ b → H1 a = H a := by subst e; exact ⟨Kp.atb (by simp), ⟨o, upd_same, i⟩, fun a h => upd_ne h⟩
theorem menu (l : List Nat) {d : Nat} (h : d < l.length) : ∃ m ∈ l, atI (l.map fun k : Nat => V.int (k : Int)) (d : Int) = some (.int (m : Int)) :=
  ⟨l[d], List.getElem_mem h, atI_nat (by rw [List.getElem?_map, List.getElem?_eq_getElem h]; rfl)⟩
theorem menuS (l : List Str) {d : Nat} (h : d < l.length) : ∃ m ∈ l, atI (l.map V.str) (d : Int) = some (.str m) :=
  ⟨l[d], List.getElem_mem h, atI_nat (by rw [List.getElem?_map, List.getElem?_eq_getElem h]; rfl)⟩
section
variable {P : Program} {w : World} {K : PySem.W.Frag} {mg : Str → Option Value} {base : Heap}
abbrev s_law_number : Stmt := top 43
theorem sc_law_number : FnScope ["box", "words", "name"] ["box"] (defScope s_law_number) := ⟨rfl, rfl, rfl, by decide +kernel, rfl, by decide +kernel, by decide +kernel⟩
def spNumber : Sp := fun vs H Q _ => ∃ (b n : Nat), vs = [.ref b] ∧ Bx b n H ∧ n ≤ 800000000 ∧ ∀ (x : Str) H', Pl 9 x → Kp [b] H H' → Bx b (n + 9) H' → Q (.str x) H'
def wordsA : List Str := ["port", "process", "number", "begin", "at", "refuse", "if", "else", "repeat", "times", "set", "to", "add"]
def wordsB : List Str := ["take", "by", "is", "above", "both", "either", "not", "due"]
theorem ok_law_number (G : Bl mg) (DA : DefAt K mg "_law_number" s_law_number) (cT : Callee P w K mg base 2 "_law_take" ["box", "many"] spTake) (cL : Callee P w K mg base 4 "_law_letters" ["box", "many"] spLetters) : Callee P w K mg base 5 "_law_number" ["box"] spNumber := by
  refine callee DA sc_law_number (fun vs H Q E h => by obtain ⟨b, n, rfl, _⟩ := h; rfl) (fun _ _ _ _ _ _ us hl => match us, hl with | [_], _ => rfl) fun f cdv A outer s H vs Q E hr h => ?_
  obtain ⟨b, n, rfl, hb, hn, q⟩ := h
  have hu := hu_of hr
  refine ⟨_, (pss_cons (ps_set (i := 1) sc_law_number.nd rfl (Or.inl rfl) (pe_lst (pa_cons pe_str (pa_cons pe_str (pa_cons pe_str (pa_cons pe_str (pa_cons pe_str (pa_cons pe_str (pa_cons pe_str (pa_cons pe_str (pa_cons pe_str (pa_cons pe_str (pa_cons pe_str (pa_cons pe_str (pa_cons pe_str pa_nil)))))))))))))))
    (pss_cons (ps_set (i := 1) sc_law_number.nd rfl (Or.inl rfl) (pe_op op_cat (pv 1) (pe_lst (pa_cons pe_str (pa_cons pe_str (pa_cons pe_str (pa_cons pe_str (pa_cons pe_str (pa_cons pe_str (pa_cons pe_str (pa_cons pe_str pa_nil)))))))))))
    (pss_cons (ps_set (i := 2) sc_law_number.nd rfl (Or.inl rfl) (pe_cal cL hr (by decide) (pa_cons (pv 0) (pa_cons (pe_ix ix_list (pe_lst (pa_cons pe_int (pa_cons pe_int (pa_cons pe_int (pa_cons pe_int (pa_cons pe_int (pa_cons pe_int pa_nil))))))) (pe_cal cT hr (by decide) (pa_cons (pv 0) (pa_cons pe_int pa_nil))) (fun _ _ => rfl)) pa_nil))))
    (pss_one (ps_ret (pe_ifExp (pt_cmpR (op_inT hu) (pv 2) (pv 1) rfl) (pe_op op_add_str (pv 2) pe_str) (pv 2))))))), ?_⟩
  refine ⟨by show 13 ≤ sizeLine; decide, fun p1 h1 => ⟨_, rfl, by show 8 ≤ sizeLine; decide, fun p2 h2 => ?_⟩⟩
  generalize e1 : upd H p1 _ = H1 at h2 ⊢
  obtain ⟨s1, d1⟩ := nw e1 h1
  generalize e2 : upd H1 p2 _ = H2
  obtain ⟨s2, d2⟩ := nw e2 h2
  refine ⟨p1, p2, wordsA.map V.str, wordsB.map V.str, rfl, rfl, s2 _ _ d1, d2, by show 21 ≤ sizeLine; decide, fun p3 h3 => ?_⟩
  generalize e3 : upd H2 p3 _ = H3
  obtain ⟨s3, d3⟩ := nw e3 h3
  refine ⟨_, rfl, by show 6 ≤ sizeLine; decide, fun p4 h4 => ⟨_, rfl, ?_⟩⟩
  generalize e4 : upd H3 p4 _ = H4
  obtain ⟨s4, d4⟩ := nw e4 h4
  have t2 := s1.trans s2
  have t3 := t2.trans s3
  have b4 := hb.same (t3.trans s4)
  have n3 : b ≠ p3 := hb.ne (old t2 h3)
  have n4 : b ≠ p4 := hb.ne (old t3 h4)
  obtain ⟨o0_, e0_, i0_⟩ := id b4
  refine ⟨_, 6, _, o0_, rfl, e0_, i0_, by omega, by first | decide | omega, by first | decide | omega, fun d o1_ hd i1_ => ?_⟩
  generalize eH_ : upd _ _ o1_ = H5
  obtain ⟨k5, b5, oth⟩ := tkf eH_ i1_
  clear eH_ i1_ i0_ e0_ o0_
  obtain ⟨m, mm, em⟩ := menu [1, 2, 8, 3, 1, 5] hd
  have m8 : m ≤ 8 := (by decide : ∀ m ∈ [1, 2, 8, 3, 1, 5], m ≤ 8) m mm
  refine ⟨p4, _, _, _, rfl, rfl, SqL.of ((oth p4 (Ne.symm n4)).trans d4), em, ?_⟩
  refine ⟨b, m, _, rfl, b5, by omega, by omega, fun l x H6 e6 l6 lt6 k6 b6 => ?_⟩
  have k7 : Kp [b] H H6 := ((Kp.of (t3.trans s4)).trans k5).trans k6
  have px : Pl 8 x := lt6.pl (by show x.cps.toList.length ≤ 8; rw [e6]; omega)
  have d6 : H6 p3 = some (.lst ((wordsA ++ wordsB).map V.str)) := k6 _ _ (by simpa using Ne.symm n3) ((oth p3 (Ne.symm n3)).trans (s4 _ _ d3))
  have z9 : n + 1 + m ≤ n + 9 := by omega
  have b7 : Bx b (n + 9) H6 := b6.mono z9
  refine ⟨_, rfl, _, rfl, .str x, p3, wordsA ++ wordsB, rfl, .inl (SqL.of d6), .str x, _, rfl, itb (fun e1 => ?_) fun e1 => ?_⟩
  · refine ⟨_, rfl, x, "x", rfl, rfl, ?_, ?_⟩
    · have z := px.len
      show x.length + 1 ≤ sizeLine
      exact Nat.le_of_lt (small1000 (by omega))
    · exact q _ H6 (px.app (pl_of "x" (by decide +kernel))) k7 b7
  · exact ⟨_, rfl, q _ H6 (px.mono (by decide)) k7 b7⟩
end
end NH
set_option maxHeartbeats 4000000
namespace NH
open PySem PySem.Spec PyProof.Rows L2 TL
section
variable {P : Program} {w : World} {K : PySem.W.Frag} {mg : Str → Option Value} {base : Heap}
abbrev s_law_numbers : Stmt := top 44
theorem sc_law_numbers : FnScope ["box", "many", "near", "first", "second"] ["box"] (defScope s_law_numbers) := ⟨rfl, rfl, rfl, by decide +kernel, rfl, by decide +kernel, by decide +kernel⟩
def spNumbers : Sp := fun vs H Q _ => ∃ (b n : Nat), vs = [.ref b] ∧ Bx b n H ∧ n ≤ 700000000 ∧ ∀ (p : Addr) (nm : List Str) H', nm.length ≤ 2 → (∀ x ∈ nm, Pl 10 x) → Kp [b] H H' → Bx b (n + 20) H' → p ≠ b → H p = none → H' p = some (.lst (nm.map .str)) → Q (.ref p) H'
theorem kj_at (k : Bool) : atI (Str.ofString "kj").cps.toList (if k then 1 else 0) = some (if k then 106 else 107) := by cases k <;> rfl
theorem kj_pl (k : Bool) : Pl 1 ⟨#[if k then 106 else 107]⟩ := by cases k <;> exact ⟨by decide, by decide⟩
theorem ok_law_numbers (G : Bl mg) (DA : DefAt K mg "_law_numbers" s_law_numbers) (cT : Callee P w K mg base 2 "_law_take" ["box", "many"] spTake) (cNum : Callee P w K mg base 5 "_law_number" ["box"] spNumber) : Callee P w K mg base 6 "_law_numbers" ["box"] spNumbers := by
  refine callee DA sc_law_numbers (fun vs H Q E h => by obtain ⟨b, n, rfl, _⟩ := h; rfl) (fun _ _ _ _ _ _ us hl => match us, hl with | [_], _ => rfl) fun f cdv A outer s H vs Q E hr h => ?_
  obtain ⟨b, n, rfl, hb, hn, q⟩ := h
  refine ⟨_, (pss_cons (ps_par3 (i := 1) (j := 2) (l := 3) (by rfl) sc_law_numbers.nd rfl rfl rfl (by decide) (by decide) (by decide) rfl rfl rfl (pa_cons (pe_cal cT hr (by decide) (pa_cons (pv 0) (pa_cons pe_int pa_nil))) (pa_cons (pe_cal cT hr (by decide) (pa_cons (pv 0) (pa_cons pe_int pa_nil))) (pa_cons (pe_cal cNum hr (by decide) (pa_cons (pv 0) pa_nil)) pa_nil))) (by rfl))
    (pss_cons (ps_set (i := 4) sc_law_numbers.nd rfl (Or.inl rfl) (pe_ifExp (pt_cmpR op_eq (pv 2) pe_int (nomark _)) (pe_op op_add_str (pe_slice sl_str (pv 3) po_none (po_some pe_int)) pe_str) (pe_cal cNum hr (by decide) (pa_cons (pv 0) pa_nil))))
    (pss_cons (ps_if (pt_cmpR op_eq (pv 4) (pv 3) (nomark _)) (pss_one (ps_set (i := 4) sc_law_numbers.nd rfl (Or.inl rfl) (pe_op op_add_str (pe_slice sl_str (pv 3) po_none (po_some (pe_un un_neg pe_int))) (pe_ix ix_str pe_str (pe_callTy call_int1 (by rfl) G.b_int (by decide +kernel) (pa_cons (pe_cmpR op_eq (pe_slice sl_str (pv 3) (po_some (pe_un un_neg pe_int)) po_none) pe_str (nomark _)) pa_nil)) (fun _ _ => rfl))))) pss_nil)
    (pss_one (ps_ret (pe_slice sl_list (pe_lst (pa_cons (pv 3) (pa_cons (pv 4) pa_nil))) po_none (po_some (pv 1)))))))), ?_⟩
  refine ⟨_, rfl, ?_⟩
  obtain ⟨o0_, e0_, i0_⟩ := id hb
  refine ⟨_, 3, _, o0_, rfl, e0_, i0_, by omega, by first | decide | omega, by first | decide | omega, fun many o1_ hm i1_ => ?_⟩
  generalize eH_ : upd _ _ o1_ = H1
  obtain ⟨k1, b1, oth1⟩ := tkf eH_ i1_
  clear eH_ i1_ i0_ e0_ o0_
  refine ⟨_, rfl, ?_⟩
  obtain ⟨o0_, e0_, i0_⟩ := id b1
  refine ⟨_, 2, _, o0_, rfl, e0_, i0_, by omega, by first | decide | omega, by first | decide | omega, fun near o1_ hn2 i1_ => ?_⟩
  generalize eH_ : upd _ _ o1_ = H2
  obtain ⟨k2, b2, oth2⟩ := tkf eH_ i1_
  clear eH_ i1_ i0_ e0_ o0_
  refine ⟨_, rfl, b, _, rfl, b2, by omega, fun x H3 px k3 b3 => ⟨_, _, _, rfl, ?_⟩⟩
  have k123 := (k1.trans k2).trans k3
  have z20 : n + 1 + 1 + 9 ≤ n + 20 := by omega
  -- the end, once the second text is known
  have fin : ∀ (y : Str) (H' : Hp), Pl 10 y → Kp [b] H H' → Bx b (n + 20) H' → ∀ p, H' p = none → ∀ q', (upd H' p (.lst [.str x, .str y])) q' = none → Q (.ref q') (upd (upd H' p (.lst [.str x, .str y])) q' (.lst (cutV [.str x, .str y] none (some (many : Int))))) := by
    intro y H' py k' b' p hp p2 hp2
    generalize e1 : upd H' p _ = H4 at hp2 ⊢
    obtain ⟨s4, d4⟩ := nw e1 hp
    generalize e2 : upd H4 p2 _ = H5
    obtain ⟨s5, d5⟩ := nw e2 hp2
    have nb : p2 ≠ b := fun z => (b'.same s4).ne hp2 z.symm
    have h0 : H p2 = none := by
      cases z : H p2 with
      | none => rfl
      | some o => rw [s4 _ _ (k' _ _ (by simpa using nb) z)] at hp2; cases hp2
    have hc : cutV [V.str x, V.str y] none (some (many : Int)) = ([x, y].take many).map V.str := by
      match many, hm with
      | 0, _ => rfl
      | 1, _ => rfl
      | 2, _ => rfl
    rw [hc] at d5
    refine q p2 ([x, y].take many) H5 (by rw [List.length_take]; exact Nat.min_le_right _ _) (fun z hz => ?_) ((k'.trans (Kp.of s4)).trans (Kp.of s5)) ((b'.same s4).same s5) nb h0 d5
    rcases List.mem_cons.mp (List.mem_of_mem_take hz) with rfl | hz
    · exact px.mono (by decide)
    · rw [List.mem_singleton.mp hz]; exact py
  have sz : ∀ {k : Nat} {z : Str}, Pl k z → k ≤ 900 → z.length + 1 ≤ sizeLine := fun h l => Nat.le_of_lt (small1000 (by have := h.len; omega))
  refine ⟨_, rfl, rfl, _, rfl, itb (fun e => ?_) fun e => ?_⟩
  · have py : Pl 10 (cutS x none (some 7) ++ "k") := (px.cut none (some 7)).app (pl_of "k" (by decide +kernel))
    refine ⟨_, rfl, 7, rfl, x, rfl, Nat.le_of_succ_le (sz px (by decide)), _, _, rfl, rfl, sz (px.cut _ _) (by decide), ?_⟩
    refine ⟨_, rfl, _, rfl, rfl, _, rfl, itb (fun e => ?_) fun e => ?_⟩
    · refine ⟨_, rfl, 1, rfl, -1, rfl, x, rfl, Nat.le_of_succ_le (sz px (by decide)), ?_⟩
      refine ⟨_, rfl, 1, rfl, -1, rfl, x, rfl, Nat.le_of_succ_le (sz px (by decide)), rfl, .inr ⟨_, rfl, ?_⟩⟩
      refine ⟨_, _, _, rfl, rfl, by decide, kj_at _, _, _, rfl, rfl, sz (px.cut _ _) (by decide), ?_⟩
      refine ⟨_, rfl, _, rfl, by show 2 ≤ sizeLine; decide, fun p hp => ⟨_, rfl, _, rfl, p, _, rfl, SqL.of upd_same, ?_⟩⟩
      exact fin _ H3 ((px.cut _ _).app (kj_pl _)) k123 (b3.mono z20) p hp
    · refine ⟨_, rfl, _, rfl, by show 2 ≤ sizeLine; decide, fun p hp => ⟨_, rfl, _, rfl, p, _, rfl, SqL.of upd_same, ?_⟩⟩
      exact fin _ H3 py k123 (b3.mono z20) p hp
  · refine ⟨_, rfl, b, _, rfl, b3, by omega, fun y H4 py k4 b4 => ?_⟩
    have z21 : n + 1 + 1 + 9 + 9 ≤ n + 20 := by omega
    refine ⟨_, rfl, _, rfl, rfl, _, rfl, itb (fun e => ?_) fun e => ?_⟩
    · refine ⟨_, rfl, 1, rfl, -1, rfl, x, rfl, Nat.le_of_succ_le (sz px (by decide)), ?_⟩
      refine ⟨_, rfl, 1, rfl, -1, rfl, x, rfl, Nat.le_of_succ_le (sz px (by decide)), rfl, .inr ⟨_, rfl, ?_⟩⟩
      refine ⟨_, _, _, rfl, rfl, by decide, kj_at _, _, _, rfl, rfl, sz (px.cut _ _) (by decide), ?_⟩
      refine ⟨_, rfl, _, rfl, by show 2 ≤ sizeLine; decide, fun p hp => ⟨_, rfl, _, rfl, p, _, rfl, SqL.of upd_same, ?_⟩⟩
      exact fin _ H4 ((px.cut _ _).app (kj_pl _)) (k123.trans k4) (b4.mono z21) p hp
    · refine ⟨_, rfl, _, rfl, by show 2 ≤ sizeLine; decide, fun p hp => ⟨_, rfl, _, rfl, p, _, rfl, SqL.of upd_same, ?_⟩⟩
      exact fin _ H4 (py.mono (by decide)) (k123.trans k4) (b4.mono z21) p hp
end
end NH
set_option maxHeartbeats 4000000
namespace NH
open PySem PySem.Spec PyProof.Rows L2 TL
/-! ### what the law builds: data over a hidden heap -/
mutual
/-- numbers, texts, lists and tuples alone -/
def D.cln : D → Prop
  | .int i => i.natAbs ≤ 900
  | .str x => ∀ c ∈ x.cps.toList, c < 128
  | .lst ds => D.clns ds
  | .tup ds => D.clns ds
  | _ => False
def D.clns : List D → Prop
  | [] => True
  | d :: ds => d.cln ∧ D.clns ds
end
mutual
theorem D.cln_fit : ∀ {d : D}, d.cln → d.fit
  | .int _, h => Nat.le_trans h (by decide)
  | .str _, h => h
  | .lst _, h => D.clns_fits h
  | .tup _, h => D.clns_fits h
theorem D.clns_fits : ∀ {ds : List D}, D.clns ds → D.fits ds
  | [], _ => trivial
  | _ :: _, h => ⟨D.cln_fit h.1, D.clns_fits h.2⟩
end
/-- small data -/
structure Sm (k e : Nat) (d : D) : Prop where
  fit : d.cln
  sz : d.sz ≤ k
  dep : d.dep ≤ e
theorem Sm.mono {k e j f : Nat} {d : D} (s : Sm k e d) (h : k ≤ j) (g : e ≤ f) : Sm j f d := ⟨s.fit, Nat.le_trans s.sz h, Nat.le_trans s.dep g⟩
theorem Sm.str {k : Nat} {x : Str} (h : Pl k x) : Sm (1 + k) 0 (.str x) := ⟨h.1, Nat.add_le_add_left h.2 1, Nat.le_refl _⟩
theorem Sm.int {i : Int} (h : i.natAbs ≤ 900) : Sm 1 0 (.int i) := ⟨h, Nat.le_refl _, Nat.le_refl _⟩
inductive Sms (e : Nat) : Nat → List D → Prop
  | nil : Sms e 0 []
  | cons {k j : Nat} {d : D} {ds : List D} : Sm k e d → Sms e j ds → Sms e (k + j) (d :: ds)
theorem Sms.facts {e k : Nat} {ds : List D} (h : Sms e k ds) : D.clns ds ∧ D.szs ds ≤ k ∧ D.deps ds ≤ e := by
  induction h with
  | nil => exact ⟨trivial, Nat.le_refl _, Nat.zero_le _⟩
  | cons a _ ih => exact ⟨⟨a.fit, ih.1⟩, Nat.add_le_add a.sz ih.2.1, Nat.max_le.mpr ⟨a.dep, ih.2.2⟩⟩
theorem Sms.tup {e k : Nat} {ds : List D} (h : Sms e k ds) : Sm (1 + k) (e + 1) (.tup ds) := ⟨h.facts.1, Nat.add_le_add_left h.facts.2.1 1, Nat.add_le_add_right h.facts.2.2 1⟩
theorem Sms.lst {e k : Nat} {ds : List D} (h : Sms e k ds) : Sm (1 + k) (e + 1) (.lst ds) := ⟨h.facts.1, Nat.add_le_add_left h.facts.2.1 1, Nat.add_le_add_right h.facts.2.2 1⟩
theorem Sms.one {e k : Nat} {d : D} (h : Sm k e d) : Sms e k [d] := by have z := Sms.cons h .nil; exact z
theorem Sms.app {e : Nat} : ∀ {k j : Nat} {ds es : List D}, Sms e k ds → Sms e j es → Sms e (k + j) (ds ++ es)
  | _, j, _, _, .nil, h => by rw [Nat.zero_add]; exact h
  | _, j, _, _, .cons (k := a) (j := b) x t, h => by rw [Nat.add_assoc]; exact .cons x (Sms.app t h)
/-- the law's frame: its box b, the sides at s, the names at m; bs: what is still written -/
structure Gn (bs : List Addr) (b s m : Addr) (ys nm : List Str) (H : Hp) : Prop where
  inb : b ∈ bs
  al : Al bs H
  so : s ∉ bs
  sh : H s = some (.lst (ys.map .str))
  mo : m ∉ bs
  mh : H m = some (.lst (nm.map .str))
  y0 : 0 < ys.length
  yl : ys.length ≤ 100
  nl : nm.length ≤ 2
  yp : ∀ y ∈ ys, Pl 10 y
  np : ∀ y ∈ nm, Pl 10 y
section
variable {bs cs : List Addr} {b s m : Addr} {ys nm : List Str} {H H' : Hp} {n : Nat}
theorem Gn.kp (g : Gn bs b s m ys nm H) (k : Kp cs H H') (sub : ∀ a ∈ cs, a ∈ bs) (al : Al bs H') : Gn bs b s m ys nm H' :=
  { g with al := al, sh := k _ _ (fun z => g.so (sub _ z)) g.sh, mh := k _ _ (fun z => g.mo (sub _ z)) g.mh }
theorem Gn.same (g : Gn bs b s m ys nm H) (k : Same H H') : Gn bs b s m ys nm H' := { g with al := g.al.same k, sh := k _ _ g.sh, mh := k _ _ g.mh }
theorem Gn.tk (g : Gn bs b s m ys nm H) (k : Kp [b] H H') (x : Bx b n H') : Gn bs b s m ys nm H' := g.kp k (fun a z => by rw [List.mem_singleton.mp z]; exact g.inb) (g.al.kp k x)
/-- with one more that is still written -/
theorem Gn.more (g : Gn bs b s m ys nm H) {l : Addr} {o : HO} (hl : H l = none) (s1 : Same H H') (h : H' l = some o) : Gn (l :: bs) b s m ys nm H' :=
  { g with
    inb := List.mem_cons_of_mem _ g.inb
    al := fun a z => (List.mem_cons.mp z).elim (fun e => ⟨o, by rw [e]; exact h⟩) fun z => g.al.same s1 a z
    so := fun z => (List.mem_cons.mp z).elim (fun e => by have y := g.sh; rw [e, hl] at y; cases y) g.so
    sh := s1 _ _ g.sh
    mo := fun z => (List.mem_cons.mp z).elim (fun e => by have y := g.mh; rw [e, hl] at y; cases y) g.mo
    mh := s1 _ _ g.mh }
theorem Dd.hk {v : V} {d : D} (h : Dd (hid bs H) v d) (k : Kp cs H H') (sub : ∀ a ∈ cs, a ∈ bs) : Dd (hid bs H') v d := h.same (Kp.hid (k.mono sub))
theorem Dd.hs {v : V} {d : D} (h : Dd (hid bs H) v d) (k : Same H H') : Dd (hid bs H') v d := h.same (Kp.hid (Kp.of k))
theorem DdL.hs {v : List V} {d : List D} (h : DdL (hid bs H) v d) (k : Same H H') : DdL (hid bs H') v d := h.same (Kp.hid (Kp.of k))
theorem hid_more {l : Addr} : Same (hid (l :: bs) H) (hid bs H) := fun a o h => by
  obtain ⟨n1, e⟩ := hid_some h
  rw [hid_out fun z => n1 (List.mem_cons_of_mem _ z)]; exact e
/-- a new tuple, a new list of data -/
theorem Dd.newT {p : Addr} {xs : List V} {ds : List D} (al : Al bs H) (hp : H p = none) (s1 : Same H H') (h : H' p = some (.tup xs)) (hd : DdL (hid bs H) xs ds) : Dd (hid bs H') (.ref p) (.tup ds) :=
  .tup (by rw [hid_out (al.new hp)]; exact h) (hd.hs s1)
theorem Dd.newL {p : Addr} {xs : List V} {ds : List D} (al : Al bs H) (hp : H p = none) (s1 : Same H H') (h : H' p = some (.lst xs)) (hd : DdL (hid bs H) xs ds) : Dd (hid bs H') (.ref p) (.lst ds) :=
  .lst (by rw [hid_out (al.new hp)]; exact h) (hd.hs s1)
theorem dp_names {K : PySem.W.Frag} (h : H m = some (.lst (nm.map .str))) : Dp K H (.ref m) (.list (nm.map PyData.str)) := by
  refine .lst (SqL.of h) ?_
  clear h
  induction nm with
  | nil => exact .nil
  | cons x l ih => exact .cons (.str x) ih
theorem pl_ok {k : Nat} {x : Str} (h : Pl k x) : PyData.strOk x = true := by
  show x.cps.all _ = true
  rw [← Array.all_toList, List.all_eq_true]
  exact fun c hc => decide_eq_true (Nat.lt_trans (h.1 c hc) (by decide))
theorem names_shaped (np : ∀ y ∈ nm, Pl 10 y) : SeqAt.shaped (.list (nm.map PyData.str)) = true := by
  have h1 : ∀ l : List Str, (∀ y ∈ l, Pl 10 y) → PyData.canLayAll0 (l.map PyData.str) = true ∧ PyData.depthAll (l.map PyData.str) = 0 := fun l hp => by
    induction l with
    | nil => exact ⟨rfl, rfl⟩
    | cons x l ih =>
      have ih := ih fun y hy => hp y (List.mem_cons_of_mem _ hy)
      have ox := pl_ok (hp x (List.mem_cons_self ..))
      exact ⟨by show (PyData.strOk x && PyData.canLayAll0 (l.map PyData.str)) = true; rw [ih.1, ox]; rfl, by show max 0 (PyData.depthAll (l.map PyData.str)) = 0; rw [ih.2]; rfl⟩
  show (PyData.canLayAll0 (nm.map PyData.str) && decide (PyData.depthAll (nm.map PyData.str) + 1 ≤ 64)) = true
  rw [(h1 nm np).1, (h1 nm np).2]; rfl
theorem names_eqv : PyData.eqv (.list (nm.map PyData.str)) (.list []) = nm.isEmpty := by cases nm <;> rfl
theorem at_str {l : List Str} {d : Nat} (h : d < l.length) : ∃ x ∈ l, atI (l.map V.str) (d : Int) = some (.str x) := menuS l h
end
section
variable {P : Program} {w : World} {K : PySem.W.Frag} {mg : Str → Option Value} {base : Heap}
abbrev s_law_amount : Stmt := top 45
theorem sc_law_amount : FnScope ["box", "sides", "names", "way"] ["box", "sides", "names"] (defScope s_law_amount) := ⟨rfl, rfl, rfl, by decide +kernel, rfl, by decide +kernel, by decide +kernel⟩
/-- what is built is small data; so many digits are taken -/
def Bld (bs : List Addr) (b : Addr) (n : Nat) (H : Hp) (Q : VK) (R : D → Prop) : Prop := ∀ v d H', Kp [b] H H' → Al bs H' → Bx b n H' → Dd (hid bs H') v d → R d → Q v H'
def spAm : Sp := fun vs H Q _ => ∃ (bs : List Addr) (b s m : Addr) (ys nm : List Str) (n : Nat), vs = [.ref b, .ref s, .ref m] ∧ Gn bs b s m ys nm H ∧ Bx b n H ∧ n ≤ 600000000 ∧ Bld bs b (n + 2) H Q (Sm 20 1)
theorem ok_law_amount (G : Bl mg) (DA : DefAt K mg "_law_amount" s_law_amount) (cT : Callee P w K mg base 2 "_law_take" ["box", "many"] spTake) : Callee P w K mg base 3 "_law_amount" ["box", "sides", "names"] spAm := by
  refine callee DA sc_law_amount (fun vs H Q E h => by obtain ⟨_, _, _, _, _, _, _, rfl, _⟩ := h; rfl) (fun _ _ _ _ _ _ us hl => match us, hl with | [_, _, _], _ => rfl) fun f cdv A outer s H vs Q E hr h => ?_
  obtain ⟨bs, b, sA, m, ys, nm, n, rfl, g, hb, hn, q⟩ := h
  refine ⟨_, (pss_cons (ps_set (i := 3) sc_law_amount.nd rfl (Or.inl rfl) (pe_cal cT hr (by decide) (pa_cons (pv 0) (pa_cons pe_int pa_nil))))
    (pss_cons (ps_if (PW.pt (pw_and (pt_cmpR op_eq (pv 3) pe_int (nomark _)) (pw_and1 (pt_cmpR (op_neD hr.units) (pv 2) (pe_lst pa_nil) (nomark _))))) (pss_one (ps_ret (pe_ix ix_list (pv 2) (pe_cal cT hr (by decide) (pa_cons (pv 0) (pa_cons (pe_callB call_len_seq (by rfl) G.b_len (by decide +kernel) (pa_cons (pv 2) pa_nil)) pa_nil))) (fun _ _ => rfl)))) pss_nil)
    (pss_cons (ps_if (pt_cmpR op_in_seq (pv 3) (pe_lst (pa_cons pe_int (pa_cons pe_int pa_nil))) rfl) (pss_one (ps_ret (pe_tup (pa_cons pe_str (pa_cons (pe_ix ix_list (pv 1) (pe_cal cT hr (by decide) (pa_cons (pv 0) (pa_cons (pe_callB call_len_seq (by rfl) G.b_len (by decide +kernel) (pa_cons (pv 1) pa_nil)) pa_nil))) (fun _ _ => rfl)) pa_nil))))) pss_nil)
    (pss_one (ps_ret (pe_cal cT hr (by decide) (pa_cons (pv 0) (pa_cons pe_int pa_nil)))))))), ?_⟩
  refine ⟨_, rfl, ?_⟩
  obtain ⟨o0_, e0_, i0_⟩ := id hb
  refine ⟨_, 4, _, o0_, rfl, e0_, i0_, by omega, by first | decide | omega, by first | decide | omega, fun way o1_ hw i1_ => ?_⟩
  generalize eH_ : upd _ _ o1_ = H1
  obtain ⟨k1, b1, oth1⟩ := tkf eH_ i1_
  clear eH_ i1_ i0_ e0_ o0_
  have g1 := g.tk k1 b1
  refine ⟨_, rfl, rfl, _, rfl, itb (fun e => ?_) fun e => ?_⟩
  · refine ⟨_, rfl, by show 0 ≤ sizeLine; decide, fun p hp => ?_⟩
    generalize e2 : upd H1 p _ = H2
    obtain ⟨s2, d2⟩ := nw e2 hp
    have g2 := g1.same s2
    have b2 := b1.same s2
    refine ⟨_, .list [], dp_names g2.mh, .lst (SqL.of d2) .nil, names_shaped g2.np, rfl, _, rfl, ?_⟩
    rw [names_eqv]
    refine itb (fun e3 => ?_) fun e3 => ?_
    · refine ⟨_, rfl, _, rfl, _, rfl, m, nm.map V.str, rfl, .inl (SqL.of g2.mh), ?_⟩
      have n0 : 0 < nm.length := by cases nm with
        | nil => simp at e3
        | cons x l => exact Nat.succ_pos _
      have n1 := g2.nl
      have ln : (nm.map V.str).length = nm.length := List.length_map ..
      obtain ⟨o0_, e0_, i0_⟩ := id b2
      refine ⟨_, (nm.map V.str).length, _, o0_, rfl, e0_, i0_, by omega, by first | decide | omega, by first | decide | omega, fun d o1_ hd i1_ => ?_⟩
      generalize eH_ : upd _ _ o1_ = H3
      obtain ⟨k3, b3, oth3⟩ := tkf eH_ i1_
      clear eH_ i1_ i0_ e0_ o0_
      have g3 := g2.tk k3 b3
      obtain ⟨x, mx, ex⟩ := at_str (l := nm) (d := d) (by omega)
      refine ⟨m, _, _, _, rfl, rfl, SqL.of g3.mh, ex, ?_⟩
      exact q _ (.str x) H3 ((k1.trans (Kp.of s2)).trans k3) g3.al b3 (.str x) ((Sm.str (g3.np x mx)).mono (by decide) (by decide))
    · refine ⟨_, rfl, by show 2 ≤ sizeLine; decide, fun p2 hp2 => ?_⟩
      generalize e5 : upd H2 p2 _ = H5
      obtain ⟨s5, d5⟩ := nw e5 hp2
      have g5 := g2.same s5
      have b5 := b2.same s5
      refine ⟨p2, _, rfl, .inl (SqL.of d5), rfl, rfl, _, rfl, itb (fun e6 => ?_) fun e6 => ?_⟩
      · refine ⟨_, rfl, _, rfl, _, rfl, sA, ys.map V.str, rfl, .inl (SqL.of g5.sh), ?_⟩
        have y0 := g5.y0
        have y1 := g5.yl
        have ln : (ys.map V.str).length = ys.length := List.length_map ..
        obtain ⟨o0_, e0_, i0_⟩ := id b5
        refine ⟨_, (ys.map V.str).length, _, o0_, rfl, e0_, i0_, by omega, by first | decide | omega, by first | decide | omega, fun d o1_ hd i1_ => ?_⟩
        generalize eH_ : upd _ _ o1_ = H6
        obtain ⟨k6, b6, oth6⟩ := tkf eH_ i1_
        clear eH_ i1_ i0_ e0_ o0_
        have g6 := g5.tk k6 b6
        obtain ⟨x, mx, ex⟩ := at_str (l := ys) (d := d) (by omega)
        refine ⟨sA, _, _, _, rfl, rfl, SqL.of g6.sh, ex, by show 2 ≤ sizeLine; decide, fun p7 hp7 => ?_⟩
        generalize e7 : upd H6 p7 _ = H7
        obtain ⟨s7, d7⟩ := nw e7 hp7
        have sm : Sm 20 1 (.tup [.str "due", .str x]) := (Sms.tup (.cons (Sm.str (pl_of "due" (by decide +kernel))) (.one (Sm.str (g6.yp x mx))))).mono (by decide) (by decide)
        exact q _ _ H7 ((((k1.trans (Kp.of s2)).trans (Kp.of s5)).trans k6).trans (Kp.of s7)) (g6.al.same s7) (b6.same s7) (Dd.newT g6.al hp7 s7 d7 (.cons (.str _) (.cons (.str _) .nil))) sm
      · refine ⟨_, rfl, ?_⟩
        obtain ⟨o0_, e0_, i0_⟩ := id b5
        refine ⟨_, 10, _, o0_, rfl, e0_, i0_, by omega, by first | decide | omega, by first | decide | omega, fun d o1_ hd i1_ => ?_⟩
        generalize eH_ : upd _ _ o1_ = H6
        obtain ⟨k6, b6, oth6⟩ := tkf eH_ i1_
        clear eH_ i1_ i0_ e0_ o0_
        have g6 := g5.tk k6 b6
        exact q _ _ H6 (((k1.trans (Kp.of s2)).trans (Kp.of s5)).trans k6) g6.al b6 (.int _) ((Sm.int (by omega)).mono (by decide) (by decide))
  · refine ⟨_, rfl, by show 2 ≤ sizeLine; decide, fun p2 hp2 => ?_⟩
    generalize e5 : upd H1 p2 _ = H5
    obtain ⟨s5, d5⟩ := nw e5 hp2
    have g5 := g1.same s5
    have b5 := b1.same s5
    refine ⟨p2, _, rfl, .inl (SqL.of d5), rfl, rfl, _, rfl, itb (fun e6 => ?_) fun e6 => ?_⟩
    · refine ⟨_, rfl, _, rfl, _, rfl, sA, ys.map V.str, rfl, .inl (SqL.of g5.sh), ?_⟩
      have y0 := g5.y0
      have y1 := g5.yl
      have ln : (ys.map V.str).length = ys.length := List.length_map ..
      obtain ⟨o0_, e0_, i0_⟩ := id b5
      refine ⟨_, (ys.map V.str).length, _, o0_, rfl, e0_, i0_, by omega, by first | decide | omega, by first | decide | omega, fun d o1_ hd i1_ => ?_⟩
      generalize eH_ : upd _ _ o1_ = H6
      obtain ⟨k6, b6, oth6⟩ := tkf eH_ i1_
      clear eH_ i1_ i0_ e0_ o0_
      have g6 := g5.tk k6 b6
      obtain ⟨x, mx, ex⟩ := at_str (l := ys) (d := d) (by omega)
      refine ⟨sA, _, _, _, rfl, rfl, SqL.of g6.sh, ex, by show 2 ≤ sizeLine; decide, fun p7 hp7 => ?_⟩
      generalize e7 : upd H6 p7 _ = H7
      obtain ⟨s7, d7⟩ := nw e7 hp7
      have sm : Sm 20 1 (.tup [.str "due", .str x]) := (Sms.tup (.cons (Sm.str (pl_of "due" (by decide +kernel))) (.one (Sm.str (g6.yp x mx))))).mono (by decide) (by decide)
      exact q _ _ H7 (((k1.trans (Kp.of s5)).trans k6).trans (Kp.of s7)) (g6.al.same s7) (b6.same s7) (Dd.newT g6.al hp7 s7 d7 (.cons (.str _) (.cons (.str _) .nil))) sm
    · refine ⟨_, rfl, ?_⟩
      obtain ⟨o0_, e0_, i0_⟩ := id b5
      refine ⟨_, 10, _, o0_, rfl, e0_, i0_, by omega, by first | decide | omega, by first | decide | omega, fun d o1_ hd i1_ => ?_⟩
      generalize eH_ : upd _ _ o1_ = H6
      obtain ⟨k6, b6, oth6⟩ := tkf eH_ i1_
      clear eH_ i1_ i0_ e0_ o0_
      have g6 := g5.tk k6 b6
      exact q _ _ H6 ((k1.trans (Kp.of s5)).trans k6) g6.al b6 (.int _) ((Sm.int (by omega)).mono (by decide) (by decide))
end
end NH
set_option maxHeartbeats 4000000
namespace NH
open PySem PySem.Spec PyProof.Rows L2 TL
section
variable {P : Program} {w : World} {K : PySem.W.Frag} {mg : Str → Option Value} {base : Heap}
def isTup (d : NH.D) : Prop := ∃ ds, d = NH.D.tup ds
abbrev s_law_condition : Stmt := top 46
theorem sc_law_condition : FnScope ["box", "sides", "names", "deep", "way", "part", "inner", "word", "other"] ["box", "sides", "names", "deep"] (defScope s_law_condition) := ⟨rfl, rfl, rfl, by decide +kernel, rfl, by decide +kernel, by decide +kernel⟩
def spCo (D : Nat) : Sp := fun vs H Q _ => ∃ (bs : List Addr) (b s m : Addr) (ys nm : List Str) (n deep : Nat), vs = [.ref b, .ref s, .ref m, .int (deep + 1 : Nat)] ∧ deep + 1 ≤ D ∧ D ≤ 100 ∧ Gn bs b s m ys nm H ∧ Bx b n H ∧ n + 12 * 2 ^ D ≤ 500000000 ∧ Bld bs b (n + (12 * 2 ^ D - 3)) H Q fun d => isTup d ∧ Sm (32 * 2 ^ D - 8) (D + 1) d
theorem ok_law_condition (G : Bl mg) (DA : DefAt K mg "_law_condition" s_law_condition) (cT : Callee P w K mg base 2 "_law_take" ["box", "many"] spTake) (cAm : Callee P w K mg base 3 "_law_amount" ["box", "sides", "names"] spAm) :
    ∀ D : Nat, Callee P w K mg base (4 + D) "_law_condition" ["box", "sides", "names", "deep"] (spCo D) := by
  intro D
  induction D with
  | zero => exact callee (k := 3) DA sc_law_condition (fun _ _ _ _ h => by obtain ⟨_, _, _, _, _, _, _, deep, _, z, _⟩ := h; exact absurd z (by omega)) (fun _ _ _ _ _ _ us hl => match us, hl with | [_, _, _, _], _ => rfl) fun _ _ _ _ _ _ _ _ _ _ h => by obtain ⟨_, _, _, _, _, _, _, deep, _, z, _⟩ := h; exact absurd z (by omega)
  | succ D ih =>
    refine callee (k := 4 + D) DA sc_law_condition (fun vs H Q E h => by obtain ⟨_, _, _, _, _, _, _, _, rfl, _⟩ := h; rfl) (fun _ _ _ _ _ _ us hl => match us, hl with | [_, _, _, _], _ => rfl) fun f cdv A outer s H vs Q E hr h => ?_
    obtain ⟨bs, b, sA, m, ys, nm, n, deep, rfl, hD, hD2, g, hb, hn, q⟩ := h
    refine ⟨_, (pss_cons (ps_par (i := 4) (j := 5) (by rfl) sc_law_condition.nd rfl rfl (by decide) rfl rfl (pa_cons (pe_cal cT hr (by omega) (pa_cons (pv 0) (pa_cons pe_int pa_nil))) (pa_cons (pe_cal cT hr (by omega) (pa_cons (pv 0) (pa_cons pe_int pa_nil))) pa_nil)) (by rfl))
      (pss_cons (ps_if (pt_cmpR op_eq (pv 3) pe_int (nomark _)) (pss_one (ps_ret (pe_tup (pa_cons (pe_ix ix_list (pe_lst (pa_cons pe_str (pa_cons pe_str pa_nil))) (pv 5) (fun _ _ => rfl)) (pa_cons (pe_cal cAm hr (by omega) (pa_cons (pv 0) (pa_cons (pv 1) (pa_cons (pv 2) pa_nil)))) (pa_cons (pe_cal cAm hr (by omega) (pa_cons (pv 0) (pa_cons (pv 1) (pa_cons (pv 2) pa_nil)))) pa_nil)))))) pss_nil)
      (pss_cons (ps_set (i := 6) sc_law_condition.nd rfl (Or.inl rfl) (pe_cal ih hr (by omega) (pa_cons (pv 0) (pa_cons (pv 1) (pa_cons (pv 2) (pa_cons (pe_op op_sub (pv 3) pe_int) pa_nil))))))
      (pss_cons (ps_if (pt_cmpR op_eq (pv 4) pe_int (nomark _)) (pss_one (ps_ret (pe_tup (pa_cons pe_str (pa_cons (pv 6) pa_nil))))) pss_nil)
      (pss_cons (ps_par (i := 7) (j := 8) (by rfl) sc_law_condition.nd rfl rfl (by decide) rfl rfl (pa_cons (pe_ix ix_list (pe_lst (pa_cons pe_str (pa_cons pe_str pa_nil))) (pe_op op_fdiv (pv 4) pe_int) (fun _ _ => rfl)) (pa_cons (pe_cal ih hr (by omega) (pa_cons (pv 0) (pa_cons (pv 1) (pa_cons (pv 2) (pa_cons (pe_op op_add pe_int (pe_cal cT hr (by omega) (pa_cons (pv 0) (pa_cons (pe_op op_sub (pv 3) pe_int) pa_nil)))) pa_nil))))) pa_nil)) (by rfl))
      (pss_one (ps_ret (pe_ifExp (pt_cmpR op_eq (pv 5) pe_int (nomark _)) (pe_tup (pa_cons (pv 7) (pa_cons (pv 6) (pa_cons (pv 8) pa_nil)))) (pe_tup (pa_cons (pv 7) (pa_cons (pv 8) (pa_cons (pv 6) pa_nil)))))))))))), ?_⟩
    have p1 : 1 ≤ 2 ^ D := Nat.one_le_two_pow
    have p2 : 2 ^ (D + 1) = 2 * 2 ^ D := by rw [Nat.pow_succ, Nat.mul_comm]
    rw [p2] at hn q
    refine ⟨_, rfl, ?_⟩
    obtain ⟨o0_, e0_, i0_⟩ := id hb
    refine ⟨_, 5, _, o0_, rfl, e0_, i0_, by omega, by first | decide | omega, by first | decide | omega, fun way o1_ hw i1_ => ?_⟩
    generalize eH_ : upd _ _ o1_ = H1
    obtain ⟨k1, b1, oth1⟩ := tkf eH_ i1_
    clear eH_ i1_ i0_ e0_ o0_
    refine ⟨_, rfl, ?_⟩
    obtain ⟨o0_, e0_, i0_⟩ := id b1
    refine ⟨_, 2, _, o0_, rfl, e0_, i0_, by omega, by first | decide | omega, by first | decide | omega, fun part o1_ hpt i1_ => ?_⟩
    generalize eH_ : upd _ _ o1_ = H2
    obtain ⟨k2, b2, oth2⟩ := tkf eH_ i1_
    clear eH_ i1_ i0_ e0_ o0_
    have g2 := (g.tk k1 b1).tk k2 b2
    have k12 := k1.trans k2
    refine ⟨_, _, rfl, _, rfl, rfl, _, rfl, itb (fun e => ?_) fun e => ?_⟩
    · refine ⟨by show 2 ≤ sizeLine; decide, fun p hp => ?_⟩
      generalize e3 : upd H2 p _ = H3
      obtain ⟨s3, d3⟩ := nw e3 hp
      obtain ⟨x, mx, ex⟩ := menuS ["is", "above"] (d := part) hpt
      have px : Pl 6 x := (by
        rcases List.mem_cons.mp mx with rfl | mx
        · exact (pl_of "is" (by decide +kernel)).mono (by decide)
        · rw [List.mem_singleton.mp mx]; exact (pl_of "above" (by decide +kernel)).mono (by decide))
      refine ⟨_, rfl, p, _, _, _, rfl, rfl, SqL.of d3, ex, ?_⟩
      have g3 := g2.same s3
      refine ⟨_, rfl, _, rfl, _, rfl, bs, b, sA, m, ys, nm, _, rfl, g3, b2.same s3, by omega, fun v1 d1 H4 k4 a4 b4 h1 sm1 => ?_⟩
      have g4 := g3.kp k4 (fun a z => by rw [List.mem_singleton.mp z]; exact g.inb) a4
      refine ⟨_, rfl, _, rfl, _, rfl, bs, b, sA, m, ys, nm, _, rfl, g4, b4, by omega, fun v2 d2 H5 k5 a5 b5 h2 sm2 => ?_⟩
      have h1 := h1.hk k5 (fun a z => by rw [List.mem_singleton.mp z]; exact g.inb)
      refine ⟨by show 3 ≤ sizeLine; decide, fun p6 hp6 => ?_⟩
      generalize e6 : upd H5 p6 _ = H6
      obtain ⟨s6, d6⟩ := nw e6 hp6
      refine q _ _ H6 ((((k12.trans (Kp.of s3)).trans k4).trans k5).trans (Kp.of s6)) (a5.same s6) ((b5.same s6).mono ?_) (Dd.newT a5 hp6 s6 d6 (.cons (.str _) (.cons h1 (.cons h2 .nil)))) ⟨⟨_, rfl⟩, (Sms.tup (.cons ((Sm.str px).mono (Nat.le_refl _) (by decide)) (.cons sm1 (.one sm2)))).mono ?_ (by omega)⟩
      · omega
      · omega
    · obtain ⟨dp, rfl⟩ : ∃ k, deep = k + 1 := by
        cases deep with
        | zero => exact absurd rfl (of_decide_eq_false e)
        | succ k => exact ⟨k, rfl⟩
      have sub : ∀ a ∈ [b], a ∈ bs := fun a z => by rw [List.mem_singleton.mp z]; exact g.inb
      have en : ((dp + 1 + 1 : Nat) : Int) - 1 = ((dp + 1 : Nat) : Int) := by omega
      refine ⟨_, rfl, _, rfl, _, rfl, _, rfl, _, _, rfl, rfl, bs, b, sA, m, ys, nm, _, dp, by show [V.ref b, V.ref sA, V.ref m, V.int (((dp + 1 + 1 : Nat) : Int) - 1)] = _; rw [en], by omega, by omega, g2, b2, by omega, fun v1 d1 H3 k3 a3 b3 h1 ⟨_, sm1⟩ => ?_⟩
      have k13 := k12.trans k3
      have g3 := g2.kp k3 sub a3
      refine ⟨_, rfl, rfl, _, rfl, itb (fun e4 => ?_) fun e4 => ?_⟩
      · refine ⟨_, rfl, by show 2 ≤ sizeLine; decide, fun p7 hp7 => ?_⟩
        generalize e7 : upd H3 p7 _ = H7
        obtain ⟨s7, d7⟩ := nw e7 hp7
        refine q _ _ H7 (k13.trans (Kp.of s7)) (a3.same s7) ((b3.same s7).mono ?_) (Dd.newT a3 hp7 s7 d7 (.cons (.str _) (.cons h1 .nil))) ⟨⟨_, rfl⟩, (Sms.tup (.cons ((Sm.str (pl_of "not" (by decide +kernel))).mono (Nat.le_refl _) (by omega)) (.one sm1))).mono ?_ (by omega)⟩
        · omega
        · have z : (tl (Str.ofString "not")).length = 3 := rfl
          omega
      · refine ⟨by show 2 ≤ sizeLine; decide, fun p hp => ?_⟩
        generalize e4 : upd H3 p _ = H4
        obtain ⟨s4, d4⟩ := nw e4 hp
        have w3 : way / 3 < 2 := by omega
        have ew : (way : Int) / 3 = ((way / 3 : Nat) : Int) := by omega
        obtain ⟨x, mx, ex⟩ := menuS ["both", "either"] (d := way / 3) w3
        have px : Pl 6 x := (by
          rcases List.mem_cons.mp mx with rfl | mx
          · exact (pl_of "both" (by decide +kernel)).mono (by decide)
          · rw [List.mem_singleton.mp mx]; exact (pl_of "either" (by decide +kernel)).mono (by decide))
        refine ⟨_, rfl, _, _, rfl, rfl, ⟨by decide, by decide⟩, p, _, _, _, rfl, rfl, SqL.of d4, by rw [ew]; exact ex, ?_⟩
        have g4 := g3.same s4
        have b4 := b3.same s4
        refine ⟨_, rfl, _, rfl, _, rfl, _, rfl, _, rfl, _, _, rfl, rfl, ?_⟩
        obtain ⟨o0, e0, i0⟩ := id b4
        refine ⟨_, dp + 1, _, o0, by show [V.ref b, V.int (((dp + 1 + 1 : Nat) : Int) - 1)] = _; rw [en], e0, i0, by omega, by omega, by omega, fun t o1 ht i1 => ?_⟩
        generalize eH : upd _ _ o1 = H5
        obtain ⟨k5, b5, oth5⟩ := tkf eH i1
        have g5 := g4.tk k5 b5
        have et : (1 : Int) + (t : Int) = ((t + 1 : Nat) : Int) := by omega
        refine ⟨_, _, rfl, rfl, bs, b, sA, m, ys, nm, _, t, by show [V.ref b, V.ref sA, V.ref m, V.int ((1 : Int) + (t : Int))] = _; rw [et], by omega, by omega, g5, b5, by omega, fun v2 d2 H6 k6' a6 b6 h2 ⟨_, sm2⟩ => ⟨_, _, rfl, ?_⟩⟩
        have h1 := ((h1.hs s4).hk k5 sub).hk k6' sub
        have k6 := ((k13.trans (Kp.of s4)).trans k5).trans k6'
        refine ⟨_, rfl, rfl, _, rfl, itb (fun e8 => ?_) fun e8 => ?_⟩
        · refine ⟨_, rfl, _, rfl, _, rfl, by show 3 ≤ sizeLine; decide, fun p7 hp7 => ?_⟩
          generalize e7 : upd H6 p7 _ = H7
          obtain ⟨s7, d7⟩ := nw e7 hp7
          refine q _ _ H7 ((k6.trans (Kp.of s7))) (a6.same s7) ((b6.same s7).mono ?_) (Dd.newT a6 hp7 s7 d7 (.cons (.str _) (.cons h1 (.cons h2 .nil)))) ⟨⟨_, rfl⟩, (Sms.tup (.cons ((Sm.str px).mono (Nat.le_refl _) (by omega)) (.cons sm1 (.one sm2)))).mono ?_ (by omega)⟩
          · omega
          · omega
        · refine ⟨_, rfl, _, rfl, _, rfl, by show 3 ≤ sizeLine; decide, fun p7 hp7 => ?_⟩
          generalize e7 : upd H6 p7 _ = H7
          obtain ⟨s7, d7⟩ := nw e7 hp7
          refine q _ _ H7 ((k6.trans (Kp.of s7))) (a6.same s7) ((b6.same s7).mono ?_) (Dd.newT a6 hp7 s7 d7 (.cons (.str _) (.cons h2 (.cons h1 .nil)))) ⟨⟨_, rfl⟩, (Sms.tup (.cons ((Sm.str px).mono (Nat.le_refl _) (by omega)) (.cons sm2 (.one sm1)))).mono ?_ (by omega)⟩
          · omega
          · omega
end
end NH
set_option maxHeartbeats 4000000
namespace NH
open PySem PySem.Spec PyProof.Rows L2 TL
section
variable {P : Program} {w : World} {K : PySem.W.Frag} {mg : Str → Option Value} {base : Heap}
abbrev s_law_plain : Stmt := top 47
theorem sc_law_plain : FnScope ["box", "sides", "names"] ["box", "sides", "names"] (defScope s_law_plain) := ⟨rfl, rfl, rfl, by decide +kernel, rfl, by decide +kernel, by decide +kernel⟩
def spPl : Sp := fun vs H Q _ => ∃ (bs : List Addr) (b s m : Addr) (ys nm : List Str) (n : Nat), vs = [.ref b, .ref s, .ref m] ∧ nm ≠ [] ∧ Gn bs b s m ys nm H ∧ Bx b n H ∧ n ≤ 500000000 ∧ Bld bs b (n + 4) H Q (Sm 80 2)
theorem ok_law_plain (G : Bl mg) (DA : DefAt K mg "_law_plain" s_law_plain) (cT : Callee P w K mg base 2 "_law_take" ["box", "many"] spTake) (cAm : Callee P w K mg base 3 "_law_amount" ["box", "sides", "names"] spAm) : Callee P w K mg base 4 "_law_plain" ["box", "sides", "names"] spPl := by
  refine callee DA sc_law_plain (fun vs H Q E h => by obtain ⟨_, _, _, _, _, _, _, rfl, _⟩ := h; rfl) (fun _ _ _ _ _ _ us hl => match us, hl with | [_, _, _], _ => rfl) fun f cdv A outer s H vs Q E hr h => ?_
  obtain ⟨bs, b, sA, m, ys, nm, n, rfl, n0, g, hb, hn, q⟩ := h
  refine ⟨_, (pss_one (ps_ret (pe_tup (pa_cons (pe_ix ix_list (pe_lst (pa_cons pe_str (pa_cons pe_str (pa_cons pe_str pa_nil)))) (pe_cal cT hr (by decide) (pa_cons (pv 0) (pa_cons pe_int pa_nil))) (fun _ _ => rfl)) (pa_cons (pe_ix ix_list (pv 2) (pe_cal cT hr (by decide) (pa_cons (pv 0) (pa_cons (pe_callB call_len_seq (by rfl) G.b_len (by decide +kernel) (pa_cons (pv 2) pa_nil)) pa_nil))) (fun _ _ => rfl)) (pa_cons (pe_cal cAm hr (by decide) (pa_cons (pv 0) (pa_cons (pv 1) (pa_cons (pv 2) pa_nil)))) pa_nil)))))), ?_⟩
  have sub : ∀ a ∈ [b], a ∈ bs := fun a z => by rw [List.mem_singleton.mp z]; exact g.inb
  refine ⟨by show 3 ≤ sizeLine; decide, fun p hp => ?_⟩
  generalize e1 : upd H p _ = H1
  obtain ⟨s1, d1⟩ := nw e1 hp
  have b1 := hb.same s1
  have nb : p ≠ b := fun z => hb.ne hp z.symm
  refine ⟨_, rfl, ?_⟩
  obtain ⟨o0_, e0_, i0_⟩ := id b1
  refine ⟨_, 3, _, o0_, rfl, e0_, i0_, by omega, by first | decide | omega, by first | decide | omega, fun t o1_ ht i1_ => ?_⟩
  generalize eH_ : upd _ _ o1_ = H2
  obtain ⟨k2, b2, oth2⟩ := tkf eH_ i1_
  clear eH_ i1_ i0_ e0_ o0_
  obtain ⟨x, mx, ex⟩ := menuS ["set", "add", "take"] (d := t) ht
  have px : Pl 4 x := (by
    have z : ∀ y ∈ ["set", "add", "take"], Pl 4 (Str.ofString y) := by
      intro y hy
      simp only [List.mem_cons, List.not_mem_nil, or_false] at hy
      rcases hy with rfl | rfl | rfl
      · exact (pl_of _ (by decide +kernel)).mono (by decide)
      · exact (pl_of _ (by decide +kernel)).mono (by decide)
      · exact (pl_of _ (by decide +kernel)).mono (by decide)
    simp only [List.mem_cons, List.not_mem_nil, or_false] at mx
    rcases mx with rfl | rfl | rfl <;> exact z _ (by simp))
  refine ⟨p, _, _, _, rfl, rfl, SqL.of ((oth2 p nb).trans d1), ex, ?_⟩
  have g2 := (g.same s1).tk k2 b2
  refine ⟨_, rfl, _, rfl, _, rfl, m, nm.map V.str, rfl, .inl (SqL.of g2.mh), ?_⟩
  have n1 : 0 < nm.length := (by cases nm with | nil => exact absurd rfl n0 | cons _ _ => exact Nat.succ_pos _)
  have n2 := g2.nl
  have ln : (nm.map V.str).length = nm.length := List.length_map ..
  obtain ⟨o0_, e0_, i0_⟩ := id b2
  refine ⟨_, (nm.map V.str).length, _, o0_, rfl, e0_, i0_, by omega, by first | decide | omega, by first | decide | omega, fun d o1_ hd i1_ => ?_⟩
  generalize eH_ : upd _ _ o1_ = H3
  obtain ⟨k3, b3, oth3⟩ := tkf eH_ i1_
  clear eH_ i1_ i0_ e0_ o0_
  have g3 := g2.tk k3 b3
  obtain ⟨y, my, ey⟩ := at_str (l := nm) (d := d) (by omega)
  refine ⟨m, _, _, _, rfl, rfl, SqL.of g3.mh, ey, ?_⟩
  refine ⟨_, rfl, _, rfl, _, rfl, bs, b, sA, m, ys, nm, _, rfl, g3, b3, by omega, fun v2 d2 H4 k4 a4 b4 h2 sm2 => ?_⟩
  refine ⟨by show 3 ≤ sizeLine; decide, fun p7 hp7 => ?_⟩
  generalize e7 : upd H4 p7 _ = H7
  obtain ⟨s7, d7⟩ := nw e7 hp7
  exact q _ _ H7 (((((Kp.of s1).trans k2).trans k3).trans k4).trans (Kp.of s7)) (a4.same s7) (b4.same s7) (Dd.newT a4 hp7 s7 d7 (.cons (.str _) (.cons (.str _) (.cons h2 .nil)))) ((Sms.tup (.cons ((Sm.str px).mono (Nat.le_refl _) (by decide)) (.cons ((Sm.str (g3.np y my)).mono (Nat.le_refl _) (by decide)) (.one sm2)))).mono (by decide) (by decide))
def D.isL (d : D) : Prop := ∃ ds, d = .lst ds
/-- what an item, a list of steps needs, and what it leaves: k items may still be put in, at r -/
def Rm (bs : List Addr) (b r : Addr) (k : Nat) (H : Hp) : Prop := r ∈ bs ∧ r ≠ b ∧ H r = some (.lst [.int (k : Int)])
def BldR (bs : List Addr) (b r : Addr) (n c z e k : Nat) (H : Hp) (Q : VK) (L : D → Prop) : Prop := ∀ v d H' k', k' ≤ k → L d → Kp [b, r] H H' → Al bs H' → Bx b (n + c + 200 * (k - k')) H' → Rm bs b r k' H' → Dd (hid bs H') v d → Sm (z + 300 * (k - k')) e d → Q v H'
def spIt (dp : Nat) : Sp := fun vs H Q _ => ∃ (bs : List Addr) (b s m r : Addr) (ys nm : List Str) (n k : Nat), vs = [.ref b, .ref s, .ref m, .int (dp : Int), .ref r] ∧ (nm ≠ [] ∨ 2 ≤ dp) ∧ Gn bs b s m ys nm H ∧ Bx b n H ∧ Rm bs b r k H ∧ n + 200 * k + 200 ≤ 400000000 ∧ BldR bs b r n 100 300 (2 * dp + 5) k H Q fun _ => True
def spSt (dp : Nat) : Sp := fun vs H Q _ => ∃ (bs : List Addr) (b s m r : Addr) (ys nm : List Str) (n k : Nat), vs = [.ref b, .ref s, .ref m, .int (dp : Int), .ref r] ∧ 1 ≤ dp ∧ Gn bs b s m ys nm H ∧ Bx b n H ∧ Rm bs b r k H ∧ n + 200 * k + 100 ≤ 400000000 ∧ BldR bs b r n 1 1 (2 * dp + 6) k H Q D.isL
abbrev s_law_item : Stmt := top 48
theorem sc_law_item : FnScope ["box", "sides", "names", "deep", "room", "way", "times", "test", "first"] ["box", "sides", "names", "deep", "room"] (defScope s_law_item) := ⟨rfl, rfl, rfl, by decide +kernel, rfl, by decide +kernel, by decide +kernel⟩
abbrev s_law_steps : Stmt := top 49
theorem sc_law_steps : FnScope ["box", "sides", "names", "deep", "room", "many", "k"] ["box", "sides", "names", "deep", "room"] (defScope s_law_steps) := ⟨rfl, rfl, rfl, by decide +kernel, rfl, by decide +kernel, by decide +kernel⟩
theorem Kp.two {b r : Addr} {H H' : Hp} (k : Kp [b] H H') : Kp [b, r] H H' := k.mono (by simp)
theorem Rm.tk {bs : List Addr} {b r : Addr} {k : Nat} {H H' : Hp} (x : Rm bs b r k H) (h : Kp [b] H H') : Rm bs b r k H' := ⟨x.1, x.2.1, h _ _ (by simpa using x.2.1) x.2.2⟩
theorem Rm.same {bs : List Addr} {b r : Addr} {k : Nat} {H H' : Hp} (x : Rm bs b r k H) (h : Same H H') : Rm bs b r k H' := ⟨x.1, x.2.1, h _ _ x.2.2⟩
theorem ok_law_item (dp : Nat) (G : Bl mg) (DA : DefAt K mg "_law_item" s_law_item) (cT : Callee P w K mg base 2 "_law_take" ["box", "many"] spTake) (cPl : Callee P w K mg base 4 "_law_plain" ["box", "sides", "names"] spPl) (cCo : Callee P w K mg base 7 "_law_condition" ["box", "sides", "names", "deep"] (spCo 3)) (cSt : Callee P w K mg base (8 + 2 * dp) "_law_steps" ["box", "sides", "names", "deep", "room"] (spSt dp)) :
    Callee P w K mg base (9 + 2 * dp) "_law_item" ["box", "sides", "names", "deep", "room"] (spIt (dp + 1)) := by
  rw [show 9 + 2 * dp = (8 + 2 * dp) + 1 by omega]
  refine callee DA sc_law_item (fun vs H Q E h => by obtain ⟨_, _, _, _, _, _, _, _, _, rfl, _⟩ := h; rfl) (fun _ _ _ _ _ _ us hl => match us, hl with | [_, _, _, _, _], _ => rfl) fun f cdv A outer s H vs Q E hr h => ?_
  obtain ⟨bs, b, sA, m, r, ys, nm, n, k, rfl, hd, g, hb, hR, hn, q⟩ := h
  refine ⟨_, (pss_cons (ps_set (i := 5) sc_law_item.nd rfl (Or.inl rfl) (pe_cal cT hr (by omega) (pa_cons (pv 0) (pa_cons pe_int pa_nil))))
    (pss_cons (ps_if (PW.pt (pw_and (pt_cmpR (op_neD hr.units) (pv 2) (pe_lst pa_nil) (nomark _)) (pw_and1 (PW.pt (pw_or (pt_cmpR op_lt (pv 3) pe_int (nomark _)) (pw_or1 (pt_cmpR op_lt (pv 5) pe_int (nomark _)))))))) (pss_one (ps_ret (pe_cal cPl hr (by omega) (pa_cons (pv 0) (pa_cons (pv 1) (pa_cons (pv 2) pa_nil)))))) pss_nil)
    (pss_cons (ps_if (pt_cmpR op_eq (pv 5) pe_int (nomark _)) (pss_cons (ps_set (i := 6) sc_law_item.nd rfl (Or.inl rfl) (pe_ix ix_list (pe_lst (pa_cons pe_int (pa_cons pe_int (pa_cons pe_int (pa_cons pe_int pa_nil))))) (pe_cal cT hr (by omega) (pa_cons (pv 0) (pa_cons pe_int pa_nil))) (fun _ _ => rfl)))
    (pss_one (ps_ret (pe_tup (pa_cons pe_str (pa_cons (pv 6) (pa_cons (pe_cal cSt hr (by omega) (pa_cons (pv 0) (pa_cons (pv 1) (pa_cons (pv 2) (pa_cons (pe_op op_sub (pv 3) pe_int) (pa_cons (pv 4) pa_nil)))))) pa_nil))))))) pss_nil)
    (pss_cons (ps_set (i := 7) sc_law_item.nd rfl (Or.inl rfl) (pe_cal cCo hr (by omega) (pa_cons (pv 0) (pa_cons (pv 1) (pa_cons (pv 2) (pa_cons (pe_op op_add pe_int (pe_cal cT hr (by omega) (pa_cons (pv 0) (pa_cons pe_int pa_nil)))) pa_nil))))))
    (pss_cons (ps_set (i := 8) sc_law_item.nd rfl (Or.inl rfl) (pe_cal cSt hr (by omega) (pa_cons (pv 0) (pa_cons (pv 1) (pa_cons (pv 2) (pa_cons (pe_op op_sub (pv 3) pe_int) (pa_cons (pv 4) pa_nil)))))))
    (pss_one (ps_ret (pe_tup (pa_cons pe_str (pa_cons (pv 7) (pa_cons (pv 8) (pa_cons (pe_ifExp (pt_cmpR op_eq (pv 5) pe_int (nomark _)) (pe_cal cSt hr (by omega) (pa_cons (pv 0) (pa_cons (pv 1) (pa_cons (pv 2) (pa_cons (pe_op op_sub (pv 3) pe_int) (pa_cons (pv 4) pa_nil)))))) (pe_lst pa_nil)) pa_nil)))))))))))), ?_⟩
  have sub : ∀ a ∈ [b], a ∈ bs := fun a z => by rw [List.mem_singleton.mp z]; exact g.inb
  have sub2 : ∀ a ∈ [b, r], a ∈ bs := fun a z => by
    rcases List.mem_cons.mp z with rfl | z
    · exact g.inb
    · rw [List.mem_singleton.mp z]; exact hR.1
  have en : ((dp + 1 : Nat) : Int) - 1 = (dp : Int) := by omega
  refine ⟨_, rfl, ?_⟩
  obtain ⟨o0_, e0_, i0_⟩ := id hb
  refine ⟨_, 5, _, o0_, rfl, e0_, i0_, by omega, by first | decide | omega, by first | decide | omega, fun way o1_ hw i1_ => ?_⟩
  generalize eH_ : upd _ _ o1_ = H1
  obtain ⟨k1, b1, oth1⟩ := tkf eH_ i1_
  clear eH_ i1_ i0_ e0_ o0_
  refine ⟨_, rfl, by show 0 ≤ sizeLine; decide, fun p hp => ?_⟩
  generalize e2 : upd H1 p _ = H2
  obtain ⟨s2, d2⟩ := nw e2 hp
  have g2 := (g.tk k1 b1).same s2
  have b2 := b1.same s2
  have R2 := (hR.tk k1).same s2
  have k2 := k1.trans (Kp.of s2)
  refine ⟨_, .list [], dp_names g2.mh, .lst (SqL.of d2) .nil, names_shaped g2.np, rfl, _, rfl, ?_⟩
  rw [names_eqv]
  -- a plain item
  have plain : nm ≠ [] → spPl ([.ref b, .ref sA, .ref m] ++ []) H2 Q E0 := fun n0 => ⟨bs, b, sA, m, ys, nm, _, rfl, n0, g2, b2, by omega, fun v d H' k' a' b' h' sm => q v d H' k (Nat.le_refl _) trivial ((k2.trans k').two) a' (b'.mono (by omega)) (R2.tk k') h' (sm.mono (by omega) (by omega))⟩
  refine itb (fun e3 => ?_) fun e3 => ?_
  · have n0 : nm ≠ [] := by
      intro z; subst z; cases e3
    refine ⟨_, rfl, _, _, rfl, rfl, _, rfl, itd (fun e4 => ?_) fun e4 => ?_⟩
    · exact ⟨_, rfl, _, rfl, _, rfl, plain n0⟩
    refine ⟨_, rfl, _, _, rfl, rfl, _, rfl, itd (fun e4 => ?_) fun e4 => ?_⟩
    · exact ⟨_, rfl, _, rfl, _, rfl, plain n0⟩
    refine ⟨_, rfl, rfl, _, rfl, itb (fun e5 => ?_) fun e5 => ?_⟩
    · refine ⟨by show 4 ≤ sizeLine; decide, fun p3 hp3 => ?_⟩
      generalize ee3 : upd H2 p3 _ = H3
      obtain ⟨s3, d3⟩ := nw ee3 hp3
      have b3 := b2.same s3
      have nb : p3 ≠ b := fun z => b2.ne hp3 z.symm
      refine ⟨_, rfl, ?_⟩
      obtain ⟨o0_, e0_, i0_⟩ := id b3
      refine ⟨_, 4, _, o0_, rfl, e0_, i0_, by omega, by first | decide | omega, by first | decide | omega, fun t o1_ ht i1_ => ?_⟩
      generalize eH_ : upd _ _ o1_ = H4
      obtain ⟨k4, b4, oth4⟩ := tkf eH_ i1_
      clear eH_ i1_ i0_ e0_ o0_
      obtain ⟨x, mx, ex⟩ := menu [0, 9, 1, 3] (d := t) ht
      have xs : x ≤ 9 := (by decide : ∀ m ∈ [0, 9, 1, 3], m ≤ 9) x mx
      refine ⟨p3, _, _, _, rfl, rfl, SqL.of ((oth4 p3 nb).trans d3), ex, ?_⟩
      have g4 := (g2.same s3).tk k4 b4
      have R4 := (R2.same s3).tk k4
      refine ⟨_, rfl, _, rfl, _, rfl, _, rfl, _, rfl, _, _, rfl, rfl, _, rfl, bs, b, sA, m, r, ys, nm, _, k, by show [V.ref b, V.ref sA, V.ref m, V.int (((dp + 1 : Nat) : Int) - 1), V.ref r] = _; rw [en], by omega, g4, b4, R4, by omega, fun v1 d1 H5 k' hk _ k5 a5 b5 R5 h1 sm1 => ?_⟩
      refine ⟨by show 3 ≤ sizeLine; decide, fun p7 hp7 => ?_⟩
      generalize e7 : upd H5 p7 _ = H7
      obtain ⟨s7, d7⟩ := nw e7 hp7
      refine q _ _ H7 k' hk trivial ((((k2.trans (Kp.of s3)).trans k4).two.trans k5).trans (Kp.of s7)) (a5.same s7) ((b5.same s7).mono (by omega)) (R5.same s7) (Dd.newT a5 hp7 s7 d7 (.cons (.str _) (.cons (.int _) (.cons h1 .nil)))) ((Sms.tup (.cons ((Sm.str (pl_of "repeat" (by decide +kernel))).mono (Nat.le_refl _) (Nat.zero_le _)) (.cons ((Sm.int (by omega)).mono (Nat.le_refl _) (Nat.zero_le _)) (.one sm1)))).mono ?_ (by omega))
      have z : (tl (Str.ofString "repeat")).length = 6 := rfl
      omega
    refine ⟨_, rfl, _, rfl, _, rfl, _, rfl, ?_⟩
    obtain ⟨o0_, e0_, i0_⟩ := id b2
    refine ⟨_, 3, _, o0_, rfl, e0_, i0_, by omega, by first | decide | omega, by first | decide | omega, fun t o1_ ht i1_ => ?_⟩
    generalize eH_ : upd _ _ o1_ = H3
    obtain ⟨k3, b3, oth3⟩ := tkf eH_ i1_
    clear eH_ i1_ i0_ e0_ o0_
    have g3 := g2.tk k3 b3
    have R3 := R2.tk k3
    have et : (1 : Int) + (t : Int) = ((t + 1 : Nat) : Int) := by omega
    refine ⟨_, _, rfl, rfl, bs, b, sA, m, ys, nm, _, t, by show [V.ref b, V.ref sA, V.ref m, V.int ((1 : Int) + (t : Int))] = _; rw [et], by omega, by omega, g3, b3, by omega, fun v1 d1 H4 k4 a4 b4 h1 ⟨_, sm1⟩ => ?_⟩
    have g4 := g3.kp k4 sub a4
    have R4 := R3.tk k4
    refine ⟨_, rfl, _, rfl, _, rfl, _, rfl, _, _, rfl, rfl, _, rfl, bs, b, sA, m, r, ys, nm, _, k, by show [V.ref b, V.ref sA, V.ref m, V.int (((dp + 1 : Nat) : Int) - 1), V.ref r] = _; rw [en], by omega, g4, b4, R4, by omega, fun v2 d2 H5 k' hk _ k5 a5 b5 R5 h2 sm2 => ?_⟩
    have k05 := ((k2.trans k3).trans k4).two.trans k5
    have h1 := h1.hk k5 sub2
    have g5 := g4.kp k5 sub2 a5
    have zif : (tl (Str.ofString "if")).length = 2 := rfl
    refine ⟨_, rfl, _, rfl, _, rfl, rfl, _, rfl, itb (fun e8 => ?_) fun e8 => ?_⟩
    · refine ⟨_, rfl, _, rfl, _, rfl, _, rfl, _, _, rfl, rfl, _, rfl, bs, b, sA, m, r, ys, nm, _, k', by show [V.ref b, V.ref sA, V.ref m, V.int (((dp + 1 : Nat) : Int) - 1), V.ref r] = _; rw [en], by omega, g5, b5, R5, by omega, fun v3 d3 H6 k'' hk2 _ k6 a6 b6 R6 h3 sm3 => ?_⟩
      refine ⟨by show 4 ≤ sizeLine; decide, fun p7 hp7 => ?_⟩
      generalize e7 : upd H6 p7 _ = H7
      obtain ⟨s7, d7⟩ := nw e7 hp7
      refine q _ _ H7 k'' (Nat.le_trans hk2 hk) trivial ((k05.trans k6).trans (Kp.of s7)) (a6.same s7) ((b6.same s7).mono (by omega)) (R6.same s7) (Dd.newT a6 hp7 s7 d7 (.cons (.str _) (.cons (h1.hk k6 sub2) (.cons (h2.hk k6 sub2) (.cons h3 .nil))))) ((Sms.tup (e := 2 * dp + 6) (.cons ((Sm.str (pl_of "if" (by decide +kernel))).mono (Nat.le_refl _) (Nat.zero_le _)) (.cons (sm1.mono (Nat.le_refl _) (by omega)) (.cons sm2 (.one sm3))))).mono (by omega) (by omega))
    · refine ⟨by show 0 ≤ sizeLine; decide, fun p6 hp6 => ?_⟩
      generalize e6 : upd H5 p6 _ = H6
      obtain ⟨s6, d6⟩ := nw e6 hp6
      refine ⟨by show 4 ≤ sizeLine; decide, fun p7 hp7 => ?_⟩
      generalize e7 : upd H6 p7 _ = H7
      obtain ⟨s7, d7⟩ := nw e7 hp7
      refine q _ _ H7 k' hk trivial ((k05.trans (Kp.of s6)).trans (Kp.of s7)) ((a5.same s6).same s7) (((b5.same s6).same s7).mono (by omega)) ((R5.same s6).same s7) (Dd.newT (a5.same s6) hp7 s7 d7 (.cons (.str _) (.cons (h1.hs s6) (.cons (h2.hs s6) (.cons (Dd.newL a5 hp6 s6 d6 .nil) .nil))))) ((Sms.tup (e := 2 * dp + 6) (.cons ((Sm.str (pl_of "if" (by decide +kernel))).mono (Nat.le_refl _) (Nat.zero_le _)) (.cons (sm1.mono (Nat.le_refl _) (by omega)) (.cons sm2 (.one ((Sms.lst (e := 0) .nil).mono (Nat.le_refl _) (by omega))))))).mono (by omega) (by omega))
  · have n0 : nm = [] := by
      cases nm with
      | nil => rfl
      | cons _ _ => cases e3
    have hd : 2 ≤ dp + 1 := hd.resolve_left (fun z => z n0)
    refine ⟨_, rfl, rfl, _, rfl, itb (fun e5 => ?_) fun e5 => ?_⟩
    · refine ⟨by show 4 ≤ sizeLine; decide, fun p3 hp3 => ?_⟩
      generalize ee3 : upd H2 p3 _ = H3
      obtain ⟨s3, d3⟩ := nw ee3 hp3
      have b3 := b2.same s3
      have nb : p3 ≠ b := fun z => b2.ne hp3 z.symm
      refine ⟨_, rfl, ?_⟩
      obtain ⟨o0_, e0_, i0_⟩ := id b3
      refine ⟨_, 4, _, o0_, rfl, e0_, i0_, by omega, by first | decide | omega, by first | decide | omega, fun t o1_ ht i1_ => ?_⟩
      generalize eH_ : upd _ _ o1_ = H4
      obtain ⟨k4, b4, oth4⟩ := tkf eH_ i1_
      clear eH_ i1_ i0_ e0_ o0_
      obtain ⟨x, mx, ex⟩ := menu [0, 9, 1, 3] (d := t) ht
      have xs : x ≤ 9 := (by decide : ∀ m ∈ [0, 9, 1, 3], m ≤ 9) x mx
      refine ⟨p3, _, _, _, rfl, rfl, SqL.of ((oth4 p3 nb).trans d3), ex, ?_⟩
      have g4 := (g2.same s3).tk k4 b4
      have R4 := (R2.same s3).tk k4
      refine ⟨_, rfl, _, rfl, _, rfl, _, rfl, _, rfl, _, _, rfl, rfl, _, rfl, bs, b, sA, m, r, ys, nm, _, k, by show [V.ref b, V.ref sA, V.ref m, V.int (((dp + 1 : Nat) : Int) - 1), V.ref r] = _; rw [en], by omega, g4, b4, R4, by omega, fun v1 d1 H5 k' hk _ k5 a5 b5 R5 h1 sm1 => ?_⟩
      refine ⟨by show 3 ≤ sizeLine; decide, fun p7 hp7 => ?_⟩
      generalize e7 : upd H5 p7 _ = H7
      obtain ⟨s7, d7⟩ := nw e7 hp7
      refine q _ _ H7 k' hk trivial ((((k2.trans (Kp.of s3)).trans k4).two.trans k5).trans (Kp.of s7)) (a5.same s7) ((b5.same s7).mono (by omega)) (R5.same s7) (Dd.newT a5 hp7 s7 d7 (.cons (.str _) (.cons (.int _) (.cons h1 .nil)))) ((Sms.tup (.cons ((Sm.str (pl_of "repeat" (by decide +kernel))).mono (Nat.le_refl _) (Nat.zero_le _)) (.cons ((Sm.int (by omega)).mono (Nat.le_refl _) (Nat.zero_le _)) (.one sm1)))).mono ?_ (by omega))
      have z : (tl (Str.ofString "repeat")).length = 6 := rfl
      omega
    refine ⟨_, rfl, _, rfl, _, rfl, _, rfl, ?_⟩
    obtain ⟨o0_, e0_, i0_⟩ := id b2
    refine ⟨_, 3, _, o0_, rfl, e0_, i0_, by omega, by first | decide | omega, by first | decide | omega, fun t o1_ ht i1_ => ?_⟩
    generalize eH_ : upd _ _ o1_ = H3
    obtain ⟨k3, b3, oth3⟩ := tkf eH_ i1_
    clear eH_ i1_ i0_ e0_ o0_
    have g3 := g2.tk k3 b3
    have R3 := R2.tk k3
    have et : (1 : Int) + (t : Int) = ((t + 1 : Nat) : Int) := by omega
    refine ⟨_, _, rfl, rfl, bs, b, sA, m, ys, nm, _, t, by show [V.ref b, V.ref sA, V.ref m, V.int ((1 : Int) + (t : Int))] = _; rw [et], by omega, by omega, g3, b3, by omega, fun v1 d1 H4 k4 a4 b4 h1 ⟨_, sm1⟩ => ?_⟩
    have g4 := g3.kp k4 sub a4
    have R4 := R3.tk k4
    refine ⟨_, rfl, _, rfl, _, rfl, _, rfl, _, _, rfl, rfl, _, rfl, bs, b, sA, m, r, ys, nm, _, k, by show [V.ref b, V.ref sA, V.ref m, V.int (((dp + 1 : Nat) : Int) - 1), V.ref r] = _; rw [en], by omega, g4, b4, R4, by omega, fun v2 d2 H5 k' hk _ k5 a5 b5 R5 h2 sm2 => ?_⟩
    have k05 := ((k2.trans k3).trans k4).two.trans k5
    have h1 := h1.hk k5 sub2
    have g5 := g4.kp k5 sub2 a5
    have zif : (tl (Str.ofString "if")).length = 2 := rfl
    refine ⟨_, rfl, _, rfl, _, rfl, rfl, _, rfl, itb (fun e8 => ?_) fun e8 => ?_⟩
    · refine ⟨_, rfl, _, rfl, _, rfl, _, rfl, _, _, rfl, rfl, _, rfl, bs, b, sA, m, r, ys, nm, _, k', by show [V.ref b, V.ref sA, V.ref m, V.int (((dp + 1 : Nat) : Int) - 1), V.ref r] = _; rw [en], by omega, g5, b5, R5, by omega, fun v3 d3 H6 k'' hk2 _ k6 a6 b6 R6 h3 sm3 => ?_⟩
      refine ⟨by show 4 ≤ sizeLine; decide, fun p7 hp7 => ?_⟩
      generalize e7 : upd H6 p7 _ = H7
      obtain ⟨s7, d7⟩ := nw e7 hp7
      refine q _ _ H7 k'' (Nat.le_trans hk2 hk) trivial ((k05.trans k6).trans (Kp.of s7)) (a6.same s7) ((b6.same s7).mono (by omega)) (R6.same s7) (Dd.newT a6 hp7 s7 d7 (.cons (.str _) (.cons (h1.hk k6 sub2) (.cons (h2.hk k6 sub2) (.cons h3 .nil))))) ((Sms.tup (e := 2 * dp + 6) (.cons ((Sm.str (pl_of "if" (by decide +kernel))).mono (Nat.le_refl _) (Nat.zero_le _)) (.cons (sm1.mono (Nat.le_refl _) (by omega)) (.cons sm2 (.one sm3))))).mono (by omega) (by omega))
    · refine ⟨by show 0 ≤ sizeLine; decide, fun p6 hp6 => ?_⟩
      generalize e6 : upd H5 p6 _ = H6
      obtain ⟨s6, d6⟩ := nw e6 hp6
      refine ⟨by show 4 ≤ sizeLine; decide, fun p7 hp7 => ?_⟩
      generalize e7 : upd H6 p7 _ = H7
      obtain ⟨s7, d7⟩ := nw e7 hp7
      refine q _ _ H7 k' hk trivial ((k05.trans (Kp.of s6)).trans (Kp.of s7)) ((a5.same s6).same s7) (((b5.same s6).same s7).mono (by omega)) ((R5.same s6).same s7) (Dd.newT (a5.same s6) hp7 s7 d7 (.cons (.str _) (.cons (h1.hs s6) (.cons (h2.hs s6) (.cons (Dd.newL a5 hp6 s6 d6 .nil) .nil))))) ((Sms.tup (e := 2 * dp + 6) (.cons ((Sm.str (pl_of "if" (by decide +kernel))).mono (Nat.le_refl _) (Nat.zero_le _)) (.cons (sm1.mono (Nat.le_refl _) (by omega)) (.cons sm2 (.one ((Sms.lst (e := 0) .nil).mono (Nat.le_refl _) (by omega))))))).mono (by omega) (by omega))
end
end NH
set_option maxHeartbeats 4000000
namespace NH
open PySem PySem.Spec PyProof.Rows L2 TL
/-- small data, one behind the other -/
structure Sl (k e : Nat) (ds : List D) : Prop where
  fit : D.clns ds
  sz : D.szs ds ≤ k
  dep : D.deps ds ≤ e
theorem Sl.nil {k e : Nat} : Sl k e [] := ⟨trivial, Nat.zero_le _, Nat.zero_le _⟩
theorem Sl.app {e : Nat} : ∀ {k j : Nat} {ds es : List D}, Sl k e ds → Sl j e es → Sl (k + j) e (ds ++ es)
  | k, j, [], es, _, h => ⟨h.fit, Nat.le_trans h.sz (Nat.le_add_left ..), h.dep⟩
  | k, j, d :: ds, es, h, g => by
    have a := h.sz
    have b := h.dep
    have a : d.sz + D.szs ds ≤ k := a
    have b : max d.dep (D.deps ds) ≤ e := b
    have z := Sl.app (k := k - d.sz) (ds := ds) (es := es) ⟨h.fit.2, by omega, by omega⟩ g
    refine ⟨⟨h.fit.1, z.fit⟩, ?_, ?_⟩
    · have y := z.sz
      show d.sz + D.szs (ds ++ es) ≤ k + j
      omega
    · have y := z.dep
      show max d.dep (D.deps (ds ++ es)) ≤ e
      omega
theorem Sl.one {k e : Nat} {d : D} (h : Sm k e d) : Sl k e [d] := ⟨⟨h.fit, trivial⟩, by have := h.sz; show d.sz + 0 ≤ k; omega, by have := h.dep; show max d.dep 0 ≤ e; omega⟩
theorem Sl.mono {k e j f : Nat} {ds : List D} (s : Sl k e ds) (h : k ≤ j) (g : e ≤ f) : Sl j f ds := ⟨s.fit, Nat.le_trans s.sz h, Nat.le_trans s.dep g⟩
theorem Sl.lst {k e : Nat} {ds : List D} (h : Sl k e ds) : Sm (1 + k) (e + 1) (.lst ds) := ⟨h.fit, Nat.add_le_add_left h.sz 1, Nat.add_le_add_right h.dep 1⟩
theorem Al.upd {bs : List Addr} {H : Hp} {l : Addr} {o : HO} (h : Al bs H) : Al bs (upd H l o) := fun a z => by
  by_cases e : a = l
  · exact ⟨o, by rw [e]; exact upd_same⟩
  · rw [upd_ne e]; exact h a z
theorem DdL.app {H : Hp} : ∀ {xs ys : List V} {ds es : List D}, DdL H xs ds → DdL H ys es → DdL H (xs ++ ys) (ds ++ es)
  | _, _, _, _, .nil, h => h
  | _, _, _, _, .cons a t, h => .cons a (DdL.app t h)
section
variable {P : Program} {w : World} {K : PySem.W.Frag} {mg : Str → Option Value} {base : Heap}
theorem ok_law_steps0 (k : Nat) (DA : DefAt K mg "_law_steps" s_law_steps) : Callee P w K mg base (k + 1) "_law_steps" ["box", "sides", "names", "deep", "room"] (spSt 0) :=
  callee (k := k) DA sc_law_steps (fun _ _ _ _ h => by obtain ⟨_, _, _, _, _, _, _, _, _, _, z, _⟩ := h; exact absurd z (by decide)) (fun _ _ _ _ _ _ us hl => match us, hl with | [_, _, _, _, _], _ => rfl) fun _ _ _ _ _ _ _ _ _ _ h => by obtain ⟨_, _, _, _, _, _, _, _, _, _, z, _⟩ := h; exact absurd z (by decide)
theorem ok_law_steps (dp : Nat) (G : Bl mg) (DA : DefAt K mg "_law_steps" s_law_steps) (cT : Callee P w K mg base 2 "_law_take" ["box", "many"] spTake) (cIt : Callee P w K mg base (9 + 2 * dp) "_law_item" ["box", "sides", "names", "deep", "room"] (spIt (dp + 1))) :
    Callee P w K mg base (8 + 2 * (dp + 1)) "_law_steps" ["box", "sides", "names", "deep", "room"] (spSt (dp + 1)) := by
  rw [show 8 + 2 * (dp + 1) = (9 + 2 * dp) + 1 by omega]
  refine callee DA sc_law_steps (fun vs H Q E h => by obtain ⟨_, _, _, _, _, _, _, _, _, rfl, _⟩ := h; rfl) (fun _ _ _ _ _ _ us hl => match us, hl with | [_, _, _, _, _], _ => rfl) fun f cdv A outer s H vs Q E hr h => ?_
  obtain ⟨bs, b, sA, m, r, ys, nm, n, k, rfl, hd, g, hb, hR, hn, q⟩ := h
  refine ⟨_, (pss_cons (ps_set (i := 5) sc_law_steps.nd rfl (Or.inl rfl) (pe_callB (call_min2 rfl) (by rfl) G.b_min (by decide +kernel) (pa_cons (pe_ix ix_list (pv 4) pe_int (fun _ _ => rfl)) (pa_cons (pe_ix ix_list (pe_lst (pa_cons pe_int (pa_cons pe_int (pa_cons pe_int (pa_cons pe_int (pa_cons pe_int (pa_cons pe_int pa_nil))))))) (pe_cal cT hr (by omega) (pa_cons (pv 0) (pa_cons pe_int pa_nil))) (fun _ _ => rfl)) pa_nil))))
    (pss_cons (ps_if (PW.pt (pw_and (pt_cmpR op_lt (pv 3) pe_int (nomark _)) (pw_and1 (pt_cmpR (op_eqD hr.units) (pv 2) (pe_lst pa_nil) (nomark _))))) (pss_one (ps_ret (pe_lst pa_nil))) pss_nil)
    (pss_cons (ps_asg (pe_op op_sub (pe_ix ix_list (pv 4) pe_int (fun _ _ => rfl)) (pv 5)) (pg_sub (pv 4) pe_int set_list))
    (pss_one (ps_ret (pe_lc (own := [("k", 6)]) (g := gName 6) rfl sc_law_steps.nd (pi_range1 (by rfl) G.b_range (pa_cons (pv 5) pa_nil)) (blkOk_by (N := ["box", "sides", "names", "deep", "room", "many", "k"]) (sc := defScope s_law_steps) (by decide +kernel)) (fun _ _ _ _ _ => (pg_name (i := 6) sc_law_steps.nd rfl (Or.inl rfl))) (fun _ _ _ _ _ => pts_nil) (fun _ _ _ _ _ => (pe_cal cIt hr (by omega) (pa_cons (pv 0) (pa_cons (pv 1) (pa_cons (pv 2) (pa_cons (pv 3) (pa_cons (pv 4) pa_nil))))))))))))), ?_⟩
  have sub : ∀ a ∈ [b], a ∈ bs := fun a z => by rw [List.mem_singleton.mp z]; exact g.inb
  have sub2 : ∀ a ∈ [b, r], a ∈ bs := fun a z => by
    rcases List.mem_cons.mp z with rfl | z
    · exact g.inb
    · rw [List.mem_singleton.mp z]; exact hR.1
  refine ⟨_, rfl, r, _, 0, _, rfl, rfl, SqL.of hR.2.2, rfl, by show 6 ≤ sizeLine; decide, fun p1 h1 => ?_⟩
  generalize e1 : upd H p1 _ = H1
  obtain ⟨s1, d1⟩ := nw e1 h1
  have b1 := hb.same s1
  have nb : p1 ≠ b := fun z => hb.ne h1 z.symm
  refine ⟨_, rfl, ?_⟩
  obtain ⟨o0_, e0_, i0_⟩ := id b1
  refine ⟨_, 6, _, o0_, rfl, e0_, i0_, by omega, by first | decide | omega, by first | decide | omega, fun t o1_ ht i1_ => ?_⟩
  generalize eH_ : upd _ _ o1_ = H2
  obtain ⟨k2, b2, oth2⟩ := tkf eH_ i1_
  clear eH_ i1_ i0_ e0_ o0_
  obtain ⟨x, mx, ex⟩ := menu [0, 1, 2, 6, 3, 6] (d := t) ht
  have xs : x ≤ 6 := (by decide : ∀ m ∈ [0, 1, 2, 6, 3, 6], m ≤ 6) x mx
  refine ⟨p1, _, _, _, rfl, rfl, SqL.of ((oth2 p1 nb).trans d1), ex, ?_⟩
  have g2 := (g.same s1).tk k2 b2
  have R2 := (hR.same s1).tk k2
  have k02 := (Kp.of s1).trans k2
  obtain ⟨mm, em, mk, m6⟩ : ∃ mm : Nat, (if (x : Int) < (k : Int) then (x : Int) else k) = (mm : Int) ∧ mm ≤ k ∧ mm ≤ 6 := by
    by_cases y : (x : Int) < (k : Int)
    · exact ⟨x, if_pos y, by omega, xs⟩
    · exact ⟨k, if_neg y, Nat.le_refl _, by omega⟩
  refine ⟨_, _, rfl, ?_⟩
  rw [em]
  refine ⟨_, rfl, _, _, rfl, rfl, _, rfl, itd (fun e4 => ?_) fun e4 => ?_⟩
  · refine ⟨_, rfl, by show 0 ≤ sizeLine; decide, fun p hp => ?_⟩
    generalize e3 : upd H2 p _ = H3
    obtain ⟨s3, d3⟩ := nw e3 hp
    have g3 := g2.same s3
    have b3 := b2.same s3
    have R3 := R2.same s3
    have k03 := k02.trans (Kp.of s3)
    refine ⟨_, .list [], dp_names g3.mh, .lst (SqL.of d3) .nil, names_shaped g3.np, rfl, _, rfl, ?_⟩
    rw [names_eqv]
    refine itb (fun e5 => ?_) fun e5 => ?_
    · refine ⟨by show 0 ≤ sizeLine; decide, fun p6 hp6 => ?_⟩
      generalize e6 : upd H3 p6 _ = H6
      obtain ⟨s6, d6⟩ := nw e6 hp6
      exact q _ _ H6 k (Nat.le_refl _) ⟨_, rfl⟩ (k03.trans (Kp.of s6)).two (g3.al.same s6) ((b3.same s6).mono (by omega)) (R3.same s6) (Dd.newL g3.al hp6 s6 d6 .nil) ((Sl.nil (k := 0) (e := 0)).lst.mono (by omega) (by omega))
    have fact : nm ≠ [] ∨ 2 ≤ dp + 1 := .inl fun z => by subst z; cases e5
    refine ⟨_, rfl, r, _, 0, _, rfl, rfl, SqL.of R3.2.2, rfl, _, rfl, _, _, rfl, rfl, _, rfl, r, _, 0, 0, rfl, rfl, R3.2.2, rfl, ?_⟩
    generalize eR : upd H3 r _ = H4
    have d4 : H4 r = some (.lst [.int ((k - mm : Nat) : Int)]) := by
      rw [← eR, upd_same]
      show some (HO.lst [V.int ((k : Int) - (mm : Int))]) = _
      rw [show (k : Int) - (mm : Int) = ((k - mm : Nat) : Int) by omega]
    have k4 : Kp [b, r] H3 H4 := by rw [← eR]; exact Kp.atb (by simp)
    have a4 : Al bs H4 := by rw [← eR]; exact g3.al.upd
    have b4 : Bx b (n + 1) H4 := by rw [← eR]; exact b3.put (Ne.symm hR.2.1)
    have g4 := g3.kp k4 sub2 a4
    refine ⟨_, rfl, mm, rfl, by omega, by omega, fun l hl => ?_⟩
    have lr : l ≠ r := fun z => by rw [z, d4] at hl; cases hl
    have lb : l ≠ b := fun z => b4.ne hl z.symm
    have lo : l ∉ [b, r] := by simp [lr, lb]
    have k04 : Kp [b, r] H H4 := (k03.two.trans k4)
    refine lc_range (lo := 0) (n := mm) (fun i H' => ∃ (xs : List V) (ds : List D) (k' : Nat), xs.length = i ∧ k' ≤ k - mm ∧ Kp [b, r] H4 H' ∧ Gn (l :: bs) b sA m ys nm H' ∧ Bx b (n + 1 + 100 * i + 200 * (k - mm - k')) H' ∧ Rm (l :: bs) b r k' H' ∧ H' l = some (.lst xs) ∧ DdL (hid (l :: bs) H') xs ds ∧ Sl (300 * i + 300 * (k - mm - k')) (2 * dp + 7) ds)
      ⟨[], [], k - mm, rfl, Nat.le_refl _, Kp.new hl, g4.more hl (same_new hl) upd_same, (b4.same (same_new hl)).mono (by omega), ⟨List.mem_cons_of_mem _ hR.1, hR.2.1, same_new hl _ _ d4⟩, upd_same, .nil, .nil⟩ ?_ ?_
    · rintro i H5 hi ⟨xs, ds, k', lx, hk', k5, g5, b5, R5, d5, hds, sm⟩
      refine ⟨rfl, tyes ?_⟩
      refine iteT ?_
      refine ⟨_, rfl, _, rfl, _, rfl, _, rfl, _, rfl, l :: bs, b, sA, m, r, ys, nm, _, k', rfl, fact, g5, b5, R5, by omega, fun v d H6 k'' hk'' _ k6 a6 b6 R6 hd6 sm6 => ?_⟩
      have d6 : H6 l = some (.lst xs) := k6 _ _ lo d5
      refine ⟨xs, d6, small1000 (by omega), xs ++ [v], ds ++ [d], k'', by rw [List.length_append, lx]; rfl, by omega, (k5.trans k6).put hl, ?_, ?_, ?_, upd_same, ?_, ?_⟩
      · have g6 := g5.kp k6 (fun a z => List.mem_cons_of_mem _ (sub2 a z)) a6
        exact g6.kp (cs := [l]) (Kp.atb (by simp)) (by simp) a6.upd
      · exact (b6.put (Ne.symm lb)).mono (by omega)
      · exact ⟨R6.1, R6.2.1, by rw [upd_ne (Ne.symm lr)]; exact R6.2.2⟩
      · have kl : Kp (l :: bs) H6 (upd H6 l (.lst (xs ++ [v]))) := Kp.atb (by simp)
        exact ((hds.same (Kp.hid (k6.mono fun a z => List.mem_cons_of_mem _ (sub2 a z)))).app (.cons hd6 .nil)).same (Kp.hid kl)
      · exact (sm.app (.one (sm6.mono (Nat.le_refl _) (by omega)))).mono (by omega) (Nat.le_refl _)
    · rintro H5 ⟨xs, ds, k', lx, hk', k5, g5, b5, R5, d5, hds, sm⟩
      refine q _ _ H5 k' (by omega) ⟨_, rfl⟩ (k04.trans k5) (fun a z => g5.al a (List.mem_cons_of_mem _ z)) (b5.mono (by omega)) ⟨hR.1, hR.2.1, R5.2.2⟩ (.lst (by rw [hid_out (a4.new hl)]; exact d5) (hds.same hid_more)) (sm.lst.mono (by omega) (by omega))
  · have fact : nm ≠ [] ∨ 2 ≤ dp + 1 := .inr (by omega)
    obtain ⟨H3, eH⟩ : ∃ H3, H3 = H2 := ⟨_, rfl⟩
    subst eH
    have g3 := g2
    have b3 := b2
    have R3 := R2
    have k03 := k02
    refine ⟨_, rfl, r, _, 0, _, rfl, rfl, SqL.of R3.2.2, rfl, _, rfl, _, _, rfl, rfl, _, rfl, r, _, 0, 0, rfl, rfl, R3.2.2, rfl, ?_⟩
    generalize eR : upd H3 r _ = H4
    have d4 : H4 r = some (.lst [.int ((k - mm : Nat) : Int)]) := by
      rw [← eR, upd_same]
      show some (HO.lst [V.int ((k : Int) - (mm : Int))]) = _
      rw [show (k : Int) - (mm : Int) = ((k - mm : Nat) : Int) by omega]
    have k4 : Kp [b, r] H3 H4 := by rw [← eR]; exact Kp.atb (by simp)
    have a4 : Al bs H4 := by rw [← eR]; exact g3.al.upd
    have b4 : Bx b (n + 1) H4 := by rw [← eR]; exact b3.put (Ne.symm hR.2.1)
    have g4 := g3.kp k4 sub2 a4
    refine ⟨_, rfl, mm, rfl, by omega, by omega, fun l hl => ?_⟩
    have lr : l ≠ r := fun z => by rw [z, d4] at hl; cases hl
    have lb : l ≠ b := fun z => b4.ne hl z.symm
    have lo : l ∉ [b, r] := by simp [lr, lb]
    have k04 : Kp [b, r] H H4 := (k03.two.trans k4)
    refine lc_range (lo := 0) (n := mm) (fun i H' => ∃ (xs : List V) (ds : List D) (k' : Nat), xs.length = i ∧ k' ≤ k - mm ∧ Kp [b, r] H4 H' ∧ Gn (l :: bs) b sA m ys nm H' ∧ Bx b (n + 1 + 100 * i + 200 * (k - mm - k')) H' ∧ Rm (l :: bs) b r k' H' ∧ H' l = some (.lst xs) ∧ DdL (hid (l :: bs) H') xs ds ∧ Sl (300 * i + 300 * (k - mm - k')) (2 * dp + 7) ds)
      ⟨[], [], k - mm, rfl, Nat.le_refl _, Kp.new hl, g4.more hl (same_new hl) upd_same, (b4.same (same_new hl)).mono (by omega), ⟨List.mem_cons_of_mem _ hR.1, hR.2.1, same_new hl _ _ d4⟩, upd_same, .nil, .nil⟩ ?_ ?_
    · rintro i H5 hi ⟨xs, ds, k', lx, hk', k5, g5, b5, R5, d5, hds, sm⟩
      refine ⟨rfl, tyes ?_⟩
      refine iteT ?_
      refine ⟨_, rfl, _, rfl, _, rfl, _, rfl, _, rfl, l :: bs, b, sA, m, r, ys, nm, _, k', rfl, fact, g5, b5, R5, by omega, fun v d H6 k'' hk'' _ k6 a6 b6 R6 hd6 sm6 => ?_⟩
      have d6 : H6 l = some (.lst xs) := k6 _ _ lo d5
      refine ⟨xs, d6, small1000 (by omega), xs ++ [v], ds ++ [d], k'', by rw [List.length_append, lx]; rfl, by omega, (k5.trans k6).put hl, ?_, ?_, ?_, upd_same, ?_, ?_⟩
      · have g6 := g5.kp k6 (fun a z => List.mem_cons_of_mem _ (sub2 a z)) a6
        exact g6.kp (cs := [l]) (Kp.atb (by simp)) (by simp) a6.upd
      · exact (b6.put (Ne.symm lb)).mono (by omega)
      · exact ⟨R6.1, R6.2.1, by rw [upd_ne (Ne.symm lr)]; exact R6.2.2⟩
      · have kl : Kp (l :: bs) H6 (upd H6 l (.lst (xs ++ [v]))) := Kp.atb (by simp)
        exact ((hds.same (Kp.hid (k6.mono fun a z => List.mem_cons_of_mem _ (sub2 a z)))).app (.cons hd6 .nil)).same (Kp.hid kl)
      · exact (sm.app (.one (sm6.mono (Nat.le_refl _) (by omega)))).mono (by omega) (Nat.le_refl _)
    · rintro H5 ⟨xs, ds, k', lx, hk', k5, g5, b5, R5, d5, hds, sm⟩
      refine q _ _ H5 k' (by omega) ⟨_, rfl⟩ (k04.trans k5) (fun a z => g5.al a (List.mem_cons_of_mem _ z)) (b5.mono (by omega)) ⟨hR.1, hR.2.1, R5.2.2⟩ (.lst (by rw [hid_out (a4.new hl)]; exact d5) (hds.same hid_more)) (sm.lst.mono (by omega) (by omega))
end
end NH
set_option maxHeartbeats 4000000
namespace NH
open PySem PySem.Spec PyProof.Rows L2 TL
/-- a list of data, one built behind the other -/
theorem lcGen {J : It} {Gd : Hp → Prop} {Y : Nat → Hp → V → Hp → Prop} {N : Nat} {bs cs : List Addr} {i0 : Nat} {te : TE} {vs : List Nat} {σ : L2.St} {H1 : Hp} {l : Addr} {Qd : Hp → Prop} {c e : Nat} (w : Walk J N Gd Y) (S : Nat → Hp → Prop) (hl : H1 l = none) (al : Al bs H1) (sub : ∀ a ∈ cs, a ∈ bs) (small : N ≤ 1000)
    (hG : ∀ H', Kp (l :: cs) H1 H' → Gd H') (hY : ∀ i H x H', Y i H x H' → H' = H) (h0 : ∀ o, S 0 (upd H1 l o)) (stab : ∀ i H' o, S i H' → S i (upd H' l o))
    (hw : ∀ x, wipe ((wipe σ vs).set i0 (some x)) vs = wipe σ vs)
    (ht : ∀ i x H', i < N → Y i H' x H' → Kp cs H1 H' → Al (l :: bs) H' → S i H' → ∀ F : VK, (∀ v d H'', Kp cs H' H'' → Al (l :: bs) H'' → Dd (hid (l :: bs) H'') v d → Sm c e d → S (i + 1) H'' → F v H'') → te ((wipe σ vs).set i0 (some x)) H' F)
    (hd : ∀ xs ds H', xs.length = N → Kp cs H1 H' → Al (l :: bs) H' → S N H' → H' l = some (.lst xs) → DdL (hid (l :: bs) H') xs ds → Sl (c * N) e ds → Qd H') :
    ∃ W : Nat → Nat → Hp → Prop, (∃ m, W 0 m (upd H1 l (.lst []))) ∧ ∀ i m H, W i m H → (J.stop i H ∧ Qd H) ∨ (J.go i H ∧ ∃ Nx : Hp → Prop, (∀ H', Nx H' → ∃ m', m' < m ∧ W (i + 1) m' H') ∧ ∀ x H', J.yld i H x H' → gName i0 x (wipe σ vs) H' fun σ2 H2 => wipe σ2 vs = wipe σ vs ∧ tYes σ2 H2 fun b H3 =>
      if b = true then te σ2 H3 fun y H4 => ∃ acc, H4 l = some (.lst acc) ∧ acc.length < sizeLine ∧ Nx (upd H4 l (.lst (acc ++ [y]))) else Nx H3) := by
  have lb := al.new hl
  have lc : l ∉ cs := fun z => lb (sub _ z)
  have wide : ∀ {H H' : Hp}, Kp cs H H' → Kp (l :: cs) H H' := fun k => k.mono fun a z => List.mem_cons_of_mem _ z
  refine lc_it (g := gName i0) (tt := tYes) w (fun i H' => ∃ (xs : List V) (ds : List D), xs.length = i ∧ Kp cs H1 H' ∧ Al (l :: bs) H' ∧ S i H' ∧ H' l = some (.lst xs) ∧ DdL (hid (l :: bs) H') xs ds ∧ Sl (c * i) e ds)
    ⟨[], [], rfl, Kp.new hl, ?_, h0 _, upd_same, .nil, .nil⟩ (fun _ H' _ ⟨_, _, _, k, _⟩ => hG H' (wide k)) ?_ ?_
  · intro a z
    rcases List.mem_cons.mp z with rfl | z
    · exact ⟨_, upd_same⟩
    · exact al.upd a z
  · rintro i x H2 H2' hi ⟨xs, ds, lx, k2, a2, s2, d2, hds, sm⟩ y
    have eH := hY _ _ _ _ y
    subst eH
    refine ⟨hw x, tyes ?_⟩
    refine iteT ?_
    refine ht i x H2' hi y k2 a2 s2 _ fun v d H3 k3 a3 h3 sm3 s3 => ?_
    refine ⟨xs, k3 _ _ lc d2, small1000 (by omega), xs ++ [v], ds ++ [d], by rw [List.length_append, lx]; rfl, (k2.trans k3).put hl, a3.upd, stab _ _ _ s3, upd_same, ?_, ?_⟩
    · have kl : Kp (l :: bs) H3 (upd H3 l (.lst (xs ++ [v]))) := Kp.atb (by simp)
      exact ((hds.same (Kp.hid (k3.mono fun a z => List.mem_cons_of_mem _ (sub a z)))).app (.cons h3 .nil)).same (Kp.hid kl)
    · exact (sm.app (.one sm3)).mono (by rw [Nat.mul_succ]; exact Nat.le_refl _) (Nat.le_refl _)
  · rintro H2 ⟨xs, ds, lx, k2, a2, s2, d2, hds, sm⟩
    exact hd xs ds H2 lx k2 a2 s2 d2 hds sm
end NH
set_option maxHeartbeats 4000000
namespace NH
open PySem PySem.Spec PyProof.Rows L2 TL
theorem hid_new {bs cs : List Addr} {H H' : Hp} {l : Addr} (hl : H l = none) (k : Kp cs H H') (sub : ∀ a ∈ cs, a ∈ bs) : Same (hid bs H) (hid (l :: bs) H') := fun a o h => by
  obtain ⟨n1, e⟩ := hid_some h
  have na : a ≠ l := fun z => by rw [z, hl] at e; cases e
  rw [hid_out (by simp [na, n1])]
  exact k a o (fun z => n1 (sub a z)) e
theorem DdL.rep {H : Hp} {xs : List V} {ds : List D} (h : DdL H xs ds) : ∀ k, DdL H (List.replicate k xs).flatten (List.replicate k ds).flatten
  | 0 => .nil
  | k + 1 => by rw [List.replicate_succ, List.replicate_succ, List.flatten_cons, List.flatten_cons]; exact h.app (h.rep k)
theorem Sl.rep {c e : Nat} {ds : List D} (h : Sl c e ds) : ∀ k, Sl (c * k) e (List.replicate k ds).flatten
  | 0 => .nil
  | k + 1 => by rw [List.replicate_succ, List.flatten_cons, Nat.mul_succ, Nat.add_comm]; exact h.app (h.rep k)
theorem DdL.drop {H : Hp} : ∀ {xs : List V} {ds : List D} (i : Nat), DdL H xs ds → DdL H (xs.drop i) (ds.drop i)
  | _, _, 0, h => h
  | _, _, _ + 1, .nil => .nil
  | _, _, i + 1, .cons _ t => DdL.drop i t
theorem DdL.take {H : Hp} : ∀ {xs : List V} {ds : List D} (i : Nat), DdL H xs ds → DdL H (xs.take i) (ds.take i)
  | _, _, 0, _ => .nil
  | _, _, _ + 1, .nil => .nil
  | _, _, i + 1, .cons h t => .cons h (DdL.take i t)
theorem Sl.tail {c e : Nat} {d : D} {ds : List D} (h : Sl c e (d :: ds)) : Sl c e ds ∧ d.cln ∧ d.sz + D.szs ds ≤ c ∧ d.dep ≤ e :=
  ⟨⟨h.fit.2, Nat.le_trans (Nat.le_add_left ..) h.sz, Nat.le_trans (Nat.le_max_right ..) h.dep⟩, h.fit.1, h.sz, Nat.le_trans (Nat.le_max_left ..) h.dep⟩
theorem Sl.drop {c e : Nat} : ∀ {ds : List D} (i : Nat), Sl c e ds → Sl c e (ds.drop i)
  | _, 0, h => h
  | [], _ + 1, h => h
  | _ :: _, i + 1, h => Sl.drop i h.tail.1
theorem Sl.take {c e : Nat} : ∀ {ds : List D} (i : Nat), Sl c e ds → Sl c e (ds.take i)
  | _, 0, _ => .nil
  | [], _ + 1, h => h
  | d :: ds, i + 1, h => by
    obtain ⟨_, f, z, p⟩ := h.tail
    have y := Sl.take (c := D.szs ds) (ds := ds) i ⟨h.tail.1.fit, Nat.le_refl _, h.tail.1.dep⟩
    exact ⟨⟨f, y.fit⟩, by have q := y.sz; show d.sz + D.szs (ds.take i) ≤ c; omega, by have q := y.dep; show max d.dep (D.deps (ds.take i)) ≤ e; omega⟩
/-- a slice of data -/
theorem DdL.cut {H : Hp} {xs : List V} {ds : List D} {c e : Nat} (h : DdL H xs ds) (s : Sl c e ds) (lo hi : Option Int) : ∃ es, DdL H (cutV xs lo hi) es ∧ Sl c e es :=
  ⟨_, (h.drop _).take _, (s.drop _).take _⟩
theorem DdL.len2 {H : Hp} {xs : List V} {ds : List D} (h : DdL H xs ds) : ds.length = xs.length := h.len.symm
section
variable {P : Program} {w : World} {K : PySem.W.Frag} {mg : Str → Option Value} {base : Heap}
theorem tup_rep {cs : List Addr} {σ : L2.St} {H5 : Hp} {i : Int} {F : VK} (hi : i.natAbs ≤ 900) (al : Al cs H5) (k : ∀ v d H6, Kp [] H5 H6 → Al cs H6 → Dd (hid cs H6) v d → Sm 10 2 d → F v H6) : tTup (tCons (tC (.str "repeat")) (tCons (tC (.int i)) (tCons (tLst tNil) tNil))) σ H5 F := by
  refine ⟨by show 0 ≤ sizeLine; decide, fun p hp => ?_⟩
  generalize e1 : upd H5 p _ = H1
  obtain ⟨s1, d1⟩ := nw e1 hp
  refine ⟨by show 3 ≤ sizeLine; decide, fun p2 hp2 => ?_⟩
  generalize e2 : upd H1 p2 _ = H2
  obtain ⟨s2, d2⟩ := nw e2 hp2
  exact k _ _ H2 (Kp.of (s1.trans s2)) ((al.same s1).same s2) (Dd.newT (al.same s1) hp2 s2 d2 (.cons (.str _) (.cons (.int _) (.cons (Dd.newL al hp s1 d1 .nil) .nil)))) ((Sms.tup (.cons (Sm.mono (Sm.str (pl_of "repeat" (by decide +kernel))) (Nat.le_refl _) (Nat.zero_le _)) (.cons ((Sm.int hi).mono (Nat.le_refl _) (Nat.zero_le _)) (.one (Sl.nil (k := 0) (e := 0)).lst)))).mono (by decide) (by decide))
/-- five items and a test, while more is built beside them -/
structure Five (bs : List Addr) (b l : Addr) (n : Nat) (vt : V) (dt : D) (xs : List V) (ds : List D) (H0 H : Hp) : Prop where
  al : Al bs H
  bx : Bx b n H
  k : Kp [b] H0 H
  l5 : H l = some (.lst xs)
  h5 : DdL (hid bs H) xs ds
  ht : Dd (hid bs H) vt dt
theorem Five.same {bs : List Addr} {b l : Addr} {n : Nat} {vt : V} {dt : D} {xs : List V} {ds : List D} {H0 H H' : Hp} (f : Five bs b l n vt dt xs ds H0 H) (s : Same H H') : Five bs b l n vt dt xs ds H0 H' :=
  ⟨f.al.same s, f.bx.same s, f.k.trans (Kp.of s), s _ _ f.l5, f.h5.hs s, f.ht.hs s⟩
/-- five + five[lo:hi] -/
theorem five_cat {bs : List Addr} {b l : Addr} {n : Nat} {vt : V} {dt : D} {xs : List V} {ds : List D} {H0 H : Hp} {lo hi : Option Int} {F : VK} (f : Five bs b l n vt dt xs ds H0 H) (h5 : xs.length = 5) (sm : Sl 400 2 ds)
    (k : ∀ v d H', Same H H' → Dd (hid bs H') v d → Sm 801 3 d → F v H') : ∀ p, H p = none → rCat (.ref l) (.ref p) (upd H p (.lst (cutV xs lo hi))) F := by
  intro p hp
  generalize e1 : upd H p _ = H1
  obtain ⟨s1, d1⟩ := nw e1 hp
  obtain ⟨es, he, se⟩ := f.h5.cut sm lo hi
  have lc := cutV_length xs lo hi
  refine ⟨l, p, xs, cutV xs lo hi, rfl, rfl, s1 _ _ f.l5, d1, Nat.le_of_lt (small1000 (by omega)), fun p2 hp2 => ?_⟩
  generalize e2 : upd H1 p2 _ = H2
  obtain ⟨s2, d2⟩ := nw e2 hp2
  exact k _ _ H2 (s1.trans s2) (Dd.newL (f.al.same s1) hp2 s2 d2 ((f.h5.app he).hs s1)) ((sm.app se).lst.mono (by decide) (by decide))
abbrev s_law_full : Stmt := top 50
theorem sc_law_full : FnScope ["box", "sides", "names", "more", "inner", "five", "test", "k"] ["box", "sides", "names", "more"] (defScope s_law_full) := ⟨rfl, rfl, rfl, by decide +kernel, rfl, by decide +kernel, by decide +kernel⟩
def spFu : Sp := fun vs H Q _ => ∃ (bs : List Addr) (b s m : Addr) (ys nm : List Str) (n more : Nat), vs = [.ref b, .ref s, .ref m, .int (more : Int)] ∧ more ≤ 2 ∧ Gn bs b s m ys nm H ∧ Bx b n H ∧ n ≤ 400000000 ∧ Bld bs b (n + 300) H Q fun d => D.isL d ∧ Sm 8000 10 d
theorem ok_law_full (G : Bl mg) (DA : DefAt K mg "_law_full" s_law_full) (cPl : Callee P w K mg base 4 "_law_plain" ["box", "sides", "names"] spPl) (cCo : Callee P w K mg base 8 "_law_condition" ["box", "sides", "names", "deep"] (spCo 4)) : Callee P w K mg base 9 "_law_full" ["box", "sides", "names", "more"] spFu := by
  refine callee DA sc_law_full (fun vs H Q E h => by obtain ⟨_, _, _, _, _, _, _, _, rfl, _⟩ := h; rfl) (fun _ _ _ _ _ _ us hl => match us, hl with | [_, _, _, _], _ => rfl) fun f cdv A outer s H vs Q E hr h => ?_
  obtain ⟨bs, b, sA, m, ys, nm, n, more, rfl, hm, g, hb, hn, q⟩ := h
  refine ⟨_, (pss_cons (ps_if (pt_cmpR (op_eqD hr.units) (pv 2) (pe_lst pa_nil) (nomark _)) (pss_cons (ps_set (i := 4) sc_law_full.nd rfl (Or.inr rfl) (pe_lc (own := [("k", 7)]) (g := gName 7) rfl sc_law_full.nd (pi_range1 (by rfl) G.b_range (pa_cons pe_int pa_nil)) (blkOk_by (N := ["box", "sides", "names", "more", "inner", "five", "test", "k"]) (sc := defScope s_law_full) (by decide +kernel)) (fun _ _ _ _ _ => (pg_name (i := 7) sc_law_full.nd rfl (Or.inl rfl))) (fun _ _ _ _ _ => pts_nil) (fun _ _ _ _ _ => (pe_tup (pa_cons pe_str (pa_cons pe_int (pa_cons (pe_lst pa_nil) pa_nil)))))))
    (pss_one (ps_ret (pe_op op_cat (pe_lc (own := [("k", 7)]) (g := gName 7) rfl sc_law_full.nd (pi_range1 (by rfl) G.b_range (pa_cons pe_int pa_nil)) (blkOk_by (N := ["box", "sides", "names", "more", "inner", "five", "test", "k"]) (sc := defScope s_law_full) (by decide +kernel)) (fun _ _ _ _ _ => (pg_name (i := 7) sc_law_full.nd rfl (Or.inl rfl))) (fun _ _ _ _ _ => pts_nil) (fun _ _ _ _ _ => (pe_tup (pa_cons pe_str (pa_cons pe_int (pa_cons (pv 4) pa_nil)))))) (pe_op op_rep (pe_lst (pa_cons (pe_tup (pa_cons pe_str (pa_cons pe_int (pa_cons (pe_lst pa_nil) pa_nil)))) pa_nil)) (pv 3)))))) pss_nil)
    (pss_cons (ps_setLc (i := 5) (own := [("k", 7)]) (g := gName 7) rfl sc_law_full.nd rfl rfl (sw_true rfl rfl rfl (by decide +kernel)) (pi_range1 (by rfl) G.b_range (pa_cons pe_int pa_nil)) (blkOk_by (N := ["box", "sides", "names", "more", "inner", "five", "test", "k"]) (sc := defScope s_law_full) (by decide +kernel)) (fun _ _ _ _ _ => (pg_name (i := 7) sc_law_full.nd rfl (Or.inl rfl))) (fun _ _ _ _ _ => pts_nil) (fun _ _ _ _ _ => (pe_cal cPl hr (by decide) (pa_cons (pv 0) (pa_cons (pv 1) (pa_cons (pv 2) pa_nil))))))
    (pss_cons (ps_set (i := 6) sc_law_full.nd rfl (Or.inl rfl) (pe_cal cCo hr (by decide) (pa_cons (pv 0) (pa_cons (pv 1) (pa_cons (pv 2) (pa_cons pe_int pa_nil))))))
    (pss_one (ps_ret (pe_lst (pa_cons (pe_tup (pa_cons pe_str (pa_cons (pv 6) (pa_cons (pv 5) (pa_cons (pe_callTy call_list_of (by rfl) G.b_list (by decide +kernel) (pa_cons (pv 5) pa_nil)) pa_nil))))) (pa_cons (pe_tup (pa_cons pe_str (pa_cons pe_int (pa_cons (pe_op op_cat (pv 5) (pe_slice sl_list (pv 5) po_none (po_some pe_int))) pa_nil)))) (pa_cons (pe_tup (pa_cons pe_str (pa_cons (pv 6) (pa_cons (pe_lst pa_nil) (pa_cons (pe_op op_cat (pv 5) (pe_slice sl_list (pv 5) (po_some pe_int) (po_some (pe_op op_add pe_int (pv 3))))) pa_nil))))) pa_nil))))))))), ?_⟩
  have sub : ∀ a ∈ [b], a ∈ bs := fun a z => by rw [List.mem_singleton.mp z]; exact g.inb
  refine ⟨_, rfl, by show 0 ≤ sizeLine; decide, fun p hp => ?_⟩
  generalize e1 : upd H p _ = H1
  obtain ⟨s1, d1⟩ := nw e1 hp
  have g1 := g.same s1
  have b1 := hb.same s1
  refine ⟨_, .list [], dp_names g1.mh, .lst (SqL.of d1) .nil, names_shaped g1.np, rfl, _, rfl, ?_⟩
  rw [names_eqv]
  have zr : Sm 7 0 (.str "repeat") := Sm.str (pl_of "repeat" (by decide +kernel))
  have zi : Sm 3 0 (.str "if") := Sm.str (pl_of "if" (by decide +kernel))
  have i1 : ∀ i : Int, i.natAbs ≤ 900 → Sm 1 0 (.int i) := fun _ h => Sm.int h
  have sl0 : Sm 1 1 (.lst []) := (Sl.nil (k := 0) (e := 0)).lst
  refine itb (fun e3 => ?_) fun e3 => ?_
  · -- no names
    refine ⟨5, rfl, by decide, by decide, fun l hl => ?_⟩
    refine lcGen (N := 5) (bs := bs) (cs := []) (c := 10) (e := 2) (walk_range (lo := 0)) (fun _ _ => True) hl g1.al (by simp) (by decide) (fun _ _ => trivial) (fun _ _ _ _ y => y.1) (fun _ => trivial) (fun _ _ _ _ => trivial) (fun _ => rfl) (fun i x H' hi y k a _ F kk => ?_) fun xs ds H2 lx k2 a2 _ d2 hds sm => ?_
    · exact tup_rep (by decide) a fun v d H6 k6 a6 h6 sm6 => kk v d H6 k6 a6 h6 sm6 trivial
    have hin : Dd (hid bs H2) (.ref l) (.lst ds) := .lst (by rw [hid_out (g1.al.new hl)]; exact d2) (hds.same hid_more)
    have al2 : Al bs H2 := fun a z => a2 a (List.mem_cons_of_mem _ z)
    have smi : Sm 51 3 (.lst ds) := sm.lst
    refine ⟨4, rfl, by decide, by decide, fun l2 hl2 => ?_⟩
    refine lcGen (N := 4) (bs := bs) (cs := []) (c := 60) (e := 4) (walk_range (lo := 0)) (fun _ _ => True) hl2 al2 (by simp) (by decide) (fun _ _ => trivial) (fun _ _ _ _ y => y.1) (fun _ => trivial) (fun _ _ _ _ => trivial) (fun _ => rfl) (fun i x H' hi y k a _ F kk => ?_) fun xs2 ds2 H3 lx2 k3 a3 _ d3 hds2 sm2 => ?_
    · refine ⟨_, rfl, by show 3 ≤ sizeLine; decide, fun p7 hp7 => ?_⟩
      generalize e7 : upd H' p7 _ = H7
      obtain ⟨s7, d7⟩ := nw e7 hp7
      exact kk _ _ H7 (Kp.of s7) (a.same s7) (Dd.newT a hp7 s7 d7 (.cons (.str _) (.cons (.int _) (.cons (hin.same (hid_new hl2 k (by simp))) .nil)))) ((Sms.tup (.cons (zr.mono (Nat.le_refl _) (by decide)) (.cons ((i1 1 (by decide)).mono (Nat.le_refl _) (by decide)) (.one smi)))).mono (by decide) (by decide)) trivial
    have al3 : Al bs H3 := fun a z => a3 a (List.mem_cons_of_mem _ z)
    have hds2 := hds2.same hid_more
    refine ⟨by show 0 ≤ sizeLine; decide, fun pa hpa => ?_⟩
    generalize ea : upd H3 pa _ = Ha
    obtain ⟨sa, da⟩ := nw ea hpa
    refine ⟨by show 3 ≤ sizeLine; decide, fun pb hpb => ?_⟩
    generalize eb : upd Ha pb _ = H4
    obtain ⟨sb, db⟩ := nw eb hpb
    have k4 : Kp [] H3 H4 := Kp.of (sa.trans sb)
    have al4 := (al3.same sa).same sb
    obtain ⟨v4, ev4⟩ : ∃ v, v = V.ref pb := ⟨_, rfl⟩
    obtain ⟨d4, h4, sm4⟩ : ∃ d, Dd (hid bs H4) v4 d ∧ Sm 10 2 d := ⟨_, by rw [ev4]; exact Dd.newT (al3.same sa) hpb sb db (.cons (.str _) (.cons (.int _) (.cons (Dd.newL al3 hpa sa da .nil) .nil))), (Sms.tup (.cons (zr.mono (Nat.le_refl _) (Nat.zero_le _)) (.cons ((i1 2 (by decide)).mono (Nat.le_refl _) (Nat.zero_le _)) (.one sl0)))).mono (by decide) (by decide)⟩
    rw [← ev4]
    refine ⟨by show 1 ≤ sizeLine; decide, fun p5 hp5 => ?_⟩
    generalize e5 : upd H4 p5 _ = H5
    obtain ⟨s5, d5⟩ := nw e5 hp5
    refine ⟨_, rfl, p5, (more : Int), _, rfl, rfl, d5, by omega, by omega, Nat.le_of_lt (small1000 (by show 1 * (more : Int).toNat ≤ 1000; omega)), fun p6 hp6 => ?_⟩
    generalize e6 : upd H5 p6 _ = H6
    obtain ⟨s6, d6⟩ := nw e6 hp6
    have s46 := s5.trans s6
    have d36 : H6 l2 = some (.lst xs2) := s46 _ _ (k4 _ _ (by simp) d3)
    have hrep : DdL (hid bs H6) (List.replicate (more : Int).toNat [v4]).flatten (List.replicate (more : Int).toNat [d4]).flatten := (DdL.cons (h4.hs s46) .nil).rep _
    have srep := (Sl.one sm4).rep (more : Int).toNat
    have lrep : (List.replicate (more : Int).toNat [v4]).flatten.length ≤ 2 := by
      have z : ∀ k, (List.replicate k [v4]).flatten.length = k := fun k => by
        induction k with
        | zero => rfl
        | succ k ih => rw [List.replicate_succ, List.flatten_cons, List.length_append, ih]; show 1 + k = k + 1; omega
      rw [z]; omega
    refine ⟨l2, p6, xs2, _, rfl, rfl, d36, d6, Nat.le_of_lt (small1000 (by omega)), fun p7 hp7 => ?_⟩
    generalize e7 : upd H6 p7 _ = H7
    obtain ⟨s7, d7⟩ := nw e7 hp7
    have k00 : Kp [] H H7 := (Kp.of s1).trans ((((k2.trans k3).trans k4).trans (Kp.of s46)).trans (Kp.of s7))
    have k07 : Kp [b] H H7 := k00.mono (by simp)
    refine q _ _ H7 k07 ((al4.same s46).same s7) ((hb.kp k00 (by simp)).mono (by omega)) (Dd.newL (al4.same s46) hp7 s7 d7 (((hds2.same (Kp.hid (k4.mono (by simp)))).hs s46).app hrep)) ⟨⟨_, rfl⟩, ((sm2.app (srep.mono (Nat.le_refl _) (by decide))).lst.mono (by omega) (by decide))⟩
  · have n0 : nm ≠ [] := by
      intro z; subst z; cases e3
    refine ⟨5, rfl, by decide, by decide, fun l hl => ?_⟩
    have lb : b ≠ l := b1.ne hl
    refine lcGen (N := 5) (bs := bs) (cs := [b]) (c := 80) (e := 2) (walk_range (lo := 0)) (fun i H' => Gn (l :: bs) b sA m ys nm H' ∧ Bx b (n + 4 * i) H') hl g1.al sub (by decide) (fun _ _ => trivial) (fun _ _ _ _ y => y.1) (fun o => ⟨g1.more hl (same_new hl) upd_same, b1.same (same_new hl)⟩)
      (fun i H' o h => ⟨h.1.kp (cs := [l]) (Kp.atb (by simp)) (by simp) h.1.al.upd, h.2.put lb⟩) (fun _ => rfl) (fun i x H' hi y k a S F kk => ?_) fun xs ds H2 lx k2 a2 S2 d2 hds sm => ?_
    · exact ⟨_, rfl, _, rfl, _, rfl, l :: bs, b, sA, m, ys, nm, _, rfl, n0, S.1, S.2, by omega, fun v d H'' k'' a'' b'' h'' sm'' => kk v d H'' k'' a'' h'' sm'' ⟨S.1.tk k'' b'', b''.mono (by omega)⟩⟩
    have g2 : Gn bs b sA m ys nm H2 := g1.kp k2 sub fun a z => a2 a (List.mem_cons_of_mem _ z)
    have hds := hds.same hid_more
    have ho : l ∉ bs := g1.al.new hl
    refine ⟨_, rfl, _, rfl, _, rfl, bs, b, sA, m, ys, nm, _, 3, rfl, by decide, by decide, g2, S2.2, by omega, fun vt dt H3 k3 a3 b3 ht ⟨_, smt⟩ => ?_⟩
    have f3 : Five bs b l (n + 300) vt dt xs ds H H3 := ⟨a3, b3.mono (by omega), ((Kp.of s1).trans k2).trans k3, k3 _ _ (by simpa using Ne.symm lb) d2, hds.same (Kp.hid (k3.mono sub)), ht⟩
    have smt : Sm 1590 5 dt := smt.mono (by decide) (by decide)
    have sm : Sl 400 2 ds := sm
    -- ("if", test, five, list(five))
    refine ⟨_, rfl, _, rfl, _, rfl, l, xs, rfl, .inl (SqL.of f3.l5), fun p4 hp4 => ?_⟩
    generalize e4 : upd H3 p4 _ = H4
    obtain ⟨s4, d4⟩ := nw e4 hp4
    have f4 := f3.same s4
    have hA : Dd (hid bs H4) (.ref p4) (.lst ds) := Dd.newL f3.al hp4 s4 d4 f3.h5
    have hF : Dd (hid bs H4) (.ref l) (.lst ds) := .lst (by rw [hid_out ho]; exact f4.l5) f4.h5
    refine ⟨by show 4 ≤ sizeLine; decide, fun p5 hp5 => ?_⟩
    generalize e5 : upd H4 p5 _ = H5
    obtain ⟨s5, d5⟩ := nw e5 hp5
    have f5 := f4.same s5
    have t1 : Dd (hid bs H5) (.ref p5) (.tup [.str "if", dt, .lst ds, .lst ds]) := Dd.newT f4.al hp5 s5 d5 (.cons (.str _) (.cons f4.ht (.cons hF (.cons hA .nil))))
    have m1 : Sm 2600 6 (.tup [.str "if", dt, .lst ds, .lst ds]) := (Sms.tup (.cons (zi.mono (Nat.le_refl _) (by decide)) (.cons smt (.cons (sm.lst.mono (Nat.le_refl _) (by decide)) (.one (sm.lst.mono (Nat.le_refl _) (by decide))))))).mono (by decide) (by decide)
    -- ("repeat", 9, five + five[:1])
    refine ⟨_, rfl, _, rfl, 1, rfl, l, xs, rfl, SqL.of f5.l5, five_cat f5 lx sm fun v6 d6 H6 s6 h6 m6 => ?_⟩
    have f6 := f5.same s6
    refine ⟨by show 3 ≤ sizeLine; decide, fun p7 hp7 => ?_⟩
    generalize e7 : upd H6 p7 _ = H7
    obtain ⟨s7, d7⟩ := nw e7 hp7
    have f7 := f6.same s7
    have t2 : Dd (hid bs H7) (.ref p7) (.tup [.str "repeat", .int 9, d6]) := Dd.newT f6.al hp7 s7 d7 (.cons (.str _) (.cons (.int _) (.cons h6 .nil)))
    have m2 : Sm 900 6 (.tup [.str "repeat", .int 9, d6]) := (Sms.tup (.cons (zr.mono (Nat.le_refl _) (by decide)) (.cons ((i1 9 (by decide)).mono (Nat.le_refl _) (by decide)) (.one m6)))).mono (by decide) (by decide)
    -- ("if", test, [], five + five[1:1 + more])
    refine ⟨_, rfl, by show 0 ≤ sizeLine; decide, fun p8 hp8 => ?_⟩
    generalize e8 : upd H7 p8 _ = H8
    obtain ⟨s8, d8⟩ := nw e8 hp8
    have f8 := f7.same s8
    have hE : Dd (hid bs H8) (.ref p8) (.lst []) := Dd.newL f7.al hp8 s8 d8 .nil
    refine ⟨_, rfl, _, rfl, 1, rfl, _, rfl, _, _, rfl, rfl, _, rfl, l, xs, rfl, SqL.of f8.l5, five_cat f8 lx sm fun v9 d9 H9 s9 h9 m9 => ?_⟩
    have f9 := f8.same s9
    refine ⟨by show 4 ≤ sizeLine; decide, fun p10 hp10 => ?_⟩
    generalize e10 : upd H9 p10 _ = H10
    obtain ⟨s10, d10⟩ := nw e10 hp10
    have f10 := f9.same s10
    have t3 : Dd (hid bs H10) (.ref p10) (.tup [.str "if", dt, .lst [], d9]) := Dd.newT f9.al hp10 s10 d10 (.cons (.str _) (.cons f9.ht (.cons (hE.hs s9) (.cons h9 .nil))))
    have m3 : Sm 2600 6 (.tup [.str "if", dt, .lst [], d9]) := (Sms.tup (.cons (zi.mono (Nat.le_refl _) (by decide)) (.cons smt (.cons (sl0.mono (Nat.le_refl _) (by decide)) (.one (m9.mono (Nat.le_refl _) (by decide))))))).mono (by decide) (by decide)
    refine ⟨by show 3 ≤ sizeLine; decide, fun p11 hp11 => ?_⟩
    generalize e11 : upd H10 p11 _ = H11
    obtain ⟨s11, d11⟩ := nw e11 hp11
    have f11 := f10.same s11
    have s7a := ((s8.trans s9).trans s10)
    exact q _ _ H11 f11.k f11.al f11.bx (Dd.newL f10.al hp11 s11 d11 (.cons ((t1.hs (s6.trans s7)).hs s7a) (.cons (t2.hs s7a) (.cons t3 .nil)))) ⟨⟨_, rfl⟩, (Sms.lst (.cons m1 (.cons (m2.mono (Nat.le_refl _) (by decide)) (.one m3)))).mono (by decide) (by decide)⟩
end
end NH
set_option maxHeartbeats 4000000
namespace NH
open PySem PySem.Spec PyProof.Rows L2 TL
/-! ### places within data -/
def D.at : List Nat → D → Option D
  | [], d => some d
  | k :: q, d => match d.items with
    | some ds => (match ds[k]? with | some e => D.at q e | none => none)
    | none => none
def pathD (q : List Nat) : D := .lst (q.map fun k : Nat => .int (k : Int))
theorem D.at_cons {k : Nat} {q : List Nat} {d : D} {ds : List D} {e : D} (h : d.items = some ds) (g : ds[k]? = some e) : D.at (k :: q) d = D.at q e := by
  show (match d.items with | some ds => (match ds[k]? with | some e => D.at q e | none => none) | none => none) = _
  rw [h]
  show (match ds[k]? with | some e => D.at q e | none => none) = _
  rw [g]
theorem D.at_step {k : Nat} {q : List Nat} {d e : D} (h : D.at (k :: q) d = some e) : ∃ ds d1, d.items = some ds ∧ ds[k]? = some d1 ∧ D.at q d1 = some e := by
  have h : (match d.items with | some ds => (match ds[k]? with | some e => D.at q e | none => none) | none => none) = some e := h
  cases hi : d.items with
  | none => rw [hi] at h; cases h
  | some ds =>
    rw [hi] at h
    have h : (match ds[k]? with | some e => D.at q e | none => none) = some e := h
    cases hk : ds[k]? with
    | none => rw [hk] at h; cases h
    | some d1 => rw [hk] at h; exact ⟨ds, d1, rfl, hk, h⟩
theorem D.at_snoc {k : Nat} : ∀ {q : List Nat} {d e e1 : D} {ds : List D}, D.at q d = some e → e.items = some ds → ds[k]? = some e1 → D.at (q ++ [k]) d = some e1
  | [], d, e, e1, ds, h, hi, hk => by
    cases h
    exact (D.at_cons (q := []) hi hk)
  | j :: q, d, e, e1, ds, h, hi, hk => by
    obtain ⟨ds1, d1, a, b, c⟩ := D.at_step h
    rw [List.cons_append, D.at_cons a b]
    exact D.at_snoc c hi hk
theorem D.at_take {q : List Nat} : ∀ {d e : D}, D.at q d = some e → ∀ i, ∃ e1, D.at (q.take i) d = some e1 ∧ ∀ k, q[i]? = some k → ∃ ds e2, e1.items = some ds ∧ ds[k]? = some e2 ∧ D.at (q.take (i + 1)) d = some e2 := by
  induction q with
  | nil => intro d e h i; exact ⟨d, by rw [List.take_nil]; rfl, fun k hk => by simp at hk⟩
  | cons j q ih =>
    intro d e h i
    obtain ⟨ds1, d1, a, b, c⟩ := D.at_step h
    cases i with
    | zero => exact ⟨d, rfl, fun k hk => ⟨ds1, d1, a, by cases hk; exact b, by
        show D.at (j :: q.take 0) d = some d1
        rw [D.at_cons a b]; rfl⟩⟩
    | succ i =>
      obtain ⟨e1, g1, g2⟩ := ih c i
      refine ⟨e1, by rw [List.take_succ_cons, D.at_cons a b]; exact g1, fun k hk => ?_⟩
      obtain ⟨ds2, e2, x, y, z⟩ := g2 k (by simpa using hk)
      exact ⟨ds2, e2, x, y, by rw [List.take_succ_cons, D.at_cons a b]; exact z⟩
theorem D.sz1 (d : D) : 1 ≤ d.sz := by cases d <;> first | exact Nat.le_refl _ | exact Nat.le_add_right ..
theorem D.len_szs : ∀ ds : List D, ds.length ≤ D.szs ds
  | [] => Nat.le_refl _
  | d :: ds => by have := D.len_szs ds; have := d.sz1; show ds.length + 1 ≤ d.sz + D.szs ds; omega
theorem D.mem_sz : ∀ {ds : List D} {k : Nat} {e : D}, ds[k]? = some e → D.fits ds → e.sz ≤ D.szs ds ∧ e.dep ≤ D.deps ds ∧ e.fit
  | [], _, _, h, _ => by simp at h
  | d :: ds, 0, e, h, f => by cases h; exact ⟨Nat.le_add_right .., Nat.le_max_left .., f.1⟩
  | d :: ds, k + 1, e, h, f => by
    obtain ⟨a, b, c⟩ := D.mem_sz (ds := ds) (k := k) (by simpa using h) f.2
    exact ⟨Nat.le_trans a (Nat.le_add_left ..), Nat.le_trans b (Nat.le_max_right ..), c⟩
theorem D.items_sz {d : D} {ds : List D} (h : d.items = some ds) (f : d.fit) : 1 + D.szs ds = d.sz ∧ D.deps ds + 1 = d.dep ∧ D.fits ds := by
  cases d <;> first | (cases h; exact ⟨rfl, rfl, f⟩) | cases h
theorem D.at_sz : ∀ {q : List Nat} {d e : D}, D.at q d = some e → d.fit → e.sz ≤ d.sz ∧ q.length + e.dep ≤ d.dep ∧ e.fit
  | [], d, e, h, f => by cases h; exact ⟨Nat.le_refl _, by simp, f⟩
  | k :: q, d, e, h, f => by
    obtain ⟨ds, d1, a, b, c⟩ := D.at_step h
    obtain ⟨x, y, z⟩ := D.items_sz a f
    obtain ⟨p, q1, r⟩ := D.mem_sz b z
    obtain ⟨u, v, t⟩ := D.at_sz c r
    exact ⟨by omega, by rw [List.length_cons]; omega, t⟩
theorem Dd.items {H : Hp} {v : V} {d : D} {ds : List D} (h : Dd H v d) (e : d.items = some ds) : ∃ a xs, v = .ref a ∧ (H a = some (.lst xs) ∨ H a = some (.tup xs)) ∧ DdL H xs ds := by
  cases h with
  | lst ha hl => cases e; exact ⟨_, _, rfl, .inl ha, hl⟩
  | tup ha hl => cases e; exact ⟨_, _, rfl, .inr ha, hl⟩
  | _ => cases e
theorem DdL.get {H : Hp} : ∀ {xs : List V} {ds : List D} {i : Nat} {d : D}, DdL H xs ds → ds[i]? = some d → ∃ x, xs[i]? = some x ∧ Dd H x d
  | _, _, _, _, .nil, e => by simp at e
  | _, _, 0, _, .cons h _, e => by simp at e; subst e; exact ⟨_, rfl, h⟩
  | _, _, i + 1, d, .cons _ t, e => by
    obtain ⟨x, h1, h2⟩ := DdL.get (i := i) (d := d) t (by simpa using e)
    exact ⟨x, by simpa using h1, h2⟩
/-- x[k], x a list or a tuple -/
theorem rix {K : PySem.W.Frag} {H H' : Hp} {v : V} {d e : D} {ds : List D} {k : Nat} {Q : VK} (s : Same H H') (h : Dd H v d) (hi : d.items = some ds) (hk : ds[k]? = some e) (q : ∀ x, Dd H x e → Q x H') : rIx K v (.int (k : Int)) H' Q := by
  obtain ⟨a, xs, rfl, ha, hl⟩ := h.items hi
  obtain ⟨y, hy, hd⟩ := hl.get hk
  rcases ha with ha | ha
  · exact .inl ⟨a, xs, k, y, rfl, rfl, SqL.of (s _ _ ha), atI_get hy, q y hd⟩
  · exact .inr (.inl ⟨a, xs, k, y, rfl, rfl, SqT.of (s _ _ ha), atI_get hy, q y hd⟩)
/-- a list of data that is known, one built behind the other -/
theorem lcX {lo : Int} {N : Nat} {bs : List Addr} {i0 : Nat} {te : TE} {vs : List Nat} {σ : L2.St} {H1 : Hp} {l : Addr} {Qd : Hp → Prop} (f : Nat → D) (hl : H1 l = none) (al : Al bs H1) (small : N ≤ 1000000) (hw : ∀ x, wipe ((wipe σ vs).set i0 (some x)) vs = wipe σ vs)
    (ht : ∀ i H', i < N → Same H1 H' → Al (l :: bs) H' → ∀ F : VK, (∀ v H'', Same H' H'' → Al (l :: bs) H'' → Dd (hid (l :: bs) H'') v (f i) → F v H'') → te ((wipe σ vs).set i0 (some (.int (lo + (i : Int))))) H' F)
    (hd : ∀ xs H', xs.length = N → Same H1 H' → Al (l :: bs) H' → H' l = some (.lst xs) → DdL (hid (l :: bs) H') xs ((List.range N).map f) → Qd H') :
    ∃ W : Nat → Nat → Hp → Prop, (∃ m, W 0 m (upd H1 l (.lst []))) ∧ ∀ i m H, W i m H → ((Itr lo N).stop i H ∧ Qd H) ∨ ((Itr lo N).go i H ∧ ∃ Nx : Hp → Prop, (∀ H', Nx H' → ∃ m', m' < m ∧ W (i + 1) m' H') ∧ ∀ x H', (Itr lo N).yld i H x H' → gName i0 x (wipe σ vs) H' fun σ2 H2 => wipe σ2 vs = wipe σ vs ∧ tYes σ2 H2 fun b H3 =>
      if b = true then te σ2 H3 fun y H4 => ∃ acc, H4 l = some (.lst acc) ∧ acc.length < sizeLine ∧ Nx (upd H4 l (.lst (acc ++ [y]))) else Nx H3) := by
  have lb := al.new hl
  refine lc_it (g := gName i0) (tt := tYes) (walk_range (lo := lo) (n := N)) (fun i H' => ∃ xs : List V, xs.length = i ∧ Same H1 H' ∧ Al (l :: bs) H' ∧ H' l = some (.lst xs) ∧ DdL (hid (l :: bs) H') xs ((List.range i).map f)) ⟨[], rfl, same_new hl, ?_, upd_same, .nil⟩ (fun _ _ _ _ => trivial) ?_ ?_
  · intro a z
    rcases List.mem_cons.mp z with rfl | z
    · exact ⟨_, upd_same⟩
    · exact al.upd a z
  · rintro i x H2 H2' hi ⟨xs, lx, k2, a2, d2, hds⟩ ⟨rfl, rfl⟩
    refine ⟨hw _, tyes ?_⟩
    refine iteT ?_
    refine ht i H2' hi k2 a2 _ fun v H3 k3 a3 h3 => ?_
    refine ⟨xs, k3 _ _ d2, Nat.lt_of_le_of_lt (by omega : xs.length ≤ 1000000) (by decide), xs ++ [v], by rw [List.length_append, lx]; rfl, Same.put (k2.trans k3) hl, a3.upd, upd_same, ?_⟩
    have kl : Kp (l :: bs) H3 (upd H3 l (.lst (xs ++ [v]))) := Kp.atb (by simp)
    rw [List.range_succ, List.map_append]
    exact ((hds.hs k3).app (.cons h3 .nil)).same (Kp.hid kl)
  · rintro H2 ⟨xs, lx, k2, a2, d2, hds⟩
    exact hd xs H2 lx k2 a2 d2 hds
end NH
set_option maxHeartbeats 4000000
namespace NH
open PySem PySem.Spec PyProof.Rows L2 TL
section
variable {P : Program} {w : World} {K : PySem.W.Frag} {mg : Str → Option Value} {base : Heap}
abbrev s_law_paths : Stmt := top 51
theorem sc_law_paths : FnScope ["value", "found", "at", "inner", "step", "k"] ["value"] (defScope s_law_paths) := ⟨rfl, rfl, rfl, by decide +kernel, rfl, by decide +kernel, by decide +kernel⟩
/-- the ways to places of d, told by a new list at p -/
structure Ways (bs : List Addr) (d : D) (p : Addr) (xs : List V) (qs : List (List Nat)) (H : Hp) : Prop where
  out : p ∉ bs
  has : H p = some (.lst xs)
  ds : DdL (hid bs H) xs (qs.map pathD)
  ne : qs ≠ []
  ok : ∀ q ∈ qs, ∃ e, D.at q d = some e
theorem Ways.same {bs : List Addr} {d : D} {p : Addr} {xs : List V} {qs : List (List Nat)} {H H' : Hp} (w : Ways bs d p xs qs H) (s : Same H H') : Ways bs d p xs qs H' := ⟨w.out, s _ _ w.has, w.ds.hs s, w.ne, w.ok⟩
theorem D.at_len : ∀ {q : List Nat} {d e : D}, D.at q d = some e → q.length + e.sz ≤ d.sz
  | [], d, e, h => by cases h; simp
  | k :: q, d, e, h => by
    obtain ⟨ds, d1, a, b, c⟩ := D.at_step h
    have z := D.at_len c
    have y : d1.sz + 1 ≤ d.sz := by
      have m : ∀ {ds : List D} {k : Nat}, ds[k]? = some d1 → d1.sz ≤ D.szs ds := by
        intro ds
        induction ds with
        | nil => intro k h; simp at h
        | cons x l ih =>
          intro k h
          cases k with
          | zero => cases h; exact Nat.le_add_right ..
          | succ k => exact Nat.le_trans (ih (by simpa using h)) (Nat.le_add_left ..)
      have m1 := m b
      cases d <;> first | (cases a; show d1.sz + 1 ≤ 1 + D.szs ds; omega) | cases a
    rw [List.length_cons]; omega
theorem path_vals {H : Hp} : ∀ {q : List Nat} {ys : List V}, DdL H ys (q.map fun k : Nat => .int (k : Int)) → ys = q.map fun k : Nat => V.int (k : Int)
  | [], _, h => by cases h; rfl
  | k :: q, _, h => by
    cases h with
    | cons a t => cases a; rw [path_vals t]; rfl
theorem path_dd {H : Hp} : ∀ q : List Nat, DdL H (q.map fun k : Nat => V.int (k : Int)) (q.map fun k : Nat => .int (k : Int))
  | [] => .nil
  | k :: q => .cons (.int _) (path_dd q)
theorem Ways.at {bs : List Addr} {d : D} {p : Addr} {xs : List V} {qs : List (List Nat)} {H : Hp} (w : Ways bs d p xs qs H) {i : Nat} (h : i < qs.length) : ∃ (q : List Nat) (a : Addr) (e : D), q ∈ qs ∧ qs[i]? = some q ∧ xs[i]? = some (.ref a) ∧ a ∉ bs ∧ H a = some (.lst (q.map fun k : Nat => V.int (k : Int))) ∧ D.at q d = some e := by
  have hq : qs[i]? = some qs[i] := List.getElem?_eq_getElem h
  obtain ⟨e, he⟩ := w.ok _ (List.getElem_mem h)
  obtain ⟨x, hx, hd⟩ := w.ds.get (i := i) (d := pathD qs[i]) (by rw [List.getElem?_map, hq]; rfl)
  cases hd with
  | lst ha hl =>
    obtain ⟨n1, e1⟩ := hid_some ha
    rw [path_vals hl] at e1
    exact ⟨_, _, e, List.getElem_mem h, hq, hx, n1, e1, he⟩
def spPa : Sp := fun vs H Q _ => ∃ (bs : List Addr) (v : V) (d : D), vs = [v] ∧ Al bs H ∧ Dd (hid bs H) v d ∧ d.fit ∧ d.sz ≤ 10000 ∧ ∀ p xs qs H', Same H H' → Ways bs d p xs qs H' → qs.length ≤ 20000 → Q (.ref p) H'
theorem ok_law_paths (G : Bl mg) (DA : DefAt K mg "_law_paths" s_law_paths) : Callee P w K mg base 2 "_law_paths" ["value"] spPa := by
  refine callee DA sc_law_paths (fun vs H Q E h => by obtain ⟨_, _, _, rfl, _⟩ := h; rfl) (fun _ _ _ _ _ _ us hl => match us, hl with | [_], _ => rfl) fun f cdv A outer s H vs Q E hr h => ?_
  obtain ⟨bs, v, d, rfl, al, hd, fit, sz, q⟩ := h
  refine ⟨_, (pss_cons (ps_asg (pe_tup (pa_cons (pe_lst (pa_cons (pe_lst pa_nil) pa_nil)) (pa_cons pe_int pa_nil))) (pg_tup (by rfl) (pgs_cons (pg_name (i := 1) sc_law_paths.nd rfl (Or.inr rfl)) (pgs_cons (pg_name (i := 2) sc_law_paths.nd rfl (Or.inr rfl)) pgs_nil))))
    (pss_cons (ps_while PassesOwn.never (PW.pt (pw_and (pt_cmpR op_lt (pv 2) (pe_callB call_len_seq (by rfl) G.b_len (by decide +kernel) (pa_cons (pv 1) pa_nil)) (nomark _)) (pw_and1 (pt_cmpR op_lt (pe_callB call_len_seq (by rfl) G.b_len (by decide +kernel) (pa_cons (pv 1) pa_nil)) pe_int (nomark _))))) (pss_cons (ps_set (i := 3) sc_law_paths.nd rfl (Or.inl rfl) (pv 0))
    (pss_cons (ps_for PassesOwn.never rfl (pi_list (pe_ix ix_list (pv 1) (pv 2) (fun _ _ => rfl))) (pg_name (i := 4) sc_law_paths.nd rfl (Or.inl rfl)) (pss_one (ps_set (i := 3) sc_law_paths.nd rfl (Or.inl rfl) (pe_ix ix_seq (pv 3) (pv 4) (fun _ _ => rfl)))))
    (pss_cons (ps_if (pt_val (pe_callB call_isiT (by rfl) G.b_isinstance (by decide +kernel) (pa_cons (pv 3) (pa_cons (pe_tup (pa_cons (pe_bltn (v := .ty "list") (u := .type "list") (by rfl) G.b_list (by decide +kernel) rfl) (pa_cons (pe_bltn (v := .ty "tuple") (u := .type "tuple") (by rfl) G.b_tuple (by decide +kernel) rfl) pa_nil))) pa_nil)))) (pss_one (ps_set (i := 1) sc_law_paths.nd rfl (Or.inr rfl) (pe_op op_cat (pv 1) (pe_lc (own := [("k", 5)]) (g := gName 5) rfl sc_law_paths.nd (pi_range1 (by rfl) G.b_range (pa_cons (pe_callB call_len_seq (by rfl) G.b_len (by decide +kernel) (pa_cons (pv 3) pa_nil)) pa_nil)) (blkOk_by (N := ["value", "found", "at", "inner", "step", "k"]) (sc := defScope s_law_paths) (by decide +kernel)) (fun _ _ _ _ _ => (pg_name (i := 5) sc_law_paths.nd rfl (Or.inl rfl))) (fun _ _ _ _ _ => pts_nil) (fun _ _ _ _ _ => (pe_op op_cat (pe_ix (show IxR _ (rIxL K) from ix_list) (pv 1) (pv 2) (fun _ _ => rfl)) (pe_lst (pa_cons (pv 5) pa_nil)))))))) pss_nil)
    (pss_one (ps_set (i := 2) sc_law_paths.nd rfl (Or.inr rfl) (pe_op op_add (pv 2) pe_int)))))))
    (pss_one (ps_ret (pv 1))))), ?_⟩
  refine ⟨by show 0 ≤ sizeLine; decide, fun p1 h1 => ?_⟩
  generalize e1 : upd H p1 _ = H1
  obtain ⟨s1, d1⟩ := nw e1 h1
  refine ⟨by show 1 ≤ sizeLine; decide, fun p2 h2 => ?_⟩
  generalize e2 : upd H1 p2 _ = H2
  obtain ⟨s2, d2⟩ := nw e2 h2
  refine ⟨by show 2 ≤ sizeLine; decide, fun p3 h3 => ?_⟩
  generalize e3 : upd H2 p3 _ = H3
  obtain ⟨s3, d3⟩ := nw e3 h3
  refine ⟨p3, _, rfl, SqT.of d3, rfl, _, _, rfl, _, _, rfl, rfl, ?_⟩
  have al2 : Al bs H1 := al.same s1
  have w3 : Ways bs d p2 [.ref p1] [[]] H3 := ⟨al2.new h2, s3 _ _ d2, .cons ((Dd.newL al h1 s1 d1 .nil).hs (s2.trans s3)) .nil, by simp, fun q' hq => ⟨d, by rw [List.mem_singleton.mp hq]; rfl⟩⟩
  refine ⟨fun μ σ H' => ∃ (fd : Addr) (at_ : Nat) (x3 x4 x5 : Option V) (xs : List V) (qs : List (List Nat)), μ = 400 - at_ ∧ σ = [some v, some (.ref fd), some (.int (at_ : Int)), x3, x4, x5] ∧ Same H H' ∧ Ways bs d fd xs qs H' ∧ at_ ≤ qs.length ∧ qs.length ≤ 400 + 10000,
    ⟨_, p2, 0, none, none, none, _, _, rfl, rfl, (s1.trans s2).trans s3, w3, Nat.zero_le _, by decide⟩, ?_⟩
  rintro μ σ H4 ⟨fd, at_, x3, x4, x5, xs, qs, rfl, rfl, s4, w4, la, lq⟩
  have lx : xs.length = qs.length := by rw [w4.ds.len, List.length_map]
  refine ⟨_, rfl, _, rfl, fd, xs, rfl, .inl (SqL.of w4.has), _, _, rfl, rfl, _, rfl, ?_⟩
  refine itd (fun e1 => ?_) fun e1 => ?_
  rotate_left
  · refine iteF ⟨_, rfl, q fd xs qs H4 s4 w4 (by omega)⟩
  refine ⟨_, rfl, fd, xs, rfl, .inl (SqL.of w4.has), _, _, rfl, rfl, _, rfl, itd (fun e2 => ?_) fun e2 => ?_⟩
  rotate_left
  · exact ⟨_, rfl, q fd xs qs H4 s4 w4 (by omega)⟩
  obtain ⟨pq, a, e, mq, hq, hx, ha, da, ate⟩ := w4.at (i := at_) (by omega)
  refine ⟨fun σ' H' => ∃ (fd2 : Addr) (x3 x4 x5 : Option V) (xs2 : List V) (qs2 : List (List Nat)), σ' = [some v, some (.ref fd2), some (.int ((at_ + 1 : Nat) : Int)), x3, x4, x5] ∧ Same H H' ∧ Ways bs d fd2 xs2 qs2 H' ∧ at_ + 1 ≤ qs2.length ∧ qs2.length ≤ 400 + 10000,
    fun σ' H' ⟨fd2, x3, x4, x5, xs2, qs2, eσ, s', w', l1, l2⟩ => ⟨400 - (at_ + 1), by omega, fd2, at_ + 1, x3, x4, x5, xs2, qs2, rfl, eσ, s', w', l1, l2⟩, ?_⟩
  have hv4 : Dd (hid bs H4) v d := hd.hs s4
  refine ⟨_, rfl, _, rfl, _, rfl, fd, xs, (at_ : Int), _, rfl, rfl, SqL.of w4.has, atI_get hx, a, rfl, ⟨_, SqL.of da⟩, ?_⟩
  refine for_list (K := K) (a := a) (xs := pq.map fun k : Nat => V.int (k : Int)) (fun i σ H' => ∃ (vi : V) (di : D) (x4 x5 : Option V), σ = [some v, some (.ref fd), some (.int (at_ : Int)), some vi, x4, x5] ∧ H' = H4 ∧ Dd (hid bs H4) vi di ∧ D.at (pq.take i) d = some di)
    ⟨v, d, x4, x5, rfl, rfl, hv4, rfl⟩ (fun i σ H' _ ⟨_, _, _, _, _, eH, _⟩ => by rw [eH]; exact SqL.of da) ?_ ?_
  · rintro i x σ H' hx' ⟨vi, di, x4', x5', rfl, rfl, hvi, ati⟩
    obtain ⟨e1', g1, g2⟩ := D.at_take ate i
    rw [ati] at g1
    cases g1
    rw [List.getElem?_map] at hx'
    cases hk : pq[i]? with
    | none => rw [hk] at hx'; cases hx'
    | some k =>
      rw [hk] at hx'
      cases hx'
      obtain ⟨ds, e2', hi, hk2, at2⟩ := g2 k hk
      exact ⟨_, rfl, _, rfl, rix hid_le hvi hi hk2 fun x hx => ⟨x, e2', _, _, rfl, rfl, hx, at2⟩⟩
  · rintro σ H' ⟨vi, di, x4', x5', rfl, rfl, hvi, ati⟩
    rw [List.length_map, List.take_length] at ati
    obtain ⟨zs, zd, zf⟩ := D.at_sz ati fit
    refine ⟨_, rfl, by show 2 ≤ sizeLine; decide, fun p5 h5 => ?_⟩
    generalize e5 : upd H' p5 _ = H5
    obtain ⟨s5, d5⟩ := nw e5 h5
    have w5 := w4.same s5
    have hv5 := hvi.hs s5
    have s05 := s4.trans s5
    have al5 := al.same s05
    refine ⟨vi, p5, _, _, _, _, rfl, d5, .cons (.ty "list") (.cons (.ty "tuple") .nil), (hv5.same hid_le).tyx, kit_seq di, _, rfl, itb (fun e6 => ?_) fun e6 => ?_⟩
    · obtain ⟨ds, hi⟩ : ∃ ds, di.items = some ds := by cases di <;> first | exact ⟨_, rfl⟩ | cases e6
      obtain ⟨iz, _, _⟩ := D.items_sz hi zf
      have dl := D.len_szs ds
      obtain ⟨a3, xs3, rfl, h3, hl3⟩ := hv5.items hi
      have h3 : SqL K H5 a3 xs3 ∨ SqT K H5 a3 xs3 := h3.imp (fun h => SqL.of (hid_le _ _ h)) fun h => SqT.of (hid_le _ _ h)
      have l3 := hl3.len
      refine ⟨_, rfl, _, rfl, a3, xs3, rfl, h3, xs3.length, rfl, by omega, by omega, fun l hl => ?_⟩
      refine lcX (lo := 0) (N := xs3.length) (bs := bs) (fun k => pathD (pq ++ [k])) hl al5 (by omega) (fun _ => rfl) (fun i H6 hi6 s6 a6 F kk => ?_) fun ys H6 ly s6 a6 d6 hds => ?_
      · refine ⟨_, rfl, _, rfl, fd, xs, (at_ : Int), _, rfl, rfl, SqL.of (s6 _ _ w5.has), atI_get hx, _, rfl, by show 1 ≤ sizeLine; decide, fun p7 h7 => ?_⟩
        generalize e7 : upd H6 p7 _ = H7
        obtain ⟨s7, d7⟩ := nw e7 h7
        have lp : (pq.map fun k : Nat => V.int (k : Int)).length = pq.length := List.length_map ..
        have zz := d.sz1
        have dp : pq.length ≤ 10000 := by
          have := D.at_len ati
          omega
        refine ⟨a, p7, _, _, rfl, rfl, s7 _ _ (s6 _ _ (s5 _ _ da)), d7, Nat.le_of_lt (Nat.lt_of_le_of_lt (by rw [lp]; show pq.length + 1 ≤ 10001; omega) (by decide : 10001 < sizeLine)), fun p8 h8 => ?_⟩
        generalize e8 : upd H7 p8 _ = H8
        obtain ⟨s8, d8⟩ := nw e8 h8
        refine kk _ H8 (s7.trans s8) ((a6.same s7).same s8) (Dd.newL (a6.same s7) h8 s8 d8 ?_)
        rw [List.map_append]
        refine (path_dd pq).app (.cons ?_ .nil)
        rw [show (0 : Int) + (i : Int) = (i : Int) by omega]
        exact .int _
      · have w6 := w5.same s6
        refine ⟨fd, l, xs, ys, rfl, rfl, w6.has, d6, Nat.le_of_lt (Nat.lt_of_le_of_lt (by omega : xs.length + ys.length ≤ 20400) (by decide)), fun p8 h8 => ?_⟩
        generalize e8 : upd H6 p8 _ = H8
        obtain ⟨s8, d8⟩ := nw e8 h8
        have al6 := al5.same s6
        refine ⟨_, rfl, _, _, rfl, rfl, p8, _, _, _, _, qs ++ (List.range xs3.length).map fun k => pq ++ [k], rfl, (s05.trans s6).trans s8, ⟨al6.new h8, d8, ?_, by simp [w4.ne], ?_⟩, ?_, ?_⟩
        · rw [List.map_append, List.map_map]
          exact (w6.ds.app (hds.same hid_more)).hs s8
        · intro q' hq'
          rcases List.mem_append.mp hq' with h | h
          · exact w4.ok q' h
          · obtain ⟨k, hk, rfl⟩ := List.mem_map.mp h
            have hk := List.mem_range.mp hk
            exact ⟨_, D.at_snoc ati hi (List.getElem?_eq_getElem (by omega : k < ds.length))⟩
        · rw [List.length_append]; omega
        · rw [List.length_append, List.length_map, List.length_range]; omega
    · exact ⟨_, rfl, _, _, rfl, rfl, fd, _, _, _, xs, qs, rfl, s05, w5, by omega, lq⟩
end
end NH
set_option maxHeartbeats 4000000
namespace NH
open PySem PySem.Spec PyProof.Rows L2 TL
theorem ixn {n j : Nat} (h : j < n) : ixN n (j : Int) = some j := by
  have a : (0 : Int) ≤ (j : Int) := by omega
  have b : (j : Int) < (n : Int) := by omega
  show (if _ then (if _ then _ else _) else _) = _
  rw [if_pos a, if_pos b]; rfl
theorem DdL.set {H : Hp} {y : V} {e : D} : ∀ {xs : List V} {ds : List D} (k : Nat), DdL H xs ds → Dd H y e → DdL H (xs.set k y) (ds.set k e)
  | _, _, _, .nil, _ => .nil
  | _, _, 0, .cons _ t, h => .cons h t
  | _, _, k + 1, .cons a t, h => .cons a (DdL.set k t h)
theorem D.set_sz {e : D} {b z : Nat} : ∀ {ds : List D} {k : Nat} {d1 : D}, ds[k]? = some d1 → D.fits ds → e.fit → e.sz ≤ d1.sz + b → e.dep ≤ d1.dep + z → D.fits (ds.set k e) ∧ D.szs (ds.set k e) ≤ D.szs ds + b ∧ D.deps (ds.set k e) ≤ D.deps ds + z
  | [], _, _, h, _, _, _, _ => by simp at h
  | d :: ds, 0, d1, h, f, fe, s, p => by
    cases h
    refine ⟨⟨fe, f.2⟩, ?_, ?_⟩
    · show e.sz + D.szs ds ≤ d.sz + D.szs ds + b; omega
    · show max e.dep (D.deps ds) ≤ max d.dep (D.deps ds) + z; omega
  | d :: ds, k + 1, d1, h, f, fe, s, p => by
    obtain ⟨x, y, w⟩ := D.set_sz (ds := ds) (k := k) (by simpa using h) f.2 fe s p
    refine ⟨⟨f.1, x⟩, ?_, ?_⟩
    · show d.sz + D.szs (ds.set k e) ≤ d.sz + D.szs ds + b; omega
    · show max d.dep (D.deps (ds.set k e)) ≤ max d.dep (D.deps ds) + z; omega
section
variable {P : Program} {w : World} {K : PySem.W.Frag} {mg : Str → Option Value} {base : Heap}
abbrev s_law_with : Stmt := top 52
theorem sc_law_with : FnScope ["value", "path", "new", "items"] ["value", "path", "new"] (defScope s_law_with) := ⟨rfl, rfl, rfl, by decide +kernel, rfl, by decide +kernel, by decide +kernel⟩
theorem dp_path {H : Hp} {a : Addr} {q : List Nat} (h : H a = some (.lst (q.map fun k : Nat => V.int (k : Int)))) : Dp K H (.ref a) (.list (q.map fun k : Nat => PyData.int (k : Int))) := by
  refine .lst (SqL.of h) ?_
  clear h
  induction q with
  | nil => exact .nil
  | cons x l ih => exact .cons (.int _) ih
theorem path_shaped (q : List Nat) : SeqAt.shaped (.list (q.map fun k : Nat => PyData.int (k : Int))) = true := by
  have h1 : ∀ l : List Nat, PyData.canLayAll0 (l.map fun k : Nat => PyData.int (k : Int)) = true ∧ PyData.depthAll (l.map fun k : Nat => PyData.int (k : Int)) = 0 := fun l => by
    induction l with
    | nil => exact ⟨rfl, rfl⟩
    | cons x l ih =>
      exact ⟨by show (true && PyData.canLayAll0 (l.map fun k : Nat => PyData.int (k : Int))) = true; rw [ih.1]; rfl, by show max 0 (PyData.depthAll (l.map fun k : Nat => PyData.int (k : Int))) = 0; rw [ih.2]; rfl⟩
  show (PyData.canLayAll0 (q.map fun k : Nat => PyData.int (k : Int)) && decide (PyData.depthAll (q.map fun k : Nat => PyData.int (k : Int)) + 1 ≤ 64)) = true
  rw [(h1 q).1, (h1 q).2]; rfl
theorem path_eqv (q : List Nat) : PyData.eqv (.list (q.map fun k : Nat => PyData.int (k : Int))) (.list []) = q.isEmpty := by cases q <;> rfl
/-- data with other data at a place -/
def spWi (n : Nat) : Sp := fun vs H Q _ => ∃ (bs : List Addr) (v : V) (d : D) (a : Addr) (pq : List Nat) (v2 : V) (d2 e : D), vs = [v, .ref a, v2] ∧ pq.length ≤ n ∧ Al bs H ∧ Dd (hid bs H) v d ∧ d.fit ∧ H a = some (.lst (pq.map fun k : Nat => V.int (k : Int))) ∧ Dd (hid bs H) v2 d2 ∧ d2.fit ∧ D.at pq d = some e ∧
  ∀ v3 d3 H', Same H H' → Dd (hid bs H') v3 d3 → d3.fit → d3.sz ≤ d.sz + d2.sz → d3.dep ≤ d.dep + d2.dep → Q v3 H'
theorem ok_law_with (G : Bl mg) (DA : DefAt K mg "_law_with" s_law_with) : ∀ n : Nat, Callee P w K mg base (2 + n) "_law_with" ["value", "path", "new"] (spWi n) := by
  have body : ∀ (n k : Nat) (spI : Sp), (∀ n', n = n' + 1 → spI = spWi n') → (Callee P w K mg base k "_law_with" ["value", "path", "new"] spI) → Callee P w K mg base (k + 1) "_law_with" ["value", "path", "new"] (spWi n) := by
    intro n k spI hI ih
    refine callee DA sc_law_with (fun vs H Q E h => by obtain ⟨_, _, _, _, _, _, _, _, rfl, _⟩ := h; rfl) (fun _ _ _ _ _ _ us hl => match us, hl with | [_, _, _], _ => rfl) fun f cdv A outer s H vs Q E hr h => ?_
    obtain ⟨bs, v, d, a, pq, v2, d2, e, rfl, ln, al, hd, fit, ha, hd2, fit2, ate, q⟩ := h
    refine ⟨_, (pss_cons (ps_if (pt_cmpR (op_eqD hr.units) (pv 1) (pe_lst pa_nil) (nomark _)) (pss_one (ps_ret (pv 2))) pss_nil)
    (pss_cons (ps_set (i := 3) sc_law_with.nd rfl (Or.inl rfl) (pe_callTy call_list_of (by rfl) G.b_list (by decide +kernel) (pa_cons (pv 0) pa_nil)))
    (pss_cons (ps_asg (pe_cal ih hr (by omega) (pa_cons (pe_ix ix_list (pv 3) (pe_ix ix_list (pv 1) pe_int (fun _ _ => rfl)) (fun _ _ => rfl)) (pa_cons (pe_slice sl_list (pv 1) (po_some pe_int) po_none) (pa_cons (pv 2) pa_nil)))) (pg_sub (pv 3) (pe_ix ix_list (pv 1) pe_int (fun _ _ => rfl)) set_list))
    (pss_one (ps_ret (pe_ifExp (pt_val (pe_callB call_isi (by rfl) G.b_isinstance (by decide +kernel) (pa_cons (pv 0) (pa_cons (pe_bltn (v := .ty "tuple") (u := .type "tuple") (by rfl) G.b_tuple (by decide +kernel) rfl) pa_nil)))) (pe_callTy call_tuple_of (by rfl) G.b_tuple (by decide +kernel) (pa_cons (pv 3) pa_nil)) (pv 3))))))), ?_⟩
    refine ⟨_, rfl, by show 0 ≤ sizeLine; decide, fun p1 h1 => ?_⟩
    generalize e1 : upd H p1 _ = H1
    obtain ⟨s1, d1⟩ := nw e1 h1
    refine ⟨_, .list [], dp_path (s1 _ _ ha), .lst (SqL.of d1) .nil, path_shaped pq, rfl, _, rfl, ?_⟩
    rw [path_eqv]
    cases pq with
    | nil => exact iteT ⟨_, rfl, q v2 d2 H1 s1 (hd2.hs s1) fit2 (Nat.le_add_left ..) (Nat.le_add_left ..)⟩
    | cons k pq =>
      refine iteF ?_
      obtain ⟨ds, dk, hi, hk, atk⟩ := D.at_step ate
      obtain ⟨a2, xs, rfl, h2, hl2⟩ := (hd.hs s1).items hi
      obtain ⟨x, hx, hxd⟩ := hl2.get hk
      have h2' : SqL K H1 a2 xs ∨ SqT K H1 a2 xs := h2.imp (fun h => SqL.of (hid_le _ _ h)) fun h => SqT.of (hid_le _ _ h)
      have ha1 := s1 _ _ ha
      refine ⟨_, rfl, a2, xs, rfl, h2', fun p2 hp2 => ?_⟩
      generalize e2 : upd H1 p2 _ = H2
      obtain ⟨s2, d2'⟩ := nw e2 hp2
      refine ⟨_, rfl, _, rfl, a, _, 0, _, rfl, rfl, SqL.of (s2 _ _ ha1), at0 (V.int (k : Int)) (pq.map fun k : Nat => V.int (k : Int)), p2, xs, (k : Int), x, rfl, rfl, SqL.of d2', atI_get hx, ?_⟩
      refine ⟨_, rfl, 1, rfl, a, _, rfl, SqL.of (s2 _ _ ha1), fun p3 hp3 => ?_⟩
      generalize e3 : upd H2 p3 _ = H3
      obtain ⟨s3, d3⟩ := nw e3 hp3
      have d3 : H3 p3 = some (.lst (pq.map fun k : Nat => V.int (k : Int))) := by
        rw [d3]; exact congrArg (fun z => some (HO.lst z)) (cut1 _ _)
      cases n with
      | zero => simp at ln
      | succ n =>
      have eI := hI n rfl
      subst eI
      have s13 := s2.trans s3
      obtain ⟨iz1, iz2, iz3⟩ := D.items_sz hi fit
      obtain ⟨kz1, kz2, kz3⟩ := D.mem_sz hk iz3
      have al1 := al.same s1
      have toH3 : Same (hid bs H1) (hid (p2 :: bs) H3) := hid_new (cs := []) hp2 (Kp.of s13) (by simp)
      have al3 : Al (p2 :: bs) H3 := fun a z => (List.mem_cons.mp z).elim (fun e => ⟨.lst xs, by rw [e]; exact s3 _ _ d2'⟩) fun z => al1.same s13 a z
      refine ⟨_, rfl, p2 :: bs, x, dk, p3, pq, v2, d2, e, rfl, by rw [List.length_cons] at ln; omega, al3, hxd.same toH3, kz3, d3, (hd2.hs s1).same toH3, fit2, atk, fun v4 d4 H4 s4 h4 f4 sz4 dp4 => ?_⟩
      have s14 := s13.trans s4
      have s24 := s3.trans s4
      have lk : k < xs.length := (List.getElem?_eq_some_iff.mp hx).1
      refine ⟨_, rfl, _, rfl, a, _, 0, _, rfl, rfl, SqL.of (s4 _ _ (s3 _ _ (s2 _ _ ha1))), at0 (V.int (k : Int)) (pq.map fun k : Nat => V.int (k : Int)), p2, xs, (k : Int), k, rfl, rfl, s4 _ _ (s3 _ _ d2'), ixn lk, ?_⟩
      generalize e5 : upd H4 p2 _ = H5
      have s5 : Same H1 H5 := by rw [← e5]; exact Same.put s14 hp2
      have d5 : H5 p2 = some (.lst (xs.set k v4)) := by rw [← e5]; exact upd_same
      have k5 : Kp [p2] H4 H5 := by rw [← e5]; exact Kp.atb (by simp)
      have nb : p2 ∉ bs := al1.new hp2
      -- all that stands over bs and p2
      have out : ∀ {v : V} {d : D}, Dd (hid (p2 :: bs) H4) v d → Dd (hid bs H5) v d := fun h => (h.same (Kp.hid (k5.mono (by simp)))).same hid_more
      have outL : ∀ {v : List V} {d : List D}, DdL (hid (p2 :: bs) H4) v d → DdL (hid bs H5) v d := fun h => (h.same (Kp.hid (k5.mono (by simp)))).same hid_more
      have hset : DdL (hid bs H5) (xs.set k v4) (ds.set k d4) := (outL ((hl2.same toH3).hs s4)).set k (out h4)
      obtain ⟨f1, f2, f3⟩ := D.set_sz (b := d2.sz) (z := d2.dep) hk iz3 f4 sz4 dp4
      have s05 := s1.trans s5
      have hv5 := hd.hs s05
      refine ⟨_, rfl, _, _, _, _, _, rfl, .ty "tuple", (hv5.same hid_le).tyx, kit_tuple d, _, rfl, itb (fun e6 => ?_) fun e6 => ?_⟩
      · refine ⟨_, rfl, p2, _, rfl, .inl ⟨SqL.of d5, fun p6 h6 => ?_⟩⟩
        generalize e7 : upd H5 p6 _ = H7
        obtain ⟨s7, d7⟩ := nw e7 h6
        refine q _ (.tup (ds.set k d4)) H7 (s05.trans s7) (Dd.newT (al.same s05) h6 s7 d7 hset) f1 ?_ ?_
        · show 1 + D.szs (ds.set k d4) ≤ _; omega
        · show D.deps (ds.set k d4) + 1 ≤ _; omega
      · refine ⟨_, rfl, q _ (.lst (ds.set k d4)) H5 s05 (.lst (by rw [hid_out nb]; exact d5) hset) f1 ?_ ?_⟩
        · show 1 + D.szs (ds.set k d4) ≤ _; omega
        · show D.deps (ds.set k d4) + 1 ≤ _; omega
  intro n
  induction n with
  | zero => exact body 0 1 (fun _ _ _ _ => False) (fun n' h => by cases h) (callee (k := 0) DA sc_law_with (fun _ _ _ _ h => h.elim) (fun _ _ _ _ _ _ us hl => match us, hl with | [_, _, _], _ => rfl) fun _ _ _ _ _ _ _ _ _ _ h => h.elim)
  | succ n ih => exact body (n + 1) (2 + n) (spWi n) (fun n' h => by cases h; rfl) ih
end
end NH
set_option maxHeartbeats 4000000
namespace NH
open PySem PySem.Spec PyProof.Rows L2 TL
theorem D.mem_cln : ∀ {ds : List D} {k : Nat} {e : D}, ds[k]? = some e → D.clns ds → e.cln
  | [], _, _, h, _ => by simp at h
  | d :: ds, 0, e, h, f => by cases h; exact f.1
  | d :: ds, k + 1, e, h, f => D.mem_cln (ds := ds) (k := k) (by simpa using h) f.2
theorem D.at_cln : ∀ {q : List Nat} {d e : D}, D.at q d = some e → d.cln → e.cln
  | [], d, e, h, f => by cases h; exact f
  | k :: q, d, e, h, f => by
    obtain ⟨ds, d1, a, b, c⟩ := D.at_step h
    refine D.at_cln c (D.mem_cln b ?_)
    cases d <;> first | (cases a; exact f) | cases a
theorem Ways.kp {bs cs : List Addr} {d : D} {p : Addr} {xs : List V} {qs : List (List Nat)} {H H' : Hp} (w : Ways bs d p xs qs H) (k : Kp cs H H') (sub : ∀ a ∈ cs, a ∈ bs) : Ways bs d p xs qs H' :=
  ⟨w.out, k _ _ (fun z => w.out (sub _ z)) w.has, w.ds.same (Kp.hid (k.mono sub)), w.ne, w.ok⟩
theorem at_last {α : Type} {l : List α} {x : α} (h : l.getLast? = some x) : atI l (-1) = some x := by
  have e : l[l.length - 1]? = some x := by rw [← List.getLast?_eq_getElem?]; exact h
  have n0 : 0 < l.length := by cases l with
    | nil => cases h
    | cons _ _ => exact Nat.succ_pos _
  have i1 : ixN l.length (-1) = some (l.length - 1) := by
    unfold ixN
    rw [if_neg (by omega), if_pos (by omega)]
    congr 1; omega
  unfold atI
  rw [i1]; exact e
theorem pick {H : Hp} {xs : List V} {ds : List D} {t : Nat} (h : DdL H xs ds) (ht : t < xs.length) (f : D.fits ds) : ∃ x e, atI xs (t : Int) = some x ∧ Dd H x e ∧ e.fit ∧ e.sz ≤ D.szs ds ∧ e.dep ≤ D.deps ds := by
  have hx : xs[t]? = some xs[t] := List.getElem?_eq_getElem ht
  obtain ⟨e, he, hd⟩ := h.at hx
  obtain ⟨a, b, c⟩ := D.mem_sz he f
  exact ⟨_, e, atI_get hx, hd, c, a, b⟩
theorem tuple_of {K : PySem.W.Frag} {σ : L2.St} {i : Nat} {bs : List Addr} {H : Hp} {v : V} {d : D} {ds : List D} {F : VK} (slot : σ[i]? = some (some v)) (al : Al bs H) (h : Dd (hid bs H) v d) (hi : d.items = some ds) (k : ∀ v' H', Same H H' → Dd (hid bs H') v' (.tup ds) → F v' H') :
    tCB (fun xs H_1 (Q : VK) => ∃ p ys, xs = [V.ref p] ∧ ((SqL K H_1 p ys ∧ ∀ l, H_1 l = none → Q (.ref l) (upd H_1 l (.tup ys))) ∨ (SqT K H_1 p ys ∧ Q (.ref p) H_1))) (tCons (tVar i) tNil) σ H F := by
  refine ⟨v, slot, ?_⟩
  show ∃ p ys, [v] = [V.ref p] ∧ ((SqL K H p ys ∧ ∀ l, H l = none → F (.ref l) (upd H l (.tup ys))) ∨ (SqT K H p ys ∧ F (.ref p) H))
  obtain ⟨a, xs, rfl, ha, hl⟩ := h.items hi
  rcases ha with ha | ha
  · refine ⟨a, xs, rfl, .inl ⟨SqL.of (hid_le _ _ ha), fun l hl' => ?_⟩⟩
    generalize e1 : upd H l _ = H1
    obtain ⟨s1, d1⟩ := nw e1 hl'
    exact k _ H1 s1 (Dd.newT al hl' s1 d1 hl)
  · exact ⟨a, xs, rfl, .inr ⟨SqT.of (hid_le _ _ ha), k _ H (Same.refl H) (.tup ha hl)⟩⟩
theorem list_of {K : PySem.W.Frag} {σ : L2.St} {i : Nat} {bs : List Addr} {H : Hp} {v : V} {d : D} {ds : List D} {F : VK} (slot : σ[i]? = some (some v)) (al : Al bs H) (h : Dd (hid bs H) v d) (hi : d.items = some ds) (k : ∀ l ys H', Same H H' → l ∉ bs → H' l = some (.lst ys) → DdL (hid bs H') ys ds → F (.ref l) H') :
    tCB (fun xs H_1 (Q : VK) => ∃ p ys, xs = [V.ref p] ∧ (SqL K H_1 p ys ∨ SqT K H_1 p ys) ∧ ∀ l, H_1 l = none → Q (.ref l) (upd H_1 l (.lst ys))) (tCons (tVar i) tNil) σ H F := by
  refine ⟨v, slot, ?_⟩
  show ∃ p ys, [v] = [V.ref p] ∧ (SqL K H p ys ∨ SqT K H p ys) ∧ ∀ l, H l = none → F (.ref l) (upd H l (.lst ys))
  obtain ⟨a, xs, rfl, ha, hl⟩ := h.items hi
  refine ⟨a, xs, rfl, ha.imp (fun h => SqL.of (hid_le _ _ h)) (fun h => SqT.of (hid_le _ _ h)), fun l hl' => ?_⟩
  generalize e1 : upd H l _ = H1
  obtain ⟨s1, d1⟩ := nw e1 hl'
  exact k l xs H1 s1 (al.new hl') d1 (hl.hs s1)
theorem int_chr : ∀ n : Nat, n ≤ 1000 → ((tl ((toString (n : Int) : String) : Str)).all fun c => decide (c < 128)) = true ∧ ((tl ((toString (-(n : Int)) : String) : Str)).all fun c => decide (c < 128)) = true := by decide +kernel
theorem int_pl {i : Int} (h : i.natAbs ≤ 1000) : Pl 5 ((toString i : String) : Str) := by
  have z := int_len i.natAbs h
  have y := int_chr i.natAbs h
  rcases Int.natAbs_eq i with e | e
  · rw [e]; exact ⟨fun c hc => of_decide_eq_true (List.all_eq_true.mp y.1 c hc), z.1⟩
  · rw [e]; exact ⟨fun c hc => of_decide_eq_true (List.all_eq_true.mp y.2 c hc), z.2⟩
theorem upper_pl {k : Nat} {x : Str} (h : Pl k x) : Pl k (Txt.upper x) := by
  rw [PyProof.Rows.upper_ascii h.1]
  refine ⟨fun c hc => ?_, by show (x.cps.map up1).toList.length ≤ k; rw [Array.toList_map, List.length_map]; exact h.2⟩
  have hc : c ∈ (x.cps.map up1).toList := hc
  rw [Array.toList_map] at hc
  obtain ⟨y, hy, rfl⟩ := List.mem_map.mp hc
  have := h.1 y hy
  unfold up1
  split <;> omega
def wordsCh : List Str := ["is", "above", "both", "either", "not", "if", "repeat", "set", "add", "take", "due", "else"]
theorem wordsCh_pl : ∀ y ∈ wordsCh, Pl 10 y := fun y hy => by
  have z : (wordsCh.all fun y => ((tl y).all fun c => decide (c < 128)) && decide ((tl y).length ≤ 10)) = true := by decide +kernel
  obtain ⟨a, b⟩ := (Bool.and_eq_true _ _ ▸ List.all_eq_true.mp z y hy : ((tl y).all fun c => decide (c < 128)) = true ∧ decide ((tl y).length ≤ 10) = true)
  exact ⟨fun c hc => of_decide_eq_true (List.all_eq_true.mp a c hc), of_decide_eq_true b⟩
section
variable {P : Program} {w : World} {K : PySem.W.Frag} {mg : Str → Option Value} {base : Heap}
abbrev s_law_changed : Stmt := top 53
theorem sc_law_changed : FnScope ["box", "value", "sides", "names", "paths", "path", "way", "place", "step", "words", "more", "less", "shapes"] ["box", "value", "sides", "names"] (defScope s_law_changed) := ⟨rfl, rfl, rfl, by decide +kernel, rfl, by decide +kernel, by decide +kernel⟩
def spCh : Sp := fun vs H Q _ => ∃ (bs : List Addr) (b s m : Addr) (ys nm : List Str) (n : Nat) (v : V) (d : D), vs = [.ref b, v, .ref s, .ref m] ∧ Gn bs b s m ys nm H ∧ Bx b n H ∧ n ≤ 500000000 ∧ Dd (hid bs H) v d ∧ Sm 10000 14 d ∧ ∀ v3 d3 H', Kp [b] H H' → Al bs H' → Bx b (n + 3) H' → Dd (hid bs H') v3 d3 → d3.fit → d3.sz ≤ 300000 → d3.dep ≤ 30 → Q v3 H'
theorem ok_law_changed (G : Bl mg) (DA : DefAt K mg "_law_changed" s_law_changed) (cT : Callee P w K mg base 2 "_law_take" ["box", "many"] spTake) (cPa : Callee P w K mg base 2 "_law_paths" ["value"] spPa) (cWi : Callee P w K mg base 16 "_law_with" ["value", "path", "new"] (spWi 14)) : Callee P w K mg base 17 "_law_changed" ["box", "value", "sides", "names"] spCh := by
  refine callee DA sc_law_changed (fun vs H Q E h => by obtain ⟨_, _, _, _, _, _, _, _, _, rfl, _⟩ := h; rfl) (fun _ _ _ _ _ _ us hl => match us, hl with | [_, _, _, _], _ => rfl) fun f cdv A outer s H vs Q E hr h => ?_
  obtain ⟨bs, b, sA, m, ys, nm, n, v, d, rfl, g, hb, hn, hd, sm, q⟩ := h
  refine ⟨_, (pss_cons (ps_set (i := 4) sc_law_changed.nd rfl (Or.inl rfl) (pe_cal cPa hr (by decide) (pa_cons (pv 1) pa_nil)))
    (pss_cons (ps_par (i := 5) (j := 6) (by rfl) sc_law_changed.nd rfl rfl (by decide) rfl rfl (pa_cons (pe_ix ix_list (pv 4) (pe_cal cT hr (by decide) (pa_cons (pv 0) (pa_cons (pe_callB call_len_seq (by rfl) G.b_len (by decide +kernel) (pa_cons (pv 4) pa_nil)) pa_nil))) (fun _ _ => rfl)) (pa_cons (pe_cal cT hr (by decide) (pa_cons (pv 0) (pa_cons pe_int pa_nil))) pa_nil)) (by rfl))
    (pss_cons (ps_set (i := 7) sc_law_changed.nd rfl (Or.inl rfl) (pv 1))
    (pss_cons (ps_for PassesOwn.never rfl (pi_list (pv 5)) (pg_name (i := 8) sc_law_changed.nd rfl (Or.inl rfl)) (pss_one (ps_set (i := 7) sc_law_changed.nd rfl (Or.inl rfl) (pe_ix ix_seq (pv 7) (pv 8) (fun _ _ => rfl)))))
    (pss_cons (ps_set (i := 9) sc_law_changed.nd rfl (Or.inl rfl) (pe_lst (pa_cons pe_str (pa_cons pe_str (pa_cons pe_str (pa_cons pe_str (pa_cons pe_str (pa_cons pe_str (pa_cons pe_str (pa_cons pe_str (pa_cons pe_str (pa_cons pe_str (pa_cons pe_str (pa_cons pe_str pa_nil))))))))))))))
    (pss_cons (ps_set (i := 10) sc_law_changed.nd rfl (Or.inl rfl) (pe_lst (pa_cons pe_non (pa_cons pe_bl (pa_cons pe_bl (pa_cons pe_int (pa_cons pe_int (pa_cons pe_int (pa_cons (pe_un un_neg pe_int) (pa_cons pe_str (pa_cons pe_str (pa_cons (pe_tup pa_nil) (pa_cons (pe_lst pa_nil) (pa_cons pe_dnewK (pa_cons (pe_tup (pa_cons pe_str pa_nil)) (pa_cons (pe_tup (pa_cons pe_str (pa_cons pe_str pa_nil))) (pa_cons (pe_tup (pa_cons pe_str (pa_cons (pe_ix ix_list (pv 2) pe_int (fun _ _ => rfl)) (pa_cons pe_int pa_nil)))) (pa_cons (pe_ix ix_list (pv 2) (pe_un un_neg pe_int) (fun _ _ => rfl)) pa_nil))))))))))))))))))
    (pss_cons (ps_if (pt_cmpR op_eq (pv 6) pe_int (nomark _)) (pss_one (ps_ret (pe_cal cWi hr (by decide) (pa_cons (pv 1) (pa_cons (pv 5) (pa_cons (pe_ix ix_list (pv 9) (pe_cal cT hr (by decide) (pa_cons (pv 0) (pa_cons pe_int pa_nil))) (fun _ _ => rfl)) pa_nil)))))) pss_nil)
    (pss_cons (ps_if (pt_cmpR op_eq (pv 6) pe_int (nomark _)) (pss_one (ps_ret (pe_cal cWi hr (by decide) (pa_cons (pv 1) (pa_cons (pv 5) (pa_cons (pe_ix ix_list (pv 10) (pe_cal cT hr (by decide) (pa_cons (pv 0) (pa_cons pe_int pa_nil))) (fun _ _ => rfl)) pa_nil)))))) pss_nil)
    (pss_cons (ps_if (pt_val (pe_callB call_isiT (by rfl) G.b_isinstance (by decide +kernel) (pa_cons (pv 7) (pa_cons (pe_tup (pa_cons (pe_bltn (v := .ty "list") (u := .type "list") (by rfl) G.b_list (by decide +kernel) rfl) (pa_cons (pe_bltn (v := .ty "tuple") (u := .type "tuple") (by rfl) G.b_tuple (by decide +kernel) rfl) pa_nil))) pa_nil)))) (pss_cons (ps_set (i := 11) sc_law_changed.nd rfl (Or.inl rfl) (pe_ifExp (pt_cmpR op_eq (pv 6) pe_int (nomark _)) (pe_slice sl_list (pe_callTy call_list_of (by rfl) G.b_list (by decide +kernel) (pa_cons (pv 7) pa_nil)) po_none (po_some (pe_un un_neg pe_int))) (pe_op op_cat (pe_callTy call_list_of (by rfl) G.b_list (by decide +kernel) (pa_cons (pv 7) pa_nil)) (pe_slice sl_list (pe_callTy call_list_of (by rfl) G.b_list (by decide +kernel) (pa_cons (pv 7) pa_nil)) (po_some (pe_un un_neg pe_int)) po_none))))
    (pss_cons (ps_set (i := 12) sc_law_changed.nd rfl (Or.inl rfl) (pe_lst (pa_cons (pe_callTy call_list_of (by rfl) G.b_list (by decide +kernel) (pa_cons (pv 7) pa_nil)) (pa_cons (pe_callTy call_tuple_of (by rfl) G.b_tuple (by decide +kernel) (pa_cons (pv 7) pa_nil)) (pa_cons (pv 11) (pa_cons (pe_callTy call_tuple_of (by rfl) G.b_tuple (by decide +kernel) (pa_cons (pv 11) pa_nil)) (pa_cons (pe_lst (pa_cons (pv 7) pa_nil)) (pa_cons (pe_tup (pa_cons pe_str (pa_cons (pv 7) pa_nil))) pa_nil))))))))
    (pss_one (ps_ret (pe_cal cWi hr (by decide) (pa_cons (pv 1) (pa_cons (pv 5) (pa_cons (pe_ix ix_list (pv 12) (pe_cal cT hr (by decide) (pa_cons (pv 0) (pa_cons pe_int pa_nil))) (fun _ _ => rfl)) pa_nil)))))))) pss_nil)
    (pss_cons (ps_if (pt_val (pe_callB call_isi (by rfl) G.b_isinstance (by decide +kernel) (pa_cons (pv 7) (pa_cons (pe_bltn (v := .ty "str") (u := .type "str") (by rfl) G.b_str (by decide +kernel) rfl) pa_nil)))) (pss_one (ps_ret (pe_cal cWi hr (by decide) (pa_cons (pv 1) (pa_cons (pv 5) (pa_cons (pe_ix ix_list (pe_lst (pa_cons (pe_op op_add_str (pv 7) pe_str) (pa_cons (pe_upper (pv 7)) (pa_cons (pe_slice sl_str (pv 7) po_none (po_some (pe_un un_neg pe_int))) (pa_cons (pe_tup (pa_cons (pv 7) pa_nil)) (pa_cons (pe_op op_add_str (pv 7) pe_str) pa_nil)))))) (pe_cal cT hr (by decide) (pa_cons (pv 0) (pa_cons pe_int pa_nil))) (fun _ _ => rfl)) pa_nil)))))) pss_nil)
    (pss_cons (ps_if (pt_val (pe_callB call_isi (by rfl) G.b_isinstance (by decide +kernel) (pa_cons (pv 7) (pa_cons (pe_bltn (v := .ty "int") (u := .type "int") (by rfl) G.b_int (by decide +kernel) rfl) pa_nil)))) (pss_one (ps_ret (pe_cal cWi hr (by decide) (pa_cons (pv 1) (pa_cons (pv 5) (pa_cons (pe_ix ix_list (pe_lst (pa_cons (pe_op op_add (pv 7) pe_int) (pa_cons (pe_op op_sub (pe_un un_neg pe_int) (pv 7)) (pa_cons (pe_callTy call_str_int (by rfl) G.b_str (by decide +kernel) (pa_cons (pv 7) pa_nil)) (pa_cons (pe_tup (pa_cons (pv 7) pa_nil)) (pa_cons (pe_cmpR op_eq (pv 7) pe_int (nomark _)) pa_nil)))))) (pe_cal cT hr (by decide) (pa_cons (pv 0) (pa_cons pe_int pa_nil))) (fun _ _ => rfl)) pa_nil)))))) pss_nil)
    (pss_one (ps_ret (pv 1)))))))))))))), ?_⟩
  have sub : ∀ a ∈ [b], a ∈ bs := fun a z => by rw [List.mem_singleton.mp z]; exact g.inb
  have fit := D.cln_fit sm.fit
  have smsz := sm.sz
  have smdp := sm.dep
  refine ⟨_, rfl, bs, v, d, rfl, g.al, hd, fit, smsz, fun pp xs qs H1 s1 w1 lq => ?_⟩
  have b1 := hb.same s1
  have g1 := g.same s1
  have lx : xs.length = qs.length := by rw [w1.ds.len, List.length_map]
  have q0 : 0 < qs.length := by
    cases e : qs with
    | nil => exact absurd e w1.ne
    | cons _ _ => exact Nat.succ_pos _
  refine ⟨_, rfl, _, rfl, _, rfl, pp, xs, rfl, .inl (SqL.of w1.has), ?_⟩
  obtain ⟨o0_, e0_, i0_⟩ := id b1
  refine ⟨_, xs.length, _, o0_, rfl, e0_, i0_, by omega, by first | decide | omega, by first | decide | omega, fun i o1_ hi i1_ => ?_⟩
  generalize eH_ : upd _ _ o1_ = H2
  obtain ⟨k2, b2, oth2⟩ := tkf eH_ i1_
  clear eH_ i1_ i0_ e0_ o0_
  have w2 := w1.kp k2 sub
  obtain ⟨pq, a, e, mq, hq, hx, ha, da, ate⟩ := w2.at (i := i) (by omega)
  refine ⟨pp, xs, _, _, rfl, rfl, SqL.of w2.has, atI_get hx, _, rfl, ?_⟩
  obtain ⟨o0_, e0_, i0_⟩ := id b2
  refine ⟨_, 4, _, o0_, rfl, e0_, i0_, by omega, by first | decide | omega, by first | decide | omega, fun way o1_ hw i1_ => ?_⟩
  generalize eH_ : upd _ _ o1_ = H3
  obtain ⟨k3, b3, oth3⟩ := tkf eH_ i1_
  clear eH_ i1_ i0_ e0_ o0_
  have ab : a ≠ b := fun z => ha (by rw [z]; exact g.inb)
  have da3 : H3 a = some (.lst (pq.map fun k : Nat => V.int (k : Int))) := (oth3 a ab).trans da
  have g3 := (g1.tk k2 b2).tk k3 b3
  have k03 := ((Kp.of s1).trans k2).trans k3
  have hd3 : Dd (hid bs H3) v d := hd.same (Kp.hid (k03.mono sub))
  refine ⟨_, _, rfl, _, rfl, _, rfl, a, rfl, ⟨_, SqL.of da3⟩, ?_⟩
  refine for_list (K := K) (a := a) (xs := pq.map fun k : Nat => V.int (k : Int)) (fun i σ H' => ∃ (vi : V) (di : D) (x8 : Option V), σ = [some (.ref b), some v, some (.ref sA), some (.ref m), some (.ref pp), some (.ref a), some (.int (way : Int)), some vi, x8, none, none, none, none] ∧ H' = H3 ∧ Dd (hid bs H3) vi di ∧ D.at (pq.take i) d = some di)
    ⟨v, d, none, rfl, rfl, hd3, rfl⟩ (fun i σ H' _ ⟨_, _, _, _, eH, _⟩ => by rw [eH]; exact SqL.of da3) ?_ ?_
  · rintro i x σ H' hx' ⟨vi, di, x8, rfl, rfl, hvi, ati⟩
    obtain ⟨e1', g1, g2⟩ := D.at_take ate i
    rw [ati] at g1
    cases g1
    rw [List.getElem?_map] at hx'
    cases hk : pq[i]? with
    | none => rw [hk] at hx'; cases hx'
    | some k =>
      rw [hk] at hx'
      cases hx'
      obtain ⟨ds, e2', hi, hk2, at2⟩ := g2 k hk
      exact ⟨_, rfl, _, rfl, rix hid_le hvi hi hk2 fun x hx => ⟨x, e2', _, rfl, rfl, hx, at2⟩⟩
  rintro σ H' ⟨vp, dp, x8, rfl, rfl, hvp, ati⟩
  rw [List.length_map, List.take_length] at ati
  rw [ate] at ati
  cases ati
  obtain ⟨zs, zd, zf⟩ := D.at_sz ate fit
  have zc := D.at_cln ate sm.fit
  -- the end: with something new at the place
  have fin : ∀ (H5 : Hp) (vn : V) (dn : D), Kp [b] H' H5 → Al bs H5 → Bx b (n + 3) H5 → Dd (hid bs H5) vn dn → dn.fit → dn.sz ≤ 200000 → dn.dep ≤ 16 → spWi 14 ([v, .ref a, vn] ++ []) H5 Q E0 := by
    intro H5 vn dn k5 a5 b5 h5 f5 z5 p5
    refine ⟨bs, v, d, a, pq, vn, dn, e, rfl, by omega, a5, hd3.same (Kp.hid (k5.mono sub)), fit, k5 _ _ (by simpa using ab) da3, h5, f5, ate, fun v3 d3 H6 s6 h6 f6 z6 p6 => ?_⟩
    exact q v3 d3 H6 ((k03.trans k5).trans (Kp.of s6)) (a5.same s6) (b5.same s6) h6 f6 (by omega) (by omega)
  have g4 := g3
  have kb : b ∉ ([] : List Addr) := by simp
  -- words
  refine ⟨by show 12 ≤ sizeLine; decide, fun p9 hp9 => ?_⟩
  generalize e9 : upd H' p9 _ = H9
  obtain ⟨s9, d9⟩ := nw e9 hp9
  -- more
  obtain ⟨y0, ys', ey⟩ : ∃ y0 ys', ys = y0 :: ys' := by
    have := g.y0
    cases h : ys with
    | nil => rw [h] at this; cases this
    | cons x l => exact ⟨_, _, rfl⟩
  obtain ⟨yl, eyl⟩ : ∃ yl, ys.getLast? = some yl := by rw [ey]; exact ⟨_, List.getLast?_eq_some_getLast (by simp)⟩
  have py0 : Pl 10 y0 := g.yp y0 (by rw [ey]; simp)
  have pyl : Pl 10 yl := g.yp yl (List.mem_of_getLast? eyl)
  refine ⟨1, rfl, by show 0 ≤ sizeLine; decide, fun pa hpa => ?_⟩
  generalize ea : upd H9 pa _ = Ha
  obtain ⟨sa, dda⟩ := nw ea hpa
  refine ⟨by show 0 ≤ sizeLine; decide, fun pb hpb => ?_⟩
  generalize eb : upd Ha pb _ = Hb
  obtain ⟨sb, ddb⟩ := nw eb hpb
  refine fun pc hpc => ?_
  generalize ec : upd Hb pc _ = Hc
  obtain ⟨sc, ddc⟩ := nw ec hpc
  refine ⟨by show 1 ≤ sizeLine; decide, fun pd hpd => ?_⟩
  generalize ed : upd Hc pd _ = Hd
  obtain ⟨sd, ddd⟩ := nw ed hpd
  refine ⟨by show 2 ≤ sizeLine; decide, fun pe hpe => ?_⟩
  generalize ee : upd Hd pe _ = He
  obtain ⟨se, dde⟩ := nw ee hpe
  have sH9 := s9
  have s9e := (((sa.trans sb).trans sc).trans sd).trans se
  have g9 := g3.same s9
  have gE := g9.same s9e
  have shE := gE.sh
  rw [ey] at shE
  refine ⟨_, rfl, sA, _, 0, _, rfl, rfl, SqL.of shE, at0 _ _, by show 3 ≤ sizeLine; decide, fun pf hpf => ?_⟩
  generalize ef : upd He pf _ = Hf
  obtain ⟨sf, ddf⟩ := nw ef hpf
  have gF := gE.same sf
  refine ⟨_, rfl, 1, rfl, sA, ys.map V.str, -1, .str yl, rfl, rfl, SqL.of gF.sh, at_last (by rw [List.getLast?_map, eyl]; rfl), by show 16 ≤ sizeLine; decide, fun p10 hp10 => ?_⟩
  generalize e10 : upd Hf p10 _ = H10
  obtain ⟨s10, d10⟩ := nw e10 hp10
  have alA := g9.al
  have alB := alA.same sa
  have alC := alB.same sb
  have alD := alC.same sc
  have alE := alD.same sd
  have alF := alE.same se
  have u10 := sf.trans s10
  have ue := se.trans u10
  have ud := sd.trans ue
  have uc := sc.trans ud
  have ub := sb.trans uc
  have more : DdL (hid bs H10) [.non, .bl true, .bl false, .int 0, .int 9, .int 10, .int (-1), .str "zz9", .str "", .ref pa, .ref pb, .ref pc, .ref pd, .ref pe, .ref pf, .str yl] [.non, .bl true, .bl false, .int 0, .int 9, .int 10, .int (-1), .str "zz9", .str "", .tup [], .lst [], .dic, .tup [.str "due"], .tup [.str "due", .str "p"], .tup [.str "due", .str y0, .int 1], .str yl] :=
    .cons .non (.cons (.bl _) (.cons (.bl _) (.cons (.int _) (.cons (.int _) (.cons (.int _) (.cons (.int _) (.cons (.str _) (.cons (.str _)
      (.cons ((Dd.newT alA hpa sa dda .nil).hs ub) (.cons ((Dd.newL alB hpb sb ddb .nil).hs uc) (.cons ((Dd.dic (H := hid bs Hc) (by rw [hid_out (alC.new hpc)]; exact ddc)).hs ud)
      (.cons ((Dd.newT alD hpd sd ddd (.cons (.str _) .nil)).hs ue) (.cons ((Dd.newT alE hpe se dde (.cons (.str _) (.cons (.str _) .nil))).hs u10) (.cons ((Dd.newT alF hpf sf ddf (.cons (.str _) (.cons (.str _) (.cons (.int _) .nil)))).hs s10) (.cons (.str _) .nil)))))))))))))))
  have fdue : D.fit (.str "due") := (pl_of "due" (by decide +kernel)).1
  have fmore : D.fits [.non, .bl true, .bl false, .int 0, .int 9, .int 10, .int (-1), .str "zz9", .str "", .tup [], .lst [], .dic, .tup [.str "due"], .tup [.str "due", .str "p"], .tup [.str "due", .str y0, .int 1], .str yl] :=
    ⟨trivial, trivial, trivial, (by decide : (0 : Int).natAbs ≤ 1000), (by decide : (9 : Int).natAbs ≤ 1000), (by decide : (10 : Int).natAbs ≤ 1000), (by decide : (-1 : Int).natAbs ≤ 1000), (pl_of "zz9" (by decide +kernel)).1, (pl_of "" (by decide +kernel)).1, trivial, trivial, trivial, ⟨fdue, trivial⟩, ⟨fdue, (pl_of "p" (by decide +kernel)).1, trivial⟩, ⟨fdue, py0.1, (by decide : (1 : Int).natAbs ≤ 1000), trivial⟩, pyl.1, trivial⟩
  have zmore : D.szs [.non, .bl true, .bl false, .int 0, .int 9, .int 10, .int (-1), .str "zz9", .str "", .tup [], .lst [], .dic, .tup [.str "due"], .tup [.str "due", .str "p"], .tup [.str "due", .str y0, .int 1], .str yl] ≤ 100 := by
    have a1 := py0.len
    have a2 := pyl.len
    have b1 : Str.length (Str.ofString "due") = 3 := rfl
    have b2 : Str.length (Str.ofString "zz9") = 3 := rfl
    have b3 : Str.length (Str.ofString "") = 0 := rfl
    have b4 : Str.length (Str.ofString "p") = 1 := rfl
    simp only [D.szs, D.sz]
    omega
  have pmore : D.deps [.non, .bl true, .bl false, .int 0, .int 9, .int 10, .int (-1), .str "zz9", .str "", .tup [], .lst [], .dic, .tup [.str "due"], .tup [.str "due", .str "p"], .tup [.str "due", .str y0, .int 1], .str yl] ≤ 16 := by
    simp only [D.deps, D.dep]
    decide
  have sall : Same H' H10 := (sH9.trans s9e).trans u10
  have b10 := b3.same sall
  have al10 := g3.al.same sall
  have d9' := (s9e.trans u10) _ _ d9
  -- a word in its place
  refine ⟨_, rfl, rfl, _, rfl, itb (fun ew => ?_) fun ew => ?_⟩
  · refine ⟨_, rfl, _, rfl, _, rfl, _, rfl, ?_⟩
    have nb9 : p9 ≠ b := fun z => b3.ne hp9 z.symm
    obtain ⟨o0_, e0_, i0_⟩ := id b10
    refine ⟨_, 12, _, o0_, rfl, e0_, i0_, by omega, by first | decide | omega, by first | decide | omega, fun t o1_ ht i1_ => ?_⟩
    generalize eH_ : upd _ _ o1_ = H12
    obtain ⟨k12, b12, oth12⟩ := tkf eH_ i1_
    clear eH_ i1_ i0_ e0_ o0_
    obtain ⟨z, mz, ez⟩ := menuS wordsCh (d := t) ht
    have pz := wordsCh_pl z mz
    refine ⟨p9, _, _, _, rfl, rfl, SqL.of ((oth12 p9 nb9).trans d9'), ez, ?_⟩
    exact fin H12 (.str z) (.str z) ((Kp.of sall).trans k12) (al10.kp k12 b12) b12 (.str z) pz.1 (by have := pz.len; show 1 + z.length ≤ _; omega) (Nat.zero_le _)
  -- another value in its place
  refine ⟨_, rfl, rfl, _, rfl, itb (fun ew2 => ?_) fun ew2 => ?_⟩
  · refine ⟨_, rfl, _, rfl, _, rfl, _, rfl, ?_⟩
    have nb10 : p10 ≠ b := fun z => (b3.same ((sH9.trans s9e).trans sf)).ne hp10 z.symm
    obtain ⟨o0_, e0_, i0_⟩ := id b10
    refine ⟨_, 16, _, o0_, rfl, e0_, i0_, by omega, by first | decide | omega, by first | decide | omega, fun t o1_ ht i1_ => ?_⟩
    generalize eH_ : upd _ _ o1_ = H12
    obtain ⟨k12, b12, oth12⟩ := tkf eH_ i1_
    clear eH_ i1_ i0_ e0_ o0_
    obtain ⟨x, ex, hx', hxd, hxf, hxz, hxp⟩ := pick more (t := t) ht fmore
    refine ⟨p10, _, _, _, rfl, rfl, SqL.of ((oth12 p10 nb10).trans d10), hx', ?_⟩
    exact fin H12 x ex ((Kp.of sall).trans k12) (al10.kp k12 b12) b12 (hxd.hk k12 sub) hxf (by omega) (by omega)
  -- a list or a tuple
  have hP := hvp.hs sall
  refine ⟨_, rfl, by show 2 ≤ sizeLine; decide, fun p11 hp11 => ?_⟩
  generalize e11 : upd H10 p11 _ = H11
  obtain ⟨s11, d11⟩ := nw e11 hp11
  have hP := hP.hs s11
  have b11 := b10.same s11
  have al11 := al10.same s11
  have k11 : Kp [b] H' H11 := Kp.of (sall.trans s11)
  refine ⟨vp, p11, _, _, _, _, rfl, d11, .cons (.ty "list") (.cons (.ty "tuple") .nil), (hP.same hid_le).tyx, kit_seq e, _, rfl, itb (fun e6 => ?_) fun e6 => ?_⟩
  · obtain ⟨ds, hi⟩ : ∃ ds, e.items = some ds := by cases e <;> first | exact ⟨_, rfl⟩ | cases e6
    have dsc : D.clns ds := by cases e <;> first | (cases hi; exact zc) | cases hi
    obtain ⟨iz1, iz2, dsf⟩ := D.items_sz hi zf
    have q2 : D.szs ds ≤ 10000 := by omega
    have q4 : D.deps ds ≤ 13 := by omega
    have sl0 : Sl 10000 13 ds := ⟨dsc, q2, q4⟩
    have q1 : e.sz ≤ 10000 := by omega
    have q3 : e.dep ≤ 14 := by omega
    cases e with
    | lst ds' =>
      cases hi
      have hid7 := hP
      have hT7 := hP
      cases hP with
      | @lst a7 xs7 _ h7 hl7 =>
        obtain ⟨e, ee7⟩ : ∃ e, e = D.lst ds := ⟨_, rfl⟩
        rw [← ee7] at hid7 zs zd zf zc ate q1 q3
        have hat : ∀ Hq, Same H11 Hq → Hq a7 = some (.lst xs7) := fun Hq sq => sq _ _ (hid_le _ _ h7)
        refine ⟨_, rfl, rfl, _, rfl, itb (fun ew3 => ?_) fun ew3 => ?_⟩
        · refine ⟨_, rfl, a7, xs7, rfl, .inl (SqL.of (hat _ (Same.refl _))), fun l0 hl0 => ?_⟩
          generalize e0 : upd H11 l0 _ = Hx
          obtain ⟨s0, d0⟩ := nw e0 hl0
          refine ⟨1, rfl, -1, rfl, l0, xs7, rfl, SqL.of d0, fun pL hpL => ?_⟩
          generalize eL : upd Hx pL _ = Hy
          obtain ⟨sL, dL⟩ := nw eL hpL
          obtain ⟨dsL, hdL, slL⟩ := (hl7.hs s0).cut sl0 none (some (-1))
          have slL : Sl 20000 13 dsL := slL.mono (by decide) (Nat.le_refl _)
          have s0L := s0.trans sL
          have hLx : Dd (hid bs Hy) (.ref pL) (.lst dsL) := Dd.newL (al11.same s0) hpL sL dL hdL
          have dLy := dL
          have hdLy := hdL.hs sL
          have hPx : Dd (hid bs Hy) (.ref a7) e := hid7.hs s0L
          have alx := al11.same s0L
          have bxx := b11.same s0L
          have kxx := k11.trans (Kp.of s0L)
          have hx7 := hat Hy s0L
          refine ⟨_, rfl, a7, xs7, rfl, .inl (SqL.of hx7), fun l1 hl1 => ?_⟩
          generalize ea' : upd Hy l1 _ = Ha
          obtain ⟨sa', da'⟩ := nw ea' hl1
          have hl7x : DdL (hid bs Hy) xs7 ds := hl7.hs s0L
          have h1 : Dd (hid bs Ha) (.ref l1) (.lst ds) := Dd.newL alx hl1 sa' da' hl7x
          refine ⟨_, rfl, a7, xs7, rfl, .inl ⟨SqL.of (sa' _ _ hx7), fun p2' hp2' => ?_⟩⟩
          generalize eb' : upd Ha p2' _ = Hb
          obtain ⟨sb', db'⟩ := nw eb' hp2'
          have h2 : Dd (hid bs Hb) (.ref p2') (.tup ds) := Dd.newT (alx.same sa') hp2' sb' db' (hl7x.hs sa')
          have sab := sa'.trans sb'
          have dLb := sab _ _ dLy
          refine ⟨_, rfl, _, rfl, pL, _, rfl, .inl ⟨SqL.of dLb, fun p4 hp4 => ?_⟩⟩
          generalize ec' : upd Hb p4 _ = Hc
          obtain ⟨sc', dc'⟩ := nw ec' hp4
          have h4 : Dd (hid bs Hc) (.ref p4) (.tup dsL) := Dd.newT (alx.same sab) hp4 sc' dc' (hdLy.hs sab)
          have sac := sab.trans sc'
          refine ⟨_, rfl, by show 1 ≤ sizeLine; decide, fun p5 hp5 => ?_⟩
          generalize e5 : upd Hc p5 _ = Hd
          obtain ⟨sd', dd5⟩ := nw e5 hp5
          have sad := sac.trans sd'
          refine ⟨_, rfl, by show 2 ≤ sizeLine; decide, fun p6 hp6 => ?_⟩
          generalize e6' : upd Hd p6 _ = He'
          obtain ⟨se', dd6⟩ := nw e6' hp6
          refine ⟨by show 6 ≤ sizeLine; decide, fun p12 hp12 => ?_⟩
          generalize e12 : upd He' p12 _ = H12
          obtain ⟨s12, d12⟩ := nw e12 hp12
          have t5 := se'.trans s12
          have t4 := sd'.trans t5
          have t2 := sc'.trans t4
          have t1 := sb'.trans t2
          have t0 := sa'.trans t1
          have al12 := alx.same t0
          have b12 := bxx.same t0
          have shp : DdL (hid bs H12) [.ref l1, .ref p2', .ref pL, .ref p4, .ref p5, .ref p6] [.lst ds, .tup ds, .lst dsL, .tup dsL, .lst [e], .tup [.str "not", e]] :=
            .cons (h1.hs t1) (.cons (h2.hs t2) (.cons (hLx.hs t0) (.cons (h4.hs t4) (.cons ((Dd.newL (alx.same sac) hp5 sd' dd5 (.cons (hPx.hs sac) .nil)).hs t5) (.cons ((Dd.newT (alx.same sad) hp6 se' dd6 (.cons (.str _) (.cons (hPx.hs sad) .nil))).hs s12) .nil)))))
          have fL := D.clns_fits slL.fit
          have fnot : D.fit (.str "not") := (pl_of "not" (by decide +kernel)).1
          have fshp : D.fits [.lst ds, .tup ds, .lst dsL, .tup dsL, .lst [e], .tup [.str "not", e]] := ⟨dsf, dsf, fL, fL, ⟨zf, trivial⟩, ⟨fnot, zf, trivial⟩, trivial⟩
          have zshp : D.szs [.lst ds, .tup ds, .lst dsL, .tup dsL, .lst [e], .tup [.str "not", e]] ≤ 200000 := by
            have b1 : Str.length (Str.ofString "not") = 3 := rfl
            have b2 := slL.sz
            simp only [D.szs, D.sz]
            omega
          have pshp : D.deps [.lst ds, .tup ds, .lst dsL, .tup dsL, .lst [e], .tup [.str "not", e]] ≤ 16 := by
            have b2 := slL.dep
            simp only [D.deps, D.dep]
            omega
          refine ⟨_, rfl, _, rfl, _, rfl, _, rfl, ?_⟩
          have nb12 : p12 ≠ b := fun z => (bxx.same (sad.trans se')).ne hp12 z.symm
          obtain ⟨o0_, e0_, i0_⟩ := id b12
          refine ⟨_, 6, _, o0_, rfl, e0_, i0_, by omega, by first | decide | omega, by first | decide | omega, fun t o1_ ht i1_ => ?_⟩
          generalize eH_ : upd _ _ o1_ = H13
          obtain ⟨k13, b13, oth13⟩ := tkf eH_ i1_
          clear eH_ i1_ i0_ e0_ o0_
          obtain ⟨x, ex, hx', hxd, hxf, hxz, hxp⟩ := pick shp (t := t) ht fshp
          refine ⟨p12, _, _, _, rfl, rfl, SqL.of ((oth13 p12 nb12).trans d12), hx', ?_⟩
          exact fin H13 x ex ((kxx.trans (Kp.of t0)).trans k13) (al12.kp k13 b13) b13 (hxd.hk k13 sub) hxf (by omega) (by omega)
        · refine ⟨_, rfl, a7, xs7, rfl, .inl (SqL.of (hat _ (Same.refl _))), fun l0 hl0 => ?_⟩
          generalize e0 : upd H11 l0 _ = Hx
          obtain ⟨s0, d0⟩ := nw e0 hl0
          refine ⟨_, rfl, a7, xs7, rfl, .inl (SqL.of (hat _ s0)), fun l9 hl9 => ?_⟩
          generalize e99 : upd Hx l9 _ = Hz
          obtain ⟨s9', d9z⟩ := nw e99 hl9
          refine ⟨1, rfl, -1, rfl, l9, xs7, rfl, SqL.of d9z, fun pc' hpc' => ?_⟩
          generalize eC : upd Hz pc' _ = Hw
          obtain ⟨sC, dC⟩ := nw eC hpc'
          obtain ⟨dsC, hdC, slC⟩ := ((hl7.hs s0).hs s9').cut sl0 (some (-1)) none
          have ly0 := hl7.len
          have lds := D.len_szs ds
          have lcut := cutV_length xs7 (some (-1)) none
          refine ⟨l0, pc', xs7, _, rfl, rfl, sC _ _ (s9' _ _ d0), dC, Nat.le_of_lt (Nat.lt_of_le_of_lt (by omega : xs7.length + (cutV xs7 (some (-1)) none).length ≤ 20000) (by decide)), fun pL hpL => ?_⟩
          generalize eL : upd Hw pL _ = Hy
          obtain ⟨sL, dL⟩ := nw eL hpL
          have s0C := (s0.trans s9').trans sC
          have s0L := s0C.trans sL
          have slL : Sl 20000 13 (ds ++ dsC) := (sl0.app slC).mono (by decide) (Nat.le_refl _)
          obtain ⟨dsL, eL2⟩ : ∃ l, l = ds ++ dsC := ⟨_, rfl⟩
          rw [← eL2] at slL
          have hdL : DdL (hid bs Hw) (xs7 ++ cutV xs7 (some (-1)) none) dsL := by rw [eL2]; exact (hl7.hs s0C).app (hdC.hs sC)
          have hLx : Dd (hid bs Hy) (.ref pL) (.lst dsL) := Dd.newL (al11.same s0C) hpL sL dL hdL
          have dLy := dL
          have hdLy := hdL.hs sL
          have hPx : Dd (hid bs Hy) (.ref a7) e := hid7.hs s0L
          have alx := al11.same s0L
          have bxx := b11.same s0L
          have kxx := k11.trans (Kp.of s0L)
          have hx7 := hat Hy s0L
          refine ⟨_, rfl, a7, xs7, rfl, .inl (SqL.of hx7), fun l1 hl1 => ?_⟩
          generalize ea' : upd Hy l1 _ = Ha
          obtain ⟨sa', da'⟩ := nw ea' hl1
          have hl7x : DdL (hid bs Hy) xs7 ds := hl7.hs s0L
          have h1 : Dd (hid bs Ha) (.ref l1) (.lst ds) := Dd.newL alx hl1 sa' da' hl7x
          refine ⟨_, rfl, a7, xs7, rfl, .inl ⟨SqL.of (sa' _ _ hx7), fun p2' hp2' => ?_⟩⟩
          generalize eb' : upd Ha p2' _ = Hb
          obtain ⟨sb', db'⟩ := nw eb' hp2'
          have h2 : Dd (hid bs Hb) (.ref p2') (.tup ds) := Dd.newT (alx.same sa') hp2' sb' db' (hl7x.hs sa')
          have sab := sa'.trans sb'
          have dLb := sab _ _ dLy
          refine ⟨_, rfl, _, rfl, pL, _, rfl, .inl ⟨SqL.of dLb, fun p4 hp4 => ?_⟩⟩
          generalize ec' : upd Hb p4 _ = Hc
          obtain ⟨sc', dc'⟩ := nw ec' hp4
          have h4 : Dd (hid bs Hc) (.ref p4) (.tup dsL) := Dd.newT (alx.same sab) hp4 sc' dc' (hdLy.hs sab)
          have sac := sab.trans sc'
          refine ⟨_, rfl, by show 1 ≤ sizeLine; decide, fun p5 hp5 => ?_⟩
          generalize e5 : upd Hc p5 _ = Hd
          obtain ⟨sd', dd5⟩ := nw e5 hp5
          have sad := sac.trans sd'
          refine ⟨_, rfl, by show 2 ≤ sizeLine; decide, fun p6 hp6 => ?_⟩
          generalize e6' : upd Hd p6 _ = He'
          obtain ⟨se', dd6⟩ := nw e6' hp6
          refine ⟨by show 6 ≤ sizeLine; decide, fun p12 hp12 => ?_⟩
          generalize e12 : upd He' p12 _ = H12
          obtain ⟨s12, d12⟩ := nw e12 hp12
          have t5 := se'.trans s12
          have t4 := sd'.trans t5
          have t2 := sc'.trans t4
          have t1 := sb'.trans t2
          have t0 := sa'.trans t1
          have al12 := alx.same t0
          have b12 := bxx.same t0
          have shp : DdL (hid bs H12) [.ref l1, .ref p2', .ref pL, .ref p4, .ref p5, .ref p6] [.lst ds, .tup ds, .lst dsL, .tup dsL, .lst [e], .tup [.str "not", e]] :=
            .cons (h1.hs t1) (.cons (h2.hs t2) (.cons (hLx.hs t0) (.cons (h4.hs t4) (.cons ((Dd.newL (alx.same sac) hp5 sd' dd5 (.cons (hPx.hs sac) .nil)).hs t5) (.cons ((Dd.newT (alx.same sad) hp6 se' dd6 (.cons (.str _) (.cons (hPx.hs sad) .nil))).hs s12) .nil)))))
          have fL := D.clns_fits slL.fit
          have fnot : D.fit (.str "not") := (pl_of "not" (by decide +kernel)).1
          have fshp : D.fits [.lst ds, .tup ds, .lst dsL, .tup dsL, .lst [e], .tup [.str "not", e]] := ⟨dsf, dsf, fL, fL, ⟨zf, trivial⟩, ⟨fnot, zf, trivial⟩, trivial⟩
          have zshp : D.szs [.lst ds, .tup ds, .lst dsL, .tup dsL, .lst [e], .tup [.str "not", e]] ≤ 200000 := by
            have b1 : Str.length (Str.ofString "not") = 3 := rfl
            have b2 := slL.sz
            simp only [D.szs, D.sz]
            omega
          have pshp : D.deps [.lst ds, .tup ds, .lst dsL, .tup dsL, .lst [e], .tup [.str "not", e]] ≤ 16 := by
            have b2 := slL.dep
            simp only [D.deps, D.dep]
            omega
          refine ⟨_, rfl, _, rfl, _, rfl, _, rfl, ?_⟩
          have nb12 : p12 ≠ b := fun z => (bxx.same (sad.trans se')).ne hp12 z.symm
          obtain ⟨o0_, e0_, i0_⟩ := id b12
          refine ⟨_, 6, _, o0_, rfl, e0_, i0_, by omega, by first | decide | omega, by first | decide | omega, fun t o1_ ht i1_ => ?_⟩
          generalize eH_ : upd _ _ o1_ = H13
          obtain ⟨k13, b13, oth13⟩ := tkf eH_ i1_
          clear eH_ i1_ i0_ e0_ o0_
          obtain ⟨x, ex, hx', hxd, hxf, hxz, hxp⟩ := pick shp (t := t) ht fshp
          refine ⟨p12, _, _, _, rfl, rfl, SqL.of ((oth13 p12 nb12).trans d12), hx', ?_⟩
          exact fin H13 x ex ((kxx.trans (Kp.of t0)).trans k13) (al12.kp k13 b13) b13 (hxd.hk k13 sub) hxf (by omega) (by omega)
    | tup ds' =>
      cases hi
      have hid7 := hP
      have hT7 := hP
      cases hP with
      | @tup a7 xs7 _ h7 hl7 =>
        obtain ⟨e, ee7⟩ : ∃ e, e = D.tup ds := ⟨_, rfl⟩
        rw [← ee7] at hid7 zs zd zf zc ate q1 q3
        have hat : ∀ Hq, Same H11 Hq → Hq a7 = some (.tup xs7) := fun Hq sq => sq _ _ (hid_le _ _ h7)
        refine ⟨_, rfl, rfl, _, rfl, itb (fun ew3 => ?_) fun ew3 => ?_⟩
        · refine ⟨_, rfl, a7, xs7, rfl, .inr (SqT.of (hat _ (Same.refl _))), fun l0 hl0 => ?_⟩
          generalize e0 : upd H11 l0 _ = Hx
          obtain ⟨s0, d0⟩ := nw e0 hl0
          refine ⟨1, rfl, -1, rfl, l0, xs7, rfl, SqL.of d0, fun pL hpL => ?_⟩
          generalize eL : upd Hx pL _ = Hy
          obtain ⟨sL, dL⟩ := nw eL hpL
          obtain ⟨dsL, hdL, slL⟩ := (hl7.hs s0).cut sl0 none (some (-1))
          have slL : Sl 20000 13 dsL := slL.mono (by decide) (Nat.le_refl _)
          have s0L := s0.trans sL
          have hLx : Dd (hid bs Hy) (.ref pL) (.lst dsL) := Dd.newL (al11.same s0) hpL sL dL hdL
          have dLy := dL
          have hdLy := hdL.hs sL
          have hPx : Dd (hid bs Hy) (.ref a7) e := hid7.hs s0L
          have alx := al11.same s0L
          have bxx := b11.same s0L
          have kxx := k11.trans (Kp.of s0L)
          have hx7 := hat Hy s0L
          refine ⟨_, rfl, a7, xs7, rfl, .inr (SqT.of hx7), fun l1 hl1 => ?_⟩
          generalize ea' : upd Hy l1 _ = Ha
          obtain ⟨sa', da'⟩ := nw ea' hl1
          have hl7x : DdL (hid bs Hy) xs7 ds := hl7.hs s0L
          have h1 : Dd (hid bs Ha) (.ref l1) (.lst ds) := Dd.newL alx hl1 sa' da' hl7x
          refine ⟨_, rfl, a7, xs7, rfl, .inr ⟨SqT.of (sa' _ _ hx7), ?_⟩⟩
          obtain ⟨Hb, eb'⟩ : ∃ Hb, Hb = Ha := ⟨_, rfl⟩
          have sb' : Same Ha Hb := by rw [eb']; exact Same.refl _
          rw [← eb']
          have h2 : Dd (hid bs Hb) (.ref a7) (.tup ds) := ((hT7.hs s0L).hs sa').hs sb'
          have sab := sa'.trans sb'
          have dLb := sab _ _ dLy
          refine ⟨_, rfl, _, rfl, pL, _, rfl, .inl ⟨SqL.of dLb, fun p4 hp4 => ?_⟩⟩
          generalize ec' : upd Hb p4 _ = Hc
          obtain ⟨sc', dc'⟩ := nw ec' hp4
          have h4 : Dd (hid bs Hc) (.ref p4) (.tup dsL) := Dd.newT (alx.same sab) hp4 sc' dc' (hdLy.hs sab)
          have sac := sab.trans sc'
          refine ⟨_, rfl, by show 1 ≤ sizeLine; decide, fun p5 hp5 => ?_⟩
          generalize e5 : upd Hc p5 _ = Hd
          obtain ⟨sd', dd5⟩ := nw e5 hp5
          have sad := sac.trans sd'
          refine ⟨_, rfl, by show 2 ≤ sizeLine; decide, fun p6 hp6 => ?_⟩
          generalize e6' : upd Hd p6 _ = He'
          obtain ⟨se', dd6⟩ := nw e6' hp6
          refine ⟨by show 6 ≤ sizeLine; decide, fun p12 hp12 => ?_⟩
          generalize e12 : upd He' p12 _ = H12
          obtain ⟨s12, d12⟩ := nw e12 hp12
          have t5 := se'.trans s12
          have t4 := sd'.trans t5
          have t2 := sc'.trans t4
          have t1 := sb'.trans t2
          have t0 := sa'.trans t1
          have al12 := alx.same t0
          have b12 := bxx.same t0
          have shp : DdL (hid bs H12) [.ref l1, .ref a7, .ref pL, .ref p4, .ref p5, .ref p6] [.lst ds, .tup ds, .lst dsL, .tup dsL, .lst [e], .tup [.str "not", e]] :=
            .cons (h1.hs t1) (.cons (h2.hs t2) (.cons (hLx.hs t0) (.cons (h4.hs t4) (.cons ((Dd.newL (alx.same sac) hp5 sd' dd5 (.cons (hPx.hs sac) .nil)).hs t5) (.cons ((Dd.newT (alx.same sad) hp6 se' dd6 (.cons (.str _) (.cons (hPx.hs sad) .nil))).hs s12) .nil)))))
          have fL := D.clns_fits slL.fit
          have fnot : D.fit (.str "not") := (pl_of "not" (by decide +kernel)).1
          have fshp : D.fits [.lst ds, .tup ds, .lst dsL, .tup dsL, .lst [e], .tup [.str "not", e]] := ⟨dsf, dsf, fL, fL, ⟨zf, trivial⟩, ⟨fnot, zf, trivial⟩, trivial⟩
          have zshp : D.szs [.lst ds, .tup ds, .lst dsL, .tup dsL, .lst [e], .tup [.str "not", e]] ≤ 200000 := by
            have b1 : Str.length (Str.ofString "not") = 3 := rfl
            have b2 := slL.sz
            simp only [D.szs, D.sz]
            omega
          have pshp : D.deps [.lst ds, .tup ds, .lst dsL, .tup dsL, .lst [e], .tup [.str "not", e]] ≤ 16 := by
            have b2 := slL.dep
            simp only [D.deps, D.dep]
            omega
          refine ⟨_, rfl, _, rfl, _, rfl, _, rfl, ?_⟩
          have nb12 : p12 ≠ b := fun z => (bxx.same (sad.trans se')).ne hp12 z.symm
          obtain ⟨o0_, e0_, i0_⟩ := id b12
          refine ⟨_, 6, _, o0_, rfl, e0_, i0_, by omega, by first | decide | omega, by first | decide | omega, fun t o1_ ht i1_ => ?_⟩
          generalize eH_ : upd _ _ o1_ = H13
          obtain ⟨k13, b13, oth13⟩ := tkf eH_ i1_
          clear eH_ i1_ i0_ e0_ o0_
          obtain ⟨x, ex, hx', hxd, hxf, hxz, hxp⟩ := pick shp (t := t) ht fshp
          refine ⟨p12, _, _, _, rfl, rfl, SqL.of ((oth13 p12 nb12).trans d12), hx', ?_⟩
          exact fin H13 x ex ((kxx.trans (Kp.of t0)).trans k13) (al12.kp k13 b13) b13 (hxd.hk k13 sub) hxf (by omega) (by omega)
        · refine ⟨_, rfl, a7, xs7, rfl, .inr (SqT.of (hat _ (Same.refl _))), fun l0 hl0 => ?_⟩
          generalize e0 : upd H11 l0 _ = Hx
          obtain ⟨s0, d0⟩ := nw e0 hl0
          refine ⟨_, rfl, a7, xs7, rfl, .inr (SqT.of (hat _ s0)), fun l9 hl9 => ?_⟩
          generalize e99 : upd Hx l9 _ = Hz
          obtain ⟨s9', d9z⟩ := nw e99 hl9
          refine ⟨1, rfl, -1, rfl, l9, xs7, rfl, SqL.of d9z, fun pc' hpc' => ?_⟩
          generalize eC : upd Hz pc' _ = Hw
          obtain ⟨sC, dC⟩ := nw eC hpc'
          obtain ⟨dsC, hdC, slC⟩ := ((hl7.hs s0).hs s9').cut sl0 (some (-1)) none
          have ly0 := hl7.len
          have lds := D.len_szs ds
          have lcut := cutV_length xs7 (some (-1)) none
          refine ⟨l0, pc', xs7, _, rfl, rfl, sC _ _ (s9' _ _ d0), dC, Nat.le_of_lt (Nat.lt_of_le_of_lt (by omega : xs7.length + (cutV xs7 (some (-1)) none).length ≤ 20000) (by decide)), fun pL hpL => ?_⟩
          generalize eL : upd Hw pL _ = Hy
          obtain ⟨sL, dL⟩ := nw eL hpL
          have s0C := (s0.trans s9').trans sC
          have s0L := s0C.trans sL
          have slL : Sl 20000 13 (ds ++ dsC) := (sl0.app slC).mono (by decide) (Nat.le_refl _)
          obtain ⟨dsL, eL2⟩ : ∃ l, l = ds ++ dsC := ⟨_, rfl⟩
          rw [← eL2] at slL
          have hdL : DdL (hid bs Hw) (xs7 ++ cutV xs7 (some (-1)) none) dsL := by rw [eL2]; exact (hl7.hs s0C).app (hdC.hs sC)
          have hLx : Dd (hid bs Hy) (.ref pL) (.lst dsL) := Dd.newL (al11.same s0C) hpL sL dL hdL
          have dLy := dL
          have hdLy := hdL.hs sL
          have hPx : Dd (hid bs Hy) (.ref a7) e := hid7.hs s0L
          have alx := al11.same s0L
          have bxx := b11.same s0L
          have kxx := k11.trans (Kp.of s0L)
          have hx7 := hat Hy s0L
          refine ⟨_, rfl, a7, xs7, rfl, .inr (SqT.of hx7), fun l1 hl1 => ?_⟩
          generalize ea' : upd Hy l1 _ = Ha
          obtain ⟨sa', da'⟩ := nw ea' hl1
          have hl7x : DdL (hid bs Hy) xs7 ds := hl7.hs s0L
          have h1 : Dd (hid bs Ha) (.ref l1) (.lst ds) := Dd.newL alx hl1 sa' da' hl7x
          refine ⟨_, rfl, a7, xs7, rfl, .inr ⟨SqT.of (sa' _ _ hx7), ?_⟩⟩
          obtain ⟨Hb, eb'⟩ : ∃ Hb, Hb = Ha := ⟨_, rfl⟩
          have sb' : Same Ha Hb := by rw [eb']; exact Same.refl _
          rw [← eb']
          have h2 : Dd (hid bs Hb) (.ref a7) (.tup ds) := ((hT7.hs s0L).hs sa').hs sb'
          have sab := sa'.trans sb'
          have dLb := sab _ _ dLy
          refine ⟨_, rfl, _, rfl, pL, _, rfl, .inl ⟨SqL.of dLb, fun p4 hp4 => ?_⟩⟩
          generalize ec' : upd Hb p4 _ = Hc
          obtain ⟨sc', dc'⟩ := nw ec' hp4
          have h4 : Dd (hid bs Hc) (.ref p4) (.tup dsL) := Dd.newT (alx.same sab) hp4 sc' dc' (hdLy.hs sab)
          have sac := sab.trans sc'
          refine ⟨_, rfl, by show 1 ≤ sizeLine; decide, fun p5 hp5 => ?_⟩
          generalize e5 : upd Hc p5 _ = Hd
          obtain ⟨sd', dd5⟩ := nw e5 hp5
          have sad := sac.trans sd'
          refine ⟨_, rfl, by show 2 ≤ sizeLine; decide, fun p6 hp6 => ?_⟩
          generalize e6' : upd Hd p6 _ = He'
          obtain ⟨se', dd6⟩ := nw e6' hp6
          refine ⟨by show 6 ≤ sizeLine; decide, fun p12 hp12 => ?_⟩
          generalize e12 : upd He' p12 _ = H12
          obtain ⟨s12, d12⟩ := nw e12 hp12
          have t5 := se'.trans s12
          have t4 := sd'.trans t5
          have t2 := sc'.trans t4
          have t1 := sb'.trans t2
          have t0 := sa'.trans t1
          have al12 := alx.same t0
          have b12 := bxx.same t0
          have shp : DdL (hid bs H12) [.ref l1, .ref a7, .ref pL, .ref p4, .ref p5, .ref p6] [.lst ds, .tup ds, .lst dsL, .tup dsL, .lst [e], .tup [.str "not", e]] :=
            .cons (h1.hs t1) (.cons (h2.hs t2) (.cons (hLx.hs t0) (.cons (h4.hs t4) (.cons ((Dd.newL (alx.same sac) hp5 sd' dd5 (.cons (hPx.hs sac) .nil)).hs t5) (.cons ((Dd.newT (alx.same sad) hp6 se' dd6 (.cons (.str _) (.cons (hPx.hs sad) .nil))).hs s12) .nil)))))
          have fL := D.clns_fits slL.fit
          have fnot : D.fit (.str "not") := (pl_of "not" (by decide +kernel)).1
          have fshp : D.fits [.lst ds, .tup ds, .lst dsL, .tup dsL, .lst [e], .tup [.str "not", e]] := ⟨dsf, dsf, fL, fL, ⟨zf, trivial⟩, ⟨fnot, zf, trivial⟩, trivial⟩
          have zshp : D.szs [.lst ds, .tup ds, .lst dsL, .tup dsL, .lst [e], .tup [.str "not", e]] ≤ 200000 := by
            have b1 : Str.length (Str.ofString "not") = 3 := rfl
            have b2 := slL.sz
            simp only [D.szs, D.sz]
            omega
          have pshp : D.deps [.lst ds, .tup ds, .lst dsL, .tup dsL, .lst [e], .tup [.str "not", e]] ≤ 16 := by
            have b2 := slL.dep
            simp only [D.deps, D.dep]
            omega
          refine ⟨_, rfl, _, rfl, _, rfl, _, rfl, ?_⟩
          have nb12 : p12 ≠ b := fun z => (bxx.same (sad.trans se')).ne hp12 z.symm
          obtain ⟨o0_, e0_, i0_⟩ := id b12
          refine ⟨_, 6, _, o0_, rfl, e0_, i0_, by omega, by first | decide | omega, by first | decide | omega, fun t o1_ ht i1_ => ?_⟩
          generalize eH_ : upd _ _ o1_ = H13
          obtain ⟨k13, b13, oth13⟩ := tkf eH_ i1_
          clear eH_ i1_ i0_ e0_ o0_
          obtain ⟨x, ex, hx', hxd, hxf, hxz, hxp⟩ := pick shp (t := t) ht fshp
          refine ⟨p12, _, _, _, rfl, rfl, SqL.of ((oth13 p12 nb12).trans d12), hx', ?_⟩
          exact fin H13 x ex ((kxx.trans (Kp.of t0)).trans k13) (al12.kp k13 b13) b13 (hxd.hk k13 sub) hxf (by omega) (by omega)
    | _ => cases hi
  -- a text
  refine ⟨_, rfl, _, _, _, _, _, rfl, .ty "str", (hP.same hid_le).tyx, kit_str e, _, rfl, itb (fun e7 => ?_) fun e7 => ?_⟩
  · cases e with
    | str z =>
      cases hP with
      | str =>
      have lz : z.length ≤ 10000 := by
        have : 1 + z.length ≤ d.sz := zs
        omega
      have pz : Pl 10000 z := ⟨zc, lz⟩
      have zl : ∀ k, k ≤ 10 → z.length + k ≤ sizeLine := fun k h => Nat.le_of_lt (Nat.lt_of_le_of_lt (by omega : z.length + k ≤ 10010) (by decide))
      refine ⟨_, rfl, _, rfl, _, rfl, z, "a", rfl, rfl, zl 1 (by decide), _, rfl, ⟨z, rfl⟩, z, rfl, rfl, by omega, _, rfl, 1, rfl, -1, rfl, z, rfl, zl 0 (by decide), _, rfl, by show 1 ≤ sizeLine; decide, fun pt hpt => ?_⟩
      generalize et : upd H11 pt _ = Ht
      obtain ⟨st, dt⟩ := nw et hpt
      refine ⟨_, rfl, z, "1", rfl, rfl, zl 1 (by decide), by show 5 ≤ sizeLine; decide, fun p12 hp12 => ?_⟩
      generalize e12 : upd Ht p12 _ = H12
      obtain ⟨s12, d12⟩ := nw e12 hp12
      have t0 := st.trans s12
      have al12 := al11.same t0
      have b12 := b11.same t0
      have pa1 := pz.app (pl_of "a" (by decide +kernel))
      have p11 := pz.app (pl_of "1" (by decide +kernel))
      have pu := upper_pl pz
      have pc1 := pz.cut none (some (-1))
      have la1 := pa1.len
      have l11 := p11.len
      have lu := pu.len
      have lc1 := pc1.len
      have q1 : (tl (Str.ofString "a")).length = 1 := rfl
      have q2 : (tl (Str.ofString "1")).length = 1 := rfl
      have shp : DdL (hid bs H12) [.str (z ++ "a"), .str (Txt.upper z), .str (cutS z none (some (-1))), .ref pt, .str (z ++ "1")] [.str (z ++ "a"), .str (Txt.upper z), .str (cutS z none (some (-1))), .tup [.str z], .str (z ++ "1")] :=
        .cons (.str _) (.cons (.str _) (.cons (.str _) (.cons ((Dd.newT al11 hpt st dt (.cons (.str _) .nil)).hs s12) (.cons (.str _) .nil))))
      have fshp : D.fits [.str (z ++ "a"), .str (Txt.upper z), .str (cutS z none (some (-1))), .tup [.str z], .str (z ++ "1")] := ⟨pa1.1, pu.1, pc1.1, ⟨zc, trivial⟩, p11.1, trivial⟩
      have zshp : D.szs [.str (z ++ "a"), .str (Txt.upper z), .str (cutS z none (some (-1))), .tup [.str z], .str (z ++ "1")] ≤ 200000 := by
        simp only [D.szs, D.sz]
        omega
      have pshp : D.deps [.str (z ++ "a"), .str (Txt.upper z), .str (cutS z none (some (-1))), .tup [.str z], .str (z ++ "1")] ≤ 16 := by
        simp only [D.deps, D.dep]
        decide
      have nb12 : p12 ≠ b := fun z => (b11.same st).ne hp12 z.symm
      refine ⟨_, rfl, ?_⟩
      obtain ⟨o0_, e0_, i0_⟩ := id b12
      refine ⟨_, 5, _, o0_, rfl, e0_, i0_, by omega, by first | decide | omega, by first | decide | omega, fun t o1_ ht i1_ => ?_⟩
      generalize eH_ : upd _ _ o1_ = H13
      obtain ⟨k13, b13, oth13⟩ := tkf eH_ i1_
      clear eH_ i1_ i0_ e0_ o0_
      obtain ⟨x, ex, hx', hxd, hxf, hxz, hxp⟩ := pick shp (t := t) ht fshp
      refine ⟨p12, _, _, _, rfl, rfl, SqL.of ((oth13 p12 nb12).trans d12), hx', ?_⟩
      exact fin H13 x ex ((k11.trans (Kp.of t0)).trans k13) (al12.kp k13 b13) b13 (hxd.hk k13 sub) hxf (by omega) (by omega)
    | _ => exfalso; revert e7; simp [D.isa, isaT, D.ty]; done
  refine ⟨_, rfl, _, _, _, _, _, rfl, .ty "int", (hP.same hid_le).tyx, kit_int e, _, rfl, itb (fun e8 => ?_) fun e8 => ?_⟩
  · cases e with
    | int i =>
      cases hP with
      | int =>
      have zi : i.natAbs ≤ 900 := zc
      refine ⟨_, rfl, _, rfl, _, rfl, _, _, rfl, rfl, 1, rfl, _, rfl, _, _, rfl, rfl, _, rfl, i, rfl, Nat.lt_of_le_of_lt (Nat.log2_le_self _) (Nat.lt_of_le_of_lt zi (by decide)), _, rfl, by show 1 ≤ sizeLine; decide, fun pt hpt => ?_⟩
      generalize et : upd H11 pt _ = Ht
      obtain ⟨st, dt⟩ := nw et hpt
      refine ⟨_, rfl, rfl, by show 5 ≤ sizeLine; decide, fun p12 hp12 => ?_⟩
      generalize e12 : upd Ht p12 _ = H12
      obtain ⟨s12, d12⟩ := nw e12 hp12
      have t0 := st.trans s12
      have al12 := al11.same t0
      have b12 := b11.same t0
      have ps := int_pl (i := i) (by omega)
      have ls := ps.len
      have shp : DdL (hid bs H12) [.int (i + 10), .int (-1 - i), .str (toString i : String), .ref pt, .bl (decide (V.int i = V.int 1))] [.int (i + 10), .int (-1 - i), .str (toString i : String), .tup [.int i], .bl (decide (V.int i = V.int 1))] :=
        .cons (.int _) (.cons (.int _) (.cons (.str _) (.cons ((Dd.newT al11 hpt st dt (.cons (.int _) .nil)).hs s12) (.cons (.bl _) .nil))))
      have fshp : D.fits [.int (i + 10), .int (-1 - i), .str (toString i : String), .tup [.int i], .bl (decide (V.int i = V.int 1))] := ⟨(by omega : (i + 10).natAbs ≤ 1000), (by omega : (-1 - i).natAbs ≤ 1000), ps.1, ⟨(by omega : i.natAbs ≤ 1000), trivial⟩, trivial, trivial⟩
      have zshp : D.szs [.int (i + 10), .int (-1 - i), .str (toString i : String), .tup [.int i], .bl (decide (V.int i = V.int 1))] ≤ 200000 := by
        simp only [D.szs, D.sz]
        omega
      have pshp : D.deps [.int (i + 10), .int (-1 - i), .str (toString i : String), .tup [.int i], .bl (decide (V.int i = V.int 1))] ≤ 16 := by
        simp only [D.deps, D.dep]
        decide
      have nb12 : p12 ≠ b := fun z => (b11.same st).ne hp12 z.symm
      refine ⟨_, rfl, ?_⟩
      obtain ⟨o0_, e0_, i0_⟩ := id b12
      refine ⟨_, 5, _, o0_, rfl, e0_, i0_, by omega, by first | decide | omega, by first | decide | omega, fun t o1_ ht i1_ => ?_⟩
      generalize eH_ : upd _ _ o1_ = H13
      obtain ⟨k13, b13, oth13⟩ := tkf eH_ i1_
      clear eH_ i1_ i0_ e0_ o0_
      obtain ⟨x, ex, hx', hxd, hxf, hxz, hxp⟩ := pick shp (t := t) ht fshp
      refine ⟨p12, _, _, _, rfl, rfl, SqL.of ((oth13 p12 nb12).trans d12), hx', ?_⟩
      exact fin H13 x ex ((k11.trans (Kp.of t0)).trans k13) (al12.kp k13 b13) b13 (hxd.hk k13 sub) hxf (by omega) (by omega)
    | bl b' => exact zc.elim
    | _ => exfalso; revert e8; simp [D.isa, isaT, D.ty]; done
  · exfalso
    cases e <;> first | exact zc | (revert e6; simp [D.seq]; done) | (revert e7; simp [D.isa, isaT, D.ty]; done) | (revert e8; simp [D.isa, isaT, D.ty]; done)
end
end NH
set_option maxHeartbeats 4000000
namespace NH
open PySem PySem.Spec PyProof.Rows L2 TL
/-! ### the law's own judges: the same functions -/
/-- the sides at s, the names at m, as the ports have them -/
structure Jd (s m : Addr) (ks : List Kind) (nm : List Str) (H : Hp) : Prop where
  ex : ∃ ys : List Str, H s = some (.lst (ys.map .str)) ∧ ∀ x, x ∈ ys ↔ x ∈ sidesOf ks
  mh : H m = some (.lst (nm.map .str))
theorem Jd.same {s m : Addr} {ks : List Kind} {nm : List Str} {H H' : Hp} (j : Jd s m ks nm H) (k : Same H H') : Jd s m ks nm H' := by
  obtain ⟨ys, h, p⟩ := j.ex
  exact ⟨⟨ys, k _ _ h, p⟩, k _ _ j.mh⟩
theorem inS_mem {x : Str} {ys : List Str} : (D.str x).inS ys = decide (x ∈ ys) := by
  show (ys.any fun z => x == z) = _
  induction ys with
  | nil => rfl
  | cons y l ih =>
    rw [List.any_cons, ih]
    by_cases h : x = y
    · rw [h]; simp
    · rw [beq_eq_false_iff_ne.mpr h]; simp [h]
theorem isa_str {d : D} (h : d.isa "str" = true) : ∃ x, d = .str x := by
  cases d <;> first | exact ⟨_, rfl⟩ | (revert h; simp [D.isa, isaT, D.ty]; done)
theorem isa_tup {d : D} (h : d.isa "tuple" = true) : ∃ ds, d = .tup ds := by
  cases d <;> first | exact ⟨_, rfl⟩ | (revert h; simp [D.isa, isaT, D.ty]; done)
section
variable {P : Program} {w : World} {K : PySem.W.Frag} {mg : Str → Option Value} {base : Heap}
abbrev s_law_amount_due : Stmt := top 54
theorem sc_law_amount_due : FnScope ["sides", "names", "value"] ["sides", "names", "value"] (defScope s_law_amount_due) := ⟨rfl, rfl, rfl, by decide +kernel, rfl, by decide +kernel, by decide +kernel⟩
def spAd : Sp := fun vs H Q _ => ∃ (s m : Addr) (ks : List Kind) (nm : List Str) (v : V) (d : D), vs = [.ref s, .ref m, v] ∧ Jd s m ks nm H ∧ Dd H v d ∧ Q (.bl (amtOk ks nm d)) H
theorem ok_law_amount_due (G : Bl mg) (DA : DefAt K mg "_law_amount_due" s_law_amount_due) : Callee P w K mg base 1 "_law_amount_due" ["sides", "names", "value"] spAd := by
  refine callee DA sc_law_amount_due (fun vs H Q E h => by obtain ⟨_, _, _, _, _, _, rfl, _⟩ := h; rfl) (fun _ _ _ _ _ _ us hl => match us, hl with | [_, _, _], _ => rfl) fun f cdv A outer s H vs Q E hr h => ?_
  obtain ⟨sA, m, ks, nm, v, d, rfl, J, hd, q⟩ := h
  obtain ⟨ys, hs, hp⟩ := J.ex
  have hu := hu_of hr
  have hu1 := Nat.lt_of_succ_lt hu
  refine ⟨_, (pss_cons (ps_if (pt_val (pe_callB call_isi (by rfl) G.b_isinstance (by decide +kernel) (pa_cons (pv 2) (pa_cons (pe_bltn (v := .ty "str") (u := .type "str") (by rfl) G.b_str (by decide +kernel) rfl) pa_nil)))) (pss_one (ps_ret (pe_cmpR (op_inT hu) (pv 2) (pv 1) rfl))) pss_nil)
    (pss_cons (ps_if (pt_val (pe_callB call_isi (by rfl) G.b_isinstance (by decide +kernel) (pa_cons (pv 2) (pa_cons (pe_bltn (v := .ty "tuple") (u := .type "tuple") (by rfl) G.b_tuple (by decide +kernel) rfl) pa_nil)))) (pss_one (ps_ret (pe_and (pe_cmpR op_eq (pe_callB call_len_seq (by rfl) G.b_len (by decide +kernel) (pa_cons (pv 2) pa_nil)) pe_int (nomark _)) (pe_and (pe_cmpR (op_eqT hu1) (pe_ix ix_tup (pv 2) pe_int (fun _ _ => rfl)) pe_str (nomark _)) (pe_and (pe_callB call_isi (by rfl) G.b_isinstance (by decide +kernel) (pa_cons (pe_ix ix_tup (pv 2) pe_int (fun _ _ => rfl)) (pa_cons (pe_bltn (v := .ty "str") (u := .type "str") (by rfl) G.b_str (by decide +kernel) rfl) pa_nil))) (pe_one (pe_cmpR (op_inT hu) (pe_ix ix_tup (pv 2) pe_int (fun _ _ => rfl)) (pv 0) rfl))))))) pss_nil)
    (pss_one (ps_ret (pe_and (pe_callB call_isi (by rfl) G.b_isinstance (by decide +kernel) (pa_cons (pv 2) (pa_cons (pe_bltn (v := .ty "int") (u := .type "int") (by rfl) G.b_int (by decide +kernel) rfl) pa_nil))) (pe_and (pe_not (pe_callB call_isi (by rfl) G.b_isinstance (by decide +kernel) (pa_cons (pv 2) (pa_cons (pe_bltn (v := .ty "bool") (u := .type "bool") (by rfl) G.b_bool (by decide +kernel) rfl) pa_nil)))) (pe_one (pe_chain op_le op_le pe_int (pv 2) pe_int)))))))), ?_⟩
  refine ⟨v, rfl, _, _, _, _, _, rfl, .ty "str", hd.tyx, kit_str d, _, rfl, itb (fun e1 => ?_) fun e1 => ?_⟩
  · obtain ⟨x, rfl⟩ := isa_str e1
    refine ⟨_, rfl, _, rfl, _, m, nm, rfl, .inl (SqL.of J.mh), hd, ?_⟩
    exact q
  refine ⟨v, rfl, _, _, _, _, _, rfl, .ty "tuple", hd.tyx, kit_tuple d, _, rfl, itb (fun e2 => ?_) fun e2 => ?_⟩
  · obtain ⟨ds, rfl⟩ := isa_tup e2
    cases hd with
    | @tup a xs ds ha hds =>
      have el := hds.len
      refine ⟨_, rfl, a, xs, rfl, .inr (SqT.of ha), rfl, _, rfl, itb (fun e3 => ?_) fun e3 => ?_⟩
      · have e3 : xs.length = 2 := by
          have z := of_decide_eq_true e3
          injection z with z; omega
        match xs, ds, hds, e3, ha with
        | [x, y], _, .cons (d := d1) h1 (.cons (d := d2) h2 .nil), _, ha =>
          refine ⟨_, rfl, a, _, _, _, rfl, rfl, SqT.of ha, at0 _ _, d1, _, rfl, h1, _, rfl, itb (fun e4 => ?_) fun e4 => ?_⟩
          · have e : amtOk ks nm (.tup [d1, d2]) = hasD ks d2 := by show (_ && _) = _; rw [e4]; rfl
            rw [e] at q
            refine ⟨_, rfl, a, _, _, _, rfl, rfl, SqT.of ha, at1 _ _ _, _, _, _, _, _, rfl, .ty "str", h2.tyx, kit_str d2, _, rfl, itb (fun e5 => ?_) fun e5 => ?_⟩
            · obtain ⟨z, rfl⟩ := isa_str e5
              refine ⟨_, rfl, a, _, _, _, rfl, rfl, SqT.of ha, at1 _ _ _, _, rfl, _, sA, ys, rfl, .inl (SqL.of hs), h2, ?_⟩
              rw [inS_mem]
              have e : hasD ks (.str z) = decide (z ∈ ys) := by show decide (z ∈ sidesOf ks) = _; exact decide_eq_decide.mpr (hp z).symm
              rw [e] at q; exact q
            · have e : hasD ks d2 = false := by cases d2 <;> first | rfl | (exfalso; revert e5; simp [D.isa, isaT, D.ty]; done)
              rw [e] at q; exact q
          · have e : amtOk ks nm (.tup [d1, d2]) = false := by show (_ && _) = _; rw [e4]; rfl
            rw [e] at q; exact q
      · have e3 : ds.length ≠ 2 := fun z => of_decide_eq_false e3 (by rw [el, z]; rfl)
        have e : amtOk ks nm (.tup ds) = false := by
          match ds, e3 with
          | [], _ => rfl
          | [_], _ => rfl
          | [_, _], z => exact absurd rfl z
          | _ :: _ :: _ :: _, _ => rfl
        rw [e] at q; exact q
  have no : ∀ {zs : List Str}, d.inS zs = false := by
    intro zs
    have z : ∀ y, d.isS y = false := fun y => by cases d <;> first | rfl | (exfalso; revert e1; simp [D.isa, isaT, D.ty]; done)
    show (zs.any fun z => d.isS z) = false
    rw [List.any_eq_false]
    exact fun y _ => by rw [z y]; decide
  have e0 : amtOk ks nm d = d.btw 0 9 := by
    have z : amtOk ks nm d = (d.btw 0 9 || d.inS nm) := by cases d <;> first | rfl | (exfalso; revert e2; simp [D.isa, isaT, D.ty]; done)
    rw [z, no, Bool.or_false]
  rw [e0] at q
  refine ⟨v, rfl, _, _, _, _, _, rfl, .ty "int", hd.tyx, kit_int d, _, rfl, itb (fun e3 => ⟨v, rfl, _, _, _, _, _, rfl, .ty "bool", hd.tyx, kit_bool d, _, rfl, _, rfl, itb (fun e4 => ?_) fun e4 => ?_⟩) fun e3 => ?_⟩
  · cases hd with
    | int i =>
      refine ⟨_, rfl, _, _, rfl, rfl, _, rfl, itd (fun h1 => ?_) fun h1 => ?_⟩
      · refine ⟨_, _, rfl, rfl, ?_⟩
        have e : (D.int i).btw 0 9 = decide (i ≤ 9) := by show (decide (0 ≤ i) && _) = _; rw [decide_eq_true h1, Bool.true_and]
        rw [e] at q; exact q
      · have e : (D.int i).btw 0 9 = false := by show (decide (0 ≤ i) && _) = _; rw [decide_eq_false h1, Bool.false_and]
        rw [e] at q; exact q
    | bl b => simp [D.isa, isaT, D.ty] at e4
    | _ => simp [D.isa, isaT, D.ty] at e3
  · have e : d.btw 0 9 = false := by cases d <;> first | rfl | (exfalso; revert e4; simp [D.isa, isaT, D.ty]; done)
    rw [e] at q; exact q
  · have e : d.btw 0 9 = false := by cases d <;> first | rfl | (exfalso; revert e3; simp [D.isa, isaT, D.ty]; done)
    rw [e] at q; exact q
end
end NH
set_option maxHeartbeats 4000000
namespace NH
open PySem PySem.Spec PyProof.Rows L2 TL
def joinOk (z : Str) (k : Nat) : Bool := ((z = "both" ∨ z = "either") ∧ k = 2) ∨ (z = "not" ∧ k = 1)
/-- how deep data is as a condition, 0 if it is none -/
def deepN (ks : List Kind) (nm : List Str) : Nat → D → Nat
  | n + 1, .tup (.str z :: ds) => if (z = "is" ∨ z = "above") ∧ ds.length = 2 then (if ds.all (amtOk ks nm) = true then 1 else 0)
    else if joinOk z ds.length = true then (if ds.all (fun d => decide (0 < deepN ks nm n d)) = true then 1 + (ds.map (deepN ks nm n)).foldr max 0 else 0) else 0
  | _, _ => 0
theorem le_foldr {l : List Nat} {k : Nat} : l.foldr max 0 ≤ k ↔ ∀ x ∈ l, x ≤ k := by
  induction l with
  | nil => simp
  | cons x l ih =>
    show max x (l.foldr max 0) ≤ k ↔ _
    constructor
    · intro h y hy
      rcases List.mem_cons.mp hy with rfl | hy
      · omega
      · exact ih.mp (by omega) y hy
    · intro h
      have a := h x (List.mem_cons_self ..)
      have b := ih.mpr fun y hy => h y (List.mem_cons_of_mem _ hy)
      omega
theorem parts_is {z : Str} (h : z = "is" ∨ z = "above") : parts z = some 2 := by
  rcases h with rfl | rfl <;> rfl
theorem parts_join {z : Str} {k : Nat} (h : ¬ (z = "is" ∨ z = "above")) : (parts z == some k) = joinOk z k := by
  have h1 := fun y => h (.inl y)
  have h2 := fun y => h (.inr y)
  unfold parts joinOk
  rw [if_neg h1, if_neg h2]
  by_cases a : z = "both"
  · subst a
    rw [if_pos rfl]
    by_cases e : k = 2
    · subst e; rfl
    · have : ¬ ("both" : Str) = "not" := by decide
      rw [decide_eq_false (by rintro (⟨_, y⟩ | ⟨y, _⟩); exact e y; exact this y), beq_eq_false_iff_ne]
      intro y; injection y with y; exact e y.symm
  rw [if_neg a]
  by_cases b : z = "either"
  · subst b
    rw [if_pos rfl]
    by_cases e : k = 2
    · subst e; rfl
    · have : ¬ ("either" : Str) = "not" := by decide
      rw [decide_eq_false (by rintro (⟨_, y⟩ | ⟨y, _⟩); exact e y; exact this y), beq_eq_false_iff_ne]
      intro y; injection y with y; exact e y.symm
  rw [if_neg b]
  by_cases c : z = "not"
  · subst c
    rw [if_pos rfl]
    by_cases e : k = 1
    · subst e; rfl
    · rw [decide_eq_false (by rintro (⟨y, _⟩ | ⟨_, y⟩); exact y.elim a b; exact e y), beq_eq_false_iff_ne]
      intro y; injection y with y; exact e y.symm
  rw [if_neg c, decide_eq_false (by rintro (⟨y, _⟩ | ⟨y, _⟩); exact y.elim a b; exact c y)]
  rfl
theorem dep_mem {d : D} : ∀ {ds : List D}, d ∈ ds → d.dep ≤ D.deps ds
  | x :: ds, h => by
    rcases List.mem_cons.mp h with rfl | h
    · exact Nat.le_max_left ..
    · exact Nat.le_trans (dep_mem h) (Nat.le_max_right ..)
/-- the program's judge is the law's -/
theorem cond_deep (ks : List Kind) (nm : List Str) : ∀ (n : Nat) (d : D) (k : Nat), d.dep ≤ n → condOk ks nm k d = decide (1 ≤ deepN ks nm n d ∧ deepN ks nm n d ≤ k) := by
  intro n
  induction n with
  | zero =>
    intro d k h
    have e : deepN ks nm 0 d = 0 := by cases d <;> rfl
    rw [e, decide_eq_false (by omega)]
    cases k with
    | zero => rfl
    | succ k => cases d <;> first | rfl | exact absurd h (by show ¬ (_ + 1 ≤ 0); omega)
  | succ n ih =>
    intro d k h
    match d, h with
    | .tup (.str z :: ds), h =>
      have hd : D.deps ds ≤ n := by
        have h : max 0 (D.deps ds) + 1 ≤ n + 1 := h
        omega
      have e : deepN ks nm (n + 1) (.tup (.str z :: ds)) = if (z = "is" ∨ z = "above") ∧ ds.length = 2 then (if ds.all (amtOk ks nm) = true then 1 else 0)
        else if joinOk z ds.length = true then (if ds.all (fun d => decide (0 < deepN ks nm n d)) = true then 1 + (ds.map (deepN ks nm n)).foldr max 0 else 0) else 0 := rfl
      rw [e]
      cases k with
      | zero => rw [decide_eq_false (by omega)]; rfl
      | succ k =>
        show ((parts z == some ds.length) && (if z = "is" ∨ z = "above" then ds.all (amtOk ks nm) else ds.all (condOk ks nm k))) = _
        by_cases hz : z = "is" ∨ z = "above"
        · rw [if_pos hz, parts_is hz]
          by_cases hl : ds.length = 2
          · rw [if_pos ⟨hz, hl⟩, hl]
            by_cases ha : ds.all (amtOk ks nm) = true
            · rw [if_pos ha, ha, decide_eq_true (by omega)]; rfl
            · rw [if_neg ha, decide_eq_false (by omega)]; revert ha; cases ds.all (amtOk ks nm) <;> simp
          · rw [if_neg fun y => hl y.2]
            have e1 : (some 2 == some ds.length) = false := beq_eq_false_iff_ne.mpr fun y => by injection y with y; exact hl y.symm
            have e2 : joinOk z ds.length = false := by
              unfold joinOk
              refine decide_eq_false ?_
              rintro (⟨y | y, _⟩ | ⟨y, _⟩)
              · subst y; exact absurd hz (by decide)
              · subst y; exact absurd hz (by decide)
              · subst y; exact absurd hz (by decide)
            rw [e1, Bool.false_and, if_neg (by rw [e2]; decide), decide_eq_false (by omega)]
        · rw [if_neg hz, parts_join hz, if_neg fun y => hz y.1]
          by_cases hj : joinOk z ds.length = true
          · rw [hj, if_pos rfl, Bool.true_and]
            by_cases ha : ds.all (fun d => decide (0 < deepN ks nm n d)) = true
            · rw [if_pos ha]
              have ha' := List.all_eq_true.mp ha
              rw [Bool.eq_iff_iff, List.all_eq_true, decide_eq_true_iff]
              constructor
              · intro hc
                refine ⟨by omega, ?_⟩
                have : (ds.map (deepN ks nm n)).foldr max 0 ≤ k := le_foldr.mpr fun x hx => by
                  obtain ⟨d, hd', rfl⟩ := List.mem_map.mp hx
                  have z1 := hc d hd'
                  rw [ih d k (Nat.le_trans (dep_mem hd') hd)] at z1
                  exact (of_decide_eq_true z1).2
                omega
              · rintro ⟨_, h2⟩ d hd'
                rw [ih d k (Nat.le_trans (dep_mem hd') hd)]
                have z1 := of_decide_eq_true (ha' d hd')
                have z2 := le_foldr.mp (Nat.le_refl _) _ (List.mem_map.mpr ⟨d, hd', rfl⟩ : deepN ks nm n d ∈ ds.map (deepN ks nm n))
                exact decide_eq_true ⟨z1, by omega⟩
            · rw [if_neg ha, decide_eq_false (by omega)]
              rw [← Bool.not_eq_true]
              intro hc
              refine ha (List.all_eq_true.mpr fun d hd' => ?_)
              have z1 := List.all_eq_true.mp hc d hd'
              rw [ih d k (Nat.le_trans (dep_mem hd') hd)] at z1
              exact decide_eq_true (of_decide_eq_true z1).1
          · have hj' : joinOk z ds.length = false := by revert hj; cases joinOk z ds.length <;> simp
            rw [hj', Bool.false_and, if_neg (by decide), decide_eq_false (by omega)]
    | .tup [], _ => cases k <;> rfl
    | .tup (.non :: _), _ => cases k <;> rfl
    | .tup (.bl _ :: _), _ => cases k <;> rfl
    | .tup (.int _ :: _), _ => cases k <;> rfl
    | .tup (.lst _ :: _), _ => cases k <;> rfl
    | .tup (.tup _ :: _), _ => cases k <;> rfl
    | .tup (.dic :: _), _ => cases k <;> rfl
    | .non, _ => cases k <;> rfl
    | .bl _, _ => cases k <;> rfl
    | .int _, _ => cases k <;> rfl
    | .str _, _ => cases k <;> rfl
    | .lst _, _ => cases k <;> rfl
    | .dic, _ => cases k <;> rfl
end NH
set_option maxHeartbeats 4000000
namespace NH
open PySem PySem.Spec PyProof.Rows L2 TL
theorem inV_two {n : Nat} {i j : Nat} : inV (.int (n : Int)) [.int (i : Int), .int (j : Int)] = decide (n = i ∨ n = j) := by
  show (((i : Int) == (n : Int)) || (((j : Int) == (n : Int)) || false)) = _
  rw [Bool.or_false]
  by_cases h1 : n = i
  · rw [decide_eq_true (.inl h1), h1]; simp
  · have a : ((i : Int) == (n : Int)) = false := beq_eq_false_iff_ne.mpr (by omega)
    rw [a, Bool.false_or]
    by_cases h2 : n = j
    · rw [decide_eq_true (.inr h2), h2]; simp
    · rw [decide_eq_false (by omega)]
      exact beq_eq_false_iff_ne.mpr (by omega)
def boEi : List Str := ["both", "either"]
theorem boEi_mem (z : Str) : (D.str z).inS boEi = decide (z = "both" ∨ z = "either") := by
  rw [inS_mem]
  exact decide_eq_decide.mpr (by unfold boEi; simp)
section
variable {P : Program} {w : World} {K : PySem.W.Frag} {mg : Str → Option Value} {base : Heap}
abbrev s_law_deep : Stmt := top 55
theorem sc_law_deep : FnScope ["sides", "names", "value", "inner", "part"] ["sides", "names", "value"] (defScope s_law_deep) := ⟨rfl, rfl, rfl, by decide +kernel, rfl, by decide +kernel, by decide +kernel⟩
def spDe (n : Nat) : Sp := fun vs H Q _ => ∃ (s m : Addr) (ks : List Kind) (nm : List Str) (v : V) (d : D), vs = [.ref s, .ref m, v] ∧ Jd s m ks nm H ∧ Dd H v d ∧ d.dep ≤ n ∧ ∀ H', Same H H' → Q (.int (deepN ks nm n d : Nat)) H'
theorem ok_law_deep (G : Bl mg) (DA : DefAt K mg "_law_deep" s_law_deep) (cAd : Callee P w K mg base 1 "_law_amount_due" ["sides", "names", "value"] spAd) : ∀ n : Nat, Callee P w K mg base (2 + n) "_law_deep" ["sides", "names", "value"] (spDe n) := by
  have body : ∀ (n k : Nat) (spI : Sp), 1 ≤ k → (∀ n', n = n' + 1 → spI = spDe n') → (Callee P w K mg base k "_law_deep" ["sides", "names", "value"] spI) → Callee P w K mg base (k + 1) "_law_deep" ["sides", "names", "value"] (spDe n) := by
    intro n k spI hk hI ih
    refine callee DA sc_law_deep (fun vs H Q E h => by obtain ⟨_, _, _, _, _, _, rfl, _⟩ := h; rfl) (fun _ _ _ _ _ _ us hl => match us, hl with | [_, _, _], _ => rfl) fun f cdv A outer s H vs Q E hr h => ?_
    obtain ⟨sA, m, ks, nm, v, d, rfl, J, hd, dep, q⟩ := h
    have hu := hu_of hr
    have hu1 := Nat.lt_of_succ_lt hu
    refine ⟨_, (pss_cons (ps_if (PW.pt (pw_or (pt_not (pt_val (pe_callB call_isi (by rfl) G.b_isinstance (by decide +kernel) (pa_cons (pv 2) (pa_cons (pe_bltn (v := .ty "tuple") (u := .type "tuple") (by rfl) G.b_tuple (by decide +kernel) rfl) pa_nil))))) (pw_or (pt_cmpR op_notIn_seq (pe_callB call_len_seq (by rfl) G.b_len (by decide +kernel) (pa_cons (pv 2) pa_nil)) (pe_lst (pa_cons pe_int (pa_cons pe_int pa_nil))) rfl) (pw_or1 (pt_not (pt_val (pe_callB call_isi (by rfl) G.b_isinstance (by decide +kernel) (pa_cons (pe_ix ix_tup (pv 2) pe_int (fun _ _ => rfl)) (pa_cons (pe_bltn (v := .ty "str") (u := .type "str") (by rfl) G.b_str (by decide +kernel) rfl) pa_nil))))))))) (pss_one (ps_ret pe_int)) pss_nil)
    (pss_cons (ps_if (PW.pt (pw_and (pt_cmpR (op_inT hu) (pe_ix ix_tup (pv 2) pe_int (fun _ _ => rfl)) (pe_lst (pa_cons pe_str (pa_cons pe_str pa_nil))) rfl) (pw_and1 (pt_cmpR op_eq (pe_callB call_len_seq (by rfl) G.b_len (by decide +kernel) (pa_cons (pv 2) pa_nil)) pe_int (nomark _))))) (pss_one (ps_ret (pe_callTy call_int1 (by rfl) G.b_int (by decide +kernel) (pa_cons (pe_and (pe_cal cAd hr (by omega) (pa_cons (pv 0) (pa_cons (pv 1) (pa_cons (pe_ix ix_tup (pv 2) pe_int (fun _ _ => rfl)) pa_nil)))) (pe_one (pe_cal cAd hr (by omega) (pa_cons (pv 0) (pa_cons (pv 1) (pa_cons (pe_ix ix_tup (pv 2) pe_int (fun _ _ => rfl)) pa_nil)))))) pa_nil)))) pss_nil)
    (pss_cons (ps_if (PW.pt (pw_or (PW.pt (pw_and (pt_cmpR (op_inT hu) (pe_ix ix_tup (pv 2) pe_int (fun _ _ => rfl)) (pe_lst (pa_cons pe_str (pa_cons pe_str pa_nil))) rfl) (pw_and1 (pt_cmpR op_eq (pe_callB call_len_seq (by rfl) G.b_len (by decide +kernel) (pa_cons (pv 2) pa_nil)) pe_int (nomark _))))) (pw_or1 (PW.pt (pw_and (pt_cmpR (op_eqT hu1) (pe_ix ix_tup (pv 2) pe_int (fun _ _ => rfl)) pe_str (nomark _)) (pw_and1 (pt_cmpR op_eq (pe_callB call_len_seq (by rfl) G.b_len (by decide +kernel) (pa_cons (pv 2) pa_nil)) pe_int (nomark _)))))))) (pss_cons (ps_setLc (i := 3) (own := [("part", 4)]) (g := gName 4) rfl sc_law_deep.nd rfl rfl (sw_true rfl rfl rfl (by decide +kernel)) (pi_tup (pe_slice sl_tup (pv 2) (po_some pe_int) po_none)) (blkOk_by (N := ["sides", "names", "value", "inner", "part"]) (sc := defScope s_law_deep) (by decide +kernel)) (fun _ _ _ _ _ => (pg_name (i := 4) sc_law_deep.nd rfl (Or.inl rfl))) (fun _ _ _ _ _ => pts_nil) (fun _ _ _ _ _ => (pe_cal ih hr (by omega) (pa_cons (pv 0) (pa_cons (pv 1) (pa_cons (pv 4) pa_nil))))))
    (pss_one (ps_ret (pe_ifExp (pt_cmpR op_gt (pe_callB (cr_min rfl) (by rfl) G.b_min (by decide +kernel) (pa_cons (pv 3) pa_nil)) pe_int (nomark _)) (pe_op op_add pe_int (pe_callB (cr_max rfl) (by rfl) G.b_max (by decide +kernel) (pa_cons (pv 3) pa_nil))) pe_int)))) pss_nil)
    (pss_one (ps_ret pe_int))))), ?_⟩
    have no : deepN ks nm n d = 0 → ∀ H', Same H H' → Q (.int 0) H' := fun e H' s1 => by have z := q H' s1; rw [e] at z; exact z
    refine ⟨v, rfl, _, _, _, _, _, rfl, .ty "tuple", hd.tyx, kit_tuple d, _, rfl, itb (fun e1 => ?_) fun e1 => ?_⟩
    · refine no ?_ H (Same.refl H)
      cases n <;> cases d <;> first | rfl | (exfalso; revert e1; simp [D.isa, isaT, D.ty]; done)
    obtain ⟨ds, rfl⟩ : ∃ ds, d = .tup ds := isa_tup (by revert e1; cases d.isa "tuple" <;> simp)
    cases n with
    | zero => exact absurd dep (by show ¬ (D.deps ds + 1 ≤ 0); omega)
    | succ n =>
    have eI := hI n rfl
    subst eI
    have depd : D.deps ds ≤ n := by
      have : D.deps ds + 1 ≤ n + 1 := dep
      omega
    cases hd with
    | @tup a xs ds ha hds =>
      have el := hds.len
      refine ⟨_, rfl, a, xs, rfl, .inr (SqT.of ha), by show 2 ≤ sizeLine; decide, fun p hp => ?_⟩
      generalize ep : upd H p _ = H1
      obtain ⟨s1, d1⟩ := nw ep hp
      refine ⟨p, _, rfl, .inl (SqL.of d1), rfl, rfl, _, rfl, ?_⟩
      show if (!inV (.int (xs.length : Int)) [.int ((2 : Nat) : Int), .int ((3 : Nat) : Int)]) = true then _ else _
      rw [inV_two]
      refine itb (fun e2 => ?_) fun e2 => ?_
      · have e2 : ¬ (xs.length = 2 ∨ xs.length = 3) := by
          intro y; rw [decide_eq_true y] at e2; cases e2
        refine no ?_ H1 s1
        match ds, e2 with
        | [], _ => rfl
        | .str z :: ds, e2 =>
          show (if _ then _ else if _ then _ else 0) = 0
          rw [if_neg (by rintro ⟨_, y⟩; exact e2 (by rw [el]; exact .inr (congrArg (· + 1) y))), if_neg]
          intro y
          have y := of_decide_eq_true y
          rcases y with ⟨_, y⟩ | ⟨_, y⟩
          · exact e2 (by rw [el]; exact .inr (congrArg (· + 1) y))
          · exact e2 (by rw [el]; exact .inl (congrArg (· + 1) y))
        | .non :: _, _ | .bl _ :: _, _ | .int _ :: _, _ | .lst _ :: _, _ | .tup _ :: _, _ | .dic :: _, _ => rfl
      have e2 : xs.length = 2 ∨ xs.length = 3 := by
        refine Classical.byContradiction fun y => ?_
        rw [decide_eq_false y] at e2; cases e2
      cases hds with
      | nil => simp at e2
      | @cons x xs d0 ds h0 hds =>
        have ha1 := s1 _ _ ha
        have h01 := h0.same s1
        refine ⟨_, rfl, a, _, _, _, rfl, rfl, SqT.of ha1, at0 _ _, _, _, _, _, _, rfl, .ty "str", h01.tyx, kit_str d0, _, rfl, itb (fun e3 => ?_) fun e3 => ?_⟩
        · refine no ?_ H1 s1
          cases d0 <;> first | rfl | (exfalso; revert e3; simp [D.isa, isaT, D.ty]; done)
        obtain ⟨z, rfl⟩ : ∃ z, d0 = .str z := isa_str (by revert e3; cases d0.isa "str" <;> simp)
        cases h01
        have el2 : xs.length = ds.length := hds.len
        have el3 : xs.length ≤ 2 := by rcases e2 with y | y <;> (rw [List.length_cons] at y; omega)
        have el4 : 1 ≤ xs.length := by rcases e2 with y | y <;> (rw [List.length_cons] at y; omega)
        have depds : D.deps ds ≤ n := by
          have : max 0 (D.deps ds) ≤ n := depd
          omega
        have eD : deepN ks nm (n + 1) (.tup (.str z :: ds)) = if (z = "is" ∨ z = "above") ∧ ds.length = 2 then (if ds.all (amtOk ks nm) = true then 1 else 0)
          else if joinOk z ds.length = true then (if ds.all (fun d => decide (0 < deepN ks nm n d)) = true then 1 + (ds.map (deepN ks nm n)).foldr max 0 else 0) else 0 := rfl
        have s01 := s1
        by_cases hz : z = "is" ∨ z = "above"
        · have hb : ¬ (z = "both" ∨ z = "either") := by rcases hz with y | y <;> (subst y; decide)
          have hn : z ≠ "not" := by rcases hz with y | y <;> (subst y; decide)
          have hJ : joinOk z ds.length = false := by
            unfold joinOk
            exact decide_eq_false (by rintro (⟨y, _⟩ | ⟨y, _⟩); exact hb y; exact hn y)
          refine ⟨_, rfl, a, _, _, _, rfl, rfl, SqT.of ha1, at0 _ _, by show 2 ≤ sizeLine; decide, fun p2 hp2 => ?_⟩
          generalize eq2 : upd H1 p2 _ = H2
          obtain ⟨sq2, dq2⟩ := nw eq2 hp2
          have ha2 := sq2 _ _ ha1
          have s02 := s01.trans sq2
          refine ⟨.str z, p2, isAb, rfl, .inl (SqL.of dq2), .str z, _, rfl, ?_⟩
          rw [isAb_mem]
          refine itt (decide_eq_true hz) ?_
          refine ⟨_, rfl, a, _, rfl, .inr (SqT.of ha2), rfl, _, rfl, itb (fun e4 => ?_) fun e4 => ?_⟩
          · have e4 : ds.length = 2 := by
              have y := of_decide_eq_true e4
              injection y with y
              rw [List.length_cons] at y
              omega
            have hA : (z = "is" ∨ z = "above") ∧ ds.length = 2 := ⟨hz, e4⟩
            rw [if_pos hA] at eD
            match xs, ds, hds, e4, ha2, eD, q with
            | [x1, x2], _, .cons (d := d1) h1 (.cons (d := d2) h2 .nil), _, ha2, eD, q =>
              have q1 : ∀ H', Same H H' → Q (.int (if amtOk ks nm d1 && (amtOk ks nm d2 && true) then 1 else 0 : Nat)) H' := fun H' sx => by
                have y := q H' sx
                rw [eD] at y; exact y
              refine ⟨_, rfl, _, rfl, _, rfl, a, _, _, _, rfl, rfl, SqT.of ha2, at1 _ _ _, sA, m, ks, nm, _, d1, rfl, J.same s02, h1.same s02, _, rfl, itb (fun e5 => ?_) fun e5 => ?_⟩
              · refine ⟨_, rfl, _, rfl, _, rfl, a, _, _, _, rfl, rfl, SqT.of ha2, atI_nat (j := 2) rfl, sA, m, ks, nm, _, d2, rfl, J.same s02, h2.same s02, .inr ⟨_, rfl, ?_⟩⟩
                have y := q1 H2 s02
                rw [e5] at y
                cases e6 : amtOk ks nm d2 <;> (rw [e6] at y; exact y)
              · refine .inr ⟨_, rfl, ?_⟩
                have y := q1 H2 s02
                rw [e5] at y; exact y
          · have e4 : ¬ ds.length = 2 := fun y => of_decide_eq_false e4 (by rw [List.length_cons, el2, y]; rfl)
            have hA : ¬ ((z = "is" ∨ z = "above") ∧ ds.length = 2) := fun y => e4 y.2
            refine ⟨_, rfl, a, _, _, _, rfl, rfl, SqT.of ha2, at0 _ _, by show 2 ≤ sizeLine; decide, fun p3 hp3 => ?_⟩
            generalize eq3 : upd H2 p3 _ = H3
            obtain ⟨sq3, dq3⟩ := nw eq3 hp3
            have ha3 := sq3 _ _ ha2
            have s03 := s02.trans sq3
            refine ⟨.str z, p3, boEi, rfl, .inl (SqL.of dq3), .str z, _, rfl, ?_⟩
            rw [boEi_mem]
            refine itf (decide_eq_false hb) ?_
            refine ⟨_, rfl, a, _, _, _, rfl, rfl, SqT.of ha3, at0 _ _, .str z, _, rfl, .str z, _, rfl, (itf (show (D.str z).isS "not" = false from beq_eq_false_iff_ne.mpr hn)) ?_⟩
            refine no ?_ H3 s03
            rw [eD, if_neg hA, if_neg (by rw [hJ]; decide)]
        have hA : ¬ ((z = "is" ∨ z = "above") ∧ ds.length = 2) := fun y => hz y.1
        by_cases hb : z = "both" ∨ z = "either"
        · have hn : z ≠ "not" := by rcases hb with y | y <;> (subst y; decide)
          refine ⟨_, rfl, a, _, _, _, rfl, rfl, SqT.of ha1, at0 _ _, by show 2 ≤ sizeLine; decide, fun p2 hp2 => ?_⟩
          generalize eq2 : upd H1 p2 _ = H2
          obtain ⟨sq2, dq2⟩ := nw eq2 hp2
          have ha2 := sq2 _ _ ha1
          have s02 := s01.trans sq2
          refine ⟨.str z, p2, isAb, rfl, .inl (SqL.of dq2), .str z, _, rfl, ?_⟩
          rw [isAb_mem]
          refine itf (decide_eq_false hz) ?_
          refine ⟨_, rfl, a, _, _, _, rfl, rfl, SqT.of ha2, at0 _ _, by show 2 ≤ sizeLine; decide, fun p3 hp3 => ?_⟩
          generalize eq3 : upd H2 p3 _ = H3
          obtain ⟨sq3, dq3⟩ := nw eq3 hp3
          have ha3 := sq3 _ _ ha2
          have s03 := s02.trans sq3
          refine ⟨.str z, p3, boEi, rfl, .inl (SqL.of dq3), .str z, _, rfl, ?_⟩
          rw [boEi_mem]
          refine itt (decide_eq_true hb) ?_
          refine ⟨_, rfl, a, _, rfl, .inr (SqT.of ha3), rfl, _, rfl, itb (fun e4 => ?_) fun e4 => ?_⟩
          · have e4 : ds.length = 2 := by
              have y := of_decide_eq_true e4
              injection y with y
              rw [List.length_cons] at y
              omega
            have hJ : joinOk z ds.length = true := by unfold joinOk; exact decide_eq_true (.inl ⟨hb, e4⟩)
            -- the parts, one deeper
            refine ⟨_, rfl, 1, rfl, a, _, rfl, SqT.of ha3, cut1_not _ _, fun t ht => ?_⟩
            rw [cut1]
            generalize et : upd H3 t _ = Ht
            obtain ⟨st, dt⟩ := nw et ht
            have s0t := s03.trans st
            refine ⟨t, rfl, ⟨xs, SqT.of dt⟩, fun l hl => ?_⟩
            refine lcD (f := fun d => .int (deepN ks nm n d : Nat)) (walk_tup (K := K) (a := t)) (fun H' sx => SqT.of (sx _ _ dt)) hl (hds.same s0t) (by omega) (fun _ => rfl) (fun x d H' sx hd' md F kk => ?_) fun H' sx dl => ?_
            · exact ⟨_, rfl, _, rfl, x, rfl, sA, m, ks, nm, x, d, rfl, (J.same s0t).same sx, hd', Nat.le_trans (dep_mem md) depds, kk⟩
            · have s0l := s0t.trans sx
              have dl' : H' l = some (.lst (((ds.map (deepN ks nm n)).map fun k : Nat => (k : Int)).map V.int)) := by rw [dl, List.map_map, List.map_map]; rfl
              refine ⟨_, rfl, l, _, rfl, SqL.of dl', by rw [List.length_map, List.length_map]; omega, fun mn hmn hle => ⟨_, _, rfl, rfl, _, rfl, itd (fun h0 => ?_) fun h0 => ?_⟩⟩
              · refine ⟨_, rfl, l, _, rfl, SqL.of dl', by rw [List.length_map, List.length_map]; omega, fun mx hmx hge => ⟨_, _, rfl, rfl, ?_⟩⟩
                have all0 : ds.all (fun d => decide (0 < deepN ks nm n d)) = true := List.all_eq_true.mpr fun d hd' => decide_eq_true (by
                  have y := hle _ (List.mem_map.mpr ⟨_, List.mem_map.mpr ⟨d, hd', rfl⟩, rfl⟩)
                  omega)
                have emx : (ds.map (deepN ks nm n)).foldr max 0 = mx.toNat ∧ 0 ≤ mx := by
                  obtain ⟨k, hk, rfl⟩ := List.mem_map.mp hmx
                  refine ⟨?_, by omega⟩
                  have a1 : (ds.map (deepN ks nm n)).foldr max 0 ≤ k := le_foldr.mpr fun x hx => by
                    have y := hge _ (List.mem_map.mpr ⟨x, hx, rfl⟩); omega
                  have a2 := le_foldr.mp (Nat.le_refl _) k hk
                  show _ = k
                  omega
                have ev : deepN ks nm (n + 1) (.tup (.str z :: ds)) = 1 + mx.toNat := by rw [eD, if_neg hA, if_pos hJ, if_pos all0, emx.1]
                have y := q H' s0l
                rw [ev] at y
                rw [show ((1 + mx.toNat : Nat) : Int) = 1 + mx by omega] at y
                exact y
              · refine no ?_ H' s0l
                rw [eD, if_neg hA, if_pos hJ, if_neg]
                intro all0
                obtain ⟨k, hk, rfl⟩ := List.mem_map.mp hmn
                obtain ⟨d, hd', rfl⟩ := List.mem_map.mp hk
                have y := of_decide_eq_true (List.all_eq_true.mp all0 d hd')
                omega
          · have e4 : ¬ ds.length = 2 := fun y => of_decide_eq_false e4 (by rw [List.length_cons, el2, y]; rfl)
            have hJ : joinOk z ds.length = false := by
              unfold joinOk
              exact decide_eq_false (by rintro (⟨_, y⟩ | ⟨y, _⟩); exact e4 y; exact hn y)
            refine ⟨_, rfl, a, _, _, _, rfl, rfl, SqT.of ha3, at0 _ _, .str z, _, rfl, .str z, _, rfl, (itf (show (D.str z).isS "not" = false from beq_eq_false_iff_ne.mpr hn)) ?_⟩
            refine no ?_ H3 s03
            rw [eD, if_neg hA, if_neg (by rw [hJ]; decide)]
        by_cases hn : z = "not"
        · refine ⟨_, rfl, a, _, _, _, rfl, rfl, SqT.of ha1, at0 _ _, by show 2 ≤ sizeLine; decide, fun p2 hp2 => ?_⟩
          generalize eq2 : upd H1 p2 _ = H2
          obtain ⟨sq2, dq2⟩ := nw eq2 hp2
          have ha2 := sq2 _ _ ha1
          have s02 := s01.trans sq2
          refine ⟨.str z, p2, isAb, rfl, .inl (SqL.of dq2), .str z, _, rfl, ?_⟩
          rw [isAb_mem]
          refine itf (decide_eq_false hz) ?_
          refine ⟨_, rfl, a, _, _, _, rfl, rfl, SqT.of ha2, at0 _ _, by show 2 ≤ sizeLine; decide, fun p3 hp3 => ?_⟩
          generalize eq3 : upd H2 p3 _ = H3
          obtain ⟨sq3, dq3⟩ := nw eq3 hp3
          have ha3 := sq3 _ _ ha2
          have s03 := s02.trans sq3
          refine ⟨.str z, p3, boEi, rfl, .inl (SqL.of dq3), .str z, _, rfl, ?_⟩
          rw [boEi_mem]
          refine itf (decide_eq_false hb) ?_
          refine ⟨_, rfl, a, _, _, _, rfl, rfl, SqT.of ha3, at0 _ _, .str z, _, rfl, .str z, _, rfl, (itt (show (D.str z).isS "not" = true by rw [hn]; rfl)) ?_⟩
          refine ⟨_, rfl, a, _, rfl, .inr (SqT.of ha3), rfl, _, rfl, itb (fun e4 => ?_) fun e4 => ?_⟩
          · have e4 : ds.length = 1 := by
              have y := of_decide_eq_true e4
              injection y with y
              rw [List.length_cons] at y
              omega
            have hJ : joinOk z ds.length = true := by unfold joinOk; exact decide_eq_true (.inr ⟨hn, e4⟩)
            -- the parts, one deeper
            refine ⟨_, rfl, 1, rfl, a, _, rfl, SqT.of ha3, cut1_not _ _, fun t ht => ?_⟩
            rw [cut1]
            generalize et : upd H3 t _ = Ht
            obtain ⟨st, dt⟩ := nw et ht
            have s0t := s03.trans st
            refine ⟨t, rfl, ⟨xs, SqT.of dt⟩, fun l hl => ?_⟩
            refine lcD (f := fun d => .int (deepN ks nm n d : Nat)) (walk_tup (K := K) (a := t)) (fun H' sx => SqT.of (sx _ _ dt)) hl (hds.same s0t) (by omega) (fun _ => rfl) (fun x d H' sx hd' md F kk => ?_) fun H' sx dl => ?_
            · exact ⟨_, rfl, _, rfl, x, rfl, sA, m, ks, nm, x, d, rfl, (J.same s0t).same sx, hd', Nat.le_trans (dep_mem md) depds, kk⟩
            · have s0l := s0t.trans sx
              have dl' : H' l = some (.lst (((ds.map (deepN ks nm n)).map fun k : Nat => (k : Int)).map V.int)) := by rw [dl, List.map_map, List.map_map]; rfl
              refine ⟨_, rfl, l, _, rfl, SqL.of dl', by rw [List.length_map, List.length_map]; omega, fun mn hmn hle => ⟨_, _, rfl, rfl, _, rfl, itd (fun h0 => ?_) fun h0 => ?_⟩⟩
              · refine ⟨_, rfl, l, _, rfl, SqL.of dl', by rw [List.length_map, List.length_map]; omega, fun mx hmx hge => ⟨_, _, rfl, rfl, ?_⟩⟩
                have all0 : ds.all (fun d => decide (0 < deepN ks nm n d)) = true := List.all_eq_true.mpr fun d hd' => decide_eq_true (by
                  have y := hle _ (List.mem_map.mpr ⟨_, List.mem_map.mpr ⟨d, hd', rfl⟩, rfl⟩)
                  omega)
                have emx : (ds.map (deepN ks nm n)).foldr max 0 = mx.toNat ∧ 0 ≤ mx := by
                  obtain ⟨k, hk, rfl⟩ := List.mem_map.mp hmx
                  refine ⟨?_, by omega⟩
                  have a1 : (ds.map (deepN ks nm n)).foldr max 0 ≤ k := le_foldr.mpr fun x hx => by
                    have y := hge _ (List.mem_map.mpr ⟨x, hx, rfl⟩); omega
                  have a2 := le_foldr.mp (Nat.le_refl _) k hk
                  show _ = k
                  omega
                have ev : deepN ks nm (n + 1) (.tup (.str z :: ds)) = 1 + mx.toNat := by rw [eD, if_neg hA, if_pos hJ, if_pos all0, emx.1]
                have y := q H' s0l
                rw [ev] at y
                rw [show ((1 + mx.toNat : Nat) : Int) = 1 + mx by omega] at y
                exact y
              · refine no ?_ H' s0l
                rw [eD, if_neg hA, if_pos hJ, if_neg]
                intro all0
                obtain ⟨k, hk, rfl⟩ := List.mem_map.mp hmn
                obtain ⟨d, hd', rfl⟩ := List.mem_map.mp hk
                have y := of_decide_eq_true (List.all_eq_true.mp all0 d hd')
                omega
          · have e4 : ¬ ds.length = 1 := fun y => of_decide_eq_false e4 (by rw [List.length_cons, el2, y]; rfl)
            have hJ : joinOk z ds.length = false := by
              unfold joinOk
              exact decide_eq_false (by rintro (⟨y, _⟩ | ⟨_, y⟩); exact hb y; exact e4 y)
            refine no ?_ H3 s03
            rw [eD, if_neg hA, if_neg (by rw [hJ]; decide)]
        have hJ : joinOk z ds.length = false := by
          unfold joinOk
          exact decide_eq_false (by rintro (⟨y, _⟩ | ⟨y, _⟩); exact hb y; exact hn y)
        refine ⟨_, rfl, a, _, _, _, rfl, rfl, SqT.of ha1, at0 _ _, by show 2 ≤ sizeLine; decide, fun p2 hp2 => ?_⟩
        generalize eq2 : upd H1 p2 _ = H2
        obtain ⟨sq2, dq2⟩ := nw eq2 hp2
        have ha2 := sq2 _ _ ha1
        have s02 := s01.trans sq2
        refine ⟨.str z, p2, isAb, rfl, .inl (SqL.of dq2), .str z, _, rfl, ?_⟩
        rw [isAb_mem]
        refine itf (decide_eq_false hz) ?_
        refine ⟨_, rfl, a, _, _, _, rfl, rfl, SqT.of ha2, at0 _ _, by show 2 ≤ sizeLine; decide, fun p3 hp3 => ?_⟩
        generalize eq3 : upd H2 p3 _ = H3
        obtain ⟨sq3, dq3⟩ := nw eq3 hp3
        have ha3 := sq3 _ _ ha2
        have s03 := s02.trans sq3
        refine ⟨.str z, p3, boEi, rfl, .inl (SqL.of dq3), .str z, _, rfl, ?_⟩
        rw [boEi_mem]
        refine itf (decide_eq_false hb) ?_
        refine ⟨_, rfl, a, _, _, _, rfl, rfl, SqT.of ha3, at0 _ _, .str z, _, rfl, .str z, _, rfl, (itf (show (D.str z).isS "not" = false from beq_eq_false_iff_ne.mpr hn)) ?_⟩
        refine no ?_ H3 s03
        rw [eD, if_neg hA, if_neg (by rw [hJ]; decide)]
  intro n
  induction n with
  | zero => exact body 0 1 (fun _ _ _ _ => False) (by decide) (fun n' h => by cases h) (callee (k := 0) DA sc_law_deep (fun _ _ _ _ h => h.elim) (fun _ _ _ _ _ _ us hl => match us, hl with | [_, _, _], _ => rfl) fun _ _ _ _ _ _ _ _ _ _ h => h.elim)
  | succ n ih => exact body (n + 1) (2 + n) (spDe n) (by omega) (fun n' h => by cases h; rfl) ih
end
end NH
set_option maxHeartbeats 4000000
namespace NH
open PySem PySem.Spec PyProof.Rows L2 TL
/-- the lists of steps in an item; none if it is none -/
def withinD (ks : List Kind) (nm : List Str) : D → Option (List D)
  | .tup (.str w :: ps) =>
    if w ∈ chg then (match ps with | [a, b] => if (a.isa "str" && (a.inS nm && amtOk ks nm b)) = true then some [] else none | _ => none)
    else if w = "if" then (match ps with | [a, b, c] => if condOk ks nm 4 a = true then some [b, c] else none | _ => none)
    else if w = "repeat" then (match ps with | [a, b] => if a.btw 0 9 = true then some [b] else none | _ => none)
    else none
  | _ => none
section
variable {P : Program} {w : World} {K : PySem.W.Frag} {mg : Str → Option Value} {base : Heap}
abbrev s_law_condition_due : Stmt := top 56
theorem sc_law_condition_due : FnScope ["sides", "names", "value"] ["sides", "names", "value"] (defScope s_law_condition_due) := ⟨rfl, rfl, rfl, by decide +kernel, rfl, by decide +kernel, by decide +kernel⟩
def spCd : Sp := fun vs H Q _ => ∃ (s m : Addr) (ks : List Kind) (nm : List Str) (v : V) (d : D), vs = [.ref s, .ref m, v] ∧ Jd s m ks nm H ∧ Dd H v d ∧ d.dep ≤ 31 ∧ ∀ H', Same H H' → Q (.bl (condOk ks nm 4 d)) H'
theorem ok_law_condition_due (DA : DefAt K mg "_law_condition_due" s_law_condition_due) (cDe : Callee P w K mg base 33 "_law_deep" ["sides", "names", "value"] (spDe 31)) : Callee P w K mg base 34 "_law_condition_due" ["sides", "names", "value"] spCd := by
  refine callee DA sc_law_condition_due (fun vs H Q E h => by obtain ⟨_, _, _, _, _, _, rfl, _⟩ := h; rfl) (fun _ _ _ _ _ _ us hl => match us, hl with | [_, _, _], _ => rfl) fun f cdv A outer s H vs Q E hr h => ?_
  obtain ⟨sA, m, ks, nm, v, d, rfl, J, hd, dep, q⟩ := h
  refine ⟨_, (pss_one (ps_ret (pe_chain op_le op_le pe_int (pe_cal cDe hr (by omega) (pa_cons (pv 0) (pa_cons (pv 1) (pa_cons (pv 2) pa_nil)))) pe_int))), ?_⟩
  have e : condOk ks nm 4 d = decide (1 ≤ deepN ks nm 31 d ∧ deepN ks nm 31 d ≤ 4) := cond_deep ks nm 31 d 4 dep
  rw [e] at q
  refine ⟨_, rfl, _, rfl, _, rfl, sA, m, ks, nm, v, d, rfl, J, hd, dep, fun H1 s1 => ?_⟩
  have y := q H1 s1
  refine ⟨_, _, rfl, rfl, _, rfl, itd (fun h1 => ?_) fun h1 => ?_⟩
  · refine ⟨_, _, rfl, rfl, ?_⟩
    show Q (.bl (decide (((deepN ks nm 31 d : Nat) : Int) ≤ 4))) H1
    by_cases h2 : deepN ks nm 31 d ≤ 4
    · rw [decide_eq_true (by omega)] at y
      rw [decide_eq_true (by omega)]; exact y
    · rw [decide_eq_false (by omega)] at y
      rw [decide_eq_false (by omega)]; exact y
  · rw [decide_eq_false (by omega)] at y
    exact y
abbrev s_law_within : Stmt := top 57
theorem sc_law_within : FnScope ["sides", "names", "value", "right"] ["sides", "names", "value"] (defScope s_law_within) := ⟨rfl, rfl, rfl, by decide +kernel, rfl, by decide +kernel, by decide +kernel⟩
def spWn : Sp := fun vs H Q _ => ∃ (s m : Addr) (ks : List Kind) (nm : List Str) (v : V) (d : D), vs = [.ref s, .ref m, v] ∧ Jd s m ks nm H ∧ Dd H v d ∧ d.dep ≤ 32 ∧ ∀ H', Same H H' → (withinD ks nm d = none → Q .non H') ∧ (∀ ds l xs, withinD ks nm d = some ds → H' l = some (.lst xs) → DdL H' xs ds → Q (.ref l) H')
theorem ok_law_within (G : Bl mg) (DA : DefAt K mg "_law_within" s_law_within) (cAd : Callee P w K mg base 1 "_law_amount_due" ["sides", "names", "value"] spAd) (cCd : Callee P w K mg base 34 "_law_condition_due" ["sides", "names", "value"] spCd) : Callee P w K mg base 35 "_law_within" ["sides", "names", "value"] spWn := by
  refine callee DA sc_law_within (fun vs H Q E h => by obtain ⟨_, _, _, _, _, _, rfl, _⟩ := h; rfl) (fun _ _ _ _ _ _ us hl => match us, hl with | [_, _, _], _ => rfl) fun f cdv A outer s H vs Q E hr h => ?_
  obtain ⟨sA, m, ks, nm, v, d, rfl, J, hd, dep, q⟩ := h
  have hu := hu_of hr
  have hu1 := Nat.lt_of_succ_lt hu
  refine ⟨_, (pss_cons (ps_if (PW.pt (pw_or (pt_not (pt_val (pe_callB call_isi (by rfl) G.b_isinstance (by decide +kernel) (pa_cons (pv 2) (pa_cons (pe_bltn (v := .ty "tuple") (u := .type "tuple") (by rfl) G.b_tuple (by decide +kernel) rfl) pa_nil))))) (pw_or (pt_cmpR op_notIn_seq (pe_callB call_len_seq (by rfl) G.b_len (by decide +kernel) (pa_cons (pv 2) pa_nil)) (pe_lst (pa_cons pe_int (pa_cons pe_int pa_nil))) rfl) (pw_or1 (pt_not (pt_val (pe_callB call_isi (by rfl) G.b_isinstance (by decide +kernel) (pa_cons (pe_ix ix_tup (pv 2) pe_int (fun _ _ => rfl)) (pa_cons (pe_bltn (v := .ty "str") (u := .type "str") (by rfl) G.b_str (by decide +kernel) rfl) pa_nil))))))))) (pss_one (ps_ret pe_non)) pss_nil)
    (pss_cons (ps_if (PW.pt (pw_and (pt_cmpR (op_inT hu) (pe_ix ix_tup (pv 2) pe_int (fun _ _ => rfl)) (pe_lst (pa_cons pe_str (pa_cons pe_str (pa_cons pe_str pa_nil)))) rfl) (pw_and1 (pt_cmpR op_eq (pe_callB call_len_seq (by rfl) G.b_len (by decide +kernel) (pa_cons (pv 2) pa_nil)) pe_int (nomark _))))) (pss_cons (ps_set (i := 3) sc_law_within.nd rfl (Or.inl rfl) (pe_and (pe_callB call_isi (by rfl) G.b_isinstance (by decide +kernel) (pa_cons (pe_ix ix_tup (pv 2) pe_int (fun _ _ => rfl)) (pa_cons (pe_bltn (v := .ty "str") (u := .type "str") (by rfl) G.b_str (by decide +kernel) rfl) pa_nil))) (pe_and (pe_cmpR (op_inT hu) (pe_ix ix_tup (pv 2) pe_int (fun _ _ => rfl)) (pv 1) rfl) (pe_one (pe_cal cAd hr (by omega) (pa_cons (pv 0) (pa_cons (pv 1) (pa_cons (pe_ix ix_tup (pv 2) pe_int (fun _ _ => rfl)) pa_nil))))))))
    (pss_one (ps_ret (pe_ifExp (pt_val (pv 3)) (pe_lst pa_nil) pe_non)))) pss_nil)
    (pss_cons (ps_if (PW.pt (pw_and (pt_cmpR (op_eqT hu1) (pe_ix ix_tup (pv 2) pe_int (fun _ _ => rfl)) pe_str (nomark _)) (pw_and1 (pt_cmpR op_eq (pe_callB call_len_seq (by rfl) G.b_len (by decide +kernel) (pa_cons (pv 2) pa_nil)) pe_int (nomark _))))) (pss_one (ps_ret (pe_ifExp (pt_val (pe_cal cCd hr (by omega) (pa_cons (pv 0) (pa_cons (pv 1) (pa_cons (pe_ix ix_tup (pv 2) pe_int (fun _ _ => rfl)) pa_nil))))) (pe_lst (pa_cons (pe_ix ix_tup (pv 2) pe_int (fun _ _ => rfl)) (pa_cons (pe_ix ix_tup (pv 2) pe_int (fun _ _ => rfl)) pa_nil))) pe_non))) pss_nil)
    (pss_cons (ps_if (PW.pt (pw_and (pt_cmpR (op_eqT hu1) (pe_ix ix_tup (pv 2) pe_int (fun _ _ => rfl)) pe_str (nomark _)) (pw_and1 (pt_cmpR op_eq (pe_callB call_len_seq (by rfl) G.b_len (by decide +kernel) (pa_cons (pv 2) pa_nil)) pe_int (nomark _))))) (pss_cons (ps_set (i := 3) sc_law_within.nd rfl (Or.inl rfl) (pe_and (pe_callB call_isi (by rfl) G.b_isinstance (by decide +kernel) (pa_cons (pe_ix ix_tup (pv 2) pe_int (fun _ _ => rfl)) (pa_cons (pe_bltn (v := .ty "int") (u := .type "int") (by rfl) G.b_int (by decide +kernel) rfl) pa_nil))) (pe_and (pe_not (pe_callB call_isi (by rfl) G.b_isinstance (by decide +kernel) (pa_cons (pe_ix ix_tup (pv 2) pe_int (fun _ _ => rfl)) (pa_cons (pe_bltn (v := .ty "bool") (u := .type "bool") (by rfl) G.b_bool (by decide +kernel) rfl) pa_nil)))) (pe_one (pe_chain op_le op_le pe_int (pe_ix ix_tup (pv 2) pe_int (fun _ _ => rfl)) pe_int)))))
    (pss_one (ps_ret (pe_ifExp (pt_val (pv 3)) (pe_lst (pa_cons (pe_ix ix_tup (pv 2) pe_int (fun _ _ => rfl)) pa_nil)) pe_non)))) pss_nil)
    (pss_one (ps_ret pe_non)))))), ?_⟩
  refine ⟨v, rfl, _, _, _, _, _, rfl, .ty "tuple", hd.tyx, kit_tuple d, _, rfl, itb (fun e1 => ?_) fun e1 => ?_⟩
  · refine (q H (Same.refl H)).1 ?_
    cases d <;> first | rfl | (exfalso; revert e1; simp [D.isa, isaT, D.ty]; done)
  obtain ⟨ds, rfl⟩ : ∃ ds, d = .tup ds := isa_tup (by revert e1; cases d.isa "tuple" <;> simp)
  have depd : D.deps ds ≤ 31 := by
    have : D.deps ds + 1 ≤ 32 := dep
    omega
  cases hd with
  | @tup a xs ds ha hds =>
    have el := hds.len
    refine ⟨_, rfl, a, xs, rfl, .inr (SqT.of ha), by show 2 ≤ sizeLine; decide, fun p hp => ?_⟩
    generalize ep : upd H p _ = H1
    obtain ⟨s1, d1⟩ := nw ep hp
    refine ⟨p, _, rfl, .inl (SqL.of d1), rfl, rfl, _, rfl, ?_⟩
    show if (!inV (.int (xs.length : Int)) [.int ((3 : Nat) : Int), .int ((4 : Nat) : Int)]) = true then _ else _
    rw [inV_two]
    refine itb (fun e2 => ?_) fun e2 => ?_
    · have e2 : ¬ (xs.length = 3 ∨ xs.length = 4) := by
        intro y; rw [decide_eq_true y] at e2; cases e2
      refine (q H1 s1).1 ?_
      rw [el] at e2
      match ds, e2 with
      | [], _ => rfl
      | [.str z], e2 => show (if _ then none else if _ then none else if _ then none else none) = none; (repeat' (first | rfl | split))
      | [.str z, _], e2 => show (if _ then none else if _ then none else if _ then none else none) = none; (repeat' (first | rfl | split))
      | .str z :: _ :: _ :: _ :: _ :: _, e2 => show (if _ then none else if _ then none else if _ then none else none) = none; (repeat' (first | rfl | split))
      | [.str z, _, _], e2 => exact absurd (.inl rfl) e2
      | [.str z, _, _, _], e2 => exact absurd (.inr rfl) e2
      | .non :: _, _ | .bl _ :: _, _ | .int _ :: _, _ | .lst _ :: _, _ | .tup _ :: _, _ | .dic :: _, _ => rfl
    have e2 : xs.length = 3 ∨ xs.length = 4 := by
      refine Classical.byContradiction fun y => ?_
      rw [decide_eq_false y] at e2; cases e2
    cases hds with
    | nil => simp at e2
    | @cons x xs d0 ds h0 hds =>
      have ha1 := s1 _ _ ha
      have h01 := h0.same s1
      refine ⟨_, rfl, a, _, _, _, rfl, rfl, SqT.of ha1, at0 _ _, _, _, _, _, _, rfl, .ty "str", h01.tyx, kit_str d0, _, rfl, itb (fun e3 => ?_) fun e3 => ?_⟩
      · refine (q H1 s1).1 ?_
        cases d0 <;> first | rfl | (exfalso; revert e3; simp [D.isa, isaT, D.ty]; done)
      obtain ⟨z, rfl⟩ : ∃ z, d0 = .str z := isa_str (by revert e3; cases d0.isa "str" <;> simp)
      cases h01
      have el2 : xs.length = ds.length := hds.len
      have el3 : ds.length = 2 ∨ ds.length = 3 := by rcases e2 with y | y <;> (rw [List.length_cons] at y; omega)
      have s01 := s1
      by_cases hz : z ∈ chg
      · have nif : z ≠ "if" := by rintro rfl; exact absurd hz (by decide)
        have nrepeat : z ≠ "repeat" := by rintro rfl; exact absurd hz (by decide)
        refine ⟨_, rfl, a, _, _, _, rfl, rfl, SqT.of ha1, at0 _ _, by show 3 ≤ sizeLine; decide, fun p2 hp2 => ?_⟩
        generalize eq2 : upd H1 p2 _ = H2
        obtain ⟨sq2, dq2⟩ := nw eq2 hp2
        have ha2 := sq2 _ _ ha1
        have s02 := s01.trans sq2
        refine ⟨.str z, p2, chg, rfl, .inl (SqL.of dq2), .str z, _, rfl, ?_⟩
        rw [inS_mem]
        refine itt (decide_eq_true hz) ?_
        refine ⟨_, rfl, a, _, rfl, .inr (SqT.of ha2), rfl, _, rfl, itb (fun e4 => ?_) fun e4 => ?_⟩
        · have e4 : ds.length = 2 := by
            have y := of_decide_eq_true e4
            injection y with y
            rw [List.length_cons] at y
            omega
          match xs, ds, hds, e4, ha2, q with
          | [x1, x2], _, .cons (d := d1) h1 (.cons (d := d2) h2 .nil), _, ha2, q =>
            have ew : withinD ks nm (.tup [.str z, d1, d2]) = if (d1.isa "str" && (d1.inS nm && amtOk ks nm d2)) = true then some [] else none := if_pos hz
            rw [ew] at q
            have h12 := h1.same s02
            have fin : ∀ b : Bool, (d1.isa "str" && (d1.inS nm && amtOk ks nm d2)) = b → ∀ F : V → Hp → Prop, (b = true → ∀ l, H2 l = none → F (.ref l) (upd H2 l (.lst []))) → True := fun _ _ _ _ => trivial
            refine ⟨_, rfl, a, _, _, _, rfl, rfl, SqT.of ha2, at1 _ _ _, _, _, _, _, _, rfl, .ty "str", h12.tyx, kit_str d1, _, rfl, itb (fun e5 => ?_) fun e5 => ?_⟩
            · refine ⟨_, rfl, a, _, _, _, rfl, rfl, SqT.of ha2, at1 _ _ _, _, rfl, d1, m, nm, rfl, .inl (SqL.of (J.same s02).mh), h12, _, rfl, itb (fun e6 => ?_) fun e6 => ?_⟩
              · refine ⟨_, rfl, _, rfl, _, rfl, a, _, _, _, rfl, rfl, SqT.of ha2, atI_nat (j := 2) rfl, sA, m, ks, nm, _, d2, rfl, J.same s02, h2.same s02, ?_⟩
                refine ⟨_, rfl, _, rfl, itb (fun e7 => ?_) fun e7 => ?_⟩
                · refine ⟨by show 0 ≤ sizeLine; decide, fun l hl => ?_⟩
                  generalize el9 : upd H2 l _ = H9
                  obtain ⟨s9, d9⟩ := nw el9 hl
                  exact (q H9 (s02.trans s9)).2 [] l [] (by rw [e5, e6, e7]; rfl) d9 .nil
                · exact (q H2 s02).1 (by rw [e5, e6, e7]; rfl)
              · refine ⟨_, rfl, _, rfl, iteF ?_⟩
                exact (q H2 s02).1 (by rw [e5, e6]; rfl)
            · refine ⟨_, rfl, _, rfl, iteF ?_⟩
              exact (q H2 s02).1 (by rw [e5]; rfl)
        · have e4 : ¬ ds.length = 2 := fun y => of_decide_eq_false e4 (by rw [List.length_cons, el2, y]; rfl)
          refine ⟨_, rfl, a, _, _, _, rfl, rfl, SqT.of ha2, at0 _ _, .str z, _, rfl, .str z, _, rfl, (itf (show (D.str z).isS "if" = false from beq_eq_false_iff_ne.mpr nif)) ?_⟩
          refine ⟨_, rfl, a, _, _, _, rfl, rfl, SqT.of ha2, at0 _ _, .str z, _, rfl, .str z, _, rfl, (itf (show (D.str z).isS "repeat" = false from beq_eq_false_iff_ne.mpr nrepeat)) ?_⟩
          refine (q H2 s02).1 ?_
          have e5 := el3.resolve_left e4
          match ds, e5 with
          | [_, _, _], _ => exact if_pos hz
      by_cases hw : z = "if"
      · have nrepeat : z ≠ "repeat" := by rw [hw]; decide
        refine ⟨_, rfl, a, _, _, _, rfl, rfl, SqT.of ha1, at0 _ _, by show 3 ≤ sizeLine; decide, fun p2 hp2 => ?_⟩
        generalize eq2 : upd H1 p2 _ = H2
        obtain ⟨sq2, dq2⟩ := nw eq2 hp2
        have ha2 := sq2 _ _ ha1
        have s02 := s01.trans sq2
        refine ⟨.str z, p2, chg, rfl, .inl (SqL.of dq2), .str z, _, rfl, ?_⟩
        rw [inS_mem]
        refine itf (decide_eq_false hz) ?_
        refine ⟨_, rfl, a, _, _, _, rfl, rfl, SqT.of ha2, at0 _ _, .str z, _, rfl, .str z, _, rfl, (itt (show (D.str z).isS "if" = true by rw [hw]; rfl)) ?_⟩
        refine ⟨_, rfl, a, _, rfl, .inr (SqT.of ha2), rfl, _, rfl, itb (fun e4 => ?_) fun e4 => ?_⟩
        · have e4 : ds.length = 3 := by
            have y := of_decide_eq_true e4
            injection y with y
            rw [List.length_cons] at y
            omega
          match xs, ds, hds, e4, ha2, q, depd with
          | [x1, x2, x3], _, .cons (d := d1) h1 (.cons (d := d2) h2 (.cons (d := d3) h3 .nil)), _, ha2, q, depd =>
            have ew : withinD ks nm (.tup [.str z, d1, d2, d3]) = if condOk ks nm 4 d1 = true then some [d2, d3] else none := by
              show (if z ∈ chg then _ else if z = "if" then _ else _) = _
              rw [if_neg hz, if_pos hw]
            rw [ew] at q
            have dp1 : d1.dep ≤ 31 := Nat.le_trans (dep_mem (by simp)) depd
            refine ⟨_, rfl, _, rfl, _, rfl, a, _, _, _, rfl, rfl, SqT.of ha2, at1 _ _ _, sA, m, ks, nm, _, d1, rfl, J.same s02, h1.same s02, dp1, fun H3 s3 => ⟨_, rfl, itb (fun e5 => ?_) fun e5 => ?_⟩⟩
            · have ha3 := s3 _ _ ha2
              have s03 := s02.trans s3
              refine ⟨_, rfl, a, _, _, _, rfl, rfl, SqT.of ha3, atI_nat (j := 2) rfl, _, rfl, a, _, _, _, rfl, rfl, SqT.of ha3, atI_nat (j := 3) rfl, by show 2 ≤ sizeLine; decide, fun l hl => ?_⟩
              generalize el9 : upd H3 l _ = H9
              obtain ⟨s9, d9⟩ := nw el9 hl
              have s09 := s03.trans s9
              exact (q H9 s09).2 [d2, d3] l _ (by rw [e5]; rfl) d9 (.cons (h2.same s09) (.cons (h3.same s09) .nil))
            · exact (q H3 (s02.trans s3)).1 (by rw [e5]; rfl)
        · have e4 : ¬ ds.length = 3 := fun y => of_decide_eq_false e4 (by rw [List.length_cons, el2, y]; rfl)
          refine ⟨_, rfl, a, _, _, _, rfl, rfl, SqT.of ha2, at0 _ _, .str z, _, rfl, .str z, _, rfl, (itf (show (D.str z).isS "repeat" = false from beq_eq_false_iff_ne.mpr nrepeat)) ?_⟩
          refine (q H2 s02).1 ?_
          have e5 := el3.resolve_right e4
          match ds, e5 with
          | [_, _], _ =>
            show (if z ∈ chg then _ else if z = "if" then _ else _) = _
            rw [if_neg hz, if_pos hw]
      have nif : z ≠ "if" := hw
      by_cases hw : z = "repeat"
      · refine ⟨_, rfl, a, _, _, _, rfl, rfl, SqT.of ha1, at0 _ _, by show 3 ≤ sizeLine; decide, fun p2 hp2 => ?_⟩
        generalize eq2 : upd H1 p2 _ = H2
        obtain ⟨sq2, dq2⟩ := nw eq2 hp2
        have ha2 := sq2 _ _ ha1
        have s02 := s01.trans sq2
        refine ⟨.str z, p2, chg, rfl, .inl (SqL.of dq2), .str z, _, rfl, ?_⟩
        rw [inS_mem]
        refine itf (decide_eq_false hz) ?_
        refine ⟨_, rfl, a, _, _, _, rfl, rfl, SqT.of ha2, at0 _ _, .str z, _, rfl, .str z, _, rfl, (itf (show (D.str z).isS "if" = false from beq_eq_false_iff_ne.mpr nif)) ?_⟩
        refine ⟨_, rfl, a, _, _, _, rfl, rfl, SqT.of ha2, at0 _ _, .str z, _, rfl, .str z, _, rfl, (itt (show (D.str z).isS "repeat" = true by rw [hw]; rfl)) ?_⟩
        refine ⟨_, rfl, a, _, rfl, .inr (SqT.of ha2), rfl, _, rfl, itb (fun e4 => ?_) fun e4 => ?_⟩
        · have e4 : ds.length = 2 := by
            have y := of_decide_eq_true e4
            injection y with y
            rw [List.length_cons] at y
            omega
          match xs, ds, hds, e4, ha2, q with
          | [x1, x2], _, .cons (d := d1) h1 (.cons (d := d2) h2 .nil), _, ha2, q =>
            have ew : withinD ks nm (.tup [.str z, d1, d2]) = if d1.btw 0 9 = true then some [d2] else none := by
              show (if z ∈ chg then _ else if z = "if" then _ else if z = "repeat" then _ else _) = _
              rw [if_neg hz, if_neg nif, if_pos hw]
            rw [ew] at q
            have h12 := h1.same s02
            refine ⟨_, rfl, a, _, _, _, rfl, rfl, SqT.of ha2, at1 _ _ _, _, _, _, _, _, rfl, .ty "int", h12.tyx, kit_int d1, _, rfl, itb (fun e5 => ?_) fun e5 => ?_⟩
            · refine ⟨_, rfl, a, _, _, _, rfl, rfl, SqT.of ha2, at1 _ _ _, _, _, _, _, _, rfl, .ty "bool", h12.tyx, kit_bool d1, _, rfl, _, rfl, itb (fun e6 => ?_) fun e6 => ?_⟩
              · cases h12 with
                | int i =>
                  refine ⟨_, rfl, a, _, _, _, rfl, rfl, SqT.of ha2, at1 _ _ _, _, _, rfl, rfl, _, rfl, itd (fun h7 => ?_) fun h7 => ?_⟩
                  · refine ⟨_, _, rfl, rfl, ?_⟩
                    refine ⟨_, rfl, _, rfl, itd (fun h8 => ?_) fun h8 => ?_⟩
                    · refine ⟨_, rfl, a, _, _, _, rfl, rfl, SqT.of ha2, atI_nat (j := 2) rfl, by show 1 ≤ sizeLine; decide, fun l hl => ?_⟩
                      generalize el9 : upd H2 l _ = H9
                      obtain ⟨s9, d9⟩ := nw el9 hl
                      have s09 := s02.trans s9
                      exact (q H9 s09).2 [d2] l _ (by
                        have e : (D.int i).btw 0 9 = true := by show (decide (0 ≤ i) && decide (i ≤ 9)) = true; rw [decide_eq_true h7, decide_eq_true h8]; rfl
                        rw [e]; rfl) d9 (.cons (h2.same s09) .nil)
                    · refine (q H2 s02).1 ?_
                      have e : (D.int i).btw 0 9 = false := by show (decide (0 ≤ i) && decide (i ≤ 9)) = false; rw [decide_eq_true h7, decide_eq_false h8]; rfl
                      rw [e]; rfl
                  · refine ⟨_, rfl, _, rfl, iteF ?_⟩
                    refine (q H2 s02).1 ?_
                    have e : (D.int i).btw 0 9 = false := by show (decide (0 ≤ i) && decide (i ≤ 9)) = false; rw [decide_eq_false h7]; rfl
                    rw [e]; rfl
                | bl b => simp [D.isa, isaT, D.ty] at e6
                | _ => simp [D.isa, isaT, D.ty] at e5
              · refine ⟨_, rfl, _, rfl, iteF ?_⟩
                refine (q H2 s02).1 ?_
                have e : d1.btw 0 9 = false := by cases d1 <;> first | rfl | (exfalso; revert e6; simp [D.isa, isaT, D.ty]; done)
                rw [e]; rfl
            · refine ⟨_, rfl, _, rfl, iteF ?_⟩
              refine (q H2 s02).1 ?_
              have e : d1.btw 0 9 = false := by cases d1 <;> first | rfl | (exfalso; revert e5; simp [D.isa, isaT, D.ty]; done)
              rw [e]; rfl
        · have e4 : ¬ ds.length = 2 := fun y => of_decide_eq_false e4 (by rw [List.length_cons, el2, y]; rfl)
          refine (q H2 s02).1 ?_
          have e5 := el3.resolve_left e4
          match ds, e5 with
          | [_, _, _], _ =>
            show (if z ∈ chg then _ else if z = "if" then _ else if z = "repeat" then _ else _) = _
            rw [if_neg hz, if_neg nif, if_pos hw]
      have nrepeat : z ≠ "repeat" := hw
      refine ⟨_, rfl, a, _, _, _, rfl, rfl, SqT.of ha1, at0 _ _, by show 3 ≤ sizeLine; decide, fun p2 hp2 => ?_⟩
      generalize eq2 : upd H1 p2 _ = H2
      obtain ⟨sq2, dq2⟩ := nw eq2 hp2
      have ha2 := sq2 _ _ ha1
      have s02 := s01.trans sq2
      refine ⟨.str z, p2, chg, rfl, .inl (SqL.of dq2), .str z, _, rfl, ?_⟩
      rw [inS_mem]
      refine itf (decide_eq_false hz) ?_
      refine ⟨_, rfl, a, _, _, _, rfl, rfl, SqT.of ha2, at0 _ _, .str z, _, rfl, .str z, _, rfl, (itf (show (D.str z).isS "if" = false from beq_eq_false_iff_ne.mpr nif)) ?_⟩
      refine ⟨_, rfl, a, _, _, _, rfl, rfl, SqT.of ha2, at0 _ _, .str z, _, rfl, .str z, _, rfl, (itf (show (D.str z).isS "repeat" = false from beq_eq_false_iff_ne.mpr nrepeat)) ?_⟩
      refine (q H2 s02).1 ?_
      show (if z ∈ chg then _ else if z = "if" then _ else if z = "repeat" then _ else _) = _
      rw [if_neg hz, if_neg nif, if_neg nrepeat]
end
end NH
set_option maxHeartbeats 4000000
namespace NH
open PySem PySem.Spec PyProof.Rows L2 TL
/-- the lists of steps within the items of a list -/
def innerD (ks : List Kind) (nm : List Str) : List D → Option (List D)
  | [] => some []
  | i :: ds => match withinD ks nm i with
    | none => none
    | some l => match innerD ks nm ds with
      | none => none
      | some r => some (l ++ r)
/-- how deep data is as steps, and how many items it has; 99 deep if it is none -/
def sizeN (ks : List Kind) (nm : List Str) : Nat → D → Nat × Nat
  | 0, _ => (99, 0)
  | n + 1, d => match d.items with
    | none => (99, 0)
    | some ds => if 6 < ds.length then (99, 0) else match innerD ks nm ds with
      | none => (99, 0)
      | some l => ((l.map fun x => 1 + (sizeN ks nm n x).1).foldr max 1, ds.length + (l.map fun x => (sizeN ks nm n x).2).sum)
theorem isS_mem {d : D} {l : List Str} : d.inS l = true ↔ ∃ x ∈ l, d = .str x := by
  constructor
  · intro h
    obtain ⟨x, hx, e⟩ := List.any_eq_true.mp h
    refine ⟨x, hx, ?_⟩
    cases d with
    | str y =>
      have e : (y == x) = true := e
      rw [eq_of_beq e]
    | _ => cases e
  · rintro ⟨x, hx, rfl⟩
    exact List.any_eq_true.mpr ⟨x, hx, by show (x == x) = true; simp⟩
theorem inS_str {d : D} {l : List Str} (h : d.inS l = true) : d.isa "str" = true := by
  obtain ⟨x, _, rfl⟩ := isS_mem.mp h
  rfl
theorem within_eq (ks : List Kind) (nm : List Str) (z : Str) (ps : List D) : withinD ks nm (.tup (.str z :: ps)) = if z ∈ chg then (match ps with | [a, b] => if (a.isa "str" && (a.inS nm && amtOk ks nm b)) = true then some [] else none | _ => none)
          else if z = "if" then (match ps with | [a, b, c] => if condOk ks nm 4 a = true then some [b, c] else none | _ => none)
          else if z = "repeat" then (match ps with | [a, b] => if a.btw 0 9 = true then some [b] else none | _ => none) else none := rfl
theorem item_within (ks : List Kind) (nm : List Str) (rec : D → Bool) (i : D) : itemOk ks nm rec i = (match withinD ks nm i with | some l => l.all rec | none => false) := by
  cases i with
  | tup ds =>
    cases ds with
    | nil => rfl
    | cons w ps =>
      cases w with
      | str z =>
        show (if (D.str z).inS chg = true then chgOk ks nm ps else if (z == "repeat") = true then repOk rec ps else ((z == "if") && ifOk ks nm rec ps)) = _
        have ew := within_eq ks nm z ps
        rw [ew, inS_mem]
        by_cases hz : z ∈ chg
        · rw [decide_eq_true hz, if_pos rfl, if_pos hz]
          match ps with
          | [a, b] =>
            show (a.inS nm && amtOk ks nm b) = (match (if (a.isa "str" && (a.inS nm && amtOk ks nm b)) = true then some [] else none) with | some l => l.all rec | none => false)
            cases h1 : a.inS nm with
            | true => rw [inS_str h1]; cases amtOk ks nm b <;> rfl
            | false => cases a.isa "str" <;> rfl
          | [] => rfl
          | [_] => rfl
          | _ :: _ :: _ :: _ => rfl
        · rw [decide_eq_false hz, if_neg (by decide), if_neg hz]
          by_cases hi : z = "if"
          · subst hi
            rw [if_pos rfl, if_neg (by decide)]
            match ps with
            | [a, b, c] =>
              show (true && (condOk ks nm 4 a && [b, c].all rec)) = (match (if condOk ks nm 4 a = true then some [b, c] else none) with | some l => l.all rec | none => false)
              cases condOk ks nm 4 a <;> rfl
            | [] => rfl
            | [_] => rfl
            | [_, _] => rfl
            | _ :: _ :: _ :: _ :: _ => rfl
          · rw [if_neg hi]
            have hi' : (z == ("if" : Str)) = false := beq_eq_false_iff_ne.mpr hi
            by_cases hr : z = "repeat"
            · subst hr
              rw [if_pos rfl, if_pos (by decide)]
              match ps with
              | [a, b] =>
                show (a.btw 0 9 && rec b) = (match (if a.btw 0 9 = true then some [b] else none) with | some l => l.all rec | none => false)
                cases a.btw 0 9 with
                | true => show (true && rec b) = (rec b && true); rw [Bool.true_and, Bool.and_true]
                | false => rfl
              | [] => rfl
              | [_] => rfl
              | _ :: _ :: _ :: _ => rfl
            · rw [if_neg hr, if_neg (by rw [beq_eq_false_iff_ne.mpr hr]; decide), hi']; rfl
      | _ => rfl
  | _ => rfl
theorem all_inner (ks : List Kind) (nm : List Str) (rec : D → Bool) : ∀ ds : List D, ds.all (itemOk ks nm rec) = (match innerD ks nm ds with | some l => l.all rec | none => false)
  | [] => rfl
  | i :: ds => by
    rw [List.all_cons, item_within, all_inner ks nm rec ds]
    show _ = (match (match withinD ks nm i with | none => none | some l => match innerD ks nm ds with | none => none | some r => some (l ++ r)) with | some l => l.all rec | none => false)
    cases withinD ks nm i with
    | none => rfl
    | some l =>
      cases innerD ks nm ds with
      | none => show (l.all rec && false) = false; rw [Bool.and_false]
      | some r => show (l.all rec && r.all rec) = (l ++ r).all rec; rw [List.all_append]
theorem within_dep {ks : List Kind} {nm : List Str} {i x : D} {l : List D} (h : withinD ks nm i = some l) (hx : x ∈ l) : x.dep + 1 ≤ i.dep := by
  cases i with
  | tup ds =>
    cases ds with
    | nil => cases h
    | cons w ps =>
      cases w with
      | str z =>
        have ew := within_eq ks nm z ps
        rw [ew] at h
        have sub : ∀ y ∈ ps, y.dep + 1 ≤ (D.tup (.str z :: ps)).dep := fun y hy => by
          have a := dep_mem (List.mem_cons_of_mem (D.str z) hy)
          show _ ≤ D.deps (.str z :: ps) + 1
          omega
        refine sub x ?_
        by_cases hz : z ∈ chg
        · rw [if_pos hz] at h
          match ps, h with
          | [a, b], h =>
            have h : (if (a.isa "str" && (a.inS nm && amtOk ks nm b)) = true then some [] else none) = some l := h
            split at h
            · cases h; cases hx
            · cases h
          | [], h => cases h
          | [_], h => cases h
          | _ :: _ :: _ :: _, h => cases h
        · rw [if_neg hz] at h
          by_cases hi : z = "if"
          · rw [if_pos hi] at h
            match ps, h with
            | [a, b, c], h =>
              have h : (if condOk ks nm 4 a = true then some [b, c] else none) = some l := h
              split at h
              · cases h; exact List.mem_cons_of_mem _ hx
              · cases h
            | [], h => cases h
            | [_], h => cases h
            | [_, _], h => cases h
            | _ :: _ :: _ :: _ :: _, h => cases h
          · rw [if_neg hi] at h
            by_cases hr : z = "repeat"
            · rw [if_pos hr] at h
              match ps, h with
              | [a, b], h =>
                have h : (if a.btw 0 9 = true then some [b] else none) = some l := h
                split at h
                · cases h; exact List.mem_cons_of_mem _ hx
                · cases h
              | [], h => cases h
              | [_], h => cases h
              | _ :: _ :: _ :: _, h => cases h
            · rw [if_neg hr] at h; cases h
      | _ => cases h
  | _ => cases h
theorem inner_dep {ks : List Kind} {nm : List Str} : ∀ {ds l : List D} {x : D}, innerD ks nm ds = some l → x ∈ l → x.dep + 1 ≤ D.deps ds
  | [], l, x, h, hx => by cases h; cases hx
  | i :: ds, l, x, h, hx => by
    have h : (match withinD ks nm i with | none => none | some l => match innerD ks nm ds with | none => none | some r => some (l ++ r)) = some l := h
    cases h1 : withinD ks nm i with
    | none => rw [h1] at h; cases h
    | some l1 =>
      rw [h1] at h
      have h : (match innerD ks nm ds with | none => none | some r => some (l1 ++ r)) = some l := h
      cases h2 : innerD ks nm ds with
      | none => rw [h2] at h; cases h
      | some r =>
        rw [h2] at h
        cases h
        show _ ≤ max i.dep (D.deps ds)
        rcases List.mem_append.mp hx with hx | hx
        · have := within_dep h1 hx; omega
        · have := inner_dep h2 hx; omega
theorem foldr1 {l : List Nat} {k : Nat} : l.foldr max 1 ≤ k ↔ 1 ≤ k ∧ ∀ x ∈ l, x ≤ k := by
  induction l with
  | nil => simp
  | cons x l ih =>
    show max x (l.foldr max 1) ≤ k ↔ _
    constructor
    · intro h
      have a := ih.mp (by omega)
      exact ⟨a.1, fun y hy => by
        rcases List.mem_cons.mp hy with rfl | hy
        · omega
        · exact a.2 y hy⟩
    · intro h
      have a := h.2 x (List.mem_cons_self ..)
      have b := ih.mpr ⟨h.1, fun y hy => h.2 y (List.mem_cons_of_mem _ hy)⟩
      omega
theorem steps_size (ks : List Kind) (nm : List Str) : ∀ (n : Nat) (d : D) (k : Nat), d.dep ≤ n → k ≤ 90 → stepsOk ks nm k d = decide ((sizeN ks nm n d).1 ≤ k) := by
  intro n
  induction n with
  | zero =>
    intro d k h hk
    rw [decide_eq_false (by show ¬ 99 ≤ k; omega)]
    cases k with
    | zero => rfl
    | succ k => cases d <;> first | rfl | exact absurd h (by show ¬ (_ + 1 ≤ 0); omega)
  | succ n ih =>
    intro d k h hk
    have es : sizeN ks nm (n + 1) d = (match d.items with
      | none => (99, 0)
      | some ds => if 6 < ds.length then (99, 0) else match innerD ks nm ds with
        | none => (99, 0)
        | some l => ((l.map fun x => 1 + (sizeN ks nm n x).1).foldr max 1, ds.length + (l.map fun x => (sizeN ks nm n x).2).sum)) := rfl
    cases k with
    | zero =>
      refine (decide_eq_false ?_).symm
      rw [es]
      cases d.items with
      | none => show ¬ 99 ≤ 0; omega
      | some ds =>
        show ¬ (if 6 < ds.length then (99, 0) else _).1 ≤ 0
        split
        · show ¬ 99 ≤ 0; omega
        · cases innerD ks nm ds with
          | none => show ¬ 99 ≤ 0; omega
          | some l =>
            show ¬ (l.map fun x => 1 + (sizeN ks nm n x).1).foldr max 1 ≤ 0
            intro y
            have := (foldr1.mp y).1
            omega
    | succ k =>
      show (match d.items with | some ds => decide (ds.length ≤ 6) && ds.all (itemOk ks nm (stepsOk ks nm k)) | none => false) = _
      rw [es]
      cases hi : d.items with
      | none => exact (decide_eq_false (by show ¬ 99 ≤ k + 1; omega)).symm
      | some ds =>
        show (decide (ds.length ≤ 6) && ds.all (itemOk ks nm (stepsOk ks nm k))) = decide ((if 6 < ds.length then (99, 0) else _).1 ≤ k + 1)
        by_cases h6 : 6 < ds.length
        · rw [if_pos h6, decide_eq_false (by omega), Bool.false_and]
          exact (decide_eq_false (by show ¬ 99 ≤ k + 1; omega)).symm
        · rw [if_neg h6, decide_eq_true (by omega), Bool.true_and, all_inner]
          have dd : D.deps ds + 1 ≤ n + 1 := by
            have : D.deps ds + 1 = d.dep := by cases d <;> first | (cases hi; rfl) | cases hi
            omega
          cases hin : innerD ks nm ds with
          | none => exact (decide_eq_false (by show ¬ 99 ≤ k + 1; omega)).symm
          | some l =>
            show l.all (stepsOk ks nm k) = decide ((l.map fun x => 1 + (sizeN ks nm n x).1).foldr max 1 ≤ k + 1)
            rw [Bool.eq_iff_iff, List.all_eq_true, decide_eq_true_iff, foldr1]
            constructor
            · intro ha
              refine ⟨by omega, fun y hy => ?_⟩
              obtain ⟨x, hx, rfl⟩ := List.mem_map.mp hy
              have z := ha x hx
              rw [ih x k (by have := inner_dep hin hx; omega) (by omega)] at z
              have := of_decide_eq_true z
              omega
            · rintro ⟨_, ha⟩ x hx
              have z := ha _ (List.mem_map.mpr ⟨x, hx, rfl⟩)
              rw [ih x k (by have := inner_dep hin hx; omega) (by omega)]
              exact decide_eq_true (by omega)
theorem within_cnt {ks : List Kind} {nm : List Str} {rec : D → Nat} {i : D} {l : List D} (h : withinD ks nm i = some l) : cntItem rec i = (l.map rec).sum := by
  cases i with
  | tup ds =>
    cases ds with
    | nil => cases h
    | cons w ps =>
      cases w with
      | str z =>
        have ew := within_eq ks nm z ps
        rw [ew] at h
        show (if (D.str z).inS chg = true then 0 else ((ps.drop 1).map rec).sum) = _
        rw [inS_mem]
        by_cases hz : z ∈ chg
        · rw [decide_eq_true hz, if_pos rfl]
          rw [if_pos hz] at h
          match ps, h with
          | [a, b], h =>
            have h : (if (a.isa "str" && (a.inS nm && amtOk ks nm b)) = true then some [] else none) = some l := h
            split at h
            · cases h; rfl
            · cases h
          | [], h => cases h
          | [_], h => cases h
          | _ :: _ :: _ :: _, h => cases h
        · rw [decide_eq_false hz, if_neg (by decide)]
          rw [if_neg hz] at h
          by_cases hi : z = "if"
          · rw [if_pos hi] at h
            match ps, h with
            | [a, b, c], h =>
              have h : (if condOk ks nm 4 a = true then some [b, c] else none) = some l := h
              split at h
              · cases h; rfl
              · cases h
            | [], h => cases h
            | [_], h => cases h
            | [_, _], h => cases h
            | _ :: _ :: _ :: _ :: _, h => cases h
          · rw [if_neg hi] at h
            by_cases hr : z = "repeat"
            · rw [if_pos hr] at h
              match ps, h with
              | [a, b], h =>
                have h : (if a.btw 0 9 = true then some [b] else none) = some l := h
                split at h
                · cases h; rfl
                · cases h
              | [], h => cases h
              | [_], h => cases h
              | _ :: _ :: _ :: _, h => cases h
            · rw [if_neg hr] at h; cases h
      | _ => cases h
  | _ => cases h
theorem inner_cnt {ks : List Kind} {nm : List Str} {rec : D → Nat} : ∀ {ds l : List D}, innerD ks nm ds = some l → (ds.map fun i => 1 + cntItem rec i).sum = ds.length + (l.map rec).sum
  | [], l, h => by cases h; rfl
  | i :: ds, l, h => by
    have h : (match withinD ks nm i with | none => none | some l => match innerD ks nm ds with | none => none | some r => some (l ++ r)) = some l := h
    cases h1 : withinD ks nm i with
    | none => rw [h1] at h; cases h
    | some l1 =>
      rw [h1] at h
      have h : (match innerD ks nm ds with | none => none | some r => some (l1 ++ r)) = some l := h
      cases h2 : innerD ks nm ds with
      | none => rw [h2] at h; cases h
      | some r =>
        rw [h2] at h
        cases h
        rw [List.map_cons, List.sum_cons, inner_cnt h2, within_cnt h1, List.map_append, List.sum_append, List.length_cons]
        omega
theorem sum_same {f g : D → Nat} : ∀ {l : List D}, (∀ x ∈ l, f x = g x) → (l.map f).sum = (l.map g).sum
  | [], _ => rfl
  | x :: l, h => by
    rw [List.map_cons, List.map_cons, List.sum_cons, List.sum_cons, h x (List.mem_cons_self ..), sum_same fun y hy => h y (List.mem_cons_of_mem _ hy)]
theorem cnt_size (ks : List Kind) (nm : List Str) : ∀ (n : Nat) (d : D) (k : Nat), d.dep ≤ n → stepsOk ks nm k d = true → cnt k d = (sizeN ks nm n d).2 := by
  intro n
  induction n with
  | zero =>
    intro d k h hs
    cases k with
    | zero => cases hs
    | succ k => cases d <;> first | cases hs | exact absurd h (by show ¬ (_ + 1 ≤ 0); omega)
  | succ n ih =>
    intro d k h hs
    cases k with
    | zero => cases hs
    | succ k =>
      have hs : (match d.items with | some ds => decide (ds.length ≤ 6) && ds.all (itemOk ks nm (stepsOk ks nm k)) | none => false) = true := hs
      have es : sizeN ks nm (n + 1) d = (match d.items with
        | none => (99, 0)
        | some ds => if 6 < ds.length then (99, 0) else match innerD ks nm ds with
          | none => (99, 0)
          | some l => ((l.map fun x => 1 + (sizeN ks nm n x).1).foldr max 1, ds.length + (l.map fun x => (sizeN ks nm n x).2).sum)) := rfl
      have ec : cnt (k + 1) d = (match d.items with | some ds => (ds.map fun i => 1 + cntItem (cnt k) i).sum | none => 0) := rfl
      cases hi : d.items with
      | none => rw [hi] at hs; cases hs
      | some ds =>
        rw [hi] at hs es ec
        have hs : (decide (ds.length ≤ 6) && ds.all (itemOk ks nm (stepsOk ks nm k))) = true := hs
        obtain ⟨h6, ha⟩ := (Bool.and_eq_true _ _ ▸ hs : decide (ds.length ≤ 6) = true ∧ ds.all (itemOk ks nm (stepsOk ks nm k)) = true)
        have h6 := of_decide_eq_true h6
        rw [all_inner] at ha
        have dd : D.deps ds + 1 ≤ n + 1 := by
          have : D.deps ds + 1 = d.dep := by cases d <;> first | (cases hi; rfl) | cases hi
          omega
        cases hin : innerD ks nm ds with
        | none => rw [hin] at ha; cases ha
        | some l =>
          rw [hin] at ha
          have ha : l.all (stepsOk ks nm k) = true := ha
          have es : sizeN ks nm (n + 1) d = (if 6 < ds.length then (99, 0) else match innerD ks nm ds with
            | none => (99, 0)
            | some l => ((l.map fun x => 1 + (sizeN ks nm n x).1).foldr max 1, ds.length + (l.map fun x => (sizeN ks nm n x).2).sum)) := es
          rw [if_neg (by omega), hin] at es
          rw [es]
          have ec : cnt (k + 1) d = (ds.map fun i => 1 + cntItem (cnt k) i).sum := ec
          rw [ec, inner_cnt hin]
          show _ = ds.length + (l.map fun x => (sizeN ks nm n x).2).sum
          rw [sum_same fun x hx => ih x k (by have := inner_dep hin hx; omega) (List.all_eq_true.mp ha x hx)]
/-- the program's judge of steps is the law's -/
theorem steps_due (ks : List Kind) (nm : List Str) (n : Nat) (d : D) (h : d.dep ≤ n) : stepsYes ks nm d = (decide ((sizeN ks nm n d).1 ≤ 3) && decide ((sizeN ks nm n d).2 ≤ 24)) := by
  unfold stepsYes
  have a := steps_size ks nm n d 3 h (by decide)
  cases hs : stepsOk ks nm 3 d with
  | true => rw [hs] at a; rw [← a, cnt_size ks nm n d 3 h hs]
  | false => rw [hs] at a; rw [← a]; rfl
end NH
set_option maxHeartbeats 4000000
namespace NH
open PySem PySem.Spec PyProof.Rows L2 TL
theorem inner_snoc {ks : List Kind} {nm : List Str} {d : D} {r : List D} (hw : withinD ks nm d = some r) : ∀ {ds l : List D}, innerD ks nm ds = some l → innerD ks nm (ds ++ [d]) = some (l ++ r)
  | [], l, h => by
    cases h
    show (match withinD ks nm d with | none => none | some l => match innerD ks nm [] with | none => none | some r => some (l ++ r)) = some ([] ++ r)
    rw [hw]
    show some (r ++ []) = _
    rw [List.append_nil]; rfl
  | i :: ds, l, h => by
    have h : (match withinD ks nm i with | none => none | some l => match innerD ks nm ds with | none => none | some r => some (l ++ r)) = some l := h
    show (match withinD ks nm i with | none => none | some l => match innerD ks nm (ds ++ [d]) with | none => none | some r => some (l ++ r)) = _
    cases h1 : withinD ks nm i with
    | none => rw [h1] at h; cases h
    | some l1 =>
      rw [h1] at h
      have h : (match innerD ks nm ds with | none => none | some r => some (l1 ++ r)) = some l := h
      cases h2 : innerD ks nm ds with
      | none => rw [h2] at h; cases h
      | some r2 =>
        rw [h2] at h
        cases h
        rw [inner_snoc hw h2]
        show some (l1 ++ (r2 ++ r)) = _
        rw [List.append_assoc]
theorem inner_bad {ks : List Kind} {nm : List Str} {d : D} (hw : withinD ks nm d = none) : ∀ {ds l : List D} {i : Nat}, innerD ks nm (ds.take i) = some l → ds[i]? = some d → innerD ks nm ds = none := by
  intro ds
  induction ds with
  | nil => intro l i _ h; simp at h
  | cons x ds ih =>
    intro l i h hd
    show (match withinD ks nm x with | none => none | some l => match innerD ks nm ds with | none => none | some r => some (l ++ r)) = none
    cases i with
    | zero => cases hd; rw [hw]
    | succ i =>
      have h : (match withinD ks nm x with | none => none | some l => match innerD ks nm (ds.take i) with | none => none | some r => some (l ++ r)) = some l := h
      cases h1 : withinD ks nm x with
      | none => rfl
      | some l1 =>
        rw [h1] at h
        cases h2 : innerD ks nm (ds.take i) with
        | none => rw [h2] at h; cases h
        | some r => rw [ih h2 (by simpa using hd)]
theorem foldr_snoc (l : List Nat) (x : Nat) : (l ++ [x]).foldr max 1 = max (l.foldr max 1) x := by
  induction l with
  | nil => show max x 1 = max 1 x; omega
  | cons y l ih => show max y ((l ++ [x]).foldr max 1) = max (max y (l.foldr max 1)) x; rw [ih]; omega
section
variable {P : Program} {w : World} {K : PySem.W.Frag} {mg : Str → Option Value} {base : Heap}
abbrev s_law_size : Stmt := top 58
theorem sc_law_size : FnScope ["sides", "names", "value", "deep", "many", "item", "within", "inner", "size"] ["sides", "names", "value"] (defScope s_law_size) := ⟨rfl, rfl, rfl, by decide +kernel, rfl, by decide +kernel, by decide +kernel⟩
def spSz (n : Nat) : Sp := fun vs H Q _ => ∃ (s m : Addr) (ks : List Kind) (nm : List Str) (v : V) (d : D), vs = [.ref s, .ref m, v] ∧ Jd s m ks nm H ∧ Dd H v d ∧ d.dep ≤ n ∧ ∀ (l : Addr) (a b : Nat) H', Same H H' → sizeN ks nm n d = (a, b) → H' l = some (.lst [.int (a : Int), .int (b : Int)]) → Q (.ref l) H'
theorem ok_law_size (G : Bl mg) (DA : DefAt K mg "_law_size" s_law_size) (cWn : Callee P w K mg base 35 "_law_within" ["sides", "names", "value"] spWn) : ∀ n : Nat, n ≤ 31 → Callee P w K mg base (36 + n) "_law_size" ["sides", "names", "value"] (spSz n) := by
  have body : ∀ (n k : Nat) (spI : Sp), n ≤ 31 → 35 ≤ k → (∀ n', n = n' + 1 → spI = spSz n') → (Callee P w K mg base k "_law_size" ["sides", "names", "value"] spI) → Callee P w K mg base (k + 1) "_law_size" ["sides", "names", "value"] (spSz n) := by
    intro n k spI hn31 hk hI ih
    refine callee DA sc_law_size (fun vs H Q E h => by obtain ⟨_, _, _, _, _, _, rfl, _⟩ := h; rfl) (fun _ _ _ _ _ _ us hl => match us, hl with | [_, _, _], _ => rfl) fun f cdv A outer s H vs Q E hr h => ?_
    obtain ⟨sA, m, ks, nm, v, d, rfl, J, hd, dep, q⟩ := h
    have hu := hu_of hr
    have other : d.items = none → d.seq = false → ∃ t, PSs (cxOf CX0 P w K mg base ["sides", "names", "value", "deep", "many", "item", "within", "inner", "size"] "_law_size" (defScope s_law_size) f cdv A outer s H E).nox (defBody s_law_size) t ∧ t { nx := fun _ H' => Q .non H', rt := Q } (start ["sides", "names", "value", "deep", "many", "item", "within", "inner", "size"] [.ref sA, .ref m, v]) H := by
      intro hi hs
      refine ⟨_, (pss_cons (ps_if (PW.pt (pw_or (pt_not (pt_val (pe_callB call_isiT (by rfl) G.b_isinstance (by decide +kernel) (pa_cons (pv 2) (pa_cons (pe_tup (pa_cons (pe_bltn (v := .ty "list") (u := .type "list") (by rfl) G.b_list (by decide +kernel) rfl) (pa_cons (pe_bltn (v := .ty "tuple") (u := .type "tuple") (by rfl) G.b_tuple (by decide +kernel) rfl) pa_nil))) pa_nil))))) (pw_or1 (pt_cmpR op_gt (pe_callB call_len_seq (by rfl) G.b_len (by decide +kernel) (pa_cons (pv 2) pa_nil)) pe_int (nomark _))))) (pss_one (ps_ret (pe_lst (pa_cons pe_int (pa_cons pe_int pa_nil))))) pss_nil)
    (pss_cons (ps_par (i := 3) (j := 4) (by rfl) sc_law_size.nd rfl rfl (by decide) rfl rfl (pa_cons pe_int (pa_cons (pe_callB call_len_seq (by rfl) G.b_len (by decide +kernel) (pa_cons (pv 2) pa_nil)) pa_nil)) (by rfl))
    (pss_cons (ps_for PassesOwn.never rfl (pi_list (pv 2)) (pg_name (i := 5) sc_law_size.nd rfl (Or.inl rfl)) (pss_cons (ps_set (i := 6) sc_law_size.nd rfl (Or.inl rfl) (pe_cal cWn hr (by omega) (pa_cons (pv 0) (pa_cons (pv 1) (pa_cons (pv 5) pa_nil)))))
    (pss_cons (ps_if (pt_cmpR op_isN (pv 6) pe_non (nomark _)) (pss_one (ps_ret (pe_lst (pa_cons pe_int (pa_cons pe_int pa_nil))))) pss_nil)
    (pss_one (ps_for PassesOwn.never rfl (pi_list (pv 6)) (pg_name (i := 7) sc_law_size.nd rfl (Or.inl rfl)) (pss_cons (ps_set (i := 8) sc_law_size.nd rfl (Or.inl rfl) (pe_cal ih hr (by omega) (pa_cons (pv 0) (pa_cons (pv 1) (pa_cons (pv 7) pa_nil)))))
    (pss_one (ps_par (i := 3) (j := 4) (by rfl) sc_law_size.nd rfl rfl (by decide) rfl rfl (pa_cons (pe_callB (call_max2 rfl) (by rfl) G.b_max (by decide +kernel) (pa_cons (pv 3) (pa_cons (pe_op op_add pe_int (pe_ix ix_list (pv 8) pe_int (fun _ _ => rfl))) pa_nil))) (pa_cons (pe_op op_add (pv 4) (pe_ix ix_list (pv 8) pe_int (fun _ _ => rfl))) pa_nil)) (by rfl)))))))))
    (pss_one (ps_ret (pe_lst (pa_cons (pv 3) (pa_cons (pv 4) pa_nil)))))))), ?_⟩
      refine ⟨_, rfl, by show 2 ≤ sizeLine; decide, fun p hp => ?_⟩
      generalize ep : upd H p _ = H1
      obtain ⟨s1, d1⟩ := nw ep hp
      refine ⟨_, p, _, _, _, _, rfl, d1, .cons (.ty "list") (.cons (.ty "tuple") .nil), (hd.same s1).tyx, kit_seq _, _, rfl, itt (by rw [hs]; rfl) ?_⟩
      refine ⟨by show 2 ≤ sizeLine; decide, fun l hl => ?_⟩
      generalize e2 : upd H1 l _ = H2
      obtain ⟨s2, d2⟩ := nw e2 hl
      refine q l 99 0 H2 (s1.trans s2) ?_ d2
      cases n with
      | zero => rfl
      | succ n =>
        show (match d.items with | none => ((99 : Nat), (0 : Nat)) | some ds => _) = (99, 0)
        rw [hi]
    cases hd with
    | @lst a xs ds ha hds =>
      cases n with
      | zero => exact absurd dep (by show ¬ (D.deps ds + 1 ≤ 0); omega)
      | succ n =>
      have eI := hI n rfl
      subst eI
      have dep' : D.deps ds ≤ n := by
        have : D.deps ds + 1 ≤ n + 1 := dep
        omega
      have el := hds.len
      refine ⟨_, (pss_cons (ps_if (PW.pt (pw_or (pt_not (pt_val (pe_callB call_isiT (by rfl) G.b_isinstance (by decide +kernel) (pa_cons (pv 2) (pa_cons (pe_tup (pa_cons (pe_bltn (v := .ty "list") (u := .type "list") (by rfl) G.b_list (by decide +kernel) rfl) (pa_cons (pe_bltn (v := .ty "tuple") (u := .type "tuple") (by rfl) G.b_tuple (by decide +kernel) rfl) pa_nil))) pa_nil))))) (pw_or1 (pt_cmpR op_gt (pe_callB call_len_seq (by rfl) G.b_len (by decide +kernel) (pa_cons (pv 2) pa_nil)) pe_int (nomark _))))) (pss_one (ps_ret (pe_lst (pa_cons pe_int (pa_cons pe_int pa_nil))))) pss_nil)
    (pss_cons (ps_par (i := 3) (j := 4) (by rfl) sc_law_size.nd rfl rfl (by decide) rfl rfl (pa_cons pe_int (pa_cons (pe_callB call_len_seq (by rfl) G.b_len (by decide +kernel) (pa_cons (pv 2) pa_nil)) pa_nil)) (by rfl))
    (pss_cons (ps_for PassesOwn.never rfl (pi_list (pv 2)) (pg_name (i := 5) sc_law_size.nd rfl (Or.inl rfl)) (pss_cons (ps_set (i := 6) sc_law_size.nd rfl (Or.inl rfl) (pe_cal cWn hr (by omega) (pa_cons (pv 0) (pa_cons (pv 1) (pa_cons (pv 5) pa_nil)))))
    (pss_cons (ps_if (pt_cmpR op_isN (pv 6) pe_non (nomark _)) (pss_one (ps_ret (pe_lst (pa_cons pe_int (pa_cons pe_int pa_nil))))) pss_nil)
    (pss_one (ps_for PassesOwn.never rfl (pi_list (pv 6)) (pg_name (i := 7) sc_law_size.nd rfl (Or.inl rfl)) (pss_cons (ps_set (i := 8) sc_law_size.nd rfl (Or.inl rfl) (pe_cal ih hr (by omega) (pa_cons (pv 0) (pa_cons (pv 1) (pa_cons (pv 7) pa_nil)))))
    (pss_one (ps_par (i := 3) (j := 4) (by rfl) sc_law_size.nd rfl rfl (by decide) rfl rfl (pa_cons (pe_callB (call_max2 rfl) (by rfl) G.b_max (by decide +kernel) (pa_cons (pv 3) (pa_cons (pe_op op_add pe_int (pe_ix ix_list (pv 8) pe_int (fun _ _ => rfl))) pa_nil))) (pa_cons (pe_op op_add (pv 4) (pe_ix ix_list (pv 8) pe_int (fun _ _ => rfl))) pa_nil)) (by rfl)))))))))
    (pss_one (ps_ret (pe_lst (pa_cons (pv 3) (pa_cons (pv 4) pa_nil)))))))), ?_⟩
      refine ⟨_, rfl, by show 2 ≤ sizeLine; decide, fun p hp => ?_⟩
      generalize ep : upd H p _ = H1
      obtain ⟨s1, d1⟩ := nw ep hp
      refine ⟨_, p, _, _, _, _, rfl, d1, .cons (.ty "list") (.cons (.ty "tuple") .nil), (Dd.lst (s1 _ _ ha) (hds.same s1)).tyx, kit_seq _, _, rfl, itf (show (!D.seq (.lst ds)) = false from rfl) ?_⟩
      have ha1 := s1 _ _ ha
      refine ⟨_, rfl, a, xs, rfl, .inl (SqL.of ha1), _, _, rfl, rfl, _, rfl, itd (fun h6 => ?_) fun h6 => ?_⟩
      · refine ⟨by show 2 ≤ sizeLine; decide, fun l hl => ?_⟩
        generalize e2 : upd H1 l _ = H2
        obtain ⟨s2, d2⟩ := nw e2 hl
        refine q l 99 0 H2 (s1.trans s2) ?_ d2
        show (if 6 < ds.length then ((99 : Nat), (0 : Nat)) else _) = (99, 0)
        rw [if_pos (by omega)]
      have h6' : ¬ 6 < ds.length := by omega
      have bad : innerD ks nm ds = none → sizeN ks nm (n + 1) (.lst ds) = (99, 0) := fun e => by
        show (if 6 < ds.length then ((99 : Nat), (0 : Nat)) else _) = (99, 0)
        rw [if_neg h6', e]
      have good : ∀ l, innerD ks nm ds = some l → sizeN ks nm (n + 1) (.lst ds) = ((l.map fun x => 1 + (sizeN ks nm n x).1).foldr max 1, ds.length + (l.map fun x => (sizeN ks nm n x).2).sum) := fun l e => by
        show (if 6 < ds.length then ((99 : Nat), (0 : Nat)) else _) = _
        rw [if_neg h6', e]
      refine ⟨_, rfl, a, xs, rfl, .inl (SqL.of ha1), _, _, rfl, _, rfl, a, rfl, ⟨xs, SqL.of ha1⟩, ?_⟩
      refine for_list (K := K) (a := a) (xs := xs) (fun i σ H' => ∃ (l : List D) (x5 x6 x7 x8 : Option V), σ = [some (.ref sA), some (.ref m), some (.ref a), some (.int (((l.map fun x => 1 + (sizeN ks nm n x).1).foldr max 1 : Nat) : Int)), some (.int ((ds.length + (l.map fun x => (sizeN ks nm n x).2).sum : Nat) : Int)), x5, x6, x7, x8] ∧ Same H H' ∧ innerD ks nm (ds.take i) = some l)
        ⟨[], none, none, none, none, by rw [el]; rfl, s1, rfl⟩ (fun i σ H' _ ⟨_, _, _, _, _, _, s', _⟩ => SqL.of (s' _ _ ha)) ?_ ?_
      · rintro i x σ H2 hx ⟨l, x5, x6, x7, x8, rfl, s2, hl⟩
        obtain ⟨d0, ed0, hd0⟩ := (hds.same s2).at hx
        have dp0 : d0.dep ≤ n := by
          have z := dep_mem (List.mem_of_getElem? ed0)
          omega
        refine ⟨_, rfl, _, rfl, x, rfl, sA, m, ks, nm, x, d0, rfl, J.same s2, hd0, by omega, fun H3 s3 => ⟨fun ew => ?_, fun r lw xw ew dw hw => ?_⟩⟩
        · refine ⟨_, rfl, rfl, _, rfl, itt rfl ?_⟩
          refine ⟨by show 2 ≤ sizeLine; decide, fun l2 hl2 => ?_⟩
          generalize e4 : upd H3 l2 _ = H4
          obtain ⟨s4, d4⟩ := nw e4 hl2
          exact q l2 99 0 H4 ((s2.trans s3).trans s4) (bad (inner_bad ew hl ed0)) d4
        · refine ⟨_, rfl, rfl, _, rfl, itf rfl ?_⟩
          refine ⟨_, rfl, lw, rfl, ⟨xw, SqL.of dw⟩, ?_⟩
          refine for_list (K := K) (a := lw) (xs := xw) (fun j σ H' => ∃ (x7 x8 : Option V), σ = [some (.ref sA), some (.ref m), some (.ref a), some (.int ((((l ++ r.take j).map fun x => 1 + (sizeN ks nm n x).1).foldr max 1 : Nat) : Int)), some (.int ((ds.length + ((l ++ r.take j).map fun x => (sizeN ks nm n x).2).sum : Nat) : Int)), some x, some (.ref lw), x7, x8] ∧ Same H3 H')
            ⟨x7, x8, by rw [List.take_zero, List.append_nil]; rfl, Same.refl _⟩ (fun j σ H' _ ⟨_, _, _, s'⟩ => SqL.of (s' _ _ dw)) ?_ ?_
          · rintro j y σ H4 hy ⟨x7, x8, rfl, s4⟩
            obtain ⟨e0, ee0, he0⟩ := (hw.same s4).at hy
            have de0 := within_dep ew (List.mem_of_getElem? ee0)
            refine ⟨_, rfl, _, rfl, y, rfl, sA, m, ks, nm, y, e0, rfl, (J.same s2).same (s3.trans s4), he0, by omega, fun l5 a5 b5 H5 s5 es5 d5 => ?_⟩
            refine ⟨_, rfl, _, rfl, l5, _, 0, _, rfl, rfl, SqL.of d5, rfl, _, _, rfl, rfl, _, _, rfl, _, rfl, _, rfl, l5, _, 1, _, rfl, rfl, SqL.of d5, rfl, _, _, rfl, rfl, ?_⟩
            have eA : ((l ++ r.take (j + 1)).map fun x => 1 + (sizeN ks nm n x).1).foldr max 1 = max (((l ++ r.take j).map fun x => 1 + (sizeN ks nm n x).1).foldr max 1) (1 + a5) := by
              rw [take_succ_of ee0, ← List.append_assoc, List.map_append, List.map_cons, List.map_nil, foldr_snoc, es5]
            have eB : ds.length + ((l ++ r.take (j + 1)).map fun x => (sizeN ks nm n x).2).sum = (ds.length + ((l ++ r.take j).map fun x => (sizeN ks nm n x).2).sum) + b5 := by
              rw [take_succ_of ee0, ← List.append_assoc, List.map_append, List.map_cons, List.map_nil, List.sum_append, es5]
              show _ + (_ + (b5 + 0)) = _
              omega
            refine ⟨_, _, rfl, some y, some (.ref l5), ?_, s4.trans s5⟩
            rw [eA, eB]
            generalize ((l ++ r.take j).map fun x => 1 + (sizeN ks nm n x).1).foldr max 1 = aa
            generalize ds.length + ((l ++ r.take j).map fun x => (sizeN ks nm n x).2).sum = bb
            have em : (if (1 + (a5 : Int)) > (aa : Int) then 1 + (a5 : Int) else (aa : Int)) = ((max aa (1 + a5) : Nat) : Int) := by
              by_cases y : (1 + (a5 : Int)) > (aa : Int)
              · rw [if_pos y]; omega
              · rw [if_neg y]; omega
            show [some (V.ref sA), some (V.ref m), some (V.ref a), some (V.int (if (1 + (a5 : Int)) > (aa : Int) then 1 + (a5 : Int) else (aa : Int))), some (V.int ((bb : Int) + (b5 : Int))), some x, some (V.ref lw), some y, some (V.ref l5)] = _
            rw [em]
            rfl
          · rintro σ H4 ⟨x7, x8, rfl, s4⟩
            have lr : r.take xw.length = r := by rw [hw.len]; exact List.take_length
            refine ⟨l ++ r, some x, some (.ref lw), x7, x8, by rw [lr], (s2.trans s3).trans s4, ?_⟩
            rw [take_succ_of ed0]
            exact inner_snoc ew hl
      · rintro σ H2 ⟨l, x5, x6, x7, x8, rfl, s2, hl⟩
        have lr : ds.take xs.length = ds := by rw [el]; exact List.take_length
        rw [lr] at hl
        refine ⟨_, rfl, _, rfl, by show 2 ≤ sizeLine; decide, fun l2 hl2 => ?_⟩
        generalize e4 : upd H2 l2 _ = H4
        obtain ⟨s4, d4⟩ := nw e4 hl2
        exact q l2 _ _ H4 (s2.trans s4) (good l hl) d4
    | @tup a xs ds ha hds =>
      cases n with
      | zero => exact absurd dep (by show ¬ (D.deps ds + 1 ≤ 0); omega)
      | succ n =>
      have eI := hI n rfl
      subst eI
      have dep' : D.deps ds ≤ n := by
        have : D.deps ds + 1 ≤ n + 1 := dep
        omega
      have el := hds.len
      refine ⟨_, (pss_cons (ps_if (PW.pt (pw_or (pt_not (pt_val (pe_callB call_isiT (by rfl) G.b_isinstance (by decide +kernel) (pa_cons (pv 2) (pa_cons (pe_tup (pa_cons (pe_bltn (v := .ty "list") (u := .type "list") (by rfl) G.b_list (by decide +kernel) rfl) (pa_cons (pe_bltn (v := .ty "tuple") (u := .type "tuple") (by rfl) G.b_tuple (by decide +kernel) rfl) pa_nil))) pa_nil))))) (pw_or1 (pt_cmpR op_gt (pe_callB call_len_seq (by rfl) G.b_len (by decide +kernel) (pa_cons (pv 2) pa_nil)) pe_int (nomark _))))) (pss_one (ps_ret (pe_lst (pa_cons pe_int (pa_cons pe_int pa_nil))))) pss_nil)
    (pss_cons (ps_par (i := 3) (j := 4) (by rfl) sc_law_size.nd rfl rfl (by decide) rfl rfl (pa_cons pe_int (pa_cons (pe_callB call_len_seq (by rfl) G.b_len (by decide +kernel) (pa_cons (pv 2) pa_nil)) pa_nil)) (by rfl))
    (pss_cons (ps_for PassesOwn.never rfl (pi_tup (pv 2)) (pg_name (i := 5) sc_law_size.nd rfl (Or.inl rfl)) (pss_cons (ps_set (i := 6) sc_law_size.nd rfl (Or.inl rfl) (pe_cal cWn hr (by omega) (pa_cons (pv 0) (pa_cons (pv 1) (pa_cons (pv 5) pa_nil)))))
    (pss_cons (ps_if (pt_cmpR op_isN (pv 6) pe_non (nomark _)) (pss_one (ps_ret (pe_lst (pa_cons pe_int (pa_cons pe_int pa_nil))))) pss_nil)
    (pss_one (ps_for PassesOwn.never rfl (pi_list (pv 6)) (pg_name (i := 7) sc_law_size.nd rfl (Or.inl rfl)) (pss_cons (ps_set (i := 8) sc_law_size.nd rfl (Or.inl rfl) (pe_cal ih hr (by omega) (pa_cons (pv 0) (pa_cons (pv 1) (pa_cons (pv 7) pa_nil)))))
    (pss_one (ps_par (i := 3) (j := 4) (by rfl) sc_law_size.nd rfl rfl (by decide) rfl rfl (pa_cons (pe_callB (call_max2 rfl) (by rfl) G.b_max (by decide +kernel) (pa_cons (pv 3) (pa_cons (pe_op op_add pe_int (pe_ix ix_list (pv 8) pe_int (fun _ _ => rfl))) pa_nil))) (pa_cons (pe_op op_add (pv 4) (pe_ix ix_list (pv 8) pe_int (fun _ _ => rfl))) pa_nil)) (by rfl)))))))))
    (pss_one (ps_ret (pe_lst (pa_cons (pv 3) (pa_cons (pv 4) pa_nil)))))))), ?_⟩
      refine ⟨_, rfl, by show 2 ≤ sizeLine; decide, fun p hp => ?_⟩
      generalize ep : upd H p _ = H1
      obtain ⟨s1, d1⟩ := nw ep hp
      refine ⟨_, p, _, _, _, _, rfl, d1, .cons (.ty "list") (.cons (.ty "tuple") .nil), (Dd.tup (s1 _ _ ha) (hds.same s1)).tyx, kit_seq _, _, rfl, itf (show (!D.seq (.tup ds)) = false from rfl) ?_⟩
      have ha1 := s1 _ _ ha
      refine ⟨_, rfl, a, xs, rfl, .inr (SqT.of ha1), _, _, rfl, rfl, _, rfl, itd (fun h6 => ?_) fun h6 => ?_⟩
      · refine ⟨by show 2 ≤ sizeLine; decide, fun l hl => ?_⟩
        generalize e2 : upd H1 l _ = H2
        obtain ⟨s2, d2⟩ := nw e2 hl
        refine q l 99 0 H2 (s1.trans s2) ?_ d2
        show (if 6 < ds.length then ((99 : Nat), (0 : Nat)) else _) = (99, 0)
        rw [if_pos (by omega)]
      have h6' : ¬ 6 < ds.length := by omega
      have bad : innerD ks nm ds = none → sizeN ks nm (n + 1) (.tup ds) = (99, 0) := fun e => by
        show (if 6 < ds.length then ((99 : Nat), (0 : Nat)) else _) = (99, 0)
        rw [if_neg h6', e]
      have good : ∀ l, innerD ks nm ds = some l → sizeN ks nm (n + 1) (.tup ds) = ((l.map fun x => 1 + (sizeN ks nm n x).1).foldr max 1, ds.length + (l.map fun x => (sizeN ks nm n x).2).sum) := fun l e => by
        show (if 6 < ds.length then ((99 : Nat), (0 : Nat)) else _) = _
        rw [if_neg h6', e]
      refine ⟨_, rfl, a, xs, rfl, .inr (SqT.of ha1), _, _, rfl, _, rfl, a, rfl, ⟨xs, SqT.of ha1⟩, ?_⟩
      refine for_tup (K := K) (a := a) (xs := xs) (fun i σ H' => ∃ (l : List D) (x5 x6 x7 x8 : Option V), σ = [some (.ref sA), some (.ref m), some (.ref a), some (.int (((l.map fun x => 1 + (sizeN ks nm n x).1).foldr max 1 : Nat) : Int)), some (.int ((ds.length + (l.map fun x => (sizeN ks nm n x).2).sum : Nat) : Int)), x5, x6, x7, x8] ∧ Same H H' ∧ innerD ks nm (ds.take i) = some l)
        ⟨[], none, none, none, none, by rw [el]; rfl, s1, rfl⟩ (fun i σ H' _ ⟨_, _, _, _, _, _, s', _⟩ => SqT.of (s' _ _ ha)) ?_ ?_
      · rintro i x σ H2 hx ⟨l, x5, x6, x7, x8, rfl, s2, hl⟩
        obtain ⟨d0, ed0, hd0⟩ := (hds.same s2).at hx
        have dp0 : d0.dep ≤ n := by
          have z := dep_mem (List.mem_of_getElem? ed0)
          omega
        refine ⟨_, rfl, _, rfl, x, rfl, sA, m, ks, nm, x, d0, rfl, J.same s2, hd0, by omega, fun H3 s3 => ⟨fun ew => ?_, fun r lw xw ew dw hw => ?_⟩⟩
        · refine ⟨_, rfl, rfl, _, rfl, itt rfl ?_⟩
          refine ⟨by show 2 ≤ sizeLine; decide, fun l2 hl2 => ?_⟩
          generalize e4 : upd H3 l2 _ = H4
          obtain ⟨s4, d4⟩ := nw e4 hl2
          exact q l2 99 0 H4 ((s2.trans s3).trans s4) (bad (inner_bad ew hl ed0)) d4
        · refine ⟨_, rfl, rfl, _, rfl, itf rfl ?_⟩
          refine ⟨_, rfl, lw, rfl, ⟨xw, SqL.of dw⟩, ?_⟩
          refine for_list (K := K) (a := lw) (xs := xw) (fun j σ H' => ∃ (x7 x8 : Option V), σ = [some (.ref sA), some (.ref m), some (.ref a), some (.int ((((l ++ r.take j).map fun x => 1 + (sizeN ks nm n x).1).foldr max 1 : Nat) : Int)), some (.int ((ds.length + ((l ++ r.take j).map fun x => (sizeN ks nm n x).2).sum : Nat) : Int)), some x, some (.ref lw), x7, x8] ∧ Same H3 H')
            ⟨x7, x8, by rw [List.take_zero, List.append_nil]; rfl, Same.refl _⟩ (fun j σ H' _ ⟨_, _, _, s'⟩ => SqL.of (s' _ _ dw)) ?_ ?_
          · rintro j y σ H4 hy ⟨x7, x8, rfl, s4⟩
            obtain ⟨e0, ee0, he0⟩ := (hw.same s4).at hy
            have de0 := within_dep ew (List.mem_of_getElem? ee0)
            refine ⟨_, rfl, _, rfl, y, rfl, sA, m, ks, nm, y, e0, rfl, (J.same s2).same (s3.trans s4), he0, by omega, fun l5 a5 b5 H5 s5 es5 d5 => ?_⟩
            refine ⟨_, rfl, _, rfl, l5, _, 0, _, rfl, rfl, SqL.of d5, rfl, _, _, rfl, rfl, _, _, rfl, _, rfl, _, rfl, l5, _, 1, _, rfl, rfl, SqL.of d5, rfl, _, _, rfl, rfl, ?_⟩
            have eA : ((l ++ r.take (j + 1)).map fun x => 1 + (sizeN ks nm n x).1).foldr max 1 = max (((l ++ r.take j).map fun x => 1 + (sizeN ks nm n x).1).foldr max 1) (1 + a5) := by
              rw [take_succ_of ee0, ← List.append_assoc, List.map_append, List.map_cons, List.map_nil, foldr_snoc, es5]
            have eB : ds.length + ((l ++ r.take (j + 1)).map fun x => (sizeN ks nm n x).2).sum = (ds.length + ((l ++ r.take j).map fun x => (sizeN ks nm n x).2).sum) + b5 := by
              rw [take_succ_of ee0, ← List.append_assoc, List.map_append, List.map_cons, List.map_nil, List.sum_append, es5]
              show _ + (_ + (b5 + 0)) = _
              omega
            refine ⟨_, _, rfl, some y, some (.ref l5), ?_, s4.trans s5⟩
            rw [eA, eB]
            generalize ((l ++ r.take j).map fun x => 1 + (sizeN ks nm n x).1).foldr max 1 = aa
            generalize ds.length + ((l ++ r.take j).map fun x => (sizeN ks nm n x).2).sum = bb
            have em : (if (1 + (a5 : Int)) > (aa : Int) then 1 + (a5 : Int) else (aa : Int)) = ((max aa (1 + a5) : Nat) : Int) := by
              by_cases y : (1 + (a5 : Int)) > (aa : Int)
              · rw [if_pos y]; omega
              · rw [if_neg y]; omega
            show [some (V.ref sA), some (V.ref m), some (V.ref a), some (V.int (if (1 + (a5 : Int)) > (aa : Int) then 1 + (a5 : Int) else (aa : Int))), some (V.int ((bb : Int) + (b5 : Int))), some x, some (V.ref lw), some y, some (V.ref l5)] = _
            rw [em]
            rfl
          · rintro σ H4 ⟨x7, x8, rfl, s4⟩
            have lr : r.take xw.length = r := by rw [hw.len]; exact List.take_length
            refine ⟨l ++ r, some x, some (.ref lw), x7, x8, by rw [lr], (s2.trans s3).trans s4, ?_⟩
            rw [take_succ_of ed0]
            exact inner_snoc ew hl
      · rintro σ H2 ⟨l, x5, x6, x7, x8, rfl, s2, hl⟩
        have lr : ds.take xs.length = ds := by rw [el]; exact List.take_length
        rw [lr] at hl
        refine ⟨_, rfl, _, rfl, by show 2 ≤ sizeLine; decide, fun l2 hl2 => ?_⟩
        generalize e4 : upd H2 l2 _ = H4
        obtain ⟨s4, d4⟩ := nw e4 hl2
        exact q l2 _ _ H4 (s2.trans s4) (good l hl) d4
    | _ => exact other rfl rfl
  intro n
  induction n with
  | zero => exact fun h => body 0 35 (fun _ _ _ _ => False) h (by decide) (fun n' h => by cases h) ((callee (k := 34) DA sc_law_size (fun _ _ _ _ h => h.elim) (fun _ _ _ _ _ _ us hl => match us, hl with | [_, _, _], _ => rfl) fun _ _ _ _ _ _ _ _ _ _ h => h.elim))
  | succ n ih => exact fun h => body (n + 1) (36 + n) (spSz n) h (by omega) (fun n' h => by cases h; rfl) (ih (by omega))
end
end NH
set_option maxHeartbeats 4000000
namespace NH
open PySem PySem.Spec PyProof.Rows L2 TL
section
variable {P : Program} {w : World} {K : PySem.W.Frag} {mg : Str → Option Value} {base : Heap}
abbrev s_law_steps_due : Stmt := top 59
theorem sc_law_steps_due : FnScope ["sides", "names", "value", "size"] ["sides", "names", "value"] (defScope s_law_steps_due) := ⟨rfl, rfl, rfl, by decide +kernel, rfl, by decide +kernel, by decide +kernel⟩
def spSd : Sp := fun vs H Q _ => ∃ (s m : Addr) (ks : List Kind) (nm : List Str) (v : V) (d : D), vs = [.ref s, .ref m, v] ∧ Jd s m ks nm H ∧ Dd H v d ∧ d.dep ≤ 31 ∧ ∀ H', Same H H' → Q (.bl (stepsYes ks nm d)) H'
theorem ok_law_steps_due (DA : DefAt K mg "_law_steps_due" s_law_steps_due) (cSz : Callee P w K mg base 67 "_law_size" ["sides", "names", "value"] (spSz 31)) : Callee P w K mg base 68 "_law_steps_due" ["sides", "names", "value"] spSd := by
  refine callee DA sc_law_steps_due (fun vs H Q E h => by obtain ⟨_, _, _, _, _, _, rfl, _⟩ := h; rfl) (fun _ _ _ _ _ _ us hl => match us, hl with | [_, _, _], _ => rfl) fun f cdv A outer s H vs Q E hr h => ?_
  obtain ⟨sA, m, ks, nm, v, d, rfl, J, hd, dep, q⟩ := h
  refine ⟨_, (pss_cons (ps_set (i := 3) sc_law_steps_due.nd rfl (Or.inl rfl) (pe_cal cSz hr (by omega) (pa_cons (pv 0) (pa_cons (pv 1) (pa_cons (pv 2) pa_nil)))))
    (pss_one (ps_ret (pe_and (pe_cmpR op_le (pe_ix ix_list (pv 3) pe_int (fun _ _ => rfl)) pe_int (nomark _)) (pe_one (pe_cmpR op_le (pe_ix ix_list (pv 3) pe_int (fun _ _ => rfl)) pe_int (nomark _))))))), ?_⟩
  refine ⟨_, rfl, _, rfl, _, rfl, sA, m, ks, nm, v, d, rfl, J, hd, dep, fun l a b H1 s1 es dl => ?_⟩
  have y := q H1 s1
  rw [steps_due ks nm 31 d dep, es] at y
  have y : Q (.bl (decide (a ≤ 3) && decide (b ≤ 24))) H1 := y
  refine ⟨_, rfl, l, _, 0, _, rfl, rfl, SqL.of dl, rfl, _, _, rfl, rfl, _, rfl, itd (fun h1 => ?_) fun h1 => ?_⟩
  · refine ⟨_, rfl, l, _, 1, _, rfl, rfl, SqL.of dl, rfl, _, _, rfl, rfl, ?_⟩
    show Q (.bl (decide ((b : Int) ≤ 24))) H1
    rw [decide_eq_true (by omega), Bool.true_and] at y
    by_cases h2 : b ≤ 24
    · rw [decide_eq_true h2] at y
      rw [decide_eq_true (by omega)]; exact y
    · rw [decide_eq_false h2] at y
      rw [decide_eq_false (by omega)]; exact y
  · rw [decide_eq_false (by omega)] at y
    exact y
abbrev s_law_yes : Stmt := top 60
theorem sc_law_yes : FnScope ["answer", "due"] ["answer", "due"] (defScope s_law_yes) := ⟨rfl, rfl, rfl, by decide +kernel, rfl, by decide +kernel, by decide +kernel⟩
def spYes : Sp := fun vs H Q _ => ∃ (a b : Bool), vs = [.bl a, .bl b] ∧ Q (.bl (a == b)) H
theorem ok_law_yes (DA : DefAt K mg "_law_yes" s_law_yes) : Callee P w K mg base 1 "_law_yes" ["answer", "due"] spYes := by
  refine callee DA sc_law_yes (fun vs H Q E h => by obtain ⟨_, _, rfl, _⟩ := h; rfl) (fun _ _ _ _ _ _ us hl => match us, hl with | [_, _], _ => rfl) fun f cdv A outer s H vs Q E hr h => ?_
  obtain ⟨a, b, rfl, q⟩ := h
  refine ⟨_, (pss_one (ps_ret (pe_ifExp (pt_val (pv 1)) (pe_cmpR op_is_bl (pv 0) pe_bl (nomark _)) (pe_cmpR op_is_bl (pv 0) pe_bl (nomark _))))), ?_⟩
  cases b with
  | true => refine ⟨_, rfl, _, rfl, iteT ⟨_, rfl, _, _, rfl, rfl, ?_⟩⟩; cases a <;> exact q
  | false => refine ⟨_, rfl, _, rfl, iteF ⟨_, rfl, _, _, rfl, rfl, ?_⟩⟩; cases a <;> exact q
end
end NH
set_option maxHeartbeats 4000000
namespace NH
open PySem PySem.Spec PyProof.Rows L2 TL
/-- a def that keeps a promise, called by names alone, in the parameters' order -/
structure CalleeK (P : Program) (w : World) (K : PySem.W.Frag) (mg : Str → Option Value) (base : Heap) (k : Nat) (x : Str) (ps : List Str) (sp : Sp) : Prop where
  ex : ∃ f fd, mg x = some (.ref f) ∧ PySem.W.keepIn K (.ref f) = true ∧ (∀ (s : Shared) (us : List Value), us.length = ps.length → BindsTo s fd ⟨[], ps.zip us⟩ (ps.zip us)) ∧ FnOk P w K mg base CX0 k f fd ps sp
section
variable {P : Program} {w : World} {K : PySem.W.Frag} {mg : Str → Option Value} {base : Heap} {X : Cx}
theorem calleeK {x : Str} {st : Stmt} {N ps : List Str} {k : Nat} {sp : Sp} (D : DefAt K mg x st) (S : FnScope N ps (defScope st)) (len : ∀ vs H Q E, sp vs H Q E → vs.length = ps.length)
    (hb : ∀ (kV doc pm : Value) (an : Option Addr) (cdv ct : Value) (us : List Value), us.length = ps.length → bindArgs (PySem.W.fnOf x x (defArgs st) (defBody st) (defScope st) .none kV doc pm an cdv ct) ⟨[], ps.zip us⟩ = pure (ps.zip us))
    (hbody : ∀ (f : Addr) (cdv : Value) (A : Around) (outer : List Env) (s : Shared) (H : Hp) (vs : List V) (Q : VK) (E : XK), Room k (A.deeper (envOfC x (defScope st) s.heap.objs.size f cdv)) → sp vs H Q E →
      ∃ t, PSs (cxOf CX0 P w K mg base N x (defScope st) f cdv A outer s H E).nox (defBody st) t ∧ t { nx := fun _ H' => Q .non H', rt := Q } (start N vs) H) : CalleeK P w K mg base (k + 1) x ps sp := by
  obtain ⟨fd, F⟩ := D.f
  refine ⟨_, fd, D.g, F.kp, fun s us hl => ?_, F.ok S len fun cdv A outer s H vs Q E hr h => let ⟨t, h1, h2⟩ := hbody _ cdv A outer s H vs Q E hr h; ⟨t, h1.nox, h2⟩⟩
  obtain ⟨_, _, dV, kV, doc, pm, an, cdv, ct, _, rfl, _, _, hD, _⟩ := F.ex
  rcases hD with ⟨_, rfl⟩ | ⟨e, _⟩
  · exact .of_eq (hb kV doc pm an cdv ct us hl)
  · exact absurd rfl e
def tCalK (sp : Sp) (tk : TA) : TE := fun σ H Q => tk σ H fun zs H2 => sp zs H2 Q E0
theorem pe_calK {k j : Nat} {x : Str} {ps : List Str} {sp : Sp} {kws : List Keyword} {p pos : Pos} {tk : TA} (c : CalleeK X.prog X.w X.K X.mg X.base k x ps sp) (hr : Room j X.A) (hj : k ≤ j) (hkw : PK X kws tk) (hg : Gl X x := by rfl)
    (hdb : (x == ("__debug__" : Str)) = false := by decide) (hall : (backToKw pos (keywordEach kws X.env)).all (·.1.isSome) = true := by rfl) (hks : (backToKw pos (keywordEach kws X.env)).filterMap (·.1) = ps := by rfl)
    (hpl : ((backTo pos (starEach [] X.env)).any (·.1) || (backToKw pos (keywordEach kws X.env)).any (·.1.isNone)) = false := by rfl) : PE X (.Call (.Name x p) [] kws pos) (tCalK sp tk) := by
  obtain ⟨f, fd, hm, hk, hb, F⟩ := c.ex
  refine ⟨fun pins s σ H Q I h => wpAny_Call_Name_kw (ld_glob I hg hm ?_ hdb)⟩
  refine PySem.W.callWith_KW0 (h₀ := X.base) I.ok.mod.kin hk hall (thn (hkw.run pos pins s σ H _ I h) fun ws s2 ⟨zs, H2, J, rz, want⟩ => ⟨J.kIn, ?_⟩) hpl
  have want : sp zs H2 Q E0 := want
  rw [hks]
  have hl : ws.length = ps.length := by rw [← rz.length]; exact F.len _ _ _ _ want
  refine wpAny_call (codeAny_mono (F.run X.A X.stack s2 H2 ⟨[], ps.zip ws⟩ ws zs Q E0 (hr.mono hj) J.env0 (hb s2 ws hl) rz want) fun r s' z => ?_)
  match r, z with
  | .ok (.ret _), z => exact J.after z
variable {C : Addr}
theorem ok_is_conditionK (G4 : NumT mg "DEEPEST_CONDITION" 4) (DA : DefAt K mg "is_condition" s_is_condition) (cUc : Callee P w K mg base 10 "_is_condition" ["ports", "numbers", "value", "deepest"] (spCond C 4)) : CalleeK P w K mg base 11 "is_condition" ["ports", "numbers", "value"] (spIc C) := by
  refine calleeK DA sc_is_condition (fun vs H Q E h => by obtain ⟨p, ks, u, nm, v, d, rfl, _⟩ := h; rfl) (fun _ _ _ _ _ _ us hl => match us, hl with | [_, _, _], _ => rfl) fun f cdv A outer s H vs Q E hr h => ?_
  obtain ⟨p, ks, u, nm, v, d, rfl, hP, hN, hd, q⟩ := h
  obtain ⟨t4, g4⟩ := G4
  refine ⟨_, (pss_one (ps_ret (pe_cal cUc hr (by decide) (pa_cons (pv 0) (pa_cons (pv 1) (pa_cons (pv 2) (pa_cons (pe_glob (v := .int 4) (by rfl) g4 ⟨_, rfl⟩) pa_nil))))))), ?_⟩
  exact ⟨_, rfl, _, rfl, v, rfl, p, ks, u, nm, v, d, rfl, hP, hN, hd, q⟩
theorem ok_is_stepsK (k : Nat) (hk : 10 ≤ k) (G3 : NumT mg "DEEPEST_STEPS" 3) (G24 : NumT mg "MOST_ITEMS" 24) (DA : DefAt K mg "is_steps" s_is_steps) (cUs : Callee P w K mg base k "_are_steps" ["ports", "numbers", "value", "deepest"] (spUs C 3)) (cCi : Callee P w K mg base 10 "_count_items" ["steps"] (spCi 3)) : CalleeK P w K mg base (k + 1) "is_steps" ["ports", "numbers", "value"] (spIs C) := by
  refine calleeK DA sc_is_steps (fun vs H Q E h => by obtain ⟨p, ks, u, nm, v, d, rfl, _⟩ := h; rfl) (fun _ _ _ _ _ _ us hl => match us, hl with | [_, _, _], _ => rfl) fun f cdv A outer s H vs Q E hr h => ?_
  obtain ⟨p, ks, u, nm, v, d, rfl, hP, hN, hd, q⟩ := h
  obtain ⟨t3, g3⟩ := G3
  obtain ⟨t24, g24⟩ := G24
  refine ⟨_, (pss_one (ps_ret (pe_and (pe_cal cUs hr (by omega) (pa_cons (pv 0) (pa_cons (pv 1) (pa_cons (pv 2) (pa_cons (pe_glob (v := .int 3) (by rfl) g3 ⟨_, rfl⟩) pa_nil))))) (pe_one (pe_cmpR op_le (pe_cal cCi hr (by omega) (pa_cons (pv 2) pa_nil)) (pe_glob (v := .int 24) (by rfl) g24 ⟨_, rfl⟩) (nomark _)))))), ?_⟩
  have yes : ∀ b, stepsYes ks nm d = b → ∀ H', Same H H' → Q (.bl b) H' := fun b e H' s1 => by have z := q H' s1; rw [e] at z; exact z
  refine ⟨_, rfl, _, rfl, v, rfl, p, ks, u, nm, v, d, rfl, hP, hN, hd, fun H1 s1 => ⟨_, rfl, itb (fun e1 => ?_) fun e1 => ?_⟩⟩
  · refine ⟨v, rfl, ks, nm, v, d, rfl, hd.same s1, e1, fun H2 s2 => ⟨_, _, rfl, rfl, ?_⟩⟩
    refine yes _ ?_ H2 (s1.trans s2)
    show (_ && _) = _
    rw [e1, Bool.true_and]
    by_cases h : cnt 3 d ≤ 24
    · rw [decide_eq_true h, decide_eq_true (by omega)]
    · rw [decide_eq_false h, decide_eq_false (by omega)]
  · refine yes _ ?_ H1 s1
    show (_ && _) = _
    rw [e1, Bool.false_and]
end
end NH
set_option maxHeartbeats 4000000
namespace NH
open PySem PySem.Spec PyProof.Rows L2 TL
theorem eqv_strs (l : List Str) : PyData.eqv (.list (l.map PyData.str)) (.list (l.map PyData.str)) = true := by
  show PyData.eqvAll (l.map PyData.str) (l.map PyData.str) = true
  induction l with
  | nil => rfl
  | cons x l ih => show ((x == x) && PyData.eqvAll (l.map PyData.str) (l.map PyData.str)) = true; rw [ih]; simp
section
variable {P : Program} {w : World} {K : PySem.W.Frag} {mg : Str → Option Value} {base : Heap} {C : Addr}
abbrev s_law_told_right : Stmt := top 61
theorem sc_law_told_right : FnScope ["ports", "sides", "names", "value", "by_name", "due", "before", "given", "told", "k"] ["ports", "sides", "names", "value", "by_name"] (defScope s_law_told_right) := ⟨rfl, rfl, rfl, by decide +kernel, rfl, by decide +kernel, by decide +kernel⟩
def spTr (C : Addr) : Sp := fun vs H Q _ => ∃ (p s m : Addr) (ks : List Kind) (nm : List Str) (v : V) (d : D) (bn : Bool), vs = [.ref p, .ref s, .ref m, v, .bl bn] ∧ PortsAt C H p ks ∧ Jd s m ks nm H ∧ (∀ y ∈ nm, Pl 10 y) ∧ Dd H v d ∧ d.fit ∧ d.sz ≤ 1000000 ∧ d.dep ≤ 31 ∧ ∀ H', Same H H' → Q (.bl true) H'
theorem ok_law_told_right (G : Bl mg) (hrp : mg "repr" = none) (sm : ∃ o, base.get? sysModules = some o) (DA : DefAt K mg "_law_told_right" s_law_told_right) (cCd : Callee P w K mg base 34 "_law_condition_due" ["sides", "names", "value"] spCd) (cSd : Callee P w K mg base 68 "_law_steps_due" ["sides", "names", "value"] spSd)
    (cIc : Callee P w K mg base 11 "is_condition" ["ports", "numbers", "value"] (spIc C)) (cIs : Callee P w K mg base 19 "is_steps" ["ports", "numbers", "value"] (spIs C)) (kIc : CalleeK P w K mg base 11 "is_condition" ["ports", "numbers", "value"] (spIc C)) (kIs : CalleeK P w K mg base 19 "is_steps" ["ports", "numbers", "value"] (spIs C))
    (cYe : Callee P w K mg base 1 "_law_yes" ["answer", "due"] spYes) : CalleeG P w K mg base 69 "_law_told_right" ["ports", "sides", "names", "value", "by_name"] (spTr C) := by
  refine calleeG DA sc_law_told_right (fun vs H Q E h => by obtain ⟨_, _, _, _, _, _, _, _, rfl, _⟩ := h; rfl) (fun _ _ _ _ _ _ us hl => match us, hl with | [_, _, _, _, _], _ => rfl) fun f cdv A outer s H vs Q E hgu hr h => ?_
  obtain ⟨p, sA, m, ks, nm, v, d, bn, rfl, hP, J, np, hd, fit, sz, dep, q⟩ := h
  have hgA : (cxOf CX0 P w K mg base ["ports", "sides", "names", "value", "by_name", "due", "before", "given", "told", "k"] "_law_told_right" (defScope s_law_told_right) f cdv A outer s H E).nox.A.guards = some [] := hgu
  refine ⟨_, (pss_cons (ps_set (i := 5) sc_law_told_right.nd rfl (Or.inr rfl) (pe_lst (pa_cons (pe_cal cCd hr (by omega) (pa_cons (pv 1) (pa_cons (pv 2) (pa_cons (pv 3) pa_nil)))) (pa_cons (pe_cal cSd hr (by omega) (pa_cons (pv 1) (pa_cons (pv 2) (pa_cons (pv 3) pa_nil)))) pa_nil))))
    (pss_cons (ps_par (i := 6) (j := 7) (by rfl) sc_law_told_right.nd rfl rfl (by decide) rfl rfl (pa_cons (pe_callB (call_repr hgA hr.units sm) (by rfl) hrp (by decide +kernel) (pa_cons (pv 3) pa_nil)) (pa_cons (pe_ifExp (pt_val (pv 4)) (pe_callTy call_tuple_of (by rfl) G.b_tuple (by decide +kernel) (pa_cons (pv 2) pa_nil)) (pe_callTy call_list_of (by rfl) G.b_list (by decide +kernel) (pa_cons (pv 2) pa_nil))) pa_nil)) (by rfl))
    (pss_cons (ps_if (pt_val (pv 4)) (pss_one (ps_set (i := 8) sc_law_told_right.nd rfl (Or.inr rfl) (pe_lst (pa_cons (pe_calK kIc hr (by omega) (pk_cons (pv 0) (pk_cons (pv 7) (pk_cons (pv 3) pk_nil)))) (pa_cons (pe_calK kIs hr (by omega) (pk_cons (pv 0) (pk_cons (pv 7) (pk_cons (pv 3) pk_nil)))) pa_nil))))) (pss_one (ps_set (i := 8) sc_law_told_right.nd rfl (Or.inr rfl) (pe_lst (pa_cons (pe_cal cIc hr (by omega) (pa_cons (pv 0) (pa_cons (pv 7) (pa_cons (pv 3) pa_nil)))) (pa_cons (pe_cal cIs hr (by omega) (pa_cons (pv 0) (pa_cons (pv 7) (pa_cons (pv 3) pa_nil)))) pa_nil))))))
    (pss_cons (ps_if (PW.pt (pw_or (pt_cmpR op_ne (pe_callB (call_repr hgA hr.units sm) (by rfl) hrp (by decide +kernel) (pa_cons (pv 3) pa_nil)) (pv 6) (nomark _)) (pw_or1 (pt_cmpR (op_neD hr.units) (pe_callTy call_list_of (by rfl) G.b_list (by decide +kernel) (pa_cons (pv 7) pa_nil)) (pv 2) (nomark _))))) (pss_one (ps_ret pe_bl)) pss_nil)
    (pss_one (ps_ret (pe_cmpR (op_eqD hr.units) (pe_lc (own := [("k", 9)]) (g := gName 9) rfl sc_law_told_right.nd (pi_range1 (by rfl) G.b_range (pa_cons pe_int pa_nil)) (blkOk_by (N := ["ports", "sides", "names", "value", "by_name", "due", "before", "given", "told", "k"]) (sc := defScope s_law_told_right) (by decide +kernel)) (fun _ _ _ _ _ => (pg_name (i := 9) sc_law_told_right.nd rfl (Or.inl rfl))) (fun _ _ _ _ _ => (pts_one (pt_not (pt_val (pe_cal cYe hr (by omega) (pa_cons (pe_ix (show IxR _ (rIxL K) from ix_list) (pv 8) (pv 9) (fun _ _ => rfl)) (pa_cons (pe_ix (show IxR _ (rIxL K) from ix_list) (pv 5) (pv 9) (fun _ _ => rfl)) pa_nil))))))) (fun _ _ _ _ _ => (pv 9))) (pe_lst pa_nil) (nomark _)))))))), ?_⟩
  refine ⟨_, rfl, _, rfl, v, rfl, sA, m, ks, nm, v, d, rfl, J, hd, dep, fun H1 s1 => ?_⟩
  refine ⟨_, rfl, _, rfl, v, rfl, sA, m, ks, nm, v, d, rfl, J.same s1, hd.same s1, dep, fun H2 s2 => ⟨by show 2 ≤ sizeLine; decide, fun p5 hp5 => ?_⟩⟩
  generalize e3 : upd H2 p5 _ = H3
  obtain ⟨s3, d5⟩ := nw e3 hp5
  have s03 := (s1.trans s2).trans s3
  refine ⟨v, rfl, v, d, rfl, hd.same s03, fit, sz, by omega, ?_⟩
  cases bn with
  | true =>
    refine ⟨_, rfl, _, rfl, iteT ⟨_, rfl, m, _, rfl, .inl ⟨SqL.of (J.same s03).mh, fun pg hpg => ?_⟩⟩⟩
    generalize e4 : upd H3 pg _ = H4
    obtain ⟨s4, dg⟩ := nw e4 hpg
    have s04 := s03.trans s4
    have nA : NamesAt H4 (.ref pg) nm := ⟨pg, rfl, .inr dg⟩
    refine ⟨_, _, rfl, _, rfl, _, rfl, iteT ?_⟩
    refine ⟨_, rfl, _, rfl, _, rfl, p, ks, .ref pg, nm, v, d, rfl, hP.same s04, nA, hd.same s04, fun H5 s5 => ?_⟩
    have s05 := s04.trans s5
    refine ⟨_, rfl, _, rfl, _, rfl, p, ks, .ref pg, nm, v, d, rfl, hP.same s05, nA.same s5, hd.same s05, fun H6 s6 => ⟨by show 2 ≤ sizeLine; decide, fun p8 hp8 => ?_⟩⟩
    generalize e7 : upd H6 p8 _ = H7
    obtain ⟨s7, d8⟩ := nw e7 hp8
    have s47 := (s5.trans s6).trans s7
    have s07 := s04.trans s47
    refine ⟨_, rfl, v, d, rfl, hd.same s07, fit, sz, by omega, _, rfl, rfl, _, rfl, itf (by rw [decide_eq_true rfl]; rfl) ?_⟩
    refine ⟨_, rfl, pg, _, rfl, .inr (SqT.of (s47 _ _ dg)), fun pl hpl => ?_⟩
    generalize e9 : upd H7 pl _ = H9
    obtain ⟨s9, d9⟩ := nw e9 hpl
    have s09 := s07.trans s9
    refine ⟨_, rfl, .list (nm.map PyData.str), .list (nm.map PyData.str), dp_names d9, dp_names (J.same s09).mh, names_shaped np, names_shaped np, _, rfl, ?_⟩
    rw [eqv_strs]
    refine itf rfl ?_
    have d59 := s9 _ _ (s47 _ _ (s4 _ _ d5))
    have d89 := s9 _ _ d8
    refine ⟨2, rfl, by decide, by decide, fun l hl => ?_⟩
    refine lc_range (lo := 0) (n := 2) (fun i H' => Same H9 H' ∧ H' l = some (.lst [])) ⟨same_new hl, upd_same⟩ ?_ ?_
    · rintro i H' hi ⟨sx, dx⟩
      refine ⟨rfl, ?_⟩
      match i, hi with
      | 0, _ => exact ⟨_, rfl, _, rfl, p8, _, 0, _, rfl, rfl, SqL.of (sx _ _ d89), rfl, _, rfl, _, rfl, p5, _, 0, _, rfl, rfl, SqL.of (sx _ _ d59), rfl, _, _, rfl, by rw [beq_self_eq_true]; exact ⟨_, rfl, iteF ⟨sx, dx⟩⟩⟩
      | 1, _ => exact ⟨_, rfl, _, rfl, p8, _, 1, _, rfl, rfl, SqL.of (sx _ _ d89), rfl, _, rfl, _, rfl, p5, _, 1, _, rfl, rfl, SqL.of (sx _ _ d59), rfl, _, _, rfl, by rw [beq_self_eq_true]; exact ⟨_, rfl, iteF ⟨sx, dx⟩⟩⟩
    · rintro H' ⟨sx, dx⟩
      refine ⟨by show 0 ≤ sizeLine; decide, fun pz hpz => ?_⟩
      generalize e10 : upd H' pz _ = H10
      obtain ⟨s10, d10⟩ := nw e10 hpz
      exact ⟨.list [], .list [], .lst (SqL.of (s10 _ _ dx)) .nil, .lst (SqL.of d10) .nil, rfl, rfl, q H10 ((s09.trans sx).trans s10)⟩
  | false =>
    refine ⟨_, rfl, _, rfl, iteF ⟨_, rfl, m, _, rfl, .inl (SqL.of (J.same s03).mh), fun pg hpg => ?_⟩⟩
    generalize e4 : upd H3 pg _ = H4
    obtain ⟨s4, dg⟩ := nw e4 hpg
    have s04 := s03.trans s4
    have nA : NamesAt H4 (.ref pg) nm := ⟨pg, rfl, .inl dg⟩
    refine ⟨_, _, rfl, _, rfl, _, rfl, iteF ?_⟩
    refine ⟨_, rfl, _, rfl, _, rfl, p, ks, .ref pg, nm, v, d, rfl, hP.same s04, nA, hd.same s04, fun H5 s5 => ?_⟩
    have s05 := s04.trans s5
    refine ⟨_, rfl, _, rfl, _, rfl, p, ks, .ref pg, nm, v, d, rfl, hP.same s05, nA.same s5, hd.same s05, fun H6 s6 => ⟨by show 2 ≤ sizeLine; decide, fun p8 hp8 => ?_⟩⟩
    generalize e7 : upd H6 p8 _ = H7
    obtain ⟨s7, d8⟩ := nw e7 hp8
    have s47 := (s5.trans s6).trans s7
    have s07 := s04.trans s47
    refine ⟨_, rfl, v, d, rfl, hd.same s07, fit, sz, by omega, _, rfl, rfl, _, rfl, itf (by rw [decide_eq_true rfl]; rfl) ?_⟩
    refine ⟨_, rfl, pg, _, rfl, .inl (SqL.of (s47 _ _ dg)), fun pl hpl => ?_⟩
    generalize e9 : upd H7 pl _ = H9
    obtain ⟨s9, d9⟩ := nw e9 hpl
    have s09 := s07.trans s9
    refine ⟨_, rfl, .list (nm.map PyData.str), .list (nm.map PyData.str), dp_names d9, dp_names (J.same s09).mh, names_shaped np, names_shaped np, _, rfl, ?_⟩
    rw [eqv_strs]
    refine itf rfl ?_
    have d59 := s9 _ _ (s47 _ _ (s4 _ _ d5))
    have d89 := s9 _ _ d8
    refine ⟨2, rfl, by decide, by decide, fun l hl => ?_⟩
    refine lc_range (lo := 0) (n := 2) (fun i H' => Same H9 H' ∧ H' l = some (.lst [])) ⟨same_new hl, upd_same⟩ ?_ ?_
    · rintro i H' hi ⟨sx, dx⟩
      refine ⟨rfl, ?_⟩
      match i, hi with
      | 0, _ => exact ⟨_, rfl, _, rfl, p8, _, 0, _, rfl, rfl, SqL.of (sx _ _ d89), rfl, _, rfl, _, rfl, p5, _, 0, _, rfl, rfl, SqL.of (sx _ _ d59), rfl, _, _, rfl, by rw [beq_self_eq_true]; exact ⟨_, rfl, iteF ⟨sx, dx⟩⟩⟩
      | 1, _ => exact ⟨_, rfl, _, rfl, p8, _, 1, _, rfl, rfl, SqL.of (sx _ _ d89), rfl, _, rfl, _, rfl, p5, _, 1, _, rfl, rfl, SqL.of (sx _ _ d59), rfl, _, _, rfl, by rw [beq_self_eq_true]; exact ⟨_, rfl, iteF ⟨sx, dx⟩⟩⟩
    · rintro H' ⟨sx, dx⟩
      refine ⟨by show 0 ≤ sizeLine; decide, fun pz hpz => ?_⟩
      generalize e10 : upd H' pz _ = H10
      obtain ⟨s10, d10⟩ := nw e10 hpz
      exact ⟨.list [], .list [], .lst (SqL.of (s10 _ _ dx)) .nil, .lst (SqL.of d10) .nil, rfl, rfl, q H10 ((s09.trans sx).trans s10)⟩
end
end NH
set_option maxHeartbeats 4000000
namespace NH
open PySem PySem.Spec PyProof.Rows L2 TL
/-- a list of data, one built behind the other -/
theorem lcAny {J : It} {Gd : Hp → Prop} {Y : Nat → Hp → V → Hp → Prop} {N : Nat} {bs cs : List Addr} {i0 : Nat} {te : TE} {vs : List Nat} {σ : L2.St} {H1 : Hp} {l : Addr} {Qd : Hp → Prop} {Rd : D → Prop} (w : Walk J N Gd Y) (S : Nat → Hp → Prop) (hl : H1 l = none) (al : Al bs H1) (sub : ∀ a ∈ cs, a ∈ bs) (small : N ≤ 1000)
    (hG : ∀ H', Kp (l :: cs) H1 H' → Gd H') (hY : ∀ i H x H', Y i H x H' → H' = H) (h0 : ∀ o, S 0 (upd H1 l o)) (stab : ∀ i H' o, S i H' → S i (upd H' l o))
    (hw : ∀ x, wipe ((wipe σ vs).set i0 (some x)) vs = wipe σ vs)
    (ht : ∀ i x H', i < N → Y i H' x H' → Kp cs H1 H' → Al (l :: bs) H' → S i H' → ∀ F : VK, (∀ v d H'', Kp cs H' H'' → Al (l :: bs) H'' → Dd (hid (l :: bs) H'') v d → Rd d → S (i + 1) H'' → F v H'') → te ((wipe σ vs).set i0 (some x)) H' F)
    (hd : ∀ xs ds H', xs.length = N → Kp cs H1 H' → Al (l :: bs) H' → S N H' → H' l = some (.lst xs) → DdL (hid (l :: bs) H') xs ds → (∀ d ∈ ds, Rd d) → Qd H') :
    ∃ W : Nat → Nat → Hp → Prop, (∃ m, W 0 m (upd H1 l (.lst []))) ∧ ∀ i m H, W i m H → (J.stop i H ∧ Qd H) ∨ (J.go i H ∧ ∃ Nx : Hp → Prop, (∀ H', Nx H' → ∃ m', m' < m ∧ W (i + 1) m' H') ∧ ∀ x H', J.yld i H x H' → gName i0 x (wipe σ vs) H' fun σ2 H2 => wipe σ2 vs = wipe σ vs ∧ tYes σ2 H2 fun b H3 =>
      if b = true then te σ2 H3 fun y H4 => ∃ acc, H4 l = some (.lst acc) ∧ acc.length < sizeLine ∧ Nx (upd H4 l (.lst (acc ++ [y]))) else Nx H3) := by
  have lb := al.new hl
  have lc : l ∉ cs := fun z => lb (sub _ z)
  have wide : ∀ {H H' : Hp}, Kp cs H H' → Kp (l :: cs) H H' := fun k => k.mono fun a z => List.mem_cons_of_mem _ z
  refine lc_it (g := gName i0) (tt := tYes) w (fun i H' => ∃ (xs : List V) (ds : List D), xs.length = i ∧ Kp cs H1 H' ∧ Al (l :: bs) H' ∧ S i H' ∧ H' l = some (.lst xs) ∧ DdL (hid (l :: bs) H') xs ds ∧ ∀ d ∈ ds, Rd d)
    ⟨[], [], rfl, Kp.new hl, ?_, h0 _, upd_same, .nil, by simp⟩ (fun _ H' _ ⟨_, _, _, k, _⟩ => hG H' (wide k)) ?_ ?_
  · intro a z
    rcases List.mem_cons.mp z with rfl | z
    · exact ⟨_, upd_same⟩
    · exact al.upd a z
  · rintro i x H2 H2' hi ⟨xs, ds, lx, k2, a2, s2, d2, hds, sm⟩ y
    have eH := hY _ _ _ _ y
    subst eH
    refine ⟨hw x, tyes ?_⟩
    refine iteT ?_
    refine ht i x H2' hi y k2 a2 s2 _ fun v d H3 k3 a3 h3 sm3 s3 => ?_
    refine ⟨xs, k3 _ _ lc d2, small1000 (by omega), xs ++ [v], ds ++ [d], by rw [List.length_append, lx]; rfl, (k2.trans k3).put hl, a3.upd, stab _ _ _ s3, upd_same, ?_, ?_⟩
    · have kl : Kp (l :: bs) H3 (upd H3 l (.lst (xs ++ [v]))) := Kp.atb (by simp)
      exact ((hds.same (Kp.hid (k3.mono fun a z => List.mem_cons_of_mem _ (sub a z)))).app (.cons h3 .nil)).same (Kp.hid kl)
    · intro y hy
      rcases List.mem_append.mp hy with hy | hy
      · exact sm y hy
      · rw [List.mem_singleton.mp hy]; exact sm3
  · rintro H2 ⟨xs, ds, lx, k2, a2, s2, d2, hds, sm⟩
    exact hd xs ds H2 lx k2 a2 s2 d2 hds sm

theorem Callee.mono {P : Program} {w : World} {K : PySem.W.Frag} {mg : Str → Option Value} {base : Heap} {k j : Nat} {x : Str} {ps : List Str} {sp : Sp} (c : Callee P w K mg base k x ps sp) (h : k ≤ j) : Callee P w K mg base j x ps sp := by
  obtain ⟨f, fd, hm, hk, hb, F⟩ := c.ex
  exact ⟨f, fd, hm, hk, hb, F.mono h⟩
/-- f(e, ..), f a def that keeps many promises: one of them is chosen at the call -/
theorem pe_calU {X : Cx} {k j : Nat} {x : Str} {ps : List Str} {sp : Nat → Sp} {e : Expr} {es : List Expr} {p pos : Pos} {t : TA} (c : ∀ i, Callee X.prog X.w X.K X.mg X.base k x ps (sp i)) (hr : Room j X.A) (hj : k ≤ j) (ha : PA X (e :: es) t) (hg : Gl X x := by rfl)
    (hdb : (x == ("__debug__" : Str)) = false := by decide) (he : starEach (e :: es) X.env = (false, eval e X.env) :: starEach es X.env := by rfl) (hpl : (backTo pos (starEach es X.env)).any (·.1) = false := by rfl) :
    PE X (.Call (.Name x p) (e :: es) [] pos) (tCall (fun vs H Q E => ∃ i, sp i vs H Q E) [] E0 t) := by
  obtain ⟨f, fd0, hm, hk, hb0, F0⟩ := (c 0).ex
  refine ⟨fun pins s σ H Q I h => wpAny_Call_Name_kw (ld_glob I hg hm ?_ hdb)⟩
  refine PySem.W.callWith_K (h₀ := X.base) I.ok.mod.kin hk (thn (ha.run pos pins s σ H _ I h) fun us s1 ⟨vs, H1, J, rel, want⟩ => ⟨J.kIn, ?_⟩) he hpl
  obtain ⟨i, want⟩ := (show ∃ i, sp i (vs ++ []) H1 Q E0 from want)
  obtain ⟨f2, fd, hm2, _, hb, F⟩ := (c i).ex
  have ef : f2 = f := by rw [hm] at hm2; cases hm2; rfl
  subst ef
  exact run_fn F (hr.mono hj) hb .nil pass0 J rel want
/-! ### lists and tuples of data, by where they stand -/
def La (bs : List Addr) (H : Hp) (l : Addr) (ds : List D) : Prop := l ∉ bs ∧ ∃ xs, H l = some (.lst xs) ∧ DdL (hid bs H) xs ds
def Ta (bs : List Addr) (H : Hp) (l : Addr) (ds : List D) : Prop := l ∉ bs ∧ ∃ xs, H l = some (.tup xs) ∧ DdL (hid bs H) xs ds
section
variable {bs cs : List Addr} {H H' : Hp} {l p : Addr} {ds es : List D} {xs : List V} {F : VK}
theorem La.kp (x : La bs H l ds) (k : Kp cs H H') (sub : ∀ a ∈ cs, a ∈ bs) : La bs H' l ds := let ⟨n, xs, a, b⟩ := x; ⟨n, xs, k _ _ (fun z => n (sub _ z)) a, b.same (Kp.hid (k.mono sub))⟩
theorem La.same (x : La bs H l ds) (k : Same H H') : La bs H' l ds := x.kp (cs := []) (Kp.of k) (by simp)
theorem Ta.kp (x : Ta bs H l ds) (k : Kp cs H H') (sub : ∀ a ∈ cs, a ∈ bs) : Ta bs H' l ds := let ⟨n, xs, a, b⟩ := x; ⟨n, xs, k _ _ (fun z => n (sub _ z)) a, b.same (Kp.hid (k.mono sub))⟩
theorem Ta.same (x : Ta bs H l ds) (k : Same H H') : Ta bs H' l ds := x.kp (cs := []) (Kp.of k) (by simp)
theorem La.dd (x : La bs H l ds) : Dd (hid bs H) (.ref l) (.lst ds) := let ⟨n, _, a, b⟩ := x; .lst (by rw [hid_out n]; exact a) b
theorem Ta.dd (x : Ta bs H l ds) : Dd (hid bs H) (.ref l) (.tup ds) := let ⟨n, _, a, b⟩ := x; .tup (by rw [hid_out n]; exact a) b
theorem La.of {v : V} (h : Dd (hid bs H) v (.lst ds)) : ∃ a, v = .ref a ∧ La bs H a ds := by
  cases h with
  | lst ha hl => exact ⟨_, rfl, (hid_some ha).1, _, (hid_some ha).2, hl⟩
theorem Ta.of {v : V} (h : Dd (hid bs H) v (.tup ds)) : ∃ a, v = .ref a ∧ Ta bs H a ds := by
  cases h with
  | tup ha hl => exact ⟨_, rfl, (hid_some ha).1, _, (hid_some ha).2, hl⟩
/-- a new list, a new tuple of data, a new dict -/
theorem newL (al : Al bs H) (e : upd H p (.lst xs) = H') (hp : H p = none) (hd : DdL (hid bs H) xs ds) : Same H H' ∧ Al bs H' ∧ La bs H' p ds := by
  subst e; exact ⟨same_new hp, al.same (same_new hp), al.new hp, xs, upd_same, hd.hs (same_new hp)⟩
theorem newT (al : Al bs H) (e : upd H p (.tup xs) = H') (hp : H p = none) (hd : DdL (hid bs H) xs ds) : Same H H' ∧ Al bs H' ∧ Ta bs H' p ds := by
  subst e; exact ⟨same_new hp, al.same (same_new hp), al.new hp, xs, upd_same, hd.hs (same_new hp)⟩
theorem newD (al : Al bs H) (e : upd H p (.dK []) = H') (hp : H p = none) : Same H H' ∧ Al bs H' ∧ Dd (hid bs H') (.ref p) .dic := by
  subst e; exact ⟨same_new hp, al.same (same_new hp), Dd.dic (by rw [hid_out (al.new hp)]; exact upd_same)⟩
theorem La.cat (al : Al bs H) (x : La bs H l ds) (y : La bs H p es) (small : ds.length + es.length ≤ 1000000) (k : ∀ q H', Same H H' → Al bs H' → La bs H' q (ds ++ es) → F (.ref q) H') : rCat (.ref l) (.ref p) H F := by
  obtain ⟨_, xs, a, b⟩ := x
  obtain ⟨_, ys, c, d⟩ := y
  exact ⟨l, p, xs, ys, rfl, rfl, a, c, Nat.le_of_lt (Nat.lt_of_le_of_lt (by rw [b.len, d.len]; omega : xs.length + ys.length ≤ 1000000) (by decide)), fun q hq => let ⟨t, a1, L⟩ := newL al rfl hq (b.app d); k q _ t a1 L⟩
theorem hid_sub (sub : ∀ a ∈ cs, a ∈ bs) : Same (hid bs H) (hid cs H) := fun a o h => by
  obtain ⟨n1, e⟩ := hid_some h
  rw [hid_out fun z => n1 (sub a z)]; exact e
end
/-- a body cut in two -/
theorem cut_at {X : Cx} {body : List Stmt} {Po : _} {σ0 : L2.St} {H0 : Hp} (n : Nat) (R : L2.St → Hp → Prop) (h1 : ∃ tR, PSs X (body.drop n) tR ∧ ∀ σ H, R σ H → tR Po σ H) (h2 : ∀ tR, PSs X (body.drop n) tR → (∀ σ H, R σ H → tR Po σ H) → ∃ t, PSs X body t ∧ t Po σ0 H0) : ∃ t, PSs X body t ∧ t Po σ0 H0 := by
  obtain ⟨tR, a, b⟩ := h1
  exact h2 tR a b
end NH
set_option maxHeartbeats 4000000
namespace NH
open PySem PySem.Spec PyProof.Rows L2 TL
section
variable {P : Program} {w : World} {K : PySem.W.Frag} {mg : Str → Option Value} {base : Heap}
abbrev s_law_values : Stmt := top 62
theorem sc_law_values : FnScope ["box", "sides", "names", "spoil", "deep", "size", "more", "condition", "steps", "full", "found", "items", "edges", "one"] ["box", "sides", "names", "spoil"] (defScope s_law_values) := ⟨rfl, rfl, rfl, by decide +kernel, rfl, by decide +kernel, by decide +kernel⟩
/-- what the law's values keep to -/
def Vok (d : D) : Prop := d.fit ∧ d.sz ≤ 1000000 ∧ d.dep ≤ 31
theorem Sm.vok {k e : Nat} {d : D} (s : Sm k e d) (h : k ≤ 1000000) (g : e ≤ 31) : Vok d := ⟨D.cln_fit s.fit, Nat.le_trans s.sz h, Nat.le_trans s.dep g⟩
def spVa : Sp := fun vs H Q _ => ∃ (bs : List Addr) (b s m : Addr) (ys nm : List Str) (n : Nat) (so : Int), vs = [.ref b, .ref s, .ref m, .int so] ∧ Gn bs b s m ys nm H ∧ Bx b n H ∧ n ≤ 300000000 ∧ ∀ l ds H', Kp [b] H H' → Al bs H' → Bx b (n + 100000) H' → La bs H' l ds → (∀ d ∈ ds, Vok d) → ds.length ≤ 100 → Q (.ref l) H'
/-- ahead of the fixed values -/
def Rva (bs : List Addr) (b sA m : Addr) (n : Nat) (so : Int) (dp sz more : Nat) (H0 : Hp) (σ : L2.St) (H' : Hp) : Prop := ∃ (b1 : List Addr) (nf : Nat) (l a7 a8 a9 : Addr) (ds ds7 ds8 : List D) (x13 : Option V),
  σ = [some (.ref b), some (.ref sA), some (.ref m), some (.int so), some (.int (1 + (dp : Int))), some (.int (1 + (sz : Int))), some (.int (more : Int)), some (.ref a7), some (.ref a8), some (.ref a9), some (.ref l), none, none, x13] ∧
  (∀ a ∈ bs, a ∈ b1) ∧ Al b1 H' ∧ Bx b nf H' ∧ nf ≤ n + 9000 ∧ Kp [b] H0 H' ∧ La b1 H' l ds ∧ (∀ d ∈ ds, Vok d) ∧ ds.length ≤ 9 ∧ Ta b1 H' a7 ds7 ∧ Sm 1016 6 (.tup ds7) ∧ La b1 H' a8 ds8 ∧ Sm 4201 14 (.lst ds8)
theorem Sms.fix {e k : Nat} {d : D} (h : Sm k e d) {f : Nat} (g : e ≤ f) : Sm k f d := h.mono (Nat.le_refl _) g
theorem vok_snoc {ds es : List D} (h : ∀ d ∈ ds, Vok d) (g : ∀ d ∈ es, Vok d) : ∀ d ∈ ds ++ es, Vok d := fun d hd => (List.mem_append.mp hd).elim (h d) (g d)
theorem tri {α : Type} (l : List V) (x y z : V) {k : Nat} (h : k < 3) : ∃ u, atI [x, y, z] (k : Int) = some u ∧ (u = x ∨ u = y ∨ u = z) := by
  match k, h with
  | 0, _ => exact ⟨x, rfl, .inl rfl⟩
  | 1, _ => exact ⟨y, rfl, .inr (.inl rfl)⟩
  | 2, _ => exact ⟨z, rfl, .inr (.inr rfl)⟩
theorem rep_len {α : Type} (x : α) : ∀ k, (List.replicate k [x]).flatten.length = k
  | 0 => rfl
  | k + 1 => by rw [List.replicate_succ, List.flatten_cons, List.length_append, rep_len x k]; show 1 + k = k + 1; omega
theorem its_fit : D.fits [.non, .bl true, .int 0, .str "", .str "is", .tup [], .lst [], .dic, .tup [.str "not"], .tup [.str "is", .int 1, .int 2], .tup [.str "is", .int 1, .int 2, .int 3], .lst [.tup [.str "is", .int 1, .int 2]]] := by
  have fit0 : D.fit (.str "") := (pl_of "" (by decide +kernel)).1
  have fitI : D.fit (.str "is") := (pl_of "is" (by decide +kernel)).1
  have fitN : D.fit (.str "not") := (pl_of "not" (by decide +kernel)).1
  exact ⟨trivial, trivial, (by decide : (0 : Int).natAbs ≤ 1000), fit0, fitI, trivial, trivial, trivial, ⟨fitN, trivial⟩, ⟨fitI, (by decide : (1 : Int).natAbs ≤ 1000), (by decide : (2 : Int).natAbs ≤ 1000), trivial⟩, ⟨fitI, (by decide : (1 : Int).natAbs ≤ 1000), (by decide : (2 : Int).natAbs ≤ 1000), (by decide : (3 : Int).natAbs ≤ 1000), trivial⟩, ⟨⟨fitI, (by decide : (1 : Int).natAbs ≤ 1000), (by decide : (2 : Int).natAbs ≤ 1000), trivial⟩, trivial⟩, trivial⟩
theorem its_sz : D.szs [.non, .bl true, .int 0, .str "", .str "is", .tup [], .lst [], .dic, .tup [.str "not"], .tup [.str "is", .int 1, .int 2], .tup [.str "is", .int 1, .int 2, .int 3], .lst [.tup [.str "is", .int 1, .int 2]]] ≤ 100 := by decide +kernel
theorem its_dep : D.deps [.non, .bl true, .int 0, .str "", .str "is", .tup [], .lst [], .dic, .tup [.str "not"], .tup [.str "is", .int 1, .int 2], .tup [.str "is", .int 1, .int 2, .int 3], .lst [.tup [.str "is", .int 1, .int 2]]] ≤ 16 := by decide +kernel
theorem edg_vok {more : Nat} {du : D} {ds7 : List D} (hmo : more < 3) (f : du.fit) (z : du.sz = 1) (p : du.dep = 0) (sm7 : Sm 1016 6 (.tup ds7)) (sx6 : Sl 10 2 [D.tup [.str "repeat", .int 0, .lst []]]) :
    ∀ d ∈ [D.tup [.str "is", .int ((9 : Int) + (more : Int)), .int 0], D.tup [.str "above", .int 1, du], D.lst ds7, D.lst (List.replicate ((5 : Int) + (more : Int)).toNat [D.tup [.str "repeat", .int 0, .lst []]]).flatten], Vok d := by
  intro d hd
  simp only [List.mem_cons, List.not_mem_nil, or_false] at hd
  rcases hd with rfl | rfl | rfl | rfl
  · exact (Sms.tup (.cons ((Sm.str (pl_of "is" (by decide +kernel))).mono (Nat.le_refl _) (Nat.zero_le _)) (.cons (Sm.int (by omega)) (.one (Sm.int (by decide)))))).vok (by decide) (by decide)
  · have fitA : D.fit (.str "above") := (pl_of "above" (by decide +kernel)).1
    have l3 : Str.length (Str.ofString "above") = 5 := rfl
    refine ⟨⟨fitA, (by decide : (1 : Int).natAbs ≤ 1000), f, trivial⟩, ?_, ?_⟩
    · simp only [D.szs, D.sz]; omega
    · simp only [D.deps, D.dep]; omega
  · have s0 : Sl 1015 5 ds7 := ⟨sm7.fit, by have := sm7.sz; have e : (D.tup ds7).sz = 1 + D.szs ds7 := rfl; omega, by have := sm7.dep; have e : (D.tup ds7).dep = D.deps ds7 + 1 := rfl; omega⟩
    exact s0.lst.vok (by decide) (by decide)
  · exact (sx6.rep _).lst.vok (by omega) (by decide)
theorem last_vok {more : Nat} {dv : D} (hmo : more < 3) (f : dv.fit) (z : dv.sz = 1) (p : dv.dep = 0) : ∀ d ∈ [D.lst [.tup [.str "repeat", .int ((9 : Int) + (more : Int)), .lst []]], D.lst [.tup [.str "repeat", dv, .tup []]]], Vok d := by
  have fitR : D.fit (.str "repeat") := (pl_of "repeat" (by decide +kernel)).1
  have l4 : Str.length (Str.ofString "repeat") = 6 := rfl
  intro d hd
  simp only [List.mem_cons, List.not_mem_nil, or_false] at hd
  rcases hd with rfl | rfl
  · refine ⟨⟨⟨fitR, (by omega : ((9 : Int) + (more : Int)).natAbs ≤ 1000), trivial, trivial⟩, trivial⟩, ?_, ?_⟩
    · simp only [D.szs, D.sz]; omega
    · simp only [D.deps, D.dep]; omega
  · refine ⟨⟨⟨fitR, f, trivial, trivial⟩, trivial⟩, ?_, ?_⟩
    · simp only [D.szs, D.sz]; omega
    · simp only [D.deps, D.dep]; omega
theorem first_vok {ds7 ds8 ds9 : List D} (s7 : Sm 1016 6 (.tup ds7)) (s8 : Sm 4201 14 (.lst ds8)) (s9 : Sm 8000 10 (.lst ds9)) : ∀ d ∈ [D.tup ds7, D.lst ds8, D.lst ds9, D.tup ds8, D.tup ds9], Vok d := by
  have a8 : Sl 4200 13 ds8 := ⟨s8.fit, by have := s8.sz; have e : (D.lst ds8).sz = 1 + D.szs ds8 := rfl; omega, by have := s8.dep; have e : (D.lst ds8).dep = D.deps ds8 + 1 := rfl; omega⟩
  have a9 : Sl 7999 9 ds9 := ⟨s9.fit, by have := s9.sz; have e : (D.lst ds9).sz = 1 + D.szs ds9 := rfl; omega, by have := s9.dep; have e : (D.lst ds9).dep = D.deps ds9 + 1 := rfl; omega⟩
  intro d hd
  simp only [List.mem_cons, List.not_mem_nil, or_false] at hd
  rcases hd with rfl | rfl | rfl | rfl | rfl
  · exact s7.vok (by decide) (by decide)
  · exact s8.vok (by decide) (by decide)
  · exact s9.vok (by decide) (by decide)
  · exact Sm.vok (k := 4201) (e := 14) ⟨s8.fit, by have := a8.sz; show 1 + D.szs ds8 ≤ 4201; omega, by have := a8.dep; show D.deps ds8 + 1 ≤ 14; omega⟩ (by decide) (by decide)
  · exact Sm.vok (k := 8000) (e := 10) ⟨s9.fit, by have := a9.sz; show 1 + D.szs ds9 ≤ 8000; omega, by have := a9.dep; show D.deps ds9 + 1 ≤ 10; omega⟩ (by decide) (by decide)
theorem ok_law_values (G : Bl mg) (DA : DefAt K mg "_law_values" s_law_values) (cT : Callee P w K mg base 2 "_law_take" ["box", "many"] spTake) (cCo : Callee P w K mg base 9 "_law_condition" ["box", "sides", "names", "deep"] (spCo 5)) (cSt : ∀ i, Callee P w K mg base 16 "_law_steps" ["box", "sides", "names", "deep", "room"] (fun vs H Q E => i ≤ 4 ∧ spSt i vs H Q E))
    (cFu : Callee P w K mg base 9 "_law_full" ["box", "sides", "names", "more"] spFu) (cCh : Callee P w K mg base 17 "_law_changed" ["box", "value", "sides", "names"] spCh) : Callee P w K mg base 18 "_law_values" ["box", "sides", "names", "spoil"] spVa := by
  refine callee DA sc_law_values (fun vs H Q E h => by obtain ⟨_, _, _, _, _, _, _, _, rfl, _⟩ := h; rfl) (fun _ _ _ _ _ _ us hl => match us, hl with | [_, _, _, _], _ => rfl) fun f cdv A outer s H vs Q E hr h => ?_
  obtain ⟨bs, b, sA, m, ys, nm, n, so, rfl, g, hb, hn, q⟩ := h
  refine cut_at 5 (fun σ H' => ∃ dp sz more, dp < 5 ∧ sz < 4 ∧ more < 3 ∧ Rva bs b sA m n so dp sz more H σ H') ⟨_,     (pss_cons (ps_set (i := 11) sc_law_values.nd rfl (Or.inl rfl) (pe_lst (pa_cons pe_non (pa_cons pe_bl (pa_cons pe_int (pa_cons pe_str (pa_cons pe_str (pa_cons (pe_tup pa_nil) (pa_cons (pe_lst pa_nil) (pa_cons pe_dnewK (pa_cons (pe_tup (pa_cons pe_str pa_nil)) (pa_cons (pe_tup (pa_cons pe_str (pa_cons pe_int (pa_cons pe_int pa_nil)))) (pa_cons (pe_tup (pa_cons pe_str (pa_cons pe_int (pa_cons pe_int (pa_cons pe_int pa_nil))))) (pa_cons (pe_lst (pa_cons (pe_tup (pa_cons pe_str (pa_cons pe_int (pa_cons pe_int pa_nil)))) pa_nil)) pa_nil))))))))))))))
    (pss_cons (ps_set (i := 10) sc_law_values.nd rfl (Or.inl rfl) (pe_op op_cat (pv 10) (pe_lst (pa_cons (pe_ix ix_list (pv 11) (pe_cal cT hr (by omega) (pa_cons (pv 0) (pa_cons pe_int pa_nil))) (fun _ _ => rfl)) (pa_cons (pe_lst (pa_cons (pv 7) pa_nil)) (pa_cons (pe_tup (pa_cons pe_str (pa_cons (pv 7) pa_nil))) (pa_cons (pe_lst (pa_cons (pe_tup (pa_cons pe_str (pa_cons pe_int (pa_cons (pv 8) pa_nil)))) pa_nil)) (pa_cons (pe_op op_cat (pv 8) (pv 8)) pa_nil))))))))
    (pss_cons (ps_set (i := 12) sc_law_values.nd rfl (Or.inl rfl) (pe_lst (pa_cons (pe_tup (pa_cons pe_str (pa_cons (pe_op op_add pe_int (pv 6)) (pa_cons pe_int pa_nil)))) (pa_cons (pe_tup (pa_cons pe_str (pa_cons pe_int (pa_cons (pe_ix ix_list (pe_lst (pa_cons pe_int (pa_cons pe_bl (pa_cons pe_bl pa_nil)))) (pv 6) (fun _ _ => rfl)) pa_nil)))) (pa_cons (pe_callTy call_list_of (by rfl) G.b_list (by decide +kernel) (pa_cons (pv 7) pa_nil)) (pa_cons (pe_op op_rep (pe_lst (pa_cons (pe_tup (pa_cons pe_str (pa_cons pe_int (pa_cons (pe_lst pa_nil) pa_nil)))) pa_nil)) (pe_op op_add pe_int (pv 6))) pa_nil))))))
    (pss_one (ps_ret (pe_op op_cat (pe_op op_cat (pv 10) (pv 12)) (pe_lst (pa_cons (pe_lst (pa_cons (pe_tup (pa_cons pe_str (pa_cons (pe_op op_add pe_int (pv 6)) (pa_cons (pe_lst pa_nil) pa_nil)))) pa_nil)) (pa_cons (pe_lst (pa_cons (pe_tup (pa_cons pe_str (pa_cons (pe_ix ix_list (pe_lst (pa_cons pe_int (pa_cons pe_bl (pa_cons (pe_un un_neg pe_int) pa_nil)))) (pv 6) (fun _ _ => rfl)) (pa_cons (pe_tup pa_nil) pa_nil)))) pa_nil)) pa_nil))))))))), ?_⟩ fun tR hR goR => ⟨_, (pss_cons (ps_par3 (i := 4) (j := 5) (l := 6) (by rfl) sc_law_values.nd rfl rfl rfl (by decide) (by decide) (by decide) rfl rfl rfl (pa_cons (pe_op op_add pe_int (pe_cal cT hr (by omega) (pa_cons (pv 0) (pa_cons pe_int pa_nil)))) (pa_cons (pe_op op_add pe_int (pe_cal cT hr (by omega) (pa_cons (pv 0) (pa_cons pe_int pa_nil)))) (pa_cons (pe_cal cT hr (by omega) (pa_cons (pv 0) (pa_cons pe_int pa_nil))) pa_nil))) (by rfl))
    (pss_cons (ps_par (i := 7) (j := 8) (by rfl) sc_law_values.nd rfl rfl (by decide) rfl rfl (pa_cons (pe_cal cCo hr (by omega) (pa_cons (pv 0) (pa_cons (pv 1) (pa_cons (pv 2) (pa_cons (pv 4) pa_nil))))) (pa_cons (pe_calU cSt hr (by omega) (pa_cons (pv 0) (pa_cons (pv 1) (pa_cons (pv 2) (pa_cons (pv 5) (pa_cons (pe_lst (pa_cons pe_int pa_nil)) pa_nil)))))) pa_nil)) (by rfl))
    (pss_cons (ps_set (i := 9) sc_law_values.nd rfl (Or.inl rfl) (pe_cal cFu hr (by omega) (pa_cons (pv 0) (pa_cons (pv 1) (pa_cons (pv 2) (pa_cons (pv 6) pa_nil))))))
    (pss_cons (ps_set (i := 10) sc_law_values.nd rfl (Or.inl rfl) (pe_lst (pa_cons (pv 7) (pa_cons (pv 8) (pa_cons (pv 9) (pa_cons (pe_callTy call_tuple_of (by rfl) G.b_tuple (by decide +kernel) (pa_cons (pv 8) pa_nil)) (pa_cons (pe_callTy call_tuple_of (by rfl) G.b_tuple (by decide +kernel) (pa_cons (pv 9) pa_nil)) pa_nil)))))))
    (pss_cons (ps_if (pt_cmpR op_gt (pv 3) pe_int (nomark _)) (pss_one (ps_set (i := 10) sc_law_values.nd rfl (Or.inl rfl) (pe_op op_cat (pv 10) (pe_lc (own := [("one", 13)]) (g := gName 13) rfl sc_law_values.nd (pi_list (pe_lst (pa_cons (pv 7) (pa_cons (pv 8) (pa_cons (pv 9) (pa_cons (pv 7) pa_nil)))))) (blkOk_by (N := ["box", "sides", "names", "spoil", "deep", "size", "more", "condition", "steps", "full", "found", "items", "edges", "one"]) (sc := defScope s_law_values) (by decide +kernel)) (fun _ _ _ _ _ => (pg_name (i := 13) sc_law_values.nd rfl (Or.inl rfl))) (fun _ _ _ _ _ => pts_nil) (fun _ _ _ _ _ => (pe_cal cCh hr (by omega) (pa_cons (pv 0) (pa_cons (pv 13) (pa_cons (pv 1) (pa_cons (pv 2) pa_nil)))))))))) pss_nil) hR))))), ?_⟩
  · rintro σ Hf ⟨dp, sz, more, hdp, hsz, hmo, b1, nf, l, a7, a8, a9, ds, ds7, ds8, x13, rfl, sb, al, bx, hnf, k0, L, okL, lenL, T7, sm7, L8, sm8⟩
    have subb : ∀ a ∈ [b], a ∈ b1 := fun a z => by rw [List.mem_singleton.mp z]; exact sb _ g.inb
    have si : ∀ {i : Int} {e : Nat}, i.natAbs ≤ 900 → Sm 1 e (.int i) := fun h => (Sm.int h).mono (Nat.le_refl _) (Nat.zero_le _)
    refine ⟨by show 0 ≤ sizeLine; decide, fun p1 hp1 => ?_⟩
    generalize ep1 : upd _ p1 _ = G1
    obtain ⟨t1, al1, T1⟩ := newT al ep1 hp1 .nil
    refine ⟨by show 0 ≤ sizeLine; decide, fun p2 hp2 => ?_⟩
    generalize ep2 : upd _ p2 _ = G2
    obtain ⟨t2, al2, T2⟩ := newL al1 ep2 hp2 .nil
    refine fun p3 hp3 => ?_
    generalize ep3 : upd _ p3 _ = G3
    obtain ⟨t3, al3, T3⟩ := newD al2 ep3 hp3
    refine ⟨by show 1 ≤ sizeLine; decide, fun p4 hp4 => ?_⟩
    generalize ep4 : upd _ p4 _ = G4
    obtain ⟨t4, al4, T4⟩ := newT al3 ep4 hp4 (.cons (.str _) .nil)
    refine ⟨by show 3 ≤ sizeLine; decide, fun p5 hp5 => ?_⟩
    generalize ep5 : upd _ p5 _ = G5
    obtain ⟨t5, al5, T5⟩ := newT al4 ep5 hp5 (.cons (.str _) (.cons (.int _) (.cons (.int _) .nil)))
    refine ⟨by show 4 ≤ sizeLine; decide, fun p6 hp6 => ?_⟩
    generalize ep6 : upd _ p6 _ = G6
    obtain ⟨t6, al6, T6⟩ := newT al5 ep6 hp6 (.cons (.str _) (.cons (.int _) (.cons (.int _) (.cons (.int _) .nil))))
    refine ⟨by show 3 ≤ sizeLine; decide, fun p7 hp7 => ?_⟩
    generalize ep7 : upd _ p7 _ = G7
    obtain ⟨t7, al7, T7'⟩ := newT al6 ep7 hp7 (.cons (.str _) (.cons (.int _) (.cons (.int _) .nil)))
    refine ⟨by show 1 ≤ sizeLine; decide, fun p8 hp8 => ?_⟩
    generalize ep8 : upd _ p8 _ = G8
    obtain ⟨t8, al8, T8⟩ := newL al7 ep8 hp8 (.cons T7'.dd .nil)
    have u7 := t7.trans t8
    have u6 := t6.trans u7
    have u5 := t5.trans u6
    have u4 := t4.trans u5
    have u3 := t3.trans u4
    have u2 := t2.trans u3
    have u1 := t1.trans u2
    have its : DdL (hid b1 G8) [.non, .bl true, .int 0, .str "", .str "is", .ref p1, .ref p2, .ref p3, .ref p4, .ref p5, .ref p6, .ref p8] [.non, .bl true, .int 0, .str "", .str "is", .tup [], .lst [], .dic, .tup [.str "not"], .tup [.str "is", .int 1, .int 2], .tup [.str "is", .int 1, .int 2, .int 3], .lst [.tup [.str "is", .int 1, .int 2]]] :=
      .cons .non (.cons (.bl _) (.cons (.int _) (.cons (.str _) (.cons (.str _) (.cons (T1.same u2).dd (.cons (T2.same u3).dd (.cons (T3.hs u4) (.cons (T4.same u5).dd (.cons (T5.same u6).dd (.cons (T6.same u7).dd (.cons T8.dd .nil)))))))))))
    refine ⟨by show 12 ≤ sizeLine; decide, fun p9 hp9 => ?_⟩
    generalize ep9 : upd _ p9 _ = G9
    obtain ⟨t9, al9, T9⟩ := newL al8 ep9 hp9 its
    have u9 := u1.trans t9
    refine ⟨_, rfl, _, rfl, _, rfl, ?_⟩
    have bx9 := bx.same u9
    obtain ⟨o0_, e0_, i0_⟩ := id bx9
    refine ⟨_, 12, _, o0_, rfl, e0_, i0_, by omega, by first | decide | omega, by first | decide | omega, fun t o1_ ht i1_ => ?_⟩
    generalize eH_ : upd _ _ o1_ = K1
    obtain ⟨k1, c1, oth1⟩ := tkf eH_ i1_
    clear eH_ i1_ i0_ e0_ o0_
    obtain ⟨n9, xs9, d9, its9⟩ := T9.kp k1 subb
    have lx9 : xs9.length = 12 := its9.len
    obtain ⟨x, ex, hx', hxd, hxf, hxz, hxp⟩ := pick its9 (t := t) (by rw [lx9]; exact ht) its_fit
    refine ⟨p9, _, _, _, rfl, rfl, SqL.of d9, hx', ?_⟩
    have al10 := al9.kp k1 c1
    have M7 := (T7.same u9).kp k1 subb
    have M8 := (L8.same u9).kp k1 subb
    have ML := (L.same u9).kp k1 subb
    have kk1 : Kp [b] H K1 := (k0.trans (Kp.of u9)).trans k1
    have okx : Vok ex := ⟨hxf, Nat.le_trans hxz (Nat.le_trans its_sz (by decide)), Nat.le_trans hxp (Nat.le_trans its_dep (by decide))⟩
    have ln8 : ds8.length ≤ 4201 := Nat.le_trans (D.len_szs ds8) (by have := sm8.sz; have e : (D.lst ds8).sz = 1 + D.szs ds8 := rfl; omega)
    refine ⟨_, rfl, ?_⟩
    refine ⟨by show 1 ≤ sizeLine; decide, fun q1 hq1 => ?_⟩
    generalize eq1 : upd _ q1 _ = K2
    obtain ⟨v2, al11, W1⟩ := newL al10 eq1 hq1 (.cons M7.dd .nil)
    refine ⟨_, rfl, ?_⟩
    refine ⟨by show 2 ≤ sizeLine; decide, fun q2 hq2 => ?_⟩
    generalize eq2 : upd _ q2 _ = K3
    obtain ⟨v3, al12, W2⟩ := newT al11 eq2 hq2 (.cons (.str _) (.cons (M7.same v2).dd .nil))
    have v13 := v2.trans v3
    refine ⟨_, rfl, ?_⟩
    refine ⟨by show 3 ≤ sizeLine; decide, fun q3 hq3 => ?_⟩
    generalize eq3 : upd _ q3 _ = K4
    obtain ⟨v4, al13, W3⟩ := newT al12 eq3 hq3 (.cons (.str _) (.cons (.int _) (.cons (M8.same v13).dd .nil)))
    refine ⟨by show 1 ≤ sizeLine; decide, fun q4 hq4 => ?_⟩
    generalize eq4 : upd _ q4 _ = K5
    obtain ⟨v5, al14, W4⟩ := newL al13 eq4 hq4 (.cons W3.dd .nil)
    have v15 := (v13.trans v4).trans v5
    have N8 := M8.same v15
    refine ⟨_, rfl, _, rfl, La.cat al14 N8 N8 (by omega) fun q5 K6 v6 al15 W5 => ?_⟩
    refine ⟨by show 5 ≤ sizeLine; decide, fun q6 hq6 => ?_⟩
    generalize eq6 : upd _ q6 _ = K7
    obtain ⟨v7, al16, W6⟩ := newL al15 eq6 hq6 (.cons (((hxd.hs v15).hs v6)) (.cons ((W1.same v3).same ((v4.trans v5).trans v6)).dd (.cons (W2.same ((v4.trans v5).trans v6)).dd (.cons (W4.same v6).dd (.cons W5.dd .nil)))))
    have v17 := (v15.trans v6).trans v7
    refine La.cat al16 (ML.same v17) W6 (by show ds.length + 5 ≤ 1000000; omega) fun q7 K8 v8 al17 W7 => ?_
    have v18 := v17.trans v8
    have sN : Sm 1021 7 (.tup [.str "not", .tup ds7]) := (Sms.tup (.cons ((Sm.str (pl_of "not" (by decide +kernel))).mono (Nat.le_refl _) (Nat.zero_le _)) (.one sm7))).mono (by decide) (by decide)
    have ok5 : ∀ d ∈ [ex, D.lst [D.tup ds7], D.tup [.str "not", .tup ds7], D.lst [D.tup [.str "repeat", .int 1, .lst ds8]], D.lst (ds8 ++ ds8)], Vok d := by
      intro d hd
      simp only [List.mem_cons, List.not_mem_nil, or_false] at hd
      rcases hd with rfl | rfl | rfl | rfl | rfl
      · exact okx
      · exact (Sms.lst (.one sm7)).vok (by decide) (by decide)
      · exact sN.vok (by decide) (by decide)
      · exact (Sms.lst (.one (Sms.tup (.cons ((Sm.str (pl_of "repeat" (by decide +kernel))).mono (Nat.le_refl _) (Nat.zero_le _)) (.cons (si (by decide)) (.one sm8)))))).vok (by decide) (by decide)
      · have s0 : Sl 4200 13 ds8 := ⟨sm8.fit, by have := sm8.sz; have e : (D.lst ds8).sz = 1 + D.szs ds8 := rfl; omega, by have := sm8.dep; have e : (D.lst ds8).dep = D.deps ds8 + 1 := rfl; omega⟩
        exact (s0.app s0).lst.vok (by decide) (by decide)
    have okF := vok_snoc okL ok5
    -- edges
    have mo9 : ((9 : Int) + (more : Int)).natAbs ≤ 900 := by omega
    refine ⟨_, rfl, _, _, rfl, rfl, ?_⟩
    refine ⟨by show 3 ≤ sizeLine; decide, fun r1 hr1 => ?_⟩
    generalize er1 : upd _ r1 _ = J1
    obtain ⟨w1, al18, X1⟩ := newT al17 er1 hr1 (.cons (.str _) (.cons (.int _) (.cons (.int _) .nil)))
    refine ⟨by show 3 ≤ sizeLine; decide, fun r2 hr2 => ?_⟩
    generalize er2 : upd _ r2 _ = J2
    obtain ⟨w2, al19, X2⟩ := newL al18 er2 hr2 (.cons (.int _) (.cons (.bl _) (.cons (.bl _) .nil)))
    obtain ⟨uu, euu, huu⟩ := tri (α := Nat) [] (.int 0) (.bl true) (.bl false) hmo
    obtain ⟨_, _, dr2, _⟩ := id X2
    have dr2' : J2 r2 = some (.lst [.int 0, .bl true, .bl false]) := by rw [← er2]; exact upd_same
    obtain ⟨du, hdu, fdu, zdu, pdu⟩ : ∃ du, Dd (hid b1 J2) uu du ∧ du.fit ∧ du.sz = 1 ∧ du.dep = 0 := by
      rcases huu with rfl | rfl | rfl
      · exact ⟨_, .int _, (by decide : (0 : Int).natAbs ≤ 1000), rfl, rfl⟩
      · exact ⟨_, .bl _, trivial, rfl, rfl⟩
      · exact ⟨_, .bl _, trivial, rfl, rfl⟩
    refine ⟨_, rfl, r2, _, _, _, rfl, rfl, SqL.of dr2', euu, ?_⟩
    refine ⟨by show 3 ≤ sizeLine; decide, fun r3 hr3 => ?_⟩
    generalize er3 : upd _ r3 _ = J3
    obtain ⟨w3, al20, X3⟩ := newT al19 er3 hr3 (.cons (.str _) (.cons (.int _) (.cons hdu .nil)))
    have w13 := (w1.trans w2).trans w3
    obtain ⟨_, ys7, dy7, hy7⟩ := ((M7.same v18).same w13)
    refine ⟨_, rfl, a7, ys7, rfl, .inr (SqT.of dy7), fun r4 hr4 => ?_⟩
    generalize er4 : upd _ r4 _ = J4
    obtain ⟨w4, al21, X4⟩ := newL al20 er4 hr4 hy7
    refine ⟨by show 0 ≤ sizeLine; decide, fun r5 hr5 => ?_⟩
    generalize er5 : upd _ r5 _ = J5
    obtain ⟨w5, al22, X5⟩ := newL al21 er5 hr5 .nil
    refine ⟨by show 3 ≤ sizeLine; decide, fun r6 hr6 => ?_⟩
    generalize er6 : upd _ r6 _ = J6
    obtain ⟨w6, al23, X6⟩ := newT al22 er6 hr6 (.cons (.str _) (.cons (.int _) (.cons X5.dd .nil)))
    have sx6 : Sl 10 2 [D.tup [.str "repeat", .int 0, .lst []]] := .one ((Sms.tup (.cons ((Sm.str (pl_of "repeat" (by decide +kernel))).mono (Nat.le_refl _) (Nat.zero_le _)) (.cons (si (by decide)) (.one ((Sl.nil (k := 0) (e := 0)).lst))))).mono (by decide) (by decide))
    refine ⟨by show 1 ≤ sizeLine; decide, fun r7 hr7 => ?_⟩
    generalize er7 : upd _ r7 _ = J7
    have dr7 : J7 r7 = some (.lst [.ref r6]) := by rw [← er7]; exact upd_same
    obtain ⟨w7, al24, X7⟩ := newL al23 er7 hr7 (.cons X6.dd .nil)
    have e5 : (5 : Int) + (more : Int) = ((5 + more : Nat) : Int) := by omega
    refine ⟨_, rfl, _, _, rfl, rfl, r7, (5 : Int) + (more : Int), _, rfl, rfl, dr7, by omega, by omega, Nat.le_of_lt (small1000 (by show 1 * ((5 : Int) + (more : Int)).toNat ≤ 1000; omega)), fun r8 hr8 => ?_⟩
    generalize er8 : upd _ r8 _ = J8
    obtain ⟨w8, al25, X8⟩ := newL al24 er8 hr8 ((DdL.cons (X6.same w7).dd .nil).rep _)
    have w58 := ((w5.trans w6).trans w7).trans w8
    have w48 := w4.trans w58
    have edg : DdL (hid b1 J8) [.ref r1, .ref r3, .ref r4, .ref r8] _ := .cons (X1.same ((w2.trans w3).trans w48)).dd (.cons (X3.same w48).dd (.cons (X4.same w58).dd (.cons X8.dd .nil)))
    refine ⟨by show 4 ≤ sizeLine; decide, fun r9 hr9 => ?_⟩
    generalize er9 : upd _ r9 _ = J9
    obtain ⟨w9, al26, X9⟩ := newL al25 er9 hr9 edg
    have w19 := (w13.trans w48).trans w9
    refine ⟨_, rfl, _, rfl, La.cat al26 (W7.same w19) X9 (by rw [List.length_append]; show ds.length + 5 + 4 ≤ 1000000; omega) fun z1 Y1 y1 al27 Z1 => ?_⟩
    refine ⟨_, rfl, _, _, rfl, rfl, ?_⟩
    refine ⟨by show 0 ≤ sizeLine; decide, fun z2 hz2 => ?_⟩
    generalize ez2 : upd _ z2 _ = Y2
    obtain ⟨y2, al28, Z2⟩ := newL al27 ez2 hz2 .nil
    refine ⟨by show 3 ≤ sizeLine; decide, fun z3 hz3 => ?_⟩
    generalize ez3 : upd _ z3 _ = Y3
    obtain ⟨y3, al29, Z3⟩ := newT al28 ez3 hz3 (.cons (.str _) (.cons (.int _) (.cons Z2.dd .nil)))
    refine ⟨by show 1 ≤ sizeLine; decide, fun z4 hz4 => ?_⟩
    generalize ez4 : upd _ z4 _ = Y4
    obtain ⟨y4, al30, Z4⟩ := newL al29 ez4 hz4 (.cons Z3.dd .nil)
    refine ⟨1, rfl, ?_⟩
    refine ⟨by show 3 ≤ sizeLine; decide, fun z5 hz5 => ?_⟩
    generalize ez5 : upd _ z5 _ = Y5
    obtain ⟨y5, al31, Z5⟩ := newL al30 ez5 hz5 (.cons (.int _) (.cons (.bl _) (.cons (.int _) .nil)))
    obtain ⟨uv, euv, huv⟩ := tri (α := Nat) [] (.int 1) (.bl true) (.int (-1)) hmo
    have dz5 : Y5 z5 = some (.lst [.int 1, .bl true, .int (-1)]) := by rw [← ez5]; exact upd_same
    obtain ⟨dv, hdv, fdv, zdv, pdv⟩ : ∃ du, Dd (hid b1 Y5) uv du ∧ du.fit ∧ du.sz = 1 ∧ du.dep = 0 := by
      rcases huv with rfl | rfl | rfl
      · exact ⟨_, .int _, (by decide : (1 : Int).natAbs ≤ 1000), rfl, rfl⟩
      · exact ⟨_, .bl _, trivial, rfl, rfl⟩
      · exact ⟨_, .int _, (by decide : (-1 : Int).natAbs ≤ 1000), rfl, rfl⟩
    refine ⟨_, rfl, z5, _, _, _, rfl, rfl, SqL.of dz5, euv, ?_⟩
    refine ⟨by show 0 ≤ sizeLine; decide, fun z6 hz6 => ?_⟩
    generalize ez6 : upd _ z6 _ = Y6
    obtain ⟨y6, al32, Z6⟩ := newT al31 ez6 hz6 .nil
    refine ⟨by show 3 ≤ sizeLine; decide, fun z7 hz7 => ?_⟩
    generalize ez7 : upd _ z7 _ = Y7
    obtain ⟨y7, al33, Z7⟩ := newT al32 ez7 hz7 (.cons (.str _) (.cons (hdv.hs y6) (.cons Z6.dd .nil)))
    refine ⟨by show 1 ≤ sizeLine; decide, fun z8 hz8 => ?_⟩
    generalize ez8 : upd _ z8 _ = Y8
    obtain ⟨y8, al34, Z8⟩ := newL al33 ez8 hz8 (.cons Z7.dd .nil)
    have y48 := ((y5.trans y6).trans y7).trans y8
    refine ⟨by show 2 ≤ sizeLine; decide, fun z9 hz9 => ?_⟩
    generalize ez9 : upd _ z9 _ = Y9
    obtain ⟨y9, al35, Z9⟩ := newL al34 ez9 hz9 (.cons (Z4.same y48).dd (.cons Z8.dd .nil))
    have y19 := (((y2.trans y3).trans y4).trans y48).trans y9
    refine La.cat al35 (Z1.same y19) Z9 (by rw [List.length_append, List.length_append]; show ds.length + 5 + 4 + 2 ≤ 1000000; omega) fun zz Yz yz alz ZZ => ?_
    have yall := (((v18.trans w19).trans y1).trans y19).trans yz
    obtain ⟨nz, xz, dz, hz⟩ := ZZ
    have subz : ∀ a ∈ bs, a ∈ b1 := sb
    refine q zz _ Yz (kk1.trans (Kp.of yall)) (fun a z => alz a (sb a z)) ((c1.same yall).mono (by omega)) ⟨fun z => nz (sb _ z), xz, dz, hz.same (hid_sub sb)⟩ ?_ ?_
    · exact vok_snoc (vok_snoc okF (edg_vok hmo fdu zdu pdu sm7 sx6)) (last_vok hmo fdv zdv pdv)
    · rw [List.length_append, List.length_append, List.length_append]; show ds.length + 5 + 4 + 2 ≤ 100; omega
  · have sub : ∀ a ∈ [b], a ∈ bs := fun a z => by rw [List.mem_singleton.mp z]; exact g.inb
    refine ⟨_, rfl, ?_⟩
    obtain ⟨o0_, e0_, i0_⟩ := id hb
    refine ⟨_, 5, _, o0_, rfl, e0_, i0_, by omega, by first | decide | omega, by first | decide | omega, fun dp o1_ hdp i1_ => ?_⟩
    generalize eH_ : upd _ _ o1_ = H1
    obtain ⟨k1, b1, oth1⟩ := tkf eH_ i1_
    clear eH_ i1_ i0_ e0_ o0_
    refine ⟨_, _, rfl, rfl, _, rfl, ?_⟩
    obtain ⟨o0_, e0_, i0_⟩ := id b1
    refine ⟨_, 4, _, o0_, rfl, e0_, i0_, by omega, by first | decide | omega, by first | decide | omega, fun sz o1_ hsz i1_ => ?_⟩
    generalize eH_ : upd _ _ o1_ = H2
    obtain ⟨k2, b2, oth2⟩ := tkf eH_ i1_
    clear eH_ i1_ i0_ e0_ o0_
    refine ⟨_, _, rfl, rfl, _, rfl, ?_⟩
    obtain ⟨o0_, e0_, i0_⟩ := id b2
    refine ⟨_, 3, _, o0_, rfl, e0_, i0_, by omega, by first | decide | omega, by first | decide | omega, fun more o1_ hmo i1_ => ?_⟩
    generalize eH_ : upd _ _ o1_ = H3
    obtain ⟨k3, b3, oth3⟩ := tkf eH_ i1_
    clear eH_ i1_ i0_ e0_ o0_
    have k03 := (k1.trans k2).trans k3
    have g3 := ((g.tk k1 b1).tk k2 b2).tk k3 b3
    refine ⟨_, _, _, rfl, ?_⟩
    have e1 : (1 : Int) + (dp : Int) = ((dp + 1 : Nat) : Int) := by omega
    have e2 : (1 : Int) + (sz : Int) = ((sz + 1 : Nat) : Int) := by omega
    refine ⟨_, rfl, _, rfl, _, rfl, _, rfl, bs, b, sA, m, ys, nm, _, dp, by show [V.ref b, V.ref sA, V.ref m, V.int ((1 : Int) + (dp : Int))] = _; rw [e1], by omega, by decide, g3, b3, by omega, fun v7 d7 H4 k4 a4 b4 h7 ⟨⟨ds7, ed7⟩, sm7⟩ => ?_⟩
    have g4 := g3.kp k4 sub a4
    refine ⟨_, rfl, _, rfl, _, rfl, _, rfl, by show 1 ≤ sizeLine; decide, fun r hr' => ?_⟩
    generalize er : upd H4 r _ = H5
    obtain ⟨s5, dr⟩ := nw er hr'
    have g5 := g4.more hr' s5 dr
    have b5 := b4.same s5
    have rb : r ≠ b := fun z => b4.ne hr' z.symm
    refine ⟨sz + 1, by omega, r :: bs, b, sA, m, r, ys, nm, _, 14, by show [V.ref b, V.ref sA, V.ref m, V.int ((1 : Int) + (sz : Int)), V.ref r] = _; rw [e2], by omega, g5, b5, ⟨by simp, rb, dr⟩, by omega, fun v8 d8 H6 kk hkk L8 k6 a6 b6 R6 h8 sm8 => ⟨_, _, rfl, ?_⟩⟩
    have sub2 : ∀ a ∈ [b, r], a ∈ r :: bs := fun a z => by
      rcases List.mem_cons.mp z with rfl | z
      · exact List.mem_cons_of_mem _ g.inb
      · rw [List.mem_singleton.mp z]; simp
    have subB : ∀ a ∈ [b], a ∈ r :: bs := fun a z => List.mem_cons_of_mem _ (sub a z)
    have g6 := g5.kp k6 sub2 a6
    have h7 : Dd (hid (r :: bs) H5) v7 d7 := h7.same (hid_new (cs := []) hr' (Kp.of s5) (by simp))
    have h7 := h7.hk k6 sub2
    -- full
    refine ⟨_, rfl, _, rfl, _, rfl, _, rfl, r :: bs, b, sA, m, ys, nm, _, more, rfl, by omega, g6, b6, by omega, fun v9 d9 H7 k7 a7 b7 h9 L9 => ?_⟩
    obtain ⟨⟨ds9, ed9⟩, sm9⟩ := L9
    obtain ⟨ds8, ed8⟩ := L8
    subst ed7 ed8 ed9
    have h7 := h7.hk k7 subB
    have h8 := h8.hk k7 subB
    have g7 := g6.kp k7 subB a7
    have k07 : Kp [b] H H7 := by
      have z : Kp [b, r] H4 H7 := ((Kp.of s5).trans k6).trans (k7.mono (by simp))
      have z2 : Kp [b] H4 H7 := fun a o hn e => z a o (by
        intro y
        rcases List.mem_cons.mp y with y | y
        · exact hn (by simp [y])
        · rw [List.mem_singleton.mp y, hr'] at e; cases e) e
      exact (k03.trans k4).trans z2
    obtain ⟨a8, xs8, rfl, x8, l8⟩ : ∃ a xs, v8 = .ref a ∧ (hid (r :: bs) H7) a = some (.lst xs) ∧ DdL (hid (r :: bs) H7) xs ds8 := by
      cases h8 with
      | lst ha hl => exact ⟨_, _, rfl, ha, hl⟩
    obtain ⟨a9, xs9, rfl, x9, l9⟩ : ∃ a xs, v9 = .ref a ∧ (hid (r :: bs) H7) a = some (.lst xs) ∧ DdL (hid (r :: bs) H7) xs ds9 := by
      cases h9 with
      | lst ha hl => exact ⟨_, _, rfl, ha, hl⟩
    obtain ⟨a7', xs7, rfl, x7, l7⟩ : ∃ a xs, v7 = .ref a ∧ (hid (r :: bs) H7) a = some (.tup xs) ∧ DdL (hid (r :: bs) H7) xs ds7 := by
      cases h7 with
      | tup ha hl => exact ⟨_, _, rfl, ha, hl⟩
    have T7x : Ta (r :: bs) H7 a7' ds7 := ⟨(hid_some x7).1, xs7, (hid_some x7).2, l7⟩
    have L8x : La (r :: bs) H7 a8 ds8 := ⟨(hid_some x8).1, xs8, (hid_some x8).2, l8⟩
    -- found, first
    refine ⟨_, rfl, _, rfl, _, rfl, _, rfl, a8, xs8, rfl, .inl ⟨SqL.of (hid_le _ _ x8), fun p1 hp1 => ?_⟩⟩
    generalize ep1 : upd H7 p1 _ = Ha
    obtain ⟨sa, da⟩ := nw ep1 hp1
    refine ⟨_, rfl, a9, xs9, rfl, .inl ⟨SqL.of (sa _ _ (hid_le _ _ x9)), fun p2 hp2 => ?_⟩⟩
    generalize ep2 : upd Ha p2 _ = Hb
    obtain ⟨sb, db⟩ := nw ep2 hp2
    refine ⟨by show 5 ≤ sizeLine; decide, fun p3 hp3 => ?_⟩
    generalize ep3 : upd Hb p3 _ = Hc
    obtain ⟨sc, dc⟩ := nw ep3 hp3
    have sac := (sa.trans sb).trans sc
    have alA := a7.same sa
    have alB := alA.same sb
    have first : DdL (hid (r :: bs) Hc) [.ref a7', .ref a8, .ref a9, .ref p1, .ref p2] [.tup ds7, .lst ds8, .lst ds9, .tup ds8, .tup ds9] :=
      .cons (h7.hs sac) (.cons (h8.hs sac) (.cons (h9.hs sac) (.cons ((Dd.newT a7 hp1 sa da l8).hs (sb.trans sc)) (.cons ((Dd.newT alA hp2 sb db (l9.hs sa)).hs sc) .nil))))
    have bc := b7.same sac
    have gc := g7.same sac
    have dcF := dc
    refine ⟨_, rfl, _, _, rfl, rfl, _, rfl, itd (fun hso => ?_) fun hso => ?_⟩
    · refine ⟨_, rfl, _, rfl, _, rfl, _, rfl, _, rfl, by show 4 ≤ sizeLine; decide, fun p4 hp4 => ?_⟩
      generalize ep4 : upd Hc p4 _ = Hd
      obtain ⟨sd, d4⟩ := nw ep4 hp4
      refine ⟨p4, rfl, ⟨_, SqL.of d4⟩, fun l hl => ?_⟩
      have alD := alB.same (sc.trans sd)
      have bd := bc.same sd
      have gd := gc.same sd
      have lb : b ≠ l := bd.ne hl
      have four : DdL (hid (r :: bs) Hd) [.ref a7', .ref a8, .ref a9, .ref a7'] [.tup ds7, .lst ds8, .lst ds9, .tup ds7] :=
        .cons (h7.hs (sac.trans sd)) (.cons (h8.hs (sac.trans sd)) (.cons (h9.hs (sac.trans sd)) (.cons (h7.hs (sac.trans sd)) .nil)))
      have smf : ∀ d ∈ [D.tup ds7, D.lst ds8, D.lst ds9, D.tup ds7], Sm 10000 14 d := by
        intro d hd
        simp only [List.mem_cons, List.not_mem_nil, or_false] at hd
        rcases hd with rfl | rfl | rfl | rfl
        · exact sm7.mono (by decide) (by decide)
        · exact sm8.mono (by omega) (by omega)
        · exact sm9.mono (by decide) (by decide)
        · exact sm7.mono (by decide) (by decide)
      have p4b : p4 ∉ r :: bs := (alB.same sc).new hp4
      refine lcAny (Rd := Vok) (bs := r :: bs) (cs := [b]) (walk_list (K := K) (a := p4)) (fun i H' => Gn (l :: r :: bs) b sA m ys nm H' ∧ Bx b (n + 5000 + 3 * i) H') hl alD subB (by show 4 ≤ 1000; decide) (fun H' k => SqL.of (k _ _ (fun z => ?_) d4)) (fun _ _ _ _ y => y.1) (fun o => ⟨gd.more hl (same_new hl) upd_same, (bd.same (same_new hl)).mono ?_⟩)
        (fun i H' o h => ⟨h.1.kp (cs := [l]) (Kp.atb (by simp)) (by simp) h.1.al.upd, h.2.put lb⟩) (fun _ => rfl) (fun i x H' hi y k a S F kk => ?_) fun xs ds H8 lx k8 a8' S8 d8 hds ok => ?_
      · rcases List.mem_cons.mp z with z | z
        · rw [z] at d4; rw [hl] at d4; cases d4
        · rw [List.mem_singleton.mp z] at p4b; exact p4b (List.mem_cons_of_mem _ g.inb)
      · omega
      · have hi4 : i < 4 := hi
        obtain ⟨d, ed, hd⟩ := (four.same (hid_new (cs := [b]) hl k subB)).at y.2
        exact ⟨_, rfl, x, rfl, _, rfl, _, rfl, l :: r :: bs, b, sA, m, ys, nm, _, x, d, rfl, S.1, S.2, by omega, hd, smf d (List.mem_of_getElem? ed), fun v3 d3 H'' k3 a3 b3 h3 f3 z3 p3 => kk v3 d3 H'' k3 a3 h3 ⟨f3, by omega, by omega⟩ ⟨S.1.kp k3 (fun a z => List.mem_cons_of_mem _ (subB a z)) a3, b3.mono (by omega)⟩⟩
      · have S8b := S8.2
        refine La.cat (bs := r :: bs) (fun a z => a8' a (List.mem_cons_of_mem _ z)) (⟨fun z => ?_, _, k8 _ _ ?_ (sd _ _ dcF), (first.hs sd).same (hid_new hl k8 subB) |>.same hid_more⟩ : La (r :: bs) H8 p3 _) (⟨alD.new hl, xs, d8, hds.same hid_more⟩ : La (r :: bs) H8 l ds) (by rw [← hds.len, lx]; show 5 + 4 ≤ 1000000; decide) fun q5 H9 s9 al9 L9 => ?_
        · exact alA.same sb |>.new hp3 z
        · intro z
          rw [List.mem_singleton.mp z] at hp3
          exact (by have := (b7.same (sa.trans sb)).ne hp3; exact this rfl)
        · refine goR _ _ ⟨dp, sz, more, hdp, hsz, hmo, r :: bs, n + 9000, q5, a7', a8, a9, _, ds7, ds8, _, rfl, fun a z => List.mem_cons_of_mem _ z, al9, (S8b.same s9).mono (by show n + 5000 + 3 * 4 ≤ n + 9000; omega), Nat.le_refl _, ?_, L9, ?_, ?_, ?_, sm7.mono (by decide) (by decide), ?_, sm8.mono (by omega) (by omega)⟩
          · exact ((k07.trans (Kp.of (sac.trans sd))).trans k8).trans (Kp.of s9)
          · exact vok_snoc (first_vok (sm7.mono (by decide) (by decide)) (sm8.mono (by omega) (by omega)) (sm9.mono (by decide) (by decide))) ok
          · rw [List.length_append, ← hds.len, lx]; show 5 + 4 ≤ 9; decide
          · exact (((T7x.same (sac.trans sd)).kp k8 subB).same s9)
          · exact (((L8x.same (sac.trans sd)).kp k8 subB).same s9)
    · refine goR _ _ ⟨dp, sz, more, hdp, hsz, hmo, r :: bs, n + 9000, p3, a7', a8, a9, _, ds7, ds8, _, rfl, fun a z => List.mem_cons_of_mem _ z, (alA.same sb).same sc, bc.mono (by omega), Nat.le_refl _, k07.trans (Kp.of sac), ⟨(alA.same sb).new hp3, _, dcF, first⟩, first_vok (sm7.mono (by decide) (by decide)) (sm8.mono (by omega) (by omega)) (sm9.mono (by decide) (by decide)), (by show 5 ≤ 9; decide), ?_, sm7.mono (by decide) (by decide), ?_, sm8.mono (by omega) (by omega)⟩
      · exact (T7x.same sac)
      · exact (L8x.same sac)
end
end NH
set_option maxHeartbeats 4000000
namespace NH
open PySem PySem.Spec PyProof.Rows L2 TL
/-- Ports(kinds), its question -/
theorem ports_made {C a x dx : Addr} {H : Hp} {xs : List V} {ks : List Kind} {G : VK} (ha : H a = some (.lst xs)) (hk : KindsAt H xs ks) (gk : GoodKinds ks) (nx : H x = none) (nd : H dx = none) (k : ∀ H', Same H H' → PortsAt C H' x ks → G .non H') :
    spInit C (.ref x :: ([.ref a] ++ [])) (upd (upd H dx (.own x)) x (.ins C dx [])) G E0 := by
  have s1 : Same H (upd (upd H dx (.own x)) x (.ins C dx [])) := fun c o e => by
    rw [upd_ne (ne_of_none e nx), upd_ne (ne_of_none e nd)]; exact e
  exact ⟨x, dx, a, xs, ks, rfl, upd_same, s1 _ _ ha, hk.same s1, gk, fun H' P keep => k H' (fun c o e => keep c o (ne_of_none e nx) (s1 c o e)) P⟩
theorem dg_pl : ∀ j : Nat, j < 3 → Pl 1 (dg j) := by
  intro j hj
  have z : ∀ j : Nat, j < 3 → ((tl (dg j)).all fun c => decide (c < 128)) = true ∧ (tl (dg j)).length ≤ 1 := by decide +kernel
  exact ⟨fun c hc => of_decide_eq_true (List.all_eq_true.mp (z j hj).1 c hc), (z j hj).2⟩
theorem sides_pl {ks : List Kind} (g : GoodKinds ks) {x : Str} (h : x ∈ sidesOf ks) : Pl 10 x := by
  obtain ⟨k, hk, hx⟩ : ∃ k ∈ ks, x ∈ sidesK k := by
    unfold sidesOf at h
    obtain ⟨l, hl, hx⟩ := List.mem_flatten.mp h
    obtain ⟨k, hk, rfl⟩ := List.mem_map.mp hl
    exact ⟨k, hk, hx⟩
  obtain ⟨j, hj, rfl⟩ := sidesK_mem.mp hx
  have tw := g.two k hk
  exact ((Ltr.pl (g.ltr k hk).1 (g.ltr k hk).2.2).app (dg_pl j (by omega))).mono (by decide)
/-- what stands beside the box -/
structure Cw (C p s m kl : Addr) (ks : List Kind) (nm ys : List Str) (kx : List V) (H : Hp) : Prop where
  pa : PortsAt C H p ks
  sh : H s = some (.lst (ys.map .str))
  mh : H m = some (.lst (nm.map .str))
  kh : H kl = some (.lst kx)
  ka : KindsAt H kx ks
theorem Cw.same {C p s m kl : Addr} {ks : List Kind} {nm ys : List Str} {kx : List V} {H H' : Hp} (c : Cw C p s m kl ks nm ys kx H) (k : Same H H') : Cw C p s m kl ks nm ys kx H' := ⟨c.pa.same k, k _ _ c.sh, k _ _ c.mh, k _ _ c.kh, c.ka.same k⟩
theorem PortsAt.hidb {C p b : Addr} {n : Nat} {ks : List Kind} {H : Hp} (x : PortsAt C H p ks) (hb : Bx b n H) : PortsAt C (hid [b] H) p ks := by
  obtain ⟨dx, fs, d, kvs, h1, l1, l2, h2, h3⟩ := x.ex
  obtain ⟨o, e, x, f, r, c, rfl, _⟩ := hb
  have n1 : p ≠ b := fun z => by rw [z, e] at h1; cases h1
  have n2 : d ≠ b := fun z => by rw [z, e] at h2; cases h2
  exact ⟨dx, fs, d, kvs, by rw [hid_out (by simpa using n1)]; exact h1, l1, l2, by rw [hid_out (by simpa using n2)]; exact h2, h3⟩
theorem GoodKinds.pos {ks : List Kind} (g : GoodKinds ks) : 0 < (sidesOf ks).length := by
  obtain ⟨k, kr, rfl⟩ : ∃ k kr, ks = k :: kr := by
    have z := g.len.1
    cases ks with
    | nil => exact absurd z (by decide)
    | cons k kr => exact ⟨k, kr, rfl⟩
  have tw := g.two k (by simp)
  have m : k.1 ++ dg 0 ∈ sidesOf (k :: kr) := by
    unfold sidesOf
    exact List.mem_flatten.mpr ⟨_, List.mem_map.mpr ⟨k, by simp, rfl⟩, sidesK_mem.mpr ⟨0, by omega, rfl⟩⟩
  exact List.length_pos_of_mem m
theorem GoodKinds.one {k : Kind} {kr : List Kind} (g : GoodKinds (k :: kr)) : GoodKinds [k] :=
  ⟨⟨by show 1 ≤ 1; decide, by show 1 ≤ 12; decide⟩, fun x h => g.ltr x (by rw [List.mem_singleton.mp h]; simp), fun x h => g.two x (by rw [List.mem_singleton.mp h]; simp), by simp⟩
theorem GoodKinds.turn {k : Kind} {kr : List Kind} (g : GoodKinds (k :: kr)) : GoodKinds ((k.1, 5 - k.2) :: kr) := by
  refine ⟨g.len, fun x h => ?_, fun x h => ?_, g.nd⟩
  · rcases List.mem_cons.mp h with rfl | h
    · exact g.ltr k (by simp)
    · exact g.ltr x (by simp [h])
  · rcases List.mem_cons.mp h with rfl | h
    · have z := g.two k (by simp)
      show 5 - k.2 = 2 ∨ 5 - k.2 = 3
      omega
    · exact g.two x (by simp [h])
def cutD (n : Nat) (ds : List D) : List D := (ds.drop (HT.sIx n 0 none)).take (HT.sIx n n (some 5) - HT.sIx n 0 none)
theorem DdL.cut5 {H : Hp} {xs : List V} {ds : List D} (h : DdL H xs ds) : DdL H (cutV xs none (some 5)) (cutD xs.length ds) := (h.drop _).take _
theorem cutD_mem {n : Nat} {ds : List D} {d : D} (h : d ∈ cutD n ds) : d ∈ ds := List.mem_of_mem_drop (List.mem_of_mem_take h)
section
variable {P : Program} {w : World} {K : PySem.W.Frag} {mg : Str → Option Value} {base : Heap} {C fI fH : Addr}
abbrev s_law_cell_right : Stmt := top 63
theorem sc_law_cell_right : FnScope ["box", "spoil", "by_name", "kinds", "names", "sides", "ports", "values", "less", "fewer", "other", "wrong", "again", "one"] ["box"] (defScope s_law_cell_right) := ⟨rfl, rfl, rfl, by decide +kernel, rfl, by decide +kernel, by decide +kernel⟩
def spCr : Sp := fun vs H Q _ => ∃ (b n : Nat), vs = [.ref b] ∧ Bx b n H ∧ n ≤ 1000 ∧ ∀ H', Kp [b] H H' → Q (.bl true) H'
def Rc1 (C b : Addr) (H : Hp) (σ : L2.St) (H' : Hp) : Prop := ∃ (spoil : Nat) (bn : Bool) (kl m sA p vl nf : Nat) (ks : List Kind) (nm ys : List Str) (kx xs : List V) (ds : List D) (x13 : Option V),
  σ = [some (.ref b), some (.int (spoil : Int)), some (.bl bn), some (.ref kl), some (.ref m), some (.ref sA), some (.ref p), some (.ref vl), none, none, none, none, none, x13] ∧ Kp [b] H H' ∧ Bx b nf H' ∧ nf ≤ 200000 ∧ GoodKinds ks ∧ ys.Perm (sidesOf ks) ∧ nm.length ≤ 2 ∧ (∀ y ∈ nm, Pl 10 y) ∧ Cw C p sA m kl ks nm ys kx (hid [b] H') ∧ hid [b] H' vl = some (.lst xs) ∧ DdL (hid [b] H') xs ds ∧ (∀ d ∈ ds, Vok d) ∧ xs.length ≤ 100
def Rc2 (C b : Addr) (H : Hp) (σ : L2.St) (H' : Hp) : Prop := ∃ (spoil : Nat) (bn : Bool) (kl m sA p vl nf : Nat) (ks : List Kind) (nm ys : List Str) (kx xs : List V) (ds : List D) (x13 : Option V) (ll : Nat) (lk : List Kind) (lv : List V),
  σ = [some (.ref b), some (.int (spoil : Int)), some (.bl bn), some (.ref kl), some (.ref m), some (.ref sA), some (.ref p), some (.ref vl), some (.ref ll), none, none, none, none, x13] ∧ Kp [b] H H' ∧ Bx b nf H' ∧ nf ≤ 200001 ∧ GoodKinds ks ∧ ys.Perm (sidesOf ks) ∧ nm.length ≤ 2 ∧ (∀ y ∈ nm, Pl 10 y) ∧ Cw C p sA m kl ks nm ys kx (hid [b] H') ∧ hid [b] H' vl = some (.lst xs) ∧ DdL (hid [b] H') xs ds ∧ (∀ d ∈ ds, Vok d) ∧ xs.length ≤ 100 ∧
  GoodKinds lk ∧ H' ll = some (.lst lv) ∧ ll ≠ b ∧ KindsAt (hid [b] H') lv lk
theorem ok_law_cell_right (G : Bl mg) (T : PortsC K mg C fI fH) (gI : ∃ fd, Binds K fd ["self", "kinds"] [] ∧ FnOk P w K mg base CX0 8 fI fd ["self", "kinds"] (spInit C)) (DA : DefAt K mg "_law_cell_right" s_law_cell_right) (cT : Callee P w K mg base 2 "_law_take" ["box", "many"] spTake) (cKinds : Callee P w K mg base 6 "_law_kinds" ["box"] spKinds) (cNums : Callee P w K mg base 6 "_law_numbers" ["box"] spNumbers) (cSides : Callee P w K mg base 2 "_law_sides" ["kinds"] spSides)
    (cVa : Callee P w K mg base 18 "_law_values" ["box", "sides", "names", "spoil"] spVa) (cTr : CalleeG P w K mg base 69 "_law_told_right" ["ports", "sides", "names", "value", "by_name"] (spTr C)) : CalleeG P w K mg base 70 "_law_cell_right" ["box"] spCr := by
  obtain ⟨fdI, bI, GI⟩ := gI
  refine calleeG DA sc_law_cell_right (fun vs H Q E h => by obtain ⟨_, _, rfl, _⟩ := h; rfl) (fun _ _ _ _ _ _ us hl => match us, hl with | [_], _ => rfl) fun f cdv A outer s H vs Q E hgu hr h => ?_
  have hgA : (cxOf CX0 P w K mg base ["box", "spoil", "by_name", "kinds", "names", "sides", "ports", "values", "less", "fewer", "other", "wrong", "again", "one"] "_law_cell_right" (defScope s_law_cell_right) f cdv A outer s H E).nox.A.guards = some [] := hgu
  obtain ⟨b, n, rfl, hb, hn, q⟩ := h
  refine cut_at 6 (Rc2 C b H) ⟨_,     (pss_cons (ps_asg (pe_tup (pa_cons (pe_cal cSides hr (by omega) (pa_cons (pv 8) pa_nil)) (pa_cons (pe_make T.mkP GI (hr.mono (by omega)) (by rfl) T.g bI .nil pass0 (pa_cons (pv 8) pa_nil)) pa_nil))) (pg_tup (by rfl) (pgs_cons (pg_name (i := 9) sc_law_cell_right.nd rfl (Or.inr rfl)) (pgs_cons (pg_name (i := 10) sc_law_cell_right.nd rfl (Or.inr rfl)) pgs_nil))))
    (pss_cons (ps_setLc (i := 11) (own := [("one", 13)]) (g := gName 13) rfl sc_law_cell_right.nd rfl rfl (sw_true rfl rfl rfl (by decide +kernel)) (pi_list (pe_slice sl_list (pv 7) po_none (po_some pe_int))) (blkOk_by (N := ["box", "spoil", "by_name", "kinds", "names", "sides", "ports", "values", "less", "fewer", "other", "wrong", "again", "one"]) (sc := defScope s_law_cell_right) (by decide +kernel)) (fun _ _ _ _ _ => (pg_name (i := 13) sc_law_cell_right.nd rfl (Or.inl rfl))) (fun _ _ _ _ _ => (pts_one (pt_not (pt_val (pe_calG cTr hgA hr (by omega) (pa_cons (pv 10) (pa_cons (pv 9) (pa_cons (pe_slice (show SlR _ (rSlL K) from sl_list) (pv 4) po_none (po_some pe_int)) (pa_cons (pv 13) (pa_cons (pe_not (pv 2)) pa_nil)))))))))) (fun _ _ _ _ _ => (pv 13)))
    (pss_cons (ps_setLc (i := 12) (own := [("one", 13)]) (g := gName 13) rfl sc_law_cell_right.nd rfl rfl (sw_true rfl rfl rfl (by decide +kernel)) (pi_list (pv 7)) (blkOk_by (N := ["box", "spoil", "by_name", "kinds", "names", "sides", "ports", "values", "less", "fewer", "other", "wrong", "again", "one"]) (sc := defScope s_law_cell_right) (by decide +kernel)) (fun _ _ _ _ _ => (pg_name (i := 13) sc_law_cell_right.nd rfl (Or.inl rfl))) (fun _ _ _ _ _ => (pts_one (pt_not (pt_val (pe_calG cTr hgA hr (by omega) (pa_cons (pv 6) (pa_cons (pv 5) (pa_cons (pv 4) (pa_cons (pv 13) (pa_cons (pe_not (pv 2)) pa_nil)))))))))) (fun _ _ _ _ _ => (pv 13)))
    (pss_one (ps_ret (pe_and (pe_cmpR (op_eqD hr.units) (pv 11) (pe_lst pa_nil) (nomark _)) (pe_one (pe_cmpR (op_eqD hr.units) (pv 12) (pe_lst pa_nil) (nomark _))))))))), ?_⟩ fun tS hS goS => cut_at 5 (Rc1 C b H) ⟨_,     (pss_cons (ps_set (i := 8) sc_law_cell_right.nd rfl (Or.inl rfl) (pe_ifExp (pt_cmpR op_eq (pe_cal cT hr (by omega) (pa_cons (pv 0) (pa_cons pe_int pa_nil))) pe_int (nomark _)) (pe_slice sl_list (pv 3) po_none (po_some pe_int)) (pe_op op_cat (pe_lst (pa_cons (pe_tup (pa_cons (pe_ix ix_tup (pe_ix ix_list (pv 3) pe_int (fun _ _ => rfl)) pe_int (fun _ _ => rfl)) (pa_cons (pe_op op_sub pe_int (pe_ix ix_tup (pe_ix ix_list (pv 3) pe_int (fun _ _ => rfl)) pe_int (fun _ _ => rfl))) pa_nil))) pa_nil)) (pe_slice sl_list (pv 3) (po_some pe_int) po_none)))) hS), ?_⟩ fun tR hR goR => ⟨_, (pss_cons (ps_asg (pe_tup (pa_cons (pe_cal cT hr (by omega) (pa_cons (pv 0) (pa_cons pe_int pa_nil))) (pa_cons (pe_cmpR op_eq (pe_cal cT hr (by omega) (pa_cons (pv 0) (pa_cons pe_int pa_nil))) pe_int (nomark _)) pa_nil))) (pg_tup (by rfl) (pgs_cons (pg_name (i := 1) sc_law_cell_right.nd rfl (Or.inl rfl)) (pgs_cons (pg_name (i := 2) sc_law_cell_right.nd rfl (Or.inr rfl)) pgs_nil))))
    (pss_cons (ps_asg (pe_tup (pa_cons (pe_cal cKinds hr (by omega) (pa_cons (pv 0) pa_nil)) (pa_cons (pe_cal cNums hr (by omega) (pa_cons (pv 0) pa_nil)) pa_nil))) (pg_tup (by rfl) (pgs_cons (pg_name (i := 3) sc_law_cell_right.nd rfl (Or.inl rfl)) (pgs_cons (pg_name (i := 4) sc_law_cell_right.nd rfl (Or.inr rfl)) pgs_nil))))
    (pss_cons (ps_asg (pe_tup (pa_cons (pe_cal cSides hr (by omega) (pa_cons (pv 3) pa_nil)) (pa_cons (pe_make T.mkP GI (hr.mono (by omega)) (by rfl) T.g bI .nil pass0 (pa_cons (pv 3) pa_nil)) pa_nil))) (pg_tup (by rfl) (pgs_cons (pg_name (i := 5) sc_law_cell_right.nd rfl (Or.inr rfl)) (pgs_cons (pg_name (i := 6) sc_law_cell_right.nd rfl (Or.inr rfl)) pgs_nil))))
    (pss_cons (ps_set (i := 7) sc_law_cell_right.nd rfl (Or.inl rfl) (pe_cal cVa hr (by omega) (pa_cons (pv 0) (pa_cons (pv 5) (pa_cons (pv 4) (pa_cons (pv 1) pa_nil))))))
    (pss_cons (ps_if (pt_cmpR (op_neD hr.units) (pe_lc (own := [("one", 13)]) (g := gName 13) rfl sc_law_cell_right.nd (pi_list (pv 7)) (blkOk_by (N := ["box", "spoil", "by_name", "kinds", "names", "sides", "ports", "values", "less", "fewer", "other", "wrong", "again", "one"]) (sc := defScope s_law_cell_right) (by decide +kernel)) (fun _ _ _ _ _ => (pg_name (i := 13) sc_law_cell_right.nd rfl (Or.inl rfl))) (fun _ _ _ _ _ => (pts_one (pt_not (pt_val (pe_calG cTr hgA hr (by omega) (pa_cons (pv 6) (pa_cons (pv 5) (pa_cons (pv 4) (pa_cons (pv 13) (pa_cons (pv 2) pa_nil)))))))))) (fun _ _ _ _ _ => (pv 13))) (pe_lst pa_nil) (nomark _)) (pss_one (ps_ret pe_bl)) pss_nil) hR))))), ?_⟩
  · rintro σ Hg ⟨spoil, bn, kl, m, sA, p, vl, nf, ks, nm, ys, kx, xs, ds, x13, ll, lk, lv, rfl, k0, bx, hnf, gk, perm, nl, np, cw, dv, hds, ok, lx, gl, dl, lb, kl1⟩
    refine ⟨_, rfl, ll, lv, lk, rfl, dl, kl1.same hid_le, gl.fair, fun fs fy H1 s1 nfs dfs pf => ?_⟩
    refine ⟨_, rfl, fun op od nop nod neo => ports_made (s1 _ _ dl) ((kl1.same hid_le).same s1) gl nop nod fun H2 s2 P2 => ⟨rfl, ?_⟩⟩
    refine ⟨by show 2 ≤ sizeLine; decide, fun p3 hp3 => ?_⟩
    generalize e3 : upd _ p3 _ = H3
    obtain ⟨s3, d3⟩ := nw e3 hp3
    refine ⟨p3, _, rfl, SqT.of d3, rfl, _, _, rfl, _, _, rfl, rfl, ?_⟩
    have s13 := (s1.trans s2).trans s3
    have x3 : Same (hid [b] Hg) H3 := fun a o h => s13 _ _ (hid_le _ _ h)
    have cw3 := cw.same x3
    have dv3 := x3 _ _ dv
    have hds3 := hds.same x3
    have J1 : Jd fs m lk (nm.take 1) H3 → True := fun _ => trivial
    have dfs3 : H3 fs = some (.lst (fy.map .str)) := (s2.trans s3) _ _ dfs
    have P3 := P2.same s3
    refine ⟨_, rfl, 5, rfl, vl, xs, rfl, SqL.of dv3, fun v5 hv5 => ?_⟩
    generalize e4 : upd _ v5 _ = H4
    obtain ⟨s4, d4⟩ := nw e4 hv5
    refine ⟨v5, rfl, ⟨_, SqL.of d4⟩, fun l hl => ?_⟩
    have h5 : DdL H4 (cutV xs none (some 5)) (cutD xs.length ds) := hds3.cut5.same s4
    refine lc_list (K := K) (a := v5) (xs := cutV xs none (some 5)) (fun i H' => Same H4 H' ∧ H' l = some (.lst [])) ⟨same_new hl, upd_same⟩ (fun i H' _ z => SqL.of (z.1 _ _ d4)) ?_ ?_
    · rintro i x H' hx ⟨sx, dx⟩
      obtain ⟨d, ed, hd⟩ := h5.at hx
      have od := ok d (cutD_mem (List.mem_of_getElem? ed))
      refine ⟨rfl, _, rfl, _, rfl, _, rfl, 1, rfl, m, _, rfl, SqL.of (sx _ _ (s4 _ _ cw3.mh)), fun q1 hq1 => ?_⟩
      generalize e5 : upd _ q1 _ = H5
      obtain ⟨s5, d5⟩ := nw e5 hq1
      have e6 : cutV (nm.map V.str) none (some 1) = (nm.take 1).map V.str := by cases nm <;> rfl
      rw [e6] at d5
      have s45 := (s4.trans sx).trans s5
      refine ⟨_, rfl, _, rfl, _, rfl, op, fs, q1, lk, nm.take 1, x, d, _, rfl, P3.same s45, ⟨⟨fy, s45 _ _ dfs3, fun y => pf.mem_iff⟩, d5⟩, fun y hy => np y (List.mem_of_mem_take hy), hd.same (sx.trans s5), od.1, od.2.1, od.2.2, fun H6 s6 => ⟨_, rfl, iteF ⟨(sx.trans s5).trans s6, (s5.trans s6) _ _ dx⟩⟩⟩
    rintro H5 ⟨s5, d5⟩
    refine ⟨_, rfl, vl, rfl, ⟨_, SqL.of (s5 _ _ (s4 _ _ dv3))⟩, fun l2 hl2 => ?_⟩
    have s35 := s4.trans s5
    refine lc_list (K := K) (a := vl) (xs := xs) (fun i H' => Same H5 H' ∧ H' l2 = some (.lst [])) ⟨same_new hl2, upd_same⟩ (fun i H' _ z => SqL.of (z.1 _ _ (s35 _ _ dv3))) ?_ ?_
    · rintro i x H' hx ⟨sx, dx⟩
      obtain ⟨d, ed, hd⟩ := hds3.at hx
      have od := ok d (List.mem_of_getElem? ed)
      have s3x := s35.trans sx
      have cx := cw3.same s3x
      refine ⟨rfl, _, rfl, _, rfl, _, rfl, _, rfl, _, rfl, _, rfl, p, sA, m, ks, nm, x, d, _, rfl, cx.pa, ⟨⟨ys, cx.sh, fun y => perm.mem_iff⟩, cx.mh⟩, np, hd.same s3x, od.1, od.2.1, od.2.2, fun H6 s6 => ⟨_, rfl, iteF ⟨sx.trans s6, s6 _ _ dx⟩⟩⟩
    rintro H6 ⟨s6, d6⟩
    refine ⟨_, rfl, by show 0 ≤ sizeLine; decide, fun pz hpz => ?_⟩
    generalize e7 : upd _ pz _ = H7
    obtain ⟨s7, d7⟩ := nw e7 hpz
    refine ⟨.list [], .list [], .lst (SqL.of ((s6.trans s7) _ _ d5)) .nil, .lst (SqL.of d7) .nil, rfl, rfl, _, rfl, itt rfl ?_⟩
    refine ⟨_, rfl, by show 0 ≤ sizeLine; decide, fun pw hpw => ?_⟩
    generalize e8 : upd _ pw _ = H8
    obtain ⟨s8, d8⟩ := nw e8 hpw
    refine ⟨.list [], .list [], .lst (SqL.of ((s7.trans s8) _ _ d6)) .nil, .lst (SqL.of d8) .nil, rfl, rfl, ?_⟩
    exact q H8 ((k0.trans (Kp.of s13)).trans (Kp.of (((s35.trans s6).trans s7).trans s8)))
  · rintro σ Hf ⟨spoil, bn, kl, m, sA, p, vl, nf, ks, nm, ys, kx, xs, ds, x13, rfl, k0, bx, hnf, gk, perm, nl, np, cw, dv, hds, ok, lx⟩
    refine ⟨_, rfl, ?_⟩
    obtain ⟨o0_, e0_, i0_⟩ := id bx
    refine ⟨_, 2, _, o0_, rfl, e0_, i0_, by omega, by first | decide | omega, by first | decide | omega, fun wy o1_ hwy i1_ => ?_⟩
    generalize eH_ : upd _ _ o1_ = H1
    obtain ⟨k1, b1, oth1⟩ := tkf eH_ i1_
    clear eH_ i1_ i0_ e0_ o0_
    have x1 : Same (hid [b] Hf) (hid [b] H1) := Kp.hid k1
    have cw1 := cw.same x1
    have kh1 := hid_le _ _ cw1.kh
    obtain ⟨k, kr, ek⟩ : ∃ k kr, ks = k :: kr := by
      have z := gk.len.1
      cases h : ks with
      | nil => rw [h] at z; exact absurd z (by decide)
      | cons k kr => exact ⟨k, kr, rfl⟩
    subst ek
    obtain ⟨v, vr, ev, t, rfl, ht, hr1⟩ : ∃ v vr, kx = v :: vr ∧ ∃ t, v = .ref t ∧ hid [b] H1 t = some (.tup [.str k.1, .int (k.2 : Int)]) ∧ KindsAt (hid [b] H1) vr kr := by
      have z := cw1.ka
      cases z with
      | cons h r => obtain ⟨t, e, h⟩ := h; exact ⟨_, _, rfl, t, e, h, r⟩
    subst ev
    refine ⟨rfl, _, rfl, itb (fun e => ?_) fun e => ?_⟩
    · refine ⟨_, rfl, 1, rfl, kl, _, rfl, SqL.of kh1, fun l hl => ?_⟩
      generalize e2 : upd _ l _ = H2
      obtain ⟨s2, d2⟩ := nw e2 hl
      have e3 : cutV (V.ref t :: vr) none (some 1) = [V.ref t] := rfl
      rw [e3] at d2
      have x2 : Same (hid [b] H1) (hid [b] H2) := Kp.hid (Kp.of s2)
      exact goS _ _ ⟨spoil, bn, kl, m, sA, p, vl, _, k :: kr, nm, ys, _, xs, ds, x13, l, [k], [.ref t], rfl, (k0.trans k1).trans (Kp.of s2), b1.same s2, by omega, gk, perm, nl, np, cw1.same x2, x2 _ _ (x1 _ _ dv), (hds.same x1).same x2, ok, lx, gk.one, d2, fun z => b1.ne hl z.symm, .cons ⟨t, rfl, x2 _ _ ht⟩ .nil⟩
    · have ht1 := hid_le _ _ ht
      have tw := gk.two k (by simp)
      refine ⟨_, rfl, kl, _, 0, _, rfl, rfl, SqL.of kh1, at0 _ _, t, _, 0, _, rfl, rfl, SqT.of ht1, at0 _ _, _, rfl, kl, _, 0, _, rfl, rfl, SqL.of kh1, at0 _ _, t, _, 1, _, rfl, rfl, SqT.of ht1, at1 _ _ _, _, _, rfl, rfl, by show 2 ≤ sizeLine; decide, fun p1 hp1 => ?_⟩
      generalize e2 : upd _ p1 _ = H2
      obtain ⟨s2, d2⟩ := nw e2 hp1
      refine ⟨by show 1 ≤ sizeLine; decide, fun p2 hp2 => ?_⟩
      generalize e3 : upd _ p2 _ = H3
      obtain ⟨s3, d3⟩ := nw e3 hp2
      refine ⟨_, rfl, 1, rfl, kl, _, rfl, SqL.of ((s2.trans s3) _ _ kh1), fun p3 hp3 => ?_⟩
      generalize e4 : upd _ p3 _ = H4
      obtain ⟨s4, d4⟩ := nw e4 hp3
      rw [cut1] at d4
      have lvr : vr.length = kr.length := Paired.length hr1
      have lkr := gk.len.2
      rw [List.length_cons] at lkr
      refine ⟨p2, p3, _, _, rfl, rfl, s4 _ _ d3, d4, Nat.le_of_lt (small1000 (by show 1 + vr.length ≤ 1000; omega)), fun l hl => ?_⟩
      generalize e5 : upd _ l _ = H5
      obtain ⟨s5, d5⟩ := nw e5 hl
      have s15 := ((s2.trans s3).trans s4).trans s5
      have x5 : Same (hid [b] H1) (hid [b] H5) := Kp.hid (Kp.of s15)
      have b5 := b1.same s15
      have nb : l ≠ b := fun z => (b1.same ((s2.trans s3).trans s4)).ne hl z.symm
      have n1 : p1 ≠ b := fun z => b1.ne hp1 z.symm
      have i5 : (5 : Int) - (k.2 : Int) = ((5 - k.2 : Nat) : Int) := by omega
      have dp1 : hid [b] H5 p1 = some (.tup [.str k.1, .int ((5 - k.2 : Nat) : Int)]) := by
        rw [hid_out (by simpa using n1), ← i5]
        exact ((s3.trans s4).trans s5) _ _ d2
      exact goS _ _ ⟨spoil, bn, kl, m, sA, p, vl, _, k :: kr, nm, ys, _, xs, ds, x13, l, (k.1, 5 - k.2) :: kr, .ref p1 :: vr, rfl, (k0.trans k1).trans (Kp.of s15), b5, by omega, gk, perm, nl, np, cw1.same x5, x5 _ _ (x1 _ _ dv), (hds.same x1).same x5, ok, lx, gk.turn, d5, nb, .cons ⟨p1, rfl, dp1⟩ (hr1.same x5)⟩
  · refine ⟨_, rfl, ?_⟩
    obtain ⟨o0_, e0_, i0_⟩ := id hb
    refine ⟨_, 3, _, o0_, rfl, e0_, i0_, by omega, by first | decide | omega, by first | decide | omega, fun spoil o1_ hsp i1_ => ?_⟩
    generalize eH_ : upd _ _ o1_ = H1
    obtain ⟨k1, b1, oth1⟩ := tkf eH_ i1_
    clear eH_ i1_ i0_ e0_ o0_
    refine ⟨_, rfl, ?_⟩
    obtain ⟨o0_, e0_, i0_⟩ := id b1
    refine ⟨_, 2, _, o0_, rfl, e0_, i0_, by omega, by first | decide | omega, by first | decide | omega, fun bv o1_ hbv i1_ => ?_⟩
    generalize eH_ : upd _ _ o1_ = H2
    obtain ⟨k2, b2, oth2⟩ := tkf eH_ i1_
    clear eH_ i1_ i0_ e0_ o0_
    refine ⟨rfl, by show 2 ≤ sizeLine; decide, fun p1 hp1 => ?_⟩
    generalize e3 : upd _ p1 _ = H3
    obtain ⟨s3, d3⟩ := nw e3 hp1
    refine ⟨p1, _, rfl, SqT.of d3, rfl, _, _, rfl, _, _, rfl, rfl, ?_⟩
    have b3 := b2.same s3
    refine ⟨_, rfl, b, _, rfl, b3, by omega, fun kl kx ks H4 hk4 ka4 gk k4 b4 => ?_⟩
    refine ⟨_, rfl, b, _, rfl, b4, by omega, fun m nm H5 nl np k5 b5 mb mnew dm => ?_⟩
    refine ⟨by show 2 ≤ sizeLine; decide, fun p2 hp2 => ?_⟩
    generalize e6 : upd _ p2 _ = H6
    obtain ⟨s6, d6⟩ := nw e6 hp2
    refine ⟨p2, _, rfl, SqT.of d6, rfl, _, _, rfl, _, _, rfl, rfl, ?_⟩
    have x6 : Same (hid [b] H4) (hid [b] H6) := Kp.hid (k5.trans (Kp.of s6))
    have b6 := b5.same s6
    refine ⟨_, rfl, kl, kx, ks, rfl, hid_le _ _ (x6 _ _ hk4), (ka4.same x6).same hid_le, gk.fair, fun sA ys H7 s7 ns dS perm => ?_⟩
    refine ⟨_, rfl, fun p od nop nod neo => ports_made (s7 _ _ (hid_le _ _ (x6 _ _ hk4))) (((ka4.same x6).same hid_le).same s7) gk nop nod fun H8 s8 P8 => ⟨rfl, ?_⟩⟩
    refine ⟨by show 2 ≤ sizeLine; decide, fun p3 hp3 => ?_⟩
    generalize e9 : upd _ p3 _ = H9
    obtain ⟨s9, d9⟩ := nw e9 hp3
    refine ⟨p3, _, rfl, SqT.of d9, rfl, _, _, rfl, _, _, rfl, rfl, ?_⟩
    have s69 := (s7.trans s8).trans s9
    have b9 := b6.same s69
    have x9 : Same (hid [b] H4) (hid [b] H9) := x6.trans (Kp.hid (Kp.of s69))
    have sb : sA ≠ b := fun z => b6.ne ns z.symm
    have cw : Cw C p sA m kl ks nm ys kx (hid [b] H9) := ⟨(P8.same s9).hidb b9, by rw [hid_out (by simpa using sb)]; exact (s8.trans s9) _ _ dS, by rw [hid_out (by simpa using mb)]; exact (s6.trans s69) _ _ dm, x9 _ _ hk4, ka4.same x9⟩
    have ylen := perm.length_eq
    have y1 := sides_len gk.fair.two
    have y2 := gk.len
    have ypos : 0 < ys.length := by rw [ylen]; exact gk.pos
    have g9 : Gn [b] b sA m ys nm H9 := ⟨by simp, fun a z => by rw [List.mem_singleton.mp z]; obtain ⟨o, e, _⟩ := b9; exact ⟨o, e⟩, by simpa using sb, hid_le _ _ cw.sh, by simpa using mb, hid_le _ _ cw.mh, ypos, by omega, nl, fun y hy => sides_pl gk (perm.mem_iff.mp hy), np⟩
    refine ⟨_, rfl, _, rfl, _, rfl, _, rfl, [b], b, sA, m, ys, nm, _, (spoil : Int), rfl, g9, b9, by omega, fun vl ds H10 k10 a10 b10 L10 ok ln => ?_⟩
    obtain ⟨nvl, xs, dvl, hxs⟩ := L10
    have lx : xs.length ≤ 100 := by rw [hxs.len]; exact ln
    have cw10 := cw.same (Kp.hid k10)
    have hv10 : hid [b] H10 vl = some (.lst xs) := by rw [hid_out nvl]; exact dvl
    refine ⟨_, rfl, vl, rfl, ⟨xs, SqL.of dvl⟩, fun l hl => ?_⟩
    refine lc_list (K := K) (a := vl) (xs := xs) (fun i H' => Same H10 H' ∧ H' l = some (.lst [])) ⟨same_new hl, upd_same⟩ (fun i H' _ z => SqL.of (z.1 _ _ dvl)) ?_ ?_
    · rintro i x H' hx ⟨sx, dx⟩
      obtain ⟨d, ed, hd⟩ := hxs.at hx
      have od := ok d (List.mem_of_getElem? ed)
      have sx2 : Same (hid [b] H10) H' := fun a o h => sx _ _ (hid_le _ _ h)
      have cx := cw10.same sx2
      refine ⟨rfl, _, rfl, _, rfl, _, rfl, _, rfl, _, rfl, p, sA, m, ks, nm, x, d, _, rfl, cx.pa, ⟨⟨ys, cx.sh, fun y => perm.mem_iff⟩, cx.mh⟩, np, hd.same sx2, od.1, od.2.1, od.2.2, fun H6 s6 => ⟨_, rfl, iteF ⟨sx.trans s6, s6 _ _ dx⟩⟩⟩
    rintro H11 ⟨s11, d11⟩
    refine ⟨by show 0 ≤ sizeLine; decide, fun pz hpz => ?_⟩
    generalize e12 : upd _ pz _ = H12
    obtain ⟨s12, d12⟩ := nw e12 hpz
    refine ⟨.list [], .list [], .lst (SqL.of (s12 _ _ d11)) .nil, .lst (SqL.of d12) .nil, rfl, rfl, _, rfl, itf rfl ?_⟩
    have sz := s11.trans s12
    have xz : Same (hid [b] H10) (hid [b] H12) := Kp.hid (Kp.of sz)
    have kall : Kp [b] H H12 := (((((k1.trans k2).trans (Kp.of s3)).trans k4).trans k5).trans (Kp.of (s6.trans s69))).trans (k10.trans (Kp.of sz))
    exact goR _ _ ⟨spoil, _, kl, m, sA, p, vl, 200000, ks, nm, ys, kx, xs, ds, _, rfl, kall, (b10.same sz).mono (by omega), Nat.le_refl _, gk, perm, nl, np, cw10.same xz, xz _ _ hv10, hxs.same xz, ok, lx⟩
end
end NH
set_option maxHeartbeats 4000000
namespace NH
open PySem PySem.Spec PyProof.Rows L2 TL
section
variable {P : Program} {w : World} {K : PySem.W.Frag} {mg : Str → Option Value} {base : Heap} {f : Addr} {fd : FuncData}
abbrev s_law : Stmt := top 64
theorem sc_law : FnScope ["script", "k"] ["script"] (defScope s_law) := ⟨rfl, rfl, rfl, by decide +kernel, rfl, by decide +kernel, by decide +kernel⟩
def spLaw (K : PySem.W.Frag) : Sp := fun vs H Q _ => ∃ (a : Addr) (ns : List Int), vs = [.ref a] ∧ SqL K H a (ns.map V.int) ∧ ns.length ≤ 63 ∧ ∀ H', Q (.bl true) H'
theorem ok_law (G : Bl mg) (F : FunD K "law" "law" (defArgs s_law) (defBody s_law) (defScope s_law) [] [] f fd) (cCell : Callee P w K mg base 2 "_law_cell" ["script", "k"] (spCell K)) (cBox : Callee P w K mg base 2 "_law_box" ["great"] spBox) (cCr : CalleeG P w K mg base 70 "_law_cell_right" ["box"] spCr) : FnG P w K mg base 71 f fd ["script"] (spLaw K) := by
  refine FnG.make F sc_law (fun vs H Q E h => by obtain ⟨_, _, rfl, _⟩ := h; rfl) fun cdv A outer s H vs Q E hgu hr h => ?_
  have hgA : (cxOf CX0 P w K mg base ["script", "k"] "law" (defScope s_law) f cdv A outer s H E).nox.A.guards = some [] := hgu
  obtain ⟨a, ns, rfl, hS, hl, q⟩ := h
  refine ⟨_, PSs.nox (pss_cons (ps_for PassesOwn.never rfl (pi_range1 (by rfl) G.b_range (pa_cons (pe_callB (call_max2 rfl) (by rfl) G.b_max (by decide +kernel) (pa_cons pe_int (pa_cons (pe_callB (call_min2 rfl) (by rfl) G.b_min (by decide +kernel) (pa_cons pe_int (pa_cons (pe_callB call_len_seq (by rfl) G.b_len (by decide +kernel) (pa_cons (pv 0) pa_nil)) pa_nil))) pa_nil))) pa_nil)) (pg_name (i := 1) sc_law.nd rfl (Or.inl rfl)) (pss_one (ps_if (pt_not (pt_val (pe_calG cCr hgA hr (by omega) (pa_cons (pe_cal cBox hr (by omega) (pa_cons (pe_cal cCell hr (by omega) (pa_cons (pv 0) (pa_cons (pv 1) pa_nil))) pa_nil)) pa_nil)))) (pss_one (ps_ret pe_bl)) pss_nil)))
    (pss_one (ps_ret pe_bl))), ?_⟩
  refine ⟨_, rfl, a, _, rfl, .inl hS, ?_⟩
  obtain ⟨N, eN, hN⟩ : ∃ N : Nat, (if (if ((ns.map V.int).length : Int) < 5 then ((ns.map V.int).length : Int) else 5) > 2 then (if ((ns.map V.int).length : Int) < 5 then ((ns.map V.int).length : Int) else 5) else 2) = (N : Int) ∧ N ≤ 5 := by
    rw [List.length_map]
    by_cases h : (ns.length : Int) < 5
    · rw [if_pos h]
      by_cases g : (ns.length : Int) > 2
      · exact ⟨ns.length, by rw [if_pos g], by omega⟩
      · exact ⟨2, by rw [if_neg g]; rfl, by decide⟩
    · rw [if_neg h]; exact ⟨5, by rw [if_pos (by decide)]; rfl, by decide⟩
  refine ⟨_, _, rfl, _, _, rfl, ?_⟩
  rw [eN]
  refine ⟨_, rfl, by omega, by omega, ?_⟩
  refine for_range (lo := 0) (n := N) (fun i σ H' => ∃ x1, σ = [some (.ref a), x1] ∧ SqL K H' a (ns.map V.int)) ⟨none, rfl, hS⟩ ?_ ?_
  · rintro i σ H1 hi ⟨x1, rfl, h1⟩
    refine ⟨_, rfl, _, rfl, a, ns, i, by show [V.ref a, V.int (0 + (i : Int))] = _; rw [Int.zero_add], h1, hl, fun z H2 s2 => ?_⟩
    refine ⟨z, rfl, fun p o hp ib => ?_⟩
    refine ⟨p, 0, rfl, ⟨o, upd_same, ib⟩, by decide, fun H3 k3 => ⟨_, rfl, iteF ⟨_, rfl, ?_⟩⟩⟩
    have x2 : Same H2 (hid [p] (upd H2 p o)) := fun c u e => by
      have n := ne_of_none e hp
      rw [hid_out (by simpa using n), upd_ne n]; exact e
    exact (((s2.trans x2).trans (Kp.hid k3)).trans hid_le).seq h1
  · rintro σ H1 ⟨x1, rfl, h1⟩
    exact q H1
end
end NH
set_option maxHeartbeats 4000000
namespace NH
open PySem PySem.Spec PyProof.Rows L2 TL
section
variable {P : Program} {w : World} {K : PySem.W.Frag} {mg : Str → Option Value} {base : Heap} {C fI fH f : Addr} {fd : FuncData}
theorem Callee.weak {k : Nat} {x : Str} {ps : List Str} {sp sp2 : Sp} (c : Callee P w K mg base k x ps sp) (h : ∀ vs H Q E, sp2 vs H Q E → sp vs H Q E) : Callee P w K mg base k x ps sp2 := by
  obtain ⟨f, fd, hm, hk, hb, F⟩ := c.ex
  exact ⟨f, fd, hm, hk, hb, ⟨fun vs H Q E z => F.len vs H Q E (h _ _ _ _ z), fun A ou s H ar us vs Q E hr e0 bnd rel z => F.run A ou s H ar us vs Q E hr e0 bnd rel (h _ _ _ _ z)⟩⟩
structure Defs (K : PySem.W.Frag) (mg : Str → Option Value) : Prop where
  d_is_integer : DefAt K mg "is_integer" s_is_integer
  d_is_between : DefAt K mg "is_between" s_is_between
  d_is_list : DefAt K mg "is_list" s_is_list
  d_is_pair : DefAt K mg "is_pair" s_is_pair
  d_is_name : DefAt K mg "is_name" s_is_name
  d_are_different : DefAt K mg "are_different" s_are_different
  d_is_condition : DefAt K mg "is_condition" s_is_condition
  d_is_steps : DefAt K mg "is_steps" s_is_steps
  d_u_condition : DefAt K mg "_is_condition" s_u_condition
  d_is_amount : DefAt K mg "_is_amount" s_is_amount
  d_u_steps : DefAt K mg "_are_steps" s_u_steps
  d_u_step : DefAt K mg "_is_step" s_u_step
  d_u_citems : DefAt K mg "_count_items" s_u_citems
  d_u_cinner : DefAt K mg "_count_inner" s_u_cinner
  d_are_kinds : DefAt K mg "_are_kinds" s_are_kinds
  d_is_kind : DefAt K mg "_is_kind" s_is_kind
  d_sides_of : DefAt K mg "_sides_of" s_sides_of
  d_without : DefAt K mg "_without" s_without
  d_cell : DefAt K mg "_law_cell" s_law_cell
  d_box : DefAt K mg "_law_box" s_law_box
  d_take : DefAt K mg "_law_take" s_law_take
  d_letters : DefAt K mg "_law_letters" s_law_letters
  d_kinds : DefAt K mg "_law_kinds" s_law_kinds
  d_sides : DefAt K mg "_law_sides" s_law_sides
  d_number : DefAt K mg "_law_number" s_law_number
  d_numbers : DefAt K mg "_law_numbers" s_law_numbers
  d_amount : DefAt K mg "_law_amount" s_law_amount
  d_condition : DefAt K mg "_law_condition" s_law_condition
  d_plain : DefAt K mg "_law_plain" s_law_plain
  d_item : DefAt K mg "_law_item" s_law_item
  d_steps : DefAt K mg "_law_steps" s_law_steps
  d_full : DefAt K mg "_law_full" s_law_full
  d_paths : DefAt K mg "_law_paths" s_law_paths
  d_with : DefAt K mg "_law_with" s_law_with
  d_changed : DefAt K mg "_law_changed" s_law_changed
  d_amount_due : DefAt K mg "_law_amount_due" s_law_amount_due
  d_deep : DefAt K mg "_law_deep" s_law_deep
  d_condition_due : DefAt K mg "_law_condition_due" s_law_condition_due
  d_within : DefAt K mg "_law_within" s_law_within
  d_size : DefAt K mg "_law_size" s_law_size
  d_steps_due : DefAt K mg "_law_steps_due" s_law_steps_due
  d_yes : DefAt K mg "_law_yes" s_law_yes
  d_told_right : DefAt K mg "_law_told_right" s_law_told_right
  d_values : DefAt K mg "_law_values" s_law_values
  d_cell_right : DefAt K mg "_law_cell_right" s_law_cell_right
theorem all_ok (G : Bl mg) (D : Defs K mg) (T : PortsC K mg C fI fH) (PT : PartsT K w mg) (TC : TupT K mg "COMPARING" isAb) (TG : TupT K mg "CHANGING" chg)
    (n4 : NumT mg "DEEPEST_CONDITION" 4) (n3 : NumT mg "DEEPEST_STEPS" 3) (n6 : NumT mg "MOST_STEPS" 6) (n24 : NumT mg "MOST_ITEMS" 24) (n12 : ∃ t, mg "MOST_KINDS" = some (.int 12 t)) (nl : ∃ t, mg "MOST_LETTERS" = some (.int 4 t)) (gL : ∃ t, mg "LETTERS" = some (.str abc t))
    (FI : ∃ fd, FunD K "__init__" "Ports.__init__" (defArgs s_init) (defBody s_init) (defScope s_init) [] [] fI fd) (FH : ∃ fd, FunD K "has" "Ports.has" (defArgs s_has) (defBody s_has) (defScope s_has) [] [] fH fd)
    (sm : ∃ o, base.get? sysModules = some o) (F : FunD K "law" "law" (defArgs s_law) (defBody s_law) (defScope s_law) [] [] f fd) : FnG P w K mg base 71 f fd ["script"] (spLaw K) := by
  have cT : Callee P w K mg base 2 "_law_take" ["box", "many"] spTake := ok_law_take G D.d_take
  have cL := ok_law_letters G D.d_letters cT
  have cKinds := ok_law_kinds G D.d_kinds cT cL
  have cSides : Callee P w K mg base 2 "_law_sides" ["kinds"] spSides := ok_law_sides G D.d_sides
  have cNum := ok_law_number G D.d_number cT cL
  have cNums := ok_law_numbers G D.d_numbers cT cNum
  have cAm := ok_law_amount G D.d_amount cT
  have cCo := ok_law_condition G D.d_condition cT cAm
  have cPl := ok_law_plain G D.d_plain cT cAm
  have s0 : Callee P w K mg base 8 "_law_steps" ["box", "sides", "names", "deep", "room"] (spSt 0) := ok_law_steps0 7 D.d_steps
  have s1 := ok_law_steps 0 G D.d_steps cT (ok_law_item 0 G D.d_item cT cPl (cCo 3) s0)
  have s2 := ok_law_steps 1 G D.d_steps cT (ok_law_item 1 G D.d_item cT cPl (cCo 3) s1)
  have s3 := ok_law_steps 2 G D.d_steps cT (ok_law_item 2 G D.d_item cT cPl (cCo 3) s2)
  have s4 := ok_law_steps 3 G D.d_steps cT (ok_law_item 3 G D.d_item cT cPl (cCo 3) s3)
  have cSt : ∀ i, Callee P w K mg base 16 "_law_steps" ["box", "sides", "names", "deep", "room"] (fun vs H Q E => i ≤ 4 ∧ spSt i vs H Q E) := fun i => by
    match i with
    | 0 => exact (s0.mono (by decide)).weak fun _ _ _ _ z => z.2
    | 1 => exact (s1.mono (by decide)).weak fun _ _ _ _ z => z.2
    | 2 => exact (s2.mono (by decide)).weak fun _ _ _ _ z => z.2
    | 3 => exact (s3.mono (by decide)).weak fun _ _ _ _ z => z.2
    | 4 => exact (s4.mono (by decide)).weak fun _ _ _ _ z => z.2
    | j + 5 => exact (s0.mono (by decide)).weak fun _ _ _ _ z => absurd z.1 (by omega)
  have cFu := ok_law_full G D.d_full cPl (cCo 4)
  have cPa : Callee P w K mg base 2 "_law_paths" ["value"] spPa := ok_law_paths G D.d_paths
  have cWi : Callee P w K mg base 16 "_law_with" ["value", "path", "new"] (spWi 14) := ok_law_with G D.d_with 14
  have cCh := ok_law_changed G D.d_changed cT cPa cWi
  have cVa := ok_law_values G D.d_values cT (cCo 5) cSt cFu cCh
  have cAd : Callee P w K mg base 1 "_law_amount_due" ["sides", "names", "value"] spAd := ok_law_amount_due G D.d_amount_due
  have cDe := ok_law_deep G D.d_deep cAd 31
  have cCd := ok_law_condition_due D.d_condition_due cDe
  have cWn := ok_law_within G D.d_within cAd cCd
  have cSz := ok_law_size G D.d_size cWn 31 (by decide)
  have cSd := ok_law_steps_due D.d_steps_due cSz
  have cYe : Callee P w K mg base 1 "_law_yes" ["answer", "due"] spYes := ok_law_yes D.d_yes
  -- the program
  have cIi : Callee P w K mg base 1 "is_integer" ["value"] spInt := ok_is_integer G D.d_is_integer
  have cBt := ok_is_between cIi D.d_is_between
  have cIl : Callee P w K mg base 2 "is_list" ["value"] spIsl := ok_is_list G D.d_is_list
  have cIp : Callee P w K mg base 2 "is_pair" ["value"] spPair := ok_is_pair G D.d_is_pair
  have cIn : Callee P w K mg base 2 "is_name" ["value", "most"] spName := ok_is_name G gL D.d_is_name
  have cDf : Callee P w K mg base 2 "are_different" ["items"] (spDiff K) := ok_are_different G D.d_are_different
  have cIk := ok_is_kind nl D.d_is_kind cIp cIn cBt
  have cAk := ok_are_kinds G n12 D.d_are_kinds cIl cDf cIk
  have cSo : Callee P w K mg base 2 "_sides_of" ["name", "many"] spSo := ok_sides_of G D.d_sides_of
  have cWo : Callee P w K mg base 2 "_without" ["sides", "side"] (spWout K) := ok_without G D.d_without
  have gI := ok_init (P := P) (w := w) (base := base) G T FI cAk cSo cWo
  have gH := ok_has (P := P) (w := w) (base := base) G T FH
  have cUa := ok_is_amount G T D.d_is_amount cBt gH
  have cUc := ok_u_condition G T PT TC D.d_u_condition cUa 4
  have cIc := ok_is_condition n4 D.d_is_condition cUc
  have kIc := ok_is_conditionK n4 D.d_is_condition cUc
  have u0 : Callee P w K mg base 11 "_are_steps" ["ports", "numbers", "value", "deepest"] (spUs C 0) := ok_u_steps0 10 (by decide) G n6 D.d_u_steps D.d_u_step cIl
  have u1 := ok_u_steps1 0 12 (by decide) G n6 D.d_u_steps cIl (ok_u_step 0 11 (by decide) G TG D.d_u_step cBt cUa cIc u0)
  have u2 := ok_u_steps1 1 14 (by decide) G n6 D.d_u_steps cIl (ok_u_step 1 13 (by decide) G TG D.d_u_step cBt cUa cIc u1)
  have u3 := ok_u_steps1 2 16 (by decide) G n6 D.d_u_steps cIl (ok_u_step 2 15 (by decide) G TG D.d_u_step cBt cUa cIc u2)
  have i0 : Callee P w K mg base 4 "_count_items" ["steps"] (spCi 0) := ok_u_citems0 3 D.d_u_citems
  have i1 := ok_u_citems 0 5 G D.d_u_citems (ok_u_cinner 0 4 G TG D.d_u_cinner i0)
  have i2 := ok_u_citems 1 7 G D.d_u_citems (ok_u_cinner 1 6 G TG D.d_u_cinner i1)
  have i3 := ok_u_citems 2 9 G D.d_u_citems (ok_u_cinner 2 8 G TG D.d_u_cinner i2)
  have u3' : Callee P w K mg base 18 "_are_steps" ["ports", "numbers", "value", "deepest"] (spUs C 3) := u3.mono (by decide)
  have cIs := ok_is_steps 18 (by decide) n3 n24 D.d_is_steps u3' i3
  have kIs := ok_is_stepsK 18 (by decide) n3 n24 D.d_is_steps u3' i3
  have cTr := ok_law_told_right G G.b_repr sm D.d_told_right cCd cSd cIc cIs kIc kIs cYe
  have cCr := ok_law_cell_right G T gI D.d_cell_right cT cKinds cNums cSides cVa cTr
  exact ok_law G F (ok_law_cell G D.d_cell) (ok_law_box G D.d_box) cCr
end
end NH
set_option maxHeartbeats 0
namespace NH
open PySem PySem.Spec PyProof.Rows L2 TL
/-- a key that a table has not -/
theorem no_key {K : PySem.W.Frag} {P : Params} {a : Addr} {ks : List Str} (h : He.dicW K a = some (He.keysIn P ks)) {z : Str} (hz : z ∉ ks) : PySem.W.nsIn K a z = some none := by
  unfold He.dicW at h
  split at h
  · rename_i c es n sl hl
    split at h
    · have h := Option.some.inj h
      have hk : ∀ e ∈ es.toList, ∃ k ∈ ks, ∃ t, e.key = .str k t := fun e he => by
        have m : He.keyOf e ∈ He.keysIn P ks := h ▸ List.mem_map.mpr ⟨e, he, rfl⟩
        obtain ⟨k, hk, e2⟩ := List.mem_map.mp m
        unfold He.keyOf at e2
        split at e2
        · rename_i x t q
          have h4 := Option.some.inj e2
          exact ⟨k, hk, t, by rw [(Prod.mk.inj h4).1]; exact q⟩
        · cases e2
      unfold PySem.W.nsIn
      rw [hl]
      show (match es.toList.find? (·.key.isStr z) with
        | some e => some (some e.val)
        | none => if es.toList.any (·.refKey) then none else some none) = some none
      have f1 : es.toList.find? (·.key.isStr z) = none := by
        rw [List.find?_eq_none]
        intro e he
        obtain ⟨k, hkk, t, q⟩ := hk e he
        rw [q]
        intro y
        have y : (k == z) = true := y
        rw [beq_iff_eq] at y
        exact hz (y ▸ hkk)
      have f2 : es.toList.any (·.refKey) = false := by
        rw [List.any_eq_false]
        intro e he
        obtain ⟨k, hkk, t, q⟩ := hk e he
        unfold DictEntry.refKey
        rw [q]
        intro y; cases y
      rw [f1, f2]; rfl
    · cases h
  · cases h

theorem facts {P : Program} {w : World} {K : PySem.W.Frag} {h : Heap} {mg : Str → Option Value} {f : Addr} (X : K.In h) (Gn : h.Ns mainGlobals mg) (hlaw : mg ("law" : Str) = some (.ref f)) (c : SaysM w K) :
    ∃ fd : FuncData, (∀ (s : Shared) (v : Value), BindsTo s fd ⟨[v], []⟩ [("script", v)]) ∧ ∀ base : Heap, K.In base → base.Ns mainGlobals mg → FnG P w K mg base 71 f fd ["script"] (spLaw K) := by
  have c0 : He.SaysT hfa hfn tabs w K := congrArg (fun z : AlM => z.1) c
  have c1 := c0.d
  have cx : exM K = true := congrArg (fun z : AlM => z.2) c
  obtain ⟨x1, cx⟩ := He.ba cx
  obtain ⟨x2, cx⟩ := He.ba cx
  obtain ⟨x3, x4⟩ := He.ba cx
  have glo : ∀ {x : Str}, (He.Fa.glo x).ok K = true → mg x = some (.ref (He.ga K x)) := fun z => He.glo_ok X Gn z
  have G : Bl mg := { b_ValueError := He.free_ok X Gn (c1.fact 50 (f := .free "ValueError") rfl), b_abs := He.free_ok X Gn (c1.fact 51 (f := .free "abs") rfl), b_all := He.free_ok X Gn (c1.fact 52 (f := .free "all") rfl), b_bool := He.free_ok X Gn (c1.fact 53 (f := .free "bool") rfl), b_int := He.free_ok X Gn (c1.fact 54 (f := .free "int") rfl), b_isinstance := He.free_ok X Gn (c1.fact 55 (f := .free "isinstance") rfl), b_len := He.free_ok X Gn (c1.fact 56 (f := .free "len") rfl), b_list := He.free_ok X Gn (c1.fact 57 (f := .free "list") rfl), b_max := He.free_ok X Gn (c1.fact 58 (f := .free "max") rfl), b_min := He.free_ok X Gn (c1.fact 59 (f := .free "min") rfl), b_range := He.free_ok X Gn (c1.fact 60 (f := .free "range") rfl), b_repr := He.free_ok X Gn (c1.fact 61 (f := .free "repr") rfl), b_set := He.free_ok X Gn (c1.fact 62 (f := .free "set") rfl), b_sorted := He.free_ok X Gn (c1.fact 63 (f := .free "sorted") rfl), b_str := He.free_ok X Gn (c1.fact 64 (f := .free "str") rfl), b_sum := He.free_ok X Gn (c1.fact 65 (f := .free "sum") rfl), b_tuple := He.free_ok X Gn (c1.fact 66 (f := .free "tuple") rfl) }
  have D : Defs K mg := { d_is_integer := ⟨glo (c1.fact 0 (f := .glo "is_integer") rfl), c1.def_ 0 rfl⟩, d_is_between := ⟨glo (c1.fact 1 (f := .glo "is_between") rfl), c1.def_ 1 rfl⟩, d_is_list := ⟨glo (c1.fact 2 (f := .glo "is_list") rfl), c1.def_ 2 rfl⟩, d_is_pair := ⟨glo (c1.fact 3 (f := .glo "is_pair") rfl), c1.def_ 3 rfl⟩, d_is_name := ⟨glo (c1.fact 4 (f := .glo "is_name") rfl), c1.def_ 4 rfl⟩, d_are_different := ⟨glo (c1.fact 5 (f := .glo "are_different") rfl), c1.def_ 5 rfl⟩, d_is_condition := ⟨glo (c1.fact 6 (f := .glo "is_condition") rfl), c1.def_ 6 rfl⟩, d_is_steps := ⟨glo (c1.fact 7 (f := .glo "is_steps") rfl), c1.def_ 7 rfl⟩, d_u_condition := ⟨glo (c1.fact 8 (f := .glo "_is_condition") rfl), c1.def_ 8 rfl⟩, d_is_amount := ⟨glo (c1.fact 9 (f := .glo "_is_amount") rfl), c1.def_ 9 rfl⟩, d_u_steps := ⟨glo (c1.fact 10 (f := .glo "_are_steps") rfl), c1.def_ 10 rfl⟩, d_u_step := ⟨glo (c1.fact 11 (f := .glo "_is_step") rfl), c1.def_ 11 rfl⟩, d_u_citems := ⟨glo (c1.fact 12 (f := .glo "_count_items") rfl), c1.def_ 12 rfl⟩, d_u_cinner := ⟨glo (c1.fact 13 (f := .glo "_count_inner") rfl), c1.def_ 13 rfl⟩, d_are_kinds := ⟨glo (c1.fact 14 (f := .glo "_are_kinds") rfl), c1.def_ 14 rfl⟩, d_is_kind := ⟨glo (c1.fact 15 (f := .glo "_is_kind") rfl), c1.def_ 15 rfl⟩, d_sides_of := ⟨glo (c1.fact 16 (f := .glo "_sides_of") rfl), c1.def_ 16 rfl⟩, d_without := ⟨glo (c1.fact 17 (f := .glo "_without") rfl), c1.def_ 17 rfl⟩, d_cell := ⟨glo (c1.fact 18 (f := .glo "_law_cell") rfl), c1.def_ 18 rfl⟩, d_box := ⟨glo (c1.fact 19 (f := .glo "_law_box") rfl), c1.def_ 19 rfl⟩, d_take := ⟨glo (c1.fact 20 (f := .glo "_law_take") rfl), c1.def_ 20 rfl⟩, d_letters := ⟨glo (c1.fact 21 (f := .glo "_law_letters") rfl), c1.def_ 21 rfl⟩, d_kinds := ⟨glo (c1.fact 22 (f := .glo "_law_kinds") rfl), c1.def_ 22 rfl⟩, d_sides := ⟨glo (c1.fact 23 (f := .glo "_law_sides") rfl), c1.def_ 23 rfl⟩, d_number := ⟨glo (c1.fact 24 (f := .glo "_law_number") rfl), c1.def_ 24 rfl⟩, d_numbers := ⟨glo (c1.fact 25 (f := .glo "_law_numbers") rfl), c1.def_ 25 rfl⟩, d_amount := ⟨glo (c1.fact 26 (f := .glo "_law_amount") rfl), c1.def_ 26 rfl⟩, d_condition := ⟨glo (c1.fact 27 (f := .glo "_law_condition") rfl), c1.def_ 27 rfl⟩, d_plain := ⟨glo (c1.fact 28 (f := .glo "_law_plain") rfl), c1.def_ 28 rfl⟩, d_item := ⟨glo (c1.fact 29 (f := .glo "_law_item") rfl), c1.def_ 29 rfl⟩, d_steps := ⟨glo (c1.fact 30 (f := .glo "_law_steps") rfl), c1.def_ 30 rfl⟩, d_full := ⟨glo (c1.fact 31 (f := .glo "_law_full") rfl), c1.def_ 31 rfl⟩, d_paths := ⟨glo (c1.fact 32 (f := .glo "_law_paths") rfl), c1.def_ 32 rfl⟩, d_with := ⟨glo (c1.fact 33 (f := .glo "_law_with") rfl), c1.def_ 33 rfl⟩, d_changed := ⟨glo (c1.fact 34 (f := .glo "_law_changed") rfl), c1.def_ 34 rfl⟩, d_amount_due := ⟨glo (c1.fact 35 (f := .glo "_law_amount_due") rfl), c1.def_ 35 rfl⟩, d_deep := ⟨glo (c1.fact 36 (f := .glo "_law_deep") rfl), c1.def_ 36 rfl⟩, d_condition_due := ⟨glo (c1.fact 37 (f := .glo "_law_condition_due") rfl), c1.def_ 37 rfl⟩, d_within := ⟨glo (c1.fact 38 (f := .glo "_law_within") rfl), c1.def_ 38 rfl⟩, d_size := ⟨glo (c1.fact 39 (f := .glo "_law_size") rfl), c1.def_ 39 rfl⟩, d_steps_due := ⟨glo (c1.fact 40 (f := .glo "_law_steps_due") rfl), c1.def_ 40 rfl⟩, d_yes := ⟨glo (c1.fact 41 (f := .glo "_law_yes") rfl), c1.def_ 41 rfl⟩, d_told_right := ⟨glo (c1.fact 42 (f := .glo "_law_told_right") rfl), c1.def_ 42 rfl⟩, d_values := ⟨glo (c1.fact 43 (f := .glo "_law_values") rfl), c1.def_ 43 rfl⟩, d_cell_right := ⟨glo (c1.fact 44 (f := .glo "_law_cell_right") rfl), c1.def_ 44 rfl⟩ }
  have T : PortsC K mg (He.ga K "Ports") (He.ma K (He.ga K "Ports") "__init__") (He.ma K (He.ga K "Ports") "has") :=
    ⟨He.cls_ok (c1.fact 74 (f := .cls "Ports") rfl), He.noat_ok (c1.fact 75 (f := .noat "Ports" "kinds") rfl), He.noat_ok (c1.fact 76 (f := .noat "Ports" "_names") rfl), He.noat_ok (c1.fact 77 (f := .noat "Ports" "_sides") rfl), He.noat_ok (c1.fact 78 (f := .noat "Ports" "_sides_by_name") rfl), He.noat_ok (c1.fact 79 (f := .noat "Ports" "_others") rfl), glo (c1.fact 46 (f := .glo "Ports") rfl), He.mkr_ok (c1.fact 80 (f := .mkr "Ports") rfl), He.meth_ok (c1.fact 81 (f := .meth "Ports" "has") rfl)⟩
  have PT : PartsT K w mg := by
    obtain ⟨es, n, KD⟩ := c0.tab 0 rfl
    refine ⟨_, es, n, glo (c1.fact 49 (f := .glo "PARTS") rfl), KD, fun z => ?_⟩
    have dw : He.dicW K (He.ga K "PARTS") = some (He.keysIn w.params ["is", "above", "both", "either", "not"]) := by
      have e : tabs.map (fun t => He.dicW K (t.1 K)) = tabs.map fun t => some (He.keysIn w.params t.2) := congrArg (fun z : He.AlT => z.2) c0
      exact List.head_eq_of_cons_eq e
    have got : ∀ (k : Str) (m : Nat), (k, He.Dv.int (m : Int)) ∈ partsKV → ∃ r, PySem.W.nsIn K (He.ga K "PARTS") k = some r ∧ RelV (.int (m : Int)) (r.getD .none) := fun k m hm => by
      obtain ⟨u, e, r⟩ := He.valsB_ok x4 hm
      exact ⟨some u, e, r⟩
    unfold partsV parts
    by_cases h1 : z = "is"
    · rw [if_pos h1, h1]; exact got "is" 2 (by simp [partsKV])
    rw [if_neg h1]
    by_cases h2 : z = "above"
    · rw [if_pos h2, h2]; exact got "above" 2 (by simp [partsKV])
    rw [if_neg h2]
    by_cases h3 : z = "both"
    · rw [if_pos h3, h3]; exact got "both" 2 (by simp [partsKV])
    rw [if_neg h3]
    by_cases h4 : z = "either"
    · rw [if_pos h4, h4]; exact got "either" 2 (by simp [partsKV])
    rw [if_neg h4]
    by_cases h5 : z = "not"
    · rw [if_pos h5, h5]; exact got "not" 1 (by simp [partsKV])
    rw [if_neg h5]
    exact ⟨none, no_key dw (by simp [h1, h2, h3, h4, h5]), rfl⟩
  have TC : TupT K mg "COMPARING" isAb := ⟨_, glo (c1.fact 47 (f := .glo "COMPARING") rfl), fun H => He.tupB_ok x2 H⟩
  have TG : TupT K mg "CHANGING" chg := ⟨_, glo (c1.fact 48 (f := .glo "CHANGING") rfl), fun H => He.tupB_ok x3 H⟩
  obtain ⟨fd, F⟩ := c1.def_ 47 (d := ⟨("law", none), "law", "law", defArgs s_law, defBody s_law, defScope s_law, [], []⟩) rfl
  have FI : ∃ fd, FunD K "__init__" "Ports.__init__" (defArgs s_init) (defBody s_init) (defScope s_init) [] [] (He.ma K (He.ga K "Ports") "__init__") fd := c1.def_ 45 (d := ⟨("Ports", some "__init__"), "__init__", "Ports.__init__", defArgs s_init, defBody s_init, defScope s_init, [], []⟩) rfl
  have FH : ∃ fd, FunD K "has" "Ports.has" (defArgs s_has) (defBody s_has) (defScope s_has) [] [] (He.ma K (He.ga K "Ports") "has") fd := c1.def_ 46 (d := ⟨("Ports", some "has"), "has", "Ports.has", defArgs s_has, defBody s_has, defScope s_has, [], []⟩) rfl
  have e := hlaw.symm.trans (glo (c1.fact 45 (f := .glo "law") rfl))
  cases e
  have b := FunD.bindsA (ps := ["script"]) F fun _ _ _ _ _ _ us hl => match us, hl with | [_], _ => rfl
  refine ⟨fd, fun s v => b s [v] rfl, fun base hb _ => ?_⟩
  have sm : ∃ o, base.get? sysModules = some o := by
    obtain ⟨o, ho⟩ := Option.isSome_iff_exists.mp x1
    exact ⟨o, hb _ _ ho⟩
  exact all_ok G D T PT TC TG (He.int_ok X Gn (c1.fact 68 (f := .int "DEEPEST_CONDITION" 4) rfl)) (He.int_ok X Gn (c1.fact 69 (f := .int "DEEPEST_STEPS" 3) rfl)) (He.int_ok X Gn (c1.fact 70 (f := .int "MOST_STEPS" 6) rfl)) (He.int_ok X Gn (c1.fact 71 (f := .int "MOST_ITEMS" 24) rfl)) (He.int_ok X Gn (c1.fact 72 (f := .int "MOST_KINDS" 12) rfl)) (He.int_ok X Gn (c1.fact 73 (f := .int "MOST_LETTERS" 4) rfl)) (He.str_ok X Gn (c1.fact 67 (f := .str "LETTERS" "abcdefghijklmnopqrstuvwxyz") rfl)) FI FH sm F
end NH
open PySem PySem.W PySem.Calls PyProof.Rows
theorem PySem.Challenge.cw_nearhelp_k02_conditions_and_steps_judged_holds : PySem.Challenge.rw_nearhelp_k02_conditions_and_steps_judged.Holds := by
  w_on; o_law
  refine HandSHeadRun.head_any (r := OpenLaw.row PySem.Challenge.rw_nearhelp_k02_conditions_and_steps_judged) (q := view (OpenLaw.row PySem.Challenge.rw_nearhelp_k02_conditions_and_steps_judged).prog [64]) (H := NH.hook) (ob := NH.ob) (M := 4000) (loose := NH.loose) (d := HandSHeadRun.topDef (OpenLaw.row PySem.Challenge.rw_nearhelp_k02_conditions_and_steps_judged).prog 64) (kwd := []) NH.ob_eq
    (by kernel_rfl) (fun s => by kernel_rfl) NH.run (by kernel_rfl) (by kernel_rfl) (by kernel_rfl) (by rfl) (by first | assumption | decide +kernel) (by decide +kernel) ⟨rfl, rfl, rfl, rfl, rfl, by decide +kernel⟩ ?hw ?hc
  case hw => w_witness2
  case hc =>
    refine NH.walkG (l := PySem.Challenge.rw_nearhelp_k02_conditions_and_steps_judged) (n := 63) (k := 71) (x := "script") rfl (by decide) (by kernel_rfl) ⟨rfl, by decide, by decide⟩ ?F
    intro w mg fa h Y G hmg0
    obtain ⟨K, KX, c⟩ := Y
    have hmg : mg ("law" : PySem.Str) = some (.ref fa) := by
      have e : (HandSHeadRun.topDef (OpenLaw.row PySem.Challenge.rw_nearhelp_k02_conditions_and_steps_judged).prog 64).name = ("law" : PySem.Str) := by kernel_rfl
      rw [← e]
      exact hmg0
    obtain ⟨fd, hb, hF⟩ := NH.facts (P := (PySem.Challenge.rw_nearhelp_k02_conditions_and_steps_judged).prog) (w := w) KX G hmg c
    exact ⟨K, fd, NH.spLaw K, KX, hb, fun H a ns hl _ hS => ⟨a, ns, rfl, hS, hl, fun _ => rfl⟩, hF⟩
