import PyProof.Rows.All
import Wide.All
import OpenK.AllK
import Wide.FinOn
import KE.KStateDown
import Lean
import Wide.Once
import HandS.ForMost
import HandS.Exc
import HandS.WordsExc
import HandS.Defaults
import HandS.IsInst
import HandS.Strs
import HandS.SetKeys
import HandS.Deep
import HandS.Wide
import HandS.WideMore
import HandS.FStr
import HandS.Conv
import HandS.More
import HandS.StrMore
import HandS.Head0
import HandS.Head1
import HandS.Head2
import HandS.HeadEnd
import HandS.HeadHook1
import HandS.HeadHook2
import HandS.HeadHook3
import HandS.Walk
import HandS.DictComp
import PyProof.NeKinds
import HandS.Rev
import PyProof.StrLawsRepr
import PyProof.ReprRoads
import HandS.ExcInit
import HandS.ExcOwn
import HandS.ExcField
import HandS.ExcIs
import HandS.Lambda
import KE.KExcIs
import HandS.Style
import HandS.Codes
import KE.KStrOpen
import PyProof.StrBlock2
import PySem.Challenge.RW_nearhelp_k03_condition_texts
set_option Elab.async false
set_option linter.all false
set_option maxRecDepth 100000
set_option maxHeartbeats 4000000
namespace NH
open PySem PySem.Spec PyProof.Rows L2
/-- where a def of the top stands -/
structure DefAt (K : PySem.W.Frag) (mg : Str → Option Value) (x : Str) (st : Stmt) : Prop where
  g : mg x = some (.ref (He.ga K x))
  f : ∃ fd, FunD K x x (defArgs st) (defBody st) (defScope st) [] [] (He.ga K x) fd
/-- a def that keeps a promise -/
structure Callee (P : Program) (w : World) (K : PySem.W.Frag) (mg : Str → Option Value) (base : Heap) (k : Nat) (x : Str) (ps : List Str) (sp : Sp) : Prop where
  ex : ∃ f fd, mg x = some (.ref f) ∧ PySem.W.keepIn K (.ref f) = true ∧ Binds K fd ps [] ∧ FnOk P w K mg base CX0 k f fd ps sp
section
variable {P : Program} {w : World} {K : PySem.W.Frag} {mg : Str → Option Value} {base : Heap}
theorem callee {x : Str} {st : Stmt} {N ps : List Str} {k : Nat} {sp : Sp} (D : DefAt K mg x st) (S : FnScope N ps (defScope st)) (len : ∀ vs H Q E, sp vs H Q E → vs.length = ps.length)
    (hb : ∀ (kV doc pm : Value) (an : Option Addr) (cdv ct : Value) (us : List Value), us.length = ps.length → bindArgs (PySem.W.fnOf x x (defArgs st) (defBody st) (defScope st) .none kV doc pm an cdv ct) ⟨us, []⟩ = pure (ps.zip us))
    (hbody : ∀ (f : Addr) (cdv : Value) (A : Around) (outer : List Env) (s : Shared) (H : Hp) (vs : List V) (Q : VK) (E : XK), Room k (A.deeper (envOfC x (defScope st) s.heap.objs.size f cdv)) → sp vs H Q E →
      ∃ t, PSs (cxOf CX0 P w K mg base N x (defScope st) f cdv A outer s H E).nox (defBody st) t ∧ t { nx := fun _ H' => Q .non H', rt := Q } (start N vs) H) : Callee P w K mg base (k + 1) x ps sp := by
  obtain ⟨fd, F⟩ := D.f
  exact ⟨_, fd, D.g, F.kp, F.bindsN hb, F.ok S len fun cdv A outer s H vs Q E hr h => let ⟨t, h1, h2⟩ := hbody _ cdv A outer s H vs Q E hr h; ⟨t, h1.nox, h2⟩⟩
end
section
variable {X : Cx}
/-- f(e, ..) -/
theorem pe_cal {k j : Nat} {x : Str} {ps : List Str} {sp : Sp} {e : Expr} {es : List Expr} {p pos : Pos} {t : TA} (c : Callee X.prog X.w X.K X.mg X.base k x ps sp) (hr : Room j X.A) (hj : k ≤ j) (ha : PA X (e :: es) t) (hg : Gl X x := by rfl)
    (hdb : (x == ("__debug__" : Str)) = false := by decide) (he : starEach (e :: es) X.env = (false, eval e X.env) :: starEach es X.env := by rfl) (hpl : (backTo pos (starEach es X.env)).any (·.1) = false := by rfl) :
    PE X (.Call (.Name x p) (e :: es) [] pos) (tCall sp [] E0 t) := by
  obtain ⟨f, fd, hm, hk, hb, F⟩ := c.ex
  exact pe_call F (hr.mono hj) hg hm hk hb .nil pass0 ha hdb he hpl
end
theorem itd {c A B : Prop} [Decidable c] (h1 : c → A) (h2 : ¬ c → B) : if decide c = true then A else B := by
  by_cases h : c
  · rw [decide_eq_true h]; exact iteT (h1 h)
  · rw [decide_eq_false h]; exact iteF (h2 h)
theorem itb {b : Bool} {A B : Prop} (h1 : b = true → A) (h2 : b = false → B) : if b = true then A else B := by
  cases b with
  | true => exact iteT (h1 rfl)
  | false => exact iteF (h2 rfl)
theorem itt {b : Bool} {A B : Prop} (e : b = true) (h1 : A) : if b = true then A else B := by
  subst e; exact iteT h1
theorem itf {b : Bool} {A B : Prop} (e : b = false) (h1 : B) : if b = true then A else B := by
  subst e; exact iteF h1
theorem same_new {H : Hp} {p : Addr} {o : HO} (hp : H p = none) : Same H (upd H p o) := fun b u e => by rw [upd_ne (ne_of_none e hp)]; exact e
theorem atI_get {xs : List V} {i : Nat} {v : V} (h : xs[i]? = some v) : atI xs (i : Int) = some v := by
  have h1 : i < xs.length := (List.getElem?_eq_some_iff.mp h).1
  exact atI_nat h
end NH
set_option maxHeartbeats 4000000
namespace NH
open PySem PySem.Spec PyProof.Rows L2
def top (i : Nat) : Stmt := PySem.Challenge.pw_nearhelp_k03_condition_texts.main.body.getD i (.Pass ⟨0, 0, 0, 0⟩)
structure Bl (mg : Str → Option Value) : Prop where
  b_ValueError : mg "ValueError" = none
  b_abs : mg "abs" = none
  b_all : mg "all" = none
  b_bool : mg "bool" = none
  b_int : mg "int" = none
  b_isinstance : mg "isinstance" = none
  b_len : mg "len" = none
  b_list : mg "list" = none
  b_max : mg "max" = none
  b_min : mg "min" = none
  b_range : mg "range" = none
  b_ord : mg "ord" = none
  b_repr : mg "repr" = none
  b_reversed : mg "reversed" = none
  b_set : mg "set" = none
  b_sorted : mg "sorted" = none
  b_str : mg "str" = none
  b_sum : mg "sum" = none
  b_tuple : mg "tuple" = none
section
variable {P : Program} {w : World} {K : PySem.W.Frag} {mg : Str → Option Value} {base : Heap}
/-! ### _law_cell, _law_box, _law_take -/
abbrev s_law_cell : Stmt := top 41
theorem sc_law_cell : FnScope ["script", "k"] ["script", "k"] (defScope s_law_cell) := ⟨rfl, rfl, rfl, by decide +kernel, rfl, by decide +kernel, by decide +kernel⟩
def spCell (K : PySem.W.Frag) : Sp := fun vs H Q _ => ∃ (a : Addr) (ns : List Int) (k : Nat), vs = [.ref a, .int k] ∧ SqL K H a (ns.map V.int) ∧ ns.length ≤ 63 ∧ ∀ i H', Same H H' → Q (.int i) H'
theorem ok_law_cell (G : Bl mg) (D : DefAt K mg "_law_cell" s_law_cell) : Callee P w K mg base 2 "_law_cell" ["script", "k"] (spCell K) := by
  refine callee D sc_law_cell (fun vs H Q E h => by obtain ⟨a, ns, k, rfl, _⟩ := h; rfl) (fun _ _ _ _ _ _ us hl => match us, hl with | [_, _], _ => rfl) fun f cdv A outer s H vs Q E hr h => ?_
  obtain ⟨a, ns, k, rfl, hS, hl, q⟩ := h
  refine ⟨_, (pss_one (ps_ret (pe_ifExp (pt_cmpR op_lt (pv 1) (pe_callB call_len_seq (by rfl) G.b_len (by decide +kernel) (pa_cons (pv 0) pa_nil)) (nomark _)) (pe_ix ix_list (pv 0) (pv 1) (fun _ _ => rfl)) (pe_op op_add (pe_op op_mul pe_int (pv 1)) (pe_op op_mod (pe_callB (cr_sum rfl) (by rfl) G.b_sum (by decide +kernel) (pa_cons (pe_slice sl_list (pv 0) po_none (po_some pe_int)) pa_nil)) pe_int))))), ?_⟩
  have hS' : ∀ H', Same H H' → SqL K H' a (ns.map V.int) := fun H' e => e.seq hS
  refine ⟨_, rfl, _, rfl, a, _, rfl, .inl hS, _, _, rfl, rfl, _, rfl, itd (fun hk => ?_) fun hk => ?_⟩
  · have hk' : k < ns.length := by rw [List.length_map] at hk; omega
    exact ⟨_, rfl, _, rfl, a, _, _, _, rfl, rfl, hS, atI_get (by rw [List.getElem?_map, List.getElem?_eq_getElem hk']; rfl), q _ _ (Same.refl H)⟩
  · refine ⟨_, rfl, _, _, rfl, rfl, .inl ⟨by decide, by decide⟩, _, rfl, _, rfl, a, _, rfl, hS, fun p hp => ?_⟩
    have e1 : cutV (ns.map V.int) none (some 1) = (ns.take 1).map V.int := by
      cases ns <;> rfl
    rw [e1]
    exact ⟨p, _, rfl, SqL.of upd_same, _, _, rfl, rfl, (by show (0 : Int) < 1000033; decide), _, _, rfl, rfl, q _ _ (same_new hp)⟩
/-- the box of a drawing: n bounds how often it has been asked -/
def IsBox (n : Nat) (o : HO) : Prop := ∃ (x : Int) (f : Bool) (r : Int) (c : Nat), o = .lst [.int x, .bl f, .int r, .int c] ∧ 0 ≤ x ∧ 0 ≤ r ∧ r < 2147483648 ∧ c ≤ n
theorem IsBox.mono {n m : Nat} {o : HO} (h : IsBox n o) (e : n ≤ m) : IsBox m o := by
  obtain ⟨x, f, r, c, rfl, h1, h2, h3, h4⟩ := h
  exact ⟨x, f, r, c, rfl, h1, h2, h3, Nat.le_trans h4 e⟩
abbrev s_law_box : Stmt := top 42
theorem sc_law_box : FnScope ["great"] ["great"] (defScope s_law_box) := ⟨rfl, rfl, rfl, by decide +kernel, rfl, by decide +kernel, by decide +kernel⟩
def spBox : Sp := fun vs H Q _ => ∃ (i : Int), vs = [.int i] ∧ ∀ p o, H p = none → IsBox 0 o → Q (.ref p) (upd H p o)
theorem ok_law_box (G : Bl mg) (D : DefAt K mg "_law_box" s_law_box) : Callee P w K mg base 2 "_law_box" ["great"] spBox := by
  refine callee D sc_law_box (fun vs H Q E h => by obtain ⟨i, rfl, _⟩ := h; rfl) (fun _ _ _ _ _ _ us hl => match us, hl with | [_], _ => rfl) fun f cdv A outer s H vs Q E hr h => ?_
  obtain ⟨i, rfl, q⟩ := h
  refine ⟨_, (pss_one (ps_ret (pe_lst (pa_cons (pe_callB call_abs (by rfl) G.b_abs (by decide +kernel) (pa_cons (pv 0) pa_nil)) (pa_cons (pe_cmpR op_ge (pe_callB call_abs (by rfl) G.b_abs (by decide +kernel) (pa_cons (pv 0) pa_nil)) (pe_op op_pow pe_int pe_int) (nomark _)) (pa_cons (pe_op op_mod (pe_callTy call_int1 (by rfl) G.b_int (by decide +kernel) (pa_cons (pe_callB call_abs (by rfl) G.b_abs (by decide +kernel) (pa_cons (pv 0) pa_nil)) pa_nil)) pe_int) (pa_cons pe_int pa_nil))))))), ?_⟩
  refine ⟨_, rfl, i, rfl, _, rfl, i, rfl, _, _, rfl, rfl, ⟨by decide, by decide, by decide⟩, _, _, rfl, rfl, _, rfl, i, rfl, .inl ⟨_, rfl, _, _, rfl, rfl, (by show (0 : Int) < 2147483629; decide), (by show 4 ≤ sizeLine; decide), fun p hp => q p _ hp ⟨_, _, _, 0, rfl, ?_, ?_, ?_, Nat.le_refl _⟩⟩⟩
  · split <;> omega
  · exact Int.emod_nonneg _ (by decide)
  · have h1 : (if i < 0 then -i else i) % 2147483629 < 2147483629 := Int.emod_lt_of_pos _ (by decide)
    omega
abbrev s_law_take : Stmt := top 43
theorem sc_law_take : FnScope ["box", "many", "digit", "mixed"] ["box", "many"] (defScope s_law_take) := ⟨rfl, rfl, rfl, by decide +kernel, rfl, by decide +kernel, by decide +kernel⟩
def spTake : Sp := fun vs H Q _ => ∃ (b : Addr) (m n : Nat) (o : HO), vs = [.ref b, .int m] ∧ H b = some o ∧ IsBox n o ∧ n ≤ 1000000000 ∧ 0 < m ∧ m ≤ 1000000 ∧ ∀ (d : Nat) o', d < m → IsBox (n + 1) o' → Q (.int d) (upd H b o')
theorem ok_law_take (G : Bl mg) (D : DefAt K mg "_law_take" s_law_take) : Callee P w K mg base 2 "_law_take" ["box", "many"] spTake := by
  refine callee D sc_law_take (fun vs H Q E h => by obtain ⟨b, m, n, o, rfl, _⟩ := h; rfl) (fun _ _ _ _ _ _ us hl => match us, hl with | [_, _], _ => rfl) fun f cdv A outer s H vs Q E hr h => ?_
  obtain ⟨b, m, n, o, rfl, hb, ⟨x, fl, r, c, rfl, hx, hr0, hr1, hc⟩, hn, hm0, hm1, q⟩ := h
  refine ⟨_, (pss_cons (ps_if (PW.pt (pw_and (pt_val (pe_ix ix_list (pv 0) pe_int (fun _ _ => rfl))) (pw_and1 (pt_cmpR op_gt (pe_ix ix_list (pv 0) pe_int (fun _ _ => rfl)) pe_int (nomark _))))) (pss_cons (ps_set (i := 2) sc_law_take.nd rfl (Or.inl rfl) (pe_op op_mod (pe_callTy call_int1 (by rfl) G.b_int (by decide +kernel) (pa_cons (pe_ix ix_list (pv 0) pe_int (fun _ _ => rfl)) pa_nil)) (pv 1)))
    (pss_cons (ps_asg (pe_op op_fdiv (pe_ix ix_list (pv 0) pe_int (fun _ _ => rfl)) (pv 1)) (pg_sub (pv 0) pe_int set_list))
    (pss_one (ps_ret (pv 2))))) pss_nil)
    (pss_cons (ps_asg (pe_op op_add (pe_ix ix_list (pv 0) pe_int (fun _ _ => rfl)) pe_int) (pg_sub (pv 0) pe_int set_list))
    (pss_cons (ps_set (i := 3) sc_law_take.nd rfl (Or.inl rfl) (pe_op op_mod (pe_callTy call_int1 (by rfl) G.b_int (by decide +kernel) (pa_cons (pe_op op_pow (pe_op op_add (pe_op op_add (pe_ix ix_list (pv 0) pe_int (fun _ _ => rfl)) (pe_op op_mul pe_int (pe_ix ix_list (pv 0) pe_int (fun _ _ => rfl)))) pe_int) pe_int) pa_nil)) pe_int))
    (pss_one (ps_ret (pe_op op_mod (pe_op op_fdiv (pe_op op_mod (pe_callTy call_int1 (by rfl) G.b_int (by decide +kernel) (pa_cons (pe_op op_pow (pe_op op_add (pe_op op_mul (pv 3) pe_int) (pe_op op_mul pe_int (pe_ix ix_list (pv 0) pe_int (fun _ _ => rfl)))) pe_int) pa_nil)) pe_int) pe_int) (pv 1))))))), ?_⟩
  have i0 : atI ([.int x, .bl fl, .int r, .int (c : Int)] : List V) 0 = some (.int x) := rfl
  have i1 : atI ([.int x, .bl fl, .int r, .int (c : Int)] : List V) 1 = some (.bl fl) := rfl
  have i2 : atI ([.int x, .bl fl, .int r, .int (c : Int)] : List V) 2 = some (.int r) := rfl
  have i3 : atI ([.int x, .bl fl, .int r, .int (c : Int)] : List V) 3 = some (.int (c : Int)) := rfl
  have hm : (0 : Int) < (m : Int) := by omega
  have one : ixN ([.int x, .bl fl, .int r, .int (c : Int)] : List V).length 3 = some 3 := rfl
  have two : ixN ([.int x, .bl fl, .int r, .int (c : Int)] : List V).length 0 = some 0 := rfl
  refine ⟨_, rfl, b, _, _, _, rfl, rfl, SqL.of hb, i1, fl, rfl, ?_⟩
  refine itb (fun hf => ?T) fun hf => iteF ?C
  case' T => refine ⟨_, rfl, b, _, _, _, rfl, rfl, SqL.of hb, i0, _, _, rfl, rfl, _, rfl, itd (fun hx1 => ?A) fun _ => ?B⟩
  case A =>
    refine ⟨_, rfl, b, _, _, _, rfl, rfl, SqL.of hb, i0, .inl ⟨x, rfl, _, rfl, _, _, rfl, rfl, hm, ?_⟩⟩
    refine ⟨_, rfl, b, _, _, _, rfl, rfl, SqL.of hb, i0, _, rfl, _, _, rfl, rfl, ⟨by omega, by show (m : Int) < 1073741824; omega⟩, _, rfl, b, _, _, _, rfl, rfl, hb, two, _, rfl, ?_⟩
    have e1 : x % (m : Int) = ((x % (m : Int)).toNat : Int) := (Int.toNat_of_nonneg (Int.emod_nonneg _ (by omega))).symm
    have l1 : x % (m : Int) < m := Int.emod_lt_of_pos _ hm
    show Q (.int (x % (m : Int))) _
    rw [e1]
    exact q _ _ (by omega) ⟨x / m, fl, r, c, rfl, Int.ediv_nonneg hx (by omega), hr0, hr1, by omega⟩
  all_goals
    refine ⟨_, rfl, b, _, _, _, rfl, rfl, SqL.of hb, i3, _, _, rfl, rfl, _, rfl, b, _, _, _, rfl, rfl, hb, one, ?_⟩
    have q' : ∀ (d : Int), 0 ≤ d → d < m → Q (.int d) (upd H b (.lst [.int x, .bl fl, .int r, .int ((c : Int) + 1)])) := fun d h0 h1 => by
      have z := q d.toNat _ (by omega) ⟨x, fl, r, c + 1, rfl, hx, hr0, hr1, by omega⟩
      rw [Int.toNat_of_nonneg h0] at z
      exact z
    have hb' : ∀ o, (upd H b o) b = some o := fun o => upd_same
    refine ⟨_, rfl, b, _, _, _, rfl, rfl, SqL.of (hb' _), rfl, _, rfl, b, _, _, _, rfl, rfl, SqL.of (hb' _), rfl, _, _, rfl, rfl, .inl ⟨by decide, by decide⟩, _, _, rfl, rfl, _, _, rfl, rfl, _, _, rfl, rfl, ⟨by decide, by decide, ?_⟩, .inl ⟨_, rfl, _, _, rfl, rfl, (by show (0 : Int) < 2147483647; decide), ?_⟩⟩
    · show (r + 15485863 * ((c : Int) + 1) + 179424673).natAbs < 2 ^ 64
      omega
    · have m0 : 0 ≤ (r + 15485863 * ((c : Int) + 1) + 179424673) ^ (5 : Int).toNat % 2147483647 := Int.emod_nonneg _ (by decide)
      have m1 : (r + 15485863 * ((c : Int) + 1) + 179424673) ^ (5 : Int).toNat % 2147483647 < 2147483647 := Int.emod_lt_of_pos _ (by decide)
      refine ⟨_, rfl, _, _, rfl, rfl, .inr ⟨by decide, by decide⟩, _, rfl, b, _, _, _, rfl, rfl, SqL.of (hb' _), rfl, _, _, rfl, rfl, .inl ⟨by decide, by decide⟩, _, _, rfl, rfl, _, _, rfl, rfl, ⟨by decide, by decide, ?_⟩, .inl ⟨_, rfl, _, _, rfl, rfl, (by show (0 : Int) < 2147483587; decide), _, _, rfl, rfl, ⟨by decide, by decide⟩, _, rfl, _, _, rfl, rfl, hm, ?_⟩⟩
      · show ((r + 15485863 * ((c : Int) + 1) + 179424673) ^ (5 : Int).toNat % 2147483647 * 48271 + 104729 * ((c : Int) + 1)).natAbs < 2 ^ 64
        omega
      · exact q' _ (Int.emod_nonneg _ (by omega)) (Int.emod_lt_of_pos _ hm)
end
end NH
set_option maxHeartbeats 0
namespace NH
open PySem PySem.Spec PyProof.Rows L2 TL
def hfn0 : List He.DefD := [⟨("is_integer", none), "is_integer", "is_integer", defArgs (top 3), defBody (top 3), defScope (top 3), [], []⟩, ⟨("is_between", none), "is_between", "is_between", defArgs (top 4), defBody (top 4), defScope (top 4), [], []⟩, ⟨("is_list", none), "is_list", "is_list", defArgs (top 5), defBody (top 5), defScope (top 5), [], []⟩, ⟨("is_pair", none), "is_pair", "is_pair", defArgs (top 6), defBody (top 6), defScope (top 6), [], []⟩, ⟨("is_name", none), "is_name", "is_name", defArgs (top 7), defBody (top 7), defScope (top 7), [], []⟩, ⟨("are_different", none), "are_different", "are_different", defArgs (top 8), defBody (top 8), defScope (top 8), [], []⟩, ⟨("is_condition", none), "is_condition", "is_condition", defArgs (top 20), defBody (top 20), defScope (top 20), [], []⟩, ⟨("condition_text", none), "condition_text", "condition_text", defArgs (top 21), defBody (top 21), defScope (top 21), [], []⟩, ⟨("read_condition", none), "read_condition", "read_condition", defArgs (top 22), defBody (top 22), defScope (top 22), [], []⟩, ⟨("amount_text", none), "amount_text", "amount_text", defArgs (top 23), defBody (top 23), defScope (top 23), [], []⟩, ⟨("stacked_words", none), "stacked_words", "stacked_words", defArgs (top 24), defBody (top 24), defScope (top 24), [], []⟩, ⟨("take_word", none), "take_word", "take_word", defArgs (top 25), defBody (top 25), defScope (top 25), [], []⟩, ⟨("take_digit", none), "take_digit", "take_digit", defArgs (top 26), defBody (top 26), defScope (top 26), [], []⟩, ⟨("take_amount", none), "take_amount", "take_amount", defArgs (top 27), defBody (top 27), defScope (top 27), [], []⟩, ⟨("take_condition", none), "take_condition", "take_condition", defArgs (top 28), defBody (top 28), defScope (top 28), [], []⟩, ⟨("_take_condition", none), "_take_condition", "_take_condition", defArgs (top 29), defBody (top 29), defScope (top 29), [], []⟩, ⟨("_is_condition", none), "_is_condition", "_is_condition", defArgs (top 30), defBody (top 30), defScope (top 30), [], []⟩, ⟨("_is_amount", none), "_is_amount", "_is_amount", defArgs (top 31), defBody (top 31), defScope (top 31), [], []⟩, ⟨("_are_kinds", none), "_are_kinds", "_are_kinds", defArgs (top 38), defBody (top 38), defScope (top 38), [], []⟩, ⟨("_is_kind", none), "_is_kind", "_is_kind", defArgs (top 39), defBody (top 39), defScope (top 39), [], []⟩, ⟨("_sides_of", none), "_sides_of", "_sides_of", defArgs (top 36), defBody (top 36), defScope (top 36), [], []⟩, ⟨("_without", none), "_without", "_without", defArgs (top 37), defBody (top 37), defScope (top 37), [], []⟩, ⟨("_law_cell", none), "_law_cell", "_law_cell", defArgs (top 41), defBody (top 41), defScope (top 41), [], []⟩, ⟨("_law_box", none), "_law_box", "_law_box", defArgs (top 42), defBody (top 42), defScope (top 42), [], []⟩, ⟨("_law_take", none), "_law_take", "_law_take", defArgs (top 43), defBody (top 43), defScope (top 43), [], []⟩, ⟨("_law_letters", none), "_law_letters", "_law_letters", defArgs (top 44), defBody (top 44), defScope (top 44), [], []⟩, ⟨("_law_kinds", none), "_law_kinds", "_law_kinds", defArgs (top 45), defBody (top 45), defScope (top 45), [], []⟩, ⟨("_law_sides", none), "_law_sides", "_law_sides", defArgs (top 46), defBody (top 46), defScope (top 46), [], []⟩, ⟨("_law_number", none), "_law_number", "_law_number", defArgs (top 47), defBody (top 47), defScope (top 47), [], []⟩, ⟨("_law_numbers", none), "_law_numbers", "_law_numbers", defArgs (top 48), defBody (top 48), defScope (top 48), [], []⟩]
def hfn1 : List He.DefD := [⟨("_law_amount", none), "_law_amount", "_law_amount", defArgs (top 49), defBody (top 49), defScope (top 49), [], []⟩, ⟨("_law_condition", none), "_law_condition", "_law_condition", defArgs (top 50), defBody (top 50), defScope (top 50), [], []⟩, ⟨("_law_amount_words", none), "_law_amount_words", "_law_amount_words", defArgs (top 51), defBody (top 51), defScope (top 51), [], []⟩, ⟨("_law_words", none), "_law_words", "_law_words", defArgs (top 52), defBody (top 52), defScope (top 52), [], []⟩, ⟨("_law_amount_read", none), "_law_amount_read", "_law_amount_read", defArgs (top 53), defBody (top 53), defScope (top 53), [], []⟩, ⟨("_law_read", none), "_law_read", "_law_read", defArgs (top 54), defBody (top 54), defScope (top 54), [], []⟩, ⟨("_law_due", none), "_law_due", "_law_due", defArgs (top 55), defBody (top 55), defScope (top 55), [], []⟩, ⟨("_law_spoilt", none), "_law_spoilt", "_law_spoilt", defArgs (top 56), defBody (top 56), defScope (top 56), [], []⟩, ⟨("_law_read_right", none), "_law_read_right", "_law_read_right", defArgs (top 57), defBody (top 57), defScope (top 57), [], []⟩, ⟨("_law_written_right", none), "_law_written_right", "_law_written_right", defArgs (top 58), defBody (top 58), defScope (top 58), [], []⟩, ⟨("_law_cell_right", none), "_law_cell_right", "_law_cell_right", defArgs (top 59), defBody (top 59), defScope (top 59), [], []⟩, ⟨("Ports", some "__init__"), "__init__", "Ports.__init__", defArgs (inClass (top 35) 0), defBody (inClass (top 35) 0), defScope (inClass (top 35) 0), [], []⟩, ⟨("Ports", some "has"), "has", "Ports.has", defArgs (inClass (top 35) 3), defBody (inClass (top 35) 3), defScope (inClass (top 35) 3), [], []⟩, ⟨("InvalidText", some "__init__"), "__init__", "InvalidText.__init__", defArgs (inClass (top 13) 0), defBody (inClass (top 13) 0), defScope (inClass (top 13) 0), [], []⟩, ⟨("law", none), "law", "law", defArgs (top 60), defBody (top 60), defScope (top 60), [], []⟩]
def hfn : List He.DefD := hfn0 ++ hfn1
def hfa0 : List He.Fa := [.glo "is_integer", .glo "is_between", .glo "is_list", .glo "is_pair", .glo "is_name", .glo "are_different", .glo "is_condition", .glo "condition_text", .glo "read_condition", .glo "amount_text", .glo "stacked_words", .glo "take_word", .glo "take_digit", .glo "take_amount", .glo "take_condition", .glo "_take_condition", .glo "_is_condition", .glo "_is_amount", .glo "_are_kinds", .glo "_is_kind", .glo "_sides_of", .glo "_without", .glo "_law_cell", .glo "_law_box", .glo "_law_take", .glo "_law_letters", .glo "_law_kinds", .glo "_law_sides", .glo "_law_number", .glo "_law_numbers"]
def hfa1 : List He.Fa := [.glo "_law_amount", .glo "_law_condition", .glo "_law_amount_words", .glo "_law_words", .glo "_law_amount_read", .glo "_law_read", .glo "_law_due", .glo "_law_spoilt", .glo "_law_read_right", .glo "_law_written_right", .glo "_law_cell_right", .glo "law", .glo "Ports", .glo "COMPARING", .glo "JOINING", .glo "PARTS", .glo "DIGITS", .glo "InvalidText", .glo "NearError", .free "ValueError", .free "abs", .free "all", .free "bool", .free "int", .free "isinstance", .free "len", .free "list", .free "max", .free "min", .free "range"]
def hfa2 : List He.Fa := [.free "ord", .free "repr", .free "reversed", .free "set", .free "sorted", .free "str", .free "sum", .free "tuple", .str "LETTERS" "abcdefghijklmnopqrstuvwxyz", .int "DEEPEST_CONDITION" 4, .int "MOST_KINDS" 12, .int "MOST_LETTERS" 4, .cls "Ports", .noat "Ports" "kinds", .noat "Ports" "_names", .noat "Ports" "_sides", .noat "Ports" "_sides_by_name", .noat "Ports" "_others", .mkr "Ports", .meth "Ports" "has", .exm "InvalidText" "InvalidText" true, .noat "InvalidText" "given"]
def hfa : List He.Fa := hfa0 ++ hfa1 ++ hfa2
def loose0 : List Str := [("_wall" : Str), ("LETTERS" : Str), ("is_integer" : Str), ("is_between" : Str), ("is_list" : Str), ("is_pair" : Str), ("is_name" : Str), ("are_different" : Str), ("NearError" : Str), ("InvalidPorts" : Str), ("InvalidSide" : Str), ("InvalidText" : Str), ("DEEPEST_CONDITION" : Str), ("COMPARING" : Str), ("JOINING" : Str), ("PARTS" : Str), ("DIGITS" : Str), ("is_condition" : Str), ("condition_text" : Str), ("read_condition" : Str), ("amount_text" : Str), ("stacked_words" : Str), ("take_word" : Str), ("take_digit" : Str), ("take_amount" : Str), ("take_condition" : Str), ("_take_condition" : Str), ("_is_condition" : Str), ("_is_amount" : Str), ("MOST_KINDS" : Str)]
def loose1 : List Str := [("MOST_LETTERS" : Str), ("Ports" : Str), ("_sides_of" : Str), ("_without" : Str), ("_are_kinds" : Str), ("_is_kind" : Str), ("_law_cell" : Str), ("_law_box" : Str), ("_law_take" : Str), ("_law_letters" : Str), ("_law_kinds" : Str), ("_law_sides" : Str), ("_law_number" : Str), ("_law_numbers" : Str), ("_law_amount" : Str), ("_law_condition" : Str), ("_law_amount_words" : Str), ("_law_words" : Str), ("_law_amount_read" : Str), ("_law_read" : Str), ("_law_due" : Str), ("_law_spoilt" : Str), ("_law_read_right" : Str), ("_law_written_right" : Str), ("_law_cell_right" : Str)]
def loose : List Str := loose0 ++ loose1
def digK : List Str := ["0", "1", "2", "3", "4", "5", "6", "7", "8", "9"]
def digKV : List (Str × He.Dv) := [("0", .int 0), ("1", .int 1), ("2", .int 2), ("3", .int 3), ("4", .int 4), ("5", .int 5), ("6", .int 6), ("7", .int 7), ("8", .int 8), ("9", .int 9)]
/-- an exception class of the program, as the head sees it -/
def oexB (K : PySem.W.Frag) (C : Addr) : Bool := match K.lookup C with
  | some o => (match o with
    | ⟨.type "type", _, .cls k, slo⟩ => (match k.mro, slo.toList with
      | .ref C2 :: rest, [_, _, _, _, some (.builtin id), _] => decide (C2 = C) && (decide (id = "ValueError.__new__") && (!k.hasDel && (k.hasDict && PySem.HandSPX.refsVE rest)))
      | _, _ => false)
    | _ => false)
  | none => false
def errB (K : PySem.W.Frag) : Bool := oexB K (He.ga K "InvalidText") && (He.eqO (PySem.W.findIn K (.ref (He.ga K "InvalidText")) "__setattr__") (some (some (.builtin "object.__setattr__"))) && (decide (PySem.W.subIn K (.ref (He.ga K "InvalidText")) (.type "BaseException") = some true) &&
  (decide (PySem.W.typeIn K (.ref (He.ga K "InvalidText")) = some (.type "type")) && (PySem.W.keepIn K (.ref (He.ga K "InvalidText")) && (He.eqO (PySem.W.findIn K (.ref (He.ga K "InvalidText")) "__init__") (some (some (.ref (He.ma K (He.ga K "InvalidText") "__init__")))) &&
  (decide (PySem.W.typeIn K (.ref (He.ma K (He.ga K "InvalidText") "__init__")) = some (.type "function")) && (He.eqO (PySem.W.findIn K (.ref (He.ga K "InvalidText")) "__getattribute__") (some (some (.builtin "BaseException.__getattribute__"))) && (He.eqO (PySem.W.findIn K (.ref (He.ga K "InvalidText")) "__getattr__") (some none) &&
  (PySem.W.hasDictIn K (He.ga K "InvalidText") && (He.eqO (PySem.W.findIn K (.ref (He.ga K "InvalidText")) "__class__") (some (some (.builtin "object.__class__"))) && (He.eqO (PySem.W.specialIn K (.builtin "object.__class__") "__get__") (some (some (.builtin "getset_descriptor.__get__"))) &&
  (decide (PySem.W.takesIn K (.builtin "object.__class__") = some true) && (decide (PySem.W.mroIn K (He.ga K "InvalidText") (.type "object") = some true) && decide (PySem.W.kitOne K (.ref (He.ga K "InvalidText")) (.ref (He.ga K "NearError")) = some true))))))))))))))
def tabs : List He.Tab := [(fun K => He.ga K "PARTS", ["is", "above", "both", "either", "not"]), (fun K => He.ga K "DIGITS", digK)]
def partsKV : List (Str × He.Dv) := [("is", .int 2), ("above", .int 2), ("both", .int 2), ("either", .int 2), ("not", .int 1)]
def exM (K : PySem.W.Frag) : Bool := (K.lookup sysModules).isSome && (He.tupB K "COMPARING" [.str "is", .str "above"] && (He.tupB K "JOINING" [.str "both", .str "either", .str "not"] && (He.valsB K (He.ga K "PARTS") partsKV && (He.valsB K (He.ga K "DIGITS") digKV && errB K))))
abbrev AlM : Type := He.AlT × Bool
def obsM (K : PySem.W.Frag) : AlM := (He.obsT hfa hfn tabs K, exM K)
def valM (w : World) : AlM := (He.valT hfn tabs w, true)
def obsMG (g : Addr → Option Obj) : AlM := obsM (He.frG g (sysModules :: He.asD g 5))
def SaysM (w : World) (K : PySem.W.Frag) : Prop := obsM K = valM w
def hook : PySem.W.Hook where
  α := AlM
  obs := fun s => obsMG s.heap.get?
  val := fun w => valM w
  says := fun w h => ∃ K : PySem.W.Frag, K.In h ∧ SaysM w K
  of := fun _ _ e => ⟨_, He.frG_in, e⟩
  keeps := fun _ _ _ ⟨K, hK, c⟩ k => ⟨K, PySem.W.Frag.In.keeps hK k, c⟩
def ob (s : PySem.W.SharedT) : AlM := obsMG (HandSHeadRun.getT s)
theorem ob_eq (s : PySem.W.SharedT) : ob s = hook.obs s.abs := by
  have e : HandSHeadRun.getT s = s.abs.heap.get? := funext (HandSHeadRun.getT_eq s)
  show obsMG (HandSHeadRun.getT s) = obsMG s.abs.heap.get?
  rw [e]
abbrev R : PySem.W.OpenRow := PySem.W.OpenLaw.row PySem.Challenge.rw_nearhelp_k03_condition_texts
theorem run (w : World) : HandSHeadRun.RunEq R (PySem.W.view R.prog [60]) hook ob 4000 loose w := by
  refine PySem.W.byRow2 "special-get-raises" (P := fun w => HandSHeadRun.RunEq R (PySem.W.view R.prog [60]) hook ob 4000 loose w) (fun w os => ?_) (fun w os => ?_) w
  · kernel_rfl
  · kernel_rfl
end NH
set_option maxHeartbeats 4000000
namespace NH
open PySem PySem.Spec PyProof.Rows L2 TL
/-! ### heaps with some objects hidden -/
def hid (bs : List Addr) (H : Hp) : Hp := fun a => if a ∈ bs then none else H a
theorem hid_in {bs : List Addr} {H : Hp} {a : Addr} (h : a ∈ bs) : hid bs H a = none := if_pos h
theorem hid_out {bs : List Addr} {H : Hp} {a : Addr} (h : a ∉ bs) : hid bs H a = H a := if_neg h
theorem hid_some {bs : List Addr} {H : Hp} {a : Addr} {o : HO} (h : hid bs H a = some o) : a ∉ bs ∧ H a = some o := by
  by_cases e : a ∈ bs
  · rw [hid_in e] at h; cases h
  · rw [hid_out e] at h; exact ⟨e, h⟩
theorem hid_le {bs : List Addr} {H : Hp} : Same (hid bs H) H := fun a o h => (hid_some h).2
def Kp (bs : List Addr) (H H' : Hp) : Prop := ∀ a o, a ∉ bs → H a = some o → H' a = some o
theorem Kp.refl (bs : List Addr) (H : Hp) : Kp bs H H := fun _ _ _ h => h
theorem Kp.trans {bs : List Addr} {H H1 H2 : Hp} (x : Kp bs H H1) (y : Kp bs H1 H2) : Kp bs H H2 := fun a o n h => y a o n (x a o n h)
theorem Kp.of {bs : List Addr} {H H' : Hp} (x : Same H H') : Kp bs H H' := fun a o _ h => x a o h
theorem Kp.mono {bs cs : List Addr} {H H' : Hp} (x : Kp bs H H') (h : ∀ a ∈ bs, a ∈ cs) : Kp cs H H' := fun a o n q => x a o (fun z => n (h a z)) q
theorem Kp.new {bs : List Addr} {H : Hp} {p : Addr} {o : HO} (hp : H p = none) : Kp bs H (upd H p o) := Kp.of (same_new hp)
theorem Kp.atb {bs : List Addr} {H : Hp} {b : Addr} {o : HO} (h : b ∈ bs) : Kp bs H (upd H b o) := fun a u n e => by rw [upd_ne (fun z => n (by rw [z]; exact h))]; exact e
theorem Kp.put {bs : List Addr} {H H' : Hp} {p : Addr} {o : HO} (x : Kp bs H H') (hp : H p = none) : Kp bs H (upd H' p o) := fun a u n e => by rw [upd_ne (ne_of_none e hp)]; exact x a u n e
theorem Kp.hid {bs : List Addr} {H H' : Hp} (x : Kp bs H H') : Same (hid bs H) (hid bs H') := fun a o h => by
  obtain ⟨n, e⟩ := hid_some h
  rw [hid_out n]
  exact x a o n e
/-- all these stand -/
def Al (bs : List Addr) (H : Hp) : Prop := ∀ a ∈ bs, ∃ o, H a = some o
theorem Al.new {bs : List Addr} {H : Hp} {p : Addr} (x : Al bs H) (hp : H p = none) : p ∉ bs := fun z => by
  obtain ⟨o, e⟩ := x p z
  rw [hp] at e; cases e
theorem Al.same {bs : List Addr} {H H' : Hp} (x : Al bs H) (s : Same H H') : Al bs H' := fun a h => let ⟨o, e⟩ := x a h; ⟨o, s a o e⟩
/-- the box at b -/
def Bx (b : Addr) (n : Nat) (H : Hp) : Prop := ∃ o, H b = some o ∧ IsBox n o
theorem Bx.mono {b : Addr} {n m : Nat} {H : Hp} (x : Bx b n H) (h : n ≤ m) : Bx b m H := let ⟨o, e, i⟩ := x; ⟨o, e, i.mono h⟩
theorem Bx.same {b : Addr} {n : Nat} {H H' : Hp} (x : Bx b n H) (s : Same H H') : Bx b n H' := let ⟨o, e, i⟩ := x; ⟨o, s _ _ e, i⟩
theorem Bx.kp {b : Addr} {n : Nat} {bs : List Addr} {H H' : Hp} (x : Bx b n H) (s : Kp bs H H') (h : b ∉ bs) : Bx b n H' := let ⟨o, e, i⟩ := x; ⟨o, s _ _ h e, i⟩
theorem Al.kp {b : Addr} {n : Nat} {bs : List Addr} {H H' : Hp} (x : Al bs H) (s : Kp [b] H H') (h : Bx b n H') : Al bs H' := fun a z => by
  by_cases e : a = b
  · subst e; obtain ⟨o, q, _⟩ := h; exact ⟨o, q⟩
  · obtain ⟨o, q⟩ := x a z; exact ⟨o, s a o (by simpa using e) q⟩
theorem Bx.ne {b p : Addr} {n : Nat} {H : Hp} (x : Bx b n H) (hp : H p = none) : b ≠ p := fun z => by obtain ⟨o, e, _⟩ := x; rw [z, hp] at e; cases e
theorem Bx.put {b p : Addr} {n : Nat} {H : Hp} {o : HO} (x : Bx b n H) (h : b ≠ p) : Bx b n (upd H p o) := let ⟨u, e, i⟩ := x; ⟨u, by rw [upd_ne h]; exact e, i⟩
theorem tk {b : Addr} {m n : Nat} {H : Hp} {Q : VK} {E : XK} (x : Bx b n H) (hn : n ≤ 1000000000) (h0 : 0 < m) (h1 : m ≤ 1000000) (q : ∀ (d : Nat) H', d < m → Kp [b] H H' → Bx b (n + 1) H' → (∀ a, a ≠ b → H' a = H a) → Q (.int d) H') :
    spTake ([.ref b, .int m] ++ []) H Q E := by
  obtain ⟨o, e, i⟩ := x
  exact ⟨b, m, n, o, rfl, e, i, hn, h0, h1, fun d o' hd io => q d _ hd (Kp.atb (by simp)) ⟨o', upd_same, io⟩ fun a h => upd_ne h⟩
theorem tyes {σ : L2.St} {H : Hp} {F : Bool → Hp → Prop} (h : F true H) : tYes σ H F := h
/-! ### letters -/
def Ltr (x : Str) : Prop := ∀ c ∈ x.cps.toList, 97 ≤ c ∧ c ≤ 122
def abc : Str := Str.ofString "abcdefghijklmnopqrstuvwxyz"
theorem abc_at : ∀ d : Nat, d < 26 → abc.cps.toList[d]? = some (97 + d) := by decide +kernel
def sg (c : Nat) : Str := ⟨#[c]⟩
theorem join_sg (l : List Nat) : (Txt.join (Str.ofString "") (l.map sg)).cps.toList = l := by
  have h : tl (Str.join (Str.ofString "") (l.map sg)) = l := by
    rw [tl_join]
    have e0 : tl (Str.ofString "") = [] := rfl
    rw [e0]
    induction l with
    | nil => rfl
    | cons c r ih =>
      cases r with
      | nil => rfl
      | cons d r =>
        show tl (sg c) ++ ([] ++ joinL [] ((sg d :: r.map sg).map tl)) = _
        rw [List.nil_append]
        have ih' : joinL [] ((sg d :: r.map sg).map tl) = d :: r := ih
        rw [ih']
        rfl
  rw [join_eq]
  exact h
section
variable {P : Program} {w : World} {K : PySem.W.Frag} {mg : Str → Option Value} {base : Heap}
abbrev s_law_letters : Stmt := top 44
theorem sc_law_letters : FnScope ["box", "many", "k"] ["box", "many"] (defScope s_law_letters) := ⟨rfl, rfl, rfl, by decide +kernel, rfl, by decide +kernel, by decide +kernel⟩
def spLetters : Sp := fun vs H Q _ => ∃ (b : Addr) (m n : Nat), vs = [.ref b, .int m] ∧ Bx b n H ∧ n ≤ 900000000 ∧ m ≤ 1000 ∧ ∀ (l : List Nat) (x : Str) H', x.cps.toList = l → l.length = m → Ltr x → Kp [b] H H' → Bx b (n + m) H' → Q (.str x) H'
theorem ok_law_letters (G : Bl mg) (D : DefAt K mg "_law_letters" s_law_letters) (cT : Callee P w K mg base 2 "_law_take" ["box", "many"] spTake) : Callee P w K mg base 4 "_law_letters" ["box", "many"] spLetters := by
  refine callee D sc_law_letters (fun vs H Q E h => by obtain ⟨b, m, n, rfl, _⟩ := h; rfl) (fun _ _ _ _ _ _ us hl => match us, hl with | [_, _], _ => rfl) fun f cdv A outer s H vs Q E hr h => ?_
  obtain ⟨b, m, n, rfl, hb, hn, hm, q⟩ := h
  refine ⟨_, pss_one (ps_ret (pe_join pe_str (pe_lc (own := [("k", 2)]) (g := gName 2) rfl sc_law_letters.nd (pi_range1 (by rfl) G.b_range (pa_cons (pv 1) pa_nil)) (blkOk_by (N := ["box", "many", "k"]) (sc := defScope s_law_letters) (by decide +kernel)) (fun _ _ _ _ _ => pg_name (i := 2) sc_law_letters.nd rfl (Or.inl rfl)) (fun _ _ _ _ _ => pts_nil)
    (fun _ _ _ _ _ => pe_ix ix_str pe_str (pe_cal cT hr (by decide) (pa_cons (pv 0) (pa_cons pe_int pa_nil))) (fun _ _ => rfl))))), ?_⟩
  refine ⟨⟨_, rfl⟩, _, rfl, m, rfl, by omega, by omega, fun D hD => ?_⟩
  have bD := hb.ne hD
  refine lc_range (lo := 0) (n := m) (fun i H' => ∃ l : List Nat, l.length = i ∧ (∀ c ∈ l, 97 ≤ c ∧ c ≤ 122) ∧ Kp [b] H H' ∧ Bx b (n + i) H' ∧ H' D = some (.lst ((l.map sg).map V.str))) ⟨[], rfl, (by intro c h; cases h), Kp.new hD, hb.same (same_new hD), upd_same⟩ ?_ ?_
  · rintro i H1 hi ⟨l, hl, hc, k1, b1, d1⟩
    refine ⟨rfl, tyes ?_⟩
    refine iteT ?_
    refine ⟨_, rfl, ?_⟩
    obtain ⟨o1, e1, i1⟩ := id b1
    refine ⟨b, 26, _, o1, rfl, e1, i1, by omega, by decide, by decide, fun d o2 hd i2 => ?_⟩
    refine ⟨abc, d, 97 + d, rfl, rfl, by decide, atI_nat (abc_at d hd), (l.map sg).map V.str, by rw [upd_ne (Ne.symm bD)]; exact d1, ?_, l ++ [97 + d], by rw [List.length_append, hl]; rfl, ?_, (k1.trans (Kp.atb (by simp))).put hD, Bx.put ⟨o2, upd_same, i2⟩ bD, ?_⟩
    · rw [List.length_map, List.length_map]; exact small1000 (by omega)
    · intro c h
      rcases List.mem_append.mp h with h | h
      · exact hc c h
      · rw [List.mem_singleton.mp h]; omega
    · rw [upd_same, List.map_append, List.map_append]; rfl
  · rintro H1 ⟨l, hl, hc, k1, b1, d1⟩
    refine ⟨_, D, l.map sg, rfl, rfl, .inl (SqL.of d1), ?_, ?_⟩
    · have e1 : ((l.map sg).map (·.length)).sum = l.length := by
        clear hl hc d1
        induction l with
        | nil => rfl
        | cons c r ih => rw [List.map_cons, List.map_cons, List.sum_cons, ih, List.length_cons]; show 1 + _ = _; omega
      rw [e1, List.length_map]
      show l.length + l.length * 0 ≤ _
      omega
    · have e := join_sg l
      exact q l _ H1 e hl (fun c h => hc c (by rw [e] at h; exact h)) k1 b1
end
end NH
set_option maxHeartbeats 4000000
namespace NH
open PySem PySem.Spec PyProof.Rows L2 TL
def menuM (d : Nat) : Nat := ([1, 2, 3, 2, 1, 4, 12, 2] : List Nat).getD d 1
theorem menuM_at : ∀ d : Nat, d < 8 → atI ([.int 1, .int 2, .int 3, .int 2, .int 1, .int 4, .int 12, .int 2] : List V) (d : Int) = some (.int (menuM d : Int)) := by decide +kernel
theorem menuM_le : ∀ d : Nat, d < 8 → 1 ≤ menuM d ∧ menuM d ≤ 12 := by decide +kernel
abbrev Kind := Str × Nat
/-- a list of kinds -/
def KindsAt (H : Hp) : List V → List Kind → Prop := Paired fun v k => ∃ t, v = .ref t ∧ H t = some (.tup [.str k.1, .int (k.2 : Int)])
theorem KindsAt.same {H H' : Hp} (s : Same H H') : ∀ {vs : List V} {ks : List Kind}, KindsAt H vs ks → KindsAt H' vs ks
  | _, _, .nil => .nil
  | _, _, .cons ⟨t, e, h⟩ r => .cons ⟨t, e, s _ _ h⟩ (KindsAt.same s r)
structure GoodKinds (ks : List Kind) : Prop where
  len : 1 ≤ ks.length ∧ ks.length ≤ 12
  ltr : ∀ k ∈ ks, Ltr k.1 ∧ 1 ≤ k.1.cps.toList.length ∧ k.1.cps.toList.length ≤ 4
  two : ∀ k ∈ ks, k.2 = 2 ∨ k.2 = 3
  nd : (ks.map (·.1)).Nodup
def spin (s k : Nat) : Nat := 97 + (s + 5 * k) % 26
theorem spin_inj {s i j : Nat} (hi : i < 12) (hj : j < 12) (h : spin s i = spin s j) : i = j := by
  unfold spin at h
  omega
theorem Al.put {bs : List Addr} {H : Hp} {p : Addr} {o : HO} (x : Al bs H) : Al bs (upd H p o) := fun a h => by
  by_cases e : a = p
  · exact ⟨o, by rw [e]; exact upd_same⟩
  · obtain ⟨u, q⟩ := x a h; exact ⟨u, by rw [upd_ne e]; exact q⟩
theorem pairAll_append {α β : Type} {F : α → β → Prop} : ∀ {xs : List α} {ys : List β} {x : α} {y : β}, Paired F xs ys → F x y → Paired F (xs ++ [x]) (ys ++ [y])
  | _, _, _, _, .nil, h => .cons h .nil
  | _, _, _, _, .cons a r, h => .cons a (pairAll_append r h)
theorem Same.put {H H' : Hp} {p : Addr} {o : HO} (x : Same H H') (hp : H p = none) : Same H (upd H' p o) := fun a u e => by rw [upd_ne (ne_of_none e hp)]; exact x a u e
theorem Kp.put2 {bs : List Addr} {H H' : Hp} {p : Addr} {o : HO} (x : Kp bs H H') (hp : p ∈ bs) : Kp bs H (upd H' p o) := x.trans (Kp.atb hp)
theorem len_tl (x : Str) : x.length = x.cps.toList.length := (Array.length_toList).symm
theorem app_sg_inj {st : Str} {c d : Nat} (h : st ++ sg c = st ++ sg d) : c = d := by
  have e := congrArg tl h
  rw [tl_append, tl_append] at e
  have e2 := List.append_cancel_left e
  injection e2
theorem names_nd {st : Str} {sh n : Nat} (hn : n ≤ 12) : ((List.range n).map fun k => st ++ sg (spin sh k)).Nodup := by
  refine List.pairwise_map.mpr (List.Pairwise.imp_of_mem ?_ (List.pairwise_lt_range (n := n)))
  intro i j hi hj hlt e
  rw [List.mem_range] at hi hj
  have z := spin_inj (by omega) (by omega) (app_sg_inj e)
  omega
end NH
set_option maxHeartbeats 4000000
namespace NH
open PySem PySem.Spec PyProof.Rows L2 TL
theorem paired_get {α β : Type} {F : α → β → Prop} : ∀ {xs : List α} {ys : List β} {i : Nat} {x : α}, Paired F xs ys → xs[i]? = some x → ∃ y, ys[i]? = some y ∧ F x y
  | _, _, _, _, .nil, e => by simp at e
  | _, _, 0, _, .cons r _, e => by simp at e; subst e; exact ⟨_, rfl, r⟩
  | _, _, i + 1, x, .cons _ t, e => by
    obtain ⟨u, h1, h2⟩ := paired_get (i := i) (x := x) t (by simpa using e)
    exact ⟨u, by simpa using h1, h2⟩
def dg (i : Nat) : Str := sg (49 + i)
def d123 : Str := Str.ofString "123"
theorem d123_at : ∀ i : Nat, i < 3 → d123.cps.toList[i]? = some (49 + i) := by decide +kernel
def sidesK (k : Kind) : List Str := (List.range k.2).map fun i => k.1 ++ dg i
def sidesOf (ks : List Kind) : List Str := ks.flatMap sidesK
theorem sidesOf_take {ks : List Kind} {i : Nat} {k : Kind} (h : ks[i]? = some k) : sidesOf (ks.take (i + 1)) = sidesOf (ks.take i) ++ sidesK k := by
  obtain ⟨hi, e⟩ := List.getElem?_eq_some_iff.mp h
  unfold sidesOf
  rw [List.take_succ_eq_append_getElem hi, List.flatMap_append, e]
  simp
/-- kinds that sides can be told of -/
structure FairKinds (ks : List Kind) : Prop where
  len : ks.length ≤ 12
  nm : ∀ k ∈ ks, k.1.cps.toList.length ≤ 4
  two : ∀ k ∈ ks, k.2 = 2 ∨ k.2 = 3
theorem GoodKinds.fair {ks : List Kind} (g : GoodKinds ks) : FairKinds ks := ⟨g.len.2, fun k h => (g.ltr k h).2.2, g.two⟩
theorem sides_len : ∀ {ks : List Kind}, (∀ k ∈ ks, k.2 = 2 ∨ k.2 = 3) → (sidesOf ks).length ≤ 3 * ks.length
  | [], _ => by simp [sidesOf]
  | k :: r, h => by
    have ih := sides_len (ks := r) fun z hz => h z (List.mem_cons_of_mem _ hz)
    have e : sidesOf (k :: r) = sidesK k ++ sidesOf r := rfl
    have z : (sidesK k).length = k.2 := by unfold sidesK; rw [List.length_map, List.length_range]
    rw [e, List.length_append, z, List.length_cons]
    rcases h k (List.mem_cons_self ..) with q | q <;> omega
section
variable {P : Program} {w : World} {K : PySem.W.Frag} {mg : Str → Option Value} {base : Heap}
abbrev s_law_sides : Stmt := top 46
theorem sc_law_sides : FnScope ["kinds", "found", "name", "many", "k"] ["kinds"] (defScope s_law_sides) := ⟨rfl, rfl, rfl, by decide +kernel, rfl, by decide +kernel, by decide +kernel⟩
def spSides : Sp := fun vs H Q _ => ∃ (a : Addr) (xs : List V) (ks : List Kind), vs = [.ref a] ∧ H a = some (.lst xs) ∧ KindsAt H xs ks ∧ FairKinds ks ∧ ∀ (p : Addr) (ys : List Str) H', Same H H' → H p = none → H' p = some (.lst (ys.map .str)) → ys.Perm (sidesOf ks) → Q (.ref p) H'
theorem ok_law_sides (G : Bl mg) (D : DefAt K mg "_law_sides" s_law_sides) : Callee P w K mg base 2 "_law_sides" ["kinds"] spSides := by
  refine callee D sc_law_sides (fun vs H Q E h => by obtain ⟨a, xs, ks, rfl, _⟩ := h; rfl) (fun _ _ _ _ _ _ us hl => match us, hl with | [_], _ => rfl) fun f cdv A outer s H vs Q E hr h => ?_
  obtain ⟨a, xs, ks, rfl, ha, hk, fk, q⟩ := h
  refine ⟨_, (pss_cons (ps_set (i := 1) sc_law_sides.nd rfl (Or.inl rfl) (pe_lst pa_nil))
    (pss_cons (ps_for PassesOwn.never rfl (pi_list (pv 0)) (pg_tup (by rfl) (pgs_cons (pg_name (i := 2) sc_law_sides.nd rfl (Or.inr rfl)) (pgs_cons (pg_name (i := 3) sc_law_sides.nd rfl (Or.inl rfl)) pgs_nil))) (pss_one (ps_set (i := 1) sc_law_sides.nd rfl (Or.inl rfl) (pe_op op_cat (pv 1) (pe_lc (own := [("k", 4)]) (g := gName 4) rfl sc_law_sides.nd (pi_range1 (by rfl) G.b_range (pa_cons (pv 3) pa_nil)) (blkOk_by (N := ["kinds", "found", "name", "many", "k"]) (sc := defScope s_law_sides) (by decide +kernel)) (fun _ _ _ _ _ => (pg_name (i := 4) sc_law_sides.nd rfl (Or.inl rfl))) (fun _ _ _ _ _ => pts_nil) (fun _ _ _ _ _ => (pe_op op_add_str (pv 2) (pe_ix ix_str pe_str (pv 4) (fun _ _ => rfl)))))))))
    (pss_one (ps_ret (pe_callB cr_sortedS (by rfl) G.b_sorted (by decide +kernel) (pa_cons (pv 1) pa_nil)))))), ?_⟩
  refine ⟨by show 0 ≤ sizeLine; decide, fun p0 hp0 => ⟨_, rfl, a, rfl, ⟨xs, SqL.of (same_new hp0 a _ ha)⟩, for_list (K := K) (a := a) (xs := xs) (fun i σ H' => ∃ (fd : Addr) (x2 x3 : Option V), σ = [some (.ref a), some (.ref fd), x2, x3, none] ∧ Same H H' ∧ H fd = none ∧ H' fd = some (.lst ((sidesOf (ks.take i)).map .str)))
    ⟨p0, none, none, rfl, same_new hp0, hp0, upd_same⟩ (fun i σ H' _ ⟨_, _, _, _, s1, _⟩ => SqL.of (s1 a _ ha)) ?_ ?_⟩⟩
  · rintro i x σ H1 hx ⟨fd, x2, x3, rfl, s1, hfd, d1⟩
    obtain ⟨k, ek, t, rfl, ht⟩ := paired_get hk hx
    have mk : k ∈ ks := List.mem_of_getElem? ek
    have ltw := fk.two k mk
    have lnm := fk.nm k mk
    refine ⟨t, _, rfl, SqT.of (s1 t _ ht), rfl, _, _, rfl, _, _, rfl, rfl, _, rfl, _, rfl, k.2, rfl, by omega, by omega, fun D hD => ?_⟩
    refine lc_range (lo := 0) (n := k.2) (fun j H' => Same H1 H' ∧ H' D = some (.lst (((List.range j).map fun z => k.1 ++ dg z).map .str))) ⟨same_new hD, upd_same⟩ ?_ ?_
    · rintro j H2 hj ⟨s2, d2⟩
      refine ⟨rfl, tyes ?_⟩
      refine iteT ?_
      refine ⟨_, rfl, _, rfl, d123, _, 49 + j, rfl, rfl, by decide, ?_, _, _, rfl, rfl, ?_, _, d2, ?_, Same.put s2 hD, ?_⟩
      · rw [show (0 : Int) + (j : Int) = (j : Int) by omega]; exact atI_nat (d123_at _ (by omega))
      · have e1 : k.1.length ≤ 4 := by rw [len_tl]; exact lnm
        show k.1.length + 1 ≤ sizeLine
        exact Nat.le_of_lt (small1000 (by omega))
      · rw [List.length_map, List.length_map, List.length_range]; exact small1000 (by omega)
      · rw [upd_same, List.range_succ, List.map_append, List.map_append]; rfl
    · rintro H2 ⟨s2, d2⟩
      refine ⟨_, _, _, _, rfl, rfl, s2 fd _ d1, d2, ?_, fun p hp => ⟨p, _, _, rfl, Same.trans s1 (s2.trans (same_new hp)), ?_, ?_⟩⟩
      · have z1 := sides_len (ks := ks.take i) fun z hz => fk.two z (List.mem_of_mem_take hz)
        have z2 := fk.len
        rw [List.length_map, List.length_map, List.length_map, List.length_range]
        rw [List.length_take] at z1
        exact Nat.le_of_lt (small1000 (by omega))
      · exact (s1.trans s2).free hp
      · rw [upd_same, sidesOf_take ek, List.map_append]; rfl
  · rintro σ H1 ⟨fd, x2, x3, rfl, s1, hfd, d1⟩
    have e : ks.take xs.length = ks := by rw [Paired.length hk]; exact List.take_length
    rw [e] at d1
    refine ⟨_, rfl, fd, _, rfl, SqL.of d1, ?_, fun ys p perm _ hp => q p ys _ (s1.trans (same_new hp)) (s1.free hp) upd_same perm⟩
    have z1 := sides_len fk.two
    have z2 := fk.len
    omega
end
end NH
set_option maxHeartbeats 4000000
/-! set(xs) of texts that all differ, and its length. -/
namespace NSet
open PySem PySem.Spec PyProof.Rows L2
/-- the first so many texts, as a question -/
abbrev upto (zs : List Str) (j : Nat) : Str → Bool := fun q => (zs.take j).any (· == q)
theorem upto_step {zs : List Str} {j : Nat} (hj : j < zs.length) (q : Str) : (upto zs j q || decide (q = zs.getD j Str.empty)) = upto zs (j + 1) q := by
  have eD : zs.getD j Str.empty = zs[j] := by simp [List.getD, hj]
  show ((zs.take j).any (· == q) || decide (q = zs.getD j Str.empty)) = (zs.take (j + 1)).any (· == q)
  rw [List.take_succ_eq_append_getElem hj, List.any_append, eD]
  congr 1
  simp only [List.any_cons, List.any_nil, Bool.or_false]
  by_cases e : q = zs[j]
  · rw [decide_eq_true e, e]; simp
  · rw [decide_eq_false e]; exact (beq_eq_false_iff_ne.mpr (Ne.symm e)).symm
theorem upto_new {zs : List Str} (nd : zs.Nodup) {j : Nat} (hj : j < zs.length) : upto zs j (zs.getD j Str.empty) = false := by
  have eD : zs.getD j Str.empty = zs[j] := by simp [List.getD, hj]
  rw [eD]
  refine List.any_eq_false.mpr fun y hy e => ?_
  have e' : y = zs[j] := by simpa using e
  obtain ⟨m, hm, em⟩ := List.mem_iff_getElem.mp hy
  rw [List.length_take] at hm
  have em2 : zs[m]'(by omega) = zs[j] := by rw [← e', ← em, List.getElem_take]
  have z := (List.getElem_inj nd).mp em2
  omega
section
variable {prog : Program} {w : World} {A : Around} {R : Result → Shared → Prop} {I : Addr} {fp wr : List Addr} {Gn : Array GenState → Array GenState → Prop} {n : Nat} {P : Nat → Value → Prop} {St : Nat → Shared → Prop}
theorem fill (W : WalksS prog w A.in1 I fp wr Gn n P St) (a : Addr) (af : a ∉ fp) (zs : List Str) (nd : zs.Nodup) (hz : zs.length = n) (hs : n ≤ 1000) (val : ∀ j v, P j v → ∃ t, v = .str (zs.getD j Str.empty) t) :
    ∀ (left j : Nat) (s : Shared), j + left = n → St j s → s.heap.SetOf (PySem.strKind prog w) a (upto zs j) j →
      (∀ s', Moved (a :: wr) Gn s s' → s'.heap.SetOf (PySem.strKind prog w) a (upto zs n) n → R (.ok (.ret .none)) s') → codeAny (model prog w) A (.builtin "set.update.loop" ⟨[.ref a, .ref I], []⟩) R s := by
  have aw : a ∉ wr := fun h => af (W.sub _ h)
  have more : ∀ b ∈ wr, b ∈ a :: wr := fun b hb => List.mem_cons_of_mem _ hb
  intro left
  induction left with
  | zero =>
    intro j s hj hst hS hR
    obtain rfl : j = n := by omega
    refine codeAny_builtin PyProof.Rows.F.entry_set_update_loop ?_
    rw [Around.under_plainId PyProof.Rows.F.plain_set_update_loop _]
    show wpAny _ A.in1 (pyNext (.ref I) >>= _) _ _ s
    refine wpAny_bind (W.done s _ _ hst fun s1 mv => ?_)
    show wpAny _ A.in1 (ret Value.none) _ _ s1
    obtain ⟨o, es, ep, t, g, rest⟩ := hS
    exact wpAny_pure (hR s1 (mv.mono more) ⟨o, es, ep, t, mv.heap a _ aw g, rest⟩)
  | succ left ih =>
    intro j s hj hst hS hR
    have lt : j < n := by omega
    refine codeAny_builtin PyProof.Rows.F.entry_set_update_loop ?_
    rw [Around.under_plainId PyProof.Rows.F.plain_set_update_loop _]
    show wpAny _ A.in1 (pyNext (.ref I) >>= _) _ _ s
    refine wpAny_bind (W.item j s _ _ lt hst fun v s1 hP st1 mv => ?_)
    obtain ⟨t, rfl⟩ := val j v hP
    have hS1 : s1.heap.SetOf (PySem.strKind prog w) a (upto zs j) j := by
      obtain ⟨o, es, ep, tb, g, rest⟩ := hS
      exact ⟨o, es, ep, tb, mv.heap a _ aw g, rest⟩
    have new := upto_new nd (j := j) (by omega)
    show wpAny _ A.in1 (holding [Value.str (zs.getD j Str.empty) t] (setAdd a (.str (zs.getD j Str.empty) t)) >>= _) _ _ s1
    refine wpAny_bind (wpAny_holding ?_)
    unfold setAdd
    refine wpAny_holding (wpAny_bind ((PySem.strKind prog w).pyHash (k := zs.getD j Str.empty) (strKind_is _ _ _ _) ?_))
    refine wpAny_setAddHashed_of (knd := PySem.strKind prog w) (s := { s1 with toks := s1.toks + 1 }) (strKind_is _ _ _ _) rfl hS1 (by unfold scanBound; omega) fun h2 sb hS2 => ?_
    have hS3 : h2.SetOf (PySem.strKind prog w) a (upto zs (j + 1)) (j + 1) := PyProof.Rows.SetOf_congr hS2 (fun q => upto_step (by omega) q) (by rw [new]; rfl)
    refine wpAny_pure ⟨plainId_quiet PyProof.Rows.F.plain_set_update_loop _, ih (j + 1) _ (by omega) (W.frame _ s1 _ _ st1 (Nat.le_succ _) fun b hb o e => ?_) hS3 fun s4 mv4 hS4 => ?_⟩
    · exact (sb.2 b fun z => af (by rw [← z]; exact hb)).trans e
    · refine hR s4 (Moved.trans W.gtrans ((mv.mono more).then_heap (Nat.le_succ _) fun b o hb e => ?_) mv4) hS4
      exact (sb.2 b fun z => hb (by rw [z]; exact List.mem_cons_self)).trans e
end
end NSet
namespace NSet
open PySem PySem.Spec PyProof.Rows L2
section
variable {prog : Program} {w : World} {A : Around} {E : Value → Shared → Prop} {s : Shared}
/-- the empty set that set(..) begins with -/
abbrev setB (led : Bool) : Obj := { cls := .type "set", dict := none, data := .set #[] 0 (.fresh 0 0 led) }
abbrev grown (s : Shared) (led : Bool) : Shared := { s with heap := s.heap.push (setB led) }
/-- what set(xs) leaves -/
def Full (prog : Program) (w : World) (s : Shared) (zs : List Str) (s' : Shared) : Prop := ∃ h' tk, s' = { s with heap := h', toks := tk } ∧ h'.SetOf (PySem.strKind prog w) s.heap.objs.size (upto zs zs.length) zs.length ∧ ∀ b o, b < s.heap.objs.size → s.heap.get? b = some o → h'.get? b = some o
theorem init_list {B : Around} {l : Addr} {items : Array Value} {zs : List Str} {led : Bool} (hh : B.handled = none) (hl : s.heap.IsList l items) (hi : PyProof.Rows.StrsAre items.toList zs) (nd : zs.Nodup) (sm : zs.length ≤ 1000) :
    codeAny (model prog w) B (.call (.builtin "set.__init__") ⟨[.ref s.heap.objs.size, .ref l], []⟩) (wants (fun r s2 => r = .none ∧ Full prog w s zs s2) E) (grown s led) := by
  have at_ : (grown s led).heap.get? s.heap.objs.size = some (setB led) := Heap.get?_push_size _ rfl
  refine codeAny_call_builtin PySem.F.called_set.init.plain PySem.F.entry_set_init (check_set_init_1 ⟨_, at_, rfl⟩ ?_)
  obtain ⟨⟨oc, od, dt, sl⟩, hol, ec, nl, ed⟩ := hl
  dsimp only at ec ed
  subst ec ed
  have in2 : (grown s led).heap.get? l = some { cls := .type "list", dict := od, data := .seq items nl, slots := sl } := Heap.get?_push_of_some _ hol
  have il : (grown s led).heap.IsList l items := ⟨_, in2, rfl, nl, rfl⟩
  have f1 := PySem.F.sub_list_set
  have f2 := PySem.F.sub_list_frozenset
  have f3 : (Value.type "list" == Value.type "dict") = false := by decide
  unfold Builtin.«set.__init__» noKeywords Builtin.Frozenset.updateFrom
  generalize hP : pyIter = pyI
  wp_walk
  subst hP
  refine wpAny_pyIter_list il (wpAny_bind (wpAny_runValue ?_))
  have ll : l < s.heap.objs.size := Heap.lt_size hol
  have ez : (grown s led).heap.objs.size = s.heap.objs.size + 1 := Heap.size_push ..
  have h2 : B.in1.in1.handled = none := by simp [hh]
  have ne1 : l ≠ (grown s led).heap.objs.size := by rw [ez]; exact Nat.ne_of_lt (Nat.lt_succ_of_lt ll)
  have nf : s.heap.objs.size ∉ [(grown s led).heap.objs.size, l] := by
    rw [ez]
    intro z
    rcases List.mem_cons.mp z with z | z
    · exact Nat.ne_of_lt (Nat.lt_succ_self _) z
    · exact Nat.ne_of_gt ll (List.mem_singleton.mp z)
  have eL : zs.length = items.size := by rw [← StrsAre.len_eq hi, Array.length_toList]
  have val : ∀ (j : Nat) (v : Value), items[j]? = some v → ∃ t, v = .str (zs.getD j Str.empty) t := fun j v hv => SS.strs_at hi j v (by rw [Array.getElem?_toList]; exact hv)
  refine fill ((Walks.list h2 _ l ne1 items).toS) s.heap.objs.size nf zs nd eL (by omega) val items.size 0 _ (by omega) ⟨⟨_, Heap.get?_push_size _ rfl, rfl, rfl⟩, (il.push _)⟩ ?_ ?_
  · have g2 : ((grown s led).heap.push { cls := .type "list_iterator", data := .fields #[.ref l, .int 0 0] }).get? s.heap.objs.size = some (setB led) := Heap.get?_push_of_some _ at_
    exact PyProof.Rows.SetOf_congr ((PyProof.Rows.setObjOf_fresh (knd := PySem.strKind prog w) led).setOf g2 (by unfold scanBound; omega)) (fun _ => rfl) rfl
  · rintro ⟨h', g', d', tk', os'⟩ mv hS
    obtain rfl : g' = s.gens := mv.gens
    obtain rfl : d' = s.drawn := mv.drawn
    obtain rfl : os' = s.os := mv.os
    show wpAny _ _ _ _ _ _
    refine wpAny_pure ?_
    show wpAny _ _ (ret Value.none) _ _ _
    refine wpAny_pure ⟨rfl, h', tk', rfl, by rw [eL]; exact hS, fun b o hb e => ?_⟩
    refine mv.heap b o (fun z => ?_) (Heap.get?_push_of_some _ (Heap.get?_push_of_some _ e))
    rcases List.mem_cons.mp z with z | z
    · exact Nat.ne_of_lt hb z
    · have z2 := List.mem_singleton.mp z
      rw [ez] at z2
      exact Nat.ne_of_lt (Nat.lt_succ_of_lt hb) z2
set_option maxHeartbeats 8000000 in
theorem call_set_texts {l : Addr} {items : Array Value} {zs : List Str} {Q : Value → Shared → Prop} (hh : A.handled = none) (hl : s.heap.IsList l items) (hi : PyProof.Rows.StrsAre items.toList zs) (nd : zs.Nodup) (sm : zs.length ≤ 1000)
    (q : ∀ s', Full prog w s zs s' → Q (.ref s.heap.objs.size) s') : wpAny (model prog w) A (call (.type "set") [.ref l]) Q E s := by
  obtain ⟨mc, mt, mro⟩ := PySem.F.called_set.mro
  have made := PySem.F.called_set.made
  have sub := PySem.F.called_set.sub
  have nt := PySem.F.called_set.notType
  have cc := PySem.F.called_set.canCreate
  have tc := PySem.F.typeCall_set_1 (.ref l)
  refine wpAny_call (codeAny_of_tree ?_)
  show wpAny _ _ (callAny (.type "set") _) _ _ _
  refine wpAny_pure ⟨Code.quiet_builtin _ (by decide +kernel), codeAny_builtin PySem.F.entry_type_call ?_⟩
  rw [Around.under_plain (weight_type_call_type "set" [.ref l] []) rfl]
  repeat (any_goals (first | assumption | wp_step))
  refine codeAny_mono (code_set_new_1 (.ref l) (E := E) (Q₁ := fun obj s1 => ∃ led : Bool, obj = .ref s.heap.objs.size ∧ s1 = grown s led) fun led => ⟨led, rfl, rfl⟩) fun r s1 hr => ?_
  cases r with
  | error e => exact hr
  | ok fl =>
    cases fl with
    | ret obj =>
      obtain ⟨led, rfl, rfl⟩ := hr
      have at_ : (grown s led).heap.get? s.heap.objs.size = some (setB led) := Heap.get?_push_size _ rfl
      have ty : Shared.TypeIs (grown s led) (.ref s.heap.objs.size) "set" := ⟨_, at_, rfl⟩
      have li := PySem.F.called_set.init.lookup
      have bi := PySem.F.called_set.init.bind (.ref s.heap.objs.size)
      repeat (any_goals (first | assumption | wp_step))
      refine codeAny_mono (init_list (B := A.in1) (E := E) (by simp [hh]) hl hi nd sm) fun r2 s2 hr2 => ?_
      cases r2 with
      | error e => exact hr2
      | ok fl2 =>
        cases fl2 with
        | ret u =>
          obtain ⟨rfl, fu⟩ := hr2
          repeat (any_goals (first | assumption | wp_step))
          exact q _ fu
        | next => exact hr2.elim
        | brk => exact hr2.elim
        | cont => exact hr2.elim
    | next => exact hr.elim
    | brk => exact hr.elim
    | cont => exact hr.elim
end
end NSet
namespace NSet
open PySem PySem.Spec PyProof.Rows L2
/-- len(set(xs)), xs a list of texts that all differ -/
def tLenTx (K : PySem.W.Frag) (ta : TE) : TE := fun σ H Q => ta σ H fun x H1 => ∃ l, ∃ zs : List Str, x = .ref l ∧ SqL K H1 l (zs.map V.str) ∧ zs.Nodup ∧ zs.length ≤ 1000 ∧ Q (.int zs.length) H1
theorem strs_vals : ∀ {ys : List Str} {us : List Value}, Vals (ys.map V.str) us → StrsAre us ys
  | [], _, .nil => .nil
  | y :: ys, _, .cons r t => by
    obtain ⟨k, rfl⟩ := r
    exact .cons y k (strs_vals t)
variable {X : Cx}
theorem pe_lenTx {a : Expr} {ta : TE} {p p2 q pos : Pos} (hc : X.calm = true) (g1 : Gl X "len") (m1 : X.mg "len" = none) (g2 : Gl X "set") (m2 : X.mg "set" = none) (ha : PE X a ta)
    (na : starEach [a] X.env = (false, eval a X.env) :: starEach [] X.env := by rfl) : PE X (.Call (.Name "len" p) [.Call (.Name "set" p2) [a] [] q] [] pos) (tLenTx X.K ta) := by
  refine ⟨fun pins s σ H Q I h => Call_ (ld_blt I g1 m1 boot_len (PyProof.Rows.callWith_builtin1 (PyProof.Rows.args_cons (Call_ (ld_blt I g2 m2 boot_set (PyProof.Rows.callWith_type1 (PyProof.Rows.args_cons (thn (ha.run pins s σ H _ I h) fun v s1 h1 => PyProof.Rows.args_nil ?_) na) na rfl))) rfl) rfl rfl))⟩
  obtain ⟨x, H1, I1, r1, l, zs, rfl, hq, nd, sm, q1⟩ := h1
  cases r1
  obtain ⟨its, r, pl, hz⟩ := I1.list hq
  refine call_set_texts (I1.ok.hd hc) pl.isList (by simpa using strs_vals r) nd sm fun s' fu => PyProof.Rows.args_nil ?_
  obtain ⟨h', tk, rfl, hS, hk⟩ := fu
  obtain ⟨o, es, ep, t, ho, hex, hd, _, _, _, hf, hn⟩ := hS
  have I2 : Inv X pins σ H1 { s1 with heap := h', toks := tk } := I1.kept fun b o e => hk b o (Heap.lt_size e) e
  exact call_len_set ho hex hd hf (by rw [hn]; have := sm; omega) ⟨.int zs.length, H1, I2.tok _, ⟨_, by rw [hn]⟩, q1⟩
end NSet
set_option maxHeartbeats 4000000
namespace NH
open PySem PySem.Spec PyProof.Rows L2 TL
/-! ### data -/
inductive D where
  | non | bl (b : Bool) | int (i : Int) | str (x : Str) | lst (ds : List D) | tup (ds : List D) | dic
mutual
inductive Dd (H : Hp) : V → D → Prop
  | non : Dd H .non .non
  | bl (b : Bool) : Dd H (.bl b) (.bl b)
  | int (i : Int) : Dd H (.int i) (.int i)
  | str (x : Str) : Dd H (.str x) (.str x)
  | lst {a : Addr} {xs : List V} {ds : List D} : H a = some (.lst xs) → DdL H xs ds → Dd H (.ref a) (.lst ds)
  | tup {a : Addr} {xs : List V} {ds : List D} : H a = some (.tup xs) → DdL H xs ds → Dd H (.ref a) (.tup ds)
  | dic {a : Addr} : H a = some (.dK []) → Dd H (.ref a) .dic
inductive DdL (H : Hp) : List V → List D → Prop
  | nil : DdL H [] []
  | cons {v : V} {vs : List V} {d : D} {ds : List D} : Dd H v d → DdL H vs ds → DdL H (v :: vs) (d :: ds)
end
mutual
theorem Dd.same {H H' : Hp} (s : Same H H') : ∀ {v : V} {d : D}, Dd H v d → Dd H' v d
  | _, _, .non => .non
  | _, _, .bl b => .bl b
  | _, _, .int i => .int i
  | _, _, .str x => .str x
  | _, _, .lst e h => .lst (s _ _ e) (DdL.same s h)
  | _, _, .tup e h => .tup (s _ _ e) (DdL.same s h)
  | _, _, .dic e => .dic (s _ _ e)
theorem DdL.same {H H' : Hp} (s : Same H H') : ∀ {vs : List V} {ds : List D}, DdL H vs ds → DdL H' vs ds
  | _, _, .nil => .nil
  | _, _, .cons h r => .cons (Dd.same s h) (DdL.same s r)
end
def D.ty : D → String
  | .non => "NoneType" | .bl _ => "bool" | .int _ => "int" | .str _ => "str" | .lst _ => "list" | .tup _ => "tuple" | .dic => "dict"
def isaT (t s : String) : Bool := s == t || (t == "int" && s == "bool")
def D.isa (t : String) (d : D) : Bool := isaT t d.ty
def tys : List String := ["NoneType", "bool", "int", "str", "list", "tuple", "dict"]
theorem D.ty_mem (d : D) : d.ty ∈ tys := by cases d <;> simp [D.ty, tys]
theorem kit_of {K : PySem.W.Frag} {t : String} (h : ∀ s ∈ tys, kitB s t = some (isaT t s)) (d : D) : PySem.W.kitOne K (.type d.ty) (.type t) = some (d.isa t) := kit_ty (h _ d.ty_mem)
theorem Dd.tyx {K : PySem.W.Frag} {H : Hp} {v : V} {d : D} (h : Dd H v d) : TyX K H v (.type d.ty) := by
  cases h with
  | non => exact .base .non
  | bl b => exact .base (.bl b)
  | int i => exact .base (.int i)
  | str x => exact .base (.str x)
  | lst e _ => exact .base (.lst e)
  | tup e _ => exact .base (.tup e)
  | dic e => exact .base (.dK e)
theorem kit_int {K : PySem.W.Frag} (d : D) : PySem.W.kitOne K (.type d.ty) (.type "int") = some (d.isa "int") := kit_of (by decide +kernel) d
theorem kit_bool {K : PySem.W.Frag} (d : D) : PySem.W.kitOne K (.type d.ty) (.type "bool") = some (d.isa "bool") := kit_of (by decide +kernel) d
theorem kit_str {K : PySem.W.Frag} (d : D) : PySem.W.kitOne K (.type d.ty) (.type "str") = some (d.isa "str") := kit_of (by decide +kernel) d
theorem kit_tuple {K : PySem.W.Frag} (d : D) : PySem.W.kitOne K (.type d.ty) (.type "tuple") = some (d.isa "tuple") := kit_of (by decide +kernel) d
theorem kit_list {K : PySem.W.Frag} (d : D) : PySem.W.kitOne K (.type d.ty) (.type "list") = some (d.isa "list") := kit_of (by decide +kernel) d
/-- a list or a tuple -/
def D.seq : D → Bool
  | .lst _ => true | .tup _ => true | _ => false
theorem kit_seq {K : PySem.W.Frag} (d : D) : PySem.W.kitAny K (.type d.ty) [.type "list", .type "tuple"] = some d.seq := by
  refine kitAny_cons (b := d.isa "list") (kit_list d) (fun e => kitAny_cons (b := d.isa "tuple") (kit_tuple d) (fun e2 => ?_) (fun e2 => ?_)) (fun e => ?_)
  · rw [kitAny_nil]; cases d <;> first | rfl | (exfalso; revert e; simp [D.isa, isaT, D.ty]; done) | (exfalso; revert e2; simp [D.isa, isaT, D.ty]; done)
  · cases d <;> first | rfl | (exfalso; revert e2; simp [D.isa, isaT, D.ty]; done)
  · cases d <;> first | rfl | (exfalso; revert e; simp [D.isa, isaT, D.ty]; done)
/-- an integer from lo to hi -/
def D.btw (lo hi : Int) : D → Bool
  | .int i => decide (lo ≤ i) && decide (i ≤ hi)
  | _ => false
section
variable {P : Program} {w : World} {K : PySem.W.Frag} {mg : Str → Option Value} {base : Heap}
abbrev s_is_between : Stmt := top 4
theorem sc_is_between : FnScope ["value", "low", "high"] ["value", "low", "high"] (defScope s_is_between) := ⟨rfl, rfl, rfl, by decide +kernel, rfl, by decide +kernel, by decide +kernel⟩
def spBtw : Sp := fun vs H Q _ => ∃ (v : V) (d : D) (lo hi : Int), vs = [v, .int lo, .int hi] ∧ Dd H v d ∧ Q (.bl (d.btw lo hi)) H
abbrev s_is_integer : Stmt := top 3
theorem sc_is_integer : FnScope ["value"] ["value"] (defScope s_is_integer) := ⟨rfl, rfl, rfl, by decide +kernel, rfl, by decide +kernel, by decide +kernel⟩
def D.whole : D → Bool
  | .int _ => true
  | _ => false
def spInt : Sp := fun vs H Q _ => ∃ (v : V) (d : D), vs = [v] ∧ Dd H v d ∧ Q (.bl d.whole) H
theorem ok_is_integer (G : Bl mg) (DA : DefAt K mg "is_integer" s_is_integer) : Callee P w K mg base 1 "is_integer" ["value"] spInt := by
  refine callee DA sc_is_integer (fun vs H Q E h => by obtain ⟨v, d, rfl, _⟩ := h; rfl) (fun _ _ _ _ _ _ us hl => match us, hl with | [_], _ => rfl) fun f cdv A outer s H vs Q E hr h => ?_
  obtain ⟨v, d, rfl, hd, q⟩ := h
  refine ⟨_, (pss_one (ps_ret (pe_and (pe_callB call_isi (by rfl) G.b_isinstance (by decide +kernel) (pa_cons (pv 0) (pa_cons (pe_bltn (v := .ty "int") (u := .type "int") (by rfl) G.b_int (by decide +kernel) rfl) pa_nil))) (pe_one (pe_not (pe_callB call_isi (by rfl) G.b_isinstance (by decide +kernel) (pa_cons (pv 0) (pa_cons (pe_bltn (v := .ty "bool") (u := .type "bool") (by rfl) G.b_bool (by decide +kernel) rfl) pa_nil)))))))), ?_⟩
  refine ⟨v, rfl, _, _, _, _, _, rfl, .ty "int", hd.tyx, kit_int d, _, rfl, itb (fun e1 => ⟨v, rfl, _, _, _, _, _, rfl, .ty "bool", hd.tyx, kit_bool d, _, rfl, ?_⟩) fun e1 => ?_⟩
  · have e : d.whole = !d.isa "bool" := by cases d <;> first | rfl | (exfalso; revert e1; simp [D.isa, isaT, D.ty]; done) | (simp [D.whole, D.isa, isaT, D.ty]; done)
    rw [e] at q; exact q
  · have e : d.whole = false := by cases d <;> first | rfl | (exfalso; revert e1; simp [D.isa, isaT, D.ty]; done)
    rw [e] at q; exact q
theorem ok_is_between (cIi : Callee P w K mg base 1 "is_integer" ["value"] spInt) (DA : DefAt K mg "is_between" s_is_between) : Callee P w K mg base 2 "is_between" ["value", "low", "high"] spBtw := by
  refine callee DA sc_is_between (fun vs H Q E h => by obtain ⟨v, d, lo, hi, rfl, _⟩ := h; rfl) (fun _ _ _ _ _ _ us hl => match us, hl with | [_, _, _], _ => rfl) fun f cdv A outer s H vs Q E hr h => ?_
  obtain ⟨v, d, lo, hi, rfl, hd, q⟩ := h
  refine ⟨_, (pss_one (ps_ret (pe_and (pe_cal cIi hr (by decide) (pa_cons (pv 0) pa_nil)) (pe_one (pe_chain op_le op_le (pv 1) (pv 0) (pv 2)))))), ?_⟩
  refine ⟨v, rfl, v, d, rfl, hd, _, rfl, itb (fun e1 => ?_) fun e1 => ?_⟩
  · cases hd with
    | int i =>
      refine ⟨_, rfl, _, rfl, _, _, rfl, rfl, _, rfl, itd (fun h1 => ⟨_, rfl, _, _, rfl, rfl, ?_⟩) fun h1 => ?_⟩
      · have e : (D.int i).btw lo hi = decide (i ≤ hi) := by show (decide (lo ≤ i) && _) = _; rw [decide_eq_true h1, Bool.true_and]
        rw [e] at q; exact q
      · have e : (D.int i).btw lo hi = false := by show (decide (lo ≤ i) && _) = _; rw [decide_eq_false h1, Bool.false_and]
        rw [e] at q; exact q
    | _ => cases e1
  · have e : d.btw lo hi = false := by cases d <;> first | rfl | (cases e1)
    rw [e] at q; exact q
abbrev s_is_list : Stmt := top 5
theorem sc_is_list : FnScope ["value"] ["value"] (defScope s_is_list) := ⟨rfl, rfl, rfl, by decide +kernel, rfl, by decide +kernel, by decide +kernel⟩
def spIsl : Sp := fun vs H Q _ => ∃ (v : V) (d : D), vs = [v] ∧ Dd H v d ∧ ∀ H', Same H H' → Q (.bl d.seq) H'
theorem ok_is_list (G : Bl mg) (DA : DefAt K mg "is_list" s_is_list) : Callee P w K mg base 2 "is_list" ["value"] spIsl := by
  refine callee DA sc_is_list (fun vs H Q E h => by obtain ⟨v, d, rfl, _⟩ := h; rfl) (fun _ _ _ _ _ _ us hl => match us, hl with | [_], _ => rfl) fun f cdv A outer s H vs Q E hr h => ?_
  obtain ⟨v, d, rfl, hd, q⟩ := h
  refine ⟨_, (pss_one (ps_ret (pe_callB call_isiT (by rfl) G.b_isinstance (by decide +kernel) (pa_cons (pv 0) (pa_cons (pe_tup (pa_cons (pe_bltn (v := .ty "list") (u := .type "list") (by rfl) G.b_list (by decide +kernel) rfl) (pa_cons (pe_bltn (v := .ty "tuple") (u := .type "tuple") (by rfl) G.b_tuple (by decide +kernel) rfl) pa_nil))) pa_nil))))), ?_⟩
  exact ⟨v, rfl, by show 2 ≤ sizeLine; decide, fun p hp => ⟨v, p, _, _, _, _, rfl, upd_same, .cons (.ty "list") (.cons (.ty "tuple") .nil), (hd.same (same_new hp)).tyx, kit_seq d, q _ (same_new hp)⟩⟩
abbrev s_is_pair : Stmt := top 6
theorem sc_is_pair : FnScope ["value"] ["value"] (defScope s_is_pair) := ⟨rfl, rfl, rfl, by decide +kernel, rfl, by decide +kernel, by decide +kernel⟩
def spPair : Sp := fun vs H Q _ => ∃ (a : Addr) (x y : V), vs = [.ref a] ∧ H a = some (.tup [x, y]) ∧ Q (.bl true) H
theorem ok_is_pair (G : Bl mg) (DA : DefAt K mg "is_pair" s_is_pair) : Callee P w K mg base 2 "is_pair" ["value"] spPair := by
  refine callee DA sc_is_pair (fun vs H Q E h => by obtain ⟨v, x, y, rfl, _⟩ := h; rfl) (fun _ _ _ _ _ _ us hl => match us, hl with | [_], _ => rfl) fun f cdv A outer s H vs Q E hr h => ?_
  obtain ⟨a, x, y, rfl, ha, q⟩ := h
  refine ⟨_, (pss_one (ps_ret (pe_and (pe_callB call_isi (by rfl) G.b_isinstance (by decide +kernel) (pa_cons (pv 0) (pa_cons (pe_bltn (v := .ty "tuple") (u := .type "tuple") (by rfl) G.b_tuple (by decide +kernel) rfl) pa_nil))) (pe_one (pe_cmpR op_eq (pe_callB call_len_seq (by rfl) G.b_len (by decide +kernel) (pa_cons (pv 0) pa_nil)) pe_int (nomark _)))))), ?_⟩
  exact ⟨_, rfl, _, _, _, _, _, rfl, .ty "tuple", .base (.tup ha), kit_ty (by decide +kernel : kitB "tuple" "tuple" = some true), _, rfl, iteT ⟨_, rfl, a, _, rfl, .inr (SqT.of ha), rfl, q⟩⟩
abbrev s_is_name : Stmt := top 7
theorem sc_is_name : FnScope ["value", "most", "letter"] ["value", "most"] (defScope s_is_name) := ⟨rfl, rfl, rfl, by decide +kernel, rfl, by decide +kernel, by decide +kernel⟩
def spName : Sp := fun vs H Q _ => ∃ (x : Str) (m : Nat), vs = [.str x, .int m] ∧ Ltr x ∧ 1 ≤ x.cps.toList.length ∧ x.cps.toList.length ≤ m ∧ m ≤ 100 ∧ ∀ H', Same H H' → Q (.bl true) H'
theorem abc_mem : ∀ c : Nat, 97 ≤ c → c ≤ 122 → c ∈ abc.cps.toList := by
  intro c h1 h2
  have z := abc_at (c - 97) (by omega)
  rw [show 97 + (c - 97) = c by omega] at z
  exact List.mem_of_getElem? z
theorem ok_is_name (G : Bl mg) (gL : ∃ t, mg "LETTERS" = some (.str abc t)) (DA : DefAt K mg "is_name" s_is_name) : Callee P w K mg base 2 "is_name" ["value", "most"] spName := by
  refine callee DA sc_is_name (fun vs H Q E h => by obtain ⟨v, x, rfl, _⟩ := h; rfl) (fun _ _ _ _ _ _ us hl => match us, hl with | [_, _], _ => rfl) fun f cdv A outer s H vs Q E hr h => ?_
  obtain ⟨x, m, rfl, lt, l1, l2, l3, q⟩ := h
  obtain ⟨tL, gL⟩ := gL
  refine ⟨_, (pss_one (ps_ret (pe_and (pe_callB call_isi (by rfl) G.b_isinstance (by decide +kernel) (pa_cons (pv 0) (pa_cons (pe_bltn (v := .ty "str") (u := .type "str") (by rfl) G.b_str (by decide +kernel) rfl) pa_nil))) (pe_and (pe_chain op_le op_le pe_int (pe_callB call_len_str (by rfl) G.b_len (by decide +kernel) (pa_cons (pv 0) pa_nil)) (pv 1)) (pe_one (pe_callB (cr_all rfl) (by rfl) G.b_all (by decide +kernel) (pa_cons (pe_lc (own := [("letter", 2)]) (g := gName 2) rfl sc_is_name.nd (pi_str (pv 0)) (blkOk_by (N := ["value", "most", "letter"]) (sc := defScope s_is_name) (by decide +kernel)) (fun _ _ _ _ _ => (pg_name (i := 2) sc_is_name.nd rfl (Or.inl rfl))) (fun _ _ _ _ _ => pts_nil) (fun _ _ _ _ _ => (pe_cmpR op_in_sign (pv 2) (pe_glob (v := .str abc) (by rfl) gL ⟨_, rfl⟩) rfl))) pa_nil))))))), ?_⟩
  have lx := len_tl x
  refine ⟨_, rfl, _, _, _, _, _, rfl, .ty "str", .base (.str x), kit_ty (by decide +kernel : kitB "str" "str" = some true), _, rfl, iteT ⟨_, rfl, x, rfl, Nat.le_of_lt (small1000 (by omega)), _, _, rfl, rfl, _, rfl, ?_⟩⟩
  refine itt (decide_eq_true (by show (1 : Int) ≤ _; omega)) ⟨_, rfl, _, _, rfl, rfl, _, rfl, itt (decide_eq_true (by omega)) ?_⟩
  refine ⟨_, rfl, x, rfl, fun p hp => ?_⟩
  refine lc_it walk_str (fun i H' => Same H H' ∧ H' p = some (.lst ((List.replicate i true).map V.bl))) ⟨same_new hp, upd_same⟩ (fun _ _ _ _ => True.intro) ?_ ?_
  · rintro i v H1 H2 hi ⟨s1, d1⟩ ⟨rfl, c, hc, rfl⟩
    refine ⟨rfl, tyes ?_⟩
    refine iteT ?_
    have mc : c ∈ x.cps.toList := by
      have z : x.cps.toList[i]? = some c := by rw [Array.getElem?_toList]; exact hc
      exact List.mem_of_getElem? z
    have mm : c ∈ abc.cps.toList := abc_mem c (lt c mc).1 (lt c mc).2
    refine ⟨_, rfl, c, abc, rfl, rfl, _, d1, ?_, Same.put s1 hp, ?_⟩
    · rw [List.length_map, List.length_replicate]; exact small1000 (by have : x.cps.size = x.length := rfl; omega)
    · rw [upd_same, decide_eq_true mm, List.replicate_succ', List.map_append]; rfl
  · rintro H1 ⟨s1, d1⟩
    refine ⟨p, List.replicate x.cps.size true, rfl, SqL.of d1, ?_⟩
    have e : (List.replicate x.cps.size true).all id = true := by simp
    rw [e]
    exact q H1 s1
abbrev s_are_different : Stmt := top 8
theorem sc_are_different : FnScope ["items"] ["items"] (defScope s_are_different) := ⟨rfl, rfl, rfl, by decide +kernel, rfl, by decide +kernel, by decide +kernel⟩
def spDiff (K : PySem.W.Frag) : Sp := fun vs H Q _ => ∃ (a : Addr) (xs : List Str), vs = [.ref a] ∧ H a = some (.lst (xs.map .str)) ∧ xs.Nodup ∧ xs.length ≤ 100 ∧ Q (.bl true) H
theorem ok_are_different (G : Bl mg) (DA : DefAt K mg "are_different" s_are_different) : Callee P w K mg base 2 "are_different" ["items"] (spDiff K) := by
  refine callee DA sc_are_different (fun vs H Q E h => by obtain ⟨v, x, rfl, _⟩ := h; rfl) (fun _ _ _ _ _ _ us hl => match us, hl with | [_], _ => rfl) fun f cdv A outer s H vs Q E hr h => ?_
  obtain ⟨a, xs, rfl, ha, nd, l1, q⟩ := h
  refine ⟨_, (pss_one (ps_ret (pe_cmpR op_eq (NSet.pe_lenTx rfl (by rfl) G.b_len (by rfl) G.b_set (pv 0)) (pe_callB call_len_seq (by rfl) G.b_len (by decide +kernel) (pa_cons (pv 0) pa_nil)) (nomark _)))), ?_⟩
  refine ⟨_, rfl, a, xs, rfl, SqL.of ha, nd, by omega, _, rfl, a, _, rfl, .inl (SqL.of ha), rfl, ?_⟩
  have e : decide (V.int (xs.length : Int) = V.int ((xs.map V.str).length : Int)) = true := decide_eq_true (by rw [List.length_map])
  show Q (.bl (decide (V.int (xs.length : Int) = V.int ((xs.map V.str).length : Int)))) H
  rw [e]; exact q
end
end NH
set_option maxHeartbeats 4000000
namespace NH
open PySem PySem.Spec PyProof.Rows L2 TL
/-- a method of a class of the top -/
structure MethAt (K : PySem.W.Frag) (C : Addr) (c m : Str) (st : Stmt) : Prop where
  f : ∃ fd, FunD K m (c ++ "." ++ m) (defArgs st) (defBody st) (defScope st) [] [] (He.fAd K (c, some m)) fd
section
variable {P : Program} {w : World} {K : PySem.W.Frag} {mg : Str → Option Value} {base : Heap}
theorem meth_ok {m qual : Str} {st : Stmt} {f : Addr} {N ps : List Str} {k : Nat} {sp : Sp} (F : ∃ fd, FunD K m qual (defArgs st) (defBody st) (defScope st) [] [] f fd) (S : FnScope N ps (defScope st)) (len : ∀ vs H Q E, sp vs H Q E → vs.length = ps.length)
    (hb : ∀ (kV doc pm : Value) (an : Option Addr) (cdv ct : Value) (us : List Value), us.length = ps.length → bindArgs (PySem.W.fnOf m qual (defArgs st) (defBody st) (defScope st) .none kV doc pm an cdv ct) ⟨us, []⟩ = pure (ps.zip us))
    (hbody : ∀ (cdv : Value) (A : Around) (outer : List Env) (s : Shared) (H : Hp) (vs : List V) (Q : VK) (E : XK), Room k (A.deeper (envOfC qual (defScope st) s.heap.objs.size f cdv)) → sp vs H Q E →
      ∃ t, PSs (cxOf CX0 P w K mg base N qual (defScope st) f cdv A outer s H E).nox (defBody st) t ∧ t { nx := fun _ H' => Q .non H', rt := Q } (start N vs) H) : ∃ fd, Binds K fd ps [] ∧ FnOk P w K mg base CX0 (k + 1) f fd ps sp := by
  obtain ⟨fd, F⟩ := F
  exact ⟨fd, F.bindsN hb, F.ok S len fun cdv A outer s H vs Q E hr h => let ⟨t, h1, h2⟩ := hbody cdv A outer s H vs Q E hr h; ⟨t, h1.nox, h2⟩⟩
end
/-! ### Ports -/
theorem kind_d {H : Hp} : ∀ {vs : List V} {ks : List Kind}, KindsAt H vs ks → DdL H vs (ks.map fun k => D.tup [.str k.1, .int (k.2 : Int)])
  | _, _, .nil => .nil
  | _, _, .cons ⟨t, e, h⟩ r => by
    subst e
    exact .cons (.tup h (.cons (.str _) (.cons (.int _) .nil))) (kind_d r)
structure PortsAt (C : Addr) (H : Hp) (p : Addr) (ks : List Kind) : Prop where
  ex : ∃ dx fs d kvs, H p = some (.ins C dx fs) ∧ fs.lookup ("_names" : Str) = some (.ref d) ∧ fs.lookup ("has" : Str) = none ∧ H d = some (.dK kvs) ∧ ∀ x : Str, (valV kvs (Sum.inr x : Key)).isSome = true ↔ x ∈ sidesOf ks
theorem PortsAt.same {C : Addr} {H H' : Hp} {p : Addr} {ks : List Kind} (x : PortsAt C H p ks) (s : Same H H') : PortsAt C H' p ks := by
  obtain ⟨dx, fs, d, kvs, h1, l1, l2, h2, h3⟩ := x
  exact ⟨dx, fs, d, kvs, s _ _ h1, l1, l2, s _ _ h2, h3⟩
/-- the class as the top has made it -/
structure PortsC (K : PySem.W.Frag) (mg : Str → Option Value) (C fI fH : Addr) : Prop where
  cl : Cls K C
  nK : NoAttr K C "kinds"
  nN : NoAttr K C "_names"
  nS : NoAttr K C "_sides"
  nB : NoAttr K C "_sides_by_name"
  nO : NoAttr K C "_others"
  g : mg "Ports" = some (.ref C)
  mkP : Mk K C fI
  has : Meth K C "has" fH
theorem dg_str : ∀ j : Nat, j < 3 → (toString (1 + (j : Int)) : Str) = dg j := by decide +kernel
theorem empty_app (x : Str) : Str.empty ++ x = x := by
  have e : tl (Str.empty ++ x) = tl x := by rw [tl_append]; rfl
  exact ext_toList e
section
variable {P : Program} {w : World} {K : PySem.W.Frag} {mg : Str → Option Value} {base : Heap} {C fI fH : Addr}
abbrev s_is_kind : Stmt := top 39
theorem sc_is_kind : FnScope ["value"] ["value"] (defScope s_is_kind) := ⟨rfl, rfl, rfl, by decide +kernel, rfl, by decide +kernel, by decide +kernel⟩
def spIsk : Sp := fun vs H Q _ => ∃ (t : Addr) (k : Kind), vs = [.ref t] ∧ H t = some (.tup [.str k.1, .int (k.2 : Int)]) ∧ Ltr k.1 ∧ 1 ≤ k.1.cps.toList.length ∧ k.1.cps.toList.length ≤ 4 ∧ (k.2 = 2 ∨ k.2 = 3) ∧ ∀ H', Same H H' → Q (.bl true) H'
theorem ok_is_kind (gM : ∃ t, mg "MOST_LETTERS" = some (.int 4 t)) (DA : DefAt K mg "_is_kind" s_is_kind) (cIp : Callee P w K mg base 2 "is_pair" ["value"] spPair) (cIn : Callee P w K mg base 2 "is_name" ["value", "most"] spName) (cBt : Callee P w K mg base 2 "is_between" ["value", "low", "high"] spBtw) : Callee P w K mg base 4 "_is_kind" ["value"] spIsk := by
  refine callee DA sc_is_kind (fun vs H Q E h => by obtain ⟨v, k, rfl, _⟩ := h; rfl) (fun _ _ _ _ _ _ us hl => match us, hl with | [_], _ => rfl) fun f cdv A outer s H vs Q E hr h => ?_
  obtain ⟨t, k, rfl, ht, h1, h2, h3, h4, q⟩ := h
  obtain ⟨tM, gM⟩ := gM
  refine ⟨_, (pss_one (ps_ret (pe_and (pe_cal cIp hr (by decide) (pa_cons (pv 0) pa_nil)) (pe_and (pe_cal cIn hr (by decide) (pa_cons (pe_ix ix_tup (pv 0) pe_int (fun _ _ => rfl)) (pa_cons (pe_glob (v := .int 4) (by rfl) gM ⟨_, rfl⟩) pa_nil))) (pe_one (pe_cal cBt hr (by decide) (pa_cons (pe_ix ix_tup (pv 0) pe_int (fun _ _ => rfl)) (pa_cons pe_int (pa_cons pe_int pa_nil))))))))), ?_⟩
  refine ⟨_, rfl, t, _, _, rfl, ht, true, rfl, iteT ⟨_, rfl, t, _, _, _, rfl, rfl, SqT.of ht, rfl, k.1, 4, rfl, h1, h2, h3, by decide, fun H' s1 => ⟨true, rfl, iteT ⟨_, rfl, t, _, _, _, rfl, rfl, SqT.of (s1 _ _ ht), rfl, _, .int (k.2 : Int), 2, 3, rfl, .int _, ?_⟩⟩⟩⟩
  have e : (D.int (k.2 : Int)).btw 2 3 = true := by
    show (decide _ && decide _) = true
    rw [decide_eq_true (by omega), decide_eq_true (by omega)]; rfl
  rw [e]; exact q H' s1
abbrev s_are_kinds : Stmt := top 38
theorem sc_are_kinds : FnScope ["value", "item", "name", "_"] ["value"] (defScope s_are_kinds) := ⟨rfl, rfl, rfl, by decide +kernel, rfl, by decide +kernel, by decide +kernel⟩
def spAks : Sp := fun vs H Q _ => ∃ (a : Addr) (xs : List V) (ks : List Kind), vs = [.ref a] ∧ H a = some (.lst xs) ∧ KindsAt H xs ks ∧ GoodKinds ks ∧ ∀ H', Same H H' → Q (.bl true) H'
theorem ok_are_kinds (G : Bl mg) (gM : ∃ t, mg "MOST_KINDS" = some (.int 12 t)) (DA : DefAt K mg "_are_kinds" s_are_kinds) (cIl : Callee P w K mg base 2 "is_list" ["value"] spIsl) (cDf : Callee P w K mg base 2 "are_different" ["items"] (spDiff K)) (cIk : Callee P w K mg base 4 "_is_kind" ["value"] spIsk) : Callee P w K mg base 6 "_are_kinds" ["value"] spAks := by
  refine callee DA sc_are_kinds (fun vs H Q E h => by obtain ⟨v, k, _, rfl, _⟩ := h; rfl) (fun _ _ _ _ _ _ us hl => match us, hl with | [_], _ => rfl) fun f cdv A outer s H vs Q E hr h => ?_
  obtain ⟨a, xs, ks, rfl, ha, hk, gk, q⟩ := h
  obtain ⟨tM, gM⟩ := gM
  refine ⟨_, (pss_cons (ps_if (PW.pt (pw_or (pt_not (pt_val (pe_cal cIl hr (by decide) (pa_cons (pv 0) pa_nil)))) (pw_or1 (pt_not (pt_chain op_le op_le pe_int (pe_callB call_len_seq (by rfl) G.b_len (by decide +kernel) (pa_cons (pv 0) pa_nil)) (pe_glob (v := .int 12) (by rfl) gM ⟨_, rfl⟩)))))) (pss_one (ps_ret pe_bl)) pss_nil)
    (pss_one (ps_ret (pe_and (pe_callB (cr_all rfl) (by rfl) G.b_all (by decide +kernel) (pa_cons (pe_lc (own := [("item", 1)]) (g := gName 1) rfl sc_are_kinds.nd (pi_list (pv 0)) (blkOk_by (N := ["value", "item", "name", "_"]) (sc := defScope s_are_kinds) (by decide +kernel)) (fun _ _ _ _ _ => (pg_name (i := 1) sc_are_kinds.nd rfl (Or.inl rfl))) (fun _ _ _ _ _ => pts_nil) (fun _ _ _ _ _ => (pe_cal cIk hr (by decide) (pa_cons (pv 1) pa_nil)))) pa_nil)) (pe_one (pe_cal cDf hr (by decide) (pa_cons (pe_lc (own := [("name", 2), ("_", 3)]) (g := gTup K 2 (gCons (gName 2) (gCons (gName 3) gNil))) rfl sc_are_kinds.nd (pi_list (pv 0)) (blkOk_by (N := ["value", "item", "name", "_"]) (sc := defScope s_are_kinds) (by decide +kernel)) (fun _ _ _ _ _ => (pg_tup (by rfl) (pgs_cons (pg_name (i := 2) sc_are_kinds.nd rfl (Or.inl rfl)) (pgs_cons (pg_name (i := 3) sc_are_kinds.nd rfl (Or.inl rfl)) pgs_nil)))) (fun _ _ _ _ _ => pts_nil) (fun _ _ _ _ _ => (pv 2))) pa_nil))))))), ?_⟩
  have lx := Paired.length hk
  have hlen := gk.len
  refine ⟨_, rfl, _, _, rfl, .lst ha (kind_d hk), fun H1 s1 => ⟨_, rfl, ?_⟩⟩
  refine iteF ⟨_, rfl, a, _, rfl, .inl (SqL.of (s1 _ _ ha)), _, _, rfl, rfl, _, rfl, itt (decide_eq_true (by omega)) ⟨_, _, rfl, rfl, _, rfl, ?_⟩⟩
  rw [decide_eq_true (show (xs.length : Int) ≤ 12 by omega)]
  refine iteF ?_
  refine ⟨_, rfl, a, rfl, ⟨xs, SqL.of (s1 _ _ ha)⟩, fun p hp => ?_⟩
  refine lc_list (K := K) (a := a) (xs := xs) (fun i H' => Same H1 H' ∧ H' p = some (.lst ((List.replicate i true).map V.bl))) ⟨same_new hp, upd_same⟩ (fun i H' _ z => SqL.of (z.1 _ _ (s1 _ _ ha))) ?_ ?_
  · rintro i x H2 hx ⟨s2, d2⟩
    obtain ⟨k, ek, t, rfl, ht⟩ := paired_get hk hx
    have mk : k ∈ ks := List.mem_of_getElem? ek
    refine ⟨rfl, tyes ?_⟩
    refine iteT ?_
    have hi : i < xs.length := (List.getElem?_eq_some_iff.mp hx).1
    refine ⟨_, rfl, t, k, rfl, s2 _ _ (s1 _ _ ht), (gk.ltr k mk).1, (gk.ltr k mk).2.1, (gk.ltr k mk).2.2, gk.two k mk, fun H3 s3 => ⟨_, s3 _ _ d2, ?_, Same.put (s2.trans s3) hp, ?_⟩⟩
    · rw [List.length_map, List.length_replicate]; exact small1000 (by omega)
    · rw [upd_same, List.replicate_succ', List.map_append]; rfl
  · rintro H2 ⟨s2, d2⟩
    refine ⟨p, List.replicate xs.length true, rfl, SqL.of d2, ?_⟩
    have e : (List.replicate xs.length true).all id = true := by simp
    rw [e]
    refine ⟨true, rfl, iteT ?_⟩
    refine ⟨_, rfl, a, rfl, ⟨xs, SqL.of (s2 _ _ (s1 _ _ ha))⟩, fun p2 hp2 => ?_⟩
    refine lc_list (K := K) (a := a) (xs := xs) (fun i H' => Same H2 H' ∧ H' p2 = some (.lst (((ks.take i).map (·.1)).map V.str))) ⟨same_new hp2, upd_same⟩ (fun i H' _ z => SqL.of (z.1 _ _ (s2 _ _ (s1 _ _ ha)))) ?_ ?_
    · rintro i x H3 hx ⟨s3, d3⟩
      obtain ⟨k, ek, t, rfl, ht⟩ := paired_get hk hx
      have hi : i < xs.length := (List.getElem?_eq_some_iff.mp hx).1
      refine ⟨t, _, rfl, SqT.of (s3 _ _ (s2 _ _ (s1 _ _ ht))), rfl, _, _, rfl, _, _, rfl, rfl, rfl, tyes ?_⟩
      refine iteT ⟨_, rfl, _, d3, ?_, Same.put s3 hp2, ?_⟩
      · rw [List.length_map, List.length_map, List.length_take]; exact small1000 (by omega)
      · obtain ⟨hj, ej⟩ := List.getElem?_eq_some_iff.mp ek
        rw [upd_same, List.take_succ_eq_append_getElem hj, ej, List.map_append, List.map_append]; rfl
    · rintro H3 ⟨s3, d3⟩
      have e3 : ks.take xs.length = ks := by rw [lx]; exact List.take_length
      rw [e3] at d3
      exact ⟨p2, ks.map (·.1), rfl, d3, gk.nd, by rw [List.length_map]; omega, q H3 ((s1.trans s2).trans s3)⟩
end
end NH
set_option maxHeartbeats 4000000
/-! {k: v for .. in .. for .. in ..}: a dict comprehension with two clauses. -/
namespace NH
open PySem PySem.Spec PyProof.Rows L2
/-- the comprehension -/
abbrev dc2 (ke ve ga ia gb ib : Expr) (fa fb : List Expr) (sc : Scope) (po : Pos) : Expr := .DictComp ke ve [⟨ga, ia, fa, 0⟩, ⟨gb, ib, fb, 0⟩] sc po
section
variable (ke ve ga ia gb ib : Expr) (fa fb : List Expr) (sc : Scope) (po : Pos)
theorem turn_a (it acc : Value) (en : Env) : compTurn (dc2 ke ve ga ia gb ib fa fb sc po) 0 it acc en = (do
      standAt ia.pos
      match ← pyNext it with
      | none => pure (.done .next)
      | some u =>
        letOwnedTupleGo ga it u
        assign ga en u
        let mut yes := true
        for q in fa do
          if yes then yes ← isTrue q en (eval q en)
        if yes then
          let y ← eval ib en
          standAt ib.pos
          let y ← foldedSetIterable ib en y
          let _ ← runOwn (.compStart (dc2 ke ve ga ia gb ib fa fb sc po) 1 (← holding [y] (pyIter y)) acc en) en
        again (.compLoop (dc2 ke ve ga ia gb ib fa fb sc po) 0 it acc en)) := by rfl
theorem turn_b (it : Value) (Da : Addr) (en : Env) : compTurn (dc2 ke ve ga ia gb ib fa fb sc po) 1 it (.ref Da) en = (do
      standAt ib.pos
      match ← pyNext it with
      | none => pure (.done .next)
      | some u =>
        letOwnedTupleGo gb it u
        assign gb en u
        let mut yes := true
        for q in fb do
          if yes then yes ← isTrue q en (eval q en)
        if yes then
          (do
            let k1 ← eval ke en
            let v1 ← holding [k1] (eval ve en)
            standAt { ke.pos with endLine := ve.pos.endLine, endCol := ve.pos.endCol }
            holding [k1, v1] (dictSet Da k1 v1))
        again (.compLoop (dc2 ke ve ga ia gb ib fa fb sc po) 1 it (.ref Da) en)) := by rfl
end
section
variable {P : Program} {w : World} {A : Around} {R : Result → Shared → Prop} {s : Shared} {ke ve ga ia gb ib : Expr} {fa fb : List Expr} {sc : Scope} {po : Pos} {it acc : Value} {Da : Addr} {en : Env}
/-- where an error is told -/
abbrev Ot (P : Program) (w : World) (A : Around) (R : Result → Shared → Prop) (en : Env) : Value → Shared → Prop := notedBy (model P w) A en fun x s' => R (.error x) s'
/-- the tests of a clause -/
abbrev tests (l : List Expr) (en : Env) : Sem Bool := forIn l true fun q r => if r = true then do let ok ← isTrue q en (eval q en); pure (ForInStep.yield ok) else pure (ForInStep.yield r)
theorem loop_a (hs : ∀ y, foldedSetIterable ib en y = pure y) (J : Nat → Shared → Prop)
    (go : ∀ n s, J n s → wpAny (model P w) A (pyNext it) (fun r s1 => match r with
      | none => R (.ok .next) s1
      | some u => wpAny (model P w) A (letOwnedTupleGo ga it u) (fun _ s2 => wpAny (model P w) A (assign ga en u) (fun _ s3 => wpAny (model P w) A (tests fa en) (fun yes s4 =>
          if yes = true then wpAny (model P w) A (eval ib en) (fun y s5 => wpAny (model P w) A (pyIter y) (fun i2 s6 =>
              codeAny (model P w) A (.compStart (dc2 ke ve ga ia gb ib fa fb sc po) 1 i2 acc en) (fun r2 s' => match r2 with
                | .ok _ => ∃ m, m < n ∧ J m s'
                | .error _ => False) s6) (Ot P w A R en) s5) (Ot P w A R en) s4
          else ∃ m, m < n ∧ J m s4) (Ot P w A R en) s3) (Ot P w A R en) s2) (Ot P w A R en) s1) (Ot P w A R en) s)
    (n : Nat) (h : J n s) : codeAny (model P w) A (.compLoop (dc2 ke ve ga ia gb ib fa fb sc po) 0 it acc en) R s := by
  refine codeAny_loop rfl J (fun n s hJ => ?_) n h
  show wpAny _ A ((compTurn (dc2 ke ve ga ia gb ib fa fb sc po) 0 it acc en).onRaise (fun x => do noteFrame x en; theTreesLotGoes x)) _ _ s
  refine wpAny_noted ?_
  rw [turn_a]
  refine wpAny_bind (wpAny_standAt (wpAny_bind (wpAny_mono (go n s hJ) (fun r s1 h1 => ?_) fun _ _ z => z)))
  match r, h1 with
  | none, h1 => exact wpAny_pure h1
  | some u, h1 =>
    refine wpAny_bind (wpAny_mono h1 (fun _ s2 h2 => ?_) fun _ _ z => z)
    refine wpAny_bind (wpAny_mono h2 (fun _ s3 h3 => wpAny_bind (wpAny_mono h3 (fun yes s4 h4 => ?_) fun _ _ z => z)) fun _ _ z => z)
    match yes, h4 with
    | false, h4 => exact wpAny_pure ⟨rfl, h4⟩
    | true, h4 =>
      refine wpAny_bind (wpAny_mono h4 (fun y s5 h5 => ?_) fun _ _ z => z)
      refine wpAny_bind (wpAny_standAt (wpAny_bind (wpAny_of_eq (hs y) (wpAny_bind (wpAny_holding (wpAny_mono h5 (fun i2 s6 h6 => ?_) fun _ _ z => z))))))
      refine wpAny_bind (wpAny_runOwn ?_)
      rw [Around.mark_none]
      refine codeAny_mono h6 fun r2 s' hr => ?_
      match r2, hr with
      | .ok f, hr =>
        first
          | exact wpAny_pure ⟨rfl, hr⟩
          | exact wpAny_bind (wpAny_pure (wpAny_pure ⟨rfl, hr⟩))
      | .error e, hr => exact hr.elim
theorem loop_b (J : Nat → Shared → Prop)
    (go : ∀ n s, J n s → wpAny (model P w) A (pyNext it) (fun r s1 => match r with
      | none => R (.ok .next) s1
      | some u => wpAny (model P w) A (letOwnedTupleGo gb it u) (fun _ s2 => wpAny (model P w) A (assign gb en u) (fun _ s3 => wpAny (model P w) A (tests fb en) (fun yes s4 =>
          if yes = true then wpAny (model P w) A (eval ke en) (fun k1 s5 => wpAny (model P w) A (eval ve en) (fun v1 s6 =>
              wpAny (model P w) A (dictSet Da k1 v1) (fun _ s7 => ∃ m, m < n ∧ J m s7) (Ot P w A R en) s6) (Ot P w A R en) s5) (Ot P w A R en) s4
          else ∃ m, m < n ∧ J m s4) (Ot P w A R en) s3) (Ot P w A R en) s2) (Ot P w A R en) s1) (Ot P w A R en) s)
    (n : Nat) (h : J n s) : codeAny (model P w) A (.compLoop (dc2 ke ve ga ia gb ib fa fb sc po) 1 it (.ref Da) en) R s := by
  refine codeAny_loop rfl J (fun n s hJ => ?_) n h
  show wpAny _ A ((compTurn (dc2 ke ve ga ia gb ib fa fb sc po) 1 it (.ref Da) en).onRaise (fun x => do noteFrame x en; theTreesLotGoes x)) _ _ s
  refine wpAny_noted ?_
  rw [turn_b]
  refine wpAny_bind (wpAny_standAt (wpAny_bind (wpAny_mono (go n s hJ) (fun r s1 h1 => ?_) fun _ _ z => z)))
  match r, h1 with
  | none, h1 => exact wpAny_pure h1
  | some u, h1 =>
    refine wpAny_bind (wpAny_mono h1 (fun _ s2 h2 => ?_) fun _ _ z => z)
    refine wpAny_bind (wpAny_mono h2 (fun _ s3 h3 => wpAny_bind (wpAny_mono h3 (fun yes s4 h4 => ?_) fun _ _ z => z)) fun _ _ z => z)
    match yes, h4 with
    | false, h4 => exact wpAny_pure ⟨rfl, h4⟩
    | true, h4 =>
      exact wpAny_bind (wpAny_bind (wpAny_mono h4 (fun k1 s5 h5 => wpAny_bind (wpAny_holding (wpAny_mono h5 (fun v1 s6 h6 => wpAny_bind (wpAny_standAt (wpAny_holding (wpAny_mono h6 (fun _ s7 h7 => wpAny_pure ⟨rfl, h7⟩) fun _ _ z => z)))) fun _ _ z => z))) fun _ _ z => z))
theorem start_b (h0 : codeAny (model P w) A (.compLoop (dc2 ke ve ga ia gb ib fa fb sc po) 1 it acc en) R s)
    (h : wpAny (model P w) A (pyIter it) (fun i2 s' => codeAny (model P w) A (.compLoop (dc2 ke ve ga ia gb ib fa fb sc po) 1 i2 acc en) R s') (Ot P w A R en) s) :
    codeAny (model P w) A (.compStart (dc2 ke ve ga ia gb ib fa fb sc po) 1 it acc en) R s := by
  refine codeAny_of_tree ?_
  show wpAny _ _ ((compStart (dc2 ke ve ga ia gb ib fa fb sc po) 1 it acc en).onRaise (fun x => do noteFrame x en; standAt theWindowsPlace)) _ _ s
  refine wpAny_notedAt ?_
  unfold compStart
  show wpAny _ _ (ask >>= _) _ _ s
  refine wpAny_bind (wpAny_askSetting (wpAny_ite ?_))
  split
  · first
      | exact wpAny_bind (wpAny_pure (wpAny_pure ⟨rfl, h0⟩))
      | exact wpAny_pure ⟨rfl, h0⟩
  · first
      | exact wpAny_bind (wpAny_rule (wpAny_bind (wpAny_standAt (wpAny_bind (wpAny_mono h (fun i2 s' h' => wpAny_pure ⟨rfl, h'⟩) fun _ _ x => x)))))
      | (refine wpAny_bind (wpAny_rule ?_); show wpAny _ _ (standAt ib.pos >>= _) _ _ s; exact wpAny_bind (wpAny_standAt (wpAny_bind (wpAny_mono h (fun i2 s' h' => wpAny_pure ⟨rfl, h'⟩) fun _ _ x => x))))
end
section
variable {X : Cx}
/-- {k: v for a in .. if .. for b in .. if ..}: D the new dict; vs: the block's names, v2: those of the second target -/
def tDc2 (wi : TI) (g : TG) (tt : TT) (wi2 : TI) (g2 : TG) (tt2 : TT) (tk tv : TE) (vs v2 : List Nat) : TE := fun σ H Q => wi σ H fun J H1 => ∀ D, H1 D = none → ∃ W : Nat → Nat → Hp → Prop, (∃ m, W 0 m (upd H1 D (.dK []))) ∧ ∀ i m H, W i m H →
  (J.stop i H ∧ Q (.ref D) H) ∨ (J.go i H ∧ ∃ Nx : Hp → Prop, (∀ H', Nx H' → ∃ m', m' < m ∧ W (i + 1) m' H') ∧ ∀ x H', J.yld i H x H' → g x (wipe σ vs) H' fun σ2 H2 => wipe σ2 vs = wipe σ vs ∧ tt σ2 H2 fun b H3 =>
    if b = true then wi2 σ2 H3 fun J2 H4 => ∃ V : Nat → Nat → Hp → Prop, (∃ m, V 0 m H4) ∧ ∀ j k H, V j k H →
      (J2.stop j H ∧ Nx H) ∨ (J2.go j H ∧ ∃ Ny : Hp → Prop, (∀ H', Ny H' → ∃ k', k' < k ∧ V (j + 1) k' H') ∧ ∀ x H', J2.yld j H x H' → g2 x (wipe σ2 v2) H' fun σ3 H5 => wipe σ3 v2 = wipe σ2 v2 ∧ tt2 σ3 H5 fun b H6 =>
        if b = true then tk σ3 H6 fun y H7 => tv σ3 H7 fun z H8 => ∃ kvs q, y = kV q ∧ H8 D = some (.dK kvs) ∧ kvs.length < sizeLine ∧ Ny (upd H8 D (.dK (putK kvs q z))) else Ny H6)
    else Nx H3)
theorem pe_dc2 {ke ve ga ia gb ib : Expr} {fa fb : List Expr} {sc : Scope} {own : List (Str × Nat)} {v2 : List Nat} {po : Pos} {wi wi2 : TI} {g g2 : TG} {tt tt2 : TT} {tk tv : TE} (calm : X.calm = true) (nd : X.N.Nodup) (hi : PI X ga ia wi) (ok : BlkOk X.N X.env.scope sc own) (hv : ∀ i ∈ v2, i ∈ own.map (·.2))
    (hg : ∀ (s1 : Shared) (G : Hp) (C : Addr) (cs : List (Str × Addr)) (l : List Addr), PG (X.blk s1 G sc (compEnvC sc cs C X.env) l) ga g) (ht : ∀ (s1 : Shared) (G : Hp) (C : Addr) (cs : List (Str × Addr)) (l : List Addr), PTs (X.blk s1 G sc (compEnvC sc cs C X.env) l) fa tt) (hi2 : ∀ (s1 : Shared) (G : Hp) (C : Addr) (cs : List (Str × Addr)) (l : List Addr), PI (X.blk s1 G sc (compEnvC sc cs C X.env) l) gb ib wi2) (hg2 : ∀ (s1 : Shared) (G : Hp) (C : Addr) (cs : List (Str × Addr)) (l : List Addr), PG (X.blk s1 G sc (compEnvC sc cs C X.env) l) gb g2) (ht2 : ∀ (s1 : Shared) (G : Hp) (C : Addr) (cs : List (Str × Addr)) (l : List Addr), PTs (X.blk s1 G sc (compEnvC sc cs C X.env) l) fb tt2) (hk : ∀ (s1 : Shared) (G : Hp) (C : Addr) (cs : List (Str × Addr)) (l : List Addr), PE (X.blk s1 G sc (compEnvC sc cs C X.env) l) ke tk) (hw : ∀ (s1 : Shared) (G : Hp) (C : Addr) (cs : List (Str × Addr)) (l : List Addr), PE (X.blk s1 G sc (compEnvC sc cs C X.env) l) ve tv)
    (hs : ∀ x, foldedSetIterable ia X.env x = pure x := by intro _; rfl) (hs2 : ∀ e x, foldedSetIterable ib e x = pure x := by intro _ _; rfl) :
    PE X (dc2 ke ve ga ia gb ib fa fb sc po) (tDc2 wi g tt wi2 g2 tt2 tk tv (own.map (·.2)) v2) := by
  refine ⟨fun pins s σ H Q inv want => ?_⟩
  rw [arm_eval_DictComp]
  have closed : ∀ y ∈ sc.names, y.2 = .free → ∃ c, X.env.cells.lookup y.1 = some c := fun y hy e => (ok.free y hy e).elim (fun z => inv.ok.has _ (.inl z)) fun z => inv.ok.has _ (.inr z)
  refine wpAny_comprehension_free (use := none) rfl hs (closure_ok closed) ok.kind (fun y hy e => by rw [ok.uniq y hy, e]) (thn (hi.run pins s σ H _ inv want) fun xv s1 hx => thn hx fun itv s2 h2 => ?_)
  obtain ⟨it, fp, tn, J, H2, rfl, inv2, T, st2, f2, q⟩ := h2
  refine wpAny_newObj_type (newEnv_comp ?_)
  generalize hD : s2.heap.objs.size = D
  have Dn : H2 D = none := inv2.hok.fresh (Nat.le_of_eq hD)
  obtain ⟨W, ⟨m0, w0⟩, turn⟩ := q D Dn
  generalize hs3 : ({ s2 with heap := s2.heap.push { cls := .type "dict", data := .dict #[] } } : Shared) = s3
  have inv3 : Inv X pins σ (upd H2 D (.dK [])) s3 := by
    rw [← hs3]
    refine inv2.laid (t' := s2.toks) (fun _ _ e => Heap.get?_push_of_some _ e) (Nat.le_of_eq hD) ?_
    rw [← hD]
    exact dk_empty s2.heap inv2.big
  have h3 : s3.heap = s2.heap.push { cls := .type "dict", data := .dict #[] } := by rw [← hs3]
  have below : ∀ b ∈ fp, b < s2.heap.objs.size := fun b hb => by
    obtain ⟨o, e, _⟩ := T.obj _ _ st2 b hb
    exact Heap.lt_size e
  have f3 : ∀ b ∈ fp, FpOk X pins (upd H2 D (.dK [])) b ∧ b < s3.heap.objs.size := fun b hb => by
    refine ⟨⟨?_, (f2 b hb).2⟩, by rw [h3, Heap.size_push]; exact Nat.lt_succ_of_lt (below b hb)⟩
    rw [upd_ne (by rw [← hD]; exact Nat.ne_of_lt (below b hb))]
    exact (f2 b hb).1
  have st3 : tn 0 s3.heap := T.keep _ _ _ st2 fun b _ o e => by rw [h3]; exact Heap.get?_push_of_some _ e
  have inv4 := block_start inv3 ok nd f3
  have pg := hg s3 (upd H2 D (.dK [])) s3.heap.objs.size (cellsFrom (s3.heap.objs.size + 1) sc.names (cloFrom X.env.cells sc.names [])) fp
  have pt := ht s3 (upd H2 D (.dK [])) s3.heap.objs.size (cellsFrom (s3.heap.objs.size + 1) sc.names (cloFrom X.env.cells sc.names [])) fp
  have pi2 := hi2 s3 (upd H2 D (.dK [])) s3.heap.objs.size (cellsFrom (s3.heap.objs.size + 1) sc.names (cloFrom X.env.cells sc.names [])) fp
  have pg2 := hg2 s3 (upd H2 D (.dK [])) s3.heap.objs.size (cellsFrom (s3.heap.objs.size + 1) sc.names (cloFrom X.env.cells sc.names [])) fp
  have pt2 := ht2 s3 (upd H2 D (.dK [])) s3.heap.objs.size (cellsFrom (s3.heap.objs.size + 1) sc.names (cloFrom X.env.cells sc.names [])) fp
  have pk := hk s3 (upd H2 D (.dK [])) s3.heap.objs.size (cellsFrom (s3.heap.objs.size + 1) sc.names (cloFrom X.env.cells sc.names [])) fp
  have pw := hw s3 (upd H2 D (.dK [])) s3.heap.objs.size (cellsFrom (s3.heap.objs.size + 1) sc.names (cloFrom X.env.cells sc.names [])) fp
  show codeAny _ _ (.compStart (dc2 ke ve ga ia gb ib fa fb sc po) 0 (.ref it) (.ref D) (compEnvC sc (cellsFrom (s3.heap.objs.size + 1) sc.names (cloFrom X.env.cells sc.names [])) s3.heap.objs.size X.env)) (compPost (model X.prog X.w) X.A X.xe none _ (.ref D) s3.heap.objs.size) { s3 with heap := pushCells (s3.heap.push { cls := .type "dict", data := .dict #[] }) sc.names }
  have off : ∀ b ∈ fp, (upd H2 D (.dK [])) b = none := fun b hb => (f3 b hb).1.1
  generalize hce : compEnvC sc (cellsFrom (s3.heap.objs.size + 1) sc.names (cloFrom X.env.cells sc.names [])) s3.heap.objs.size X.env = ce at inv4 pg pt pi2 pg2 pt2 pk pw ⊢
  have cL : ce.locals = s3.heap.objs.size := by subst hce; rfl
  generalize hH3 : upd H2 D (.dK []) = H3 at inv3 inv4 pg pt pi2 pg2 pt2 pk pw w0 off f3
  generalize hs4 : ({ s3 with heap := pushCells (s3.heap.push { cls := .type "dict", data := .dict #[] }) sc.names } : Shared) = s4 at inv4 ⊢
  have st4 : tn 0 s4.heap := T.keep _ _ _ st3 fun b _ o e => by rw [← hs4]; exact pushCells_keeps _ _ _ _ (Heap.get?_push_of_some _ e)
  have calmly : ∀ {σ' : L2.St} {H' : Hp} {s' : Shared}, Inv (X.blk s3 H3 sc ce fp) [] σ' H' s' → (∀ b ∈ fp, H' b = none) → ∀ b ∈ fp, FpOk (X.blk s3 H3 sc ce fp) [] H' b := fun {σ' H' s'} i2 hn b hb =>
    ⟨hn b hb, (i2.ok.exf b hb).1, i2.ok.exfs b hb, .inl hb, fun x c e => (i2.ok.exf b hb).2 x c e, fun p hp => absurd (show p ∈ ([] : List (Addr × Obj)) ++ [] from hp) (by simp)⟩
  have run : codeAny (model X.prog X.w) X.A (.compLoop (dc2 ke ve ga ia gb ib fa fb sc po) 0 (.ref it) (.ref D) ce) (compPost (model X.prog X.w) X.A X.xe none (EP X pins σ Q) (.ref D) s3.heap.objs.size) s4 := by
    refine loop_a (hs2 ce) (fun n s' => ∃ i H', Inv (X.blk s3 H3 sc ce fp) [] (wipe σ (own.map (·.2))) H' s' ∧ tn i s'.heap ∧ (∀ b ∈ fp, H' b = none) ∧ W i n H') ?_ m0 ⟨0, H3, inv4, st4, off, w0⟩
    rintro n s5 ⟨i, H5, inv5, st5, n5, w5⟩
    rcases turn i n H5 w5 with ⟨stop, qq⟩ | ⟨go, Nx, hNx, next⟩
    · refine thnF (T.done (X.blk s3 H3 sc ce fp) rfl rfl rfl calm i [] s5 _ H5 (fun _ _ => False) inv5 (calmly inv5 n5) st5 stop) fun r s6 ⟨hr, inv6⟩ => ?_
      subst hr
      have inv7 : Inv X pins σ H5 s6 := inv3.call' (ch := fp) inv6.os inv6.base inv6.hok inv6.bare fun b hb => ⟨(f3 b hb).1.2.2.2.1, (f3 b hb).1.2.1, (f3 b hb).1.2.2.2.2.1, (f3 b hb).1.2.2.2.2.2⟩
      have nC : H5 s3.heap.objs.size = none := by
        have z : H5 ce.locals = none := inv6.free
        rwa [cL] at z
      obtain ⟨m, hn, _⟩ := inv6.loc
      have hn : s6.heap.Ns ce.locals m := hn
      rw [cL] at hn
      obtain ⟨e0, e1, e2, e3, e4, e5⟩ := inv3.fpOk (Nat.le_refl _) nC
      exact ⟨m, hn, fun h'' sb => ⟨.ref D, H5, inv7.turned (t' := s6.toks) (fun b o hb e => (sb.2 b hb).trans e) e0 e1 e3 e4 e5, rfl, qq⟩⟩
    · refine thnF (T.item (X.blk s3 H3 sc ce fp) rfl rfl rfl calm i [] s5 _ H5 (fun _ _ => False) inv5 (calmly inv5 n5) st5 go) fun r s6 ⟨u, hr, h6⟩ => ?_
      subst hr
      refine thnF h6 fun _ s7 ⟨x, H7, inv7, r7, y7, st7, n7⟩ => ?_
      refine thnF (pg.run _ s7 _ H7 x u _ (inv7.pinned (calmly inv7 n7) (T.obj _ _ st7)) r7 (next x H7 y7)) fun _ s8 ⟨σ8, H8, inv8, hw8, q8⟩ => ?_
      refine thnF (pt.run _ s8 σ8 H8 _ inv8 q8) fun b s9 ⟨H9, inv9, q9⟩ => ?_
      have fin : ∀ {σ9 : L2.St} {s' : Shared} {H' : Hp}, Inv (X.blk s3 H3 sc ce fp) ([] ++ pinsAt fp s7.heap) σ9 H' s' → (wipe σ (own.map (·.2))).length = σ9.length → (∀ (j : Nat) v, (wipe σ (own.map (·.2)))[j]? = some (some v) → σ9[j]? = some (some v)) → Nx H' →
          ∃ m, m < n ∧ ∃ i H', Inv (X.blk s3 H3 sc ce fp) [] (wipe σ (own.map (·.2))) H' s' ∧ tn i s'.heap ∧ (∀ b ∈ fp, H' b = none) ∧ W i m H' := fun {σ9 s' H'} i9 hl hkeep nx => by
        obtain ⟨m2, hm, w2⟩ := hNx H' nx
        have pinned : ∀ b ∈ fp, ∀ o, s7.heap.get? b = some o → s'.heap.get? b = some o ∧ H' b = none := fun b hb o e =>
          let z := i9.pin (b, o) (List.mem_append_right _ (List.mem_append_right _ (mem_pinsAt hb e)))
          ⟨z.1, z.2.1⟩
        refine ⟨m2, hm, i + 1, H', (i9.unpinned (pins := [])).weak hl hkeep, T.keep _ _ _ st7 fun b hb o e => (pinned b hb o e).1, fun b hb => ?_, w2⟩
        obtain ⟨o, e, _⟩ := T.obj _ _ st7 b hb
        exact (pinned b hb o e).2
      have l8 : (wipe σ (own.map (·.2))).length = σ8.length := by rw [← hw8, wipe_length]
      have k8 : ∀ (j : Nat) v, (wipe σ (own.map (·.2)))[j]? = some (some v) → σ8[j]? = some (some v) := fun j v e => by
        rw [← hw8] at e
        exact (wipe_some e).1
      have k9 : ∀ (j : Nat) v, (wipe σ (own.map (·.2)))[j]? = some (some v) → (wipe σ8 v2)[j]? = some (some v) := fun j v e => by
        rw [← hw8] at e
        obtain ⟨e1, e2⟩ := wipe_some e
        rw [wipe_out fun z => e2 (hv j z)]
        exact e1
      match b, q9 with
      | false, q9 => exact fin inv9 l8 k8 (by simpa using q9)
      | true, q9 =>
        refine thnF (pi2.run _ s9 σ8 H9 _ inv9 (by simpa using q9)) fun xv s10 hx => thnF hx fun itv s11 h11 => ?_
        obtain ⟨i1, p1, t1, J1, H11, rfl, inv11, T1, st11, f11, V, ⟨m1, v1⟩, turn1⟩ := h11
        have calm1 : ∀ {H' : Hp}, (∀ b ∈ p1, H' b = none) → ∀ b ∈ p1, FpOk (X.blk s3 H3 sc ce fp) ([] ++ pinsAt fp s7.heap) H' b := fun hn b hb => ⟨hn b hb, (f11 b hb).2⟩
        have run1 : codeAny (model X.prog X.w) X.A (.compLoop (dc2 ke ve ga ia gb ib fa fb sc po) 1 (.ref i1) (.ref D) ce)
            (fun r s' => match r with
              | .ok _ => ∃ m, m < n ∧ ∃ i H', Inv (X.blk s3 H3 sc ce fp) [] (wipe σ (own.map (·.2))) H' s' ∧ tn i s'.heap ∧ (∀ b ∈ fp, H' b = none) ∧ W i m H'
              | .error _ => False) s11 := by
          refine loop_b (fun k s' => ∃ j H', Inv (X.blk s3 H3 sc ce fp) ([] ++ pinsAt fp s7.heap) (wipe σ8 v2) H' s' ∧ t1 j s'.heap ∧ (∀ b ∈ p1, H' b = none) ∧ V j k H') ?_ m1 ⟨0, H11, inv11.weak (wipe_length _ _) (fun j v e => (wipe_some e).1), st11, fun b hb => (f11 b hb).1, v1⟩
          rintro k s12 ⟨j, H12, inv12, st12, n12, w12⟩
          rcases turn1 j k H12 w12 with ⟨stop1, nx1⟩ | ⟨go1, Ny, hNy, next1⟩
          · refine thnF (T1.done (X.blk s3 H3 sc ce fp) rfl rfl rfl calm j _ s12 (wipe σ8 v2) H12 (fun _ _ => False) inv12 (calm1 n12) st12 stop1) fun r s13 ⟨hr, inv13⟩ => ?_
            subst hr
            exact fin inv13 (l8.trans (wipe_length σ8 v2).symm) k9 nx1
          · refine thnF (T1.item (X.blk s3 H3 sc ce fp) rfl rfl rfl calm j _ s12 (wipe σ8 v2) H12 (fun _ _ => False) inv12 (calm1 n12) st12 go1) fun r s13 ⟨u1, hr, h13⟩ => ?_
            subst hr
            refine thnF h13 fun _ s14 ⟨x1, H14, inv14, r14, y14, st14, n14⟩ => ?_
            refine thnF (pg2.run _ s14 (wipe σ8 v2) H14 x1 u1 _ (inv14.pinned (calm1 n14) (T1.obj _ _ st14)) r14 (next1 x1 H14 y14)) fun _ s15 ⟨σ15, H15, inv15, hw15, q15⟩ => ?_
            refine thnF (pt2.run _ s15 σ15 H15 _ inv15 q15) fun b1 s16 ⟨H16, inv16, q16⟩ => ?_
            have fin1 : ∀ {s' : Shared} {H' : Hp}, Inv (X.blk s3 H3 sc ce fp) (([] ++ pinsAt fp s7.heap) ++ pinsAt p1 s14.heap) σ15 H' s' → Ny H' → ∃ m, m < k ∧ ∃ j H', Inv (X.blk s3 H3 sc ce fp) ([] ++ pinsAt fp s7.heap) (wipe σ8 v2) H' s' ∧ t1 j s'.heap ∧ (∀ b ∈ p1, H' b = none) ∧ V j m H' := fun {s' H'} i9 nx => by
              obtain ⟨m2, hm, w2⟩ := hNy H' nx
              have pinned : ∀ b ∈ p1, ∀ o, s14.heap.get? b = some o → s'.heap.get? b = some o ∧ H' b = none := fun b hb o e =>
                let z := i9.pin (b, o) (List.mem_append_right _ (List.mem_append_right _ (mem_pinsAt hb e)))
                ⟨z.1, z.2.1⟩
              refine ⟨m2, hm, j + 1, H', i9.unpinned.weak (by rw [← hw15, wipe_length]) (fun j v e => by rw [← hw15] at e; exact (wipe_some e).1), T1.keep _ _ _ st14 fun b hb o e => (pinned b hb o e).1, fun b hb => ?_, w2⟩
              obtain ⟨o, e, _⟩ := T1.obj _ _ st14 b hb
              exact (pinned b hb o e).2
            cases b1 with
            | false =>
              rw [if_neg Bool.false_ne_true] at q16
              exact fin1 inv16 q16
            | true =>
              rw [if_pos rfl] at q16
              refine thnF (pk.run _ s16 σ15 H16 _ inv16 q16) fun y s17 ⟨yk, H17, inv17, r17, q17⟩ => ?_
              refine thnF (pw.run _ s17 σ15 H17 _ inv17 q17) fun z s18 ⟨yv, H18, inv18, r18, kvs, k, ek, hD18, hz18, nx⟩ => ?_
              subst ek
              exact d_dictSet (X := X.blk s3 H3 sc ce fp) inv18 hD18 hz18 r17 r18 fun s19 inv19 => fin1 inv19 nx
        exact start_b run1 (T1.self X.A 0 _ _ _ st11 run1)
  exact codeAny_compStart_dict run (T.self X.A 0 _ _ _ st4 run)
end
end NH
set_option maxHeartbeats 4000000
namespace NH
open PySem PySem.Spec PyProof.Rows L2 TL
/-- the dict that a walk over a list that stays makes -/
theorem dc_lst {K : PySem.W.Frag} {a : Addr} {xs : List V} {g : TG} {tt : TT} {tk tv : TE} {vs : List Nat} {σ : L2.St} {H1 : Hp} {D : Addr} {Qd : Hp → Prop} (Z : Nat → Hp → Prop) (z0 : Z 0 (upd H1 D (.dK []))) (zl : ∀ i H, i ≤ xs.length → Z i H → SqL K H a xs)
    (zs : ∀ i x H, xs[i]? = some x → Z i H → g x (wipe σ vs) H fun σ2 H2 => wipe σ2 vs = wipe σ vs ∧ tt σ2 H2 fun b H3 =>
      if b = true then tk σ2 H3 fun y H4 => tv σ2 H4 fun z H5 => ∃ kvs k, y = kV k ∧ H5 D = some (.dK kvs) ∧ kvs.length < sizeLine ∧ Z (i + 1) (upd H5 D (.dK (putK kvs k z))) else Z (i + 1) H3) (zd : ∀ H, Z xs.length H → Qd H) :
    ∃ W : Nat → Nat → Hp → Prop, (∃ m, W 0 m (upd H1 D (.dK []))) ∧ ∀ i m H, W i m H →
      ((Itl K a).stop i H ∧ Qd H) ∨ ((Itl K a).go i H ∧ ∃ Nx : Hp → Prop, (∀ H', Nx H' → ∃ m', m' < m ∧ W (i + 1) m' H') ∧ ∀ x H', (Itl K a).yld i H x H' → g x (wipe σ vs) H' fun σ2 H2 => wipe σ2 vs = wipe σ vs ∧ tt σ2 H2 fun b H3 =>
        if b = true then tk σ2 H3 fun y H4 => tv σ2 H4 fun z H5 => ∃ kvs k, y = kV k ∧ H5 D = some (.dK kvs) ∧ kvs.length < sizeLine ∧ Nx (upd H5 D (.dK (putK kvs k z))) else Nx H3) := by
  refine ⟨fun i m H => m = xs.length - i ∧ i ≤ xs.length ∧ Z i H, ⟨xs.length, (Nat.sub_zero _).symm, Nat.zero_le _, z0⟩, ?_⟩
  rintro i m H ⟨rfl, hi, p⟩
  have q := zl i H hi p
  rcases Nat.lt_or_ge i xs.length with lt | ge
  · exact .inr ⟨⟨xs, xs[i], q, List.getElem?_eq_getElem lt⟩, Z (i + 1), fun H' p' => ⟨xs.length - (i + 1), by omega, rfl, lt, p'⟩, fun x H' ⟨e, y⟩ => e ▸ zs i x _ (y xs q) p⟩
  · have e : i = xs.length := Nat.le_antisymm hi ge
    subst e
    exact .inl ⟨⟨xs, q, Nat.le_refl _⟩, zd H p⟩
/-- the same for two clauses: a tuple, then for each item a list -/
theorem dc2_tl {K : PySem.W.Frag} {a : Addr} {xs : List V} {g g2 : TG} {tk tv t2 : TE} {vs v2 : List Nat} {σ : L2.St} {H1 : Hp} {D : Addr} {Qd : Hp → Prop} (Z : Nat → Hp → Prop) (z0 : Z 0 (upd H1 D (.dK []))) (zl : ∀ i H, i ≤ xs.length → Z i H → SqT K H a xs)
    (zs : ∀ i x H, xs[i]? = some x → Z i H → g x (wipe σ vs) H fun σ2 H2 => wipe σ2 vs = wipe σ vs ∧ t2 σ2 H2 fun y H4 => ∃ b, y = .ref b ∧ (∃ ys, SqL K H4 b ys) ∧ ∃ V : Nat → Nat → Hp → Prop, (∃ m, V 0 m H4) ∧ ∀ j k H, V j k H →
      ((Itl K b).stop j H ∧ Z (i + 1) H) ∨ ((Itl K b).go j H ∧ ∃ Ny : Hp → Prop, (∀ H', Ny H' → ∃ k', k' < k ∧ V (j + 1) k' H') ∧ ∀ x H', (Itl K b).yld j H x H' → g2 x (wipe σ2 v2) H' fun σ3 H5 => wipe σ3 v2 = wipe σ2 v2 ∧
        tk σ3 H5 fun y H7 => tv σ3 H7 fun z H8 => ∃ kvs q, y = kV q ∧ H8 D = some (.dK kvs) ∧ kvs.length < sizeLine ∧ Ny (upd H8 D (.dK (putK kvs q z))))) (zd : ∀ H, Z xs.length H → Qd H) :
    ∃ W : Nat → Nat → Hp → Prop, (∃ m, W 0 m (upd H1 D (.dK []))) ∧ ∀ i m H, W i m H →
      ((Itt K a).stop i H ∧ Qd H) ∨ ((Itt K a).go i H ∧ ∃ Nx : Hp → Prop, (∀ H', Nx H' → ∃ m', m' < m ∧ W (i + 1) m' H') ∧ ∀ x H', (Itt K a).yld i H x H' → g x (wipe σ vs) H' fun σ2 H2 => wipe σ2 vs = wipe σ vs ∧ tYes σ2 H2 fun b H3 =>
        if b = true then iList K t2 σ2 H3 fun J2 H4 => ∃ V : Nat → Nat → Hp → Prop, (∃ m, V 0 m H4) ∧ ∀ j k H, V j k H →
          (J2.stop j H ∧ Nx H) ∨ (J2.go j H ∧ ∃ Ny : Hp → Prop, (∀ H', Ny H' → ∃ k', k' < k ∧ V (j + 1) k' H') ∧ ∀ x H', J2.yld j H x H' → g2 x (wipe σ2 v2) H' fun σ3 H5 => wipe σ3 v2 = wipe σ2 v2 ∧ tYes σ3 H5 fun b H6 =>
            if b = true then tk σ3 H6 fun y H7 => tv σ3 H7 fun z H8 => ∃ kvs q, y = kV q ∧ H8 D = some (.dK kvs) ∧ kvs.length < sizeLine ∧ Ny (upd H8 D (.dK (putK kvs q z))) else Ny H6)
        else Nx H3) := by
  refine ⟨fun i m H => m = xs.length - i ∧ i ≤ xs.length ∧ Z i H, ⟨xs.length, (Nat.sub_zero _).symm, Nat.zero_le _, z0⟩, ?_⟩
  rintro i m H ⟨rfl, hi, p⟩
  have q := zl i H hi p
  rcases Nat.lt_or_ge i xs.length with lt | ge
  · exact .inr ⟨⟨xs, xs[i], q, List.getElem?_eq_getElem lt⟩, Z (i + 1), fun H' p' => ⟨xs.length - (i + 1), by omega, rfl, lt, p'⟩, fun x H' ⟨e, y⟩ => e ▸ zs i x _ (y xs q) p⟩
  · have e : i = xs.length := Nat.le_antisymm hi ge
    subst e
    exact .inl ⟨⟨xs, q, Nat.le_refl _⟩, zd H p⟩
/-- the turns over a list that stays -/
theorem inner_l {K : PySem.W.Frag} {b : Addr} {ys : List V} {H0 : Hp} {g2 : TG} {tk tv : TE} {v2 : List Nat} {σ : L2.St} {D : Addr} {Nx : Hp → Prop} (Y : Nat → Hp → Prop) (y0 : Y 0 H0) (yl : ∀ j H, j ≤ ys.length → Y j H → SqL K H b ys)
    (yt : ∀ j x H, ys[j]? = some x → Y j H → g2 x (wipe σ v2) H fun σ3 H5 => wipe σ3 v2 = wipe σ v2 ∧ tk σ3 H5 fun y H7 => tv σ3 H7 fun z H8 => ∃ kvs q, y = kV q ∧ H8 D = some (.dK kvs) ∧ kvs.length < sizeLine ∧ Y (j + 1) (upd H8 D (.dK (putK kvs q z)))) (yd : ∀ H, Y ys.length H → Nx H) :
    ∃ V : Nat → Nat → Hp → Prop, (∃ m, V 0 m H0) ∧ ∀ j k H, V j k H →
      ((Itl K b).stop j H ∧ Nx H) ∨ ((Itl K b).go j H ∧ ∃ Ny : Hp → Prop, (∀ H', Ny H' → ∃ k', k' < k ∧ V (j + 1) k' H') ∧ ∀ x H', (Itl K b).yld j H x H' → g2 x (wipe σ v2) H' fun σ3 H5 => wipe σ3 v2 = wipe σ v2 ∧
        tk σ3 H5 fun y H7 => tv σ3 H7 fun z H8 => ∃ kvs q, y = kV q ∧ H8 D = some (.dK kvs) ∧ kvs.length < sizeLine ∧ Ny (upd H8 D (.dK (putK kvs q z)))) := by
  refine ⟨fun j m H => m = ys.length - j ∧ j ≤ ys.length ∧ Y j H, ⟨ys.length, (Nat.sub_zero _).symm, Nat.zero_le _, y0⟩, ?_⟩
  rintro j m H ⟨rfl, hj, p⟩
  have q := yl j H hj p
  rcases Nat.lt_or_ge j ys.length with lt | ge
  · exact .inr ⟨⟨ys, ys[j], q, List.getElem?_eq_getElem lt⟩, Y (j + 1), fun H' p' => ⟨ys.length - (j + 1), by omega, rfl, lt, p'⟩, fun x H' ⟨e, y⟩ => e ▸ yt j x _ (y ys q) p⟩
  · have e : j = ys.length := Nat.le_antisymm hj ge
    subst e
    exact .inl ⟨⟨ys, q, Nat.le_refl _⟩, yd H p⟩
section
variable {P : Program} {w : World} {K : PySem.W.Frag} {mg : Str → Option Value} {base : Heap} {C fI fH : Addr}
theorem sidesK_mem {k : Kind} {x : Str} : x ∈ sidesK k ↔ ∃ j, j < k.2 ∧ x = k.1 ++ dg j := by
  unfold sidesK
  rw [List.mem_map]
  constructor
  · rintro ⟨j, hj, e⟩; exact ⟨j, List.mem_range.mp hj, e.symm⟩
  · rintro ⟨j, hj, e⟩; exact ⟨j, List.mem_range.mpr hj, e.symm⟩
theorem KindsAt.keep {H H' : Hp} (s : ∀ b l, H b = some (.tup l) → H' b = some (.tup l)) : ∀ {vs : List V} {ks : List Kind}, KindsAt H vs ks → KindsAt H' vs ks
  | _, _, .nil => .nil
  | _, _, .cons ⟨t, e, h⟩ r => .cons ⟨t, e, s _ _ h⟩ (KindsAt.keep s r)
/-! ### _sides_of, _without -/
abbrev s_sides_of : Stmt := top 36
theorem sc_sides_of : FnScope ["name", "many", "digit"] ["name", "many"] (defScope s_sides_of) := ⟨rfl, rfl, rfl, by decide +kernel, rfl, by decide +kernel, by decide +kernel⟩
def spSo : Sp := fun vs H Q _ => ∃ k : Kind, vs = [.str k.1, .int (k.2 : Int)] ∧ k.1.cps.toList.length ≤ 4 ∧ (k.2 = 2 ∨ k.2 = 3) ∧ ∀ p H', Same H H' → H p = none → H' p = some (.lst ((sidesK k).map .str)) → Q (.ref p) H'
theorem ok_sides_of (G : Bl mg) (DA : DefAt K mg "_sides_of" s_sides_of) : Callee P w K mg base 2 "_sides_of" ["name", "many"] spSo := by
  refine callee DA sc_sides_of (fun vs H Q E h => by obtain ⟨k, rfl, _⟩ := h; rfl) (fun _ _ _ _ _ _ us hl => match us, hl with | [_, _], _ => rfl) fun f cdv A outer s H vs Q E hr h => ?_
  obtain ⟨k, rfl, l4, ltw, q⟩ := h
  refine ⟨_, pss_one (ps_ret (pe_lc (own := [("digit", 2)]) (g := gName 2) rfl sc_sides_of.nd (pi_range2 (by rfl) G.b_range (pa_cons pe_int (pa_cons (pe_op op_add (pv 1) pe_int) pa_nil))) (blkOk_by (N := ["name", "many", "digit"]) (sc := defScope s_sides_of) (by decide +kernel)) (fun _ _ _ _ _ => pg_name (i := 2) sc_sides_of.nd rfl (Or.inl rfl)) (fun _ _ _ _ _ => pts_nil)
    (fun _ _ _ _ _ => pe_joined (PJ.cons (pe_fmt (pv 0)) (PJ.cons (pe_fmt (pv 2)) PJ.nil))))), ?_⟩
  refine ⟨_, rfl, _, _, rfl, rfl, 1, (k.2 : Int) + 1, rfl, ⟨by omega, by omega, by omega, by omega⟩, fun D hD => ?_⟩
  rw [show ((k.2 : Int) + 1 - 1).toNat = k.2 by omega]
  refine lc_range (te := fun σ H Q => tJs [tFmt (tVar 0), tFmt (tVar 2)] Str.empty σ H fun out H1 => Q (.str out) H1) (lo := 1) (n := k.2) (fun j H' => Same H H' ∧ H' D = some (.lst (((List.range j).map fun z => k.1 ++ dg z).map .str))) ⟨same_new hD, upd_same⟩ ?_ ?_
  · rintro j H2 hj ⟨s2, d2⟩
    have l4' : k.1.length ≤ 4 := by rw [len_tl]; exact l4
    have ekey : Str.empty ++ k.1 ++ (toString (1 + (j : Int)) : Str) = k.1 ++ dg j := by rw [empty_app, dg_str j (by omega)]
    have lkey : (Str.empty ++ k.1 ++ (toString (1 + (j : Int)) : Str)).length ≤ sizeLine := by
      rw [ekey]
      show (k.1.cps ++ (dg j).cps).size ≤ _
      rw [Array.size_append]
      show k.1.length + 1 ≤ _
      exact Nat.le_of_lt (small1000 (by omega))
    have lk1 : k.1.length ≤ sizeLine := Nat.le_of_lt (small1000 (by omega))
    have lg : (1 + (j : Int)).natAbs.log2 < 1920 := by
      have z : j = 0 ∨ j = 1 ∨ j = 2 := by omega
      rcases z with rfl | rfl | rfl <;> decide
    refine ⟨rfl, tyes (iteT ?_)⟩
    refine ⟨_, rfl, .inl ⟨k.1, rfl, lk1, k.1, rfl, by rw [empty_app]; exact lk1, _, rfl, .inr ⟨1 + (j : Int), rfl, lg, _, rfl, lkey, _, d2, ?_, Same.put s2 hD, ?_⟩⟩⟩
    · rw [List.length_map, List.length_map, List.length_range]; exact small1000 (by omega)
    · rw [upd_same, ekey, List.range_succ, List.map_append, List.map_append]; rfl
  · rintro H2 ⟨s2, d2⟩
    exact q D H2 s2 hD d2
abbrev s_without : Stmt := top 37
theorem sc_without : FnScope ["sides", "side", "other"] ["sides", "side"] (defScope s_without) := ⟨rfl, rfl, rfl, by decide +kernel, rfl, by decide +kernel, by decide +kernel⟩
def spWout (K : PySem.W.Frag) : Sp := fun vs H Q _ => ∃ (a : Addr) (xs : List Str) (x : Str), vs = [.ref a, .str x] ∧ H a = some (.lst (xs.map .str)) ∧ xs.length ≤ 100 ∧ ∀ p H', Same H H' → H p = none → H' p = some (.tup ((xs.filter fun y => y != x).map .str)) → Q (.ref p) H'
theorem ok_without (G : Bl mg) (DA : DefAt K mg "_without" s_without) : Callee P w K mg base 2 "_without" ["sides", "side"] (spWout K) := by
  refine callee DA sc_without (fun vs H Q E h => by obtain ⟨a, xs, x, rfl, _⟩ := h; rfl) (fun _ _ _ _ _ _ us hl => match us, hl with | [_, _], _ => rfl) fun f cdv A outer s H vs Q E hr h => ?_
  obtain ⟨a, xs, x, rfl, ha, l1, q⟩ := h
  refine ⟨_, pss_one (ps_ret (pe_callTy call_tuple_of (by rfl) G.b_tuple (by decide +kernel) (pa_cons (pe_lc (own := [("other", 2)]) (g := gName 2) rfl sc_without.nd (pi_list (pv 0)) (blkOk_by (N := ["sides", "side", "other"]) (sc := defScope s_without) (by decide +kernel)) (fun _ _ _ _ _ => pg_name (i := 2) sc_without.nd rfl (Or.inl rfl)) (fun _ _ _ _ _ => pts_one (pt_cmpR op_ne (pv 2) (pv 1) (nomark _)))
    (fun _ _ _ _ _ => pv 2)) pa_nil))), ?_⟩
  refine ⟨_, rfl, a, rfl, ⟨_, SqL.of ha⟩, fun D hD => ?_⟩
  refine lc_list (K := K) (a := a) (xs := xs.map .str) (fun i H' => Same H H' ∧ H' D = some (.lst (((xs.take i).filter fun y => y != x).map .str))) ⟨same_new hD, upd_same⟩ (fun i H' _ z => SqL.of (z.1 _ _ ha)) ?_ ?_
  · rintro i v H2 hv ⟨s2, d2⟩
    rw [List.getElem?_map] at hv
    obtain ⟨y, hy, rfl⟩ := Option.map_eq_some_iff.mp hv
    obtain ⟨hi, ey⟩ := List.getElem?_eq_some_iff.mp hy
    have et : (xs.take (i + 1)).filter (fun y => y != x) = ((xs.take i).filter fun y => y != x) ++ if y != x then [y] else [] := by
      rw [List.take_succ_eq_append_getElem hi, ey, List.filter_append]
      congr 1
      rw [List.filter_cons, List.filter_nil]
    refine ⟨rfl, _, rfl, _, rfl, rfl, ?_⟩
    have eb : (!decide (V.str y = V.str x)) = (y != x) := by
      by_cases z : y = x
      · subst z; simp
      · rw [decide_eq_false (fun e => z (V.str.inj e))]; simp [z]
    refine ⟨_, rfl, ?_⟩
    rw [eb]
    cases hb : (y != x) with
    | true =>
      refine iteT ⟨_, rfl, _, d2, ?_, Same.put s2 hD, ?_⟩
      · rw [List.length_map]
        exact small1000 (Nat.le_trans (List.length_filter_le _ _) (by rw [List.length_take]; omega))
      · rw [upd_same, et, hb, if_pos rfl, List.map_append]; rfl
    | false =>
      refine iteF ⟨s2, ?_⟩
      rw [et, hb, if_neg Bool.false_ne_true, List.append_nil]; exact d2
  · rintro H2 ⟨s2, d2⟩
    rw [List.length_map, List.take_length] at d2
    refine ⟨D, _, rfl, .inl ⟨SqL.of d2, fun l hl => ?_⟩⟩
    exact q l _ (s2.trans (same_new hl)) (s2.free hl) upd_same
abbrev s_init : Stmt := inClass (top 35) 0
abbrev s_has : Stmt := inClass (top 35) 3
theorem sc_init : FnScope ["self", "kinds", "name", "many", "side"] ["self", "kinds"] (defScope s_init) := ⟨rfl, rfl, rfl, by decide +kernel, rfl, by decide +kernel, by decide +kernel⟩
def spInit (C : Addr) : Sp := fun vs H Q _ => ∃ (p dx a : Addr) (xs : List V) (ks : List Kind), vs = [.ref p, .ref a] ∧ H p = some (.ins C dx []) ∧ H a = some (.lst xs) ∧ KindsAt H xs ks ∧ GoodKinds ks ∧ ∀ H', PortsAt C H' p ks → (∀ b o, b ≠ p → H b = some o → H' b = some o) → Q .non H'
/-- all but p, and what is new -/
def Off (p : Addr) (H H' : Hp) : Prop := ∀ b o, b ≠ p → H b = some o → H' b = some o
theorem Off.trans {p : Addr} {H H1 H2 : Hp} (a : Off p H H1) (b : Off p H1 H2) : Off p H H2 := fun x o n h => b x o n (a x o n h)
theorem Off.same {p : Addr} {H H' : Hp} (s : Same H H') : Off p H H' := fun b o _ h => s b o h
theorem Off.put {p : Addr} {H : Hp} {o : HO} : Off p H (upd H p o) := fun b u n h => by rw [upd_ne n]; exact h
theorem Off.new {p d : Addr} {H H' : Hp} {o : HO} (k : Off p H H') (hd : H d = none) : Off p H (upd H' d o) := fun b u n h => by rw [upd_ne (ne_of_none h hd)]; exact k b u n h
theorem keys_put (kvs : List (Key × V)) (q : Key) (v : V) : (q ∈ kvs.map (·.1) → (putK kvs q v).map (·.1) = kvs.map (·.1)) ∧ (¬ q ∈ kvs.map (·.1) → (putK kvs q v).map (·.1) = kvs.map (·.1) ++ [q]) := by
  unfold putK
  refine ⟨fun m => ?_, fun m => ?_⟩
  · have h : (kvs.any fun kv => decide (kv.1 = q)) = true := by
      obtain ⟨kv, h1, h2⟩ := List.mem_map.mp m
      exact List.any_eq_true.mpr ⟨kv, h1, decide_eq_true h2⟩
    rw [if_pos h, List.map_map]
    refine List.map_congr_left fun kv _ => ?_
    show (if kv.1 = q then (kv.1, v) else kv).1 = kv.1
    split <;> rfl
  · have h : ¬ (kvs.any fun kv => decide (kv.1 = q)) = true := fun h => by
      obtain ⟨kv, h1, h2⟩ := List.any_eq_true.mp h
      exact m (List.mem_map.mpr ⟨kv, h1, of_decide_eq_true h2⟩)
    rw [if_neg h, List.map_append]; rfl
theorem put_key {kvs : List (Key × V)} {ks : List Str} (h : kvs.map (·.1) = ks.map Sum.inr) (x : Str) (v : V) : ∃ k2 : List Str, (putK kvs (Sum.inr x) v).map (·.1) = k2.map Sum.inr ∧ (∀ y, y ∈ k2 ↔ y ∈ ks ∨ y = x) ∧ k2.length ≤ ks.length + 1 := by
  obtain ⟨e1, e2⟩ := keys_put kvs (Sum.inr x) v
  rw [h] at e1 e2
  by_cases m : (Sum.inr x : Key) ∈ ks.map Sum.inr
  · refine ⟨ks, e1 m, fun y => ⟨.inl, fun z => z.elim id fun z => ?_⟩, Nat.le_succ _⟩
    obtain ⟨u, hu, e⟩ := List.mem_map.mp m
    rw [z, ← Sum.inr.inj e]; exact hu
  · refine ⟨ks ++ [x], by rw [e2 m, List.map_append]; rfl, fun y => by rw [List.mem_append, List.mem_singleton], by rw [List.length_append]; exact Nat.le_refl _⟩
/-- a dict of texts -/
def Tab (kvs : List (Key × V)) (keys : List Str) (F : Str → V → Prop) : Prop := kvs.map (·.1) = keys.map Sum.inr ∧ kvs.length ≤ keys.length ∧ ∀ x ∈ keys, ∃ v, valV kvs (Sum.inr x : Key) = some v ∧ F x v
theorem Tab.nil (F : Str → V → Prop) : Tab [] [] F := ⟨rfl, Nat.le_refl _, fun x h => by cases h⟩
theorem Tab.put {kvs : List (Key × V)} {keys : List Str} {F : Str → V → Prop} (t : Tab kvs keys F) (x : Str) (v : V) (f : F x v) : ∃ k2, Tab (putK kvs (Sum.inr x) v) k2 F ∧ (∀ y, y ∈ k2 ↔ y ∈ keys ∨ y = x) ∧ k2.length ≤ keys.length + 1 := by
  obtain ⟨k2, e, m, l⟩ := put_key t.1 x v
  refine ⟨k2, ⟨e, ?_, fun y hy => ?_⟩, m, l⟩
  · have z := congrArg List.length e
    rw [List.length_map, List.length_map] at z
    omega
  · rw [valV_put]
    by_cases z : y = x
    · subst z; exact ⟨v, by rw [if_pos rfl], f⟩
    · rcases (m y).mp hy with q | q
      · obtain ⟨u, e1, e2⟩ := t.2.2 y q
        exact ⟨u, by rw [if_neg (fun w => z (Sum.inr.inj w))]; exact e1, e2⟩
      · exact absurd q z
theorem Tab.imp {kvs : List (Key × V)} {keys : List Str} {F G : Str → V → Prop} (t : Tab kvs keys F) (h : ∀ x v, F x v → G x v) : Tab kvs keys G := ⟨t.1, t.2.1, fun x hx => let ⟨v, e, f⟩ := t.2.2 x hx; ⟨v, e, h x v f⟩⟩
theorem valV_none {kvs : List (Key × V)} {q : Key} (h : q ∉ kvs.map (·.1)) : valV kvs q = none := by
  unfold valV
  rw [List.find?_eq_none.mpr fun kv hkv e => h (List.mem_map.mpr ⟨kv, hkv, of_decide_eq_true e⟩)]; rfl
theorem Tab.is {kvs : List (Key × V)} {keys : List Str} {F : Str → V → Prop} (t : Tab kvs keys F) (x : Str) : (valV kvs (Sum.inr x : Key)).isSome = true ↔ x ∈ keys := by
  constructor
  · intro h
    by_cases m : x ∈ keys
    · exact m
    · rw [valV_none (fun z => by rw [t.1] at z; obtain ⟨u, hu, e⟩ := List.mem_map.mp z; exact m (Sum.inr.inj e ▸ hu))] at h
      cases h
  · intro h
    obtain ⟨v, e, _⟩ := t.2.2 x h
    rw [e]; rfl
theorem lookup_put {f g : Str} {v : V} {fs : List (Str × V)} : (putF f v fs).lookup g = if g = f then some v else fs.lookup g := lookup_putF f g v fs
theorem ok_init (G : Bl mg) (T : PortsC K mg C fI fH) (F : ∃ fd, FunD K "__init__" "Ports.__init__" (defArgs s_init) (defBody s_init) (defScope s_init) [] [] fI fd) (cAk : Callee P w K mg base 6 "_are_kinds" ["value"] spAks)
    (cSo : Callee P w K mg base 2 "_sides_of" ["name", "many"] spSo) (cWo : Callee P w K mg base 2 "_without" ["sides", "side"] (spWout K)) :
    ∃ fd, Binds K fd ["self", "kinds"] [] ∧ FnOk P w K mg base CX0 8 fI fd ["self", "kinds"] (spInit C) := by
  refine meth_ok F sc_init (fun vs H Q E h => by obtain ⟨p, dx, a, xs, ks, rfl, _⟩ := h; rfl) (fun _ _ _ _ _ _ us hl => match us, hl with | [_, _], _ => rfl) fun cdv A outer s H vs Q E hr h => ?_
  obtain ⟨p, dx, a, xs, ks, rfl, hp, ha, hk, gk, q⟩ := h
  have hu := hu_of hr
  refine ⟨_, (pss_cons (ps_if (pt_not (pt_val (pe_cal cAk hr (by decide) (pa_cons (pv 1) pa_nil)))) (pss_one ps_never) pss_nil)
    (pss_cons (ps_fld (pv 0) (pe_callTy call_tuple_of (by rfl) G.b_tuple (by decide +kernel) (pa_cons (pv 1) pa_nil)) rfl)
    (pss_cons (ps_fld (pv 0) (pe_dc2 (own := [("name", 2), ("many", 3), ("side", 4)]) (v2 := [4]) (wi2 := iList K (tCall spSo [] E0 (tCons (tVar 2) (tCons (tVar 3) tNil)))) (g := gTup K 2 (gCons (gName 2) (gCons (gName 3) gNil))) (g2 := gName 4) rfl sc_init.nd (pi_tup (pe_fld (pv 0) rfl)) (blkOk_by (N := ["self", "kinds", "name", "many", "side"]) (sc := defScope s_init) (by decide +kernel)) (by decide)
        (fun _ _ _ _ _ => pg_tup (by rfl) (pgs_cons (pg_name (i := 2) sc_init.nd rfl (Or.inl rfl)) (pgs_cons (pg_name (i := 3) sc_init.nd rfl (Or.inl rfl)) pgs_nil))) (fun _ _ _ _ _ => pts_nil) (fun _ _ _ _ _ => pi_list (pe_cal cSo hr (by decide) (pa_cons (pv 2) (pa_cons (pv 3) pa_nil))))
        (fun _ _ _ _ _ => pg_name (i := 4) sc_init.nd rfl (Or.inl rfl)) (fun _ _ _ _ _ => pts_nil) (fun _ _ _ _ _ => pv 4) (fun _ _ _ _ _ => pv 2)) rfl)
    (pss_cons (ps_fld (pv 0) (pe_callB (call_sortedD rfl) (by rfl) G.b_sorted (by decide +kernel) (pa_cons (pe_fld (pv 0) rfl) pa_nil)) rfl)
    (pss_cons (ps_fld (pv 0) (pe_dc (own := [("name", 2), ("many", 3)]) (g := gTup K 2 (gCons (gName 2) (gCons (gName 3) gNil))) rfl sc_init.nd (pi_tup (pe_fld (pv 0) rfl)) (blkOk_by (N := ["self", "kinds", "name", "many", "side"]) (sc := defScope s_init) (by decide +kernel))
        (fun _ _ _ _ _ => pg_tup (by rfl) (pgs_cons (pg_name (i := 2) sc_init.nd rfl (Or.inl rfl)) (pgs_cons (pg_name (i := 3) sc_init.nd rfl (Or.inl rfl)) pgs_nil))) (fun _ _ _ _ _ => pts_nil) (fun _ _ _ _ _ => pv 2) (fun _ _ _ _ _ => pe_cal cSo hr (by decide) (pa_cons (pv 2) (pa_cons (pv 3) pa_nil)))) rfl)
    (pss_one (ps_fld (pv 0) (pe_dc (own := [("side", 4)]) (tv := tCall (spWout K) [] E0 (tCons (tDGet (tFld K (tVar 0) "_sides_by_name") (tDGet (tFld K (tVar 0) "_names") (tVar 4))) (tCons (tVar 4) tNil))) (g := gName 4) rfl sc_init.nd (pi_list (pe_fld (pv 0) rfl)) (blkOk_by (N := ["self", "kinds", "name", "many", "side"]) (sc := defScope s_init) (by decide +kernel))
        (fun _ _ _ _ _ => pg_name (i := 4) sc_init.nd rfl (Or.inl rfl)) (fun _ _ _ _ _ => pts_nil) (fun _ _ _ _ _ => pv 4)
        (fun _ _ _ _ _ => pe_cal cWo hr (by decide) (pa_cons (pe_dget hu (pe_fld (pv 0) rfl) (pe_dget hu (pe_fld (pv 0) rfl) (pv 4) (fun _ _ => rfl)) (fun _ _ => rfl)) (pa_cons (pv 4) pa_nil)))) rfl))))))), ?_⟩
  have lx := Paired.length hk
  have hlen := gk.len
  have sl := sides_len fun k h => gk.two k h
  refine ⟨_, rfl, a, xs, ks, rfl, ha, hk, gk, fun H1 s1 => ⟨true, rfl, iteF ?_⟩⟩
  -- self.kinds
  refine ⟨_, rfl, a, _, rfl, .inl ⟨SqL.of (s1 _ _ ha), fun t nt => ?_⟩⟩
  have p1 := s1 _ _ hp
  have ntp : p ≠ t := ne_of_none p1 nt
  have ka : KindsAt (upd H1 t (.tup xs)) xs ks := (hk.same s1).same (same_new nt)
  have et : (upd H1 t (.tup xs)) t = some (.tup xs) := upd_same
  have o1 : Off p H (upd H1 t (.tup xs)) := (Off.same s1).new (s1.free nt)
  have ep : (upd H1 t (.tup xs)) p = some (.ins C dx []) := by rw [upd_ne ntp]; exact p1
  generalize upd H1 t (.tup xs) = H2 at ka et o1 ep
  refine ⟨_, rfl, p, C, dx, [], rfl, ep, T.cl, T.nK, by show 0 < 1000; decide, ?_⟩
  have np : ∀ {G : Hp} {b l}, G p = some (.ins C dx l) → ∀ x, G b = some (.tup x) → b ≠ p := fun e x f => ne_of f e (by intro z; cases z)
  have ka3 : KindsAt (upd H2 p (.ins C dx (putF "kinds" (.ref t) []))) xs ks := ka.keep fun b l e => by rw [upd_ne (np ep l e)]; exact e
  have et3 : (upd H2 p (.ins C dx (putF "kinds" (.ref t) []))) t = some (.tup xs) := by rw [upd_ne (Ne.symm ntp)]; exact et
  have o3 := o1.trans (Off.put (p := p) (H := H2) (o := .ins C dx (putF "kinds" (.ref t) [])))
  have ep3 : (upd H2 p (.ins C dx (putF "kinds" (.ref t) []))) p = some (.ins C dx (putF "kinds" (.ref t) [])) := upd_same
  generalize upd H2 p (.ins C dx (putF "kinds" (.ref t) [])) = H3 at ka3 et3 o3 ep3
  -- self._names
  refine ⟨_, rfl, p, C, dx, _, _, rfl, ep3, T.cl, T.nK, by rw [lookup_put, if_pos rfl], t, rfl, ⟨_, SqT.of et3⟩, fun D nD => ?_⟩
  have nDp : p ≠ D := ne_of_none ep3 nD
  refine dc2_tl (K := K) (a := t) (xs := xs) (fun i H' => ∃ kvs keys, Same H3 H' ∧ H' D = some (.dK kvs) ∧ Tab kvs keys (fun x v => ∃ k ∈ ks, v = .str k.1) ∧ (∀ x, x ∈ keys ↔ x ∈ sidesOf (ks.take i)) ∧ keys.length ≤ 3 * i)
    ⟨[], [], same_new nD, upd_same, Tab.nil _, fun x => by simp [sidesOf], Nat.zero_le _⟩ ?_ ?_ ?_
  · rintro i H' _ ⟨kvs, keys, s, _⟩
    exact SqT.of (s _ _ et3)
  · rintro i x H4 hx ⟨kvs, keys, s4, d4, t4, m4, l4⟩
    obtain ⟨k, ek, tt, rfl, ht⟩ := paired_get ka3 hx
    have mk : k ∈ ks := List.mem_of_getElem? ek
    have g4 : ∀ {b o}, H3 b = some o → H4 b = some o := fun {b o} e => s4 _ _ e
    refine ⟨tt, _, rfl, SqT.of (g4 ht), rfl, _, _, rfl, _, _, rfl, rfl, rfl, _, rfl, _, rfl, k, rfl, (gk.ltr k mk).2.2, gk.two k mk, fun b H5 s5 nb hb => ⟨b, rfl, ⟨_, SqL.of hb⟩, ?_⟩⟩
    have nbD : b ≠ D := fun z => by rw [z] at nb; rw [nb] at d4; cases d4
    refine inner_l (K := K) (ys := (sidesK k).map .str) (fun j H' => ∃ kvs keys, Same H3 H' ∧ H' b = some (.lst ((sidesK k).map .str)) ∧ H' D = some (.dK kvs) ∧ Tab kvs keys (fun x v => ∃ k ∈ ks, v = .str k.1) ∧ (∀ x, x ∈ keys ↔ x ∈ sidesOf (ks.take i) ∨ x ∈ (sidesK k).take j) ∧ keys.length ≤ 3 * i + j)
      ⟨kvs, keys, fun c o e => s5 _ _ (g4 e), hb, s5 _ _ d4, t4, fun x => by rw [m4 x]; simp, by omega⟩ (fun j H' _ ⟨_, _, _, z, _⟩ => SqL.of z) ?_ ?_
    · rintro j v H6 hv ⟨kv6, keys6, s6, b6, d6, t6, m6, l6⟩
      rw [List.getElem?_map] at hv
      obtain ⟨y, hy, rfl⟩ := Option.map_eq_some_iff.mp hv
      obtain ⟨hj, ey⟩ := List.getElem?_eq_some_iff.mp hy
      obtain ⟨k2, t7, m7, l7⟩ := t6.put y (.str k.1) ⟨k, mk, rfl⟩
      have lk : (sidesK k).length = k.2 := by unfold sidesK; rw [List.length_map, List.length_range]
      have hi : i < ks.length := (List.getElem?_eq_some_iff.mp ek).1
      have k3 := gk.two k mk
      refine ⟨rfl, _, rfl, _, rfl, kv6, Sum.inr y, rfl, d6, ?_, putK kv6 (Sum.inr y) (.str k.1), k2, fun c o e => ?_, by rw [upd_ne nbD]; exact b6, upd_same, t7, fun x => ?_, by omega⟩
      · have := t6.2.1; exact small1000 (by omega)
      · rw [upd_ne (ne_of_none e nD)]; exact s6 _ _ e
      · rw [m7 x, m6 x, List.take_succ_eq_append_getElem hj, ey, List.mem_append, List.mem_singleton, or_assoc]
    · rintro H6 ⟨kv6, keys6, s6, b6, d6, t6, m6, l6⟩
      have lk : (sidesK k).length = k.2 := by unfold sidesK; rw [List.length_map, List.length_range]
      have k3 := gk.two k mk
      refine ⟨kv6, keys6, s6, d6, t6, fun x => ?_, ?_⟩
      · rw [m6 x, sidesOf_take ek, List.mem_append, List.length_map, List.take_length]
      · rw [List.length_map, lk] at l6; omega
  rintro H4 ⟨kvs, keys, s4, d4, t4, m4, l4⟩
  rw [show ks.take xs.length = ks by rw [lx]; exact List.take_length] at m4
  have ep4 := s4 _ _ ep3
  refine ⟨_, rfl, p, C, dx, _, rfl, ep4, T.cl, T.nN, by show 1 < 1000; decide, ?_⟩
  have o5 := (o3.trans (Off.same s4)).trans (Off.put (p := p) (H := H4) (o := .ins C dx (putF "_names" (.ref D) (putF "kinds" (.ref t) []))))
  have ep5 : (upd H4 p (.ins C dx (putF "_names" (.ref D) (putF "kinds" (.ref t) [])))) p = some (.ins C dx (putF "_names" (.ref D) (putF "kinds" (.ref t) []))) := upd_same
  have d5 : (upd H4 p (.ins C dx (putF "_names" (.ref D) (putF "kinds" (.ref t) [])))) D = some (.dK kvs) := by rw [upd_ne (Ne.symm nDp)]; exact d4
  have et5 : (upd H4 p (.ins C dx (putF "_names" (.ref D) (putF "kinds" (.ref t) [])))) t = some (.tup xs) := by rw [upd_ne (Ne.symm ntp)]; exact s4 _ _ et3
  have ka5 : KindsAt (upd H4 p (.ins C dx (putF "_names" (.ref D) (putF "kinds" (.ref t) [])))) xs ks := (ka3.same s4).keep fun b l e => by rw [upd_ne (np ep4 l e)]; exact e
  generalize upd H4 p (.ins C dx (putF "_names" (.ref D) (putF "kinds" (.ref t) []))) = H5 at o5 ep5 d5 et5 ka5
  -- self._sides
  refine ⟨_, rfl, p, C, dx, _, _, rfl, ep5, T.cl, T.nN, by rw [lookup_put, if_pos rfl], D, kvs, keys, rfl, .inl d5, t4.1, by omega, fun ys l perm _ nl => ?_⟩
  have nlp : p ≠ l := ne_of_none ep5 nl
  have s6 : Same H5 (upd H5 l (.lst (ys.map V.str))) := same_new nl
  have ep6 := s6 _ _ ep5
  refine ⟨_, rfl, p, C, dx, _, rfl, ep6, T.cl, T.nS, by show 2 < 1000; decide, ?_⟩
  have el6 : (upd H5 l (.lst (ys.map V.str))) l = some (.lst (ys.map V.str)) := upd_same
  have o6 := o5.trans (Off.same s6)
  have d6 := s6 _ _ d5
  have et6 := s6 _ _ et5
  have ka6 := ka5.same s6
  generalize upd H5 l (.lst (ys.map V.str)) = H6 at ep6 el6 o6 d6 et6 ka6
  have o7 := o6.trans (Off.put (p := p) (H := H6) (o := .ins C dx (putF "_sides" (.ref l) (putF "_names" (.ref D) (putF "kinds" (.ref t) [])))))
  have ep7 : (upd H6 p (.ins C dx (putF "_sides" (.ref l) (putF "_names" (.ref D) (putF "kinds" (.ref t) []))))) p = some (.ins C dx (putF "_sides" (.ref l) (putF "_names" (.ref D) (putF "kinds" (.ref t) [])))) := upd_same
  have d7 : (upd H6 p (.ins C dx (putF "_sides" (.ref l) (putF "_names" (.ref D) (putF "kinds" (.ref t) []))))) D = some (.dK kvs) := by rw [upd_ne (Ne.symm nDp)]; exact d6
  have et7 : (upd H6 p (.ins C dx (putF "_sides" (.ref l) (putF "_names" (.ref D) (putF "kinds" (.ref t) []))))) t = some (.tup xs) := by rw [upd_ne (Ne.symm ntp)]; exact et6
  have el7 : (upd H6 p (.ins C dx (putF "_sides" (.ref l) (putF "_names" (.ref D) (putF "kinds" (.ref t) []))))) l = some (.lst (ys.map V.str)) := by rw [upd_ne (Ne.symm nlp)]; exact el6
  have ka7 : KindsAt (upd H6 p (.ins C dx (putF "_sides" (.ref l) (putF "_names" (.ref D) (putF "kinds" (.ref t) []))))) xs ks := ka6.keep fun b l e => by rw [upd_ne (np ep6 l e)]; exact e
  generalize upd H6 p (.ins C dx (putF "_sides" (.ref l) (putF "_names" (.ref D) (putF "kinds" (.ref t) [])))) = H7 at o7 ep7 d7 et7 el7 ka7
  have k01 : ¬ (("kinds" : Str) = "_names") := by decide +kernel
  have k02 : ¬ (("kinds" : Str) = "_sides") := by decide +kernel
  -- self._sides_by_name
  refine ⟨_, rfl, p, C, dx, _, _, rfl, ep7, T.cl, T.nK, by rw [lookup_put, if_neg k02, lookup_put, if_neg k01, lookup_put, if_pos rfl], t, rfl, ⟨_, SqT.of et7⟩, fun B nB => ?_⟩
  have nBp : p ≠ B := ne_of_none ep7 nB
  refine dc_tup (K := K) (a := t) (xs := xs) (fun i H' => ∃ kv2 keys2, (∀ b o, H7 b = some o → H' b = some o) ∧ H' B = some (.dK kv2) ∧ Tab kv2 keys2 (fun x v => ∃ b, ∃ k ∈ ks, v = .ref b ∧ H' b = some (.lst ((sidesK k).map .str))) ∧ (∀ x, x ∈ keys2 ↔ x ∈ (ks.take i).map (·.1)) ∧ keys2.length ≤ i)
    ⟨[], [], fun b o e => by rw [upd_ne (ne_of_none e nB)]; exact e, upd_same, Tab.nil _, fun x => by simp, Nat.zero_le _⟩ (fun i H' _ ⟨_, _, s, _⟩ => SqT.of (s _ _ et7)) ?_ ?_
  · rintro i x H8 hx ⟨kv2, keys2, s8, d8, t8, m8, l8⟩
    obtain ⟨k, ek, tt, rfl, ht⟩ := paired_get ka7 hx
    have mk : k ∈ ks := List.mem_of_getElem? ek
    obtain ⟨hi, ee⟩ := List.getElem?_eq_some_iff.mp ek
    refine ⟨tt, _, rfl, SqT.of (s8 _ _ ht), rfl, _, _, rfl, _, _, rfl, rfl, rfl, tyes (iteT ?_)⟩
    refine ⟨_, rfl, _, rfl, _, rfl, k, rfl, (gk.ltr k mk).2.2, gk.two k mk, fun b H9 s9 nb hb => ?_⟩
    have nbB : b ≠ B := fun z => by rw [z] at nb; rw [nb] at d8; cases d8
    have st : ∀ {c xs}, H8 c = some (.lst xs) → upd H9 B (.dK (putK kv2 (Sum.inr k.1) (.ref b))) c = some (.lst xs) := fun {c xs} e => by
      rw [upd_ne (ne_of e d8 (by intro z; cases z))]; exact s9 _ _ e
    obtain ⟨k2, t9, m9, l9⟩ := (t8.imp (G := fun x v => ∃ b2, ∃ k ∈ ks, v = .ref b2 ∧ upd H9 B (.dK (putK kv2 (Sum.inr k.1) (.ref b))) b2 = some (.lst ((sidesK k).map .str))) fun x v ⟨c, k', mk', e1, e2⟩ => ⟨c, k', mk', e1, by
      rw [upd_ne (ne_of e2 d8 (by intro z; cases z))]; exact s9 _ _ e2⟩).put k.1 (.ref b) ⟨b, k, mk, rfl, by rw [upd_ne nbB]; exact hb⟩
    refine ⟨kv2, Sum.inr k.1, rfl, s9 _ _ d8, ?_, putK kv2 (Sum.inr k.1) (.ref b), k2, fun c o e => ?_, upd_same, ?_, fun x => ?_, by omega⟩
    · have := t8.2.1; exact small1000 (by omega)
    · have n : c ≠ B := ne_of_none e nB
      rw [upd_ne n]; exact s9 _ _ (s8 _ _ e)
    · refine ⟨t9.1, t9.2.1, fun x hx => ?_⟩
      obtain ⟨v, e1, c, k', mk', e2, e3⟩ := t9.2.2 x hx
      refine ⟨v, e1, c, k', mk', e2, ?_⟩
      by_cases z : c = B
      · subst z; rw [upd_same] at e3; cases e3
      · rw [upd_ne z] at e3 ⊢; exact e3
    · rw [m9 x, m8 x, List.take_succ_eq_append_getElem hi, ee, List.map_append, List.mem_append, List.map_cons, List.map_nil, List.mem_singleton]
  rintro H8 ⟨kv2, keys2, s8, d8, t8, m8, l8⟩
  rw [show ks.take xs.length = ks by rw [lx]; exact List.take_length] at m8
  have ep8 := s8 _ _ ep7
  refine ⟨_, rfl, p, C, dx, _, rfl, ep8, T.cl, T.nB, by show 3 < 1000; decide, ?_⟩
  have pd : ∀ {c o}, H8 c = some o → (∀ l, o ≠ .ins C dx l) → upd H8 p (.ins C dx (putF "_sides_by_name" (.ref B) (putF "_sides" (.ref l) (putF "_names" (.ref D) (putF "kinds" (.ref t) []))))) c = some o := fun {c o} e n => by
    rw [upd_ne (ne_of e ep8 (n _))]; exact e
  have o9 := (o7.trans (Off.same (H' := H8) fun b o e => s8 b o e)).trans (Off.put (p := p) (H := H8) (o := .ins C dx (putF "_sides_by_name" (.ref B) (putF "_sides" (.ref l) (putF "_names" (.ref D) (putF "kinds" (.ref t) []))))))
  have ep9 : (upd H8 p (.ins C dx (putF "_sides_by_name" (.ref B) (putF "_sides" (.ref l) (putF "_names" (.ref D) (putF "kinds" (.ref t) [])))))) p = some (.ins C dx (putF "_sides_by_name" (.ref B) (putF "_sides" (.ref l) (putF "_names" (.ref D) (putF "kinds" (.ref t) []))))) := upd_same
  have d9 := pd (s8 _ _ d7) (by intro l z; cases z)
  have el9 := pd (s8 _ _ el7) (by intro l z; cases z)
  have b9 := pd d8 (by intro l z; cases z)
  have t9 : Tab kv2 keys2 (fun x v => ∃ b, ∃ k ∈ ks, v = .ref b ∧ upd H8 p (.ins C dx (putF "_sides_by_name" (.ref B) (putF "_sides" (.ref l) (putF "_names" (.ref D) (putF "kinds" (.ref t) []))))) b = some (.lst ((sidesK k).map .str))) :=
    t8.imp fun x v ⟨b, k, mk, e1, e2⟩ => ⟨b, k, mk, e1, pd e2 (by intro l z; cases z)⟩
  generalize upd H8 p (.ins C dx (putF "_sides_by_name" (.ref B) (putF "_sides" (.ref l) (putF "_names" (.ref D) (putF "kinds" (.ref t) []))))) = H9 at o9 ep9 d9 el9 b9 t9
  have k12 : ¬ (("_names" : Str) = "_sides") := by decide +kernel
  have k13 : ¬ (("_names" : Str) = "_sides_by_name") := by decide +kernel
  have k23 : ¬ (("_sides" : Str) = "_sides_by_name") := by decide +kernel
  -- self._others
  refine ⟨_, rfl, p, C, dx, _, _, rfl, ep9, T.cl, T.nS, by rw [lookup_put, if_neg k23, lookup_put, if_pos rfl], l, rfl, ⟨_, SqL.of el9⟩, fun O nO => ?_⟩
  refine dc_lst (K := K) (a := l) (xs := ys.map V.str) (fun i H' => ∃ kv3 : List (Key × V), (∀ b o, H9 b = some o → H' b = some o) ∧ H' O = some (.dK kv3) ∧ kv3.length ≤ i)
    ⟨[], fun b o e => by rw [upd_ne (ne_of_none e nO)]; exact e, upd_same, Nat.le_refl _⟩ (fun i H' _ ⟨_, s, _⟩ => SqL.of (s _ _ el9)) ?_ ?_
  · rintro i v HA hv ⟨kv3, sA, dA, lA⟩
    rw [List.getElem?_map] at hv
    obtain ⟨y, hy, rfl⟩ := Option.map_eq_some_iff.mp hv
    have my : y ∈ keys := perm.mem_iff.mp (List.mem_of_getElem? hy)
    have hi : i < ys.length := (List.getElem?_eq_some_iff.mp hy).1
    have lp := perm.length_eq
    obtain ⟨u, eu, k, mk, rfl⟩ := t4.2.2 y my
    obtain ⟨u2, eu2, b, k', mk', rfl, hb⟩ := t9.2.2 k.1 ((m8 _).mpr (List.mem_map.mpr ⟨k, mk, rfl⟩))
    have gf : ∀ {f : Str} {v : V}, (putF "_sides_by_name" (.ref B) (putF "_sides" (.ref l) (putF "_names" (.ref D) (putF "kinds" (.ref t) [])))).lookup f = some v → ∃ dx fs, HA p = some (.ins C dx fs) ∧ fs.lookup f = some v := fun e => ⟨_, _, sA _ _ ep9, e⟩
    refine ⟨rfl, tyes (iteT ?_)⟩
    refine ⟨_, rfl, _, rfl, p, C, dx, _, _, rfl, sA _ _ ep9, T.cl, T.nB, by rw [lookup_put, if_pos rfl], _, rfl, p, C, dx, _, _, rfl, sA _ _ ep9, T.cl, T.nN, by rw [lookup_put, if_neg k13, lookup_put, if_neg k12, lookup_put, if_pos rfl], _, rfl, D, _, rfl, by rw [← eu]; exact DGet.k (k := Sum.inr y) (sA _ _ d9), B, _, rfl, by rw [← eu2]; exact DGet.k (k := Sum.inr k.1) (sA _ _ b9), _, rfl, b, sidesK k', y, rfl, sA _ _ hb, ?_, fun z HB sB nz hz => ?_⟩
    · have := gk.two k' mk'
      unfold sidesK; rw [List.length_map, List.length_range]; omega
    · refine ⟨kv3, Sum.inr y, rfl, sB _ _ dA, small1000 (by omega), putK kv3 (Sum.inr y) (.ref z), fun c o e => ?_, upd_same, ?_⟩
      · rw [upd_ne (ne_of_none e nO)]; exact sB _ _ (sA _ _ e)
      · have := length_putK kv3 (Sum.inr y : Key) (.ref z); omega
  rintro HA ⟨kv3, sA, dA, lA⟩
  have epA := sA _ _ ep9
  refine ⟨_, rfl, p, C, dx, _, rfl, epA, T.cl, T.nO, by show 4 < 1000; decide, ?_⟩
  have k14 : ¬ (("_names" : Str) = "_others") := by decide +kernel
  have h0 : ¬ (("has" : Str) = "_others") := by decide +kernel
  have h1 : ¬ (("has" : Str) = "_sides_by_name") := by decide +kernel
  have h2 : ¬ (("has" : Str) = "_sides") := by decide +kernel
  have h3 : ¬ (("has" : Str) = "_names") := by decide +kernel
  have h4 : ¬ (("has" : Str) = "kinds") := by decide +kernel
  refine q _ ⟨dx, _, D, kvs, upd_same, by rw [lookup_put, if_neg k14, lookup_put, if_neg k13, lookup_put, if_neg k12, lookup_put, if_pos rfl], by rw [lookup_put, if_neg h0, lookup_put, if_neg h1, lookup_put, if_neg h2, lookup_put, if_neg h3, lookup_put, if_neg h4]; rfl, ?_, fun x => (t4.is x).trans (m4 x)⟩ ((o9.trans (Off.same fun b o e => sA b o e)).trans Off.put)
  rw [upd_ne (Ne.symm nDp)]
  exact sA _ _ d9
def hasD (ks : List Kind) : D → Bool
  | .str x => decide (x ∈ sidesOf ks)
  | _ => false
theorem sc_has : FnScope ["self", "value"] ["self", "value"] (defScope s_has) := ⟨rfl, rfl, rfl, by decide +kernel, rfl, by decide +kernel, by decide +kernel⟩
def spHas (C : Addr) : Sp := fun vs H Q _ => ∃ (p : Addr) (ks : List Kind) (v : V) (d : D), vs = [.ref p, v] ∧ PortsAt C H p ks ∧ Dd H v d ∧ Q (.bl (hasD ks d)) H
theorem ok_has (G : Bl mg) (T : PortsC K mg C fI fH) (F : ∃ fd, FunD K "has" "Ports.has" (defArgs s_has) (defBody s_has) (defScope s_has) [] [] fH fd) :
    ∃ fd, Binds K fd ["self", "value"] [] ∧ FnOk P w K mg base CX0 2 fH fd ["self", "value"] (spHas C) := by
  refine meth_ok F sc_has (fun vs H Q E h => by obtain ⟨p, ks, v, d, rfl, _⟩ := h; rfl) (fun _ _ _ _ _ _ us hl => match us, hl with | [_, _], _ => rfl) fun cdv A outer s H vs Q E hr h => ?_
  obtain ⟨p, ks, v, d, rfl, ⟨dx, fs, dd, kvs, h1, lk, _, h2, h3⟩, hd, q⟩ := h
  have hu := hu_of hr
  refine ⟨_, (pss_one (ps_ret (pe_and (pe_callB call_isi (by rfl) G.b_isinstance (by decide +kernel) (pa_cons (pv 1) (pa_cons (pe_bltn (v := .ty "str") (u := .type "str") (by rfl) G.b_str (by decide +kernel) rfl) pa_nil))) (pe_one (pe_cmp (pc_din hu (pv 1) (pe_fld (pv 0) rfl)) rfl))))), ?_⟩
  refine ⟨v, rfl, _, _, _, _, _, rfl, .ty "str", hd.tyx, kit_str d, _, rfl, itb (fun e1 => ?_) fun e1 => ?_⟩
  · cases hd with
    | str x =>
      refine ⟨_, rfl, _, rfl, p, C, dx, _, _, rfl, h1, T.cl, T.nN, lk, dd, _, rfl, DGet.k (k := Sum.inr x) h2, ?_⟩
      have e : (valV kvs (Sum.inr x : Key)).isSome = hasD ks (.str x) := by
        show _ = decide (x ∈ sidesOf ks)
        by_cases m : x ∈ sidesOf ks
        · rw [decide_eq_true m, (h3 x).mpr m]
        · rw [decide_eq_false m]
          cases z : (valV kvs (Sum.inr x : Key)).isSome with
          | false => rfl
          | true => exact absurd ((h3 x).mp z) m
      show Q (.bl (valV kvs (Sum.inr x : Key)).isSome) H
      rw [e]; exact q
    | _ => exfalso; revert e1; simp [D.isa, isaT, D.ty]; done
  · have e : hasD ks d = false := by cases d <;> first | rfl | (exfalso; revert e1; simp [D.isa, isaT, D.ty]; done)
    rw [e] at q; exact q
end
end NH
set_option maxHeartbeats 4000000
/-! any datum against a text: ==, !=, in -/
namespace NEq
open PySem PySem.Spec PyProof.Rows PySem.SeqAt
section
variable {A : Around} {s : Shared}
abbrev dO (es : Array DictEntry) (n : Nat) : Obj := { cls := .type "dict", dict := none, data := .dict es n, slots := #[] }
theorem str_dict_eq (b : Str) (u : Tok) (l : Addr) (es : Array DictEntry) (n : Nat) : Meets (Builtin.«str.__eq__» ⟨[.str b u, .ref l], []⟩) (fun _ R s => s.heap.get? l = some (dO es n) ∧ R (.ok (.ret .notImplemented)) s) :=
  .of_wp fun prog w A R s h => by obtain ⟨hp, g, d, tk, os⟩ := s; obtain ⟨at_, h⟩ := h; wp_walk using wpAny_loadPart' at_, wpAny_load at_; exact ⟨_, rfl, h⟩
theorem dict_str_eq (b : Str) (u : Tok) (l : Addr) (es : Array DictEntry) (n : Nat) : Meets (Builtin.«dict.__eq__» ⟨[.ref l, .str b u], []⟩) (fun _ R s => s.heap.get? l = some (dO es n) ∧ R (.ok (.ret .notImplemented)) s) :=
  .of_wp fun prog w A R s h => by obtain ⟨hp, g, d, tk, os⟩ := s; obtain ⟨at_, h⟩ := h; have f1 := PySem.F.sub_str_dict; wp_walk using wpAny_loadPart' at_, wpAny_load at_; exact ⟨_, rfl, h⟩
theorem str_dict_ne (b : Str) (u : Tok) (l : Addr) (es : Array DictEntry) (n : Nat) : Meets (Builtin.«str.__ne__» ⟨[.str b u, .ref l], []⟩) (fun _ R s => s.heap.get? l = some (dO es n) ∧ R (.ok (.ret .notImplemented)) s) :=
  .of_wp fun prog w A R s h => by obtain ⟨hp, g, d, tk, os⟩ := s; obtain ⟨at_, h⟩ := h; wp_walk using wpAny_loadPart' at_, wpAny_load at_; exact ⟨_, rfl, h⟩
theorem dict_str_ne (b : Str) (u : Tok) (l : Addr) (es : Array DictEntry) (n : Nat) : Meets (Builtin.«dict.__ne__» ⟨[.ref l, .str b u], []⟩) (fun _ R s => s.heap.get? l = some (dO es n) ∧ R (.ok (.ret .notImplemented)) s) :=
  .of_wp fun prog w A R s h => by obtain ⟨hp, g, d, tk, os⟩ := s; obtain ⟨at_, h⟩ := h; have f1 := PySem.F.sub_str_dict; wp_walk using wpAny_loadPart' at_, wpAny_load at_; exact ⟨_, rfl, h⟩
theorem rc_dict_str {l : Addr} {es : Array DictEntry} {n : Nat} (b : Str) (u : Tok) (ho : s.heap.get? l = some (dO es n)) (hu : A.units < cLine) : RcAt A s (.ref l) (.str b u) false := fun prog w E Q h =>
  rc_eq_decline_or (k := false) ⟨_, ho, rfl⟩ (typeIs_str s b u) (by decide) PySem.F.sub_str_dict PySem.F.slot_dict_eq PySem.F.slot_str_eq_refl (fun _ hq => call_meets PySem.F.slot_dict_eq ⟨_, ho, rfl⟩ PySem.F.entry_dict_eq (PySem.F.args_dict_eq_2 _ _) (dict_str_eq b u l es n) ⟨ho, hq⟩)
    (fun _ hq => call_meets PySem.F.slot_str_eq_refl (typeIs_str s b u) PySem.F.entry_str_eq (PySem.F.args_str_eq_2 _ _) (str_dict_eq b u l es n) ⟨ho, hq⟩) (fun _ hq => wpAny_of_eq (rfl : isSame (.ref l) (.str b u) = pure false) hq) (.inr hu) h
theorem rc_str_dict {l : Addr} {es : Array DictEntry} {n : Nat} (b : Str) (u : Tok) (ho : s.heap.get? l = some (dO es n)) (hu : A.units < cLine) : RcAt A s (.str b u) (.ref l) false := fun prog w E Q h =>
  rc_eq_decline_or (k := false) (typeIs_str s b u) ⟨_, ho, rfl⟩ (by decide) PySem.F.sub_dict_str PySem.F.slot_str_eq PySem.F.slot_dict_eq_refl (fun _ hq => call_meets PySem.F.slot_str_eq (typeIs_str s b u) PySem.F.entry_str_eq (PySem.F.args_str_eq_2 _ _) (str_dict_eq b u l es n) ⟨ho, hq⟩)
    (fun _ hq => call_meets PySem.F.slot_dict_eq_refl ⟨_, ho, rfl⟩ PySem.F.entry_dict_eq (PySem.F.args_dict_eq_2 _ _) (dict_str_eq b u l es n) ⟨ho, hq⟩) (fun _ hq => wpAny_of_eq (rfl : isSame (.str b u) (.ref l) = pure false) hq) (.inr hu) h
theorem eq_str_dict {l : Addr} {es : Array DictEntry} {n : Nat} (b : Str) (u : Tok) (ho : s.heap.get? l = some (dO es n)) (hu : A.units < cLine) : EqAt A s (.str b u) (.ref l) false := fun prog w E Q h => by
  unfold eqBool
  exact wpAny_holding (wpAny_ite_split (fun z => absurd (eq_of_beq z) nofun) fun _ => wpAny_bind (rc_str_dict b u ho hu prog w E _ (wpAny_truthy_bool h)))
theorem ne_dict_str {l : Addr} {es : Array DictEntry} {n : Nat} (b : Str) (u : Tok) (ho : s.heap.get? l = some (dO es n)) (hu : A.units < cLine) : RcNeAt A s (.ref l) (.str b u) true := fun prog w E Q h =>
  rc_ne_decline_or (k := false) ⟨_, ho, rfl⟩ (typeIs_str s b u) (by decide) PySem.F.sub_str_dict PySem.F.slot_dict_ne PySem.F.slot_str_ne_refl (fun _ hq => call_meets PySem.F.slot_dict_ne ⟨_, ho, rfl⟩ PySem.F.entry_dict_ne (PySem.F.args_dict_ne_2 _ _) (dict_str_ne b u l es n) ⟨ho, hq⟩)
    (fun _ hq => call_meets PySem.F.slot_str_ne_refl (typeIs_str s b u) PySem.F.entry_str_ne (PySem.F.args_str_ne_2 _ _) (str_dict_ne b u l es n) ⟨ho, hq⟩) (fun _ hq => wpAny_of_eq (rfl : isSame (.ref l) (.str b u) = pure false) hq) (.inr hu) h
end
end NEq
namespace NH
open PySem PySem.Spec PyProof.Rows L2 TL
/-- is it this text -/
def D.isS (z : Str) : D → Bool
  | .str x => x == z
  | _ => false
/-- is it one of these texts -/
def D.inS (zs : List Str) (d : D) : Bool := zs.any fun z => d.isS z
section
variable {X : Cx} {pins : List (Addr × Obj)} {σ : L2.St} {H : Hp} {s : Shared} {v : V} {d : D} {u : Value} {A : Around}
theorem dict_obj (I : Inv X pins σ H s) {a : Addr} (e : H a = some (.dK [])) : ∃ es n, s.heap.get? a = some (NEq.dO es n) := by
  obtain ⟨_, _, vs, _, o, es, ep, h1, h2, h3, _⟩ := (show ObjOk X.prog X.w H s.heap a (.dK []) from I.hok a _ e)
  obtain ⟨oc, od, dt, sl⟩ := o
  obtain ⟨c1, c2, c3⟩ := h2
  dsimp only at c1 c2 c3 h3
  subst c1 c2 c3 h3
  exact ⟨es, ep, h1⟩
/-- u == 'z' -/
theorem rc_text (I : Inv X pins σ H s) (hu : A.units < cLine) (z : Str) (t : Tok) (hd : Dd H v d) (rv : RelV v u) : SeqAt.RcAt A s u (.str z t) (d.isS z) := by
  cases hd with
  | non => cases rv; exact SeqAt.RcAt.none_str z t
  | bl b => cases rv; exact SeqAt.RcAt.bool_str b z t
  | int i => obtain ⟨k, rfl⟩ := rv; exact SeqAt.RcAt.int_str i k z t
  | str x => obtain ⟨k, rfl⟩ := rv; exact SeqAt.RcAt.str_str x k z t
  | lst e _ => cases rv; obtain ⟨its, r, pl, _⟩ := I.list (SqL.of e); exact SeqAt.RcAt.list_str z t pl.isList hu
  | tup e _ => cases rv; obtain ⟨its, r, pl, _⟩ := I.tuple (SqT.of e); exact SeqAt.RcAt.tuple_str z t pl hu
  | dic e => cases rv; obtain ⟨es, n, ho⟩ := dict_obj I e; exact NEq.rc_dict_str z t ho hu
theorem ne_text (I : Inv X pins σ H s) (hu : A.units < cLine) (z : Str) (t : Tok) (hd : Dd H v d) (rv : RelV v u) : SeqAt.RcNeAt A s u (.str z t) (!d.isS z) := by
  cases hd with
  | non => cases rv; exact SeqAt.RcNeAt.none_str z t
  | bl b => cases rv; exact SeqAt.RcNeAt.bool_str b z t
  | int i => obtain ⟨k, rfl⟩ := rv; exact SeqAt.RcNeAt.int_str i k z t
  | str x => obtain ⟨k, rfl⟩ := rv; exact SeqAt.RcNeAt.str_str x k z t
  | lst e _ => cases rv; obtain ⟨its, r, pl, _⟩ := I.list (SqL.of e); exact SeqAt.RcNeAt.list_str z t pl.isList hu
  | tup e _ => cases rv; obtain ⟨its, r, pl, _⟩ := I.tuple (SqT.of e); exact SeqAt.RcNeAt.tuple_str z t pl hu
  | dic e => cases rv; obtain ⟨es, n, ho⟩ := dict_obj I e; exact NEq.ne_dict_str z t ho hu
/-- 'z' == u -/
theorem eq_text (I : Inv X pins σ H s) (hu : A.units < cLine) (z : Str) (t : Tok) (hd : Dd H v d) (rv : RelV v u) : SeqAt.EqAt A s (.str z t) u (d.isS z) := by
  cases hd with
  | non => cases rv; exact SeqAt.EqAt.str_none z t
  | bl b => cases rv; exact SeqAt.EqAt.str_bool z t b
  | int i => obtain ⟨k, rfl⟩ := rv; exact SeqAt.EqAt.str_int z t i k
  | str x => obtain ⟨k, rfl⟩ := rv; rw [show (D.str x).isS z = (z == x) from by show (x == z) = _; exact Bool.beq_comm ..]; exact SeqAt.EqAt.str_str z t x k
  | lst e _ => cases rv; obtain ⟨its, r, pl, _⟩ := I.list (SqL.of e); exact SeqAt.EqAt.str_list z t pl.isList hu
  | tup e _ => cases rv; obtain ⟨its, r, pl, _⟩ := I.tuple (SqT.of e); exact SeqAt.EqAt.str_tuple z t pl hu
  | dic e => cases rv; obtain ⟨es, n, ho⟩ := dict_obj I e; exact NEq.eq_str_dict z t ho hu
theorem op_eqT (hu : X.A.units < cLine) : OpR X (compareOp .Eq) (fun x y H Q => ∃ d z, y = .str z ∧ Dd H x d ∧ Q (.bl (d.isS z)) H) := by
  intro pins s σ H x y v u Q I rx ry h
  obtain ⟨d, z, rfl, hd, q⟩ := h
  obtain ⟨t, rfl⟩ := ry
  exact rc_text I hu z t hd rx X.prog X.w X.xe _ ⟨.bl _, H, I, rfl, q⟩
theorem op_neT (hu : X.A.units < cLine) : OpR X (compareOp .NotEq) (fun x y H Q => ∃ d z, y = .str z ∧ Dd H x d ∧ Q (.bl (!d.isS z)) H) := by
  intro pins s σ H x y v u Q I rx ry h
  obtain ⟨d, z, rfl, hd, q⟩ := h
  obtain ⟨t, rfl⟩ := ry
  exact ne_text I hu z t hd rx X.prog X.w X.xe _ ⟨.bl _, H, I, rfl, q⟩
def ansT (d : D) : Value → Bool
  | .str z _ => d.isS z
  | _ => false
theorem any_ansT : ∀ {zs : List Str} {us : List Value}, Vals (zs.map V.str) us → us.any (ansT d) = d.inS zs
  | [], _, .nil => rfl
  | z :: zs, _, .cons r t => by
    obtain ⟨k, rfl⟩ := r
    show (d.isS z || _) = (d.isS z || _)
    rw [any_ansT t]; rfl
theorem mem_ansT (I : Inv X pins σ H s) (hu : A.units < cLine) (hd : Dd H v d) (rv : RelV v u) : ∀ {zs : List Str} {us : List Value}, Vals (zs.map V.str) us → ∀ y ∈ us, SeqAt.EqAt A s y u (ansT d y)
  | [], _, .nil => fun y hy => by cases hy
  | z :: zs, _, .cons r t => fun y hy => by
    obtain ⟨k, rfl⟩ := r
    rcases List.mem_cons.mp hy with rfl | hy
    · exact eq_text I hu z k hd rv
    · exact mem_ansT I hu hd rv t y hy
theorem op_inT (hu : X.A.units + 1 < cLine) : OpR X (compareOp .In) (fun x y H Q => ∃ d p zs, y = .ref p ∧ (SqL X.K H p (zs.map V.str) ∨ SqT X.K H p (zs.map V.str)) ∧ Dd H x d ∧ Q (.bl (d.inS zs)) H) := by
  intro pins s σ H x y v u Q I rx ry h
  obtain ⟨d, p, zs, rfl, hq, hd, q⟩ := h
  cases ry
  have h1 : X.A.in1.units < cLine := hu
  rcases hq with hq | hq
  · obtain ⟨its, r, pl, _⟩ := I.list hq
    refine SeqAt.in_listAt (ansT d) pl.isList (fun y hy => mem_ansT I h1 hd rx r y (by simpa using hy)) ⟨.bl _, H, I, rfl, ?_⟩
    rw [show its.toArray.any (ansT d) = its.any (ansT d) by simp, any_ansT r]; exact q
  · obtain ⟨its, r, pl, _⟩ := I.tuple hq
    refine SeqAt.in_tupleAt (ansT d) pl (fun y hy => mem_ansT I h1 hd rx r y (by simpa using hy)) ⟨.bl _, H, I, rfl, ?_⟩
    rw [show its.toArray.any (ansT d) = its.any (ansT d) by simp, any_ansT r]; exact q
end
end NH
set_option maxHeartbeats 4000000
namespace NH
open PySem PySem.Spec PyProof.Rows L2 TL
section
variable {X : Cx} {d : Addr} {es : Array DictEntry} {n : Nat}
/-- d.get(y), d a written dict with text keys -/
def tKGet (K : PySem.W.Frag) (d : Addr) (ty : TE) : TE := fun σ H Q => ty σ H fun y H2 => ∃ (z : Str) (r : Option Value) (v : V), y = .str z ∧ PySem.W.nsIn K d z = some r ∧ RelV v (r.getD .none) ∧ Q v H2
theorem pe_kget {x : Str} {e : Expr} {ty : TE} {p apos cpos : Pos} (DK : KDict X.K X.w d es n) (hg : Gl X x) (hm : X.mg x = some (.ref d)) (he : PE X e ty) (m : M1 X (.Name x p) "get" apos e cpos) (hdb : (x == ("__debug__" : Str)) = false := by decide) : PE X (.Call (.Attribute (.Name x p) "get" apos) [e] [] cpos) (tKGet X.K d ty) := by
  refine ⟨fun pins s σ H Q I h => ?_⟩
  have ob := I.kIn _ _ DK.at_
  refine wpAny_Call_method m.base m.few m.line PySem.F.plainAttrs_dict PySem.F.slot_dict_get PySem.F.type_dict_get (ld_glob I hg hm ⟨⟨_, ob, rfl⟩, fun b q => by cases q; exact ⟨_, ob, rfl⟩, ?_⟩ hdb)
  rw [m.trees]
  refine Calls.callWith_builtin rfl (Calls.evalArgs_plain (Calls.spliced_cons (thn (he.run pins s σ H _ I h) fun iv s2 ⟨y, H2, I2, ry, z, r, v, ey, en, rv, q⟩ => Calls.spliced_nil ?_)))
  subst ey
  obtain ⟨t, rfl⟩ := ry
  have mo := PySem.W.mapOf_K (prog := X.prog) (w := X.w) I2.kIn DK.at_ DK.lit
  refine call_meetsIn PySem.F.slot_dict_get mo.typeIs PySem.F.entry_dict_get (PySem.F.args_dict_get_2 _ _) (meets_dict_get (strKind X.prog X.w) d (strKind_is X.prog X.w z t) DK.low) ⟨_, mo, v, H2, I2.tok _, ?_, q⟩
  rw [PySem.W.find_K DK.at_ en]
  exact rv
end
theorem DdL.len {H : Hp} : ∀ {vs : List V} {ds : List D}, DdL H vs ds → vs.length = ds.length
  | _, _, .nil => rfl
  | _, _, .cons _ r => congrArg Nat.succ (DdL.len r)
/-! ### the program's judges, as functions of data -/
def amtOk (ks : List Kind) (nm : List Str) : D → Bool
  | .tup [a, b] => a.isS "due" && hasD ks b
  | .tup _ => false
  | d => d.btw 0 9 || d.inS nm
def parts : Str → Option Nat
  | z => if z = "is" then some 2 else if z = "above" then some 2 else if z = "both" then some 2 else if z = "either" then some 2 else if z = "not" then some 1 else none
def condOk (ks : List Kind) (nm : List Str) : Nat → D → Bool
  | 0, _ => false
  | n + 1, .tup (.str z :: ds) => (parts z == some ds.length) && (if z = "is" ∨ z = "above" then ds.all (amtOk ks nm) else ds.all (condOk ks nm n))
  | _ + 1, _ => false
section
variable {P : Program} {w : World} {K : PySem.W.Frag} {mg : Str → Option Value} {base : Heap} {C fI fH : Addr}
/-- names of numbers: a list or a tuple of texts -/
def NamesAt (H : Hp) (v : V) (nm : List Str) : Prop := ∃ a, v = .ref a ∧ (H a = some (.lst (nm.map .str)) ∨ H a = some (.tup (nm.map .str)))
theorem NamesAt.same {H H' : Hp} {v : V} {nm : List Str} (x : NamesAt H v nm) (s : Same H H') : NamesAt H' v nm := by
  obtain ⟨a, e, h⟩ := x
  exact ⟨a, e, h.imp (s _ _) (s _ _)⟩
theorem NamesAt.sq {H : Hp} {a : Addr} {nm : List Str} (h : H a = some (.lst (nm.map .str)) ∨ H a = some (.tup (nm.map .str))) : SqL K H a (nm.map V.str) ∨ SqT K H a (nm.map V.str) := h.imp SqL.of SqT.of
abbrev s_is_amount : Stmt := top 31
theorem sc_is_amount : FnScope ["ports", "numbers", "value"] ["ports", "numbers", "value"] (defScope s_is_amount) := ⟨rfl, rfl, rfl, by decide +kernel, rfl, by decide +kernel, by decide +kernel⟩
def spAmt (C : Addr) : Sp := fun vs H Q _ => ∃ (p : Addr) (ks : List Kind) (u : V) (nm : List Str) (v : V) (d : D), vs = [.ref p, u, v] ∧ PortsAt C H p ks ∧ NamesAt H u nm ∧ Dd H v d ∧ Q (.bl (amtOk ks nm d)) H
theorem ok_is_amount (G : Bl mg) (T : PortsC K mg C fI fH) (DA : DefAt K mg "_is_amount" s_is_amount) (cBt : Callee P w K mg base 2 "is_between" ["value", "low", "high"] spBtw) (gH : ∃ fd, Binds K fd ["self", "value"] [] ∧ FnOk P w K mg base CX0 2 fH fd ["self", "value"] (spHas C)) : Callee P w K mg base 4 "_is_amount" ["ports", "numbers", "value"] (spAmt C) := by
  refine callee DA sc_is_amount (fun vs H Q E h => by obtain ⟨p, ks, u, nm, v, d, rfl, _⟩ := h; rfl) (fun _ _ _ _ _ _ us hl => match us, hl with | [_, _, _], _ => rfl) fun f cdv A outer s H vs Q E hr h => ?_
  obtain ⟨p, ks, u, nm, v, d, rfl, hP, hN, hd, q⟩ := h
  obtain ⟨fdH, bH, GH⟩ := gH
  have hu := hu_of hr
  have hr2 : Room 2 _ := hr.mono (by decide)
  refine ⟨_, (pss_cons (ps_if (pt_val (pe_callB call_isi (by rfl) G.b_isinstance (by decide +kernel) (pa_cons (pv 2) (pa_cons (pe_bltn (v := .ty "tuple") (u := .type "tuple") (by rfl) G.b_tuple (by decide +kernel) rfl) pa_nil)))) (pss_one (ps_ret (pe_and (pe_cmpR op_eq (pe_callB call_len_seq (by rfl) G.b_len (by decide +kernel) (pa_cons (pv 2) pa_nil)) pe_int (nomark _)) (pe_and (pe_cmpR (op_eqT (Nat.lt_of_succ_lt hu)) (pe_ix ix_tup (pv 2) pe_int (fun _ _ => rfl)) pe_str (nomark _)) (pe_one (pe_meth (pv 0) T.cl T.has GH hr2 bH .nil pass0 (pa_cons (pe_ix ix_tup (pv 2) pe_int (fun _ _ => rfl)) pa_nil))))))) pss_nil)
    (pss_one (ps_ret (pe_or (pe_cal cBt hr (by decide) (pa_cons (pv 2) (pa_cons pe_int (pa_cons pe_int pa_nil)))) (pe_one (pe_cmpR (op_inT hu) (pv 2) (pv 1) rfl)))))), ?_⟩
  refine ⟨v, rfl, _, _, _, _, _, rfl, .ty "tuple", hd.tyx, kit_tuple d, _, rfl, itb (fun e1 => ?_) fun e1 => ?_⟩
  · cases hd with
    | @tup a xs ds ha hds =>
      have el : xs.length = ds.length := DdL.len hds
      refine ⟨_, rfl, a, xs, rfl, .inr (SqT.of ha), rfl, _, rfl, ?_⟩
      refine itb (fun e2 => ?_) fun e2 => ?_
      · have e3 : xs.length = 2 := by
          have z := of_decide_eq_true e2
          injection z with z; omega
        match xs, ds, hds, e3, ha with
        | [x, y], _, .cons (d := d1) h1 (.cons (d := d2) h2 .nil), _, ha =>
          refine ⟨_, rfl, a, _, _, _, rfl, rfl, SqT.of ha, rfl, d1, _, rfl, h1, _, rfl, itb (fun e4 => ?_) fun e4 => ?_⟩
          · obtain ⟨dx, fs, dd, kvs, g1, _, g2, _⟩ := id hP.ex
            refine ⟨_, rfl, p, dx, _, rfl, g1, g2, _, rfl, a, _, _, _, rfl, rfl, SqT.of ha, rfl, p, ks, _, d2, rfl, hP, h2, ?_⟩
            have e : amtOk ks nm (.tup [d1, d2]) = hasD ks d2 := by show (_ && _) = _; rw [e4]; rfl
            rw [e] at q; exact q
          · have e : amtOk ks nm (.tup [d1, d2]) = false := by show (_ && _) = _; rw [e4]; rfl
            rw [e] at q; exact q
      · have e3 : ds.length ≠ 2 := fun z => by
          have z2 := of_decide_eq_false e2
          exact z2 (by rw [el, z]; rfl)
        have e : amtOk ks nm (.tup ds) = false := by
          match ds, e3 with
          | [], _ => rfl
          | [_], _ => rfl
          | [_, _], z => exact absurd rfl z
          | _ :: _ :: _ :: _, _ => rfl
        rw [e] at q; exact q
    | _ => exfalso; revert e1; simp [D.isa, isaT, D.ty]; done
  · have e0 : amtOk ks nm d = (d.btw 0 9 || d.inS nm) := by cases d <;> first | rfl | (exfalso; revert e1; simp [D.isa, isaT, D.ty]; done)
    obtain ⟨an, rfl, hn⟩ := hN
    refine ⟨_, rfl, v, d, 0, 9, rfl, hd, _, rfl, itb (fun e2 => ?_) fun e2 => ?_⟩
    · rw [e0, e2] at q; exact q
    · refine ⟨_, rfl, _, rfl, d, an, nm, rfl, NamesAt.sq hn, hd, ?_⟩
      rw [e0, e2] at q; exact q
end
end NH
set_option maxHeartbeats 4000000
namespace NH
open PySem PySem.Spec PyProof.Rows L2 TL
theorem DdL.at {H : Hp} : ∀ {xs : List V} {ds : List D} {i : Nat} {x : V}, DdL H xs ds → xs[i]? = some x → ∃ d, ds[i]? = some d ∧ Dd H x d
  | _, _, _, _, .nil, e => by simp at e
  | _, _, 0, _, .cons h _, e => by simp at e; subst e; exact ⟨_, rfl, h⟩
  | _, _, i + 1, x, .cons _ t, e => by
    obtain ⟨d, h1, h2⟩ := DdL.at (i := i) (x := x) t (by simpa using e)
    exact ⟨d, by simpa using h1, h2⟩
theorem take_succ_of {α : Type} {l : List α} {i : Nat} {x : α} (h : l[i]? = some x) : l.take (i + 1) = l.take i ++ [x] := by
  obtain ⟨hi, e⟩ := List.getElem?_eq_some_iff.mp h
  rw [List.take_succ_eq_append_getElem hi, e]
/-- a list of answers about data, one behind the other -/
theorem lcB {J : It} {Gd : Hp → Prop} {xs : List V} {ds : List D} {f : D → Bool} {i0 : Nat} {te : TE} {vs : List Nat} {σ : L2.St} {H1 : Hp} {p : Addr} {Qd : Hp → Prop} (w : Walk J xs.length Gd (YAt xs)) (hG : ∀ H', Same H1 H' → Gd H') (hp : H1 p = none) (hds : DdL H1 xs ds) (small : xs.length ≤ 1000)
    (hw : ∀ x, wipe ((wipe σ vs).set i0 (some x)) vs = wipe σ vs) (ht : ∀ x d H', Same H1 H' → Dd H' x d → d ∈ ds → ∀ F : VK, (∀ H'', Same H' H'' → F (.bl (f d)) H'') → te ((wipe σ vs).set i0 (some x)) H' F)
    (hd : ∀ H', Same H1 H' → H' p = some (.lst ((ds.map f).map V.bl)) → Qd H') :
    ∃ W : Nat → Nat → Hp → Prop, (∃ m, W 0 m (upd H1 p (.lst []))) ∧ ∀ i m H, W i m H → (J.stop i H ∧ Qd H) ∨ (J.go i H ∧ ∃ Nx : Hp → Prop, (∀ H', Nx H' → ∃ m', m' < m ∧ W (i + 1) m' H') ∧ ∀ x H', J.yld i H x H' → gName i0 x (wipe σ vs) H' fun σ2 H2 => wipe σ2 vs = wipe σ vs ∧ tYes σ2 H2 fun b H3 =>
      if b = true then te σ2 H3 fun y H4 => ∃ acc, H4 p = some (.lst acc) ∧ acc.length < sizeLine ∧ Nx (upd H4 p (.lst (acc ++ [y]))) else Nx H3) := by
  refine lc_it (g := gName i0) (tt := tYes) w (fun i H' => Same H1 H' ∧ H' p = some (.lst (((ds.take i).map f).map V.bl))) ⟨same_new hp, upd_same⟩ (fun _ H' _ h => hG H' h.1) ?_ ?_
  · rintro i x H2 H2' hi ⟨s2, d2⟩ ⟨rfl, hx⟩
    obtain ⟨d, ed, hd2⟩ := hds.at hx
    refine ⟨hw x, tyes ?_⟩
    refine iteT ?_
    refine ht x d H2' s2 (hd2.same s2) (List.mem_of_getElem? ed) _ fun H3 s3 => ⟨_, s3 _ _ d2, ?_, Same.put (s2.trans s3) hp, ?_⟩
    · rw [List.length_map, List.length_map, List.length_take]; exact small1000 (by omega)
    · rw [upd_same, take_succ_of ed, List.map_append, List.map_append]; rfl
  · rintro H2 ⟨s2, d2⟩
    rw [show ds.take xs.length = ds by rw [hds.len]; exact List.take_length] at d2
    exact hd H2 s2 d2
theorem six1 (x : V) (xs : List V) : HT.sIx (x :: xs).length 0 (some 1) = 1 := by
  have z := HT.sIx_nat (x :: xs).length 0 1
  rw [show ((1 : Nat) : Int) = 1 from rfl] at z
  rw [z, List.length_cons]; omega
theorem cut1 (x : V) (xs : List V) : cutV (x :: xs) (some 1) none = xs := by
  unfold cutV
  rw [six1, HT.sIx_none, List.length_cons, Nat.add_sub_cancel]
  exact List.take_length
theorem cut1_not (x : V) (xs : List V) : ¬ (HT.sIx (x :: xs).length 0 (some 1) = 0 ∧ HT.sIx (x :: xs).length (x :: xs).length none = (x :: xs).length) := by
  rw [six1]; omega
/-- the table PARTS -/
def partsV (z : Str) : V := match parts z with
  | some m => .int (m : Int)
  | none => .non
structure PartsT (K : PySem.W.Frag) (w : World) (mg : Str → Option Value) : Prop where
  ex : ∃ d es n, mg "PARTS" = some (.ref d) ∧ KDict K w d es n ∧ ∀ z, ∃ r, PySem.W.nsIn K d z = some r ∧ RelV (partsV z) (r.getD .none)
/-- a written tuple of texts -/
structure TupT (K : PySem.W.Frag) (mg : Str → Option Value) (x : Str) (zs : List Str) : Prop where
  ex : ∃ a, mg x = some (.ref a) ∧ ∀ H : Hp, SqT K H a (zs.map V.str)
def isAb : List Str := ["is", "above"]
theorem isAb_mem (z : Str) : (D.str z).inS isAb = decide (z = "is" ∨ z = "above") := by
  have e : (D.str z).inS isAb = ((z == ("is" : Str)) || ((z == ("above" : Str)) || false)) := rfl
  rw [e, Bool.or_false]
  by_cases h1 : z = "is"
  · rw [decide_eq_true (Or.inl h1), h1]; simp
  · by_cases h2 : z = "above"
    · rw [decide_eq_true (Or.inr h2), h2]; simp
    · rw [decide_eq_false (not_or.mpr ⟨h1, h2⟩), beq_eq_false_iff_ne.mpr h1, beq_eq_false_iff_ne.mpr h2]; rfl
section
variable {P : Program} {w : World} {K : PySem.W.Frag} {mg : Str → Option Value} {base : Heap} {C fI fH : Addr}
abbrev s_u_condition : Stmt := top 30
theorem sc_u_condition : FnScope ["ports", "numbers", "value", "deepest", "part"] ["ports", "numbers", "value", "deepest"] (defScope s_u_condition) := ⟨rfl, rfl, rfl, by decide +kernel, rfl, by decide +kernel, by decide +kernel⟩
def spCond (C : Addr) (n : Nat) : Sp := fun vs H Q _ => ∃ (p : Addr) (ks : List Kind) (u : V) (nm : List Str) (v : V) (d : D), vs = [.ref p, u, v, .int (n : Int)] ∧ PortsAt C H p ks ∧ NamesAt H u nm ∧ Dd H v d ∧ ∀ H', Same H H' → Q (.bl (condOk ks nm n d)) H'
theorem at0 (x : V) (xs : List V) : atI (x :: xs) 0 = some x := atI_nat (j := 0) rfl
theorem at1 (x y : V) (xs : List V) : atI (x :: y :: xs) 1 = some y := atI_nat (j := 1) rfl
theorem all_map {α : Type} (f : α → Bool) (l : List α) : (l.map f).all id = l.all f := by rw [List.all_map]; rfl
theorem ok_u_condition (G : Bl mg) (T : PortsC K mg C fI fH) (PT : PartsT K w mg) (TC : TupT K mg "COMPARING" isAb) (DA : DefAt K mg "_is_condition" s_u_condition) (cUa : Callee P w K mg base 4 "_is_amount" ["ports", "numbers", "value"] (spAmt C)) :
    ∀ n : Nat, Callee P w K mg base (6 + n) "_is_condition" ["ports", "numbers", "value", "deepest"] (spCond C n) := by
  intro n
  induction n with
  | zero =>
    refine callee (k := 5) DA sc_u_condition (fun vs H Q E h => by obtain ⟨p, ks, u, nm, v, d, rfl, _⟩ := h; rfl) (fun _ _ _ _ _ _ us hl => match us, hl with | [_, _, _, _], _ => rfl) fun f cdv A outer s H vs Q E hr h => ?_
    obtain ⟨p, ks, u, nm, v, d, rfl, hP, hN, hd, q⟩ := h
    obtain ⟨dP, es, nP, gP, DK, hPv⟩ := PT.ex
    obtain ⟨aC, gC, hC⟩ := TC.ex
    have hu := hu_of hr
    have ih0 : Callee P w K mg base 1 "_is_condition" ["ports", "numbers", "value", "deepest"] fun _ _ _ _ => False := callee (k := 0) DA sc_u_condition (fun _ _ _ _ h => h.elim) (fun _ _ _ _ _ _ us hl => match us, hl with | [_, _, _, _], _ => rfl) fun _ _ _ _ _ _ _ _ _ _ h => h.elim
    refine ⟨_, (pss_cons (ps_if (PW.pt (pw_or (pt_cmpR op_lt (pv 3) pe_int (nomark _)) (pw_or (pt_not (pt_val (pe_callB call_isi (by rfl) G.b_isinstance (by decide +kernel) (pa_cons (pv 2) (pa_cons (pe_bltn (v := .ty "tuple") (u := .type "tuple") (by rfl) G.b_tuple (by decide +kernel) rfl) pa_nil))))) (pw_or (pt_not (pt_truth (pv 2) (by intro _; rfl))) (pw_or1 (pt_not (pt_val (pe_callB call_isi (by rfl) G.b_isinstance (by decide +kernel) (pa_cons (pe_ix ix_tup (pv 2) pe_int (fun _ _ => rfl)) (pa_cons (pe_bltn (v := .ty "str") (u := .type "str") (by rfl) G.b_str (by decide +kernel) rfl) pa_nil)))))))))) (pss_one (ps_ret pe_bl)) pss_nil)
      (pss_cons (ps_if (pt_cmpR op_ne (pe_kget DK (by rfl) gP (pe_ix ix_tup (pv 2) pe_int (fun _ _ => rfl)) ⟨by rfl, by rfl, by rfl, by rfl⟩) (pe_op op_sub (pe_callB call_len_seq (by rfl) G.b_len (by decide +kernel) (pa_cons (pv 2) pa_nil)) pe_int) (nomark _)) (pss_one (ps_ret pe_bl)) pss_nil)
      (pss_cons (ps_if (pt_cmpR (op_inT hu) (pe_ix ix_tup (pv 2) pe_int (fun _ _ => rfl)) (pe_glob (v := .ref aC) (by rfl) gC rfl) rfl) (pss_one (ps_ret (pe_callB (cr_all rfl) (by rfl) G.b_all (by decide +kernel) (pa_cons (pe_lc (own := [("part", 4)]) (g := gName 4) rfl sc_u_condition.nd (pi_tup (pe_slice sl_tup (pv 2) (po_some pe_int) po_none)) (blkOk_by (N := ["ports", "numbers", "value", "deepest", "part"]) (sc := defScope s_u_condition) (by decide +kernel)) (fun _ _ _ _ _ => (pg_name (i := 4) sc_u_condition.nd rfl (Or.inl rfl))) (fun _ _ _ _ _ => pts_nil) (fun _ _ _ _ _ => (pe_cal cUa hr (by omega) (pa_cons (pv 0) (pa_cons (pv 1) (pa_cons (pv 4) pa_nil)))))) pa_nil)))) pss_nil)
      (pss_one (ps_ret (pe_callB (cr_all rfl) (by rfl) G.b_all (by decide +kernel) (pa_cons (pe_lc (own := [("part", 4)]) (g := gName 4) rfl sc_u_condition.nd (pi_tup (pe_slice sl_tup (pv 2) (po_some pe_int) po_none)) (blkOk_by (N := ["ports", "numbers", "value", "deepest", "part"]) (sc := defScope s_u_condition) (by decide +kernel)) (fun _ _ _ _ _ => (pg_name (i := 4) sc_u_condition.nd rfl (Or.inl rfl))) (fun _ _ _ _ _ => pts_nil) (fun _ _ _ _ _ => (pe_cal ih0 hr (by omega) (pa_cons (pv 0) (pa_cons (pv 1) (pa_cons (pv 4) (pa_cons (pe_op op_sub (pv 3) pe_int) pa_nil))))))) pa_nil))))))), ?_⟩
    refine ⟨_, rfl, _, _, rfl, rfl, _, rfl, ?_⟩
    exact iteT (q H (Same.refl H))
  | succ n ih =>
    refine callee (k := 6 + n) DA sc_u_condition (fun vs H Q E h => by obtain ⟨p, ks, u, nm, v, d, rfl, _⟩ := h; rfl) (fun _ _ _ _ _ _ us hl => match us, hl with | [_, _, _, _], _ => rfl) fun f cdv A outer s H vs Q E hr h => ?_
    obtain ⟨p, ks, u, nm, v, d, rfl, hP, hN, hd, q⟩ := h
    obtain ⟨dP, es, nP, gP, DK, hPv⟩ := PT.ex
    obtain ⟨aC, gC, hC⟩ := TC.ex
    have hu := hu_of hr
    refine ⟨_, (pss_cons (ps_if (PW.pt (pw_or (pt_cmpR op_lt (pv 3) pe_int (nomark _)) (pw_or (pt_not (pt_val (pe_callB call_isi (by rfl) G.b_isinstance (by decide +kernel) (pa_cons (pv 2) (pa_cons (pe_bltn (v := .ty "tuple") (u := .type "tuple") (by rfl) G.b_tuple (by decide +kernel) rfl) pa_nil))))) (pw_or (pt_not (pt_truth (pv 2) (by intro _; rfl))) (pw_or1 (pt_not (pt_val (pe_callB call_isi (by rfl) G.b_isinstance (by decide +kernel) (pa_cons (pe_ix ix_tup (pv 2) pe_int (fun _ _ => rfl)) (pa_cons (pe_bltn (v := .ty "str") (u := .type "str") (by rfl) G.b_str (by decide +kernel) rfl) pa_nil)))))))))) (pss_one (ps_ret pe_bl)) pss_nil)
      (pss_cons (ps_if (pt_cmpR op_ne (pe_kget DK (by rfl) gP (pe_ix ix_tup (pv 2) pe_int (fun _ _ => rfl)) ⟨by rfl, by rfl, by rfl, by rfl⟩) (pe_op op_sub (pe_callB call_len_seq (by rfl) G.b_len (by decide +kernel) (pa_cons (pv 2) pa_nil)) pe_int) (nomark _)) (pss_one (ps_ret pe_bl)) pss_nil)
      (pss_cons (ps_if (pt_cmpR (op_inT hu) (pe_ix ix_tup (pv 2) pe_int (fun _ _ => rfl)) (pe_glob (v := .ref aC) (by rfl) gC rfl) rfl) (pss_one (ps_ret (pe_callB (cr_all rfl) (by rfl) G.b_all (by decide +kernel) (pa_cons (pe_lc (own := [("part", 4)]) (g := gName 4) rfl sc_u_condition.nd (pi_tup (pe_slice sl_tup (pv 2) (po_some pe_int) po_none)) (blkOk_by (N := ["ports", "numbers", "value", "deepest", "part"]) (sc := defScope s_u_condition) (by decide +kernel)) (fun _ _ _ _ _ => (pg_name (i := 4) sc_u_condition.nd rfl (Or.inl rfl))) (fun _ _ _ _ _ => pts_nil) (fun _ _ _ _ _ => (pe_cal cUa hr (by omega) (pa_cons (pv 0) (pa_cons (pv 1) (pa_cons (pv 4) pa_nil)))))) pa_nil)))) pss_nil)
      (pss_one (ps_ret (pe_callB (cr_all rfl) (by rfl) G.b_all (by decide +kernel) (pa_cons (pe_lc (own := [("part", 4)]) (g := gName 4) rfl sc_u_condition.nd (pi_tup (pe_slice sl_tup (pv 2) (po_some pe_int) po_none)) (blkOk_by (N := ["ports", "numbers", "value", "deepest", "part"]) (sc := defScope s_u_condition) (by decide +kernel)) (fun _ _ _ _ _ => (pg_name (i := 4) sc_u_condition.nd rfl (Or.inl rfl))) (fun _ _ _ _ _ => pts_nil) (fun _ _ _ _ _ => (pe_cal ih hr (by omega) (pa_cons (pv 0) (pa_cons (pv 1) (pa_cons (pv 4) (pa_cons (pe_op op_sub (pv 3) pe_int) pa_nil))))))) pa_nil))))))), ?_⟩
    refine ⟨_, rfl, _, _, rfl, rfl, _, rfl, ?_⟩
    rw [decide_eq_false (show ¬ ((n + 1 : Nat) : Int) < 1 by omega)]
    have no : condOk ks nm (n + 1) d = false → Q (.bl false) H := fun e => by have z := q H (Same.refl H); rw [e] at z; exact z
    refine iteF ⟨v, rfl, _, _, _, _, _, rfl, .ty "tuple", hd.tyx, kit_tuple d, _, rfl, itb (fun e1 => ?_) fun e1 => ?_⟩
    · refine iteT (no ?_)
      cases d <;> first | rfl | (exfalso; revert e1; simp [D.isa, isaT, D.ty]; done)
    cases hd with
    | @tup a xs ds ha hds =>
      refine ⟨_, rfl, !xs.isEmpty, .inr (.inl ⟨xs, SqT.of ha, rfl⟩), ?_⟩
      cases hds with
      | nil =>
        refine iteT ?_
        have e0 : condOk ks nm (n + 1) (.tup []) = false := rfl
        change if true = true then _ else _
        refine iteT ?_
        exact no e0
      | @cons x xs d0 ds h0 hds =>
        refine iteF ⟨_, rfl, a, _, _, _, rfl, rfl, SqT.of ha, at0 _ _, _, _, _, _, _, rfl, .ty "str", h0.tyx, kit_str d0, _, rfl, itb (fun e2 => ?_) fun e2 => ?_⟩
        · refine no ?_
          cases d0 <;> first | rfl | (exfalso; revert e2; simp [D.isa, isaT, D.ty]; done)
        cases h0 with
        | str z =>
          have el := hds.len
          obtain ⟨r, er, rr⟩ := hPv z
          refine ⟨_, rfl, a, _, _, _, rfl, rfl, SqT.of ha, at0 _ _, z, r, _, rfl, er, rr, _, rfl, a, _, rfl, .inr (SqT.of ha), _, _, rfl, rfl, ?_⟩
          have lx : ((V.str z :: xs).length : Int) - 1 = (ds.length : Int) := by rw [List.length_cons, el]; omega
          cases ep : parts z with
          | none =>
            have ev : partsV z = .non := by unfold partsV; rw [ep]
            rw [ev]
            refine ⟨rfl, _, rfl, iteT (no ?_)⟩
            show ((parts z == some ds.length) && _) = false
            rw [ep]; rfl
          | some m =>
            have ev : partsV z = .int (m : Int) := by unfold partsV; rw [ep]
            rw [ev]
            by_cases hm : m = ds.length
            · refine ⟨rfl, _, rfl, itf (show (!decide (V.int (m : Int) = V.int (((V.str z :: xs).length : Int) - 1))) = false by rw [lx, hm, decide_eq_true rfl]; rfl) ?_⟩
              have qq : ∀ H', Same H H' → Q (.bl (if z = "is" ∨ z = "above" then ds.all (amtOk ks nm) else ds.all (condOk ks nm n))) H' := fun H' s1 => by
                have zz := q H' s1
                have e : condOk ks nm (n + 1) (.tup (.str z :: ds)) = (if z = "is" ∨ z = "above" then ds.all (amtOk ks nm) else ds.all (condOk ks nm n)) := by
                  show ((parts z == some ds.length) && _) = _
                  rw [ep, hm]; simp
                rw [e] at zz; exact zz
              have sm : xs.length ≤ 1000 := by
                have hm2 : m ≤ 2 := by
                  unfold parts at ep
                  by_cases a1 : z = "is"
                  · rw [if_pos a1] at ep; injection ep with ep; omega
                  rw [if_neg a1] at ep
                  by_cases a2 : z = "above"
                  · rw [if_pos a2] at ep; injection ep with ep; omega
                  rw [if_neg a2] at ep
                  by_cases a3 : z = "both"
                  · rw [if_pos a3] at ep; injection ep with ep; omega
                  rw [if_neg a3] at ep
                  by_cases a4 : z = "either"
                  · rw [if_pos a4] at ep; injection ep with ep; omega
                  rw [if_neg a4] at ep
                  by_cases a5 : z = "not"
                  · rw [if_pos a5] at ep; injection ep with ep; omega
                  rw [if_neg a5] at ep; cases ep
                omega
              refine ⟨_, rfl, a, _, _, _, rfl, rfl, SqT.of ha, at0 _ _, .str z, aC, isAb, rfl, .inr (hC _), .str z, _, rfl, ?_⟩
              rw [isAb_mem]
              refine itd (fun hz => ?_) fun hz => ?_
              · rw [if_pos hz] at qq
                refine ⟨_, rfl, 1, rfl, a, _, rfl, SqT.of ha, cut1_not _ _, fun t ht => ?_⟩
                rw [cut1]
                refine ⟨t, rfl, ⟨xs, SqT.of upd_same⟩, fun l hl => ?_⟩
                have ts : ∀ H', Same (upd H t (.tup xs)) H' → SqT K H' t xs := fun H' s1 => SqT.of (s1 _ _ upd_same)
                refine lcB (f := amtOk ks nm) (walk_tup (K := K) (a := t)) ts hl (hds.same (same_new ht)) sm (fun _ => rfl) (fun x d H' s1 hd' _ F k => ?_) fun H' s1 d1 => ?_
                · have s2 := (same_new ht).trans s1
                  exact ⟨_, rfl, _, rfl, x, rfl, p, ks, u, nm, x, d, rfl, hP.same s2, hN.same s2, hd', k H' (Same.refl _)⟩
                · refine ⟨l, _, rfl, SqL.of d1, ?_⟩
                  rw [all_map]
                  exact qq H' ((same_new ht).trans s1)
              · rw [if_neg hz] at qq
                refine ⟨_, rfl, 1, rfl, a, _, rfl, SqT.of ha, cut1_not _ _, fun t ht => ?_⟩
                rw [cut1]
                refine ⟨t, rfl, ⟨xs, SqT.of upd_same⟩, fun l hl => ?_⟩
                have ts : ∀ H', Same (upd H t (.tup xs)) H' → SqT K H' t xs := fun H' s1 => SqT.of (s1 _ _ upd_same)
                refine lcB (f := condOk ks nm n) (walk_tup (K := K) (a := t)) ts hl (hds.same (same_new ht)) sm (fun _ => rfl) (fun x d H' s1 hd' _ F k => ?_) fun H' s1 d1 => ?_
                · have s2 := (same_new ht).trans s1
                  have en : ((n + 1 : Nat) : Int) - 1 = (n : Int) := by omega
                  exact ⟨_, rfl, _, rfl, x, rfl, _, rfl, _, _, rfl, rfl, p, ks, u, nm, x, d, by show [V.ref p, u, x, V.int (((n + 1 : Nat) : Int) - 1)] = _; rw [en], hP.same s2, hN.same s2, hd', k⟩
                · refine ⟨l, _, rfl, SqL.of d1, ?_⟩
                  rw [all_map]
                  exact qq H' ((same_new ht).trans s1)
            · refine ⟨rfl, _, rfl, itt (show (!decide (V.int (m : Int) = V.int (((V.str z :: xs).length : Int) - 1))) = true by rw [lx, decide_eq_false (by intro e; injection e with e; omega)]; rfl) (no ?_)⟩
              show ((parts z == some ds.length) && _) = false
              rw [ep, Bool.and_eq_false_iff]
              left
              rw [beq_eq_false_iff_ne]
              intro e; injection e with e; exact hm e
        | _ => exfalso; revert e2; simp [D.isa, isaT, D.ty]; done
    | _ => exfalso; revert e1; simp [D.isa, isaT, D.ty]; done
end
end NH
set_option maxHeartbeats 4000000
namespace NH
open PySem PySem.Spec PyProof.Rows L2
section
variable {prog : Program} {w : World} {A : Around} {E : Value → Shared → Prop} {s : Shared} {R : Result → Shared → Prop}
theorem extend_rev {it l S : Addr} {items : Array Value} {c₀ : Nat} (hh : A.in1.handled = none) (hit : s.heap.IsRevIter it l ((items.size : Int) - 1)) (hl : s.heap.IsList l items) (hne : l ≠ it) (hSi : S ≠ it) (hSl : S ≠ l) (hn : items.size ≤ sizeLine)
    (hS : s.heap.get? S = some { cls := .type "list", data := .seq #[] c₀ })
    (hR : ∀ (s' : Shared) (acc : Array Value) (c' : Nat), Moved [S, it] (fun a b => b = a) s s' → s'.heap.get? S = some { cls := .type "list", dict := none, data := .seq acc c', slots := #[] } → ItemsOf (fun i v => items[items.size - 1 - i]? = some v) acc items.size → R (.ok (.ret .none)) s') :
    wpAny (model prog w) A.in1 (Builtin.List.listExtendWith (.ref S) (.ref it) .none)
      (fun fin s' => match fin with | .done f => R (.ok f) s' | .again c' => c'.quiet = true ∧ codeAny (model prog w) A c' R s') (fun e s' => R (.error e) s') s := by
  have W := (Walks.listRev (prog := prog) (w := w) (A := A.in1) hh it l hne items).toS
  have hSf : S ∉ [it, l] := by simp only [List.mem_cons, List.not_mem_nil, or_false, not_or]; exact ⟨hSi, hSl⟩
  have hT : s.TypeIs (.ref it) "list_reverseiterator" := Heap.IsRevIter.typeIs hit
  have h1 : Builtin.List.listSameRef (.ref S) (.ref it) = false := by simp [Builtin.List.listSameRef, hSi]
  unfold Builtin.List.listExtendWith
  refine wpAny_bind (wpAny_typeOf hT ?_)
  rw [if_neg (by rw [h1]; decide)]
  refine wpAny_bind (wpAny_pyIter_revIter hit ?_)
  refine wpAny_bind (wpAny_holding ?_)
  unfold Builtin.List.listLengthHint
  refine wpAny_bind (wpAny_specialOf hT RT.nolen_lri ?_)
  show wpAny _ A.in1 (specialOf (Value.ref it) (Str.ofString "__length_hint__") >>= _) _ _ _
  refine wpAny_bind (wpAny_specialOf hT RT.hint_lri ?_)
  generalize hid : ("list_reverseiterator.__length_hint__" : String) = id0
  wp_delta
  rw [show splitId id0 = some ("list_reverseiterator", "__length_hint__") from by subst hid; decide +kernel]
  subst hid
  refine wpAny_bind (wpAny_isInstance (b := true) hT (by rw [isSubtype_type]; kernel_rfl) ?_)
  refine wpAny_pure ?_
  rw [if_neg (by decide)]
  have e0 : ((items.size : Nat) : Int) - 1 - ((0 : Nat) : Int) = (items.size : Int) - 1 := by omega
  refine wpAny_pure ⟨plainId_quiet F.plain_extend_loop _, codeAny_extend_loopS W hn _ hSf _ items.size 0 _ _ _ rfl (Nat.zero_le _) ⟨Nat.zero_le _, by rw [e0]; exact hit, hl⟩ hS (ItemsOf.nil _) fun s' acc' c' hm hS' hacc => ?_⟩
  exact hR s' acc' c' hm hS' hacc
theorem list_init_rev {it l S : Addr} {items : Array Value} (hh : A.in1.handled = none) (hit : s.heap.IsRevIter it l ((items.size : Int) - 1)) (hl : s.heap.IsList l items) (hne : l ≠ it) (hSi : S ≠ it) (hSl : S ≠ l) (hn : items.size ≤ sizeLine)
    (hS : s.heap.get? S = some { cls := .type "list", data := .seq #[] })
    (hR : ∀ (s' : Shared) (acc : Array Value) (c' : Nat), (∀ b o, b ≠ it → b ≠ S → s.heap.get? b = some o → s'.heap.get? b = some o) → s' = { s with heap := s'.heap, toks := s'.toks } → s'.heap.get? S = some { cls := .type "list", dict := none, data := .seq acc c', slots := #[] } → ItemsOf (fun i v => items[items.size - 1 - i]? = some v) acc items.size → R (.ok (.ret .none)) s') :
    wpAny (model prog w) A.in1 (Builtin.«list.__init__» ⟨[.ref S, .ref it], []⟩)
      (fun fin s' => match fin with | .done f => R (.ok f) s' | .again c' => c'.quiet = true ∧ codeAny (model prog w) A c' R s') (fun e s' => R (.error e) s') s := by
  show wpAny _ A.in1 (do let old ← Builtin.List.listItems (.ref S); Builtin.List.listUpdate (.ref S) (fun _ => #[]); letGo old.toList.reverse; Builtin.List.listExtendWith (.ref S) (.ref it) .none) _ _ s
  refine wpAny_bind ?_
  unfold Builtin.List.listItems
  refine wpAny_bind (wpAny_seqItems hS rfl (wpAny_pure ?_))
  show wpAny _ A.in1 (updateSeq S (fun _ => #[]) >>= fun _ => letGo (#[] : Array Value).toList.reverse >>= fun _ => Builtin.List.listExtendWith (.ref S) (.ref it) .none) _ _ s
  refine wpAny_bind (wpAny_updateSeq hS rfl ?_)
  have hS₂ := Heap.get?_update_self (Obj.mapSeq (fun _ => (#[] : Array Value))) hS rfl
  have oth : ∀ b o, b ≠ S → s.heap.get? b = some o → (s.heap.update S (Obj.mapSeq (fun _ => (#[] : Array Value)))).get? b = some o :=
    fun b o hb e => (Heap.get?_update_other _ _ (Ne.symm hb)).trans e
  refine wpAny_bind (wpAny_letGo ?_)
  refine extend_rev (s := { s with heap := s.heap.update S (Obj.mapSeq (fun _ => (#[] : Array Value))) }) hh (hit.at fun o e => oth _ o (Ne.symm hSi) e) (hl.at fun o e => oth _ o (Ne.symm hSl) e) hne hSi hSl hn hS₂ fun s' acc' c' hm hS' hacc => ?_
  refine hR s' acc' c' (fun b o h1 h2 e => hm.heap b o (fun hmem => ?_) (oth b o h2 e)) ?_ hS' hacc
  · rcases List.mem_cons.mp hmem with e' | hmem
    · exact h2 e'
    · exact h1 (List.mem_singleton.mp hmem)
  · have z := Moved.eq_with hm
    exact z
theorem call_list_rev {it l : Addr} {items : Array Value} {Q : Value → Shared → Prop} (hh : A.handled = none) (hit : s.heap.IsRevIter it l ((items.size : Int) - 1)) (hl : s.heap.IsList l items) (hne : l ≠ it) (hn : items.size ≤ sizeLine)
    (hQ : ∀ (s' : Shared) (acc : Array Value) (c' : Nat), (∀ b o, b ≠ it → s.heap.get? b = some o → s'.heap.get? b = some o) → s' = { s with heap := s'.heap, toks := s'.toks } → s'.heap.get? s.heap.objs.size = some { cls := .type "list", dict := none, data := .seq acc c', slots := #[] } →
      ItemsOf (fun i v => items[items.size - 1 - i]? = some v) acc items.size → Q (.ref s.heap.objs.size) s') :
    wpAny (model prog w) A (call (.type "list") [.ref it]) Q E s := by
  obtain ⟨oi, hoi, _⟩ := id hit
  obtain ⟨ol, hol, _⟩ := id hl
  have hSi : s.heap.objs.size ≠ it := Nat.ne_of_gt (Heap.lt_size hoi)
  have hSl : s.heap.objs.size ≠ l := Nat.ne_of_gt (Heap.lt_size hol)
  refine callType_codes (Q₁ := fun obj s₁ => obj = .ref s.heap.objs.size ∧ s₁ = { s with heap := s.heap.push { cls := .type "list", data := .seq #[] } }) F.called_list (F.typeCall_list_1 _) F.entry_list_init
    (code_list_new _ ⟨rfl, rfl⟩) fun obj s₁ h₁ => ?_
  obtain ⟨rfl, rfl⟩ := h₁
  have hS : (s.heap.push { cls := .type "list", data := .seq #[] }).get? s.heap.objs.size = some { cls := .type "list", data := .seq #[] } := Heap.get?_push_size _ rfl
  refine ⟨⟨_, hS, rfl⟩, F.args_list_init_2 _ _, list_init_rev (s := { s with heap := s.heap.push { cls := .type "list", data := .seq #[] } }) hh (hit.at fun o e => Heap.get?_push_of_some _ e) (hl.push _) hne hSi hSl hn hS fun s' acc' c' hk he hS' hacc => ?_⟩
  refine ⟨rfl, hQ s' acc' c' (fun b o hb e => hk b o hb (Nat.ne_of_lt (Heap.lt_size e)) (Heap.get?_push_of_some _ e)) (by rw [he]) hS' hacc⟩
end
/-- list(reversed(x)), x a list: a new list -/
def tLstRev (K : PySem.W.Frag) (te : TE) : TE := fun σ H Q => te σ H fun v H1 => ∃ (a : Addr) (xs : List V), v = .ref a ∧ SqL K H1 a xs ∧ ∀ q, H1 q = none → Q (.ref q) (upd H1 q (.lst xs.reverse))
section
variable {X : Cx}
theorem pe_lstRev {e : Expr} {te : TE} {p p2 pos pos2 : Pos} (hc : X.calm = true) (hg : Gl X "list") (hm : X.mg "list" = none) (hg2 : Gl X "reversed") (hm2 : X.mg "reversed" = none) (he : PE X e te)
    (hs : starEach [e] X.env = (false, eval e X.env) :: starEach [] X.env := by rfl)
    (hs2 : starEach [.Call (.Name "reversed" p2) [e] [] pos2] X.env = (false, eval (.Call (.Name "reversed" p2) [e] [] pos2) X.env) :: starEach [] X.env := by rfl) :
    PE X (.Call (.Name "list" p) [.Call (.Name "reversed" p2) [e] [] pos2] [] pos) (tLstRev X.K te) := by
  refine ⟨fun pins s σ H Q I h => ?_⟩
  refine Call_ (ld_blt I hg hm boot_list (PyProof.Rows.callWith_type1 (args_cons (Call_ (ld_blt I hg2 hm2 PyProof.Rows.boot_reversed (PyProof.Rows.callWith_type1 (args_cons (thn (he.run pins s σ H _ I h) fun u s1 ⟨v, H1, I1, r1, q1⟩ => args_nil ?_) hs) hs rfl))) hs2) hs2 rfl))
  obtain ⟨a, xs, ev, hq, q⟩ := q1
  subst ev
  obtain rfl : u = Value.ref a := r1
  obtain ⟨its, rv, p', hz⟩ := I1.list hq
  refine call_reversed_list p'.isList (args_nil ?_)
  have k0 : ∀ b o, s1.heap.get? b = some o → (s1.heap.push (revObj a ((its.toArray.size : Int) - 1))).get? b = some o := fun b o e => Heap.get?_push_of_some _ e
  have I2 : Inv X pins σ H1 { s1 with heap := s1.heap.push (revObj a ((its.toArray.size : Int) - 1)) } := I1.kept (t' := s1.toks) k0
  obtain ⟨f0, f1, f2, f3, f4, f5⟩ := I1.fpOk (H' := H1) (b := s1.heap.objs.size) (Nat.le_refl _) (I1.hok.fresh (Nat.le_refl _))
  have hl := p'.isList
  obtain ⟨ol, hol, _⟩ := id hl
  have hne : a ≠ s1.heap.objs.size := Nat.ne_of_lt (Heap.lt_size hol)
  have hn : its.toArray.size ≤ sizeLine := by rw [List.size_toArray, ← rv.length]; exact hz
  refine call_list_rev (s := { s1 with heap := s1.heap.push (revObj a ((its.toArray.size : Int) - 1)) }) (I1.ok.hd hc) ⟨_, Heap.get?_push_size _ rfl, rfl, rfl⟩ (hl.push _) hne hn fun s' acc c' hk he hS' hi => ?_
  rw [he]
  have I3 := I2.turnedNew (h' := s'.heap) (t' := s'.toks) (ch := [s1.heap.objs.size]) (T := (s1.heap.push (revObj a ((its.toArray.size : Int) - 1))).objs.size) (ob := .lst xs.reverse) (fun b o hb e => hk b o (by simpa using hb) e) (fun b hb => by rw [List.mem_singleton.mp hb]; exact ⟨f0, f1, f2, f3, f4, f5⟩) (Nat.le_refl _) (show ObjOk X.prog X.w _ _ _ (.lst xs.reverse) from ⟨by rw [List.length_reverse]; exact hz, acc.toList, c', RT.vals_rev rv hi, by rw [Array.toArray_toList]; exact hS'⟩)
  exact ⟨.ref _, _, I3, rfl, q _ (I2.hok.fresh (Nat.le_refl _))⟩
end
end NH
set_option maxHeartbeats 4000000
namespace NH
open PySem PySem.Spec PyProof.Rows L2 TL
/-! ### reading and writing conditions, as functions of words -/
def spc : Str := Str.ofString " "
def digit (w : Str) : Option Nat := match w.cps.toList with
  | [c] => if 48 ≤ c ∧ c ≤ 57 then some (c - 48) else none
  | _ => none
def digS (n : Nat) : Str := sg (48 + n)
theorem digit_some {w : Str} {n : Nat} (h : digit w = some n) : w = digS n ∧ n ≤ 9 := by
  unfold digit at h
  split at h
  · rename_i c e
    split at h
    · rename_i hc
      cases h
      refine ⟨?_, by omega⟩
      refine ext_toList ?_
      show tl w = [48 + (c - 48)]
      rw [show tl w = [c] from e, show 48 + (c - 48) = c by omega]
    · cases h
  · cases h
theorem digit_digS {n : Nat} (h : n ≤ 9) : digit (digS n) = some n := by
  unfold digit digS sg
  show (if 48 ≤ 48 + n ∧ 48 + n ≤ 57 then some (48 + n - 48) else none) = _
  rw [if_pos (by omega)]; congr 1; omega
def digD (w : Str) : D := match digit w with
  | some n => .int (n : Int)
  | none => .str w
def tkW : List Str → Str × List Str
  | [] => (Str.ofString "", [])
  | w :: r => (w, r)
def tkA : List Str → D × List Str
  | [] => (digD (Str.ofString ""), [])
  | w :: r => if w = "due" then (.tup [.str "due", .str (tkW r).1], (tkW r).2) else (digD w, r)
def tkX (ws : List Str) : D × List Str := (.tup [.str (tkW (tkA ws).2).1, (tkA ws).1, (tkA (tkW (tkA ws).2).2).1], (tkA (tkW (tkA ws).2).2).2)
def isJ (w : Str) : Prop := w = "both" ∨ w = "either" ∨ w = "not"
instance (w : Str) : Decidable (isJ w) := by unfold isJ; infer_instance
def tkC : Nat → List Str → D × List Str
  | 0, ws => (.non, ws)
  | _ + 1, [] => tkX []
  | n + 1, w :: r => if isJ w then (if w = "not" then (.tup [.str w, (tkC n r).1], (tkC n r).2) else (.tup [.str w, (tkC n r).1, (tkC n (tkC n r).2).1], (tkC n (tkC n r).2).2)) else tkX (w :: r)
/-- words -/
def wdA : D → List Str
  | .tup [_, .str s] => ["due", s]
  | .str x => [x]
  | .int i => [digS i.toNat]
  | _ => []
def wdC : Nat → D → List Str
  | n + 1, .tup (.str z :: ds) => if z = "is" ∨ z = "above" then (match ds with
    | [a, b] => wdA a ++ z :: wdA b
    | _ => []) else z :: (ds.map (wdC n)).flatten
  | _, _ => []
/-- the law's reading -/
def rdA (ks : List Kind) (nm : List Str) : List Str → Option (D × List Str)
  | [] => none
  | w :: r => if w = "due" then (match r with
    | s :: r' => if s ∈ sidesOf ks then some (.tup [.str "due", .str s], r') else none
    | [] => none) else if w ∈ nm then some (.str w, r) else (match digit w with
      | some n => some (.int (n : Int), r)
      | none => none)
def rdX (ks : List Kind) (nm : List Str) (ws : List Str) : Option (D × List Str) := match rdA ks nm ws with
  | some (a, z :: r2) => if z = "is" ∨ z = "above" then (match rdA ks nm r2 with
    | some (b, r3) => some (.tup [.str z, a, b], r3)
    | none => none) else none
  | _ => none
def rdC (ks : List Kind) (nm : List Str) : Nat → List Str → Option (D × List Str)
  | 0, _ => none
  | _ + 1, [] => none
  | n + 1, w :: r => if isJ w then (match rdC ks nm n r with
    | none => none
    | some (d, r1) => if w = "not" then some (.tup [.str w, d], r1) else (match rdC ks nm n r1 with
      | none => none
      | some (e, r2) => some (.tup [.str w, d, e], r2))) else rdX ks nm (w :: r)
def lawDue (ks : List Kind) (nm : List Str) (x : Str) : Option D := match rdC ks nm 4 (Txt.split x spc) with
  | some (d, []) => some d
  | _ => none
/-- texts -/
def txA : D → Str
  | .tup [_, .str s] => Str.ofString "due " ++ s
  | .str x => x
  | .int i => digS i.toNat
  | _ => Str.ofString ""
def txC : Nat → D → Str
  | n + 1, .tup (.str z :: ds) => if z = "is" ∨ z = "above" then (match ds with
    | [a, b] => txA a ++ spc ++ z ++ spc ++ txA b
    | _ => Str.ofString "") else Txt.join spc (z :: ds.map (txC n))
  | _, _ => Str.ofString ""
structure NmOk (nm : List Str) : Prop where
  key : ∀ y ∈ nm, y ≠ "due" ∧ ¬ isJ y
  dig : ∀ y ∈ nm, digit y = none
  spc : ∀ y ∈ nm, 32 ∉ tl y
/-! #### the law's reading is the program's -/
theorem rdA_cons {ks : List Kind} {nm : List Str} (w : Str) (r : List Str) : rdA ks nm (w :: r) = if w = "due" then (match r with
    | s :: r' => if s ∈ sidesOf ks then some (.tup [.str "due", .str s], r') else none
    | [] => none) else if w ∈ nm then some (.str w, r) else (match digit w with
      | some n => some (.int (n : Int), r)
      | none => none) := rfl
theorem tkA_cons (w : Str) (r : List Str) : tkA (w :: r) = if w = "due" then (.tup [.str "due", .str (tkW r).1], (tkW r).2) else (digD w, r) := rfl
theorem rdA_ok {ks : List Kind} {nm : List Str} (N : NmOk nm) : ∀ {ws : List Str} {a : D} {r : List Str}, rdA ks nm ws = some (a, r) → tkA ws = (a, r) ∧ amtOk ks nm a = true ∧ ws = wdA a ++ r
  | [], _, _, h => by cases h
  | w :: r0, a, r, h => by
    rw [rdA_cons] at h
    rw [tkA_cons]
    by_cases hw : w = "due"
    · rw [if_pos hw] at h ⊢
      cases r0 with
      | nil => cases h
      | cons s r' =>
        dsimp only at h
        by_cases hs : s ∈ sidesOf ks
        · rw [if_pos hs] at h
          cases h
          refine ⟨rfl, ?_, by rw [hw]; rfl⟩
          show (D.isS "due" (.str "due") && hasD ks (.str s)) = true
          rw [show D.isS "due" (.str "due") = true by decide +kernel]
          exact decide_eq_true hs
        · rw [if_neg hs] at h; cases h
    · rw [if_neg hw] at h ⊢
      by_cases hm : w ∈ nm
      · rw [if_pos hm] at h
        cases h
        have e : digD w = .str w := by unfold digD; rw [N.dig w hm]
        refine ⟨by rw [e], ?_, rfl⟩
        show (nm.any fun z => w == z) = true
        rw [List.any_eq_true]
        exact ⟨w, hm, beq_self_eq_true w⟩
      · rw [if_neg hm] at h
        cases hd : digit w with
        | none => rw [hd] at h; cases h
        | some n =>
          rw [hd] at h
          cases h
          obtain ⟨ew, l9⟩ := digit_some hd
          refine ⟨by unfold digD; rw [hd], ?_, ?_⟩
          · show ((decide ((0 : Int) ≤ (n : Int)) && decide ((n : Int) ≤ 9)) || _) = true
            rw [decide_eq_true (by omega), decide_eq_true (by omega)]; rfl
          · show w :: r0 = digS (n : Int).toNat :: r0
            rw [ew]; simp
theorem condOk_cmp {ks : List Kind} {nm : List Str} {n : Nat} {z : Str} {a b : D} (hz : z = "is" ∨ z = "above") (ha : amtOk ks nm a = true) (hb : amtOk ks nm b = true) : condOk ks nm (n + 1) (.tup [.str z, a, b]) = true := by
  show ((parts z == some 2) && (if z = "is" ∨ z = "above" then [a, b].all (amtOk ks nm) else _)) = true
  rw [if_pos hz]
  have e : parts z = some 2 := by
    unfold parts
    rcases hz with h | h
    · rw [if_pos h]
    · rw [if_neg (by rw [h]; decide +kernel), if_pos h]
  rw [e]
  show (true && (amtOk ks nm a && (amtOk ks nm b && true))) = true
  rw [ha, hb]; rfl
theorem isJ_no {z : Str} (h : isJ z) : ¬ (z = "is" ∨ z = "above") := by
  rcases h with h | h | h <;> rw [h] <;> decide +kernel
theorem parts_two {z : Str} (h : isJ z) (n : z ≠ "not") : parts z = some 2 := by
  rcases h with h | h | h
  · rw [h]; decide +kernel
  · rw [h]; decide +kernel
  · exact absurd h n
theorem condOk_two {ks : List Kind} {nm : List Str} {n : Nat} {z : Str} {a b : D} (hz : isJ z) (hn : z ≠ "not") (ha : condOk ks nm n a = true) (hb : condOk ks nm n b = true) : condOk ks nm (n + 1) (.tup [.str z, a, b]) = true := by
  show ((parts z == some 2) && (if z = "is" ∨ z = "above" then _ else [a, b].all (condOk ks nm n))) = true
  rw [if_neg (isJ_no hz), parts_two hz hn]
  show (true && (condOk ks nm n a && (condOk ks nm n b && true))) = true
  rw [ha, hb]; rfl
theorem condOk_not {ks : List Kind} {nm : List Str} {n : Nat} {a : D} (ha : condOk ks nm n a = true) : condOk ks nm (n + 1) (.tup [.str "not", a]) = true := by
  show ((parts "not" == some 1) && (if ("not" : Str) = "is" ∨ ("not" : Str) = "above" then _ else [a].all (condOk ks nm n))) = true
  rw [if_neg (isJ_no (.inr (.inr rfl))), show parts "not" = some 1 by decide +kernel]
  show (true && (condOk ks nm n a && true)) = true
  rw [ha]; rfl
theorem wdC_cmp {n : Nat} {z : Str} {a b : D} (hz : z = "is" ∨ z = "above") : wdC (n + 1) (.tup [.str z, a, b]) = wdA a ++ z :: wdA b := by
  show (if z = "is" ∨ z = "above" then _ else _) = _
  rw [if_pos hz]
theorem wdC_join {n : Nat} {z : Str} {ds : List D} (hz : isJ z) : wdC (n + 1) (.tup (.str z :: ds)) = z :: (ds.map (wdC n)).flatten := by
  show (if z = "is" ∨ z = "above" then _ else _) = _
  rw [if_neg (isJ_no hz)]
theorem rdX_ok {ks : List Kind} {nm : List Str} (N : NmOk nm) {n : Nat} {ws : List Str} {d : D} {r : List Str} (h : rdX ks nm ws = some (d, r)) : tkX ws = (d, r) ∧ condOk ks nm (n + 1) d = true ∧ ws = wdC (n + 1) d ++ r := by
  unfold rdX at h
  cases ha : rdA ks nm ws with
  | none => rw [ha] at h; cases h
  | some p =>
    obtain ⟨a, r1⟩ := p
    rw [ha] at h
    cases r1 with
    | nil => cases h
    | cons z r2 =>
      dsimp only at h
      by_cases hz : z = "is" ∨ z = "above"
      · rw [if_pos hz] at h
        cases hb : rdA ks nm r2 with
        | none => rw [hb] at h; cases h
        | some p =>
          obtain ⟨b, r3⟩ := p
          rw [hb] at h
          cases h
          obtain ⟨a1, a2, a3⟩ := rdA_ok N ha
          obtain ⟨b1, b2, b3⟩ := rdA_ok N hb
          refine ⟨?_, condOk_cmp hz a2 b2, ?_⟩
          · unfold tkX; rw [a1]; dsimp only [tkW]; rw [b1]
          · rw [wdC_cmp hz, a3, b3]; simp
      · rw [if_neg hz] at h; cases h
theorem rdC_cons {ks : List Kind} {nm : List Str} (n : Nat) (w : Str) (r : List Str) : rdC ks nm (n + 1) (w :: r) = if isJ w then (match rdC ks nm n r with
    | none => none
    | some (d, r1) => if w = "not" then some (.tup [.str w, d], r1) else (match rdC ks nm n r1 with
      | none => none
      | some (e, r2) => some (.tup [.str w, d, e], r2))) else rdX ks nm (w :: r) := rfl
theorem tkC_cons (n : Nat) (w : Str) (r : List Str) : tkC (n + 1) (w :: r) = if isJ w then (if w = "not" then (.tup [.str w, (tkC n r).1], (tkC n r).2) else (.tup [.str w, (tkC n r).1, (tkC n (tkC n r).2).1], (tkC n (tkC n r).2).2)) else tkX (w :: r) := rfl
theorem rdC_ok {ks : List Kind} {nm : List Str} (N : NmOk nm) : ∀ {n : Nat} {ws : List Str} {d : D} {r : List Str}, rdC ks nm n ws = some (d, r) → tkC n ws = (d, r) ∧ condOk ks nm n d = true ∧ ws = wdC n d ++ r
  | 0, _, _, _, h => by cases h
  | _ + 1, [], _, _, h => by cases h
  | n + 1, w :: r0, d, r, h => by
    rw [rdC_cons] at h
    rw [tkC_cons]
    by_cases hj : isJ w
    · rw [if_pos hj] at h ⊢
      cases h1 : rdC ks nm n r0 with
      | none => rw [h1] at h; cases h
      | some p =>
        obtain ⟨d1, r1⟩ := p
        rw [h1] at h
        dsimp only at h
        obtain ⟨t1, c1, w1⟩ := rdC_ok N h1
        by_cases hn : w = "not"
        · rw [if_pos hn] at h ⊢
          cases h
          refine ⟨by rw [t1], by rw [hn]; exact condOk_not c1, ?_⟩
          rw [wdC_join hj, w1]; simp
        · rw [if_neg hn] at h ⊢
          cases h2 : rdC ks nm n r1 with
          | none => rw [h2] at h; cases h
          | some p =>
            obtain ⟨d2, r2⟩ := p
            rw [h2] at h
            cases h
            obtain ⟨t2, c2, w2⟩ := rdC_ok N h2
            refine ⟨by rw [t1]; dsimp only; rw [t2], condOk_two hj hn c1 c2, ?_⟩
            rw [wdC_join hj, w1, w2]; simp
    · rw [if_neg hj] at h ⊢
      exact rdX_ok N h
end NH
set_option maxHeartbeats 4000000
namespace NH
open PySem PySem.Spec PyProof.Rows L2 TL
theorem amt_cases {ks : List Kind} {nm : List Str} {a : D} (h : amtOk ks nm a = true) : (∃ s, a = .tup [.str "due", .str s] ∧ s ∈ sidesOf ks) ∨ (∃ x, a = .str x ∧ x ∈ nm) ∨ ∃ k : Nat, k ≤ 9 ∧ a = .int (k : Int) := by
  cases a with
  | tup ds =>
    match ds, h with
    | [a, b], h =>
      have h : (a.isS "due" && hasD ks b) = true := h
      rw [Bool.and_eq_true] at h
      obtain ⟨h1, h2⟩ := h
      cases a with
      | str x =>
        cases b with
        | str s =>
          have e : x = "due" := by
            have z : (x == ("due" : Str)) = true := h1
            exact beq_iff_eq.mp z
          subst e
          exact .inl ⟨s, rfl, of_decide_eq_true h2⟩
        | _ => cases h2
      | _ => cases h1
    | [], h => cases h
    | [_], h => cases h
    | _ :: _ :: _ :: _, h => cases h
  | str x =>
    have h : (nm.any fun z => x == z) = true := h
    obtain ⟨z, hz, e⟩ := List.any_eq_true.mp h
    exact .inr (.inl ⟨x, rfl, by rw [beq_iff_eq.mp e]; exact hz⟩)
  | int i =>
    have h : ((decide (0 ≤ i) && decide (i ≤ 9)) || (nm.any fun z => D.isS z (.int i))) = true := h
    have no : (nm.any fun z => D.isS z (.int i)) = false := List.any_eq_false.mpr fun z _ y => by cases y
    rw [no, Bool.or_false, Bool.and_eq_true] at h
    have h1 := of_decide_eq_true h.1
    have h2 := of_decide_eq_true h.2
    exact .inr (.inr ⟨i.toNat, by omega, by rw [Int.toNat_of_nonneg h1]⟩)
  | non =>
    have h : (false || (nm.any fun z => D.isS z D.non)) = true := h
    have no : (nm.any fun z => D.isS z D.non) = false := List.any_eq_false.mpr fun z _ y => by cases y
    rw [no] at h; cases h
  | bl b =>
    have h : (false || (nm.any fun z => D.isS z (D.bl b))) = true := h
    have no : (nm.any fun z => D.isS z (D.bl b)) = false := List.any_eq_false.mpr fun z _ y => by cases y
    rw [no] at h; cases h
  | lst ds =>
    have h : (false || (nm.any fun z => D.isS z (D.lst ds))) = true := h
    have no : (nm.any fun z => D.isS z (D.lst ds)) = false := List.any_eq_false.mpr fun z _ y => by cases y
    rw [no] at h; cases h
  | dic =>
    have h : (false || (nm.any fun z => D.isS z D.dic)) = true := h
    have no : (nm.any fun z => D.isS z D.dic) = false := List.any_eq_false.mpr fun z _ y => by cases y
    rw [no] at h; cases h
theorem parts_cases {z : Str} {m : Nat} (h : parts z = some m) : ((z = "is" ∨ z = "above") ∧ m = 2) ∨ (z = "not" ∧ m = 1) ∨ (isJ z ∧ z ≠ "not" ∧ m = 2) := by
  unfold parts at h
  by_cases h1 : z = "is"
  · rw [if_pos h1] at h; cases h; exact .inl ⟨.inl h1, rfl⟩
  rw [if_neg h1] at h
  by_cases h2 : z = "above"
  · rw [if_pos h2] at h; cases h; exact .inl ⟨.inr h2, rfl⟩
  rw [if_neg h2] at h
  by_cases h3 : z = "both"
  · rw [if_pos h3] at h; cases h; exact .inr (.inr ⟨.inl h3, by rw [h3]; decide +kernel, rfl⟩)
  rw [if_neg h3] at h
  by_cases h4 : z = "either"
  · rw [if_pos h4] at h; cases h; exact .inr (.inr ⟨.inr (.inl h4), by rw [h4]; decide +kernel, rfl⟩)
  rw [if_neg h4] at h
  by_cases h5 : z = "not"
  · rw [if_pos h5] at h; cases h; exact .inr (.inl ⟨h5, rfl⟩)
  rw [if_neg h5] at h; cases h
inductive CondC (ks : List Kind) (nm : List Str) : Nat → D → Prop
  | cmp {n : Nat} {z : Str} {a b : D} : (z = "is" ∨ z = "above") → amtOk ks nm a = true → amtOk ks nm b = true → CondC ks nm (n + 1) (.tup [.str z, a, b])
  | neg {n : Nat} {a : D} : CondC ks nm n a → CondC ks nm (n + 1) (.tup [.str "not", a])
  | two {n : Nat} {z : Str} {a b : D} : isJ z → z ≠ "not" → CondC ks nm n a → CondC ks nm n b → CondC ks nm (n + 1) (.tup [.str z, a, b])
theorem CondC.of {ks : List Kind} {nm : List Str} : ∀ {n : Nat} {d : D}, condOk ks nm n d = true → CondC ks nm n d
  | 0, d, h => by cases h
  | n + 1, d, h => by
    cases d with
    | tup ds =>
      cases ds with
      | nil => cases h
      | cons d0 ds =>
        cases d0 with
        | str z =>
          have h : ((parts z == some ds.length) && (if z = "is" ∨ z = "above" then ds.all (amtOk ks nm) else ds.all (condOk ks nm n))) = true := h
          rw [Bool.and_eq_true] at h
          obtain ⟨h1, h2⟩ := h
          rcases parts_cases (beq_iff_eq.mp h1) with ⟨hz, l⟩ | ⟨hz, l⟩ | ⟨hz, hn, l⟩
          · rw [if_pos hz] at h2
            match ds, l, h2 with
            | [a, b], _, h2 =>
              have h2 : (amtOk ks nm a && (amtOk ks nm b && true)) = true := h2
              rw [Bool.and_true, Bool.and_eq_true] at h2
              exact .cmp hz h2.1 h2.2
          · subst hz
            rw [if_neg (isJ_no (.inr (.inr rfl)))] at h2
            match ds, l, h2 with
            | [a], _, h2 =>
              have h2 : (condOk ks nm n a && true) = true := h2
              rw [Bool.and_true] at h2
              exact .neg (CondC.of h2)
          · rw [if_neg (isJ_no hz)] at h2
            match ds, l, h2 with
            | [a, b], _, h2 =>
              have h2 : (condOk ks nm n a && (condOk ks nm n b && true)) = true := h2
              rw [Bool.and_true, Bool.and_eq_true] at h2
              exact .two hz hn (CondC.of h2.1) (CondC.of h2.2)
        | _ => cases h
    | _ => cases h
theorem CondC.ok {ks : List Kind} {nm : List Str} {n : Nat} {d : D} (c : CondC ks nm n d) : condOk ks nm n d = true := by
  induction c with
  | cmp hz a b => exact condOk_cmp hz a b
  | neg _ ih => exact condOk_not ih
  | two hz hn _ _ i1 i2 => exact condOk_two hz hn i1 i2
theorem CondC.up {ks : List Kind} {nm : List Str} {n : Nat} {d : D} (c : CondC ks nm n d) : CondC ks nm (n + 1) d := by
  induction c with
  | cmp hz a b => exact .cmp hz a b
  | neg _ ih => exact .neg ih
  | two hz hn _ _ i1 i2 => exact .two hz hn i1 i2
/-! #### what is written is read again -/
theorem rdA_wd {ks : List Kind} {nm : List Str} (N : NmOk nm) {a : D} (h : amtOk ks nm a = true) (r : List Str) : rdA ks nm (wdA a ++ r) = some (a, r) := by
  rcases amt_cases h with ⟨s, rfl, hs⟩ | ⟨x, rfl, hx⟩ | ⟨k, hk, rfl⟩
  · show rdA ks nm ("due" :: s :: r) = _
    rw [rdA_cons, if_pos rfl]
    dsimp only
    rw [if_pos hs]
  · show rdA ks nm (x :: r) = _
    rw [rdA_cons, if_neg (N.key x hx).1, if_pos hx]
  · show rdA ks nm (digS (k : Int).toNat :: r) = _
    rw [Int.toNat_natCast, rdA_cons]
    have hd := digit_digS hk
    rw [if_neg (fun z => by
      have e : digit (Str.ofString "due") = none := by decide +kernel
      rw [z] at hd
      have hd : digit (Str.ofString "due") = some k := hd
      rw [e] at hd; cases hd), if_neg (fun z => by have y := N.dig _ z; rw [hd] at y; cases y), hd]
theorem wdA_head {ks : List Kind} {nm : List Str} (N : NmOk nm) {a : D} (h : amtOk ks nm a = true) : ∃ w r, wdA a = w :: r ∧ ¬ isJ w := by
  rcases amt_cases h with ⟨s, rfl, hs⟩ | ⟨x, rfl, hx⟩ | ⟨k, hk, rfl⟩
  · exact ⟨_, _, rfl, by decide +kernel⟩
  · exact ⟨_, _, rfl, (N.key x hx).2⟩
  · refine ⟨_, _, rfl, ?_⟩
    rw [Int.toNat_natCast]
    have hd := digit_digS hk
    rintro (z | z | z)
    · rw [z, show digit (Str.ofString "both") = none by decide +kernel] at hd; cases hd
    · rw [z, show digit (Str.ofString "either") = none by decide +kernel] at hd; cases hd
    · rw [z, show digit (Str.ofString "not") = none by decide +kernel] at hd; cases hd
theorem CondC.read {ks : List Kind} {nm : List Str} (N : NmOk nm) {n : Nat} {d : D} (c : CondC ks nm n d) : ∀ r, rdC ks nm n (wdC n d ++ r) = some (d, r) := by
  induction c with
  | @cmp n z a b hz ha hb =>
    intro r
    rw [wdC_cmp hz]
    obtain ⟨w, t, e, hw⟩ := wdA_head N ha
    rw [e, List.cons_append, List.cons_append, rdC_cons, if_neg hw]
    unfold rdX
    have e2 : w :: (t ++ z :: wdA b ++ r) = wdA a ++ (z :: (wdA b ++ r)) := by rw [e]; simp
    rw [e2, rdA_wd N ha]
    dsimp only
    rw [if_pos hz, rdA_wd N hb]
  | @neg n a _ ih =>
    intro r
    rw [wdC_join (.inr (.inr rfl)), List.cons_append, rdC_cons, if_pos (.inr (.inr rfl))]
    have e : ([a].map (wdC n)).flatten ++ r = wdC n a ++ r := by simp
    rw [e, ih]
    dsimp only
    rw [if_pos rfl]
  | @two n z a b hz hn _ _ i1 i2 =>
    intro r
    rw [wdC_join hz, List.cons_append, rdC_cons, if_pos hz]
    have e : ([a, b].map (wdC n)).flatten ++ r = wdC n a ++ (wdC n b ++ r) := by simp
    rw [e, i1]
    dsimp only
    rw [if_neg hn, i2]
/-! #### texts are words -/
theorem join_app {us vs : List Str} (hu : us ≠ []) (hv : vs ≠ []) : Txt.join spc (us ++ vs) = Txt.join spc us ++ spc ++ Txt.join spc vs := by
  induction us with
  | nil => exact absurd rfl hu
  | cons u us ih =>
    cases us with
    | nil =>
      cases vs with
      | nil => exact absurd rfl hv
      | cons v vs =>
        rw [join_eq, join_eq, join_eq]; rfl
    | cons u2 us =>
      have z := ih (by simp)
      rw [join_eq, join_eq, join_eq] at z ⊢
      show u ++ spc ++ Str.join spc (u2 :: us ++ vs) = u ++ spc ++ Str.join spc (u2 :: us) ++ spc ++ Str.join spc vs
      rw [z]
      refine ext_tl ?_
      simp only [tl_append, List.append_assoc]
theorem join_one (x : Str) : Txt.join spc [x] = x := by rw [join_eq]; rfl
theorem wdA_ne {ks : List Kind} {nm : List Str} {a : D} (h : amtOk ks nm a = true) : wdA a ≠ [] := by
  rcases amt_cases h with ⟨s, rfl, hs⟩ | ⟨x, rfl, hx⟩ | ⟨k, hk, rfl⟩ <;> exact List.cons_ne_nil _ _
theorem txA_wd {ks : List Kind} {nm : List Str} {a : D} (h : amtOk ks nm a = true) : txA a = Txt.join spc (wdA a) := by
  rcases amt_cases h with ⟨s, rfl, hs⟩ | ⟨x, rfl, hx⟩ | ⟨k, hk, rfl⟩
  · show Str.ofString "due " ++ s = Txt.join spc [Str.ofString "due", s]
    rw [join_eq]
    show Str.ofString "due " ++ s = Str.ofString "due" ++ spc ++ s
    exact congrArg (· ++ s) (by decide +kernel)
  · exact (join_one x).symm
  · exact (join_one _).symm
theorem CondC.wd_ne {ks : List Kind} {nm : List Str} {n : Nat} {d : D} (c : CondC ks nm n d) : wdC n d ≠ [] := by
  cases c with
  | cmp hz ha hb => rw [wdC_cmp hz]; simp
  | neg _ => rw [wdC_join (.inr (.inr rfl))]; simp
  | two hz _ _ _ => rw [wdC_join hz]; simp
theorem txC_join {n : Nat} {z : Str} {ds : List D} (hz : isJ z) : txC (n + 1) (.tup (.str z :: ds)) = Txt.join spc (z :: ds.map (txC n)) := by
  show (if z = "is" ∨ z = "above" then _ else _) = _
  rw [if_neg (isJ_no hz)]
theorem txC_cmp {n : Nat} {z : Str} {a b : D} (hz : z = "is" ∨ z = "above") : txC (n + 1) (.tup [.str z, a, b]) = txA a ++ spc ++ z ++ spc ++ txA b := by
  show (if z = "is" ∨ z = "above" then _ else _) = _
  rw [if_pos hz]
theorem CondC.text {ks : List Kind} {nm : List Str} {n : Nat} {d : D} (c : CondC ks nm n d) : txC n d = Txt.join spc (wdC n d) := by
  induction c with
  | @cmp n z a b hz ha hb =>
    rw [txC_cmp hz, wdC_cmp hz, txA_wd ha, txA_wd hb]
    have e : wdA a ++ z :: wdA b = wdA a ++ ([z] ++ wdA b) := rfl
    rw [e, join_app (wdA_ne ha) (by simp), join_app (by simp) (wdA_ne hb), join_one]
    refine ext_tl ?_
    simp only [tl_append, List.append_assoc]
  | @neg n a ca ih =>
    rw [txC_join (.inr (.inr rfl)), wdC_join (.inr (.inr rfl))]
    have e : ("not" : Str) :: ([a].map (wdC n)).flatten = [Str.ofString "not"] ++ wdC n a := by simp
    have e2 : ("not" : Str) :: [a].map (txC n) = [Str.ofString "not"] ++ [txC n a] := rfl
    rw [e, e2, join_app (by simp) (by simp), join_app (by simp) ca.wd_ne, ih, join_one, join_one]
  | @two n z a b hz hn ca cb i1 i2 =>
    rw [txC_join hz, wdC_join hz]
    have e : z :: ([a, b].map (wdC n)).flatten = [z] ++ (wdC n a ++ wdC n b) := by simp
    have e2 : z :: [a, b].map (txC n) = [z] ++ ([txC n a] ++ [txC n b]) := rfl
    rw [e, e2, join_app (by simp) (by simp), join_app (by simp) (by simp), join_app (by simp) (by simp [ca.wd_ne]), join_app ca.wd_ne cb.wd_ne, i1, i2, join_one, join_one, join_one]
/-- no word has a blank -/
theorem wdA_spc {ks : List Kind} {nm : List Str} (N : NmOk nm) (S : ∀ s ∈ sidesOf ks, 32 ∉ tl s) {a : D} (h : amtOk ks nm a = true) : ∀ w ∈ wdA a, 32 ∉ tl w := by
  rcases amt_cases h with ⟨s, rfl, hs⟩ | ⟨x, rfl, hx⟩ | ⟨k, hk, rfl⟩
  · intro w hw
    have hw : w ∈ [Str.ofString "due", s] := hw
    rcases List.mem_cons.mp hw with rfl | hw
    · decide +kernel
    · rw [List.mem_singleton.mp hw]; exact S s hs
  · intro w hw
    have hw : w ∈ [x] := hw
    rw [List.mem_singleton.mp hw]; exact N.spc x hx
  · intro w hw
    have hw : w ∈ [digS (k : Int).toNat] := hw
    rw [List.mem_singleton.mp hw, Int.toNat_natCast]
    show 32 ∉ [48 + k]
    intro z
    have := List.mem_singleton.mp z
    omega
theorem key_spc {z : Str} (h : isJ z ∨ z = "is" ∨ z = "above") : 32 ∉ tl z := by
  rcases h with (h | h | h) | h | h <;> rw [h] <;> decide +kernel
theorem CondC.spc {ks : List Kind} {nm : List Str} (N : NmOk nm) (S : ∀ s ∈ sidesOf ks, 32 ∉ tl s) {n : Nat} {d : D} (c : CondC ks nm n d) : ∀ w ∈ wdC n d, 32 ∉ tl w := by
  induction c with
  | @cmp n z a b hz ha hb =>
    rw [wdC_cmp hz]
    intro w hw
    rcases List.mem_append.mp hw with hw | hw
    · exact wdA_spc N S ha w hw
    · rcases List.mem_cons.mp hw with rfl | hw
      · exact key_spc (.inr hz)
      · exact wdA_spc N S hb w hw
  | @neg n a ca ih =>
    rw [wdC_join (.inr (.inr rfl))]
    intro w hw
    rcases List.mem_cons.mp hw with rfl | hw
    · exact key_spc (.inl (.inr (.inr rfl)))
    · exact ih w (by simpa using hw)
  | @two n z a b hz hn ca cb i1 i2 =>
    rw [wdC_join hz]
    intro w hw
    rcases List.mem_cons.mp hw with rfl | hw
    · exact key_spc (.inl hz)
    · have hw : w ∈ wdC n a ++ wdC n b := by simpa using hw
      exact (List.mem_append.mp hw).elim (i1 w) (i2 w)
def progRead (ks : List Kind) (nm : List Str) (x : Str) : Option D := if condOk ks nm 4 (tkC 4 (Txt.split x spc)).1 = true ∧ txC 4 (tkC 4 (Txt.split x spc)).1 = x then some (tkC 4 (Txt.split x spc)).1 else none
theorem read_eq {ks : List Kind} {nm : List Str} (N : NmOk nm) (S : ∀ s ∈ sidesOf ks, 32 ∉ tl s) (x : Str) : lawDue ks nm x = progRead ks nm x := by
  have hj : Txt.join spc (Txt.split x spc) = x := by rw [join_eq]; exact StrLaws.join_split x spc
  unfold lawDue progRead
  cases h : rdC ks nm 4 (Txt.split x spc) with
  | some p =>
    obtain ⟨d, r⟩ := p
    obtain ⟨h1, h2, h3⟩ := rdC_ok N h
    cases r with
    | nil =>
      dsimp only
      rw [List.append_nil] at h3
      rw [h1]
      have c := CondC.of h2
      rw [if_pos ⟨h2, by show txC 4 d = x; rw [c.text, ← h3, hj]⟩]
    | cons w r =>
      dsimp only
      rw [if_neg]
      rintro ⟨c1, c2⟩
      rw [h1] at c1 c2
      have c1 : condOk ks nm 4 d = true := c1
      have c2 : txC 4 d = x := c2
      have c := CondC.of c1
      rw [c.text] at c2
      have z := split_join (y := spc) (s := 32) (S := []) rfl (by decide +kernel) c.wd_ne (c.spc N S)
      rw [c2] at z
      rw [z] at h3
      have z2 := congrArg List.length h3
      rw [List.length_append, List.length_cons] at z2
      omega
  | none =>
    dsimp only
    rw [if_neg]
    rintro ⟨c1, c2⟩
    have c := CondC.of c1
    rw [c.text] at c2
    have z := split_join (y := spc) (s := 32) (S := []) rfl (by decide +kernel) c.wd_ne (c.spc N S)
    rw [c2] at z
    have y := c.read N []
    rw [List.append_nil, ← z, h] at y
    cases y
end NH
set_option maxHeartbeats 4000000
namespace NH
open PySem PySem.Spec PyProof.Rows L2
/-- a def's promise for calls under which no repr is under way -/
structure FnG (P : Program) (w : World) (K : PySem.W.Frag) (mg : Str → Option Value) (base : Heap) (k : Nat) (f : Addr) (fd : FuncData) (ps : List Str) (sp : Sp) : Prop where
  long : ∀ vs H Q E, sp vs H Q E → vs.length = ps.length
  goes : ∀ (A : Around) (ou : List Env) (s : Shared) (H : Hp) (ar : Args) (us : List Value) (vs : List V) (Q : VK) (E : XK), A.guards = some [] → Room k A → Env0 P w K mg base A ou s H →
    BindsTo s fd ar (ps.zip us) → Vals vs us → sp vs H Q E → codeAny (model P w) A (.call (.ref f) ar) (CR CX0 ou P w H s Q E) s
section
variable {P : Program} {w : World} {K : PySem.W.Frag} {mg : Str → Option Value} {base : Heap} {k : Nat} {f : Addr} {fd : FuncData} {sp : Sp}
theorem FnG.make {x : Str} {st : Stmt} {N ps : List Str} (F : FunD K x x (defArgs st) (defBody st) (defScope st) [] [] f fd) (S : FnScope N ps (defScope st)) (long : ∀ vs H Q E, sp vs H Q E → vs.length = ps.length)
    (does : ∀ (cd : Value) (A : Around) (ou : List Env) (s : Shared) (H : Hp) (vs : List V) (Q : VK) (E : XK), A.guards = some [] → Room k (A.deeper (envOfC x (defScope st) s.heap.objs.size f cd)) → sp vs H Q E →
      ∃ t, PSs (cxOf CX0 P w K mg base N x (defScope st) f cd A ou s H E) (defBody st) t ∧ t { nx := fun _ H' => Q .non H', rt := Q } (start N vs) H) : FnG P w K mg base (k + 1) f fd ps sp := by
  obtain ⟨_, _, _, _, _, _, _, cd, _, _, rfl, here, code, _⟩ := F.ex
  refine ⟨long, fun A ou s H ar us vs Q E hg hr e0 bnd rel want => ?_⟩
  have stays : ∀ (b : Addr) (o : Obj), base.get? b = some o → s.heap.get? b = some o := fun b o e => (e0.bs b o e).1
  have KH : K.In s.heap := e0.mod.kin.keeps stays
  have kinds : ∀ y ∈ ps.zip us, (defScope st).names.lookup y.1 = some .local ∨ ((defScope st).names.lookup y.1 = some .cell ∧ ((cellsFrom (s.heap.objs.size + 1) (defScope st).names []).lookup y.1).isSome = true) := by
    rintro ⟨n, v⟩ hy
    exact (S.par n (List.of_mem_zip hy).1).imp id fun q => ⟨q, PySem.W.cellsFrom_some _ _ _ (.inl q)⟩
  refine codeAny_call_function hr.depth (KH _ _ here) rfl S.co S.gen rfl (PySem.W.codeRec_of KH code) (bnd _ _ _ _ (wpAny_newFunctionEnv_cells S.kind kinds ?_))
  rintro env rfl s1 made
  refine ⟨(e0.mod.nolimit.keeps stays).keeps made.toInCall.keep, codeAny_func ?_⟩
  obtain ⟨t, runs, holds⟩ := does cd A ou s H vs Q E hg (hr.deeper _) want
  refine wpAny_mono (runs.run [] s1 (start N vs) H _ (inv_start S hr.hd e0 (long _ _ _ _ want) rel made) holds) (fun fl s' z => ?_) fun _ _ z => z
  cases fl with
  | brk => rcases z with ⟨_, _, _, z⟩; exact z.elim
  | cont => rcases z with ⟨_, _, _, z⟩; exact z.elim
  | ret u => obtain ⟨v, σ', H', J, rv, q⟩ := z; exact ⟨v, H', J.os, J.bare, J.base, J.hok, rv, q⟩
  | next => obtain ⟨σ', H', J, q⟩ := z; exact ⟨V.non, H', J.os, J.bare, J.base, J.hok, rfl, q⟩
end
theorem no_guard {A : Around} {env : Env} (h : A.guards = some []) : (A.deeper env).guards = some [] := h
/-- a def that keeps a promise where no repr is under way -/
structure CalleeG (P : Program) (w : World) (K : PySem.W.Frag) (mg : Str → Option Value) (base : Heap) (k : Nat) (x : Str) (ps : List Str) (sp : Sp) : Prop where
  ex : ∃ f fd, mg x = some (.ref f) ∧ PySem.W.keepIn K (.ref f) = true ∧ Binds K fd ps [] ∧ FnG P w K mg base k f fd ps sp
section
variable {P : Program} {w : World} {K : PySem.W.Frag} {mg : Str → Option Value} {base : Heap} {X : Cx}
theorem calleeG {x : Str} {st : Stmt} {N ps : List Str} {k : Nat} {sp : Sp} (D : DefAt K mg x st) (S : FnScope N ps (defScope st)) (len : ∀ vs H Q E, sp vs H Q E → vs.length = ps.length)
    (hb : ∀ (kV doc pm : Value) (an : Option Addr) (cdv ct : Value) (us : List Value), us.length = ps.length → bindArgs (PySem.W.fnOf x x (defArgs st) (defBody st) (defScope st) .none kV doc pm an cdv ct) ⟨us, []⟩ = pure (ps.zip us))
    (does : ∀ (f : Addr) (cdv : Value) (A : Around) (outer : List Env) (s : Shared) (H : Hp) (vs : List V) (Q : VK) (E : XK), A.guards = some [] → Room k (A.deeper (envOfC x (defScope st) s.heap.objs.size f cdv)) → sp vs H Q E →
      ∃ t, PSs (cxOf CX0 P w K mg base N x (defScope st) f cdv A outer s H E).nox (defBody st) t ∧ t { nx := fun _ H' => Q .non H', rt := Q } (start N vs) H) : CalleeG P w K mg base (k + 1) x ps sp := by
  obtain ⟨fd, F⟩ := D.f
  exact ⟨_, fd, D.g, F.kp, F.bindsN hb, FnG.make F S len fun cdv A outer s H vs Q E hg hr h => let ⟨t, h1, h2⟩ := does _ cdv A outer s H vs Q E hg hr h; ⟨t, h1.nox, h2⟩⟩
theorem pe_calG {k j : Nat} {x : Str} {ps : List Str} {sp : Sp} {e : Expr} {es : List Expr} {p pos : Pos} {t : TA} (c : CalleeG X.prog X.w X.K X.mg X.base k x ps sp) (hgu : X.A.guards = some []) (hr : Room j X.A) (hj : k ≤ j) (ha : PA X (e :: es) t) (hg : Gl X x := by rfl)
    (hdb : (x == ("__debug__" : Str)) = false := by decide) (he : starEach (e :: es) X.env = (false, eval e X.env) :: starEach es X.env := by rfl) (hpl : (backTo pos (starEach es X.env)).any (·.1) = false := by rfl) :
    PE X (.Call (.Name x p) (e :: es) [] pos) (tCall sp [] E0 t) := by
  obtain ⟨f, fd, hm, hk, hb, F⟩ := c.ex
  refine ⟨fun pins s σ H Q I h => wpAny_Call_Name_kw (ld_glob I hg hm ?_ hdb)⟩
  refine PySem.W.callWith_K (h₀ := X.base) I.ok.mod.kin hk (thn (ha.run pos pins s σ H _ I h) fun us s1 ⟨vs, H1, J, rel, want⟩ => ⟨J.kIn, ?_⟩) he hpl
  have want : sp (vs ++ []) H1 Q E0 := want
  rw [List.append_nil] at want
  have bnd := hb s1 us J.kIn (by rw [List.append_nil, ← rel.length]; exact F.long _ _ _ _ want)
  rw [List.append_nil] at bnd
  refine wpAny_call (codeAny_mono (F.goes X.A X.stack s1 H1 ⟨us, []⟩ us vs Q E0 hgu (hr.mono hj) J.env0 bnd rel want) fun r s' z => ?_)
  match r, z with
  | .ok (.ret _), z => exact J.after z
end
/-- the law's run, where its def is known by FnG; the base holds what stood there -/
theorem lawG {P : Program} {w : World} {K : PySem.W.Frag} {mg mb : Str → Option Value} {k : Nat} {fa a : Addr} {fd : FuncData} {x : Str} {sp : Sp} {s1 : Shared} {vs : List Value} {ns : List Int}
    (kin : K.In s1.heap) (glo : s1.heap.Ns mainGlobals mg) (bl : s1.heap.Ns builtinsNs mb) (boot : ∀ y : Str, y ≠ "__name__" → mb y = bootBuiltins y) (free : s1.heap.NoLimit) (calm : s1.gens = #[])
    (obj : s1.heap.get? a = some { cls := .type "list", data := .seq vs.toArray }) (nums : IntsAre vs ns) (most : ns.length ≤ sizeLine) (hr : Room k callerA)
    (F : ∀ base : Heap, K.In base → base.Ns mainGlobals mg → FnG P w K mg base k fa fd [x] sp) (bnd : ∀ (s : Shared) (u : Value), BindsTo s fd ⟨[u], []⟩ [(x, u)])
    (says : ∀ H : Hp, Only H → SqL K H a (ns.map V.int) → sp [.ref a] H (fun v _ => v = .bl true) fun _ _ _ => False) :
    codeAny (model P w) callerA (.call (.ref fa) ⟨[.ref a], []⟩) (fun r s' => r = .ok (.ret (.bool true)) ∧ OldK s1.heap s'.heap ∧ s'.os = s1.os ∧ AllBare s'.gens) s1 := by
  have rel := vals_ints nums
  have many := nums.length
  have go : ∀ H : Hp, Only H → SqL K H a (ns.map V.int) → HOk P w H s1.heap → (∀ b, H b ≠ none → b = a) → (H a ≠ none → K.lookup a = none) →
      codeAny (model P w) callerA (.call (.ref fa) ⟨[.ref a], []⟩) (fun r s' => r = .ok (.ret (.bool true)) ∧ OldK s1.heap s'.heap ∧ s'.os = s1.os ∧ AllBare s'.gens) s1 := by
    intro H one sq ok lone apart
    have off : ∀ {b : Addr} {o : Obj}, s1.heap.get? b = some o → (b = a → False) → (hidT s1.heap H).get? b = some o := fun {b o} e n => hidT_get e (Classical.byContradiction fun z => n (lone b z))
    have offNs : ∀ {b : Addr} {m : Str → Option Value}, s1.heap.Ns b m → (hidT s1.heap H).Ns b m := by
      rintro b m ⟨o, es, ep, e, d, r⟩
      refine ⟨o, es, ep, off e fun z => ?_, d, r⟩
      rw [z, obj] at e
      cases e
      cases d
    have kb : K.In (hidT s1.heap H) := fun b o e => by
      by_cases z : H b = none
      · exact hidT_get (kin b o e) z
      · have y := lone b z
        rw [y, apart (by rw [← y]; exact z)] at e
        cases e
    have e0 : Env0 P w K mg (hidT s1.heap H) callerA [] s1 H :=
      { frames := rfl, mod := ⟨kb, offNs glo, ⟨mb, offNs bl, boot⟩, free.elim fun mc z => ⟨mc, offNs z.1, z.2⟩⟩, bs := fun b o e => of_hidT e, bsz := by rw [hidT_size]; exact Nat.le_refl _
        funs := trivial, frf := (fun b hb => nomatch (show b ∈ ([] : List Addr) from hb)), hok := ok, bare := .of_eq calm }
    refine codeAny_mono ((F _ kb (offNs glo)).goes callerA [] s1 H ⟨[.ref a], []⟩ [.ref a] [.ref a] _ _ rfl hr e0 (bnd s1 (.ref a)) (.cons rfl .nil) (says H one sq)) fun r s' z => ?_
    match r, z with
    | .ok (.ret u), ⟨v, H', os, bare, un, ok', rv, ev⟩ =>
      have ev : v = .bl true := ev
      subst ev
      obtain rfl : u = Value.bool true := rv
      refine ⟨rfl, OldK.of_keep fun b o e => ?_, os, bare⟩
      rcases one b with z | ⟨ob, xs, z⟩
      · exact un.keep b o e z (by intro y; cases y) (by intro y; cases y)
      · have l1 := (show ObjOk P w H s1.heap b (.frz ob (.lst xs)) from ok b _ z).1
        have l2 := (show ObjOk P w H' s'.heap b (.frz ob (.lst xs)) from ok' b _ (un.frzs b ob _ z)).1
        rw [e] at l1
        cases l1
        exact l2
  cases hk : K.lookup a with
  | some o =>
    have e := kin a o hk
    rw [obj] at e
    cases e
    exact go (fun _ => none) (fun _ => .inl rfl) (.inr ⟨_, vs.toArray, _, hk, rfl, rfl, rfl, by rw [List.size_toArray, many]; exact most, by simpa using rel⟩) (fun _ _ z => nomatch z) (fun _ z => (z rfl).elim) fun z => (z rfl).elim
  | none =>
    have at_ : ∀ b, (if b = a then some (HO.frz { cls := .type "list", data := .seq vs.toArray } (.lst (ns.map V.int))) else none) ≠ none → b = a := fun b z => Classical.byContradiction fun y => z (if_neg y)
    refine go (fun b => if b = a then some (.frz { cls := .type "list", data := .seq vs.toArray } (.lst (ns.map V.int))) else none) (fun b => ?_) (.inl (.inr ⟨{ cls := .type "list", data := .seq vs.toArray }, if_pos rfl⟩)) (fun b u z => ?_) at_ fun _ => hk
    · by_cases y : b = a
      · exact .inr ⟨_, _, if_pos y⟩
      · exact .inl (if_neg y)
    · have y : b = a := at_ b fun t => nomatch (show (none : Option HO) = some u from t.symm.trans z)
      subst y
      have z := (if_pos rfl).symm.trans z
      cases z
      exact ⟨obj, by rw [List.length_map]; exact most, vs, _, rel, obj⟩
/-- the walk of a law, from FnG -/
theorem walkG {l : PySem.W.OpenLaw} {n k : Nat} {q : Program} {loose : List Str} {XP : (Str → Option Value) → Heap → Prop} {YP : World → Heap → Prop} {d : DefRec} {x : Str}
    (hn : l.most = some n) (hn2 : n ≤ sizeLine) (hdf : d.params.defaults = []) (hr : Room k callerA)
    (F : ∀ (w : World) (mg : Str → Option Value) (fa : Addr) (h : Heap), YP w h → h.Ns mainGlobals mg → mg d.name = some (.ref fa) →
      ∃ (K : PySem.W.Frag) (fd : FuncData) (sp : Sp), K.In h ∧ (∀ (s : Shared) (u : Value), BindsTo s fd ⟨[u], []⟩ [(x, u)]) ∧
        (∀ (H : Hp) (a : Addr) (ns : List Int), ns.length ≤ n → Only H → SqL K H a (ns.map V.int) → sp [.ref a] H (fun v _ => v = .bl true) fun _ _ _ => False) ∧
        ∀ base : Heap, K.In base → base.Ns mainGlobals mg → FnG l.prog w K mg base k fa fd [x] sp) : PySem.W.WalkO q loose XP YP l.row.toRowW d [] (fun f vs => PySem.call f vs) := by
  refine Att.attach_call hn hdf fun w s0 s1 mg mb fa o pm cd doc a vs ns G Y ho hd hcd name obj nums most calm => ?_
  obtain ⟨K, fd, sp, kin, bnd, says, does⟩ := F w mg fa _ Y G.T.g name
  exact lawG kin G.T.g G.T.b G.T.builtins G.T.nolimit calm obj nums (Nat.le_trans most hn2) hr does bnd fun H one sq => says H a ns most one sq
end NH
set_option maxHeartbeats 4000000
namespace NH
open PySem PySem.Spec PyProof.Rows L2 TL
/-! ### the repr of data -/
mutual
def D.py : D → PyData
  | .non => .none
  | .bl b => .bool b
  | .int i => .int i
  | .str x => .str x
  | .lst ds => .list (D.pys ds)
  | .tup ds => .tuple (D.pys ds)
  | .dic => .dict []
def D.pys : List D → List PyData
  | [] => []
  | d :: ds => d.py :: D.pys ds
end
mutual
/-- how much of it there is -/
def D.sz : D → Nat
  | .str x => 1 + x.length
  | .lst ds => 1 + D.szs ds
  | .tup ds => 1 + D.szs ds
  | _ => 1
def D.szs : List D → Nat
  | [] => 0
  | d :: ds => d.sz + D.szs ds
end
mutual
def D.dep : D → Nat
  | .lst ds => D.deps ds + 1
  | .tup ds => D.deps ds + 1
  | .dic => 1
  | _ => 0
def D.deps : List D → Nat
  | [] => 0
  | d :: ds => max d.dep (D.deps ds)
end
mutual
/-- small numbers, plain signs -/
def D.fit : D → Prop
  | .int i => i.natAbs ≤ 1000
  | .str x => ∀ c ∈ x.cps.toList, c < 128
  | .lst ds => D.fits ds
  | .tup ds => D.fits ds
  | _ => True
def D.fits : List D → Prop
  | [] => True
  | d :: ds => d.fit ∧ D.fits ds
end
theorem lst_len : ∀ ts : List Str, (listText ts).length ≤ 2 + piled ts
  | [] => by rw [listText_nil]; decide
  | t :: r => by
    have e : listText (t :: r) = textFrom 1 (("[" : Str) ++ ("" : Str) ++ t) r ++ "]" := rfl
    rw [e, strLen_append, textFrom_length_pos r 1 _ (by decide), strLen_append, strLen_append, piled_cons]
    have e1 : ("[" : Str).length = 1 := rfl
    have e2 : ("]" : Str).length = 1 := rfl
    have e3 : ("" : Str).length = 0 := rfl
    omega
theorem tup_len (ts : List Str) : (tupleText ts).length ≤ 3 + piled ts := by
  unfold tupleText
  rw [strLen_append, strLen_append]
  have e1 : (("(" : String) : Str).length = 1 := rfl
  have e3 : (((if ts.length == 1 then ",)" else ")" : String) : Str)).length ≤ 2 := by split <;> decide
  rw [e1]
  by_cases h : ts = []
  · subst h; exact Nat.le_trans (Nat.add_le_add_left e3 _) (by decide)
  · have := join_length_add ts h
    omega
theorem int_len : ∀ n : Nat, n ≤ 1000 → ((toString (n : Int) : String) : Str).length ≤ 5 ∧ ((toString (-(n : Int)) : String) : Str).length ≤ 5 := by decide +kernel
mutual
theorem D.shown_len : ∀ d : D, d.fit → d.py.shown.length + 2 ≤ 12 * d.sz
  | .non, _ => by decide
  | .bl b, _ => by cases b <;> decide
  | .int i, h => by
    have z := int_len i.natAbs h
    have e : ((toString i : String) : Str).length ≤ 5 := by
      rcases Int.natAbs_eq i with y | y
      · rw [y]; exact z.1
      · rw [y]; exact z.2
    show ((toString i : String) : Str).length + 2 ≤ 12 * 1
    omega
  | .str x, h => by
    have z := StrLaws.reprText_len x fun c hc => Nat.lt_trans (h c hc) (by decide)
    show (reprText x).length + 2 ≤ 12 * (1 + x.length)
    omega
  | .lst ds, h => by
    have z := D.shown_lens ds h
    have y := lst_len (PyData.shownAll (D.pys ds))
    show (listText (PyData.shownAll (D.pys ds))).length + 2 ≤ 12 * (1 + D.szs ds)
    omega
  | .tup ds, h => by
    have z := D.shown_lens ds h
    have y := tup_len (PyData.shownAll (D.pys ds))
    show (tupleText (PyData.shownAll (D.pys ds))).length + 2 ≤ 12 * (1 + D.szs ds)
    omega
  | .dic, _ => by decide
theorem D.shown_lens : ∀ ds : List D, D.fits ds → piled (PyData.shownAll (D.pys ds)) ≤ 12 * D.szs ds
  | [], _ => Nat.zero_le _
  | d :: ds, h => by
    have a := D.shown_len d h.1
    have b := D.shown_lens ds h.2
    show piled (d.py.shown :: PyData.shownAll (D.pys ds)) ≤ 12 * (d.sz + D.szs ds)
    rw [piled_cons]
    omega
end
mutual
theorem D.showable : ∀ d : D, d.fit → d.py.showable = true
  | .non, _ => rfl
  | .bl b, _ => rfl
  | .int i, h => decide_eq_true (Nat.lt_of_le_of_lt (Nat.log2_le_self _) (Nat.lt_of_le_of_lt h (by decide)))
  | .str x, _ => rfl
  | .lst ds, h => D.showables ds h
  | .tup ds, h => D.showables ds h
  | .dic, _ => rfl
theorem D.showables : ∀ ds : List D, D.fits ds → PyData.showableAll (D.pys ds) = true
  | [], _ => rfl
  | d :: ds, h => by
    show (d.py.showable && PyData.showableAll (D.pys ds)) = true
    rw [D.showable d h.1, D.showables ds h.2]; rfl
end
mutual
theorem D.dep_py : ∀ d : D, d.py.depth = d.dep
  | .non | .bl _ | .int _ | .str _ => rfl
  | .lst ds => congrArg (· + 1) (D.deps_py ds)
  | .tup ds => congrArg (· + 1) (D.deps_py ds)
  | .dic => rfl
theorem D.deps_py : ∀ ds : List D, PyData.depthAll (D.pys ds) = D.deps ds
  | [] => rfl
  | d :: ds => by
    show max d.py.depth (PyData.depthAll (D.pys ds)) = _
    rw [D.dep_py d, D.deps_py ds]; rfl
end
section
variable {X : Cx} {pins : List (Addr × Obj)} {σ : L2.St} {H : Hp} {s : Shared}
theorem dict_none (I : Inv X pins σ H s) {a : Addr} (e : H a = some (.dK [])) : ∃ n, s.heap.get? a = some (NEq.dO #[] n) := by
  obtain ⟨_, _, vs, kv, o, es, ep, h1, h2, h3, _, h4, _⟩ := (show ObjOk X.prog X.w H s.heap a (.dK []) from I.hok a _ e)
  cases kv
  obtain ⟨oc, od, dt, sl⟩ := o
  obtain ⟨c1, c2, c3⟩ := h2
  dsimp only at c1 c2 c3 h3
  subst c1 c2 c3 h3
  have e2 : es = #[] := Array.toList_inj.mp (by generalize es.toList = l at h4; cases h4; rfl)
  subst e2
  exact ⟨ep, h1⟩
mutual
theorem Dd.reads (I : Inv X pins σ H s) : ∀ {v : V} {d : D} {u : Value}, Dd H v d → RelV v u → ∃ as, Reads s.heap u d.py as ∧ ∀ a ∈ as, ∃ o, H a = some o
  | _, _, _, .non, r => by cases r; exact ⟨_, Reads.none, by simp⟩
  | _, _, _, .bl b, r => by cases r; exact ⟨_, Reads.bool b, by simp⟩
  | _, _, _, .int i, r => by obtain ⟨t, rfl⟩ := r; exact ⟨_, Reads.int i t, by simp⟩
  | _, _, _, .str x, r => by obtain ⟨t, rfl⟩ := r; exact ⟨_, Reads.str x t, by simp⟩
  | _, _, _, .lst (a := a) e h, r => by
    cases r
    obtain ⟨its, rv, ⟨o, n, ho, hc, _, hd⟩, _⟩ := I.list (SqL.of e)
    obtain ⟨as, hr, ha⟩ := DdL.reads I h rv
    exact ⟨_, Reads.list ho hc hd hr, fun b hb => by
      rcases List.mem_cons.mp hb with rfl | hb
      · exact ⟨_, e⟩
      · exact ha b hb⟩
  | _, _, _, .tup e h, r => by
    cases r
    obtain ⟨its, rv, ⟨o, ho, hc, n, hd⟩, _⟩ := I.tuple (SqT.of e)
    obtain ⟨as, hr, ha⟩ := DdL.reads I h rv
    exact ⟨_, Reads.tuple ho hc hd hr, ha⟩
  | _, _, _, .dic (a := a) e, r => by
    cases r
    obtain ⟨n, ho⟩ := dict_none I e
    exact ⟨_, Reads.dict (as := []) (bs := []) ho rfl rfl .nil .nil, fun b hb => by
      have hb : b ∈ a :: ([] ++ []) := hb
      rcases List.mem_cons.mp hb with rfl | hb
      · exact ⟨_, e⟩
      · simp at hb⟩
theorem DdL.reads (I : Inv X pins σ H s) : ∀ {vs : List V} {ds : List D} {us : List Value}, DdL H vs ds → Vals vs us → ∃ as, ReadsAll s.heap us (D.pys ds) as ∧ ∀ a ∈ as, ∃ o, H a = some o
  | _, _, _, .nil, r => by cases r; exact ⟨_, .nil, by simp⟩
  | _, _, _, .cons h t, r => by
    cases r with
    | cons r1 r2 =>
      obtain ⟨as, q1, a1⟩ := Dd.reads I h r1
      obtain ⟨bs, q2, a2⟩ := DdL.reads I t r2
      exact ⟨_, .cons q1 q2, fun b hb => (List.mem_append.mp hb).elim (a1 b) (a2 b)⟩
end
/-- repr(x), x any datum, where no repr is under way -/
def rRepr : List V → Hp → VK → Prop := fun xs H Q => ∃ (v : V) (d : D), xs = [v] ∧ Dd H v d ∧ d.fit ∧ d.sz ≤ 1000000 ∧ d.dep ≤ 40 ∧ Q (.str d.py.shown) H
theorem call_repr (hg : X.A.guards = some []) (hu : X.A.units + 64 < cLine) (sm : ∃ o, X.base.get? sysModules = some o) : CallR X (.builtin "repr") rRepr := by
  intro pins s σ H xs us Q I r h
  obtain ⟨v, d, rfl, hd, fit, sz, dep, q⟩ := h
  obtain ⟨u, rfl, rv⟩ := vals1 r
  have short : d.py.shown.length ≤ sizeLine := Nat.le_trans (by have := D.shown_len d fit; omega : d.py.shown.length ≤ 12000000) (by decide)
  obtain ⟨as, rd, ours⟩ := Dd.reads I hd rv
  have fin : ∀ (h' : Heap) (w' tk : Tok), (∀ b o, s.heap.get? b = some o → h'.get? b = some o) → EP X pins σ Q (.str d.py.shown w') { s with heap := h', toks := tk } := fun h' w' tk hk => ⟨.str d.py.shown, H, I.kept hk, ⟨w', rfl⟩, q⟩
  have same : ∀ tk : Tok, EP X pins σ Q (.str d.py.shown s.toks) { s with toks := tk } := fun tk => fin s.heap _ tk fun _ _ e => e
  have far : sysModules ∉ as := fun z => by
    obtain ⟨o, e⟩ := ours _ z
    obtain ⟨b, y⟩ := sm
    rw [(I.bs _ b y).2] at e; cases e
  have room : X.A.units + (d.py.depth + 1) < cLine := by rw [D.dep_py]; omega
  cases hd with
  | non => cases rv; exact P.repr_of_none (same _)
  | bl b => cases rv; cases b <;> exact P.repr_of_bool (same _)
  | int i => obtain ⟨t, rfl⟩ := rv; exact P.repr_of_int (Nat.lt_of_le_of_lt (Nat.log2_le_self _) (Nat.lt_of_le_of_lt fit (by decide))) (same _)
  | str x => obtain ⟨t, rfl⟩ := rv; exact P.repr_of_str (same _) short
  | lst e _ => cases rv; exact repr_of_reads' rd (D.showable _ fit) (fun _ => far) hg room (fun _ _ e => e) fin short
  | tup e _ => cases rv; exact repr_of_reads' rd (D.showable _ fit) (fun _ => far) hg room (fun _ _ e => e) fin short
  | dic e => cases rv; exact repr_of_reads' rd (D.showable _ fit) (fun _ => far) hg room (fun _ _ e => e) fin short
end
end NH
set_option maxHeartbeats 4000000
namespace NH
open PySem PySem.Spec PyProof.Rows L2 TL
/-- a plain short text -/
def Pl (k : Nat) (x : Str) : Prop := (∀ c ∈ tl x, c < 128) ∧ (tl x).length ≤ k
theorem Pl.mono {k j : Nat} {x : Str} (h : Pl k x) (l : k ≤ j) : Pl j x := ⟨h.1, Nat.le_trans h.2 l⟩
theorem Pl.app {k j : Nat} {x y : Str} (h : Pl k x) (g : Pl j y) : Pl (k + j) (x ++ y) := by
  unfold Pl
  rw [tl_append]
  exact ⟨fun c hc => (List.mem_append.mp hc).elim (h.1 c) (g.1 c), by rw [List.length_append]; exact Nat.add_le_add h.2 g.2⟩
theorem Pl.cut {k : Nat} {x : Str} (h : Pl k x) (lo hi : Option Int) : Pl k (cutS x lo hi) := by
  have e : ∃ i j, tl (cutS x lo hi) = ((tl x).drop i).take j := ⟨_, _, rfl⟩
  obtain ⟨i, j, e⟩ := e
  unfold Pl
  rw [e]
  exact ⟨fun c hc => h.1 c (List.mem_of_mem_drop (List.mem_of_mem_take hc)), Nat.le_trans (List.length_take_le' ..) (Nat.le_trans (by rw [List.length_drop]; omega) h.2)⟩
theorem Pl.len {k : Nat} {x : Str} (h : Pl k x) : x.length ≤ k := h.2
theorem Ltr.pl {x : Str} (h : Ltr x) {k : Nat} (l : (tl x).length ≤ k) : Pl k x := ⟨fun c hc => Nat.lt_of_le_of_lt (h c hc).2 (by decide), l⟩
theorem pl_of (x : Str) (h : ((tl x).all fun c => decide (c < 128)) = true) : Pl (tl x).length x := ⟨fun c hc => of_decide_eq_true (List.all_eq_true.mp h c hc), Nat.le_refl _⟩
theorem nw {H H1 : Hp} {p : Addr} {o : HO} (e : upd H p o = H1) (hp : H p = none) : Same H H1 ∧ H1 p = some o := by subst e; exact ⟨same_new hp, upd_same⟩
theorem old {H H1 : Hp} {p : Addr} (s : Same H H1) (h : H1 p = none) : H p = none := by
  cases y : H p with
  | none => rfl
  | some o => rw [s _ _ y] at h; cases h
theorem tkf {b n : Nat} {H H1 : Hp} {o : HO} (e : upd H b o = H1) (i : IsBox n o) : Kp [b] H H1 ∧ Bx b n H1 ∧ ∀ a, a ≠ b → H1 a = H a := by subst e; exact ⟨Kp.atb (by simp), ⟨o, upd_same, i⟩, fun a h => upd_ne h⟩
theorem menu (l : List Nat) {d : Nat} (h : d < l.length) : ∃ m ∈ l, atI (l.map fun k : Nat => V.int (k : Int)) (d : Int) = some (.int (m : Int)) :=
  ⟨l[d], List.getElem_mem h, atI_nat (by rw [List.getElem?_map, List.getElem?_eq_getElem h]; rfl)⟩
theorem menuS (l : List Str) {d : Nat} (h : d < l.length) : ∃ m ∈ l, atI (l.map V.str) (d : Int) = some (.str m) :=
  ⟨l[d], List.getElem_mem h, atI_nat (by rw [List.getElem?_map, List.getElem?_eq_getElem h]; rfl)⟩
end NH
set_option maxHeartbeats 4000000
namespace NH
open PySem PySem.Spec PyProof.Rows L2 TL
/-! ### what the law builds: data over a hidden heap -/
mutual
/-- numbers, texts, lists and tuples alone -/
def D.cln : D → Prop
  | .int i => i.natAbs ≤ 900
  | .str x => ∀ c ∈ x.cps.toList, c < 128
  | .lst ds => D.clns ds
  | .tup ds => D.clns ds
  | _ => False
def D.clns : List D → Prop
  | [] => True
  | d :: ds => d.cln ∧ D.clns ds
end
mutual
theorem D.cln_fit : ∀ {d : D}, d.cln → d.fit
  | .int _, h => Nat.le_trans h (by decide)
  | .str _, h => h
  | .lst _, h => D.clns_fits h
  | .tup _, h => D.clns_fits h
theorem D.clns_fits : ∀ {ds : List D}, D.clns ds → D.fits ds
  | [], _ => trivial
  | _ :: _, h => ⟨D.cln_fit h.1, D.clns_fits h.2⟩
end
/-- small data -/
structure Sm (k e : Nat) (d : D) : Prop where
  fit : d.cln
  sz : d.sz ≤ k
  dep : d.dep ≤ e
theorem Sm.mono {k e j f : Nat} {d : D} (s : Sm k e d) (h : k ≤ j) (g : e ≤ f) : Sm j f d := ⟨s.fit, Nat.le_trans s.sz h, Nat.le_trans s.dep g⟩
theorem Sm.str {k : Nat} {x : Str} (h : Pl k x) : Sm (1 + k) 0 (.str x) := ⟨h.1, Nat.add_le_add_left h.2 1, Nat.le_refl _⟩
theorem Sm.int {i : Int} (h : i.natAbs ≤ 900) : Sm 1 0 (.int i) := ⟨h, Nat.le_refl _, Nat.le_refl _⟩
inductive Sms (e : Nat) : Nat → List D → Prop
  | nil : Sms e 0 []
  | cons {k j : Nat} {d : D} {ds : List D} : Sm k e d → Sms e j ds → Sms e (k + j) (d :: ds)
theorem Sms.facts {e k : Nat} {ds : List D} (h : Sms e k ds) : D.clns ds ∧ D.szs ds ≤ k ∧ D.deps ds ≤ e := by
  induction h with
  | nil => exact ⟨trivial, Nat.le_refl _, Nat.zero_le _⟩
  | cons a _ ih => exact ⟨⟨a.fit, ih.1⟩, Nat.add_le_add a.sz ih.2.1, Nat.max_le.mpr ⟨a.dep, ih.2.2⟩⟩
theorem Sms.tup {e k : Nat} {ds : List D} (h : Sms e k ds) : Sm (1 + k) (e + 1) (.tup ds) := ⟨h.facts.1, Nat.add_le_add_left h.facts.2.1 1, Nat.add_le_add_right h.facts.2.2 1⟩
theorem Sms.lst {e k : Nat} {ds : List D} (h : Sms e k ds) : Sm (1 + k) (e + 1) (.lst ds) := ⟨h.facts.1, Nat.add_le_add_left h.facts.2.1 1, Nat.add_le_add_right h.facts.2.2 1⟩
theorem Sms.one {e k : Nat} {d : D} (h : Sm k e d) : Sms e k [d] := by have z := Sms.cons h .nil; exact z
theorem Sms.app {e : Nat} : ∀ {k j : Nat} {ds es : List D}, Sms e k ds → Sms e j es → Sms e (k + j) (ds ++ es)
  | _, j, _, _, .nil, h => by rw [Nat.zero_add]; exact h
  | _, j, _, _, .cons (k := a) (j := b) x t, h => by rw [Nat.add_assoc]; exact .cons x (Sms.app t h)
/-- the law's frame: its box b, the sides at s, the names at m; bs: what is still written -/
structure Gn (bs : List Addr) (b s m : Addr) (ys nm : List Str) (H : Hp) : Prop where
  inb : b ∈ bs
  al : Al bs H
  so : s ∉ bs
  sh : H s = some (.lst (ys.map .str))
  mo : m ∉ bs
  mh : H m = some (.lst (nm.map .str))
  y0 : 0 < ys.length
  yl : ys.length ≤ 100
  nl : nm.length ≤ 2
  yp : ∀ y ∈ ys, Pl 10 y
  np : ∀ y ∈ nm, Pl 10 y
section
variable {bs cs : List Addr} {b s m : Addr} {ys nm : List Str} {H H' : Hp} {n : Nat}
theorem Gn.kp (g : Gn bs b s m ys nm H) (k : Kp cs H H') (sub : ∀ a ∈ cs, a ∈ bs) (al : Al bs H') : Gn bs b s m ys nm H' :=
  { g with al := al, sh := k _ _ (fun z => g.so (sub _ z)) g.sh, mh := k _ _ (fun z => g.mo (sub _ z)) g.mh }
theorem Gn.same (g : Gn bs b s m ys nm H) (k : Same H H') : Gn bs b s m ys nm H' := { g with al := g.al.same k, sh := k _ _ g.sh, mh := k _ _ g.mh }
theorem Gn.tk (g : Gn bs b s m ys nm H) (k : Kp [b] H H') (x : Bx b n H') : Gn bs b s m ys nm H' := g.kp k (fun a z => by rw [List.mem_singleton.mp z]; exact g.inb) (g.al.kp k x)
/-- with one more that is still written -/
theorem Gn.more (g : Gn bs b s m ys nm H) {l : Addr} {o : HO} (hl : H l = none) (s1 : Same H H') (h : H' l = some o) : Gn (l :: bs) b s m ys nm H' :=
  { g with
    inb := List.mem_cons_of_mem _ g.inb
    al := fun a z => (List.mem_cons.mp z).elim (fun e => ⟨o, by rw [e]; exact h⟩) fun z => g.al.same s1 a z
    so := fun z => (List.mem_cons.mp z).elim (fun e => by have y := g.sh; rw [e, hl] at y; cases y) g.so
    sh := s1 _ _ g.sh
    mo := fun z => (List.mem_cons.mp z).elim (fun e => by have y := g.mh; rw [e, hl] at y; cases y) g.mo
    mh := s1 _ _ g.mh }
theorem Dd.hk {v : V} {d : D} (h : Dd (hid bs H) v d) (k : Kp cs H H') (sub : ∀ a ∈ cs, a ∈ bs) : Dd (hid bs H') v d := h.same (Kp.hid (k.mono sub))
theorem Dd.hs {v : V} {d : D} (h : Dd (hid bs H) v d) (k : Same H H') : Dd (hid bs H') v d := h.same (Kp.hid (Kp.of k))
theorem DdL.hs {v : List V} {d : List D} (h : DdL (hid bs H) v d) (k : Same H H') : DdL (hid bs H') v d := h.same (Kp.hid (Kp.of k))
theorem hid_more {l : Addr} : Same (hid (l :: bs) H) (hid bs H) := fun a o h => by
  obtain ⟨n1, e⟩ := hid_some h
  rw [hid_out fun z => n1 (List.mem_cons_of_mem _ z)]; exact e
/-- a new tuple, a new list of data -/
theorem Dd.newT {p : Addr} {xs : List V} {ds : List D} (al : Al bs H) (hp : H p = none) (s1 : Same H H') (h : H' p = some (.tup xs)) (hd : DdL (hid bs H) xs ds) : Dd (hid bs H') (.ref p) (.tup ds) :=
  .tup (by rw [hid_out (al.new hp)]; exact h) (hd.hs s1)
theorem Dd.newL {p : Addr} {xs : List V} {ds : List D} (al : Al bs H) (hp : H p = none) (s1 : Same H H') (h : H' p = some (.lst xs)) (hd : DdL (hid bs H) xs ds) : Dd (hid bs H') (.ref p) (.lst ds) :=
  .lst (by rw [hid_out (al.new hp)]; exact h) (hd.hs s1)
theorem dp_names {K : PySem.W.Frag} (h : H m = some (.lst (nm.map .str))) : Dp K H (.ref m) (.list (nm.map PyData.str)) := by
  refine .lst (SqL.of h) ?_
  clear h
  induction nm with
  | nil => exact .nil
  | cons x l ih => exact .cons (.str x) ih
theorem pl_ok {k : Nat} {x : Str} (h : Pl k x) : PyData.strOk x = true := by
  show x.cps.all _ = true
  rw [← Array.all_toList, List.all_eq_true]
  exact fun c hc => decide_eq_true (Nat.lt_trans (h.1 c hc) (by decide))
theorem names_shaped (np : ∀ y ∈ nm, Pl 10 y) : SeqAt.shaped (.list (nm.map PyData.str)) = true := by
  have h1 : ∀ l : List Str, (∀ y ∈ l, Pl 10 y) → PyData.canLayAll0 (l.map PyData.str) = true ∧ PyData.depthAll (l.map PyData.str) = 0 := fun l hp => by
    induction l with
    | nil => exact ⟨rfl, rfl⟩
    | cons x l ih =>
      have ih := ih fun y hy => hp y (List.mem_cons_of_mem _ hy)
      have ox := pl_ok (hp x (List.mem_cons_self ..))
      exact ⟨by show (PyData.strOk x && PyData.canLayAll0 (l.map PyData.str)) = true; rw [ih.1, ox]; rfl, by show max 0 (PyData.depthAll (l.map PyData.str)) = 0; rw [ih.2]; rfl⟩
  show (PyData.canLayAll0 (nm.map PyData.str) && decide (PyData.depthAll (nm.map PyData.str) + 1 ≤ 64)) = true
  rw [(h1 nm np).1, (h1 nm np).2]; rfl
theorem names_eqv : PyData.eqv (.list (nm.map PyData.str)) (.list []) = nm.isEmpty := by cases nm <;> rfl
theorem at_str {l : List Str} {d : Nat} (h : d < l.length) : ∃ x ∈ l, atI (l.map V.str) (d : Int) = some (.str x) := menuS l h
end
end NH
set_option maxHeartbeats 4000000
namespace NH
open PySem PySem.Spec PyProof.Rows L2 TL
/-- small data, one behind the other -/
structure Sl (k e : Nat) (ds : List D) : Prop where
  fit : D.clns ds
  sz : D.szs ds ≤ k
  dep : D.deps ds ≤ e
theorem Sl.nil {k e : Nat} : Sl k e [] := ⟨trivial, Nat.zero_le _, Nat.zero_le _⟩
theorem Sl.app {e : Nat} : ∀ {k j : Nat} {ds es : List D}, Sl k e ds → Sl j e es → Sl (k + j) e (ds ++ es)
  | k, j, [], es, _, h => ⟨h.fit, Nat.le_trans h.sz (Nat.le_add_left ..), h.dep⟩
  | k, j, d :: ds, es, h, g => by
    have a := h.sz
    have b := h.dep
    have a : d.sz + D.szs ds ≤ k := a
    have b : max d.dep (D.deps ds) ≤ e := b
    have z := Sl.app (k := k - d.sz) (ds := ds) (es := es) ⟨h.fit.2, by omega, by omega⟩ g
    refine ⟨⟨h.fit.1, z.fit⟩, ?_, ?_⟩
    · have y := z.sz
      show d.sz + D.szs (ds ++ es) ≤ k + j
      omega
    · have y := z.dep
      show max d.dep (D.deps (ds ++ es)) ≤ e
      omega
theorem Sl.one {k e : Nat} {d : D} (h : Sm k e d) : Sl k e [d] := ⟨⟨h.fit, trivial⟩, by have := h.sz; show d.sz + 0 ≤ k; omega, by have := h.dep; show max d.dep 0 ≤ e; omega⟩
theorem Sl.mono {k e j f : Nat} {ds : List D} (s : Sl k e ds) (h : k ≤ j) (g : e ≤ f) : Sl j f ds := ⟨s.fit, Nat.le_trans s.sz h, Nat.le_trans s.dep g⟩
theorem Sl.lst {k e : Nat} {ds : List D} (h : Sl k e ds) : Sm (1 + k) (e + 1) (.lst ds) := ⟨h.fit, Nat.add_le_add_left h.sz 1, Nat.add_le_add_right h.dep 1⟩
theorem Al.upd {bs : List Addr} {H : Hp} {l : Addr} {o : HO} (h : Al bs H) : Al bs (upd H l o) := fun a z => by
  by_cases e : a = l
  · exact ⟨o, by rw [e]; exact upd_same⟩
  · rw [upd_ne e]; exact h a z
theorem DdL.app {H : Hp} : ∀ {xs ys : List V} {ds es : List D}, DdL H xs ds → DdL H ys es → DdL H (xs ++ ys) (ds ++ es)
  | _, _, _, _, .nil, h => h
  | _, _, _, _, .cons a t, h => .cons a (DdL.app t h)
/-- a list of data, one built behind the other -/
theorem lcGen {J : It} {Gd : Hp → Prop} {Y : Nat → Hp → V → Hp → Prop} {N : Nat} {bs cs : List Addr} {i0 : Nat} {te : TE} {vs : List Nat} {σ : L2.St} {H1 : Hp} {l : Addr} {Qd : Hp → Prop} {c e : Nat} (w : Walk J N Gd Y) (S : Nat → Hp → Prop) (hl : H1 l = none) (al : Al bs H1) (sub : ∀ a ∈ cs, a ∈ bs) (small : N ≤ 1000)
    (hG : ∀ H', Kp (l :: cs) H1 H' → Gd H') (hY : ∀ i H x H', Y i H x H' → H' = H) (h0 : ∀ o, S 0 (upd H1 l o)) (stab : ∀ i H' o, S i H' → S i (upd H' l o))
    (hw : ∀ x, wipe ((wipe σ vs).set i0 (some x)) vs = wipe σ vs)
    (ht : ∀ i x H', i < N → Y i H' x H' → Kp cs H1 H' → Al (l :: bs) H' → S i H' → ∀ F : VK, (∀ v d H'', Kp cs H' H'' → Al (l :: bs) H'' → Dd (hid (l :: bs) H'') v d → Sm c e d → S (i + 1) H'' → F v H'') → te ((wipe σ vs).set i0 (some x)) H' F)
    (hd : ∀ xs ds H', xs.length = N → Kp cs H1 H' → Al (l :: bs) H' → S N H' → H' l = some (.lst xs) → DdL (hid (l :: bs) H') xs ds → Sl (c * N) e ds → Qd H') :
    ∃ W : Nat → Nat → Hp → Prop, (∃ m, W 0 m (upd H1 l (.lst []))) ∧ ∀ i m H, W i m H → (J.stop i H ∧ Qd H) ∨ (J.go i H ∧ ∃ Nx : Hp → Prop, (∀ H', Nx H' → ∃ m', m' < m ∧ W (i + 1) m' H') ∧ ∀ x H', J.yld i H x H' → gName i0 x (wipe σ vs) H' fun σ2 H2 => wipe σ2 vs = wipe σ vs ∧ tYes σ2 H2 fun b H3 =>
      if b = true then te σ2 H3 fun y H4 => ∃ acc, H4 l = some (.lst acc) ∧ acc.length < sizeLine ∧ Nx (upd H4 l (.lst (acc ++ [y]))) else Nx H3) := by
  have lb := al.new hl
  have lc : l ∉ cs := fun z => lb (sub _ z)
  have wide : ∀ {H H' : Hp}, Kp cs H H' → Kp (l :: cs) H H' := fun k => k.mono fun a z => List.mem_cons_of_mem _ z
  refine lc_it (g := gName i0) (tt := tYes) w (fun i H' => ∃ (xs : List V) (ds : List D), xs.length = i ∧ Kp cs H1 H' ∧ Al (l :: bs) H' ∧ S i H' ∧ H' l = some (.lst xs) ∧ DdL (hid (l :: bs) H') xs ds ∧ Sl (c * i) e ds)
    ⟨[], [], rfl, Kp.new hl, ?_, h0 _, upd_same, .nil, .nil⟩ (fun _ H' _ ⟨_, _, _, k, _⟩ => hG H' (wide k)) ?_ ?_
  · intro a z
    rcases List.mem_cons.mp z with rfl | z
    · exact ⟨_, upd_same⟩
    · exact al.upd a z
  · rintro i x H2 H2' hi ⟨xs, ds, lx, k2, a2, s2, d2, hds, sm⟩ y
    have eH := hY _ _ _ _ y
    subst eH
    refine ⟨hw x, tyes ?_⟩
    refine iteT ?_
    refine ht i x H2' hi y k2 a2 s2 _ fun v d H3 k3 a3 h3 sm3 s3 => ?_
    refine ⟨xs, k3 _ _ lc d2, small1000 (by omega), xs ++ [v], ds ++ [d], by rw [List.length_append, lx]; rfl, (k2.trans k3).put hl, a3.upd, stab _ _ _ s3, upd_same, ?_, ?_⟩
    · have kl : Kp (l :: bs) H3 (upd H3 l (.lst (xs ++ [v]))) := Kp.atb (by simp)
      exact ((hds.same (Kp.hid (k3.mono fun a z => List.mem_cons_of_mem _ (sub a z)))).app (.cons h3 .nil)).same (Kp.hid kl)
    · exact (sm.app (.one sm3)).mono (by rw [Nat.mul_succ]; exact Nat.le_refl _) (Nat.le_refl _)
  · rintro H2 ⟨xs, ds, lx, k2, a2, s2, d2, hds, sm⟩
    exact hd xs ds H2 lx k2 a2 s2 d2 hds sm
theorem hid_new {bs cs : List Addr} {H H' : Hp} {l : Addr} (hl : H l = none) (k : Kp cs H H') (sub : ∀ a ∈ cs, a ∈ bs) : Same (hid bs H) (hid (l :: bs) H') := fun a o h => by
  obtain ⟨n1, e⟩ := hid_some h
  have na : a ≠ l := fun z => by rw [z, hl] at e; cases e
  rw [hid_out (by simp [na, n1])]
  exact k a o (fun z => n1 (sub a z)) e
theorem DdL.rep {H : Hp} {xs : List V} {ds : List D} (h : DdL H xs ds) : ∀ k, DdL H (List.replicate k xs).flatten (List.replicate k ds).flatten
  | 0 => .nil
  | k + 1 => by rw [List.replicate_succ, List.replicate_succ, List.flatten_cons, List.flatten_cons]; exact h.app (h.rep k)
theorem Sl.rep {c e : Nat} {ds : List D} (h : Sl c e ds) : ∀ k, Sl (c * k) e (List.replicate k ds).flatten
  | 0 => .nil
  | k + 1 => by rw [List.replicate_succ, List.flatten_cons, Nat.mul_succ, Nat.add_comm]; exact h.app (h.rep k)
theorem DdL.drop {H : Hp} : ∀ {xs : List V} {ds : List D} (i : Nat), DdL H xs ds → DdL H (xs.drop i) (ds.drop i)
  | _, _, 0, h => h
  | _, _, _ + 1, .nil => .nil
  | _, _, i + 1, .cons _ t => DdL.drop i t
theorem DdL.take {H : Hp} : ∀ {xs : List V} {ds : List D} (i : Nat), DdL H xs ds → DdL H (xs.take i) (ds.take i)
  | _, _, 0, _ => .nil
  | _, _, _ + 1, .nil => .nil
  | _, _, i + 1, .cons h t => .cons h (DdL.take i t)
theorem Sl.tail {c e : Nat} {d : D} {ds : List D} (h : Sl c e (d :: ds)) : Sl c e ds ∧ d.cln ∧ d.sz + D.szs ds ≤ c ∧ d.dep ≤ e :=
  ⟨⟨h.fit.2, Nat.le_trans (Nat.le_add_left ..) h.sz, Nat.le_trans (Nat.le_max_right ..) h.dep⟩, h.fit.1, h.sz, Nat.le_trans (Nat.le_max_left ..) h.dep⟩
theorem Sl.drop {c e : Nat} : ∀ {ds : List D} (i : Nat), Sl c e ds → Sl c e (ds.drop i)
  | _, 0, h => h
  | [], _ + 1, h => h
  | _ :: _, i + 1, h => Sl.drop i h.tail.1
theorem Sl.take {c e : Nat} : ∀ {ds : List D} (i : Nat), Sl c e ds → Sl c e (ds.take i)
  | _, 0, _ => .nil
  | [], _ + 1, h => h
  | d :: ds, i + 1, h => by
    obtain ⟨_, f, z, p⟩ := h.tail
    have y := Sl.take (c := D.szs ds) (ds := ds) i ⟨h.tail.1.fit, Nat.le_refl _, h.tail.1.dep⟩
    exact ⟨⟨f, y.fit⟩, by have q := y.sz; show d.sz + D.szs (ds.take i) ≤ c; omega, by have q := y.dep; show max d.dep (D.deps (ds.take i)) ≤ e; omega⟩
/-- a slice of data -/
theorem DdL.cut {H : Hp} {xs : List V} {ds : List D} {c e : Nat} (h : DdL H xs ds) (s : Sl c e ds) (lo hi : Option Int) : ∃ es, DdL H (cutV xs lo hi) es ∧ Sl c e es :=
  ⟨_, (h.drop _).take _, (s.drop _).take _⟩
theorem DdL.len2 {H : Hp} {xs : List V} {ds : List D} (h : DdL H xs ds) : ds.length = xs.length := h.len.symm
theorem D.sz1 (d : D) : 1 ≤ d.sz := by cases d <;> first | exact Nat.le_refl _ | exact Nat.le_add_right ..
theorem D.len_szs : ∀ ds : List D, ds.length ≤ D.szs ds
  | [] => Nat.le_refl _
  | d :: ds => by have := D.len_szs ds; have := d.sz1; show ds.length + 1 ≤ d.sz + D.szs ds; omega
theorem D.mem_sz : ∀ {ds : List D} {k : Nat} {e : D}, ds[k]? = some e → D.fits ds → e.sz ≤ D.szs ds ∧ e.dep ≤ D.deps ds ∧ e.fit
  | [], _, _, h, _ => by simp at h
  | d :: ds, 0, e, h, f => by cases h; exact ⟨Nat.le_add_right .., Nat.le_max_left .., f.1⟩
  | d :: ds, k + 1, e, h, f => by
    obtain ⟨a, b, c⟩ := D.mem_sz (ds := ds) (k := k) (by simpa using h) f.2
    exact ⟨Nat.le_trans a (Nat.le_add_left ..), Nat.le_trans b (Nat.le_max_right ..), c⟩
/-- a list of data, one built behind the other -/
theorem lcAny {J : It} {Gd : Hp → Prop} {Y : Nat → Hp → V → Hp → Prop} {N : Nat} {bs cs : List Addr} {i0 : Nat} {te : TE} {vs : List Nat} {σ : L2.St} {H1 : Hp} {l : Addr} {Qd : Hp → Prop} {Rd : D → Prop} (w : Walk J N Gd Y) (S : Nat → Hp → Prop) (hl : H1 l = none) (al : Al bs H1) (sub : ∀ a ∈ cs, a ∈ bs) (small : N ≤ 1000)
    (hG : ∀ H', Kp (l :: cs) H1 H' → Gd H') (hY : ∀ i H x H', Y i H x H' → H' = H) (h0 : ∀ o, S 0 (upd H1 l o)) (stab : ∀ i H' o, S i H' → S i (upd H' l o))
    (hw : ∀ x, wipe ((wipe σ vs).set i0 (some x)) vs = wipe σ vs)
    (ht : ∀ i x H', i < N → Y i H' x H' → Kp cs H1 H' → Al (l :: bs) H' → S i H' → ∀ F : VK, (∀ v d H'', Kp cs H' H'' → Al (l :: bs) H'' → Dd (hid (l :: bs) H'') v d → Rd d → S (i + 1) H'' → F v H'') → te ((wipe σ vs).set i0 (some x)) H' F)
    (hd : ∀ xs ds H', xs.length = N → Kp cs H1 H' → Al (l :: bs) H' → S N H' → H' l = some (.lst xs) → DdL (hid (l :: bs) H') xs ds → (∀ d ∈ ds, Rd d) → Qd H') :
    ∃ W : Nat → Nat → Hp → Prop, (∃ m, W 0 m (upd H1 l (.lst []))) ∧ ∀ i m H, W i m H → (J.stop i H ∧ Qd H) ∨ (J.go i H ∧ ∃ Nx : Hp → Prop, (∀ H', Nx H' → ∃ m', m' < m ∧ W (i + 1) m' H') ∧ ∀ x H', J.yld i H x H' → gName i0 x (wipe σ vs) H' fun σ2 H2 => wipe σ2 vs = wipe σ vs ∧ tYes σ2 H2 fun b H3 =>
      if b = true then te σ2 H3 fun y H4 => ∃ acc, H4 l = some (.lst acc) ∧ acc.length < sizeLine ∧ Nx (upd H4 l (.lst (acc ++ [y]))) else Nx H3) := by
  have lb := al.new hl
  have lc : l ∉ cs := fun z => lb (sub _ z)
  have wide : ∀ {H H' : Hp}, Kp cs H H' → Kp (l :: cs) H H' := fun k => k.mono fun a z => List.mem_cons_of_mem _ z
  refine lc_it (g := gName i0) (tt := tYes) w (fun i H' => ∃ (xs : List V) (ds : List D), xs.length = i ∧ Kp cs H1 H' ∧ Al (l :: bs) H' ∧ S i H' ∧ H' l = some (.lst xs) ∧ DdL (hid (l :: bs) H') xs ds ∧ ∀ d ∈ ds, Rd d)
    ⟨[], [], rfl, Kp.new hl, ?_, h0 _, upd_same, .nil, by simp⟩ (fun _ H' _ ⟨_, _, _, k, _⟩ => hG H' (wide k)) ?_ ?_
  · intro a z
    rcases List.mem_cons.mp z with rfl | z
    · exact ⟨_, upd_same⟩
    · exact al.upd a z
  · rintro i x H2 H2' hi ⟨xs, ds, lx, k2, a2, s2, d2, hds, sm⟩ y
    have eH := hY _ _ _ _ y
    subst eH
    refine ⟨hw x, tyes ?_⟩
    refine iteT ?_
    refine ht i x H2' hi y k2 a2 s2 _ fun v d H3 k3 a3 h3 sm3 s3 => ?_
    refine ⟨xs, k3 _ _ lc d2, small1000 (by omega), xs ++ [v], ds ++ [d], by rw [List.length_append, lx]; rfl, (k2.trans k3).put hl, a3.upd, stab _ _ _ s3, upd_same, ?_, ?_⟩
    · have kl : Kp (l :: bs) H3 (upd H3 l (.lst (xs ++ [v]))) := Kp.atb (by simp)
      exact ((hds.same (Kp.hid (k3.mono fun a z => List.mem_cons_of_mem _ (sub a z)))).app (.cons h3 .nil)).same (Kp.hid kl)
    · intro y hy
      rcases List.mem_append.mp hy with hy | hy
      · exact sm y hy
      · rw [List.mem_singleton.mp hy]; exact sm3
  · rintro H2 ⟨xs, ds, lx, k2, a2, s2, d2, hds, sm⟩
    exact hd xs ds H2 lx k2 a2 s2 d2 hds sm

theorem Callee.mono {P : Program} {w : World} {K : PySem.W.Frag} {mg : Str → Option Value} {base : Heap} {k j : Nat} {x : Str} {ps : List Str} {sp : Sp} (c : Callee P w K mg base k x ps sp) (h : k ≤ j) : Callee P w K mg base j x ps sp := by
  obtain ⟨f, fd, hm, hk, hb, F⟩ := c.ex
  exact ⟨f, fd, hm, hk, hb, F.mono h⟩
/-- f(e, ..), f a def that keeps many promises: one of them is chosen at the call -/
theorem pe_calU {X : Cx} {k j : Nat} {x : Str} {ps : List Str} {sp : Nat → Sp} {e : Expr} {es : List Expr} {p pos : Pos} {t : TA} (c : ∀ i, Callee X.prog X.w X.K X.mg X.base k x ps (sp i)) (hr : Room j X.A) (hj : k ≤ j) (ha : PA X (e :: es) t) (hg : Gl X x := by rfl)
    (hdb : (x == ("__debug__" : Str)) = false := by decide) (he : starEach (e :: es) X.env = (false, eval e X.env) :: starEach es X.env := by rfl) (hpl : (backTo pos (starEach es X.env)).any (·.1) = false := by rfl) :
    PE X (.Call (.Name x p) (e :: es) [] pos) (tCall (fun vs H Q E => ∃ i, sp i vs H Q E) [] E0 t) := by
  obtain ⟨f, fd0, hm, hk, hb0, F0⟩ := (c 0).ex
  refine ⟨fun pins s σ H Q I h => wpAny_Call_Name_kw (ld_glob I hg hm ?_ hdb)⟩
  refine PySem.W.callWith_K (h₀ := X.base) I.ok.mod.kin hk (thn (ha.run pos pins s σ H _ I h) fun us s1 ⟨vs, H1, J, rel, want⟩ => ⟨J.kIn, ?_⟩) he hpl
  obtain ⟨i, want⟩ := (show ∃ i, sp i (vs ++ []) H1 Q E0 from want)
  obtain ⟨f2, fd, hm2, _, hb, F⟩ := (c i).ex
  have ef : f2 = f := by rw [hm] at hm2; cases hm2; rfl
  subst ef
  exact run_fn F (hr.mono hj) hb .nil pass0 J rel want
/-! ### lists and tuples of data, by where they stand -/
def La (bs : List Addr) (H : Hp) (l : Addr) (ds : List D) : Prop := l ∉ bs ∧ ∃ xs, H l = some (.lst xs) ∧ DdL (hid bs H) xs ds
def Ta (bs : List Addr) (H : Hp) (l : Addr) (ds : List D) : Prop := l ∉ bs ∧ ∃ xs, H l = some (.tup xs) ∧ DdL (hid bs H) xs ds
section
variable {bs cs : List Addr} {H H' : Hp} {l p : Addr} {ds es : List D} {xs : List V} {F : VK}
theorem La.kp (x : La bs H l ds) (k : Kp cs H H') (sub : ∀ a ∈ cs, a ∈ bs) : La bs H' l ds := let ⟨n, xs, a, b⟩ := x; ⟨n, xs, k _ _ (fun z => n (sub _ z)) a, b.same (Kp.hid (k.mono sub))⟩
theorem La.same (x : La bs H l ds) (k : Same H H') : La bs H' l ds := x.kp (cs := []) (Kp.of k) (by simp)
theorem Ta.kp (x : Ta bs H l ds) (k : Kp cs H H') (sub : ∀ a ∈ cs, a ∈ bs) : Ta bs H' l ds := let ⟨n, xs, a, b⟩ := x; ⟨n, xs, k _ _ (fun z => n (sub _ z)) a, b.same (Kp.hid (k.mono sub))⟩
theorem Ta.same (x : Ta bs H l ds) (k : Same H H') : Ta bs H' l ds := x.kp (cs := []) (Kp.of k) (by simp)
theorem La.dd (x : La bs H l ds) : Dd (hid bs H) (.ref l) (.lst ds) := let ⟨n, _, a, b⟩ := x; .lst (by rw [hid_out n]; exact a) b
theorem Ta.dd (x : Ta bs H l ds) : Dd (hid bs H) (.ref l) (.tup ds) := let ⟨n, _, a, b⟩ := x; .tup (by rw [hid_out n]; exact a) b
theorem La.of {v : V} (h : Dd (hid bs H) v (.lst ds)) : ∃ a, v = .ref a ∧ La bs H a ds := by
  cases h with
  | lst ha hl => exact ⟨_, rfl, (hid_some ha).1, _, (hid_some ha).2, hl⟩
theorem Ta.of {v : V} (h : Dd (hid bs H) v (.tup ds)) : ∃ a, v = .ref a ∧ Ta bs H a ds := by
  cases h with
  | tup ha hl => exact ⟨_, rfl, (hid_some ha).1, _, (hid_some ha).2, hl⟩
/-- a new list, a new tuple of data, a new dict -/
theorem newL (al : Al bs H) (e : upd H p (.lst xs) = H') (hp : H p = none) (hd : DdL (hid bs H) xs ds) : Same H H' ∧ Al bs H' ∧ La bs H' p ds := by
  subst e; exact ⟨same_new hp, al.same (same_new hp), al.new hp, xs, upd_same, hd.hs (same_new hp)⟩
theorem newT (al : Al bs H) (e : upd H p (.tup xs) = H') (hp : H p = none) (hd : DdL (hid bs H) xs ds) : Same H H' ∧ Al bs H' ∧ Ta bs H' p ds := by
  subst e; exact ⟨same_new hp, al.same (same_new hp), al.new hp, xs, upd_same, hd.hs (same_new hp)⟩
theorem newD (al : Al bs H) (e : upd H p (.dK []) = H') (hp : H p = none) : Same H H' ∧ Al bs H' ∧ Dd (hid bs H') (.ref p) .dic := by
  subst e; exact ⟨same_new hp, al.same (same_new hp), Dd.dic (by rw [hid_out (al.new hp)]; exact upd_same)⟩
theorem La.cat (al : Al bs H) (x : La bs H l ds) (y : La bs H p es) (small : ds.length + es.length ≤ 1000000) (k : ∀ q H', Same H H' → Al bs H' → La bs H' q (ds ++ es) → F (.ref q) H') : rCat (.ref l) (.ref p) H F := by
  obtain ⟨_, xs, a, b⟩ := x
  obtain ⟨_, ys, c, d⟩ := y
  exact ⟨l, p, xs, ys, rfl, rfl, a, c, Nat.le_of_lt (Nat.lt_of_le_of_lt (by rw [b.len, d.len]; omega : xs.length + ys.length ≤ 1000000) (by decide)), fun q hq => let ⟨t, a1, L⟩ := newL al rfl hq (b.app d); k q _ t a1 L⟩
theorem hid_sub (sub : ∀ a ∈ cs, a ∈ bs) : Same (hid bs H) (hid cs H) := fun a o h => by
  obtain ⟨n1, e⟩ := hid_some h
  rw [hid_out fun z => n1 (sub a z)]; exact e
end
/-- a body cut in two -/
theorem cut_at {X : Cx} {body : List Stmt} {Po : _} {σ0 : L2.St} {H0 : Hp} (n : Nat) (R : L2.St → Hp → Prop) (h1 : ∃ tR, PSs X (body.drop n) tR ∧ ∀ σ H, R σ H → tR Po σ H) (h2 : ∀ tR, PSs X (body.drop n) tR → (∀ σ H, R σ H → tR Po σ H) → ∃ t, PSs X body t ∧ t Po σ0 H0) : ∃ t, PSs X body t ∧ t Po σ0 H0 := by
  obtain ⟨tR, a, b⟩ := h1
  exact h2 tR a b
/-- a def that keeps a promise, called by names alone, in the parameters' order -/
structure CalleeK (P : Program) (w : World) (K : PySem.W.Frag) (mg : Str → Option Value) (base : Heap) (k : Nat) (x : Str) (ps : List Str) (sp : Sp) : Prop where
  ex : ∃ f fd, mg x = some (.ref f) ∧ PySem.W.keepIn K (.ref f) = true ∧ (∀ (s : Shared) (us : List Value), us.length = ps.length → BindsTo s fd ⟨[], ps.zip us⟩ (ps.zip us)) ∧ FnOk P w K mg base CX0 k f fd ps sp
section
variable {P : Program} {w : World} {K : PySem.W.Frag} {mg : Str → Option Value} {base : Heap} {X : Cx}
theorem calleeK {x : Str} {st : Stmt} {N ps : List Str} {k : Nat} {sp : Sp} (D : DefAt K mg x st) (S : FnScope N ps (defScope st)) (len : ∀ vs H Q E, sp vs H Q E → vs.length = ps.length)
    (hb : ∀ (kV doc pm : Value) (an : Option Addr) (cdv ct : Value) (us : List Value), us.length = ps.length → bindArgs (PySem.W.fnOf x x (defArgs st) (defBody st) (defScope st) .none kV doc pm an cdv ct) ⟨[], ps.zip us⟩ = pure (ps.zip us))
    (hbody : ∀ (f : Addr) (cdv : Value) (A : Around) (outer : List Env) (s : Shared) (H : Hp) (vs : List V) (Q : VK) (E : XK), Room k (A.deeper (envOfC x (defScope st) s.heap.objs.size f cdv)) → sp vs H Q E →
      ∃ t, PSs (cxOf CX0 P w K mg base N x (defScope st) f cdv A outer s H E).nox (defBody st) t ∧ t { nx := fun _ H' => Q .non H', rt := Q } (start N vs) H) : CalleeK P w K mg base (k + 1) x ps sp := by
  obtain ⟨fd, F⟩ := D.f
  refine ⟨_, fd, D.g, F.kp, fun s us hl => ?_, F.ok S len fun cdv A outer s H vs Q E hr h => let ⟨t, h1, h2⟩ := hbody _ cdv A outer s H vs Q E hr h; ⟨t, h1.nox, h2⟩⟩
  obtain ⟨_, _, dV, kV, doc, pm, an, cdv, ct, _, rfl, _, _, hD, _⟩ := F.ex
  rcases hD with ⟨_, rfl⟩ | ⟨e, _⟩
  · exact .of_eq (hb kV doc pm an cdv ct us hl)
  · exact absurd rfl e
def tCalK (sp : Sp) (tk : TA) : TE := fun σ H Q => tk σ H fun zs H2 => sp zs H2 Q E0
theorem pe_calK {k j : Nat} {x : Str} {ps : List Str} {sp : Sp} {kws : List Keyword} {p pos : Pos} {tk : TA} (c : CalleeK X.prog X.w X.K X.mg X.base k x ps sp) (hr : Room j X.A) (hj : k ≤ j) (hkw : PK X kws tk) (hg : Gl X x := by rfl)
    (hdb : (x == ("__debug__" : Str)) = false := by decide) (hall : (backToKw pos (keywordEach kws X.env)).all (·.1.isSome) = true := by rfl) (hks : (backToKw pos (keywordEach kws X.env)).filterMap (·.1) = ps := by rfl)
    (hpl : ((backTo pos (starEach [] X.env)).any (·.1) || (backToKw pos (keywordEach kws X.env)).any (·.1.isNone)) = false := by rfl) : PE X (.Call (.Name x p) [] kws pos) (tCalK sp tk) := by
  obtain ⟨f, fd, hm, hk, hb, F⟩ := c.ex
  refine ⟨fun pins s σ H Q I h => wpAny_Call_Name_kw (ld_glob I hg hm ?_ hdb)⟩
  refine PySem.W.callWith_KW0 (h₀ := X.base) I.ok.mod.kin hk hall (thn (hkw.run pos pins s σ H _ I h) fun ws s2 ⟨zs, H2, J, rz, want⟩ => ⟨J.kIn, ?_⟩) hpl
  have want : sp zs H2 Q E0 := want
  rw [hks]
  have hl : ws.length = ps.length := by rw [← rz.length]; exact F.len _ _ _ _ want
  refine wpAny_call (codeAny_mono (F.run X.A X.stack s2 H2 ⟨[], ps.zip ws⟩ ws zs Q E0 (hr.mono hj) J.env0 (hb s2 ws hl) rz want) fun r s' z => ?_)
  match r, z with
  | .ok (.ret _), z => exact J.after z
end
end NH
set_option maxHeartbeats 4000000
namespace NH
open PySem PySem.Spec PyProof.Rows L2 TL
section
variable {X : Cx} {d : Addr} {es : Array DictEntry} {n : Nat}
/-- d.get(y, z), d a written dict with text keys -/
def tKGet2 (K : PySem.W.Frag) (d : Addr) (ty tz : TE) : TE := fun σ H Q => ty σ H fun y H2 => tz σ H2 fun u H3 => ∃ (z : Str) (r : Option Value) (v : V), y = .str z ∧ PySem.W.nsIn K d z = some r ∧ (match r with | some x => RelV v x | none => v = u) ∧ Q v H3
theorem pe_kget2 {x : Str} {e f : Expr} {ty tz : TE} {p apos cpos : Pos} (DK : KDict X.K X.w d es n) (hg : Gl X x) (hm : X.mg x = some (.ref d)) (he : PE X e ty) (hf : PE X f tz) (m : M2 X (.Name x p) "get" apos e f cpos) (hdb : (x == ("__debug__" : Str)) = false := by decide) : PE X (.Call (.Attribute (.Name x p) "get" apos) [e, f] [] cpos) (tKGet2 X.K d ty tz) := by
  refine ⟨fun pins s σ H Q I h => ?_⟩
  have ob := I.kIn _ _ DK.at_
  refine wpAny_Call_method m.base m.few m.line PySem.F.plainAttrs_dict PySem.F.slot_dict_get PySem.F.type_dict_get (ld_glob I hg hm ⟨⟨_, ob, rfl⟩, fun b q => by cases q; exact ⟨_, ob, rfl⟩, ?_⟩ hdb)
  rw [m.trees]
  refine Calls.callWith_builtin rfl (Calls.evalArgs_plain (Calls.spliced_cons (thn (he.run pins s σ H _ I h) fun iv s2 ⟨y, H2, I2, ry, h2⟩ => Calls.spliced_cons (thn (hf.run pins s2 σ H2 _ I2 h2) fun dv s3 ⟨u, H3, I3, ru, z, r, v, ey, en, rv, q⟩ => Calls.spliced_nil ?_))))
  subst ey
  obtain ⟨t, rfl⟩ := ry
  have mo := PySem.W.mapOf_K (prog := X.prog) (w := X.w) I3.kIn DK.at_ DK.lit
  refine call_meetsIn PySem.F.slot_dict_get mo.typeIs PySem.F.entry_dict_get (PySem.F.args_dict_get_3 _ _ _) (meets_dict_get_default (strKind X.prog X.w) d (strKind_is X.prog X.w z t) DK.low dv) ⟨_, mo, v, H3, I3.tok _, ?_, q⟩
  rw [PySem.W.find_K DK.at_ en]
  cases r with
  | some x => exact rv
  | none =>
    have rv : v = u := rv
    subst rv; exact ru
end
theorem at_last0 {α : Type} {l : List α} {x : α} (h : l.getLast? = some x) : atI l (-1) = some x := by
  have e : l[l.length - 1]? = some x := by rw [← List.getLast?_eq_getElem?]; exact h
  have n0 : 0 < l.length := by cases l with
    | nil => cases h
    | cons _ _ => exact Nat.succ_pos _
  have i1 : ixN l.length (-1) = some (l.length - 1) := by
    unfold ixN
    rw [if_neg (by omega), if_pos (by omega)]
    congr 1; omega
  unfold atI
  rw [i1]; exact e
/-- the list of words that are left, the last one first -/
def Wl (a : Addr) (ws : List Str) (H : Hp) : Prop := H a = some (.lst (ws.reverse.map V.str))
theorem Al.wl {bs : List Addr} {a : Addr} {ws : List Str} {H H' : Hp} (x : Al bs H) (k : Kp [a] H H') (h : Wl a ws H') : Al bs H' := fun b z => by
  by_cases e : b = a
  · subst e; exact ⟨_, h⟩
  · obtain ⟨o, q⟩ := x b z; exact ⟨o, k b o (by simpa using e) q⟩
def dgV (w : Str) : V := match digit w with
  | some n => .int (n : Int)
  | none => .str w
theorem dgV_dd {H : Hp} (w : Str) : Dd H (dgV w) (digD w) := by
  unfold dgV digD
  cases digit w with
  | some n => exact .int _
  | none => exact .str _
structure DigT (K : PySem.W.Frag) (w : World) (mg : Str → Option Value) : Prop where
  ex : ∃ d es n, mg "DIGITS" = some (.ref d) ∧ KDict K w d es n ∧ ∀ z, ∃ r, PySem.W.nsIn K d z = some r ∧ (match r with | some x => RelV (dgV z) x | none => dgV z = .str z)
section
variable {P : Program} {w : World} {K : PySem.W.Frag} {mg : Str → Option Value} {base : Heap}
theorem wl_last {ws : List Str} {x : Str} : ((x :: ws).reverse.map V.str)[((x :: ws).reverse.map V.str).length - 1]? = some (V.str x) := by
  rw [List.length_map, List.length_reverse, List.getElem?_map, List.reverse_cons, List.getElem?_append_right (by rw [List.length_reverse, List.length_cons]; omega)]
  rw [List.length_reverse, List.length_cons, Nat.add_sub_cancel, Nat.sub_self]; rfl
theorem wl_drop {ws : List Str} {x : Str} : ((x :: ws).reverse.map V.str).dropLast = ws.reverse.map V.str := by
  rw [List.reverse_cons, List.map_append, List.map_cons, List.map_nil, List.dropLast_concat]
theorem wl_at {ws : List Str} {x : Str} : atI ((x :: ws).reverse.map V.str) (-1) = some (V.str x) := at_last0 (by rw [List.reverse_cons, List.map_append]; simp)
abbrev s_take_word : Stmt := top 25
theorem sc_take_word : FnScope ["words"] ["words"] (defScope s_take_word) := ⟨rfl, rfl, rfl, by decide +kernel, rfl, by decide +kernel, by decide +kernel⟩
def spTw : Sp := fun vs H Q _ => ∃ (a : Addr) (ws : List Str), vs = [.ref a] ∧ Wl a ws H ∧ ∀ H', Kp [a] H H' → Wl a (tkW ws).2 H' → Q (.str (tkW ws).1) H'
theorem ok_take_word (DA : DefAt K mg "take_word" s_take_word) : Callee P w K mg base 1 "take_word" ["words"] spTw := by
  refine callee DA sc_take_word (fun vs H Q E h => by obtain ⟨_, _, rfl, _⟩ := h; rfl) (fun _ _ _ _ _ _ us hl => match us, hl with | [_], _ => rfl) fun f cdv A outer s H vs Q E hr h => ?_
  obtain ⟨a, ws, rfl, hw, q⟩ := h
  refine ⟨_, (pss_one (ps_ret (pe_ifExp (pt_truth (pv 0) (by intro _; rfl)) (pe_bm0 PySem.F.plainAttrs_list PySem.F.slot_list_pop PySem.F.type_list_pop mt_pop (pv 0)) pe_str))), ?_⟩
  cases ws with
  | nil =>
    refine ⟨_, rfl, _, .inl ⟨_, SqL.of hw, rfl⟩, iteF ?_⟩
    exact q H (Kp.refl _ _) hw
  | cons x ws =>
    refine ⟨_, rfl, _, .inl ⟨_, SqL.of hw, rfl⟩, ?_⟩
    refine itt (by show (!((x :: ws).reverse.map V.str).isEmpty) = true; simp) ?_
    refine ⟨_, rfl, .inl ⟨rfl, _, SqL.of hw⟩, a, _, _, rfl, rfl, hw, wl_last, ?_⟩
    rw [wl_drop]
    exact q _ (Kp.atb (by simp)) upd_same
abbrev s_take_digit : Stmt := top 26
theorem sc_take_digit : FnScope ["words", "word"] ["words"] (defScope s_take_digit) := ⟨rfl, rfl, rfl, by decide +kernel, rfl, by decide +kernel, by decide +kernel⟩
def spTd : Sp := fun vs H Q _ => ∃ (a : Addr) (ws : List Str), vs = [.ref a] ∧ Wl a ws H ∧ ∀ H', Kp [a] H H' → Wl a (tkW ws).2 H' → Q (dgV (tkW ws).1) H'
theorem ok_take_digit (DT : DigT K w mg) (DA : DefAt K mg "take_digit" s_take_digit) (cTw : Callee P w K mg base 1 "take_word" ["words"] spTw) : Callee P w K mg base 2 "take_digit" ["words"] spTd := by
  refine callee DA sc_take_digit (fun vs H Q E h => by obtain ⟨_, _, rfl, _⟩ := h; rfl) (fun _ _ _ _ _ _ us hl => match us, hl with | [_], _ => rfl) fun f cdv A outer s H vs Q E hr h => ?_
  obtain ⟨a, ws, rfl, hw, q⟩ := h
  obtain ⟨dd, es, nd, gD, DK, hD⟩ := DT.ex
  refine ⟨_, (pss_cons (ps_set (i := 1) sc_take_digit.nd rfl (Or.inl rfl) (pe_cal cTw hr (by decide) (pa_cons (pv 0) pa_nil)))
    (pss_one (ps_ret (pe_kget2 DK (by rfl) gD (pv 1) (pv 1) ⟨by rfl, by rfl, by rfl, by rfl⟩)))), ?_⟩
  refine ⟨_, rfl, a, ws, rfl, hw, fun H1 k1 w1 => ?_⟩
  obtain ⟨r, er, hr2⟩ := hD (tkW ws).1
  refine ⟨_, rfl, _, rfl, (tkW ws).1, r, dgV (tkW ws).1, rfl, er, ?_, q H1 k1 w1⟩
  cases r with
  | some x => exact hr2
  | none => exact hr2
abbrev s_take_amount : Stmt := top 27
theorem sc_take_amount : FnScope ["words", "word"] ["words"] (defScope s_take_amount) := ⟨rfl, rfl, rfl, by decide +kernel, rfl, by decide +kernel, by decide +kernel⟩
def spTa : Sp := fun vs H Q _ => ∃ (bs : List Addr) (a : Addr) (ws : List Str), vs = [.ref a] ∧ a ∈ bs ∧ Al bs H ∧ Wl a ws H ∧ ∀ v H', Kp [a] H H' → Al bs H' → Wl a (tkA ws).2 H' → Dd (hid bs H') v (tkA ws).1 → Q v H'
theorem ok_take_amount (DA : DefAt K mg "take_amount" s_take_amount) (cTw : Callee P w K mg base 1 "take_word" ["words"] spTw) (cTd : Callee P w K mg base 2 "take_digit" ["words"] spTd) : Callee P w K mg base 3 "take_amount" ["words"] spTa := by
  refine callee DA sc_take_amount (fun vs H Q E h => by obtain ⟨_, _, _, rfl, _⟩ := h; rfl) (fun _ _ _ _ _ _ us hl => match us, hl with | [_], _ => rfl) fun f cdv A outer s H vs Q E hr h => ?_
  obtain ⟨bs, a, ws, rfl, ab, al, hw, q⟩ := h
  refine ⟨_, (pss_cons (ps_if (PW.pt (pw_or (pt_not (pt_truth (pv 0) (by intro _; rfl))) (pw_or1 (pt_cmpR op_ne (pe_ix ix_list (pv 0) (pe_un un_neg pe_int) (fun _ _ => rfl)) pe_str (nomark _))))) (pss_one (ps_ret (pe_cal cTd hr (by omega) (pa_cons (pv 0) pa_nil)))) pss_nil)
    (pss_cons (ps_set (i := 1) sc_take_amount.nd rfl (Or.inl rfl) (pe_cal cTw hr (by omega) (pa_cons (pv 0) pa_nil)))
    (pss_one (ps_ret (pe_tup (pa_cons (pv 1) (pa_cons (pe_cal cTw hr (by omega) (pa_cons (pv 0) pa_nil)) pa_nil))))))), ?_⟩
  cases ws with
  | nil =>
    refine ⟨_, rfl, _, .inl ⟨_, SqL.of hw, rfl⟩, ?_⟩
    refine iteT ?_
    refine iteT ⟨_, rfl, a, [], rfl, hw, fun H1 k1 w1 => q _ H1 k1 (al.wl k1 w1) w1 (dgV_dd _)⟩
  | cons x ws =>
    refine ⟨_, rfl, _, .inl ⟨_, SqL.of hw, rfl⟩, ?_⟩
    refine itf (by show (!(!((x :: ws).reverse.map V.str).isEmpty)) = false; simp) ?_
    refine ⟨_, rfl, 1, rfl, a, _, -1, _, rfl, rfl, SqL.of hw, wl_at, rfl, _, rfl, ?_⟩
    have ed : decide (V.str x = V.str "due") = decide (x = "due") := decide_eq_decide.mpr ⟨fun e => by injection e, fun e => by rw [e]⟩
    rw [ed]
    by_cases hx : x = "due"
    · rw [decide_eq_true hx]
      refine iteF ?_
      refine ⟨_, rfl, a, _, rfl, hw, fun H1 k1 w1 => ?_⟩
      refine ⟨_, rfl, _, rfl, a, ws, rfl, w1, fun H2 k2 w2 => ?_⟩
      refine ⟨by show 2 ≤ sizeLine; decide, fun p hp => ?_⟩
      generalize e3 : upd H2 p _ = H3
      obtain ⟨s3, d3⟩ := nw e3 hp
      have al2 : Al bs H2 := (al.wl k1 w1).wl k2 w2
      have eA : tkA (x :: ws) = (.tup [.str "due", .str (tkW ws).1], (tkW ws).2) := by rw [tkA_cons, if_pos hx]
      rw [eA] at q
      refine q _ H3 ((k1.trans k2).trans (Kp.of s3)) (al2.same s3) (s3 _ _ w2) (.tup (by rw [hid_out (al2.new hp)]; exact d3) (.cons ?_ (.cons (.str _) .nil)))
      show Dd _ (V.str x) _
      rw [hx]; exact .str _
    · rw [decide_eq_false hx]
      have eA : tkA (x :: ws) = (digD x, ws) := by rw [tkA_cons, if_neg hx]
      rw [eA] at q
      refine iteT ⟨_, rfl, a, _, rfl, hw, fun H1 k1 w1 => q _ H1 k1 (al.wl k1 w1) w1 (dgV_dd _)⟩
end
end NH
set_option maxHeartbeats 4000000
namespace NH
open PySem PySem.Spec PyProof.Rows L2 TL
/-- so many conditions, one behind the other -/
def tks (n : Nat) : Nat → List Str → List D × List Str
  | 0, ws => ([], ws)
  | i + 1, ws => ((tks n i ws).1 ++ [(tkC n (tks n i ws).2).1], (tkC n (tks n i ws).2).2)
theorem tks_len (n : Nat) : ∀ i ws, (tks n i ws).1.length = i
  | 0, _ => rfl
  | i + 1, ws => by show ((tks n i ws).1 ++ [_]).length = i + 1; rw [List.length_append, tks_len n i ws]; rfl
theorem tkC_tks {n m : Nat} {w : Str} {r : List Str} (hj : isJ w) (hm : parts w = some m) : tkC (n + 1) (w :: r) = (.tup (.str w :: (tks n m r).1), (tks n m r).2) := by
  rw [tkC_cons, if_pos hj]
  rcases parts_cases hm with ⟨hz, l⟩ | ⟨hz, l⟩ | ⟨_, hn, l⟩
  · exact absurd hz (isJ_no hj)
  · rw [if_pos hz, l]; rfl
  · rw [if_neg hn, l]; rfl
theorem isJ_parts {w : Str} (hj : isJ w) : ∃ m, parts w = some m ∧ 1 ≤ m ∧ m ≤ 2 := by
  rcases hj with h | h | h <;> rw [h]
  · exact ⟨2, by decide +kernel, by decide, by decide⟩
  · exact ⟨2, by decide +kernel, by decide, by decide⟩
  · exact ⟨1, by decide +kernel, by decide, by decide⟩
def joinW : List Str := ["both", "either", "not"]
theorem joinW_mem (z : Str) : (D.str z).inS joinW = decide (isJ z) := by
  have e : (D.str z).inS joinW = ((z == ("both" : Str)) || ((z == ("either" : Str)) || ((z == ("not" : Str)) || false))) := rfl
  rw [e, Bool.or_false]
  show _ = decide (z = "both" ∨ z = "either" ∨ z = "not")
  by_cases h1 : z = "both"
  · rw [decide_eq_true (Or.inl h1), h1]; simp
  · by_cases h2 : z = "either"
    · rw [decide_eq_true (Or.inr (Or.inl h2)), h2]; simp
    · by_cases h3 : z = "not"
      · rw [decide_eq_true (Or.inr (Or.inr h3)), h3]; simp
      · rw [decide_eq_false (fun y => y.elim h1 fun y => y.elim h2 h3), beq_eq_false_iff_ne.mpr h1, beq_eq_false_iff_ne.mpr h2, beq_eq_false_iff_ne.mpr h3]; rfl
theorem eqV_str (x y : Str) : eqV (V.str x) (V.str y) = decide (x = y) := by
  show (decide (x = y)) = _
  rfl
theorem inV_strs (x : Str) : ∀ zs : List Str, inV (V.str x) (zs.map V.str) = decide (x ∈ zs)
  | [] => by simp [inV]
  | z :: zs => by
    have ih := inV_strs x zs
    unfold inV at ih ⊢
    rw [List.map_cons, List.any_cons, ih, eqV_str]
    by_cases h : z = x
    · rw [h]; simp
    · simp [h, Ne.symm h]
theorem flat_strs (zs : List Str) : (zs.map V.str).all flatV = true := by rw [List.all_map]; simp [flatV]
theorem joinW_iff (z : Str) : z ∈ joinW ↔ isJ z := by unfold joinW isJ; simp
section
variable {P : Program} {w : World} {K : PySem.W.Frag} {mg : Str → Option Value} {base : Heap}
abbrev s_u_take : Stmt := top 29
theorem sc_u_take : FnScope ["words", "deepest", "first", "word", "parts", "_"] ["words", "deepest"] (defScope s_u_take) := ⟨rfl, rfl, rfl, by decide +kernel, rfl, by decide +kernel, by decide +kernel⟩
def spUt (n : Nat) : Sp := fun vs H Q _ => ∃ (bs : List Addr) (a : Addr) (ws : List Str), vs = [.ref a, .int (n : Int)] ∧ a ∈ bs ∧ Al bs H ∧ Wl a ws H ∧ ∀ v H', Kp [a] H H' → Al bs H' → Wl a (tkC n ws).2 H' → Dd (hid bs H') v (tkC n ws).1 → Q v H'
theorem ok_u_take (G : Bl mg) (PT : PartsT K w mg) (TJ : TupT K mg "JOINING" joinW) (DA : DefAt K mg "_take_condition" s_u_take) (cTw : Callee P w K mg base 1 "take_word" ["words"] spTw) (cTa : Callee P w K mg base 3 "take_amount" ["words"] spTa) :
    ∀ n : Nat, Callee P w K mg base (4 + n) "_take_condition" ["words", "deepest"] (spUt n) := by
  intro n
  induction n with
  | zero =>
    have ih : Callee P w K mg base 1 "_take_condition" ["words", "deepest"] fun _ _ _ _ => False := callee (k := 0) DA sc_u_take (fun _ _ _ _ h => h.elim) (fun _ _ _ _ _ _ us hl => match us, hl with | [_, _], _ => rfl) fun _ _ _ _ _ _ _ _ _ _ h => h.elim
    refine callee (k := 3) DA sc_u_take (fun vs H Q E h => by obtain ⟨_, _, _, rfl, _⟩ := h; rfl) (fun _ _ _ _ _ _ us hl => match us, hl with | [_, _], _ => rfl) fun f cdv A outer s H vs Q E hr h => ?_
    obtain ⟨bs, a, ws, rfl, ab, al, hw, q⟩ := h
    obtain ⟨dP, es, nP, gP, DK, hPv⟩ := PT.ex
    obtain ⟨aJ, gJ, hJ⟩ := TJ.ex
    have hu := hu_of hr
    refine ⟨_, (pss_cons (ps_if (pt_cmpR op_lt (pv 1) pe_int (nomark _)) (pss_one (ps_ret pe_non)) pss_nil)
    (pss_cons (ps_if (PW.pt (pw_or (pt_not (pt_truth (pv 0) (by intro _; rfl))) (pw_or1 (pt_cmpR op_notIn_seq (pe_ix ix_list (pv 0) (pe_un un_neg pe_int) (fun _ _ => rfl)) (pe_glob (v := .ref aJ) (by rfl) gJ rfl) rfl)))) (pss_cons (ps_set (i := 2) sc_u_take.nd rfl (Or.inl rfl) (pe_cal cTa hr (by omega) (pa_cons (pv 0) pa_nil)))
    (pss_cons (ps_set (i := 3) sc_u_take.nd rfl (Or.inl rfl) (pe_cal cTw hr (by omega) (pa_cons (pv 0) pa_nil)))
    (pss_one (ps_ret (pe_tup (pa_cons (pv 3) (pa_cons (pv 2) (pa_cons (pe_cal cTa hr (by omega) (pa_cons (pv 0) pa_nil)) pa_nil)))))))) pss_nil)
    (pss_cons (ps_set (i := 4) sc_u_take.nd rfl (Or.inl rfl) (pe_lst (pa_cons (pe_cal cTw hr (by omega) (pa_cons (pv 0) pa_nil)) pa_nil)))
    (pss_cons (ps_for PassesOwn.never rfl (pi_range1 (by rfl) G.b_range (pa_cons (pe_ix ix_kdict (pe_glob (v := .ref dP) (by rfl) gP rfl) (pe_ix ix_list (pv 4) pe_int (fun _ _ => rfl)) (fun _ _ => rfl)) pa_nil)) (pg_name (i := 5) sc_u_take.nd rfl (Or.inl rfl)) (pss_one (ps_expr (pe_bm PySem.F.plainAttrs_list PySem.F.slot_list_append PySem.F.type_list_append mt_append (pv 4) (pa_cons (pe_cal ih hr (by omega) (pa_cons (pv 0) (pa_cons (pe_op op_sub (pv 1) pe_int) pa_nil))) pa_nil)))))
    (pss_one (ps_ret (pe_callTy call_tuple_of (by rfl) G.b_tuple (by decide +kernel) (pa_cons (pv 4) pa_nil)))))))), ?_⟩
    refine ⟨_, rfl, _, _, rfl, rfl, _, rfl, ?_⟩
    exact iteT (q _ H (Kp.refl _ _) al hw .non)
  | succ n ih =>
    refine callee (k := 4 + n) DA sc_u_take (fun vs H Q E h => by obtain ⟨_, _, _, rfl, _⟩ := h; rfl) (fun _ _ _ _ _ _ us hl => match us, hl with | [_, _], _ => rfl) fun f cdv A outer s H vs Q E hr h => ?_
    obtain ⟨bs, a, ws, rfl, ab, al, hw, q⟩ := h
    obtain ⟨dP, es, nP, gP, DK, hPv⟩ := PT.ex
    obtain ⟨aJ, gJ, hJ⟩ := TJ.ex
    have hu := hu_of hr
    refine ⟨_, (pss_cons (ps_if (pt_cmpR op_lt (pv 1) pe_int (nomark _)) (pss_one (ps_ret pe_non)) pss_nil)
    (pss_cons (ps_if (PW.pt (pw_or (pt_not (pt_truth (pv 0) (by intro _; rfl))) (pw_or1 (pt_cmpR op_notIn_seq (pe_ix ix_list (pv 0) (pe_un un_neg pe_int) (fun _ _ => rfl)) (pe_glob (v := .ref aJ) (by rfl) gJ rfl) rfl)))) (pss_cons (ps_set (i := 2) sc_u_take.nd rfl (Or.inl rfl) (pe_cal cTa hr (by omega) (pa_cons (pv 0) pa_nil)))
    (pss_cons (ps_set (i := 3) sc_u_take.nd rfl (Or.inl rfl) (pe_cal cTw hr (by omega) (pa_cons (pv 0) pa_nil)))
    (pss_one (ps_ret (pe_tup (pa_cons (pv 3) (pa_cons (pv 2) (pa_cons (pe_cal cTa hr (by omega) (pa_cons (pv 0) pa_nil)) pa_nil)))))))) pss_nil)
    (pss_cons (ps_set (i := 4) sc_u_take.nd rfl (Or.inl rfl) (pe_lst (pa_cons (pe_cal cTw hr (by omega) (pa_cons (pv 0) pa_nil)) pa_nil)))
    (pss_cons (ps_for PassesOwn.never rfl (pi_range1 (by rfl) G.b_range (pa_cons (pe_ix ix_kdict (pe_glob (v := .ref dP) (by rfl) gP rfl) (pe_ix ix_list (pv 4) pe_int (fun _ _ => rfl)) (fun _ _ => rfl)) pa_nil)) (pg_name (i := 5) sc_u_take.nd rfl (Or.inl rfl)) (pss_one (ps_expr (pe_bm PySem.F.plainAttrs_list PySem.F.slot_list_append PySem.F.type_list_append mt_append (pv 4) (pa_cons (pe_cal ih hr (by omega) (pa_cons (pv 0) (pa_cons (pe_op op_sub (pv 1) pe_int) pa_nil))) pa_nil)))))
    (pss_one (ps_ret (pe_callTy call_tuple_of (by rfl) G.b_tuple (by decide +kernel) (pa_cons (pv 4) pa_nil)))))))), ?_⟩
    refine ⟨_, rfl, _, _, rfl, rfl, _, rfl, ?_⟩
    rw [decide_eq_false (show ¬ ((n + 1 : Nat) : Int) < 1 by omega)]
    refine iteF ?_
    have suba : ∀ b ∈ [a], b ∈ bs := fun b z => by rw [List.mem_singleton.mp z]; exact ab
    cases ws with
    | nil =>
      refine ⟨_, rfl, _, .inl ⟨_, SqL.of hw, rfl⟩, ?_⟩
      refine iteT (iteT ?_)
      refine ⟨_, rfl, bs, a, [], rfl, ab, al, hw, fun v1 H1 k1 a1 w1 h1 => ?_⟩
      refine ⟨_, rfl, a, _, rfl, w1, fun H2 k2 w2 => ?_⟩
      have a2 := a1.wl k2 w2
      refine ⟨_, rfl, _, rfl, _, rfl, bs, a, _, rfl, ab, a2, w2, fun v3 H3 k3 a3 w3 h3 => ?_⟩
      refine ⟨by show 3 ≤ sizeLine; decide, fun p hp => ?_⟩
      generalize e4 : upd _ p _ = H4
      obtain ⟨s4, d4⟩ := nw e4 hp
      exact q _ H4 (((k1.trans k2).trans k3).trans (Kp.of s4)) (a3.same s4) (s4 _ _ w3) (Dd.newT a3 hp s4 d4 (.cons (.str _) (.cons (h1.hk (k2.trans k3) suba) (.cons h3 .nil))))
    | cons x ws =>
      refine ⟨_, rfl, _, .inl ⟨_, SqL.of hw, rfl⟩, ?_⟩
      refine itf (by show (!(!((x :: ws).reverse.map V.str).isEmpty)) = false; simp) ?_
      refine ⟨_, rfl, 1, rfl, a, _, -1, _, rfl, rfl, SqL.of hw, wl_at, aJ, _, rfl, .inr (hJ _), rfl, flat_strs _, _, rfl, ?_⟩
      rw [inV_strs]
      by_cases hj : isJ x
      · refine itf (by show (!decide (x ∈ joinW)) = false; rw [decide_eq_true ((joinW_iff x).mpr hj)]; rfl) ?_
        refine ⟨_, rfl, a, _, rfl, hw, fun H1 k1 w1 => ?_⟩
        have w1 : Wl a ws H1 := w1
        have a1 := al.wl k1 w1
        refine ⟨by show 1 ≤ sizeLine; decide, fun l hl => ?_⟩
        generalize e2 : upd _ l _ = H2
        obtain ⟨s2, d2⟩ := nw e2 hl
        have d2 : H2 l = some (.lst [.str x]) := d2
        have al2 : a ≠ l := ne_of_none w1 hl
        obtain ⟨m, pm, m1, m2⟩ := isJ_parts hj
        obtain ⟨r, er, rr⟩ := hPv x
        have ev : partsV x = .int (m : Int) := by unfold partsV; rw [pm]
        rw [ev] at rr
        have kd : KDct K w dP x (.int (m : Int)) := by
          cases r with
          | some u => exact ⟨es, nP, u, DK.at_, DK.lit, er, rr⟩
          | none => obtain ⟨t, z⟩ := rr; cases z
        refine ⟨_, rfl, l, _, 0, _, rfl, rfl, SqL.of d2, at0 _ _, dP, x, _, rfl, rfl, kd, _, rfl, by omega, by omega, ?_⟩
        have no : l ∉ bs := a1.new hl
        have b2 : Al (l :: bs) H2 := fun b z => by
          rcases List.mem_cons.mp z with rfl | z
          · exact ⟨_, d2⟩
          · exact a1.same s2 b z
        refine for_range (lo := 0) (n := m) (fun i σ H' => ∃ (us : List V) (x5 : Option V), σ = [some (.ref a), some (.int ((n + 1 : Nat) : Int)), none, none, some (.ref l), x5] ∧ Kp [a, l] H2 H' ∧ Al (l :: bs) H' ∧ Wl a (tks n i ws).2 H' ∧ H' l = some (.lst (.str x :: us)) ∧ DdL (hid (l :: bs) H') us (tks n i ws).1)
          ⟨[], none, rfl, Kp.refl _ _, b2, s2 _ _ w1, d2, .nil⟩ ?_ ?_
        · rintro i σ H3 hi ⟨us, x5, rfl, k3, a3, w3, d3, h3⟩
          have lu : us.length ≤ 2 := by rw [h3.len, tks_len]; omega
          have en : ((n + 1 : Nat) : Int) - 1 = (n : Int) := by omega
          refine ⟨_, rfl, .inl ⟨rfl, _, SqL.of d3⟩, _, rfl, _, rfl, _, _, rfl, rfl, l :: bs, a, _, by show [V.ref a, V.int (((n + 1 : Nat) : Int) - 1)] = _; rw [en], List.mem_cons_of_mem _ ab, a3, w3, fun v H4 k4 a4 w4 h4 => ?_⟩
          have d4 := k4 _ _ (by simpa using Ne.symm al2) d3
          refine ⟨l, _, _, rfl, rfl, d4, small1000 (by rw [List.length_cons]; omega), us ++ [v], _, rfl, ?_, a4.upd, ?_, upd_same, ?_⟩
          · exact (k3.trans (k4.mono (by simp))).trans (Kp.atb (by simp))
          · show (upd H4 l _) a = _
            rw [upd_ne al2]; exact w4
          · have kl : Kp (l :: bs) H4 (upd H4 l (.lst (.str x :: us ++ [v]))) := Kp.atb (by simp)
            exact ((h3.same (Kp.hid (k4.mono fun b z => by rw [List.mem_singleton.mp z]; exact List.mem_cons_of_mem _ ab))).app (.cons h4 .nil)).same (Kp.hid kl)
        · rintro σ H3 ⟨us, x5, rfl, k3, a3, w3, d3, h3⟩
          refine ⟨_, rfl, l, _, rfl, .inl ⟨SqL.of d3, fun p hp => ?_⟩⟩
          generalize e4 : upd _ p _ = H4
          obtain ⟨s4, d4⟩ := nw e4 hp
          rw [tkC_tks hj pm] at q
          have a3' : Al bs H3 := fun b z => a3 b (List.mem_cons_of_mem _ z)
          have k03 : Kp [a] H H3 := fun b o hb e => by
            have e1 := k1 b o hb e
            have nl : b ≠ l := ne_of_none e1 hl
            exact k3 b o (by simp at hb ⊢; exact ⟨hb, nl⟩) (s2 _ _ e1)
          exact q _ H4 (k03.trans (Kp.of s4)) (a3'.same s4) (s4 _ _ w3) (Dd.newT a3' hp s4 d4 (.cons (.str _) (h3.same hid_more)))
      · refine itt (by show (!decide (x ∈ joinW)) = true; rw [decide_eq_false (fun z => hj ((joinW_iff x).mp z))]; rfl) ?_
        rw [tkC_cons, if_neg hj] at q
        refine ⟨_, rfl, bs, a, x :: ws, rfl, ab, al, hw, fun v1 H1 k1 a1 w1 h1 => ?_⟩
        refine ⟨_, rfl, a, _, rfl, w1, fun H2 k2 w2 => ?_⟩
        have a2 := a1.wl k2 w2
        refine ⟨_, rfl, _, rfl, _, rfl, bs, a, _, rfl, ab, a2, w2, fun v3 H3 k3 a3 w3 h3 => ?_⟩
        refine ⟨by show 3 ≤ sizeLine; decide, fun p hp => ?_⟩
        generalize e4 : upd _ p _ = H4
        obtain ⟨s4, d4⟩ := nw e4 hp
        exact q _ H4 (((k1.trans k2).trans k3).trans (Kp.of s4)) (a3.same s4) (s4 _ _ w3) (Dd.newT a3 hp s4 d4 (.cons (.str _) (.cons (h1.hk (k2.trans k3) suba) (.cons h3 .nil))))
end
end NH
set_option maxHeartbeats 4000000
namespace NH
open PySem PySem.Spec PyProof.Rows L2 TL
/-- a list of values about data, one behind the other -/
theorem lcV {J : It} {Gd : Hp → Prop} {xs : List V} {ds : List D} {f : D → V} {i0 : Nat} {te : TE} {vs : List Nat} {σ : L2.St} {H1 : Hp} {p : Addr} {Qd : Hp → Prop} (w : Walk J xs.length Gd (YAt xs)) (hG : ∀ H', Same H1 H' → Gd H') (hp : H1 p = none) (hds : DdL H1 xs ds) (small : xs.length ≤ 1000)
    (hw : ∀ x, wipe ((wipe σ vs).set i0 (some x)) vs = wipe σ vs) (ht : ∀ x d H', Same H1 H' → Dd H' x d → d ∈ ds → ∀ F : VK, (∀ H'', Same H' H'' → F (f d) H'') → te ((wipe σ vs).set i0 (some x)) H' F)
    (hd : ∀ H', Same H1 H' → H' p = some (.lst (ds.map f)) → Qd H') :
    ∃ W : Nat → Nat → Hp → Prop, (∃ m, W 0 m (upd H1 p (.lst []))) ∧ ∀ i m H, W i m H → (J.stop i H ∧ Qd H) ∨ (J.go i H ∧ ∃ Nx : Hp → Prop, (∀ H', Nx H' → ∃ m', m' < m ∧ W (i + 1) m' H') ∧ ∀ x H', J.yld i H x H' → gName i0 x (wipe σ vs) H' fun σ2 H2 => wipe σ2 vs = wipe σ vs ∧ tYes σ2 H2 fun b H3 =>
      if b = true then te σ2 H3 fun y H4 => ∃ acc, H4 p = some (.lst acc) ∧ acc.length < sizeLine ∧ Nx (upd H4 p (.lst (acc ++ [y]))) else Nx H3) := by
  refine lc_it (g := gName i0) (tt := tYes) w (fun i H' => Same H1 H' ∧ H' p = some (.lst ((ds.take i).map f))) ⟨same_new hp, upd_same⟩ (fun _ H' _ h => hG H' h.1) ?_ ?_
  · rintro i x H2 H2' hi ⟨s2, d2⟩ ⟨rfl, hx⟩
    obtain ⟨d, ed, hd2⟩ := hds.at hx
    refine ⟨hw x, tyes ?_⟩
    refine iteT ?_
    refine ht x d H2' s2 (hd2.same s2) (List.mem_of_getElem? ed) _ fun H3 s3 => ⟨_, s3 _ _ d2, ?_, Same.put (s2.trans s3) hp, ?_⟩
    · rw [List.length_map, List.length_take]; exact small1000 (by omega)
    · rw [upd_same, take_succ_of ed, List.map_append]; rfl
  · rintro H2 ⟨s2, d2⟩
    rw [show ds.take xs.length = ds by rw [hds.len]; exact List.take_length] at d2
    exact hd H2 s2 d2
structure Short (ks : List Kind) (nm : List Str) : Prop where
  nm : ∀ y ∈ nm, y.length ≤ 10
  sd : ∀ s ∈ sidesOf ks, s.length ≤ 10
theorem app_len (x y : Str) : (x ++ y).length = x.length + y.length := by
  rw [len_tl, len_tl, len_tl]
  show (tl (x ++ y)).length = (tl x).length + (tl y).length
  rw [tl_append, List.length_append]
theorem txA_len {ks : List Kind} {nm : List Str} (S : Short ks nm) {a : D} (h : amtOk ks nm a = true) : (txA a).length ≤ 14 := by
  rcases amt_cases h with ⟨s, rfl, hs⟩ | ⟨x, rfl, hx⟩ | ⟨k, hk, rfl⟩
  · have z := S.sd s hs
    show (Str.ofString "due " ++ s).length ≤ 14
    rw [app_len]
    have e : (Str.ofString "due ").length = 4 := rfl
    omega
  · have z := S.nm x hx
    show x.length ≤ 14
    omega
  · show (digS _).length ≤ 14
    have e : ∀ n, (digS n).length = 1 := fun n => rfl
    rw [e]; decide
theorem CondC.len {ks : List Kind} {nm : List Str} (S : Short ks nm) {n : Nat} {d : D} (c : CondC ks nm n d) : (txC n d).length + 8 ≤ 22 * 2 ^ n := by
  induction c with
  | @cmp n z a b hz ha hb =>
    rw [txC_cmp hz]
    simp only [app_len]
    have z1 := txA_len S ha
    have z2 := txA_len S hb
    have z3 : (NH.spc).length = 1 := rfl
    have z4 : z.length ≤ 5 := by rcases hz with h | h <;> rw [h] <;> decide
    have z5 : 2 ≤ 2 ^ (n + 1) := by rw [Nat.pow_succ]; have := Nat.one_le_two_pow (n := n); omega
    omega
  | @neg n a ca ih =>
    rw [txC_join (.inr (.inr rfl))]
    have e2 : ("not" : Str) :: [a].map (txC n) = [Str.ofString "not"] ++ [txC n a] := rfl
    rw [e2, join_app (by simp) (by simp), join_one, join_one]
    simp only [app_len]
    have z3 : (NH.spc).length = 1 := rfl
    have z4 : (Str.ofString "not").length = 3 := rfl
    have z5 : 2 ^ (n + 1) = 2 * 2 ^ n := by rw [Nat.pow_succ, Nat.mul_comm]
    have z6 := Nat.one_le_two_pow (n := n)
    omega
  | @two n z a b hz hn ca cb i1 i2 =>
    rw [txC_join hz]
    have e2 : z :: [a, b].map (txC n) = [z] ++ ([txC n a] ++ [txC n b]) := rfl
    rw [e2, join_app (by simp) (by simp), join_app (by simp) (by simp), join_one, join_one, join_one]
    simp only [app_len]
    have z3 : (NH.spc).length = 1 := rfl
    have z4 : z.length ≤ 6 := by rcases hz with h | h | h <;> rw [h] <;> decide
    have z5 : 2 ^ (n + 1) = 2 * 2 ^ n := by rw [Nat.pow_succ, Nat.mul_comm]
    omega
theorem dig_str : ∀ k : Nat, k < 10 → (toString (k : Int) : Str) = digS k := by decide +kernel
section
variable {P : Program} {w : World} {K : PySem.W.Frag} {mg : Str → Option Value} {base : Heap}
abbrev s_amount_text : Stmt := top 23
theorem sc_amount_text : FnScope ["amount"] ["amount"] (defScope s_amount_text) := ⟨rfl, rfl, rfl, by decide +kernel, rfl, by decide +kernel, by decide +kernel⟩
def spAt : Sp := fun vs H Q _ => ∃ (v : V) (d : D) (ks : List Kind) (nm : List Str), vs = [v] ∧ Dd H v d ∧ amtOk ks nm d = true ∧ Short ks nm ∧ Q (.str (txA d)) H
theorem ok_amount_text (G : Bl mg) (DA : DefAt K mg "amount_text" s_amount_text) : Callee P w K mg base 1 "amount_text" ["amount"] spAt := by
  refine callee DA sc_amount_text (fun vs H Q E h => by obtain ⟨_, _, _, _, rfl, _⟩ := h; rfl) (fun _ _ _ _ _ _ us hl => match us, hl with | [_], _ => rfl) fun f cdv A outer s H vs Q E hr h => ?_
  obtain ⟨v, d, ks, nm, rfl, hd, ha, S, q⟩ := h
  refine ⟨_, (pss_cons (ps_if (pt_val (pe_callB call_isi (by rfl) G.b_isinstance (by decide +kernel) (pa_cons (pv 0) (pa_cons (pe_bltn (v := .ty "tuple") (u := .type "tuple") (by rfl) G.b_tuple (by decide +kernel) rfl) pa_nil)))) (pss_one (ps_ret (pe_joined (PJ.cons pe_str (PJ.cons (pe_fmt (pe_ix ix_tup (pv 0) pe_int (fun _ _ => rfl))) PJ.nil))))) pss_nil)
    (pss_one (ps_ret (pe_joined1 (pe_fmt (pv 0)))))), ?_⟩
  have ln : ∀ x : Str, x.length ≤ 1000 → x.length ≤ sizeLine := fun x h => Nat.le_of_lt (small1000 h)
  refine ⟨v, rfl, _, _, _, _, _, rfl, .ty "tuple", hd.tyx, kit_tuple d, _, rfl, ?_⟩
  rcases amt_cases ha with ⟨x, rfl, hs⟩ | ⟨x, rfl, hx⟩ | ⟨k, hk, rfl⟩
  · refine iteT ?_
    cases hd with
    | @tup a xs _ h1 h2 =>
      cases h2 with
      | cons e1 h2 =>
        cases h2 with
        | cons e2 h3 =>
          cases e1; cases e2; cases h3
          have z := S.sd x hs
          have l4 : (Str.ofString "due ").length = 4 := rfl
          have el : ∀ y : Str, (Str.empty ++ Str.ofString "due " ++ y).length = 4 + y.length := fun y => by rw [app_len, app_len, l4]; rfl
          refine ⟨_, rfl, by show (Str.empty ++ Str.ofString "due ").length ≤ sizeLine; exact ln _ (by decide), _, rfl, a, _, 1, _, rfl, rfl, SqT.of h1, at1 _ _ _, .inl ⟨x, rfl, ln _ (by omega), x, rfl, ln _ (by rw [el]; omega), ?_⟩⟩
          rw [empty_app]
          exact q
  · refine iteF ?_
    cases hd
    have z := S.nm x hx
    exact ⟨_, rfl, .inl ⟨x, rfl, ln _ (by omega), q⟩⟩
  · refine iteF ?_
    cases hd
    refine ⟨_, rfl, .inr ⟨(k : Int), rfl, ?_, ?_⟩⟩
    · have z : ∀ k : Nat, k < 10 → (k : Int).natAbs.log2 < 1920 := by decide +kernel
      exact z k (by omega)
    · have z := dig_str k (by omega)
      show Q (.str (toString (k : Int) : Str)) H
      rw [z]
      exact q
theorem jc {ks : List Kind} {nm : List Str} {n : Nat} {d : D} {H : Hp} {v : V} {Q : VK} {B : Prop} (go : ∀ (z : Str) (ds : List D), Dd H v (.tup (.str z :: ds)) → isJ z → ds.length ≤ 2 → (∀ e ∈ ds, CondC ks nm n e) → (∀ H', Same H H' → Q (.str (txC (n + 1) (.tup (.str z :: ds)))) H') → B)
    (c : CondC ks nm (n + 1) d) (hd : Dd H v d) (q : ∀ H', Same H H' → Q (.str (txC (n + 1) d)) H') (k : (∀ (z : Str) (ds : List D), Dd H v (.tup (.str z :: ds)) → isJ z → ds.length ≤ 2 → (∀ e ∈ ds, CondC ks nm n e) → (∀ H', Same H H' → Q (.str (txC (n + 1) (.tup (.str z :: ds)))) H') → B) → B) : B := k go
abbrev s_condition_text : Stmt := top 21
theorem sc_condition_text : FnScope ["condition", "word", "part"] ["condition"] (defScope s_condition_text) := ⟨rfl, rfl, rfl, by decide +kernel, rfl, by decide +kernel, by decide +kernel⟩
def spCt (n : Nat) : Sp := fun vs H Q _ => ∃ (v : V) (d : D) (ks : List Kind) (nm : List Str), vs = [v] ∧ Dd H v d ∧ CondC ks nm n d ∧ n ≤ 6 ∧ Short ks nm ∧ ∀ H', Same H H' → Q (.str (txC n d)) H'
def Body (P : Program) (w : World) (K : PySem.W.Frag) (mg : Str → Option Value) (base : Heap) (CX : CXT) (k : Nat) (x : Str) (st : Stmt) (N : List Str) (sp : Sp) : Prop :=
  ∀ (f : Addr) (cdv : Value) (A : Around) (outer : List Env) (s : Shared) (H : Hp) (vs : List V) (Q : VK) (E : XK), Room k (A.deeper (envOfC x (defScope st) s.heap.objs.size f cdv)) → sp vs H Q E →
      ∃ t, PSs (cxOf CX P w K mg base N x (defScope st) f cdv A outer s H E).nox (defBody st) t ∧ t { nx := fun _ H' => Q .non H', rt := Q } (start N vs) H
theorem ct_body (G : Bl mg) (TC : TupT K mg "COMPARING" isAb) (cAt : Callee P w K mg base 1 "amount_text" ["amount"] spAt) (n : Nat) (ih : Callee P w K mg base (2 + n) "condition_text" ["condition"] (spCt n)) :
    Body P w K mg base CX0 (2 + n) "condition_text" s_condition_text ["condition", "word", "part"] (spCt (n + 1)) := by
  intro f cdv A outer s H vs Q E hr h
  obtain ⟨v, d, ks, nm, rfl, hd, c, n6, S, q⟩ := h
  obtain ⟨aC, gC, hC⟩ := TC.ex
  refine ⟨_, (pss_cons (ps_set (i := 1) sc_condition_text.nd rfl (Or.inl rfl) (pe_ix ix_tup (pv 0) pe_int (fun _ _ => rfl)))
    (pss_cons (ps_if (pt_cmpR op_in_seq (pv 1) (pe_glob (v := .ref aC) (by rfl) gC rfl) rfl) (pss_one (ps_ret (pe_joined (PJ.cons (pe_fmt (pe_cal cAt hr (by omega) (pa_cons (pe_ix ix_tup (pv 0) pe_int (fun _ _ => rfl)) pa_nil))) (PJ.cons pe_str (PJ.cons (pe_fmt (pv 1)) (PJ.cons pe_str (PJ.cons (pe_fmt (pe_cal cAt hr (by omega) (pa_cons (pe_ix ix_tup (pv 0) pe_int (fun _ _ => rfl)) pa_nil))) PJ.nil)))))))) pss_nil)
    (pss_one (ps_ret (pe_join pe_str (pe_op op_cat (pe_lst (pa_cons (pv 1) pa_nil)) (pe_lc (own := [("part", 2)]) (g := gName 2) rfl sc_condition_text.nd (pi_tup (pe_slice sl_tup (pv 0) (po_some pe_int) po_none)) (blkOk_by (N := ["condition", "word", "part"]) (sc := defScope s_condition_text) (by decide +kernel)) (fun _ _ _ _ _ => (pg_name (i := 2) sc_condition_text.nd rfl (Or.inl rfl))) (fun _ _ _ _ _ => pts_nil) (fun _ _ _ _ _ => (pe_cal ih hr (by omega) (pa_cons (pv 2) pa_nil)))))))))), ?_⟩
  have ln : ∀ x : Str, x.length ≤ 1000 → x.length ≤ sizeLine := fun x h => Nat.le_of_lt (small1000 h)
  refine jc (go := ?_) c hd q ?_
  · intro z ds hd hj l2 hall q
    cases hd with
    | @tup p xs _ h1 h2 =>
      obtain ⟨us, rfl, h3⟩ : ∃ us, xs = .str z :: us ∧ DdL H us ds := by
        cases h2 with
        | cons x1 h2 => cases x1; exact ⟨_, rfl, h2⟩
      have lus : us.length ≤ 2 := by rw [h3.len]; exact l2
      have nc : z ∉ isAb := fun y => isJ_no hj (by simpa [isAb] using y)
      refine ⟨_, rfl, p, _, 0, _, rfl, rfl, SqT.of h1, at0 _ _, _, rfl, aC, _, rfl, .inr (hC _), rfl, flat_strs _, _, rfl, ?_⟩
      refine itf (by show inV (V.str z) (isAb.map V.str) = false; rw [inV_strs]; exact decide_eq_false nc) ?_
      refine ⟨⟨_, rfl⟩, _, rfl, by show 1 ≤ sizeLine; decide, fun p1 hp1 => ?_⟩
      generalize e1 : upd _ p1 _ = H1
      obtain ⟨s1, d1⟩ := nw e1 hp1
      refine ⟨_, rfl, 1, rfl, p, _, rfl, SqT.of (s1 _ _ h1), cut1_not _ _, fun t ht => ?_⟩
      rw [cut1]
      generalize e2 : upd _ t _ = H2
      obtain ⟨s2, d2⟩ := nw e2 ht
      refine ⟨t, rfl, ⟨us, SqT.of d2⟩, fun l hl => ?_⟩
      have s12 := s1.trans s2
      refine lcV (f := fun d => V.str (txC n d)) (walk_tup (K := K) (a := t)) (fun H' s' => SqT.of (s' _ _ d2)) hl (h3.same s12) (by omega) (fun _ => rfl) (fun x d H' s' hd' hm F k => ?_) fun H3 s3 d3 => ?_
      · exact ⟨_, rfl, x, d, ks, nm, rfl, hd', hall d hm, by omega, S, k⟩
      · have d13 := (s2.trans s3) _ _ d1
        refine ⟨p1, l, _, _, rfl, rfl, d13, d3, Nat.le_of_lt (small1000 (by show 1 + (ds.map _).length ≤ 1000; rw [List.length_map]; omega)), fun g hg => ?_⟩
        generalize e4 : upd _ g _ = H4
        obtain ⟨s4, d4⟩ := nw e4 hg
        have e5 : [V.str z] ++ ds.map (fun d => V.str (txC n d)) = (z :: ds.map (txC n)).map V.str := by rw [List.map_cons, List.map_map]; rfl
        rw [e5] at d4
        refine ⟨_, g, z :: ds.map (txC n), rfl, rfl, .inl (SqL.of d4), ?_, ?_⟩
        · have lz : z.length ≤ 6 := by rcases hj with h | h | h <;> rw [h] <;> decide
          have bnd : ∀ es : List D, (∀ e ∈ es, CondC ks nm n e) → ((es.map (txC n)).map (·.length)).sum ≤ es.length * (22 * 2 ^ n) := fun es => by
            induction es with
            | nil => intro _; simp
            | cons e es ih2 =>
              intro hh
              have z1 := (hh e (by simp)).len S
              have z2 := ih2 fun x hx => hh x (by simp [hx])
              rw [List.map_cons, List.map_cons, List.sum_cons, List.length_cons, Nat.succ_mul]
              omega
          have z1 := bnd ds hall
          have z2 : 2 ^ n ≤ 2 ^ 6 := Nat.pow_le_pow_right (by decide) (by omega)
          have z3 : ds.length * (22 * 2 ^ n) ≤ 2 * (22 * 2 ^ 6) := Nat.mul_le_mul l2 (Nat.mul_le_mul_left _ z2)
          rw [List.map_cons, List.sum_cons, List.length_cons, List.length_map]
          have z4 : (Str.ofString " ").length = 1 := rfl
          rw [z4]
          omega
        · have y := q H4 ((s12.trans s3).trans s4)
          rw [txC_join hj] at y
          exact y
  intro go
  cases c with
  | @cmp _ z a b hz ha hb =>
    cases hd with
    | @tup p xs _ h1 h2 =>
      obtain ⟨va, vb, rfl, e1, e2⟩ : ∃ va vb, xs = [.str z, va, vb] ∧ Dd H va a ∧ Dd H vb b := by
        cases h2 with
        | cons x1 h2 => cases h2 with
          | cons x2 h2 => cases h2 with
            | cons x3 h3 => cases h3; cases x1; exact ⟨_, _, rfl, x2, x3⟩
      have z4 : z.length ≤ 5 := by rcases hz with h | h <;> rw [h] <;> decide
      have l1 := txA_len S ha
      have l2 := txA_len S hb
      have ls : (NH.spc).length = 1 := rfl
      have le : Str.empty.length = 0 := rfl
      have lsp : (Str.ofString " ").length = 1 := rfl
      refine ⟨_, rfl, p, _, 0, _, rfl, rfl, SqT.of h1, at0 _ _, _, rfl, aC, _, rfl, .inr (hC _), rfl, flat_strs _, _, rfl, ?_⟩
      refine itt (by show inV (V.str z) (isAb.map V.str) = true; rw [inV_strs]; exact decide_eq_true (by rcases hz with h | h <;> rw [h] <;> simp [isAb])) ?_
      refine ⟨_, rfl, p, _, 1, _, rfl, rfl, SqT.of h1, at1 _ _ _, va, a, ks, nm, rfl, e1, ha, S, .inl ⟨_, rfl, ln _ (by omega), _, rfl, ln _ (by rw [app_len]; omega), ?_⟩⟩
      refine ⟨_, rfl, ln _ (by simp only [app_len]; omega), ?_⟩
      refine ⟨_, rfl, .inl ⟨_, rfl, ln _ (by omega), _, rfl, ln _ (by simp only [app_len]; omega), ?_⟩⟩
      refine ⟨_, rfl, ln _ (by simp only [app_len]; omega), ?_⟩
      refine ⟨_, rfl, p, _, 2, _, rfl, rfl, SqT.of h1, rfl, vb, b, ks, nm, rfl, e2, hb, S, .inl ⟨_, rfl, ln _ (by omega), _, rfl, ln _ (by simp only [app_len]; omega), ?_⟩⟩
      have y := q H (Same.refl H)
      rw [txC_cmp hz] at y
      rw [empty_app]
      exact y
  | @neg _ a ca => exact go "not" [a] hd (.inr (.inr rfl)) (by show 1 ≤ 2; decide) (fun e he => by rw [List.mem_singleton.mp he]; exact ca) q
  | @two _ z a b hz hn ca cb => exact go z [a, b] hd hz (by show 2 ≤ 2; decide) (fun e he => by
      rcases List.mem_cons.mp he with rfl | he
      · exact ca
      · rw [List.mem_singleton.mp he]; exact cb) q
theorem ok_condition_text (G : Bl mg) (TC : TupT K mg "COMPARING" isAb) (DA : DefAt K mg "condition_text" s_condition_text) (cAt : Callee P w K mg base 1 "amount_text" ["amount"] spAt) :
    ∀ n : Nat, Callee P w K mg base (2 + n) "condition_text" ["condition"] (spCt n) := by
  intro n
  induction n with
  | zero => exact callee (k := 1) DA sc_condition_text (fun vs H Q E h => by obtain ⟨_, _, _, _, rfl, _⟩ := h; rfl) (fun _ _ _ _ _ _ us hl => match us, hl with | [_], _ => rfl) fun f cdv A outer s H vs Q E hr h => by obtain ⟨_, _, _, _, _, _, c, _⟩ := h; cases c
  | succ n ih => exact callee (k := 2 + n) DA sc_condition_text (fun vs H Q E h => by obtain ⟨_, _, _, _, rfl, _⟩ := h; rfl) (fun _ _ _ _ _ _ us hl => match us, hl with | [_], _ => rfl) (ct_body G TC cAt n ih)
theorem ok_condition_textK (G : Bl mg) (TC : TupT K mg "COMPARING" isAb) (DA : DefAt K mg "condition_text" s_condition_text) (cAt : Callee P w K mg base 1 "amount_text" ["amount"] spAt) (n : Nat) : CalleeK P w K mg base (2 + n + 1) "condition_text" ["condition"] (spCt (n + 1)) :=
  calleeK (k := 2 + n) DA sc_condition_text (fun vs H Q E h => by obtain ⟨_, _, _, _, rfl, _⟩ := h; rfl) (fun _ _ _ _ _ _ us hl => match us, hl with | [_], _ => rfl) (ct_body G TC cAt n (ok_condition_text G TC DA cAt n))
end
end NH
set_option maxHeartbeats 4000000
namespace NH
open PySem PySem.Spec PyProof.Rows L2 TL
def NumT (mg : Str → Option Value) (x : Str) (i : Int) : Prop := ∃ t, mg x = some (.int i t)
section
variable {P : Program} {w : World} {K : PySem.W.Frag} {mg : Str → Option Value} {base : Heap} {C fI fH : Addr}
abbrev s_is_condition : Stmt := top 20
theorem sc_is_condition : FnScope ["ports", "numbers", "value"] ["ports", "numbers", "value"] (defScope s_is_condition) := ⟨rfl, rfl, rfl, by decide +kernel, rfl, by decide +kernel, by decide +kernel⟩
def spIc (C : Addr) : Sp := fun vs H Q _ => ∃ (p : Addr) (ks : List Kind) (u : V) (nm : List Str) (v : V) (d : D), vs = [.ref p, u, v] ∧ PortsAt C H p ks ∧ NamesAt H u nm ∧ Dd H v d ∧ ∀ H', Same H H' → Q (.bl (condOk ks nm 4 d)) H'
theorem ok_is_condition (G4 : NumT mg "DEEPEST_CONDITION" 4) (DA : DefAt K mg "is_condition" s_is_condition) (cUc : Callee P w K mg base 10 "_is_condition" ["ports", "numbers", "value", "deepest"] (spCond C 4)) : Callee P w K mg base 11 "is_condition" ["ports", "numbers", "value"] (spIc C) := by
  refine callee DA sc_is_condition (fun vs H Q E h => by obtain ⟨p, ks, u, nm, v, d, rfl, _⟩ := h; rfl) (fun _ _ _ _ _ _ us hl => match us, hl with | [_, _, _], _ => rfl) fun f cdv A outer s H vs Q E hr h => ?_
  obtain ⟨p, ks, u, nm, v, d, rfl, hP, hN, hd, q⟩ := h
  obtain ⟨t4, g4⟩ := G4
  refine ⟨_, (pss_one (ps_ret (pe_cal cUc hr (by decide) (pa_cons (pv 0) (pa_cons (pv 1) (pa_cons (pv 2) (pa_cons (pe_glob (v := .int 4) (by rfl) g4 ⟨_, rfl⟩) pa_nil))))))), ?_⟩
  exact ⟨_, rfl, _, rfl, v, rfl, p, ks, u, nm, v, d, rfl, hP, hN, hd, q⟩
abbrev s_stacked_words : Stmt := top 24
theorem sc_stacked_words : FnScope ["line"] ["line"] (defScope s_stacked_words) := ⟨rfl, rfl, rfl, by decide +kernel, rfl, by decide +kernel, by decide +kernel⟩
def spSw : Sp := fun vs H Q _ => ∃ (x : Str), vs = [.str x] ∧ x.length ≤ 100000 ∧ ∀ p H', H p = none → Same H H' → Wl p (Txt.split x spc) H' → Q (.ref p) H'
theorem ok_stacked_words (G : Bl mg) (DA : DefAt K mg "stacked_words" s_stacked_words) : Callee P w K mg base 1 "stacked_words" ["line"] spSw := by
  refine callee DA sc_stacked_words (fun vs H Q E h => by obtain ⟨_, rfl, _⟩ := h; rfl) (fun _ _ _ _ _ _ us hl => match us, hl with | [_], _ => rfl) fun f cdv A outer s H vs Q E hr h => ?_
  obtain ⟨x, rfl, hx, q⟩ := h
  refine ⟨_, (pss_one (ps_ret (pe_lstRev rfl (by rfl) G.b_list (by rfl) G.b_reversed (pe_split (pv 0) pe_str)))), ?_⟩
  refine ⟨_, rfl, ⟨_, rfl⟩, x, spc, rfl, rfl, by decide +kernel, Nat.le_of_lt (Nat.lt_of_le_of_lt (Nat.add_le_add_right hx 2) (by decide)), fun p hp => ?_⟩
  generalize e1 : upd _ p _ = H1
  obtain ⟨s1, d1⟩ := nw e1 hp
  refine ⟨p, _, rfl, SqL.of d1, fun r hr2 => ?_⟩
  generalize e2 : upd _ r _ = H2
  obtain ⟨s2, d2⟩ := nw e2 hr2
  have hn : H r = none := by
    cases e : H r with
    | none => rfl
    | some o => have z := s1 _ _ e; rw [hr2] at z; cases z
  refine q r H2 hn (s1.trans s2) ?_
  unfold Wl
  rw [d2, List.map_reverse]
abbrev s_take_condition : Stmt := top 28
theorem sc_take_condition : FnScope ["words"] ["words"] (defScope s_take_condition) := ⟨rfl, rfl, rfl, by decide +kernel, rfl, by decide +kernel, by decide +kernel⟩
def spTc : Sp := fun vs H Q _ => ∃ (bs : List Addr) (a : Addr) (ws : List Str), vs = [.ref a] ∧ a ∈ bs ∧ Al bs H ∧ Wl a ws H ∧ ∀ v H', Kp [a] H H' → Al bs H' → Wl a (tkC 4 ws).2 H' → Dd (hid bs H') v (tkC 4 ws).1 → Q v H'
theorem ok_take_condition (G4 : NumT mg "DEEPEST_CONDITION" 4) (DA : DefAt K mg "take_condition" s_take_condition) (cUt : Callee P w K mg base 8 "_take_condition" ["words", "deepest"] (spUt 4)) : Callee P w K mg base 9 "take_condition" ["words"] spTc := by
  refine callee DA sc_take_condition (fun vs H Q E h => by obtain ⟨_, _, _, rfl, _⟩ := h; rfl) (fun _ _ _ _ _ _ us hl => match us, hl with | [_], _ => rfl) fun f cdv A outer s H vs Q E hr h => ?_
  obtain ⟨bs, a, ws, rfl, ab, al, hw, q⟩ := h
  obtain ⟨t4, g4⟩ := G4
  refine ⟨_, (pss_one (ps_ret (pe_cal cUt hr (by decide) (pa_cons (pv 0) (pa_cons (pe_glob (v := .int 4) (by rfl) g4 ⟨_, rfl⟩) pa_nil))))), ?_⟩
  exact ⟨_, rfl, bs, a, ws, rfl, ab, al, hw, q⟩
end
end NH
set_option maxHeartbeats 4000000
namespace NH
open PySem PySem.Spec PyProof.Rows L2 TL
/-- a def that keeps a promise, and may let an error out -/
structure CalleeX (P : Program) (w : World) (K : PySem.W.Frag) (mg : Str → Option Value) (base : Heap) (k : Nat) (x : Str) (ps : List Str) (sp : Sp) : Prop where
  ex : ∃ f fd, mg x = some (.ref f) ∧ PySem.W.keepIn K (.ref f) = true ∧ Binds K fd ps [] ∧ FnOk P w K mg base (L2.CX P w) k f fd ps sp
section
variable {P : Program} {w : World} {K : PySem.W.Frag} {mg : Str → Option Value} {base : Heap} {C fI fH CE fE : Addr}
theorem calleeX {x : Str} {st : Stmt} {N ps : List Str} {k : Nat} {sp : Sp} (D : DefAt K mg x st) (S : FnScope N ps (defScope st)) (len : ∀ vs H Q E, sp vs H Q E → vs.length = ps.length)
    (hb : ∀ (kV doc pm : Value) (an : Option Addr) (cdv ct : Value) (us : List Value), us.length = ps.length → bindArgs (PySem.W.fnOf x x (defArgs st) (defBody st) (defScope st) .none kV doc pm an cdv ct) ⟨us, []⟩ = pure (ps.zip us))
    (hbody : ∀ (f : Addr) (cdv : Value) (A : Around) (outer : List Env) (s : Shared) (H : Hp) (vs : List V) (Q : VK) (E : XK), Room k (A.deeper (envOfC x (defScope st) s.heap.objs.size f cdv)) → sp vs H Q E →
      ∃ t, PSs (cxOf (L2.CX P w) P w K mg base N x (defScope st) f cdv A outer s H E) (defBody st) t ∧ t { nx := fun _ H' => Q .non H', rt := Q } (start N vs) H) : CalleeX P w K mg base (k + 1) x ps sp := by
  obtain ⟨fd, F⟩ := D.f
  exact ⟨_, fd, D.g, F.kp, F.bindsN hb, F.ok S len fun cdv A outer s H vs Q E hr h => hbody _ cdv A outer s H vs Q E hr h⟩
/-- the class InvalidText and its __init__ -/
structure ErrC (K : PySem.W.Frag) (mg : Str → Option Value) (CE fE : Addr) : Prop where
  g : mg "InvalidText" = some (.ref CE)
  T : OexC K CE
  iC : PySem.W.findIn K (.ref CE) "__init__" = some (some (.ref fE))
  tI : PySem.W.typeIn K (.ref fE) = some (.type "function")
  no : PySem.W.findIn K (.ref CE) "given" = some none
abbrev s_erri : Stmt := inClass (top 13) 0
theorem sc_erri : FnScope ["self", "given"] ["self", "given"] (defScope s_erri) := ⟨rfl, rfl, rfl, by decide +kernel, rfl, by decide +kernel, by decide +kernel⟩
def spErr (CE : Addr) : Sp := fun vs H Q _ => ∃ (a : Addr) (v : V), vs = [.ref a, v] ∧ H a = some (exo a CE none) ∧ ∀ dx, H dx = none → dx ≠ a → Q .non (upd (upd H dx (exd dx [("given", v)])) a (exo a CE (some dx)))
theorem ok_erri (X : ErrC K mg CE fE) (F : ∃ fd, FunD K "__init__" "InvalidText.__init__" (defArgs s_erri) (defBody s_erri) (defScope s_erri) [] [] fE fd) :
    ∃ fd, Binds K fd ["self", "given"] [] ∧ FnOk P w K mg base CX0 1 fE fd ["self", "given"] (spErr CE) := by
  refine meth_ok F sc_erri (fun vs H Q E h => by obtain ⟨a, v, rfl, _⟩ := h; rfl) (fun _ _ _ _ _ _ us hl => match us, hl with | [_, _], _ => rfl) fun cdv A outer s H vs Q E hr h => ?_
  obtain ⟨a, v, rfl, ha, q⟩ := h
  refine ⟨_, (pss_one (ps_ost (pv 0) (pv 1))), ?_⟩
  exact ⟨_, rfl, _, rfl, a, CE, rfl, X.T, X.no, .inl ⟨ha, fun dx h1 h2 => q dx h1 h2⟩⟩
/-- InvalidText(v) is raised -/
theorem err_go {H : Hp} {v : V} {Q : XK} (q : ∀ d H', H d = none → Same H H' → H' d = some (.xd [("given", v)]) → Q (.ref CE) (some d) H') (a : Addr) (ha : H a = none) :
    spErr CE [.ref a, v] (upd H a (exo a CE none)) (fun u H2 => u = .non ∧ ∃ (d : Addr) (fs : List (Str × V)), H2 a = some (exo a CE (some d)) ∧ H2 d = some (exd d fs) ∧ H d = none ∧ Q (.ref CE) (some d) (upd (del H2 a) d (.xd fs))) (fun _ _ _ => False) := by
  refine ⟨a, v, rfl, upd_same, fun dx h1 h2 => ?_⟩
  have h3 : H dx = none := by rw [upd_ne h2] at h1; exact h1
  refine ⟨rfl, dx, [("given", v)], upd_same, by rw [upd_ne h2, upd_same], h3, q dx _ h3 ?_ upd_same⟩
  intro b o e
  have e1 : b ≠ a := ne_of_none e ha
  have e2 : b ≠ dx := ne_of_none e h3
  rw [upd_ne e2, del_ne e1, upd_ne e1, upd_ne e2, upd_ne e1]
  exact e
theorem same_kp {a : Addr} {H H1 H2 : Hp} (s : Same H H1) (h : H a = none) (k : Kp [a] H1 H2) : Same H H2 := fun b o e => k b o (by simpa using ne_of_none e h) (s b o e)
def D.reads (ks : List Kind) (nm : List Str) : D → Option D
  | .str x => progRead ks nm x
  | _ => none
def D.small : D → Prop
  | .str x => x.length ≤ 100000
  | _ => True
abbrev s_read_condition : Stmt := top 22
theorem sc_read_condition : FnScope ["ports", "numbers", "text", "condition"] ["ports", "numbers", "text"] (defScope s_read_condition) := ⟨rfl, rfl, rfl, by decide +kernel, rfl, by decide +kernel, by decide +kernel⟩
def spRc (C CE : Addr) : Sp := fun vs H Q E => ∃ (p : Addr) (ks : List Kind) (u : V) (nm : List Str) (v : V) (d : D), vs = [.ref p, u, v] ∧ PortsAt C H p ks ∧ NamesAt H u nm ∧ Short ks nm ∧ Dd H v d ∧ d.small ∧
  (∀ r, d.reads ks nm = some r → ∀ v' H', Same H H' → Dd H' v' r → Q v' H') ∧
  (d.reads ks nm = none → ∀ dx H', H dx = none → Same H H' → H' dx = some (.xd [("given", v)]) → E (.ref CE) (some dx) H')
theorem rc_body (G : Bl mg) (X : ErrC K mg CE fE) (FE : ∃ fd, FunD K "__init__" "InvalidText.__init__" (defArgs s_erri) (defBody s_erri) (defScope s_erri) [] [] fE fd)
    (cSw : Callee P w K mg base 1 "stacked_words" ["line"] spSw) (cTc : Callee P w K mg base 9 "take_condition" ["words"] spTc) (cIc : Callee P w K mg base 11 "is_condition" ["ports", "numbers", "value"] (spIc C)) (cCt : Callee P w K mg base 6 "condition_text" ["condition"] (spCt 4))
    (f : Addr) (cdv : Value) (A : Around) (outer : List Env) (s : Shared) (H : Hp) (vs : List V) (Q : VK) (E : XK) (hr : Room 11 (A.deeper (envOfC "read_condition" (defScope s_read_condition) s.heap.objs.size f cdv))) (h : spRc C CE vs H Q E) :
    ∃ t, PSs (cxOf (L2.CX P w) P w K mg base ["ports", "numbers", "text", "condition"] "read_condition" (defScope s_read_condition) f cdv A outer s H E) (defBody s_read_condition) t ∧ t { nx := fun _ H' => Q .non H', rt := Q } (start ["ports", "numbers", "text", "condition"] vs) H := by
  obtain ⟨fdE, bE, okE⟩ := ok_erri (P := P) (w := w) (base := base) X FE
  obtain ⟨p, ks, u, nm, v, d, rfl, hP, hN, S, hd, sm, q, qe⟩ := h
  refine ⟨_, (pss_cons (ps_if (pt_not (pt_val (pe_callB call_isi (by rfl) G.b_isinstance (by decide +kernel) (pa_cons (pv 2) (pa_cons (pe_bltn (v := .ty "str") (u := .type "str") (by rfl) G.b_str (by decide +kernel) rfl) pa_nil))))) (pss_one (ps_raise rfl (takes_of rfl rfl rfl rfl) (pmk_oex X.T X.iC X.tI okE (hr.mono (by decide)) bE .nil pass0 (by rfl) X.g (pa_cons (pv 2) pa_nil)))) pss_nil)
    (pss_cons (ps_set (i := 3) sc_read_condition.nd rfl (Or.inl rfl) (pe_cal cTc hr (by decide) (pa_cons (pe_cal cSw hr (by decide) (pa_cons (pv 2) pa_nil)) pa_nil)))
    (pss_cons (ps_if (PW.pt (pw_or (pt_not (pt_val (pe_cal cIc hr (by decide) (pa_cons (pv 0) (pa_cons (pv 1) (pa_cons (pv 3) pa_nil)))))) (pw_or1 (pt_cmpR op_ne (pe_cal cCt hr (by decide) (pa_cons (pv 3) pa_nil)) (pv 2) (nomark _))))) (pss_one (ps_raise rfl (takes_of rfl rfl rfl rfl) (pmk_oex X.T X.iC X.tI okE (hr.mono (by decide)) bE .nil pass0 (by rfl) X.g (pa_cons (pv 2) pa_nil)))) pss_nil)
    (pss_one (ps_ret (pv 3)))))), ?_⟩
  refine ⟨v, rfl, _, _, _, _, _, rfl, .ty "str", hd.tyx, kit_str d, _, rfl, itb (fun e1 => ?_) fun e1 => ?_⟩
  · have e2 : d.reads ks nm = none := by cases d <;> first | rfl | (exfalso; revert e1; simp [D.isa, isaT, D.ty]; done)
    exact ⟨v, rfl, by show 1 ≤ 1000; decide, err_go fun dx H' h1 h2 h3 => qe e2 dx H' h1 h2 h3⟩
  cases hd with
  | str x =>
    refine ⟨_, rfl, x, rfl, sm, fun a H1 ha s1 w1 => ?_⟩
    have al1 : Al [a] H1 := fun b z => by rw [List.mem_singleton.mp z]; exact ⟨_, w1⟩
    refine ⟨[a], a, _, rfl, by simp, al1, w1, fun v2 H2 k2 a2 w2 h2 => ?_⟩
    have s2 := same_kp s1 ha k2
    have d2 : Dd H2 v2 (tkC 4 (Txt.split x spc)).1 := h2.same hid_le
    refine ⟨_, rfl, _, rfl, _, rfl, p, ks, u, nm, v2, _, rfl, hP.same s2, hN.same s2, d2, fun H3 s3 => ⟨_, rfl, ?_⟩⟩
    have s03 := s2.trans s3
    by_cases hc : condOk ks nm 4 (tkC 4 (Txt.split x spc)).1 = true
    · refine itf (by rw [hc]; rfl) ?_
      refine ⟨_, rfl, v2, _, ks, nm, rfl, d2.same s3, CondC.of hc, by decide, S, fun H4 s4 => ?_⟩
      have s04 := s03.trans s4
      refine ⟨_, rfl, rfl, ?_⟩
      have ed : decide (V.str (txC 4 (tkC 4 (Txt.split x spc)).1) = V.str x) = decide (txC 4 (tkC 4 (Txt.split x spc)).1 = x) := decide_eq_decide.mpr ⟨fun e => by injection e, fun e => by rw [e]⟩
      by_cases ht : txC 4 (tkC 4 (Txt.split x spc)).1 = x
      · rw [ed, decide_eq_true ht]
        refine ⟨_, rfl, iteF ⟨_, rfl, q _ ?_ v2 H4 s04 ((d2.same s3).same s4)⟩⟩
        show progRead ks nm x = _
        unfold progRead; rw [if_pos ⟨hc, ht⟩]
      · rw [ed, decide_eq_false ht]
        have e2 : (D.str x).reads ks nm = none := by show progRead ks nm x = none; unfold progRead; rw [if_neg fun z => ht z.2]
        exact ⟨_, rfl, iteT ⟨_, rfl, by show 1 ≤ 1000; decide, err_go fun dx H' h1 h2 h3 => qe e2 dx H' (by
          cases e : H dx with
          | none => rfl
          | some o => have z := s04 _ _ e; rw [h1] at z; cases z) (s04.trans h2) h3⟩⟩
    · refine itt (by rw [Bool.not_eq_true _ |>.mp hc]; rfl) ?_
      have e2 : (D.str x).reads ks nm = none := by show progRead ks nm x = none; unfold progRead; rw [if_neg fun z => hc z.1]
      exact iteT ⟨_, rfl, by show 1 ≤ 1000; decide, err_go fun dx H' h1 h2 h3 => qe e2 dx H' (by
        cases e : H dx with
        | none => rfl
        | some o => have z := s03 _ _ e; rw [h1] at z; cases z) (s03.trans h2) h3⟩
  | _ => exfalso; revert e1; simp [D.isa, isaT, D.ty]
theorem ok_read_condition (G : Bl mg) (X : ErrC K mg CE fE) (FE : ∃ fd, FunD K "__init__" "InvalidText.__init__" (defArgs s_erri) (defBody s_erri) (defScope s_erri) [] [] fE fd) (DA : DefAt K mg "read_condition" s_read_condition)
    (cSw : Callee P w K mg base 1 "stacked_words" ["line"] spSw) (cTc : Callee P w K mg base 9 "take_condition" ["words"] spTc) (cIc : Callee P w K mg base 11 "is_condition" ["ports", "numbers", "value"] (spIc C)) (cCt : Callee P w K mg base 6 "condition_text" ["condition"] (spCt 4)) :
    CalleeX P w K mg base 12 "read_condition" ["ports", "numbers", "text"] (spRc C CE) :=
  calleeX DA sc_read_condition (fun vs H Q E h => by obtain ⟨p, ks, u, nm, v, d, rfl, _⟩ := h; rfl) (fun _ _ _ _ _ _ us hl => match us, hl with | [_, _, _], _ => rfl) (rc_body G X FE cSw cTc cIc cCt)
/-- the same, called by names alone -/
structure CalleeXK (P : Program) (w : World) (K : PySem.W.Frag) (mg : Str → Option Value) (base : Heap) (k : Nat) (x : Str) (ps : List Str) (sp : Sp) : Prop where
  ex : ∃ f fd, mg x = some (.ref f) ∧ PySem.W.keepIn K (.ref f) = true ∧ (∀ (s : Shared) (us : List Value), us.length = ps.length → BindsTo s fd ⟨[], ps.zip us⟩ (ps.zip us)) ∧ FnOk P w K mg base (L2.CX P w) k f fd ps sp
theorem calleeXK {x : Str} {st : Stmt} {N ps : List Str} {k : Nat} {sp : Sp} (D : DefAt K mg x st) (S : FnScope N ps (defScope st)) (len : ∀ vs H Q E, sp vs H Q E → vs.length = ps.length)
    (hb : ∀ (kV doc pm : Value) (an : Option Addr) (cdv ct : Value) (us : List Value), us.length = ps.length → bindArgs (PySem.W.fnOf x x (defArgs st) (defBody st) (defScope st) .none kV doc pm an cdv ct) ⟨[], ps.zip us⟩ = pure (ps.zip us))
    (hbody : ∀ (f : Addr) (cdv : Value) (A : Around) (outer : List Env) (s : Shared) (H : Hp) (vs : List V) (Q : VK) (E : XK), Room k (A.deeper (envOfC x (defScope st) s.heap.objs.size f cdv)) → sp vs H Q E →
      ∃ t, PSs (cxOf (L2.CX P w) P w K mg base N x (defScope st) f cdv A outer s H E) (defBody st) t ∧ t { nx := fun _ H' => Q .non H', rt := Q } (start N vs) H) : CalleeXK P w K mg base (k + 1) x ps sp := by
  obtain ⟨fd, F⟩ := D.f
  refine ⟨_, fd, D.g, F.kp, fun s us hl => ?_, F.ok S len fun cdv A outer s H vs Q E hr h => hbody _ cdv A outer s H vs Q E hr h⟩
  obtain ⟨_, _, dV, kV, doc, pm, an, cdv, ct, _, rfl, _, _, hD, _⟩ := F.ex
  rcases hD with ⟨_, rfl⟩ | ⟨e, _⟩
  · exact .of_eq (hb kV doc pm an cdv ct us hl)
  · exact absurd rfl e
theorem ok_read_conditionK (G : Bl mg) (X : ErrC K mg CE fE) (FE : ∃ fd, FunD K "__init__" "InvalidText.__init__" (defArgs s_erri) (defBody s_erri) (defScope s_erri) [] [] fE fd) (DA : DefAt K mg "read_condition" s_read_condition)
    (cSw : Callee P w K mg base 1 "stacked_words" ["line"] spSw) (cTc : Callee P w K mg base 9 "take_condition" ["words"] spTc) (cIc : Callee P w K mg base 11 "is_condition" ["ports", "numbers", "value"] (spIc C)) (cCt : Callee P w K mg base 6 "condition_text" ["condition"] (spCt 4)) :
    CalleeXK P w K mg base 12 "read_condition" ["ports", "numbers", "text"] (spRc C CE) :=
  calleeXK DA sc_read_condition (fun vs H Q E h => by obtain ⟨p, ks, u, nm, v, d, rfl, _⟩ := h; rfl) (fun _ _ _ _ _ _ us hl => match us, hl with | [_, _, _], _ => rfl) (rc_body G X FE cSw cTc cIc cCt)
end
end NH
set_option maxHeartbeats 4000000
namespace NH
open PySem PySem.Spec PyProof.Rows L2 TL
section
variable {X : Cx} {W : WX} {k j : Nat} {x : Str} {ps : List Str} {sp : Sp} {e : Expr} {es : List Expr} {p pos : Pos} {t : TA}
/-- f(e, ..) in a try's body, f a def that may let an error out -/
theorem pe_calX (c : CalleeX X.prog X.w X.K X.mg X.base k x ps sp) (tk : Takes X W) (hr : Room j X.A) (hj : k ≤ j) (ha : PA X (e :: es) t) (hg : Gl X x := by rfl)
    (hdb : (x == ("__debug__" : Str)) = false := by decide) (he : starEach (e :: es) X.env = (false, eval e X.env) :: starEach es X.env := by rfl) (hpl : (backTo pos (starEach es X.env)).any (·.1) = false := by rfl) :
    PE X (.Call (.Name x p) (e :: es) [] pos) (tCallS sp (WE W) t) := by
  obtain ⟨f, fd, hm, hk, hb, F⟩ := c.ex
  exact pe_callS F (hr.mono hj) hg hm hk hb (fun σ => passAt tk σ) ha hdb he hpl
def tCalXK (sp : Sp) (W : WX) (tk : TA) : TE := fun σ H Q => tk σ H fun zs H2 => sp zs H2 Q (WE W σ)
/-- f(x = e, ..), so too -/
theorem pe_calXK {kws : List Keyword} (c : CalleeXK X.prog X.w X.K X.mg X.base k x ps sp) (tk : Takes X W) (hr : Room j X.A) (hj : k ≤ j) (hkw : PK X kws t) (hg : Gl X x := by rfl)
    (hdb : (x == ("__debug__" : Str)) = false := by decide) (hall : (backToKw pos (keywordEach kws X.env)).all (·.1.isSome) = true := by rfl) (hks : (backToKw pos (keywordEach kws X.env)).filterMap (·.1) = ps := by rfl)
    (hpl : ((backTo pos (starEach [] X.env)).any (·.1) || (backToKw pos (keywordEach kws X.env)).any (·.1.isNone)) = false := by rfl) : PE X (.Call (.Name x p) [] kws pos) (tCalXK sp W t) := by
  obtain ⟨f, fd, hm, hk, hb, F⟩ := c.ex
  refine ⟨fun pins s σ H Q I h => wpAny_Call_Name_kw (ld_glob I hg hm ?_ hdb)⟩
  refine PySem.W.callWith_KW0 (h₀ := X.base) I.ok.mod.kin hk hall (thn (hkw.run pos pins s σ H _ I h) fun ws s2 ⟨zs, H2, J, rz, want⟩ => ⟨J.kIn, ?_⟩) hpl
  have want : sp zs H2 Q (WE W σ) := want
  rw [hks]
  have hl : ws.length = ps.length := by rw [← rz.length]; exact F.len _ _ _ _ want
  refine wpAny_call (codeAny_mono (F.run X.A X.stack s2 H2 ⟨[], ps.zip ws⟩ ws zs Q (WE W σ) (hr.mono hj) J.env0 (hb s2 ws hl) rz want) fun r s' z => ?_)
  match r, z with
  | .ok (.ret _), z => exact J.after z
  | .error er, z => exact passAt tk σ pins H2 s2 er s' J z
end
/-- isinstance(e, c), e an error of an own class with a dict of its own, that the suite holds -/
def rIsX (K : PySem.W.Frag) (a : Addr) (cls : Value) (d : Option Addr) : List V → Hp → VK → Prop := fun xs H Q => ∃ (D cv dd : Addr) (b : Bool) (fs : List (Str × V)), xs = [.ref a, .ref cv] ∧ cls = .ref D ∧ d = some dd ∧ ExcC K D ∧ H dd = some (.xd fs) ∧ PySem.W.kitOne K (.ref D) (.ref cv) = some b ∧ Q (.bl b) H
theorem call_isX {X : Cx} {a : Addr} {oe : Obj} {cls : Value} {d : Option Addr} {pn : List (Addr × Obj)} (hz : Zc cls d oe) (hf : ∃ vs, oe.data = .fields vs) : CallR (X.suite a ((a, oe) :: pn)) (.builtin "isinstance") (rIsX X.K a cls d) := by
  intro pins s σ H xs us Q I r h
  obtain ⟨D, cv, dd, b, fs, rfl, rfl, rfl, C, ea, e, q⟩ := h
  cases r with
  | cons rx rr =>
    cases rr with
    | cons rt rr =>
      cases rr
      cases rx
      cases rt
      obtain ⟨hget, _⟩ := I.pin (a, oe) (List.mem_append.mpr (.inl List.mem_cons_self))
      obtain ⟨vs, hv⟩ := hf
      have hx : ObjOk X.prog X.w H s.heap dd (.xd fs) := I.hok dd _ ea
      obtain ⟨mA, hns, hr⟩ := hx
      obtain ⟨od, ho, hl⟩ := lookIn_ns hns
      have J : PySem.W.InstAt s.heap a oe D (some od) := ⟨hget, hz.1, by unfold PySem.W.notCls; rw [hv] <;> rfl, by rw [hz.2]; exact ho⟩
      have ic : (PySem.W.clsIn X.K D).isSome = true := by
        have z := C.hd
        unfold PySem.W.hasDictIn at z
        cases y : PySem.W.clsIn X.K D with
        | none => rw [y] at z; cases z
        | some _ => rfl
      exact PySem.W.kia_one (PySem.W.kitx_exc ic C.hg C.hk C.hs C.ha C.hn C.ht C.hm) I.kIn J e (fun z => nomatch z) fun tk => ⟨.bl b, H, I.kept (t' := tk) fun _ _ z => z, rfl, q⟩
end NH
set_option maxHeartbeats 4000000
namespace NH
open PySem PySem.Spec PyProof.Rows L2 TL
/-- names of kinds -/
structure GoodNames (l : List Str) : Prop where
  ltr : ∀ x ∈ l, Ltr x ∧ 1 ≤ (tl x).length ∧ (tl x).length ≤ 4
  nd : l.Nodup
def nmA (st : Str) (sh k : Nat) : Str := sg (spin sh k) ++ st
theorem nmA_tl {st : Str} {sh k : Nat} : tl (nmA st sh k) = spin sh k :: tl st := by unfold nmA; rw [tl_append]; rfl
theorem names_good {st : Str} {sh n : Nat} (hn : n ≤ 12) (h3 : (tl st).length ≤ 3) (hl : Ltr st) : GoodNames ((List.range n).map (nmA st sh)) := by
  refine ⟨fun x hx => ?_, ?_⟩
  · obtain ⟨k, hk, rfl⟩ := List.mem_map.mp hx
    refine ⟨fun c hc => ?_, ?_⟩
    · have hc : c ∈ tl (nmA st sh k) := hc
      rw [nmA_tl] at hc
      rcases List.mem_cons.mp hc with rfl | hc
      · unfold spin; omega
      · exact hl c hc
    · rw [nmA_tl, List.length_cons]; omega
  · refine List.pairwise_map.mpr (List.Pairwise.imp_of_mem ?_ (List.pairwise_lt_range (n := n)))
    intro i j hi hj hlt e
    rw [List.mem_range] at hi hj
    have e2 := congrArg tl e
    rw [nmA_tl, nmA_tl] at e2
    injection e2 with e3 _
    have z := spin_inj (by omega) (by omega) e3
    omega
def words4 : List Str := ["is", "not", "due", "both"]
theorem words4_ltr : ∀ x ∈ words4, Ltr x ∧ 1 ≤ (tl x).length ∧ (tl x).length ≤ 4 := by
  intro x hx
  have hx : x = Str.ofString "is" ∨ x = Str.ofString "not" ∨ x = Str.ofString "due" ∨ x = Str.ofString "both" := by simpa [words4] using hx
  rcases hx with h | h | h | h <;> rw [h] <;> exact ⟨by unfold Ltr; decide +kernel, by decide +kernel, by decide +kernel⟩
theorem GoodNames.set {x z : Str} {l : List Str} (g : GoodNames (x :: l)) (hz : z ∈ words4) (hn : z ∉ x :: l) : GoodNames (z :: l) := by
  refine ⟨fun y hy => ?_, ?_⟩
  · rcases List.mem_cons.mp hy with rfl | hy
    · exact words4_ltr _ hz
    · exact g.ltr y (List.mem_cons_of_mem _ hy)
  · exact List.nodup_cons.mpr ⟨fun y => hn (List.mem_cons_of_mem _ y), (List.nodup_cons.mp g.nd).2⟩
section
variable {P : Program} {w : World} {K : PySem.W.Frag} {mg : Str → Option Value} {base : Heap}
abbrev s_law_kinds : Stmt := top 45
theorem sc_law_kinds : FnScope ["box", "many", "rest", "shift", "word", "letters", "names", "k", "letter", "name"] ["box"] (defScope s_law_kinds) := ⟨rfl, rfl, rfl, by decide +kernel, rfl, by decide +kernel, by decide +kernel⟩
def spKinds : Sp := fun vs H Q _ => ∃ (b : Addr) (n : Nat), vs = [.ref b] ∧ Bx b n H ∧ n ≤ 800000000 ∧ ∀ (a : Addr) (xs : List V) (ks : List Kind) H', hid [b] H' a = some (.lst xs) → KindsAt (hid [b] H') xs ks → GoodKinds ks → Kp [b] H H' → Bx b (n + 40) H' → Q (.ref a) H'
theorem ok_law_kinds (G : Bl mg) (D : DefAt K mg "_law_kinds" s_law_kinds) (cT : Callee P w K mg base 2 "_law_take" ["box", "many"] spTake) (cL : Callee P w K mg base 4 "_law_letters" ["box", "many"] spLetters) : Callee P w K mg base 6 "_law_kinds" ["box"] spKinds := by
  refine callee D sc_law_kinds (fun vs H Q E h => by obtain ⟨b, n, rfl, _⟩ := h; rfl) (fun _ _ _ _ _ _ us hl => match us, hl with | [_], _ => rfl) fun f cdv A outer s H vs Q E hr h => ?_
  obtain ⟨b, n, rfl, hb, hn, q⟩ := h
  refine cut_at 5 (fun σ H' => ∃ (x1 x2 x3 x4 x5 : Option V) (D2 : Addr) (nms : List Str), σ = [some (.ref b), x1, x2, x3, x4, x5, some (.ref D2), none, none, none] ∧ GoodNames nms ∧ b ≠ D2 ∧ 1 ≤ nms.length ∧ nms.length ≤ 12 ∧ H' D2 = some (.lst (nms.map V.str)) ∧ Kp [b] H H' ∧ Bx b (n + 20) H') ⟨_, (pss_one (ps_ret (pe_lc (own := [("name", 9)]) (g := gName 9) rfl sc_law_kinds.nd (pi_list (pv 6)) (blkOk_by (N := ["box", "many", "rest", "shift", "word", "letters", "names", "k", "letter", "name"]) (sc := defScope s_law_kinds) (by decide +kernel)) (fun _ _ _ _ _ => (pg_name (i := 9) sc_law_kinds.nd rfl (Or.inl rfl))) (fun _ _ _ _ _ => pts_nil) (fun _ _ _ _ _ => (pe_tup (pa_cons (pv 9) (pa_cons (pe_op op_add pe_int (pe_cal cT hr (by decide) (pa_cons (pv 0) (pa_cons pe_int pa_nil)))) pa_nil))))))), ?_⟩ fun tR hR goR => ⟨_, (pss_cons (ps_asg (pe_tup (pa_cons (pe_ix ix_list (pe_lst (pa_cons pe_int (pa_cons pe_int (pa_cons pe_int (pa_cons pe_int (pa_cons pe_int (pa_cons pe_int (pa_cons pe_int (pa_cons pe_int pa_nil))))))))) (pe_cal cT hr (by decide) (pa_cons (pv 0) (pa_cons pe_int pa_nil))) (fun _ _ => rfl)) (pa_cons (pe_cal cL hr (by decide) (pa_cons (pv 0) (pa_cons (pe_cal cT hr (by decide) (pa_cons (pv 0) (pa_cons pe_int pa_nil))) pa_nil))) pa_nil))) (pg_tup (by rfl) (pgs_cons (pg_name (i := 1) sc_law_kinds.nd rfl (Or.inl rfl)) (pgs_cons (pg_name (i := 2) sc_law_kinds.nd rfl (Or.inr rfl)) pgs_nil))))
    (pss_cons (ps_asg (pe_tup (pa_cons (pe_cal cT hr (by decide) (pa_cons (pv 0) (pa_cons pe_int pa_nil))) (pa_cons (pe_cal cT hr (by decide) (pa_cons (pv 0) (pa_cons pe_int pa_nil))) pa_nil))) (pg_tup (by rfl) (pgs_cons (pg_name (i := 3) sc_law_kinds.nd rfl (Or.inr rfl)) (pgs_cons (pg_name (i := 4) sc_law_kinds.nd rfl (Or.inl rfl)) pgs_nil))))
    (pss_cons (ps_setLc (i := 5) (own := [("k", 7)]) (g := gName 7) rfl sc_law_kinds.nd rfl rfl (sw_true rfl rfl rfl (by decide +kernel)) (pi_range1 (by rfl) G.b_range (pa_cons (pv 1) pa_nil)) (blkOk_by (N := ["box", "many", "rest", "shift", "word", "letters", "names", "k", "letter", "name"]) (sc := defScope s_law_kinds) (by decide +kernel)) (fun _ _ _ _ _ => (pg_name (i := 7) sc_law_kinds.nd rfl (Or.inl rfl))) (fun _ _ _ _ _ => pts_nil) (fun _ _ _ _ _ => (pe_ix ix_str pe_str (pe_op op_mod (pe_callTy call_int1 (by rfl) G.b_int (by decide +kernel) (pa_cons (pe_op op_add (pv 3) (pe_op op_mul pe_int (pv 7))) pa_nil)) pe_int) (fun _ _ => rfl))))
    (pss_cons (ps_setLc (i := 6) (own := [("letter", 8)]) (g := gName 8) rfl sc_law_kinds.nd rfl rfl (sw_true rfl rfl rfl (by decide +kernel)) (pi_list (pv 5)) (blkOk_by (N := ["box", "many", "rest", "shift", "word", "letters", "names", "k", "letter", "name"]) (sc := defScope s_law_kinds) (by decide +kernel)) (fun _ _ _ _ _ => (pg_name (i := 8) sc_law_kinds.nd rfl (Or.inl rfl))) (fun _ _ _ _ _ => pts_nil) (fun _ _ _ _ _ => (pe_op op_add_str (pv 8) (pv 2))))
    (pss_cons (ps_if (PW.pt (pw_and (pt_cmpR op_lt (pv 4) pe_int (nomark _)) (pw_and1 (pt_cmpR op_notIn_seq (pe_ix ix_list (pe_lst (pa_cons pe_str (pa_cons pe_str (pa_cons pe_str (pa_cons pe_str pa_nil))))) (pv 4) (fun _ _ => rfl)) (pv 6) rfl)))) (pss_one (ps_asg (pe_ix ix_list (pe_lst (pa_cons pe_str (pa_cons pe_str (pa_cons pe_str (pa_cons pe_str pa_nil))))) (pv 4) (fun _ _ => rfl)) (pg_sub (pv 6) pe_int set_list))) pss_nil)
    hR))))), ?_⟩
  · rintro σ H6 ⟨x1, x2, x3, x4, x5, D1, nms, rfl, gn, bD1, n1, n12, d6, k6, b6⟩
    refine ⟨_, rfl, D1, rfl, ⟨_, SqL.of d6⟩, fun D2 hD2 => ?_⟩
    have bD2 := b6.ne hD2
    have ne12 : D1 ≠ D2 := fun z => by rw [z, hD2] at d6; cases d6
    refine lc_list (K := K) (a := D1) (xs := nms.map V.str) (fun i H' => ∃ (xs : List V) (ks : List Kind), Kp [b] H6 H' ∧ Bx b (n + 20 + i) H' ∧ H' D2 = some (.lst xs) ∧ KindsAt (hid [b, D2] H') xs ks ∧ ks.map (·.1) = nms.take i ∧ ∀ k ∈ ks, k.2 = 2 ∨ k.2 = 3)
      ⟨[], [], Kp.new hD2, b6.same (same_new hD2), upd_same, .nil, rfl, by intro k h; cases h⟩ (fun i H' _ ⟨_, _, k7, _⟩ => SqL.of (k7 D1 _ (by simpa using Ne.symm bD1) d6)) ?_ ?_
    · rintro i x H7 hx ⟨xs, ks, k7, b7, d7, kk, en, tw⟩
      obtain ⟨hi, nm, en1, rfl⟩ : i < nms.length ∧ ∃ nm, nms[i]? = some nm ∧ x = V.str nm := by
        rw [List.getElem?_map] at hx
        cases e : nms[i]? with
        | none => rw [e] at hx; cases hx
        | some nm => rw [e] at hx; exact ⟨(List.getElem?_eq_some_iff.mp e).1, nm, rfl, (Option.some.inj hx).symm⟩
      have lks : ks.length = i := by have z := congrArg List.length en; rw [List.length_map, List.length_take] at z; omega
      refine ⟨rfl, tyes ?_⟩
      refine iteT ?_
      obtain ⟨o7, e7, i7⟩ := id b7
      refine ⟨_, rfl, _, rfl, b, 2, _, o7, rfl, e7, i7, by omega, by decide, by decide, fun dd o8 hdd i8 => ?_⟩
      have b8 : Bx b (n + 20 + (i + 1)) (upd H7 b o8) := ⟨o8, upd_same, i8⟩
      have k8 : Kp [b] H7 (upd H7 b o8) := Kp.atb (by simp)
      have d8 : (upd H7 b o8) D2 = some (.lst xs) := by rw [upd_ne (Ne.symm bD2)]; exact d7
      generalize upd H7 b o8 = H8 at k8 b8 d8 ⊢
      refine ⟨_, _, rfl, rfl, by show 2 ≤ sizeLine; decide, fun p hp => ?_⟩
      have pb := b8.ne hp
      have pD : D2 ≠ p := fun z => by rw [z, hp] at d8; cases d8
      have lx : xs.length = ks.length := Paired.length kk
      refine ⟨xs, by rw [upd_ne pD]; exact d8, small1000 (by omega), xs ++ [.ref p], ks ++ [(nm, 2 + dd)], ?_, ?_, upd_same, ?_, ?_, ?_⟩
      · exact ((k7.trans k8).trans (Kp.new hp)).put hD2
      · exact Bx.put (b8.same (same_new hp)) bD2
      · refine pairAll_append (KindsAt.same ?_ kk) ⟨p, rfl, ?_⟩
        · refine Kp.hid (((k8.mono (by simp)).trans (Kp.new hp)).put2 (by simp))
        · rw [hid_out (by simp; exact ⟨Ne.symm pb, Ne.symm pD⟩), upd_ne (Ne.symm pD), upd_same]; rfl
      · rw [List.map_append, en, take_succ_of en1]; rfl
      · intro k hk
        rcases List.mem_append.mp hk with hk | hk
        · exact tw k hk
        · rw [List.mem_singleton.mp hk]
          show 2 + dd = 2 ∨ 2 + dd = 3
          omega
    · rintro H7 ⟨xs, ks, k7, b7, d7, kk, en, tw⟩
      rw [List.length_map] at b7 en
      rw [List.take_length] at en
      have lks : ks.length = nms.length := by have z := congrArg List.length en; rw [List.length_map] at z; exact z
      refine q D2 xs ks H7 (by rw [hid_out (by simpa using Ne.symm bD2)]; exact d7) (KindsAt.same (fun a o e => ?_) kk) ⟨by omega, fun k hk => ?_, tw, by rw [en]; exact gn.nd⟩ (k6.trans k7) (b7.mono (by omega))
      · obtain ⟨n1, e1⟩ := hid_some e
        rw [hid_out (fun z => n1 (by simp at z ⊢; exact .inl z))]; exact e1
      · have hk' : k.1 ∈ ks.map (·.1) := List.mem_map.mpr ⟨k, hk, rfl⟩
        rw [en] at hk'
        exact gn.ltr _ hk'
  -- many, rest
  refine ⟨by decide, fun p1 hp1 => ⟨_, rfl, ?_⟩⟩
  generalize e1 : upd H p1 _ = H1
  obtain ⟨s1, d1⟩ := nw e1 hp1
  have b1 := hb.same s1
  obtain ⟨o0_, e0_, i0_⟩ := id b1
  refine ⟨_, 8, _, o0_, rfl, e0_, i0_, by omega, by first | decide | omega, by first | decide | omega, fun c1 o1_ hc1 i1_ => ?_⟩
  generalize eH_ : upd _ _ o1_ = H2
  obtain ⟨k2, b2, oth2⟩ := tkf eH_ i1_
  clear eH_ i1_ i0_ e0_ o0_
  have d2 := k2 p1 _ (by simpa using Ne.symm (hb.ne hp1)) d1
  obtain ⟨m1, m12⟩ := menuM_le c1 hc1
  refine ⟨p1, _, c1, _, rfl, rfl, SqL.of d2, menuM_at c1 hc1, ⟨_, rfl, _, rfl, ?_⟩⟩
  obtain ⟨o0_, e0_, i0_⟩ := id b2
  refine ⟨_, 4, _, o0_, rfl, e0_, i0_, by omega, by first | decide | omega, by first | decide | omega, fun c2 o1_ hc2 i1_ => ?_⟩
  generalize eH_ : upd _ _ o1_ = H3
  obtain ⟨k3, b3, oth3⟩ := tkf eH_ i1_
  clear eH_ i1_ i0_ e0_ o0_
  refine ⟨b, c2, _, rfl, b3, by omega, by omega, fun stl st H4 est lst ltst k4 b4 => ?_⟩
  have ls : (tl st).length ≤ 3 := by rw [show tl st = stl from est]; omega
  refine ⟨by show 2 ≤ sizeLine; decide, fun p2 hp2 => ?_⟩
  generalize e5 : upd H4 p2 _ = H5
  obtain ⟨s5, d5⟩ := nw e5 hp2
  refine ⟨p2, _, rfl, SqT.of d5, rfl, _, _, rfl, _, _, rfl, rfl, ?_⟩
  have k5 : Kp [b] H H5 := (((Kp.of s1).trans k2).trans (k3.trans k4)).trans (Kp.of s5)
  have b5 : Bx b (n + 10) H5 := (b4.same s5).mono (by omega)
  generalize menuM c1 = mm at m1 m12 ⊢
  clear d5 d2 d1 e1 e5 s1 s5 hp1 hp2 oth2 oth3 b1 b2 b3 b4 k2 k3 k4
  -- shift, word
  refine ⟨_, rfl, ?_⟩
  obtain ⟨o0_, e0_, i0_⟩ := id b5
  refine ⟨_, 26, _, o0_, rfl, e0_, i0_, by omega, by first | decide | omega, by first | decide | omega, fun sh o1_ hsh i1_ => ?_⟩
  generalize eH_ : upd _ _ o1_ = H6
  obtain ⟨k6, b6, oth6⟩ := tkf eH_ i1_
  clear eH_ i1_ i0_ e0_ o0_
  refine ⟨_, rfl, ?_⟩
  obtain ⟨o0_, e0_, i0_⟩ := id b6
  refine ⟨_, 8, _, o0_, rfl, e0_, i0_, by omega, by first | decide | omega, by first | decide | omega, fun wd o1_ hwd i1_ => ?_⟩
  generalize eH_ : upd _ _ o1_ = H7
  obtain ⟨k7, b7, oth7⟩ := tkf eH_ i1_
  clear eH_ i1_ i0_ e0_ o0_
  refine ⟨by show 2 ≤ sizeLine; decide, fun p3 hp3 => ?_⟩
  generalize e8 : upd H7 p3 _ = H8
  obtain ⟨s8, d8⟩ := nw e8 hp3
  refine ⟨p3, _, rfl, SqT.of d8, rfl, _, _, rfl, _, _, rfl, rfl, ?_⟩
  have k8 : Kp [b] H H8 := ((k5.trans k6).trans k7).trans (Kp.of s8)
  have b8 : Bx b (n + 20) H8 := (b7.same s8).mono (by omega)
  clear d8 e8 s8 hp3 k5 k6 k7 b5 b6 b7 oth6 oth7
  -- letters
  refine ⟨_, rfl, mm, rfl, by omega, by omega, fun D1 hD1 => ?_⟩
  have bD1 := b8.ne hD1
  refine lc_range (lo := 0) (n := mm) (fun i H' => Same H8 H' ∧ H' D1 = some (.lst ((List.range i).map fun k => V.str (sg (spin sh k))))) ⟨same_new hD1, upd_same⟩ ?_ ?_
  · rintro i H9 hi ⟨s9, d9⟩
    refine ⟨rfl, tyes ?_⟩
    refine iteT ?_
    have ei : ((sh : Int) + 5 * (0 + (i : Int))) % 26 = (((sh + 5 * i) % 26 : Nat) : Int) := by omega
    refine ⟨_, rfl, _, rfl, _, _, rfl, rfl, .inl ⟨by decide, by decide⟩, _, _, rfl, rfl, .inl ⟨_, rfl, _, _, rfl, rfl, (by show (0 : Int) < 26; decide), abc, _, 97 + (sh + 5 * i) % 26, rfl, rfl, by decide, ?_, _, d9, ?_, ?_⟩⟩
    · rw [ei]; exact atI_nat (abc_at _ (by omega))
    · rw [List.length_map, List.length_range]; exact small1000 (by omega)
    · refine ⟨Same.put s9 hD1, ?_⟩
      · rw [upd_same, List.range_succ, List.map_append]; rfl
  rintro H9 ⟨s9, d9⟩
  have b9 := b8.same s9
  -- names
  refine ⟨_, rfl, D1, rfl, ⟨_, SqL.of d9⟩, fun D2 hD2 => ?_⟩
  have bD2 := b9.ne hD2
  refine lc_list (K := K) (a := D1) (xs := (List.range mm).map fun k => V.str (sg (spin sh k))) (fun i H' => Same H9 H' ∧ H' D2 = some (.lst (((List.range i).map (nmA st sh)).map V.str))) ⟨same_new hD2, upd_same⟩ (fun i H' _ ⟨s, _⟩ => SqL.of (s _ _ d9)) ?_ ?_
  · rintro i x H10 hx ⟨s10, d10⟩
    have hi : i < mm := by
      have z := (List.getElem?_eq_some_iff.mp hx).1
      rw [List.length_map, List.length_range] at z; exact z
    have ex : x = V.str (sg (spin sh i)) := by
      rw [List.getElem?_map, List.getElem?_range hi] at hx
      exact (Option.some.inj hx).symm
    subst ex
    refine ⟨rfl, tyes ?_⟩
    refine iteT ?_
    have l4 : (sg (spin sh i)).length + st.length ≤ sizeLine := Nat.le_of_lt (small1000 (by rw [len_tl st, show (sg (spin sh i)).length = 1 from rfl]; have : st.cps.toList.length ≤ 3 := ls; omega))
    refine ⟨_, rfl, _, rfl, sg (spin sh i), st, rfl, rfl, l4, _, d10, ?_, Same.put s10 hD2, ?_⟩
    · rw [List.length_map, List.length_map, List.length_range]; exact small1000 (by omega)
    · rw [upd_same, List.range_succ, List.map_append, List.map_append]; rfl
  rintro H10 ⟨s10, d10⟩
  rw [List.length_map, List.length_range] at d10
  have b10 := b9.same s10
  have k10 := k8.trans (Kp.of (s9.trans s10))
  have gn := names_good (st := st) (sh := sh) m12 ls ltst
  have lnm : ((List.range mm).map (nmA st sh)).length = mm := by rw [List.length_map, List.length_range]
  generalize (List.range mm).map (nmA st sh) = nms at d10 gn lnm
  -- a word of the language in the first place
  have lim : nms.length ≤ 12 := by omega
  have lo1 : 1 ≤ nms.length := by omega
  clear lnm m1 m12
  refine ⟨_, rfl, _, _, rfl, rfl, _, rfl, itd (fun h4 => ?_) fun h4 => ?_⟩
  · refine ⟨by show 4 ≤ sizeLine; decide, fun p4 hp4 => ?_⟩
    generalize e11 : upd H10 p4 _ = H11
    obtain ⟨s11, d11⟩ := nw e11 hp4
    obtain ⟨w1, hw1, ew⟩ := menuS words4 (d := wd) (by show wd < 4; omega)
    have c11 := s11 _ _ d10
    refine ⟨_, rfl, p4, _, wd, _, rfl, rfl, SqL.of d11, ew, _, rfl, D2, _, rfl, .inl (SqL.of c11), rfl, flat_strs _, _, rfl, ?_⟩
    rw [inV_strs]
    by_cases hin : w1 ∈ nms
    · refine itf (by show (!decide (w1 ∈ nms)) = false; rw [decide_eq_true hin]; rfl) ?_
      exact goR _ _ ⟨_, _, _, _, _, D2, nms, rfl, gn, bD2, lo1, lim, c11, k10.trans (Kp.of s11), b10.same s11⟩
    · refine itt (by show (!decide (w1 ∈ nms)) = true; rw [decide_eq_false hin]; rfl) ?_
      refine ⟨by show 4 ≤ sizeLine; decide, fun p5 hp5 => ?_⟩
      generalize e12 : upd H11 p5 _ = H12
      obtain ⟨s12, d12⟩ := nw e12 hp5
      have c12 := s12 _ _ c11
      obtain ⟨x, r, rfl⟩ : ∃ x r, nms = x :: r := by cases nms with
        | nil => exact absurd lo1 (by decide)
        | cons x r => exact ⟨x, r, rfl⟩
      refine ⟨_, rfl, p5, _, wd, _, rfl, rfl, SqL.of d12, ew, _, rfl, D2, _, _, 0, rfl, rfl, c12, ?_, ?_⟩
      · unfold ixN; rw [if_pos (by decide), if_pos (by rw [List.length_map, List.length_cons]; omega)]; rfl
      have b12 := (b10.same s11).same s12
      have e13 : (V.str w1 :: r.map V.str) = (w1 :: r).map V.str := rfl
      refine goR _ _ ⟨_, _, _, _, _, D2, w1 :: r, rfl, gn.set hw1 hin, bD2, lo1, lim, upd_same, ?_, b12.put bD2⟩
      have nD : H D2 = none := by
        cases y : H D2 with
        | none => rfl
        | some o => have z := (k8.trans (Kp.of s9)) D2 o (by simpa using Ne.symm bD2) y; rw [hD2] at z; cases z
      exact ((k10.trans (Kp.of s11)).trans (Kp.of s12)).put nD
  · exact iteF (goR _ _ ⟨_, _, _, _, _, D2, nms, rfl, gn, bD2, lo1, lim, d10, k10, b10⟩)
end
end NH
set_option maxHeartbeats 4000000
namespace NH
open PySem PySem.Spec PyProof.Rows L2 TL
/-- a name of a number: letters, no word of conditions -/
structure NmG (k : Nat) (y : Str) : Prop where
  ltr : Ltr y
  one : 1 ≤ (tl y).length
  len : (tl y).length ≤ k
  key : y ≠ "due" ∧ ¬ isJ y
theorem NmG.mono {k j : Nat} {y : Str} (h : NmG k y) (l : k ≤ j) : NmG j y := ⟨h.ltr, h.one, Nat.le_trans h.len l, h.key⟩
theorem Ltr.cut {x : Str} (h : Ltr x) (lo hi : Option Int) : Ltr (cutS x lo hi) := by
  have e : ∃ i j, tl (cutS x lo hi) = ((tl x).drop i).take j := ⟨_, _, rfl⟩
  obtain ⟨i, j, e⟩ := e
  intro c hc
  have hc : c ∈ tl (cutS x lo hi) := hc
  rw [e] at hc
  exact h c (List.mem_of_mem_drop (List.mem_of_mem_take hc))
theorem cut_len {x : Str} (lo hi : Option Int) : (tl (cutS x lo hi)).length ≤ (tl x).length := by
  have e : ∃ i j, tl (cutS x lo hi) = ((tl x).drop i).take j := ⟨_, _, rfl⟩
  obtain ⟨i, j, e⟩ := e
  rw [e, List.length_take, List.length_drop]; omega
theorem key_end {y : Str} {c : Nat} (e : (tl y).getLast? = some c) (hc : c = 120 ∨ c = 107 ∨ c = 106) : y ≠ "due" ∧ ¬ isJ y := by
  have no : ∀ z : Str, (tl z).getLast? = some 101 ∨ (tl z).getLast? = some 104 ∨ (tl z).getLast? = some 114 ∨ (tl z).getLast? = some 116 → y ≠ z := by
    rintro z hz rfl
    rw [e] at hz
    rcases hz with h | h | h | h <;> (injection h with h; omega)
  exact ⟨no _ (.inl (by decide +kernel)), fun z => z.elim (no _ (.inr (.inl (by decide +kernel)))) fun z => z.elim (no _ (.inr (.inr (.inl (by decide +kernel))))) (no _ (.inr (.inr (.inr (by decide +kernel)))))⟩
/-- a text with one letter more behind it -/
theorem nmg_app {k : Nat} {x : Str} {c : Nat} (h : Ltr x) (l : (tl x).length ≤ k) (hc : c = 120 ∨ c = 107 ∨ c = 106) : NmG (k + 1) (x ++ sg c) := by
  have e : tl (x ++ sg c) = tl x ++ [c] := by rw [tl_append]; rfl
  refine ⟨fun u hu => ?_, by rw [e, List.length_append]; exact Nat.le_add_left _ _, by rw [e, List.length_append]; exact Nat.add_le_add_right l 1, key_end (c := c) (by rw [e]; simp) hc⟩
  have hu : u ∈ tl (x ++ sg c) := hu
  rw [e] at hu
  rcases List.mem_append.mp hu with hu | hu
  · exact h u hu
  · rw [List.mem_singleton.mp hu]; omega
theorem ltr_sg {c : Nat} {x : Str} (h : Ltr x) (e : tl x = [c]) : 97 ≤ c ∧ c ≤ 122 := h c (by show c ∈ tl x; rw [e]; simp)
theorem NmG.dig {k : Nat} {y : Str} (h : NmG k y) : digit y = none := by
  cases e : digit y with
  | none => rfl
  | some n =>
    obtain ⟨ey, l9⟩ := digit_some e
    have z := ltr_sg h.ltr (c := 48 + n) (by rw [ey]; rfl)
    omega
theorem NmG.spc {k : Nat} {y : Str} (h : NmG k y) : 32 ∉ tl y := fun z => by have := h.ltr 32 z; omega
theorem nmOk_of {k : Nat} {nm : List Str} (h : ∀ y ∈ nm, NmG k y) : NmOk nm := ⟨fun y hy => (h y hy).key, fun y hy => (h y hy).dig, fun y hy => (h y hy).spc⟩
theorem NmG.pl {k : Nat} {y : Str} (h : NmG k y) : Pl k y := h.ltr.pl h.len
def wordsA : List Str := ["port", "process", "number", "begin", "at", "refuse", "if", "else", "repeat", "times", "set", "to", "add"]
def wordsB : List Str := ["take", "by", "is", "above", "both", "either", "not", "due"]
def nears : List Str := ["nota", "isx", "duex", "bothx", "abovex", "x"]
theorem nears_ok : ∀ y ∈ nears, NmG 6 y := by
  intro y hy
  have hy : y = Str.ofString "nota" ∨ y = Str.ofString "isx" ∨ y = Str.ofString "duex" ∨ y = Str.ofString "bothx" ∨ y = Str.ofString "abovex" ∨ y = Str.ofString "x" := by simpa [nears] using hy
  rcases hy with h | h | h | h | h | h <;> rw [h] <;> exact ⟨by unfold Ltr; decide +kernel, by decide +kernel, by decide +kernel, by decide +kernel⟩
section
variable {P : Program} {w : World} {K : PySem.W.Frag} {mg : Str → Option Value} {base : Heap}
abbrev s_law_number : Stmt := top 47
theorem sc_law_number : FnScope ["box", "words", "near", "name"] ["box"] (defScope s_law_number) := ⟨rfl, rfl, rfl, by decide +kernel, rfl, by decide +kernel, by decide +kernel⟩
def spNumber : Sp := fun vs H Q _ => ∃ (b n : Nat), vs = [.ref b] ∧ Bx b n H ∧ n ≤ 800000000 ∧ ∀ (x : Str) H', NmG 9 x → Kp [b] H H' → Bx b (n + 15) H' → Q (.str x) H'
theorem ok_law_number (G : Bl mg) (DA : DefAt K mg "_law_number" s_law_number) (cT : Callee P w K mg base 2 "_law_take" ["box", "many"] spTake) (cL : Callee P w K mg base 4 "_law_letters" ["box", "many"] spLetters) : Callee P w K mg base 5 "_law_number" ["box"] spNumber := by
  refine callee DA sc_law_number (fun vs H Q E h => by obtain ⟨b, n, rfl, _⟩ := h; rfl) (fun _ _ _ _ _ _ us hl => match us, hl with | [_], _ => rfl) fun f cdv A outer s H vs Q E hr h => ?_
  obtain ⟨b, n, rfl, hb, hn, q⟩ := h
  have hu := hu_of hr
  refine ⟨_, (pss_cons (ps_set (i := 1) sc_law_number.nd rfl (Or.inl rfl) (pe_lst (pa_cons pe_str (pa_cons pe_str (pa_cons pe_str (pa_cons pe_str (pa_cons pe_str (pa_cons pe_str (pa_cons pe_str (pa_cons pe_str (pa_cons pe_str (pa_cons pe_str (pa_cons pe_str (pa_cons pe_str (pa_cons pe_str pa_nil)))))))))))))))
    (pss_cons (ps_set (i := 1) sc_law_number.nd rfl (Or.inl rfl) (pe_op op_cat (pv 1) (pe_lst (pa_cons pe_str (pa_cons pe_str (pa_cons pe_str (pa_cons pe_str (pa_cons pe_str (pa_cons pe_str (pa_cons pe_str (pa_cons pe_str pa_nil)))))))))))
    (pss_cons (ps_set (i := 2) sc_law_number.nd rfl (Or.inl rfl) (pe_ix ix_list (pe_lst (pa_cons pe_str (pa_cons pe_str (pa_cons pe_str (pa_cons pe_str (pa_cons pe_str (pa_cons pe_str pa_nil))))))) (pe_cal cT hr (by decide) (pa_cons (pv 0) (pa_cons pe_int pa_nil))) (fun _ _ => rfl)))
    (pss_cons (ps_set (i := 3) sc_law_number.nd rfl (Or.inl rfl) (pe_cal cL hr (by decide) (pa_cons (pv 0) (pa_cons (pe_ix ix_list (pe_lst (pa_cons pe_int (pa_cons pe_int (pa_cons pe_int (pa_cons pe_int (pa_cons pe_int (pa_cons pe_int pa_nil))))))) (pe_cal cT hr (by decide) (pa_cons (pv 0) (pa_cons pe_int pa_nil))) (fun _ _ => rfl)) pa_nil))))
    (pss_cons (ps_if (pt_cmpR op_eq (pe_cal cT hr (by decide) (pa_cons (pv 0) (pa_cons pe_int pa_nil))) pe_int (nomark _)) (pss_one (ps_ret (pv 2))) pss_nil)
    (pss_one (ps_ret (pe_ifExp (pt_cmpR op_in_seq (pv 3) (pv 1) rfl) (pe_op op_add_str (pv 3) pe_str) (pv 3))))))))), ?_⟩
  refine ⟨by show 13 ≤ sizeLine; decide, fun p1 h1 => ⟨_, rfl, by show 8 ≤ sizeLine; decide, fun p2 h2 => ?_⟩⟩
  generalize e1 : upd H p1 _ = H1 at h2 ⊢
  obtain ⟨s1, d1⟩ := nw e1 h1
  generalize e2 : upd H1 p2 _ = H2
  obtain ⟨s2, d2⟩ := nw e2 h2
  refine ⟨p1, p2, wordsA.map V.str, wordsB.map V.str, rfl, rfl, s2 _ _ d1, d2, by show 21 ≤ sizeLine; decide, fun p3 h3 => ?_⟩
  generalize e3 : upd H2 p3 _ = H3
  obtain ⟨s3, d3⟩ := nw e3 h3
  have t3 := (s1.trans s2).trans s3
  have b3 := hb.same t3
  have n3 : b ≠ p3 := hb.ne (old (s1.trans s2) h3)
  -- near
  refine ⟨by show 6 ≤ sizeLine; decide, fun p4 h4 => ⟨_, rfl, ?_⟩⟩
  generalize e4 : upd H3 p4 _ = H4
  obtain ⟨s4, d4⟩ := nw e4 h4
  have b4 := b3.same s4
  have n4 : b ≠ p4 := b3.ne h4
  obtain ⟨o0_, e0_, i0_⟩ := id b4
  refine ⟨_, 6, _, o0_, rfl, e0_, i0_, by omega, by first | decide | omega, by first | decide | omega, fun c1 o1_ hd1 i1_ => ?_⟩
  generalize eH_ : upd _ _ o1_ = H5
  obtain ⟨k5, b5, oth5⟩ := tkf eH_ i1_
  clear eH_ i1_ i0_ e0_ o0_
  obtain ⟨nr, hnr, enr⟩ := menuS nears (d := c1) hd1
  refine ⟨p4, _, _, _, rfl, rfl, SqL.of ((oth5 p4 (Ne.symm n4)).trans d4), enr, ?_⟩
  have d5 : H5 p3 = some (.lst ((wordsA ++ wordsB).map V.str)) := (oth5 p3 (Ne.symm n3)).trans (s4 _ _ d3)
  have k5' : Kp [b] H H5 := (Kp.of (t3.trans s4)).trans k5
  -- name
  refine ⟨_, rfl, by show 6 ≤ sizeLine; decide, fun p6 h6 => ⟨_, rfl, ?_⟩⟩
  generalize e6 : upd H5 p6 _ = H6
  obtain ⟨s6, d6⟩ := nw e6 h6
  have b6 := b5.same s6
  have n6 : b ≠ p6 := b5.ne h6
  obtain ⟨o0_, e0_, i0_⟩ := id b6
  refine ⟨_, 6, _, o0_, rfl, e0_, i0_, by omega, by first | decide | omega, by first | decide | omega, fun c2 o1_ hd2 i1_ => ?_⟩
  generalize eH_ : upd _ _ o1_ = H7
  obtain ⟨k7, b7, oth7⟩ := tkf eH_ i1_
  clear eH_ i1_ i0_ e0_ o0_
  obtain ⟨m, mm, em⟩ := menu [1, 2, 8, 3, 1, 5] hd2
  have m8 : 1 ≤ m ∧ m ≤ 8 := (by decide : ∀ m ∈ [1, 2, 8, 3, 1, 5], 1 ≤ m ∧ m ≤ 8) m mm
  refine ⟨p6, _, _, _, rfl, rfl, SqL.of ((oth7 p6 (Ne.symm n6)).trans d6), em, ?_⟩
  refine ⟨b, m, _, rfl, b7, by omega, by omega, fun l x H8 e8 l8 lt8 k8 b8 => ?_⟩
  have lx : (tl x).length = m := by rw [show tl x = l from e8]; exact l8
  have d8 : H8 p3 = some (.lst ((wordsA ++ wordsB).map V.str)) := k8 _ _ (by simpa using Ne.symm n3) ((oth7 p3 (Ne.symm n3)).trans (s6 _ _ d5))
  have k8' : Kp [b] H H8 := ((k5'.trans (Kp.of s6)).trans k7).trans k8
  have z14 : n + 1 + 1 + m + 1 ≤ n + 15 := by omega
  -- which
  refine ⟨_, rfl, ?_⟩
  obtain ⟨o0_, e0_, i0_⟩ := id b8
  refine ⟨_, 3, _, o0_, rfl, e0_, i0_, by omega, by first | decide | omega, by first | decide | omega, fun c3 o1_ hd3 i1_ => ?_⟩
  generalize eH_ : upd _ _ o1_ = H9
  obtain ⟨k9, b9, oth9⟩ := tkf eH_ i1_
  clear eH_ i1_ i0_ e0_ o0_
  have k9' := k8'.trans k9
  have b9' : Bx b (n + 15) H9 := b9.mono z14
  have d9 := (oth9 p3 (Ne.symm n3)).trans d8
  refine ⟨rfl, _, rfl, itb (fun e1 => ?_) fun e1 => ?_⟩
  · exact ⟨_, rfl, q _ H9 ((nears_ok nr hnr).mono (by decide)) k9' b9'⟩
  · refine ⟨_, rfl, _, rfl, p3, _, rfl, .inl (SqL.of d9), rfl, flat_strs _, _, rfl, ?_⟩
    show if inV (V.str x) ((wordsA ++ wordsB).map V.str) = true then _ else _
    rw [inV_strs]
    by_cases hin : x ∈ wordsA ++ wordsB
    · refine itt (decide_eq_true hin) ?_
      refine ⟨_, rfl, x, "x", rfl, rfl, ?_, ?_⟩
      · show x.length + 1 ≤ sizeLine
        exact Nat.le_of_lt (small1000 (by rw [len_tl]; have : x.cps.toList.length = m := lx; omega))
      · exact q _ H9 (nmg_app (k := 8) (c := 120) lt8 (by omega) (.inl rfl)) k9' b9'
    · refine itf (decide_eq_false hin) ?_
      have hB : ∀ z ∈ wordsB, x ≠ z := fun z hz e => hin (by rw [e]; exact List.mem_append_right _ hz)
      exact ⟨_, rfl, q _ H9 ⟨lt8, by omega, by omega, hB _ (by simp [wordsB]), fun z => z.elim (hB _ (by simp [wordsB])) fun z => z.elim (hB _ (by simp [wordsB])) (hB _ (by simp [wordsB]))⟩ k9' b9'⟩
end
end NH
set_option maxHeartbeats 4000000
namespace NH
open PySem PySem.Spec PyProof.Rows L2 TL
section
variable {P : Program} {w : World} {K : PySem.W.Frag} {mg : Str → Option Value} {base : Heap}
abbrev s_law_numbers : Stmt := top 48
theorem sc_law_numbers : FnScope ["box", "many", "near", "first", "second"] ["box"] (defScope s_law_numbers) := ⟨rfl, rfl, rfl, by decide +kernel, rfl, by decide +kernel, by decide +kernel⟩
def spNumbers : Sp := fun vs H Q _ => ∃ (b n : Nat), vs = [.ref b] ∧ Bx b n H ∧ n ≤ 700000000 ∧ ∀ (p : Addr) (nm : List Str) H', nm.length ≤ 2 → (∀ x ∈ nm, NmG 10 x) → Kp [b] H H' → Bx b (n + 40) H' → p ≠ b → H p = none → H' p = some (.lst (nm.map .str)) → Q (.ref p) H'
theorem kj_at (k : Bool) : atI (Str.ofString "kj").cps.toList (if k then 1 else 0) = some (if k then 106 else 107) := by cases k <;> rfl
theorem k_sg : ("k" : Str) = sg 107 := by decide +kernel
theorem cut_nmg {x : Str} (h : NmG 9 x) (lo hi : Option Int) {c : Nat} (hc : c = 120 ∨ c = 107 ∨ c = 106) : NmG 10 (cutS x lo hi ++ sg c) := nmg_app (k := 9) (h.ltr.cut lo hi) (Nat.le_trans (cut_len lo hi) h.len) hc
theorem kj_nmg {x : Str} (h : NmG 9 x) (lo hi : Option Int) (k : Bool) : NmG 10 (cutS x lo hi ++ ⟨#[if k then 106 else 107]⟩) := by
  cases k
  · exact cut_nmg h lo hi (c := 107) (.inr (.inl rfl))
  · exact cut_nmg h lo hi (c := 106) (.inr (.inr rfl))
theorem ok_law_numbers (G : Bl mg) (DA : DefAt K mg "_law_numbers" s_law_numbers) (cT : Callee P w K mg base 2 "_law_take" ["box", "many"] spTake) (cNum : Callee P w K mg base 5 "_law_number" ["box"] spNumber) : Callee P w K mg base 6 "_law_numbers" ["box"] spNumbers := by
  refine callee DA sc_law_numbers (fun vs H Q E h => by obtain ⟨b, n, rfl, _⟩ := h; rfl) (fun _ _ _ _ _ _ us hl => match us, hl with | [_], _ => rfl) fun f cdv A outer s H vs Q E hr h => ?_
  obtain ⟨b, n, rfl, hb, hn, q⟩ := h
  refine ⟨_, (pss_cons (ps_par3 (i := 1) (j := 2) (l := 3) (by rfl) sc_law_numbers.nd rfl rfl rfl (by decide) (by decide) (by decide) rfl rfl rfl (pa_cons (pe_cal cT hr (by decide) (pa_cons (pv 0) (pa_cons pe_int pa_nil))) (pa_cons (pe_cal cT hr (by decide) (pa_cons (pv 0) (pa_cons pe_int pa_nil))) (pa_cons (pe_cal cNum hr (by decide) (pa_cons (pv 0) pa_nil)) pa_nil))) (by rfl))
    (pss_cons (ps_set (i := 4) sc_law_numbers.nd rfl (Or.inl rfl) (pe_ifExp (pt_cmpR op_eq (pv 2) pe_int (nomark _)) (pe_op op_add_str (pe_slice sl_str (pv 3) po_none (po_some pe_int)) pe_str) (pe_cal cNum hr (by decide) (pa_cons (pv 0) pa_nil))))
    (pss_cons (ps_if (pt_cmpR op_eq (pv 4) (pv 3) (nomark _)) (pss_one (ps_set (i := 4) sc_law_numbers.nd rfl (Or.inl rfl) (pe_op op_add_str (pe_slice sl_str (pv 3) po_none (po_some (pe_un un_neg pe_int))) (pe_ix ix_str pe_str (pe_callTy call_int1 (by rfl) G.b_int (by decide +kernel) (pa_cons (pe_cmpR op_eq (pe_slice sl_str (pv 3) (po_some (pe_un un_neg pe_int)) po_none) pe_str (nomark _)) pa_nil)) (fun _ _ => rfl))))) pss_nil)
    (pss_one (ps_ret (pe_slice sl_list (pe_lst (pa_cons (pv 3) (pa_cons (pv 4) pa_nil))) po_none (po_some (pv 1)))))))), ?_⟩
  refine ⟨_, rfl, ?_⟩
  obtain ⟨o0_, e0_, i0_⟩ := id hb
  refine ⟨_, 3, _, o0_, rfl, e0_, i0_, by omega, by first | decide | omega, by first | decide | omega, fun many o1_ hm i1_ => ?_⟩
  generalize eH_ : upd _ _ o1_ = H1
  obtain ⟨k1, b1, oth1⟩ := tkf eH_ i1_
  clear eH_ i1_ i0_ e0_ o0_
  refine ⟨_, rfl, ?_⟩
  obtain ⟨o0_, e0_, i0_⟩ := id b1
  refine ⟨_, 2, _, o0_, rfl, e0_, i0_, by omega, by first | decide | omega, by first | decide | omega, fun near o1_ hn2 i1_ => ?_⟩
  generalize eH_ : upd _ _ o1_ = H2
  obtain ⟨k2, b2, oth2⟩ := tkf eH_ i1_
  clear eH_ i1_ i0_ e0_ o0_
  refine ⟨_, rfl, b, _, rfl, b2, by omega, fun x H3 px k3 b3 => ⟨_, _, _, rfl, ?_⟩⟩
  have k123 := (k1.trans k2).trans k3
  have z20 : n + 1 + 1 + 15 ≤ n + 40 := by omega
  -- the end, once the second text is known
  have fin : ∀ (y : Str) (H' : Hp), NmG 10 y → Kp [b] H H' → Bx b (n + 40) H' → ∀ p, H' p = none → ∀ q', (upd H' p (.lst [.str x, .str y])) q' = none → Q (.ref q') (upd (upd H' p (.lst [.str x, .str y])) q' (.lst (cutV [.str x, .str y] none (some (many : Int))))) := by
    intro y H' py k' b' p hp p2 hp2
    generalize e1 : upd H' p _ = H4 at hp2 ⊢
    obtain ⟨s4, d4⟩ := nw e1 hp
    generalize e2 : upd H4 p2 _ = H5
    obtain ⟨s5, d5⟩ := nw e2 hp2
    have nb : p2 ≠ b := fun z => (b'.same s4).ne hp2 z.symm
    have h0 : H p2 = none := by
      cases z : H p2 with
      | none => rfl
      | some o => rw [s4 _ _ (k' _ _ (by simpa using nb) z)] at hp2; cases hp2
    have hc : cutV [V.str x, V.str y] none (some (many : Int)) = ([x, y].take many).map V.str := by
      match many, hm with
      | 0, _ => rfl
      | 1, _ => rfl
      | 2, _ => rfl
    rw [hc] at d5
    refine q p2 ([x, y].take many) H5 (by rw [List.length_take]; exact Nat.min_le_right _ _) (fun z hz => ?_) ((k'.trans (Kp.of s4)).trans (Kp.of s5)) ((b'.same s4).same s5) nb h0 d5
    rcases List.mem_cons.mp (List.mem_of_mem_take hz) with rfl | hz
    · exact px.mono (by decide)
    · rw [List.mem_singleton.mp hz]; exact py
  have sz : ∀ {k : Nat} {z : Str}, Pl k z → k ≤ 900 → z.length + 1 ≤ sizeLine := fun h l => Nat.le_of_lt (small1000 (by have := h.len; omega))
  refine ⟨_, rfl, rfl, _, rfl, itb (fun e => ?_) fun e => ?_⟩
  · have py : NmG 10 (cutS x none (some 7) ++ "k") := by rw [k_sg]; exact cut_nmg px _ _ (.inr (.inl rfl))
    refine ⟨_, rfl, 7, rfl, x, rfl, Nat.le_of_succ_le (sz px.pl (by decide)), _, _, rfl, rfl, sz (px.pl.cut _ _) (by decide), ?_⟩
    refine ⟨_, rfl, _, rfl, rfl, _, rfl, itb (fun e => ?_) fun e => ?_⟩
    · refine ⟨_, rfl, 1, rfl, -1, rfl, x, rfl, Nat.le_of_succ_le (sz px.pl (by decide)), ?_⟩
      refine ⟨_, rfl, 1, rfl, -1, rfl, x, rfl, Nat.le_of_succ_le (sz px.pl (by decide)), rfl, .inr ⟨_, rfl, ?_⟩⟩
      refine ⟨_, _, _, rfl, rfl, by decide, kj_at _, _, _, rfl, rfl, sz (px.pl.cut _ _) (by decide), ?_⟩
      refine ⟨_, rfl, _, rfl, by show 2 ≤ sizeLine; decide, fun p hp => ⟨_, rfl, _, rfl, p, _, rfl, SqL.of upd_same, ?_⟩⟩
      exact fin _ H3 (kj_nmg px _ _ _) k123 (b3.mono z20) p hp
    · refine ⟨_, rfl, _, rfl, by show 2 ≤ sizeLine; decide, fun p hp => ⟨_, rfl, _, rfl, p, _, rfl, SqL.of upd_same, ?_⟩⟩
      exact fin _ H3 py k123 (b3.mono z20) p hp
  · refine ⟨_, rfl, b, _, rfl, b3, by omega, fun y H4 py k4 b4 => ?_⟩
    have z21 : n + 1 + 1 + 15 + 15 ≤ n + 40 := by omega
    refine ⟨_, rfl, _, rfl, rfl, _, rfl, itb (fun e => ?_) fun e => ?_⟩
    · refine ⟨_, rfl, 1, rfl, -1, rfl, x, rfl, Nat.le_of_succ_le (sz px.pl (by decide)), ?_⟩
      refine ⟨_, rfl, 1, rfl, -1, rfl, x, rfl, Nat.le_of_succ_le (sz px.pl (by decide)), rfl, .inr ⟨_, rfl, ?_⟩⟩
      refine ⟨_, _, _, rfl, rfl, by decide, kj_at _, _, _, rfl, rfl, sz (px.pl.cut _ _) (by decide), ?_⟩
      refine ⟨_, rfl, _, rfl, by show 2 ≤ sizeLine; decide, fun p hp => ⟨_, rfl, _, rfl, p, _, rfl, SqL.of upd_same, ?_⟩⟩
      exact fin _ H4 (kj_nmg px _ _ _) (k123.trans k4) (b4.mono z21) p hp
    · refine ⟨_, rfl, _, rfl, by show 2 ≤ sizeLine; decide, fun p hp => ⟨_, rfl, _, rfl, p, _, rfl, SqL.of upd_same, ?_⟩⟩
      exact fin _ H4 (py.mono (by decide)) (k123.trans k4) (b4.mono z21) p hp
end
end NH
set_option maxHeartbeats 4000000
namespace NH
open PySem PySem.Spec PyProof.Rows L2 TL
theorem amt_str {ks : List Kind} {nm : List Str} {x : Str} (h : x ∈ nm) : amtOk ks nm (.str x) = true := by
  show (nm.any fun z => x == z) = true
  rw [List.any_eq_true]
  exact ⟨x, h, beq_self_eq_true x⟩
theorem amt_due {ks : List Kind} {nm : List Str} {x : Str} (h : x ∈ sidesOf ks) : amtOk ks nm (.tup [.str "due", .str x]) = true := by
  show (D.isS "due" (.str "due") && hasD ks (.str x)) = true
  rw [show D.isS "due" (.str "due") = true by decide +kernel]
  exact decide_eq_true h
theorem amt_int {ks : List Kind} {nm : List Str} {k : Nat} (h : k ≤ 9) : amtOk ks nm (.int (k : Int)) = true := by
  show ((decide ((0 : Int) ≤ (k : Int)) && decide ((k : Int) ≤ 9)) || _) = true
  rw [decide_eq_true (by omega), decide_eq_true (by omega)]; rfl
theorem CondC.le {ks : List Kind} {nm : List Str} {n m : Nat} {d : D} (c : CondC ks nm n d) (h : n ≤ m) : CondC ks nm m d := by
  induction m with
  | zero => have e : n = 0 := by omega
            subst e; exact c
  | succ m ih =>
    by_cases e : n = m + 1
    · subst e; exact c
    · exact (ih (by omega)).up
section
variable {P : Program} {w : World} {K : PySem.W.Frag} {mg : Str → Option Value} {base : Heap}
abbrev s_law_amount : Stmt := top 49
theorem sc_law_amount : FnScope ["box", "sides", "names", "way"] ["box", "sides", "names"] (defScope s_law_amount) := ⟨rfl, rfl, rfl, by decide +kernel, rfl, by decide +kernel, by decide +kernel⟩
/-- what is built is small data; so many digits are taken -/
def Bld (bs : List Addr) (b : Addr) (n : Nat) (H : Hp) (Q : VK) (R : D → Prop) : Prop := ∀ v d H', Kp [b] H H' → Al bs H' → Bx b n H' → Dd (hid bs H') v d → R d → Q v H'
def spAm : Sp := fun vs H Q _ => ∃ (bs : List Addr) (b s m : Addr) (ys nm : List Str) (ks : List Kind) (n : Nat), vs = [.ref b, .ref s, .ref m] ∧ (∀ y ∈ ys, y ∈ sidesOf ks) ∧ Gn bs b s m ys nm H ∧ Bx b n H ∧ n ≤ 600000000 ∧ Bld bs b (n + 2) H Q fun d => amtOk ks nm d = true
theorem ok_law_amount (G : Bl mg) (DA : DefAt K mg "_law_amount" s_law_amount) (cT : Callee P w K mg base 2 "_law_take" ["box", "many"] spTake) : Callee P w K mg base 3 "_law_amount" ["box", "sides", "names"] spAm := by
  refine callee DA sc_law_amount (fun vs H Q E h => by obtain ⟨_, _, _, _, _, _, _, _, rfl, _⟩ := h; rfl) (fun _ _ _ _ _ _ us hl => match us, hl with | [_, _, _], _ => rfl) fun f cdv A outer s H vs Q E hr h => ?_
  obtain ⟨bs, b, sA, m, ys, nm, ks, n, rfl, hys, g, hb, hn, q⟩ := h
  refine ⟨_, (pss_cons (ps_set (i := 3) sc_law_amount.nd rfl (Or.inl rfl) (pe_cal cT hr (by decide) (pa_cons (pv 0) (pa_cons pe_int pa_nil))))
    (pss_cons (ps_if (PW.pt (pw_and (pt_cmpR op_eq (pv 3) pe_int (nomark _)) (pw_and1 (pt_cmpR (op_neD hr.units) (pv 2) (pe_lst pa_nil) (nomark _))))) (pss_one (ps_ret (pe_ix ix_list (pv 2) (pe_cal cT hr (by decide) (pa_cons (pv 0) (pa_cons (pe_callB call_len_seq (by rfl) G.b_len (by decide +kernel) (pa_cons (pv 2) pa_nil)) pa_nil))) (fun _ _ => rfl)))) pss_nil)
    (pss_cons (ps_if (pt_cmpR op_in_seq (pv 3) (pe_lst (pa_cons pe_int (pa_cons pe_int pa_nil))) rfl) (pss_one (ps_ret (pe_tup (pa_cons pe_str (pa_cons (pe_ix ix_list (pv 1) (pe_cal cT hr (by decide) (pa_cons (pv 0) (pa_cons (pe_callB call_len_seq (by rfl) G.b_len (by decide +kernel) (pa_cons (pv 1) pa_nil)) pa_nil))) (fun _ _ => rfl)) pa_nil))))) pss_nil)
    (pss_one (ps_ret (pe_cal cT hr (by decide) (pa_cons (pv 0) (pa_cons pe_int pa_nil)))))))), ?_⟩
  refine ⟨_, rfl, ?_⟩
  obtain ⟨o0_, e0_, i0_⟩ := id hb
  refine ⟨_, 4, _, o0_, rfl, e0_, i0_, by omega, by first | decide | omega, by first | decide | omega, fun way o1_ hw i1_ => ?_⟩
  generalize eH_ : upd _ _ o1_ = H1
  obtain ⟨k1, b1, oth1⟩ := tkf eH_ i1_
  clear eH_ i1_ i0_ e0_ o0_
  have g1 := g.tk k1 b1
  refine ⟨_, rfl, rfl, _, rfl, itb (fun e => ?_) fun e => ?_⟩
  · refine ⟨_, rfl, by show 0 ≤ sizeLine; decide, fun p hp => ?_⟩
    generalize e2 : upd H1 p _ = H2
    obtain ⟨s2, d2⟩ := nw e2 hp
    have g2 := g1.same s2
    have b2 := b1.same s2
    refine ⟨_, .list [], dp_names g2.mh, .lst (SqL.of d2) .nil, names_shaped g2.np, rfl, _, rfl, ?_⟩
    rw [names_eqv]
    refine itb (fun e3 => ?_) fun e3 => ?_
    · refine ⟨_, rfl, _, rfl, _, rfl, m, nm.map V.str, rfl, .inl (SqL.of g2.mh), ?_⟩
      have n0 : 0 < nm.length := by cases nm with
        | nil => simp at e3
        | cons x l => exact Nat.succ_pos _
      have n1 := g2.nl
      have ln : (nm.map V.str).length = nm.length := List.length_map ..
      obtain ⟨o0_, e0_, i0_⟩ := id b2
      refine ⟨_, (nm.map V.str).length, _, o0_, rfl, e0_, i0_, by omega, by first | decide | omega, by first | decide | omega, fun d o1_ hd i1_ => ?_⟩
      generalize eH_ : upd _ _ o1_ = H3
      obtain ⟨k3, b3, oth3⟩ := tkf eH_ i1_
      clear eH_ i1_ i0_ e0_ o0_
      have g3 := g2.tk k3 b3
      obtain ⟨x, mx, ex⟩ := at_str (l := nm) (d := d) (by omega)
      refine ⟨m, _, _, _, rfl, rfl, SqL.of g3.mh, ex, ?_⟩
      exact q _ (.str x) H3 ((k1.trans (Kp.of s2)).trans k3) g3.al b3 (.str x) (amt_str mx)
    · refine ⟨_, rfl, by show 2 ≤ sizeLine; decide, fun p2 hp2 => ?_⟩
      generalize e5 : upd H2 p2 _ = H5
      obtain ⟨s5, d5⟩ := nw e5 hp2
      have g5 := g2.same s5
      have b5 := b2.same s5
      refine ⟨p2, _, rfl, .inl (SqL.of d5), rfl, rfl, _, rfl, itb (fun e6 => ?_) fun e6 => ?_⟩
      · refine ⟨_, rfl, _, rfl, _, rfl, sA, ys.map V.str, rfl, .inl (SqL.of g5.sh), ?_⟩
        have y0 := g5.y0
        have y1 := g5.yl
        have ln : (ys.map V.str).length = ys.length := List.length_map ..
        obtain ⟨o0_, e0_, i0_⟩ := id b5
        refine ⟨_, (ys.map V.str).length, _, o0_, rfl, e0_, i0_, by omega, by first | decide | omega, by first | decide | omega, fun d o1_ hd i1_ => ?_⟩
        generalize eH_ : upd _ _ o1_ = H6
        obtain ⟨k6, b6, oth6⟩ := tkf eH_ i1_
        clear eH_ i1_ i0_ e0_ o0_
        have g6 := g5.tk k6 b6
        obtain ⟨x, mx, ex⟩ := at_str (l := ys) (d := d) (by omega)
        refine ⟨sA, _, _, _, rfl, rfl, SqL.of g6.sh, ex, by show 2 ≤ sizeLine; decide, fun p7 hp7 => ?_⟩
        generalize e7 : upd H6 p7 _ = H7
        obtain ⟨s7, d7⟩ := nw e7 hp7
        exact q _ _ H7 ((((k1.trans (Kp.of s2)).trans (Kp.of s5)).trans k6).trans (Kp.of s7)) (g6.al.same s7) (b6.same s7) (Dd.newT g6.al hp7 s7 d7 (.cons (.str _) (.cons (.str _) .nil))) (amt_due (hys x mx))
      · refine ⟨_, rfl, ?_⟩
        obtain ⟨o0_, e0_, i0_⟩ := id b5
        refine ⟨_, 10, _, o0_, rfl, e0_, i0_, by omega, by first | decide | omega, by first | decide | omega, fun d o1_ hd i1_ => ?_⟩
        generalize eH_ : upd _ _ o1_ = H6
        obtain ⟨k6, b6, oth6⟩ := tkf eH_ i1_
        clear eH_ i1_ i0_ e0_ o0_
        have g6 := g5.tk k6 b6
        exact q _ _ H6 (((k1.trans (Kp.of s2)).trans (Kp.of s5)).trans k6) g6.al b6 (.int _) (amt_int (by omega))
  · refine ⟨_, rfl, by show 2 ≤ sizeLine; decide, fun p2 hp2 => ?_⟩
    generalize e5 : upd H1 p2 _ = H5
    obtain ⟨s5, d5⟩ := nw e5 hp2
    have g5 := g1.same s5
    have b5 := b1.same s5
    refine ⟨p2, _, rfl, .inl (SqL.of d5), rfl, rfl, _, rfl, itb (fun e6 => ?_) fun e6 => ?_⟩
    · refine ⟨_, rfl, _, rfl, _, rfl, sA, ys.map V.str, rfl, .inl (SqL.of g5.sh), ?_⟩
      have y0 := g5.y0
      have y1 := g5.yl
      have ln : (ys.map V.str).length = ys.length := List.length_map ..
      obtain ⟨o0_, e0_, i0_⟩ := id b5
      refine ⟨_, (ys.map V.str).length, _, o0_, rfl, e0_, i0_, by omega, by first | decide | omega, by first | decide | omega, fun d o1_ hd i1_ => ?_⟩
      generalize eH_ : upd _ _ o1_ = H6
      obtain ⟨k6, b6, oth6⟩ := tkf eH_ i1_
      clear eH_ i1_ i0_ e0_ o0_
      have g6 := g5.tk k6 b6
      obtain ⟨x, mx, ex⟩ := at_str (l := ys) (d := d) (by omega)
      refine ⟨sA, _, _, _, rfl, rfl, SqL.of g6.sh, ex, by show 2 ≤ sizeLine; decide, fun p7 hp7 => ?_⟩
      generalize e7 : upd H6 p7 _ = H7
      obtain ⟨s7, d7⟩ := nw e7 hp7
      exact q _ _ H7 (((k1.trans (Kp.of s5)).trans k6).trans (Kp.of s7)) (g6.al.same s7) (b6.same s7) (Dd.newT g6.al hp7 s7 d7 (.cons (.str _) (.cons (.str _) .nil))) (amt_due (hys x mx))
    · refine ⟨_, rfl, ?_⟩
      obtain ⟨o0_, e0_, i0_⟩ := id b5
      refine ⟨_, 10, _, o0_, rfl, e0_, i0_, by omega, by first | decide | omega, by first | decide | omega, fun d o1_ hd i1_ => ?_⟩
      generalize eH_ : upd _ _ o1_ = H6
      obtain ⟨k6, b6, oth6⟩ := tkf eH_ i1_
      clear eH_ i1_ i0_ e0_ o0_
      have g6 := g5.tk k6 b6
      exact q _ _ H6 ((k1.trans (Kp.of s5)).trans k6) g6.al b6 (.int _) (amt_int (by omega))
abbrev s_law_condition : Stmt := top 50
theorem sc_law_condition : FnScope ["box", "sides", "names", "deep", "way", "part", "inner", "word", "other"] ["box", "sides", "names", "deep"] (defScope s_law_condition) := ⟨rfl, rfl, rfl, by decide +kernel, rfl, by decide +kernel, by decide +kernel⟩
def spCo (D : Nat) : Sp := fun vs H Q _ => ∃ (bs : List Addr) (b s m : Addr) (ys nm : List Str) (ks : List Kind) (n deep : Nat), vs = [.ref b, .ref s, .ref m, .int (deep + 1 : Nat)] ∧ (∀ y ∈ ys, y ∈ sidesOf ks) ∧ deep + 1 ≤ D ∧ D ≤ 100 ∧ Gn bs b s m ys nm H ∧ Bx b n H ∧ n + 12 * 2 ^ D ≤ 500000000 ∧ Bld bs b (n + (12 * 2 ^ D - 3)) H Q fun d => CondC ks nm (deep + 1) d
theorem ok_law_condition (G : Bl mg) (DA : DefAt K mg "_law_condition" s_law_condition) (cT : Callee P w K mg base 2 "_law_take" ["box", "many"] spTake) (cAm : Callee P w K mg base 3 "_law_amount" ["box", "sides", "names"] spAm) :
    ∀ D : Nat, Callee P w K mg base (4 + D) "_law_condition" ["box", "sides", "names", "deep"] (spCo D) := by
  intro D
  induction D with
  | zero => exact callee (k := 3) DA sc_law_condition (fun _ _ _ _ h => by obtain ⟨_, _, _, _, _, _, _, _, deep, _, _, z, _⟩ := h; exact absurd z (by omega)) (fun _ _ _ _ _ _ us hl => match us, hl with | [_, _, _, _], _ => rfl) fun _ _ _ _ _ _ _ _ _ _ h => by obtain ⟨_, _, _, _, _, _, _, _, deep, _, _, z, _⟩ := h; exact absurd z (by omega)
  | succ D ih =>
    refine callee (k := 4 + D) DA sc_law_condition (fun vs H Q E h => by obtain ⟨_, _, _, _, _, _, _, _, _, rfl, _⟩ := h; rfl) (fun _ _ _ _ _ _ us hl => match us, hl with | [_, _, _, _], _ => rfl) fun f cdv A outer s H vs Q E hr h => ?_
    obtain ⟨bs, b, sA, m, ys, nm, ks, n, deep, rfl, hys, hD, hD2, g, hb, hn, q⟩ := h
    refine ⟨_, (pss_cons (ps_par (i := 4) (j := 5) (by rfl) sc_law_condition.nd rfl rfl (by decide) rfl rfl (pa_cons (pe_cal cT hr (by omega) (pa_cons (pv 0) (pa_cons pe_int pa_nil))) (pa_cons (pe_cal cT hr (by omega) (pa_cons (pv 0) (pa_cons pe_int pa_nil))) pa_nil)) (by rfl))
      (pss_cons (ps_if (pt_cmpR op_eq (pv 3) pe_int (nomark _)) (pss_one (ps_ret (pe_tup (pa_cons (pe_ix ix_list (pe_lst (pa_cons pe_str (pa_cons pe_str pa_nil))) (pv 5) (fun _ _ => rfl)) (pa_cons (pe_cal cAm hr (by omega) (pa_cons (pv 0) (pa_cons (pv 1) (pa_cons (pv 2) pa_nil)))) (pa_cons (pe_cal cAm hr (by omega) (pa_cons (pv 0) (pa_cons (pv 1) (pa_cons (pv 2) pa_nil)))) pa_nil)))))) pss_nil)
      (pss_cons (ps_set (i := 6) sc_law_condition.nd rfl (Or.inl rfl) (pe_cal ih hr (by omega) (pa_cons (pv 0) (pa_cons (pv 1) (pa_cons (pv 2) (pa_cons (pe_op op_sub (pv 3) pe_int) pa_nil))))))
      (pss_cons (ps_if (pt_cmpR op_eq (pv 4) pe_int (nomark _)) (pss_one (ps_ret (pe_tup (pa_cons pe_str (pa_cons (pv 6) pa_nil))))) pss_nil)
      (pss_cons (ps_par (i := 7) (j := 8) (by rfl) sc_law_condition.nd rfl rfl (by decide) rfl rfl (pa_cons (pe_ix ix_list (pe_lst (pa_cons pe_str (pa_cons pe_str pa_nil))) (pe_op op_fdiv (pv 4) pe_int) (fun _ _ => rfl)) (pa_cons (pe_cal ih hr (by omega) (pa_cons (pv 0) (pa_cons (pv 1) (pa_cons (pv 2) (pa_cons (pe_op op_add pe_int (pe_cal cT hr (by omega) (pa_cons (pv 0) (pa_cons (pe_op op_sub (pv 3) pe_int) pa_nil)))) pa_nil))))) pa_nil)) (by rfl))
      (pss_one (ps_ret (pe_ifExp (pt_cmpR op_eq (pv 5) pe_int (nomark _)) (pe_tup (pa_cons (pv 7) (pa_cons (pv 6) (pa_cons (pv 8) pa_nil)))) (pe_tup (pa_cons (pv 7) (pa_cons (pv 8) (pa_cons (pv 6) pa_nil)))))))))))), ?_⟩
    have p1 : 1 ≤ 2 ^ D := Nat.one_le_two_pow
    have p2 : 2 ^ (D + 1) = 2 * 2 ^ D := by rw [Nat.pow_succ, Nat.mul_comm]
    rw [p2] at hn q
    refine ⟨_, rfl, ?_⟩
    obtain ⟨o0_, e0_, i0_⟩ := id hb
    refine ⟨_, 5, _, o0_, rfl, e0_, i0_, by omega, by first | decide | omega, by first | decide | omega, fun way o1_ hw i1_ => ?_⟩
    generalize eH_ : upd _ _ o1_ = H1
    obtain ⟨k1, b1, oth1⟩ := tkf eH_ i1_
    clear eH_ i1_ i0_ e0_ o0_
    refine ⟨_, rfl, ?_⟩
    obtain ⟨o0_, e0_, i0_⟩ := id b1
    refine ⟨_, 2, _, o0_, rfl, e0_, i0_, by omega, by first | decide | omega, by first | decide | omega, fun part o1_ hpt i1_ => ?_⟩
    generalize eH_ : upd _ _ o1_ = H2
    obtain ⟨k2, b2, oth2⟩ := tkf eH_ i1_
    clear eH_ i1_ i0_ e0_ o0_
    have g2 := (g.tk k1 b1).tk k2 b2
    have k12 := k1.trans k2
    refine ⟨_, _, rfl, _, rfl, rfl, _, rfl, itb (fun e => ?_) fun e => ?_⟩
    · refine ⟨by show 2 ≤ sizeLine; decide, fun p hp => ?_⟩
      generalize e3 : upd H2 p _ = H3
      obtain ⟨s3, d3⟩ := nw e3 hp
      obtain ⟨x, mx, ex⟩ := menuS ["is", "above"] (d := part) hpt
      have px : x = "is" ∨ x = "above" := by simpa using mx
      refine ⟨_, rfl, p, _, _, _, rfl, rfl, SqL.of d3, ex, ?_⟩
      have g3 := g2.same s3
      refine ⟨_, rfl, _, rfl, _, rfl, bs, b, sA, m, ys, nm, ks, _, rfl, hys, g3, b2.same s3, by omega, fun v1 d1 H4 k4 a4 b4 h1 sm1 => ?_⟩
      have g4 := g3.kp k4 (fun a z => by rw [List.mem_singleton.mp z]; exact g.inb) a4
      refine ⟨_, rfl, _, rfl, _, rfl, bs, b, sA, m, ys, nm, ks, _, rfl, hys, g4, b4, by omega, fun v2 d2 H5 k5 a5 b5 h2 sm2 => ?_⟩
      have h1 := h1.hk k5 (fun a z => by rw [List.mem_singleton.mp z]; exact g.inb)
      refine ⟨by show 3 ≤ sizeLine; decide, fun p6 hp6 => ?_⟩
      generalize e6 : upd H5 p6 _ = H6
      obtain ⟨s6, d6⟩ := nw e6 hp6
      refine q _ _ H6 ((((k12.trans (Kp.of s3)).trans k4).trans k5).trans (Kp.of s6)) (a5.same s6) ((b5.same s6).mono ?_) (Dd.newT a5 hp6 s6 d6 (.cons (.str _) (.cons h1 (.cons h2 .nil)))) (.cmp px sm1 sm2)
      · omega
    · obtain ⟨dp, rfl⟩ : ∃ k, deep = k + 1 := by
        cases deep with
        | zero => exact absurd rfl (of_decide_eq_false e)
        | succ k => exact ⟨k, rfl⟩
      have sub : ∀ a ∈ [b], a ∈ bs := fun a z => by rw [List.mem_singleton.mp z]; exact g.inb
      have en : ((dp + 1 + 1 : Nat) : Int) - 1 = ((dp + 1 : Nat) : Int) := by omega
      refine ⟨_, rfl, _, rfl, _, rfl, _, rfl, _, _, rfl, rfl, bs, b, sA, m, ys, nm, ks, _, dp, by show [V.ref b, V.ref sA, V.ref m, V.int (((dp + 1 + 1 : Nat) : Int) - 1)] = _; rw [en], hys, by omega, by omega, g2, b2, by omega, fun v1 d1 H3 k3 a3 b3 h1 sm1 => ?_⟩
      have k13 := k12.trans k3
      have g3 := g2.kp k3 sub a3
      refine ⟨_, rfl, rfl, _, rfl, itb (fun e4 => ?_) fun e4 => ?_⟩
      · refine ⟨_, rfl, by show 2 ≤ sizeLine; decide, fun p7 hp7 => ?_⟩
        generalize e7 : upd H3 p7 _ = H7
        obtain ⟨s7, d7⟩ := nw e7 hp7
        refine q _ _ H7 (k13.trans (Kp.of s7)) (a3.same s7) ((b3.same s7).mono ?_) (Dd.newT a3 hp7 s7 d7 (.cons (.str _) (.cons h1 .nil))) (.neg sm1)
        · omega
      · refine ⟨by show 2 ≤ sizeLine; decide, fun p hp => ?_⟩
        generalize e4 : upd H3 p _ = H4
        obtain ⟨s4, d4⟩ := nw e4 hp
        have w3 : way / 3 < 2 := by omega
        have ew : (way : Int) / 3 = ((way / 3 : Nat) : Int) := by omega
        obtain ⟨x, mx, ex⟩ := menuS ["both", "either"] (d := way / 3) w3
        have px : x = "both" ∨ x = "either" := by simpa using mx
        have pn : x ≠ "not" := by rcases px with h | h <;> rw [h] <;> decide +kernel
        have pj : isJ x := px.imp id .inl
        refine ⟨_, rfl, _, _, rfl, rfl, ⟨by decide, by decide⟩, p, _, _, _, rfl, rfl, SqL.of d4, by rw [ew]; exact ex, ?_⟩
        have g4 := g3.same s4
        have b4 := b3.same s4
        refine ⟨_, rfl, _, rfl, _, rfl, _, rfl, _, rfl, _, _, rfl, rfl, ?_⟩
        obtain ⟨o0, e0, i0⟩ := id b4
        refine ⟨_, dp + 1, _, o0, by show [V.ref b, V.int (((dp + 1 + 1 : Nat) : Int) - 1)] = _; rw [en], e0, i0, by omega, by omega, by omega, fun t o1 ht i1 => ?_⟩
        generalize eH : upd _ _ o1 = H5
        obtain ⟨k5, b5, oth5⟩ := tkf eH i1
        have g5 := g4.tk k5 b5
        have et : (1 : Int) + (t : Int) = ((t + 1 : Nat) : Int) := by omega
        refine ⟨_, _, rfl, rfl, bs, b, sA, m, ys, nm, ks, _, t, by show [V.ref b, V.ref sA, V.ref m, V.int ((1 : Int) + (t : Int))] = _; rw [et], hys, by omega, by omega, g5, b5, by omega, fun v2 d2 H6 k6' a6 b6 h2 sm2 => ⟨_, _, rfl, ?_⟩⟩
        have h1 := ((h1.hs s4).hk k5 sub).hk k6' sub
        have k6 := ((k13.trans (Kp.of s4)).trans k5).trans k6'
        refine ⟨_, rfl, rfl, _, rfl, itb (fun e8 => ?_) fun e8 => ?_⟩
        · refine ⟨_, rfl, _, rfl, _, rfl, by show 3 ≤ sizeLine; decide, fun p7 hp7 => ?_⟩
          generalize e7 : upd H6 p7 _ = H7
          obtain ⟨s7, d7⟩ := nw e7 hp7
          refine q _ _ H7 ((k6.trans (Kp.of s7))) (a6.same s7) ((b6.same s7).mono ?_) (Dd.newT a6 hp7 s7 d7 (.cons (.str _) (.cons h1 (.cons h2 .nil)))) (.two pj pn sm1 (sm2.le (by omega)))
          · omega
        · refine ⟨_, rfl, _, rfl, _, rfl, by show 3 ≤ sizeLine; decide, fun p7 hp7 => ?_⟩
          generalize e7 : upd H6 p7 _ = H7
          obtain ⟨s7, d7⟩ := nw e7 hp7
          refine q _ _ H7 ((k6.trans (Kp.of s7))) (a6.same s7) ((b6.same s7).mono ?_) (Dd.newT a6 hp7 s7 d7 (.cons (.str _) (.cons h2 (.cons h1 .nil)))) (.two pj pn (sm2.le (by omega)) sm1)
          · omega
end
end NH
set_option maxHeartbeats 4000000
namespace NH
open PySem PySem.Spec PyProof.Rows L2 TL
theorem wdA_len {ks : List Kind} {nm : List Str} {a : D} (h : amtOk ks nm a = true) : (wdA a).length ≤ 2 := by
  rcases amt_cases h with ⟨x, rfl, hs⟩ | ⟨x, rfl, hx⟩ | ⟨k, hk, rfl⟩ <;> simp [wdA]
theorem CondC.wlen {ks : List Kind} {nm : List Str} {n : Nat} {d : D} (c : CondC ks nm n d) : (wdC n d).length + 1 ≤ 6 * 2 ^ n := by
  induction c with
  | @cmp n z a b hz ha hb =>
    rw [wdC_cmp hz, List.length_append, List.length_cons]
    have h1 := wdA_len ha
    have h2 := wdA_len hb
    have p1 : 1 ≤ 2 ^ (n + 1) := Nat.one_le_two_pow
    omega
  | @neg n a ca ih =>
    rw [wdC_join (.inr (.inr rfl)), List.length_cons]
    have e : ([a].map (wdC n)).flatten.length = (wdC n a).length := by simp
    rw [e, Nat.pow_succ]
    have p1 : 1 ≤ 2 ^ n := Nat.one_le_two_pow
    omega
  | @two n z a b hz hn ca cb i1 i2 =>
    rw [wdC_join hz, List.length_cons]
    have e : ([a, b].map (wdC n)).flatten.length = (wdC n a).length + (wdC n b).length := by simp
    rw [e, Nat.pow_succ]
    omega
section
variable {P : Program} {w : World} {K : PySem.W.Frag} {mg : Str → Option Value} {base : Heap}
abbrev s_law_amount_words : Stmt := top 51
theorem sc_law_amount_words : FnScope ["amount"] ["amount"] (defScope s_law_amount_words) := ⟨rfl, rfl, rfl, by decide +kernel, rfl, by decide +kernel, by decide +kernel⟩
/-- a new list of these words -/
def NewW (H : Hp) (Q : VK) (ws : List Str) : Prop := ∀ p H', H p = none → Same H H' → H' p = some (.lst (ws.map V.str)) → Q (.ref p) H'
def spAw : Sp := fun vs H Q _ => ∃ (v : V) (d : D) (ks : List Kind) (nm : List Str), vs = [v] ∧ Dd H v d ∧ amtOk ks nm d = true ∧ NewW H Q (wdA d)
theorem digs_at : ∀ k : Nat, k < 10 → atI (Str.ofString "0123456789").cps.toList (k : Int) = some (48 + k) := by decide +kernel
theorem ok_law_amount_words (G : Bl mg) (DA : DefAt K mg "_law_amount_words" s_law_amount_words) : Callee P w K mg base 1 "_law_amount_words" ["amount"] spAw := by
  refine callee DA sc_law_amount_words (fun vs H Q E h => by obtain ⟨_, _, _, _, rfl, _⟩ := h; rfl) (fun _ _ _ _ _ _ us hl => match us, hl with | [_], _ => rfl) fun f cdv A outer s H vs Q E hr h => ?_
  obtain ⟨v, d, ks, nm, rfl, hd, ha, q⟩ := h
  refine ⟨_, (pss_cons (ps_if (pt_val (pe_callB call_isi (by rfl) G.b_isinstance (by decide +kernel) (pa_cons (pv 0) (pa_cons (pe_bltn (v := .ty "tuple") (u := .type "tuple") (by rfl) G.b_tuple (by decide +kernel) rfl) pa_nil)))) (pss_one (ps_ret (pe_lst (pa_cons pe_str (pa_cons (pe_ix ix_tup (pv 0) pe_int (fun _ _ => rfl)) pa_nil))))) pss_nil)
    (pss_one (ps_ret (pe_ifExp (pt_val (pe_callB call_isi (by rfl) G.b_isinstance (by decide +kernel) (pa_cons (pv 0) (pa_cons (pe_bltn (v := .ty "str") (u := .type "str") (by rfl) G.b_str (by decide +kernel) rfl) pa_nil)))) (pe_lst (pa_cons (pv 0) pa_nil)) (pe_lst (pa_cons (pe_ix ix_str pe_str (pv 0) (fun _ _ => rfl)) pa_nil)))))), ?_⟩
  refine ⟨v, rfl, _, _, _, _, _, rfl, .ty "tuple", hd.tyx, kit_tuple d, _, rfl, ?_⟩
  rcases amt_cases ha with ⟨x, rfl, hs⟩ | ⟨x, rfl, hx⟩ | ⟨k, hk, rfl⟩
  · refine iteT ?_
    cases hd with
    | @tup a xs _ h1 h2 =>
      cases h2 with
      | cons e1 h2 =>
        cases h2 with
        | cons e2 h3 =>
          cases e1; cases e2; cases h3
          refine ⟨_, rfl, a, _, 1, _, rfl, rfl, SqT.of h1, at1 _ _ _, by show 2 ≤ sizeLine; decide, fun p hp => ?_⟩
          exact q p _ hp (same_new hp) upd_same
  · refine iteF ?_
    cases hd
    refine ⟨_, rfl, _, _, _, _, _, rfl, .ty "str", .base (.str x), kit_ty (by decide +kernel : kitB "str" "str" = some true), _, rfl, ?_⟩
    refine iteT ?_
    refine ⟨_, rfl, by show 1 ≤ sizeLine; decide, fun p hp => ?_⟩
    exact q p _ hp (same_new hp) upd_same
  · refine iteF ?_
    cases hd
    refine ⟨_, rfl, _, _, _, _, _, rfl, .ty "str", .base (.int _), kit_ty (by decide +kernel : kitB "int" "str" = some false), _, rfl, ?_⟩
    refine iteF ?_
    refine ⟨_, rfl, _, _, _, rfl, rfl, by decide, digs_at k (by omega), by show 1 ≤ sizeLine; decide, fun p hp => ?_⟩
    refine q p _ hp (same_new hp) ?_
    show upd H p _ p = some (.lst [V.str (digS (k : Int).toNat)])
    rw [upd_same, Int.toNat_natCast]; rfl
abbrev s_law_words : Stmt := top 52
theorem sc_law_words : FnScope ["condition", "found", "part"] ["condition"] (defScope s_law_words) := ⟨rfl, rfl, rfl, by decide +kernel, rfl, by decide +kernel, by decide +kernel⟩
def spWo (n : Nat) : Sp := fun vs H Q _ => ∃ (v : V) (d : D) (ks : List Kind) (nm : List Str), vs = [v] ∧ Dd H v d ∧ CondC ks nm n d ∧ n ≤ 6 ∧ NewW H Q (wdC n d)
def isAbv : List Str := ["is", "above"]
theorem isAbv_iff (z : Str) : z ∈ isAbv ↔ (z = "is" ∨ z = "above") := by simp [isAbv]
theorem jw {ks : List Kind} {nm : List Str} {n : Nat} {d : D} {H : Hp} {v : V} {Q : VK} {B : Prop} (c : CondC ks nm (n + 1) d) (hd : Dd H v d) (q : NewW H Q (wdC (n + 1) d))
    (go : ∀ (z : Str) (ds : List D), Dd H v (.tup (.str z :: ds)) → isJ z → ds.length ≤ 2 → (∀ e ∈ ds, CondC ks nm n e) → CondC ks nm (n + 1) (.tup (.str z :: ds)) → NewW H Q (wdC (n + 1) (.tup (.str z :: ds))) → B)
    (cm : ∀ (z : Str) (a b : D), Dd H v (.tup [.str z, a, b]) → (z = "is" ∨ z = "above") → amtOk ks nm a = true → amtOk ks nm b = true → NewW H Q (wdC (n + 1) (.tup [.str z, a, b])) → B) : B := by
  have c0 := c
  cases c with
  | @cmp _ z a b hz ha hb => exact cm z a b hd hz ha hb q
  | @neg _ a ca => exact go "not" [a] hd (.inr (.inr rfl)) (by show 1 ≤ 2; decide) (fun e he => by rw [List.mem_singleton.mp he]; exact ca) c0 q
  | @two _ z a b hz hn ca cb => exact go z [a, b] hd hz (by show 2 ≤ 2; decide) (fun e he => by
      rcases List.mem_cons.mp he with rfl | he
      · exact ca
      · rw [List.mem_singleton.mp he]; exact cb) c0 q
theorem ok_law_words (G : Bl mg) (DA : DefAt K mg "_law_words" s_law_words) (cAw : Callee P w K mg base 1 "_law_amount_words" ["amount"] spAw) :
    ∀ n : Nat, Callee P w K mg base (2 + n) "_law_words" ["condition"] (spWo n) := by
  intro n
  induction n with
  | zero => exact callee (k := 1) DA sc_law_words (fun vs H Q E h => by obtain ⟨_, _, _, _, rfl, _⟩ := h; rfl) (fun _ _ _ _ _ _ us hl => match us, hl with | [_], _ => rfl) fun f cdv A outer s H vs Q E hr h => by obtain ⟨_, _, _, _, _, _, c, _⟩ := h; cases c
  | succ n ih =>
    refine callee (k := 2 + n) DA sc_law_words (fun vs H Q E h => by obtain ⟨_, _, _, _, rfl, _⟩ := h; rfl) (fun _ _ _ _ _ _ us hl => match us, hl with | [_], _ => rfl) fun f cdv A outer s H vs Q E hr h => ?_
    obtain ⟨v, d, ks, nm, rfl, hd, c, n6, q⟩ := h
    refine ⟨_, (pss_cons (ps_if (pt_cmpR op_in_seq (pe_ix ix_tup (pv 0) pe_int (fun _ _ => rfl)) (pe_lst (pa_cons pe_str (pa_cons pe_str pa_nil))) rfl) (pss_one (ps_ret (pe_op op_cat (pe_op op_cat (pe_cal cAw hr (by omega) (pa_cons (pe_ix ix_tup (pv 0) pe_int (fun _ _ => rfl)) pa_nil)) (pe_lst (pa_cons (pe_ix ix_tup (pv 0) pe_int (fun _ _ => rfl)) pa_nil))) (pe_cal cAw hr (by omega) (pa_cons (pe_ix ix_tup (pv 0) pe_int (fun _ _ => rfl)) pa_nil))))) pss_nil)
    (pss_cons (ps_set (i := 1) sc_law_words.nd rfl (Or.inl rfl) (pe_lst (pa_cons (pe_ix ix_tup (pv 0) pe_int (fun _ _ => rfl)) pa_nil)))
    (pss_cons (ps_for PassesOwn.never rfl (pi_tup (pe_slice sl_tup (pv 0) (po_some pe_int) po_none)) (pg_name (i := 2) sc_law_words.nd rfl (Or.inl rfl)) (pss_one (ps_set (i := 1) sc_law_words.nd rfl (Or.inl rfl) (pe_op op_cat (pv 1) (pe_cal ih hr (by omega) (pa_cons (pv 2) pa_nil))))))
    (pss_one (ps_ret (pv 1)))))), ?_⟩
    refine jw c hd q (fun z ds hd hj l2 hall c q => ?_) fun z a b hd hz ha hb q => ?_
    · cases hd with
      | @tup p xs _ h1 h2 =>
        obtain ⟨us, rfl, h3⟩ : ∃ us, xs = .str z :: us ∧ DdL H us ds := by
          cases h2 with
          | cons x1 h2 => cases x1; exact ⟨_, rfl, h2⟩
        have nc : z ∉ isAbv := fun y => isJ_no hj ((isAbv_iff z).mp y)
        refine ⟨_, rfl, p, _, 0, _, rfl, rfl, SqT.of h1, at0 _ _, by show 2 ≤ sizeLine; decide, fun p1 hp1 => ?_⟩
        generalize e1 : upd H p1 _ = H1
        obtain ⟨s1, d1⟩ := nw e1 hp1
        have d1 : H1 p1 = some (.lst (isAbv.map V.str)) := d1
        refine ⟨p1, _, rfl, .inl (SqL.of d1), rfl, flat_strs isAbv, _, rfl, ?_⟩
        refine itf (by show inV (V.str z) (isAbv.map V.str) = false; rw [inV_strs]; exact decide_eq_false nc) ?_
        refine ⟨_, rfl, p, _, 0, _, rfl, rfl, SqT.of (s1 _ _ h1), at0 _ _, by show 1 ≤ sizeLine; decide, fun p2 hp2 => ?_⟩
        generalize e2 : upd H1 p2 _ = H2
        obtain ⟨s2, d2⟩ := nw e2 hp2
        have s12 := s1.trans s2
        have np2 : H p2 = none := old s1 hp2
        refine ⟨_, rfl, 1, rfl, p, _, rfl, SqT.of (s12 _ _ h1), cut1_not _ _, fun t ht => ?_⟩
        rw [cut1]
        generalize e3 : upd H2 t _ = H3
        obtain ⟨s3, d3⟩ := nw e3 ht
        have s13 := s12.trans s3
        have cl := c.wlen
        have pw : 6 * 2 ^ (n + 1) ≤ 6 * 2 ^ 6 := Nat.mul_le_mul_left _ (Nat.pow_le_pow_right (by decide) n6)
        rw [wdC_join hj, List.length_cons] at cl
        refine ⟨t, rfl, ⟨us, SqT.of d3⟩, ?_⟩
        refine for_tup (K := K) (a := t) (xs := us) (fun i σ H' => ∃ (fd : Addr) (x2 : Option V), σ = [some (.ref p), some (.ref fd), x2] ∧ Same H H' ∧ H fd = none ∧ H' t = some (.tup us) ∧ H' fd = some (.lst ((z :: ((ds.take i).map (wdC n)).flatten).map V.str)))
          ⟨p2, none, rfl, s13, np2, d3, by rw [s3 _ _ d2]; rfl⟩ (fun i σ H' _ ⟨_, _, _, _, _, d, _⟩ => SqT.of d) ?_ ?_
        · rintro i x σ H4 hx ⟨fd, x2, rfl, s4, n4, t4, d4⟩
          obtain ⟨e, ed, he⟩ := h3.at hx
          have me : e ∈ ds := List.mem_of_getElem? ed
          have tk := take_succ_of ed
          refine ⟨_, rfl, _, rfl, x, e, ks, nm, rfl, he.same s4, hall e me, by omega, fun p5 H5 n5 s5 d5 => ?_⟩
          have l5 := (hall e me).wlen
          have sub : ((ds.take (i + 1)).map (wdC n)).flatten.length ≤ ((ds.map (wdC n)).flatten).length := by
            have y : ds.take (i + 1) ++ ds.drop (i + 1) = ds := List.take_append_drop _ _
            have y2 := congrArg (fun l => ((l.map (wdC n)).flatten).length) y
            simp only [List.map_append, List.flatten_append, List.length_append] at y2
            omega
          rw [tk, List.map_append, List.flatten_append, List.length_append] at sub
          have e1 : (([e].map (wdC n)).flatten) = wdC n e := by simp
          rw [e1] at sub
          refine ⟨fd, p5, _, _, rfl, rfl, s5 _ _ d4, d5, ?_, fun q6 hq6 => ?_⟩
          · rw [List.length_map, List.length_map, List.length_cons]
            exact Nat.le_of_lt (small1000 (by omega))
          · generalize e6 : upd H5 q6 _ = H6
            obtain ⟨s6, d6⟩ := nw e6 hq6
            refine ⟨q6, _, rfl, (s4.trans s5).trans s6, old (s4.trans s5) hq6, s6 _ _ (s5 _ _ t4), ?_⟩
            rw [d6, tk, List.map_append, List.flatten_append, e1, ← List.map_append]; rfl
        · rintro σ H4 ⟨fd, x2, rfl, s4, n4, t4, d4⟩
          refine ⟨_, rfl, q fd H4 n4 s4 ?_⟩
          rw [d4, show ds.take us.length = ds by rw [h3.len]; exact List.take_length, wdC_join hj]
    · cases hd with
      | @tup p xs _ h1 h2 =>
        obtain ⟨va, vb, rfl, e1, e2⟩ : ∃ va vb, xs = [.str z, va, vb] ∧ Dd H va a ∧ Dd H vb b := by
          cases h2 with
          | cons x1 h2 => cases h2 with
            | cons x2 h2 => cases h2 with
              | cons x3 h3 => cases h3; cases x1; exact ⟨_, _, rfl, x2, x3⟩
        refine ⟨_, rfl, p, _, 0, _, rfl, rfl, SqT.of h1, at0 _ _, by show 2 ≤ sizeLine; decide, fun p1 hp1 => ?_⟩
        generalize e1 : upd H p1 _ = H1
        obtain ⟨s1, d1⟩ := nw e1 hp1
        have d1 : H1 p1 = some (.lst (isAbv.map V.str)) := d1
        refine ⟨p1, _, rfl, .inl (SqL.of d1), rfl, flat_strs isAbv, _, rfl, ?_⟩
        refine itt (by show inV (V.str z) (isAbv.map V.str) = true; rw [inV_strs]; exact decide_eq_true ((isAbv_iff z).mpr hz)) ?_
        refine ⟨_, rfl, p, _, 1, _, rfl, rfl, SqT.of (s1 _ _ h1), at1 _ _ _, va, a, ks, nm, rfl, ‹Dd H va a›.same s1, ha, fun q2 H2 n2 s2 d2 => ?_⟩
        have t2 := s1.trans s2
        refine ⟨_, rfl, p, _, 0, _, rfl, rfl, SqT.of (t2 _ _ h1), at0 _ _, by show 1 ≤ sizeLine; decide, fun q3 hq3 => ?_⟩
        generalize e3 : upd H2 q3 _ = H3
        obtain ⟨s3, d3⟩ := nw e3 hq3
        have l1 := wdA_len ha
        have l2 := wdA_len hb
        refine ⟨q2, q3, _, _, rfl, rfl, s3 _ _ d2, d3, by rw [List.length_map]; exact Nat.le_of_lt (small1000 (by show (wdA a).length + 1 ≤ 1000; omega)), fun q4 hq4 => ?_⟩
        generalize e4 : upd H3 q4 _ = H4
        obtain ⟨s4, d4⟩ := nw e4 hq4
        have t4 := (t2.trans s3).trans s4
        refine ⟨_, rfl, p, _, 2, _, rfl, rfl, SqT.of (t4 _ _ h1), rfl, vb, b, ks, nm, rfl, ‹Dd H vb b›.same t4, hb, fun q5 H5 n5 s5 d5 => ?_⟩
        refine ⟨q4, q5, _, _, rfl, rfl, s5 _ _ d4, d5, by rw [List.length_append, List.length_map, List.length_map]; exact Nat.le_of_lt (small1000 (by show (wdA a).length + 1 + (wdA b).length ≤ 1000; omega)), fun q6 hq6 => ?_⟩
        generalize e6 : upd H5 q6 _ = H6
        obtain ⟨s6, d6⟩ := nw e6 hq6
        refine q q6 H6 (old (t4.trans s5) hq6) ((t4.trans s5).trans s6) ?_
        rw [d6, wdC_cmp hz, List.map_append, List.map_cons, List.append_assoc]; rfl
end
end NH
set_option maxHeartbeats 4000000
namespace NH
open PySem PySem.Spec PyProof.Rows L2 TL
theorem digit_one {w : Str} (h : w.length = 1) : digit w = if 48 ≤ w.cps.getD 0 0 ∧ w.cps.getD 0 0 ≤ 57 then some (w.cps.getD 0 0 - 48) else none := by
  obtain ⟨a⟩ := w
  obtain ⟨l⟩ := a
  have h : l.length = 1 := h
  match l, h with
  | [c], _ => rfl
theorem digit_not {w : Str} (h : w.length ≠ 1) : digit w = none := by
  obtain ⟨a⟩ := w
  obtain ⟨l⟩ := a
  have h : l.length ≠ 1 := h
  match l, h with
  | [], _ => rfl
  | [c], h => exact absurd rfl h
  | _ :: _ :: _, _ => rfl
/-- the law's frame while it reads: the sides at s, the names at m, the words at wl -/
structure Fr (ks : List Kind) (s m wl : Addr) (ys nm ws : List Str) (H : Hp) : Prop where
  sh : H s = some (.lst (ys.map .str))
  mh : H m = some (.lst (nm.map .str))
  wh : H wl = some (.lst (ws.map .str))
  wz : ws.length ≤ 200000
  ww : ∀ x ∈ ws, x.length ≤ 200000
  ys : ∀ x, x ∈ ys ↔ x ∈ sidesOf ks
  np : ∀ y ∈ nm, NmG 10 y
/-- what a reading gives -/
structure Rd (H : Hp) (Q : VK) (ws : List Str) (o : Option (D × List Str)) : Prop where
  no : o = none → ∀ H', Same H H' → Q .non H'
  go : ∀ a r, o = some (a, r) → ∀ (k : Nat) (p : Addr) (va : V) H', r = ws.drop k → k ≤ ws.length → Same H H' → H p = none → H' p = some (.lst [va, .int (k : Int)]) → Dd H' va a → Q (.ref p) H'
theorem Fr.same {ks : List Kind} {s m wl : Addr} {ys nm ws : List Str} {H H' : Hp} (f : Fr ks s m wl ys nm ws H) (k : Same H H') : Fr ks s m wl ys nm ws H' := { f with sh := k _ _ f.sh, mh := k _ _ f.mh, wh := k _ _ f.wh }
theorem Fr.at {ks : List Kind} {s m wl : Addr} {ys nm ws : List Str} {H : Hp} (f : Fr ks s m wl ys nm ws H) {k : Nat} {w : Str} (h : ws[k]? = some w) : atI (ws.map V.str) (k : Int) = some (.str w) := atI_nat (by rw [List.getElem?_map, h]; rfl)
theorem Fr.len {ks : List Kind} {s m wl : Addr} {ys nm ws : List Str} {H : Hp} (f : Fr ks s m wl ys nm ws H) : (ws.map V.str).length = ws.length := List.length_map ..
theorem eqv_str (x y : Str) : decide (V.str x = V.str y) = decide (x = y) := decide_eq_decide.mpr ⟨fun e => by injection e, fun e => by rw [e]⟩
section
variable {P : Program} {w : World} {K : PySem.W.Frag} {mg : Str → Option Value} {base : Heap}
abbrev s_law_amount_read : Stmt := top 53
theorem sc_law_amount_read : FnScope ["sides", "names", "words", "at", "word"] ["sides", "names", "words", "at"] (defScope s_law_amount_read) := ⟨rfl, rfl, rfl, by decide +kernel, rfl, by decide +kernel, by decide +kernel⟩
def spAr : Sp := fun vs H Q _ => ∃ (ks : List Kind) (s m wl : Addr) (ys nm ws : List Str) (k : Nat), vs = [.ref s, .ref m, .ref wl, .int (k : Int)] ∧ Fr ks s m wl ys nm ws H ∧ k ≤ 1000000 ∧ Rd H Q ws (rdA ks nm (ws.drop k))
theorem ok_law_amount_read (G : Bl mg) (DA : DefAt K mg "_law_amount_read" s_law_amount_read) : Callee P w K mg base 1 "_law_amount_read" ["sides", "names", "words", "at"] spAr := by
  refine callee DA sc_law_amount_read (fun vs H Q E h => by obtain ⟨_, _, _, _, _, _, _, _, rfl, _⟩ := h; rfl) (fun _ _ _ _ _ _ us hl => match us, hl with | [_, _, _, _], _ => rfl) fun f cdv A outer s H vs Q E hr h => ?_
  obtain ⟨ks, sA, m, wl, ys, nm, ws, k, rfl, f, hk, q⟩ := h
  refine ⟨_, (pss_cons (ps_set (i := 4) sc_law_amount_read.nd rfl (Or.inl rfl) (pe_ifExp (pt_cmpR op_lt (pv 3) (pe_callB call_len_seq (by rfl) G.b_len (by decide +kernel) (pa_cons (pv 2) pa_nil)) (nomark _)) (pe_ix ix_list (pv 2) (pv 3) (fun _ _ => rfl)) pe_str))
    (pss_cons (ps_if (pt_cmpR op_eq (pv 4) pe_str (nomark _)) (pss_one (ps_ret (pe_ifExp (PW.pt (pw_and (pt_cmpR op_lt (pe_op op_add (pv 3) pe_int) (pe_callB call_len_seq (by rfl) G.b_len (by decide +kernel) (pa_cons (pv 2) pa_nil)) (nomark _)) (pw_and1 (pt_cmpR op_in_seq (pe_ix ix_list (pv 2) (pe_op op_add (pv 3) pe_int) (fun _ _ => rfl)) (pv 0) rfl)))) (pe_lst (pa_cons (pe_tup (pa_cons pe_str (pa_cons (pe_ix ix_list (pv 2) (pe_op op_add (pv 3) pe_int) (fun _ _ => rfl)) pa_nil))) (pa_cons (pe_op op_add (pv 3) pe_int) pa_nil))) pe_non))) pss_nil)
    (pss_cons (ps_if (pt_cmpR op_in_seq (pv 4) (pv 1) rfl) (pss_one (ps_ret (pe_lst (pa_cons (pv 4) (pa_cons (pe_op op_add (pv 3) pe_int) pa_nil))))) pss_nil)
    (pss_one (ps_ret (pe_ifExp (PW.pt (pw_and (pt_cmpR op_eq (pe_callB call_len_str (by rfl) G.b_len (by decide +kernel) (pa_cons (pv 4) pa_nil)) pe_int (nomark _)) (pw_and1 (pt_chain op_le op_le pe_int (pe_callB call_ord (by rfl) G.b_ord (by decide +kernel) (pa_cons (pv 4) pa_nil)) pe_int)))) (pe_lst (pa_cons (pe_op op_sub (pe_callB call_ord (by rfl) G.b_ord (by decide +kernel) (pa_cons (pv 4) pa_nil)) pe_int) (pa_cons (pe_op op_add (pv 3) pe_int) pa_nil))) pe_non)))))), ?_⟩
  have lw := f.len
  refine ⟨_, rfl, _, rfl, wl, _, rfl, .inl (SqL.of f.wh), _, _, rfl, rfl, _, rfl, itd (fun h1 => ?_) fun h1 => ?_⟩
  · have h1 : k < ws.length := by omega
    obtain ⟨x, ex⟩ : ∃ x, ws[k]? = some x := ⟨_, List.getElem?_eq_getElem h1⟩
    have ed : ws.drop k = x :: ws.drop (k + 1) := by
      rw [List.drop_eq_getElem_cons h1]; congr 1
      rw [List.getElem?_eq_getElem h1] at ex; exact Option.some.inj ex
    rw [ed, rdA_cons] at q
    refine ⟨_, rfl, _, rfl, wl, _, _, _, rfl, rfl, SqL.of f.wh, f.at ex, ?_⟩
    refine ⟨_, rfl, rfl, _, rfl, ?_⟩
    rw [eqv_str]
    by_cases hd : x = "due"
    · rw [decide_eq_true hd]
      rw [if_pos hd] at q
      refine iteT ?_
      have e1 : (k : Int) + 1 = ((k + 1 : Nat) : Int) := by omega
      refine ⟨_, rfl, _, _, rfl, rfl, _, rfl, wl, _, rfl, .inl (SqL.of f.wh), _, _, rfl, rfl, _, rfl, itd (fun h2 => ?_) fun h2 => ?_⟩
      · have h2 : k + 1 < ws.length := by omega
        obtain ⟨y, ey⟩ : ∃ y, ws[k + 1]? = some y := ⟨_, List.getElem?_eq_getElem h2⟩
        have ed2 : ws.drop (k + 1) = y :: ws.drop (k + 2) := by
          rw [List.drop_eq_getElem_cons h2]; congr 1
          rw [List.getElem?_eq_getElem h2] at ey; exact Option.some.inj ey
        rw [ed2] at q
        dsimp only at q
        refine ⟨_, rfl, _, rfl, _, _, rfl, rfl, wl, _, _, _, rfl, rfl, SqL.of f.wh, by rw [e1]; exact f.at ey, _, rfl, sA, _, rfl, .inl (SqL.of f.sh), rfl, flat_strs _, _, rfl, ?_⟩
        show if inV (V.str y) (ys.map V.str) = true then _ else _
        rw [inV_strs]
        by_cases hs : y ∈ ys
        · rw [decide_eq_true hs]
          rw [if_pos ((f.ys y).mp hs)] at q
          refine iteT ⟨_, rfl, _, rfl, _, _, rfl, rfl, wl, _, _, _, rfl, rfl, SqL.of f.wh, by rw [e1]; exact f.at ey, by show 2 ≤ sizeLine; decide, fun p hp => ?_⟩
          generalize e2 : upd H p _ = H2
          obtain ⟨s2, d2⟩ := nw e2 hp
          refine ⟨_, rfl, _, _, rfl, rfl, by show 2 ≤ sizeLine; decide, fun p3 hp3 => ?_⟩
          generalize e3 : upd H2 p3 _ = H3
          obtain ⟨s3, d3⟩ := nw e3 hp3
          exact q.go _ _ rfl (k + 2) p3 _ _ rfl (by omega) (s2.trans s3) (old s2 hp3) (by rw [d3]; rfl) (.tup (s3 _ _ d2) (.cons (.str _) (.cons (.str _) .nil)))
        · rw [decide_eq_false hs]
          rw [if_neg fun z => hs ((f.ys y).mpr z)] at q
          exact iteF (q.no rfl H (Same.refl H))
      · have ed2 : ws.drop (k + 1) = [] := List.drop_eq_nil_of_le (by omega)
        rw [ed2] at q
        exact iteF (q.no rfl H (Same.refl H))
    · rw [decide_eq_false hd]
      rw [if_neg hd] at q
      refine iteF ?_
      refine ⟨_, rfl, _, rfl, m, _, rfl, .inl (SqL.of f.mh), rfl, flat_strs _, _, rfl, ?_⟩
      show if inV (V.str x) (nm.map V.str) = true then _ else _
      rw [inV_strs]
      by_cases hm : x ∈ nm
      · rw [decide_eq_true hm]
        rw [if_pos hm] at q
        refine iteT ⟨_, rfl, _, rfl, _, _, rfl, rfl, by show 2 ≤ sizeLine; decide, fun p hp => ?_⟩
        exact q.go _ _ rfl (k + 1) p _ _ rfl (by omega) (same_new hp) hp (by rw [upd_same]; rfl) (.str x)
      · rw [decide_eq_false hm]
        rw [if_neg hm] at q
        refine iteF ?_
        have lx := f.ww x (List.mem_of_getElem? ex)
        refine ⟨_, rfl, x, rfl, Nat.le_trans lx (by decide), rfl, _, rfl, itb (fun h5 => ?_) fun h5 => ?_⟩
        · have l1 : x.length = 1 := by have z := of_decide_eq_true h5; injection z with z; omega
          have hq := digit_one l1
          refine ⟨_, rfl, x, rfl, l1, _, _, rfl, rfl, _, rfl, itd (fun h6 => ⟨_, _, rfl, rfl, _, rfl, itd (fun h7 => ?_) fun h7 => ?_⟩) fun h6 => ?_⟩
          · rw [hq, if_pos (by omega)] at q
            refine ⟨_, rfl, x, rfl, l1, _, _, rfl, rfl, _, rfl, _, _, rfl, rfl, by show 2 ≤ sizeLine; decide, fun p hp => ?_⟩
            refine q.go _ _ rfl (k + 1) p _ _ rfl (by omega) (same_new hp) hp (by rw [upd_same]; rfl) ?_
            have e : ((x.cps.getD 0 0 : Nat) : Int) - 48 = ((x.cps.getD 0 0 - 48 : Nat) : Int) := by omega
            show Dd _ (V.int (((x.cps.getD 0 0 : Nat) : Int) - 48)) _
            rw [e]; exact .int _
          · rw [hq, if_neg (by omega)] at q
            exact q.no rfl H (Same.refl H)
          · rw [hq, if_neg (by omega)] at q
            exact ⟨_, rfl, iteF (q.no rfl H (Same.refl H))⟩
        · have l1 : x.length ≠ 1 := fun z => by rw [z] at h5; cases h5
          rw [digit_not l1] at q
          exact iteF (q.no rfl H (Same.refl H))
  · have ed : ws.drop k = [] := List.drop_eq_nil_of_le (by omega)
    rw [ed] at q
    have nn : (Str.ofString "") ∉ nm := fun z => by have y := (f.np _ z).one; revert y; decide +kernel
    refine ⟨_, rfl, rfl, _, rfl, iteF ?_⟩
    refine ⟨_, rfl, _, rfl, m, _, rfl, .inl (SqL.of f.mh), rfl, flat_strs _, _, rfl, ?_⟩
    show if inV (V.str (Str.ofString "")) (nm.map V.str) = true then _ else _
    rw [inV_strs, decide_eq_false nn]
    refine iteF ?_
    refine ⟨_, rfl, _, rfl, by decide, rfl, _, rfl, ?_⟩
    exact iteF (iteF (q.no rfl H (Same.refl H)))
end
end NH
set_option maxHeartbeats 4000000
namespace NH
open PySem PySem.Spec PyProof.Rows L2 TL
/-- so many conditions read, one behind the other -/
def rds (ks : List Kind) (nm : List Str) (n : Nat) : Nat → List Str → Option (List D × List Str)
  | 0, ws => some ([], ws)
  | i + 1, ws => match rds ks nm n i ws with
    | none => none
    | some (ds, r) => match rdC ks nm n r with
      | none => none
      | some (d, r1) => some (ds ++ [d], r1)
theorem rds_succ {ks : List Kind} {nm : List Str} {n i : Nat} {ws : List Str} {ds : List D} {r : List Str} (h : rds ks nm n i ws = some (ds, r)) : rds ks nm n (i + 1) ws = match rdC ks nm n r with
      | none => none
      | some (d, r1) => some (ds ++ [d], r1) := by
  show (match rds ks nm n i ws with
    | none => none
    | some (ds, r) => match rdC ks nm n r with
      | none => none
      | some (d, r1) => some (ds ++ [d], r1)) = _
  rw [h]
theorem rds_none {ks : List Kind} {nm : List Str} {n i j : Nat} {ws : List Str} (h : rds ks nm n i ws = none) (l : i ≤ j) : rds ks nm n j ws = none := by
  induction j with
  | zero => have e : i = 0 := by omega
            subst e; exact h
  | succ j ih =>
    by_cases e : i = j + 1
    · subst e; exact h
    · show (match rds ks nm n j ws with
        | none => none
        | some (ds, r) => match rdC ks nm n r with
          | none => none
          | some (d, r1) => some (ds ++ [d], r1)) = _
      rw [ih (by omega)]
theorem rdC_rds {ks : List Kind} {nm : List Str} {n : Nat} {w : Str} {r : List Str} (hj : isJ w) : rdC ks nm (n + 1) (w :: r) = match rds ks nm n (if w = "not" then 1 else 2) r with
    | none => none
    | some (ds, r') => some (D.tup (D.str w :: ds), r') := by
  rw [rdC_cons, if_pos hj]
  by_cases hn : w = "not"
  · rw [if_pos hn]
    show _ = match (match rdC ks nm n r with
      | none => none
      | some (d, r1) => some ([] ++ [d], r1)) with
      | none => none
      | some (ds, r') => some (D.tup (D.str w :: ds), r')
    cases h : rdC ks nm n r with
    | none => rfl
    | some p => obtain ⟨d, r1⟩ := p; dsimp only; rw [if_pos hn]; rfl
  · rw [if_neg hn]
    show _ = match (match (match rdC ks nm n r with
        | none => none
        | some (d, r1) => some ([] ++ [d], r1)) with
      | none => none
      | some (ds, r2) => match rdC ks nm n r2 with
        | none => none
        | some (d, r1) => some (ds ++ [d], r1)) with
      | none => none
      | some (ds, r') => some (D.tup (D.str w :: ds), r')
    cases h : rdC ks nm n r with
    | none => rfl
    | some p =>
      obtain ⟨d, r1⟩ := p
      dsimp only
      rw [if_neg hn]
      cases h2 : rdC ks nm n r1 with
      | none => rfl
      | some p => obtain ⟨d2, r2⟩ := p; rfl
theorem rds_len {ks : List Kind} {nm : List Str} {n : Nat} : ∀ {i : Nat} {ws : List Str} {ds : List D} {r : List Str}, rds ks nm n i ws = some (ds, r) → ds.length = i
  | 0, _, _, _, h => by cases h; rfl
  | i + 1, ws, ds, r, h => by
    cases h1 : rds ks nm n i ws with
    | none => rw [rds_none h1 (Nat.le_succ i)] at h; cases h
    | some p =>
      obtain ⟨ds1, r1⟩ := p
      rw [rds_succ h1] at h
      cases h2 : rdC ks nm n r1 with
      | none => rw [h2] at h; cases h
      | some p =>
        obtain ⟨d, r2⟩ := p
        rw [h2] at h
        cases h
        rw [List.length_append, rds_len h1]; rfl
theorem drop_at {ws : List Str} {k : Nat} (h : k < ws.length) : ∃ x, ws[k]? = some x ∧ ws.drop k = x :: ws.drop (k + 1) :=
  ⟨ws[k], List.getElem?_eq_getElem h, List.drop_eq_getElem_cons h⟩
theorem itc {c : Bool} {a b : V} {σ : L2.St} {H : Hp} {F : VK} (h : F (if c = true then a else b) H) : if c = true then tC a σ H F else tC b σ H F := by
  cases c
  · exact iteF h
  · exact iteT h
section
variable {P : Program} {w : World} {K : PySem.W.Frag} {mg : Str → Option Value} {base : Heap}
abbrev s_law_read : Stmt := top 54
theorem sc_law_read : FnScope ["sides", "names", "words", "at", "deep", "parts", "behind", "turn", "part", "first", "second"] ["sides", "names", "words", "at", "deep"] (defScope s_law_read) := ⟨rfl, rfl, rfl, by decide +kernel, rfl, by decide +kernel, by decide +kernel⟩
def spRe (n : Nat) : Sp := fun vs H Q _ => ∃ (ks : List Kind) (s m wl : Addr) (ys nm ws : List Str) (k : Nat), vs = [.ref s, .ref m, .ref wl, .int (k : Int), .int (n : Int)] ∧ Fr ks s m wl ys nm ws H ∧ k ≤ 1000000 ∧ Rd H Q ws (rdC ks nm n (ws.drop k))
theorem ok_law_read (G : Bl mg) (DA : DefAt K mg "_law_read" s_law_read) (cAr : Callee P w K mg base 1 "_law_amount_read" ["sides", "names", "words", "at"] spAr) :
    ∀ n : Nat, Callee P w K mg base (2 + n) "_law_read" ["sides", "names", "words", "at", "deep"] (spRe n) := by
  intro n
  induction n with
  | zero =>
    have ih : Callee P w K mg base 1 "_law_read" ["sides", "names", "words", "at", "deep"] fun _ _ _ _ => False := callee (k := 0) DA sc_law_read (fun _ _ _ _ h => h.elim) (fun _ _ _ _ _ _ us hl => match us, hl with | [_, _, _, _, _], _ => rfl) fun _ _ _ _ _ _ _ _ _ _ h => h.elim
    refine callee (k := 1) DA sc_law_read (fun vs H Q E h => by obtain ⟨_, _, _, _, _, _, _, _, rfl, _⟩ := h; rfl) (fun _ _ _ _ _ _ us hl => match us, hl with | [_, _, _, _, _], _ => rfl) fun f cdv A outer s H vs Q E hr h => ?_
    obtain ⟨ks, sA, m, wl, ys, nm, ws, k, rfl, f, hk, q⟩ := h
    refine ⟨_, (pss_cons (ps_if (PW.pt (pw_or (pt_cmpR op_eq (pv 4) pe_int (nomark _)) (pw_or1 (pt_cmpR op_ge (pv 3) (pe_callB call_len_seq (by rfl) G.b_len (by decide +kernel) (pa_cons (pv 2) pa_nil)) (nomark _))))) (pss_one (ps_ret pe_non)) pss_nil)
    (pss_cons (ps_if (pt_cmpR op_in_seq (pe_ix ix_list (pv 2) (pv 3) (fun _ _ => rfl)) (pe_lst (pa_cons pe_str (pa_cons pe_str (pa_cons pe_str pa_nil)))) rfl) (pss_cons (ps_par (i := 5) (j := 6) (by rfl) sc_law_read.nd rfl rfl (by decide) rfl rfl (pa_cons (pe_lst pa_nil) (pa_cons (pe_op op_add (pv 3) pe_int) pa_nil)) (by rfl))
    (pss_cons (ps_for PassesOwn.never rfl (pi_range1 (by rfl) G.b_range (pa_cons (pe_ifExp (pt_cmpR op_eq (pe_ix ix_list (pv 2) (pv 3) (fun _ _ => rfl)) pe_str (nomark _)) pe_int pe_int) pa_nil)) (pg_name (i := 7) sc_law_read.nd rfl (Or.inl rfl)) (pss_cons (ps_set (i := 8) sc_law_read.nd rfl (Or.inl rfl) (pe_cal ih hr (by omega) (pa_cons (pv 0) (pa_cons (pv 1) (pa_cons (pv 2) (pa_cons (pv 6) (pa_cons (pe_op op_sub (pv 4) pe_int) pa_nil)))))))
    (pss_cons (ps_if (pt_cmpR op_isN (pv 8) pe_non (nomark _)) (pss_one (ps_ret pe_non)) pss_nil)
    (pss_one (ps_par (i := 5) (j := 6) (by rfl) sc_law_read.nd rfl rfl (by decide) rfl rfl (pa_cons (pe_op op_cat (pv 5) (pe_lst (pa_cons (pe_ix ix_list (pv 8) pe_int (fun _ _ => rfl)) pa_nil))) (pa_cons (pe_ix ix_list (pv 8) pe_int (fun _ _ => rfl)) pa_nil)) (by rfl))))))
    (pss_one (ps_ret (pe_lst (pa_cons (pe_callTy call_tuple_of (by rfl) G.b_tuple (by decide +kernel) (pa_cons (pe_op op_cat (pe_lst (pa_cons (pe_ix ix_list (pv 2) (pv 3) (fun _ _ => rfl)) pa_nil)) (pv 5)) pa_nil)) (pa_cons (pv 6) pa_nil))))))) pss_nil)
    (pss_cons (ps_set (i := 9) sc_law_read.nd rfl (Or.inl rfl) (pe_cal cAr hr (by omega) (pa_cons (pv 0) (pa_cons (pv 1) (pa_cons (pv 2) (pa_cons (pv 3) pa_nil))))))
    (pss_cons (ps_if (PW.pt (pw_or (pt_cmpR op_isN (pv 9) pe_non (nomark _)) (pw_or (pt_cmpR op_ge (pe_ix ix_list (pv 9) pe_int (fun _ _ => rfl)) (pe_callB call_len_seq (by rfl) G.b_len (by decide +kernel) (pa_cons (pv 2) pa_nil)) (nomark _)) (pw_or1 (pt_cmpR op_notIn_seq (pe_ix ix_list (pv 2) (pe_ix ix_list (pv 9) pe_int (fun _ _ => rfl)) (fun _ _ => rfl)) (pe_lst (pa_cons pe_str (pa_cons pe_str pa_nil))) rfl))))) (pss_one (ps_ret pe_non)) pss_nil)
    (pss_cons (ps_set (i := 10) sc_law_read.nd rfl (Or.inl rfl) (pe_cal cAr hr (by omega) (pa_cons (pv 0) (pa_cons (pv 1) (pa_cons (pv 2) (pa_cons (pe_op op_add (pe_ix ix_list (pv 9) pe_int (fun _ _ => rfl)) pe_int) pa_nil))))))
    (pss_one (ps_ret (pe_ifExp (pt_cmpR op_isN (pv 10) pe_non (nomark _)) pe_non (pe_lst (pa_cons (pe_tup (pa_cons (pe_ix ix_list (pv 2) (pe_ix ix_list (pv 9) pe_int (fun _ _ => rfl)) (fun _ _ => rfl)) (pa_cons (pe_ix ix_list (pv 9) pe_int (fun _ _ => rfl)) (pa_cons (pe_ix ix_list (pv 10) pe_int (fun _ _ => rfl)) pa_nil)))) (pa_cons (pe_ix ix_list (pv 10) pe_int (fun _ _ => rfl)) pa_nil))))))))))), ?_⟩
    refine ⟨_, rfl, rfl, _, rfl, ?_⟩
    exact iteT (iteT (q.no rfl H (Same.refl H)))
  | succ n ih =>
    refine callee (k := 2 + n) DA sc_law_read (fun vs H Q E h => by obtain ⟨_, _, _, _, _, _, _, _, rfl, _⟩ := h; rfl) (fun _ _ _ _ _ _ us hl => match us, hl with | [_, _, _, _, _], _ => rfl) fun f cdv A outer s H vs Q E hr h => ?_
    obtain ⟨ks, sA, m, wl, ys, nm, ws, k, rfl, f, hk, q⟩ := h
    refine ⟨_, (pss_cons (ps_if (PW.pt (pw_or (pt_cmpR op_eq (pv 4) pe_int (nomark _)) (pw_or1 (pt_cmpR op_ge (pv 3) (pe_callB call_len_seq (by rfl) G.b_len (by decide +kernel) (pa_cons (pv 2) pa_nil)) (nomark _))))) (pss_one (ps_ret pe_non)) pss_nil)
    (pss_cons (ps_if (pt_cmpR op_in_seq (pe_ix ix_list (pv 2) (pv 3) (fun _ _ => rfl)) (pe_lst (pa_cons pe_str (pa_cons pe_str (pa_cons pe_str pa_nil)))) rfl) (pss_cons (ps_par (i := 5) (j := 6) (by rfl) sc_law_read.nd rfl rfl (by decide) rfl rfl (pa_cons (pe_lst pa_nil) (pa_cons (pe_op op_add (pv 3) pe_int) pa_nil)) (by rfl))
    (pss_cons (ps_for PassesOwn.never rfl (pi_range1 (by rfl) G.b_range (pa_cons (pe_ifExp (pt_cmpR op_eq (pe_ix ix_list (pv 2) (pv 3) (fun _ _ => rfl)) pe_str (nomark _)) pe_int pe_int) pa_nil)) (pg_name (i := 7) sc_law_read.nd rfl (Or.inl rfl)) (pss_cons (ps_set (i := 8) sc_law_read.nd rfl (Or.inl rfl) (pe_cal ih hr (by omega) (pa_cons (pv 0) (pa_cons (pv 1) (pa_cons (pv 2) (pa_cons (pv 6) (pa_cons (pe_op op_sub (pv 4) pe_int) pa_nil)))))))
    (pss_cons (ps_if (pt_cmpR op_isN (pv 8) pe_non (nomark _)) (pss_one (ps_ret pe_non)) pss_nil)
    (pss_one (ps_par (i := 5) (j := 6) (by rfl) sc_law_read.nd rfl rfl (by decide) rfl rfl (pa_cons (pe_op op_cat (pv 5) (pe_lst (pa_cons (pe_ix ix_list (pv 8) pe_int (fun _ _ => rfl)) pa_nil))) (pa_cons (pe_ix ix_list (pv 8) pe_int (fun _ _ => rfl)) pa_nil)) (by rfl))))))
    (pss_one (ps_ret (pe_lst (pa_cons (pe_callTy call_tuple_of (by rfl) G.b_tuple (by decide +kernel) (pa_cons (pe_op op_cat (pe_lst (pa_cons (pe_ix ix_list (pv 2) (pv 3) (fun _ _ => rfl)) pa_nil)) (pv 5)) pa_nil)) (pa_cons (pv 6) pa_nil))))))) pss_nil)
    (pss_cons (ps_set (i := 9) sc_law_read.nd rfl (Or.inl rfl) (pe_cal cAr hr (by omega) (pa_cons (pv 0) (pa_cons (pv 1) (pa_cons (pv 2) (pa_cons (pv 3) pa_nil))))))
    (pss_cons (ps_if (PW.pt (pw_or (pt_cmpR op_isN (pv 9) pe_non (nomark _)) (pw_or (pt_cmpR op_ge (pe_ix ix_list (pv 9) pe_int (fun _ _ => rfl)) (pe_callB call_len_seq (by rfl) G.b_len (by decide +kernel) (pa_cons (pv 2) pa_nil)) (nomark _)) (pw_or1 (pt_cmpR op_notIn_seq (pe_ix ix_list (pv 2) (pe_ix ix_list (pv 9) pe_int (fun _ _ => rfl)) (fun _ _ => rfl)) (pe_lst (pa_cons pe_str (pa_cons pe_str pa_nil))) rfl))))) (pss_one (ps_ret pe_non)) pss_nil)
    (pss_cons (ps_set (i := 10) sc_law_read.nd rfl (Or.inl rfl) (pe_cal cAr hr (by omega) (pa_cons (pv 0) (pa_cons (pv 1) (pa_cons (pv 2) (pa_cons (pe_op op_add (pe_ix ix_list (pv 9) pe_int (fun _ _ => rfl)) pe_int) pa_nil))))))
    (pss_one (ps_ret (pe_ifExp (pt_cmpR op_isN (pv 10) pe_non (nomark _)) pe_non (pe_lst (pa_cons (pe_tup (pa_cons (pe_ix ix_list (pv 2) (pe_ix ix_list (pv 9) pe_int (fun _ _ => rfl)) (fun _ _ => rfl)) (pa_cons (pe_ix ix_list (pv 9) pe_int (fun _ _ => rfl)) (pa_cons (pe_ix ix_list (pv 10) pe_int (fun _ _ => rfl)) pa_nil)))) (pa_cons (pe_ix ix_list (pv 10) pe_int (fun _ _ => rfl)) pa_nil))))))))))), ?_⟩
    have lw := f.len
    have ez : decide (V.int ((n + 1 : Nat) : Int) = V.int 0) = false := decide_eq_false (fun z => by injection z with z; omega)
    refine ⟨_, rfl, rfl, _, rfl, itf ez ?_⟩
    refine ⟨_, rfl, _, rfl, wl, _, rfl, .inl (SqL.of f.wh), _, _, rfl, rfl, _, rfl, itd (fun h1 => ?_) fun h1 => ?_⟩
    · have ed : ws.drop k = [] := List.drop_eq_nil_of_le (by omega)
      rw [ed] at q
      exact q.no rfl H (Same.refl H)
    obtain ⟨x, ex, ed⟩ := drop_at (ws := ws) (k := k) (by omega)
    refine ⟨_, rfl, _, rfl, wl, _, _, _, rfl, rfl, SqL.of f.wh, f.at ex, by show 3 ≤ sizeLine; decide, fun p1 hp1 => ?_⟩
    generalize e1 : upd H p1 _ = H1
    obtain ⟨s1, d1⟩ := nw e1 hp1
    have d1 : H1 p1 = some (.lst (joinW.map V.str)) := d1
    have f1 := f.same s1
    refine ⟨p1, _, rfl, .inl (SqL.of d1), rfl, flat_strs joinW, _, rfl, ?_⟩
    show if inV (V.str x) (joinW.map V.str) = true then _ else _
    rw [inV_strs]
    by_cases hj : x ∈ joinW
    · rw [decide_eq_true hj]
      have hj := (joinW_iff x).mp hj
      rw [ed, rdC_rds hj] at q
      refine iteT ?_
      refine ⟨by show 0 ≤ sizeLine; decide, fun p2 hp2 => ?_⟩
      generalize e2 : upd H1 p2 _ = H2
      obtain ⟨s2, d2⟩ := nw e2 hp2
      have s12 := s1.trans s2
      have f2 := f1.same s2
      refine ⟨_, rfl, _, _, rfl, rfl, _, _, rfl, ?_⟩
      refine ⟨_, rfl, _, rfl, wl, _, _, _, rfl, rfl, SqL.of f2.wh, f2.at ex, rfl, _, rfl, itc ?_⟩
      have em : (if decide (V.str x = V.str (Str.ofString "not")) = true then V.int 1 else V.int 2) = V.int (((if x = "not" then 1 else 2 : Nat)) : Int) := by
        rw [eqv_str]
        by_cases hn : x = "not"
        · rw [decide_eq_true hn, if_pos rfl, if_pos hn]; rfl
        · rw [decide_eq_false hn, if_neg (by decide), if_neg hn]; rfl
      rw [em]
      have m2 : (if x = "not" then 1 else 2 : Nat) ≤ 2 := by split <;> decide
      generalize (if x = "not" then 1 else 2 : Nat) = mm at q m2
      refine ⟨mm, rfl, by omega, by omega, ?_⟩
      have hk1 : k + 1 ≤ ws.length := by omega
      have en : ((n + 1 : Nat) : Int) - 1 = (n : Int) := by omega
      refine for_range (lo := 0) (n := mm) (fun i σ H' => ∃ (ds : List D) (k' : Nat) (pA : Addr) (xs : List V) (x7 x8 : Option V), σ = [some (.ref sA), some (.ref m), some (.ref wl), some (.int (k : Int)), some (.int ((n + 1 : Nat) : Int)), some (.ref pA), some (.int (k' : Int)), x7, x8, none, none] ∧ rds ks nm n i (ws.drop (k + 1)) = some (ds, ws.drop k') ∧ k' ≤ ws.length ∧ Same H H' ∧ H' pA = some (.lst xs) ∧ DdL H' xs ds)
        ⟨[], k + 1, p2, [], none, none, rfl, rfl, hk1, s12, d2, .nil⟩ ?_ ?_
      · rintro i σ H3 hi ⟨ds, k', pA, xs, x7, x8, rfl, er, hk', s3, d3, h3⟩
        have z := f.wz
        refine ⟨_, rfl, _, rfl, _, rfl, _, rfl, _, rfl, _, _, rfl, rfl, ks, sA, m, wl, ys, nm, ws, k', by show [V.ref sA, V.ref m, V.ref wl, V.int (k' : Int), V.int (((n + 1 : Nat) : Int) - 1)] = _; rw [en], f.same s3, by omega, ?_⟩
        have eS := rds_succ er
        refine ⟨fun e H4 s4 => ?_, fun a r e k2 p va H4 er2 hk2 s4 np d4 hd => ?_⟩
        · rw [e] at eS
          have eM := rds_none eS (show i + 1 ≤ mm by omega)
          rw [eM] at q
          exact ⟨_, rfl, rfl, _, rfl, iteT (q.no rfl H4 (s3.trans s4))⟩
        · rw [e] at eS
          refine ⟨_, rfl, rfl, _, rfl, iteF ?_⟩
          refine ⟨_, rfl, _, rfl, p, _, 0, _, rfl, rfl, SqL.of d4, at0 _ _, by show 1 ≤ sizeLine; decide, fun p5 hp5 => ?_⟩
          generalize e5 : upd H4 p5 _ = H5
          obtain ⟨s5, d5⟩ := nw e5 hp5
          have lx : xs.length ≤ 2 := by rw [h3.len, rds_len er]; omega
          refine ⟨pA, p5, xs, _, rfl, rfl, s5 _ _ (s4 _ _ d3), d5, Nat.le_of_lt (small1000 (by show xs.length + 1 ≤ 1000; omega)), fun p6 hp6 => ?_⟩
          generalize e6 : upd H5 p6 _ = H6
          obtain ⟨s6, d6⟩ := nw e6 hp6
          have s56 := s5.trans s6
          refine ⟨_, rfl, p, _, 1, _, rfl, rfl, SqL.of (s56 _ _ d4), at1 _ _ _, _, _, rfl, ?_⟩
          exact ⟨ds ++ [a], k2, p6, xs ++ [va], _, _, rfl, by rw [eS, er2], hk2, (s3.trans s4).trans s56, d6, ((h3.same s4).same s56).app (.cons (hd.same s56) .nil)⟩
      · rintro σ H3 ⟨ds, k', pA, xs, x7, x8, rfl, er, hk', s3, d3, h3⟩
        rw [er] at q
        have f3 := f.same s3
        refine ⟨_, rfl, _, rfl, wl, _, _, _, rfl, rfl, SqL.of f3.wh, f3.at ex, by show 1 ≤ sizeLine; decide, fun p4 hp4 => ?_⟩
        generalize e4 : upd H3 p4 _ = H4
        obtain ⟨s4, d4⟩ := nw e4 hp4
        have lx : xs.length ≤ 2 := by rw [h3.len, rds_len er]; omega
        refine ⟨_, rfl, p4, pA, _, xs, rfl, rfl, d4, s4 _ _ d3, Nat.le_of_lt (small1000 (by show 1 + xs.length ≤ 1000; omega)), fun p5 hp5 => ?_⟩
        generalize e5 : upd H4 p5 _ = H5
        obtain ⟨s5, d5⟩ := nw e5 hp5
        refine ⟨p5, _, rfl, .inl ⟨SqL.of d5, fun p6 hp6 => ?_⟩⟩
        generalize e6 : upd H5 p6 _ = H6
        obtain ⟨s6, d6⟩ := nw e6 hp6
        refine ⟨_, rfl, by show 2 ≤ sizeLine; decide, fun p7 hp7 => ?_⟩
        generalize e7 : upd H6 p7 _ = H7
        obtain ⟨s7, d7⟩ := nw e7 hp7
        have t37 := ((s4.trans s5).trans s6).trans s7
        exact q.go _ _ rfl k' p7 _ H7 rfl hk' (s3.trans t37) (old (s3.trans ((s4.trans s5).trans s6)) hp7) d7 (.tup (s7 _ _ d6) (.cons (.str _) (h3.same t37)))
    · rw [decide_eq_false hj]
      have hj : ¬ isJ x := fun z => hj ((joinW_iff x).mpr z)
      rw [ed, rdC_cons, if_neg hj, ← ed] at q
      refine iteF ?_
      refine ⟨_, rfl, _, rfl, _, rfl, _, rfl, ks, sA, m, wl, ys, nm, ws, k, rfl, f1, hk, ?_⟩
      refine ⟨fun e H3 s3 => ?_, fun a r e k1 p va H3 er hk1 s3 np d3 hd => ?_⟩
      · have eX : rdX ks nm (ws.drop k) = none := by unfold rdX; rw [e]
        rw [eX] at q
        exact ⟨_, rfl, rfl, _, rfl, iteT (iteT (q.no rfl H3 (s1.trans s3)))⟩
      · have f3 := f1.same s3
        have t3 := s1.trans s3
        refine ⟨_, rfl, rfl, _, rfl, iteF ?_⟩
        refine ⟨_, rfl, p, _, 1, _, rfl, rfl, SqL.of d3, at1 _ _ _, _, rfl, wl, _, rfl, .inl (SqL.of f3.wh), _, _, rfl, rfl, _, rfl, itd (fun h4 => ?_) fun h4 => ?_⟩
        · have e0 : ws.drop k1 = [] := List.drop_eq_nil_of_le (by omega)
          have eX : rdX ks nm (ws.drop k) = none := by unfold rdX; rw [e, er, e0]
          rw [eX] at q
          exact iteT (q.no rfl H3 t3)
        obtain ⟨z, ez, edz⟩ := drop_at (ws := ws) (k := k1) (by omega)
        have eX : rdX ks nm (ws.drop k) = if z = "is" ∨ z = "above" then (match rdA ks nm (ws.drop (k1 + 1)) with
          | some (b, r3) => some (D.tup [.str z, a, b], r3)
          | none => none) else none := by unfold rdX; rw [e, er, edz] <;> rfl
        rw [eX] at q
        refine ⟨_, rfl, _, rfl, p, _, 1, _, rfl, rfl, SqL.of d3, at1 _ _ _, wl, _, _, _, rfl, rfl, SqL.of f3.wh, f3.at ez, by show 2 ≤ sizeLine; decide, fun p4 hp4 => ?_⟩
        generalize e4 : upd H3 p4 _ = H4
        obtain ⟨s4, d4⟩ := nw e4 hp4
        have d4 : H4 p4 = some (.lst (isAbv.map V.str)) := d4
        refine ⟨p4, _, rfl, .inl (SqL.of d4), rfl, flat_strs isAbv, _, rfl, ?_⟩
        show if (!inV (V.str z) (isAbv.map V.str)) = true then _ else _
        rw [inV_strs]
        by_cases hz : z ∈ isAbv
        · rw [decide_eq_true hz]
          rw [if_pos ((isAbv_iff z).mp hz)] at q
          refine iteF ?_
          have f4 := f3.same s4
          have t4 := t3.trans s4
          have e1 : (k1 : Int) + 1 = ((k1 + 1 : Nat) : Int) := by omega
          refine ⟨_, rfl, _, rfl, _, rfl, _, rfl, p, _, 1, _, rfl, rfl, SqL.of (s4 _ _ d3), at1 _ _ _, _, _, rfl, rfl, ks, sA, m, wl, ys, nm, ws, k1 + 1, by show [V.ref sA, V.ref m, V.ref wl, V.int ((k1 : Int) + 1)] = _; rw [e1], f4, by have := f.wz; omega, ?_⟩
          refine ⟨fun e5 H5 s5 => ?_, fun b r5 e5 k5 p5 vb H5 er5 hk5 s5 np5 d5 hd5 => ?_⟩
          · rw [e5] at q
            exact ⟨_, rfl, rfl, _, rfl, iteT (q.no rfl H5 (t4.trans s5))⟩
          · rw [e5] at q
            have f5 := f4.same s5
            have d35 := s5 _ _ (s4 _ _ d3)
            refine ⟨_, rfl, rfl, _, rfl, iteF ?_⟩
            refine ⟨_, rfl, _, rfl, p, _, 1, _, rfl, rfl, SqL.of d35, at1 _ _ _, wl, _, _, _, rfl, rfl, SqL.of f5.wh, f5.at ez, ?_⟩
            refine ⟨_, rfl, p, _, 0, _, rfl, rfl, SqL.of d35, at0 _ _, _, rfl, p5, _, 0, _, rfl, rfl, SqL.of d5, at0 _ _, by show 3 ≤ sizeLine; decide, fun p6 hp6 => ?_⟩
            generalize e6 : upd H5 p6 _ = H6
            obtain ⟨s6, d6⟩ := nw e6 hp6
            refine ⟨_, rfl, p5, _, 1, _, rfl, rfl, SqL.of (s6 _ _ d5), at1 _ _ _, by show 2 ≤ sizeLine; decide, fun p7 hp7 => ?_⟩
            generalize e7 : upd H6 p7 _ = H7
            obtain ⟨s7, d7⟩ := nw e7 hp7
            have s67 := s6.trans s7
            exact q.go _ _ rfl k5 p7 _ H7 er5 hk5 ((t4.trans s5).trans s67) (old ((t4.trans s5).trans s6) hp7) d7 (.tup (s7 _ _ d6) (.cons (.str _) (.cons (((hd.same s4).same s5).same s67) (.cons (hd5.same s67) .nil))))
        · rw [decide_eq_false hz]
          rw [if_neg fun y => hz ((isAbv_iff z).mpr y)] at q
          exact iteT (q.no rfl H4 (t3.trans s4))
end
end NH
set_option maxHeartbeats 4000000
namespace NH
open PySem PySem.Spec PyProof.Rows L2 TL
theorem joinL_len : ∀ l : List (List Nat), l.length ≤ (joinL [32] l).length + 1 ∧ ∀ y ∈ l, y.length ≤ (joinL [32] l).length
  | [] => ⟨Nat.zero_le _, fun y hy => by cases hy⟩
  | [x] => ⟨Nat.le_add_left _ _, fun y hy => by rw [List.mem_singleton.mp hy]; exact Nat.le_refl _⟩
  | x :: z :: r => by
    have ih := joinL_len (z :: r)
    have e : joinL [32] (x :: z :: r) = x ++ ([32] ++ joinL [32] (z :: r)) := rfl
    rw [e, List.length_append, List.length_append]
    have l1 : ([32] : List Nat).length = 1 := rfl
    rw [l1]
    refine ⟨by rw [List.length_cons]; omega, fun y hy => ?_⟩
    rcases List.mem_cons.mp hy with rfl | hy
    · omega
    · have := ih.2 y hy; omega
theorem split_len (x : Str) : (Txt.split x spc).length ≤ x.length + 1 ∧ ∀ y ∈ Txt.split x spc, y.length ≤ x.length := by
  have e := congrArg tl (StrLaws.join_split x spc)
  rw [tl_join] at e
  have z := joinL_len ((Txt.split x spc).map tl)
  have e2 : joinL [32] ((Txt.split x spc).map tl) = tl x := e
  rw [e2, List.length_map] at z
  exact ⟨z.1, fun y hy => z.2 (tl y) (List.mem_map.mpr ⟨y, hy, rfl⟩)⟩
def D.due (ks : List Kind) (nm : List Str) : D → Option D
  | .str x => lawDue ks nm x
  | _ => none
theorem due_eq {ks : List Kind} {nm : List Str} (N : NmOk nm) (S : ∀ s ∈ sidesOf ks, 32 ∉ tl s) (d : D) : d.due ks nm = d.reads ks nm := by
  cases d with
  | str x => exact read_eq N S x
  | _ => rfl
structure FrS (ks : List Kind) (s m : Addr) (ys nm : List Str) (H : Hp) : Prop where
  sh : H s = some (.lst (ys.map .str))
  mh : H m = some (.lst (nm.map .str))
  ys : ∀ x, x ∈ ys ↔ x ∈ sidesOf ks
  np : ∀ y ∈ nm, NmG 10 y
theorem FrS.same {ks : List Kind} {s m : Addr} {ys nm : List Str} {H H' : Hp} (f : FrS ks s m ys nm H) (k : Same H H') : FrS ks s m ys nm H' := { f with sh := k _ _ f.sh, mh := k _ _ f.mh }
section
variable {P : Program} {w : World} {K : PySem.W.Frag} {mg : Str → Option Value} {base : Heap}
abbrev s_law_due : Stmt := top 55
theorem sc_law_due : FnScope ["sides", "names", "value", "words", "told"] ["sides", "names", "value"] (defScope s_law_due) := ⟨rfl, rfl, rfl, by decide +kernel, rfl, by decide +kernel, by decide +kernel⟩
structure Du (H : Hp) (Q : VK) (o : Option D) : Prop where
  no : o = none → ∀ H', Same H H' → Q .non H'
  go : ∀ a, o = some a → ∀ va H', Same H H' → Dd H' va a → Q va H'
def spDu : Sp := fun vs H Q _ => ∃ (ks : List Kind) (s m : Addr) (ys nm : List Str) (v : V) (d : D), vs = [.ref s, .ref m, v] ∧ FrS ks s m ys nm H ∧ Dd H v d ∧ d.small ∧ Du H Q (d.due ks nm)
theorem ok_law_due (G : Bl mg) (DA : DefAt K mg "_law_due" s_law_due) (cRe : ∀ n : Nat, Callee P w K mg base (2 + n) "_law_read" ["sides", "names", "words", "at", "deep"] (spRe n)) : Callee P w K mg base 7 "_law_due" ["sides", "names", "value"] spDu := by
  refine callee DA sc_law_due (fun vs H Q E h => by obtain ⟨_, _, _, _, _, _, _, rfl, _⟩ := h; rfl) (fun _ _ _ _ _ _ us hl => match us, hl with | [_, _, _], _ => rfl) fun f cdv A outer s H vs Q E hr h => ?_
  obtain ⟨ks, sA, m, ys, nm, v, d, rfl, f, hd, sm, q⟩ := h
  refine ⟨_, (pss_cons (ps_if (pt_not (pt_val (pe_callB call_isi (by rfl) G.b_isinstance (by decide +kernel) (pa_cons (pv 2) (pa_cons (pe_bltn (v := .ty "str") (u := .type "str") (by rfl) G.b_str (by decide +kernel) rfl) pa_nil))))) (pss_one (ps_ret pe_non)) pss_nil)
    (pss_cons (ps_set (i := 3) sc_law_due.nd rfl (Or.inl rfl) (pe_split (pv 2) pe_str))
    (pss_cons (ps_set (i := 4) sc_law_due.nd rfl (Or.inl rfl) (pe_cal (cRe 4) hr (by decide) (pa_cons (pv 0) (pa_cons (pv 1) (pa_cons (pv 3) (pa_cons pe_int (pa_cons pe_int pa_nil)))))))
    (pss_one (ps_ret (pe_ifExp (PW.pt (pw_and (pt_cmpR op_notN (pv 4) pe_non (nomark _)) (pw_and1 (pt_cmpR op_eq (pe_ix ix_list (pv 4) pe_int (fun _ _ => rfl)) (pe_callB call_len_seq (by rfl) G.b_len (by decide +kernel) (pa_cons (pv 3) pa_nil)) (nomark _))))) (pe_ix ix_list (pv 4) pe_int (fun _ _ => rfl)) pe_non)))))), ?_⟩
  refine ⟨v, rfl, _, _, _, _, _, rfl, .ty "str", hd.tyx, kit_str d, _, rfl, itb (fun e1 => ?_) fun e1 => ?_⟩
  · have e2 : d.due ks nm = none := by cases d <;> first | rfl | (exfalso; revert e1; simp [D.isa, isaT, D.ty]; done)
    exact q.no e2 H (Same.refl H)
  cases hd with
  | str x =>
    have q : Du H Q (lawDue ks nm x) := q
    have sx : x.length ≤ 100000 := sm
    refine ⟨_, rfl, ⟨_, rfl⟩, x, spc, rfl, rfl, by decide +kernel, Nat.le_of_lt (Nat.lt_of_le_of_lt (Nat.add_le_add_right sx 2) (by decide)), fun p hp => ?_⟩
    generalize e3 : upd H p _ = H1
    obtain ⟨s1, d1⟩ := nw e3 hp
    have sl := split_len x
    unfold lawDue at q
    generalize Txt.split x spc = ws at d1 q sl
    have fr : Fr ks sA m p ys nm ws H1 := ⟨s1 _ _ f.sh, s1 _ _ f.mh, d1, by omega, fun y hy => by have := sl.2 y hy; omega, f.ys, f.np⟩
    refine ⟨_, rfl, _, rfl, _, rfl, ks, sA, m, p, ys, nm, ws, 0, rfl, fr, by decide, ?_⟩
    rw [List.drop_zero]
    refine ⟨fun e H2 s2 => ?_, fun a r e k p2 va H2 er hk s2 np d2 hd2 => ?_⟩
    · rw [e] at q
      exact ⟨_, rfl, rfl, _, rfl, iteF (iteF (q.no rfl H2 (s1.trans s2)))⟩
    · have dw := s2 _ _ d1
      rw [e] at q
      refine ⟨_, rfl, rfl, _, rfl, iteT ?_⟩
      refine ⟨_, rfl, p2, _, 1, _, rfl, rfl, SqL.of d2, at1 _ _ _, _, rfl, p, _, rfl, .inl (SqL.of dw), rfl, _, rfl, ?_⟩
      have lw : (ws.map V.str).length = ws.length := List.length_map ..
      by_cases hl : k = ws.length
      · have e0 : r = [] := by rw [er]; exact List.drop_eq_nil_of_le (by omega)
        subst e0
        refine itt (decide_eq_true (by rw [lw, hl])) ⟨_, rfl, p2, _, 0, _, rfl, rfl, SqL.of d2, at0 _ _, ?_⟩
        exact q.go a rfl va H2 (s1.trans s2) hd2
      · refine itf (decide_eq_false (fun z => by injection z with z; omega)) ?_
        obtain ⟨y, _, ey⟩ := drop_at (ws := ws) (k := k) (by omega)
        rw [er, ey] at q
        exact q.no rfl H2 (s1.trans s2)
  | _ => exfalso; revert e1; simp [D.isa, isaT, D.ty]
end
end NH
set_option maxHeartbeats 4000000
namespace NH
open PySem PySem.Spec PyProof.Rows L2 TL
/-- sides and names as the law has them -/
structure SP (ks : List Kind) (nm : List Str) : Prop where
  np : ∀ y ∈ nm, NmG 10 y
  sp : ∀ s ∈ sidesOf ks, Pl 10 s ∧ 32 ∉ tl s
theorem SP.short {ks : List Kind} {nm : List Str} (S : SP ks nm) : Short ks nm := ⟨fun y hy => (S.np y hy).len, fun s hs => (S.sp s hs).1.len⟩
theorem SP.ok {ks : List Kind} {nm : List Str} (S : SP ks nm) : NmOk nm := nmOk_of S.np
theorem SP.due {ks : List Kind} {nm : List Str} (S : SP ks nm) (d : D) : d.due ks nm = d.reads ks nm := due_eq S.ok (fun s hs => (S.sp s hs).2) d
theorem wdA_pl {ks : List Kind} {nm : List Str} (S : SP ks nm) {a : D} (h : amtOk ks nm a = true) : ∀ w ∈ wdA a, Pl 10 w := by
  rcases amt_cases h with ⟨x, rfl, hs⟩ | ⟨x, rfl, hx⟩ | ⟨k, hk, rfl⟩
  · intro w hw
    have hw : w ∈ [Str.ofString "due", x] := hw
    rcases List.mem_cons.mp hw with rfl | hw
    · exact (pl_of "due" (by decide +kernel)).mono (by decide)
    · rw [List.mem_singleton.mp hw]; exact (S.sp x hs).1
  · intro w hw
    have hw : w ∈ [x] := hw
    rw [List.mem_singleton.mp hw]; exact (S.np x hx).pl
  · intro w hw
    have hw : w ∈ [digS (k : Int).toNat] := hw
    rw [List.mem_singleton.mp hw, Int.toNat_natCast]
    refine ⟨fun c hc => ?_, by show 1 ≤ 10; decide⟩
    have hc : c ∈ [48 + k] := hc
    have := List.mem_singleton.mp hc
    omega
theorem key_pl {z : Str} (h : isJ z ∨ z = "is" ∨ z = "above") : Pl 10 z := by
  rcases h with (h | h | h) | h | h <;> rw [h] <;> exact ⟨by decide +kernel, by decide +kernel⟩
theorem CondC.pl {ks : List Kind} {nm : List Str} (S : SP ks nm) {n : Nat} {d : D} (c : CondC ks nm n d) : ∀ w ∈ wdC n d, Pl 10 w := by
  induction c with
  | @cmp n z a b hz ha hb =>
    rw [wdC_cmp hz]
    intro w hw
    rcases List.mem_append.mp hw with hw | hw
    · exact wdA_pl S ha w hw
    · rcases List.mem_cons.mp hw with rfl | hw
      · exact key_pl (.inr hz)
      · exact wdA_pl S hb w hw
  | @neg n a ca ih =>
    rw [wdC_join (.inr (.inr rfl))]
    intro w hw
    rcases List.mem_cons.mp hw with rfl | hw
    · exact key_pl (.inl (.inr (.inr rfl)))
    · exact ih w (by simpa using hw)
  | @two n z a b hz hn ca cb i1 i2 =>
    rw [wdC_join hz]
    intro w hw
    rcases List.mem_cons.mp hw with rfl | hw
    · exact key_pl (.inl hz)
    · have hw : w ∈ wdC n a ++ wdC n b := by simpa using hw
      exact (List.mem_append.mp hw).elim (i1 w) (i2 w)
theorem sum_pl {k : Nat} : ∀ {l : List Str}, (∀ w ∈ l, Pl k w) → (l.map (·.length)).sum ≤ l.length * k
  | [], _ => Nat.zero_le _
  | x :: l, h => by
    have z1 := sum_pl (l := l) fun w hw => h w (List.mem_cons_of_mem _ hw)
    have z2 := (h x (List.mem_cons_self ..)).len
    rw [List.map_cons, List.sum_cons, List.length_cons, Nat.succ_mul]
    omega
/-- a row of words -/
structure Row (ws : List Str) : Prop where
  ne : ws ≠ []
  len : ws.length ≤ 800
  pl : ∀ w ∈ ws, Pl 20 w
theorem Row.join {ws : List Str} (r : Row ws) : (ws.map (·.length)).sum + ws.length * (Str.ofString " ").length ≤ 16777216 := by
  have z := sum_pl r.pl
  have e : (Str.ofString " ").length = 1 := rfl
  have := r.len
  rw [e]; omega
theorem CondC.row {ks : List Kind} {nm : List Str} (S : SP ks nm) {n : Nat} {d : D} (c : CondC ks nm n d) (h : n ≤ 6) : Row (wdC n d) := by
  refine ⟨c.wd_ne, ?_, fun w hw => (c.pl S w hw).mono (by decide)⟩
  have z := c.wlen
  have pw : 6 * 2 ^ n ≤ 6 * 2 ^ 6 := Nat.mul_le_mul_left _ (Nat.pow_le_pow_right (by decide) h)
  omega
section
variable {P : Program} {w : World} {K : PySem.W.Frag} {mg : Str → Option Value} {base : Heap}
abbrev s_law_written_right : Stmt := top 58
theorem sc_law_written_right : FnScope ["condition", "by_name", "told"] ["condition", "by_name"] (defScope s_law_written_right) := ⟨rfl, rfl, rfl, by decide +kernel, rfl, by decide +kernel, by decide +kernel⟩
def spWr : Sp := fun vs H Q _ => ∃ (v : V) (d : D) (ks : List Kind) (nm : List Str) (bn : Bool), vs = [v, .bl bn] ∧ Dd H v d ∧ CondC ks nm 4 d ∧ SP ks nm ∧ ∀ H', Same H H' → Q (.bl true) H'
theorem ok_law_written_right (G : Bl mg) (DA : DefAt K mg "_law_written_right" s_law_written_right) (cWo : ∀ n : Nat, Callee P w K mg base (2 + n) "_law_words" ["condition"] (spWo n))
    (cCt : Callee P w K mg base 6 "condition_text" ["condition"] (spCt 4)) (kCt : CalleeK P w K mg base 6 "condition_text" ["condition"] (spCt 4)) : Callee P w K mg base 7 "_law_written_right" ["condition", "by_name"] spWr := by
  refine callee DA sc_law_written_right (fun vs H Q E h => by obtain ⟨_, _, _, _, _, rfl, _⟩ := h; rfl) (fun _ _ _ _ _ _ us hl => match us, hl with | [_, _], _ => rfl) fun f cdv A outer s H vs Q E hr h => ?_
  obtain ⟨v, d, ks, nm, bn, rfl, hd, c, S, q⟩ := h
  refine ⟨_, (pss_cons (ps_set (i := 2) sc_law_written_right.nd rfl (Or.inl rfl) (pe_ifExp (pt_val (pv 1)) (pe_calK kCt hr (by decide) (pk_cons (pv 0) pk_nil)) (pe_cal cCt hr (by decide) (pa_cons (pv 0) pa_nil))))
    (pss_one (ps_ret (pe_and (pe_callB call_isi (by rfl) G.b_isinstance (by decide +kernel) (pa_cons (pv 2) (pa_cons (pe_bltn (v := .ty "str") (u := .type "str") (by rfl) G.b_str (by decide +kernel) rfl) pa_nil))) (pe_and (pe_cmpR op_eq (pv 2) (pe_join pe_str (pe_cal (cWo 4) hr (by decide) (pa_cons (pv 0) pa_nil))) (nomark _)) (pe_one (pe_cmpR op_eq (pe_cal cCt hr (by decide) (pa_cons (pv 0) pa_nil)) (pv 2) (nomark _)))))))), ?_⟩
  cases bn with
  | true =>
    refine ⟨_, rfl, _, rfl, iteT ⟨_, rfl, v, d, ks, nm, rfl, hd, c, by decide, S.short, fun H1 s1 => ?_⟩⟩
    refine ⟨_, rfl, _, _, _, _, _, rfl, .ty "str", .base (.str _), kit_ty (by decide +kernel : kitB "str" "str" = some true), _, rfl, iteT ?_⟩
    refine ⟨_, rfl, ⟨_, rfl⟩, _, rfl, v, d, ks, nm, rfl, hd.same s1, c, by decide, fun p H2 np s2 d2 => ?_⟩
    refine ⟨_, p, wdC 4 d, rfl, rfl, .inl (SqL.of d2), (c.row S (by decide)).join, rfl, _, rfl, ?_⟩
    have e1 : decide (V.str (txC 4 d) = V.str (Txt.join (Str.ofString " ") (wdC 4 d))) = true := decide_eq_true (congrArg V.str c.text)
    refine itt e1 ?_
    refine ⟨_, rfl, v, d, ks, nm, rfl, (hd.same s1).same s2, c, by decide, S.short, fun H3 s3 => ⟨_, rfl, rfl, ?_⟩⟩
    rw [decide_eq_true rfl]
    exact q H3 ((s1.trans s2).trans s3)
  | false =>
    refine ⟨_, rfl, _, rfl, iteF ⟨_, rfl, v, d, ks, nm, rfl, hd, c, by decide, S.short, fun H1 s1 => ?_⟩⟩
    refine ⟨_, rfl, _, _, _, _, _, rfl, .ty "str", .base (.str _), kit_ty (by decide +kernel : kitB "str" "str" = some true), _, rfl, iteT ?_⟩
    refine ⟨_, rfl, ⟨_, rfl⟩, _, rfl, v, d, ks, nm, rfl, hd.same s1, c, by decide, fun p H2 np s2 d2 => ?_⟩
    refine ⟨_, p, wdC 4 d, rfl, rfl, .inl (SqL.of d2), (c.row S (by decide)).join, rfl, _, rfl, ?_⟩
    have e1 : decide (V.str (txC 4 d) = V.str (Txt.join (Str.ofString " ") (wdC 4 d))) = true := decide_eq_true (congrArg V.str c.text)
    refine itt e1 ?_
    refine ⟨_, rfl, v, d, ks, nm, rfl, (hd.same s1).same s2, c, by decide, S.short, fun H3 s3 => ⟨_, rfl, rfl, ?_⟩⟩
    rw [decide_eq_true rfl]
    exact q H3 ((s1.trans s2).trans s3)
end
end NH
set_option maxHeartbeats 4000000
namespace NH
open PySem PySem.Spec PyProof.Rows L2 TL
/-- what more the law asks of the error's class -/
structure ErrX (K : PySem.W.Frag) (mg : Str → Option Value) (CE CN : Addr) : Prop where
  xf : XfC K CE
  ex : ExcC K CE
  gN : mg "NearError" = some (.ref CN)
  kit : PySem.W.kitOne K (.ref CE) (.ref CN) = some true
  exm : PySem.W.exmOne K (.ref CE) (.ref CE) = some true
theorem eqv_strs (l : List Str) : PyData.eqv (.list (l.map PyData.str)) (.list (l.map PyData.str)) = true := by
  show PyData.eqvAll (l.map PyData.str) (l.map PyData.str) = true
  induction l with
  | nil => rfl
  | cons x l ih => show ((x == x) && PyData.eqvAll (l.map PyData.str) (l.map PyData.str)) = true; rw [ih]; simp
theorem amt_sm {ks : List Kind} {nm : List Str} (S : SP ks nm) {a : D} (h : amtOk ks nm a = true) : a.fit ∧ a.sz ≤ 16 ∧ a.dep ≤ 1 := by
  rcases amt_cases h with ⟨x, rfl, hs⟩ | ⟨x, rfl, hx⟩ | ⟨k, hk, rfl⟩
  · have z := (S.sp x hs).1
    refine ⟨⟨by show ∀ c ∈ (Str.ofString "due").cps.toList, c < 128; decide +kernel, z.1, trivial⟩, ?_, by show max 0 (max 0 0) + 1 ≤ 1; decide⟩
    have l := z.len
    have l3 : (Str.ofString "due").length = 3 := rfl
    show 1 + ((1 + (Str.ofString "due").length) + ((1 + x.length) + 0)) ≤ 16
    omega
  · have z := (S.np x hx).pl
    have l := z.len
    exact ⟨z.1, by show 1 + x.length ≤ 16; omega, Nat.zero_le _⟩
  · exact ⟨by show (k : Int).natAbs ≤ 1000; omega, by show 1 ≤ 16; decide, Nat.zero_le _⟩
theorem key_fit {z : Str} (h : isJ z ∨ z = "is" ∨ z = "above") : (D.str z).fit := (key_pl h).1
theorem key_len {z : Str} (h : isJ z ∨ z = "is" ∨ z = "above") : z.length ≤ 6 := by
  rcases h with (h | h | h) | h | h <;> rw [h] <;> decide
theorem CondC.sm {ks : List Kind} {nm : List Str} (S : SP ks nm) {n : Nat} {d : D} (c : CondC ks nm n d) : d.fit ∧ d.sz + 8 ≤ 60 * 2 ^ n ∧ d.dep ≤ n + 1 := by
  induction c with
  | @cmp n z a b hz ha hb =>
    obtain ⟨a1, a2, a3⟩ := amt_sm S ha
    obtain ⟨b1, b2, b3⟩ := amt_sm S hb
    have l := key_len (z := z) (.inr hz)
    have p1 : 1 ≤ 2 ^ n := Nat.one_le_two_pow
    refine ⟨⟨key_fit (.inr hz), a1, b1, trivial⟩, ?_, ?_⟩
    · show 1 + ((1 + z.length) + (a.sz + (b.sz + 0))) + 8 ≤ 60 * 2 ^ (n + 1)
      rw [Nat.pow_succ]; omega
    · show max 0 (max a.dep (max b.dep 0)) + 1 ≤ n + 1 + 1
      omega
  | @neg n a ca ih =>
    obtain ⟨a1, a2, a3⟩ := ih
    have l := key_len (z := "not") (.inl (.inr (.inr rfl)))
    have p1 : 1 ≤ 2 ^ n := Nat.one_le_two_pow
    refine ⟨⟨key_fit (.inl (.inr (.inr rfl))), a1, trivial⟩, ?_, ?_⟩
    · show 1 + ((1 + (Str.ofString "not").length) + (a.sz + 0)) + 8 ≤ 60 * 2 ^ (n + 1)
      rw [Nat.pow_succ]; omega
    · show max 0 (max a.dep 0) + 1 ≤ n + 1 + 1
      omega
  | @two n z a b hz hn ca cb i1 i2 =>
    obtain ⟨a1, a2, a3⟩ := i1
    obtain ⟨b1, b2, b3⟩ := i2
    have l := key_len (z := z) (.inl hz)
    refine ⟨⟨key_fit (.inl hz), a1, b1, trivial⟩, ?_, ?_⟩
    · show 1 + ((1 + z.length) + (a.sz + (b.sz + 0))) + 8 ≤ 60 * 2 ^ (n + 1)
      rw [Nat.pow_succ]; omega
    · show max 0 (max a.dep (max b.dep 0)) + 1 ≤ n + 1 + 1
      omega
theorem reads_some {ks : List Kind} {nm : List Str} {d r : D} (h : d.reads ks nm = some r) : ∃ x, d = .str x ∧ CondC ks nm 4 r ∧ condOk ks nm 4 r = true ∧ txC 4 r = x := by
  cases d with
  | str x =>
    have h : progRead ks nm x = some r := h
    unfold progRead at h
    split at h
    · rename_i c
      cases h
      exact ⟨x, rfl, CondC.of c.1, c.1, c.2⟩
    · cases h
  | _ => cases h
theorem CondC.ref {ks : List Kind} {nm : List Str} {n : Nat} {r : D} {H : Hp} {v : V} (c : CondC ks nm n r) (h : Dd H v r) : ∃ a, v = .ref a := by
  cases c <;> (cases h; exact ⟨_, rfl⟩)
theorem PSs.pre {X : Cx} {body : List Stmt} {t t' : TS} (p : PSs X body t) (i : ∀ D σ H, t' D σ H → t D σ H) : PSs X body t' := ⟨fun pins s σ H D I h => p.run pins s σ H D I (i D σ H h)⟩
section
variable {P : Program} {w : World} {K : PySem.W.Frag} {mg : Str → Option Value} {base : Heap} {C fI fH CE fE CN : Addr}
abbrev s_law_read_right : Stmt := top 57
theorem sc_law_read_right : FnScope ["ports", "sides", "names", "value", "by_name", "due", "given", "told", "e"] ["ports", "sides", "names", "value", "by_name"] (defScope s_law_read_right) := ⟨rfl, rfl, rfl, by decide +kernel, rfl, by decide +kernel, by decide +kernel⟩
/-- any datum but a list -/
structure RrA (H : Hp) (Q : VK) (v : V) (d : D) : Prop where
  hd : Dd H v d
  sm : d.small
  fit : d.fit
  sz : d.sz ≤ 1000000
  dep : d.dep ≤ 31
  nl : d.isa "list" = false
  q : ∀ H', Same H H' → Q (.bl true) H'
/-- a list of texts, to which one more is put -/
structure RrB (H : Hp) (Q : VK) (v : V) (a : Addr) (ts : List Str) : Prop where
  ev : v = .ref a
  at_ : H a = some (.lst (ts.map V.str))
  pl : ∀ t ∈ ts, Pl 20 t
  len : ts.length ≤ 300
  q : ∀ H', Kp [a] H H' → H' a = some (.lst ((ts ++ [Str.ofString "more"]).map V.str)) → Q (.bl true) H'
def spRr (C : Addr) : Sp := fun vs H Q _ => ∃ (p s m : Addr) (ks : List Kind) (ys nm : List Str) (v : V) (bn : Bool), vs = [.ref p, .ref s, .ref m, v, .bl bn] ∧ PortsAt C H p ks ∧ FrS ks s m ys nm H ∧ SP ks nm ∧
  ((∃ d, RrA H Q v d) ∨ ∃ a ts, RrB H Q v a ts)
theorem dd_strs {H : Hp} : ∀ ts : List Str, DdL H (ts.map V.str) (ts.map D.str)
  | [] => .nil
  | x :: r => .cons (.str x) (dd_strs r)
theorem strs_fit : ∀ {ts : List Str}, (∀ t ∈ ts, Pl 20 t) → D.fits (ts.map D.str) ∧ D.szs (ts.map D.str) ≤ ts.length * 21 ∧ D.deps (ts.map D.str) ≤ 0
  | [], _ => ⟨trivial, Nat.zero_le _, Nat.le_refl _⟩
  | x :: r, h => by
    have ih := strs_fit (ts := r) fun t ht => h t (List.mem_cons_of_mem _ ht)
    have hx := h x (List.mem_cons_self ..)
    refine ⟨⟨hx.1, ih.1⟩, ?_, Nat.max_le.mpr ⟨Nat.le_refl _, ih.2.2⟩⟩
    show (1 + x.length) + D.szs (r.map D.str) ≤ (r.length + 1) * 21
    have l := hx.len
    have := ih.2.1
    omega
theorem ok_law_read_right (G : Bl mg) (hrp : mg "repr" = none) (sm : ∃ o, base.get? sysModules = some o) (X : ErrC K mg CE fE) (XX : ErrX K mg CE CN) (DA : DefAt K mg "_law_read_right" s_law_read_right)
    (cDu : Callee P w K mg base 7 "_law_due" ["sides", "names", "value"] spDu) (cRc : CalleeX P w K mg base 12 "read_condition" ["ports", "numbers", "text"] (spRc C CE)) (kRc : CalleeXK P w K mg base 12 "read_condition" ["ports", "numbers", "text"] (spRc C CE))
    (cIc : Callee P w K mg base 11 "is_condition" ["ports", "numbers", "value"] (spIc C)) (cCt : Callee P w K mg base 6 "condition_text" ["condition"] (spCt 4)) :
    CalleeG P w K mg base 14 "_law_read_right" ["ports", "sides", "names", "value", "by_name"] (spRr C) := by
  refine calleeG DA sc_law_read_right (fun vs H Q E h => by obtain ⟨_, _, _, _, _, _, _, _, rfl, _⟩ := h; rfl) (fun _ _ _ _ _ _ us hl => match us, hl with | [_, _, _, _, _], _ => rfl) fun f cdv A outer s H vs Q E hgu hr h => ?_
  obtain ⟨p, sA, m, ks, ys, nm, v, bn, rfl, hP, fr, S, hc⟩ := h
  have hgA : (cxOf CX0 P w K mg base ["ports", "sides", "names", "value", "by_name", "due", "given", "told", "e"] "_law_read_right" (defScope s_law_read_right) f cdv A outer s H E).nox.A.guards = some [] := hgu
  obtain ⟨d, hd, dsm, fit, sz, dep, fin⟩ : ∃ d, Dd H v d ∧ d.small ∧ d.fit ∧ d.sz ≤ 1000000 ∧ d.dep ≤ 31 ∧ ((d.isa "list" = false ∧ ∀ H', Same H H' → Q (.bl true) H') ∨ ∃ a ts, d = .lst (ts.map D.str) ∧ RrB H Q v a ts) := by
    rcases hc with ⟨d, a⟩ | ⟨a, ts, b⟩
    · exact ⟨d, a.hd, a.sm, a.fit, a.sz, a.dep, .inl ⟨a.nl, a.q⟩⟩
    · obtain ⟨f1, f2, f3⟩ := strs_fit b.pl
      have l := b.len
      exact ⟨.lst (ts.map D.str), by rw [b.ev]; exact .lst b.at_ (dd_strs ts), trivial, f1, by show 1 + D.szs (ts.map D.str) ≤ 1000000; omega, by show D.deps (ts.map D.str) + 1 ≤ 31; omega, .inr ⟨a, ts, rfl, b⟩⟩
  let tsX : Addr → Value → Option Addr → TS := fun a cls d D σ H1 => ∃ (dx pg : Addr), cls = .ref CE ∧ d = some dx ∧ σ = [some (.ref p), some (.ref sA), some (.ref m), some v, some (.bl bn), some .non, some (.ref pg), none, some (.ref a)] ∧ H1 dx = some (.xd [("given", v)]) ∧ Same H H1 ∧ NamesAt H1 (.ref pg) nm ∧ D.rt = Q
  let tbX : WX → TS := fun W D σ H1 => ∃ (pg : Addr) (y : V), σ = [some (.ref p), some (.ref sA), some (.ref m), some v, some (.bl bn), some y, some (.ref pg), none, none] ∧ Same H H1 ∧ NamesAt H1 (.ref pg) nm ∧
    (∀ r, d.reads ks nm = some r → ∀ v' H', Same H1 H' → Dd H' v' r → D.nx [some (.ref p), some (.ref sA), some (.ref m), some v, some (.bl bn), some y, some (.ref pg), some v', none] H') ∧
    (d.reads ks nm = none → ∀ dx H', H1 dx = none → Same H1 H' → H' dx = some (.xd [("given", v)]) → W (.ref CE) (some dx) σ H')
  refine ⟨_, (pss_cons (ps_par (i := 5) (j := 6) (by rfl) sc_law_read_right.nd rfl rfl (by decide) rfl rfl (pa_cons (pe_cal cDu hr (by decide) (pa_cons (pv 1) (pa_cons (pv 2) (pa_cons (pv 3) pa_nil)))) (pa_cons (pe_ifExp (pt_val (pv 4)) (pe_callTy call_tuple_of (by rfl) G.b_tuple (by decide +kernel) (pa_cons (pv 2) pa_nil)) (pe_callTy call_list_of (by rfl) G.b_list (by decide +kernel) (pa_cons (pv 2) pa_nil))) pa_nil)) (by rfl))
    (pss_cons (ps_try_as (i := 8) (tb := tbX) (ts := tsX) rfl rfl sc_law_read_right.nd rfl rfl ⟨rfl, by decide, Or.inl X.g⟩ takes0
      (fun W pn xe tk _ => PSs.pre (pss_one (ps_set (i := 7) sc_law_read_right.nd rfl (Or.inl rfl) (pe_ifExp (pt_val (pv 4)) (pe_calXK kRc tk hr (by decide) (pk_cons (pv 0) (pk_cons (pv 6) (pk_cons (pv 3) pk_nil)))) (pe_calX cRc tk hr (by decide) (pa_cons (pv 0) (pa_cons (pv 6) (pa_cons (pv 3) pa_nil))))))) ?_)
      (fun a oe cls od pn hz hf => PSs.pre (pss_cons (ps_if (PW.pt (pw_or (pt_cmpR op_notN (pv 5) pe_non (nomark _)) (pw_or (pt_not (pt_val (pe_callB (call_isX hz hf) (by rfl) G.b_isinstance (by decide +kernel) (pa_cons (pv 8) (pa_cons (pe_glob (v := .ref CN) (by rfl) XX.gN rfl) pa_nil))))) (pw_or1 (pt_cmpR (op_neD (by exact hr.units)) (pe_callTy call_list_of (by rfl) G.b_list (by decide +kernel) (pa_cons (pv 6) pa_nil)) (pv 2) (nomark _)))))) (pss_one (ps_ret pe_bl)) pss_nil)
    (pss_cons (ps_if (pt_val (pe_callB call_isi (by rfl) G.b_isinstance (by decide +kernel) (pa_cons (pv 3) (pa_cons (pe_bltn (v := .ty "list") (u := .type "list") (by rfl) G.b_list (by decide +kernel) rfl) pa_nil)))) (pss_one (ps_expr (pe_bm PySem.F.plainAttrs_list PySem.F.slot_list_append PySem.F.type_list_append mt_append (pv 3) (pa_cons pe_str pa_nil)))) pss_nil)
    (pss_one (ps_ret (pe_cmpR op_eq (pe_callB (call_repr (by exact hgA) (by exact hr.units) sm) (by rfl) hrp (by decide +kernel) (pa_cons (pe_xf XX.xf X.no hz hf (pv 8)) pa_nil)) (pe_callB (call_repr (by exact hgA) (by exact hr.units) sm) (by rfl) hrp (by decide +kernel) (pa_cons (pv 3) pa_nil)) (nomark _)))))) ?_))
    (pss_cons (ps_if (PW.pt (pw_or (pt_cmpR op_isN (pv 5) pe_non (nomark _)) (pw_or (pt_cmpR (op_neD hr.units) (pe_callTy call_list_of (by rfl) G.b_list (by decide +kernel) (pa_cons (pv 6) pa_nil)) (pv 2) (nomark _)) (pw_or1 (pt_cmpR op_ne (pe_callB (call_repr hgA hr.units sm) (by rfl) hrp (by decide +kernel) (pa_cons (pv 7) pa_nil)) (pe_callB (call_repr hgA hr.units sm) (by rfl) hrp (by decide +kernel) (pa_cons (pv 5) pa_nil)) (nomark _)))))) (pss_one (ps_ret pe_bl)) pss_nil)
    (pss_one (ps_ret (pe_and (pe_cmpR op_isBl (pe_cal cIc hr (by decide) (pa_cons (pv 0) (pa_cons (pv 6) (pa_cons (pv 7) pa_nil)))) pe_bl (nomark _)) (pe_one (pe_cmpR op_eq (pe_cal cCt hr (by decide) (pa_cons (pv 7) pa_nil)) (pv 3) (nomark _))))))))), ?_⟩
  case refine_1 =>
    rintro D σ H1 ⟨pg, y, rfl, s1, nA, ok, err⟩
    cases bn with
    | true => exact ⟨_, rfl, _, rfl, iteT ⟨_, rfl, _, rfl, _, rfl, p, ks, .ref pg, nm, v, d, rfl, hP.same s1, nA, S.short, hd.same s1, dsm, ok, err⟩⟩
    | false => exact ⟨_, rfl, _, rfl, iteF ⟨_, rfl, _, rfl, _, rfl, p, ks, .ref pg, nm, v, d, rfl, hP.same s1, nA, S.short, hd.same s1, dsm, ok, err⟩⟩
  case refine_2 =>
    rintro Ds σ H1 ⟨dx, pg, rfl, rfl, rfl, ex, s1, nA, eD⟩
    refine ⟨_, rfl, rfl, _, rfl, iteF ?_⟩
    refine ⟨_, rfl, CE, CN, dx, true, _, rfl, rfl, rfl, XX.ex, ex, XX.kit, _, rfl, iteF ?_⟩
    obtain ⟨pg', epg, hl⟩ := nA
    cases epg
    refine ⟨_, rfl, pg, _, rfl, hl.imp SqL.of SqT.of, fun pl hpl => ?_⟩
    generalize e9 : upd H1 pl _ = H9
    obtain ⟨s9, d9⟩ := nw e9 hpl
    have s09 := s1.trans s9
    have np : ∀ y ∈ nm, Pl 10 y := fun y hy => (S.np y hy).pl
    refine ⟨_, rfl, .list (nm.map PyData.str), .list (nm.map PyData.str), dp_names d9, dp_names (s09 _ _ fr.mh), names_shaped np, names_shaped np, _, rfl, ?_⟩
    rw [eqv_strs]
    refine iteF ?_
    have h9 := hd.same s09
    have ex9 := s9 _ _ ex
    refine ⟨v, rfl, _, _, _, _, _, rfl, .ty "list", h9.tyx, kit_list d, _, rfl, ?_⟩
    rcases fin with ⟨nl, q⟩ | ⟨a, ts, ed, b⟩
    · rw [nl]
      refine iteF ?_
      refine ⟨_, rfl, rfl, rfl, dx, _, v, rfl, ex9, by simp [List.lookup], v, d, rfl, h9, fit, sz, by omega, v, rfl, v, d, rfl, h9, fit, sz, by omega, rfl, ?_⟩
      rw [decide_eq_true rfl, eD]
      exact q H9 s09
    · subst ed
      have ev := b.ev
      subst ev
      have a9 := s09 _ _ b.at_
      have ll := b.len
      refine iteT ⟨_, rfl, .inl ⟨rfl, _, SqL.of a9⟩, a, _, _, rfl, rfl, a9, small1000 (by rw [List.length_map]; omega), ?_⟩
      generalize e10 : upd H9 a _ = H10
      have a10 : H10 a = some (.lst ((ts ++ [Str.ofString "more"]).map V.str)) := by rw [← e10, upd_same, List.map_append]; rfl
      have nx : dx ≠ a := fun z => by rw [z, a9] at ex9; cases ex9
      have x10 : H10 dx = some (.xd [("given", .ref a)]) := by rw [← e10, upd_ne nx]; exact ex9
      have pl' : ∀ t ∈ ts ++ [Str.ofString "more"], Pl 20 t := fun t ht => by
        rcases List.mem_append.mp ht with ht | ht
        · exact b.pl t ht
        · rw [List.mem_singleton.mp ht]; exact (pl_of "more" (by decide +kernel)).mono (by decide)
      obtain ⟨f1, f2, f3⟩ := strs_fit pl'
      rw [List.length_append, List.length_singleton] at f2
      have h10 : Dd H10 (.ref a) (.lst ((ts ++ [Str.ofString "more"]).map D.str)) := .lst a10 (dd_strs _)
      have sz10 : (D.lst ((ts ++ [Str.ofString "more"]).map D.str)).sz ≤ 1000000 := by show 1 + D.szs _ ≤ 1000000; omega
      have dp10 : (D.lst ((ts ++ [Str.ofString "more"]).map D.str)).dep ≤ 40 := by show D.deps _ + 1 ≤ 40; omega
      refine ⟨_, rfl, rfl, rfl, dx, _, _, rfl, x10, by simp [List.lookup], _, _, rfl, h10, f1, sz10, dp10, _, rfl, _, _, rfl, h10, f1, sz10, dp10, rfl, ?_⟩
      rw [decide_eq_true rfl, eD]
      exact b.q H10 ((Kp.of s09).trans (by rw [← e10]; exact Kp.atb (by simp))) a10
  have np : ∀ y ∈ nm, Pl 10 y := fun y hy => (S.np y hy).pl
  refine ⟨_, rfl, _, rfl, v, rfl, ks, sA, m, ys, nm, v, d, rfl, fr, hd, dsm, ?_⟩
  rw [S.due d]
  refine ⟨fun e H1 s1 => ?_, fun r e va H1 s1 hva => ?_⟩
  · cases bn with
    | true =>
      refine ⟨_, rfl, _, rfl, iteT ⟨_, rfl, m, _, rfl, .inl ⟨SqL.of (s1 _ _ fr.mh), fun pg hpg => ?_⟩⟩⟩
      generalize e2 : upd H1 pg _ = H2
      obtain ⟨s2, hg⟩ := nw e2 hpg
      have s12 := s1.trans s2
      have nA : NamesAt H2 (.ref pg) nm := ⟨pg, rfl, .inr hg⟩
      refine ⟨_, _, rfl, pg, _, rfl, s12, nA, fun r e2 => (by rw [e] at e2; cases e2), fun _ dx H3 nx s3 d3 => ?_⟩
      exact ⟨true, XX.exm, fun _ ae _ => ⟨dx, pg, rfl, rfl, rfl, d3, s12.trans s3, nA.same s3, rfl⟩, fun z => nomatch z⟩
    | false =>
      refine ⟨_, rfl, _, rfl, iteF ⟨_, rfl, m, _, rfl, .inl (SqL.of (s1 _ _ fr.mh)), fun pg hpg => ?_⟩⟩
      generalize e2 : upd H1 pg _ = H2
      obtain ⟨s2, hg⟩ := nw e2 hpg
      have s12 := s1.trans s2
      have nA : NamesAt H2 (.ref pg) nm := ⟨pg, rfl, .inl hg⟩
      refine ⟨_, _, rfl, pg, _, rfl, s12, nA, fun r e2 => (by rw [e] at e2; cases e2), fun _ dx H3 nx s3 d3 => ?_⟩
      exact ⟨true, XX.exm, fun _ ae _ => ⟨dx, pg, rfl, rfl, rfl, d3, s12.trans s3, nA.same s3, rfl⟩, fun z => nomatch z⟩
  · cases bn with
    | true =>
      refine ⟨_, rfl, _, rfl, iteT ⟨_, rfl, m, _, rfl, .inl ⟨SqL.of (s1 _ _ fr.mh), fun pg hpg => ?_⟩⟩⟩
      generalize e2 : upd H1 pg _ = H2
      obtain ⟨s2, hg⟩ := nw e2 hpg
      have s12 := s1.trans s2
      have nA : NamesAt H2 (.ref pg) nm := ⟨pg, rfl, .inr hg⟩
      obtain ⟨x, ed, c, ck, tx⟩ := reads_some e
      subst ed
      obtain ⟨f1, f2, f3⟩ := c.sm S
      have sz2 : r.sz ≤ 1000000 := by omega
      have dp2 : r.dep ≤ 40 := by omega
      refine ⟨_, _, rfl, pg, _, rfl, s12, nA, fun r' e2 v' H3 s3 h3 => ?_, fun e2 => (by rw [e] at e2; cases e2)⟩
      rw [e] at e2
      cases e2
      have hva3 := (hva.same s2).same s3
      obtain ⟨a0, rfl⟩ := c.ref hva
      refine ⟨_, rfl, rfl, _, rfl, iteF ?_⟩
      obtain ⟨pg', epg, hl⟩ := nA.same s3
      cases epg
      refine ⟨_, rfl, pg, _, rfl, hl.imp SqL.of SqT.of, fun pl hpl => ?_⟩
      generalize e9 : upd H3 pl _ = H9
      obtain ⟨s9, d9⟩ := nw e9 hpl
      have s09 := (s12.trans s3).trans s9
      refine ⟨_, rfl, .list (nm.map PyData.str), .list (nm.map PyData.str), dp_names d9, dp_names (s09 _ _ fr.mh), names_shaped np, names_shaped np, _, rfl, ?_⟩
      rw [eqv_strs]
      refine iteF ?_
      have r9 := h3.same s9
      refine ⟨_, rfl, v', r, rfl, r9, f1, sz2, dp2, _, rfl, _, r, rfl, hva3.same s9, f1, sz2, dp2, rfl, ?_⟩
      rw [decide_eq_true rfl]
      refine ⟨_, rfl, iteF ?_⟩
      refine ⟨_, rfl, _, rfl, _, rfl, p, ks, .ref pg, nm, v', r, rfl, hP.same s09, ⟨pg, rfl, hl.imp (s9 _ _) (s9 _ _)⟩, r9, fun H5 s5 => ?_⟩
      rw [ck]
      refine ⟨_, _, rfl, rfl, _, rfl, iteT ?_⟩
      refine ⟨_, rfl, v', r, ks, nm, rfl, r9.same s5, c, by decide, S.short, fun H6 s6 => ?_⟩
      rcases fin with ⟨_, q⟩ | ⟨_, _, ed, _⟩
      · cases hd
        refine ⟨_, rfl, rfl, ?_⟩
        rw [tx, decide_eq_true rfl]
        exact q H6 ((s09.trans s5).trans s6)
      · cases ed
    | false =>
      refine ⟨_, rfl, _, rfl, iteF ⟨_, rfl, m, _, rfl, .inl (SqL.of (s1 _ _ fr.mh)), fun pg hpg => ?_⟩⟩
      generalize e2 : upd H1 pg _ = H2
      obtain ⟨s2, hg⟩ := nw e2 hpg
      have s12 := s1.trans s2
      have nA : NamesAt H2 (.ref pg) nm := ⟨pg, rfl, .inl hg⟩
      obtain ⟨x, ed, c, ck, tx⟩ := reads_some e
      subst ed
      obtain ⟨f1, f2, f3⟩ := c.sm S
      have sz2 : r.sz ≤ 1000000 := by omega
      have dp2 : r.dep ≤ 40 := by omega
      refine ⟨_, _, rfl, pg, _, rfl, s12, nA, fun r' e2 v' H3 s3 h3 => ?_, fun e2 => (by rw [e] at e2; cases e2)⟩
      rw [e] at e2
      cases e2
      have hva3 := (hva.same s2).same s3
      obtain ⟨a0, rfl⟩ := c.ref hva
      refine ⟨_, rfl, rfl, _, rfl, iteF ?_⟩
      obtain ⟨pg', epg, hl⟩ := nA.same s3
      cases epg
      refine ⟨_, rfl, pg, _, rfl, hl.imp SqL.of SqT.of, fun pl hpl => ?_⟩
      generalize e9 : upd H3 pl _ = H9
      obtain ⟨s9, d9⟩ := nw e9 hpl
      have s09 := (s12.trans s3).trans s9
      refine ⟨_, rfl, .list (nm.map PyData.str), .list (nm.map PyData.str), dp_names d9, dp_names (s09 _ _ fr.mh), names_shaped np, names_shaped np, _, rfl, ?_⟩
      rw [eqv_strs]
      refine iteF ?_
      have r9 := h3.same s9
      refine ⟨_, rfl, v', r, rfl, r9, f1, sz2, dp2, _, rfl, _, r, rfl, hva3.same s9, f1, sz2, dp2, rfl, ?_⟩
      rw [decide_eq_true rfl]
      refine ⟨_, rfl, iteF ?_⟩
      refine ⟨_, rfl, _, rfl, _, rfl, p, ks, .ref pg, nm, v', r, rfl, hP.same s09, ⟨pg, rfl, hl.imp (s9 _ _) (s9 _ _)⟩, r9, fun H5 s5 => ?_⟩
      rw [ck]
      refine ⟨_, _, rfl, rfl, _, rfl, iteT ?_⟩
      refine ⟨_, rfl, v', r, ks, nm, rfl, r9.same s5, c, by decide, S.short, fun H6 s6 => ?_⟩
      rcases fin with ⟨_, q⟩ | ⟨_, _, ed, _⟩
      · cases hd
        refine ⟨_, rfl, rfl, ?_⟩
        rw [tx, decide_eq_true rfl]
        exact q H6 ((s09.trans s5).trans s6)
      · cases ed
end
end NH
set_option maxHeartbeats 4000000
namespace NH
open PySem PySem.Spec PyProof.Rows L2 TL
theorem up_pl : ∀ (l : List Nat), (∀ c ∈ l, c < 128) → (∀ c ∈ tl (Txt.upper ⟨l.toArray⟩), c < 128) ∧ (tl (Txt.upper ⟨l.toArray⟩)).length = l.length
  | [], _ => by
    have e : tl (Txt.upper ⟨([] : List Nat).toArray⟩) = [] := by decide +kernel
    rw [e]
    exact ⟨fun c hc => (nomatch hc), rfl⟩
  | c :: r, h => by
    have ih := up_pl r fun x hx => h x (List.mem_cons_of_mem _ hx)
    have hc := h c (List.mem_cons_self ..)
    have e : (⟨(c :: r).toArray⟩ : Str) = ⟨#[c]⟩ ++ ⟨r.toArray⟩ := by
      refine ext_toList ?_
      show c :: r = tl (⟨#[c]⟩ ++ ⟨r.toArray⟩)
      rw [tl_append]; rfl
    rw [e, PySem.W.KOpn.upper_app, PySem.W.KOpn.upper_one hc, tl_append]
    have e2 : tl ⟨#[if 97 ≤ c ∧ c ≤ 122 then c - 32 else c]⟩ = [if 97 ≤ c ∧ c ≤ 122 then c - 32 else c] := rfl
    rw [e2]
    refine ⟨fun x hx => ?_, by rw [List.length_append, ih.2]; show 1 + r.length = r.length + 1; omega⟩
    rcases List.mem_append.mp hx with hx | hx
    · rw [List.mem_singleton.mp hx]; split <;> omega
    · exact ih.1 x hx
theorem Pl.up {k : Nat} {x : Str} (h : Pl k x) : Pl k (Txt.upper x) := by
  have z := up_pl (tl x) h.1
  have e : (⟨(tl x).toArray⟩ : Str) = x := by refine ext_toList ?_; simp
  rw [e] at z
  exact ⟨z.1, by rw [z.2]; exact h.2⟩
theorem joinL_pl : ∀ {k : Nat} {l : List (List Nat)}, (∀ y ∈ l, (∀ c ∈ y, c < 128) ∧ y.length ≤ k) → (∀ c ∈ joinL [32] l, c < 128) ∧ (joinL [32] l).length ≤ l.length * (k + 1)
  | _, [], _ => ⟨fun c hc => (nomatch hc), Nat.zero_le _⟩
  | k, [x], h => ⟨(h x (by simp)).1, by show x.length ≤ 1 * (k + 1); have := (h x (by simp)).2; omega⟩
  | k, x :: z :: r, h => by
    have ih := joinL_pl (l := z :: r) fun y hy => h y (List.mem_cons_of_mem _ hy)
    have hx := h x (List.mem_cons_self ..)
    have e : joinL [32] (x :: z :: r) = x ++ ([32] ++ joinL [32] (z :: r)) := rfl
    rw [e]
    refine ⟨fun c hc => ?_, ?_⟩
    · rcases List.mem_append.mp hc with hc | hc
      · exact hx.1 c hc
      · rcases List.mem_append.mp hc with hc | hc
        · rw [List.mem_singleton.mp hc]; decide
        · exact ih.1 c hc
    · rw [List.length_append, List.length_append, List.length_cons (a := x), Nat.succ_mul]
      have l1 : ([32] : List Nat).length = 1 := rfl
      have := ih.2
      omega
theorem join_pl {k : Nat} {l : List Str} (h : ∀ w ∈ l, Pl k w) : Pl (l.length * (k + 1)) (Txt.join spc l) := by
  have e : tl (Txt.join spc l) = joinL [32] (l.map tl) := by rw [join_eq, tl_join]; rfl
  have z := joinL_pl (k := k) (l := l.map tl) fun y hy => by obtain ⟨w, hw, rfl⟩ := List.mem_map.mp hy; exact h w hw
  rw [← e, List.length_map] at z
  exact z
theorem cut_strs (ws : List Str) (lo hi : Option Int) : ∃ us : List Str, cutV (ws.map V.str) lo hi = us.map V.str ∧ us.length ≤ ws.length ∧ ∀ u ∈ us, u ∈ ws := by
  refine ⟨(ws.drop (HT.sIx ws.length 0 lo)).take (HT.sIx ws.length ws.length hi - HT.sIx ws.length 0 lo), ?_, ?_, fun u hu => List.mem_of_mem_drop (List.mem_of_mem_take hu)⟩
  · unfold cutV; rw [List.length_map, List.map_take, List.map_drop]
  · rw [List.length_take, List.length_drop]; omega
def menuW : List Str := ["is", "above", "both", "either", "not", "due", "0", "9", "10", "01", "-1", "", "zz", "p", "a", "if", "1 "]
def signW : List Str := [" ", "\n", "0", "1", "a", "A", "~", "  ", "n", "(", "-", ","]
theorem plB {k : Nat} {x : Str} (h : ((tl x).all fun c => decide (c < 128)) = true) (l : (tl x).length ≤ k) : Pl k x := (pl_of x h).mono l
theorem menuW_pl : ∀ x ∈ menuW, Pl 20 x := by
  have h : (menuW.all fun x => ((tl x).all fun c => decide (c < 128)) && decide ((tl x).length ≤ 20)) = true := by decide +kernel
  intro x hx
  have z := List.all_eq_true.mp h x hx
  rw [Bool.and_eq_true] at z
  exact plB z.1 (of_decide_eq_true z.2)
theorem signW_pl : ∀ x ∈ signW, Pl 20 x := by
  have h : (signW.all fun x => ((tl x).all fun c => decide (c < 128)) && decide ((tl x).length ≤ 20)) = true := by decide +kernel
  intro x hx
  have z := List.all_eq_true.mp h x hx
  rw [Bool.and_eq_true] at z
  exact plB z.1 (of_decide_eq_true z.2)
theorem nP {σ : L2.St} {H : Hp} {F : Option Int → Hp → Prop} (h : F none H) : tNoPart σ H F := h
theorem box_strs {n : Nat} {us : List Str} (h : IsBox n (.lst (us.map V.str))) : False := by
  obtain ⟨w, f, r, c, e, _⟩ := h
  injection e with e
  cases us with
  | nil => cases e
  | cons u us => injection e with e _; cases e
section
variable {P : Program} {w : World} {K : PySem.W.Frag} {mg : Str → Option Value} {base : Heap}
abbrev s_law_spoilt : Stmt := top 56
theorem sc_law_spoilt : FnScope ["box", "words", "sides", "way", "at", "text", "place", "menu", "word", "sign"] ["box", "words", "sides"] (defScope s_law_spoilt) := ⟨rfl, rfl, rfl, by decide +kernel, rfl, by decide +kernel, by decide +kernel⟩
def spSp : Sp := fun vs H Q _ => ∃ (b l s : Addr) (n : Nat) (ws ys : List Str), vs = [.ref b, .ref l, .ref s] ∧ Bx b n H ∧ n ≤ 600000000 ∧ H l = some (.lst (ws.map V.str)) ∧ Row ws ∧ H s = some (.lst (ys.map V.str)) ∧ 0 < ys.length ∧ ys.length ≤ 100 ∧ (∀ y ∈ ys, Pl 10 y) ∧ l ≠ b ∧ s ≠ b ∧
  ∀ (x : Str) H', Pl 50000 x → Kp [b] H H' → Bx b (n + 20) H' → Q (.str x) H'
theorem ok_law_spoilt (G : Bl mg) (DA : DefAt K mg "_law_spoilt" s_law_spoilt) (cT : Callee P w K mg base 2 "_law_take" ["box", "many"] spTake) : Callee P w K mg base 3 "_law_spoilt" ["box", "words", "sides"] spSp := by
  refine callee DA sc_law_spoilt (fun vs H Q E h => by obtain ⟨_, _, _, _, _, _, rfl, _⟩ := h; rfl) (fun _ _ _ _ _ _ us hl => match us, hl with | [_, _, _], _ => rfl) fun f cdv A outer s H vs Q E hr h => ?_
  obtain ⟨b, l, sA, n, ws, ys, rfl, hb, hn, hl, rw_, hs, y0, y1, yp, nl, ns, q⟩ := h
  refine ⟨_, (pss_cons (ps_par3 (i := 3) (j := 4) (l := 5) (by rfl) sc_law_spoilt.nd rfl rfl rfl (by decide) (by decide) (by decide) rfl rfl rfl (pa_cons (pe_cal cT hr (by decide) (pa_cons (pv 0) (pa_cons pe_int pa_nil))) (pa_cons (pe_cal cT hr (by decide) (pa_cons (pv 0) (pa_cons (pe_callB call_len_seq (by rfl) G.b_len (by decide +kernel) (pa_cons (pv 1) pa_nil)) pa_nil))) (pa_cons (pe_join pe_str (pv 1)) pa_nil))) (by rfl))
    (pss_cons (ps_set (i := 6) sc_law_spoilt.nd rfl (Or.inl rfl) (pe_cal cT hr (by decide) (pa_cons (pv 0) (pa_cons (pe_op op_add (pe_callB call_len_str (by rfl) G.b_len (by decide +kernel) (pa_cons (pv 5) pa_nil)) pe_int) pa_nil))))
    (pss_cons (ps_set (i := 7) sc_law_spoilt.nd rfl (Or.inl rfl) (pe_lst (pa_cons pe_str (pa_cons pe_str (pa_cons pe_str (pa_cons pe_str (pa_cons pe_str (pa_cons pe_str (pa_cons pe_str (pa_cons pe_str (pa_cons pe_str (pa_cons pe_str (pa_cons pe_str (pa_cons pe_str (pa_cons pe_str (pa_cons pe_str (pa_cons pe_str (pa_cons pe_str (pa_cons pe_str pa_nil)))))))))))))))))))
    (pss_cons (ps_set (i := 8) sc_law_spoilt.nd rfl (Or.inl rfl) (pe_ix ix_list (pe_op op_cat (pv 7) (pe_lst (pa_cons (pe_ix ix_list (pv 2) pe_int (fun _ _ => rfl)) (pa_cons (pe_ix ix_list (pv 2) (pe_un un_neg pe_int) (fun _ _ => rfl)) (pa_cons (pe_slice sl_str (pe_ix ix_list (pv 2) (pe_un un_neg pe_int) (fun _ _ => rfl)) po_none (po_some (pe_un un_neg pe_int))) pa_nil))))) (pe_cal cT hr (by decide) (pa_cons (pv 0) (pa_cons pe_int pa_nil))) (fun _ _ => rfl)))
    (pss_cons (ps_set (i := 9) sc_law_spoilt.nd rfl (Or.inl rfl) (pe_ix ix_list (pe_lst (pa_cons pe_str (pa_cons pe_str (pa_cons pe_str (pa_cons pe_str (pa_cons pe_str (pa_cons pe_str (pa_cons pe_str (pa_cons pe_str (pa_cons pe_str (pa_cons pe_str (pa_cons pe_str (pa_cons pe_str pa_nil))))))))))))) (pe_cal cT hr (by decide) (pa_cons (pv 0) (pa_cons pe_int pa_nil))) (fun _ _ => rfl)))
    (pss_cons (ps_if (pt_cmpR op_eq (pv 3) pe_int (nomark _)) (pss_one (ps_ret (pe_join pe_str (pe_op op_cat (pe_op op_cat (pe_slice sl_list (pv 1) po_none (po_some (pv 4))) (pe_lst (pa_cons (pv 8) pa_nil))) (pe_slice sl_list (pv 1) (po_some (pe_op op_add (pv 4) pe_int)) po_none))))) pss_nil)
    (pss_cons (ps_if (pt_cmpR op_eq (pv 3) pe_int (nomark _)) (pss_one (ps_ret (pe_join pe_str (pe_op op_cat (pe_op op_cat (pe_slice sl_list (pv 1) po_none (po_some (pv 4))) (pe_lst (pa_cons (pv 8) pa_nil))) (pe_slice sl_list (pv 1) (po_some (pv 4)) po_none))))) pss_nil)
    (pss_cons (ps_if (pt_cmpR op_eq (pv 3) pe_int (nomark _)) (pss_one (ps_ret (pe_join pe_str (pe_op op_cat (pe_slice sl_list (pv 1) po_none (po_some (pv 4))) (pe_slice sl_list (pv 1) (po_some (pe_op op_add (pv 4) pe_int)) po_none))))) pss_nil)
    (pss_cons (ps_if (pt_cmpR op_eq (pv 3) pe_int (nomark _)) (pss_one (ps_ret (pe_join pe_str (pe_op op_cat (pe_op op_cat (pe_slice sl_list (pv 1) po_none (po_some (pv 4))) (pe_lst (pa_cons (pe_ix ix_list (pv 1) (pe_cal cT hr (by decide) (pa_cons (pv 0) (pa_cons (pe_callB call_len_seq (by rfl) G.b_len (by decide +kernel) (pa_cons (pv 1) pa_nil)) pa_nil))) (fun _ _ => rfl)) pa_nil))) (pe_slice sl_list (pv 1) (po_some (pe_op op_add (pv 4) pe_int)) po_none))))) pss_nil)
    (pss_cons (ps_if (pt_cmpR op_eq (pv 3) pe_int (nomark _)) (pss_one (ps_ret (pe_op op_add_str (pe_op op_add_str (pe_slice sl_str (pv 5) po_none (po_some (pv 6))) (pv 9)) (pe_slice sl_str (pv 5) (po_some (pe_op op_add (pv 6) pe_int)) po_none)))) pss_nil)
    (pss_cons (ps_if (pt_cmpR op_eq (pv 3) pe_int (nomark _)) (pss_one (ps_ret (pe_op op_add_str (pe_op op_add_str (pe_slice sl_str (pv 5) po_none (po_some (pv 6))) (pv 9)) (pe_slice sl_str (pv 5) (po_some (pv 6)) po_none)))) pss_nil)
    (pss_cons (ps_if (pt_cmpR op_eq (pv 3) pe_int (nomark _)) (pss_one (ps_ret (pe_op op_add_str (pe_slice sl_str (pv 5) po_none (po_some (pv 6))) (pe_slice sl_str (pv 5) (po_some (pe_op op_add (pv 6) pe_int)) po_none)))) pss_nil)
    (pss_one (ps_ret (pe_ix ix_list (pe_lst (pa_cons (pe_op op_add_str (pv 5) pe_str) (pa_cons (pe_op op_add_str pe_str (pv 5)) (pa_cons (pe_op op_add_str (pv 5) pe_str) (pa_cons (pe_op op_add_str pe_str (pv 5)) (pa_cons (pe_op op_add_str (pe_op op_add_str (pv 5) pe_str) (pv 5)) (pa_cons (pe_upper (pv 5)) pa_nil))))))) (pe_cal cT hr (by decide) (pa_cons (pv 0) (pa_cons pe_int pa_nil))) (fun _ _ => rfl)))))))))))))))), ?_⟩
  have w0 : 0 < ws.length := List.length_pos_iff.mpr rw_.ne
  have w8 := rw_.len
  have lw : (ws.map V.str).length = ws.length := List.length_map ..
  refine ⟨_, rfl, ?_⟩
  obtain ⟨o0_, e0_, i0_⟩ := id hb
  refine ⟨_, 8, _, o0_, rfl, e0_, i0_, by omega, by first | decide | omega, by first | decide | omega, fun way o1_ hw i1_ => ?_⟩
  generalize eH_ : upd _ _ o1_ = H1
  obtain ⟨k1, b1, oth1⟩ := tkf eH_ i1_
  clear eH_ i1_ i0_ e0_ o0_
  refine ⟨_, rfl, _, rfl, l, _, rfl, .inl (SqL.of ((oth1 l nl).trans hl)), ?_⟩
  obtain ⟨o0_, e0_, i0_⟩ := id b1
  refine ⟨_, (ws.map V.str).length, _, o0_, rfl, e0_, i0_, by omega, by first | decide | omega, by first | decide | omega, fun at_ o1_ ha i1_ => ?_⟩
  generalize eH_ : upd _ _ o1_ = H2
  obtain ⟨k2, b2, oth2⟩ := tkf eH_ i1_
  clear eH_ i1_ i0_ e0_ o0_
  have hl2 : H2 l = some (.lst (ws.map V.str)) := (oth2 l nl).trans ((oth1 l nl).trans hl)
  refine ⟨⟨_, rfl⟩, _, rfl, _, l, ws, rfl, rfl, .inl (SqL.of hl2), rw_.join, ?_⟩
  refine ⟨_, _, _, rfl, ?_⟩
  have pT : Pl 20000 (Txt.join (Str.ofString " ") ws) := (join_pl rw_.pl).mono (by omega)
  generalize Txt.join (Str.ofString " ") ws = T at pT ⊢
  have lT := pT.len
  have sT : T.length ≤ sizeLine := Nat.le_trans lT (by decide)
  -- place
  refine ⟨_, rfl, _, rfl, T, rfl, sT, _, _, rfl, rfl, ?_⟩
  obtain ⟨o0, e0, i0⟩ := id b2
  refine ⟨_, T.length + 1, _, o0, (by show [V.ref b, V.int ((T.length : Int) + 1)] = _; rw [show ((T.length : Int) + 1) = ((T.length + 1 : Nat) : Int) by omega]), e0, i0, by omega, by omega, by omega, fun pl o1 hpl i1 => ?_⟩
  generalize eH : upd _ _ o1 = H3
  obtain ⟨k3, b3, oth3⟩ := tkf eH i1
  clear eH i1 i0 e0 o0
  have k03 := (k1.trans k2).trans k3
  have bb3 : Bx b (n + 3) H3 := b3
  have hl3 := k03 l _ (by simpa using nl) hl
  have hs3 := k03 sA _ (by simpa using ns) hs
  clear b3 b2 b1 k1 k2 k3 oth1 oth2 oth3 hl2
  -- menu
  refine ⟨by show 17 ≤ sizeLine; decide, fun p4 hp4 => ?_⟩
  generalize e4 : upd H3 p4 _ = H4
  obtain ⟨s4, d4⟩ := nw e4 hp4
  have d4 : H4 p4 = some (.lst (menuW.map V.str)) := d4
  have hs4 := s4 _ _ hs3
  -- word
  obtain ⟨yf, eyf⟩ : ∃ y, ys[0]? = some y := ⟨_, List.getElem?_eq_getElem y0⟩
  obtain ⟨yl, eyl⟩ : ∃ y, ys.getLast? = some y := by
    cases e : ys.getLast? with
    | none => rw [List.getLast?_eq_none_iff] at e; rw [e] at y0; exact absurd y0 (by decide)
    | some y => exact ⟨y, rfl⟩
  have a0 : atI (ys.map V.str) 0 = some (.str yf) := atI_nat (j := 0) (by rw [List.getElem?_map, eyf]; rfl)
  have al : atI (ys.map V.str) (-1) = some (.str yl) := at_last0 (by rw [List.getLast?_map, eyl]; rfl)
  have pyf := yp yf (List.mem_of_getElem? eyf)
  have pyl := yp yl (List.mem_of_getLast? eyl)
  have syl : yl.length ≤ sizeLine := Nat.le_trans pyl.len (by decide)
  refine ⟨_, rfl, _, rfl, sA, _, 0, _, rfl, rfl, SqL.of hs4, a0, _, rfl, 1, rfl, sA, _, -1, _, rfl, rfl, SqL.of hs4, al, _, rfl, 1, rfl, sA, _, -1, _, rfl, rfl, SqL.of hs4, al, 1, rfl, -1, rfl, yl, rfl, syl, by show 3 ≤ sizeLine; decide, fun p5 hp5 => ?_⟩
  generalize e5 : upd H4 p5 _ = H5
  obtain ⟨s5, d5⟩ := nw e5 hp5
  refine ⟨p4, p5, _, _, rfl, rfl, s5 _ _ d4, d5, by show 20 ≤ sizeLine; decide, fun p6 hp6 => ?_⟩
  generalize e6 : upd H5 p6 _ = H6
  obtain ⟨s6, d6⟩ := nw e6 hp6
  have s36 := (s4.trans s5).trans s6
  have b6 := bb3.same s36
  have n6 : b ≠ p6 := (bb3.same (s4.trans s5)).ne hp6
  refine ⟨_, rfl, ?_⟩
  obtain ⟨o0_, e0_, i0_⟩ := id b6
  refine ⟨_, 20, _, o0_, rfl, e0_, i0_, by omega, by first | decide | omega, by first | decide | omega, fun c7 o1_ hc7 i1_ => ?_⟩
  generalize eH_ : upd _ _ o1_ = H7
  obtain ⟨k7, b7, oth7⟩ := tkf eH_ i1_
  clear eH_ i1_ i0_ e0_ o0_
  obtain ⟨w1, mw1, ew1⟩ := menuS (menuW ++ [yf, yl, cutS yl none (some (-1))]) (d := c7) hc7
  have pw1 : Pl 20 w1 := by
    rcases List.mem_append.mp mw1 with h | h
    · exact menuW_pl _ h
    · rcases List.mem_cons.mp h with rfl | h
      · exact pyf.mono (by decide)
      · rcases List.mem_cons.mp h with rfl | h
        · exact pyl.mono (by decide)
        · rw [List.mem_singleton.mp h]; exact (pyl.cut _ _).mono (by decide)
  refine ⟨p6, _, _, _, rfl, rfl, SqL.of ((oth7 p6 (Ne.symm n6)).trans d6), ew1, ?_⟩
  have k07 := (k03.trans (Kp.of s36)).trans k7
  -- sign
  refine ⟨by show 12 ≤ sizeLine; decide, fun p8 hp8 => ⟨_, rfl, ?_⟩⟩
  generalize e8 : upd H7 p8 _ = H8
  obtain ⟨s8, d8⟩ := nw e8 hp8
  have b8 := b7.same s8
  have n8 : b ≠ p8 := b7.ne hp8
  obtain ⟨o0_, e0_, i0_⟩ := id b8
  refine ⟨_, 12, _, o0_, rfl, e0_, i0_, by omega, by first | decide | omega, by first | decide | omega, fun c9 o1_ hc9 i1_ => ?_⟩
  generalize eH_ : upd _ _ o1_ = H9
  obtain ⟨k9, b9, oth9⟩ := tkf eH_ i1_
  clear eH_ i1_ i0_ e0_ o0_
  obtain ⟨g1, mg1, eg1⟩ := menuS signW (d := c9) hc9
  have pg1 := signW_pl _ mg1
  refine ⟨p8, _, _, _, rfl, rfl, SqL.of ((oth9 p8 (Ne.symm n8)).trans d8), eg1, ?_⟩
  have k09 := (k07.trans (Kp.of s8)).trans k9
  have bb9 : Bx b (n + 5) H9 := b9
  have hl9 := k09 l _ (by simpa using nl) hl
  clear b9 b8 b7 b6 bb3 k9 k7 k07 k03 oth7 oth9 d8 d6 d5 d4 e8 e6 e5 e4 hs4 hs3 hl3 s36 s8 s6 s5 s4 hp8 hp6 hp5 hp4
  -- what is joined
  have J : ∀ (us : List Str) (p : Addr) H', (∀ u ∈ us, Pl 20 u) → us.length ≤ 1700 → H' p = some (.lst (us.map V.str)) → Kp [b] H H' → Bx b (n + 20) H' → ∃ (a : Str) (p' : Addr) (zs : List Str), V.str (Str.ofString " ") = .str a ∧ [V.ref p] = [.ref p'] ∧ (SqL K H' p' (zs.map V.str) ∨ SqT K H' p' (zs.map V.str)) ∧ (zs.map (·.length)).sum + zs.length * a.length ≤ 16777216 ∧ Q (.str (Txt.join a zs)) H' := by
    intro us p H' hu lu d k' b'
    have z := sum_pl hu
    have e : (Str.ofString " ").length = 1 := rfl
    refine ⟨_, p, us, rfl, rfl, .inl (SqL.of d), by rw [e]; omega, q _ H' ((join_pl hu).mono (by omega)) k' b'⟩
  have cutL : ∀ (H' : Hp) (lo hi : Option Int) (F : VK), H' l = some (.lst (ws.map V.str)) → (∀ (us : List Str) (p : Addr) (H'' : Hp), (∀ u ∈ us, Pl 20 u) → us.length ≤ 800 → Same H' H'' → H'' p = some (.lst (us.map V.str)) → F (.ref p) H'') → rSlL K (.ref l) lo hi H' F := by
    intro H' lo hi F h go
    obtain ⟨us, e1, e2, e3⟩ := cut_strs ws lo hi
    exact ⟨l, _, rfl, SqL.of h, fun p hp => go us p _ (fun u hu => rw_.pl u (e3 u hu)) (by omega) (same_new hp) (by rw [upd_same, e1])⟩
  have catL : ∀ (us vs : List Str) (p1 p2 : Addr) (H' : Hp) (F : VK), H' p1 = some (.lst (us.map V.str)) → H' p2 = some (.lst (vs.map V.str)) → us.length + vs.length ≤ 3000 → (∀ p H'', Same H' H'' → H'' p = some (.lst ((us ++ vs).map V.str)) → F (.ref p) H'') → rCat (.ref p1) (.ref p2) H' F := by
    intro us vs p1 p2 H' F h1 h2 l12 go
    refine ⟨p1, p2, _, _, rfl, rfl, h1, h2, Nat.le_trans (by rw [List.length_map, List.length_map]; exact l12) (by decide), fun p hp => go p _ (same_new hp) (by rw [upd_same, List.map_append])⟩
  have ap : ∀ {us vs : List Str}, (∀ u ∈ us, Pl 20 u) → (∀ u ∈ vs, Pl 20 u) → ∀ u ∈ us ++ vs, Pl 20 u := fun h1 h2 u hu => (List.mem_append.mp hu).elim (h1 u) (h2 u)
  have one : ∀ {x : Str}, Pl 20 x → ∀ u ∈ [x], Pl 20 u := fun h u hu => by rw [List.mem_singleton.mp hu]; exact h
  -- 0
  refine ⟨_, rfl, rfl, _, rfl, itb (fun e => ?_) fun e => ?_⟩
  · refine ⟨⟨_, rfl⟩, _, rfl, _, rfl, _, rfl, cutL H9 none (some (at_ : Int)) _ hl9 fun us p10 H10 u1 u2 s10 d10 => ?_⟩
    refine ⟨_, rfl, by show 1 ≤ sizeLine; decide, fun p11 hp11 => ?_⟩
    generalize e11 : upd H10 p11 _ = H11
    obtain ⟨s11, d11⟩ := nw e11 hp11
    refine catL us [w1] p10 p11 H11 _ (s11 _ _ d10) d11 (by rw [List.length_singleton]; omega) fun p12 H12 s12 d12 => ?_
    have hl12 := s12 _ _ (s11 _ _ (s10 _ _ hl9))
    refine ⟨_, rfl, _, rfl, _, _, rfl, rfl, _, rfl, nP ?_⟩
    refine cutL H12 _ none _ hl12 fun vs p13 H13 v1 v2 s13 d13 => ?_
    refine catL (us ++ [w1]) vs p12 p13 H13 _ (s13 _ _ d12) d13 (by rw [List.length_append, List.length_singleton]; omega) fun p14 H14 s14 d14 => ?_
    have t := (((s10.trans s11).trans s12).trans s13).trans s14
    exact J _ p14 H14 (ap (ap u1 (one pw1)) v1) (by rw [List.length_append, List.length_append, List.length_singleton]; omega) d14 (k09.trans (Kp.of t)) ((bb9.same t).mono (by omega))
  -- 1
  refine ⟨_, rfl, rfl, _, rfl, itb (fun e => ?_) fun e => ?_⟩
  · refine ⟨⟨_, rfl⟩, _, rfl, _, rfl, _, rfl, cutL H9 none (some (at_ : Int)) _ hl9 fun us p10 H10 u1 u2 s10 d10 => ?_⟩
    refine ⟨_, rfl, by show 1 ≤ sizeLine; decide, fun p11 hp11 => ?_⟩
    generalize e11 : upd H10 p11 _ = H11
    obtain ⟨s11, d11⟩ := nw e11 hp11
    refine catL us [w1] p10 p11 H11 _ (s11 _ _ d10) d11 (by rw [List.length_singleton]; omega) fun p12 H12 s12 d12 => ?_
    have hl12 := s12 _ _ (s11 _ _ (s10 _ _ hl9))
    refine ⟨_, rfl, _, rfl, _, rfl, nP ?_⟩
    refine cutL H12 _ none _ hl12 fun vs p13 H13 v1 v2 s13 d13 => ?_
    refine catL (us ++ [w1]) vs p12 p13 H13 _ (s13 _ _ d12) d13 (by rw [List.length_append, List.length_singleton]; omega) fun p14 H14 s14 d14 => ?_
    have t := (((s10.trans s11).trans s12).trans s13).trans s14
    exact J _ p14 H14 (ap (ap u1 (one pw1)) v1) (by rw [List.length_append, List.length_append, List.length_singleton]; omega) d14 (k09.trans (Kp.of t)) ((bb9.same t).mono (by omega))
  -- 2
  refine ⟨_, rfl, rfl, _, rfl, itb (fun e => ?_) fun e => ?_⟩
  · refine ⟨⟨_, rfl⟩, _, rfl, _, rfl, _, rfl, cutL H9 none (some (at_ : Int)) _ hl9 fun us p10 H10 u1 u2 s10 d10 => ?_⟩
    have hl10 := s10 _ _ hl9
    refine ⟨_, rfl, _, rfl, _, _, rfl, rfl, _, rfl, nP ?_⟩
    refine cutL H10 _ none _ hl10 fun vs p13 H13 v1 v2 s13 d13 => ?_
    refine catL us vs p10 p13 H13 _ (s13 _ _ d10) d13 (by omega) fun p14 H14 s14 d14 => ?_
    have t := (s10.trans s13).trans s14
    exact J _ p14 H14 (ap u1 v1) (by rw [List.length_append]; omega) d14 (k09.trans (Kp.of t)) ((bb9.same t).mono (by omega))
  -- 3
  refine ⟨_, rfl, rfl, _, rfl, itb (fun e => ?_) fun e => ?_⟩
  · refine ⟨⟨_, rfl⟩, _, rfl, _, rfl, _, rfl, cutL H9 none (some (at_ : Int)) _ hl9 fun us p10 H10 u1 u2 s10 d10 => ?_⟩
    have hl10 := s10 _ _ hl9
    have b10 := bb9.same s10
    have n10 : p10 ≠ b := fun z => by obtain ⟨o, e1, i1⟩ := b10; rw [← z, d10] at e1; cases e1; exact box_strs i1
    refine ⟨_, rfl, _, rfl, _, rfl, l, _, rfl, .inl (SqL.of hl10), ?_⟩
    obtain ⟨o0_, e0_, i0_⟩ := id b10
    refine ⟨_, (ws.map V.str).length, _, o0_, rfl, e0_, i0_, by omega, by first | decide | omega, by first | decide | omega, fun c11 o1_ hc11 i1_ => ?_⟩
    generalize eH_ : upd _ _ o1_ = H11
    obtain ⟨k11, b11, oth11⟩ := tkf eH_ i1_
    clear eH_ i1_ i0_ e0_ o0_
    obtain ⟨w2, mw2, ew2⟩ := at_str (l := ws) (d := c11) (by omega)
    have hl11 := (oth11 l nl).trans hl10
    have d11 := (oth11 p10 n10).trans d10
    refine ⟨l, _, _, _, rfl, rfl, SqL.of hl11, ew2, by show 1 ≤ sizeLine; decide, fun p12 hp12 => ?_⟩
    generalize e12 : upd H11 p12 _ = H12
    obtain ⟨s12, d12⟩ := nw e12 hp12
    refine catL us [w2] p10 p12 H12 _ (s12 _ _ d11) d12 (by rw [List.length_singleton]; omega) fun p15 H15 s15 d15 => ?_
    have hl15 := s15 _ _ (s12 _ _ hl11)
    refine ⟨_, rfl, _, rfl, _, _, rfl, rfl, _, rfl, nP ?_⟩
    refine cutL H15 _ none _ hl15 fun vs p13 H13 v1 v2 s13 d13 => ?_
    refine catL (us ++ [w2]) vs p15 p13 H13 _ (s13 _ _ d15) d13 (by rw [List.length_append, List.length_singleton]; omega) fun p14 H14 s14 d14 => ?_
    have t := ((s12.trans s15).trans s13).trans s14
    exact J _ p14 H14 (ap (ap u1 (one (rw_.pl w2 mw2))) v1) (by rw [List.length_append, List.length_append, List.length_singleton]; omega) d14 (((k09.trans (Kp.of s10)).trans k11).trans (Kp.of t)) ((b11.same t).mono (by omega))
  have szA : ∀ {k : Nat} {z : Str}, Pl k z → k ≤ 60000 → z.length ≤ sizeLine := fun h l => Nat.le_trans h.len (Nat.le_trans l (by decide))
  have szB : ∀ {k j : Nat} {x y : Str}, Pl k x → Pl j y → k + j ≤ 60000 → x.length + y.length ≤ sizeLine := fun h1 h2 l => Nat.le_trans (Nat.add_le_add h1.len h2.len) (Nat.le_trans l (by decide))
  have c1 : ∀ lo hi, Pl 20000 (cutS T lo hi) := fun lo hi => pT.cut lo hi
  have bEnd : Bx b (n + 20) H9 := bb9.mono (by omega)
  -- 4
  refine ⟨_, rfl, rfl, _, rfl, itb (fun e => ?_) fun e => ?_⟩
  · refine ⟨_, rfl, _, rfl, _, rfl, T, rfl, sT, _, rfl, _, g1, rfl, rfl, szB (c1 _ _) pg1 (by decide), ?_⟩
    refine ⟨_, rfl, _, rfl, _, _, rfl, rfl, _, rfl, T, rfl, sT, _, _, rfl, rfl, szB ((c1 _ _).app pg1) (c1 _ _) (by decide), ?_⟩
    exact q _ H9 ((((c1 _ _).app pg1).app (c1 _ _)).mono (by decide)) k09 bEnd
  -- 5
  refine ⟨_, rfl, rfl, _, rfl, itb (fun e => ?_) fun e => ?_⟩
  · refine ⟨_, rfl, _, rfl, _, rfl, T, rfl, sT, _, rfl, _, g1, rfl, rfl, szB (c1 _ _) pg1 (by decide), ?_⟩
    refine ⟨_, rfl, _, rfl, _, rfl, T, rfl, sT, _, _, rfl, rfl, szB ((c1 _ _).app pg1) (c1 _ _) (by decide), ?_⟩
    exact q _ H9 ((((c1 _ _).app pg1).app (c1 _ _)).mono (by decide)) k09 bEnd
  -- 6
  refine ⟨_, rfl, rfl, _, rfl, itb (fun e => ?_) fun e => ?_⟩
  · refine ⟨_, rfl, _, rfl, _, rfl, T, rfl, sT, ?_⟩
    refine ⟨_, rfl, _, rfl, _, _, rfl, rfl, _, rfl, T, rfl, sT, _, _, rfl, rfl, szB (c1 _ _) (c1 _ _) (by decide), ?_⟩
    exact q _ H9 (((c1 _ _).app (c1 _ _)).mono (by decide)) k09 bEnd
  have nl1 : Pl 20 (Str.ofString "\n") := plB (by decide +kernel) (by decide +kernel)
  have sp1 : Pl 20 (Str.ofString " ") := plB (by decide +kernel) (by decide +kernel)
  refine ⟨_, rfl, T, _, rfl, rfl, szB pT nl1 (by decide), ?_⟩
  refine ⟨_, rfl, _, T, rfl, rfl, szB nl1 pT (by decide), ?_⟩
  refine ⟨_, rfl, T, _, rfl, rfl, szB pT sp1 (by decide), ?_⟩
  refine ⟨_, rfl, _, T, rfl, rfl, szB sp1 pT (by decide), ?_⟩
  refine ⟨_, rfl, T, _, rfl, rfl, szB pT sp1 (by decide), _, rfl, _, T, rfl, rfl, szB (pT.app sp1) pT (by decide), ?_⟩
  refine ⟨_, rfl, ⟨_, rfl⟩, T, rfl, rfl, Nat.le_trans lT (by decide), by show 6 ≤ sizeLine; decide, fun p20 hp20 => ?_⟩
  generalize e20 : upd H9 p20 _ = H20
  obtain ⟨s20, d20⟩ := nw e20 hp20
  have b20 := bb9.same s20
  have n20 : b ≠ p20 := bb9.ne hp20
  refine ⟨_, rfl, ?_⟩
  obtain ⟨o0_, e0_, i0_⟩ := id b20
  refine ⟨_, 6, _, o0_, rfl, e0_, i0_, by omega, by first | decide | omega, by first | decide | omega, fun c21 o1_ hc21 i1_ => ?_⟩
  generalize eH_ : upd _ _ o1_ = H21
  obtain ⟨k21, b21, oth21⟩ := tkf eH_ i1_
  clear eH_ i1_ i0_ e0_ o0_
  obtain ⟨z, mz, ez⟩ := menuS [T ++ Str.ofString "\n", Str.ofString "\n" ++ T, T ++ Str.ofString " ", Str.ofString " " ++ T, T ++ Str.ofString " " ++ T, Txt.upper T] (d := c21) hc21
  refine ⟨p20, _, _, _, rfl, rfl, SqL.of ((oth21 p20 (Ne.symm n20)).trans d20), ez, ?_⟩
  have pz : Pl 50000 z := by
    simp only [List.mem_cons, List.not_mem_nil, or_false] at mz
    rcases mz with rfl | rfl | rfl | rfl | rfl | rfl
    · exact (pT.app nl1).mono (by decide)
    · exact (nl1.app pT).mono (by decide)
    · exact (pT.app sp1).mono (by decide)
    · exact (sp1.app pT).mono (by decide)
    · exact ((pT.app sp1).app pT).mono (by decide)
    · exact pT.up.mono (by decide)
  exact q z H21 pz ((k09.trans (Kp.of s20)).trans k21) (b21.mono (by omega))
end
end NH
set_option maxHeartbeats 4000000
namespace NH
open PySem PySem.Spec PyProof.Rows L2 TL
/-- Ports(kinds), its question -/
theorem ports_made {C a x dx : Addr} {H : Hp} {xs : List V} {ks : List Kind} {G : VK} (ha : H a = some (.lst xs)) (hk : KindsAt H xs ks) (gk : GoodKinds ks) (nx : H x = none) (nd : H dx = none) (k : ∀ H', Same H H' → PortsAt C H' x ks → G .non H') :
    spInit C (.ref x :: ([.ref a] ++ [])) (upd (upd H dx (.own x)) x (.ins C dx [])) G E0 := by
  have s1 : Same H (upd (upd H dx (.own x)) x (.ins C dx [])) := fun c o e => by
    rw [upd_ne (ne_of_none e nx), upd_ne (ne_of_none e nd)]; exact e
  exact ⟨x, dx, a, xs, ks, rfl, upd_same, s1 _ _ ha, hk.same s1, gk, fun H' P keep => k H' (fun c o e => keep c o (ne_of_none e nx) (s1 c o e)) P⟩
theorem dg_pl : ∀ j : Nat, j < 3 → Pl 1 (dg j) := by
  intro j hj
  have z : ∀ j : Nat, j < 3 → ((tl (dg j)).all fun c => decide (c < 128)) = true ∧ (tl (dg j)).length ≤ 1 := by decide +kernel
  exact ⟨fun c hc => of_decide_eq_true (List.all_eq_true.mp (z j hj).1 c hc), (z j hj).2⟩
theorem sides_pl {ks : List Kind} (g : GoodKinds ks) {x : Str} (h : x ∈ sidesOf ks) : Pl 10 x := by
  obtain ⟨k, hk, hx⟩ : ∃ k ∈ ks, x ∈ sidesK k := by
    unfold sidesOf at h
    obtain ⟨l, hl, hx⟩ := List.mem_flatten.mp h
    obtain ⟨k, hk, rfl⟩ := List.mem_map.mp hl
    exact ⟨k, hk, hx⟩
  obtain ⟨j, hj, rfl⟩ := sidesK_mem.mp hx
  have tw := g.two k hk
  exact ((Ltr.pl (g.ltr k hk).1 (g.ltr k hk).2.2).app (dg_pl j (by omega))).mono (by decide)
/-- what stands beside the box -/
structure Cw (C p s m kl : Addr) (ks : List Kind) (nm ys : List Str) (kx : List V) (H : Hp) : Prop where
  pa : PortsAt C H p ks
  sh : H s = some (.lst (ys.map .str))
  mh : H m = some (.lst (nm.map .str))
  kh : H kl = some (.lst kx)
  ka : KindsAt H kx ks
theorem Cw.same {C p s m kl : Addr} {ks : List Kind} {nm ys : List Str} {kx : List V} {H H' : Hp} (c : Cw C p s m kl ks nm ys kx H) (k : Same H H') : Cw C p s m kl ks nm ys kx H' := ⟨c.pa.same k, k _ _ c.sh, k _ _ c.mh, k _ _ c.kh, c.ka.same k⟩
theorem PortsAt.hidb {C p b : Addr} {n : Nat} {ks : List Kind} {H : Hp} (x : PortsAt C H p ks) (hb : Bx b n H) : PortsAt C (hid [b] H) p ks := by
  obtain ⟨dx, fs, d, kvs, h1, l1, l2, h2, h3⟩ := x.ex
  obtain ⟨o, e, x, f, r, c, rfl, _⟩ := hb
  have n1 : p ≠ b := fun z => by rw [z, e] at h1; cases h1
  have n2 : d ≠ b := fun z => by rw [z, e] at h2; cases h2
  exact ⟨dx, fs, d, kvs, by rw [hid_out (by simpa using n1)]; exact h1, l1, l2, by rw [hid_out (by simpa using n2)]; exact h2, h3⟩
theorem GoodKinds.pos {ks : List Kind} (g : GoodKinds ks) : 0 < (sidesOf ks).length := by
  obtain ⟨k, kr, rfl⟩ : ∃ k kr, ks = k :: kr := by
    have z := g.len.1
    cases ks with
    | nil => exact absurd z (by decide)
    | cons k kr => exact ⟨k, kr, rfl⟩
  have tw := g.two k (by simp)
  have m : k.1 ++ dg 0 ∈ sidesOf (k :: kr) := by
    unfold sidesOf
    exact List.mem_flatten.mpr ⟨_, List.mem_map.mpr ⟨k, by simp, rfl⟩, sidesK_mem.mpr ⟨0, by omega, rfl⟩⟩
  exact List.length_pos_of_mem m
theorem GoodKinds.one {k : Kind} {kr : List Kind} (g : GoodKinds (k :: kr)) : GoodKinds [k] :=
  ⟨⟨by show 1 ≤ 1; decide, by show 1 ≤ 12; decide⟩, fun x h => g.ltr x (by rw [List.mem_singleton.mp h]; simp), fun x h => g.two x (by rw [List.mem_singleton.mp h]; simp), by simp⟩
theorem GoodKinds.turn {k : Kind} {kr : List Kind} (g : GoodKinds (k :: kr)) : GoodKinds ((k.1, 5 - k.2) :: kr) := by
  refine ⟨g.len, fun x h => ?_, fun x h => ?_, g.nd⟩
  · rcases List.mem_cons.mp h with rfl | h
    · exact g.ltr k (by simp)
    · exact g.ltr x (by simp [h])
  · rcases List.mem_cons.mp h with rfl | h
    · have z := g.two k (by simp)
      show 5 - k.2 = 2 ∨ 5 - k.2 = 3
      omega
    · exact g.two x (by simp [h])

theorem dg_no : ∀ j : Nat, j < 3 → 32 ∉ tl (dg j) := by decide +kernel
theorem sides_no {ks : List Kind} (g : GoodKinds ks) {x : Str} (h : x ∈ sidesOf ks) : 32 ∉ tl x := by
  obtain ⟨k, hk, hx⟩ : ∃ k ∈ ks, x ∈ sidesK k := by
    unfold sidesOf at h
    obtain ⟨l, hl, hx⟩ := List.mem_flatten.mp h
    obtain ⟨k, hk, rfl⟩ := List.mem_map.mp hl
    exact ⟨k, hk, hx⟩
  obtain ⟨j, hj, rfl⟩ := sidesK_mem.mp hx
  have tw := g.two k hk
  rw [tl_append]
  intro z
  rcases List.mem_append.mp z with z | z
  · have := (g.ltr k hk).1 32 z; omega
  · exact dg_no j (by omega) z
theorem sp_of {ks : List Kind} {nm : List Str} (g : GoodKinds ks) (np : ∀ y ∈ nm, NmG 10 y) : SP ks nm := ⟨np, fun s hs => ⟨sides_pl g hs, sides_no g hs⟩⟩
/-- the cell's frame: the box b; kinds at kl, names at m, sides at s, Ports at p -/
structure Ce (C b kl m s p : Addr) (ks : List Kind) (nm ys : List Str) (kx : List V) (nf : Nat) (H0 H : Hp) : Prop where
  kp : Kp [b] H0 H
  bx : Bx b nf H
  gk : GoodKinds ks
  pm : ys.Perm (sidesOf ks)
  nl : nm.length ≤ 2
  np : ∀ y ∈ nm, NmG 10 y
  cw : Cw C p s m kl ks nm ys kx (hid [b] H)
section
variable {C b kl m s p : Addr} {ks : List Kind} {nm ys : List Str} {kx : List V} {nf : Nat} {H0 H H' : Hp}
theorem Ce.same (c : Ce C b kl m s p ks nm ys kx nf H0 H) (k : Same H H') : Ce C b kl m s p ks nm ys kx nf H0 H' := { c with kp := c.kp.trans (Kp.of k), bx := c.bx.same k, cw := c.cw.same (Kp.hid (Kp.of k)) }
theorem Ce.tk {n2 : Nat} (c : Ce C b kl m s p ks nm ys kx nf H0 H) (k : Kp [b] H H') (h : Bx b n2 H') : Ce C b kl m s p ks nm ys kx n2 H0 H' := { c with kp := c.kp.trans k, bx := h, cw := c.cw.same (Kp.hid k) }
theorem Ce.nb (c : Ce C b kl m s p ks nm ys kx nf H0 H) : m ≠ b ∧ s ≠ b ∧ kl ≠ b := by
  refine ⟨fun z => ?_, fun z => ?_, fun z => ?_⟩
  · have e := c.cw.mh; rw [z, hid_in (by simp)] at e; cases e
  · have e := c.cw.sh; rw [z, hid_in (by simp)] at e; cases e
  · have e := c.cw.kh; rw [z, hid_in (by simp)] at e; cases e
theorem Ce.sp (c : Ce C b kl m s p ks nm ys kx nf H0 H) : SP ks nm := sp_of c.gk c.np
theorem Ce.gn (c : Ce C b kl m s p ks nm ys kx nf H0 H) : Gn [b] b s m ys nm H := by
  have y0 : 0 < ys.length := by rw [c.pm.length_eq]; exact c.gk.pos
  have y1 : ys.length ≤ 36 := by rw [c.pm.length_eq]; have z := sides_len c.gk.two; have := c.gk.len.2; omega
  exact { inb := by simp, al := fun a z => by rw [List.mem_singleton.mp z]; obtain ⟨o, e, _⟩ := c.bx; exact ⟨o, e⟩, so := by simpa using c.nb.2.1, sh := hid_le _ _ c.cw.sh, mo := by simpa using c.nb.1, mh := hid_le _ _ c.cw.mh, y0 := y0, yl := by omega, nl := c.nl, yp := fun y hy => sides_pl c.gk (c.pm.mem_iff.mp hy), np := fun y hy => (c.np y hy).pl }
end
def celN : List Str := ["box", "spoil", "great", "by_name", "kinds", "names", "sides", "ports", "conditions", "words", "deep", "texts", "others", "less", "fewer", "other", "wrong", "k", "one", "row"]
abbrev s_law_cell_right : Stmt := top 59
theorem sc_law_cell_right : FnScope ["box", "spoil", "great", "by_name", "kinds", "names", "sides", "ports", "conditions", "words", "deep", "texts", "others", "less", "fewer", "other", "wrong", "k", "one", "row"] ["box"] (defScope s_law_cell_right) := ⟨rfl, rfl, rfl, by decide +kernel, rfl, by decide +kernel, by decide +kernel⟩
/-- what is left of the body from its statement j on, where R holds -/
def Seg (X : Cx) (Po : Ends) (j : Nat) (R : L2.St → Hp → Prop) : Prop := ∃ t, PSs X ((defBody s_law_cell_right).drop j) t ∧ ∀ σ H, R σ H → t Po σ H
abbrev celX (P : Program) (w : World) (K : PySem.W.Frag) (mg : Str → Option Value) (base : Heap) (f : Addr) (cdv : Value) (A : Around) (outer : List Env) (s : Shared) (H : Hp) (E : XK) : Cx :=
  (cxOf CX0 P w K mg base ["box", "spoil", "great", "by_name", "kinds", "names", "sides", "ports", "conditions", "words", "deep", "texts", "others", "less", "fewer", "other", "wrong", "k", "one", "row"] "_law_cell_right" (defScope s_law_cell_right) f cdv A outer s H E).nox
abbrev celR (f : Addr) (cdv : Value) (A : Around) (s : Shared) : Prop := Room 20 (A.deeper (envOfC "_law_cell_right" (defScope s_law_cell_right) s.heap.objs.size f cdv))
end NH
set_option maxHeartbeats 4000000
namespace NH
open PySem PySem.Spec PyProof.Rows L2 TL
section
variable {P : Program} {w : World} {K : PySem.W.Frag} {mg : Str → Option Value} {base : Heap} {C fI fH : Addr} {f : Addr} {cdv : Value} {A : Around} {outer : List Env} {s : Shared} {H : Hp} {Q : VK} {E : XK}

/-- kinds, names, sides and Ports are there -/
def RcA (C b : Addr) (H : Hp) (σ : L2.St) (H' : Hp) : Prop := ∃ (spoil great : Nat) (bn : Bool) (kl m sA p : Addr) (ks : List Kind) (nm ys : List Str) (kx : List V),
  σ = [some (.ref b), some (.int (spoil : Int)), some (.int (great : Int)), some (.bl bn), some (.ref kl), some (.ref m), some (.ref sA), some (.ref p), none, none, none, none, none, none, none, none, none, none, none, none] ∧ Ce C b kl m sA p ks nm ys kx 1200 H H'
theorem seg_A (G : Bl mg) (T : PortsC K mg C fI fH) (gI : ∃ fd, Binds K fd ["self", "kinds"] [] ∧ FnOk P w K mg base CX0 8 fI fd ["self", "kinds"] (spInit C)) (hr : celR f cdv A s) (cT : Callee P w K mg base 2 "_law_take" ["box", "many"] spTake) (cKinds : Callee P w K mg base 6 "_law_kinds" ["box"] spKinds) (cNums : Callee P w K mg base 6 "_law_numbers" ["box"] spNumbers) (cSides : Callee P w K mg base 2 "_law_sides" ["kinds"] spSides)
    {b n : Nat} (hb : Bx b n H) (hn : n ≤ 1000) (nx : Seg (celX P w K mg base f cdv A outer s H E) { nx := fun _ H' => Q .non H', rt := Q } 3 (RcA C b H)) : ∃ t, PSs (celX P w K mg base f cdv A outer s H E) (defBody s_law_cell_right) t ∧ t { nx := fun _ H' => Q .non H', rt := Q } (start ["box", "spoil", "great", "by_name", "kinds", "names", "sides", "ports", "conditions", "words", "deep", "texts", "others", "less", "fewer", "other", "wrong", "k", "one", "row"] [.ref b]) H := by
  obtain ⟨fdI, bI, GI⟩ := gI
  obtain ⟨tR, hR, goR⟩ := nx
  have hr : Room 20 _ := hr
  refine ⟨_, (pss_cons (ps_asg (pe_tup (pa_cons (pe_cal cT hr (by omega) (pa_cons (pv 0) (pa_cons pe_int pa_nil))) (pa_cons (pe_cal cT hr (by omega) (pa_cons (pv 0) (pa_cons pe_int pa_nil))) (pa_cons (pe_cmpR op_eq (pe_cal cT hr (by omega) (pa_cons (pv 0) (pa_cons pe_int pa_nil))) pe_int (nomark _)) pa_nil)))) (pg_tup (by rfl) (pgs_cons (pg_name (i := 1) sc_law_cell_right.nd rfl (Or.inl rfl)) (pgs_cons (pg_name (i := 2) sc_law_cell_right.nd rfl (Or.inl rfl)) (pgs_cons (pg_name (i := 3) sc_law_cell_right.nd rfl (Or.inr rfl)) pgs_nil)))))
    (pss_cons (ps_asg (pe_tup (pa_cons (pe_cal cKinds hr (by omega) (pa_cons (pv 0) pa_nil)) (pa_cons (pe_cal cNums hr (by omega) (pa_cons (pv 0) pa_nil)) pa_nil))) (pg_tup (by rfl) (pgs_cons (pg_name (i := 4) sc_law_cell_right.nd rfl (Or.inl rfl)) (pgs_cons (pg_name (i := 5) sc_law_cell_right.nd rfl (Or.inr rfl)) pgs_nil))))
    (pss_cons (ps_asg (pe_tup (pa_cons (pe_cal cSides hr (by omega) (pa_cons (pv 4) pa_nil)) (pa_cons (pe_make T.mkP GI (hr.mono (by omega)) (by rfl) T.g bI .nil pass0 (pa_cons (pv 4) pa_nil)) pa_nil))) (pg_tup (by rfl) (pgs_cons (pg_name (i := 6) sc_law_cell_right.nd rfl (Or.inr rfl)) (pgs_cons (pg_name (i := 7) sc_law_cell_right.nd rfl (Or.inr rfl)) pgs_nil))))
    hR))), ?_⟩
  refine ⟨_, rfl, ?_⟩
  obtain ⟨o0_, e0_, i0_⟩ := id hb
  refine ⟨_, 4, _, o0_, rfl, e0_, i0_, by omega, by first | decide | omega, by first | decide | omega, fun spoil o1_ hsp i1_ => ?_⟩
  generalize eH_ : upd _ _ o1_ = H1
  obtain ⟨k1, b1, oth1⟩ := tkf eH_ i1_
  clear eH_ i1_ i0_ e0_ o0_
  refine ⟨_, rfl, ?_⟩
  obtain ⟨o0_, e0_, i0_⟩ := id b1
  refine ⟨_, 8, _, o0_, rfl, e0_, i0_, by omega, by first | decide | omega, by first | decide | omega, fun great o1_ hgt i1_ => ?_⟩
  generalize eH_ : upd _ _ o1_ = H2
  obtain ⟨k2, b2, oth2⟩ := tkf eH_ i1_
  clear eH_ i1_ i0_ e0_ o0_
  refine ⟨_, rfl, ?_⟩
  obtain ⟨o0_, e0_, i0_⟩ := id b2
  refine ⟨_, 2, _, o0_, rfl, e0_, i0_, by omega, by first | decide | omega, by first | decide | omega, fun bv o1_ hbv i1_ => ?_⟩
  generalize eH_ : upd _ _ o1_ = H3
  obtain ⟨k3, b3, oth3⟩ := tkf eH_ i1_
  clear eH_ i1_ i0_ e0_ o0_
  refine ⟨rfl, by show 3 ≤ sizeLine; decide, fun p1 hp1 => ?_⟩
  generalize e3 : upd _ p1 _ = H4
  obtain ⟨s4, d4⟩ := nw e3 hp1
  refine ⟨p1, _, rfl, SqT.of d4, rfl, _, _, rfl, _, _, rfl, _, _, rfl, rfl, ?_⟩
  have b4 := b3.same s4
  refine ⟨_, rfl, b, _, rfl, b4, by omega, fun kl kx ks H5 hk5 ka5 gk k5 b5 => ?_⟩
  refine ⟨_, rfl, b, _, rfl, b5, by omega, fun m nm H6 nl np k6 b6 mb mnew dm => ?_⟩
  refine ⟨by show 2 ≤ sizeLine; decide, fun p2 hp2 => ?_⟩
  generalize e7 : upd _ p2 _ = H7
  obtain ⟨s7, d7⟩ := nw e7 hp2
  refine ⟨p2, _, rfl, SqT.of d7, rfl, _, _, rfl, _, _, rfl, rfl, ?_⟩
  have x7 : Same (hid [b] H5) (hid [b] H7) := Kp.hid (k6.trans (Kp.of s7))
  have b7 := b6.same s7
  refine ⟨_, rfl, kl, kx, ks, rfl, hid_le _ _ (x7 _ _ hk5), (ka5.same x7).same hid_le, gk.fair, fun sA ys H8 s8 ns dS perm => ?_⟩
  refine ⟨_, rfl, fun p od nop nod neo => ports_made (s8 _ _ (hid_le _ _ (x7 _ _ hk5))) (((ka5.same x7).same hid_le).same s8) gk nop nod fun H9 s9 P9 => ⟨rfl, ?_⟩⟩
  refine ⟨by show 2 ≤ sizeLine; decide, fun p3 hp3 => ?_⟩
  generalize e10 : upd _ p3 _ = H10
  obtain ⟨s10, d10⟩ := nw e10 hp3
  refine ⟨p3, _, rfl, SqT.of d10, rfl, _, _, rfl, _, _, rfl, rfl, ?_⟩
  have s710 := (s8.trans s9).trans s10
  have b10 := b7.same s710
  have x10 : Same (hid [b] H5) (hid [b] H10) := x7.trans (Kp.hid (Kp.of s710))
  have sb : sA ≠ b := fun z => b7.ne ns z.symm
  have cw : Cw C p sA m kl ks nm ys kx (hid [b] H10) := ⟨(P9.same s10).hidb b10, by rw [hid_out (by simpa using sb)]; exact (s9.trans s10) _ _ dS, by rw [hid_out (by simpa using mb)]; exact (s7.trans s710) _ _ dm, x10 _ _ hk5, ka5.same x10⟩
  have kall : Kp [b] H H10 := (((((k1.trans k2).trans k3).trans (Kp.of s4)).trans k5).trans k6).trans (Kp.of (s7.trans s710))
  exact goR _ _ ⟨spoil, great, _, kl, m, sA, p, ks, nm, ys, kx, rfl, kall, b10.mono (by omega), gk, perm, nl, np, cw⟩
end
end NH
set_option maxHeartbeats 4000000
namespace NH
open PySem PySem.Spec PyProof.Rows L2 TL

/-- rows of words -/
def RowsAt (H : Hp) : List V → List (List Str) → Prop := Paired fun v ws => ∃ r, v = .ref r ∧ H r = some (.lst (ws.map V.str)) ∧ Row ws ∧ ws.length ≤ 200
theorem RowsAt.same {H H' : Hp} (k : Same H H') : ∀ {xs : List V} {rows : List (List Str)}, RowsAt H xs rows → RowsAt H' xs rows
  | _, _, .nil => .nil
  | _, _, .cons ⟨r, e, h, w⟩ t => .cons ⟨r, e, k _ _ h, w⟩ (RowsAt.same k t)
theorem wipe_one {σ : L2.St} {i : Nat} {v : V} (h : σ[i]? = some none) : True := trivial
section
variable {P : Program} {w : World} {K : PySem.W.Frag} {mg : Str → Option Value} {base : Heap} {C fI fH : Addr} {f : Addr} {cdv : Value} {A : Around} {outer : List Env} {s : Shared} {H : Hp} {Q : VK} {E : XK}

def RcB (C b : Addr) (H : Hp) (σ : L2.St) (H' : Hp) : Prop := ∃ (spoil great : Nat) (bn : Bool) (kl m sA p wl rd : Addr) (ks : List Kind) (nm ys : List Str) (kx xs : List V) (rows : List (List Str)) (wsd : List Str) (x8 x17 x18 : Option V),
  σ = [some (.ref b), some (.int (spoil : Int)), some (.int (great : Int)), some (.bl bn), some (.ref kl), some (.ref m), some (.ref sA), some (.ref p), x8, some (.ref wl), some (.ref rd), none, none, none, none, none, none, x17, x18, none] ∧ Ce C b kl m sA p ks nm ys kx 4000 H H' ∧
  hid [b] H' wl = some (.lst xs) ∧ RowsAt (hid [b] H') xs rows ∧ rows.length = 3 ∧ hid [b] H' rd = some (.lst (wsd.map V.str)) ∧ Row wsd ∧ wsd.length ≤ 200
theorem seg_B (G : Bl mg) (hr : celR f cdv A s) (cT : Callee P w K mg base 2 "_law_take" ["box", "many"] spTake) (cCo : ∀ D : Nat, Callee P w K mg base (4 + D) "_law_condition" ["box", "sides", "names", "deep"] (spCo D)) (cWo : ∀ n : Nat, Callee P w K mg base (2 + n) "_law_words" ["condition"] (spWo n)) (cWr : Callee P w K mg base 7 "_law_written_right" ["condition", "by_name"] spWr)
    {b : Addr} (nx : Seg (celX P w K mg base f cdv A outer s H E) { nx := fun _ H' => Q .non H', rt := Q } 6 (RcB C b H)) : Seg (celX P w K mg base f cdv A outer s H E) { nx := fun _ H' => Q .non H', rt := Q } 3 (RcA C b H) := by
  obtain ⟨tR, hR, goR⟩ := nx
  have hr : Room 20 _ := hr
  refine ⟨_, (pss_cons (ps_setLc (i := 8) (own := [("k", 17)]) (g := gName 17) rfl sc_law_cell_right.nd rfl rfl (sw_true rfl rfl rfl (by decide +kernel)) (pi_range1 (by rfl) G.b_range (pa_cons pe_int pa_nil)) (blkOk_by (N := ["box", "spoil", "great", "by_name", "kinds", "names", "sides", "ports", "conditions", "words", "deep", "texts", "others", "less", "fewer", "other", "wrong", "k", "one", "row"]) (sc := defScope s_law_cell_right) (by decide +kernel)) (fun _ _ _ _ _ => (pg_name (i := 17) sc_law_cell_right.nd rfl (Or.inl rfl))) (fun _ _ _ _ _ => pts_nil) (fun _ _ _ _ _ => (pe_cal (cCo 5) hr (by omega) (pa_cons (pv 0) (pa_cons (pv 6) (pa_cons (pv 5) (pa_cons (pe_op op_add pe_int (pe_cal cT hr (by omega) (pa_cons (pv 0) (pa_cons pe_int pa_nil)))) pa_nil)))))))
    (pss_cons (ps_if (pt_cmpR (op_neD hr.units) (pe_lc (own := [("one", 18)]) (g := gName 18) rfl sc_law_cell_right.nd (pi_list (pv 8)) (blkOk_by (N := ["box", "spoil", "great", "by_name", "kinds", "names", "sides", "ports", "conditions", "words", "deep", "texts", "others", "less", "fewer", "other", "wrong", "k", "one", "row"]) (sc := defScope s_law_cell_right) (by decide +kernel)) (fun _ _ _ _ _ => (pg_name (i := 18) sc_law_cell_right.nd rfl (Or.inl rfl))) (fun _ _ _ _ _ => (pts_one (pt_not (pt_val (pe_cal cWr hr (by omega) (pa_cons (pv 18) (pa_cons (pv 3) pa_nil))))))) (fun _ _ _ _ _ => (pv 18))) (pe_lst pa_nil) (nomark _)) (pss_one (ps_ret pe_bl)) pss_nil)
    (pss_cons (ps_par (i := 9) (j := 10) (by rfl) sc_law_cell_right.nd rfl rfl (by decide) rfl rfl (pa_cons (pe_lc (own := [("one", 18)]) (g := gName 18) rfl sc_law_cell_right.nd (pi_list (pv 8)) (blkOk_by (N := ["box", "spoil", "great", "by_name", "kinds", "names", "sides", "ports", "conditions", "words", "deep", "texts", "others", "less", "fewer", "other", "wrong", "k", "one", "row"]) (sc := defScope s_law_cell_right) (by decide +kernel)) (fun _ _ _ _ _ => (pg_name (i := 18) sc_law_cell_right.nd rfl (Or.inl rfl))) (fun _ _ _ _ _ => pts_nil) (fun _ _ _ _ _ => (pe_cal (cWo 5) hr (by omega) (pa_cons (pv 18) pa_nil)))) (pa_cons (pe_cal (cWo 5) hr (by omega) (pa_cons (pe_cal (cCo 5) hr (by omega) (pa_cons (pv 0) (pa_cons (pv 6) (pa_cons (pv 5) (pa_cons pe_int pa_nil))))) pa_nil)) pa_nil)) (by rfl))
    hR))), ?_⟩
  rintro σ H1 ⟨spoil, great, bn, kl, m, sA, p, ks, nm, ys, kx, rfl, ce⟩
  have hys : ∀ y ∈ ys, y ∈ sidesOf ks := fun y hy => ce.pm.mem_iff.mp hy
  have S := ce.sp
  have g1 := ce.gn
  have sub : ∀ a ∈ [b], a ∈ [b] := fun a z => z
  refine ⟨3, rfl, by decide, by decide, fun l hl => ?_⟩
  have lb : b ≠ l := ce.bx.ne hl
  refine lcAny (N := 3) (bs := [b]) (cs := [b]) (Rd := CondC ks nm 4) (walk_range (lo := 0)) (fun i H' => Gn (l :: [b]) b sA m ys nm H' ∧ Bx b (1200 + 400 * i) H') hl g1.al sub (by decide) (fun _ _ => trivial) (fun _ _ _ _ y => y.1) (fun o => ⟨g1.more hl (same_new hl) upd_same, ce.bx.same (same_new hl)⟩)
    (fun i H' o h => ⟨h.1.kp (cs := [l]) (Kp.atb (by simp)) (by simp) h.1.al.upd, h.2.put lb⟩) (fun _ => rfl) (fun i x H' hi y k a Si F kk => ?_) fun xs ds H2 lx k2 a2 S2 d2 hds cds => ?_
  · obtain ⟨gi, bi⟩ := Si
    refine ⟨_, rfl, _, rfl, _, rfl, _, rfl, ?_⟩
    obtain ⟨o0, e0, i0⟩ := id bi
    refine ⟨b, 4, _, o0, rfl, e0, i0, by omega, by decide, by decide, fun t o1 ht i1 => ?_⟩
    generalize eH : upd _ _ o1 = H3
    obtain ⟨k3, b3, oth3⟩ := tkf eH i1
    have g3 := gi.tk k3 b3
    have et : (1 : Int) + (t : Int) = ((t + 1 : Nat) : Int) := by omega
    refine ⟨_, _, rfl, rfl, l :: [b], b, sA, m, ys, nm, ks, _, t, by show [V.ref b, V.ref sA, V.ref m, V.int ((1 : Int) + (t : Int))] = _; rw [et], hys, by omega, by decide, g3, b3, by omega, fun v d H4 k4 a4 b4 h4 c4 => ?_⟩
    exact kk v d H4 (k3.trans k4) a4 h4 (c4.le (by omega)) ⟨g3.tk k4 b4, b4.mono (by omega)⟩
  have ce2 := ce.tk k2 S2.2
  have hdsA : DdL H2 xs ds := hds.same hid_le
  -- written right
  refine ⟨_, rfl, l, rfl, ⟨xs, SqL.of d2⟩, fun l2 hl2 => ?_⟩
  refine lc_list (K := K) (a := l) (xs := xs) (fun i H' => Same H2 H' ∧ H' l2 = some (.lst [])) ⟨same_new hl2, upd_same⟩ (fun i H' _ z => SqL.of (z.1 _ _ d2)) ?_ ?_
  · rintro i x H' hx ⟨sx, dx⟩
    obtain ⟨d, ed, hd⟩ := hdsA.at hx
    exact ⟨rfl, _, rfl, _, rfl, x, d, ks, nm, bn, rfl, hd.same sx, cds d (List.mem_of_getElem? ed), S, fun H6 s6 => ⟨_, rfl, iteF ⟨sx.trans s6, s6 _ _ dx⟩⟩⟩
  rintro H3 ⟨s3, d3⟩
  refine ⟨by show 0 ≤ sizeLine; decide, fun pz hpz => ?_⟩
  generalize e4 : upd _ pz _ = H4
  obtain ⟨s4, d4⟩ := nw e4 hpz
  refine ⟨.list [], .list [], .lst (SqL.of (s4 _ _ d3)) .nil, .lst (SqL.of d4) .nil, rfl, rfl, _, rfl, itf rfl ?_⟩
  have s24 := s3.trans s4
  have dl4 := s24 _ _ d2
  have ce4 := ce2.same s24
  have hds4 := hdsA.same s24
  clear s3 s4 d3 d4 e4 hpz hl2
  -- words
  refine ⟨_, rfl, l, rfl, ⟨xs, SqL.of dl4⟩, fun l3 hl3 => ?_⟩
  have lb3 : b ≠ l3 := ce4.bx.ne hl3
  refine lc_list (K := K) (a := l) (xs := xs) (fun i H' => ∃ (zs : List V) (rows : List (List Str)), Same H4 H' ∧ H' l3 = some (.lst zs) ∧ RowsAt (hid [b, l3] H') zs rows ∧ rows.length = i) ⟨[], [], same_new hl3, upd_same, .nil, rfl⟩ (fun i H' _ ⟨_, _, z, _⟩ => SqL.of (z _ _ dl4)) ?_ ?_
  · rintro i x H' hx ⟨zs, rows, sx, dx, ra, lr⟩
    obtain ⟨d, ed, hd⟩ := hds4.at hx
    have c := (cds d (List.mem_of_getElem? ed)).le (show 4 ≤ 5 by decide)
    have hi : i < xs.length := (List.getElem?_eq_some_iff.mp hx).1
    refine ⟨rfl, tyes ?_⟩
    refine iteT ?_
    refine ⟨_, rfl, x, d, ks, nm, rfl, hd.same sx, c, by decide, fun r H5 nr s5 d5 => ?_⟩
    have lz : zs.length = rows.length := Paired.length ra
    have rb : r ≠ b := fun z => (ce4.bx.same sx).ne nr z.symm
    have rl : r ≠ l3 := fun z => by rw [z, dx] at nr; cases nr
    refine ⟨zs, s5 _ _ dx, small1000 (by omega), zs ++ [.ref r], rows ++ [wdC 5 d], Same.put (sx.trans s5) hl3, upd_same, ?_, by rw [List.length_append, lr]; rfl⟩
    refine pairAll_append (RowsAt.same ?_ ra) ⟨r, rfl, ?_, c.row S (by decide), by have z := c.wlen; have e : 6 * 2 ^ 5 = 192 := rfl; omega⟩
    · exact Kp.hid ((Kp.of s5).put2 (by simp))
    · rw [hid_out (by simp; exact ⟨rb, rl⟩), upd_ne rl]; exact d5
  rintro H5 ⟨zs, rows, s5, d5, ra, lr⟩
  rw [lx] at lr
  have ce5 := ce4.same s5
  have ce5b : Bx b 2400 H5 := ce5.bx.mono (by decide)
  have ra5 : RowsAt (hid [b] H5) zs rows := ra.same (hid_sub (by simp))
  have w5 : hid [b] H5 l3 = some (.lst zs) := by rw [hid_out (by simpa using Ne.symm lb3)]; exact d5
  -- the deep one
  refine ⟨_, rfl, _, rfl, _, rfl, [b], b, sA, m, ys, nm, ks, 2400, 4, rfl, hys, by decide, by decide, ce5.gn, ce5b, by decide, fun v d H6 k6 a6 b6 h6 c6 => ?_⟩
  have b6' : Bx b 4000 H6 := b6.mono (by decide)
  refine ⟨v, d, ks, nm, rfl, h6.same hid_le, c6, by decide, fun rd H7 nr7 s7 d7 => ?_⟩
  have ce7 := (ce5.tk k6 b6').same s7
  have x57 : Same (hid [b] H5) (hid [b] H7) := Kp.hid (k6.trans (Kp.of s7))
  have rdb : rd ≠ b := fun z => b6.ne nr7 z.symm
  refine ⟨_, _, rfl, ?_⟩
  exact goR _ _ ⟨spoil, great, bn, kl, m, sA, p, l3, rd, ks, nm, ys, kx, zs, rows, wdC 5 d, _, _, _, rfl, ce7, x57 _ _ w5, ra5.same x57, lr, by rw [hid_out (by simpa using rdb)]; exact d7, c6.row S (by decide), by have z : (wdC 5 d).length + 1 ≤ 6 * 2 ^ 5 := c6.wlen; have e : 6 * 2 ^ 5 = 192 := rfl; omega⟩
end
end NH
set_option maxHeartbeats 4000000
namespace NH
open PySem PySem.Spec PyProof.Rows L2 TL

def rJn (K : PySem.W.Frag) : V → List V → Hp → VK → Prop := fun x xs H Q => ∃ (a : Str) (p : Addr) (zs : List Str), x = V.str a ∧ xs = [V.ref p] ∧ (SqL K H p (zs.map V.str) ∨ SqT K H p (zs.map V.str)) ∧ (zs.map (·.length)).sum + zs.length * a.length ≤ 16777216 ∧ Q (V.str (Txt.join a zs)) H
theorem pe_joinK {X : Cx} {K : PySem.W.Frag} {o e : Expr} {to te : TE} {apos pos : Pos} (hK : X.K = K) (ho : PE X o to) (he : PE X e te) (hs : starEach [e] X.env = [(false, eval e X.env)] := by rfl)
    (hbase : attributeBase o "join" X.env (eval o X.env) = eval o X.env := by rfl) (hline : (apos.endLine == pos.line) = true := by rfl) : PE X (.Call (.Attribute o "join" apos) [e] [] pos) (tM1 (rJn K) to te) := by
  subst hK
  exact pe_join ho he hs hbase hline
theorem rows_at {H : Hp} {xs : List V} {rows : List (List Str)} (h : RowsAt H xs rows) {i : Nat} {x : V} (hx : xs[i]? = some x) : ∃ r ws, x = .ref r ∧ H r = some (.lst (ws.map V.str)) ∧ Row ws := by
  obtain ⟨ws, _, r, e, h, w, _⟩ := paired_get h hx
  exact ⟨r, ws, e, h, w⟩
section
variable {P : Program} {w : World} {K : PySem.W.Frag} {mg : Str → Option Value} {base : Heap} {C fI fH : Addr} {f : Addr} {cdv : Value} {A : Around} {outer : List Env} {s : Shared} {H : Hp} {Q : VK} {E : XK}

/-- some texts are there -/
def RcC1 (C b : Addr) (nf : Nat) (H : Hp) (σ : L2.St) (H' : Hp) : Prop := ∃ (spoil great : Nat) (bn : Bool) (kl m sA p tx : Addr) (ks : List Kind) (nm ys : List Str) (kx : List V) (ts : List Str) (x8 x9 x10 x17 x18 x19 : Option V),
  σ = [some (.ref b), some (.int (spoil : Int)), some (.int (great : Int)), some (.bl bn), some (.ref kl), some (.ref m), some (.ref sA), some (.ref p), x8, x9, x10, some (.ref tx), none, none, none, none, none, x17, x18, x19] ∧ Ce C b kl m sA p ks nm ys kx nf H H' ∧
  hid [b] H' tx = some (.lst (ts.map V.str)) ∧ (∀ t ∈ ts, Pl 60000 t) ∧ ts.length ≤ 20 + 5 * (nf - 5000)
theorem seg_C1 (G : Bl mg) (hr : celR f cdv A s) (cT : Callee P w K mg base 2 "_law_take" ["box", "many"] spTake) (cSp : Callee P w K mg base 3 "_law_spoilt" ["box", "words", "sides"] spSp)
    {b : Addr} (nx : Seg (celX P w K mg base f cdv A outer s H E) { nx := fun _ H' => Q .non H', rt := Q } 8 (RcC1 C b 5000 H)) : Seg (celX P w K mg base f cdv A outer s H E) { nx := fun _ H' => Q .non H', rt := Q } 6 (RcB C b H) := by
  obtain ⟨tR, hR, goR⟩ := nx
  have hr : Room 20 _ := hr
  refine ⟨_, (pss_cons (ps_setLc (i := 11) (own := [("row", 19)]) (g := gName 19) rfl sc_law_cell_right.nd rfl rfl (sw_true rfl rfl rfl (by decide +kernel)) (pi_list (pe_op op_cat (pv 9) (pe_lst (pa_cons (pv 10) (pa_cons (pe_op op_cat (pe_lst (pa_cons pe_str pa_nil)) (pe_ix ix_list (pv 9) pe_int (fun _ _ => rfl))) (pa_cons (pe_op op_cat (pe_ix ix_list (pv 9) pe_int (fun _ _ => rfl)) (pe_ix ix_list (pv 9) pe_int (fun _ _ => rfl))) pa_nil)))))) (blkOk_by (N := ["box", "spoil", "great", "by_name", "kinds", "names", "sides", "ports", "conditions", "words", "deep", "texts", "others", "less", "fewer", "other", "wrong", "k", "one", "row"]) (sc := defScope s_law_cell_right) (by decide +kernel)) (fun _ _ _ _ _ => (pg_name (i := 19) sc_law_cell_right.nd rfl (Or.inl rfl))) (fun _ _ _ _ _ => pts_nil) (fun _ _ _ _ _ => (pe_joinK (K := K) rfl pe_str (pv 19))))
    (pss_cons (ps_if (pt_cmpR op_gt (pv 1) pe_int (nomark _)) (pss_one (ps_set (i := 11) sc_law_cell_right.nd rfl (Or.inl rfl) (pe_op op_cat (pv 11) (pe_lc (own := [("row", 19)]) (g := gName 19) rfl sc_law_cell_right.nd (pi_list (pe_op op_cat (pv 9) (pv 9))) (blkOk_by (N := ["box", "spoil", "great", "by_name", "kinds", "names", "sides", "ports", "conditions", "words", "deep", "texts", "others", "less", "fewer", "other", "wrong", "k", "one", "row"]) (sc := defScope s_law_cell_right) (by decide +kernel)) (fun _ _ _ _ _ => (pg_name (i := 19) sc_law_cell_right.nd rfl (Or.inl rfl))) (fun _ _ _ _ _ => pts_nil) (fun _ _ _ _ _ => (pe_cal cSp hr (by omega) (pa_cons (pv 0) (pa_cons (pv 19) (pa_cons (pv 6) pa_nil))))))))) pss_nil)
    hR)), ?_⟩
  rintro σ H1 ⟨spoil, great, bn, kl, m, sA, p, wl, rd, ks, nm, ys, kx, zs, rows, wsd, x8, x17, x18, rfl, ce, hw, ra, lr, hd, rwd, lwd⟩
  have hwb : wl ≠ b := fun z => by rw [z, hid_in (by simp)] at hw; cases hw
  have hw1 := hid_le _ _ hw
  have hd1 := hid_le _ _ hd
  have ra1 : RowsAt H1 zs rows := ra.same hid_le
  obtain ⟨r0, r1, r2, w0, w1, w2, rfl, rfl, ⟨h0, q0, l0⟩, ⟨h1, q1, l1⟩, ⟨h2, q2, l2⟩⟩ : ∃ r0 r1 r2 w0 w1 w2, zs = [.ref r0, .ref r1, .ref r2] ∧ rows = [w0, w1, w2] ∧ (H1 r0 = some (.lst (w0.map V.str)) ∧ Row w0 ∧ w0.length ≤ 200) ∧ (H1 r1 = some (.lst (w1.map V.str)) ∧ Row w1 ∧ w1.length ≤ 200) ∧ (H1 r2 = some (.lst (w2.map V.str)) ∧ Row w2 ∧ w2.length ≤ 200) := by
    cases ra1 with
    | nil => cases lr
    | cons a t => cases t with
      | nil => cases lr
      | cons b' t => cases t with
        | nil => cases lr
        | cons c t => cases t with
          | cons _ _ => cases lr
          | nil =>
            obtain ⟨r0, rfl, a1, a2⟩ := a
            obtain ⟨r1, rfl, b1, b2⟩ := b'
            obtain ⟨r2, rfl, c1, c2⟩ := c
            exact ⟨r0, r1, r2, _, _, _, rfl, rfl, ⟨a1, a2⟩, ⟨b1, b2⟩, ⟨c1, c2⟩⟩
  have i1 : atI [V.ref r0, V.ref r1, V.ref r2] 1 = some (.ref r1) := atI_nat (j := 1) rfl
  have i2 : atI [V.ref r0, V.ref r1, V.ref r2] 2 = some (.ref r2) := atI_nat (j := 2) rfl
  refine ⟨_, rfl, _, rfl, by show 1 ≤ sizeLine; decide, fun p2 hp2 => ?_⟩
  generalize e2 : upd _ p2 _ = H2
  obtain ⟨s2, d2⟩ := nw e2 hp2
  refine ⟨_, rfl, wl, _, 0, _, rfl, rfl, SqL.of (s2 _ _ hw1), at0 _ _, ?_⟩
  refine ⟨p2, r0, [V.str (Str.ofString "not")], _, rfl, rfl, d2, s2 _ _ h0, by rw [List.length_map]; exact Nat.le_of_lt (small1000 (by show 1 + w0.length ≤ 1000; omega)), fun p3 hp3 => ?_⟩
  generalize e3 : upd _ p3 _ = H3
  obtain ⟨s3, d3⟩ := nw e3 hp3
  have d3 : H3 p3 = some (.lst ((Str.ofString "not" :: w0).map V.str)) := d3
  have s13 := s2.trans s3
  refine ⟨_, rfl, wl, _, 1, _, rfl, rfl, SqL.of (s13 _ _ hw1), i1, _, rfl, wl, _, 2, _, rfl, rfl, SqL.of (s13 _ _ hw1), i2, ?_⟩
  refine ⟨r1, r2, _, _, rfl, rfl, s13 _ _ h1, s13 _ _ h2, by rw [List.length_map, List.length_map]; exact Nat.le_of_lt (small1000 (by omega)), fun p4 hp4 => ?_⟩
  generalize e4 : upd _ p4 _ = H4
  obtain ⟨s4, d4⟩ := nw e4 hp4
  rw [← List.map_append] at d4
  refine ⟨by show 3 ≤ sizeLine; decide, fun p5 hp5 => ?_⟩
  generalize e5 : upd _ p5 _ = H5
  obtain ⟨s5, d5⟩ := nw e5 hp5
  have s15 := (s13.trans s4).trans s5
  refine ⟨wl, p5, _, _, rfl, rfl, s15 _ _ hw1, d5, by show 6 ≤ sizeLine; decide, fun p6 hp6 => ?_⟩
  generalize e6 : upd _ p6 _ = H6
  obtain ⟨s6, d6⟩ := nw e6 hp6
  have s16 := s15.trans s6
  have rnot : Row (Str.ofString "not" :: w0) := ⟨List.cons_ne_nil _ _, by rw [List.length_cons]; omega, fun w hw => by
    rcases List.mem_cons.mp hw with rfl | hw
    · exact (pl_of "not" (by decide +kernel)).mono (by decide)
    · exact q0.pl w hw⟩
  have rsum : Row (w1 ++ w2) := ⟨by simp [q1.ne], by rw [List.length_append]; omega, fun w hw => (List.mem_append.mp hw).elim (q1.pl w) (q2.pl w)⟩
  have at6 : ∀ (i : Nat) (x : V), [V.ref r0, V.ref r1, V.ref r2, V.ref rd, V.ref p3, V.ref p4][i]? = some x → ∃ r ws, x = .ref r ∧ H6 r = some (.lst (ws.map V.str)) ∧ Row ws := by
    intro i x hx
    match i, hx with
    | 0, hx => cases hx; exact ⟨r0, w0, rfl, s16 _ _ h0, q0⟩
    | 1, hx => cases hx; exact ⟨r1, w1, rfl, s16 _ _ h1, q1⟩
    | 2, hx => cases hx; exact ⟨r2, w2, rfl, s16 _ _ h2, q2⟩
    | 3, hx => cases hx; exact ⟨rd, wsd, rfl, s16 _ _ hd1, rwd⟩
    | 4, hx => cases hx; exact ⟨p3, _, rfl, ((s4.trans s5).trans s6) _ _ d3, rnot⟩
    | 5, hx => cases hx; exact ⟨p4, _, rfl, (s5.trans s6) _ _ d4, rsum⟩
    | _ + 6, hx => cases hx
  refine ⟨p6, rfl, ⟨_, SqL.of d6⟩, fun l hl => ?_⟩
  refine lc_list (K := K) (a := p6) (xs := [V.ref r0, V.ref r1, V.ref r2, V.ref rd, V.ref p3, V.ref p4]) (fun i H' => ∃ ts : List Str, Same H6 H' ∧ H' l = some (.lst (ts.map V.str)) ∧ ts.length = i ∧ ∀ t ∈ ts, Pl 60000 t) ⟨[], same_new hl, upd_same, rfl, fun t ht => nomatch ht⟩ (fun i H' _ ⟨_, z, _⟩ => SqL.of (z _ _ d6)) ?_ ?_
  · rintro i x H' hx ⟨ts, sx, dx, lt, pt⟩
    have hi : i < 6 := (List.getElem?_eq_some_iff.mp hx).1
    obtain ⟨r, ws, rfl, hr6, row⟩ := at6 i x hx
    refine ⟨rfl, tyes ?_⟩
    refine iteT ?_
    refine ⟨⟨_, rfl⟩, _, rfl, _, r, ws, rfl, rfl, .inl (SqL.of (sx _ _ hr6)), row.join, _, dx, small1000 (by rw [List.length_map]; omega), ?_⟩
    refine ⟨ts ++ [Txt.join (Str.ofString " ") ws], Same.put sx hl, by rw [upd_same, List.map_append]; rfl, by rw [List.length_append, lt]; rfl, fun t ht => ?_⟩
    rcases List.mem_append.mp ht with ht | ht
    · exact pt t ht
    · rw [List.mem_singleton.mp ht]; exact (join_pl row.pl).mono (by have := row.len; omega)
  rintro H7 ⟨ts, s7, d7, lt, pt⟩
  have lt : ts.length = 6 := lt
  have s17 := s16.trans s7
  have ce7 := ce.same s17
  have lnb : l ≠ b := fun z => (ce.same s16).bx.ne hl z.symm
  have hw7 := s17 _ _ hw1
  -- spoilt
  refine ⟨_, rfl, _, _, rfl, rfl, _, rfl, itd (fun h9 => ?_) fun h9 => ?_⟩
  · refine ⟨_, rfl, _, rfl, _, rfl, wl, wl, _, _, rfl, rfl, hw7, hw7, by show 6 ≤ sizeLine; decide, fun p8 hp8 => ?_⟩
    generalize e8 : upd _ p8 _ = H8
    obtain ⟨s8, d8⟩ := nw e8 hp8
    have s18 := s17.trans s8
    have rnb : r0 ≠ b ∧ r1 ≠ b ∧ r2 ≠ b := by
      obtain ⟨o, eb, ib⟩ := ce.bx
      refine ⟨fun z => ?_, fun z => ?_, fun z => ?_⟩
      · rw [z, eb] at h0; cases h0; exact box_strs ib
      · rw [z, eb] at h1; cases h1; exact box_strs ib
      · rw [z, eb] at h2; cases h2; exact box_strs ib
    have at8 : ∀ (i : Nat) (x : V), ([V.ref r0, V.ref r1, V.ref r2] ++ [V.ref r0, V.ref r1, V.ref r2])[i]? = some x → ∃ r ws, x = .ref r ∧ H8 r = some (.lst (ws.map V.str)) ∧ Row ws ∧ r ≠ b := by
      intro i x hx
      match i, hx with
      | 0, hx => cases hx; exact ⟨r0, w0, rfl, s18 _ _ h0, q0, rnb.1⟩
      | 1, hx => cases hx; exact ⟨r1, w1, rfl, s18 _ _ h1, q1, rnb.2.1⟩
      | 2, hx => cases hx; exact ⟨r2, w2, rfl, s18 _ _ h2, q2, rnb.2.2⟩
      | 3, hx => cases hx; exact ⟨r0, w0, rfl, s18 _ _ h0, q0, rnb.1⟩
      | 4, hx => cases hx; exact ⟨r1, w1, rfl, s18 _ _ h1, q1, rnb.2.1⟩
      | 5, hx => cases hx; exact ⟨r2, w2, rfl, s18 _ _ h2, q2, rnb.2.2⟩
      | _ + 6, hx => cases hx
    have ce8 := ce7.same s8
    have g8 := ce8.gn
    have p8b : p8 ≠ b := fun z => ce7.bx.ne hp8 z.symm
    refine ⟨p8, rfl, ⟨_, SqL.of d8⟩, fun l2 hl2 => ?_⟩
    have l2b : b ≠ l2 := ce8.bx.ne hl2
    refine lc_list (K := K) (a := p8) (xs := [V.ref r0, V.ref r1, V.ref r2] ++ [V.ref r0, V.ref r1, V.ref r2]) (fun i H' => ∃ us : List Str, Kp [b] H8 H' ∧ Bx b (4000 + 20 * i) H' ∧ H' l2 = some (.lst (us.map V.str)) ∧ us.length = i ∧ ∀ t ∈ us, Pl 60000 t) ⟨[], Kp.new hl2, ce8.bx.same (same_new hl2), upd_same, rfl, fun t ht => nomatch ht⟩ (fun i H' _ ⟨_, z, _⟩ => SqL.of (z p8 _ (by simpa using p8b) d8)) ?_ ?_
    · rintro i x H' hx ⟨us, kx', bx', dx, lu, pu⟩
      have hi : i < 6 := (List.getElem?_eq_some_iff.mp hx).1
      obtain ⟨r, ws, rfl, hr8, row, rnb'⟩ := at8 i x hx
      refine ⟨rfl, tyes ?_⟩
      refine iteT ?_
      refine ⟨_, rfl, _, rfl, _, rfl, b, r, sA, _, ws, ys, rfl, bx', by omega, kx' _ _ (by simpa using rnb') hr8, row, kx' _ _ (by simpa using ce.nb.2.1) g8.sh, g8.y0, g8.yl, g8.yp, rnb', ce.nb.2.1, fun t H'' pt' k'' b'' => ?_⟩
      refine ⟨_, k'' _ _ (by simpa using Ne.symm l2b) dx, small1000 (by rw [List.length_map]; omega), us ++ [t], (kx'.trans k'').put hl2, (b''.mono (by omega)).put l2b, by rw [upd_same, List.map_append]; rfl, by rw [List.length_append, lu]; rfl, fun z hz => ?_⟩
      rcases List.mem_append.mp hz with hz | hz
      · exact pu z hz
      · rw [List.mem_singleton.mp hz]; exact pt'.mono (by decide)
    rintro H9 ⟨us, k9, b9, d9, lu, pu⟩
    have lu : us.length = 6 := lu
    have b9 : Bx b 5000 H9 := b9.mono (by show 4000 + 20 * 6 ≤ 5000; decide)
    have d79 := k9 _ _ (by simpa using lnb) (s8 _ _ d7)
    refine ⟨l, l2, _, _, rfl, rfl, d79, d9, by rw [List.length_map, List.length_map]; exact Nat.le_of_lt (small1000 (by omega)), fun p10 hp10 => ?_⟩
    generalize e10 : upd _ p10 _ = H10
    obtain ⟨s10, d10⟩ := nw e10 hp10
    rw [← List.map_append] at d10
    have nb10 : p10 ≠ b := fun z => b9.ne hp10 z.symm
    exact goR _ _ ⟨spoil, great, bn, kl, m, sA, p, p10, ks, nm, ys, kx, ts ++ us, _, _, _, _, _, _, rfl, (ce8.tk k9 b9).same s10, by rw [hid_out (by simpa using nb10)]; exact d10, fun t ht => (List.mem_append.mp ht).elim (pt t) (pu t), by rw [List.length_append]; omega⟩
  · exact goR _ _ ⟨spoil, great, bn, kl, m, sA, p, l, ks, nm, ys, kx, ts, _, _, _, _, _, _, rfl, { ce7 with bx := ce7.bx.mono (by decide) }, by rw [hid_out (by simpa using lnb)]; exact d7, pt, by omega⟩
end
end NH
set_option maxHeartbeats 4000000
namespace NH
open PySem PySem.Spec PyProof.Rows L2 TL
theorem op_mul_str {X : Cx} : OpR X (binaryOp .Mult) (fun x y H Q => ∃ (a : Str) (k : Int), x = .str a ∧ y = .int k ∧ MulOk a k ∧ Q (.str (Txt.mul a k)) H) := by
  intro pins s σ H x y v u Q I rx ry h
  obtain ⟨a, k, rfl, rfl, ok, q⟩ := h
  obtain ⟨t, rfl⟩ := rx
  obtain ⟨t', rfl⟩ := ry
  exact SB.mul ok fun t2 tk => ⟨.str (Txt.mul a k), H, I.tok _, ⟨_, rfl⟩, q⟩
theorem fold_tl (a : Array Nat) : ∀ (m : Nat) (acc : Array Nat), ((List.replicate m a).foldl (· ++ ·) acc).toList = acc.toList ++ (List.replicate m a.toList).flatten
  | 0, acc => by simp
  | m + 1, acc => by
    rw [List.replicate_succ, List.foldl_cons, fold_tl a m (acc ++ a), List.replicate_succ, List.flatten_cons, Array.toList_append, List.append_assoc]
theorem mul_pl {x : Str} {k : Nat} {n : Int} (h : Pl k x) : Pl (n.toNat * k + k) (Txt.mul x n) := by
  unfold Txt.mul
  split
  · exact ⟨fun c hc => (nomatch hc), Nat.zero_le _⟩
  · split
    · exact h.mono (Nat.le_add_left _ _)
    · have e : tl ⟨(List.replicate n.toNat x.cps).foldl (· ++ ·) #[]⟩ = (List.replicate n.toNat (tl x)).flatten := by
        show ((List.replicate n.toNat x.cps).foldl (· ++ ·) #[]).toList = _
        rw [fold_tl]; rfl
      unfold Pl
      rw [e]
      refine ⟨fun c hc => ?_, ?_⟩
      · obtain ⟨l, hl, hc⟩ := List.mem_flatten.mp hc
        rw [List.eq_of_mem_replicate hl] at hc
        exact h.1 c hc
      · rw [List.length_flatten, List.map_replicate, List.sum_replicate_nat]
        exact Nat.le_trans (Nat.mul_le_mul_left _ h.2) (Nat.le_add_right _ _)
end NH
set_option maxHeartbeats 4000000
namespace NH
open PySem PySem.Spec PyProof.Rows L2 TL
section
variable {P : Program} {w : World} {K : PySem.W.Frag} {mg : Str → Option Value} {base : Heap} {C fI fH : Addr} {f : Addr} {cdv : Value} {A : Around} {outer : List Env} {s : Shared} {H : Hp} {Q : VK} {E : XK}

theorem seg_C2 (G : Bl mg) (hr : celR f cdv A s) {b : Addr} (nx : Seg (celX P w K mg base f cdv A outer s H E) { nx := fun _ H' => Q .non H', rt := Q } 10 (RcC1 C b 5001 H)) : Seg (celX P w K mg base f cdv A outer s H E) { nx := fun _ H' => Q .non H', rt := Q } 8 (RcC1 C b 5000 H) := by
  obtain ⟨tR, hR, goR⟩ := nx
  have hr : Room 20 _ := hr
  refine ⟨_, (pss_cons (ps_set (i := 11) sc_law_cell_right.nd rfl (Or.inl rfl) (pe_op op_cat (pv 11) (pe_lst (pa_cons pe_str (pa_cons (pe_op op_add_str pe_str (pe_op op_mul_str pe_str (pe_ix ix_list (pe_lst (pa_cons pe_int (pa_cons pe_int pa_nil))) (pe_callTy call_int1 (by rfl) G.b_int (by decide +kernel) (pa_cons (pe_cmpR op_lt (pv 2) pe_int (nomark _)) pa_nil)) (fun _ _ => rfl)))) pa_nil)))))
    (pss_cons (ps_if (pt_cmpR op_eq (pv 2) pe_int (nomark _)) (pss_one (ps_set (i := 11) sc_law_cell_right.nd rfl (Or.inl rfl) (pe_op op_cat (pv 11) (pe_lst (pa_cons (pe_op op_add_str (pe_op op_mul_str pe_str pe_int) pe_str) (pa_cons (pe_op op_add_str (pe_op op_mul_str pe_str pe_int) pe_str) (pa_cons (pe_op op_add_str (pe_op op_add_str pe_str (pe_op op_mul_str pe_str pe_int)) pe_str) pa_nil))))))) pss_nil)
    hR)), ?_⟩
  rintro σ H1 ⟨spoil, great, bn, kl, m, sA, p, tx, ks, nm, ys, kx, ts, x8, x9, x10, x17, x18, x19, rfl, ce, ht, pt, lt⟩
  have ht1 := hid_le _ _ ht
  have szB : ∀ {k j : Nat} {x y : Str}, Pl k x → Pl j y → k + j ≤ 60000 → x.length + y.length ≤ sizeLine := fun h1 h2 l => Nat.le_trans (Nat.add_le_add h1.len h2.len) (Nat.le_trans l (by decide))
  have P : ∀ {k : Nat} {x : Str}, (((tl x).all fun c => decide (c < 128)) && decide ((tl x).length ≤ k)) = true → Pl k x := fun h => by
    rw [Bool.and_eq_true] at h; exact plB h.1 (of_decide_eq_true h.2)
  have pa : Pl 10 (Str.ofString "1 is 1") := P (by decide +kernel)
  have pb : Pl 10 (Str.ofString "+1 is 1") := P (by decide +kernel)
  have pc : Pl 10 (Str.ofString "1 is ") := P (by decide +kernel)
  have pd : Pl 10 (Str.ofString "1") := P (by decide +kernel)
  have p7 : Pl 1 (Str.ofString "7") := P (by decide +kernel)
  have p0 : Pl 1 (Str.ofString "0") := P (by decide +kernel)
  have pn : Pl 5 (Str.ofString "not ") := P (by decide +kernel)
  have po : Pl 5 (Str.ofString "both ") := P (by decide +kernel)
  refine ⟨_, rfl, by show 2 ≤ sizeLine; decide, fun p2 hp2 => ?_⟩
  generalize e2 : upd _ p2 _ = H2
  obtain ⟨s2, d2⟩ := nw e2 hp2
  obtain ⟨kk, ek, ok, k5⟩ : ∃ kk : Nat, atI [V.int 2, V.int 5000] (if decide ((great : Int) < 2) = true then 1 else 0) = some (.int (kk : Int)) ∧ MulOk (Str.ofString "7") (kk : Int) ∧ kk ≤ 5000 := by
    by_cases h : (great : Int) < 2
    · rw [decide_eq_true h]
      exact ⟨5000, rfl, ⟨by decide +kernel, fun _ _ => by decide +kernel, fun _ _ => by decide +kernel⟩, by decide⟩
    · rw [decide_eq_false h]
      exact ⟨2, rfl, ⟨by decide +kernel, fun _ _ => by decide +kernel, fun _ _ => by decide +kernel⟩, by decide⟩
  have pm := mul_pl (n := (kk : Int)) p7
  rw [Int.toNat_natCast] at pm
  have pm : Pl 6000 (Txt.mul (Str.ofString "7") (kk : Int)) := pm.mono (by omega)
  refine ⟨_, rfl, _, _, rfl, rfl, .inr ⟨_, rfl, ?_⟩⟩
  refine ⟨p2, _, _, _, rfl, rfl, SqL.of d2, ek, _, _, rfl, rfl, ok, _, _, rfl, rfl, szB pc pm (by decide), by show 2 ≤ sizeLine; decide, fun p3 hp3 => ?_⟩
  generalize e3 : upd _ p3 _ = H3
  obtain ⟨s3, d3⟩ := nw e3 hp3
  have d3 : H3 p3 = some (.lst ([Str.ofString "+1 is 1", Str.ofString "1 is " ++ Txt.mul (Str.ofString "7") (kk : Int)].map V.str)) := d3
  have s13 := s2.trans s3
  refine ⟨tx, p3, _, _, rfl, rfl, s13 _ _ ht1, d3, by rw [List.length_map, List.length_map]; exact Nat.le_of_lt (small1000 (by show ts.length + 2 ≤ 1000; omega)), fun p4 hp4 => ?_⟩
  generalize e4 : upd _ p4 _ = H4
  obtain ⟨s4, d4⟩ := nw e4 hp4
  rw [← List.map_append] at d4
  have s14 := s13.trans s4
  have pt4 : ∀ t ∈ ts ++ [Str.ofString "+1 is 1", Str.ofString "1 is " ++ Txt.mul (Str.ofString "7") (kk : Int)], Pl 60000 t := fun t h => by
    rcases List.mem_append.mp h with h | h
    · exact pt t h
    · rcases List.mem_cons.mp h with rfl | h
      · exact pb.mono (by decide)
      · rw [List.mem_singleton.mp h]; exact (pc.app pm).mono (by decide)
  have lt4 : (ts ++ [Str.ofString "+1 is 1", Str.ofString "1 is " ++ Txt.mul (Str.ofString "7") (kk : Int)]).length ≤ 22 := by
    rw [List.length_append]; show ts.length + 2 ≤ 22; omega
  generalize ts ++ [Str.ofString "+1 is 1", Str.ofString "1 is " ++ Txt.mul (Str.ofString "7") (kk : Int)] = us at d4 pt4 lt4
  have n4 : p4 ≠ b := fun z => (ce.same s13).bx.ne hp4 z.symm
  have ce4 := ce.same s14
  refine ⟨_, rfl, rfl, _, rfl, itb (fun e => ?_) fun e => ?_⟩
  · have okn : MulOk (Str.ofString "not ") 1200 := ⟨by decide +kernel, fun _ _ => by decide +kernel, fun _ _ => by decide +kernel⟩
    have oko : MulOk (Str.ofString "both ") 1200 := ⟨by decide +kernel, fun _ _ => by decide +kernel, fun _ _ => by decide +kernel⟩
    have ok0 : MulOk (Str.ofString "0") 5000 := ⟨by decide +kernel, fun _ _ => by decide +kernel, fun _ _ => by decide +kernel⟩
    have pmn : Pl 7000 (Txt.mul (Str.ofString "not ") 1200) := (mul_pl (n := 1200) pn).mono (by decide)
    have pmo : Pl 7000 (Txt.mul (Str.ofString "both ") 1200) := (mul_pl (n := 1200) po).mono (by decide)
    have pm0 : Pl 7000 (Txt.mul (Str.ofString "0") 5000) := (mul_pl (n := 5000) p0).mono (by decide)
    refine ⟨_, rfl, _, _, rfl, rfl, okn, _, _, rfl, rfl, szB pmn pa (by decide), ?_⟩
    refine ⟨_, _, rfl, rfl, oko, _, _, rfl, rfl, szB pmo pa (by decide), ?_⟩
    refine ⟨_, _, rfl, rfl, ok0, _, _, rfl, rfl, szB pc pm0 (by decide), _, _, rfl, rfl, szB (pc.app pm0) pd (by decide), by show 3 ≤ sizeLine; decide, fun p5 hp5 => ?_⟩
    generalize e5 : upd _ p5 _ = H5
    obtain ⟨s5, d5⟩ := nw e5 hp5
    have d5 : H5 p5 = some (.lst ([Txt.mul (Str.ofString "not ") 1200 ++ Str.ofString "1 is 1", Txt.mul (Str.ofString "both ") 1200 ++ Str.ofString "1 is 1", Str.ofString "1 is " ++ Txt.mul (Str.ofString "0") 5000 ++ Str.ofString "1"].map V.str)) := d5
    refine ⟨p4, p5, _, _, rfl, rfl, s5 _ _ d4, d5, by rw [List.length_map, List.length_map]; exact Nat.le_of_lt (small1000 (by show us.length + 3 ≤ 1000; omega)), fun p6 hp6 => ?_⟩
    generalize e6 : upd _ p6 _ = H6
    obtain ⟨s6, d6⟩ := nw e6 hp6
    rw [← List.map_append] at d6
    have n6 : p6 ≠ b := fun z => (ce4.same s5).bx.ne hp6 z.symm
    have ce6 := ce4.same (s5.trans s6)
    exact goR _ _ ⟨spoil, great, bn, kl, m, sA, p, p6, ks, nm, ys, kx, _, _, _, _, _, _, _, rfl, { ce6 with bx := ce6.bx.mono (by decide) }, by rw [hid_out (by simpa using n6)]; exact d6, fun t h => by
      rcases List.mem_append.mp h with h | h
      · exact pt4 t h
      · rcases List.mem_cons.mp h with rfl | h
        · exact (pmn.app pa).mono (by decide)
        · rcases List.mem_cons.mp h with rfl | h
          · exact (pmo.app pa).mono (by decide)
          · rw [List.mem_singleton.mp h]; exact ((pc.app pm0).app pd).mono (by decide), by rw [List.length_append]; show us.length + 3 ≤ 20 + 5 * (5001 - 5000); omega⟩
  · exact goR _ _ ⟨spoil, great, bn, kl, m, sA, p, p4, ks, nm, ys, kx, us, _, _, _, _, _, _, rfl, { ce4 with bx := ce4.bx.mono (by decide) }, by rw [hid_out (by simpa using n4)]; exact d4, pt4, by omega⟩
end
end NH
set_option maxHeartbeats 4000000
namespace NH
open PySem PySem.Spec PyProof.Rows L2 TL

/-- what a text may be: a datum that is no list, or the one list at aL -/
def TxOk (H : Hp) (aL : Addr) (x : V) : Prop := (∃ d, Dd H x d ∧ d.small ∧ d.fit ∧ d.sz ≤ 1000000 ∧ d.dep ≤ 31 ∧ d.isa "list" = false) ∨ x = .ref aL
theorem TxOk.same {H H' : Hp} {aL : Addr} {x : V} (h : TxOk H aL x) (k : Same H H') : TxOk H' aL x := h.imp (fun ⟨d, a, r⟩ => ⟨d, a.same k, r⟩) id
theorem tx_str {H : Hp} {aL : Addr} {x : Str} (h : Pl 60000 x) : TxOk H aL (.str x) := .inl ⟨.str x, .str x, Nat.le_trans h.len (by decide), h.1, by show 1 + x.length ≤ 1000000; have := h.len; omega, Nat.zero_le _, rfl⟩
section
variable {P : Program} {w : World} {K : PySem.W.Frag} {mg : Str → Option Value} {base : Heap} {C fI fH : Addr} {f : Addr} {cdv : Value} {A : Around} {outer : List Env} {s : Shared} {H : Hp} {Q : VK} {E : XK}

def RcD (C b : Addr) (nf ln : Nat) (H : Hp) (σ : L2.St) (H' : Hp) : Prop := ∃ (spoil great : Nat) (bn : Bool) (kl m sA p tx aL : Addr) (ks : List Kind) (nm ys : List Str) (kx xs : List V) (ls : List Str) (x8 x9 x10 x12 x17 x18 x19 : Option V),
  σ = [some (.ref b), some (.int (spoil : Int)), some (.int (great : Int)), some (.bl bn), some (.ref kl), some (.ref m), some (.ref sA), some (.ref p), x8, x9, x10, some (.ref tx), x12, none, none, none, none, x17, x18, x19] ∧ Ce C b kl m sA p ks nm ys kx nf H H' ∧
  Cw C p sA m kl ks nm ys kx (hid [aL, b] H') ∧ hid [aL, b] H' tx = some (.lst xs) ∧ (∀ x ∈ xs, TxOk (hid [aL, b] H') aL x) ∧ xs.length ≤ 40 ∧ hid [b] H' aL = some (.lst (ls.map V.str)) ∧ (∀ l ∈ ls, Pl 20 l) ∧ ls.length ≤ ln ∧ H aL = none
theorem seg_D (G : Bl mg) (hr : celR f cdv A s) (cT : Callee P w K mg base 2 "_law_take" ["box", "many"] spTake) {b : Addr} (nx : Seg (celX P w K mg base f cdv A outer s H E) { nx := fun _ H' => Q .non H', rt := Q } 12 (RcD C b 6000 1 H)) : Seg (celX P w K mg base f cdv A outer s H E) { nx := fun _ H' => Q .non H', rt := Q } 10 (RcC1 C b 5001 H) := by
  obtain ⟨tR, hR, goR⟩ := nx
  have hr : Room 20 _ := hr
  refine ⟨_, (pss_cons (ps_set (i := 12) sc_law_cell_right.nd rfl (Or.inl rfl) (pe_lst (pa_cons pe_non (pa_cons pe_int (pa_cons pe_bl (pa_cons pe_str (pa_cons pe_str (pa_cons pe_str (pa_cons (pe_tup (pa_cons pe_str (pa_cons pe_int (pa_cons pe_int pa_nil)))) (pa_cons (pe_lst (pa_cons pe_str pa_nil)) (pa_cons pe_dnewK (pa_cons pe_str (pa_cons pe_str (pa_cons pe_str (pa_cons pe_str pa_nil)))))))))))))))
    (pss_cons (ps_set (i := 11) sc_law_cell_right.nd rfl (Or.inl rfl) (pe_op op_cat (pv 11) (pe_lst (pa_cons (pe_ix ix_list (pv 12) (pe_cal cT hr (by omega) (pa_cons (pv 0) (pa_cons pe_int pa_nil))) (fun _ _ => rfl)) (pa_cons (pe_ix ix_list (pv 12) (pe_cal cT hr (by omega) (pa_cons (pv 0) (pa_cons pe_int pa_nil))) (fun _ _ => rfl)) pa_nil)))))
    hR)), ?_⟩
  rintro σ H1 ⟨spoil, great, bn, kl, m, sA, p, tx, ks, nm, ys, kx, ts, x8, x9, x10, x17, x18, x19, rfl, ce, ht, pt, lt⟩
  have ht1 := hid_le _ _ ht
  have txb : tx ≠ b := fun z => by rw [z, hid_in (by simp)] at ht; cases ht
  refine ⟨by show 3 ≤ sizeLine; decide, fun p1 hp1 => ?_⟩
  generalize e2 : upd _ p1 _ = H2
  obtain ⟨s2, d2⟩ := nw e2 hp1
  refine ⟨by show 1 ≤ sizeLine; decide, fun aL haL => ?_⟩
  generalize e3 : upd _ aL _ = H3
  obtain ⟨s3, d3⟩ := nw e3 haL
  refine fun p3 hp3 => ?_
  generalize e4 : upd _ p3 _ = H4
  obtain ⟨s4, d4⟩ := nw e4 hp3
  refine ⟨by show 13 ≤ sizeLine; decide, fun p4 hp4 => ?_⟩
  generalize e5 : upd _ p4 _ = H5
  obtain ⟨s5, d5⟩ := nw e5 hp4
  have s15 := ((s2.trans s3).trans s4).trans s5
  have ce5 := ce.same s15
  have n1 : p1 ≠ b := fun z => ce.bx.ne hp1 z.symm
  have nL : aL ≠ b := fun z => (ce.same s2).bx.ne haL z.symm
  have n3 : p3 ≠ b := fun z => (ce.same (s2.trans s3)).bx.ne hp3 z.symm
  have n4 : p4 ≠ b := fun z => (ce.same ((s2.trans s3).trans s4)).bx.ne hp4 z.symm
  have n1L : p1 ≠ aL := ne_of_none d2 haL
  have n3L : p3 ≠ aL := fun z => by rw [z, d3] at hp3; cases hp3
  have ntL : tx ≠ aL := ne_of_none (s2 _ _ ht1) haL
  have dv : ∀ v ∈ [V.non, .int 7, .bl true, .str "", .str " ", .str "is", .ref p1, .ref aL, .ref p3, .str "1 is 1", .str "9 above 9", .str "1 is 10", .str "1 is"], TxOk (hid [aL, b] H5) aL v := by
    intro v hv
    have P : ∀ {x : Str}, (((tl x).all fun c => decide (c < 128)) && decide ((tl x).length ≤ 60000)) = true → TxOk (hid [aL, b] H5) aL (.str x) := fun h => by
      rw [Bool.and_eq_true] at h; exact tx_str (plB h.1 (of_decide_eq_true h.2))
    simp only [List.mem_cons, List.not_mem_nil, or_false] at hv
    rcases hv with rfl | rfl | rfl | rfl | rfl | rfl | rfl | rfl | rfl | rfl | rfl | rfl | rfl
    · exact .inl ⟨_, .non, trivial, trivial, by decide, by decide, rfl⟩
    · exact .inl ⟨_, .int 7, trivial, by show (7 : Int).natAbs ≤ 1000; decide, by decide, by decide, rfl⟩
    · exact .inl ⟨_, .bl true, trivial, trivial, by decide, by decide, rfl⟩
    · exact P (by decide +kernel)
    · exact P (by decide +kernel)
    · exact P (by decide +kernel)
    · exact .inl ⟨.tup [.str "is", .int 1, .int 2], .tup (by rw [hid_out (by simp; exact ⟨n1L, n1⟩)]; exact ((s3.trans s4).trans s5) _ _ d2) (.cons (.str _) (.cons (.int _) (.cons (.int _) .nil))), trivial, ⟨by show ∀ c ∈ (Str.ofString "is").cps.toList, c < 128; decide +kernel, by show (1 : Int).natAbs ≤ 1000; decide, by show (2 : Int).natAbs ≤ 1000; decide, trivial⟩, by decide +kernel, by decide +kernel, rfl⟩
    · exact .inr rfl
    · exact .inl ⟨.dic, .dic (by rw [hid_out (by simp; exact ⟨n3L, n3⟩)]; exact s5 _ _ d4), trivial, trivial, by decide, by decide, rfl⟩
    · exact P (by decide +kernel)
    · exact P (by decide +kernel)
    · exact P (by decide +kernel)
    · exact P (by decide +kernel)
  generalize hV : [V.non, .int 7, .bl true, .str "", .str " ", .str "is", .ref p1, .ref aL, .ref p3, .str "1 is 1", .str "9 above 9", .str "1 is 10", .str "1 is"] = vs at dv
  have l13 : vs.length = 13 := by rw [← hV]; rfl
  have d5 : H5 p4 = some (.lst vs) := by rw [← hV]; exact d5
  have pick : ∀ c : Nat, c < 13 → ∃ v ∈ vs, atI vs (c : Int) = some v := fun c hc => ⟨vs[c], List.getElem_mem (by omega), atI_nat (List.getElem?_eq_getElem (by omega))⟩
  have bx5 := ce5.bx
  refine ⟨_, rfl, _, rfl, _, rfl, ?_⟩
  obtain ⟨o0_, e0_, i0_⟩ := id bx5
  refine ⟨_, 13, _, o0_, rfl, e0_, i0_, by omega, by first | decide | omega, by first | decide | omega, fun c1 o1_ hc1 i1_ => ?_⟩
  generalize eH_ : upd _ _ o1_ = H6
  obtain ⟨k6, b6, oth6⟩ := tkf eH_ i1_
  clear eH_ i1_ i0_ e0_ o0_
  obtain ⟨v1, mv1, ev1⟩ := pick c1 hc1
  refine ⟨p4, _, _, _, rfl, rfl, SqL.of ((oth6 p4 n4).trans d5), ev1, _, rfl, _, rfl, ?_⟩
  obtain ⟨o0_, e0_, i0_⟩ := id b6
  refine ⟨_, 13, _, o0_, rfl, e0_, i0_, by omega, by first | decide | omega, by first | decide | omega, fun c2 o1_ hc2 i1_ => ?_⟩
  generalize eH_ : upd _ _ o1_ = H7
  obtain ⟨k7, b7, oth7⟩ := tkf eH_ i1_
  clear eH_ i1_ i0_ e0_ o0_
  obtain ⟨v2, mv2, ev2⟩ := pick c2 hc2
  refine ⟨p4, _, _, _, rfl, rfl, SqL.of ((oth7 p4 n4).trans ((oth6 p4 n4).trans d5)), ev2, by show 2 ≤ sizeLine; decide, fun p8 hp8 => ?_⟩
  generalize e8 : upd _ p8 _ = H8
  obtain ⟨s8, d8⟩ := nw e8 hp8
  have k57 := k6.trans k7
  have ht7 := k57 _ _ (by simpa using txb) (s15 _ _ ht1)
  refine ⟨tx, p8, _, _, rfl, rfl, s8 _ _ ht7, d8, by rw [List.length_map]; exact Nat.le_of_lt (small1000 (by show ts.length + 2 ≤ 1000; omega)), fun p9 hp9 => ?_⟩
  generalize e9 : upd _ p9 _ = H9
  obtain ⟨s9, d9⟩ := nw e9 hp9
  have k59 : Kp [b] H5 H9 := k57.trans (Kp.of (s8.trans s9))
  have b9 : Bx b 6000 H9 := ((b7.same (s8.trans s9)).mono (by decide))
  have n9 : p9 ≠ b := fun z => (b7.same s8).ne hp9 z.symm
  have dL5 : H5 aL = some (.lst ([Str.ofString "1 is 1"].map V.str)) := (s4.trans s5) _ _ d3
  have dL9 := k59 _ _ (by simpa using nL) dL5
  have n9L : p9 ≠ aL := fun z => by
    have y := ((Kp.of s8 : Kp [b] H7 H8)) aL _ (by simpa using nL) (k57 _ _ (by simpa using nL) dL5)
    rw [z, y] at hp9; cases hp9
  have hLn : H aL = none := by
    cases y : H aL with
    | none => rfl
    | some o => have z := (ce.same s2).kp aL o (by simpa using nL) y; rw [haL] at z; cases z
  have x29 : Same (hid [b] H2) (hid [aL, b] H9) := hid_new haL ((Kp.of ((s3.trans s4).trans s5)).trans k59) (by simp)
  have x59 : Same (hid [aL, b] H5) (hid [aL, b] H9) := Kp.hid (k59.mono (by simp))
  refine goR _ _ ⟨spoil, great, bn, kl, m, sA, p, p9, aL, ks, nm, ys, kx, _, [Str.ofString "1 is 1"], _, _, _, _, _, _, _, rfl, ce5.tk k59 b9, (ce.same s2).cw.same x29, by rw [hid_out (by simp; exact ⟨n9L, n9⟩)]; exact d9, fun x hx => ?_, by rw [List.length_append, List.length_map]; show ts.length + 2 ≤ 40; omega, by rw [hid_out (by simpa using nL)]; exact dL9, fun l hl => by rw [List.mem_singleton.mp hl]; exact plB (by decide +kernel) (by decide +kernel), Nat.le_refl _, hLn⟩
  rcases List.mem_append.mp hx with hx | hx
  · obtain ⟨t, mt, rfl⟩ := List.mem_map.mp hx
    exact tx_str (pt t mt)
  · rcases List.mem_cons.mp hx with rfl | hx
    · exact (dv _ mv1).same x59
    · rw [List.mem_singleton.mp hx]; exact (dv _ mv2).same x59
end
end NH
set_option maxHeartbeats 4000000
namespace NH
open PySem PySem.Spec PyProof.Rows L2 TL
section
variable {P : Program} {w : World} {K : PySem.W.Frag} {mg : Str → Option Value} {base : Heap} {C fI fH : Addr} {f : Addr} {cdv : Value} {A : Around} {outer : List Env} {s : Shared} {H : Hp} {Q : VK} {E : XK}

theorem rr_go {b p sA m aL : Addr} {ks : List Kind} {nm ys : List Str} {H' : Hp} {x : V} {bn : Bool} {ls : List Str} {Q' : VK} {E' : XK} (S : SP ks nm) (hP : PortsAt C (hid [aL, b] H') p ks) (fr : FrS ks sA m ys nm (hid [aL, b] H')) (tx : TxOk (hid [aL, b] H') aL x)
    (hL : H' aL = some (.lst (ls.map V.str))) (pl : ∀ l ∈ ls, Pl 20 l) (len : ls.length ≤ 300) (q : ∀ H'' (ls' : List Str), Kp [aL] H' H'' → H'' aL = some (.lst (ls'.map V.str)) → (∀ l ∈ ls', Pl 20 l) → ls'.length ≤ ls.length + 1 → Q' (.bl true) H'') : spRr C [.ref p, .ref sA, .ref m, x, .bl bn] H' Q' E' := by
  refine ⟨p, sA, m, ks, ys, nm, x, bn, rfl, hP.same hid_le, fr.same hid_le, S, ?_⟩
  rcases tx with ⟨d, hd, h1, h2, h3, h4, h5⟩ | rfl
  · exact .inl ⟨d, hd.same hid_le, h1, h2, h3, h4, h5, fun H'' s => q H'' ls (Kp.of s) (s _ _ hL) pl (Nat.le_succ _)⟩
  · exact .inr ⟨aL, ls, rfl, hL, pl, len, fun H'' k e => q H'' _ k e (fun l hl => by
      rcases List.mem_append.mp hl with hl | hl
      · exact pl l hl
      · rw [List.mem_singleton.mp hl]; exact (pl_of "more" (by decide +kernel)).mono (by decide)) (by rw [List.length_append]; exact Nat.le_refl _)⟩
theorem Cw.frS {b p sA m kl : Addr} {ks : List Kind} {nm ys : List Str} {kx : List V} {H' : Hp} (c : Cw C p sA m kl ks nm ys kx H') (pm : ys.Perm (sidesOf ks)) (np : ∀ y ∈ nm, NmG 10 y) : FrS ks sA m ys nm H' := ⟨c.sh, c.mh, fun x => pm.mem_iff, np⟩
theorem Ce.kL {b p sA m kl aL : Addr} {ks : List Kind} {nm ys : List Str} {kx : List V} {nf : Nat} {H0 H1 H' : Hp} (c : Ce C b kl m sA p ks nm ys kx nf H0 H1) (hn : H0 aL = none) (nb : aL ≠ b) (k : Kp [aL] H1 H') (cw : Cw C p sA m kl ks nm ys kx (hid [aL, b] H')) : Ce C b kl m sA p ks nm ys kx nf H0 H' :=
  { c with kp := fun a o n e => k a o (by simpa using ne_of_none e hn) (c.kp a o n e), bx := c.bx.kp k (by simpa using Ne.symm nb), cw := cw.same (hid_sub (by simp)) }
theorem seg_E (G : Bl mg) (hgu : A.guards = some []) (hr : celR f cdv A s) (cRr : CalleeG P w K mg base 14 "_law_read_right" ["ports", "sides", "names", "value", "by_name"] (spRr C)) {b : Addr} (nx : Seg (celX P w K mg base f cdv A outer s H E) { nx := fun _ H' => Q .non H', rt := Q } 13 (RcD C b 6000 41 H)) : Seg (celX P w K mg base f cdv A outer s H E) { nx := fun _ H' => Q .non H', rt := Q } 12 (RcD C b 6000 1 H) := by
  obtain ⟨tR, hR, goR⟩ := nx
  have hr : Room 20 _ := hr
  have hgA : (celX P w K mg base f cdv A outer s H E).A.guards = some [] := hgu
  refine ⟨_, (pss_cons (ps_if (pt_cmpR (op_neD hr.units) (pe_lc (own := [("one", 18)]) (g := gName 18) rfl sc_law_cell_right.nd (pi_list (pv 11)) (blkOk_by (N := ["box", "spoil", "great", "by_name", "kinds", "names", "sides", "ports", "conditions", "words", "deep", "texts", "others", "less", "fewer", "other", "wrong", "k", "one", "row"]) (sc := defScope s_law_cell_right) (by decide +kernel)) (fun _ _ _ _ _ => (pg_name (i := 18) sc_law_cell_right.nd rfl (Or.inl rfl))) (fun _ _ _ _ _ => (pts_one (pt_not (pt_val (pe_calG cRr hgA hr (by omega) (pa_cons (pv 7) (pa_cons (pv 6) (pa_cons (pv 5) (pa_cons (pv 18) (pa_cons (pv 3) pa_nil)))))))))) (fun _ _ _ _ _ => (pv 18))) (pe_lst pa_nil) (nomark _)) (pss_one (ps_ret pe_bl)) pss_nil)
    hR), ?_⟩
  rintro σ H1 ⟨spoil, great, bn, kl, m, sA, p, tx, aL, ks, nm, ys, kx, xs, ls, x8, x9, x10, x12, x17, x18, x19, rfl, ce, cw, ht, tk, lx, hL, pl, ll, hLn⟩
  have ht1 := hid_le _ _ ht
  have hL1 := hid_le _ _ hL
  have ntL : tx ≠ aL := fun z => by rw [z, hid_in (by simp)] at ht; cases ht
  have nLb : aL ≠ b := fun z => by rw [z, hid_in (by simp)] at hL; cases hL
  refine ⟨_, rfl, tx, rfl, ⟨xs, SqL.of ht1⟩, fun l hl => ?_⟩
  have nlL : aL ≠ l := ne_of_none hL1 hl
  refine lc_list (K := K) (a := tx) (xs := xs) (fun i H' => ∃ ls' : List Str, Kp [aL] H1 H' ∧ H' l = some (.lst []) ∧ H' aL = some (.lst (ls'.map V.str)) ∧ (∀ l ∈ ls', Pl 20 l) ∧ ls'.length ≤ 1 + i) ⟨ls, Kp.new hl, upd_same, by rw [upd_ne nlL]; exact hL1, pl, by omega⟩ (fun i H' _ ⟨_, z, _⟩ => SqL.of (z tx _ (by simpa using ntL) ht1)) ?_ ?_
  · rintro i x H' hx ⟨ls', kx', dx, hL', pl', ll'⟩
    have hi : i < xs.length := (List.getElem?_eq_some_iff.mp hx).1
    have xh : Same (hid [aL, b] H1) (hid [aL, b] H') := Kp.hid (kx'.mono (by simp))
    have cx := cw.same xh
    refine ⟨rfl, _, rfl, _, rfl, _, rfl, _, rfl, _, rfl, rr_go (E' := E0) (b := b) (ks := ks) (ys := ys) (nm := nm) (ls := ls') (aL := aL) ce.sp cx.pa (cx.frS (b := b) ce.pm ce.np) ((tk x (List.mem_of_getElem? hx)).same xh) hL' pl' (by omega) fun H6 ls6 k6 hL6 pl6 l6 => ⟨_, rfl, iteF ?_⟩⟩
    exact ⟨ls6, kx'.trans k6, k6 _ _ (by simpa using Ne.symm nlL) dx, hL6, pl6, by omega⟩
  rintro H2 ⟨ls2, k2, d2, hL2, pl2, l2⟩
  refine ⟨by show 0 ≤ sizeLine; decide, fun pz hpz => ?_⟩
  generalize e3 : upd _ pz _ = H3
  obtain ⟨s3, d3⟩ := nw e3 hpz
  refine ⟨.list [], .list [], .lst (SqL.of (s3 _ _ d2)) .nil, .lst (SqL.of d3) .nil, rfl, rfl, _, rfl, itf rfl ?_⟩
  have k13 : Kp [aL] H1 H3 := k2.trans (Kp.of s3)
  have xh : Same (hid [aL, b] H1) (hid [aL, b] H3) := Kp.hid (k13.mono (by simp))
  have cw3 := cw.same xh
  exact goR _ _ ⟨spoil, great, bn, kl, m, sA, p, tx, aL, ks, nm, ys, kx, xs, ls2, _, _, _, _, _, _, _, rfl, ce.kL hLn nLb k13 cw3, cw3, xh _ _ ht, fun x hx => (tk x hx).same xh, lx, by rw [hid_out (by simpa using nLb)]; exact s3 _ _ hL2, pl2, by omega, hLn⟩
end
end NH
set_option maxHeartbeats 4000000
namespace NH
open PySem PySem.Spec PyProof.Rows L2 TL
section
variable {P : Program} {w : World} {K : PySem.W.Frag} {mg : Str → Option Value} {base : Heap} {C fI fH : Addr} {f : Addr} {cdv : Value} {A : Around} {outer : List Env} {s : Shared} {H : Hp} {Q : VK} {E : XK}

def RcF (C b : Addr) (H : Hp) (σ : L2.St) (H' : Hp) : Prop := ∃ (spoil great : Nat) (bn : Bool) (kl m sA p tx aL ll : Addr) (ks lk : List Kind) (nm ys : List Str) (kx xs lv : List V) (ls : List Str) (x8 x9 x10 x12 x17 x18 x19 : Option V),
  σ = [some (.ref b), some (.int (spoil : Int)), some (.int (great : Int)), some (.bl bn), some (.ref kl), some (.ref m), some (.ref sA), some (.ref p), x8, x9, x10, some (.ref tx), x12, some (.ref ll), none, none, none, x17, x18, x19] ∧ Ce C b kl m sA p ks nm ys kx 6000 H H' ∧
  Cw C p sA m kl ks nm ys kx (hid [aL, b] H') ∧ hid [aL, b] H' tx = some (.lst xs) ∧ (∀ x ∈ xs, TxOk (hid [aL, b] H') aL x) ∧ xs.length ≤ 40 ∧ hid [b] H' aL = some (.lst (ls.map V.str)) ∧ (∀ l ∈ ls, Pl 20 l) ∧ ls.length ≤ 41 ∧ H aL = none ∧
  GoodKinds lk ∧ hid [aL, b] H' ll = some (.lst lv) ∧ KindsAt (hid [aL, b] H') lv lk
theorem seg_F (G : Bl mg) (hr : celR f cdv A s) {b : Addr} (nx : Seg (celX P w K mg base f cdv A outer s H E) { nx := fun _ H' => Q .non H', rt := Q } 14 (RcF C b H)) : Seg (celX P w K mg base f cdv A outer s H E) { nx := fun _ H' => Q .non H', rt := Q } 13 (RcD C b 6000 41 H) := by
  obtain ⟨tR, hR, goR⟩ := nx
  have hr : Room 20 _ := hr
  refine ⟨_, (pss_cons (ps_set (i := 13) sc_law_cell_right.nd rfl (Or.inl rfl) (pe_ifExp (pt_cmpR op_gt (pv 2) pe_int (nomark _)) (pe_slice sl_list (pv 4) po_none (po_some pe_int)) (pe_op op_cat (pe_lst (pa_cons (pe_tup (pa_cons (pe_ix ix_tup (pe_ix ix_list (pv 4) pe_int (fun _ _ => rfl)) pe_int (fun _ _ => rfl)) (pa_cons (pe_op op_sub pe_int (pe_ix ix_tup (pe_ix ix_list (pv 4) pe_int (fun _ _ => rfl)) pe_int (fun _ _ => rfl))) pa_nil))) pa_nil)) (pe_slice sl_list (pv 4) (po_some pe_int) po_none))))
    hR), ?_⟩
  rintro σ H1 ⟨spoil, great, bn, kl, m, sA, p, tx, aL, ks, nm, ys, kx, xs, ls, x8, x9, x10, x12, x17, x18, x19, rfl, ce, cw, ht, tk, lx, hL, pl, ll, hLn⟩
  have kh1 := hid_le _ _ cw.kh
  have hL1 := hid_le _ _ hL
  have gk := ce.gk
  obtain ⟨k, kr, ek⟩ : ∃ k kr, ks = k :: kr := by
    have z := gk.len.1
    cases h : ks with
    | nil => rw [h] at z; exact absurd z (by decide)
    | cons k kr => exact ⟨k, kr, rfl⟩
  subst ek
  obtain ⟨v, vr, ev, t, rfl, ht1, hr1⟩ : ∃ v vr, kx = v :: vr ∧ ∃ t, v = .ref t ∧ hid [aL, b] H1 t = some (.tup [.str k.1, .int (k.2 : Int)]) ∧ KindsAt (hid [aL, b] H1) vr kr := by
    have z := cw.ka
    cases z with
    | cons h r => obtain ⟨t, e, h⟩ := h; exact ⟨_, _, rfl, t, e, h, r⟩
  subst ev
  have key : ∀ H' (l : Addr) (lk : List Kind) (lv : List V), Same H1 H' → GoodKinds lk → H' l = some (.lst lv) → l ≠ b → l ≠ aL → KindsAt (hid [aL, b] H') lv lk →
      RcF C b H [some (.ref b), some (.int (spoil : Int)), some (.int (great : Int)), some (.bl bn), some (.ref kl), some (.ref m), some (.ref sA), some (.ref p), x8, x9, x10, some (.ref tx), x12, some (.ref l), none, none, none, x17, x18, x19] H' := by
    intro H' l lk lv s1 gl dl lb lL ka
    have xh : Same (hid [aL, b] H1) (hid [aL, b] H') := Kp.hid (Kp.of s1)
    exact ⟨spoil, great, bn, kl, m, sA, p, tx, aL, l, k :: kr, lk, nm, ys, _, xs, lv, ls, _, _, _, _, _, _, _, rfl, ce.same s1, cw.same xh, xh _ _ ht, fun x hx => (tk x hx).same xh, lx, Kp.hid (Kp.of s1) _ _ hL, pl, ll, hLn, gl, by rw [hid_out (by simp; exact ⟨lL, lb⟩)]; exact dl, ka⟩
  refine ⟨_, rfl, _, _, rfl, rfl, _, rfl, itd (fun e => ?_) fun e => ?_⟩
  · refine ⟨_, rfl, 1, rfl, kl, _, rfl, SqL.of kh1, fun l hl => ?_⟩
    generalize e2 : upd _ l _ = H2
    obtain ⟨s2, d2⟩ := nw e2 hl
    have e3 : cutV (V.ref t :: vr) none (some 1) = [V.ref t] := rfl
    rw [e3] at d2
    have x2 : Same (hid [aL, b] H1) (hid [aL, b] H2) := Kp.hid (Kp.of s2)
    exact goR _ _ (key H2 l [k] [.ref t] s2 gk.one d2 (fun z => ce.bx.ne hl z.symm) (Ne.symm (ne_of_none hL1 hl)) (.cons ⟨t, rfl, x2 _ _ ht1⟩ .nil))
  · have ht2 := hid_le _ _ ht1
    have tw := gk.two k (by simp)
    refine ⟨_, rfl, kl, _, 0, _, rfl, rfl, SqL.of kh1, at0 _ _, t, _, 0, _, rfl, rfl, SqT.of ht2, at0 _ _, _, rfl, kl, _, 0, _, rfl, rfl, SqL.of kh1, at0 _ _, t, _, 1, _, rfl, rfl, SqT.of ht2, at1 _ _ _, _, _, rfl, rfl, by show 2 ≤ sizeLine; decide, fun p1 hp1 => ?_⟩
    generalize e2 : upd _ p1 _ = H2
    obtain ⟨s2, d2⟩ := nw e2 hp1
    refine ⟨by show 1 ≤ sizeLine; decide, fun p2 hp2 => ?_⟩
    generalize e3 : upd _ p2 _ = H3
    obtain ⟨s3, d3⟩ := nw e3 hp2
    refine ⟨_, rfl, 1, rfl, kl, _, rfl, SqL.of ((s2.trans s3) _ _ kh1), fun p3 hp3 => ?_⟩
    generalize e4 : upd _ p3 _ = H4
    obtain ⟨s4, d4⟩ := nw e4 hp3
    rw [cut1] at d4
    have lvr : vr.length = kr.length := Paired.length hr1
    have lkr := gk.len.2
    rw [List.length_cons] at lkr
    refine ⟨p2, p3, _, _, rfl, rfl, s4 _ _ d3, d4, Nat.le_of_lt (small1000 (by show 1 + vr.length ≤ 1000; omega)), fun l hl => ?_⟩
    generalize e5 : upd _ l _ = H5
    obtain ⟨s5, d5⟩ := nw e5 hl
    have s14 := (s2.trans s3).trans s4
    have s15 := s14.trans s5
    have x5 : Same (hid [aL, b] H1) (hid [aL, b] H5) := Kp.hid (Kp.of s15)
    have nb : l ≠ b := fun z => (ce.same s14).bx.ne hl z.symm
    have nL : l ≠ aL := Ne.symm (ne_of_none (s14 _ _ hL1) hl)
    have n1 : p1 ≠ b := fun z => ce.bx.ne hp1 z.symm
    have n1L : p1 ≠ aL := Ne.symm (ne_of_none hL1 hp1)
    have i5 : (5 : Int) - (k.2 : Int) = ((5 - k.2 : Nat) : Int) := by omega
    have dp1 : hid [aL, b] H5 p1 = some (.tup [.str k.1, .int ((5 - k.2 : Nat) : Int)]) := by
      rw [hid_out (by simp; exact ⟨n1L, n1⟩), ← i5]
      exact ((s3.trans s4).trans s5) _ _ d2
    exact goR _ _ (key H5 l ((k.1, 5 - k.2) :: kr) (.ref p1 :: vr) s15 gk.turn d5 nb nL (.cons ⟨p1, rfl, dp1⟩ (hr1.same x5)))
end
end NH
set_option maxHeartbeats 4000000
namespace NH
open PySem PySem.Spec PyProof.Rows L2 TL
section
variable {P : Program} {w : World} {K : PySem.W.Frag} {mg : Str → Option Value} {base : Heap} {C fI fH : Addr} {f : Addr} {cdv : Value} {A : Around} {outer : List Env} {s : Shared} {H : Hp} {Q : VK} {E : XK}

theorem PortsAt.hidL {p aL b : Addr} {n : Nat} {ks : List Kind} {H : Hp} {ls : List V} (x : PortsAt C H p ks) (hb : Bx b n H) (hL : H aL = some (.lst ls)) : PortsAt C (hid [aL, b] H) p ks := by
  obtain ⟨dx, fs, d, kvs, h1, l1, l2, h2, h3⟩ := x.ex
  obtain ⟨o, e, x, f, r, c, rfl, _⟩ := hb
  have n1 : p ≠ b := fun z => by rw [z, e] at h1; cases h1
  have n2 : d ≠ b := fun z => by rw [z, e] at h2; cases h2
  have n3 : p ≠ aL := fun z => by rw [z, hL] at h1; cases h1
  have n4 : d ≠ aL := fun z => by rw [z, hL] at h2; cases h2
  exact ⟨dx, fs, d, kvs, by rw [hid_out (by simp; exact ⟨n3, n1⟩)]; exact h1, l1, l2, by rw [hid_out (by simp; exact ⟨n4, n2⟩)]; exact h2, h3⟩
theorem seg_G (G : Bl mg) (T : PortsC K mg C fI fH) (gI : ∃ fd, Binds K fd ["self", "kinds"] [] ∧ FnOk P w K mg base CX0 8 fI fd ["self", "kinds"] (spInit C)) (hgu : A.guards = some []) (hr : celR f cdv A s) (cSides : Callee P w K mg base 2 "_law_sides" ["kinds"] spSides) (cRr : CalleeG P w K mg base 14 "_law_read_right" ["ports", "sides", "names", "value", "by_name"] (spRr C)) {b : Addr}
    (q : ∀ H', Kp [b] H H' → Q (.bl true) H') : Seg (celX P w K mg base f cdv A outer s H E) { nx := fun _ H' => Q .non H', rt := Q } 14 (RcF C b H) := by
  obtain ⟨fdI, bI, GI⟩ := gI
  have hr : Room 20 _ := hr
  have hgA : (celX P w K mg base f cdv A outer s H E).A.guards = some [] := hgu
  refine ⟨_, (pss_cons (ps_asg (pe_tup (pa_cons (pe_cal cSides hr (by omega) (pa_cons (pv 13) pa_nil)) (pa_cons (pe_make T.mkP GI (hr.mono (by omega)) (by rfl) T.g bI .nil pass0 (pa_cons (pv 13) pa_nil)) pa_nil))) (pg_tup (by rfl) (pgs_cons (pg_name (i := 14) sc_law_cell_right.nd rfl (Or.inr rfl)) (pgs_cons (pg_name (i := 15) sc_law_cell_right.nd rfl (Or.inr rfl)) pgs_nil))))
    (pss_cons (ps_setLc (i := 16) (own := [("one", 18)]) (g := gName 18) rfl sc_law_cell_right.nd rfl rfl (sw_true rfl rfl rfl (by decide +kernel)) (pi_list (pv 11)) (blkOk_by (N := ["box", "spoil", "great", "by_name", "kinds", "names", "sides", "ports", "conditions", "words", "deep", "texts", "others", "less", "fewer", "other", "wrong", "k", "one", "row"]) (sc := defScope s_law_cell_right) (by decide +kernel)) (fun _ _ _ _ _ => (pg_name (i := 18) sc_law_cell_right.nd rfl (Or.inl rfl))) (fun _ _ _ _ _ => (pts_one (pt_not (pt_val (pe_calG cRr hgA hr (by omega) (pa_cons (pv 15) (pa_cons (pv 14) (pa_cons (pe_slice (show SlR _ (rSlL K) from sl_list) (pv 5) (po_some pe_int) po_none) (pa_cons (pv 18) (pa_cons (pe_not (pv 3)) pa_nil)))))))))) (fun _ _ _ _ _ => (pv 18)))
    (pss_one (ps_ret (pe_and (pe_cmpR (op_eqD hr.units) (pv 16) (pe_lst pa_nil) (nomark _)) (pe_one (pe_cmpR (op_eqD hr.units) (pe_lc (own := [("one", 18)]) (g := gName 18) rfl sc_law_cell_right.nd (pi_list (pv 11)) (blkOk_by (N := ["box", "spoil", "great", "by_name", "kinds", "names", "sides", "ports", "conditions", "words", "deep", "texts", "others", "less", "fewer", "other", "wrong", "k", "one", "row"]) (sc := defScope s_law_cell_right) (by decide +kernel)) (fun _ _ _ _ _ => (pg_name (i := 18) sc_law_cell_right.nd rfl (Or.inl rfl))) (fun _ _ _ _ _ => (pts_one (pt_not (pt_val (pe_calG cRr hgA hr (by omega) (pa_cons (pv 7) (pa_cons (pv 6) (pa_cons (pv 5) (pa_cons (pv 18) (pa_cons (pe_not (pv 3)) pa_nil)))))))))) (fun _ _ _ _ _ => (pv 18))) (pe_lst pa_nil) (nomark _)))))))), ?_⟩
  rintro σ H1 ⟨spoil, great, bn, kl, m, sA, p, tx, aL, ll, ks, lk, nm, ys, kx, xs, lv, ls, x8, x9, x10, x12, x17, x18, x19, rfl, ce, cw, ht, tk, lx, hL, pl, lll, hLn, gl, dl, ka⟩
  have nLb : aL ≠ b := fun z => by rw [z, hid_in (by simp)] at hL; cases hL
  have hL1 := hid_le _ _ hL
  have dl1 := hid_le _ _ dl
  refine ⟨_, rfl, ll, lv, lk, rfl, dl1, ka.same hid_le, gl.fair, fun fs fy H2 s2 nfs dfs pf => ?_⟩
  refine ⟨_, rfl, fun op od nop nod neo => ports_made (s2 _ _ dl1) ((ka.same hid_le).same s2) gl nop nod fun H3 s3 P3 => ⟨rfl, ?_⟩⟩
  refine ⟨by show 2 ≤ sizeLine; decide, fun p4 hp4 => ?_⟩
  generalize e4 : upd _ p4 _ = H4
  obtain ⟨s4, d4⟩ := nw e4 hp4
  refine ⟨p4, _, rfl, SqT.of d4, rfl, _, _, rfl, _, _, rfl, rfl, ?_⟩
  have s14 := (s2.trans s3).trans s4
  have ce4 := ce.same s14
  have x14 : Same (hid [aL, b] H1) (hid [aL, b] H4) := Kp.hid (Kp.of s14)
  have cw4 := cw.same x14
  have ht4 := x14 _ _ ht
  have tk4 : ∀ x ∈ xs, TxOk (hid [aL, b] H4) aL x := fun x hx => (tk x hx).same x14
  have hL4 := s14 _ _ hL1
  have P4 : PortsAt C (hid [aL, b] H4) op lk := (P3.same s4).hidL ce4.bx hL4
  have nfb : fs ≠ b := fun z => ce.bx.ne nfs z.symm
  have nfL : fs ≠ aL := Ne.symm (ne_of_none hL1 nfs)
  have dfs4 : hid [aL, b] H4 fs = some (.lst (fy.map V.str)) := by rw [hid_out (by simp; exact ⟨nfL, nfb⟩)]; exact (s3.trans s4) _ _ dfs
  have np1 : ∀ y ∈ nm.drop 1, NmG 10 y := fun y hy => ce.np y (List.mem_of_mem_drop hy)
  have ntL : tx ≠ aL := fun z => by rw [z, hid_in (by simp)] at ht; cases ht
  have htt := hid_le _ _ ht4
  clear s14 x14 s2 s3 s4 e4 d4 hp4 dfs P3
  -- wrong
  refine ⟨_, rfl, tx, rfl, ⟨xs, SqL.of htt⟩, fun l hl => ?_⟩
  have nlL : aL ≠ l := ne_of_none hL4 hl
  refine lc_list (K := K) (a := tx) (xs := xs) (fun i H' => ∃ ls' : List Str, Kp [aL] H4 H' ∧ H' l = some (.lst []) ∧ H' aL = some (.lst (ls'.map V.str)) ∧ (∀ l ∈ ls', Pl 20 l) ∧ ls'.length ≤ 41 + i) ⟨ls, Kp.new hl, upd_same, by rw [upd_ne nlL]; exact hL4, pl, by omega⟩ (fun i H' _ ⟨_, z, _⟩ => SqL.of (z tx _ (by simpa using ntL) htt)) ?_ ?_
  · rintro i x H' hx ⟨ls', kx', dx, hL', pl', ll'⟩
    have hi : i < xs.length := (List.getElem?_eq_some_iff.mp hx).1
    have xh : Same (hid [aL, b] H4) (hid [aL, b] H') := Kp.hid (kx'.mono (by simp))
    refine ⟨rfl, _, rfl, _, rfl, _, rfl, 1, rfl, m, _, rfl, SqL.of (hid_le _ _ (xh _ _ cw4.mh)), fun q1 hq1 => ?_⟩
    generalize e5 : upd _ q1 _ = H5
    obtain ⟨s5, d5⟩ := nw e5 hq1
    have e6 : cutV (nm.map V.str) (some 1) none = (nm.drop 1).map V.str := by
      have z := ce.nl
      match nm, z with
      | [], _ => rfl
      | [_], _ => rfl
      | [_, _], _ => rfl
      | _ :: _ :: _ :: _, z => exact absurd z (by rw [List.length_cons, List.length_cons, List.length_cons]; omega)
    rw [e6] at d5
    have x5 : Same (hid [aL, b] H4) (hid [aL, b] H5) := xh.trans (Kp.hid (Kp.of s5))
    have bx' : Bx b 6000 H' := ce4.bx.kp kx' (by simpa using Ne.symm nLb)
    have nqb : q1 ≠ b := fun z => bx'.ne hq1 z.symm
    have nqL : q1 ≠ aL := Ne.symm (ne_of_none hL' hq1)
    refine ⟨_, rfl, _, rfl, _, rfl, rr_go (E' := E0) (b := b) (ks := lk) (ys := fy) (nm := nm.drop 1) (ls := ls') (aL := aL) (sp_of gl np1) (P4.same x5) ⟨x5 _ _ dfs4, by rw [hid_out (by simp; exact ⟨nqL, nqb⟩)]; exact d5, fun y => pf.mem_iff, np1⟩ ((tk4 x (List.mem_of_getElem? hx)).same x5) (s5 _ _ hL') pl' (by omega) fun H6 ls6 k6 hL6 pl6 l6 => ⟨_, rfl, iteF ?_⟩⟩
    exact ⟨ls6, (kx'.trans (Kp.of s5)).trans k6, k6 _ _ (by simpa using Ne.symm nlL) (s5 _ _ dx), hL6, pl6, by omega⟩
  rintro H5 ⟨ls5, k5, d5, hL5, pl5, l5⟩
  have l5 : ls5.length ≤ 41 + xs.length := l5
  refine ⟨_, rfl, by show 0 ≤ sizeLine; decide, fun pz hpz => ?_⟩
  generalize e6 : upd _ pz _ = H6
  obtain ⟨s6, d6⟩ := nw e6 hpz
  refine ⟨.list [], .list [], .lst (SqL.of (s6 _ _ d5)) .nil, .lst (SqL.of d6) .nil, rfl, rfl, _, rfl, itt rfl ?_⟩
  have k46 : Kp [aL] H4 H6 := k5.trans (Kp.of s6)
  have xh6 : Same (hid [aL, b] H4) (hid [aL, b] H6) := Kp.hid (k46.mono (by simp))
  have cw6 := cw4.same xh6
  have htt6 := hid_le _ _ (xh6 _ _ ht4)
  have hL6 := s6 _ _ hL5
  refine ⟨_, rfl, tx, rfl, ⟨xs, SqL.of htt6⟩, fun l2 hl2 => ?_⟩
  have nlL2 : aL ≠ l2 := ne_of_none hL6 hl2
  refine lc_list (K := K) (a := tx) (xs := xs) (fun i H' => ∃ ls' : List Str, Kp [aL] H6 H' ∧ H' l2 = some (.lst []) ∧ H' aL = some (.lst (ls'.map V.str)) ∧ (∀ l ∈ ls', Pl 20 l) ∧ ls'.length ≤ 41 + xs.length + i) ⟨ls5, Kp.new hl2, upd_same, by rw [upd_ne nlL2]; exact hL6, pl5, by omega⟩ (fun i H' _ ⟨_, z, _⟩ => SqL.of (z tx _ (by simpa using ntL) htt6)) ?_ ?_
  · rintro i x H' hx ⟨ls', kx', dx, hL', pl', ll'⟩
    have hi : i < xs.length := (List.getElem?_eq_some_iff.mp hx).1
    have xh : Same (hid [aL, b] H6) (hid [aL, b] H') := Kp.hid (kx'.mono (by simp))
    have cx := cw6.same xh
    refine ⟨rfl, _, rfl, _, rfl, _, rfl, _, rfl, _, rfl, _, rfl, rr_go (E' := E0) (b := b) (ks := ks) (ys := ys) (nm := nm) (ls := ls') (aL := aL) ce.sp cx.pa (cx.frS (b := b) ce.pm ce.np) (((tk4 x (List.mem_of_getElem? hx)).same xh6).same xh) hL' pl' (by omega) fun H7 ls7 k7 hL7 pl7 l7 => ⟨_, rfl, iteF ?_⟩⟩
    exact ⟨ls7, kx'.trans k7, k7 _ _ (by simpa using Ne.symm nlL2) dx, hL7, pl7, by omega⟩
  rintro H7 ⟨ls7, k7, d7, hL7, pl7, l7⟩
  refine ⟨by show 0 ≤ sizeLine; decide, fun pw hpw => ?_⟩
  generalize e8 : upd _ pw _ = H8
  obtain ⟨s8, d8⟩ := nw e8 hpw
  refine ⟨.list [], .list [], .lst (SqL.of (s8 _ _ d7)) .nil, .lst (SqL.of d8) .nil, rfl, rfl, ?_⟩
  have k48 : Kp [aL] H4 H8 := (k46.trans k7).trans (Kp.of s8)
  exact q H8 fun a o n e => k48 a o (by simpa using ne_of_none e hLn) (ce4.kp a o n e)
end
section
variable {P : Program} {w : World} {K : PySem.W.Frag} {mg : Str → Option Value} {base : Heap} {C fI fH : Addr}
def spCr : Sp := fun vs H Q _ => ∃ (b n : Nat), vs = [.ref b] ∧ Bx b n H ∧ n ≤ 1000 ∧ ∀ H', Kp [b] H H' → Q (.bl true) H'
theorem ok_law_cell_right (G : Bl mg) (T : PortsC K mg C fI fH) (gI : ∃ fd, Binds K fd ["self", "kinds"] [] ∧ FnOk P w K mg base CX0 8 fI fd ["self", "kinds"] (spInit C)) (DA : DefAt K mg "_law_cell_right" s_law_cell_right) (cT : Callee P w K mg base 2 "_law_take" ["box", "many"] spTake) (cKinds : Callee P w K mg base 6 "_law_kinds" ["box"] spKinds) (cNums : Callee P w K mg base 6 "_law_numbers" ["box"] spNumbers) (cSides : Callee P w K mg base 2 "_law_sides" ["kinds"] spSides)
    (cCo : ∀ D : Nat, Callee P w K mg base (4 + D) "_law_condition" ["box", "sides", "names", "deep"] (spCo D)) (cWo : ∀ n : Nat, Callee P w K mg base (2 + n) "_law_words" ["condition"] (spWo n)) (cWr : Callee P w K mg base 7 "_law_written_right" ["condition", "by_name"] spWr) (cSp : Callee P w K mg base 3 "_law_spoilt" ["box", "words", "sides"] spSp)
    (cRr : CalleeG P w K mg base 14 "_law_read_right" ["ports", "sides", "names", "value", "by_name"] (spRr C)) : CalleeG P w K mg base 21 "_law_cell_right" ["box"] spCr := by
  refine calleeG DA sc_law_cell_right (fun vs H Q E h => by obtain ⟨_, _, rfl, _⟩ := h; rfl) (fun _ _ _ _ _ _ us hl => match us, hl with | [_], _ => rfl) fun f cdv A outer s H vs Q E hgu hr h => ?_
  obtain ⟨b, n, rfl, hb, hn, q⟩ := h
  exact seg_A G T gI hr cT cKinds cNums cSides hb hn (seg_B G hr cT cCo cWo cWr (seg_C1 G hr cT cSp (seg_C2 G hr (seg_D G hr cT (seg_E G hgu hr cRr (seg_F G hr (seg_G G T gI hgu hr cSides cRr q)))))))
end
end NH
set_option maxHeartbeats 4000000
namespace NH
open PySem PySem.Spec PyProof.Rows L2 TL
section
variable {P : Program} {w : World} {K : PySem.W.Frag} {mg : Str → Option Value} {base : Heap} {f : Addr} {fd : FuncData}
abbrev s_law : Stmt := top 60
theorem sc_law : FnScope ["script", "k"] ["script"] (defScope s_law) := ⟨rfl, rfl, rfl, by decide +kernel, rfl, by decide +kernel, by decide +kernel⟩
def spLaw (K : PySem.W.Frag) : Sp := fun vs H Q _ => ∃ (a : Addr) (ns : List Int), vs = [.ref a] ∧ SqL K H a (ns.map V.int) ∧ ns.length ≤ 63 ∧ ∀ H', Q (.bl true) H'
theorem ok_law (G : Bl mg) (F : FunD K "law" "law" (defArgs s_law) (defBody s_law) (defScope s_law) [] [] f fd) (cCell : Callee P w K mg base 2 "_law_cell" ["script", "k"] (spCell K)) (cBox : Callee P w K mg base 2 "_law_box" ["great"] spBox) (cCr : CalleeG P w K mg base 21 "_law_cell_right" ["box"] spCr) : FnG P w K mg base 22 f fd ["script"] (spLaw K) := by
  refine FnG.make F sc_law (fun vs H Q E h => by obtain ⟨_, _, rfl, _⟩ := h; rfl) fun cdv A outer s H vs Q E hgu hr h => ?_
  have hgA : (cxOf CX0 P w K mg base ["script", "k"] "law" (defScope s_law) f cdv A outer s H E).nox.A.guards = some [] := hgu
  obtain ⟨a, ns, rfl, hS, hl, q⟩ := h
  refine ⟨_, PSs.nox (pss_cons (ps_for PassesOwn.never rfl (pi_range1 (by rfl) G.b_range (pa_cons (pe_callB (call_max2 rfl) (by rfl) G.b_max (by decide +kernel) (pa_cons pe_int (pa_cons (pe_callB (call_min2 rfl) (by rfl) G.b_min (by decide +kernel) (pa_cons pe_int (pa_cons (pe_callB call_len_seq (by rfl) G.b_len (by decide +kernel) (pa_cons (pv 0) pa_nil)) pa_nil))) pa_nil))) pa_nil)) (pg_name (i := 1) sc_law.nd rfl (Or.inl rfl)) (pss_one (ps_if (pt_not (pt_val (pe_calG cCr hgA hr (by omega) (pa_cons (pe_cal cBox hr (by omega) (pa_cons (pe_cal cCell hr (by omega) (pa_cons (pv 0) (pa_cons (pv 1) pa_nil))) pa_nil)) pa_nil)))) (pss_one (ps_ret pe_bl)) pss_nil)))
    (pss_one (ps_ret pe_bl))), ?_⟩
  refine ⟨_, rfl, a, _, rfl, .inl hS, ?_⟩
  obtain ⟨N, eN, hN⟩ : ∃ N : Nat, (if (if ((ns.map V.int).length : Int) < 5 then ((ns.map V.int).length : Int) else 5) > 2 then (if ((ns.map V.int).length : Int) < 5 then ((ns.map V.int).length : Int) else 5) else 2) = (N : Int) ∧ N ≤ 5 := by
    rw [List.length_map]
    by_cases h : (ns.length : Int) < 5
    · rw [if_pos h]
      by_cases g : (ns.length : Int) > 2
      · exact ⟨ns.length, by rw [if_pos g], by omega⟩
      · exact ⟨2, by rw [if_neg g]; rfl, by decide⟩
    · rw [if_neg h]; exact ⟨5, by rw [if_pos (by decide)]; rfl, by decide⟩
  refine ⟨_, _, rfl, _, _, rfl, ?_⟩
  rw [eN]
  refine ⟨_, rfl, by omega, by omega, ?_⟩
  refine for_range (lo := 0) (n := N) (fun i σ H' => ∃ x1, σ = [some (.ref a), x1] ∧ SqL K H' a (ns.map V.int)) ⟨none, rfl, hS⟩ ?_ ?_
  · rintro i σ H1 hi ⟨x1, rfl, h1⟩
    refine ⟨_, rfl, _, rfl, a, ns, i, by show [V.ref a, V.int (0 + (i : Int))] = _; rw [Int.zero_add], h1, hl, fun z H2 s2 => ?_⟩
    refine ⟨z, rfl, fun p o hp ib => ?_⟩
    refine ⟨p, 0, rfl, ⟨o, upd_same, ib⟩, by decide, fun H3 k3 => ⟨_, rfl, iteF ⟨_, rfl, ?_⟩⟩⟩
    have x2 : Same H2 (hid [p] (upd H2 p o)) := fun c u e => by
      have n := ne_of_none e hp
      rw [hid_out (by simpa using n), upd_ne n]; exact e
    exact (((s2.trans x2).trans (Kp.hid k3)).trans hid_le).seq h1
  · rintro σ H1 ⟨x1, rfl, h1⟩
    exact q H1
end
end NH
set_option maxHeartbeats 4000000
namespace NH
open PySem PySem.Spec PyProof.Rows L2 TL
section
variable {P : Program} {w : World} {K : PySem.W.Frag} {mg : Str → Option Value} {base : Heap} {C fI fH CE fE CN f : Addr} {fd : FuncData}
structure Defs (K : PySem.W.Frag) (mg : Str → Option Value) : Prop where
  d_is_integer : DefAt K mg "is_integer" s_is_integer
  d_is_between : DefAt K mg "is_between" s_is_between
  d_is_list : DefAt K mg "is_list" s_is_list
  d_is_pair : DefAt K mg "is_pair" s_is_pair
  d_is_name : DefAt K mg "is_name" s_is_name
  d_are_different : DefAt K mg "are_different" s_are_different
  d_is_condition : DefAt K mg "is_condition" s_is_condition
  d_condition_text : DefAt K mg "condition_text" s_condition_text
  d_read_condition : DefAt K mg "read_condition" s_read_condition
  d_amount_text : DefAt K mg "amount_text" s_amount_text
  d_stacked_words : DefAt K mg "stacked_words" s_stacked_words
  d_take_word : DefAt K mg "take_word" s_take_word
  d_take_digit : DefAt K mg "take_digit" s_take_digit
  d_take_amount : DefAt K mg "take_amount" s_take_amount
  d_take_condition : DefAt K mg "take_condition" s_take_condition
  d_u_take : DefAt K mg "_take_condition" s_u_take
  d_u_condition : DefAt K mg "_is_condition" s_u_condition
  d_is_amount : DefAt K mg "_is_amount" s_is_amount
  d_are_kinds : DefAt K mg "_are_kinds" s_are_kinds
  d_is_kind : DefAt K mg "_is_kind" s_is_kind
  d_sides_of : DefAt K mg "_sides_of" s_sides_of
  d_without : DefAt K mg "_without" s_without
  d_cell : DefAt K mg "_law_cell" s_law_cell
  d_box : DefAt K mg "_law_box" s_law_box
  d_take : DefAt K mg "_law_take" s_law_take
  d_letters : DefAt K mg "_law_letters" s_law_letters
  d_kinds : DefAt K mg "_law_kinds" s_law_kinds
  d_sides : DefAt K mg "_law_sides" s_law_sides
  d_number : DefAt K mg "_law_number" s_law_number
  d_numbers : DefAt K mg "_law_numbers" s_law_numbers
  d_amount : DefAt K mg "_law_amount" s_law_amount
  d_condition : DefAt K mg "_law_condition" s_law_condition
  d_amount_words : DefAt K mg "_law_amount_words" s_law_amount_words
  d_words : DefAt K mg "_law_words" s_law_words
  d_amount_read : DefAt K mg "_law_amount_read" s_law_amount_read
  d_read : DefAt K mg "_law_read" s_law_read
  d_due : DefAt K mg "_law_due" s_law_due
  d_spoilt : DefAt K mg "_law_spoilt" s_law_spoilt
  d_read_right : DefAt K mg "_law_read_right" s_law_read_right
  d_written_right : DefAt K mg "_law_written_right" s_law_written_right
  d_cell_right : DefAt K mg "_law_cell_right" s_law_cell_right
theorem all_ok (G : Bl mg) (D : Defs K mg) (T : PortsC K mg C fI fH) (PT : PartsT K w mg) (DT : DigT K w mg) (TC : TupT K mg "COMPARING" isAb) (TJ : TupT K mg "JOINING" joinW)
    (n4 : NumT mg "DEEPEST_CONDITION" 4) (n12 : ∃ t, mg "MOST_KINDS" = some (.int 12 t)) (nl : ∃ t, mg "MOST_LETTERS" = some (.int 4 t)) (gL : ∃ t, mg "LETTERS" = some (.str abc t))
    (FI : ∃ fd, FunD K "__init__" "Ports.__init__" (defArgs s_init) (defBody s_init) (defScope s_init) [] [] fI fd) (FH : ∃ fd, FunD K "has" "Ports.has" (defArgs s_has) (defBody s_has) (defScope s_has) [] [] fH fd)
    (X : ErrC K mg CE fE) (XX : ErrX K mg CE CN) (FE : ∃ fd, FunD K "__init__" "InvalidText.__init__" (defArgs s_erri) (defBody s_erri) (defScope s_erri) [] [] fE fd)
    (sm : ∃ o, base.get? sysModules = some o) (F : FunD K "law" "law" (defArgs s_law) (defBody s_law) (defScope s_law) [] [] f fd) : FnG P w K mg base 22 f fd ["script"] (spLaw K) := by
  have cT : Callee P w K mg base 2 "_law_take" ["box", "many"] spTake := ok_law_take G D.d_take
  have cL := ok_law_letters G D.d_letters cT
  have cKinds := ok_law_kinds G D.d_kinds cT cL
  have cSides : Callee P w K mg base 2 "_law_sides" ["kinds"] spSides := ok_law_sides G D.d_sides
  have cNum := ok_law_number G D.d_number cT cL
  have cNums := ok_law_numbers G D.d_numbers cT cNum
  have cAm := ok_law_amount G D.d_amount cT
  have cCo := ok_law_condition G D.d_condition cT cAm
  have cAw : Callee P w K mg base 1 "_law_amount_words" ["amount"] spAw := ok_law_amount_words G D.d_amount_words
  have cWo := ok_law_words G D.d_words cAw
  have cAr : Callee P w K mg base 1 "_law_amount_read" ["sides", "names", "words", "at"] spAr := ok_law_amount_read G D.d_amount_read
  have cRe := ok_law_read G D.d_read cAr
  have cDu := ok_law_due G D.d_due cRe
  have cSp := ok_law_spoilt G D.d_spoilt cT
  -- the program
  have cIi : Callee P w K mg base 1 "is_integer" ["value"] spInt := ok_is_integer G D.d_is_integer
  have cBt := ok_is_between cIi D.d_is_between
  have cIl : Callee P w K mg base 2 "is_list" ["value"] spIsl := ok_is_list G D.d_is_list
  have cIp : Callee P w K mg base 2 "is_pair" ["value"] spPair := ok_is_pair G D.d_is_pair
  have cIn : Callee P w K mg base 2 "is_name" ["value", "most"] spName := ok_is_name G gL D.d_is_name
  have cDf : Callee P w K mg base 2 "are_different" ["items"] (spDiff K) := ok_are_different G D.d_are_different
  have cIk := ok_is_kind nl D.d_is_kind cIp cIn cBt
  have cAk := ok_are_kinds G n12 D.d_are_kinds cIl cDf cIk
  have cSo : Callee P w K mg base 2 "_sides_of" ["name", "many"] spSo := ok_sides_of G D.d_sides_of
  have cWt : Callee P w K mg base 2 "_without" ["sides", "side"] (spWout K) := ok_without G D.d_without
  have gI := ok_init (P := P) (w := w) (base := base) G T FI cAk cSo cWt
  have gH := ok_has (P := P) (w := w) (base := base) G T FH
  have cUa := ok_is_amount G T D.d_is_amount cBt gH
  have cUc := ok_u_condition G T PT TC D.d_u_condition cUa 4
  have cIc := ok_is_condition n4 D.d_is_condition cUc
  have cAt : Callee P w K mg base 1 "amount_text" ["amount"] spAt := ok_amount_text G D.d_amount_text
  have cCt := ok_condition_text G TC D.d_condition_text cAt
  have kCt := ok_condition_textK G TC D.d_condition_text cAt 3
  have cTw : Callee P w K mg base 1 "take_word" ["words"] spTw := ok_take_word D.d_take_word
  have cTd := ok_take_digit DT D.d_take_digit cTw
  have cTa := ok_take_amount D.d_take_amount cTw cTd
  have cUt := ok_u_take G PT TJ D.d_u_take cTw cTa
  have cTc := ok_take_condition n4 D.d_take_condition (cUt 4)
  have cSw : Callee P w K mg base 1 "stacked_words" ["line"] spSw := ok_stacked_words G D.d_stacked_words
  have cRc := ok_read_condition G X FE D.d_read_condition cSw cTc cIc (cCt 4)
  have kRc := ok_read_conditionK G X FE D.d_read_condition cSw cTc cIc (cCt 4)
  have cWr := ok_law_written_right G D.d_written_right cWo (cCt 4) kCt
  have cRr := ok_law_read_right G G.b_repr sm X XX D.d_read_right cDu cRc kRc cIc (cCt 4)
  have cCr := ok_law_cell_right G T gI D.d_cell_right cT cKinds cNums cSides cCo cWo cWr cSp cRr
  exact ok_law G F (ok_law_cell G D.d_cell) (ok_law_box G D.d_box) cCr
end
end NH
set_option maxHeartbeats 0
namespace NH
open PySem PySem.Spec PyProof.Rows L2 TL
/-- a key that a table has not -/
theorem no_key {K : PySem.W.Frag} {P : Params} {a : Addr} {ks : List Str} (h : He.dicW K a = some (He.keysIn P ks)) {z : Str} (hz : z ∉ ks) : PySem.W.nsIn K a z = some none := by
  unfold He.dicW at h
  split at h
  · rename_i c es n sl hl
    split at h
    · have h := Option.some.inj h
      have hk : ∀ e ∈ es.toList, ∃ k ∈ ks, ∃ t, e.key = .str k t := fun e he => by
        have m : He.keyOf e ∈ He.keysIn P ks := h ▸ List.mem_map.mpr ⟨e, he, rfl⟩
        obtain ⟨k, hk, e2⟩ := List.mem_map.mp m
        unfold He.keyOf at e2
        split at e2
        · rename_i x t q
          have h4 := Option.some.inj e2
          exact ⟨k, hk, t, by rw [(Prod.mk.inj h4).1]; exact q⟩
        · cases e2
      unfold PySem.W.nsIn
      rw [hl]
      show (match es.toList.find? (·.key.isStr z) with
        | some e => some (some e.val)
        | none => if es.toList.any (·.refKey) then none else some none) = some none
      have f1 : es.toList.find? (·.key.isStr z) = none := by
        rw [List.find?_eq_none]
        intro e he
        obtain ⟨k, hkk, t, q⟩ := hk e he
        rw [q]
        intro y
        have y : (k == z) = true := y
        rw [beq_iff_eq] at y
        exact hz (y ▸ hkk)
      have f2 : es.toList.any (·.refKey) = false := by
        rw [List.any_eq_false]
        intro e he
        obtain ⟨k, hkk, t, q⟩ := hk e he
        unfold DictEntry.refKey
        rw [q]
        intro y; cases y
      rw [f1, f2]; rfl
    · cases h
  · cases h

/-- what oexB shows -/
theorem oexB_ok {K : PySem.W.Frag} {C : Addr} (z : oexB K C = true) : ∃ nm q N bs bm sn sub ab col dd k0 k1 k2 k3 k5, K.lookup C = some (excClassObj nm q C N bs bm true sn sub ab col dd k0 k1 k2 k3 k5 "ValueError.__new__") ∧ PySem.HandSPX.refsVE bm = true := by
  unfold oexB at z
  split at z
  · rename_i o look
    split at z
    · rename_i dic k slo
      split at z
      · rename_i C2 rest a0 a1 a2 a3 id a5 mr li
        obtain ⟨z1, z⟩ := He.ba z
        obtain ⟨z2, z⟩ := He.ba z
        obtain ⟨z3, z⟩ := He.ba z
        obtain ⟨z4, z5⟩ := He.ba z
        have z1 := of_decide_eq_true z1
        have z2 := of_decide_eq_true z2
        subst z1 z2
        obtain ⟨f1, f2, f3, f4, f5, f6, f7, f8, f9, g1, g2⟩ := k
        have mr : f3 = .ref C2 :: rest := mr
        have z3 : (!g2) = true := z3
        have z4 : f6 = true := z4
        subst mr z4
        have z3 : g2 = false := by simpa using z3
        subst z3
        have li : slo = #[a0, a1, a2, a3, some (.builtin "ValueError.__new__"), a5] := by
          obtain ⟨l⟩ := slo
          have li : l = [a0, a1, a2, a3, some (.builtin "ValueError.__new__"), a5] := li
          rw [li]
        subst li
        exact ⟨_, _, _, _, _, _, _, _, _, _, _, _, _, _, _, look, z5⟩
      · cases z
    · cases z
  · cases z

theorem facts {P : Program} {w : World} {K : PySem.W.Frag} {h : Heap} {mg : Str → Option Value} {f : Addr} (X : K.In h) (Gn : h.Ns mainGlobals mg) (hlaw : mg ("law" : Str) = some (.ref f)) (c : SaysM w K) :
    ∃ fd : FuncData, (∀ (s : Shared) (v : Value), BindsTo s fd ⟨[v], []⟩ [("script", v)]) ∧ ∀ base : Heap, K.In base → base.Ns mainGlobals mg → FnG P w K mg base 22 f fd ["script"] (spLaw K) := by
  have c0 : He.SaysT hfa hfn tabs w K := congrArg (fun z : AlM => z.1) c
  have c1 := c0.d
  have cx : exM K = true := congrArg (fun z : AlM => z.2) c
  obtain ⟨x1, cx⟩ := He.ba cx
  obtain ⟨x2, cx⟩ := He.ba cx
  obtain ⟨x3, cx⟩ := He.ba cx
  obtain ⟨x4, cx⟩ := He.ba cx
  obtain ⟨x5, x6⟩ := He.ba cx
  have glo : ∀ {x : Str}, (He.Fa.glo x).ok K = true → mg x = some (.ref (He.ga K x)) := fun z => He.glo_ok X Gn z
  have G : Bl mg := { b_ValueError := He.free_ok X Gn (c1.fact 49 (f := .free "ValueError") rfl), b_abs := He.free_ok X Gn (c1.fact 50 (f := .free "abs") rfl), b_all := He.free_ok X Gn (c1.fact 51 (f := .free "all") rfl), b_bool := He.free_ok X Gn (c1.fact 52 (f := .free "bool") rfl), b_int := He.free_ok X Gn (c1.fact 53 (f := .free "int") rfl), b_isinstance := He.free_ok X Gn (c1.fact 54 (f := .free "isinstance") rfl), b_len := He.free_ok X Gn (c1.fact 55 (f := .free "len") rfl), b_list := He.free_ok X Gn (c1.fact 56 (f := .free "list") rfl), b_max := He.free_ok X Gn (c1.fact 57 (f := .free "max") rfl), b_min := He.free_ok X Gn (c1.fact 58 (f := .free "min") rfl), b_range := He.free_ok X Gn (c1.fact 59 (f := .free "range") rfl), b_ord := He.free_ok X Gn (c1.fact 60 (f := .free "ord") rfl), b_repr := He.free_ok X Gn (c1.fact 61 (f := .free "repr") rfl), b_reversed := He.free_ok X Gn (c1.fact 62 (f := .free "reversed") rfl), b_set := He.free_ok X Gn (c1.fact 63 (f := .free "set") rfl), b_sorted := He.free_ok X Gn (c1.fact 64 (f := .free "sorted") rfl), b_str := He.free_ok X Gn (c1.fact 65 (f := .free "str") rfl), b_sum := He.free_ok X Gn (c1.fact 66 (f := .free "sum") rfl), b_tuple := He.free_ok X Gn (c1.fact 67 (f := .free "tuple") rfl) }
  have D : Defs K mg := { d_is_integer := ⟨glo (c1.fact 0 (f := .glo "is_integer") rfl), c1.def_ 0 rfl⟩, d_is_between := ⟨glo (c1.fact 1 (f := .glo "is_between") rfl), c1.def_ 1 rfl⟩, d_is_list := ⟨glo (c1.fact 2 (f := .glo "is_list") rfl), c1.def_ 2 rfl⟩, d_is_pair := ⟨glo (c1.fact 3 (f := .glo "is_pair") rfl), c1.def_ 3 rfl⟩, d_is_name := ⟨glo (c1.fact 4 (f := .glo "is_name") rfl), c1.def_ 4 rfl⟩, d_are_different := ⟨glo (c1.fact 5 (f := .glo "are_different") rfl), c1.def_ 5 rfl⟩, d_is_condition := ⟨glo (c1.fact 6 (f := .glo "is_condition") rfl), c1.def_ 6 rfl⟩, d_condition_text := ⟨glo (c1.fact 7 (f := .glo "condition_text") rfl), c1.def_ 7 rfl⟩, d_read_condition := ⟨glo (c1.fact 8 (f := .glo "read_condition") rfl), c1.def_ 8 rfl⟩, d_amount_text := ⟨glo (c1.fact 9 (f := .glo "amount_text") rfl), c1.def_ 9 rfl⟩, d_stacked_words := ⟨glo (c1.fact 10 (f := .glo "stacked_words") rfl), c1.def_ 10 rfl⟩, d_take_word := ⟨glo (c1.fact 11 (f := .glo "take_word") rfl), c1.def_ 11 rfl⟩, d_take_digit := ⟨glo (c1.fact 12 (f := .glo "take_digit") rfl), c1.def_ 12 rfl⟩, d_take_amount := ⟨glo (c1.fact 13 (f := .glo "take_amount") rfl), c1.def_ 13 rfl⟩, d_take_condition := ⟨glo (c1.fact 14 (f := .glo "take_condition") rfl), c1.def_ 14 rfl⟩, d_u_take := ⟨glo (c1.fact 15 (f := .glo "_take_condition") rfl), c1.def_ 15 rfl⟩, d_u_condition := ⟨glo (c1.fact 16 (f := .glo "_is_condition") rfl), c1.def_ 16 rfl⟩, d_is_amount := ⟨glo (c1.fact 17 (f := .glo "_is_amount") rfl), c1.def_ 17 rfl⟩, d_are_kinds := ⟨glo (c1.fact 18 (f := .glo "_are_kinds") rfl), c1.def_ 18 rfl⟩, d_is_kind := ⟨glo (c1.fact 19 (f := .glo "_is_kind") rfl), c1.def_ 19 rfl⟩, d_sides_of := ⟨glo (c1.fact 20 (f := .glo "_sides_of") rfl), c1.def_ 20 rfl⟩, d_without := ⟨glo (c1.fact 21 (f := .glo "_without") rfl), c1.def_ 21 rfl⟩, d_cell := ⟨glo (c1.fact 22 (f := .glo "_law_cell") rfl), c1.def_ 22 rfl⟩, d_box := ⟨glo (c1.fact 23 (f := .glo "_law_box") rfl), c1.def_ 23 rfl⟩, d_take := ⟨glo (c1.fact 24 (f := .glo "_law_take") rfl), c1.def_ 24 rfl⟩, d_letters := ⟨glo (c1.fact 25 (f := .glo "_law_letters") rfl), c1.def_ 25 rfl⟩, d_kinds := ⟨glo (c1.fact 26 (f := .glo "_law_kinds") rfl), c1.def_ 26 rfl⟩, d_sides := ⟨glo (c1.fact 27 (f := .glo "_law_sides") rfl), c1.def_ 27 rfl⟩, d_number := ⟨glo (c1.fact 28 (f := .glo "_law_number") rfl), c1.def_ 28 rfl⟩, d_numbers := ⟨glo (c1.fact 29 (f := .glo "_law_numbers") rfl), c1.def_ 29 rfl⟩, d_amount := ⟨glo (c1.fact 30 (f := .glo "_law_amount") rfl), c1.def_ 30 rfl⟩, d_condition := ⟨glo (c1.fact 31 (f := .glo "_law_condition") rfl), c1.def_ 31 rfl⟩, d_amount_words := ⟨glo (c1.fact 32 (f := .glo "_law_amount_words") rfl), c1.def_ 32 rfl⟩, d_words := ⟨glo (c1.fact 33 (f := .glo "_law_words") rfl), c1.def_ 33 rfl⟩, d_amount_read := ⟨glo (c1.fact 34 (f := .glo "_law_amount_read") rfl), c1.def_ 34 rfl⟩, d_read := ⟨glo (c1.fact 35 (f := .glo "_law_read") rfl), c1.def_ 35 rfl⟩, d_due := ⟨glo (c1.fact 36 (f := .glo "_law_due") rfl), c1.def_ 36 rfl⟩, d_spoilt := ⟨glo (c1.fact 37 (f := .glo "_law_spoilt") rfl), c1.def_ 37 rfl⟩, d_read_right := ⟨glo (c1.fact 38 (f := .glo "_law_read_right") rfl), c1.def_ 38 rfl⟩, d_written_right := ⟨glo (c1.fact 39 (f := .glo "_law_written_right") rfl), c1.def_ 39 rfl⟩, d_cell_right := ⟨glo (c1.fact 40 (f := .glo "_law_cell_right") rfl), c1.def_ 40 rfl⟩ }
  have T : PortsC K mg (He.ga K "Ports") (He.ma K (He.ga K "Ports") "__init__") (He.ma K (He.ga K "Ports") "has") :=
    ⟨He.cls_ok (c1.fact 72 (f := .cls "Ports") rfl), He.noat_ok (c1.fact 73 (f := .noat "Ports" "kinds") rfl), He.noat_ok (c1.fact 74 (f := .noat "Ports" "_names") rfl), He.noat_ok (c1.fact 75 (f := .noat "Ports" "_sides") rfl), He.noat_ok (c1.fact 76 (f := .noat "Ports" "_sides_by_name") rfl), He.noat_ok (c1.fact 77 (f := .noat "Ports" "_others") rfl), glo (c1.fact 42 (f := .glo "Ports") rfl), He.mkr_ok (c1.fact 78 (f := .mkr "Ports") rfl), He.meth_ok (c1.fact 79 (f := .meth "Ports" "has") rfl)⟩
  have PT : PartsT K w mg := by
    obtain ⟨es, n, KD⟩ := c0.tab 0 rfl
    refine ⟨_, es, n, glo (c1.fact 45 (f := .glo "PARTS") rfl), KD, fun z => ?_⟩
    have dw : He.dicW K (He.ga K "PARTS") = some (He.keysIn w.params ["is", "above", "both", "either", "not"]) := by
      have e : tabs.map (fun t => He.dicW K (t.1 K)) = tabs.map fun t => some (He.keysIn w.params t.2) := congrArg (fun z : He.AlT => z.2) c0
      exact List.head_eq_of_cons_eq e
    have got : ∀ (k : Str) (m : Nat), (k, He.Dv.int (m : Int)) ∈ partsKV → ∃ r, PySem.W.nsIn K (He.ga K "PARTS") k = some r ∧ RelV (.int (m : Int)) (r.getD .none) := fun k m hm => by
      obtain ⟨u, e, r⟩ := He.valsB_ok x4 hm
      exact ⟨some u, e, r⟩
    unfold partsV parts
    by_cases h1 : z = "is"
    · rw [if_pos h1, h1]; exact got "is" 2 (by simp [partsKV])
    rw [if_neg h1]
    by_cases h2 : z = "above"
    · rw [if_pos h2, h2]; exact got "above" 2 (by simp [partsKV])
    rw [if_neg h2]
    by_cases h3 : z = "both"
    · rw [if_pos h3, h3]; exact got "both" 2 (by simp [partsKV])
    rw [if_neg h3]
    by_cases h4 : z = "either"
    · rw [if_pos h4, h4]; exact got "either" 2 (by simp [partsKV])
    rw [if_neg h4]
    by_cases h5 : z = "not"
    · rw [if_pos h5, h5]; exact got "not" 1 (by simp [partsKV])
    rw [if_neg h5]
    exact ⟨none, no_key dw (by simp [h1, h2, h3, h4, h5]), rfl⟩
  have TC : TupT K mg "COMPARING" isAb := ⟨_, glo (c1.fact 43 (f := .glo "COMPARING") rfl), fun H => He.tupB_ok x2 H⟩
  have TJ : TupT K mg "JOINING" joinW := ⟨_, glo (c1.fact 44 (f := .glo "JOINING") rfl), fun H => He.tupB_ok x3 H⟩
  have DT : DigT K w mg := by
    obtain ⟨es, n, KD⟩ := c0.tab 1 rfl
    refine ⟨_, es, n, glo (c1.fact 46 (f := .glo "DIGITS") rfl), KD, fun z => ?_⟩
    have dw : He.dicW K (He.ga K "DIGITS") = some (He.keysIn w.params digK) := by
      have e : tabs.map (fun t => He.dicW K (t.1 K)) = tabs.map fun t => some (He.keysIn w.params t.2) := congrArg (fun z : He.AlT => z.2) c0
      exact List.head_eq_of_cons_eq (List.tail_eq_of_cons_eq e)
    unfold dgV
    cases e : digit z with
    | none =>
      refine ⟨none, no_key dw (fun hz => ?_), rfl⟩
      have all : (digK.all fun k => (digit k).isSome) = true := by decide +kernel
      have y := List.all_eq_true.mp all z hz
      rw [e] at y; cases y
    | some m =>
      obtain ⟨ez, m9⟩ := digit_some e
      have hm : (z, He.Dv.int (m : Int)) ∈ digKV := by
        rw [ez]
        match m, m9 with
        | 0, _ => exact List.mem_cons_self ..
        | 1, _ => exact .tail _ (List.mem_cons_self ..)
        | 2, _ => exact .tail _ (.tail _ (List.mem_cons_self ..))
        | 3, _ => exact .tail _ (.tail _ (.tail _ (List.mem_cons_self ..)))
        | 4, _ => exact .tail _ (.tail _ (.tail _ (.tail _ (List.mem_cons_self ..))))
        | 5, _ => exact .tail _ (.tail _ (.tail _ (.tail _ (.tail _ (List.mem_cons_self ..)))))
        | 6, _ => exact .tail _ (.tail _ (.tail _ (.tail _ (.tail _ (.tail _ (List.mem_cons_self ..))))))
        | 7, _ => exact .tail _ (.tail _ (.tail _ (.tail _ (.tail _ (.tail _ (.tail _ (List.mem_cons_self ..)))))))
        | 8, _ => exact .tail _ (.tail _ (.tail _ (.tail _ (.tail _ (.tail _ (.tail _ (.tail _ (List.mem_cons_self ..))))))))
        | 9, _ => exact .tail _ (.tail _ (.tail _ (.tail _ (.tail _ (.tail _ (.tail _ (.tail _ (.tail _ (List.mem_cons_self ..)))))))))
      obtain ⟨u, eu, ru⟩ := He.valsB_ok x5 hm
      exact ⟨some u, eu, ru⟩
  obtain ⟨y1, x6⟩ := He.ba x6
  obtain ⟨y2, x6⟩ := He.ba x6
  obtain ⟨y3, x6⟩ := He.ba x6
  obtain ⟨y4, x6⟩ := He.ba x6
  obtain ⟨y5, x6⟩ := He.ba x6
  obtain ⟨y6, x6⟩ := He.ba x6
  obtain ⟨y7, x6⟩ := He.ba x6
  obtain ⟨y8, x6⟩ := He.ba x6
  obtain ⟨y9, x6⟩ := He.ba x6
  obtain ⟨ya, x6⟩ := He.ba x6
  obtain ⟨yb, x6⟩ := He.ba x6
  obtain ⟨yc, x6⟩ := He.ba x6
  obtain ⟨yd, x6⟩ := He.ba x6
  obtain ⟨ye, yf⟩ := He.ba x6
  have oe : OexC K (He.ga K "InvalidText") := ⟨oexB_ok y1, He.eqO_ok y2, of_decide_eq_true y3, of_decide_eq_true y4, y5⟩
  have EC : ErrC K mg (He.ga K "InvalidText") (He.ma K (He.ga K "InvalidText") "__init__") := ⟨glo (c1.fact 47 (f := .glo "InvalidText") rfl), oe, He.eqO_ok y6, of_decide_eq_true y7, He.noat_ok (c1.fact 81 (f := .noat "InvalidText" "given") rfl)⟩
  have EX : ErrX K mg (He.ga K "InvalidText") (He.ga K "NearError") := ⟨⟨He.eqO_ok y8, He.eqO_ok y9, of_decide_eq_true y3, ya⟩, ⟨He.eqO_ok y8, He.eqO_ok y9, of_decide_eq_true y3, ya, He.eqO_ok yb, He.eqO_ok yc, of_decide_eq_true yd, of_decide_eq_true ye⟩, glo (c1.fact 48 (f := .glo "NearError") rfl), of_decide_eq_true yf, He.exm_ok (c1.fact 80 (f := .exm "InvalidText" "InvalidText" true) rfl)⟩
  have FE : ∃ fd, FunD K "__init__" "InvalidText.__init__" (defArgs s_erri) (defBody s_erri) (defScope s_erri) [] [] (He.ma K (He.ga K "InvalidText") "__init__") fd := c1.def_ 43 (d := ⟨("InvalidText", some "__init__"), "__init__", "InvalidText.__init__", defArgs s_erri, defBody s_erri, defScope s_erri, [], []⟩) rfl
  obtain ⟨fd, F⟩ := c1.def_ 44 (d := ⟨("law", none), "law", "law", defArgs s_law, defBody s_law, defScope s_law, [], []⟩) rfl
  have FI : ∃ fd, FunD K "__init__" "Ports.__init__" (defArgs s_init) (defBody s_init) (defScope s_init) [] [] (He.ma K (He.ga K "Ports") "__init__") fd := c1.def_ 41 (d := ⟨("Ports", some "__init__"), "__init__", "Ports.__init__", defArgs s_init, defBody s_init, defScope s_init, [], []⟩) rfl
  have FH : ∃ fd, FunD K "has" "Ports.has" (defArgs s_has) (defBody s_has) (defScope s_has) [] [] (He.ma K (He.ga K "Ports") "has") fd := c1.def_ 42 (d := ⟨("Ports", some "has"), "has", "Ports.has", defArgs s_has, defBody s_has, defScope s_has, [], []⟩) rfl
  have e := hlaw.symm.trans (glo (c1.fact 41 (f := .glo "law") rfl))
  cases e
  have b := FunD.bindsA (ps := ["script"]) F fun _ _ _ _ _ _ us hl => match us, hl with | [_], _ => rfl
  refine ⟨fd, fun s v => b s [v] rfl, fun base hb _ => ?_⟩
  have sm : ∃ o, base.get? sysModules = some o := by
    obtain ⟨o, ho⟩ := Option.isSome_iff_exists.mp x1
    exact ⟨o, hb _ _ ho⟩
  exact all_ok G D T PT DT TC TJ (He.int_ok X Gn (c1.fact 69 (f := .int "DEEPEST_CONDITION" 4) rfl)) (He.int_ok X Gn (c1.fact 70 (f := .int "MOST_KINDS" 12) rfl)) (He.int_ok X Gn (c1.fact 71 (f := .int "MOST_LETTERS" 4) rfl)) (He.str_ok X Gn (c1.fact 68 (f := .str "LETTERS" "abcdefghijklmnopqrstuvwxyz") rfl)) FI FH EC EX FE sm F
end NH
open PySem PySem.W PySem.Calls PyProof.Rows
theorem PySem.Challenge.cw_nearhelp_k03_condition_texts_holds : PySem.Challenge.rw_nearhelp_k03_condition_texts.Holds := by
  w_on; o_law
  refine HandSHeadRun.head_any (r := OpenLaw.row PySem.Challenge.rw_nearhelp_k03_condition_texts) (q := view (OpenLaw.row PySem.Challenge.rw_nearhelp_k03_condition_texts).prog [60]) (H := NH.hook) (ob := NH.ob) (M := 4000) (loose := NH.loose) (d := HandSHeadRun.topDef (OpenLaw.row PySem.Challenge.rw_nearhelp_k03_condition_texts).prog 60) (kwd := []) NH.ob_eq
    (by kernel_rfl) (fun s => by kernel_rfl) NH.run (by kernel_rfl) (by kernel_rfl) (by kernel_rfl) (by rfl) (by first | assumption | decide +kernel) (by decide +kernel) ⟨rfl, rfl, rfl, rfl, rfl, by decide +kernel⟩ ?hw ?hc
  case hw => w_witness2
  case hc =>
    refine NH.walkG (l := PySem.Challenge.rw_nearhelp_k03_condition_texts) (n := 63) (k := 22) (x := "script") rfl (by decide) (by kernel_rfl) ⟨rfl, by decide, by decide⟩ ?F
    intro w mg fa h Y G hmg0
    obtain ⟨K, KX, c⟩ := Y
    have hmg : mg ("law" : PySem.Str) = some (.ref fa) := by
      have e : (HandSHeadRun.topDef (OpenLaw.row PySem.Challenge.rw_nearhelp_k03_condition_texts).prog 60).name = ("law" : PySem.Str) := by kernel_rfl
      rw [← e]
      exact hmg0
    obtain ⟨fd, hb, hF⟩ := NH.facts (P := (PySem.Challenge.rw_nearhelp_k03_condition_texts).prog) (w := w) KX G hmg c
    exact ⟨K, fd, NH.spLaw K, KX, hb, fun H a ns hl _ hS => ⟨a, ns, rfl, hS, hl, fun _ => rfl⟩, hF⟩
