import PyProof.Rows.All
import Wide.All
import OpenK.AllK
import Wide.FinOn
import KE.KStateDown
import Lean
import Wide.Once
import HandS.ForMost
import HandS.Exc
import HandS.WordsExc
import HandS.Defaults
import HandS.IsInst
import HandS.Strs
import HandS.SetKeys
import HandS.Deep
import HandS.Wide
import HandS.WideMore
import HandS.FStr
import HandS.Conv
import HandS.More
import HandS.StrMore
import HandS.Head0
import HandS.Head1
import HandS.Head2
import HandS.HeadEnd
import HandS.HeadHook1
import HandS.HeadHook2
import HandS.Walk
import HandS.DictComp
import PyProof.NeKinds
import PyProof.StrLawsRepr
import PyProof.ReprRoads
import HandS.ExcOwn
import HandS.ExcField
import HandS.ExcIs
import HandS.ExcInit
import HandS.ExcValue
import HandS.Lambda
import HandS.OwnEq
import KE.KExcIs
import HandS.MakeKw
import HandS.RaiseMore
import HandS.HeadHook3
import HandS.Small
import HandS.Style
import HandS.HotCalls
import HandS.ExcCtx
import HandS.SuiteRaise
import HandS.Comp
import PySem.Challenge.RW_nearhelp_k00_errors
set_option Elab.async false
set_option linter.all false
set_option maxRecDepth 100000
set_option maxHeartbeats 4000000
namespace NH
open PySem PySem.Spec PyProof.Rows L2
/-- where a def of the top stands -/
structure DefAt (K : PySem.W.Frag) (mg : Str → Option Value) (x : Str) (st : Stmt) : Prop where
  g : mg x = some (.ref (He.ga K x))
  f : ∃ fd, FunD K x x (defArgs st) (defBody st) (defScope st) [] [] (He.ga K x) fd
/-- a def that keeps a promise -/
structure Callee (P : Program) (w : World) (K : PySem.W.Frag) (mg : Str → Option Value) (base : Heap) (k : Nat) (x : Str) (ps : List Str) (sp : Sp) : Prop where
  ex : ∃ f fd, mg x = some (.ref f) ∧ PySem.W.keepIn K (.ref f) = true ∧ Binds K fd ps [] ∧ FnOk P w K mg base CX0 k f fd ps sp
section
variable {P : Program} {w : World} {K : PySem.W.Frag} {mg : Str → Option Value} {base : Heap}
theorem callee {x : Str} {st : Stmt} {N ps : List Str} {k : Nat} {sp : Sp} (D : DefAt K mg x st) (S : FnScope N ps (defScope st)) (len : ∀ vs H Q E, sp vs H Q E → vs.length = ps.length)
    (hb : ∀ (kV doc pm : Value) (an : Option Addr) (cdv ct : Value) (us : List Value), us.length = ps.length → bindArgs (PySem.W.fnOf x x (defArgs st) (defBody st) (defScope st) .none kV doc pm an cdv ct) ⟨us, []⟩ = pure (ps.zip us))
    (hbody : ∀ (f : Addr) (cdv : Value) (A : Around) (outer : List Env) (s : Shared) (H : Hp) (vs : List V) (Q : VK) (E : XK), Room k (A.deeper (envOfC x (defScope st) s.heap.objs.size f cdv)) → sp vs H Q E →
      ∃ t, PSs (cxOf CX0 P w K mg base N x (defScope st) f cdv A outer s H E).nox (defBody st) t ∧ t { nx := fun _ H' => Q .non H', rt := Q } (start N vs) H) : Callee P w K mg base (k + 1) x ps sp := by
  obtain ⟨fd, F⟩ := D.f
  exact ⟨_, fd, D.g, F.kp, F.bindsN hb, F.ok S len fun cdv A outer s H vs Q E hr h => let ⟨t, h1, h2⟩ := hbody _ cdv A outer s H vs Q E hr h; ⟨t, h1.nox, h2⟩⟩
end
section
variable {X : Cx}
/-- f(e, ..) -/
theorem pe_cal {k j : Nat} {x : Str} {ps : List Str} {sp : Sp} {e : Expr} {es : List Expr} {p pos : Pos} {t : TA} (c : Callee X.prog X.w X.K X.mg X.base k x ps sp) (hr : Room j X.A) (hj : k ≤ j) (ha : PA X (e :: es) t) (hg : Gl X x := by rfl)
    (hdb : (x == ("__debug__" : Str)) = false := by decide) (he : starEach (e :: es) X.env = (false, eval e X.env) :: starEach es X.env := by rfl) (hpl : (backTo pos (starEach es X.env)).any (·.1) = false := by rfl) :
    PE X (.Call (.Name x p) (e :: es) [] pos) (tCall sp [] E0 t) := by
  obtain ⟨f, fd, hm, hk, hb, F⟩ := c.ex
  exact pe_call F (hr.mono hj) hg hm hk hb .nil pass0 ha hdb he hpl
end
theorem itd {c A B : Prop} [Decidable c] (h1 : c → A) (h2 : ¬ c → B) : if decide c = true then A else B := by
  by_cases h : c
  · rw [decide_eq_true h]; exact iteT (h1 h)
  · rw [decide_eq_false h]; exact iteF (h2 h)
theorem itb {b : Bool} {A B : Prop} (h1 : b = true → A) (h2 : b = false → B) : if b = true then A else B := by
  cases b with
  | true => exact iteT (h1 rfl)
  | false => exact iteF (h2 rfl)
theorem itt {b : Bool} {A B : Prop} (e : b = true) (h1 : A) : if b = true then A else B := by
  subst e; exact iteT h1
theorem itf {b : Bool} {A B : Prop} (e : b = false) (h1 : B) : if b = true then A else B := by
  subst e; exact iteF h1
theorem same_new {H : Hp} {p : Addr} {o : HO} (hp : H p = none) : Same H (upd H p o) := fun b u e => by rw [upd_ne (ne_of_none e hp)]; exact e
theorem atI_get {xs : List V} {i : Nat} {v : V} (h : xs[i]? = some v) : atI xs (i : Int) = some v := by
  have h1 : i < xs.length := (List.getElem?_eq_some_iff.mp h).1
  exact atI_nat h
end NH
set_option maxHeartbeats 4000000
namespace NH
open PySem PySem.Spec PyProof.Rows L2
def top (i : Nat) : Stmt := PySem.Challenge.pw_nearhelp_k00_errors.main.body.getD i (.Pass ⟨0, 0, 0, 0⟩)
structure Bl (mg : Str → Option Value) : Prop where
  b_ValueError : mg "ValueError" = none
  b_abs : mg "abs" = none
  b_all : mg "all" = none
  b_bool : mg "bool" = none
  b_int : mg "int" = none
  b_isinstance : mg "isinstance" = none
  b_len : mg "len" = none
  b_list : mg "list" = none
  b_max : mg "max" = none
  b_min : mg "min" = none
  b_range : mg "range" = none
  b_repr : mg "repr" = none
  b_set : mg "set" = none
  b_sorted : mg "sorted" = none
  b_str : mg "str" = none
  b_sum : mg "sum" = none
  b_tuple : mg "tuple" = none
section
variable {P : Program} {w : World} {K : PySem.W.Frag} {mg : Str → Option Value} {base : Heap}
/-! ### _law_cell, _law_box, _law_take -/
abbrev s_law_cell : Stmt := top 69
theorem sc_law_cell : FnScope ["script", "k"] ["script", "k"] (defScope s_law_cell) := ⟨rfl, rfl, rfl, by decide +kernel, rfl, by decide +kernel, by decide +kernel⟩
def spCell (K : PySem.W.Frag) : Sp := fun vs H Q _ => ∃ (a : Addr) (ns : List Int) (k : Nat), vs = [.ref a, .int k] ∧ SqL K H a (ns.map V.int) ∧ ns.length ≤ 63 ∧ ∀ i H', Same H H' → Q (.int i) H'
theorem ok_law_cell (G : Bl mg) (D : DefAt K mg "_law_cell" s_law_cell) : Callee P w K mg base 2 "_law_cell" ["script", "k"] (spCell K) := by
  refine callee D sc_law_cell (fun vs H Q E h => by obtain ⟨a, ns, k, rfl, _⟩ := h; rfl) (fun _ _ _ _ _ _ us hl => match us, hl with | [_, _], _ => rfl) fun f cdv A outer s H vs Q E hr h => ?_
  obtain ⟨a, ns, k, rfl, hS, hl, q⟩ := h
  refine ⟨_, (pss_one (ps_ret (pe_ifExp (pt_cmpR op_lt (pv 1) (pe_callB call_len_seq (by rfl) G.b_len (by decide +kernel) (pa_cons (pv 0) pa_nil)) (nomark _)) (pe_ix ix_list (pv 0) (pv 1) (fun _ _ => rfl)) (pe_op op_add (pe_op op_mul pe_int (pv 1)) (pe_op op_mod (pe_callB (cr_sum rfl) (by rfl) G.b_sum (by decide +kernel) (pa_cons (pe_slice sl_list (pv 0) po_none (po_some pe_int)) pa_nil)) pe_int))))), ?_⟩
  have hS' : ∀ H', Same H H' → SqL K H' a (ns.map V.int) := fun H' e => e.seq hS
  refine ⟨_, rfl, _, rfl, a, _, rfl, .inl hS, _, _, rfl, rfl, _, rfl, itd (fun hk => ?_) fun hk => ?_⟩
  · have hk' : k < ns.length := by rw [List.length_map] at hk; omega
    exact ⟨_, rfl, _, rfl, a, _, _, _, rfl, rfl, hS, atI_get (by rw [List.getElem?_map, List.getElem?_eq_getElem hk']; rfl), q _ _ (Same.refl H)⟩
  · refine ⟨_, rfl, _, _, rfl, rfl, .inl ⟨by decide, by decide⟩, _, rfl, _, rfl, a, _, rfl, hS, fun p hp => ?_⟩
    have e1 : cutV (ns.map V.int) none (some 1) = (ns.take 1).map V.int := by
      cases ns <;> rfl
    rw [e1]
    exact ⟨p, _, rfl, SqL.of upd_same, _, _, rfl, rfl, (by show (0 : Int) < 1000033; decide), _, _, rfl, rfl, q _ _ (same_new hp)⟩
/-- the box of a drawing: n bounds how often it has been asked -/
def IsBox (n : Nat) (o : HO) : Prop := ∃ (x : Int) (f : Bool) (r : Int) (c : Nat), o = .lst [.int x, .bl f, .int r, .int c] ∧ 0 ≤ x ∧ 0 ≤ r ∧ r < 2147483648 ∧ c ≤ n
theorem IsBox.mono {n m : Nat} {o : HO} (h : IsBox n o) (e : n ≤ m) : IsBox m o := by
  obtain ⟨x, f, r, c, rfl, h1, h2, h3, h4⟩ := h
  exact ⟨x, f, r, c, rfl, h1, h2, h3, Nat.le_trans h4 e⟩
abbrev s_law_box : Stmt := top 70
theorem sc_law_box : FnScope ["great"] ["great"] (defScope s_law_box) := ⟨rfl, rfl, rfl, by decide +kernel, rfl, by decide +kernel, by decide +kernel⟩
def spBox : Sp := fun vs H Q _ => ∃ (i : Int), vs = [.int i] ∧ ∀ p o, H p = none → IsBox 0 o → Q (.ref p) (upd H p o)
theorem ok_law_box (G : Bl mg) (D : DefAt K mg "_law_box" s_law_box) : Callee P w K mg base 2 "_law_box" ["great"] spBox := by
  refine callee D sc_law_box (fun vs H Q E h => by obtain ⟨i, rfl, _⟩ := h; rfl) (fun _ _ _ _ _ _ us hl => match us, hl with | [_], _ => rfl) fun f cdv A outer s H vs Q E hr h => ?_
  obtain ⟨i, rfl, q⟩ := h
  refine ⟨_, (pss_one (ps_ret (pe_lst (pa_cons (pe_callB call_abs (by rfl) G.b_abs (by decide +kernel) (pa_cons (pv 0) pa_nil)) (pa_cons (pe_cmpR op_ge (pe_callB call_abs (by rfl) G.b_abs (by decide +kernel) (pa_cons (pv 0) pa_nil)) (pe_op op_pow pe_int pe_int) (nomark _)) (pa_cons (pe_op op_mod (pe_callTy call_int1 (by rfl) G.b_int (by decide +kernel) (pa_cons (pe_callB call_abs (by rfl) G.b_abs (by decide +kernel) (pa_cons (pv 0) pa_nil)) pa_nil)) pe_int) (pa_cons pe_int pa_nil))))))), ?_⟩
  refine ⟨_, rfl, i, rfl, _, rfl, i, rfl, _, _, rfl, rfl, ⟨by decide, by decide, by decide⟩, _, _, rfl, rfl, _, rfl, i, rfl, .inl ⟨_, rfl, _, _, rfl, rfl, (by show (0 : Int) < 2147483629; decide), (by show 4 ≤ sizeLine; decide), fun p hp => q p _ hp ⟨_, _, _, 0, rfl, ?_, ?_, ?_, Nat.le_refl _⟩⟩⟩
  · split <;> omega
  · exact Int.emod_nonneg _ (by decide)
  · have h1 : (if i < 0 then -i else i) % 2147483629 < 2147483629 := Int.emod_lt_of_pos _ (by decide)
    omega
abbrev s_law_take : Stmt := top 71
theorem sc_law_take : FnScope ["box", "many", "digit", "mixed"] ["box", "many"] (defScope s_law_take) := ⟨rfl, rfl, rfl, by decide +kernel, rfl, by decide +kernel, by decide +kernel⟩
def spTake : Sp := fun vs H Q _ => ∃ (b : Addr) (m n : Nat) (o : HO), vs = [.ref b, .int m] ∧ H b = some o ∧ IsBox n o ∧ n ≤ 1000000000 ∧ 0 < m ∧ m ≤ 1000000 ∧ ∀ (d : Nat) o', d < m → IsBox (n + 1) o' → Q (.int d) (upd H b o')
theorem ok_law_take (G : Bl mg) (D : DefAt K mg "_law_take" s_law_take) : Callee P w K mg base 2 "_law_take" ["box", "many"] spTake := by
  refine callee D sc_law_take (fun vs H Q E h => by obtain ⟨b, m, n, o, rfl, _⟩ := h; rfl) (fun _ _ _ _ _ _ us hl => match us, hl with | [_, _], _ => rfl) fun f cdv A outer s H vs Q E hr h => ?_
  obtain ⟨b, m, n, o, rfl, hb, ⟨x, fl, r, c, rfl, hx, hr0, hr1, hc⟩, hn, hm0, hm1, q⟩ := h
  refine ⟨_, (pss_cons (ps_if (PW.pt (pw_and (pt_val (pe_ix ix_list (pv 0) pe_int (fun _ _ => rfl))) (pw_and1 (pt_cmpR op_gt (pe_ix ix_list (pv 0) pe_int (fun _ _ => rfl)) pe_int (nomark _))))) (pss_cons (ps_set (i := 2) sc_law_take.nd rfl (Or.inl rfl) (pe_op op_mod (pe_callTy call_int1 (by rfl) G.b_int (by decide +kernel) (pa_cons (pe_ix ix_list (pv 0) pe_int (fun _ _ => rfl)) pa_nil)) (pv 1)))
    (pss_cons (ps_asg (pe_op op_fdiv (pe_ix ix_list (pv 0) pe_int (fun _ _ => rfl)) (pv 1)) (pg_sub (pv 0) pe_int set_list))
    (pss_one (ps_ret (pv 2))))) pss_nil)
    (pss_cons (ps_asg (pe_op op_add (pe_ix ix_list (pv 0) pe_int (fun _ _ => rfl)) pe_int) (pg_sub (pv 0) pe_int set_list))
    (pss_cons (ps_set (i := 3) sc_law_take.nd rfl (Or.inl rfl) (pe_op op_mod (pe_callTy call_int1 (by rfl) G.b_int (by decide +kernel) (pa_cons (pe_op op_pow (pe_op op_add (pe_op op_add (pe_ix ix_list (pv 0) pe_int (fun _ _ => rfl)) (pe_op op_mul pe_int (pe_ix ix_list (pv 0) pe_int (fun _ _ => rfl)))) pe_int) pe_int) pa_nil)) pe_int))
    (pss_one (ps_ret (pe_op op_mod (pe_op op_fdiv (pe_op op_mod (pe_callTy call_int1 (by rfl) G.b_int (by decide +kernel) (pa_cons (pe_op op_pow (pe_op op_add (pe_op op_mul (pv 3) pe_int) (pe_op op_mul pe_int (pe_ix ix_list (pv 0) pe_int (fun _ _ => rfl)))) pe_int) pa_nil)) pe_int) pe_int) (pv 1))))))), ?_⟩
  have i0 : atI ([.int x, .bl fl, .int r, .int (c : Int)] : List V) 0 = some (.int x) := rfl
  have i1 : atI ([.int x, .bl fl, .int r, .int (c : Int)] : List V) 1 = some (.bl fl) := rfl
  have i2 : atI ([.int x, .bl fl, .int r, .int (c : Int)] : List V) 2 = some (.int r) := rfl
  have i3 : atI ([.int x, .bl fl, .int r, .int (c : Int)] : List V) 3 = some (.int (c : Int)) := rfl
  have hm : (0 : Int) < (m : Int) := by omega
  have one : ixN ([.int x, .bl fl, .int r, .int (c : Int)] : List V).length 3 = some 3 := rfl
  have two : ixN ([.int x, .bl fl, .int r, .int (c : Int)] : List V).length 0 = some 0 := rfl
  refine ⟨_, rfl, b, _, _, _, rfl, rfl, SqL.of hb, i1, fl, rfl, ?_⟩
  refine itb (fun hf => ?T) fun hf => iteF ?C
  case' T => refine ⟨_, rfl, b, _, _, _, rfl, rfl, SqL.of hb, i0, _, _, rfl, rfl, _, rfl, itd (fun hx1 => ?A) fun _ => ?B⟩
  case A =>
    refine ⟨_, rfl, b, _, _, _, rfl, rfl, SqL.of hb, i0, .inl ⟨x, rfl, _, rfl, _, _, rfl, rfl, hm, ?_⟩⟩
    refine ⟨_, rfl, b, _, _, _, rfl, rfl, SqL.of hb, i0, _, rfl, _, _, rfl, rfl, ⟨by omega, by show (m : Int) < 1073741824; omega⟩, _, rfl, b, _, _, _, rfl, rfl, hb, two, _, rfl, ?_⟩
    have e1 : x % (m : Int) = ((x % (m : Int)).toNat : Int) := (Int.toNat_of_nonneg (Int.emod_nonneg _ (by omega))).symm
    have l1 : x % (m : Int) < m := Int.emod_lt_of_pos _ hm
    show Q (.int (x % (m : Int))) _
    rw [e1]
    exact q _ _ (by omega) ⟨x / m, fl, r, c, rfl, Int.ediv_nonneg hx (by omega), hr0, hr1, by omega⟩
  all_goals
    refine ⟨_, rfl, b, _, _, _, rfl, rfl, SqL.of hb, i3, _, _, rfl, rfl, _, rfl, b, _, _, _, rfl, rfl, hb, one, ?_⟩
    have q' : ∀ (d : Int), 0 ≤ d → d < m → Q (.int d) (upd H b (.lst [.int x, .bl fl, .int r, .int ((c : Int) + 1)])) := fun d h0 h1 => by
      have z := q d.toNat _ (by omega) ⟨x, fl, r, c + 1, rfl, hx, hr0, hr1, by omega⟩
      rw [Int.toNat_of_nonneg h0] at z
      exact z
    have hb' : ∀ o, (upd H b o) b = some o := fun o => upd_same
    refine ⟨_, rfl, b, _, _, _, rfl, rfl, SqL.of (hb' _), rfl, _, rfl, b, _, _, _, rfl, rfl, SqL.of (hb' _), rfl, _, _, rfl, rfl, .inl ⟨by decide, by decide⟩, _, _, rfl, rfl, _, _, rfl, rfl, _, _, rfl, rfl, ⟨by decide, by decide, ?_⟩, .inl ⟨_, rfl, _, _, rfl, rfl, (by show (0 : Int) < 2147483647; decide), ?_⟩⟩
    · show (r + 15485863 * ((c : Int) + 1) + 179424673).natAbs < 2 ^ 64
      omega
    · have m0 : 0 ≤ (r + 15485863 * ((c : Int) + 1) + 179424673) ^ (5 : Int).toNat % 2147483647 := Int.emod_nonneg _ (by decide)
      have m1 : (r + 15485863 * ((c : Int) + 1) + 179424673) ^ (5 : Int).toNat % 2147483647 < 2147483647 := Int.emod_lt_of_pos _ (by decide)
      refine ⟨_, rfl, _, _, rfl, rfl, .inr ⟨by decide, by decide⟩, _, rfl, b, _, _, _, rfl, rfl, SqL.of (hb' _), rfl, _, _, rfl, rfl, .inl ⟨by decide, by decide⟩, _, _, rfl, rfl, _, _, rfl, rfl, ⟨by decide, by decide, ?_⟩, .inl ⟨_, rfl, _, _, rfl, rfl, (by show (0 : Int) < 2147483587; decide), _, _, rfl, rfl, ⟨by decide, by decide⟩, _, rfl, _, _, rfl, rfl, hm, ?_⟩⟩
      · show ((r + 15485863 * ((c : Int) + 1) + 179424673) ^ (5 : Int).toNat % 2147483647 * 48271 + 104729 * ((c : Int) + 1)).natAbs < 2 ^ 64
        omega
      · exact q' _ (Int.emod_nonneg _ (by omega)) (Int.emod_lt_of_pos _ hm)
end
end NH
set_option maxHeartbeats 4000000
namespace NH
open PySem PySem.Spec PyProof.Rows L2 TL
/-! ### heaps with some objects hidden -/
def hid (bs : List Addr) (H : Hp) : Hp := fun a => if a ∈ bs then none else H a
theorem hid_in {bs : List Addr} {H : Hp} {a : Addr} (h : a ∈ bs) : hid bs H a = none := if_pos h
theorem hid_out {bs : List Addr} {H : Hp} {a : Addr} (h : a ∉ bs) : hid bs H a = H a := if_neg h
theorem hid_some {bs : List Addr} {H : Hp} {a : Addr} {o : HO} (h : hid bs H a = some o) : a ∉ bs ∧ H a = some o := by
  by_cases e : a ∈ bs
  · rw [hid_in e] at h; cases h
  · rw [hid_out e] at h; exact ⟨e, h⟩
theorem hid_le {bs : List Addr} {H : Hp} : Same (hid bs H) H := fun a o h => (hid_some h).2
def Kp (bs : List Addr) (H H' : Hp) : Prop := ∀ a o, a ∉ bs → H a = some o → H' a = some o
theorem Kp.refl (bs : List Addr) (H : Hp) : Kp bs H H := fun _ _ _ h => h
theorem Kp.trans {bs : List Addr} {H H1 H2 : Hp} (x : Kp bs H H1) (y : Kp bs H1 H2) : Kp bs H H2 := fun a o n h => y a o n (x a o n h)
theorem Kp.of {bs : List Addr} {H H' : Hp} (x : Same H H') : Kp bs H H' := fun a o _ h => x a o h
theorem Kp.mono {bs cs : List Addr} {H H' : Hp} (x : Kp bs H H') (h : ∀ a ∈ bs, a ∈ cs) : Kp cs H H' := fun a o n q => x a o (fun z => n (h a z)) q
theorem Kp.new {bs : List Addr} {H : Hp} {p : Addr} {o : HO} (hp : H p = none) : Kp bs H (upd H p o) := Kp.of (same_new hp)
theorem Kp.atb {bs : List Addr} {H : Hp} {b : Addr} {o : HO} (h : b ∈ bs) : Kp bs H (upd H b o) := fun a u n e => by rw [upd_ne (fun z => n (by rw [z]; exact h))]; exact e
theorem Kp.put {bs : List Addr} {H H' : Hp} {p : Addr} {o : HO} (x : Kp bs H H') (hp : H p = none) : Kp bs H (upd H' p o) := fun a u n e => by rw [upd_ne (ne_of_none e hp)]; exact x a u n e
theorem Kp.hid {bs : List Addr} {H H' : Hp} (x : Kp bs H H') : Same (hid bs H) (hid bs H') := fun a o h => by
  obtain ⟨n, e⟩ := hid_some h
  rw [hid_out n]
  exact x a o n e
/-- all these stand -/
def Al (bs : List Addr) (H : Hp) : Prop := ∀ a ∈ bs, ∃ o, H a = some o
theorem Al.new {bs : List Addr} {H : Hp} {p : Addr} (x : Al bs H) (hp : H p = none) : p ∉ bs := fun z => by
  obtain ⟨o, e⟩ := x p z
  rw [hp] at e; cases e
theorem Al.same {bs : List Addr} {H H' : Hp} (x : Al bs H) (s : Same H H') : Al bs H' := fun a h => let ⟨o, e⟩ := x a h; ⟨o, s a o e⟩
/-- the box at b -/
def Bx (b : Addr) (n : Nat) (H : Hp) : Prop := ∃ o, H b = some o ∧ IsBox n o
theorem Bx.mono {b : Addr} {n m : Nat} {H : Hp} (x : Bx b n H) (h : n ≤ m) : Bx b m H := let ⟨o, e, i⟩ := x; ⟨o, e, i.mono h⟩
theorem Bx.same {b : Addr} {n : Nat} {H H' : Hp} (x : Bx b n H) (s : Same H H') : Bx b n H' := let ⟨o, e, i⟩ := x; ⟨o, s _ _ e, i⟩
theorem Bx.kp {b : Addr} {n : Nat} {bs : List Addr} {H H' : Hp} (x : Bx b n H) (s : Kp bs H H') (h : b ∉ bs) : Bx b n H' := let ⟨o, e, i⟩ := x; ⟨o, s _ _ h e, i⟩
theorem Al.kp {b : Addr} {n : Nat} {bs : List Addr} {H H' : Hp} (x : Al bs H) (s : Kp [b] H H') (h : Bx b n H') : Al bs H' := fun a z => by
  by_cases e : a = b
  · subst e; obtain ⟨o, q, _⟩ := h; exact ⟨o, q⟩
  · obtain ⟨o, q⟩ := x a z; exact ⟨o, s a o (by simpa using e) q⟩
theorem Bx.ne {b p : Addr} {n : Nat} {H : Hp} (x : Bx b n H) (hp : H p = none) : b ≠ p := fun z => by obtain ⟨o, e, _⟩ := x; rw [z, hp] at e; cases e
theorem Bx.put {b p : Addr} {n : Nat} {H : Hp} {o : HO} (x : Bx b n H) (h : b ≠ p) : Bx b n (upd H p o) := let ⟨u, e, i⟩ := x; ⟨u, by rw [upd_ne h]; exact e, i⟩
theorem tk {b : Addr} {m n : Nat} {H : Hp} {Q : VK} {E : XK} (x : Bx b n H) (hn : n ≤ 1000000000) (h0 : 0 < m) (h1 : m ≤ 1000000) (q : ∀ (d : Nat) H', d < m → Kp [b] H H' → Bx b (n + 1) H' → (∀ a, a ≠ b → H' a = H a) → Q (.int d) H') :
    spTake ([.ref b, .int m] ++ []) H Q E := by
  obtain ⟨o, e, i⟩ := x
  exact ⟨b, m, n, o, rfl, e, i, hn, h0, h1, fun d o' hd io => q d _ hd (Kp.atb (by simp)) ⟨o', upd_same, io⟩ fun a h => upd_ne h⟩
theorem tyes {σ : L2.St} {H : Hp} {F : Bool → Hp → Prop} (h : F true H) : tYes σ H F := h
/-! ### letters -/
def Ltr (x : Str) : Prop := ∀ c ∈ x.cps.toList, 97 ≤ c ∧ c ≤ 122
def abc : Str := Str.ofString "abcdefghijklmnopqrstuvwxyz"
theorem abc_at : ∀ d : Nat, d < 26 → abc.cps.toList[d]? = some (97 + d) := by decide +kernel
def sg (c : Nat) : Str := ⟨#[c]⟩
theorem join_sg (l : List Nat) : (Txt.join (Str.ofString "") (l.map sg)).cps.toList = l := by
  have h : tl (Str.join (Str.ofString "") (l.map sg)) = l := by
    rw [tl_join]
    have e0 : tl (Str.ofString "") = [] := rfl
    rw [e0]
    induction l with
    | nil => rfl
    | cons c r ih =>
      cases r with
      | nil => rfl
      | cons d r =>
        show tl (sg c) ++ ([] ++ joinL [] ((sg d :: r.map sg).map tl)) = _
        rw [List.nil_append]
        have ih' : joinL [] ((sg d :: r.map sg).map tl) = d :: r := ih
        rw [ih']
        rfl
  rw [join_eq]
  exact h
end NH
set_option maxHeartbeats 4000000
namespace NH
open PySem PySem.Spec PyProof.Rows L2 TL
def menuM (d : Nat) : Nat := ([1, 2, 3, 2, 1, 4, 12, 2] : List Nat).getD d 1
theorem menuM_at : ∀ d : Nat, d < 8 → atI ([.int 1, .int 2, .int 3, .int 2, .int 1, .int 4, .int 12, .int 2] : List V) (d : Int) = some (.int (menuM d : Int)) := by decide +kernel
theorem menuM_le : ∀ d : Nat, d < 8 → 1 ≤ menuM d ∧ menuM d ≤ 12 := by decide +kernel
abbrev Kind := Str × Nat
/-- a list of kinds -/
def KindsAt (H : Hp) : List V → List Kind → Prop := Paired fun v k => ∃ t, v = .ref t ∧ H t = some (.tup [.str k.1, .int (k.2 : Int)])
theorem KindsAt.same {H H' : Hp} (s : Same H H') : ∀ {vs : List V} {ks : List Kind}, KindsAt H vs ks → KindsAt H' vs ks
  | _, _, .nil => .nil
  | _, _, .cons ⟨t, e, h⟩ r => .cons ⟨t, e, s _ _ h⟩ (KindsAt.same s r)
structure GoodKinds (ks : List Kind) : Prop where
  len : 1 ≤ ks.length ∧ ks.length ≤ 12
  ltr : ∀ k ∈ ks, Ltr k.1 ∧ 1 ≤ k.1.cps.toList.length ∧ k.1.cps.toList.length ≤ 4
  two : ∀ k ∈ ks, k.2 = 2 ∨ k.2 = 3
  nd : (ks.map (·.1)).Nodup
def spin (s k : Nat) : Nat := 97 + (s + 5 * k) % 26
theorem spin_inj {s i j : Nat} (hi : i < 12) (hj : j < 12) (h : spin s i = spin s j) : i = j := by
  unfold spin at h
  omega
theorem Al.put {bs : List Addr} {H : Hp} {p : Addr} {o : HO} (x : Al bs H) : Al bs (upd H p o) := fun a h => by
  by_cases e : a = p
  · exact ⟨o, by rw [e]; exact upd_same⟩
  · obtain ⟨u, q⟩ := x a h; exact ⟨u, by rw [upd_ne e]; exact q⟩
theorem pairAll_append {α β : Type} {F : α → β → Prop} : ∀ {xs : List α} {ys : List β} {x : α} {y : β}, Paired F xs ys → F x y → Paired F (xs ++ [x]) (ys ++ [y])
  | _, _, _, _, .nil, h => .cons h .nil
  | _, _, _, _, .cons a r, h => .cons a (pairAll_append r h)
theorem Same.put {H H' : Hp} {p : Addr} {o : HO} (x : Same H H') (hp : H p = none) : Same H (upd H' p o) := fun a u e => by rw [upd_ne (ne_of_none e hp)]; exact x a u e
theorem Kp.put2 {bs : List Addr} {H H' : Hp} {p : Addr} {o : HO} (x : Kp bs H H') (hp : p ∈ bs) : Kp bs H (upd H' p o) := x.trans (Kp.atb hp)
theorem len_tl (x : Str) : x.length = x.cps.toList.length := (Array.length_toList).symm
theorem app_sg_inj {st : Str} {c d : Nat} (h : st ++ sg c = st ++ sg d) : c = d := by
  have e := congrArg tl h
  rw [tl_append, tl_append] at e
  have e2 := List.append_cancel_left e
  injection e2
theorem names_nd {st : Str} {sh n : Nat} (hn : n ≤ 12) : ((List.range n).map fun k => st ++ sg (spin sh k)).Nodup := by
  refine List.pairwise_map.mpr (List.Pairwise.imp_of_mem ?_ (List.pairwise_lt_range (n := n)))
  intro i j hi hj hlt e
  rw [List.mem_range] at hi hj
  have z := spin_inj (by omega) (by omega) (app_sg_inj e)
  omega
end NH
set_option maxHeartbeats 4000000
namespace NH
open PySem PySem.Spec PyProof.Rows L2 TL
theorem paired_get {α β : Type} {F : α → β → Prop} : ∀ {xs : List α} {ys : List β} {i : Nat} {x : α}, Paired F xs ys → xs[i]? = some x → ∃ y, ys[i]? = some y ∧ F x y
  | _, _, _, _, .nil, e => by simp at e
  | _, _, 0, _, .cons r _, e => by simp at e; subst e; exact ⟨_, rfl, r⟩
  | _, _, i + 1, x, .cons _ t, e => by
    obtain ⟨u, h1, h2⟩ := paired_get (i := i) (x := x) t (by simpa using e)
    exact ⟨u, by simpa using h1, h2⟩
def dg (i : Nat) : Str := sg (49 + i)
def d123 : Str := Str.ofString "123"
theorem d123_at : ∀ i : Nat, i < 3 → d123.cps.toList[i]? = some (49 + i) := by decide +kernel
def sidesK (k : Kind) : List Str := (List.range k.2).map fun i => k.1 ++ dg i
def sidesOf (ks : List Kind) : List Str := ks.flatMap sidesK
theorem sidesOf_take {ks : List Kind} {i : Nat} {k : Kind} (h : ks[i]? = some k) : sidesOf (ks.take (i + 1)) = sidesOf (ks.take i) ++ sidesK k := by
  obtain ⟨hi, e⟩ := List.getElem?_eq_some_iff.mp h
  unfold sidesOf
  rw [List.take_succ_eq_append_getElem hi, List.flatMap_append, e]
  simp
/-- kinds that sides can be told of -/
structure FairKinds (ks : List Kind) : Prop where
  len : ks.length ≤ 12
  nm : ∀ k ∈ ks, k.1.cps.toList.length ≤ 4
  two : ∀ k ∈ ks, k.2 = 2 ∨ k.2 = 3
theorem GoodKinds.fair {ks : List Kind} (g : GoodKinds ks) : FairKinds ks := ⟨g.len.2, fun k h => (g.ltr k h).2.2, g.two⟩
theorem sides_len : ∀ {ks : List Kind}, (∀ k ∈ ks, k.2 = 2 ∨ k.2 = 3) → (sidesOf ks).length ≤ 3 * ks.length
  | [], _ => by simp [sidesOf]
  | k :: r, h => by
    have ih := sides_len (ks := r) fun z hz => h z (List.mem_cons_of_mem _ hz)
    have e : sidesOf (k :: r) = sidesK k ++ sidesOf r := rfl
    have z : (sidesK k).length = k.2 := by unfold sidesK; rw [List.length_map, List.length_range]
    rw [e, List.length_append, z, List.length_cons]
    rcases h k (List.mem_cons_self ..) with q | q <;> omega
end NH
set_option maxHeartbeats 4000000
/-! set(xs) of texts that all differ, and its length. -/
namespace NSet
open PySem PySem.Spec PyProof.Rows L2
/-- the first so many texts, as a question -/
abbrev upto (zs : List Str) (j : Nat) : Str → Bool := fun q => (zs.take j).any (· == q)
theorem upto_step {zs : List Str} {j : Nat} (hj : j < zs.length) (q : Str) : (upto zs j q || decide (q = zs.getD j Str.empty)) = upto zs (j + 1) q := by
  have eD : zs.getD j Str.empty = zs[j] := by simp [List.getD, hj]
  show ((zs.take j).any (· == q) || decide (q = zs.getD j Str.empty)) = (zs.take (j + 1)).any (· == q)
  rw [List.take_succ_eq_append_getElem hj, List.any_append, eD]
  congr 1
  simp only [List.any_cons, List.any_nil, Bool.or_false]
  by_cases e : q = zs[j]
  · rw [decide_eq_true e, e]; simp
  · rw [decide_eq_false e]; exact (beq_eq_false_iff_ne.mpr (Ne.symm e)).symm
theorem upto_new {zs : List Str} (nd : zs.Nodup) {j : Nat} (hj : j < zs.length) : upto zs j (zs.getD j Str.empty) = false := by
  have eD : zs.getD j Str.empty = zs[j] := by simp [List.getD, hj]
  rw [eD]
  refine List.any_eq_false.mpr fun y hy e => ?_
  have e' : y = zs[j] := by simpa using e
  obtain ⟨m, hm, em⟩ := List.mem_iff_getElem.mp hy
  rw [List.length_take] at hm
  have em2 : zs[m]'(by omega) = zs[j] := by rw [← e', ← em, List.getElem_take]
  have z := (List.getElem_inj nd).mp em2
  omega
section
variable {prog : Program} {w : World} {A : Around} {R : Result → Shared → Prop} {I : Addr} {fp wr : List Addr} {Gn : Array GenState → Array GenState → Prop} {n : Nat} {P : Nat → Value → Prop} {St : Nat → Shared → Prop}
theorem fill (W : WalksS prog w A.in1 I fp wr Gn n P St) (a : Addr) (af : a ∉ fp) (zs : List Str) (nd : zs.Nodup) (hz : zs.length = n) (hs : n ≤ 1000) (val : ∀ j v, P j v → ∃ t, v = .str (zs.getD j Str.empty) t) :
    ∀ (left j : Nat) (s : Shared), j + left = n → St j s → s.heap.SetOf (PySem.strKind prog w) a (upto zs j) j →
      (∀ s', Moved (a :: wr) Gn s s' → s'.heap.SetOf (PySem.strKind prog w) a (upto zs n) n → R (.ok (.ret .none)) s') → codeAny (model prog w) A (.builtin "set.update.loop" ⟨[.ref a, .ref I], []⟩) R s := by
  have aw : a ∉ wr := fun h => af (W.sub _ h)
  have more : ∀ b ∈ wr, b ∈ a :: wr := fun b hb => List.mem_cons_of_mem _ hb
  intro left
  induction left with
  | zero =>
    intro j s hj hst hS hR
    obtain rfl : j = n := by omega
    refine codeAny_builtin PyProof.Rows.F.entry_set_update_loop ?_
    rw [Around.under_plainId PyProof.Rows.F.plain_set_update_loop _]
    show wpAny _ A.in1 (pyNext (.ref I) >>= _) _ _ s
    refine wpAny_bind (W.done s _ _ hst fun s1 mv => ?_)
    show wpAny _ A.in1 (ret Value.none) _ _ s1
    obtain ⟨o, es, ep, t, g, rest⟩ := hS
    exact wpAny_pure (hR s1 (mv.mono more) ⟨o, es, ep, t, mv.heap a _ aw g, rest⟩)
  | succ left ih =>
    intro j s hj hst hS hR
    have lt : j < n := by omega
    refine codeAny_builtin PyProof.Rows.F.entry_set_update_loop ?_
    rw [Around.under_plainId PyProof.Rows.F.plain_set_update_loop _]
    show wpAny _ A.in1 (pyNext (.ref I) >>= _) _ _ s
    refine wpAny_bind (W.item j s _ _ lt hst fun v s1 hP st1 mv => ?_)
    obtain ⟨t, rfl⟩ := val j v hP
    have hS1 : s1.heap.SetOf (PySem.strKind prog w) a (upto zs j) j := by
      obtain ⟨o, es, ep, tb, g, rest⟩ := hS
      exact ⟨o, es, ep, tb, mv.heap a _ aw g, rest⟩
    have new := upto_new nd (j := j) (by omega)
    show wpAny _ A.in1 (holding [Value.str (zs.getD j Str.empty) t] (setAdd a (.str (zs.getD j Str.empty) t)) >>= _) _ _ s1
    refine wpAny_bind (wpAny_holding ?_)
    unfold setAdd
    refine wpAny_holding (wpAny_bind ((PySem.strKind prog w).pyHash (k := zs.getD j Str.empty) (strKind_is _ _ _ _) ?_))
    refine wpAny_setAddHashed_of (knd := PySem.strKind prog w) (s := { s1 with toks := s1.toks + 1 }) (strKind_is _ _ _ _) rfl hS1 (by unfold scanBound; omega) fun h2 sb hS2 => ?_
    have hS3 : h2.SetOf (PySem.strKind prog w) a (upto zs (j + 1)) (j + 1) := PyProof.Rows.SetOf_congr hS2 (fun q => upto_step (by omega) q) (by rw [new]; rfl)
    refine wpAny_pure ⟨plainId_quiet PyProof.Rows.F.plain_set_update_loop _, ih (j + 1) _ (by omega) (W.frame _ s1 _ _ st1 (Nat.le_succ _) fun b hb o e => ?_) hS3 fun s4 mv4 hS4 => ?_⟩
    · exact (sb.2 b fun z => af (by rw [← z]; exact hb)).trans e
    · refine hR s4 (Moved.trans W.gtrans ((mv.mono more).then_heap (Nat.le_succ _) fun b o hb e => ?_) mv4) hS4
      exact (sb.2 b fun z => hb (by rw [z]; exact List.mem_cons_self)).trans e
end
end NSet
namespace NSet
open PySem PySem.Spec PyProof.Rows L2
section
variable {prog : Program} {w : World} {A : Around} {E : Value → Shared → Prop} {s : Shared}
/-- the empty set that set(..) begins with -/
abbrev setB (led : Bool) : Obj := { cls := .type "set", dict := none, data := .set #[] 0 (.fresh 0 0 led) }
abbrev grown (s : Shared) (led : Bool) : Shared := { s with heap := s.heap.push (setB led) }
/-- what set(xs) leaves -/
def Full (prog : Program) (w : World) (s : Shared) (zs : List Str) (s' : Shared) : Prop := ∃ h' tk, s' = { s with heap := h', toks := tk } ∧ h'.SetOf (PySem.strKind prog w) s.heap.objs.size (upto zs zs.length) zs.length ∧ ∀ b o, b < s.heap.objs.size → s.heap.get? b = some o → h'.get? b = some o
theorem init_list {B : Around} {l : Addr} {items : Array Value} {zs : List Str} {led : Bool} (hh : B.handled = none) (hl : s.heap.IsList l items) (hi : PyProof.Rows.StrsAre items.toList zs) (nd : zs.Nodup) (sm : zs.length ≤ 1000) :
    codeAny (model prog w) B (.call (.builtin "set.__init__") ⟨[.ref s.heap.objs.size, .ref l], []⟩) (wants (fun r s2 => r = .none ∧ Full prog w s zs s2) E) (grown s led) := by
  have at_ : (grown s led).heap.get? s.heap.objs.size = some (setB led) := Heap.get?_push_size _ rfl
  refine codeAny_call_builtin PySem.F.called_set.init.plain PySem.F.entry_set_init (check_set_init_1 ⟨_, at_, rfl⟩ ?_)
  obtain ⟨⟨oc, od, dt, sl⟩, hol, ec, nl, ed⟩ := hl
  dsimp only at ec ed
  subst ec ed
  have in2 : (grown s led).heap.get? l = some { cls := .type "list", dict := od, data := .seq items nl, slots := sl } := Heap.get?_push_of_some _ hol
  have il : (grown s led).heap.IsList l items := ⟨_, in2, rfl, nl, rfl⟩
  have f1 := PySem.F.sub_list_set
  have f2 := PySem.F.sub_list_frozenset
  have f3 : (Value.type "list" == Value.type "dict") = false := by decide
  unfold Builtin.«set.__init__» noKeywords Builtin.Frozenset.updateFrom
  generalize hP : pyIter = pyI
  wp_walk
  subst hP
  refine wpAny_pyIter_list il (wpAny_bind (wpAny_runValue ?_))
  have ll : l < s.heap.objs.size := Heap.lt_size hol
  have ez : (grown s led).heap.objs.size = s.heap.objs.size + 1 := Heap.size_push ..
  have h2 : B.in1.in1.handled = none := by simp [hh]
  have ne1 : l ≠ (grown s led).heap.objs.size := by rw [ez]; exact Nat.ne_of_lt (Nat.lt_succ_of_lt ll)
  have nf : s.heap.objs.size ∉ [(grown s led).heap.objs.size, l] := by
    rw [ez]
    intro z
    rcases List.mem_cons.mp z with z | z
    · exact Nat.ne_of_lt (Nat.lt_succ_self _) z
    · exact Nat.ne_of_gt ll (List.mem_singleton.mp z)
  have eL : zs.length = items.size := by rw [← StrsAre.len_eq hi, Array.length_toList]
  have val : ∀ (j : Nat) (v : Value), items[j]? = some v → ∃ t, v = .str (zs.getD j Str.empty) t := fun j v hv => SS.strs_at hi j v (by rw [Array.getElem?_toList]; exact hv)
  refine fill ((Walks.list h2 _ l ne1 items).toS) s.heap.objs.size nf zs nd eL (by omega) val items.size 0 _ (by omega) ⟨⟨_, Heap.get?_push_size _ rfl, rfl, rfl⟩, (il.push _)⟩ ?_ ?_
  · have g2 : ((grown s led).heap.push { cls := .type "list_iterator", data := .fields #[.ref l, .int 0 0] }).get? s.heap.objs.size = some (setB led) := Heap.get?_push_of_some _ at_
    exact PyProof.Rows.SetOf_congr ((PyProof.Rows.setObjOf_fresh (knd := PySem.strKind prog w) led).setOf g2 (by unfold scanBound; omega)) (fun _ => rfl) rfl
  · rintro ⟨h', g', d', tk', os'⟩ mv hS
    obtain rfl : g' = s.gens := mv.gens
    obtain rfl : d' = s.drawn := mv.drawn
    obtain rfl : os' = s.os := mv.os
    show wpAny _ _ _ _ _ _
    refine wpAny_pure ?_
    show wpAny _ _ (ret Value.none) _ _ _
    refine wpAny_pure ⟨rfl, h', tk', rfl, by rw [eL]; exact hS, fun b o hb e => ?_⟩
    refine mv.heap b o (fun z => ?_) (Heap.get?_push_of_some _ (Heap.get?_push_of_some _ e))
    rcases List.mem_cons.mp z with z | z
    · exact Nat.ne_of_lt hb z
    · have z2 := List.mem_singleton.mp z
      rw [ez] at z2
      exact Nat.ne_of_lt (Nat.lt_succ_of_lt hb) z2
set_option maxHeartbeats 8000000 in
theorem call_set_texts {l : Addr} {items : Array Value} {zs : List Str} {Q : Value → Shared → Prop} (hh : A.handled = none) (hl : s.heap.IsList l items) (hi : PyProof.Rows.StrsAre items.toList zs) (nd : zs.Nodup) (sm : zs.length ≤ 1000)
    (q : ∀ s', Full prog w s zs s' → Q (.ref s.heap.objs.size) s') : wpAny (model prog w) A (call (.type "set") [.ref l]) Q E s := by
  obtain ⟨mc, mt, mro⟩ := PySem.F.called_set.mro
  have made := PySem.F.called_set.made
  have sub := PySem.F.called_set.sub
  have nt := PySem.F.called_set.notType
  have cc := PySem.F.called_set.canCreate
  have tc := PySem.F.typeCall_set_1 (.ref l)
  refine wpAny_call (codeAny_of_tree ?_)
  show wpAny _ _ (callAny (.type "set") _) _ _ _
  refine wpAny_pure ⟨Code.quiet_builtin _ (by decide +kernel), codeAny_builtin PySem.F.entry_type_call ?_⟩
  rw [Around.under_plain (weight_type_call_type "set" [.ref l] []) rfl]
  repeat (any_goals (first | assumption | wp_step))
  refine codeAny_mono (code_set_new_1 (.ref l) (E := E) (Q₁ := fun obj s1 => ∃ led : Bool, obj = .ref s.heap.objs.size ∧ s1 = grown s led) fun led => ⟨led, rfl, rfl⟩) fun r s1 hr => ?_
  cases r with
  | error e => exact hr
  | ok fl =>
    cases fl with
    | ret obj =>
      obtain ⟨led, rfl, rfl⟩ := hr
      have at_ : (grown s led).heap.get? s.heap.objs.size = some (setB led) := Heap.get?_push_size _ rfl
      have ty : Shared.TypeIs (grown s led) (.ref s.heap.objs.size) "set" := ⟨_, at_, rfl⟩
      have li := PySem.F.called_set.init.lookup
      have bi := PySem.F.called_set.init.bind (.ref s.heap.objs.size)
      repeat (any_goals (first | assumption | wp_step))
      refine codeAny_mono (init_list (B := A.in1) (E := E) (by simp [hh]) hl hi nd sm) fun r2 s2 hr2 => ?_
      cases r2 with
      | error e => exact hr2
      | ok fl2 =>
        cases fl2 with
        | ret u =>
          obtain ⟨rfl, fu⟩ := hr2
          repeat (any_goals (first | assumption | wp_step))
          exact q _ fu
        | next => exact hr2.elim
        | brk => exact hr2.elim
        | cont => exact hr2.elim
    | next => exact hr.elim
    | brk => exact hr.elim
    | cont => exact hr.elim
end
end NSet
namespace NSet
open PySem PySem.Spec PyProof.Rows L2
/-- len(set(xs)), xs a list of texts that all differ -/
def tLenTx (K : PySem.W.Frag) (ta : TE) : TE := fun σ H Q => ta σ H fun x H1 => ∃ l, ∃ zs : List Str, x = .ref l ∧ SqL K H1 l (zs.map V.str) ∧ zs.Nodup ∧ zs.length ≤ 1000 ∧ Q (.int zs.length) H1
theorem strs_vals : ∀ {ys : List Str} {us : List Value}, Vals (ys.map V.str) us → StrsAre us ys
  | [], _, .nil => .nil
  | y :: ys, _, .cons r t => by
    obtain ⟨k, rfl⟩ := r
    exact .cons y k (strs_vals t)
variable {X : Cx}
theorem pe_lenTx {a : Expr} {ta : TE} {p p2 q pos : Pos} (hc : X.calm = true) (g1 : Gl X "len") (m1 : X.mg "len" = none) (g2 : Gl X "set") (m2 : X.mg "set" = none) (ha : PE X a ta)
    (na : starEach [a] X.env = (false, eval a X.env) :: starEach [] X.env := by rfl) : PE X (.Call (.Name "len" p) [.Call (.Name "set" p2) [a] [] q] [] pos) (tLenTx X.K ta) := by
  refine ⟨fun pins s σ H Q I h => Call_ (ld_blt I g1 m1 boot_len (PyProof.Rows.callWith_builtin1 (PyProof.Rows.args_cons (Call_ (ld_blt I g2 m2 boot_set (PyProof.Rows.callWith_type1 (PyProof.Rows.args_cons (thn (ha.run pins s σ H _ I h) fun v s1 h1 => PyProof.Rows.args_nil ?_) na) na rfl))) rfl) rfl rfl))⟩
  obtain ⟨x, H1, I1, r1, l, zs, rfl, hq, nd, sm, q1⟩ := h1
  cases r1
  obtain ⟨its, r, pl, hz⟩ := I1.list hq
  refine call_set_texts (I1.ok.hd hc) pl.isList (by simpa using strs_vals r) nd sm fun s' fu => PyProof.Rows.args_nil ?_
  obtain ⟨h', tk, rfl, hS, hk⟩ := fu
  obtain ⟨o, es, ep, t, ho, hex, hd, _, _, _, hf, hn⟩ := hS
  have I2 : Inv X pins σ H1 { s1 with heap := h', toks := tk } := I1.kept fun b o e => hk b o (Heap.lt_size e) e
  exact call_len_set ho hex hd hf (by rw [hn]; have := sm; omega) ⟨.int zs.length, H1, I2.tok _, ⟨_, by rw [hn]⟩, q1⟩
end NSet
set_option maxHeartbeats 4000000
namespace NH
open PySem PySem.Spec PyProof.Rows L2 TL
/-! ### data -/
inductive D where
  | non | bl (b : Bool) | int (i : Int) | str (x : Str) | lst (ds : List D) | tup (ds : List D) | dic
mutual
inductive Dd (H : Hp) : V → D → Prop
  | non : Dd H .non .non
  | bl (b : Bool) : Dd H (.bl b) (.bl b)
  | int (i : Int) : Dd H (.int i) (.int i)
  | str (x : Str) : Dd H (.str x) (.str x)
  | lst {a : Addr} {xs : List V} {ds : List D} : H a = some (.lst xs) → DdL H xs ds → Dd H (.ref a) (.lst ds)
  | tup {a : Addr} {xs : List V} {ds : List D} : H a = some (.tup xs) → DdL H xs ds → Dd H (.ref a) (.tup ds)
  | dic {a : Addr} : H a = some (.dK []) → Dd H (.ref a) .dic
inductive DdL (H : Hp) : List V → List D → Prop
  | nil : DdL H [] []
  | cons {v : V} {vs : List V} {d : D} {ds : List D} : Dd H v d → DdL H vs ds → DdL H (v :: vs) (d :: ds)
end
mutual
theorem Dd.same {H H' : Hp} (s : Same H H') : ∀ {v : V} {d : D}, Dd H v d → Dd H' v d
  | _, _, .non => .non
  | _, _, .bl b => .bl b
  | _, _, .int i => .int i
  | _, _, .str x => .str x
  | _, _, .lst e h => .lst (s _ _ e) (DdL.same s h)
  | _, _, .tup e h => .tup (s _ _ e) (DdL.same s h)
  | _, _, .dic e => .dic (s _ _ e)
theorem DdL.same {H H' : Hp} (s : Same H H') : ∀ {vs : List V} {ds : List D}, DdL H vs ds → DdL H' vs ds
  | _, _, .nil => .nil
  | _, _, .cons h r => .cons (Dd.same s h) (DdL.same s r)
end
def D.ty : D → String
  | .non => "NoneType" | .bl _ => "bool" | .int _ => "int" | .str _ => "str" | .lst _ => "list" | .tup _ => "tuple" | .dic => "dict"
def isaT (t s : String) : Bool := s == t || (t == "int" && s == "bool")
def D.isa (t : String) (d : D) : Bool := isaT t d.ty
def tys : List String := ["NoneType", "bool", "int", "str", "list", "tuple", "dict"]
theorem D.ty_mem (d : D) : d.ty ∈ tys := by cases d <;> simp [D.ty, tys]
theorem kit_of {K : PySem.W.Frag} {t : String} (h : ∀ s ∈ tys, kitB s t = some (isaT t s)) (d : D) : PySem.W.kitOne K (.type d.ty) (.type t) = some (d.isa t) := kit_ty (h _ d.ty_mem)
theorem Dd.tyx {K : PySem.W.Frag} {H : Hp} {v : V} {d : D} (h : Dd H v d) : TyX K H v (.type d.ty) := by
  cases h with
  | non => exact .base .non
  | bl b => exact .base (.bl b)
  | int i => exact .base (.int i)
  | str x => exact .base (.str x)
  | lst e _ => exact .base (.lst e)
  | tup e _ => exact .base (.tup e)
  | dic e => exact .base (.dK e)
theorem kit_int {K : PySem.W.Frag} (d : D) : PySem.W.kitOne K (.type d.ty) (.type "int") = some (d.isa "int") := kit_of (by decide +kernel) d
theorem kit_bool {K : PySem.W.Frag} (d : D) : PySem.W.kitOne K (.type d.ty) (.type "bool") = some (d.isa "bool") := kit_of (by decide +kernel) d
theorem kit_str {K : PySem.W.Frag} (d : D) : PySem.W.kitOne K (.type d.ty) (.type "str") = some (d.isa "str") := kit_of (by decide +kernel) d
theorem kit_tuple {K : PySem.W.Frag} (d : D) : PySem.W.kitOne K (.type d.ty) (.type "tuple") = some (d.isa "tuple") := kit_of (by decide +kernel) d
theorem kit_list {K : PySem.W.Frag} (d : D) : PySem.W.kitOne K (.type d.ty) (.type "list") = some (d.isa "list") := kit_of (by decide +kernel) d
/-- a list or a tuple -/
def D.seq : D → Bool
  | .lst _ => true | .tup _ => true | _ => false
theorem kit_seq {K : PySem.W.Frag} (d : D) : PySem.W.kitAny K (.type d.ty) [.type "list", .type "tuple"] = some d.seq := by
  refine kitAny_cons (b := d.isa "list") (kit_list d) (fun e => kitAny_cons (b := d.isa "tuple") (kit_tuple d) (fun e2 => ?_) (fun e2 => ?_)) (fun e => ?_)
  · rw [kitAny_nil]; cases d <;> first | rfl | (exfalso; revert e; simp [D.isa, isaT, D.ty]; done) | (exfalso; revert e2; simp [D.isa, isaT, D.ty]; done)
  · cases d <;> first | rfl | (exfalso; revert e2; simp [D.isa, isaT, D.ty]; done)
  · cases d <;> first | rfl | (exfalso; revert e; simp [D.isa, isaT, D.ty]; done)
/-- an integer from lo to hi -/
def D.btw (lo hi : Int) : D → Bool
  | .int i => decide (lo ≤ i) && decide (i ≤ hi)
  | _ => false
section
variable {P : Program} {w : World} {K : PySem.W.Frag} {mg : Str → Option Value} {base : Heap}
abbrev s_is_between : Stmt := top 55
theorem sc_is_between : FnScope ["value", "low", "high"] ["value", "low", "high"] (defScope s_is_between) := ⟨rfl, rfl, rfl, by decide +kernel, rfl, by decide +kernel, by decide +kernel⟩
def spBtw : Sp := fun vs H Q _ => ∃ (v : V) (d : D) (lo hi : Int), vs = [v, .int lo, .int hi] ∧ Dd H v d ∧ Q (.bl (d.btw lo hi)) H
abbrev s_is_integer : Stmt := top 54
theorem sc_is_integer : FnScope ["value"] ["value"] (defScope s_is_integer) := ⟨rfl, rfl, rfl, by decide +kernel, rfl, by decide +kernel, by decide +kernel⟩
def D.whole : D → Bool
  | .int _ => true
  | _ => false
def spInt : Sp := fun vs H Q _ => ∃ (v : V) (d : D), vs = [v] ∧ Dd H v d ∧ Q (.bl d.whole) H
theorem ok_is_integer (G : Bl mg) (DA : DefAt K mg "is_integer" s_is_integer) : Callee P w K mg base 1 "is_integer" ["value"] spInt := by
  refine callee DA sc_is_integer (fun vs H Q E h => by obtain ⟨v, d, rfl, _⟩ := h; rfl) (fun _ _ _ _ _ _ us hl => match us, hl with | [_], _ => rfl) fun f cdv A outer s H vs Q E hr h => ?_
  obtain ⟨v, d, rfl, hd, q⟩ := h
  refine ⟨_, (pss_one (ps_ret (pe_and (pe_callB call_isi (by rfl) G.b_isinstance (by decide +kernel) (pa_cons (pv 0) (pa_cons (pe_bltn (v := .ty "int") (u := .type "int") (by rfl) G.b_int (by decide +kernel) rfl) pa_nil))) (pe_one (pe_not (pe_callB call_isi (by rfl) G.b_isinstance (by decide +kernel) (pa_cons (pv 0) (pa_cons (pe_bltn (v := .ty "bool") (u := .type "bool") (by rfl) G.b_bool (by decide +kernel) rfl) pa_nil)))))))), ?_⟩
  refine ⟨v, rfl, _, _, _, _, _, rfl, .ty "int", hd.tyx, kit_int d, _, rfl, itb (fun e1 => ⟨v, rfl, _, _, _, _, _, rfl, .ty "bool", hd.tyx, kit_bool d, _, rfl, ?_⟩) fun e1 => ?_⟩
  · have e : d.whole = !d.isa "bool" := by cases d <;> first | rfl | (exfalso; revert e1; simp [D.isa, isaT, D.ty]; done) | (simp [D.whole, D.isa, isaT, D.ty]; done)
    rw [e] at q; exact q
  · have e : d.whole = false := by cases d <;> first | rfl | (exfalso; revert e1; simp [D.isa, isaT, D.ty]; done)
    rw [e] at q; exact q
theorem ok_is_between (cIi : Callee P w K mg base 1 "is_integer" ["value"] spInt) (DA : DefAt K mg "is_between" s_is_between) : Callee P w K mg base 2 "is_between" ["value", "low", "high"] spBtw := by
  refine callee DA sc_is_between (fun vs H Q E h => by obtain ⟨v, d, lo, hi, rfl, _⟩ := h; rfl) (fun _ _ _ _ _ _ us hl => match us, hl with | [_, _, _], _ => rfl) fun f cdv A outer s H vs Q E hr h => ?_
  obtain ⟨v, d, lo, hi, rfl, hd, q⟩ := h
  refine ⟨_, (pss_one (ps_ret (pe_and (pe_cal cIi hr (by decide) (pa_cons (pv 0) pa_nil)) (pe_one (pe_chain op_le op_le (pv 1) (pv 0) (pv 2)))))), ?_⟩
  refine ⟨v, rfl, v, d, rfl, hd, _, rfl, itb (fun e1 => ?_) fun e1 => ?_⟩
  · cases hd with
    | int i =>
      refine ⟨_, rfl, _, rfl, _, _, rfl, rfl, _, rfl, itd (fun h1 => ⟨_, rfl, _, _, rfl, rfl, ?_⟩) fun h1 => ?_⟩
      · have e : (D.int i).btw lo hi = decide (i ≤ hi) := by show (decide (lo ≤ i) && _) = _; rw [decide_eq_true h1, Bool.true_and]
        rw [e] at q; exact q
      · have e : (D.int i).btw lo hi = false := by show (decide (lo ≤ i) && _) = _; rw [decide_eq_false h1, Bool.false_and]
        rw [e] at q; exact q
    | _ => cases e1
  · have e : d.btw lo hi = false := by cases d <;> first | rfl | (cases e1)
    rw [e] at q; exact q
abbrev s_is_list : Stmt := top 56
theorem sc_is_list : FnScope ["value"] ["value"] (defScope s_is_list) := ⟨rfl, rfl, rfl, by decide +kernel, rfl, by decide +kernel, by decide +kernel⟩
def spIsl : Sp := fun vs H Q _ => ∃ (v : V) (d : D), vs = [v] ∧ Dd H v d ∧ ∀ H', Same H H' → Q (.bl d.seq) H'
theorem ok_is_list (G : Bl mg) (DA : DefAt K mg "is_list" s_is_list) : Callee P w K mg base 2 "is_list" ["value"] spIsl := by
  refine callee DA sc_is_list (fun vs H Q E h => by obtain ⟨v, d, rfl, _⟩ := h; rfl) (fun _ _ _ _ _ _ us hl => match us, hl with | [_], _ => rfl) fun f cdv A outer s H vs Q E hr h => ?_
  obtain ⟨v, d, rfl, hd, q⟩ := h
  refine ⟨_, (pss_one (ps_ret (pe_callB call_isiT (by rfl) G.b_isinstance (by decide +kernel) (pa_cons (pv 0) (pa_cons (pe_tup (pa_cons (pe_bltn (v := .ty "list") (u := .type "list") (by rfl) G.b_list (by decide +kernel) rfl) (pa_cons (pe_bltn (v := .ty "tuple") (u := .type "tuple") (by rfl) G.b_tuple (by decide +kernel) rfl) pa_nil))) pa_nil))))), ?_⟩
  exact ⟨v, rfl, by show 2 ≤ sizeLine; decide, fun p hp => ⟨v, p, _, _, _, _, rfl, upd_same, .cons (.ty "list") (.cons (.ty "tuple") .nil), (hd.same (same_new hp)).tyx, kit_seq d, q _ (same_new hp)⟩⟩
abbrev s_is_pair : Stmt := top 57
theorem sc_is_pair : FnScope ["value"] ["value"] (defScope s_is_pair) := ⟨rfl, rfl, rfl, by decide +kernel, rfl, by decide +kernel, by decide +kernel⟩
def spPair : Sp := fun vs H Q _ => ∃ (a : Addr) (x y : V), vs = [.ref a] ∧ H a = some (.tup [x, y]) ∧ Q (.bl true) H
theorem ok_is_pair (G : Bl mg) (DA : DefAt K mg "is_pair" s_is_pair) : Callee P w K mg base 2 "is_pair" ["value"] spPair := by
  refine callee DA sc_is_pair (fun vs H Q E h => by obtain ⟨v, x, y, rfl, _⟩ := h; rfl) (fun _ _ _ _ _ _ us hl => match us, hl with | [_], _ => rfl) fun f cdv A outer s H vs Q E hr h => ?_
  obtain ⟨a, x, y, rfl, ha, q⟩ := h
  refine ⟨_, (pss_one (ps_ret (pe_and (pe_callB call_isi (by rfl) G.b_isinstance (by decide +kernel) (pa_cons (pv 0) (pa_cons (pe_bltn (v := .ty "tuple") (u := .type "tuple") (by rfl) G.b_tuple (by decide +kernel) rfl) pa_nil))) (pe_one (pe_cmpR op_eq (pe_callB call_len_seq (by rfl) G.b_len (by decide +kernel) (pa_cons (pv 0) pa_nil)) pe_int (nomark _)))))), ?_⟩
  exact ⟨_, rfl, _, _, _, _, _, rfl, .ty "tuple", .base (.tup ha), kit_ty (by decide +kernel : kitB "tuple" "tuple" = some true), _, rfl, iteT ⟨_, rfl, a, _, rfl, .inr (SqT.of ha), rfl, q⟩⟩
abbrev s_is_name : Stmt := top 58
theorem sc_is_name : FnScope ["value", "most", "letter"] ["value", "most"] (defScope s_is_name) := ⟨rfl, rfl, rfl, by decide +kernel, rfl, by decide +kernel, by decide +kernel⟩
def spName : Sp := fun vs H Q _ => ∃ (x : Str) (m : Nat), vs = [.str x, .int m] ∧ Ltr x ∧ 1 ≤ x.cps.toList.length ∧ x.cps.toList.length ≤ m ∧ m ≤ 100 ∧ ∀ H', Same H H' → Q (.bl true) H'
theorem abc_mem : ∀ c : Nat, 97 ≤ c → c ≤ 122 → c ∈ abc.cps.toList := by
  intro c h1 h2
  have z := abc_at (c - 97) (by omega)
  rw [show 97 + (c - 97) = c by omega] at z
  exact List.mem_of_getElem? z
theorem ok_is_name (G : Bl mg) (gL : ∃ t, mg "LETTERS" = some (.str abc t)) (DA : DefAt K mg "is_name" s_is_name) : Callee P w K mg base 2 "is_name" ["value", "most"] spName := by
  refine callee DA sc_is_name (fun vs H Q E h => by obtain ⟨v, x, rfl, _⟩ := h; rfl) (fun _ _ _ _ _ _ us hl => match us, hl with | [_, _], _ => rfl) fun f cdv A outer s H vs Q E hr h => ?_
  obtain ⟨x, m, rfl, lt, l1, l2, l3, q⟩ := h
  obtain ⟨tL, gL⟩ := gL
  refine ⟨_, (pss_one (ps_ret (pe_and (pe_callB call_isi (by rfl) G.b_isinstance (by decide +kernel) (pa_cons (pv 0) (pa_cons (pe_bltn (v := .ty "str") (u := .type "str") (by rfl) G.b_str (by decide +kernel) rfl) pa_nil))) (pe_and (pe_chain op_le op_le pe_int (pe_callB call_len_str (by rfl) G.b_len (by decide +kernel) (pa_cons (pv 0) pa_nil)) (pv 1)) (pe_one (pe_callB (cr_all rfl) (by rfl) G.b_all (by decide +kernel) (pa_cons (pe_lc (own := [("letter", 2)]) (g := gName 2) rfl sc_is_name.nd (pi_str (pv 0)) (blkOk_by (N := ["value", "most", "letter"]) (sc := defScope s_is_name) (by decide +kernel)) (fun _ _ _ _ _ => (pg_name (i := 2) sc_is_name.nd rfl (Or.inl rfl))) (fun _ _ _ _ _ => pts_nil) (fun _ _ _ _ _ => (pe_cmpR op_in_sign (pv 2) (pe_glob (v := .str abc) (by rfl) gL ⟨_, rfl⟩) rfl))) pa_nil))))))), ?_⟩
  have lx := len_tl x
  refine ⟨_, rfl, _, _, _, _, _, rfl, .ty "str", .base (.str x), kit_ty (by decide +kernel : kitB "str" "str" = some true), _, rfl, iteT ⟨_, rfl, x, rfl, Nat.le_of_lt (small1000 (by omega)), _, _, rfl, rfl, _, rfl, ?_⟩⟩
  refine itt (decide_eq_true (by show (1 : Int) ≤ _; omega)) ⟨_, rfl, _, _, rfl, rfl, _, rfl, itt (decide_eq_true (by omega)) ?_⟩
  refine ⟨_, rfl, x, rfl, fun p hp => ?_⟩
  refine lc_it walk_str (fun i H' => Same H H' ∧ H' p = some (.lst ((List.replicate i true).map V.bl))) ⟨same_new hp, upd_same⟩ (fun _ _ _ _ => True.intro) ?_ ?_
  · rintro i v H1 H2 hi ⟨s1, d1⟩ ⟨rfl, c, hc, rfl⟩
    refine ⟨rfl, tyes ?_⟩
    refine iteT ?_
    have mc : c ∈ x.cps.toList := by
      have z : x.cps.toList[i]? = some c := by rw [Array.getElem?_toList]; exact hc
      exact List.mem_of_getElem? z
    have mm : c ∈ abc.cps.toList := abc_mem c (lt c mc).1 (lt c mc).2
    refine ⟨_, rfl, c, abc, rfl, rfl, _, d1, ?_, Same.put s1 hp, ?_⟩
    · rw [List.length_map, List.length_replicate]; exact small1000 (by have : x.cps.size = x.length := rfl; omega)
    · rw [upd_same, decide_eq_true mm, List.replicate_succ', List.map_append]; rfl
  · rintro H1 ⟨s1, d1⟩
    refine ⟨p, List.replicate x.cps.size true, rfl, SqL.of d1, ?_⟩
    have e : (List.replicate x.cps.size true).all id = true := by simp
    rw [e]
    exact q H1 s1
abbrev s_are_different : Stmt := top 59
theorem sc_are_different : FnScope ["items"] ["items"] (defScope s_are_different) := ⟨rfl, rfl, rfl, by decide +kernel, rfl, by decide +kernel, by decide +kernel⟩
def spDiff (K : PySem.W.Frag) : Sp := fun vs H Q _ => ∃ (a : Addr) (xs : List Str), vs = [.ref a] ∧ H a = some (.lst (xs.map .str)) ∧ xs.Nodup ∧ xs.length ≤ 100 ∧ Q (.bl true) H
theorem ok_are_different (G : Bl mg) (DA : DefAt K mg "are_different" s_are_different) : Callee P w K mg base 2 "are_different" ["items"] (spDiff K) := by
  refine callee DA sc_are_different (fun vs H Q E h => by obtain ⟨v, x, rfl, _⟩ := h; rfl) (fun _ _ _ _ _ _ us hl => match us, hl with | [_], _ => rfl) fun f cdv A outer s H vs Q E hr h => ?_
  obtain ⟨a, xs, rfl, ha, nd, l1, q⟩ := h
  refine ⟨_, (pss_one (ps_ret (pe_cmpR op_eq (NSet.pe_lenTx rfl (by rfl) G.b_len (by rfl) G.b_set (pv 0)) (pe_callB call_len_seq (by rfl) G.b_len (by decide +kernel) (pa_cons (pv 0) pa_nil)) (nomark _)))), ?_⟩
  refine ⟨_, rfl, a, xs, rfl, SqL.of ha, nd, by omega, _, rfl, a, _, rfl, .inl (SqL.of ha), rfl, ?_⟩
  have e : decide (V.int (xs.length : Int) = V.int ((xs.map V.str).length : Int)) = true := decide_eq_true (by rw [List.length_map])
  show Q (.bl (decide (V.int (xs.length : Int) = V.int ((xs.map V.str).length : Int)))) H
  rw [e]; exact q
end
end NH
set_option maxHeartbeats 4000000
namespace NH
open PySem PySem.Spec PyProof.Rows L2 TL
/-- a method of a class of the top -/
structure MethAt (K : PySem.W.Frag) (C : Addr) (c m : Str) (st : Stmt) : Prop where
  f : ∃ fd, FunD K m (c ++ "." ++ m) (defArgs st) (defBody st) (defScope st) [] [] (He.fAd K (c, some m)) fd
section
variable {P : Program} {w : World} {K : PySem.W.Frag} {mg : Str → Option Value} {base : Heap}
theorem meth_ok {m qual : Str} {st : Stmt} {f : Addr} {N ps : List Str} {k : Nat} {sp : Sp} (F : ∃ fd, FunD K m qual (defArgs st) (defBody st) (defScope st) [] [] f fd) (S : FnScope N ps (defScope st)) (len : ∀ vs H Q E, sp vs H Q E → vs.length = ps.length)
    (hb : ∀ (kV doc pm : Value) (an : Option Addr) (cdv ct : Value) (us : List Value), us.length = ps.length → bindArgs (PySem.W.fnOf m qual (defArgs st) (defBody st) (defScope st) .none kV doc pm an cdv ct) ⟨us, []⟩ = pure (ps.zip us))
    (hbody : ∀ (cdv : Value) (A : Around) (outer : List Env) (s : Shared) (H : Hp) (vs : List V) (Q : VK) (E : XK), Room k (A.deeper (envOfC qual (defScope st) s.heap.objs.size f cdv)) → sp vs H Q E →
      ∃ t, PSs (cxOf CX0 P w K mg base N qual (defScope st) f cdv A outer s H E).nox (defBody st) t ∧ t { nx := fun _ H' => Q .non H', rt := Q } (start N vs) H) : ∃ fd, Binds K fd ps [] ∧ FnOk P w K mg base CX0 (k + 1) f fd ps sp := by
  obtain ⟨fd, F⟩ := F
  exact ⟨fd, F.bindsN hb, F.ok S len fun cdv A outer s H vs Q E hr h => let ⟨t, h1, h2⟩ := hbody cdv A outer s H vs Q E hr h; ⟨t, h1.nox, h2⟩⟩
end
/-! ### Ports -/
theorem kind_d {H : Hp} : ∀ {vs : List V} {ks : List Kind}, KindsAt H vs ks → DdL H vs (ks.map fun k => D.tup [.str k.1, .int (k.2 : Int)])
  | _, _, .nil => .nil
  | _, _, .cons ⟨t, e, h⟩ r => by
    subst e
    exact .cons (.tup h (.cons (.str _) (.cons (.int _) .nil))) (kind_d r)
structure PortsAt (C : Addr) (H : Hp) (p : Addr) (ks : List Kind) : Prop where
  ex : ∃ dx fs d kvs, H p = some (.ins C dx fs) ∧ fs.lookup ("_names" : Str) = some (.ref d) ∧ fs.lookup ("has" : Str) = none ∧ H d = some (.dK kvs) ∧ (∀ x : Str, (valV kvs (Sum.inr x : Key)).isSome = true ↔ x ∈ sidesOf ks) ∧ ∃ tk xs, fs.lookup ("kinds" : Str) = some (.ref tk) ∧ H tk = some (.tup xs) ∧ KindsAt H xs ks
theorem PortsAt.same {C : Addr} {H H' : Hp} {p : Addr} {ks : List Kind} (x : PortsAt C H p ks) (s : Same H H') : PortsAt C H' p ks := by
  obtain ⟨dx, fs, d, kvs, h1, l1, l2, h2, h3, tk, xs, k1, k2, k3⟩ := x
  exact ⟨dx, fs, d, kvs, s _ _ h1, l1, l2, s _ _ h2, h3, tk, xs, k1, s _ _ k2, k3.same s⟩
/-- the class as the top has made it -/
structure PortsC (K : PySem.W.Frag) (mg : Str → Option Value) (C fI fH : Addr) : Prop where
  cl : Cls K C
  nK : NoAttr K C "kinds"
  nN : NoAttr K C "_names"
  nS : NoAttr K C "_sides"
  nB : NoAttr K C "_sides_by_name"
  nO : NoAttr K C "_others"
  g : mg "Ports" = some (.ref C)
  mkP : Mk K C fI
  has : Meth K C "has" fH
theorem dg_str : ∀ j : Nat, j < 3 → (toString (1 + (j : Int)) : Str) = dg j := by decide +kernel
theorem empty_app (x : Str) : Str.empty ++ x = x := by
  have e : tl (Str.empty ++ x) = tl x := by rw [tl_append]; rfl
  exact ext_toList e
section
variable {P : Program} {w : World} {K : PySem.W.Frag} {mg : Str → Option Value} {base : Heap} {C fI fH : Addr}
abbrev s_is_kind : Stmt := top 67
theorem sc_is_kind : FnScope ["value"] ["value"] (defScope s_is_kind) := ⟨rfl, rfl, rfl, by decide +kernel, rfl, by decide +kernel, by decide +kernel⟩
def spIsk : Sp := fun vs H Q _ => ∃ (t : Addr) (k : Kind), vs = [.ref t] ∧ H t = some (.tup [.str k.1, .int (k.2 : Int)]) ∧ Ltr k.1 ∧ 1 ≤ k.1.cps.toList.length ∧ k.1.cps.toList.length ≤ 4 ∧ (k.2 = 2 ∨ k.2 = 3) ∧ ∀ H', Same H H' → Q (.bl true) H'
theorem ok_is_kind (gM : ∃ t, mg "MOST_LETTERS" = some (.int 4 t)) (DA : DefAt K mg "_is_kind" s_is_kind) (cIp : Callee P w K mg base 2 "is_pair" ["value"] spPair) (cIn : Callee P w K mg base 2 "is_name" ["value", "most"] spName) (cBt : Callee P w K mg base 2 "is_between" ["value", "low", "high"] spBtw) : Callee P w K mg base 4 "_is_kind" ["value"] spIsk := by
  refine callee DA sc_is_kind (fun vs H Q E h => by obtain ⟨v, k, rfl, _⟩ := h; rfl) (fun _ _ _ _ _ _ us hl => match us, hl with | [_], _ => rfl) fun f cdv A outer s H vs Q E hr h => ?_
  obtain ⟨t, k, rfl, ht, h1, h2, h3, h4, q⟩ := h
  obtain ⟨tM, gM⟩ := gM
  refine ⟨_, (pss_one (ps_ret (pe_and (pe_cal cIp hr (by decide) (pa_cons (pv 0) pa_nil)) (pe_and (pe_cal cIn hr (by decide) (pa_cons (pe_ix ix_tup (pv 0) pe_int (fun _ _ => rfl)) (pa_cons (pe_glob (v := .int 4) (by rfl) gM ⟨_, rfl⟩) pa_nil))) (pe_one (pe_cal cBt hr (by decide) (pa_cons (pe_ix ix_tup (pv 0) pe_int (fun _ _ => rfl)) (pa_cons pe_int (pa_cons pe_int pa_nil))))))))), ?_⟩
  refine ⟨_, rfl, t, _, _, rfl, ht, true, rfl, iteT ⟨_, rfl, t, _, _, _, rfl, rfl, SqT.of ht, rfl, k.1, 4, rfl, h1, h2, h3, by decide, fun H' s1 => ⟨true, rfl, iteT ⟨_, rfl, t, _, _, _, rfl, rfl, SqT.of (s1 _ _ ht), rfl, _, .int (k.2 : Int), 2, 3, rfl, .int _, ?_⟩⟩⟩⟩
  have e : (D.int (k.2 : Int)).btw 2 3 = true := by
    show (decide _ && decide _) = true
    rw [decide_eq_true (by omega), decide_eq_true (by omega)]; rfl
  rw [e]; exact q H' s1
abbrev s_are_kinds : Stmt := top 66
theorem sc_are_kinds : FnScope ["value", "item", "name", "_"] ["value"] (defScope s_are_kinds) := ⟨rfl, rfl, rfl, by decide +kernel, rfl, by decide +kernel, by decide +kernel⟩
def spAks : Sp := fun vs H Q _ => ∃ (a : Addr) (xs : List V) (ks : List Kind), vs = [.ref a] ∧ H a = some (.lst xs) ∧ KindsAt H xs ks ∧ GoodKinds ks ∧ ∀ H', Same H H' → Q (.bl true) H'
theorem ok_are_kinds (G : Bl mg) (gM : ∃ t, mg "MOST_KINDS" = some (.int 12 t)) (DA : DefAt K mg "_are_kinds" s_are_kinds) (cIl : Callee P w K mg base 2 "is_list" ["value"] spIsl) (cDf : Callee P w K mg base 2 "are_different" ["items"] (spDiff K)) (cIk : Callee P w K mg base 4 "_is_kind" ["value"] spIsk) : Callee P w K mg base 6 "_are_kinds" ["value"] spAks := by
  refine callee DA sc_are_kinds (fun vs H Q E h => by obtain ⟨v, k, _, rfl, _⟩ := h; rfl) (fun _ _ _ _ _ _ us hl => match us, hl with | [_], _ => rfl) fun f cdv A outer s H vs Q E hr h => ?_
  obtain ⟨a, xs, ks, rfl, ha, hk, gk, q⟩ := h
  obtain ⟨tM, gM⟩ := gM
  refine ⟨_, (pss_cons (ps_if (PW.pt (pw_or (pt_not (pt_val (pe_cal cIl hr (by decide) (pa_cons (pv 0) pa_nil)))) (pw_or1 (pt_not (pt_chain op_le op_le pe_int (pe_callB call_len_seq (by rfl) G.b_len (by decide +kernel) (pa_cons (pv 0) pa_nil)) (pe_glob (v := .int 12) (by rfl) gM ⟨_, rfl⟩)))))) (pss_one (ps_ret pe_bl)) pss_nil)
    (pss_one (ps_ret (pe_and (pe_callB (cr_all rfl) (by rfl) G.b_all (by decide +kernel) (pa_cons (pe_lc (own := [("item", 1)]) (g := gName 1) rfl sc_are_kinds.nd (pi_list (pv 0)) (blkOk_by (N := ["value", "item", "name", "_"]) (sc := defScope s_are_kinds) (by decide +kernel)) (fun _ _ _ _ _ => (pg_name (i := 1) sc_are_kinds.nd rfl (Or.inl rfl))) (fun _ _ _ _ _ => pts_nil) (fun _ _ _ _ _ => (pe_cal cIk hr (by decide) (pa_cons (pv 1) pa_nil)))) pa_nil)) (pe_one (pe_cal cDf hr (by decide) (pa_cons (pe_lc (own := [("name", 2), ("_", 3)]) (g := gTup K 2 (gCons (gName 2) (gCons (gName 3) gNil))) rfl sc_are_kinds.nd (pi_list (pv 0)) (blkOk_by (N := ["value", "item", "name", "_"]) (sc := defScope s_are_kinds) (by decide +kernel)) (fun _ _ _ _ _ => (pg_tup (by rfl) (pgs_cons (pg_name (i := 2) sc_are_kinds.nd rfl (Or.inl rfl)) (pgs_cons (pg_name (i := 3) sc_are_kinds.nd rfl (Or.inl rfl)) pgs_nil)))) (fun _ _ _ _ _ => pts_nil) (fun _ _ _ _ _ => (pv 2))) pa_nil))))))), ?_⟩
  have lx := Paired.length hk
  have hlen := gk.len
  refine ⟨_, rfl, _, _, rfl, .lst ha (kind_d hk), fun H1 s1 => ⟨_, rfl, ?_⟩⟩
  refine iteF ⟨_, rfl, a, _, rfl, .inl (SqL.of (s1 _ _ ha)), _, _, rfl, rfl, _, rfl, itt (decide_eq_true (by omega)) ⟨_, _, rfl, rfl, _, rfl, ?_⟩⟩
  rw [decide_eq_true (show (xs.length : Int) ≤ 12 by omega)]
  refine iteF ?_
  refine ⟨_, rfl, a, rfl, ⟨xs, SqL.of (s1 _ _ ha)⟩, fun p hp => ?_⟩
  refine lc_list (K := K) (a := a) (xs := xs) (fun i H' => Same H1 H' ∧ H' p = some (.lst ((List.replicate i true).map V.bl))) ⟨same_new hp, upd_same⟩ (fun i H' _ z => SqL.of (z.1 _ _ (s1 _ _ ha))) ?_ ?_
  · rintro i x H2 hx ⟨s2, d2⟩
    obtain ⟨k, ek, t, rfl, ht⟩ := paired_get hk hx
    have mk : k ∈ ks := List.mem_of_getElem? ek
    refine ⟨rfl, tyes ?_⟩
    refine iteT ?_
    have hi : i < xs.length := (List.getElem?_eq_some_iff.mp hx).1
    refine ⟨_, rfl, t, k, rfl, s2 _ _ (s1 _ _ ht), (gk.ltr k mk).1, (gk.ltr k mk).2.1, (gk.ltr k mk).2.2, gk.two k mk, fun H3 s3 => ⟨_, s3 _ _ d2, ?_, Same.put (s2.trans s3) hp, ?_⟩⟩
    · rw [List.length_map, List.length_replicate]; exact small1000 (by omega)
    · rw [upd_same, List.replicate_succ', List.map_append]; rfl
  · rintro H2 ⟨s2, d2⟩
    refine ⟨p, List.replicate xs.length true, rfl, SqL.of d2, ?_⟩
    have e : (List.replicate xs.length true).all id = true := by simp
    rw [e]
    refine ⟨true, rfl, iteT ?_⟩
    refine ⟨_, rfl, a, rfl, ⟨xs, SqL.of (s2 _ _ (s1 _ _ ha))⟩, fun p2 hp2 => ?_⟩
    refine lc_list (K := K) (a := a) (xs := xs) (fun i H' => Same H2 H' ∧ H' p2 = some (.lst (((ks.take i).map (·.1)).map V.str))) ⟨same_new hp2, upd_same⟩ (fun i H' _ z => SqL.of (z.1 _ _ (s2 _ _ (s1 _ _ ha)))) ?_ ?_
    · rintro i x H3 hx ⟨s3, d3⟩
      obtain ⟨k, ek, t, rfl, ht⟩ := paired_get hk hx
      have hi : i < xs.length := (List.getElem?_eq_some_iff.mp hx).1
      refine ⟨t, _, rfl, SqT.of (s3 _ _ (s2 _ _ (s1 _ _ ht))), rfl, _, _, rfl, _, _, rfl, rfl, rfl, tyes ?_⟩
      refine iteT ⟨_, rfl, _, d3, ?_, Same.put s3 hp2, ?_⟩
      · rw [List.length_map, List.length_map, List.length_take]; exact small1000 (by omega)
      · obtain ⟨hj, ej⟩ := List.getElem?_eq_some_iff.mp ek
        rw [upd_same, List.take_succ_eq_append_getElem hj, ej, List.map_append, List.map_append]; rfl
    · rintro H3 ⟨s3, d3⟩
      have e3 : ks.take xs.length = ks := by rw [lx]; exact List.take_length
      rw [e3] at d3
      exact ⟨p2, ks.map (·.1), rfl, d3, gk.nd, by rw [List.length_map]; omega, q H3 ((s1.trans s2).trans s3)⟩
end
end NH
set_option maxHeartbeats 4000000
/-! {k: v for .. in .. for .. in ..}: a dict comprehension with two clauses. -/
namespace NH
open PySem PySem.Spec PyProof.Rows L2
/-- the comprehension -/
abbrev dc2 (ke ve ga ia gb ib : Expr) (fa fb : List Expr) (sc : Scope) (po : Pos) : Expr := .DictComp ke ve [⟨ga, ia, fa, 0⟩, ⟨gb, ib, fb, 0⟩] sc po
section
variable (ke ve ga ia gb ib : Expr) (fa fb : List Expr) (sc : Scope) (po : Pos)
theorem turn_a (it acc : Value) (en : Env) : compTurn (dc2 ke ve ga ia gb ib fa fb sc po) 0 it acc en = (do
      standAt ia.pos
      match ← pyNext it with
      | none => pure (.done .next)
      | some u =>
        letOwnedTupleGo ga it u
        assign ga en u
        let mut yes := true
        for q in fa do
          if yes then yes ← isTrue q en (eval q en)
        if yes then
          let y ← eval ib en
          standAt ib.pos
          let y ← foldedSetIterable ib en y
          let _ ← runOwn (.compStart (dc2 ke ve ga ia gb ib fa fb sc po) 1 (← holding [y] (pyIter y)) acc en) en
        again (.compLoop (dc2 ke ve ga ia gb ib fa fb sc po) 0 it acc en)) := by rfl
theorem turn_b (it : Value) (Da : Addr) (en : Env) : compTurn (dc2 ke ve ga ia gb ib fa fb sc po) 1 it (.ref Da) en = (do
      standAt ib.pos
      match ← pyNext it with
      | none => pure (.done .next)
      | some u =>
        letOwnedTupleGo gb it u
        assign gb en u
        let mut yes := true
        for q in fb do
          if yes then yes ← isTrue q en (eval q en)
        if yes then
          (do
            let k1 ← eval ke en
            let v1 ← holding [k1] (eval ve en)
            standAt { ke.pos with endLine := ve.pos.endLine, endCol := ve.pos.endCol }
            holding [k1, v1] (dictSet Da k1 v1))
        again (.compLoop (dc2 ke ve ga ia gb ib fa fb sc po) 1 it (.ref Da) en)) := by rfl
end
section
variable {P : Program} {w : World} {A : Around} {R : Result → Shared → Prop} {s : Shared} {ke ve ga ia gb ib : Expr} {fa fb : List Expr} {sc : Scope} {po : Pos} {it acc : Value} {Da : Addr} {en : Env}
/-- where an error is told -/
abbrev Ot (P : Program) (w : World) (A : Around) (R : Result → Shared → Prop) (en : Env) : Value → Shared → Prop := notedBy (model P w) A en fun x s' => R (.error x) s'
/-- the tests of a clause -/
abbrev tests (l : List Expr) (en : Env) : Sem Bool := forIn l true fun q r => if r = true then do let ok ← isTrue q en (eval q en); pure (ForInStep.yield ok) else pure (ForInStep.yield r)
theorem loop_a (hs : ∀ y, foldedSetIterable ib en y = pure y) (J : Nat → Shared → Prop)
    (go : ∀ n s, J n s → wpAny (model P w) A (pyNext it) (fun r s1 => match r with
      | none => R (.ok .next) s1
      | some u => wpAny (model P w) A (letOwnedTupleGo ga it u) (fun _ s2 => wpAny (model P w) A (assign ga en u) (fun _ s3 => wpAny (model P w) A (tests fa en) (fun yes s4 =>
          if yes = true then wpAny (model P w) A (eval ib en) (fun y s5 => wpAny (model P w) A (pyIter y) (fun i2 s6 =>
              codeAny (model P w) A (.compStart (dc2 ke ve ga ia gb ib fa fb sc po) 1 i2 acc en) (fun r2 s' => match r2 with
                | .ok _ => ∃ m, m < n ∧ J m s'
                | .error _ => False) s6) (Ot P w A R en) s5) (Ot P w A R en) s4
          else ∃ m, m < n ∧ J m s4) (Ot P w A R en) s3) (Ot P w A R en) s2) (Ot P w A R en) s1) (Ot P w A R en) s)
    (n : Nat) (h : J n s) : codeAny (model P w) A (.compLoop (dc2 ke ve ga ia gb ib fa fb sc po) 0 it acc en) R s := by
  refine codeAny_loop rfl J (fun n s hJ => ?_) n h
  show wpAny _ A ((compTurn (dc2 ke ve ga ia gb ib fa fb sc po) 0 it acc en).onRaise (fun x => do noteFrame x en; theTreesLotGoes x)) _ _ s
  refine wpAny_noted ?_
  rw [turn_a]
  refine wpAny_bind (wpAny_standAt (wpAny_bind (wpAny_mono (go n s hJ) (fun r s1 h1 => ?_) fun _ _ z => z)))
  match r, h1 with
  | none, h1 => exact wpAny_pure h1
  | some u, h1 =>
    refine wpAny_bind (wpAny_mono h1 (fun _ s2 h2 => ?_) fun _ _ z => z)
    refine wpAny_bind (wpAny_mono h2 (fun _ s3 h3 => wpAny_bind (wpAny_mono h3 (fun yes s4 h4 => ?_) fun _ _ z => z)) fun _ _ z => z)
    match yes, h4 with
    | false, h4 => exact wpAny_pure ⟨rfl, h4⟩
    | true, h4 =>
      refine wpAny_bind (wpAny_mono h4 (fun y s5 h5 => ?_) fun _ _ z => z)
      refine wpAny_bind (wpAny_standAt (wpAny_bind (wpAny_of_eq (hs y) (wpAny_bind (wpAny_holding (wpAny_mono h5 (fun i2 s6 h6 => ?_) fun _ _ z => z))))))
      refine wpAny_bind (wpAny_runOwn ?_)
      rw [Around.mark_none]
      refine codeAny_mono h6 fun r2 s' hr => ?_
      match r2, hr with
      | .ok f, hr =>
        first
          | exact wpAny_pure ⟨rfl, hr⟩
          | exact wpAny_bind (wpAny_pure (wpAny_pure ⟨rfl, hr⟩))
      | .error e, hr => exact hr.elim
theorem loop_b (J : Nat → Shared → Prop)
    (go : ∀ n s, J n s → wpAny (model P w) A (pyNext it) (fun r s1 => match r with
      | none => R (.ok .next) s1
      | some u => wpAny (model P w) A (letOwnedTupleGo gb it u) (fun _ s2 => wpAny (model P w) A (assign gb en u) (fun _ s3 => wpAny (model P w) A (tests fb en) (fun yes s4 =>
          if yes = true then wpAny (model P w) A (eval ke en) (fun k1 s5 => wpAny (model P w) A (eval ve en) (fun v1 s6 =>
              wpAny (model P w) A (dictSet Da k1 v1) (fun _ s7 => ∃ m, m < n ∧ J m s7) (Ot P w A R en) s6) (Ot P w A R en) s5) (Ot P w A R en) s4
          else ∃ m, m < n ∧ J m s4) (Ot P w A R en) s3) (Ot P w A R en) s2) (Ot P w A R en) s1) (Ot P w A R en) s)
    (n : Nat) (h : J n s) : codeAny (model P w) A (.compLoop (dc2 ke ve ga ia gb ib fa fb sc po) 1 it (.ref Da) en) R s := by
  refine codeAny_loop rfl J (fun n s hJ => ?_) n h
  show wpAny _ A ((compTurn (dc2 ke ve ga ia gb ib fa fb sc po) 1 it (.ref Da) en).onRaise (fun x => do noteFrame x en; theTreesLotGoes x)) _ _ s
  refine wpAny_noted ?_
  rw [turn_b]
  refine wpAny_bind (wpAny_standAt (wpAny_bind (wpAny_mono (go n s hJ) (fun r s1 h1 => ?_) fun _ _ z => z)))
  match r, h1 with
  | none, h1 => exact wpAny_pure h1
  | some u, h1 =>
    refine wpAny_bind (wpAny_mono h1 (fun _ s2 h2 => ?_) fun _ _ z => z)
    refine wpAny_bind (wpAny_mono h2 (fun _ s3 h3 => wpAny_bind (wpAny_mono h3 (fun yes s4 h4 => ?_) fun _ _ z => z)) fun _ _ z => z)
    match yes, h4 with
    | false, h4 => exact wpAny_pure ⟨rfl, h4⟩
    | true, h4 =>
      exact wpAny_bind (wpAny_bind (wpAny_mono h4 (fun k1 s5 h5 => wpAny_bind (wpAny_holding (wpAny_mono h5 (fun v1 s6 h6 => wpAny_bind (wpAny_standAt (wpAny_holding (wpAny_mono h6 (fun _ s7 h7 => wpAny_pure ⟨rfl, h7⟩) fun _ _ z => z)))) fun _ _ z => z))) fun _ _ z => z))
theorem start_b (h0 : codeAny (model P w) A (.compLoop (dc2 ke ve ga ia gb ib fa fb sc po) 1 it acc en) R s)
    (h : wpAny (model P w) A (pyIter it) (fun i2 s' => codeAny (model P w) A (.compLoop (dc2 ke ve ga ia gb ib fa fb sc po) 1 i2 acc en) R s') (Ot P w A R en) s) :
    codeAny (model P w) A (.compStart (dc2 ke ve ga ia gb ib fa fb sc po) 1 it acc en) R s := by
  refine codeAny_of_tree ?_
  show wpAny _ _ ((compStart (dc2 ke ve ga ia gb ib fa fb sc po) 1 it acc en).onRaise (fun x => do noteFrame x en; standAt theWindowsPlace)) _ _ s
  refine wpAny_notedAt ?_
  unfold compStart
  show wpAny _ _ (ask >>= _) _ _ s
  refine wpAny_bind (wpAny_askSetting (wpAny_ite ?_))
  split
  · first
      | exact wpAny_bind (wpAny_pure (wpAny_pure ⟨rfl, h0⟩))
      | exact wpAny_pure ⟨rfl, h0⟩
  · first
      | exact wpAny_bind (wpAny_rule (wpAny_bind (wpAny_standAt (wpAny_bind (wpAny_mono h (fun i2 s' h' => wpAny_pure ⟨rfl, h'⟩) fun _ _ x => x)))))
      | (refine wpAny_bind (wpAny_rule ?_); show wpAny _ _ (standAt ib.pos >>= _) _ _ s; exact wpAny_bind (wpAny_standAt (wpAny_bind (wpAny_mono h (fun i2 s' h' => wpAny_pure ⟨rfl, h'⟩) fun _ _ x => x))))
end
section
variable {X : Cx}
/-- {k: v for a in .. if .. for b in .. if ..}: D the new dict; vs: the block's names, v2: those of the second target -/
def tDc2 (wi : TI) (g : TG) (tt : TT) (wi2 : TI) (g2 : TG) (tt2 : TT) (tk tv : TE) (vs v2 : List Nat) : TE := fun σ H Q => wi σ H fun J H1 => ∀ D, H1 D = none → ∃ W : Nat → Nat → Hp → Prop, (∃ m, W 0 m (upd H1 D (.dK []))) ∧ ∀ i m H, W i m H →
  (J.stop i H ∧ Q (.ref D) H) ∨ (J.go i H ∧ ∃ Nx : Hp → Prop, (∀ H', Nx H' → ∃ m', m' < m ∧ W (i + 1) m' H') ∧ ∀ x H', J.yld i H x H' → g x (wipe σ vs) H' fun σ2 H2 => wipe σ2 vs = wipe σ vs ∧ tt σ2 H2 fun b H3 =>
    if b = true then wi2 σ2 H3 fun J2 H4 => ∃ V : Nat → Nat → Hp → Prop, (∃ m, V 0 m H4) ∧ ∀ j k H, V j k H →
      (J2.stop j H ∧ Nx H) ∨ (J2.go j H ∧ ∃ Ny : Hp → Prop, (∀ H', Ny H' → ∃ k', k' < k ∧ V (j + 1) k' H') ∧ ∀ x H', J2.yld j H x H' → g2 x (wipe σ2 v2) H' fun σ3 H5 => wipe σ3 v2 = wipe σ2 v2 ∧ tt2 σ3 H5 fun b H6 =>
        if b = true then tk σ3 H6 fun y H7 => tv σ3 H7 fun z H8 => ∃ kvs q, y = kV q ∧ H8 D = some (.dK kvs) ∧ kvs.length < sizeLine ∧ Ny (upd H8 D (.dK (putK kvs q z))) else Ny H6)
    else Nx H3)
theorem pe_dc2 {ke ve ga ia gb ib : Expr} {fa fb : List Expr} {sc : Scope} {own : List (Str × Nat)} {v2 : List Nat} {po : Pos} {wi wi2 : TI} {g g2 : TG} {tt tt2 : TT} {tk tv : TE} (calm : X.calm = true) (nd : X.N.Nodup) (hi : PI X ga ia wi) (ok : BlkOk X.N X.env.scope sc own) (hv : ∀ i ∈ v2, i ∈ own.map (·.2))
    (hg : ∀ (s1 : Shared) (G : Hp) (C : Addr) (cs : List (Str × Addr)) (l : List Addr), PG (X.blk s1 G sc (compEnvC sc cs C X.env) l) ga g) (ht : ∀ (s1 : Shared) (G : Hp) (C : Addr) (cs : List (Str × Addr)) (l : List Addr), PTs (X.blk s1 G sc (compEnvC sc cs C X.env) l) fa tt) (hi2 : ∀ (s1 : Shared) (G : Hp) (C : Addr) (cs : List (Str × Addr)) (l : List Addr), PI (X.blk s1 G sc (compEnvC sc cs C X.env) l) gb ib wi2) (hg2 : ∀ (s1 : Shared) (G : Hp) (C : Addr) (cs : List (Str × Addr)) (l : List Addr), PG (X.blk s1 G sc (compEnvC sc cs C X.env) l) gb g2) (ht2 : ∀ (s1 : Shared) (G : Hp) (C : Addr) (cs : List (Str × Addr)) (l : List Addr), PTs (X.blk s1 G sc (compEnvC sc cs C X.env) l) fb tt2) (hk : ∀ (s1 : Shared) (G : Hp) (C : Addr) (cs : List (Str × Addr)) (l : List Addr), PE (X.blk s1 G sc (compEnvC sc cs C X.env) l) ke tk) (hw : ∀ (s1 : Shared) (G : Hp) (C : Addr) (cs : List (Str × Addr)) (l : List Addr), PE (X.blk s1 G sc (compEnvC sc cs C X.env) l) ve tv)
    (hs : ∀ x, foldedSetIterable ia X.env x = pure x := by intro _; rfl) (hs2 : ∀ e x, foldedSetIterable ib e x = pure x := by intro _ _; rfl) :
    PE X (dc2 ke ve ga ia gb ib fa fb sc po) (tDc2 wi g tt wi2 g2 tt2 tk tv (own.map (·.2)) v2) := by
  refine ⟨fun pins s σ H Q inv want => ?_⟩
  rw [arm_eval_DictComp]
  have closed : ∀ y ∈ sc.names, y.2 = .free → ∃ c, X.env.cells.lookup y.1 = some c := fun y hy e => (ok.free y hy e).elim (fun z => inv.ok.has _ (.inl z)) fun z => inv.ok.has _ (.inr z)
  refine wpAny_comprehension_free (use := none) rfl hs (closure_ok closed) ok.kind (fun y hy e => by rw [ok.uniq y hy, e]) (thn (hi.run pins s σ H _ inv want) fun xv s1 hx => thn hx fun itv s2 h2 => ?_)
  obtain ⟨it, fp, tn, J, H2, rfl, inv2, T, st2, f2, q⟩ := h2
  refine wpAny_newObj_type (newEnv_comp ?_)
  generalize hD : s2.heap.objs.size = D
  have Dn : H2 D = none := inv2.hok.fresh (Nat.le_of_eq hD)
  obtain ⟨W, ⟨m0, w0⟩, turn⟩ := q D Dn
  generalize hs3 : ({ s2 with heap := s2.heap.push { cls := .type "dict", data := .dict #[] } } : Shared) = s3
  have inv3 : Inv X pins σ (upd H2 D (.dK [])) s3 := by
    rw [← hs3]
    refine inv2.laid (t' := s2.toks) (fun _ _ e => Heap.get?_push_of_some _ e) (Nat.le_of_eq hD) ?_
    rw [← hD]
    exact dk_empty s2.heap inv2.big
  have h3 : s3.heap = s2.heap.push { cls := .type "dict", data := .dict #[] } := by rw [← hs3]
  have below : ∀ b ∈ fp, b < s2.heap.objs.size := fun b hb => by
    obtain ⟨o, e, _⟩ := T.obj _ _ st2 b hb
    exact Heap.lt_size e
  have f3 : ∀ b ∈ fp, FpOk X pins (upd H2 D (.dK [])) b ∧ b < s3.heap.objs.size := fun b hb => by
    refine ⟨⟨?_, (f2 b hb).2⟩, by rw [h3, Heap.size_push]; exact Nat.lt_succ_of_lt (below b hb)⟩
    rw [upd_ne (by rw [← hD]; exact Nat.ne_of_lt (below b hb))]
    exact (f2 b hb).1
  have st3 : tn 0 s3.heap := T.keep _ _ _ st2 fun b _ o e => by rw [h3]; exact Heap.get?_push_of_some _ e
  have inv4 := block_start inv3 ok nd f3
  have pg := hg s3 (upd H2 D (.dK [])) s3.heap.objs.size (cellsFrom (s3.heap.objs.size + 1) sc.names (cloFrom X.env.cells sc.names [])) fp
  have pt := ht s3 (upd H2 D (.dK [])) s3.heap.objs.size (cellsFrom (s3.heap.objs.size + 1) sc.names (cloFrom X.env.cells sc.names [])) fp
  have pi2 := hi2 s3 (upd H2 D (.dK [])) s3.heap.objs.size (cellsFrom (s3.heap.objs.size + 1) sc.names (cloFrom X.env.cells sc.names [])) fp
  have pg2 := hg2 s3 (upd H2 D (.dK [])) s3.heap.objs.size (cellsFrom (s3.heap.objs.size + 1) sc.names (cloFrom X.env.cells sc.names [])) fp
  have pt2 := ht2 s3 (upd H2 D (.dK [])) s3.heap.objs.size (cellsFrom (s3.heap.objs.size + 1) sc.names (cloFrom X.env.cells sc.names [])) fp
  have pk := hk s3 (upd H2 D (.dK [])) s3.heap.objs.size (cellsFrom (s3.heap.objs.size + 1) sc.names (cloFrom X.env.cells sc.names [])) fp
  have pw := hw s3 (upd H2 D (.dK [])) s3.heap.objs.size (cellsFrom (s3.heap.objs.size + 1) sc.names (cloFrom X.env.cells sc.names [])) fp
  show codeAny _ _ (.compStart (dc2 ke ve ga ia gb ib fa fb sc po) 0 (.ref it) (.ref D) (compEnvC sc (cellsFrom (s3.heap.objs.size + 1) sc.names (cloFrom X.env.cells sc.names [])) s3.heap.objs.size X.env)) (compPost (model X.prog X.w) X.A X.xe none _ (.ref D) s3.heap.objs.size) { s3 with heap := pushCells (s3.heap.push { cls := .type "dict", data := .dict #[] }) sc.names }
  have off : ∀ b ∈ fp, (upd H2 D (.dK [])) b = none := fun b hb => (f3 b hb).1.1
  generalize hce : compEnvC sc (cellsFrom (s3.heap.objs.size + 1) sc.names (cloFrom X.env.cells sc.names [])) s3.heap.objs.size X.env = ce at inv4 pg pt pi2 pg2 pt2 pk pw ⊢
  have cL : ce.locals = s3.heap.objs.size := by subst hce; rfl
  generalize hH3 : upd H2 D (.dK []) = H3 at inv3 inv4 pg pt pi2 pg2 pt2 pk pw w0 off f3
  generalize hs4 : ({ s3 with heap := pushCells (s3.heap.push { cls := .type "dict", data := .dict #[] }) sc.names } : Shared) = s4 at inv4 ⊢
  have st4 : tn 0 s4.heap := T.keep _ _ _ st3 fun b _ o e => by rw [← hs4]; exact pushCells_keeps _ _ _ _ (Heap.get?_push_of_some _ e)
  have calmly : ∀ {σ' : L2.St} {H' : Hp} {s' : Shared}, Inv (X.blk s3 H3 sc ce fp) [] σ' H' s' → (∀ b ∈ fp, H' b = none) → ∀ b ∈ fp, FpOk (X.blk s3 H3 sc ce fp) [] H' b := fun {σ' H' s'} i2 hn b hb =>
    ⟨hn b hb, (i2.ok.exf b hb).1, i2.ok.exfs b hb, .inl hb, fun x c e => (i2.ok.exf b hb).2 x c e, fun p hp => absurd (show p ∈ ([] : List (Addr × Obj)) ++ [] from hp) (by simp)⟩
  have run : codeAny (model X.prog X.w) X.A (.compLoop (dc2 ke ve ga ia gb ib fa fb sc po) 0 (.ref it) (.ref D) ce) (compPost (model X.prog X.w) X.A X.xe none (EP X pins σ Q) (.ref D) s3.heap.objs.size) s4 := by
    refine loop_a (hs2 ce) (fun n s' => ∃ i H', Inv (X.blk s3 H3 sc ce fp) [] (wipe σ (own.map (·.2))) H' s' ∧ tn i s'.heap ∧ (∀ b ∈ fp, H' b = none) ∧ W i n H') ?_ m0 ⟨0, H3, inv4, st4, off, w0⟩
    rintro n s5 ⟨i, H5, inv5, st5, n5, w5⟩
    rcases turn i n H5 w5 with ⟨stop, qq⟩ | ⟨go, Nx, hNx, next⟩
    · refine thnF (T.done (X.blk s3 H3 sc ce fp) rfl rfl rfl calm i [] s5 _ H5 (fun _ _ => False) inv5 (calmly inv5 n5) st5 stop) fun r s6 ⟨hr, inv6⟩ => ?_
      subst hr
      have inv7 : Inv X pins σ H5 s6 := inv3.call' (ch := fp) inv6.os inv6.base inv6.hok inv6.bare fun b hb => ⟨(f3 b hb).1.2.2.2.1, (f3 b hb).1.2.1, (f3 b hb).1.2.2.2.2.1, (f3 b hb).1.2.2.2.2.2⟩
      have nC : H5 s3.heap.objs.size = none := by
        have z : H5 ce.locals = none := inv6.free
        rwa [cL] at z
      obtain ⟨m, hn, _⟩ := inv6.loc
      have hn : s6.heap.Ns ce.locals m := hn
      rw [cL] at hn
      obtain ⟨e0, e1, e2, e3, e4, e5⟩ := inv3.fpOk (Nat.le_refl _) nC
      exact ⟨m, hn, fun h'' sb => ⟨.ref D, H5, inv7.turned (t' := s6.toks) (fun b o hb e => (sb.2 b hb).trans e) e0 e1 e3 e4 e5, rfl, qq⟩⟩
    · refine thnF (T.item (X.blk s3 H3 sc ce fp) rfl rfl rfl calm i [] s5 _ H5 (fun _ _ => False) inv5 (calmly inv5 n5) st5 go) fun r s6 ⟨u, hr, h6⟩ => ?_
      subst hr
      refine thnF h6 fun _ s7 ⟨x, H7, inv7, r7, y7, st7, n7⟩ => ?_
      refine thnF (pg.run _ s7 _ H7 x u _ (inv7.pinned (calmly inv7 n7) (T.obj _ _ st7)) r7 (next x H7 y7)) fun _ s8 ⟨σ8, H8, inv8, hw8, q8⟩ => ?_
      refine thnF (pt.run _ s8 σ8 H8 _ inv8 q8) fun b s9 ⟨H9, inv9, q9⟩ => ?_
      have fin : ∀ {σ9 : L2.St} {s' : Shared} {H' : Hp}, Inv (X.blk s3 H3 sc ce fp) ([] ++ pinsAt fp s7.heap) σ9 H' s' → (wipe σ (own.map (·.2))).length = σ9.length → (∀ (j : Nat) v, (wipe σ (own.map (·.2)))[j]? = some (some v) → σ9[j]? = some (some v)) → Nx H' →
          ∃ m, m < n ∧ ∃ i H', Inv (X.blk s3 H3 sc ce fp) [] (wipe σ (own.map (·.2))) H' s' ∧ tn i s'.heap ∧ (∀ b ∈ fp, H' b = none) ∧ W i m H' := fun {σ9 s' H'} i9 hl hkeep nx => by
        obtain ⟨m2, hm, w2⟩ := hNx H' nx
        have pinned : ∀ b ∈ fp, ∀ o, s7.heap.get? b = some o → s'.heap.get? b = some o ∧ H' b = none := fun b hb o e =>
          let z := i9.pin (b, o) (List.mem_append_right _ (List.mem_append_right _ (mem_pinsAt hb e)))
          ⟨z.1, z.2.1⟩
        refine ⟨m2, hm, i + 1, H', (i9.unpinned (pins := [])).weak hl hkeep, T.keep _ _ _ st7 fun b hb o e => (pinned b hb o e).1, fun b hb => ?_, w2⟩
        obtain ⟨o, e, _⟩ := T.obj _ _ st7 b hb
        exact (pinned b hb o e).2
      have l8 : (wipe σ (own.map (·.2))).length = σ8.length := by rw [← hw8, wipe_length]
      have k8 : ∀ (j : Nat) v, (wipe σ (own.map (·.2)))[j]? = some (some v) → σ8[j]? = some (some v) := fun j v e => by
        rw [← hw8] at e
        exact (wipe_some e).1
      have k9 : ∀ (j : Nat) v, (wipe σ (own.map (·.2)))[j]? = some (some v) → (wipe σ8 v2)[j]? = some (some v) := fun j v e => by
        rw [← hw8] at e
        obtain ⟨e1, e2⟩ := wipe_some e
        rw [wipe_out fun z => e2 (hv j z)]
        exact e1
      match b, q9 with
      | false, q9 => exact fin inv9 l8 k8 (by simpa using q9)
      | true, q9 =>
        refine thnF (pi2.run _ s9 σ8 H9 _ inv9 (by simpa using q9)) fun xv s10 hx => thnF hx fun itv s11 h11 => ?_
        obtain ⟨i1, p1, t1, J1, H11, rfl, inv11, T1, st11, f11, V, ⟨m1, v1⟩, turn1⟩ := h11
        have calm1 : ∀ {H' : Hp}, (∀ b ∈ p1, H' b = none) → ∀ b ∈ p1, FpOk (X.blk s3 H3 sc ce fp) ([] ++ pinsAt fp s7.heap) H' b := fun hn b hb => ⟨hn b hb, (f11 b hb).2⟩
        have run1 : codeAny (model X.prog X.w) X.A (.compLoop (dc2 ke ve ga ia gb ib fa fb sc po) 1 (.ref i1) (.ref D) ce)
            (fun r s' => match r with
              | .ok _ => ∃ m, m < n ∧ ∃ i H', Inv (X.blk s3 H3 sc ce fp) [] (wipe σ (own.map (·.2))) H' s' ∧ tn i s'.heap ∧ (∀ b ∈ fp, H' b = none) ∧ W i m H'
              | .error _ => False) s11 := by
          refine loop_b (fun k s' => ∃ j H', Inv (X.blk s3 H3 sc ce fp) ([] ++ pinsAt fp s7.heap) (wipe σ8 v2) H' s' ∧ t1 j s'.heap ∧ (∀ b ∈ p1, H' b = none) ∧ V j k H') ?_ m1 ⟨0, H11, inv11.weak (wipe_length _ _) (fun j v e => (wipe_some e).1), st11, fun b hb => (f11 b hb).1, v1⟩
          rintro k s12 ⟨j, H12, inv12, st12, n12, w12⟩
          rcases turn1 j k H12 w12 with ⟨stop1, nx1⟩ | ⟨go1, Ny, hNy, next1⟩
          · refine thnF (T1.done (X.blk s3 H3 sc ce fp) rfl rfl rfl calm j _ s12 (wipe σ8 v2) H12 (fun _ _ => False) inv12 (calm1 n12) st12 stop1) fun r s13 ⟨hr, inv13⟩ => ?_
            subst hr
            exact fin inv13 (l8.trans (wipe_length σ8 v2).symm) k9 nx1
          · refine thnF (T1.item (X.blk s3 H3 sc ce fp) rfl rfl rfl calm j _ s12 (wipe σ8 v2) H12 (fun _ _ => False) inv12 (calm1 n12) st12 go1) fun r s13 ⟨u1, hr, h13⟩ => ?_
            subst hr
            refine thnF h13 fun _ s14 ⟨x1, H14, inv14, r14, y14, st14, n14⟩ => ?_
            refine thnF (pg2.run _ s14 (wipe σ8 v2) H14 x1 u1 _ (inv14.pinned (calm1 n14) (T1.obj _ _ st14)) r14 (next1 x1 H14 y14)) fun _ s15 ⟨σ15, H15, inv15, hw15, q15⟩ => ?_
            refine thnF (pt2.run _ s15 σ15 H15 _ inv15 q15) fun b1 s16 ⟨H16, inv16, q16⟩ => ?_
            have fin1 : ∀ {s' : Shared} {H' : Hp}, Inv (X.blk s3 H3 sc ce fp) (([] ++ pinsAt fp s7.heap) ++ pinsAt p1 s14.heap) σ15 H' s' → Ny H' → ∃ m, m < k ∧ ∃ j H', Inv (X.blk s3 H3 sc ce fp) ([] ++ pinsAt fp s7.heap) (wipe σ8 v2) H' s' ∧ t1 j s'.heap ∧ (∀ b ∈ p1, H' b = none) ∧ V j m H' := fun {s' H'} i9 nx => by
              obtain ⟨m2, hm, w2⟩ := hNy H' nx
              have pinned : ∀ b ∈ p1, ∀ o, s14.heap.get? b = some o → s'.heap.get? b = some o ∧ H' b = none := fun b hb o e =>
                let z := i9.pin (b, o) (List.mem_append_right _ (List.mem_append_right _ (mem_pinsAt hb e)))
                ⟨z.1, z.2.1⟩
              refine ⟨m2, hm, j + 1, H', i9.unpinned.weak (by rw [← hw15, wipe_length]) (fun j v e => by rw [← hw15] at e; exact (wipe_some e).1), T1.keep _ _ _ st14 fun b hb o e => (pinned b hb o e).1, fun b hb => ?_, w2⟩
              obtain ⟨o, e, _⟩ := T1.obj _ _ st14 b hb
              exact (pinned b hb o e).2
            cases b1 with
            | false =>
              rw [if_neg Bool.false_ne_true] at q16
              exact fin1 inv16 q16
            | true =>
              rw [if_pos rfl] at q16
              refine thnF (pk.run _ s16 σ15 H16 _ inv16 q16) fun y s17 ⟨yk, H17, inv17, r17, q17⟩ => ?_
              refine thnF (pw.run _ s17 σ15 H17 _ inv17 q17) fun z s18 ⟨yv, H18, inv18, r18, kvs, k, ek, hD18, hz18, nx⟩ => ?_
              subst ek
              exact d_dictSet (X := X.blk s3 H3 sc ce fp) inv18 hD18 hz18 r17 r18 fun s19 inv19 => fin1 inv19 nx
        exact start_b run1 (T1.self X.A 0 _ _ _ st11 run1)
  exact codeAny_compStart_dict run (T.self X.A 0 _ _ _ st4 run)
end
end NH
set_option maxHeartbeats 4000000
namespace NH
open PySem PySem.Spec PyProof.Rows L2 TL
/-- the dict that a walk over a list that stays makes -/
theorem dc_lst {K : PySem.W.Frag} {a : Addr} {xs : List V} {g : TG} {tt : TT} {tk tv : TE} {vs : List Nat} {σ : L2.St} {H1 : Hp} {D : Addr} {Qd : Hp → Prop} (Z : Nat → Hp → Prop) (z0 : Z 0 (upd H1 D (.dK []))) (zl : ∀ i H, i ≤ xs.length → Z i H → SqL K H a xs)
    (zs : ∀ i x H, xs[i]? = some x → Z i H → g x (wipe σ vs) H fun σ2 H2 => wipe σ2 vs = wipe σ vs ∧ tt σ2 H2 fun b H3 =>
      if b = true then tk σ2 H3 fun y H4 => tv σ2 H4 fun z H5 => ∃ kvs k, y = kV k ∧ H5 D = some (.dK kvs) ∧ kvs.length < sizeLine ∧ Z (i + 1) (upd H5 D (.dK (putK kvs k z))) else Z (i + 1) H3) (zd : ∀ H, Z xs.length H → Qd H) :
    ∃ W : Nat → Nat → Hp → Prop, (∃ m, W 0 m (upd H1 D (.dK []))) ∧ ∀ i m H, W i m H →
      ((Itl K a).stop i H ∧ Qd H) ∨ ((Itl K a).go i H ∧ ∃ Nx : Hp → Prop, (∀ H', Nx H' → ∃ m', m' < m ∧ W (i + 1) m' H') ∧ ∀ x H', (Itl K a).yld i H x H' → g x (wipe σ vs) H' fun σ2 H2 => wipe σ2 vs = wipe σ vs ∧ tt σ2 H2 fun b H3 =>
        if b = true then tk σ2 H3 fun y H4 => tv σ2 H4 fun z H5 => ∃ kvs k, y = kV k ∧ H5 D = some (.dK kvs) ∧ kvs.length < sizeLine ∧ Nx (upd H5 D (.dK (putK kvs k z))) else Nx H3) := by
  refine ⟨fun i m H => m = xs.length - i ∧ i ≤ xs.length ∧ Z i H, ⟨xs.length, (Nat.sub_zero _).symm, Nat.zero_le _, z0⟩, ?_⟩
  rintro i m H ⟨rfl, hi, p⟩
  have q := zl i H hi p
  rcases Nat.lt_or_ge i xs.length with lt | ge
  · exact .inr ⟨⟨xs, xs[i], q, List.getElem?_eq_getElem lt⟩, Z (i + 1), fun H' p' => ⟨xs.length - (i + 1), by omega, rfl, lt, p'⟩, fun x H' ⟨e, y⟩ => e ▸ zs i x _ (y xs q) p⟩
  · have e : i = xs.length := Nat.le_antisymm hi ge
    subst e
    exact .inl ⟨⟨xs, q, Nat.le_refl _⟩, zd H p⟩
/-- the same for two clauses: a tuple, then for each item a list -/
theorem dc2_tl {K : PySem.W.Frag} {a : Addr} {xs : List V} {g g2 : TG} {tk tv t2 : TE} {vs v2 : List Nat} {σ : L2.St} {H1 : Hp} {D : Addr} {Qd : Hp → Prop} (Z : Nat → Hp → Prop) (z0 : Z 0 (upd H1 D (.dK []))) (zl : ∀ i H, i ≤ xs.length → Z i H → SqT K H a xs)
    (zs : ∀ i x H, xs[i]? = some x → Z i H → g x (wipe σ vs) H fun σ2 H2 => wipe σ2 vs = wipe σ vs ∧ t2 σ2 H2 fun y H4 => ∃ b, y = .ref b ∧ (∃ ys, SqL K H4 b ys) ∧ ∃ V : Nat → Nat → Hp → Prop, (∃ m, V 0 m H4) ∧ ∀ j k H, V j k H →
      ((Itl K b).stop j H ∧ Z (i + 1) H) ∨ ((Itl K b).go j H ∧ ∃ Ny : Hp → Prop, (∀ H', Ny H' → ∃ k', k' < k ∧ V (j + 1) k' H') ∧ ∀ x H', (Itl K b).yld j H x H' → g2 x (wipe σ2 v2) H' fun σ3 H5 => wipe σ3 v2 = wipe σ2 v2 ∧
        tk σ3 H5 fun y H7 => tv σ3 H7 fun z H8 => ∃ kvs q, y = kV q ∧ H8 D = some (.dK kvs) ∧ kvs.length < sizeLine ∧ Ny (upd H8 D (.dK (putK kvs q z))))) (zd : ∀ H, Z xs.length H → Qd H) :
    ∃ W : Nat → Nat → Hp → Prop, (∃ m, W 0 m (upd H1 D (.dK []))) ∧ ∀ i m H, W i m H →
      ((Itt K a).stop i H ∧ Qd H) ∨ ((Itt K a).go i H ∧ ∃ Nx : Hp → Prop, (∀ H', Nx H' → ∃ m', m' < m ∧ W (i + 1) m' H') ∧ ∀ x H', (Itt K a).yld i H x H' → g x (wipe σ vs) H' fun σ2 H2 => wipe σ2 vs = wipe σ vs ∧ tYes σ2 H2 fun b H3 =>
        if b = true then iList K t2 σ2 H3 fun J2 H4 => ∃ V : Nat → Nat → Hp → Prop, (∃ m, V 0 m H4) ∧ ∀ j k H, V j k H →
          (J2.stop j H ∧ Nx H) ∨ (J2.go j H ∧ ∃ Ny : Hp → Prop, (∀ H', Ny H' → ∃ k', k' < k ∧ V (j + 1) k' H') ∧ ∀ x H', J2.yld j H x H' → g2 x (wipe σ2 v2) H' fun σ3 H5 => wipe σ3 v2 = wipe σ2 v2 ∧ tYes σ3 H5 fun b H6 =>
            if b = true then tk σ3 H6 fun y H7 => tv σ3 H7 fun z H8 => ∃ kvs q, y = kV q ∧ H8 D = some (.dK kvs) ∧ kvs.length < sizeLine ∧ Ny (upd H8 D (.dK (putK kvs q z))) else Ny H6)
        else Nx H3) := by
  refine ⟨fun i m H => m = xs.length - i ∧ i ≤ xs.length ∧ Z i H, ⟨xs.length, (Nat.sub_zero _).symm, Nat.zero_le _, z0⟩, ?_⟩
  rintro i m H ⟨rfl, hi, p⟩
  have q := zl i H hi p
  rcases Nat.lt_or_ge i xs.length with lt | ge
  · exact .inr ⟨⟨xs, xs[i], q, List.getElem?_eq_getElem lt⟩, Z (i + 1), fun H' p' => ⟨xs.length - (i + 1), by omega, rfl, lt, p'⟩, fun x H' ⟨e, y⟩ => e ▸ zs i x _ (y xs q) p⟩
  · have e : i = xs.length := Nat.le_antisymm hi ge
    subst e
    exact .inl ⟨⟨xs, q, Nat.le_refl _⟩, zd H p⟩
/-- the turns over a list that stays -/
theorem inner_l {K : PySem.W.Frag} {b : Addr} {ys : List V} {H0 : Hp} {g2 : TG} {tk tv : TE} {v2 : List Nat} {σ : L2.St} {D : Addr} {Nx : Hp → Prop} (Y : Nat → Hp → Prop) (y0 : Y 0 H0) (yl : ∀ j H, j ≤ ys.length → Y j H → SqL K H b ys)
    (yt : ∀ j x H, ys[j]? = some x → Y j H → g2 x (wipe σ v2) H fun σ3 H5 => wipe σ3 v2 = wipe σ v2 ∧ tk σ3 H5 fun y H7 => tv σ3 H7 fun z H8 => ∃ kvs q, y = kV q ∧ H8 D = some (.dK kvs) ∧ kvs.length < sizeLine ∧ Y (j + 1) (upd H8 D (.dK (putK kvs q z)))) (yd : ∀ H, Y ys.length H → Nx H) :
    ∃ V : Nat → Nat → Hp → Prop, (∃ m, V 0 m H0) ∧ ∀ j k H, V j k H →
      ((Itl K b).stop j H ∧ Nx H) ∨ ((Itl K b).go j H ∧ ∃ Ny : Hp → Prop, (∀ H', Ny H' → ∃ k', k' < k ∧ V (j + 1) k' H') ∧ ∀ x H', (Itl K b).yld j H x H' → g2 x (wipe σ v2) H' fun σ3 H5 => wipe σ3 v2 = wipe σ v2 ∧
        tk σ3 H5 fun y H7 => tv σ3 H7 fun z H8 => ∃ kvs q, y = kV q ∧ H8 D = some (.dK kvs) ∧ kvs.length < sizeLine ∧ Ny (upd H8 D (.dK (putK kvs q z)))) := by
  refine ⟨fun j m H => m = ys.length - j ∧ j ≤ ys.length ∧ Y j H, ⟨ys.length, (Nat.sub_zero _).symm, Nat.zero_le _, y0⟩, ?_⟩
  rintro j m H ⟨rfl, hj, p⟩
  have q := yl j H hj p
  rcases Nat.lt_or_ge j ys.length with lt | ge
  · exact .inr ⟨⟨ys, ys[j], q, List.getElem?_eq_getElem lt⟩, Y (j + 1), fun H' p' => ⟨ys.length - (j + 1), by omega, rfl, lt, p'⟩, fun x H' ⟨e, y⟩ => e ▸ yt j x _ (y ys q) p⟩
  · have e : j = ys.length := Nat.le_antisymm hj ge
    subst e
    exact .inl ⟨⟨ys, q, Nat.le_refl _⟩, yd H p⟩
section
variable {P : Program} {w : World} {K : PySem.W.Frag} {mg : Str → Option Value} {base : Heap} {C fI fH : Addr}
theorem sidesK_mem {k : Kind} {x : Str} : x ∈ sidesK k ↔ ∃ j, j < k.2 ∧ x = k.1 ++ dg j := by
  unfold sidesK
  rw [List.mem_map]
  constructor
  · rintro ⟨j, hj, e⟩; exact ⟨j, List.mem_range.mp hj, e.symm⟩
  · rintro ⟨j, hj, e⟩; exact ⟨j, List.mem_range.mpr hj, e.symm⟩
theorem KindsAt.keep {H H' : Hp} (s : ∀ b l, H b = some (.tup l) → H' b = some (.tup l)) : ∀ {vs : List V} {ks : List Kind}, KindsAt H vs ks → KindsAt H' vs ks
  | _, _, .nil => .nil
  | _, _, .cons ⟨t, e, h⟩ r => .cons ⟨t, e, s _ _ h⟩ (KindsAt.keep s r)
/-! ### _sides_of, _without -/
abbrev s_sides_of : Stmt := top 64
theorem sc_sides_of : FnScope ["name", "many", "digit"] ["name", "many"] (defScope s_sides_of) := ⟨rfl, rfl, rfl, by decide +kernel, rfl, by decide +kernel, by decide +kernel⟩
def spSo : Sp := fun vs H Q _ => ∃ k : Kind, vs = [.str k.1, .int (k.2 : Int)] ∧ k.1.cps.toList.length ≤ 4 ∧ (k.2 = 2 ∨ k.2 = 3) ∧ ∀ p H', Same H H' → H p = none → H' p = some (.lst ((sidesK k).map .str)) → Q (.ref p) H'
theorem ok_sides_of (G : Bl mg) (DA : DefAt K mg "_sides_of" s_sides_of) : Callee P w K mg base 2 "_sides_of" ["name", "many"] spSo := by
  refine callee DA sc_sides_of (fun vs H Q E h => by obtain ⟨k, rfl, _⟩ := h; rfl) (fun _ _ _ _ _ _ us hl => match us, hl with | [_, _], _ => rfl) fun f cdv A outer s H vs Q E hr h => ?_
  obtain ⟨k, rfl, l4, ltw, q⟩ := h
  refine ⟨_, pss_one (ps_ret (pe_lc (own := [("digit", 2)]) (g := gName 2) rfl sc_sides_of.nd (pi_range2 (by rfl) G.b_range (pa_cons pe_int (pa_cons (pe_op op_add (pv 1) pe_int) pa_nil))) (blkOk_by (N := ["name", "many", "digit"]) (sc := defScope s_sides_of) (by decide +kernel)) (fun _ _ _ _ _ => pg_name (i := 2) sc_sides_of.nd rfl (Or.inl rfl)) (fun _ _ _ _ _ => pts_nil)
    (fun _ _ _ _ _ => pe_joined (PJ.cons (pe_fmt (pv 0)) (PJ.cons (pe_fmt (pv 2)) PJ.nil))))), ?_⟩
  refine ⟨_, rfl, _, _, rfl, rfl, 1, (k.2 : Int) + 1, rfl, ⟨by omega, by omega, by omega, by omega⟩, fun D hD => ?_⟩
  rw [show ((k.2 : Int) + 1 - 1).toNat = k.2 by omega]
  refine lc_range (te := fun σ H Q => tJs [tFmt (tVar 0), tFmt (tVar 2)] Str.empty σ H fun out H1 => Q (.str out) H1) (lo := 1) (n := k.2) (fun j H' => Same H H' ∧ H' D = some (.lst (((List.range j).map fun z => k.1 ++ dg z).map .str))) ⟨same_new hD, upd_same⟩ ?_ ?_
  · rintro j H2 hj ⟨s2, d2⟩
    have l4' : k.1.length ≤ 4 := by rw [len_tl]; exact l4
    have ekey : Str.empty ++ k.1 ++ (toString (1 + (j : Int)) : Str) = k.1 ++ dg j := by rw [empty_app, dg_str j (by omega)]
    have lkey : (Str.empty ++ k.1 ++ (toString (1 + (j : Int)) : Str)).length ≤ sizeLine := by
      rw [ekey]
      show (k.1.cps ++ (dg j).cps).size ≤ _
      rw [Array.size_append]
      show k.1.length + 1 ≤ _
      exact Nat.le_of_lt (small1000 (by omega))
    have lk1 : k.1.length ≤ sizeLine := Nat.le_of_lt (small1000 (by omega))
    have lg : (1 + (j : Int)).natAbs.log2 < 1920 := by
      have z : j = 0 ∨ j = 1 ∨ j = 2 := by omega
      rcases z with rfl | rfl | rfl <;> decide
    refine ⟨rfl, tyes (iteT ?_)⟩
    refine ⟨_, rfl, .inl ⟨k.1, rfl, lk1, k.1, rfl, by rw [empty_app]; exact lk1, _, rfl, .inr ⟨1 + (j : Int), rfl, lg, _, rfl, lkey, _, d2, ?_, Same.put s2 hD, ?_⟩⟩⟩
    · rw [List.length_map, List.length_map, List.length_range]; exact small1000 (by omega)
    · rw [upd_same, ekey, List.range_succ, List.map_append, List.map_append]; rfl
  · rintro H2 ⟨s2, d2⟩
    exact q D H2 s2 hD d2
abbrev s_without : Stmt := top 65
theorem sc_without : FnScope ["sides", "side", "other"] ["sides", "side"] (defScope s_without) := ⟨rfl, rfl, rfl, by decide +kernel, rfl, by decide +kernel, by decide +kernel⟩
def spWout (K : PySem.W.Frag) : Sp := fun vs H Q _ => ∃ (a : Addr) (xs : List Str) (x : Str), vs = [.ref a, .str x] ∧ H a = some (.lst (xs.map .str)) ∧ xs.length ≤ 100 ∧ ∀ p H', Same H H' → H p = none → H' p = some (.tup ((xs.filter fun y => y != x).map .str)) → Q (.ref p) H'
theorem ok_without (G : Bl mg) (DA : DefAt K mg "_without" s_without) : Callee P w K mg base 2 "_without" ["sides", "side"] (spWout K) := by
  refine callee DA sc_without (fun vs H Q E h => by obtain ⟨a, xs, x, rfl, _⟩ := h; rfl) (fun _ _ _ _ _ _ us hl => match us, hl with | [_, _], _ => rfl) fun f cdv A outer s H vs Q E hr h => ?_
  obtain ⟨a, xs, x, rfl, ha, l1, q⟩ := h
  refine ⟨_, pss_one (ps_ret (pe_callTy call_tuple_of (by rfl) G.b_tuple (by decide +kernel) (pa_cons (pe_lc (own := [("other", 2)]) (g := gName 2) rfl sc_without.nd (pi_list (pv 0)) (blkOk_by (N := ["sides", "side", "other"]) (sc := defScope s_without) (by decide +kernel)) (fun _ _ _ _ _ => pg_name (i := 2) sc_without.nd rfl (Or.inl rfl)) (fun _ _ _ _ _ => pts_one (pt_cmpR op_ne (pv 2) (pv 1) (nomark _)))
    (fun _ _ _ _ _ => pv 2)) pa_nil))), ?_⟩
  refine ⟨_, rfl, a, rfl, ⟨_, SqL.of ha⟩, fun D hD => ?_⟩
  refine lc_list (K := K) (a := a) (xs := xs.map .str) (fun i H' => Same H H' ∧ H' D = some (.lst (((xs.take i).filter fun y => y != x).map .str))) ⟨same_new hD, upd_same⟩ (fun i H' _ z => SqL.of (z.1 _ _ ha)) ?_ ?_
  · rintro i v H2 hv ⟨s2, d2⟩
    rw [List.getElem?_map] at hv
    obtain ⟨y, hy, rfl⟩ := Option.map_eq_some_iff.mp hv
    obtain ⟨hi, ey⟩ := List.getElem?_eq_some_iff.mp hy
    have et : (xs.take (i + 1)).filter (fun y => y != x) = ((xs.take i).filter fun y => y != x) ++ if y != x then [y] else [] := by
      rw [List.take_succ_eq_append_getElem hi, ey, List.filter_append]
      congr 1
      rw [List.filter_cons, List.filter_nil]
    refine ⟨rfl, _, rfl, _, rfl, rfl, ?_⟩
    have eb : (!decide (V.str y = V.str x)) = (y != x) := by
      by_cases z : y = x
      · subst z; simp
      · rw [decide_eq_false (fun e => z (V.str.inj e))]; simp [z]
    refine ⟨_, rfl, ?_⟩
    rw [eb]
    cases hb : (y != x) with
    | true =>
      refine iteT ⟨_, rfl, _, d2, ?_, Same.put s2 hD, ?_⟩
      · rw [List.length_map]
        exact small1000 (Nat.le_trans (List.length_filter_le _ _) (by rw [List.length_take]; omega))
      · rw [upd_same, et, hb, if_pos rfl, List.map_append]; rfl
    | false =>
      refine iteF ⟨s2, ?_⟩
      rw [et, hb, if_neg Bool.false_ne_true, List.append_nil]; exact d2
  · rintro H2 ⟨s2, d2⟩
    rw [List.length_map, List.take_length] at d2
    refine ⟨D, _, rfl, .inl ⟨SqL.of d2, fun l hl => ?_⟩⟩
    exact q l _ (s2.trans (same_new hl)) (s2.free hl) upd_same
abbrev s_init : Stmt := inClass (top 63) 0
abbrev s_has : Stmt := inClass (top 63) 3
theorem sc_init : FnScope ["self", "kinds", "name", "many", "side"] ["self", "kinds"] (defScope s_init) := ⟨rfl, rfl, rfl, by decide +kernel, rfl, by decide +kernel, by decide +kernel⟩
def spInit (C : Addr) : Sp := fun vs H Q _ => ∃ (p dx a : Addr) (xs : List V) (ks : List Kind), vs = [.ref p, .ref a] ∧ H p = some (.ins C dx []) ∧ H a = some (.lst xs) ∧ KindsAt H xs ks ∧ GoodKinds ks ∧ ∀ H', PortsAt C H' p ks → (∀ b o, b ≠ p → H b = some o → H' b = some o) → Q .non H'
/-- all but p, and what is new -/
def Off (p : Addr) (H H' : Hp) : Prop := ∀ b o, b ≠ p → H b = some o → H' b = some o
theorem Off.trans {p : Addr} {H H1 H2 : Hp} (a : Off p H H1) (b : Off p H1 H2) : Off p H H2 := fun x o n h => b x o n (a x o n h)
theorem Off.same {p : Addr} {H H' : Hp} (s : Same H H') : Off p H H' := fun b o _ h => s b o h
theorem Off.put {p : Addr} {H : Hp} {o : HO} : Off p H (upd H p o) := fun b u n h => by rw [upd_ne n]; exact h
theorem Off.new {p d : Addr} {H H' : Hp} {o : HO} (k : Off p H H') (hd : H d = none) : Off p H (upd H' d o) := fun b u n h => by rw [upd_ne (ne_of_none h hd)]; exact k b u n h
theorem keys_put (kvs : List (Key × V)) (q : Key) (v : V) : (q ∈ kvs.map (·.1) → (putK kvs q v).map (·.1) = kvs.map (·.1)) ∧ (¬ q ∈ kvs.map (·.1) → (putK kvs q v).map (·.1) = kvs.map (·.1) ++ [q]) := by
  unfold putK
  refine ⟨fun m => ?_, fun m => ?_⟩
  · have h : (kvs.any fun kv => decide (kv.1 = q)) = true := by
      obtain ⟨kv, h1, h2⟩ := List.mem_map.mp m
      exact List.any_eq_true.mpr ⟨kv, h1, decide_eq_true h2⟩
    rw [if_pos h, List.map_map]
    refine List.map_congr_left fun kv _ => ?_
    show (if kv.1 = q then (kv.1, v) else kv).1 = kv.1
    split <;> rfl
  · have h : ¬ (kvs.any fun kv => decide (kv.1 = q)) = true := fun h => by
      obtain ⟨kv, h1, h2⟩ := List.any_eq_true.mp h
      exact m (List.mem_map.mpr ⟨kv, h1, of_decide_eq_true h2⟩)
    rw [if_neg h, List.map_append]; rfl
theorem put_key {kvs : List (Key × V)} {ks : List Str} (h : kvs.map (·.1) = ks.map Sum.inr) (x : Str) (v : V) : ∃ k2 : List Str, (putK kvs (Sum.inr x) v).map (·.1) = k2.map Sum.inr ∧ (∀ y, y ∈ k2 ↔ y ∈ ks ∨ y = x) ∧ k2.length ≤ ks.length + 1 := by
  obtain ⟨e1, e2⟩ := keys_put kvs (Sum.inr x) v
  rw [h] at e1 e2
  by_cases m : (Sum.inr x : Key) ∈ ks.map Sum.inr
  · refine ⟨ks, e1 m, fun y => ⟨.inl, fun z => z.elim id fun z => ?_⟩, Nat.le_succ _⟩
    obtain ⟨u, hu, e⟩ := List.mem_map.mp m
    rw [z, ← Sum.inr.inj e]; exact hu
  · refine ⟨ks ++ [x], by rw [e2 m, List.map_append]; rfl, fun y => by rw [List.mem_append, List.mem_singleton], by rw [List.length_append]; exact Nat.le_refl _⟩
/-- a dict of texts -/
def Tab (kvs : List (Key × V)) (keys : List Str) (F : Str → V → Prop) : Prop := kvs.map (·.1) = keys.map Sum.inr ∧ kvs.length ≤ keys.length ∧ ∀ x ∈ keys, ∃ v, valV kvs (Sum.inr x : Key) = some v ∧ F x v
theorem Tab.nil (F : Str → V → Prop) : Tab [] [] F := ⟨rfl, Nat.le_refl _, fun x h => by cases h⟩
theorem Tab.put {kvs : List (Key × V)} {keys : List Str} {F : Str → V → Prop} (t : Tab kvs keys F) (x : Str) (v : V) (f : F x v) : ∃ k2, Tab (putK kvs (Sum.inr x) v) k2 F ∧ (∀ y, y ∈ k2 ↔ y ∈ keys ∨ y = x) ∧ k2.length ≤ keys.length + 1 := by
  obtain ⟨k2, e, m, l⟩ := put_key t.1 x v
  refine ⟨k2, ⟨e, ?_, fun y hy => ?_⟩, m, l⟩
  · have z := congrArg List.length e
    rw [List.length_map, List.length_map] at z
    omega
  · rw [valV_put]
    by_cases z : y = x
    · subst z; exact ⟨v, by rw [if_pos rfl], f⟩
    · rcases (m y).mp hy with q | q
      · obtain ⟨u, e1, e2⟩ := t.2.2 y q
        exact ⟨u, by rw [if_neg (fun w => z (Sum.inr.inj w))]; exact e1, e2⟩
      · exact absurd q z
theorem Tab.imp {kvs : List (Key × V)} {keys : List Str} {F G : Str → V → Prop} (t : Tab kvs keys F) (h : ∀ x v, F x v → G x v) : Tab kvs keys G := ⟨t.1, t.2.1, fun x hx => let ⟨v, e, f⟩ := t.2.2 x hx; ⟨v, e, h x v f⟩⟩
theorem valV_none {kvs : List (Key × V)} {q : Key} (h : q ∉ kvs.map (·.1)) : valV kvs q = none := by
  unfold valV
  rw [List.find?_eq_none.mpr fun kv hkv e => h (List.mem_map.mpr ⟨kv, hkv, of_decide_eq_true e⟩)]; rfl
theorem Tab.is {kvs : List (Key × V)} {keys : List Str} {F : Str → V → Prop} (t : Tab kvs keys F) (x : Str) : (valV kvs (Sum.inr x : Key)).isSome = true ↔ x ∈ keys := by
  constructor
  · intro h
    by_cases m : x ∈ keys
    · exact m
    · rw [valV_none (fun z => by rw [t.1] at z; obtain ⟨u, hu, e⟩ := List.mem_map.mp z; exact m (Sum.inr.inj e ▸ hu))] at h
      cases h
  · intro h
    obtain ⟨v, e, _⟩ := t.2.2 x h
    rw [e]; rfl
theorem lookup_put {f g : Str} {v : V} {fs : List (Str × V)} : (putF f v fs).lookup g = if g = f then some v else fs.lookup g := lookup_putF f g v fs
theorem ok_init (G : Bl mg) (T : PortsC K mg C fI fH) (F : ∃ fd, FunD K "__init__" "Ports.__init__" (defArgs s_init) (defBody s_init) (defScope s_init) [] [] fI fd) (cAk : Callee P w K mg base 6 "_are_kinds" ["value"] spAks)
    (cSo : Callee P w K mg base 2 "_sides_of" ["name", "many"] spSo) (cWo : Callee P w K mg base 2 "_without" ["sides", "side"] (spWout K)) :
    ∃ fd, Binds K fd ["self", "kinds"] [] ∧ FnOk P w K mg base CX0 8 fI fd ["self", "kinds"] (spInit C) := by
  refine meth_ok F sc_init (fun vs H Q E h => by obtain ⟨p, dx, a, xs, ks, rfl, _⟩ := h; rfl) (fun _ _ _ _ _ _ us hl => match us, hl with | [_, _], _ => rfl) fun cdv A outer s H vs Q E hr h => ?_
  obtain ⟨p, dx, a, xs, ks, rfl, hp, ha, hk, gk, q⟩ := h
  have hu := hu_of hr
  refine ⟨_, (pss_cons (ps_if (pt_not (pt_val (pe_cal cAk hr (by decide) (pa_cons (pv 1) pa_nil)))) (pss_one ps_never) pss_nil)
    (pss_cons (ps_fld (pv 0) (pe_callTy call_tuple_of (by rfl) G.b_tuple (by decide +kernel) (pa_cons (pv 1) pa_nil)) rfl)
    (pss_cons (ps_fld (pv 0) (pe_dc2 (own := [("name", 2), ("many", 3), ("side", 4)]) (v2 := [4]) (wi2 := iList K (tCall spSo [] E0 (tCons (tVar 2) (tCons (tVar 3) tNil)))) (g := gTup K 2 (gCons (gName 2) (gCons (gName 3) gNil))) (g2 := gName 4) rfl sc_init.nd (pi_tup (pe_fld (pv 0) rfl)) (blkOk_by (N := ["self", "kinds", "name", "many", "side"]) (sc := defScope s_init) (by decide +kernel)) (by decide)
        (fun _ _ _ _ _ => pg_tup (by rfl) (pgs_cons (pg_name (i := 2) sc_init.nd rfl (Or.inl rfl)) (pgs_cons (pg_name (i := 3) sc_init.nd rfl (Or.inl rfl)) pgs_nil))) (fun _ _ _ _ _ => pts_nil) (fun _ _ _ _ _ => pi_list (pe_cal cSo hr (by decide) (pa_cons (pv 2) (pa_cons (pv 3) pa_nil))))
        (fun _ _ _ _ _ => pg_name (i := 4) sc_init.nd rfl (Or.inl rfl)) (fun _ _ _ _ _ => pts_nil) (fun _ _ _ _ _ => pv 4) (fun _ _ _ _ _ => pv 2)) rfl)
    (pss_cons (ps_fld (pv 0) (pe_callB (call_sortedD rfl) (by rfl) G.b_sorted (by decide +kernel) (pa_cons (pe_fld (pv 0) rfl) pa_nil)) rfl)
    (pss_cons (ps_fld (pv 0) (pe_dc (own := [("name", 2), ("many", 3)]) (g := gTup K 2 (gCons (gName 2) (gCons (gName 3) gNil))) rfl sc_init.nd (pi_tup (pe_fld (pv 0) rfl)) (blkOk_by (N := ["self", "kinds", "name", "many", "side"]) (sc := defScope s_init) (by decide +kernel))
        (fun _ _ _ _ _ => pg_tup (by rfl) (pgs_cons (pg_name (i := 2) sc_init.nd rfl (Or.inl rfl)) (pgs_cons (pg_name (i := 3) sc_init.nd rfl (Or.inl rfl)) pgs_nil))) (fun _ _ _ _ _ => pts_nil) (fun _ _ _ _ _ => pv 2) (fun _ _ _ _ _ => pe_cal cSo hr (by decide) (pa_cons (pv 2) (pa_cons (pv 3) pa_nil)))) rfl)
    (pss_one (ps_fld (pv 0) (pe_dc (own := [("side", 4)]) (tv := tCall (spWout K) [] E0 (tCons (tDGet (tFld K (tVar 0) "_sides_by_name") (tDGet (tFld K (tVar 0) "_names") (tVar 4))) (tCons (tVar 4) tNil))) (g := gName 4) rfl sc_init.nd (pi_list (pe_fld (pv 0) rfl)) (blkOk_by (N := ["self", "kinds", "name", "many", "side"]) (sc := defScope s_init) (by decide +kernel))
        (fun _ _ _ _ _ => pg_name (i := 4) sc_init.nd rfl (Or.inl rfl)) (fun _ _ _ _ _ => pts_nil) (fun _ _ _ _ _ => pv 4)
        (fun _ _ _ _ _ => pe_cal cWo hr (by decide) (pa_cons (pe_dget hu (pe_fld (pv 0) rfl) (pe_dget hu (pe_fld (pv 0) rfl) (pv 4) (fun _ _ => rfl)) (fun _ _ => rfl)) (pa_cons (pv 4) pa_nil)))) rfl))))))), ?_⟩
  have lx := Paired.length hk
  have hlen := gk.len
  have sl := sides_len fun k h => gk.two k h
  refine ⟨_, rfl, a, xs, ks, rfl, ha, hk, gk, fun H1 s1 => ⟨true, rfl, iteF ?_⟩⟩
  -- self.kinds
  refine ⟨_, rfl, a, _, rfl, .inl ⟨SqL.of (s1 _ _ ha), fun t nt => ?_⟩⟩
  have p1 := s1 _ _ hp
  have ntp : p ≠ t := ne_of_none p1 nt
  have ka : KindsAt (upd H1 t (.tup xs)) xs ks := (hk.same s1).same (same_new nt)
  have et : (upd H1 t (.tup xs)) t = some (.tup xs) := upd_same
  have o1 : Off p H (upd H1 t (.tup xs)) := (Off.same s1).new (s1.free nt)
  have ep : (upd H1 t (.tup xs)) p = some (.ins C dx []) := by rw [upd_ne ntp]; exact p1
  generalize upd H1 t (.tup xs) = H2 at ka et o1 ep
  refine ⟨_, rfl, p, C, dx, [], rfl, ep, T.cl, T.nK, by show 0 < 1000; decide, ?_⟩
  have np : ∀ {G : Hp} {b l}, G p = some (.ins C dx l) → ∀ x, G b = some (.tup x) → b ≠ p := fun e x f => ne_of f e (by intro z; cases z)
  have ka3 : KindsAt (upd H2 p (.ins C dx (putF "kinds" (.ref t) []))) xs ks := ka.keep fun b l e => by rw [upd_ne (np ep l e)]; exact e
  have et3 : (upd H2 p (.ins C dx (putF "kinds" (.ref t) []))) t = some (.tup xs) := by rw [upd_ne (Ne.symm ntp)]; exact et
  have o3 := o1.trans (Off.put (p := p) (H := H2) (o := .ins C dx (putF "kinds" (.ref t) [])))
  have ep3 : (upd H2 p (.ins C dx (putF "kinds" (.ref t) []))) p = some (.ins C dx (putF "kinds" (.ref t) [])) := upd_same
  generalize upd H2 p (.ins C dx (putF "kinds" (.ref t) [])) = H3 at ka3 et3 o3 ep3
  -- self._names
  refine ⟨_, rfl, p, C, dx, _, _, rfl, ep3, T.cl, T.nK, by rw [lookup_put, if_pos rfl], t, rfl, ⟨_, SqT.of et3⟩, fun D nD => ?_⟩
  have nDp : p ≠ D := ne_of_none ep3 nD
  refine dc2_tl (K := K) (a := t) (xs := xs) (fun i H' => ∃ kvs keys, Same H3 H' ∧ H' D = some (.dK kvs) ∧ Tab kvs keys (fun x v => ∃ k ∈ ks, v = .str k.1) ∧ (∀ x, x ∈ keys ↔ x ∈ sidesOf (ks.take i)) ∧ keys.length ≤ 3 * i)
    ⟨[], [], same_new nD, upd_same, Tab.nil _, fun x => by simp [sidesOf], Nat.zero_le _⟩ ?_ ?_ ?_
  · rintro i H' _ ⟨kvs, keys, s, _⟩
    exact SqT.of (s _ _ et3)
  · rintro i x H4 hx ⟨kvs, keys, s4, d4, t4, m4, l4⟩
    obtain ⟨k, ek, tt, rfl, ht⟩ := paired_get ka3 hx
    have mk : k ∈ ks := List.mem_of_getElem? ek
    have g4 : ∀ {b o}, H3 b = some o → H4 b = some o := fun {b o} e => s4 _ _ e
    refine ⟨tt, _, rfl, SqT.of (g4 ht), rfl, _, _, rfl, _, _, rfl, rfl, rfl, _, rfl, _, rfl, k, rfl, (gk.ltr k mk).2.2, gk.two k mk, fun b H5 s5 nb hb => ⟨b, rfl, ⟨_, SqL.of hb⟩, ?_⟩⟩
    have nbD : b ≠ D := fun z => by rw [z] at nb; rw [nb] at d4; cases d4
    refine inner_l (K := K) (ys := (sidesK k).map .str) (fun j H' => ∃ kvs keys, Same H3 H' ∧ H' b = some (.lst ((sidesK k).map .str)) ∧ H' D = some (.dK kvs) ∧ Tab kvs keys (fun x v => ∃ k ∈ ks, v = .str k.1) ∧ (∀ x, x ∈ keys ↔ x ∈ sidesOf (ks.take i) ∨ x ∈ (sidesK k).take j) ∧ keys.length ≤ 3 * i + j)
      ⟨kvs, keys, fun c o e => s5 _ _ (g4 e), hb, s5 _ _ d4, t4, fun x => by rw [m4 x]; simp, by omega⟩ (fun j H' _ ⟨_, _, _, z, _⟩ => SqL.of z) ?_ ?_
    · rintro j v H6 hv ⟨kv6, keys6, s6, b6, d6, t6, m6, l6⟩
      rw [List.getElem?_map] at hv
      obtain ⟨y, hy, rfl⟩ := Option.map_eq_some_iff.mp hv
      obtain ⟨hj, ey⟩ := List.getElem?_eq_some_iff.mp hy
      obtain ⟨k2, t7, m7, l7⟩ := t6.put y (.str k.1) ⟨k, mk, rfl⟩
      have lk : (sidesK k).length = k.2 := by unfold sidesK; rw [List.length_map, List.length_range]
      have hi : i < ks.length := (List.getElem?_eq_some_iff.mp ek).1
      have k3 := gk.two k mk
      refine ⟨rfl, _, rfl, _, rfl, kv6, Sum.inr y, rfl, d6, ?_, putK kv6 (Sum.inr y) (.str k.1), k2, fun c o e => ?_, by rw [upd_ne nbD]; exact b6, upd_same, t7, fun x => ?_, by omega⟩
      · have := t6.2.1; exact small1000 (by omega)
      · rw [upd_ne (ne_of_none e nD)]; exact s6 _ _ e
      · rw [m7 x, m6 x, List.take_succ_eq_append_getElem hj, ey, List.mem_append, List.mem_singleton, or_assoc]
    · rintro H6 ⟨kv6, keys6, s6, b6, d6, t6, m6, l6⟩
      have lk : (sidesK k).length = k.2 := by unfold sidesK; rw [List.length_map, List.length_range]
      have k3 := gk.two k mk
      refine ⟨kv6, keys6, s6, d6, t6, fun x => ?_, ?_⟩
      · rw [m6 x, sidesOf_take ek, List.mem_append, List.length_map, List.take_length]
      · rw [List.length_map, lk] at l6; omega
  rintro H4 ⟨kvs, keys, s4, d4, t4, m4, l4⟩
  rw [show ks.take xs.length = ks by rw [lx]; exact List.take_length] at m4
  have ep4 := s4 _ _ ep3
  refine ⟨_, rfl, p, C, dx, _, rfl, ep4, T.cl, T.nN, by show 1 < 1000; decide, ?_⟩
  have o5 := (o3.trans (Off.same s4)).trans (Off.put (p := p) (H := H4) (o := .ins C dx (putF "_names" (.ref D) (putF "kinds" (.ref t) []))))
  have ep5 : (upd H4 p (.ins C dx (putF "_names" (.ref D) (putF "kinds" (.ref t) [])))) p = some (.ins C dx (putF "_names" (.ref D) (putF "kinds" (.ref t) []))) := upd_same
  have d5 : (upd H4 p (.ins C dx (putF "_names" (.ref D) (putF "kinds" (.ref t) [])))) D = some (.dK kvs) := by rw [upd_ne (Ne.symm nDp)]; exact d4
  have et5 : (upd H4 p (.ins C dx (putF "_names" (.ref D) (putF "kinds" (.ref t) [])))) t = some (.tup xs) := by rw [upd_ne (Ne.symm ntp)]; exact s4 _ _ et3
  have ka5 : KindsAt (upd H4 p (.ins C dx (putF "_names" (.ref D) (putF "kinds" (.ref t) [])))) xs ks := (ka3.same s4).keep fun b l e => by rw [upd_ne (np ep4 l e)]; exact e
  generalize upd H4 p (.ins C dx (putF "_names" (.ref D) (putF "kinds" (.ref t) []))) = H5 at o5 ep5 d5 et5 ka5
  -- self._sides
  refine ⟨_, rfl, p, C, dx, _, _, rfl, ep5, T.cl, T.nN, by rw [lookup_put, if_pos rfl], D, kvs, keys, rfl, .inl d5, t4.1, by omega, fun ys l perm _ nl => ?_⟩
  have nlp : p ≠ l := ne_of_none ep5 nl
  have s6 : Same H5 (upd H5 l (.lst (ys.map V.str))) := same_new nl
  have ep6 := s6 _ _ ep5
  refine ⟨_, rfl, p, C, dx, _, rfl, ep6, T.cl, T.nS, by show 2 < 1000; decide, ?_⟩
  have el6 : (upd H5 l (.lst (ys.map V.str))) l = some (.lst (ys.map V.str)) := upd_same
  have o6 := o5.trans (Off.same s6)
  have d6 := s6 _ _ d5
  have et6 := s6 _ _ et5
  have ka6 := ka5.same s6
  generalize upd H5 l (.lst (ys.map V.str)) = H6 at ep6 el6 o6 d6 et6 ka6
  have o7 := o6.trans (Off.put (p := p) (H := H6) (o := .ins C dx (putF "_sides" (.ref l) (putF "_names" (.ref D) (putF "kinds" (.ref t) [])))))
  have ep7 : (upd H6 p (.ins C dx (putF "_sides" (.ref l) (putF "_names" (.ref D) (putF "kinds" (.ref t) []))))) p = some (.ins C dx (putF "_sides" (.ref l) (putF "_names" (.ref D) (putF "kinds" (.ref t) [])))) := upd_same
  have d7 : (upd H6 p (.ins C dx (putF "_sides" (.ref l) (putF "_names" (.ref D) (putF "kinds" (.ref t) []))))) D = some (.dK kvs) := by rw [upd_ne (Ne.symm nDp)]; exact d6
  have et7 : (upd H6 p (.ins C dx (putF "_sides" (.ref l) (putF "_names" (.ref D) (putF "kinds" (.ref t) []))))) t = some (.tup xs) := by rw [upd_ne (Ne.symm ntp)]; exact et6
  have el7 : (upd H6 p (.ins C dx (putF "_sides" (.ref l) (putF "_names" (.ref D) (putF "kinds" (.ref t) []))))) l = some (.lst (ys.map V.str)) := by rw [upd_ne (Ne.symm nlp)]; exact el6
  have ka7 : KindsAt (upd H6 p (.ins C dx (putF "_sides" (.ref l) (putF "_names" (.ref D) (putF "kinds" (.ref t) []))))) xs ks := ka6.keep fun b l e => by rw [upd_ne (np ep6 l e)]; exact e
  generalize upd H6 p (.ins C dx (putF "_sides" (.ref l) (putF "_names" (.ref D) (putF "kinds" (.ref t) [])))) = H7 at o7 ep7 d7 et7 el7 ka7
  have k01 : ¬ (("kinds" : Str) = "_names") := by decide +kernel
  have k02 : ¬ (("kinds" : Str) = "_sides") := by decide +kernel
  -- self._sides_by_name
  refine ⟨_, rfl, p, C, dx, _, _, rfl, ep7, T.cl, T.nK, by rw [lookup_put, if_neg k02, lookup_put, if_neg k01, lookup_put, if_pos rfl], t, rfl, ⟨_, SqT.of et7⟩, fun B nB => ?_⟩
  have nBp : p ≠ B := ne_of_none ep7 nB
  refine dc_tup (K := K) (a := t) (xs := xs) (fun i H' => ∃ kv2 keys2, (∀ b o, H7 b = some o → H' b = some o) ∧ H' B = some (.dK kv2) ∧ Tab kv2 keys2 (fun x v => ∃ b, ∃ k ∈ ks, v = .ref b ∧ H' b = some (.lst ((sidesK k).map .str))) ∧ (∀ x, x ∈ keys2 ↔ x ∈ (ks.take i).map (·.1)) ∧ keys2.length ≤ i)
    ⟨[], [], fun b o e => by rw [upd_ne (ne_of_none e nB)]; exact e, upd_same, Tab.nil _, fun x => by simp, Nat.zero_le _⟩ (fun i H' _ ⟨_, _, s, _⟩ => SqT.of (s _ _ et7)) ?_ ?_
  · rintro i x H8 hx ⟨kv2, keys2, s8, d8, t8, m8, l8⟩
    obtain ⟨k, ek, tt, rfl, ht⟩ := paired_get ka7 hx
    have mk : k ∈ ks := List.mem_of_getElem? ek
    obtain ⟨hi, ee⟩ := List.getElem?_eq_some_iff.mp ek
    refine ⟨tt, _, rfl, SqT.of (s8 _ _ ht), rfl, _, _, rfl, _, _, rfl, rfl, rfl, tyes (iteT ?_)⟩
    refine ⟨_, rfl, _, rfl, _, rfl, k, rfl, (gk.ltr k mk).2.2, gk.two k mk, fun b H9 s9 nb hb => ?_⟩
    have nbB : b ≠ B := fun z => by rw [z] at nb; rw [nb] at d8; cases d8
    have st : ∀ {c xs}, H8 c = some (.lst xs) → upd H9 B (.dK (putK kv2 (Sum.inr k.1) (.ref b))) c = some (.lst xs) := fun {c xs} e => by
      rw [upd_ne (ne_of e d8 (by intro z; cases z))]; exact s9 _ _ e
    obtain ⟨k2, t9, m9, l9⟩ := (t8.imp (G := fun x v => ∃ b2, ∃ k ∈ ks, v = .ref b2 ∧ upd H9 B (.dK (putK kv2 (Sum.inr k.1) (.ref b))) b2 = some (.lst ((sidesK k).map .str))) fun x v ⟨c, k', mk', e1, e2⟩ => ⟨c, k', mk', e1, by
      rw [upd_ne (ne_of e2 d8 (by intro z; cases z))]; exact s9 _ _ e2⟩).put k.1 (.ref b) ⟨b, k, mk, rfl, by rw [upd_ne nbB]; exact hb⟩
    refine ⟨kv2, Sum.inr k.1, rfl, s9 _ _ d8, ?_, putK kv2 (Sum.inr k.1) (.ref b), k2, fun c o e => ?_, upd_same, ?_, fun x => ?_, by omega⟩
    · have := t8.2.1; exact small1000 (by omega)
    · have n : c ≠ B := ne_of_none e nB
      rw [upd_ne n]; exact s9 _ _ (s8 _ _ e)
    · refine ⟨t9.1, t9.2.1, fun x hx => ?_⟩
      obtain ⟨v, e1, c, k', mk', e2, e3⟩ := t9.2.2 x hx
      refine ⟨v, e1, c, k', mk', e2, ?_⟩
      by_cases z : c = B
      · subst z; rw [upd_same] at e3; cases e3
      · rw [upd_ne z] at e3 ⊢; exact e3
    · rw [m9 x, m8 x, List.take_succ_eq_append_getElem hi, ee, List.map_append, List.mem_append, List.map_cons, List.map_nil, List.mem_singleton]
  rintro H8 ⟨kv2, keys2, s8, d8, t8, m8, l8⟩
  rw [show ks.take xs.length = ks by rw [lx]; exact List.take_length] at m8
  have ep8 := s8 _ _ ep7
  refine ⟨_, rfl, p, C, dx, _, rfl, ep8, T.cl, T.nB, by show 3 < 1000; decide, ?_⟩
  have pd : ∀ {c o}, H8 c = some o → (∀ l, o ≠ .ins C dx l) → upd H8 p (.ins C dx (putF "_sides_by_name" (.ref B) (putF "_sides" (.ref l) (putF "_names" (.ref D) (putF "kinds" (.ref t) []))))) c = some o := fun {c o} e n => by
    rw [upd_ne (ne_of e ep8 (n _))]; exact e
  have o9 := (o7.trans (Off.same (H' := H8) fun b o e => s8 b o e)).trans (Off.put (p := p) (H := H8) (o := .ins C dx (putF "_sides_by_name" (.ref B) (putF "_sides" (.ref l) (putF "_names" (.ref D) (putF "kinds" (.ref t) []))))))
  have ep9 : (upd H8 p (.ins C dx (putF "_sides_by_name" (.ref B) (putF "_sides" (.ref l) (putF "_names" (.ref D) (putF "kinds" (.ref t) [])))))) p = some (.ins C dx (putF "_sides_by_name" (.ref B) (putF "_sides" (.ref l) (putF "_names" (.ref D) (putF "kinds" (.ref t) []))))) := upd_same
  have d9 := pd (s8 _ _ d7) (by intro l z; cases z)
  have el9 := pd (s8 _ _ el7) (by intro l z; cases z)
  have b9 := pd d8 (by intro l z; cases z)
  have et9 := pd (s8 _ _ et7) (by intro l z; cases z)
  have ka9 := (ka7.same (fun b o e => s8 b o e)).keep fun b l e => pd e (by intro l z; cases z)
  have t9 : Tab kv2 keys2 (fun x v => ∃ b, ∃ k ∈ ks, v = .ref b ∧ upd H8 p (.ins C dx (putF "_sides_by_name" (.ref B) (putF "_sides" (.ref l) (putF "_names" (.ref D) (putF "kinds" (.ref t) []))))) b = some (.lst ((sidesK k).map .str))) :=
    t8.imp fun x v ⟨b, k, mk, e1, e2⟩ => ⟨b, k, mk, e1, pd e2 (by intro l z; cases z)⟩
  generalize upd H8 p (.ins C dx (putF "_sides_by_name" (.ref B) (putF "_sides" (.ref l) (putF "_names" (.ref D) (putF "kinds" (.ref t) []))))) = H9 at o9 ep9 d9 el9 b9 t9 et9 ka9
  have k12 : ¬ (("_names" : Str) = "_sides") := by decide +kernel
  have k13 : ¬ (("_names" : Str) = "_sides_by_name") := by decide +kernel
  have k23 : ¬ (("_sides" : Str) = "_sides_by_name") := by decide +kernel
  -- self._others
  refine ⟨_, rfl, p, C, dx, _, _, rfl, ep9, T.cl, T.nS, by rw [lookup_put, if_neg k23, lookup_put, if_pos rfl], l, rfl, ⟨_, SqL.of el9⟩, fun O nO => ?_⟩
  refine dc_lst (K := K) (a := l) (xs := ys.map V.str) (fun i H' => ∃ kv3 : List (Key × V), (∀ b o, H9 b = some o → H' b = some o) ∧ H' O = some (.dK kv3) ∧ kv3.length ≤ i)
    ⟨[], fun b o e => by rw [upd_ne (ne_of_none e nO)]; exact e, upd_same, Nat.le_refl _⟩ (fun i H' _ ⟨_, s, _⟩ => SqL.of (s _ _ el9)) ?_ ?_
  · rintro i v HA hv ⟨kv3, sA, dA, lA⟩
    rw [List.getElem?_map] at hv
    obtain ⟨y, hy, rfl⟩ := Option.map_eq_some_iff.mp hv
    have my : y ∈ keys := perm.mem_iff.mp (List.mem_of_getElem? hy)
    have hi : i < ys.length := (List.getElem?_eq_some_iff.mp hy).1
    have lp := perm.length_eq
    obtain ⟨u, eu, k, mk, rfl⟩ := t4.2.2 y my
    obtain ⟨u2, eu2, b, k', mk', rfl, hb⟩ := t9.2.2 k.1 ((m8 _).mpr (List.mem_map.mpr ⟨k, mk, rfl⟩))
    have gf : ∀ {f : Str} {v : V}, (putF "_sides_by_name" (.ref B) (putF "_sides" (.ref l) (putF "_names" (.ref D) (putF "kinds" (.ref t) [])))).lookup f = some v → ∃ dx fs, HA p = some (.ins C dx fs) ∧ fs.lookup f = some v := fun e => ⟨_, _, sA _ _ ep9, e⟩
    refine ⟨rfl, tyes (iteT ?_)⟩
    refine ⟨_, rfl, _, rfl, p, C, dx, _, _, rfl, sA _ _ ep9, T.cl, T.nB, by rw [lookup_put, if_pos rfl], _, rfl, p, C, dx, _, _, rfl, sA _ _ ep9, T.cl, T.nN, by rw [lookup_put, if_neg k13, lookup_put, if_neg k12, lookup_put, if_pos rfl], _, rfl, D, _, rfl, by rw [← eu]; exact DGet.k (k := Sum.inr y) (sA _ _ d9), B, _, rfl, by rw [← eu2]; exact DGet.k (k := Sum.inr k.1) (sA _ _ b9), _, rfl, b, sidesK k', y, rfl, sA _ _ hb, ?_, fun z HB sB nz hz => ?_⟩
    · have := gk.two k' mk'
      unfold sidesK; rw [List.length_map, List.length_range]; omega
    · refine ⟨kv3, Sum.inr y, rfl, sB _ _ dA, small1000 (by omega), putK kv3 (Sum.inr y) (.ref z), fun c o e => ?_, upd_same, ?_⟩
      · rw [upd_ne (ne_of_none e nO)]; exact sB _ _ (sA _ _ e)
      · have := length_putK kv3 (Sum.inr y : Key) (.ref z); omega
  rintro HA ⟨kv3, sA, dA, lA⟩
  have epA := sA _ _ ep9
  refine ⟨_, rfl, p, C, dx, _, rfl, epA, T.cl, T.nO, by show 4 < 1000; decide, ?_⟩
  have k14 : ¬ (("_names" : Str) = "_others") := by decide +kernel
  have h0 : ¬ (("has" : Str) = "_others") := by decide +kernel
  have h1 : ¬ (("has" : Str) = "_sides_by_name") := by decide +kernel
  have h2 : ¬ (("has" : Str) = "_sides") := by decide +kernel
  have h3 : ¬ (("has" : Str) = "_names") := by decide +kernel
  have h4 : ¬ (("has" : Str) = "kinds") := by decide +kernel
  have q1 : ¬ (("kinds" : Str) = "_others") := by decide +kernel
  have q2 : ¬ (("kinds" : Str) = "_sides_by_name") := by decide +kernel
  have q3 : ¬ (("kinds" : Str) = "_sides") := by decide +kernel
  have q4 : ¬ (("kinds" : Str) = "_names") := by decide +kernel
  refine q _ ⟨dx, _, D, kvs, upd_same, by rw [lookup_put, if_neg k14, lookup_put, if_neg k13, lookup_put, if_neg k12, lookup_put, if_pos rfl], by rw [lookup_put, if_neg h0, lookup_put, if_neg h1, lookup_put, if_neg h2, lookup_put, if_neg h3, lookup_put, if_neg h4]; rfl, ?_, fun x => (t4.is x).trans (m4 x), t, xs, by rw [lookup_put, if_neg q1, lookup_put, if_neg q2, lookup_put, if_neg q3, lookup_put, if_neg q4, lookup_put, if_pos rfl], by rw [upd_ne (Ne.symm ntp)]; exact sA _ _ et9, (ka9.same (fun b o e => sA b o e)).keep fun b l e => by rw [upd_ne (np epA l e)]; exact e⟩ ((o9.trans (Off.same fun b o e => sA b o e)).trans Off.put)
  rw [upd_ne (Ne.symm nDp)]
  exact sA _ _ d9
end
end NH
set_option maxHeartbeats 4000000
/-! any datum against a text: ==, !=, in -/
namespace NEq
open PySem PySem.Spec PyProof.Rows PySem.SeqAt
section
variable {A : Around} {s : Shared}
abbrev dO (es : Array DictEntry) (n : Nat) : Obj := { cls := .type "dict", dict := none, data := .dict es n, slots := #[] }
theorem str_dict_eq (b : Str) (u : Tok) (l : Addr) (es : Array DictEntry) (n : Nat) : Meets (Builtin.«str.__eq__» ⟨[.str b u, .ref l], []⟩) (fun _ R s => s.heap.get? l = some (dO es n) ∧ R (.ok (.ret .notImplemented)) s) :=
  .of_wp fun prog w A R s h => by obtain ⟨hp, g, d, tk, os⟩ := s; obtain ⟨at_, h⟩ := h; wp_walk using wpAny_loadPart' at_, wpAny_load at_; exact ⟨_, rfl, h⟩
theorem dict_str_eq (b : Str) (u : Tok) (l : Addr) (es : Array DictEntry) (n : Nat) : Meets (Builtin.«dict.__eq__» ⟨[.ref l, .str b u], []⟩) (fun _ R s => s.heap.get? l = some (dO es n) ∧ R (.ok (.ret .notImplemented)) s) :=
  .of_wp fun prog w A R s h => by obtain ⟨hp, g, d, tk, os⟩ := s; obtain ⟨at_, h⟩ := h; have f1 := PySem.F.sub_str_dict; wp_walk using wpAny_loadPart' at_, wpAny_load at_; exact ⟨_, rfl, h⟩
theorem str_dict_ne (b : Str) (u : Tok) (l : Addr) (es : Array DictEntry) (n : Nat) : Meets (Builtin.«str.__ne__» ⟨[.str b u, .ref l], []⟩) (fun _ R s => s.heap.get? l = some (dO es n) ∧ R (.ok (.ret .notImplemented)) s) :=
  .of_wp fun prog w A R s h => by obtain ⟨hp, g, d, tk, os⟩ := s; obtain ⟨at_, h⟩ := h; wp_walk using wpAny_loadPart' at_, wpAny_load at_; exact ⟨_, rfl, h⟩
theorem dict_str_ne (b : Str) (u : Tok) (l : Addr) (es : Array DictEntry) (n : Nat) : Meets (Builtin.«dict.__ne__» ⟨[.ref l, .str b u], []⟩) (fun _ R s => s.heap.get? l = some (dO es n) ∧ R (.ok (.ret .notImplemented)) s) :=
  .of_wp fun prog w A R s h => by obtain ⟨hp, g, d, tk, os⟩ := s; obtain ⟨at_, h⟩ := h; have f1 := PySem.F.sub_str_dict; wp_walk using wpAny_loadPart' at_, wpAny_load at_; exact ⟨_, rfl, h⟩
theorem rc_dict_str {l : Addr} {es : Array DictEntry} {n : Nat} (b : Str) (u : Tok) (ho : s.heap.get? l = some (dO es n)) (hu : A.units < cLine) : RcAt A s (.ref l) (.str b u) false := fun prog w E Q h =>
  rc_eq_decline_or (k := false) ⟨_, ho, rfl⟩ (typeIs_str s b u) (by decide) PySem.F.sub_str_dict PySem.F.slot_dict_eq PySem.F.slot_str_eq_refl (fun _ hq => call_meets PySem.F.slot_dict_eq ⟨_, ho, rfl⟩ PySem.F.entry_dict_eq (PySem.F.args_dict_eq_2 _ _) (dict_str_eq b u l es n) ⟨ho, hq⟩)
    (fun _ hq => call_meets PySem.F.slot_str_eq_refl (typeIs_str s b u) PySem.F.entry_str_eq (PySem.F.args_str_eq_2 _ _) (str_dict_eq b u l es n) ⟨ho, hq⟩) (fun _ hq => wpAny_of_eq (rfl : isSame (.ref l) (.str b u) = pure false) hq) (.inr hu) h
theorem rc_str_dict {l : Addr} {es : Array DictEntry} {n : Nat} (b : Str) (u : Tok) (ho : s.heap.get? l = some (dO es n)) (hu : A.units < cLine) : RcAt A s (.str b u) (.ref l) false := fun prog w E Q h =>
  rc_eq_decline_or (k := false) (typeIs_str s b u) ⟨_, ho, rfl⟩ (by decide) PySem.F.sub_dict_str PySem.F.slot_str_eq PySem.F.slot_dict_eq_refl (fun _ hq => call_meets PySem.F.slot_str_eq (typeIs_str s b u) PySem.F.entry_str_eq (PySem.F.args_str_eq_2 _ _) (str_dict_eq b u l es n) ⟨ho, hq⟩)
    (fun _ hq => call_meets PySem.F.slot_dict_eq_refl ⟨_, ho, rfl⟩ PySem.F.entry_dict_eq (PySem.F.args_dict_eq_2 _ _) (dict_str_eq b u l es n) ⟨ho, hq⟩) (fun _ hq => wpAny_of_eq (rfl : isSame (.str b u) (.ref l) = pure false) hq) (.inr hu) h
theorem eq_str_dict {l : Addr} {es : Array DictEntry} {n : Nat} (b : Str) (u : Tok) (ho : s.heap.get? l = some (dO es n)) (hu : A.units < cLine) : EqAt A s (.str b u) (.ref l) false := fun prog w E Q h => by
  unfold eqBool
  exact wpAny_holding (wpAny_ite_split (fun z => absurd (eq_of_beq z) nofun) fun _ => wpAny_bind (rc_str_dict b u ho hu prog w E _ (wpAny_truthy_bool h)))
theorem ne_dict_str {l : Addr} {es : Array DictEntry} {n : Nat} (b : Str) (u : Tok) (ho : s.heap.get? l = some (dO es n)) (hu : A.units < cLine) : RcNeAt A s (.ref l) (.str b u) true := fun prog w E Q h =>
  rc_ne_decline_or (k := false) ⟨_, ho, rfl⟩ (typeIs_str s b u) (by decide) PySem.F.sub_str_dict PySem.F.slot_dict_ne PySem.F.slot_str_ne_refl (fun _ hq => call_meets PySem.F.slot_dict_ne ⟨_, ho, rfl⟩ PySem.F.entry_dict_ne (PySem.F.args_dict_ne_2 _ _) (dict_str_ne b u l es n) ⟨ho, hq⟩)
    (fun _ hq => call_meets PySem.F.slot_str_ne_refl (typeIs_str s b u) PySem.F.entry_str_ne (PySem.F.args_str_ne_2 _ _) (str_dict_ne b u l es n) ⟨ho, hq⟩) (fun _ hq => wpAny_of_eq (rfl : isSame (.ref l) (.str b u) = pure false) hq) (.inr hu) h
end
end NEq
namespace NH
open PySem PySem.Spec PyProof.Rows L2 TL
/-- is it this text -/
def D.isS (z : Str) : D → Bool
  | .str x => x == z
  | _ => false
/-- is it one of these texts -/
def D.inS (zs : List Str) (d : D) : Bool := zs.any fun z => d.isS z
section
variable {X : Cx} {pins : List (Addr × Obj)} {σ : L2.St} {H : Hp} {s : Shared} {v : V} {d : D} {u : Value} {A : Around}
theorem dict_obj (I : Inv X pins σ H s) {a : Addr} (e : H a = some (.dK [])) : ∃ es n, s.heap.get? a = some (NEq.dO es n) := by
  obtain ⟨_, _, vs, _, o, es, ep, h1, h2, h3, _⟩ := (show ObjOk X.prog X.w H s.heap a (.dK []) from I.hok a _ e)
  obtain ⟨oc, od, dt, sl⟩ := o
  obtain ⟨c1, c2, c3⟩ := h2
  dsimp only at c1 c2 c3 h3
  subst c1 c2 c3 h3
  exact ⟨es, ep, h1⟩
/-- u == 'z' -/
theorem rc_text (I : Inv X pins σ H s) (hu : A.units < cLine) (z : Str) (t : Tok) (hd : Dd H v d) (rv : RelV v u) : SeqAt.RcAt A s u (.str z t) (d.isS z) := by
  cases hd with
  | non => cases rv; exact SeqAt.RcAt.none_str z t
  | bl b => cases rv; exact SeqAt.RcAt.bool_str b z t
  | int i => obtain ⟨k, rfl⟩ := rv; exact SeqAt.RcAt.int_str i k z t
  | str x => obtain ⟨k, rfl⟩ := rv; exact SeqAt.RcAt.str_str x k z t
  | lst e _ => cases rv; obtain ⟨its, r, pl, _⟩ := I.list (SqL.of e); exact SeqAt.RcAt.list_str z t pl.isList hu
  | tup e _ => cases rv; obtain ⟨its, r, pl, _⟩ := I.tuple (SqT.of e); exact SeqAt.RcAt.tuple_str z t pl hu
  | dic e => cases rv; obtain ⟨es, n, ho⟩ := dict_obj I e; exact NEq.rc_dict_str z t ho hu
theorem ne_text (I : Inv X pins σ H s) (hu : A.units < cLine) (z : Str) (t : Tok) (hd : Dd H v d) (rv : RelV v u) : SeqAt.RcNeAt A s u (.str z t) (!d.isS z) := by
  cases hd with
  | non => cases rv; exact SeqAt.RcNeAt.none_str z t
  | bl b => cases rv; exact SeqAt.RcNeAt.bool_str b z t
  | int i => obtain ⟨k, rfl⟩ := rv; exact SeqAt.RcNeAt.int_str i k z t
  | str x => obtain ⟨k, rfl⟩ := rv; exact SeqAt.RcNeAt.str_str x k z t
  | lst e _ => cases rv; obtain ⟨its, r, pl, _⟩ := I.list (SqL.of e); exact SeqAt.RcNeAt.list_str z t pl.isList hu
  | tup e _ => cases rv; obtain ⟨its, r, pl, _⟩ := I.tuple (SqT.of e); exact SeqAt.RcNeAt.tuple_str z t pl hu
  | dic e => cases rv; obtain ⟨es, n, ho⟩ := dict_obj I e; exact NEq.ne_dict_str z t ho hu
/-- 'z' == u -/
theorem eq_text (I : Inv X pins σ H s) (hu : A.units < cLine) (z : Str) (t : Tok) (hd : Dd H v d) (rv : RelV v u) : SeqAt.EqAt A s (.str z t) u (d.isS z) := by
  cases hd with
  | non => cases rv; exact SeqAt.EqAt.str_none z t
  | bl b => cases rv; exact SeqAt.EqAt.str_bool z t b
  | int i => obtain ⟨k, rfl⟩ := rv; exact SeqAt.EqAt.str_int z t i k
  | str x => obtain ⟨k, rfl⟩ := rv; rw [show (D.str x).isS z = (z == x) from by show (x == z) = _; exact Bool.beq_comm ..]; exact SeqAt.EqAt.str_str z t x k
  | lst e _ => cases rv; obtain ⟨its, r, pl, _⟩ := I.list (SqL.of e); exact SeqAt.EqAt.str_list z t pl.isList hu
  | tup e _ => cases rv; obtain ⟨its, r, pl, _⟩ := I.tuple (SqT.of e); exact SeqAt.EqAt.str_tuple z t pl hu
  | dic e => cases rv; obtain ⟨es, n, ho⟩ := dict_obj I e; exact NEq.eq_str_dict z t ho hu
theorem op_eqT (hu : X.A.units < cLine) : OpR X (compareOp .Eq) (fun x y H Q => ∃ d z, y = .str z ∧ Dd H x d ∧ Q (.bl (d.isS z)) H) := by
  intro pins s σ H x y v u Q I rx ry h
  obtain ⟨d, z, rfl, hd, q⟩ := h
  obtain ⟨t, rfl⟩ := ry
  exact rc_text I hu z t hd rx X.prog X.w X.xe _ ⟨.bl _, H, I, rfl, q⟩
theorem op_neT (hu : X.A.units < cLine) : OpR X (compareOp .NotEq) (fun x y H Q => ∃ d z, y = .str z ∧ Dd H x d ∧ Q (.bl (!d.isS z)) H) := by
  intro pins s σ H x y v u Q I rx ry h
  obtain ⟨d, z, rfl, hd, q⟩ := h
  obtain ⟨t, rfl⟩ := ry
  exact ne_text I hu z t hd rx X.prog X.w X.xe _ ⟨.bl _, H, I, rfl, q⟩
def ansT (d : D) : Value → Bool
  | .str z _ => d.isS z
  | _ => false
theorem any_ansT : ∀ {zs : List Str} {us : List Value}, Vals (zs.map V.str) us → us.any (ansT d) = d.inS zs
  | [], _, .nil => rfl
  | z :: zs, _, .cons r t => by
    obtain ⟨k, rfl⟩ := r
    show (d.isS z || _) = (d.isS z || _)
    rw [any_ansT t]; rfl
theorem mem_ansT (I : Inv X pins σ H s) (hu : A.units < cLine) (hd : Dd H v d) (rv : RelV v u) : ∀ {zs : List Str} {us : List Value}, Vals (zs.map V.str) us → ∀ y ∈ us, SeqAt.EqAt A s y u (ansT d y)
  | [], _, .nil => fun y hy => by cases hy
  | z :: zs, _, .cons r t => fun y hy => by
    obtain ⟨k, rfl⟩ := r
    rcases List.mem_cons.mp hy with rfl | hy
    · exact eq_text I hu z k hd rv
    · exact mem_ansT I hu hd rv t y hy
theorem op_inT (hu : X.A.units + 1 < cLine) : OpR X (compareOp .In) (fun x y H Q => ∃ d p zs, y = .ref p ∧ (SqL X.K H p (zs.map V.str) ∨ SqT X.K H p (zs.map V.str)) ∧ Dd H x d ∧ Q (.bl (d.inS zs)) H) := by
  intro pins s σ H x y v u Q I rx ry h
  obtain ⟨d, p, zs, rfl, hq, hd, q⟩ := h
  cases ry
  have h1 : X.A.in1.units < cLine := hu
  rcases hq with hq | hq
  · obtain ⟨its, r, pl, _⟩ := I.list hq
    refine SeqAt.in_listAt (ansT d) pl.isList (fun y hy => mem_ansT I h1 hd rx r y (by simpa using hy)) ⟨.bl _, H, I, rfl, ?_⟩
    rw [show its.toArray.any (ansT d) = its.any (ansT d) by simp, any_ansT r]; exact q
  · obtain ⟨its, r, pl, _⟩ := I.tuple hq
    refine SeqAt.in_tupleAt (ansT d) pl (fun y hy => mem_ansT I h1 hd rx r y (by simpa using hy)) ⟨.bl _, H, I, rfl, ?_⟩
    rw [show its.toArray.any (ansT d) = its.any (ansT d) by simp, any_ansT r]; exact q
end
end NH
set_option maxHeartbeats 4000000
namespace NH
open PySem PySem.Spec PyProof.Rows L2 TL
section
variable {X : Cx} {d : Addr} {es : Array DictEntry} {n : Nat}
/-- d.get(y), d a written dict with text keys -/
def tKGet (K : PySem.W.Frag) (d : Addr) (ty : TE) : TE := fun σ H Q => ty σ H fun y H2 => ∃ (z : Str) (r : Option Value) (v : V), y = .str z ∧ PySem.W.nsIn K d z = some r ∧ RelV v (r.getD .none) ∧ Q v H2
theorem pe_kget {x : Str} {e : Expr} {ty : TE} {p apos cpos : Pos} (DK : KDict X.K X.w d es n) (hg : Gl X x) (hm : X.mg x = some (.ref d)) (he : PE X e ty) (m : M1 X (.Name x p) "get" apos e cpos) (hdb : (x == ("__debug__" : Str)) = false := by decide) : PE X (.Call (.Attribute (.Name x p) "get" apos) [e] [] cpos) (tKGet X.K d ty) := by
  refine ⟨fun pins s σ H Q I h => ?_⟩
  have ob := I.kIn _ _ DK.at_
  refine wpAny_Call_method m.base m.few m.line PySem.F.plainAttrs_dict PySem.F.slot_dict_get PySem.F.type_dict_get (ld_glob I hg hm ⟨⟨_, ob, rfl⟩, fun b q => by cases q; exact ⟨_, ob, rfl⟩, ?_⟩ hdb)
  rw [m.trees]
  refine Calls.callWith_builtin rfl (Calls.evalArgs_plain (Calls.spliced_cons (thn (he.run pins s σ H _ I h) fun iv s2 ⟨y, H2, I2, ry, z, r, v, ey, en, rv, q⟩ => Calls.spliced_nil ?_)))
  subst ey
  obtain ⟨t, rfl⟩ := ry
  have mo := PySem.W.mapOf_K (prog := X.prog) (w := X.w) I2.kIn DK.at_ DK.lit
  refine call_meetsIn PySem.F.slot_dict_get mo.typeIs PySem.F.entry_dict_get (PySem.F.args_dict_get_2 _ _) (meets_dict_get (strKind X.prog X.w) d (strKind_is X.prog X.w z t) DK.low) ⟨_, mo, v, H2, I2.tok _, ?_, q⟩
  rw [PySem.W.find_K DK.at_ en]
  exact rv
end
theorem DdL.len {H : Hp} : ∀ {vs : List V} {ds : List D}, DdL H vs ds → vs.length = ds.length
  | _, _, .nil => rfl
  | _, _, .cons _ r => congrArg Nat.succ (DdL.len r)
end NH
set_option maxHeartbeats 4000000
namespace NH
open PySem PySem.Spec PyProof.Rows L2 TL
theorem DdL.at {H : Hp} : ∀ {xs : List V} {ds : List D} {i : Nat} {x : V}, DdL H xs ds → xs[i]? = some x → ∃ d, ds[i]? = some d ∧ Dd H x d
  | _, _, _, _, .nil, e => by simp at e
  | _, _, 0, _, .cons h _, e => by simp at e; subst e; exact ⟨_, rfl, h⟩
  | _, _, i + 1, x, .cons _ t, e => by
    obtain ⟨d, h1, h2⟩ := DdL.at (i := i) (x := x) t (by simpa using e)
    exact ⟨d, by simpa using h1, h2⟩
theorem take_succ_of {α : Type} {l : List α} {i : Nat} {x : α} (h : l[i]? = some x) : l.take (i + 1) = l.take i ++ [x] := by
  obtain ⟨hi, e⟩ := List.getElem?_eq_some_iff.mp h
  rw [List.take_succ_eq_append_getElem hi, e]
/-- a list of answers about data, one behind the other -/
theorem lcB {J : It} {Gd : Hp → Prop} {xs : List V} {ds : List D} {f : D → Bool} {i0 : Nat} {te : TE} {vs : List Nat} {σ : L2.St} {H1 : Hp} {p : Addr} {Qd : Hp → Prop} (w : Walk J xs.length Gd (YAt xs)) (hG : ∀ H', Same H1 H' → Gd H') (hp : H1 p = none) (hds : DdL H1 xs ds) (small : xs.length ≤ 1000)
    (hw : ∀ x, wipe ((wipe σ vs).set i0 (some x)) vs = wipe σ vs) (ht : ∀ x d H', Same H1 H' → Dd H' x d → d ∈ ds → ∀ F : VK, (∀ H'', Same H' H'' → F (.bl (f d)) H'') → te ((wipe σ vs).set i0 (some x)) H' F)
    (hd : ∀ H', Same H1 H' → H' p = some (.lst ((ds.map f).map V.bl)) → Qd H') :
    ∃ W : Nat → Nat → Hp → Prop, (∃ m, W 0 m (upd H1 p (.lst []))) ∧ ∀ i m H, W i m H → (J.stop i H ∧ Qd H) ∨ (J.go i H ∧ ∃ Nx : Hp → Prop, (∀ H', Nx H' → ∃ m', m' < m ∧ W (i + 1) m' H') ∧ ∀ x H', J.yld i H x H' → gName i0 x (wipe σ vs) H' fun σ2 H2 => wipe σ2 vs = wipe σ vs ∧ tYes σ2 H2 fun b H3 =>
      if b = true then te σ2 H3 fun y H4 => ∃ acc, H4 p = some (.lst acc) ∧ acc.length < sizeLine ∧ Nx (upd H4 p (.lst (acc ++ [y]))) else Nx H3) := by
  refine lc_it (g := gName i0) (tt := tYes) w (fun i H' => Same H1 H' ∧ H' p = some (.lst (((ds.take i).map f).map V.bl))) ⟨same_new hp, upd_same⟩ (fun _ H' _ h => hG H' h.1) ?_ ?_
  · rintro i x H2 H2' hi ⟨s2, d2⟩ ⟨rfl, hx⟩
    obtain ⟨d, ed, hd2⟩ := hds.at hx
    refine ⟨hw x, tyes ?_⟩
    refine iteT ?_
    refine ht x d H2' s2 (hd2.same s2) (List.mem_of_getElem? ed) _ fun H3 s3 => ⟨_, s3 _ _ d2, ?_, Same.put (s2.trans s3) hp, ?_⟩
    · rw [List.length_map, List.length_map, List.length_take]; exact small1000 (by omega)
    · rw [upd_same, take_succ_of ed, List.map_append, List.map_append]; rfl
  · rintro H2 ⟨s2, d2⟩
    rw [show ds.take xs.length = ds by rw [hds.len]; exact List.take_length] at d2
    exact hd H2 s2 d2
theorem six1 (x : V) (xs : List V) : HT.sIx (x :: xs).length 0 (some 1) = 1 := by
  have z := HT.sIx_nat (x :: xs).length 0 1
  rw [show ((1 : Nat) : Int) = 1 from rfl] at z
  rw [z, List.length_cons]; omega
theorem cut1 (x : V) (xs : List V) : cutV (x :: xs) (some 1) none = xs := by
  unfold cutV
  rw [six1, HT.sIx_none, List.length_cons, Nat.add_sub_cancel]
  exact List.take_length
theorem cut1_not (x : V) (xs : List V) : ¬ (HT.sIx (x :: xs).length 0 (some 1) = 0 ∧ HT.sIx (x :: xs).length (x :: xs).length none = (x :: xs).length) := by
  rw [six1]; omega
end NH
set_option maxHeartbeats 4000000
namespace NH
open PySem PySem.Spec PyProof.Rows L2
/-- a def's promise for calls under which no repr is under way -/
structure FnG (P : Program) (w : World) (K : PySem.W.Frag) (mg : Str → Option Value) (base : Heap) (k : Nat) (f : Addr) (fd : FuncData) (ps : List Str) (sp : Sp) : Prop where
  long : ∀ vs H Q E, sp vs H Q E → vs.length = ps.length
  goes : ∀ (A : Around) (ou : List Env) (s : Shared) (H : Hp) (ar : Args) (us : List Value) (vs : List V) (Q : VK) (E : XK), A.guards = some [] → Room k A → Env0 P w K mg base A ou s H →
    BindsTo s fd ar (ps.zip us) → Vals vs us → sp vs H Q E → codeAny (model P w) A (.call (.ref f) ar) (CR CX0 ou P w H s Q E) s
section
variable {P : Program} {w : World} {K : PySem.W.Frag} {mg : Str → Option Value} {base : Heap} {k : Nat} {f : Addr} {fd : FuncData} {sp : Sp}
theorem FnG.make {x : Str} {st : Stmt} {N ps : List Str} (F : FunD K x x (defArgs st) (defBody st) (defScope st) [] [] f fd) (S : FnScope N ps (defScope st)) (long : ∀ vs H Q E, sp vs H Q E → vs.length = ps.length)
    (does : ∀ (cd : Value) (A : Around) (ou : List Env) (s : Shared) (H : Hp) (vs : List V) (Q : VK) (E : XK), A.guards = some [] → Room k (A.deeper (envOfC x (defScope st) s.heap.objs.size f cd)) → sp vs H Q E →
      ∃ t, PSs (cxOf CX0 P w K mg base N x (defScope st) f cd A ou s H E) (defBody st) t ∧ t { nx := fun _ H' => Q .non H', rt := Q } (start N vs) H) : FnG P w K mg base (k + 1) f fd ps sp := by
  obtain ⟨_, _, _, _, _, _, _, cd, _, _, rfl, here, code, _⟩ := F.ex
  refine ⟨long, fun A ou s H ar us vs Q E hg hr e0 bnd rel want => ?_⟩
  have stays : ∀ (b : Addr) (o : Obj), base.get? b = some o → s.heap.get? b = some o := fun b o e => (e0.bs b o e).1
  have KH : K.In s.heap := e0.mod.kin.keeps stays
  have kinds : ∀ y ∈ ps.zip us, (defScope st).names.lookup y.1 = some .local ∨ ((defScope st).names.lookup y.1 = some .cell ∧ ((cellsFrom (s.heap.objs.size + 1) (defScope st).names []).lookup y.1).isSome = true) := by
    rintro ⟨n, v⟩ hy
    exact (S.par n (List.of_mem_zip hy).1).imp id fun q => ⟨q, PySem.W.cellsFrom_some _ _ _ (.inl q)⟩
  refine codeAny_call_function hr.depth (KH _ _ here) rfl S.co S.gen rfl (PySem.W.codeRec_of KH code) (bnd _ _ _ _ (wpAny_newFunctionEnv_cells S.kind kinds ?_))
  rintro env rfl s1 made
  refine ⟨(e0.mod.nolimit.keeps stays).keeps made.toInCall.keep, codeAny_func ?_⟩
  obtain ⟨t, runs, holds⟩ := does cd A ou s H vs Q E hg (hr.deeper _) want
  refine wpAny_mono (runs.run [] s1 (start N vs) H _ (inv_start S hr.hd e0 (long _ _ _ _ want) rel made) holds) (fun fl s' z => ?_) fun _ _ z => z
  cases fl with
  | brk => rcases z with ⟨_, _, _, z⟩; exact z.elim
  | cont => rcases z with ⟨_, _, _, z⟩; exact z.elim
  | ret u => obtain ⟨v, σ', H', J, rv, q⟩ := z; exact ⟨v, H', J.os, J.bare, J.base, J.hok, rv, q⟩
  | next => obtain ⟨σ', H', J, q⟩ := z; exact ⟨V.non, H', J.os, J.bare, J.base, J.hok, rfl, q⟩
end
theorem no_guard {A : Around} {env : Env} (h : A.guards = some []) : (A.deeper env).guards = some [] := h
/-- a def that keeps a promise where no repr is under way -/
structure CalleeG (P : Program) (w : World) (K : PySem.W.Frag) (mg : Str → Option Value) (base : Heap) (k : Nat) (x : Str) (ps : List Str) (sp : Sp) : Prop where
  ex : ∃ f fd, mg x = some (.ref f) ∧ PySem.W.keepIn K (.ref f) = true ∧ Binds K fd ps [] ∧ FnG P w K mg base k f fd ps sp
section
variable {P : Program} {w : World} {K : PySem.W.Frag} {mg : Str → Option Value} {base : Heap} {X : Cx}
theorem calleeG {x : Str} {st : Stmt} {N ps : List Str} {k : Nat} {sp : Sp} (D : DefAt K mg x st) (S : FnScope N ps (defScope st)) (len : ∀ vs H Q E, sp vs H Q E → vs.length = ps.length)
    (hb : ∀ (kV doc pm : Value) (an : Option Addr) (cdv ct : Value) (us : List Value), us.length = ps.length → bindArgs (PySem.W.fnOf x x (defArgs st) (defBody st) (defScope st) .none kV doc pm an cdv ct) ⟨us, []⟩ = pure (ps.zip us))
    (does : ∀ (f : Addr) (cdv : Value) (A : Around) (outer : List Env) (s : Shared) (H : Hp) (vs : List V) (Q : VK) (E : XK), A.guards = some [] → Room k (A.deeper (envOfC x (defScope st) s.heap.objs.size f cdv)) → sp vs H Q E →
      ∃ t, PSs (cxOf CX0 P w K mg base N x (defScope st) f cdv A outer s H E).nox (defBody st) t ∧ t { nx := fun _ H' => Q .non H', rt := Q } (start N vs) H) : CalleeG P w K mg base (k + 1) x ps sp := by
  obtain ⟨fd, F⟩ := D.f
  exact ⟨_, fd, D.g, F.kp, F.bindsN hb, FnG.make F S len fun cdv A outer s H vs Q E hg hr h => let ⟨t, h1, h2⟩ := does _ cdv A outer s H vs Q E hg hr h; ⟨t, h1.nox, h2⟩⟩
theorem pe_calG {k j : Nat} {x : Str} {ps : List Str} {sp : Sp} {e : Expr} {es : List Expr} {p pos : Pos} {t : TA} (c : CalleeG X.prog X.w X.K X.mg X.base k x ps sp) (hgu : X.A.guards = some []) (hr : Room j X.A) (hj : k ≤ j) (ha : PA X (e :: es) t) (hg : Gl X x := by rfl)
    (hdb : (x == ("__debug__" : Str)) = false := by decide) (he : starEach (e :: es) X.env = (false, eval e X.env) :: starEach es X.env := by rfl) (hpl : (backTo pos (starEach es X.env)).any (·.1) = false := by rfl) :
    PE X (.Call (.Name x p) (e :: es) [] pos) (tCall sp [] E0 t) := by
  obtain ⟨f, fd, hm, hk, hb, F⟩ := c.ex
  refine ⟨fun pins s σ H Q I h => wpAny_Call_Name_kw (ld_glob I hg hm ?_ hdb)⟩
  refine PySem.W.callWith_K (h₀ := X.base) I.ok.mod.kin hk (thn (ha.run pos pins s σ H _ I h) fun us s1 ⟨vs, H1, J, rel, want⟩ => ⟨J.kIn, ?_⟩) he hpl
  have want : sp (vs ++ []) H1 Q E0 := want
  rw [List.append_nil] at want
  have bnd := hb s1 us J.kIn (by rw [List.append_nil, ← rel.length]; exact F.long _ _ _ _ want)
  rw [List.append_nil] at bnd
  refine wpAny_call (codeAny_mono (F.goes X.A X.stack s1 H1 ⟨us, []⟩ us vs Q E0 hgu (hr.mono hj) J.env0 bnd rel want) fun r s' z => ?_)
  match r, z with
  | .ok (.ret _), z => exact J.after z
end
/-- the law's run, where its def is known by FnG; the base holds what stood there -/
theorem lawG {P : Program} {w : World} {K : PySem.W.Frag} {mg mb : Str → Option Value} {k : Nat} {fa a : Addr} {fd : FuncData} {x : Str} {sp : Sp} {s1 : Shared} {vs : List Value} {ns : List Int}
    (kin : K.In s1.heap) (glo : s1.heap.Ns mainGlobals mg) (bl : s1.heap.Ns builtinsNs mb) (boot : ∀ y : Str, y ≠ "__name__" → mb y = bootBuiltins y) (free : s1.heap.NoLimit) (calm : s1.gens = #[])
    (obj : s1.heap.get? a = some { cls := .type "list", data := .seq vs.toArray }) (nums : IntsAre vs ns) (most : ns.length ≤ sizeLine) (hr : Room k callerA)
    (F : ∀ base : Heap, K.In base → base.Ns mainGlobals mg → FnG P w K mg base k fa fd [x] sp) (bnd : ∀ (s : Shared) (u : Value), BindsTo s fd ⟨[u], []⟩ [(x, u)])
    (says : ∀ H : Hp, Only H → SqL K H a (ns.map V.int) → sp [.ref a] H (fun v _ => v = .bl true) fun _ _ _ => False) :
    codeAny (model P w) callerA (.call (.ref fa) ⟨[.ref a], []⟩) (fun r s' => r = .ok (.ret (.bool true)) ∧ OldK s1.heap s'.heap ∧ s'.os = s1.os ∧ AllBare s'.gens) s1 := by
  have rel := vals_ints nums
  have many := nums.length
  have go : ∀ H : Hp, Only H → SqL K H a (ns.map V.int) → HOk P w H s1.heap → (∀ b, H b ≠ none → b = a) → (H a ≠ none → K.lookup a = none) →
      codeAny (model P w) callerA (.call (.ref fa) ⟨[.ref a], []⟩) (fun r s' => r = .ok (.ret (.bool true)) ∧ OldK s1.heap s'.heap ∧ s'.os = s1.os ∧ AllBare s'.gens) s1 := by
    intro H one sq ok lone apart
    have off : ∀ {b : Addr} {o : Obj}, s1.heap.get? b = some o → (b = a → False) → (hidT s1.heap H).get? b = some o := fun {b o} e n => hidT_get e (Classical.byContradiction fun z => n (lone b z))
    have offNs : ∀ {b : Addr} {m : Str → Option Value}, s1.heap.Ns b m → (hidT s1.heap H).Ns b m := by
      rintro b m ⟨o, es, ep, e, d, r⟩
      refine ⟨o, es, ep, off e fun z => ?_, d, r⟩
      rw [z, obj] at e
      cases e
      cases d
    have kb : K.In (hidT s1.heap H) := fun b o e => by
      by_cases z : H b = none
      · exact hidT_get (kin b o e) z
      · have y := lone b z
        rw [y, apart (by rw [← y]; exact z)] at e
        cases e
    have e0 : Env0 P w K mg (hidT s1.heap H) callerA [] s1 H :=
      { frames := rfl, mod := ⟨kb, offNs glo, ⟨mb, offNs bl, boot⟩, free.elim fun mc z => ⟨mc, offNs z.1, z.2⟩⟩, bs := fun b o e => of_hidT e, bsz := by rw [hidT_size]; exact Nat.le_refl _
        funs := trivial, frf := (fun b hb => nomatch (show b ∈ ([] : List Addr) from hb)), hok := ok, bare := .of_eq calm }
    refine codeAny_mono ((F _ kb (offNs glo)).goes callerA [] s1 H ⟨[.ref a], []⟩ [.ref a] [.ref a] _ _ rfl hr e0 (bnd s1 (.ref a)) (.cons rfl .nil) (says H one sq)) fun r s' z => ?_
    match r, z with
    | .ok (.ret u), ⟨v, H', os, bare, un, ok', rv, ev⟩ =>
      have ev : v = .bl true := ev
      subst ev
      obtain rfl : u = Value.bool true := rv
      refine ⟨rfl, OldK.of_keep fun b o e => ?_, os, bare⟩
      rcases one b with z | ⟨ob, xs, z⟩
      · exact un.keep b o e z (by intro y; cases y) (by intro y; cases y)
      · have l1 := (show ObjOk P w H s1.heap b (.frz ob (.lst xs)) from ok b _ z).1
        have l2 := (show ObjOk P w H' s'.heap b (.frz ob (.lst xs)) from ok' b _ (un.frzs b ob _ z)).1
        rw [e] at l1
        cases l1
        exact l2
  cases hk : K.lookup a with
  | some o =>
    have e := kin a o hk
    rw [obj] at e
    cases e
    exact go (fun _ => none) (fun _ => .inl rfl) (.inr ⟨_, vs.toArray, _, hk, rfl, rfl, rfl, by rw [List.size_toArray, many]; exact most, by simpa using rel⟩) (fun _ _ z => nomatch z) (fun _ z => (z rfl).elim) fun z => (z rfl).elim
  | none =>
    have at_ : ∀ b, (if b = a then some (HO.frz { cls := .type "list", data := .seq vs.toArray } (.lst (ns.map V.int))) else none) ≠ none → b = a := fun b z => Classical.byContradiction fun y => z (if_neg y)
    refine go (fun b => if b = a then some (.frz { cls := .type "list", data := .seq vs.toArray } (.lst (ns.map V.int))) else none) (fun b => ?_) (.inl (.inr ⟨{ cls := .type "list", data := .seq vs.toArray }, if_pos rfl⟩)) (fun b u z => ?_) at_ fun _ => hk
    · by_cases y : b = a
      · exact .inr ⟨_, _, if_pos y⟩
      · exact .inl (if_neg y)
    · have y : b = a := at_ b fun t => nomatch (show (none : Option HO) = some u from t.symm.trans z)
      subst y
      have z := (if_pos rfl).symm.trans z
      cases z
      exact ⟨obj, by rw [List.length_map]; exact most, vs, _, rel, obj⟩
/-- the walk of a law, from FnG -/
theorem walkG {l : PySem.W.OpenLaw} {n k : Nat} {q : Program} {loose : List Str} {XP : (Str → Option Value) → Heap → Prop} {YP : World → Heap → Prop} {d : DefRec} {x : Str}
    (hn : l.most = some n) (hn2 : n ≤ sizeLine) (hdf : d.params.defaults = []) (hr : Room k callerA)
    (F : ∀ (w : World) (mg : Str → Option Value) (fa : Addr) (h : Heap), YP w h → h.Ns mainGlobals mg → mg d.name = some (.ref fa) →
      ∃ (K : PySem.W.Frag) (fd : FuncData) (sp : Sp), K.In h ∧ (∀ (s : Shared) (u : Value), BindsTo s fd ⟨[u], []⟩ [(x, u)]) ∧
        (∀ (H : Hp) (a : Addr) (ns : List Int), ns.length ≤ n → Only H → SqL K H a (ns.map V.int) → sp [.ref a] H (fun v _ => v = .bl true) fun _ _ _ => False) ∧
        ∀ base : Heap, K.In base → base.Ns mainGlobals mg → FnG l.prog w K mg base k fa fd [x] sp) : PySem.W.WalkO q loose XP YP l.row.toRowW d [] (fun f vs => PySem.call f vs) := by
  refine Att.attach_call hn hdf fun w s0 s1 mg mb fa o pm cd doc a vs ns G Y ho hd hcd name obj nums most calm => ?_
  obtain ⟨K, fd, sp, kin, bnd, says, does⟩ := F w mg fa _ Y G.T.g name
  exact lawG kin G.T.g G.T.b G.T.builtins G.T.nolimit calm obj nums (Nat.le_trans most hn2) hr does bnd fun H one sq => says H a ns most one sq
end NH
set_option maxHeartbeats 4000000
namespace NH
open PySem PySem.Spec PyProof.Rows L2 TL
/-! ### the repr of data -/
mutual
def D.py : D → PyData
  | .non => .none
  | .bl b => .bool b
  | .int i => .int i
  | .str x => .str x
  | .lst ds => .list (D.pys ds)
  | .tup ds => .tuple (D.pys ds)
  | .dic => .dict []
def D.pys : List D → List PyData
  | [] => []
  | d :: ds => d.py :: D.pys ds
end
mutual
/-- how much of it there is -/
def D.sz : D → Nat
  | .str x => 1 + x.length
  | .lst ds => 1 + D.szs ds
  | .tup ds => 1 + D.szs ds
  | _ => 1
def D.szs : List D → Nat
  | [] => 0
  | d :: ds => d.sz + D.szs ds
end
mutual
def D.dep : D → Nat
  | .lst ds => D.deps ds + 1
  | .tup ds => D.deps ds + 1
  | .dic => 1
  | _ => 0
def D.deps : List D → Nat
  | [] => 0
  | d :: ds => max d.dep (D.deps ds)
end
mutual
/-- small numbers, plain signs -/
def D.fit : D → Prop
  | .int i => i.natAbs ≤ 1000
  | .str x => ∀ c ∈ x.cps.toList, c < 128
  | .lst ds => D.fits ds
  | .tup ds => D.fits ds
  | _ => True
def D.fits : List D → Prop
  | [] => True
  | d :: ds => d.fit ∧ D.fits ds
end
theorem lst_len : ∀ ts : List Str, (listText ts).length ≤ 2 + piled ts
  | [] => by rw [listText_nil]; decide
  | t :: r => by
    have e : listText (t :: r) = textFrom 1 (("[" : Str) ++ ("" : Str) ++ t) r ++ "]" := rfl
    rw [e, strLen_append, textFrom_length_pos r 1 _ (by decide), strLen_append, strLen_append, piled_cons]
    have e1 : ("[" : Str).length = 1 := rfl
    have e2 : ("]" : Str).length = 1 := rfl
    have e3 : ("" : Str).length = 0 := rfl
    omega
theorem tup_len (ts : List Str) : (tupleText ts).length ≤ 3 + piled ts := by
  unfold tupleText
  rw [strLen_append, strLen_append]
  have e1 : (("(" : String) : Str).length = 1 := rfl
  have e3 : (((if ts.length == 1 then ",)" else ")" : String) : Str)).length ≤ 2 := by split <;> decide
  rw [e1]
  by_cases h : ts = []
  · subst h; exact Nat.le_trans (Nat.add_le_add_left e3 _) (by decide)
  · have := join_length_add ts h
    omega
theorem int_len : ∀ n : Nat, n ≤ 1000 → ((toString (n : Int) : String) : Str).length ≤ 5 ∧ ((toString (-(n : Int)) : String) : Str).length ≤ 5 := by decide +kernel
mutual
theorem D.shown_len : ∀ d : D, d.fit → d.py.shown.length + 2 ≤ 12 * d.sz
  | .non, _ => by decide
  | .bl b, _ => by cases b <;> decide
  | .int i, h => by
    have z := int_len i.natAbs h
    have e : ((toString i : String) : Str).length ≤ 5 := by
      rcases Int.natAbs_eq i with y | y
      · rw [y]; exact z.1
      · rw [y]; exact z.2
    show ((toString i : String) : Str).length + 2 ≤ 12 * 1
    omega
  | .str x, h => by
    have z := StrLaws.reprText_len x fun c hc => Nat.lt_trans (h c hc) (by decide)
    show (reprText x).length + 2 ≤ 12 * (1 + x.length)
    omega
  | .lst ds, h => by
    have z := D.shown_lens ds h
    have y := lst_len (PyData.shownAll (D.pys ds))
    show (listText (PyData.shownAll (D.pys ds))).length + 2 ≤ 12 * (1 + D.szs ds)
    omega
  | .tup ds, h => by
    have z := D.shown_lens ds h
    have y := tup_len (PyData.shownAll (D.pys ds))
    show (tupleText (PyData.shownAll (D.pys ds))).length + 2 ≤ 12 * (1 + D.szs ds)
    omega
  | .dic, _ => by decide
theorem D.shown_lens : ∀ ds : List D, D.fits ds → piled (PyData.shownAll (D.pys ds)) ≤ 12 * D.szs ds
  | [], _ => Nat.zero_le _
  | d :: ds, h => by
    have a := D.shown_len d h.1
    have b := D.shown_lens ds h.2
    show piled (d.py.shown :: PyData.shownAll (D.pys ds)) ≤ 12 * (d.sz + D.szs ds)
    rw [piled_cons]
    omega
end
mutual
theorem D.showable : ∀ d : D, d.fit → d.py.showable = true
  | .non, _ => rfl
  | .bl b, _ => rfl
  | .int i, h => decide_eq_true (Nat.lt_of_le_of_lt (Nat.log2_le_self _) (Nat.lt_of_le_of_lt h (by decide)))
  | .str x, _ => rfl
  | .lst ds, h => D.showables ds h
  | .tup ds, h => D.showables ds h
  | .dic, _ => rfl
theorem D.showables : ∀ ds : List D, D.fits ds → PyData.showableAll (D.pys ds) = true
  | [], _ => rfl
  | d :: ds, h => by
    show (d.py.showable && PyData.showableAll (D.pys ds)) = true
    rw [D.showable d h.1, D.showables ds h.2]; rfl
end
mutual
theorem D.dep_py : ∀ d : D, d.py.depth = d.dep
  | .non | .bl _ | .int _ | .str _ => rfl
  | .lst ds => congrArg (· + 1) (D.deps_py ds)
  | .tup ds => congrArg (· + 1) (D.deps_py ds)
  | .dic => rfl
theorem D.deps_py : ∀ ds : List D, PyData.depthAll (D.pys ds) = D.deps ds
  | [] => rfl
  | d :: ds => by
    show max d.py.depth (PyData.depthAll (D.pys ds)) = _
    rw [D.dep_py d, D.deps_py ds]; rfl
end
section
variable {X : Cx} {pins : List (Addr × Obj)} {σ : L2.St} {H : Hp} {s : Shared}
theorem dict_none (I : Inv X pins σ H s) {a : Addr} (e : H a = some (.dK [])) : ∃ n, s.heap.get? a = some (NEq.dO #[] n) := by
  obtain ⟨_, _, vs, kv, o, es, ep, h1, h2, h3, _, h4, _⟩ := (show ObjOk X.prog X.w H s.heap a (.dK []) from I.hok a _ e)
  cases kv
  obtain ⟨oc, od, dt, sl⟩ := o
  obtain ⟨c1, c2, c3⟩ := h2
  dsimp only at c1 c2 c3 h3
  subst c1 c2 c3 h3
  have e2 : es = #[] := Array.toList_inj.mp (by generalize es.toList = l at h4; cases h4; rfl)
  subst e2
  exact ⟨ep, h1⟩
mutual
theorem Dd.reads (I : Inv X pins σ H s) : ∀ {v : V} {d : D} {u : Value}, Dd H v d → RelV v u → ∃ as, Reads s.heap u d.py as ∧ ∀ a ∈ as, ∃ o, H a = some o
  | _, _, _, .non, r => by cases r; exact ⟨_, Reads.none, by simp⟩
  | _, _, _, .bl b, r => by cases r; exact ⟨_, Reads.bool b, by simp⟩
  | _, _, _, .int i, r => by obtain ⟨t, rfl⟩ := r; exact ⟨_, Reads.int i t, by simp⟩
  | _, _, _, .str x, r => by obtain ⟨t, rfl⟩ := r; exact ⟨_, Reads.str x t, by simp⟩
  | _, _, _, .lst (a := a) e h, r => by
    cases r
    obtain ⟨its, rv, ⟨o, n, ho, hc, _, hd⟩, _⟩ := I.list (SqL.of e)
    obtain ⟨as, hr, ha⟩ := DdL.reads I h rv
    exact ⟨_, Reads.list ho hc hd hr, fun b hb => by
      rcases List.mem_cons.mp hb with rfl | hb
      · exact ⟨_, e⟩
      · exact ha b hb⟩
  | _, _, _, .tup e h, r => by
    cases r
    obtain ⟨its, rv, ⟨o, ho, hc, n, hd⟩, _⟩ := I.tuple (SqT.of e)
    obtain ⟨as, hr, ha⟩ := DdL.reads I h rv
    exact ⟨_, Reads.tuple ho hc hd hr, ha⟩
  | _, _, _, .dic (a := a) e, r => by
    cases r
    obtain ⟨n, ho⟩ := dict_none I e
    exact ⟨_, Reads.dict (as := []) (bs := []) ho rfl rfl .nil .nil, fun b hb => by
      have hb : b ∈ a :: ([] ++ []) := hb
      rcases List.mem_cons.mp hb with rfl | hb
      · exact ⟨_, e⟩
      · simp at hb⟩
theorem DdL.reads (I : Inv X pins σ H s) : ∀ {vs : List V} {ds : List D} {us : List Value}, DdL H vs ds → Vals vs us → ∃ as, ReadsAll s.heap us (D.pys ds) as ∧ ∀ a ∈ as, ∃ o, H a = some o
  | _, _, _, .nil, r => by cases r; exact ⟨_, .nil, by simp⟩
  | _, _, _, .cons h t, r => by
    cases r with
    | cons r1 r2 =>
      obtain ⟨as, q1, a1⟩ := Dd.reads I h r1
      obtain ⟨bs, q2, a2⟩ := DdL.reads I t r2
      exact ⟨_, .cons q1 q2, fun b hb => (List.mem_append.mp hb).elim (a1 b) (a2 b)⟩
end
/-- repr(x), x any datum, where no repr is under way -/
def rRepr : List V → Hp → VK → Prop := fun xs H Q => ∃ (v : V) (d : D), xs = [v] ∧ Dd H v d ∧ d.fit ∧ d.sz ≤ 1000000 ∧ d.dep ≤ 40 ∧ Q (.str d.py.shown) H
theorem call_repr (hg : X.A.guards = some []) (hu : X.A.units + 64 < cLine) (sm : ∃ o, X.base.get? sysModules = some o) : CallR X (.builtin "repr") rRepr := by
  intro pins s σ H xs us Q I r h
  obtain ⟨v, d, rfl, hd, fit, sz, dep, q⟩ := h
  obtain ⟨u, rfl, rv⟩ := vals1 r
  have short : d.py.shown.length ≤ sizeLine := Nat.le_trans (by have := D.shown_len d fit; omega : d.py.shown.length ≤ 12000000) (by decide)
  obtain ⟨as, rd, ours⟩ := Dd.reads I hd rv
  have fin : ∀ (h' : Heap) (w' tk : Tok), (∀ b o, s.heap.get? b = some o → h'.get? b = some o) → EP X pins σ Q (.str d.py.shown w') { s with heap := h', toks := tk } := fun h' w' tk hk => ⟨.str d.py.shown, H, I.kept hk, ⟨w', rfl⟩, q⟩
  have same : ∀ tk : Tok, EP X pins σ Q (.str d.py.shown s.toks) { s with toks := tk } := fun tk => fin s.heap _ tk fun _ _ e => e
  have far : sysModules ∉ as := fun z => by
    obtain ⟨o, e⟩ := ours _ z
    obtain ⟨b, y⟩ := sm
    rw [(I.bs _ b y).2] at e; cases e
  have room : X.A.units + (d.py.depth + 1) < cLine := by rw [D.dep_py]; omega
  cases hd with
  | non => cases rv; exact P.repr_of_none (same _)
  | bl b => cases rv; cases b <;> exact P.repr_of_bool (same _)
  | int i => obtain ⟨t, rfl⟩ := rv; exact P.repr_of_int (Nat.lt_of_le_of_lt (Nat.log2_le_self _) (Nat.lt_of_le_of_lt fit (by decide))) (same _)
  | str x => obtain ⟨t, rfl⟩ := rv; exact P.repr_of_str (same _) short
  | lst e _ => cases rv; exact repr_of_reads' rd (D.showable _ fit) (fun _ => far) hg room (fun _ _ e => e) fin short
  | tup e _ => cases rv; exact repr_of_reads' rd (D.showable _ fit) (fun _ => far) hg room (fun _ _ e => e) fin short
  | dic e => cases rv; exact repr_of_reads' rd (D.showable _ fit) (fun _ => far) hg room (fun _ _ e => e) fin short
end
end NH
set_option maxHeartbeats 4000000
/-! an own error class called with one keyword -/
namespace NX
open PySem PySem.Spec PyProof.Rows PySem.W PySem.Calls PySem.HandSPX
section
variable {M : Model} {A : Around} {E : Value → Shared → Prop} {h : Heap} {g : Array GenState} {d : Drawn} {t : Nat} {os : OsState}
variable {nm q : Str} {C N : Addr} {bs bm bmB : List Value} {hdct : Bool} {sn : List Str} {sub : List Value} {ab : Bool} {col : Option Bool} {dd : Option Addr} {k0 k1 k2 k3 k5 : Option Value} {B newId initId : String} {kw : List (Str × Value)}
theorem check_newK (F : ExcBaseFacts B newId initId bmB) (hT : ∀ X : String, bm.contains (.type X) = bmB.contains (.type X)) {Q : Unit → Shared → Prop}
    (hC : h.get? C = some (excClassObj nm q C N bs bm hdct sn sub ab col dd k0 k1 k2 k3 k5 newId)) (hq : Q () ⟨h, g, d, t, os⟩) : wpAny M A (checkBuiltinCall newId ⟨[.ref C], kw⟩) Q E ⟨h, g, d, t, os⟩ := by
  have hcont : (Value.ref C :: bm).contains (.type B) = true := by rw [List.contains_cons, hT, F.hasB, Bool.or_true]
  have hstar := F.noStar
  simp only [checkBuiltinCall, F.newKind, F.newSplit, F.newRow]
  repeat (first | refine wpAny_loadPart_at hC ?_ | (refine wpAny_isSubtype_exc hC ?_; rw [hcont]) | refine wpAny_staticBase_exc hC ?_ | refine wpAny_madeBy_exc hC ?_ | simp only [bne_self_eq_false, Bool.false_eq_true, if_false] | wp_step)
  exact hq
end
section
variable {prog : Program} {w : World} {A : Around} {E : Value → Shared → Prop} {R : Result → Shared → Prop} {h : Heap} {g : Array GenState} {d : Drawn} {t : Nat} {os : OsState}
variable {nm q : Str} {C N : Addr} {bs bm bmB : List Value} {hdct : Bool} {sn : List Str} {sub : List Value} {ab : Bool} {col : Option Bool} {dd : Option Addr} {k0 k1 k2 k3 k5 : Option Value} {B newId initId : String} {kw : List (Str × Value)}
theorem new_ownK (F : ExcBaseFacts B newId initId bmB) (hT : ∀ X : String, bm.contains (.type X) = bmB.contains (.type X))
    (hC : h.get? C = some (excClassObj nm q C N bs bm hdct sn sub ab col dd k0 k1 k2 k3 k5 newId))
    (hq : R (.ok (.ret (.ref (h.objs.size + 1)))) ⟨(h.push { cls := .type "tuple", data := .seq ([] : List Value).toArray }).push
      { cls := .ref C, data := .fields #[.ref h.objs.size, .none, .none, .none, .bool false, .none] }, g, d, t, os⟩) :
    codeAny (model prog w) A (.builtin newId ⟨[.ref C], kw⟩) R ⟨h, g, d, t, os⟩ := by
  have hends := F.ends
  have hcB : (Value.ref C :: bm).contains (.type B) = true := by rw [List.contains_cons, hT, F.hasB, Bool.or_true]
  have hcA : (Value.ref C :: bm).contains (.type "AttributeError") = false := by rw [List.contains_cons, hT, F.noAttr]; rfl
  have hcN : (Value.ref C :: bm).contains (.type "NameError") = false := by rw [List.contains_cons, hT, F.noName]; rfl
  have hrest : ([] : List Value).length ≤ sizeLine := Nat.zero_le _
  refine codeAny_builtinAt F.entry ?_
  unfold Builtin.«BaseException.__new__»
  refine PySem.wpAt_bind ?_
  show PySem.wpAt _ _ _ (stack >>= _) _ _ _
  refine PySem.wpAt_bind (PySem.wpAt_stack fun p below => PySem.wpAt_of_wpAny ?_)
  wp_walk
  refine PySem.wpAt_of_wpAny ?_
  rw [F.owner]
  repeat (first | with_reducible refine wpAny_madeHere_exc F.canon hC ?_ | with_reducible refine wpAny_loadPart_at hC ?_ | (with_reducible refine wpAny_isSubtype_exc hC ?_; first | rw [hcB] | rw [hcA] | rw [hcN]) | wp_step)
  show R _ _
  rw [Heap.size_push]
  exact hq
theorem type_call_ownK (F : ExcBaseFacts B newId initId bmB) (hT : ∀ X : String, bm.contains (.type X) = bmB.contains (.type X)) {fI : Addr} {Q : Fin → Shared → Prop}
    (hC : h.get? C = some (excClassObj nm q C N bs bm hdct sn sub ab col dd k0 k1 k2 k3 k5 newId))
    (hi : W.Looks (model prog w) h (typeLookup (.ref C) "__init__") (some (.ref fI))) (hb : ∀ self, W.Looks (model prog w) h (bindSpecial (.ref fI) self) (.ref fI, [self]))
    (hq : codeAny (model prog w) A (.call (.ref fI) ⟨[.ref (h.objs.size + 1)], kw⟩)
      (fun r s' => match r with | .ok (.ret v) => v = .none ∧ Q (.done (.ret (.ref (h.objs.size + 1)))) s' | .ok _ => False | .error e => E e s')
      ⟨(h.push (W.kdv_tup [])).push (excO C h.objs.size), g, d, t, os⟩) :
    wpAny (model prog w) A (Builtin.«type.__call__» ⟨[.ref C], kw⟩) Q E ⟨h, g, d, t, os⟩ := by
  repeat (first | with_reducible refine wpAny_loadPart_at hC ?_ | with_reducible refine wpAny_madeBy_exc hC ?_ | wp_step)
  refine codeAny_call_builtin_code (Code.quiet_builtin _ F.quiet) (check_newK F hT hC ?_)
  refine new_ownK F hT hC ?_
  show wpAny _ _ _ _ _ _
  have k : ∀ b o, h.get? b = some o → ((h.push (W.kdv_tup [])).push (excO C h.objs.size)).get? b = some o := fun b o e => Heap.get?_push_of_some _ (Heap.get?_push_of_some _ e)
  have hC₁ := k _ _ hC
  have hget : ((h.push (W.kdv_tup [])).push (excO C h.objs.size)).get? (h.objs.size + 1) = some (excO C h.objs.size) := by heap_get
  have hcC : (Value.ref C :: bm).contains (.ref C) = true := by simp
  have i1 := hi.keeps k
  have b1 := (hb (.ref (h.objs.size + 1))).keeps k
  unfold isInstance
  repeat (first | with_reducible refine wpAny_loadPart_at hget ?_ | (with_reducible refine wpAny_isSubtype_exc hC₁ ?_; rw [hcC]) | wp_step)
  show wpAny _ _ (typeLookup (.ref C) _) _ _ _
  refine i1.at ?_
  refine wpAny_holding (wpAny_bind (b1.at ?_))
  refine wpAny_bind (wpAny_call (codeAny_mono hq fun r s' z => ?_))
  rcases r with e | (v | _ | _ | _) <;> first | exact z | exact z.elim | skip
  obtain ⟨rfl, z⟩ := z
  first
    | exact wpAny_pure (wpAny_pure z)
    | (wp_walk; exact z)
theorem check_type_callK {M : Model} {Q : Unit → Shared → Prop} (hC : h.get? C = some (excClassObj nm q C N bs bm hdct sn sub ab col dd k0 k1 k2 k3 k5 newId))
    (hq : Q () ⟨h, g, d, t, os⟩) : wpAny M A (checkBuiltinCall "type.__call__" ⟨[.ref C], kw⟩) Q E ⟨h, g, d, t, os⟩ := by
  have f3 := tc_sub
  have hTy : (⟨h, g, d, t, os⟩ : Shared).TypeIs (.ref C) "type" := ⟨_, hC, rfl⟩
  simp only [checkBuiltinCall, tc_kind, tc_split]
  repeat (any_goals (first | assumption | with_reducible refine wpAny_loadPart_at hC ?_ | with_reducible refine wpAny_onRaise ?_ | with_reducible refine wpAny_map ?_ | wp_step))
theorem call_ownK (F : ExcBaseFacts B newId initId bmB) (hT : ∀ X : String, bm.contains (.type X) = bmB.contains (.type X)) {fI : Addr}
    (hC : h.get? C = some (excClassObj nm q C N bs bm hdct sn sub ab col dd k0 k1 k2 k3 k5 newId))
    (hi : W.Looks (model prog w) h (typeLookup (.ref C) "__init__") (some (.ref fI))) (hb : ∀ self, W.Looks (model prog w) h (bindSpecial (.ref fI) self) (.ref fI, [self]))
    (hq : codeAny (model prog w) (A.under (.builtin "type.__call__" ⟨[.ref C], kw⟩)) (.call (.ref fI) ⟨[.ref (h.objs.size + 1)], kw⟩) (W.InitBack (h.objs.size + 1) R)
      ⟨(h.push (W.kdv_tup [])).push (excO C h.objs.size), g, d, t, os⟩) :
    codeAny (model prog w) A (.call (.ref C) ⟨[], kw⟩) R ⟨h, g, d, t, os⟩ := by
  have f1 := tc_lookup
  have f2 := tc_bind (.ref C)
  have hTy : (⟨h, g, d, t, os⟩ : Shared).TypeIs (.ref C) "type" := ⟨_, hC, rfl⟩
  refine codeAny_of_tree ?_
  show wpAny _ _ (callAny (.ref C) _) _ _ _
  repeat (any_goals (first | assumption | with_reducible refine wpAny_loadPart_at hC ?_ | wp_step))
  refine ⟨rfl, ?_⟩
  refine codeAny_call_builtin_at (Code.quiet_builtin _ (by decide +kernel)) entry_typeCall (check_type_callK hC (type_call_ownK F hT hC hi hb ?_))
  refine codeAny_mono hq fun r s' z => ?_
  rcases r with e | (v | _ | _ | _) <;> exact z
end
end NX
set_option maxHeartbeats 4000000
namespace NH
open PySem PySem.Spec PyProof.Rows L2 TL
/-! ### errors as values -/
/-- at a: an error of the class at C, its dict at d -/
def ExAt (H : Hp) (a C : Addr) (d : Option Addr) : Prop := ∃ φ : Heap → Prop, H a = some (.ext φ) ∧ ∀ h, φ h → ∃ (oe : Obj) (vs : Array Value), h.get? a = some oe ∧ Zc (.ref C) d oe ∧ oe.data = .fields vs
/-- at dd: the dict of an error -/
def FdAt (H : Hp) (dd : Addr) (fs : List (Str × V)) : Prop := H dd = some (exd dd fs) ∨ H dd = some (.xd fs)
def ErAt (H : Hp) (a C : Addr) : Option (Str × V) → Prop
  | none => ExAt H a C none
  | some (f, v) => ∃ dd, ExAt H a C (some dd) ∧ FdAt H dd [(f, v)]
theorem ExAt.same {H H' : Hp} {a C : Addr} {d : Option Addr} (h : ExAt H a C d) (s : Same H H') : ExAt H' a C d := by
  obtain ⟨φ, e, q⟩ := h
  exact ⟨φ, s _ _ e, q⟩
theorem FdAt.same {H H' : Hp} {d : Addr} {fs : List (Str × V)} (h : FdAt H d fs) (s : Same H H') : FdAt H' d fs := h.imp (s _ _) (s _ _)
theorem ErAt.same {H H' : Hp} {a C : Addr} {x : Option (Str × V)} (h : ErAt H a C x) (s : Same H H') : ErAt H' a C x := by
  match x, h with
  | none, h => exact ExAt.same h s
  | some (f, v), ⟨dd, h1, h2⟩ => exact ⟨dd, h1.same s, h2.same s⟩
theorem ErAt.at {H : Hp} {a C : Addr} {x : Option (Str × V)} (h : ErAt H a C x) : ∃ φ, H a = some (.ext φ) := by
  match x, h with
  | none, ⟨φ, e, _⟩ => exact ⟨φ, e⟩
  | some (f, v), ⟨dd, ⟨φ, e, _⟩, h2⟩ => exact ⟨φ, e⟩
theorem exAt_exo {H : Hp} {a C : Addr} {d : Option Addr} (h : H a = some (exo a C d)) : ExAt H a C d := ⟨_, h, fun hp z => by obtain ⟨t1, e⟩ := z; exact ⟨_, _, e, ⟨rfl, rfl⟩, rfl⟩⟩
theorem exAt_ExO {H : Hp} {a C : Addr} (h : H a = some (ExO (.ref C) a)) : ExAt H a C none := ⟨_, h, fun hp z => by obtain ⟨oe, vs, e, zc, d, _⟩ := z; exact ⟨oe, vs, e, zc, d⟩⟩
/-- at a, untracked: this object, as long as we are here -/
def PinX (X : Cx) (a : Addr) (oe : Obj) : Prop := ∀ (pins : List (Addr × Obj)) (σ : L2.St) (H : Hp) (s : Shared), Inv X pins σ H s → s.heap.get? a = some oe ∧ H a = none ∧ a ∉ frs X.stack
/-- an error that is tracked, or one that stands still -/
def ExX (X : Cx) (H : Hp) (a C : Addr) (d : Option Addr) : Prop := ExAt H a C d ∨ ∃ (oe : Obj) (vs : Array Value), PinX X a oe ∧ Zc (.ref C) d oe ∧ oe.data = .fields vs
def ErX (X : Cx) (H : Hp) (a C : Addr) : Option (Str × V) → Prop
  | none => ExX X H a C none
  | some (f, v) => ∃ dd, ExX X H a C (some dd) ∧ FdAt H dd [(f, v)]
theorem ErAt.x {X : Cx} {H : Hp} {a C : Addr} {x : Option (Str × V)} (h : ErAt H a C x) : ErX X H a C x := by
  match x, h with
  | none, h => exact .inl h
  | some (f, v), ⟨dd, h1, h2⟩ => exact ⟨dd, .inl h1, h2⟩
theorem ExX.same {X : Cx} {H H' : Hp} {a C : Addr} {d : Option Addr} (h : ExX X H a C d) (s : Same H H') : ExX X H' a C d := h.imp (fun e => e.same s) id
theorem ErX.same {X : Cx} {H H' : Hp} {a C : Addr} {x : Option (Str × V)} (h : ErX X H a C x) (s : Same H H') : ErX X H' a C x := by
  match x, h with
  | none, h => exact ExX.same h s
  | some (f, v), ⟨dd, h1, h2⟩ => exact ⟨dd, h1.same s, h2.same s⟩
section
variable {X : Cx} {pins : List (Addr × Obj)} {σ : L2.St} {H : Hp} {s : Shared} {a C : Addr} {x : Option (Str × V)}
theorem FdAt.ns (I : Inv X pins σ H s) {dd : Addr} {fs : List (Str × V)} (h : FdAt H dd fs) : ∃ mA, s.heap.Ns1 dd mA ∧ ∀ f, RelO (fs.lookup f) (mA f) := by
  rcases h with h | h
  · exact exd_at I.hok h
  · obtain ⟨mA, hns, hr⟩ := (show ObjOk X.prog X.w H s.heap dd (.xd fs) from I.hok dd _ h)
    exact ⟨mA, hns, hr⟩
theorem ExX.obj (I : Inv X pins σ H s) {d : Option Addr} (h : ExX X H a C d) : ∃ (oe : Obj) (vs : Array Value), s.heap.get? a = some oe ∧ Zc (.ref C) d oe ∧ oe.data = .fields vs := by
  rcases h with ⟨φ, e, q⟩ | ⟨oe, vs, p, z, e⟩
  · have z : ObjOk X.prog X.w H s.heap a (.ext φ) := I.hok a _ e
    exact q _ z.1
  · exact ⟨oe, vs, (p _ _ _ _ I).1, z, e⟩
theorem ErX.inst (I : Inv X pins σ H s) (h : ErX X H a C x) : ∃ (oe : Obj) (od : Option Obj), PySem.W.InstAt s.heap a oe C od := by
  match x, h with
  | none, h =>
    obtain ⟨oe, vs, e, z, hd⟩ := ExX.obj I h
    exact ⟨oe, none, e, z.1, by unfold PySem.W.notCls; rw [hd] <;> rfl, by rw [z.2]; exact True.intro⟩
  | some (f, v), ⟨dd, h1, h2⟩ =>
    obtain ⟨oe, vs, e, z, hd⟩ := ExX.obj I h1
    obtain ⟨mA, hns, hr⟩ := h2.ns I
    obtain ⟨od, ho, hl⟩ := lookIn_ns hns
    exact ⟨oe, some od, e, z.1, by unfold PySem.W.notCls; rw [hd] <;> rfl, by rw [z.2]; exact ho⟩
theorem ErAt.inst (I : Inv X pins σ H s) (h : ErAt H a C x) : ∃ (oe : Obj) (od : Option Obj), PySem.W.InstAt s.heap a oe C od := ErX.inst I (ErAt.x h)
end
theorem excC_cls {K : PySem.W.Frag} {C : Addr} (x : ExcC K C) : (PySem.W.clsIn K C).isSome = true := by
  have z := x.hd
  unfold PySem.W.hasDictIn at z
  cases y : PySem.W.clsIn K C with
  | none => rw [y] at z; cases z
  | some _ => rfl
/-- a value's type, errors too -/
def TyE (X : Cx) (H : Hp) (v : V) (t : Value) : Prop := TyX X.K H v t ∨ ∃ a C x, v = .ref a ∧ t = .ref C ∧ ErX X H a C x ∧ ExcC X.K C
section
variable {X : Cx} {pins : List (Addr × Obj)} {σ : L2.St} {H : Hp} {s : Shared}
theorem kit_ofE {x : V} {u t : Value} (I : Inv X pins σ H s) (rx : RelV x u) (ty : TyE X H x t) : ∃ P : Heap → Prop, PySem.W.KitX X.K u t P ∧ P s.heap ∧ u ≠ .builtin "__main__.__loader__#opaque" := by
  rcases ty with ty | ⟨a, C, y, rfl, rfl, h, c⟩
  · exact L2.kit_of I rx ty
  · cases rx
    obtain ⟨oe, od, J⟩ := h.inst I
    exact ⟨_, PySem.W.kitx_exc (excC_cls c) c.hg c.hk c.hs c.ha c.hn c.ht c.hm, J, fun z => nomatch z⟩
/-- isinstance(x, c) -/
def rIsiE (X : Cx) : List V → Hp → VK → Prop := fun xs H Q => ∃ (x c : V) (t u : Value) (b : Bool), xs = [x, c] ∧ ClsV c u ∧ TyE X H x t ∧ PySem.W.kitOne X.K t u = some b ∧ Q (.bl b) H
def rIsiTE (X : Cx) : List V → Hp → VK → Prop := fun xs H Q => ∃ (x : V) (tp : Addr) (cs : List V) (t : Value) (us : List Value) (b : Bool), xs = [x, .ref tp] ∧ H tp = some (.tup cs) ∧ Paired ClsV cs us ∧ TyE X H x t ∧ PySem.W.kitAny X.K t us = some b ∧ Q (.bl b) H
theorem call_isiE : CallR X (.builtin "isinstance") (rIsiE X) := by
  intro pins s σ H xs us Q I r h
  obtain ⟨x, c, t, u, b, rfl, k, ty, e, q⟩ := h
  obtain ⟨u1, u2, rfl, r1, r2⟩ := vals2 r
  have e2 := k.eq r2
  subst e2
  obtain ⟨P, Z, p, hx⟩ := kit_ofE I r1 ty
  exact PySem.W.kia_one Z I.kIn p e hx fun tk => ⟨.bl b, H, I.tok tk, rfl, q⟩
theorem call_isiTE : CallR X (.builtin "isinstance") (rIsiTE X) := by
  intro pins s σ H xs us Q I r h
  obtain ⟨x, tp, cs, t, ws, b, rfl, hT, k, ty, e, q⟩ := h
  obtain ⟨u1, u2, rfl, r1, r2⟩ := vals2 r
  cases (show u2 = Value.ref tp from r2)
  obtain ⟨P, Z, p, hx⟩ := kit_ofE I r1 ty
  obtain ⟨_, its, rv, o, h1, h2, n, h3⟩ := (show ObjOk X.prog X.w H s.heap tp (.tup cs) from I.hok tp _ hT)
  have e3 := ClsV.all k rv
  subst e3
  obtain ⟨oc, od, dt, sl⟩ := o
  simp only at h2 h3
  subst h2 h3
  exact PySem.W.kia_tup Z I.kIn p h1 e hx fun tk => ⟨.bl b, H, I.tok tk, rfl, q⟩
end
/-- err.f -/
def tErF (X : Cx) (f : Str) (te : TE) : TE := fun σ H Q => te σ H fun x H1 => ∃ (a C : Addr) (v : V), x = .ref a ∧ ErX X H1 a C (some (f, v)) ∧ XfC X.K C ∧ PySem.W.findIn X.K (.ref C) f = some none ∧ Q v H1
theorem pe_erF {X : Cx} {e : Expr} {te : TE} {pos : Pos} {n : Str} (he : PE X e te) (hb : attributeBase e n X.env (eval e X.env) = eval e X.env := by rfl) : PE X (.Attribute e n pos) (tErF X n te) := by
  refine ⟨fun pins s σ H Q I h => ?_⟩
  refine attr_of hb (thn (he.run pins s σ H _ I h) fun u s1 hh => ?_)
  obtain ⟨x, H1, I1, rx, a, C, v, rfl, ⟨dd, h1, h2⟩, T, hno, q⟩ := hh
  obtain rfl : u = Value.ref a := rx
  obtain ⟨oe, vs, ha, hz, hd⟩ := h1.obj I1
  obtain ⟨mA, hns, hr⟩ := h2.ns I1
  obtain ⟨od, ho, hl⟩ := lookIn_ns hns
  obtain ⟨u, hu, ru⟩ := RelO.some_of (v := v) (o := mA n) (by have z := hr n; rwa [show ([(n, v)] : List (Str × V)).lookup n = some v by simp [List.lookup]] at z)
  have J : PySem.W.InstAt s1.heap a oe C (some od) := ⟨ha, hz.1, by unfold PySem.W.notCls; rw [hd] <;> rfl, by rw [hz.2]; exact ho⟩
  exact HandSPX.exc_get I1.kIn J T.ga T.gg T.exC (PySem.W.findObj_own T.hdC hno rfl (by rw [hl, hu])) (handed_of ru) ⟨v, H1, I1.tok _, ru, q⟩
/-- an error at a def's entry -/
def ExS (s : Shared) (ou : List Env) (H : Hp) (a C : Addr) (d : Option Addr) : Prop := ExAt H a C d ∨ ∃ (oe : Obj) (vs : Array Value), s.heap.get? a = some oe ∧ H a = none ∧ a ∉ frs ou ∧ Zc (.ref C) d oe ∧ oe.data = .fields vs
def ErS (s : Shared) (ou : List Env) (H : Hp) (a C : Addr) : Option (Str × V) → Prop
  | none => ExS s ou H a C none
  | some (f, v) => ∃ dd, ExS s ou H a C (some dd) ∧ FdAt H dd [(f, v)]
theorem ErAt.s {s : Shared} {ou : List Env} {H : Hp} {a C : Addr} {x : Option (Str × V)} (h : ErAt H a C x) : ErS s ou H a C x := by
  match x, h with
  | none, h => exact .inl h
  | some (f, v), ⟨dd, h1, h2⟩ => exact ⟨dd, .inl h1, h2⟩
theorem ErX.s {X : Cx} {pins : List (Addr × Obj)} {σ : L2.St} {H : Hp} {s : Shared} {a C : Addr} {x : Option (Str × V)} (I : Inv X pins σ H s) (h : ErX X H a C x) : ErS s X.stack H a C x := by
  have one : ∀ {d}, ExX X H a C d → ExS s X.stack H a C d := fun {d} h => by
    rcases h with h | ⟨oe, vs, p, z, e⟩
    · exact .inl h
    · obtain ⟨p1, p2, p3⟩ := p _ _ _ _ I
      exact .inr ⟨oe, vs, p1, p2, p3, z, e⟩
  match x, h with
  | none, h => exact one h
  | some (f, v), ⟨dd, h1, h2⟩ => exact ⟨dd, one h1, h2⟩
/-- and inside the def -/
theorem ErS.x {CX : CXT} {P : Program} {w : World} {K : PySem.W.Frag} {mg : Str → Option Value} {base : Heap} {N : List Str} {q : Str} {sc : Scope} {f : Addr} {cd : Value} {A : Around} {ou : List Env} {s : Shared} {H H1 : Hp} {E : XK} {a C : Addr} {x : Option (Str × V)}
    (h : ErS s ou H a C x) (k : Same H H1) : ErX (cxOf CX P w K mg base N q sc f cd A ou s H E) H1 a C x := by
  have one : ∀ {d}, ExS s ou H a C d → ExX (cxOf CX P w K mg base N q sc f cd A ou s H E) H1 a C d := fun {d} h => by
    rcases h with h | ⟨oe, vs, e1, e2, e3, z, e⟩
    · exact .inl (h.same k)
    · refine .inr ⟨oe, vs, fun pins σ H2 s2 I => ⟨I.base.keep a oe e1 e2 e3 (by intro z; cases z), I.base.free a oe e1 e2 (by intro z; cases z), ?_⟩, z, e⟩
      intro z
      have z : a ∈ frs (envOfC q sc s.heap.objs.size f cd :: ou) := z
      have z := List.mem_filterMap.mp z
      obtain ⟨ev, m, em⟩ := z
      rcases List.mem_cons.mp m with rfl | m
      · have em : some s.heap.objs.size = some a := em
        cases em
        exact absurd (Heap.lt_size e1) (Nat.lt_irrefl _)
      · exact e3 (List.mem_filterMap.mpr ⟨ev, m, em⟩)
  match x, h with
  | none, h => exact one h
  | some (f, v), ⟨dd, h1, h2⟩ => exact ⟨dd, one h1, h2.same k⟩
end NH
set_option maxHeartbeats 4000000
namespace NH
open PySem PySem.Spec PyProof.Rows L2 TL
/-- C(e, ..) as a value: a new error, then its __init__ -/
def tMkx (C : Addr) (sp : Sp) (ta : TA) : TE := fun σ H Q => ta σ H fun vs H1 => vs.length ≤ 1000 ∧ ∀ a, H1 a = none → sp (.ref a :: vs) (upd H1 a (exo a C none)) (fun v H2 => v = .non ∧ Q (.ref a) H2) (fun _ _ _ => False)
/-- the same, where it is raised -/
def tMkR (C : Addr) (sp : Sp) (ta : TA) : L2.St → Hp → XK → Prop := fun σ H Q => ta σ H fun vs H1 => vs.length ≤ 1000 ∧ ∀ a, H1 a = none → sp (.ref a :: vs) (upd H1 a (exo a C none))
  (fun v H2 => v = .non ∧ ∃ (d : Addr) (fs : List (Str × V)), H2 a = some (exo a C (some d)) ∧ H2 d = some (exd d fs) ∧ H1 d = none ∧ Q (.ref C) (some d) (upd (del H2 a) d (.xd fs))) (fun _ _ _ => False)
section
variable {X : Cx} {C fI : Addr} {k : Nat} {fd : FuncData} {ps : List Str} {sp : Sp} {x : Str} {e : Expr} {es : List Expr} {ta : TA} {p pos : Pos} {kws : List Keyword} {ks : List Str}
/-- the class's call, once its arguments are there -/
theorem mkx_core {pins : List (Addr × Obj)} {σ : L2.St} {H1 : Hp} {hp : Heap} {g : Array GenState} {dr : Drawn} {tk : Tok} {os : OsState} {us ws : List Value} {kw : List (Str × Value)} {vs : List V} {Q : VK} {Qe : Value → Shared → Prop} (hkw : kw = [] ∨ us = []) (T : OexC X.K C) (iC : PySem.W.findIn X.K (.ref C) "__init__" = some (some (.ref fI))) (tI : PySem.W.typeIn X.K (.ref fI) = some (.type "function"))
    (F1 : FnOk X.prog X.w X.K X.mg X.base CX0 k fI fd ps sp) (hr : Room (k + 1) X.A) (I1 : Inv X pins σ H1 ⟨hp, g, dr, tk, os⟩) (hus : us.length ≤ sizeLine)
    (hb : ∀ s' : Shared, X.K.In s'.heap → BindsTo s' fd ⟨.ref (hp.objs.size + 1) :: us, kw⟩ (ps.zip (.ref (hp.objs.size + 1) :: ws))) (rz : Vals vs ws)
    (hq : sp (.ref (hp.objs.size + 1) :: vs) (upd H1 (hp.objs.size + 1) (exo (hp.objs.size + 1) C none)) Q (fun _ _ _ => False))
    (fin : ∀ (I2 : Inv X pins σ (upd H1 (hp.objs.size + 1) (exo (hp.objs.size + 1) C none)) ⟨(hp.push (PySem.W.kdv_tup us)).push (PySem.HandSPX.excO C hp.objs.size), g, dr, tk, os⟩) (u : Value) (s' : Shared), CR CX0 X.stack X.prog X.w (upd H1 (hp.objs.size + 1) (exo (hp.objs.size + 1) C none)) ⟨(hp.push (PySem.W.kdv_tup us)).push (PySem.HandSPX.excO C hp.objs.size), g, dr, tk, os⟩ Q (fun _ _ _ => False) (.ok (.ret u)) s' → u = .none ∧ Qe (.ref (hp.objs.size + 1)) s') :
    wpAny (model X.prog X.w) X.A (call (.ref C) us kw) Qe X.xe ⟨hp, g, dr, tk, os⟩ := by
  obtain ⟨nm, q, N, bs, bm, sn, sub, ab, col, dd, k0, k1, k2, k3, k5, hC, hbm⟩ := T.cls
  have hsz : hp.objs.size ≤ hp.objs.size + 1 := Nat.le_succ _
  have hn : H1 (hp.objs.size + 1) = none := I1.hok.fresh hsz
  have kk : ∀ b o, hp.get? b = some o → ((hp.push (PySem.W.kdv_tup us)).push (PySem.HandSPX.excO C hp.objs.size)).get? b = some o := fun b o e => Heap.get?_push_of_some _ (Heap.get?_push_of_some _ e)
  have hget : ((hp.push (PySem.W.kdv_tup us)).push (PySem.HandSPX.excO C hp.objs.size)).get? (hp.objs.size + 1) = some (PySem.HandSPX.excO C hp.objs.size) := by heap_get
  have I2 : Inv X pins σ (upd H1 (hp.objs.size + 1) (exo (hp.objs.size + 1) C none)) ⟨(hp.push (PySem.W.kdv_tup us)).push (PySem.HandSPX.excO C hp.objs.size), g, dr, tk, os⟩ :=
    I1.laid (t' := tk) (a := hp.objs.size + 1) (o := exo (hp.objs.size + 1) C none) (h' := (hp.push (PySem.W.kdv_tup us)).push (PySem.HandSPX.excO C hp.objs.size)) kk hsz (exo_ok hget)
  have r2 : Vals (V.ref (hp.objs.size + 1) :: vs) (Value.ref (hp.objs.size + 1) :: ws) := .cons rfl rz
  have run := codeAny_mono (F1.run (X.A.under (.builtin "type.__call__" ⟨.ref C :: us, kw⟩)) X.stack _ _ ⟨Value.ref (hp.objs.size + 1) :: us, kw⟩ (Value.ref (hp.objs.size + 1) :: ws) _ Q (fun _ _ _ => False) (hr.make C us kw) (I2.env0.make C us kw) (hb _ I2.kIn) r2 hq)
    (fun r s' hq' => (show PySem.W.InitBack (hp.objs.size + 1) (fun r s' => match r with | .ok (.ret v) => Qe v s' | .ok _ => False | .error e => X.xe e s') r s' from by
      cases r with
      | error er => exact (hq' : False).elim
      | ok fl =>
        cases fl with
        | ret u => exact fin I2 u s' hq'
        | next => exact False.elim hq'
        | brk => exact False.elim hq'
        | cont => exact False.elim hq'))
  refine wpAny_call (codeAny_mono (R := fun r s' => match r with | .ok (.ret v) => Qe v s' | .ok _ => False | .error e => X.xe e s') ?_ fun r s' z => ?_)
  · rcases hkw with rfl | rfl
    · exact PySem.HandSPX.call_own F.excBase_ValueError (fun Y => PySem.HandSPX.refsVE_contains Y bm hbm) (I1.kIn _ _ hC) (PySem.W.looks_findIn I1.kIn iC) (fun self => PySem.W.bind_fn I1.kIn self tI) hus run
    · exact NX.call_ownK F.excBase_ValueError (fun Y => PySem.HandSPX.refsVE_contains Y bm hbm) (I1.kIn _ _ hC) (PySem.W.looks_findIn I1.kIn iC) (fun self => PySem.W.bind_fn I1.kIn self tI) run
  · cases r with
    | error er => exact z
    | ok fl => cases fl <;> exact z
/-- what binds a call: by place, by its one name -/
def BindP (K : PySem.W.Frag) (fd : FuncData) (fld : Str) : Prop := ∀ (s' : Shared) (u0 u : Value), K.In s'.heap → BindsTo s' fd ⟨[u0, u], []⟩ [(("self" : Str), u0), (fld, u)]
def BindK (K : PySem.W.Frag) (fd : FuncData) (fld : Str) : Prop := ∀ (s' : Shared) (u0 u : Value), K.In s'.heap → BindsTo s' fd ⟨[u0], [(fld, u)]⟩ [(("self" : Str), u0), (fld, u)]
variable {fld : Str}
theorem pe_mkx (T : OexC X.K C) (iC : PySem.W.findIn X.K (.ref C) "__init__" = some (some (.ref fI))) (tI : PySem.W.typeIn X.K (.ref fI) = some (.type "function"))
    (F1 : FnOk X.prog X.w X.K X.mg X.base CX0 k fI fd ["self", fld] sp) (hr : Room (k + 1) X.A) (hb : BindP X.K fd fld) (hm : X.mg x = some (.ref C)) (ha : PE X e te) (hg : Gl X x := by rfl)
    (hdb : (x == ("__debug__" : Str)) = false := by decide) (he : starEach [e] X.env = (false, eval e X.env) :: starEach [] X.env := by rfl) (hpl : (backTo pos (starEach [] X.env)).any (·.1) = false := by rfl) :
    PE X (.Call (.Name x p) [e] [] pos) (tMkx C sp (tCons te tNil)) := by
  refine ⟨fun pins s σ H Q I h => ?_⟩
  refine wpAny_Call_Name_kw (ld_glob I hg hm ?_ hdb)
  have hpa : PA X [e] (tCons te tNil) := pa_cons ha pa_nil he
  refine PySem.W.callWith_K (h₀ := X.base) I.ok.mod.kin T.kC (thn (hpa.run pos pins s σ H _ I h) fun us s1 ⟨vs, H1, I1, r1, hz, q1⟩ => ⟨I1.kIn, ?_⟩) he hpl
  obtain ⟨hp, g, dr, tk, os⟩ := s1
  have hq := q1 (hp.objs.size + 1) (I1.hok.fresh (Nat.le_succ _))
  have l2 : us.length = 1 := by
    have e1 := F1.len _ _ _ _ hq
    have e2 := Paired.length r1
    simp at e1; omega
  match us, l2 with
  | [u], _ =>
    refine mkx_core (.inl rfl) T iC tI F1 hr I1 (by rw [sizeLine_eq]; show 1 ≤ _; omega) (fun s' k => hb s' _ _ k) r1 hq fun I2 u s' hq' => ?_
    obtain ⟨v, H2, I3, rv, ev, q3⟩ := I2.after hq'
    subst ev
    exact ⟨rv, ⟨V.ref (hp.objs.size + 1), H2, I3, rfl, q3⟩⟩
theorem pe_mkxK (T : OexC X.K C) (iC : PySem.W.findIn X.K (.ref C) "__init__" = some (some (.ref fI))) (tI : PySem.W.typeIn X.K (.ref fI) = some (.type "function"))
    (F1 : FnOk X.prog X.w X.K X.mg X.base CX0 k fI fd ["self", fld] sp) (hr : Room (k + 1) X.A) (hb : BindK X.K fd fld) (hm : X.mg x = some (.ref C)) (ha : PE X e te) (hg : Gl X x := by rfl)
    (hdb : (x == ("__debug__" : Str)) = false := by decide) (hall : (backToKw pos (keywordEach [⟨some fld, e, kp⟩] X.env)).all (·.1.isSome) = true := by rfl) (hks : (backToKw pos (keywordEach [⟨some fld, e, kp⟩] X.env)).filterMap (·.1) = [fld] := by rfl)
    (hpl : ((backTo pos (starEach [] X.env)).any (·.1) || (backToKw pos (keywordEach [⟨some fld, e, kp⟩] X.env)).any (·.1.isNone)) = false := by rfl) :
    PE X (.Call (.Name x p) [] [⟨some fld, e, kp⟩] pos) (tMkx C sp (tCons te tNil)) := by
  refine ⟨fun pins s σ H Q I h => ?_⟩
  refine wpAny_Call_Name_kw (ld_glob I hg hm ?_ hdb)
  have hkw : PK X [⟨some fld, e, kp⟩] (tCons te tNil) := pk_cons ha pk_nil
  refine PySem.W.callWith_KW0 (h₀ := X.base) I.ok.mod.kin T.kC hall (thn (hkw.run pos pins s σ H _ I h) fun us s1 ⟨vs, H1, I1, r1, hz, q1⟩ => ⟨I1.kIn, ?_⟩) hpl
  rw [hks]
  obtain ⟨hp, g, dr, tk, os⟩ := s1
  have hq := q1 (hp.objs.size + 1) (I1.hok.fresh (Nat.le_succ _))
  have l2 : us.length = 1 := by
    have e1 := F1.len _ _ _ _ hq
    have e2 := Paired.length r1
    simp at e1; omega
  match us, l2 with
  | [u], _ =>
    refine mkx_core (us := []) (.inr rfl) T iC tI F1 hr I1 (Nat.zero_le _) (fun s' k => hb s' _ _ k) r1 hq fun I2 u s' hq' => ?_
    obtain ⟨v, H2, I3, rv, ev, q3⟩ := I2.after hq'
    subst ev
    exact ⟨rv, ⟨V.ref (hp.objs.size + 1), H2, I3, rfl, q3⟩⟩
theorem mkR_end {pins : List (Addr × Obj)} {σ : L2.St} {H1 : Hp} {hp : Heap} {g : Array GenState} {dr : Drawn} {tk : Tok} {os : OsState} {us : List Value} {Q : XK} (T : OexC X.K C) (I1 : Inv X pins σ H1 ⟨hp, g, dr, tk, os⟩) {u : Value} {s' : Shared}
    (hq' : CR CX0 X.stack X.prog X.w (upd H1 (hp.objs.size + 1) (exo (hp.objs.size + 1) C none)) ⟨(hp.push (PySem.W.kdv_tup us)).push (PySem.HandSPX.excO C hp.objs.size), g, dr, tk, os⟩
      (fun v H2 => v = .non ∧ ∃ (d : Addr) (fs : List (Str × V)), H2 (hp.objs.size + 1) = some (exo (hp.objs.size + 1) C (some d)) ∧ H2 d = some (exd d fs) ∧ H1 d = none ∧ Q (.ref C) (some d) (upd (del H2 (hp.objs.size + 1)) d (.xd fs))) (fun _ _ _ => False) (.ok (.ret u)) s') :
    u = .none ∧ MkP X pins σ Q (.ref (hp.objs.size + 1)) s' := by
  have kk : ∀ b o, hp.get? b = some o → ((hp.push (PySem.W.kdv_tup us)).push (PySem.HandSPX.excO C hp.objs.size)).get? b = some o := fun b o e => Heap.get?_push_of_some _ (Heap.get?_push_of_some _ e)
  obtain ⟨v, H2, os2, bare2, un2, hok2, rv, ev, d, fs, ea, ed, hd1, q2⟩ := hq'
  subst ev
  obtain ⟨h2, g2, d2, t2, os'⟩ := s'
  exact ⟨rv, mk_end (raises_own T.exC T.tyC) I1 (Nat.le_succ _) kk un2 hok2 os2 bare2 ea ed hd1 q2⟩
theorem pmk_x (T : OexC X.K C) (iC : PySem.W.findIn X.K (.ref C) "__init__" = some (some (.ref fI))) (tI : PySem.W.typeIn X.K (.ref fI) = some (.type "function"))
    (F1 : FnOk X.prog X.w X.K X.mg X.base CX0 k fI fd ["self", fld] sp) (hr : Room (k + 1) X.A) (hb : BindP X.K fd fld) (hm : X.mg x = some (.ref C)) (ha : PE X e te) (hg : Gl X x := by rfl)
    (hdb : (x == ("__debug__" : Str)) = false := by decide) (he : starEach [e] X.env = (false, eval e X.env) :: starEach [] X.env := by rfl) (hpl : (backTo pos (starEach [] X.env)).any (·.1) = false := by rfl) :
    PMk X (.Call (.Name x p) [e] [] pos) (tMkR C sp (tCons te tNil)) := by
  intro pins s σ H Q I h
  refine wpAny_Call_Name_kw (ld_glob I hg hm ?_ hdb)
  have hpa : PA X [e] (tCons te tNil) := pa_cons ha pa_nil he
  refine PySem.W.callWith_K (h₀ := X.base) I.ok.mod.kin T.kC (thn (hpa.run pos pins s σ H _ I h) fun us s1 ⟨vs, H1, I1, r1, hz, q1⟩ => ⟨I1.kIn, ?_⟩) he hpl
  obtain ⟨hp, g, dr, tk, os⟩ := s1
  have hq := q1 (hp.objs.size + 1) (I1.hok.fresh (Nat.le_succ _))
  have l2 : us.length = 1 := by
    have e1 := F1.len _ _ _ _ hq
    have e2 := Paired.length r1
    simp at e1; omega
  match us, l2 with
  | [u], _ => exact mkx_core (.inl rfl) T iC tI F1 hr I1 (by rw [sizeLine_eq]; show 1 ≤ _; omega) (fun s' k => hb s' _ _ k) r1 hq fun I2 u s' hq' => mkR_end T I1 hq'
theorem pmk_xK (T : OexC X.K C) (iC : PySem.W.findIn X.K (.ref C) "__init__" = some (some (.ref fI))) (tI : PySem.W.typeIn X.K (.ref fI) = some (.type "function"))
    (F1 : FnOk X.prog X.w X.K X.mg X.base CX0 k fI fd ["self", fld] sp) (hr : Room (k + 1) X.A) (hb : BindK X.K fd fld) (hm : X.mg x = some (.ref C)) (ha : PE X e te) (hg : Gl X x := by rfl)
    (hdb : (x == ("__debug__" : Str)) = false := by decide) (hall : (backToKw pos (keywordEach [⟨some fld, e, kp⟩] X.env)).all (·.1.isSome) = true := by rfl) (hks : (backToKw pos (keywordEach [⟨some fld, e, kp⟩] X.env)).filterMap (·.1) = [fld] := by rfl)
    (hpl : ((backTo pos (starEach [] X.env)).any (·.1) || (backToKw pos (keywordEach [⟨some fld, e, kp⟩] X.env)).any (·.1.isNone)) = false := by rfl) :
    PMk X (.Call (.Name x p) [] [⟨some fld, e, kp⟩] pos) (tMkR C sp (tCons te tNil)) := by
  intro pins s σ H Q I h
  refine wpAny_Call_Name_kw (ld_glob I hg hm ?_ hdb)
  have hkw : PK X [⟨some fld, e, kp⟩] (tCons te tNil) := pk_cons ha pk_nil
  refine PySem.W.callWith_KW0 (h₀ := X.base) I.ok.mod.kin T.kC hall (thn (hkw.run pos pins s σ H _ I h) fun us s1 ⟨vs, H1, I1, r1, hz, q1⟩ => ⟨I1.kIn, ?_⟩) hpl
  rw [hks]
  obtain ⟨hp, g, dr, tk, os⟩ := s1
  have hq := q1 (hp.objs.size + 1) (I1.hok.fresh (Nat.le_succ _))
  have l2 : us.length = 1 := by
    have e1 := F1.len _ _ _ _ hq
    have e2 := Paired.length r1
    simp at e1; omega
  match us, l2 with
  | [u], _ => exact mkx_core (us := []) (.inr rfl) T iC tI F1 hr I1 (Nat.zero_le _) (fun s' k => hb s' _ _ k) r1 hq fun I2 u s' hq' => mkR_end T I1 hq'
/-- C(), a class without an __init__ of its own -/
theorem pe_mk0 {bmB : List Value} {B newId initId : String} (F : ExcBaseFacts B newId initId bmB) (q : PySem.W.excIn X.K C bmB newId = true) (gC : X.mg x = some (.ref C)) (kC : PySem.W.keepIn X.K (.ref C) = true) (hg : Gl X x := by rfl)
    (hdb : (x == ("__debug__" : Str)) = false := by decide) : PE X (.Call (.Name x p) [] [] pos) (fun σ H Q => ∀ a, H a = none → Q (.ref a) (upd H a (ExO (.ref C) a))) := by
  refine ⟨fun pins s σ H Q I h => ?_⟩
  refine wpAny_Call_Name_kw (ld_glob I hg gC ?_ hdb)
  refine PySem.W.callWith_K0 I.kIn kC ?_
  have I1 := I
  show wpAny _ _ (call (.ref C) []) _ _ _
  obtain ⟨bm, N, nm, qn, bs, hdct, sn, sub, ab, col, dd, k0, k1, k2, k3, k5, mN, hC, hN, hni, T⟩ := exc_obj I1.kIn q
  refine wpAny_call_exc_subT F T hC hN hni (fun h' a hm => ?_) (Nat.zero_le _)
  have hn : H a = none := I1.hok.gone hm.new
  obtain ⟨t, ht, _, _⟩ := hm.there
  exact ⟨.ref a, upd H a (ExO (.ref C) a), I1.laidN hm.keeps hm.new hn (exO_ok ht ⟨rfl, rfl⟩ rfl rfl rfl (show 4 < 6 by decide)), rfl, h a hn⟩
theorem pmk_0 {bmB : List Value} {B newId initId : String} (F : ExcBaseFacts B newId initId bmB) (q : PySem.W.excIn X.K C bmB newId = true) (gC : X.mg x = some (.ref C)) (kC : PySem.W.keepIn X.K (.ref C) = true) (r : Raises X (.ref C)) (hg : Gl X x := by rfl)
    (hdb : (x == ("__debug__" : Str)) = false := by decide) : PMk X (.Call (.Name x p) [] [] pos) (fun _ H Q => Q (.ref C) none H) := by
  intro pins s σ H Q I h
  refine wpAny_Call_Name_kw (ld_glob I hg gC ?_ hdb)
  refine PySem.W.callWith_K0 I.kIn kC ?_
  have I1 := I
  show wpAny _ _ (call (.ref C) []) _ _ _
  obtain ⟨bm, N, nm, qn, bs, hdct, sn, sub, ab, col, dd, k0, k1, k2, k3, k5, mN, hC, hN, hni, T⟩ := exc_obj I1.kIn q
  exact wpAny_call_exc_subT F T hC hN hni (fun h' e hm => mk_of I1 hm r h (I1.hok.gone hm.new)) (Nat.zero_le _)
end
end NH
set_option maxHeartbeats 4000000
/-! two errors compared -/
namespace NX
open PySem PySem.Spec PyProof.Rows PySem.SeqAt
/-- what a class says of == -/
structure EqC (K : PySem.W.Frag) (C : Addr) : Prop where
  ob : PySem.W.mroIn K C (.type "object") = some true
  eq : PySem.W.findIn K (.ref C) "__eq__" = some (some (.builtin "object.__eq__"))
  ne : PySem.W.findIn K (.ref C) "__ne__" = some (some (.builtin "object.__ne__"))
section
variable {M : Model} {prog : Program} {w : World} {A : Around} {E : Value → Shared → Prop} {s : Shared} {K : PySem.W.Frag} {x y C D : Addr} {ox oy : Obj} {od od' : Option Obj}
theorem noT (I : PySem.W.InstAt s.heap x ox C od) : ox.cls ≠ .type "tuple" := by rw [I.cls]; intro z; cases z
theorem call_eq {Q : Value → Shared → Prop} (X : K.In s.heap) (I : PySem.W.InstAt s.heap x ox C od) (J : PySem.W.InstAt s.heap y oy D od') (hxy : x ≠ y) (c : EqC K C) (hq : Q .notImplemented s) :
    wpAny (model prog w) A (call (.builtin "object.__eq__") [.ref x, .ref y]) Q E s :=
  wpAny_call (codeAny_call_builtin F.cmp_object.eq.plain F.cmpEntry_eq (PySem.W.check_slot F.cmpKind_eq F.cmpSplit_eq (I.type.andThen (PySem.W.looks_mroIn X c.ob)) (F.cmpArgs_eq _ _) (objEq_entry_other hxy I.at_ J.at_ (noT I) hq)))
theorem ifBound_ne {args : List Value} {Q : Option Value → Shared → Prop} (X : K.In s.heap) (I : PySem.W.InstAt s.heap x ox C od) (hs : PySem.W.findIn K (.ref C) "__ne__" = some (some (.builtin "object.__ne__")))
    (h : wpAny M A (call (.builtin "object.__ne__") (.ref x :: args)) (fun v => Q (some v)) E s) : wpAny M A (callSpecialIfBound? (.ref x) "__ne__" args) Q E s := by
  simp only [callSpecialIfBound?, bindSpecialIfBound?]
  refine wpAny_holding (wpAny_bind (wpAny_bind (wpAny_bind (I.type.here ((PySem.W.looks_findIn X hs).here ?_)))))
  refine wpAny_bind (wpAny_askSetting (wpAny_ite ?_))
  have fin : wpAny M A (call (.builtin "object.__ne__") ([.ref x] ++ args) >>= fun v => pure (some v)) Q E s := wpAny_bind (wpAny_mono h (fun v s' h' => wpAny_pure h') fun _ _ h' => h')
  split
  · exact wpAny_bind (wpAny_of_eq (F.cmp_object.ne.bind _) (wpAny_pure (by exact fin)))
  · exact wpAny_tryCatch (wpAny_bind (wpAny_of_eq (F.cmp_object.ne.bind _) (wpAny_pure (by exact fin))))
theorem one_eq (X : K.In s.heap) (I : PySem.W.InstAt s.heap x ox C od) (J : PySem.W.InstAt s.heap y oy D od') (hxy : x ≠ y) (c : EqC K C) : wpAny (model prog w) A (tryCompare (.ref x) "__eq__" (.ref y)) (fun r s' => r = none ∧ s' = s) E s := by
  unfold tryCompare
  exact wpAny_bind (HN.ifBound_objEq X I c.eq (call_eq X I J hxy c (wpAny_pure ⟨rfl, rfl⟩)))
theorem entry_ne (X : K.In s.heap) (I : PySem.W.InstAt s.heap x ox C od) (J : PySem.W.InstAt s.heap y oy D od') (hxy : x ≠ y) (c : EqC K C) (hu : A.units < cLine) {Q : Fin → Shared → Prop} (hq : Q (.done (.ret .notImplemented)) s) :
    wpAny (model prog w) A (Builtin.«object.__ne__» ⟨[.ref x, .ref y], []⟩) Q E s := by
  unfold Builtin.«object.__ne__»
  have sp : ∀ {A' : Around} {Q' : Option Value → Shared → Prop}, Q' (some .notImplemented) s → wpAny (model prog w) A' (callSpecialIfBound? (.ref x) "__eq__" [.ref y]) Q' E s := fun q => HN.ifBound_objEq X I c.eq (call_eq X I J hxy c q)
  repeat (first | with_reducible refine wpAny_cRoomFor hu ?_ | with_reducible refine sp ?_ | wp_step)
  exact hq
theorem one_ne (X : K.In s.heap) (I : PySem.W.InstAt s.heap x ox C od) (J : PySem.W.InstAt s.heap y oy D od') (hxy : x ≠ y) (c : EqC K C) (hu : A.units + 1 < cLine) : wpAny (model prog w) A (tryCompare (.ref x) "__ne__" (.ref y)) (fun r s' => r = none ∧ s' = s) E s := by
  unfold tryCompare
  refine wpAny_bind (ifBound_ne X I c.ne (wpAny_call (codeAny_call_builtin F.cmp_object.ne.plain F.cmpEntry_ne (PySem.W.check_slot F.cmpKind_ne F.cmpSplit_ne (I.type.andThen (PySem.W.looks_mroIn X c.ob)) (F.cmpArgs_ne _ _) (entry_ne (A := A.in1) X I J hxy c hu ?_)))))
  exact wpAny_pure ⟨rfl, rfl⟩
theorem rc_errs (hu : A.units < cLine) (X : K.In s.heap) (I : PySem.W.InstAt s.heap x ox C od) (J : PySem.W.InstAt s.heap y oy D od') (hxy : x ≠ y) (c : EqC K C) (d : EqC K D) (hsub : C ≠ D → PySem.W.subIn K (.ref D) (.ref C) = some false) : RcAt A s (.ref x) (.ref y) false := fun prog w E Q h => by
  have one := one_eq (prog := prog) (w := w) (A := A) (E := E) X I J hxy c
  have two := one_eq (prog := prog) (w := w) (A := A) (E := E) X J I (Ne.symm hxy) d
  simp only [richCompare, cmpInfo_Eq, oneThing_ref]
  refine wpAny_holding (wpAny_bind (wpAny_cRoomFor hu ?_))
  refine wpAny_bind (I.type.here ?_)
  refine wpAny_bind (J.type.here ?_)
  have rest : ∀ {k : Bool → Sem Value} (hk : wpAny (model prog w) A (k false) Q E s), wpAny (model prog w) A (if Value.ref C != Value.ref D then isSubtype (.ref D) (.ref C) >>= k else pure false >>= k) Q E s := fun {k} hk => by
    by_cases hCD : C = D
    · subst hCD
      rw [if_neg (by simp)]
      exact wpAny_bind (wpAny_pure hk)
    · rw [if_pos (by simp [hCD])]
      exact wpAny_bind ((PySem.W.looks_subIn X (hsub hCD)).here hk)
  refine rest ?_
  simp only [Bool.false_eq_true, if_false, Bool.not_false, if_true]
  refine wpAny_bind (m := tryCompare (.ref x) _ (.ref y)) (wpAny_mono one (fun r s1 z => ?_) fun _ _ e => e)
  obtain ⟨z1, z2⟩ := z
  subst z1
  subst z2
  refine wpAny_bind (m := tryCompare (.ref y) _ (.ref x)) (wpAny_mono two (fun r s2 z => ?_) fun _ _ e => e)
  obtain ⟨z1, z2⟩ := z
  subst z1
  subst z2
  repeat (first | with_reducible refine wpAny_isSame_ref_other hxy I.at_ J.at_ (noT I) ?_ | wp_step)
  exact h
theorem rn_errs (hu : A.units + 1 < cLine) (X : K.In s.heap) (I : PySem.W.InstAt s.heap x ox C od) (J : PySem.W.InstAt s.heap y oy D od') (hxy : x ≠ y) (c : EqC K C) (d : EqC K D) (hsub : C ≠ D → PySem.W.subIn K (.ref D) (.ref C) = some false) : RcNeAt A s (.ref x) (.ref y) true := fun prog w E Q h => by
  have hu0 : A.units < cLine := Nat.lt_of_succ_lt hu
  have one := one_ne (prog := prog) (w := w) (A := A) (E := E) X I J hxy c hu
  have two := one_ne (prog := prog) (w := w) (A := A) (E := E) X J I (Ne.symm hxy) d hu
  simp only [richCompare, cmpInfo_NotEq, oneThing_ref]
  refine wpAny_holding (wpAny_bind (wpAny_cRoomFor hu0 ?_))
  refine wpAny_bind (I.type.here ?_)
  refine wpAny_bind (J.type.here ?_)
  have rest : ∀ {k : Bool → Sem Value} (hk : wpAny (model prog w) A (k false) Q E s), wpAny (model prog w) A (if Value.ref C != Value.ref D then isSubtype (.ref D) (.ref C) >>= k else pure false >>= k) Q E s := fun {k} hk => by
    by_cases hCD : C = D
    · subst hCD
      rw [if_neg (by simp)]
      exact wpAny_bind (wpAny_pure hk)
    · rw [if_pos (by simp [hCD])]
      exact wpAny_bind ((PySem.W.looks_subIn X (hsub hCD)).here hk)
  refine rest ?_
  simp only [Bool.false_eq_true, if_false, Bool.not_false, if_true]
  refine wpAny_bind (m := tryCompare (.ref x) _ (.ref y)) (wpAny_mono one (fun r s1 z => ?_) fun _ _ e => e)
  obtain ⟨z1, z2⟩ := z
  subst z1
  subst z2
  refine wpAny_bind (m := tryCompare (.ref y) _ (.ref x)) (wpAny_mono two (fun r s2 z => ?_) fun _ _ e => e)
  obtain ⟨z1, z2⟩ := z
  subst z1
  subst z2
  repeat (first | with_reducible refine wpAny_isSame_ref_other hxy I.at_ J.at_ (noT I) ?_ | wp_step)
  exact h
end
end NX
namespace NH
open PySem PySem.Spec PyProof.Rows L2 TL
section
variable {X : Cx}
def rErr (K : PySem.W.Frag) (b : Bool) : R2 := fun x y H Q => ∃ (a c C D : Addr) (u v : Option (Str × V)), x = .ref a ∧ y = .ref c ∧ a ≠ c ∧ ErAt H a C u ∧ ErAt H c D v ∧ NX.EqC K C ∧ NX.EqC K D ∧ (C ≠ D → PySem.W.subIn K (.ref D) (.ref C) = some false) ∧ Q (.bl b) H
theorem op_eqErr (hu : X.A.units + 1 < cLine) : OpR X (compareOp .Eq) (rErr X.K false) := by
  intro pins s σ H x y v u Q I rx ry h
  obtain ⟨a, c, C, D, ux, uy, rfl, rfl, ne, ha, hc, eC, eD, hs, q⟩ := h
  cases rx
  cases ry
  obtain ⟨oa, da, Ja⟩ := ha.inst I
  obtain ⟨oc, dc, Jc⟩ := hc.inst I
  exact NX.rc_errs (Nat.lt_of_succ_lt hu) I.kIn Ja Jc ne eC eD hs X.prog X.w X.xe _ ⟨.bl _, H, I, rfl, q⟩
theorem op_neErr (hu : X.A.units + 1 < cLine) : OpR X (compareOp .NotEq) (rErr X.K true) := by
  intro pins s σ H x y v u Q I rx ry h
  obtain ⟨a, c, C, D, ux, uy, rfl, rfl, ne, ha, hc, eC, eD, hs, q⟩ := h
  cases rx
  cases ry
  obtain ⟨oa, da, Ja⟩ := ha.inst I
  obtain ⟨oc, dc, Jc⟩ := hc.inst I
  exact NX.rn_errs hu I.kIn Ja Jc ne eC eD hs X.prog X.w X.xe _ ⟨.bl _, H, I, rfl, q⟩
end
end NH
set_option maxHeartbeats 4000000
namespace NH
open PySem PySem.Spec PyProof.Rows L2 TL
/-- what is asked of a call, by its entry too -/
abbrev SpS := Shared → List Env → Sp
structure FnE (P : Program) (w : World) (K : PySem.W.Frag) (mg : Str → Option Value) (base : Heap) (k : Nat) (f : Addr) (fd : FuncData) (ps : List Str) (sp : SpS) : Prop where
  long : ∀ s ou vs H Q E, sp s ou vs H Q E → vs.length = ps.length
  goes : ∀ (A : Around) (ou : List Env) (s : Shared) (H : Hp) (ar : Args) (us : List Value) (vs : List V) (Q : VK) (E : XK), A.guards = some [] → Room k A → Env0 P w K mg base A ou s H →
    BindsTo s fd ar (ps.zip us) → Vals vs us → sp s ou vs H Q E → codeAny (model P w) A (.call (.ref f) ar) (CR CX0 ou P w H s Q E) s
section
variable {P : Program} {w : World} {K : PySem.W.Frag} {mg : Str → Option Value} {base : Heap} {k : Nat} {f : Addr} {fd : FuncData} {sp : SpS}
theorem FnE.make {x : Str} {st : Stmt} {N ps : List Str} (F : FunD K x x (defArgs st) (defBody st) (defScope st) [] [] f fd) (S : FnScope N ps (defScope st)) (long : ∀ s ou vs H Q E, sp s ou vs H Q E → vs.length = ps.length)
    (does : ∀ (cd : Value) (A : Around) (ou : List Env) (s : Shared) (H : Hp) (vs : List V) (Q : VK) (E : XK), A.guards = some [] → Room k (A.deeper (envOfC x (defScope st) s.heap.objs.size f cd)) → sp s ou vs H Q E →
      ∃ t, PSs (cxOf CX0 P w K mg base N x (defScope st) f cd A ou s H E) (defBody st) t ∧ t { nx := fun _ H' => Q .non H', rt := Q } (start N vs) H) : FnE P w K mg base (k + 1) f fd ps sp := by
  obtain ⟨_, _, _, _, _, _, _, cd, _, _, rfl, here, code, _⟩ := F.ex
  refine ⟨long, fun A ou s H ar us vs Q E hg hr e0 bnd rel want => ?_⟩
  have stays : ∀ (b : Addr) (o : Obj), base.get? b = some o → s.heap.get? b = some o := fun b o e => (e0.bs b o e).1
  have KH : K.In s.heap := e0.mod.kin.keeps stays
  have kinds : ∀ y ∈ ps.zip us, (defScope st).names.lookup y.1 = some .local ∨ ((defScope st).names.lookup y.1 = some .cell ∧ ((cellsFrom (s.heap.objs.size + 1) (defScope st).names []).lookup y.1).isSome = true) := by
    rintro ⟨n, v⟩ hy
    exact (S.par n (List.of_mem_zip hy).1).imp id fun q => ⟨q, PySem.W.cellsFrom_some _ _ _ (.inl q)⟩
  refine codeAny_call_function hr.depth (KH _ _ here) rfl S.co S.gen rfl (PySem.W.codeRec_of KH code) (bnd _ _ _ _ (wpAny_newFunctionEnv_cells S.kind kinds ?_))
  rintro env rfl s1 made
  refine ⟨(e0.mod.nolimit.keeps stays).keeps made.toInCall.keep, codeAny_func ?_⟩
  obtain ⟨t, runs, holds⟩ := does cd A ou s H vs Q E hg (hr.deeper _) want
  refine wpAny_mono (runs.run [] s1 (start N vs) H _ (inv_start S hr.hd e0 (long _ _ _ _ _ _ want) rel made) holds) (fun fl s' z => ?_) fun _ _ z => z
  cases fl with
  | brk => rcases z with ⟨_, _, _, z⟩; exact z.elim
  | cont => rcases z with ⟨_, _, _, z⟩; exact z.elim
  | ret u => obtain ⟨v, σ', H', J, rv, q⟩ := z; exact ⟨v, H', J.os, J.bare, J.base, J.hok, rv, q⟩
  | next => obtain ⟨σ', H', J, q⟩ := z; exact ⟨V.non, H', J.os, J.bare, J.base, J.hok, rfl, q⟩
end
structure CalleeE (P : Program) (w : World) (K : PySem.W.Frag) (mg : Str → Option Value) (base : Heap) (k : Nat) (x : Str) (ps : List Str) (sp : SpS) : Prop where
  ex : ∃ f fd, mg x = some (.ref f) ∧ PySem.W.keepIn K (.ref f) = true ∧ Binds K fd ps [] ∧ FnE P w K mg base k f fd ps sp
section
variable {P : Program} {w : World} {K : PySem.W.Frag} {mg : Str → Option Value} {base : Heap} {X : Cx}
theorem calleeE {x : Str} {st : Stmt} {N ps : List Str} {k : Nat} {sp : SpS} (D : DefAt K mg x st) (S : FnScope N ps (defScope st)) (len : ∀ s ou vs H Q E, sp s ou vs H Q E → vs.length = ps.length)
    (hb : ∀ (kV doc pm : Value) (an : Option Addr) (cdv ct : Value) (us : List Value), us.length = ps.length → bindArgs (PySem.W.fnOf x x (defArgs st) (defBody st) (defScope st) .none kV doc pm an cdv ct) ⟨us, []⟩ = pure (ps.zip us))
    (does : ∀ (f : Addr) (cdv : Value) (A : Around) (outer : List Env) (s : Shared) (H : Hp) (vs : List V) (Q : VK) (E : XK), A.guards = some [] → Room k (A.deeper (envOfC x (defScope st) s.heap.objs.size f cdv)) → sp s outer vs H Q E →
      ∃ t, PSs (cxOf CX0 P w K mg base N x (defScope st) f cdv A outer s H E) (defBody st) t ∧ t { nx := fun _ H' => Q .non H', rt := Q } (start N vs) H) : CalleeE P w K mg base (k + 1) x ps sp := by
  obtain ⟨fd, F⟩ := D.f
  exact ⟨_, fd, D.g, F.kp, F.bindsN hb, FnE.make F S len fun cdv A outer s H vs Q E hg hr h => does _ cdv A outer s H vs Q E hg hr h⟩
/-- f(e, ..), read with the state at the call -/
def tCalE (X : Cx) (sp : SpS) (t : TA) : TE := fun σ H Q => t σ H fun vs H1 => ∀ pins s, Inv X pins σ H1 s → sp s X.stack vs H1 Q E0
theorem pe_calE {k j : Nat} {x : Str} {ps : List Str} {sp : SpS} {e : Expr} {es : List Expr} {p pos : Pos} {t : TA} (c : CalleeE X.prog X.w X.K X.mg X.base k x ps sp) (hgu : X.A.guards = some []) (hr : Room j X.A) (hj : k ≤ j) (ha : PA X (e :: es) t) (hg : Gl X x := by rfl)
    (hdb : (x == ("__debug__" : Str)) = false := by decide) (he : starEach (e :: es) X.env = (false, eval e X.env) :: starEach es X.env := by rfl) (hpl : (backTo pos (starEach es X.env)).any (·.1) = false := by rfl) :
    PE X (.Call (.Name x p) (e :: es) [] pos) (tCalE X sp t) := by
  obtain ⟨f, fd, hm, hk, hb, F⟩ := c.ex
  refine ⟨fun pins s σ H Q I h => wpAny_Call_Name_kw (ld_glob I hg hm ?_ hdb)⟩
  refine PySem.W.callWith_K (h₀ := X.base) I.ok.mod.kin hk (thn (ha.run pos pins s σ H _ I h) fun us s1 ⟨vs, H1, J, rel, want⟩ => ⟨J.kIn, ?_⟩) he hpl
  have want := want pins s1 J
  have bnd := hb s1 us J.kIn (by rw [List.append_nil, ← rel.length]; exact F.long _ _ _ _ _ _ want)
  rw [List.append_nil] at bnd
  refine wpAny_call (codeAny_mono (F.goes X.A X.stack s1 H1 ⟨us, []⟩ us vs Q E0 hgu (hr.mono hj) J.env0 bnd rel want) fun r s' z => ?_)
  match r, z with
  | .ok (.ret _), z => exact J.after z
end
/-- the error that a suite holds -/
theorem pinX_suite {X : Cx} {a : Addr} {oe : Obj} {pn : List (Addr × Obj)} (hs : X.stack = X.env :: X.outer) (hf : X.env.frame = some X.env.locals) : PinX (X.suite a ((a, oe) :: pn)) a oe := fun pins σ H s I => by
  obtain ⟨e, n, nl, nf, _⟩ := I.pin (a, oe) (List.mem_append.mpr (.inl List.mem_cons_self))
  refine ⟨e, n, fun z => ?_⟩
  have z : a ∈ frs X.stack := z
  rw [hs] at z
  obtain ⟨ev, m, em⟩ := List.mem_filterMap.mp z
  rcases List.mem_cons.mp m with rfl | m
  · rw [hf] at em; cases em; exact nl rfl
  · exact nf (List.mem_filterMap.mpr ⟨ev, m, em⟩)
end NH
set_option maxHeartbeats 4000000
namespace NH
open PySem PySem.Spec PyProof.Rows L2 TL
/-- the error classes' names, and what each keeps -/
def en : List Str := [("InvalidPorts" : Str), ("InvalidSide" : Str), ("InvalidText" : Str), ("InvalidName" : Str), ("InvalidNumbers" : Str), ("InvalidBegins" : Str), ("InvalidDoes" : Str), ("InvalidRefuses" : Str), ("InvalidIndex" : Str), ("InvalidState" : Str), ("InvalidProcesses" : Str), ("InvalidStanding" : Str), ("InvalidHands" : Str), ("InvalidMeetings" : Str), ("InvalidHand" : Str), ("InvalidStopped" : Str), ("InvalidRound" : Str), ("InvalidOrder" : Str), ("InvalidPolicy" : Str), ("InvalidRows" : Str), ("InvalidSums" : Str), ("InvalidCosts" : Str), ("InvalidCounts" : Str), ("InvalidWeights" : Str), ("InvalidDepth" : Str), ("InvalidCount" : Str), ("InvalidRanks" : Str), ("InvalidProcess" : Str), ("InvalidRules" : Str), ("InvalidFacts" : Str), ("InvalidVerdict" : Str), ("InvalidLine" : Str), ("NotDue" : Str), ("Refused" : Str), ("TooMany" : Str), ("Gone" : Str), ("Stopped" : Str), ("NoSolution" : Str), ("NotLeft" : Str), ("Near" : Str), ("Still" : Str), ("NotNumber" : Str), ("Struck" : Str), ("KeptUp" : Str), ("NoNet" : Str), ("MayStand" : Str), ("Empty" : Str), ("NothingToUndo" : Str), ("NothingToRedo" : Str)]
def ef : List Str := [("given" : Str), ("given" : Str), ("given" : Str), ("given" : Str), ("given" : Str), ("given" : Str), ("given" : Str), ("given" : Str), ("given" : Str), ("given" : Str), ("given" : Str), ("given" : Str), ("given" : Str), ("given" : Str), ("given" : Str), ("given" : Str), ("given" : Str), ("given" : Str), ("given" : Str), ("given" : Str), ("given" : Str), ("given" : Str), ("given" : Str), ("given" : Str), ("given" : Str), ("given" : Str), ("given" : Str), ("given" : Str), ("given" : Str), ("given" : Str), ("given" : Str), ("given" : Str), ("side" : Str), ("side" : Str), ("count" : Str), ("hand" : Str), ("hand" : Str), ("denial" : Str), ("standing" : Str), ("far" : Str), ("counts" : Str), ("word" : Str), ("standing" : Str), ("kept" : Str)]
def enm (i : Nat) : Str := en.getD i ""
def efl (i : Nat) : Str := ef.getD i ""
/-- C.__init__(self, fld) -/
def spErr (fld : Str) (C : Addr) : Sp := fun vs H Q _ => ∃ (a : Addr) (v : V), vs = [.ref a, v] ∧ H a = some (exo a C none) ∧ ∀ dx, H dx = none → dx ≠ a → Q .non (upd (upd H dx (exd dx [(fld, v)])) a (exo a C (some dx)))
section
variable {P : Program} {w : World} {K : PySem.W.Frag} {mg : Str → Option Value} {base : Heap} {C fI : Addr}
/-- how an error of a class is made -/
def MkI (P : Program) (w : World) (K : PySem.W.Frag) (mg : Str → Option Value) (base : Heap) (fI : Addr) (fld : Str) (C : Addr) : Prop := ∃ fd, BindP K fd fld ∧ BindK K fd fld ∧ FnOk P w K mg base CX0 1 fI fd ["self", fld] (spErr fld C)
theorem ok_errI {qual fld : Str} {st : Stmt} {fd : FuncData} (T : OexC K C) (no : PySem.W.findIn K (.ref C) fld = some none) (F : FunD K "__init__" qual (defArgs st) (defBody st) (defScope st) [] [] fI fd) (S : FnScope ["self", fld] ["self", fld] (defScope st))
    (bp : ∀ (kV doc pm : Value) (an : Option Addr) (cdv ct : Value) (us : List Value), us.length = 2 → bindArgs (PySem.W.fnOf "__init__" qual (defArgs st) (defBody st) (defScope st) .none kV doc pm an cdv ct) ⟨us, []⟩ = pure ((["self", fld] : List Str).zip us))
    (bk : ∀ (kV doc pm : Value) (an : Option Addr) (cdv ct : Value) (u0 u : Value), bindArgs (PySem.W.fnOf "__init__" qual (defArgs st) (defBody st) (defScope st) .none kV doc pm an cdv ct) ⟨[u0], [(fld, u)]⟩ = pure [(("self" : Str), u0), (fld, u)])
    (go : ∀ (cdv : Value) (A : Around) (outer : List Env) (s : Shared) (H : Hp) (E : XK), PSs (cxOf CX0 P w K mg base ["self", fld] qual (defScope st) fI cdv A outer s H E).nox (defBody st) (tOst K fld (tVar 0) (tVar 1))) : MkI P w K mg base fI fld C := by
  refine ⟨fd, fun s u0 u _ => F.bindsA (ps := ["self", fld]) bp s [u0, u] rfl, fun s u0 u _ => ?_, F.ok S (fun vs H Q E h => by obtain ⟨a, v, rfl, _⟩ := h; rfl) fun cdv A outer s H vs Q E hr h => ⟨_, (go cdv A outer s H E).nox, ?_⟩⟩
  · obtain ⟨_, _, dV, kV, doc, pm, an, cdv, ct, _, rfl, _, _, hD, _⟩ := F.ex
    rcases hD with ⟨_, rfl⟩ | ⟨e, _⟩
    · exact .of_eq (bk kV doc pm an cdv ct u0 u)
    · exact absurd rfl e
  · obtain ⟨a, v, rfl, ha, q⟩ := h
    exact ⟨_, rfl, _, rfl, a, C, rfl, T, no, .inl ⟨ha, fun dx h1 h2 => q dx h1 h2⟩⟩

abbrev e_0 : Stmt := inClass (top 3) 0
theorem mk_0 (T : OexC K C) (no : PySem.W.findIn K (.ref C) "given" = some none) (F : ∃ fd, FunD K "__init__" "InvalidPorts.__init__" (defArgs e_0) (defBody e_0) (defScope e_0) [] [] fI fd) : MkI P w K mg base fI "given" C :=
  F.elim fun fd F => ok_errI T no F ⟨rfl, rfl, rfl, by decide +kernel, rfl, by decide +kernel, by decide +kernel⟩ (fun _ _ _ _ _ _ us hl => match us, hl with | [_, _], _ => rfl) (fun _ _ _ _ _ _ _ _ => rfl) fun _ _ _ _ _ _ => pss_one (ps_ost (pv 0) (pv 1))
abbrev e_1 : Stmt := inClass (top 4) 0
theorem mk_1 (T : OexC K C) (no : PySem.W.findIn K (.ref C) "given" = some none) (F : ∃ fd, FunD K "__init__" "InvalidSide.__init__" (defArgs e_1) (defBody e_1) (defScope e_1) [] [] fI fd) : MkI P w K mg base fI "given" C :=
  F.elim fun fd F => ok_errI T no F ⟨rfl, rfl, rfl, by decide +kernel, rfl, by decide +kernel, by decide +kernel⟩ (fun _ _ _ _ _ _ us hl => match us, hl with | [_, _], _ => rfl) (fun _ _ _ _ _ _ _ _ => rfl) fun _ _ _ _ _ _ => pss_one (ps_ost (pv 0) (pv 1))
abbrev e_2 : Stmt := inClass (top 5) 0
theorem mk_2 (T : OexC K C) (no : PySem.W.findIn K (.ref C) "given" = some none) (F : ∃ fd, FunD K "__init__" "InvalidText.__init__" (defArgs e_2) (defBody e_2) (defScope e_2) [] [] fI fd) : MkI P w K mg base fI "given" C :=
  F.elim fun fd F => ok_errI T no F ⟨rfl, rfl, rfl, by decide +kernel, rfl, by decide +kernel, by decide +kernel⟩ (fun _ _ _ _ _ _ us hl => match us, hl with | [_, _], _ => rfl) (fun _ _ _ _ _ _ _ _ => rfl) fun _ _ _ _ _ _ => pss_one (ps_ost (pv 0) (pv 1))
abbrev e_3 : Stmt := inClass (top 6) 0
theorem mk_3 (T : OexC K C) (no : PySem.W.findIn K (.ref C) "given" = some none) (F : ∃ fd, FunD K "__init__" "InvalidName.__init__" (defArgs e_3) (defBody e_3) (defScope e_3) [] [] fI fd) : MkI P w K mg base fI "given" C :=
  F.elim fun fd F => ok_errI T no F ⟨rfl, rfl, rfl, by decide +kernel, rfl, by decide +kernel, by decide +kernel⟩ (fun _ _ _ _ _ _ us hl => match us, hl with | [_, _], _ => rfl) (fun _ _ _ _ _ _ _ _ => rfl) fun _ _ _ _ _ _ => pss_one (ps_ost (pv 0) (pv 1))
abbrev e_4 : Stmt := inClass (top 7) 0
theorem mk_4 (T : OexC K C) (no : PySem.W.findIn K (.ref C) "given" = some none) (F : ∃ fd, FunD K "__init__" "InvalidNumbers.__init__" (defArgs e_4) (defBody e_4) (defScope e_4) [] [] fI fd) : MkI P w K mg base fI "given" C :=
  F.elim fun fd F => ok_errI T no F ⟨rfl, rfl, rfl, by decide +kernel, rfl, by decide +kernel, by decide +kernel⟩ (fun _ _ _ _ _ _ us hl => match us, hl with | [_, _], _ => rfl) (fun _ _ _ _ _ _ _ _ => rfl) fun _ _ _ _ _ _ => pss_one (ps_ost (pv 0) (pv 1))
abbrev e_5 : Stmt := inClass (top 8) 0
theorem mk_5 (T : OexC K C) (no : PySem.W.findIn K (.ref C) "given" = some none) (F : ∃ fd, FunD K "__init__" "InvalidBegins.__init__" (defArgs e_5) (defBody e_5) (defScope e_5) [] [] fI fd) : MkI P w K mg base fI "given" C :=
  F.elim fun fd F => ok_errI T no F ⟨rfl, rfl, rfl, by decide +kernel, rfl, by decide +kernel, by decide +kernel⟩ (fun _ _ _ _ _ _ us hl => match us, hl with | [_, _], _ => rfl) (fun _ _ _ _ _ _ _ _ => rfl) fun _ _ _ _ _ _ => pss_one (ps_ost (pv 0) (pv 1))
abbrev e_6 : Stmt := inClass (top 9) 0
theorem mk_6 (T : OexC K C) (no : PySem.W.findIn K (.ref C) "given" = some none) (F : ∃ fd, FunD K "__init__" "InvalidDoes.__init__" (defArgs e_6) (defBody e_6) (defScope e_6) [] [] fI fd) : MkI P w K mg base fI "given" C :=
  F.elim fun fd F => ok_errI T no F ⟨rfl, rfl, rfl, by decide +kernel, rfl, by decide +kernel, by decide +kernel⟩ (fun _ _ _ _ _ _ us hl => match us, hl with | [_, _], _ => rfl) (fun _ _ _ _ _ _ _ _ => rfl) fun _ _ _ _ _ _ => pss_one (ps_ost (pv 0) (pv 1))
abbrev e_7 : Stmt := inClass (top 10) 0
theorem mk_7 (T : OexC K C) (no : PySem.W.findIn K (.ref C) "given" = some none) (F : ∃ fd, FunD K "__init__" "InvalidRefuses.__init__" (defArgs e_7) (defBody e_7) (defScope e_7) [] [] fI fd) : MkI P w K mg base fI "given" C :=
  F.elim fun fd F => ok_errI T no F ⟨rfl, rfl, rfl, by decide +kernel, rfl, by decide +kernel, by decide +kernel⟩ (fun _ _ _ _ _ _ us hl => match us, hl with | [_, _], _ => rfl) (fun _ _ _ _ _ _ _ _ => rfl) fun _ _ _ _ _ _ => pss_one (ps_ost (pv 0) (pv 1))
abbrev e_8 : Stmt := inClass (top 11) 0
theorem mk_8 (T : OexC K C) (no : PySem.W.findIn K (.ref C) "given" = some none) (F : ∃ fd, FunD K "__init__" "InvalidIndex.__init__" (defArgs e_8) (defBody e_8) (defScope e_8) [] [] fI fd) : MkI P w K mg base fI "given" C :=
  F.elim fun fd F => ok_errI T no F ⟨rfl, rfl, rfl, by decide +kernel, rfl, by decide +kernel, by decide +kernel⟩ (fun _ _ _ _ _ _ us hl => match us, hl with | [_, _], _ => rfl) (fun _ _ _ _ _ _ _ _ => rfl) fun _ _ _ _ _ _ => pss_one (ps_ost (pv 0) (pv 1))
abbrev e_9 : Stmt := inClass (top 12) 0
theorem mk_9 (T : OexC K C) (no : PySem.W.findIn K (.ref C) "given" = some none) (F : ∃ fd, FunD K "__init__" "InvalidState.__init__" (defArgs e_9) (defBody e_9) (defScope e_9) [] [] fI fd) : MkI P w K mg base fI "given" C :=
  F.elim fun fd F => ok_errI T no F ⟨rfl, rfl, rfl, by decide +kernel, rfl, by decide +kernel, by decide +kernel⟩ (fun _ _ _ _ _ _ us hl => match us, hl with | [_, _], _ => rfl) (fun _ _ _ _ _ _ _ _ => rfl) fun _ _ _ _ _ _ => pss_one (ps_ost (pv 0) (pv 1))
abbrev e_10 : Stmt := inClass (top 13) 0
theorem mk_10 (T : OexC K C) (no : PySem.W.findIn K (.ref C) "given" = some none) (F : ∃ fd, FunD K "__init__" "InvalidProcesses.__init__" (defArgs e_10) (defBody e_10) (defScope e_10) [] [] fI fd) : MkI P w K mg base fI "given" C :=
  F.elim fun fd F => ok_errI T no F ⟨rfl, rfl, rfl, by decide +kernel, rfl, by decide +kernel, by decide +kernel⟩ (fun _ _ _ _ _ _ us hl => match us, hl with | [_, _], _ => rfl) (fun _ _ _ _ _ _ _ _ => rfl) fun _ _ _ _ _ _ => pss_one (ps_ost (pv 0) (pv 1))
abbrev e_11 : Stmt := inClass (top 14) 0
theorem mk_11 (T : OexC K C) (no : PySem.W.findIn K (.ref C) "given" = some none) (F : ∃ fd, FunD K "__init__" "InvalidStanding.__init__" (defArgs e_11) (defBody e_11) (defScope e_11) [] [] fI fd) : MkI P w K mg base fI "given" C :=
  F.elim fun fd F => ok_errI T no F ⟨rfl, rfl, rfl, by decide +kernel, rfl, by decide +kernel, by decide +kernel⟩ (fun _ _ _ _ _ _ us hl => match us, hl with | [_, _], _ => rfl) (fun _ _ _ _ _ _ _ _ => rfl) fun _ _ _ _ _ _ => pss_one (ps_ost (pv 0) (pv 1))
abbrev e_12 : Stmt := inClass (top 15) 0
theorem mk_12 (T : OexC K C) (no : PySem.W.findIn K (.ref C) "given" = some none) (F : ∃ fd, FunD K "__init__" "InvalidHands.__init__" (defArgs e_12) (defBody e_12) (defScope e_12) [] [] fI fd) : MkI P w K mg base fI "given" C :=
  F.elim fun fd F => ok_errI T no F ⟨rfl, rfl, rfl, by decide +kernel, rfl, by decide +kernel, by decide +kernel⟩ (fun _ _ _ _ _ _ us hl => match us, hl with | [_, _], _ => rfl) (fun _ _ _ _ _ _ _ _ => rfl) fun _ _ _ _ _ _ => pss_one (ps_ost (pv 0) (pv 1))
abbrev e_13 : Stmt := inClass (top 16) 0
theorem mk_13 (T : OexC K C) (no : PySem.W.findIn K (.ref C) "given" = some none) (F : ∃ fd, FunD K "__init__" "InvalidMeetings.__init__" (defArgs e_13) (defBody e_13) (defScope e_13) [] [] fI fd) : MkI P w K mg base fI "given" C :=
  F.elim fun fd F => ok_errI T no F ⟨rfl, rfl, rfl, by decide +kernel, rfl, by decide +kernel, by decide +kernel⟩ (fun _ _ _ _ _ _ us hl => match us, hl with | [_, _], _ => rfl) (fun _ _ _ _ _ _ _ _ => rfl) fun _ _ _ _ _ _ => pss_one (ps_ost (pv 0) (pv 1))
abbrev e_14 : Stmt := inClass (top 17) 0
theorem mk_14 (T : OexC K C) (no : PySem.W.findIn K (.ref C) "given" = some none) (F : ∃ fd, FunD K "__init__" "InvalidHand.__init__" (defArgs e_14) (defBody e_14) (defScope e_14) [] [] fI fd) : MkI P w K mg base fI "given" C :=
  F.elim fun fd F => ok_errI T no F ⟨rfl, rfl, rfl, by decide +kernel, rfl, by decide +kernel, by decide +kernel⟩ (fun _ _ _ _ _ _ us hl => match us, hl with | [_, _], _ => rfl) (fun _ _ _ _ _ _ _ _ => rfl) fun _ _ _ _ _ _ => pss_one (ps_ost (pv 0) (pv 1))
abbrev e_15 : Stmt := inClass (top 18) 0
theorem mk_15 (T : OexC K C) (no : PySem.W.findIn K (.ref C) "given" = some none) (F : ∃ fd, FunD K "__init__" "InvalidStopped.__init__" (defArgs e_15) (defBody e_15) (defScope e_15) [] [] fI fd) : MkI P w K mg base fI "given" C :=
  F.elim fun fd F => ok_errI T no F ⟨rfl, rfl, rfl, by decide +kernel, rfl, by decide +kernel, by decide +kernel⟩ (fun _ _ _ _ _ _ us hl => match us, hl with | [_, _], _ => rfl) (fun _ _ _ _ _ _ _ _ => rfl) fun _ _ _ _ _ _ => pss_one (ps_ost (pv 0) (pv 1))
abbrev e_16 : Stmt := inClass (top 19) 0
theorem mk_16 (T : OexC K C) (no : PySem.W.findIn K (.ref C) "given" = some none) (F : ∃ fd, FunD K "__init__" "InvalidRound.__init__" (defArgs e_16) (defBody e_16) (defScope e_16) [] [] fI fd) : MkI P w K mg base fI "given" C :=
  F.elim fun fd F => ok_errI T no F ⟨rfl, rfl, rfl, by decide +kernel, rfl, by decide +kernel, by decide +kernel⟩ (fun _ _ _ _ _ _ us hl => match us, hl with | [_, _], _ => rfl) (fun _ _ _ _ _ _ _ _ => rfl) fun _ _ _ _ _ _ => pss_one (ps_ost (pv 0) (pv 1))
abbrev e_17 : Stmt := inClass (top 20) 0
theorem mk_17 (T : OexC K C) (no : PySem.W.findIn K (.ref C) "given" = some none) (F : ∃ fd, FunD K "__init__" "InvalidOrder.__init__" (defArgs e_17) (defBody e_17) (defScope e_17) [] [] fI fd) : MkI P w K mg base fI "given" C :=
  F.elim fun fd F => ok_errI T no F ⟨rfl, rfl, rfl, by decide +kernel, rfl, by decide +kernel, by decide +kernel⟩ (fun _ _ _ _ _ _ us hl => match us, hl with | [_, _], _ => rfl) (fun _ _ _ _ _ _ _ _ => rfl) fun _ _ _ _ _ _ => pss_one (ps_ost (pv 0) (pv 1))
abbrev e_18 : Stmt := inClass (top 21) 0
theorem mk_18 (T : OexC K C) (no : PySem.W.findIn K (.ref C) "given" = some none) (F : ∃ fd, FunD K "__init__" "InvalidPolicy.__init__" (defArgs e_18) (defBody e_18) (defScope e_18) [] [] fI fd) : MkI P w K mg base fI "given" C :=
  F.elim fun fd F => ok_errI T no F ⟨rfl, rfl, rfl, by decide +kernel, rfl, by decide +kernel, by decide +kernel⟩ (fun _ _ _ _ _ _ us hl => match us, hl with | [_, _], _ => rfl) (fun _ _ _ _ _ _ _ _ => rfl) fun _ _ _ _ _ _ => pss_one (ps_ost (pv 0) (pv 1))
abbrev e_19 : Stmt := inClass (top 22) 0
theorem mk_19 (T : OexC K C) (no : PySem.W.findIn K (.ref C) "given" = some none) (F : ∃ fd, FunD K "__init__" "InvalidRows.__init__" (defArgs e_19) (defBody e_19) (defScope e_19) [] [] fI fd) : MkI P w K mg base fI "given" C :=
  F.elim fun fd F => ok_errI T no F ⟨rfl, rfl, rfl, by decide +kernel, rfl, by decide +kernel, by decide +kernel⟩ (fun _ _ _ _ _ _ us hl => match us, hl with | [_, _], _ => rfl) (fun _ _ _ _ _ _ _ _ => rfl) fun _ _ _ _ _ _ => pss_one (ps_ost (pv 0) (pv 1))
abbrev e_20 : Stmt := inClass (top 23) 0
theorem mk_20 (T : OexC K C) (no : PySem.W.findIn K (.ref C) "given" = some none) (F : ∃ fd, FunD K "__init__" "InvalidSums.__init__" (defArgs e_20) (defBody e_20) (defScope e_20) [] [] fI fd) : MkI P w K mg base fI "given" C :=
  F.elim fun fd F => ok_errI T no F ⟨rfl, rfl, rfl, by decide +kernel, rfl, by decide +kernel, by decide +kernel⟩ (fun _ _ _ _ _ _ us hl => match us, hl with | [_, _], _ => rfl) (fun _ _ _ _ _ _ _ _ => rfl) fun _ _ _ _ _ _ => pss_one (ps_ost (pv 0) (pv 1))
abbrev e_21 : Stmt := inClass (top 24) 0
theorem mk_21 (T : OexC K C) (no : PySem.W.findIn K (.ref C) "given" = some none) (F : ∃ fd, FunD K "__init__" "InvalidCosts.__init__" (defArgs e_21) (defBody e_21) (defScope e_21) [] [] fI fd) : MkI P w K mg base fI "given" C :=
  F.elim fun fd F => ok_errI T no F ⟨rfl, rfl, rfl, by decide +kernel, rfl, by decide +kernel, by decide +kernel⟩ (fun _ _ _ _ _ _ us hl => match us, hl with | [_, _], _ => rfl) (fun _ _ _ _ _ _ _ _ => rfl) fun _ _ _ _ _ _ => pss_one (ps_ost (pv 0) (pv 1))
abbrev e_22 : Stmt := inClass (top 25) 0
theorem mk_22 (T : OexC K C) (no : PySem.W.findIn K (.ref C) "given" = some none) (F : ∃ fd, FunD K "__init__" "InvalidCounts.__init__" (defArgs e_22) (defBody e_22) (defScope e_22) [] [] fI fd) : MkI P w K mg base fI "given" C :=
  F.elim fun fd F => ok_errI T no F ⟨rfl, rfl, rfl, by decide +kernel, rfl, by decide +kernel, by decide +kernel⟩ (fun _ _ _ _ _ _ us hl => match us, hl with | [_, _], _ => rfl) (fun _ _ _ _ _ _ _ _ => rfl) fun _ _ _ _ _ _ => pss_one (ps_ost (pv 0) (pv 1))
abbrev e_23 : Stmt := inClass (top 26) 0
theorem mk_23 (T : OexC K C) (no : PySem.W.findIn K (.ref C) "given" = some none) (F : ∃ fd, FunD K "__init__" "InvalidWeights.__init__" (defArgs e_23) (defBody e_23) (defScope e_23) [] [] fI fd) : MkI P w K mg base fI "given" C :=
  F.elim fun fd F => ok_errI T no F ⟨rfl, rfl, rfl, by decide +kernel, rfl, by decide +kernel, by decide +kernel⟩ (fun _ _ _ _ _ _ us hl => match us, hl with | [_, _], _ => rfl) (fun _ _ _ _ _ _ _ _ => rfl) fun _ _ _ _ _ _ => pss_one (ps_ost (pv 0) (pv 1))
abbrev e_24 : Stmt := inClass (top 27) 0
theorem mk_24 (T : OexC K C) (no : PySem.W.findIn K (.ref C) "given" = some none) (F : ∃ fd, FunD K "__init__" "InvalidDepth.__init__" (defArgs e_24) (defBody e_24) (defScope e_24) [] [] fI fd) : MkI P w K mg base fI "given" C :=
  F.elim fun fd F => ok_errI T no F ⟨rfl, rfl, rfl, by decide +kernel, rfl, by decide +kernel, by decide +kernel⟩ (fun _ _ _ _ _ _ us hl => match us, hl with | [_, _], _ => rfl) (fun _ _ _ _ _ _ _ _ => rfl) fun _ _ _ _ _ _ => pss_one (ps_ost (pv 0) (pv 1))
abbrev e_25 : Stmt := inClass (top 28) 0
theorem mk_25 (T : OexC K C) (no : PySem.W.findIn K (.ref C) "given" = some none) (F : ∃ fd, FunD K "__init__" "InvalidCount.__init__" (defArgs e_25) (defBody e_25) (defScope e_25) [] [] fI fd) : MkI P w K mg base fI "given" C :=
  F.elim fun fd F => ok_errI T no F ⟨rfl, rfl, rfl, by decide +kernel, rfl, by decide +kernel, by decide +kernel⟩ (fun _ _ _ _ _ _ us hl => match us, hl with | [_, _], _ => rfl) (fun _ _ _ _ _ _ _ _ => rfl) fun _ _ _ _ _ _ => pss_one (ps_ost (pv 0) (pv 1))
abbrev e_26 : Stmt := inClass (top 29) 0
theorem mk_26 (T : OexC K C) (no : PySem.W.findIn K (.ref C) "given" = some none) (F : ∃ fd, FunD K "__init__" "InvalidRanks.__init__" (defArgs e_26) (defBody e_26) (defScope e_26) [] [] fI fd) : MkI P w K mg base fI "given" C :=
  F.elim fun fd F => ok_errI T no F ⟨rfl, rfl, rfl, by decide +kernel, rfl, by decide +kernel, by decide +kernel⟩ (fun _ _ _ _ _ _ us hl => match us, hl with | [_, _], _ => rfl) (fun _ _ _ _ _ _ _ _ => rfl) fun _ _ _ _ _ _ => pss_one (ps_ost (pv 0) (pv 1))
abbrev e_27 : Stmt := inClass (top 30) 0
theorem mk_27 (T : OexC K C) (no : PySem.W.findIn K (.ref C) "given" = some none) (F : ∃ fd, FunD K "__init__" "InvalidProcess.__init__" (defArgs e_27) (defBody e_27) (defScope e_27) [] [] fI fd) : MkI P w K mg base fI "given" C :=
  F.elim fun fd F => ok_errI T no F ⟨rfl, rfl, rfl, by decide +kernel, rfl, by decide +kernel, by decide +kernel⟩ (fun _ _ _ _ _ _ us hl => match us, hl with | [_, _], _ => rfl) (fun _ _ _ _ _ _ _ _ => rfl) fun _ _ _ _ _ _ => pss_one (ps_ost (pv 0) (pv 1))
abbrev e_28 : Stmt := inClass (top 31) 0
theorem mk_28 (T : OexC K C) (no : PySem.W.findIn K (.ref C) "given" = some none) (F : ∃ fd, FunD K "__init__" "InvalidRules.__init__" (defArgs e_28) (defBody e_28) (defScope e_28) [] [] fI fd) : MkI P w K mg base fI "given" C :=
  F.elim fun fd F => ok_errI T no F ⟨rfl, rfl, rfl, by decide +kernel, rfl, by decide +kernel, by decide +kernel⟩ (fun _ _ _ _ _ _ us hl => match us, hl with | [_, _], _ => rfl) (fun _ _ _ _ _ _ _ _ => rfl) fun _ _ _ _ _ _ => pss_one (ps_ost (pv 0) (pv 1))
abbrev e_29 : Stmt := inClass (top 32) 0
theorem mk_29 (T : OexC K C) (no : PySem.W.findIn K (.ref C) "given" = some none) (F : ∃ fd, FunD K "__init__" "InvalidFacts.__init__" (defArgs e_29) (defBody e_29) (defScope e_29) [] [] fI fd) : MkI P w K mg base fI "given" C :=
  F.elim fun fd F => ok_errI T no F ⟨rfl, rfl, rfl, by decide +kernel, rfl, by decide +kernel, by decide +kernel⟩ (fun _ _ _ _ _ _ us hl => match us, hl with | [_, _], _ => rfl) (fun _ _ _ _ _ _ _ _ => rfl) fun _ _ _ _ _ _ => pss_one (ps_ost (pv 0) (pv 1))
abbrev e_30 : Stmt := inClass (top 33) 0
theorem mk_30 (T : OexC K C) (no : PySem.W.findIn K (.ref C) "given" = some none) (F : ∃ fd, FunD K "__init__" "InvalidVerdict.__init__" (defArgs e_30) (defBody e_30) (defScope e_30) [] [] fI fd) : MkI P w K mg base fI "given" C :=
  F.elim fun fd F => ok_errI T no F ⟨rfl, rfl, rfl, by decide +kernel, rfl, by decide +kernel, by decide +kernel⟩ (fun _ _ _ _ _ _ us hl => match us, hl with | [_, _], _ => rfl) (fun _ _ _ _ _ _ _ _ => rfl) fun _ _ _ _ _ _ => pss_one (ps_ost (pv 0) (pv 1))
abbrev e_31 : Stmt := inClass (top 34) 0
theorem mk_31 (T : OexC K C) (no : PySem.W.findIn K (.ref C) "given" = some none) (F : ∃ fd, FunD K "__init__" "InvalidLine.__init__" (defArgs e_31) (defBody e_31) (defScope e_31) [] [] fI fd) : MkI P w K mg base fI "given" C :=
  F.elim fun fd F => ok_errI T no F ⟨rfl, rfl, rfl, by decide +kernel, rfl, by decide +kernel, by decide +kernel⟩ (fun _ _ _ _ _ _ us hl => match us, hl with | [_, _], _ => rfl) (fun _ _ _ _ _ _ _ _ => rfl) fun _ _ _ _ _ _ => pss_one (ps_ost (pv 0) (pv 1))
abbrev e_32 : Stmt := inClass (top 35) 0
theorem mk_32 (T : OexC K C) (no : PySem.W.findIn K (.ref C) "side" = some none) (F : ∃ fd, FunD K "__init__" "NotDue.__init__" (defArgs e_32) (defBody e_32) (defScope e_32) [] [] fI fd) : MkI P w K mg base fI "side" C :=
  F.elim fun fd F => ok_errI T no F ⟨rfl, rfl, rfl, by decide +kernel, rfl, by decide +kernel, by decide +kernel⟩ (fun _ _ _ _ _ _ us hl => match us, hl with | [_, _], _ => rfl) (fun _ _ _ _ _ _ _ _ => rfl) fun _ _ _ _ _ _ => pss_one (ps_ost (pv 0) (pv 1))
abbrev e_33 : Stmt := inClass (top 36) 0
theorem mk_33 (T : OexC K C) (no : PySem.W.findIn K (.ref C) "side" = some none) (F : ∃ fd, FunD K "__init__" "Refused.__init__" (defArgs e_33) (defBody e_33) (defScope e_33) [] [] fI fd) : MkI P w K mg base fI "side" C :=
  F.elim fun fd F => ok_errI T no F ⟨rfl, rfl, rfl, by decide +kernel, rfl, by decide +kernel, by decide +kernel⟩ (fun _ _ _ _ _ _ us hl => match us, hl with | [_, _], _ => rfl) (fun _ _ _ _ _ _ _ _ => rfl) fun _ _ _ _ _ _ => pss_one (ps_ost (pv 0) (pv 1))
abbrev e_34 : Stmt := inClass (top 37) 0
theorem mk_34 (T : OexC K C) (no : PySem.W.findIn K (.ref C) "count" = some none) (F : ∃ fd, FunD K "__init__" "TooMany.__init__" (defArgs e_34) (defBody e_34) (defScope e_34) [] [] fI fd) : MkI P w K mg base fI "count" C :=
  F.elim fun fd F => ok_errI T no F ⟨rfl, rfl, rfl, by decide +kernel, rfl, by decide +kernel, by decide +kernel⟩ (fun _ _ _ _ _ _ us hl => match us, hl with | [_, _], _ => rfl) (fun _ _ _ _ _ _ _ _ => rfl) fun _ _ _ _ _ _ => pss_one (ps_ost (pv 0) (pv 1))
abbrev e_35 : Stmt := inClass (top 38) 0
theorem mk_35 (T : OexC K C) (no : PySem.W.findIn K (.ref C) "hand" = some none) (F : ∃ fd, FunD K "__init__" "Gone.__init__" (defArgs e_35) (defBody e_35) (defScope e_35) [] [] fI fd) : MkI P w K mg base fI "hand" C :=
  F.elim fun fd F => ok_errI T no F ⟨rfl, rfl, rfl, by decide +kernel, rfl, by decide +kernel, by decide +kernel⟩ (fun _ _ _ _ _ _ us hl => match us, hl with | [_, _], _ => rfl) (fun _ _ _ _ _ _ _ _ => rfl) fun _ _ _ _ _ _ => pss_one (ps_ost (pv 0) (pv 1))
abbrev e_36 : Stmt := inClass (top 39) 0
theorem mk_36 (T : OexC K C) (no : PySem.W.findIn K (.ref C) "hand" = some none) (F : ∃ fd, FunD K "__init__" "Stopped.__init__" (defArgs e_36) (defBody e_36) (defScope e_36) [] [] fI fd) : MkI P w K mg base fI "hand" C :=
  F.elim fun fd F => ok_errI T no F ⟨rfl, rfl, rfl, by decide +kernel, rfl, by decide +kernel, by decide +kernel⟩ (fun _ _ _ _ _ _ us hl => match us, hl with | [_, _], _ => rfl) (fun _ _ _ _ _ _ _ _ => rfl) fun _ _ _ _ _ _ => pss_one (ps_ost (pv 0) (pv 1))
abbrev e_37 : Stmt := inClass (top 40) 0
theorem mk_37 (T : OexC K C) (no : PySem.W.findIn K (.ref C) "denial" = some none) (F : ∃ fd, FunD K "__init__" "NoSolution.__init__" (defArgs e_37) (defBody e_37) (defScope e_37) [] [] fI fd) : MkI P w K mg base fI "denial" C :=
  F.elim fun fd F => ok_errI T no F ⟨rfl, rfl, rfl, by decide +kernel, rfl, by decide +kernel, by decide +kernel⟩ (fun _ _ _ _ _ _ us hl => match us, hl with | [_, _], _ => rfl) (fun _ _ _ _ _ _ _ _ => rfl) fun _ _ _ _ _ _ => pss_one (ps_ost (pv 0) (pv 1))
abbrev e_38 : Stmt := inClass (top 41) 0
theorem mk_38 (T : OexC K C) (no : PySem.W.findIn K (.ref C) "standing" = some none) (F : ∃ fd, FunD K "__init__" "NotLeft.__init__" (defArgs e_38) (defBody e_38) (defScope e_38) [] [] fI fd) : MkI P w K mg base fI "standing" C :=
  F.elim fun fd F => ok_errI T no F ⟨rfl, rfl, rfl, by decide +kernel, rfl, by decide +kernel, by decide +kernel⟩ (fun _ _ _ _ _ _ us hl => match us, hl with | [_, _], _ => rfl) (fun _ _ _ _ _ _ _ _ => rfl) fun _ _ _ _ _ _ => pss_one (ps_ost (pv 0) (pv 1))
abbrev e_39 : Stmt := inClass (top 43) 0
theorem mk_39 (T : OexC K C) (no : PySem.W.findIn K (.ref C) "far" = some none) (F : ∃ fd, FunD K "__init__" "Near.__init__" (defArgs e_39) (defBody e_39) (defScope e_39) [] [] fI fd) : MkI P w K mg base fI "far" C :=
  F.elim fun fd F => ok_errI T no F ⟨rfl, rfl, rfl, by decide +kernel, rfl, by decide +kernel, by decide +kernel⟩ (fun _ _ _ _ _ _ us hl => match us, hl with | [_, _], _ => rfl) (fun _ _ _ _ _ _ _ _ => rfl) fun _ _ _ _ _ _ => pss_one (ps_ost (pv 0) (pv 1))
abbrev e_40 : Stmt := inClass (top 44) 0
theorem mk_40 (T : OexC K C) (no : PySem.W.findIn K (.ref C) "counts" = some none) (F : ∃ fd, FunD K "__init__" "Still.__init__" (defArgs e_40) (defBody e_40) (defScope e_40) [] [] fI fd) : MkI P w K mg base fI "counts" C :=
  F.elim fun fd F => ok_errI T no F ⟨rfl, rfl, rfl, by decide +kernel, rfl, by decide +kernel, by decide +kernel⟩ (fun _ _ _ _ _ _ us hl => match us, hl with | [_, _], _ => rfl) (fun _ _ _ _ _ _ _ _ => rfl) fun _ _ _ _ _ _ => pss_one (ps_ost (pv 0) (pv 1))
abbrev e_41 : Stmt := inClass (top 45) 0
theorem mk_41 (T : OexC K C) (no : PySem.W.findIn K (.ref C) "word" = some none) (F : ∃ fd, FunD K "__init__" "NotNumber.__init__" (defArgs e_41) (defBody e_41) (defScope e_41) [] [] fI fd) : MkI P w K mg base fI "word" C :=
  F.elim fun fd F => ok_errI T no F ⟨rfl, rfl, rfl, by decide +kernel, rfl, by decide +kernel, by decide +kernel⟩ (fun _ _ _ _ _ _ us hl => match us, hl with | [_, _], _ => rfl) (fun _ _ _ _ _ _ _ _ => rfl) fun _ _ _ _ _ _ => pss_one (ps_ost (pv 0) (pv 1))
abbrev e_42 : Stmt := inClass (top 46) 0
theorem mk_42 (T : OexC K C) (no : PySem.W.findIn K (.ref C) "standing" = some none) (F : ∃ fd, FunD K "__init__" "Struck.__init__" (defArgs e_42) (defBody e_42) (defScope e_42) [] [] fI fd) : MkI P w K mg base fI "standing" C :=
  F.elim fun fd F => ok_errI T no F ⟨rfl, rfl, rfl, by decide +kernel, rfl, by decide +kernel, by decide +kernel⟩ (fun _ _ _ _ _ _ us hl => match us, hl with | [_, _], _ => rfl) (fun _ _ _ _ _ _ _ _ => rfl) fun _ _ _ _ _ _ => pss_one (ps_ost (pv 0) (pv 1))
abbrev e_43 : Stmt := inClass (top 47) 0
theorem mk_43 (T : OexC K C) (no : PySem.W.findIn K (.ref C) "kept" = some none) (F : ∃ fd, FunD K "__init__" "KeptUp.__init__" (defArgs e_43) (defBody e_43) (defScope e_43) [] [] fI fd) : MkI P w K mg base fI "kept" C :=
  F.elim fun fd F => ok_errI T no F ⟨rfl, rfl, rfl, by decide +kernel, rfl, by decide +kernel, by decide +kernel⟩ (fun _ _ _ _ _ _ us hl => match us, hl with | [_, _], _ => rfl) (fun _ _ _ _ _ _ _ _ => rfl) fun _ _ _ _ _ _ => pss_one (ps_ost (pv 0) (pv 1))
end
end NH
set_option maxHeartbeats 0
namespace NH
open PySem PySem.Spec PyProof.Rows L2 TL
def hfn0 : List He.DefD := [⟨("is_integer", none), "is_integer", "is_integer", defArgs (top 54), defBody (top 54), defScope (top 54), [], []⟩, ⟨("is_between", none), "is_between", "is_between", defArgs (top 55), defBody (top 55), defScope (top 55), [], []⟩, ⟨("is_list", none), "is_list", "is_list", defArgs (top 56), defBody (top 56), defScope (top 56), [], []⟩, ⟨("is_pair", none), "is_pair", "is_pair", defArgs (top 57), defBody (top 57), defScope (top 57), [], []⟩, ⟨("is_name", none), "is_name", "is_name", defArgs (top 58), defBody (top 58), defScope (top 58), [], []⟩, ⟨("are_different", none), "are_different", "are_different", defArgs (top 59), defBody (top 59), defScope (top 59), [], []⟩, ⟨("_are_kinds", none), "_are_kinds", "_are_kinds", defArgs (top 66), defBody (top 66), defScope (top 66), [], []⟩, ⟨("_is_kind", none), "_is_kind", "_is_kind", defArgs (top 67), defBody (top 67), defScope (top 67), [], []⟩, ⟨("_sides_of", none), "_sides_of", "_sides_of", defArgs (top 64), defBody (top 64), defScope (top 64), [], []⟩, ⟨("_without", none), "_without", "_without", defArgs (top 65), defBody (top 65), defScope (top 65), [], []⟩, ⟨("_law_cell", none), "_law_cell", "_law_cell", defArgs (top 69), defBody (top 69), defScope (top 69), [], []⟩, ⟨("_law_box", none), "_law_box", "_law_box", defArgs (top 70), defBody (top 70), defScope (top 70), [], []⟩, ⟨("_law_take", none), "_law_take", "_law_take", defArgs (top 71), defBody (top 71), defScope (top 71), [], []⟩, ⟨("_law_by_place", none), "_law_by_place", "_law_by_place", defArgs (top 72), defBody (top 72), defScope (top 72), [], []⟩, ⟨("_law_by_name", none), "_law_by_name", "_law_by_name", defArgs (top 73), defBody (top 73), defScope (top 73), [], []⟩, ⟨("_law_bare", none), "_law_bare", "_law_bare", defArgs (top 74), defBody (top 74), defScope (top 74), [], []⟩, ⟨("_law_sorts", none), "_law_sorts", "_law_sorts", defArgs (top 75), defBody (top 75), defScope (top 75), [], []⟩, ⟨("_law_is", none), "_law_is", "_law_is", defArgs (top 76), defBody (top 76), defScope (top 76), [], []⟩, ⟨("_law_kept", none), "_law_kept", "_law_kept", defArgs (top 77), defBody (top 77), defScope (top 77), [], []⟩, ⟨("_law_deep", none), "_law_deep", "_law_deep", defArgs (top 78), defBody (top 78), defScope (top 78), [], []⟩, ⟨("_law_thing", none), "_law_thing", "_law_thing", defArgs (top 79), defBody (top 79), defScope (top 79), [], []⟩, ⟨("_law_same", none), "_law_same", "_law_same", defArgs (top 80), defBody (top 80), defScope (top 80), [], []⟩, ⟨("_law_caught", none), "_law_caught", "_law_caught", defArgs (top 81), defBody (top 81), defScope (top 81), [], []⟩, ⟨("_law_ones_right", none), "_law_ones_right", "_law_ones_right", defArgs (top 82), defBody (top 82), defScope (top 82), [], []⟩, ⟨("_law_grown_right", none), "_law_grown_right", "_law_grown_right", defArgs (top 83), defBody (top 83), defScope (top 83), [], []⟩]
def hfn1 : List He.DefD := [⟨("Ports", some "__init__"), "__init__", "Ports.__init__", defArgs (inClass (top 63) 0), defBody (inClass (top 63) 0), defScope (inClass (top 63) 0), [], []⟩, ⟨("Ports", some "__eq__"), "__eq__", "Ports.__eq__", defArgs (inClass (top 63) 1), defBody (inClass (top 63) 1), defScope (inClass (top 63) 1), [], []⟩, ⟨("law", none), "law", "law", defArgs (top 84), defBody (top 84), defScope (top 84), [], []⟩, ⟨("InvalidPorts", some "__init__"), "__init__", "InvalidPorts.__init__", defArgs (inClass (top 3) 0), defBody (inClass (top 3) 0), defScope (inClass (top 3) 0), [], []⟩, ⟨("InvalidSide", some "__init__"), "__init__", "InvalidSide.__init__", defArgs (inClass (top 4) 0), defBody (inClass (top 4) 0), defScope (inClass (top 4) 0), [], []⟩, ⟨("InvalidText", some "__init__"), "__init__", "InvalidText.__init__", defArgs (inClass (top 5) 0), defBody (inClass (top 5) 0), defScope (inClass (top 5) 0), [], []⟩, ⟨("InvalidName", some "__init__"), "__init__", "InvalidName.__init__", defArgs (inClass (top 6) 0), defBody (inClass (top 6) 0), defScope (inClass (top 6) 0), [], []⟩, ⟨("InvalidNumbers", some "__init__"), "__init__", "InvalidNumbers.__init__", defArgs (inClass (top 7) 0), defBody (inClass (top 7) 0), defScope (inClass (top 7) 0), [], []⟩, ⟨("InvalidBegins", some "__init__"), "__init__", "InvalidBegins.__init__", defArgs (inClass (top 8) 0), defBody (inClass (top 8) 0), defScope (inClass (top 8) 0), [], []⟩, ⟨("InvalidDoes", some "__init__"), "__init__", "InvalidDoes.__init__", defArgs (inClass (top 9) 0), defBody (inClass (top 9) 0), defScope (inClass (top 9) 0), [], []⟩, ⟨("InvalidRefuses", some "__init__"), "__init__", "InvalidRefuses.__init__", defArgs (inClass (top 10) 0), defBody (inClass (top 10) 0), defScope (inClass (top 10) 0), [], []⟩, ⟨("InvalidIndex", some "__init__"), "__init__", "InvalidIndex.__init__", defArgs (inClass (top 11) 0), defBody (inClass (top 11) 0), defScope (inClass (top 11) 0), [], []⟩, ⟨("InvalidState", some "__init__"), "__init__", "InvalidState.__init__", defArgs (inClass (top 12) 0), defBody (inClass (top 12) 0), defScope (inClass (top 12) 0), [], []⟩, ⟨("InvalidProcesses", some "__init__"), "__init__", "InvalidProcesses.__init__", defArgs (inClass (top 13) 0), defBody (inClass (top 13) 0), defScope (inClass (top 13) 0), [], []⟩, ⟨("InvalidStanding", some "__init__"), "__init__", "InvalidStanding.__init__", defArgs (inClass (top 14) 0), defBody (inClass (top 14) 0), defScope (inClass (top 14) 0), [], []⟩, ⟨("InvalidHands", some "__init__"), "__init__", "InvalidHands.__init__", defArgs (inClass (top 15) 0), defBody (inClass (top 15) 0), defScope (inClass (top 15) 0), [], []⟩, ⟨("InvalidMeetings", some "__init__"), "__init__", "InvalidMeetings.__init__", defArgs (inClass (top 16) 0), defBody (inClass (top 16) 0), defScope (inClass (top 16) 0), [], []⟩, ⟨("InvalidHand", some "__init__"), "__init__", "InvalidHand.__init__", defArgs (inClass (top 17) 0), defBody (inClass (top 17) 0), defScope (inClass (top 17) 0), [], []⟩, ⟨("InvalidStopped", some "__init__"), "__init__", "InvalidStopped.__init__", defArgs (inClass (top 18) 0), defBody (inClass (top 18) 0), defScope (inClass (top 18) 0), [], []⟩, ⟨("InvalidRound", some "__init__"), "__init__", "InvalidRound.__init__", defArgs (inClass (top 19) 0), defBody (inClass (top 19) 0), defScope (inClass (top 19) 0), [], []⟩, ⟨("InvalidOrder", some "__init__"), "__init__", "InvalidOrder.__init__", defArgs (inClass (top 20) 0), defBody (inClass (top 20) 0), defScope (inClass (top 20) 0), [], []⟩, ⟨("InvalidPolicy", some "__init__"), "__init__", "InvalidPolicy.__init__", defArgs (inClass (top 21) 0), defBody (inClass (top 21) 0), defScope (inClass (top 21) 0), [], []⟩, ⟨("InvalidRows", some "__init__"), "__init__", "InvalidRows.__init__", defArgs (inClass (top 22) 0), defBody (inClass (top 22) 0), defScope (inClass (top 22) 0), [], []⟩, ⟨("InvalidSums", some "__init__"), "__init__", "InvalidSums.__init__", defArgs (inClass (top 23) 0), defBody (inClass (top 23) 0), defScope (inClass (top 23) 0), [], []⟩, ⟨("InvalidCosts", some "__init__"), "__init__", "InvalidCosts.__init__", defArgs (inClass (top 24) 0), defBody (inClass (top 24) 0), defScope (inClass (top 24) 0), [], []⟩]
def hfn2 : List He.DefD := [⟨("InvalidCounts", some "__init__"), "__init__", "InvalidCounts.__init__", defArgs (inClass (top 25) 0), defBody (inClass (top 25) 0), defScope (inClass (top 25) 0), [], []⟩, ⟨("InvalidWeights", some "__init__"), "__init__", "InvalidWeights.__init__", defArgs (inClass (top 26) 0), defBody (inClass (top 26) 0), defScope (inClass (top 26) 0), [], []⟩, ⟨("InvalidDepth", some "__init__"), "__init__", "InvalidDepth.__init__", defArgs (inClass (top 27) 0), defBody (inClass (top 27) 0), defScope (inClass (top 27) 0), [], []⟩, ⟨("InvalidCount", some "__init__"), "__init__", "InvalidCount.__init__", defArgs (inClass (top 28) 0), defBody (inClass (top 28) 0), defScope (inClass (top 28) 0), [], []⟩, ⟨("InvalidRanks", some "__init__"), "__init__", "InvalidRanks.__init__", defArgs (inClass (top 29) 0), defBody (inClass (top 29) 0), defScope (inClass (top 29) 0), [], []⟩, ⟨("InvalidProcess", some "__init__"), "__init__", "InvalidProcess.__init__", defArgs (inClass (top 30) 0), defBody (inClass (top 30) 0), defScope (inClass (top 30) 0), [], []⟩, ⟨("InvalidRules", some "__init__"), "__init__", "InvalidRules.__init__", defArgs (inClass (top 31) 0), defBody (inClass (top 31) 0), defScope (inClass (top 31) 0), [], []⟩, ⟨("InvalidFacts", some "__init__"), "__init__", "InvalidFacts.__init__", defArgs (inClass (top 32) 0), defBody (inClass (top 32) 0), defScope (inClass (top 32) 0), [], []⟩, ⟨("InvalidVerdict", some "__init__"), "__init__", "InvalidVerdict.__init__", defArgs (inClass (top 33) 0), defBody (inClass (top 33) 0), defScope (inClass (top 33) 0), [], []⟩, ⟨("InvalidLine", some "__init__"), "__init__", "InvalidLine.__init__", defArgs (inClass (top 34) 0), defBody (inClass (top 34) 0), defScope (inClass (top 34) 0), [], []⟩, ⟨("NotDue", some "__init__"), "__init__", "NotDue.__init__", defArgs (inClass (top 35) 0), defBody (inClass (top 35) 0), defScope (inClass (top 35) 0), [], []⟩, ⟨("Refused", some "__init__"), "__init__", "Refused.__init__", defArgs (inClass (top 36) 0), defBody (inClass (top 36) 0), defScope (inClass (top 36) 0), [], []⟩, ⟨("TooMany", some "__init__"), "__init__", "TooMany.__init__", defArgs (inClass (top 37) 0), defBody (inClass (top 37) 0), defScope (inClass (top 37) 0), [], []⟩, ⟨("Gone", some "__init__"), "__init__", "Gone.__init__", defArgs (inClass (top 38) 0), defBody (inClass (top 38) 0), defScope (inClass (top 38) 0), [], []⟩, ⟨("Stopped", some "__init__"), "__init__", "Stopped.__init__", defArgs (inClass (top 39) 0), defBody (inClass (top 39) 0), defScope (inClass (top 39) 0), [], []⟩, ⟨("NoSolution", some "__init__"), "__init__", "NoSolution.__init__", defArgs (inClass (top 40) 0), defBody (inClass (top 40) 0), defScope (inClass (top 40) 0), [], []⟩, ⟨("NotLeft", some "__init__"), "__init__", "NotLeft.__init__", defArgs (inClass (top 41) 0), defBody (inClass (top 41) 0), defScope (inClass (top 41) 0), [], []⟩, ⟨("Near", some "__init__"), "__init__", "Near.__init__", defArgs (inClass (top 43) 0), defBody (inClass (top 43) 0), defScope (inClass (top 43) 0), [], []⟩, ⟨("Still", some "__init__"), "__init__", "Still.__init__", defArgs (inClass (top 44) 0), defBody (inClass (top 44) 0), defScope (inClass (top 44) 0), [], []⟩, ⟨("NotNumber", some "__init__"), "__init__", "NotNumber.__init__", defArgs (inClass (top 45) 0), defBody (inClass (top 45) 0), defScope (inClass (top 45) 0), [], []⟩, ⟨("Struck", some "__init__"), "__init__", "Struck.__init__", defArgs (inClass (top 46) 0), defBody (inClass (top 46) 0), defScope (inClass (top 46) 0), [], []⟩, ⟨("KeptUp", some "__init__"), "__init__", "KeptUp.__init__", defArgs (inClass (top 47) 0), defBody (inClass (top 47) 0), defScope (inClass (top 47) 0), [], []⟩]
def hfn : List He.DefD := hfn0 ++ hfn1 ++ hfn2
def hfa0 : List He.Fa := [.glo "is_integer", .glo "is_between", .glo "is_list", .glo "is_pair", .glo "is_name", .glo "are_different", .glo "_are_kinds", .glo "_is_kind", .glo "_sides_of", .glo "_without", .glo "_law_cell", .glo "_law_box", .glo "_law_take", .glo "_law_by_place", .glo "_law_by_name", .glo "_law_bare", .glo "_law_sorts", .glo "_law_is", .glo "_law_kept", .glo "_law_deep", .glo "_law_thing", .glo "_law_same", .glo "_law_caught", .glo "_law_ones_right", .glo "_law_grown_right"]
def hfa1 : List He.Fa := [.glo "law", .glo "Ports", .glo "NearError", .free "ValueError", .free "abs", .free "all", .free "bool", .free "int", .free "isinstance", .free "len", .free "list", .free "max", .free "min", .free "range", .free "repr", .free "set", .free "sorted", .free "str", .free "sum", .free "tuple", .str "LETTERS" "abcdefghijklmnopqrstuvwxyz", .int "MOST_KINDS" 12, .int "MOST_LETTERS" 4, .cls "Ports", .noat "Ports" "kinds"]
def hfa2 : List He.Fa := [.noat "Ports" "_names", .noat "Ports" "_sides", .noat "Ports" "_sides_by_name", .noat "Ports" "_others", .mkr "Ports", .meth "Ports" "has"]
def hfa : List He.Fa := hfa0 ++ hfa1 ++ hfa2
def loose0 : List Str := [("_wall" : Str), ("NearError" : Str), ("InvalidPorts" : Str), ("InvalidSide" : Str), ("InvalidText" : Str), ("InvalidName" : Str), ("InvalidNumbers" : Str), ("InvalidBegins" : Str), ("InvalidDoes" : Str), ("InvalidRefuses" : Str), ("InvalidIndex" : Str), ("InvalidState" : Str), ("InvalidProcesses" : Str), ("InvalidStanding" : Str), ("InvalidHands" : Str), ("InvalidMeetings" : Str), ("InvalidHand" : Str), ("InvalidStopped" : Str), ("InvalidRound" : Str), ("InvalidOrder" : Str), ("InvalidPolicy" : Str), ("InvalidRows" : Str), ("InvalidSums" : Str), ("InvalidCosts" : Str), ("InvalidCounts" : Str)]
def loose1 : List Str := [("InvalidWeights" : Str), ("InvalidDepth" : Str), ("InvalidCount" : Str), ("InvalidRanks" : Str), ("InvalidProcess" : Str), ("InvalidRules" : Str), ("InvalidFacts" : Str), ("InvalidVerdict" : Str), ("InvalidLine" : Str), ("NotDue" : Str), ("Refused" : Str), ("TooMany" : Str), ("Gone" : Str), ("Stopped" : Str), ("NoSolution" : Str), ("NotLeft" : Str), ("NoNet" : Str), ("Near" : Str), ("Still" : Str), ("NotNumber" : Str), ("Struck" : Str), ("KeptUp" : Str), ("MayStand" : Str), ("Empty" : Str), ("NothingToUndo" : Str)]
def loose2 : List Str := [("NothingToRedo" : Str), ("LETTERS" : Str), ("is_integer" : Str), ("is_between" : Str), ("is_list" : Str), ("is_pair" : Str), ("is_name" : Str), ("are_different" : Str), ("MOST_KINDS" : Str), ("MOST_LETTERS" : Str), ("Ports" : Str), ("_sides_of" : Str), ("_without" : Str), ("_are_kinds" : Str), ("_is_kind" : Str), ("_law_cell" : Str), ("_law_box" : Str), ("_law_take" : Str), ("_law_by_place" : Str), ("_law_by_name" : Str), ("_law_bare" : Str), ("_law_sorts" : Str), ("_law_is" : Str), ("_law_kept" : Str), ("_law_deep" : Str)]
def loose3 : List Str := [("_law_thing" : Str), ("_law_same" : Str), ("_law_caught" : Str), ("_law_ones_right" : Str), ("_law_grown_right" : Str)]
def loose : List Str := loose0 ++ loose1 ++ loose2 ++ loose3
/-- an exception class of the program, as the head sees it -/
def oexB (K : PySem.W.Frag) (C : Addr) : Bool := match K.lookup C with
  | some o => (match o with
    | ⟨.type "type", _, .cls k, slo⟩ => (match k.mro, slo.toList with
      | .ref C2 :: rest, [_, _, _, _, some (.builtin id), _] => decide (C2 = C) && (decide (id = "ValueError.__new__") && (!k.hasDel && (k.hasDict && PySem.HandSPX.refsVE rest)))
      | _, _ => false)
    | _ => false)
  | none => false
def kdB (K : PySem.W.Frag) (NE C : Addr) : Bool := oexB K C && (He.eqO (PySem.W.findIn K (.ref C) "__setattr__") (some (some (.builtin "object.__setattr__"))) && (decide (PySem.W.subIn K (.ref C) (.type "BaseException") = some true) &&
  (decide (PySem.W.typeIn K (.ref C) = some (.type "type")) && (PySem.W.keepIn K (.ref C) && (He.eqO (PySem.W.findIn K (.ref C) "__getattribute__") (some (some (.builtin "BaseException.__getattribute__"))) && (He.eqO (PySem.W.findIn K (.ref C) "__getattr__") (some none) &&
  (PySem.W.hasDictIn K C && (He.eqO (PySem.W.findIn K (.ref C) "__class__") (some (some (.builtin "object.__class__"))) && (decide (PySem.W.mroIn K C (.type "object") = some true) && (He.eqO (PySem.W.findIn K (.ref C) "__eq__") (some (some (.builtin "object.__eq__"))) &&
  (He.eqO (PySem.W.findIn K (.ref C) "__ne__") (some (some (.builtin "object.__ne__"))) && (decide (PySem.W.kitOne K (.ref C) (.ref NE) = some true) && decide (PySem.W.kitOne K (.ref C) (.type "ValueError") = some true)))))))))))))
def ownB (K : PySem.W.Frag) (C : Addr) (fld : Str) : Bool := He.eqO (PySem.W.findIn K (.ref C) "__init__") (some (some (.ref (He.ma K C "__init__")))) && (decide (PySem.W.typeIn K (.ref (He.ma K C "__init__")) = some (.type "function")) && He.eqO (PySem.W.findIn K (.ref C) fld) (some none))
def pqB (K : PySem.W.Frag) (C : Addr) : Bool := He.eqO (PySem.W.findIn K (.ref C) "__eq__") (some (some (.ref (He.ma K C "__eq__")))) && (PySem.W.isFn K (.ref (He.ma K C "__eq__")) && (He.eqO (PySem.W.findIn K (.ref C) "__class__") (some (some (.builtin "object.__class__"))) && decide (PySem.W.mroIn K C (.type "object") = some true)))
def clB (K : PySem.W.Frag) : Bool := He.eqO (PySem.W.specialIn K (.builtin "object.__class__") "__get__") (some (some (.builtin "getset_descriptor.__get__"))) && decide (PySem.W.takesIn K (.builtin "object.__class__") = some true)
def tysB (K : PySem.W.Frag) (C : Addr) : Bool := tys.all fun t => decide (PySem.W.kitOne K (.type t) (.ref C) = some false)
def mroB (K : PySem.W.Frag) (NE C : Addr) : Bool := match PySem.W.clsIn K C with
  | some cd => cd.mro == [.ref C, .ref NE, .type "ValueError", .type "Exception", .type "BaseException", .type "object"]
  | none => false
def ndB : List Addr → Bool
  | [] => true
  | a :: l => l.all (fun b => !(a == b)) && ndB l
def caK (K : PySem.W.Frag) (i : Nat) : Addr := He.ga K (enm i)
def exM (K : PySem.W.Frag) : Bool := (K.lookup sysModules).isSome && ((List.range 49).all (fun i => (He.Fa.glo (enm i)).ok K) && ((List.range 49).all (fun i => kdB K (He.ga K "NearError") (caK K i)) && ((List.range 44).all (fun i => ownB K (caK K i) (efl i)) &&
  ((List.range 5).all (fun i => PySem.W.excIn K (caK K (44 + i)) [Value.type "ValueError", Value.type "Exception", Value.type "BaseException", Value.type "object"] "ValueError.__new__") && ((List.range 49).all (fun i => mroB K (He.ga K "NearError") (caK K i)) && (ndB (He.ga K "NearError" :: (List.range 49).map (caK K)) &&
  ((List.range 49).all (fun i => decide (PySem.W.exmOne K (.ref (caK K i)) (.ref (He.ga K "NearError")) = some true)) && ((List.range 49).all (fun i => decide (PySem.W.kitOne K (.ref (He.ga K "Ports")) (.ref (caK K i)) = some false) && decide (PySem.W.kitOne K (.ref (caK K i)) (.ref (He.ga K "Ports")) = some false)) &&
  (decide (PySem.W.kitOne K (.ref (He.ga K "Ports")) (.ref (He.ga K "NearError")) = some false) && (pqB K (He.ga K "Ports") && (clB K && (tysB K (caK K 2) && (tysB K (He.ga K "NearError") && tysB K (He.ga K "Ports"))))))))))))))
abbrev AlM : Type := He.AlT × Bool
def obsM (K : PySem.W.Frag) : AlM := (He.obsT hfa hfn [] K, exM K)
def valM (w : World) : AlM := (He.valT hfn [] w, true)
/-- what a global's object reaches: a function's code, a class's dict and its methods -/
def expF (g : Addr → Option Obj) (a : Addr) : List Addr := match g a with
  | some o => (match o.data with
    | .func fd => a :: He.refV fd.code
    | _ => [a])
  | none => [a]
def expN (g : Addr → Option Obj) (a : Addr) : List Addr := match g a with
  | some o => a :: (He.refsO o).flatMap (expF g)
  | none => [a]
def expA (g : Addr → Option Obj) (a : Addr) : List Addr := match g a with
  | some o => (match o.data with
    | .func fd => a :: He.refV fd.code
    | .cls cd => a :: expN g cd.ns
    | _ => [a])
  | none => [a]
def asH (g : Addr → Option Obj) : List Addr := sysModules :: mainGlobals :: (match g mainGlobals with
  | some o => (He.refsO o).flatMap (expA g)
  | none => [])
def obsMG (g : Addr → Option Obj) : AlM := obsM (He.frG g (asH g))
def SaysM (w : World) (K : PySem.W.Frag) : Prop := obsM K = valM w
def hook : PySem.W.Hook where
  α := AlM
  obs := fun s => obsMG s.heap.get?
  val := fun w => valM w
  says := fun w h => ∃ K : PySem.W.Frag, K.In h ∧ SaysM w K
  of := fun _ _ e => ⟨_, He.frG_in, e⟩
  keeps := fun _ _ _ ⟨K, hK, c⟩ k => ⟨K, PySem.W.Frag.In.keeps hK k, c⟩
def ob (s : PySem.W.SharedT) : AlM := obsMG (HandSHeadRun.getT s)
theorem ob_eq (s : PySem.W.SharedT) : ob s = hook.obs s.abs := by
  have e : HandSHeadRun.getT s = s.abs.heap.get? := funext (HandSHeadRun.getT_eq s)
  show obsMG (HandSHeadRun.getT s) = obsMG s.abs.heap.get?
  rw [e]
abbrev R : PySem.W.OpenRow := PySem.W.OpenLaw.row PySem.Challenge.rw_nearhelp_k00_errors
def exA (K : PySem.W.Frag) : Bool := (K.lookup sysModules).isSome && ((List.range 49).all (fun i => (He.Fa.glo (enm i)).ok K) && ((List.range 49).all (fun i => kdB K (He.ga K "NearError") (caK K i))))
def exB (K : PySem.W.Frag) : Bool := (List.range 44).all (fun i => ownB K (caK K i) (efl i)) && ((List.range 5).all (fun i => PySem.W.excIn K (caK K (44 + i)) [Value.type "ValueError", Value.type "Exception", Value.type "BaseException", Value.type "object"] "ValueError.__new__") && ((List.range 49).all (fun i => mroB K (He.ga K "NearError") (caK K i)) && (ndB (He.ga K "NearError" :: (List.range 49).map (caK K)))))
def exC (K : PySem.W.Frag) : Bool := (List.range 49).all (fun i => decide (PySem.W.exmOne K (.ref (caK K i)) (.ref (He.ga K "NearError")) = some true)) && ((List.range 49).all (fun i => decide (PySem.W.kitOne K (.ref (He.ga K "Ports")) (.ref (caK K i)) = some false) && decide (PySem.W.kitOne K (.ref (caK K i)) (.ref (He.ga K "Ports")) = some false)) &&
  (decide (PySem.W.kitOne K (.ref (He.ga K "Ports")) (.ref (He.ga K "NearError")) = some false) && (pqB K (He.ga K "Ports") && (clB K && (tysB K (caK K 2) && (tysB K (He.ga K "NearError") && tysB K (He.ga K "Ports")))))))
theorem exM_of {K : PySem.W.Frag} (a : exA K = true) (b : exB K = true) (c : exC K = true) : exM K = true := by
  unfold exA at a
  unfold exB at b
  unfold exC at c
  unfold exM
  obtain ⟨a1, a⟩ := He.ba a
  obtain ⟨a2, a3⟩ := He.ba a
  obtain ⟨b1, b⟩ := He.ba b
  obtain ⟨b2, b⟩ := He.ba b
  obtain ⟨b3, b4⟩ := He.ba b
  obtain ⟨c1, c⟩ := He.ba c
  obtain ⟨c2, c⟩ := He.ba c
  obtain ⟨c3, c⟩ := He.ba c
  obtain ⟨c4, c⟩ := He.ba c
  obtain ⟨c5, c⟩ := He.ba c
  obtain ⟨c6, c⟩ := He.ba c
  obtain ⟨c7, c8⟩ := He.ba c
  rw [a1, a2, a3, b1, b2, b3, b4, c1, c2, c3, c4, c5, c6, c7, c8]; rfl
/-- the state behind the top -/
noncomputable abbrev EN (w : World) (os : OsState) : Option PySem.W.SharedT := HandSHeadRun.endF (HandSHeadRun.stepQ (HandSHeadRun.denQ HandSHeadRun.tabQ) R.prog w) 40000 R.prog w os
abbrev KH (s : PySem.W.SharedT) : PySem.W.Frag := He.frG (HandSHeadRun.getT s) (asH (HandSHeadRun.getT s))
def EndQ {β : Type} (ob : PySem.W.SharedT → β) (v : β) (w : World) : Prop := ∀ os : OsState, (EN w os).map ob = some v
abbrev wF (w : World) : World := w.withFollow "special-get-raises" false
abbrev wT (w : World) : World := w.withFollow "special-get-raises" true
def hook0 : PySem.W.Hook where
  α := Bool
  obs := fun _ => true
  val := fun _ => true
  says := fun _ _ => True
  of := fun _ _ _ => trivial
  keeps := fun _ _ _ _ _ => trivial
theorem comb {σ A B C : Type} {x : Option σ} {f1 : σ → A} {f2 : σ → B} {f3 : σ → C} {p p2 p3 p4 : σ → Bool} {v1 : A} {v2 : B} {v3 : C} (h1 : x.map (fun s => (f1 s, f2 s, true)) = some (v1, v2, true)) (h0 : x.map f3 = some v3) (h2 : x.map p2 = some true) (h3 : x.map p3 = some true) (h4 : x.map p4 = some true)
    (hp : ∀ s, p2 s = true → p3 s = true → p4 s = true → p s = true) : x.map (fun s => (f1 s, f2 s, (f3 s, p s))) = some (v1, v2, (v3, true)) := by
  cases x with
  | none => cases h1
  | some s =>
    simp only [Option.map_some, Option.some.injEq, Prod.mk.injEq] at h1 h0 h2 h3 h4 ⊢
    exact ⟨h1.1, h1.2.1, h0, hp s h2 h3 h4⟩
theorem e0_f (w : World) : HandSHeadRun.RunEq R (PySem.W.view R.prog [84]) hook0 (fun _ => true) 40000 loose (wF w) := by
  intro os
  kernel_rfl
theorem e1_f (w : World) : EndQ (fun s => He.obsT hfa hfn [] (KH s)) (He.valT hfn [] (wF w)) (wF w) := by
  intro os
  kernel_rfl
theorem e2_f (w : World) : EndQ (fun s => exA (KH s)) true (wF w) := by
  intro os
  kernel_rfl
theorem e3_f (w : World) : EndQ (fun s => exB (KH s)) true (wF w) := by
  intro os
  kernel_rfl
theorem e4_f (w : World) : EndQ (fun s => exC (KH s)) true (wF w) := by
  intro os
  kernel_rfl
theorem e0_t (w : World) : HandSHeadRun.RunEq R (PySem.W.view R.prog [84]) hook0 (fun _ => true) 40000 loose (wT w) := by
  intro os
  kernel_rfl
theorem e1_t (w : World) : EndQ (fun s => He.obsT hfa hfn [] (KH s)) (He.valT hfn [] (wT w)) (wT w) := by
  intro os
  kernel_rfl
theorem e2_t (w : World) : EndQ (fun s => exA (KH s)) true (wT w) := by
  intro os
  kernel_rfl
theorem e3_t (w : World) : EndQ (fun s => exB (KH s)) true (wT w) := by
  intro os
  kernel_rfl
theorem e4_t (w : World) : EndQ (fun s => exC (KH s)) true (wT w) := by
  intro os
  kernel_rfl
theorem run_of (w : World) (h1 : HandSHeadRun.RunEq R (PySem.W.view R.prog [84]) hook0 (fun _ => true) 40000 loose w) (h0 : EndQ (fun s => He.obsT hfa hfn [] (KH s)) (He.valT hfn [] w) w) (h2 : EndQ (fun s => exA (KH s)) true w) (h3 : EndQ (fun s => exB (KH s)) true w) (h4 : EndQ (fun s => exC (KH s)) true w) :
    HandSHeadRun.RunEq R (PySem.W.view R.prog [84]) hook ob 40000 loose w := fun os =>
  comb (p := fun s => exM (KH s)) (h1 os) (h0 os) (h2 os) (h3 os) (h4 os) fun _ a b c => exM_of a b c
theorem run (w : World) : HandSHeadRun.RunEq R (PySem.W.view R.prog [84]) hook ob 40000 loose w :=
  PySem.W.byRow2 "special-get-raises" (P := fun w => HandSHeadRun.RunEq R (PySem.W.view R.prog [84]) hook ob 40000 loose w) (fun w => run_of _ (e0_f w) (e1_f w) (e2_f w) (e3_f w) (e4_f w)) (fun w => run_of _ (e0_t w) (e1_t w) (e2_t w) (e3_t w) (e4_t w)) w
end NH
set_option maxHeartbeats 4000000
namespace NH
open PySem PySem.Spec PyProof.Rows L2 TL
/-- what each error class says of itself -/
structure KdC (K : PySem.W.Frag) (C NE : Addr) : Prop where
  T : OexC K C
  xc : ExcC K C
  eq : NX.EqC K C
  kn : PySem.W.kitOne K (.ref C) (.ref NE) = some true
  kv : PySem.W.kitOne K (.ref C) (.type "ValueError") = some true
theorem KdC.xf {K : PySem.W.Frag} {C NE : Addr} (x : KdC K C NE) : XfC K C := ⟨x.xc.hg, x.xc.hk, x.xc.hs, x.xc.hd⟩
/-- all error classes; ca: where they stand -/
structure Errs (P : Program) (w : World) (K : PySem.W.Frag) (mg : Str → Option Value) (base : Heap) (ca : Nat → Addr) (NE : Addr) : Prop where
  all : ∀ i, i < 49 → KdC K (ca i) NE
  g : ∀ i, i < 49 → mg (enm i) = some (.ref (ca i))
  no : ∀ i, i < 44 → PySem.W.findIn K (.ref (ca i)) (efl i) = some none
  own : ∀ i, i < 44 → ∃ fI, PySem.W.findIn K (.ref (ca i)) "__init__" = some (some (.ref fI)) ∧ PySem.W.typeIn K (.ref fI) = some (.type "function") ∧ MkI P w K mg base fI (efl i) (ca i)
  bare : ∀ i, 44 ≤ i → i < 49 → PySem.W.excIn K (ca i) PySem.HandSPX.veTail "ValueError.__new__" = true
  kit : ∀ i j, i < 49 → j < 49 → PySem.W.kitOne K (.ref (ca i)) (.ref (ca j)) = some (decide (i = j))
  inj : ∀ i j, i < 49 → j < 49 → ca i = ca j → i = j
  sub : ∀ i j, i < 49 → j < 49 → i ≠ j → PySem.W.subIn K (.ref (ca j)) (.ref (ca i)) = some false
  gNE : mg "NearError" = some (.ref NE)
section
variable {X : Cx} {ca : Nat → Addr} {NE : Addr} {j i : Nat} {x : Str} {e : Expr} {te : TE} {p pos : Pos} {kp : Pos} {fld : Str}
/-- C(e) -/
abbrev tEr (ca : Nat → Addr) (i : Nat) (te : TE) : TE := tMkx (ca i) (spErr (efl i) (ca i)) (tCons te tNil)
theorem pe_er (E : Errs X.prog X.w X.K X.mg X.base ca NE) (i : Nat) (hr : Room j X.A) (ha : PE X e te) (hi : i < 44 := by decide) (hj : 2 ≤ j := by decide) (hx : enm i = x := by rfl) (hg : Gl X x := by rfl)
    (hdb : (x == ("__debug__" : Str)) = false := by decide) (he : starEach [e] X.env = (false, eval e X.env) :: starEach [] X.env := by rfl) (hpl : (backTo pos (starEach [] X.env)).any (·.1) = false := by rfl) :
    PE X (.Call (.Name x p) [e] [] pos) (tEr ca i te) := by
  obtain ⟨fI, iC, tI, fd, bp, bk, F1⟩ := E.own i hi
  have z := E.all i (Nat.lt_trans hi (by decide))
  exact pe_mkx z.T iC tI F1 (hr.mono hj) bp (by rw [← hx]; exact E.g i (Nat.lt_trans hi (by decide))) ha hg hdb he hpl
theorem pe_erK (E : Errs X.prog X.w X.K X.mg X.base ca NE) (i : Nat) (hr : Room j X.A) (ha : PE X e te) (hi : i < 44 := by decide) (hj : 2 ≤ j := by decide) (hx : enm i = x := by rfl) (hf : efl i = fld := by rfl) (hg : Gl X x := by rfl)
    (hdb : (x == ("__debug__" : Str)) = false := by decide) (hall : (backToKw pos (keywordEach [⟨some fld, e, kp⟩] X.env)).all (·.1.isSome) = true := by rfl) (hks : (backToKw pos (keywordEach [⟨some fld, e, kp⟩] X.env)).filterMap (·.1) = [fld] := by rfl)
    (hpl : ((backTo pos (starEach [] X.env)).any (·.1) || (backToKw pos (keywordEach [⟨some fld, e, kp⟩] X.env)).any (·.1.isNone)) = false := by rfl) :
    PE X (.Call (.Name x p) [] [⟨some fld, e, kp⟩] pos) (tEr ca i te) := by
  subst hf
  obtain ⟨fI, iC, tI, fd, bp, bk, F1⟩ := E.own i hi
  have z := E.all i (Nat.lt_trans hi (by decide))
  exact pe_mkxK z.T iC tI F1 (hr.mono hj) bk (by rw [← hx]; exact E.g i (Nat.lt_trans hi (by decide))) ha hg hdb hall hks hpl
theorem pe_er0 (E : Errs X.prog X.w X.K X.mg X.base ca NE) (i : Nat) (hi : 44 ≤ i := by decide) (hi2 : i < 49 := by decide) (hx : enm i = x := by rfl) (hg : Gl X x := by rfl) (hdb : (x == ("__debug__" : Str)) = false := by decide) :
    PE X (.Call (.Name x p) [] [] pos) (fun σ H Q => ∀ a, H a = none → Q (.ref a) (upd H a (ExO (.ref (ca i)) a))) :=
  pe_mk0 F.excBase_ValueError (E.bare i hi hi2) (by rw [← hx]; exact E.g i hi2) (E.all i hi2).T.kC hg hdb
/-- C(e), raised -/
abbrev tErR (ca : Nat → Addr) (i : Nat) (te : TE) : L2.St → Hp → XK → Prop := tMkR (ca i) (spErr (efl i) (ca i)) (tCons te tNil)
theorem pmk_er (E : Errs X.prog X.w X.K X.mg X.base ca NE) (i : Nat) (hr : Room j X.A) (ha : PE X e te) (hi : i < 44 := by decide) (hj : 2 ≤ j := by decide) (hx : enm i = x := by rfl) (hg : Gl X x := by rfl)
    (hdb : (x == ("__debug__" : Str)) = false := by decide) (he : starEach [e] X.env = (false, eval e X.env) :: starEach [] X.env := by rfl) (hpl : (backTo pos (starEach [] X.env)).any (·.1) = false := by rfl) :
    PMk X (.Call (.Name x p) [e] [] pos) (tErR ca i te) := by
  obtain ⟨fI, iC, tI, fd, bp, bk, F1⟩ := E.own i hi
  have z := E.all i (Nat.lt_trans hi (by decide))
  exact pmk_x z.T iC tI F1 (hr.mono hj) bp (by rw [← hx]; exact E.g i (Nat.lt_trans hi (by decide))) ha hg hdb he hpl
theorem pmk_erK (E : Errs X.prog X.w X.K X.mg X.base ca NE) (i : Nat) (hr : Room j X.A) (ha : PE X e te) (hi : i < 44 := by decide) (hj : 2 ≤ j := by decide) (hx : enm i = x := by rfl) (hf : efl i = fld := by rfl) (hg : Gl X x := by rfl)
    (hdb : (x == ("__debug__" : Str)) = false := by decide) (hall : (backToKw pos (keywordEach [⟨some fld, e, kp⟩] X.env)).all (·.1.isSome) = true := by rfl) (hks : (backToKw pos (keywordEach [⟨some fld, e, kp⟩] X.env)).filterMap (·.1) = [fld] := by rfl)
    (hpl : ((backTo pos (starEach [] X.env)).any (·.1) || (backToKw pos (keywordEach [⟨some fld, e, kp⟩] X.env)).any (·.1.isNone)) = false := by rfl) :
    PMk X (.Call (.Name x p) [] [⟨some fld, e, kp⟩] pos) (tErR ca i te) := by
  subst hf
  obtain ⟨fI, iC, tI, fd, bp, bk, F1⟩ := E.own i hi
  have z := E.all i (Nat.lt_trans hi (by decide))
  exact pmk_xK z.T iC tI F1 (hr.mono hj) bk (by rw [← hx]; exact E.g i (Nat.lt_trans hi (by decide))) ha hg hdb hall hks hpl
theorem pmk_er0 (E : Errs X.prog X.w X.K X.mg X.base ca NE) (i : Nat) (hi : 44 ≤ i := by decide) (hi2 : i < 49 := by decide) (hx : enm i = x := by rfl) (hg : Gl X x := by rfl) (hdb : (x == ("__debug__" : Str)) = false := by decide) :
    PMk X (.Call (.Name x p) [] [] pos) (fun _ H Q => Q (.ref (ca i)) none H) :=
  pmk_0 F.excBase_ValueError (E.bare i hi hi2) (by rw [← hx]; exact E.g i hi2) (E.all i hi2).T.kC (raises_own (E.all i hi2).T.exC (E.all i hi2).T.tyC) hg hdb
end
/-- what is known of a new error -/
theorem er_go {H : Hp} {fld : Str} {C : Addr} {v : V} {Q : VK} (q : ∀ a H2, H a = none → Same H H2 → ErAt H2 a C (some (fld, v)) → Q (.ref a) H2) :
    ([v] : List V).length ≤ 1000 ∧ ∀ a, H a = none → spErr fld C (.ref a :: [v]) (upd H a (exo a C none)) (fun u H2 => u = .non ∧ Q (.ref a) H2) (fun _ _ _ => False) := by
  refine ⟨by show 1 ≤ 1000; decide, fun a ha => ⟨a, v, rfl, upd_same, fun dx h1 h2 => ⟨rfl, q a _ ha ?_ ⟨dx, exAt_exo upd_same, .inl (by rw [upd_ne h2]; exact upd_same)⟩⟩⟩⟩
  intro b o e
  have n1 : b ≠ a := ne_of_none e ha
  have n2 : b ≠ dx := fun z => by
    subst z
    rw [upd_ne n1] at h1
    rw [h1] at e; cases e
  rw [upd_ne n1, upd_ne n2, upd_ne n1]
  exact e
/-- and of one that is raised -/
theorem erR_go {H : Hp} {fld : Str} {C : Addr} {v : V} {Q : XK} (q : ∀ d H', H d = none → Same H H' → H' d = some (.xd [(fld, v)]) → Q (.ref C) (some d) H') :
    ([v] : List V).length ≤ 1000 ∧ ∀ a, H a = none → spErr fld C (.ref a :: [v]) (upd H a (exo a C none)) (fun u H2 => u = .non ∧ ∃ (d : Addr) (fs : List (Str × V)), H2 a = some (exo a C (some d)) ∧ H2 d = some (exd d fs) ∧ H d = none ∧ Q (.ref C) (some d) (upd (del H2 a) d (.xd fs))) (fun _ _ _ => False) := by
  refine ⟨by show 1 ≤ 1000; decide, fun a ha => ⟨a, v, rfl, upd_same, fun dx h1 h2 => ?_⟩⟩
  have h3 : H dx = none := by rw [upd_ne h2] at h1; exact h1
  refine ⟨rfl, dx, [(fld, v)], upd_same, by rw [upd_ne h2, upd_same], h3, q dx _ h3 ?_ upd_same⟩
  intro b o e
  have e1 : b ≠ a := ne_of_none e ha
  have e2 : b ≠ dx := ne_of_none e h3
  rw [upd_ne e2, del_ne e1, upd_ne e1, upd_ne e2, upd_ne e1]
  exact e
/-- a row of errors of the classes is, each with v -/
def Ers (ca : Nat → Addr) (H : Hp) (v : V) (as : List Addr) (is : List Nat) : Prop := Paired (fun a i => ErAt H a (ca i) (some (efl i, v))) as is
theorem Ers.same {ca : Nat → Addr} {H H' : Hp} {v : V} (s : Same H H') : ∀ {as : List Addr} {is : List Nat}, Ers ca H v as is → Ers ca H' v as is
  | _, _, .nil => .nil
  | _, _, .cons h r => .cons (h.same s) (Ers.same s r)
theorem Ers.app {ca : Nat → Addr} {H : Hp} {v : V} : ∀ {as bs : List Addr} {is js : List Nat}, Ers ca H v as is → Ers ca H v bs js → Ers ca H v (as ++ bs) (is ++ js)
  | _, _, _, _, .nil, h => h
  | _, _, _, _, .cons h r, q => .cons h (Ers.app r q)
def tErs (ca : Nat → Addr) (te : TE) : List Nat → TA
  | [] => tNil
  | i :: is => tCons (tEr ca i te) (tErs ca te is)
theorem ers_go {ca : Nat → Addr} {σ : L2.St} {v : V} {te : TE} (ht : ∀ H Q, Q v H → te σ H Q) : ∀ (is : List Nat) (H : Hp) (Q : List V → Hp → Prop), (∀ as H2, Same H H2 → (∀ a ∈ as, H a = none) → Ers ca H2 v as is → Q (as.map V.ref) H2) → tErs ca te is σ H Q
  | [], H, Q, q => q [] H (Same.refl H) (by simp) .nil
  | i :: is, H, Q, q => by
    refine ht _ _ (er_go (H := H) (fld := efl i) (C := ca i) (v := v) (Q := fun x H1 => tErs ca te is σ H1 fun xs H2 => Q (x :: xs) H2) fun a H1 ha s1 e1 => ?_)
    refine ers_go ht is H1 _ fun as H2 s2 n2 e2 => ?_
    exact q (a :: as) H2 (s1.trans s2) (fun b hb => by
      rcases List.mem_cons.mp hb with rfl | hb
      · exact ha
      · exact s1.free (n2 b hb)) (.cons (e1.same s2) e2)
end NH
set_option maxHeartbeats 800000
namespace NH
open PySem PySem.Spec PyProof.Rows L2 TL
/-- a list of errors of the classes is, each keeping v, all newer than H0 -/
def Got (ca : Nat → Addr) (H0 H : Hp) (v : V) (p : Addr) (is : List Nat) : Prop := Same H0 H ∧ ∃ as, H p = some (.lst (as.map V.ref)) ∧ Ers ca H v as is ∧ ∀ a ∈ as, H0 a = none
theorem Ers.len {ca : Nat → Addr} {H : Hp} {v : V} {as : List Addr} {is : List Nat} (h : Ers ca H v as is) : as.length = is.length := Paired.length h
theorem got_first {ca : Nat → Addr} {σ : L2.St} {v : V} {te : TE} (ht : ∀ H Q, Q v H → te σ H Q) (is : List Nat) (hl : is.length ≤ 100) {H : Hp} {Q : VK} (q : ∀ p H2, Got ca H H2 v p is → Q (.ref p) H2) : tLst (tErs ca te is) σ H Q := by
  refine ers_go ht is H _ fun as H2 s2 n2 e2 => ⟨by rw [List.length_map, e2.len, sizeLine_eq]; omega, fun p hp => q p _ ⟨Same.put s2 (s2.free hp), as, upd_same, e2.same (same_new hp), n2⟩⟩
theorem got_cat {ca : Nat → Addr} {σ : L2.St} {v : V} {te : TE} (ht : ∀ H Q, Q v H → te σ H Q) (js : List Nat) {is : List Nat} (hl : is.length + js.length ≤ 100) {p : Addr} {H0 H : Hp} {Q : VK} (g : Got ca H0 H v p is) (q : ∀ p2 H2, Got ca H0 H2 v p2 (is ++ js) → Q (.ref p2) H2) :
    tLst (tErs ca te js) σ H (fun y H2 => rCat (.ref p) y H2 Q) := by
  obtain ⟨s, as, hp, he, hn⟩ := g
  refine ers_go ht js H _ fun bs H2 s2 n2 e2 => ⟨by rw [List.length_map, e2.len, sizeLine_eq]; omega, fun p1 h1 => ?_⟩
  have w1 := same_new (o := .lst (bs.map V.ref)) h1
  refine ⟨p, p1, _, _, rfl, rfl, w1 _ _ (s2 _ _ hp), upd_same, by rw [List.length_map, List.length_map, e2.len, he.len, sizeLine_eq]; omega, fun p2 h2 => ?_⟩
  have w2 := same_new (o := .lst (as.map V.ref ++ bs.map V.ref)) h2
  have s3 := (s2.trans w1).trans w2
  refine q p2 _ ⟨s.trans s3, as ++ bs, by rw [List.map_append]; exact upd_same, Ers.app (he.same s3) (e2.same (w1.trans w2)), fun a ha => (List.mem_append.mp ha).elim (hn a) fun z => s.free (n2 a z)⟩
theorem pa_er {X : Cx} {ca : Nat → Addr} {te : TE} {i : Nat} {is : List Nat} {e : Expr} {es : List Expr} (h : PE X e (tEr ca i te)) (r : PA X es (tErs ca te is)) (hs : starEach (e :: es) X.env = (false, eval e X.env) :: starEach es X.env := by rfl) : PA X (e :: es) (tErs ca te (i :: is)) := pa_cons h r hs
theorem pa_er0 {X : Cx} {ca : Nat → Addr} {te : TE} : PA X [] (tErs ca te []) := pa_nil
theorem st_first {ca : Nat → Addr} {σ : L2.St} {v : V} {te : TE} {u : TS} {D : Ends} {i : Nat} (ht : ∀ H Q, Q v H → te σ H Q) {is : List Nat} (hl : is.length ≤ 100) {H : Hp} (q : ∀ p H2, Got ca H H2 v p is → u D (σ.set i (some (.ref p))) H2) :
    tSeq (tAsg (tLst (tErs ca te is)) (gName i)) u D σ H := by
  show tLst (tErs ca te is) σ H fun x H1 => u D (σ.set i (some x)) H1
  exact got_first ht is hl q
theorem st_cat {ca : Nat → Addr} {σ : L2.St} {v : V} {te : TE} {u : TS} {D : Ends} {i j : Nat} (ht : ∀ H Q, Q v H → te σ H Q) {is js : List Nat} {p : Addr} {H0 H : Hp} (g : Got ca H0 H v p is) (hj : σ[j]? = some (some (.ref p))) (hl : is.length + js.length ≤ 100) (q : ∀ p2 H2, Got ca H0 H2 v p2 (is ++ js) → u D (σ.set i (some (.ref p2))) H2) :
    tSeq (tAsg (tOp rCat (tVar j) (tLst (tErs ca te js))) (gName i)) u D σ H := by
  show tVar j σ H fun x H1 => tLst (tErs ca te js) σ H1 fun y H2 => rCat x y H2 fun z H3 => u D (σ.set i (some z)) H3
  exact ⟨_, hj, got_cat ht js hl g q⟩
theorem st_last {ca : Nat → Addr} {σ : L2.St} {v : V} {te : TE} {D : Ends} {j : Nat} (ht : ∀ H Q, Q v H → te σ H Q) {is js : List Nat} {p : Addr} {H0 H : Hp} (g : Got ca H0 H v p is) (hj : σ[j]? = some (some (.ref p))) (hl : is.length + js.length ≤ 100) (q : ∀ p2 H2, Got ca H0 H2 v p2 (is ++ js) → D.rt (.ref p2) H2) :
    tRet (tOp rCat (tVar j) (tLst (tErs ca te js))) D σ H := by
  show tVar j σ H fun x H1 => tLst (tErs ca te js) σ H1 fun y H2 => rCat x y H2 D.rt
  exact ⟨_, hj, got_cat ht js hl g q⟩
section
variable {P : Program} {w : World} {K : PySem.W.Frag} {mg : Str → Option Value} {base : Heap} {ca : Nat → Addr} {NE : Addr}
def spGot (ca : Nat → Addr) : Sp := fun vs H Q _ => ∃ v, vs = [v] ∧ ∀ p H', Got ca H H' v p (List.range 44) → Q (.ref p) H'

abbrev s_law_by_place : Stmt := top 72
theorem sc_law_by_place : FnScope ["thing", "found"] ["thing"] (defScope s_law_by_place) := ⟨rfl, rfl, rfl, by decide +kernel, rfl, by decide +kernel, by decide +kernel⟩
theorem ok_law_by_place (E : Errs P w K mg base ca NE) (DA : DefAt K mg "_law_by_place" s_law_by_place) : Callee P w K mg base 3 "_law_by_place" ["thing"] (spGot ca) := by
  refine callee DA sc_law_by_place (fun vs H Q E h => by obtain ⟨v, rfl, _⟩ := h; rfl) (fun _ _ _ _ _ _ us hl => match us, hl with | [_], _ => rfl) fun f cdv A outer s H vs Q E0 hr h => ?_
  obtain ⟨v, rfl, q⟩ := h
  refine ⟨_, (pss_cons (ps_set (i := 1) sc_law_by_place.nd rfl (Or.inl rfl) (pe_lst (pa_er (pe_er (x := "InvalidPorts") E 0 hr (pv 0)) (pa_er (pe_er (x := "InvalidSide") E 1 hr (pv 0)) (pa_er (pe_er (x := "InvalidText") E 2 hr (pv 0)) (pa_er (pe_er (x := "InvalidName") E 3 hr (pv 0)) (pa_er (pe_er (x := "InvalidNumbers") E 4 hr (pv 0)) pa_er0)))))))
    (pss_cons (ps_set (i := 1) sc_law_by_place.nd rfl (Or.inl rfl) (pe_op op_cat (pv 1) (pe_lst (pa_er (pe_er (x := "InvalidBegins") E 5 hr (pv 0)) (pa_er (pe_er (x := "InvalidDoes") E 6 hr (pv 0)) (pa_er (pe_er (x := "InvalidRefuses") E 7 hr (pv 0)) (pa_er (pe_er (x := "InvalidIndex") E 8 hr (pv 0)) pa_er0)))))))
    (pss_cons (ps_set (i := 1) sc_law_by_place.nd rfl (Or.inl rfl) (pe_op op_cat (pv 1) (pe_lst (pa_er (pe_er (x := "InvalidState") E 9 hr (pv 0)) (pa_er (pe_er (x := "InvalidProcesses") E 10 hr (pv 0)) (pa_er (pe_er (x := "InvalidStanding") E 11 hr (pv 0)) (pa_er (pe_er (x := "InvalidHands") E 12 hr (pv 0)) pa_er0)))))))
    (pss_cons (ps_set (i := 1) sc_law_by_place.nd rfl (Or.inl rfl) (pe_op op_cat (pv 1) (pe_lst (pa_er (pe_er (x := "InvalidMeetings") E 13 hr (pv 0)) (pa_er (pe_er (x := "InvalidHand") E 14 hr (pv 0)) (pa_er (pe_er (x := "InvalidStopped") E 15 hr (pv 0)) (pa_er (pe_er (x := "InvalidRound") E 16 hr (pv 0)) pa_er0)))))))
    (pss_cons (ps_set (i := 1) sc_law_by_place.nd rfl (Or.inl rfl) (pe_op op_cat (pv 1) (pe_lst (pa_er (pe_er (x := "InvalidOrder") E 17 hr (pv 0)) (pa_er (pe_er (x := "InvalidPolicy") E 18 hr (pv 0)) (pa_er (pe_er (x := "InvalidRows") E 19 hr (pv 0)) (pa_er (pe_er (x := "InvalidSums") E 20 hr (pv 0)) pa_er0)))))))
    (pss_cons (ps_set (i := 1) sc_law_by_place.nd rfl (Or.inl rfl) (pe_op op_cat (pv 1) (pe_lst (pa_er (pe_er (x := "InvalidCosts") E 21 hr (pv 0)) (pa_er (pe_er (x := "InvalidCounts") E 22 hr (pv 0)) (pa_er (pe_er (x := "InvalidWeights") E 23 hr (pv 0)) (pa_er (pe_er (x := "InvalidDepth") E 24 hr (pv 0)) pa_er0)))))))
    (pss_cons (ps_set (i := 1) sc_law_by_place.nd rfl (Or.inl rfl) (pe_op op_cat (pv 1) (pe_lst (pa_er (pe_er (x := "InvalidCount") E 25 hr (pv 0)) (pa_er (pe_er (x := "InvalidRanks") E 26 hr (pv 0)) (pa_er (pe_er (x := "InvalidProcess") E 27 hr (pv 0)) (pa_er (pe_er (x := "InvalidRules") E 28 hr (pv 0)) pa_er0)))))))
    (pss_cons (ps_set (i := 1) sc_law_by_place.nd rfl (Or.inl rfl) (pe_op op_cat (pv 1) (pe_lst (pa_er (pe_er (x := "InvalidFacts") E 29 hr (pv 0)) (pa_er (pe_er (x := "InvalidVerdict") E 30 hr (pv 0)) (pa_er (pe_er (x := "InvalidLine") E 31 hr (pv 0)) pa_er0))))))
    (pss_cons (ps_set (i := 1) sc_law_by_place.nd rfl (Or.inl rfl) (pe_op op_cat (pv 1) (pe_lst (pa_er (pe_er (x := "NotDue") E 32 hr (pv 0)) (pa_er (pe_er (x := "Refused") E 33 hr (pv 0)) (pa_er (pe_er (x := "TooMany") E 34 hr (pv 0)) (pa_er (pe_er (x := "Gone") E 35 hr (pv 0)) (pa_er (pe_er (x := "Stopped") E 36 hr (pv 0)) (pa_er (pe_er (x := "NoSolution") E 37 hr (pv 0)) pa_er0)))))))))
    (pss_one (ps_ret (pe_op op_cat (pv 1) (pe_lst (pa_er (pe_er (x := "NotLeft") E 38 hr (pv 0)) (pa_er (pe_er (x := "Near") E 39 hr (pv 0)) (pa_er (pe_er (x := "Still") E 40 hr (pv 0)) (pa_er (pe_er (x := "NotNumber") E 41 hr (pv 0)) (pa_er (pe_er (x := "Struck") E 42 hr (pv 0)) (pa_er (pe_er (x := "KeptUp") E 43 hr (pv 0)) pa_er0))))))))))))))))))), ?_⟩
  refine st_first (v := v) (fun H Q q => ⟨v, rfl, q⟩) (by decide) fun p1 H1 g1 => ?_
  refine st_cat (v := v) (fun H Q q => ⟨v, rfl, q⟩) g1 rfl (by decide) fun p2 H2 g2 => ?_
  refine st_cat (v := v) (fun H Q q => ⟨v, rfl, q⟩) g2 rfl (by decide) fun p3 H3 g3 => ?_
  refine st_cat (v := v) (fun H Q q => ⟨v, rfl, q⟩) g3 rfl (by decide) fun p4 H4 g4 => ?_
  refine st_cat (v := v) (fun H Q q => ⟨v, rfl, q⟩) g4 rfl (by decide) fun p5 H5 g5 => ?_
  refine st_cat (v := v) (fun H Q q => ⟨v, rfl, q⟩) g5 rfl (by decide) fun p6 H6 g6 => ?_
  refine st_cat (v := v) (fun H Q q => ⟨v, rfl, q⟩) g6 rfl (by decide) fun p7 H7 g7 => ?_
  refine st_cat (v := v) (fun H Q q => ⟨v, rfl, q⟩) g7 rfl (by decide) fun p8 H8 g8 => ?_
  refine st_cat (v := v) (fun H Q q => ⟨v, rfl, q⟩) g8 rfl (by decide) fun p9 H9 g9 => ?_
  exact st_last (v := v) (fun H Q q => ⟨v, rfl, q⟩) g9 rfl (by decide) fun p10 H10 g10 => q p10 H10 g10
abbrev s_law_by_name : Stmt := top 73
theorem sc_law_by_name : FnScope ["thing", "found"] ["thing"] (defScope s_law_by_name) := ⟨rfl, rfl, rfl, by decide +kernel, rfl, by decide +kernel, by decide +kernel⟩
theorem ok_law_by_name (E : Errs P w K mg base ca NE) (DA : DefAt K mg "_law_by_name" s_law_by_name) : Callee P w K mg base 3 "_law_by_name" ["thing"] (spGot ca) := by
  refine callee DA sc_law_by_name (fun vs H Q E h => by obtain ⟨v, rfl, _⟩ := h; rfl) (fun _ _ _ _ _ _ us hl => match us, hl with | [_], _ => rfl) fun f cdv A outer s H vs Q E0 hr h => ?_
  obtain ⟨v, rfl, q⟩ := h
  refine ⟨_, (pss_cons (ps_set (i := 1) sc_law_by_name.nd rfl (Or.inl rfl) (pe_lst (pa_er (pe_erK (x := "InvalidPorts") (fld := "given") E 0 hr (pv 0)) (pa_er (pe_erK (x := "InvalidSide") (fld := "given") E 1 hr (pv 0)) (pa_er (pe_erK (x := "InvalidText") (fld := "given") E 2 hr (pv 0)) (pa_er (pe_erK (x := "InvalidName") (fld := "given") E 3 hr (pv 0)) pa_er0))))))
    (pss_cons (ps_set (i := 1) sc_law_by_name.nd rfl (Or.inl rfl) (pe_op op_cat (pv 1) (pe_lst (pa_er (pe_erK (x := "InvalidNumbers") (fld := "given") E 4 hr (pv 0)) (pa_er (pe_erK (x := "InvalidBegins") (fld := "given") E 5 hr (pv 0)) (pa_er (pe_erK (x := "InvalidDoes") (fld := "given") E 6 hr (pv 0)) pa_er0))))))
    (pss_cons (ps_set (i := 1) sc_law_by_name.nd rfl (Or.inl rfl) (pe_op op_cat (pv 1) (pe_lst (pa_er (pe_erK (x := "InvalidRefuses") (fld := "given") E 7 hr (pv 0)) (pa_er (pe_erK (x := "InvalidIndex") (fld := "given") E 8 hr (pv 0)) (pa_er (pe_erK (x := "InvalidState") (fld := "given") E 9 hr (pv 0)) pa_er0))))))
    (pss_cons (ps_set (i := 1) sc_law_by_name.nd rfl (Or.inl rfl) (pe_op op_cat (pv 1) (pe_lst (pa_er (pe_erK (x := "InvalidProcesses") (fld := "given") E 10 hr (pv 0)) (pa_er (pe_erK (x := "InvalidStanding") (fld := "given") E 11 hr (pv 0)) (pa_er (pe_erK (x := "InvalidHands") (fld := "given") E 12 hr (pv 0)) pa_er0))))))
    (pss_cons (ps_set (i := 1) sc_law_by_name.nd rfl (Or.inl rfl) (pe_op op_cat (pv 1) (pe_lst (pa_er (pe_erK (x := "InvalidMeetings") (fld := "given") E 13 hr (pv 0)) (pa_er (pe_erK (x := "InvalidHand") (fld := "given") E 14 hr (pv 0)) (pa_er (pe_erK (x := "InvalidStopped") (fld := "given") E 15 hr (pv 0)) pa_er0))))))
    (pss_cons (ps_set (i := 1) sc_law_by_name.nd rfl (Or.inl rfl) (pe_op op_cat (pv 1) (pe_lst (pa_er (pe_erK (x := "InvalidRound") (fld := "given") E 16 hr (pv 0)) (pa_er (pe_erK (x := "InvalidOrder") (fld := "given") E 17 hr (pv 0)) (pa_er (pe_erK (x := "InvalidPolicy") (fld := "given") E 18 hr (pv 0)) pa_er0))))))
    (pss_cons (ps_set (i := 1) sc_law_by_name.nd rfl (Or.inl rfl) (pe_op op_cat (pv 1) (pe_lst (pa_er (pe_erK (x := "InvalidRows") (fld := "given") E 19 hr (pv 0)) (pa_er (pe_erK (x := "InvalidSums") (fld := "given") E 20 hr (pv 0)) (pa_er (pe_erK (x := "InvalidCosts") (fld := "given") E 21 hr (pv 0)) pa_er0))))))
    (pss_cons (ps_set (i := 1) sc_law_by_name.nd rfl (Or.inl rfl) (pe_op op_cat (pv 1) (pe_lst (pa_er (pe_erK (x := "InvalidCounts") (fld := "given") E 22 hr (pv 0)) (pa_er (pe_erK (x := "InvalidWeights") (fld := "given") E 23 hr (pv 0)) (pa_er (pe_erK (x := "InvalidDepth") (fld := "given") E 24 hr (pv 0)) pa_er0))))))
    (pss_cons (ps_set (i := 1) sc_law_by_name.nd rfl (Or.inl rfl) (pe_op op_cat (pv 1) (pe_lst (pa_er (pe_erK (x := "InvalidCount") (fld := "given") E 25 hr (pv 0)) (pa_er (pe_erK (x := "InvalidRanks") (fld := "given") E 26 hr (pv 0)) (pa_er (pe_erK (x := "InvalidProcess") (fld := "given") E 27 hr (pv 0)) pa_er0))))))
    (pss_cons (ps_set (i := 1) sc_law_by_name.nd rfl (Or.inl rfl) (pe_op op_cat (pv 1) (pe_lst (pa_er (pe_erK (x := "InvalidRules") (fld := "given") E 28 hr (pv 0)) (pa_er (pe_erK (x := "InvalidFacts") (fld := "given") E 29 hr (pv 0)) (pa_er (pe_erK (x := "InvalidVerdict") (fld := "given") E 30 hr (pv 0)) pa_er0))))))
    (pss_cons (ps_set (i := 1) sc_law_by_name.nd rfl (Or.inl rfl) (pe_op op_cat (pv 1) (pe_lst (pa_er (pe_erK (x := "InvalidLine") (fld := "given") E 31 hr (pv 0)) (pa_er (pe_erK (x := "NotDue") (fld := "side") E 32 hr (pv 0)) (pa_er (pe_erK (x := "Refused") (fld := "side") E 33 hr (pv 0)) (pa_er (pe_erK (x := "TooMany") (fld := "count") E 34 hr (pv 0)) pa_er0)))))))
    (pss_cons (ps_set (i := 1) sc_law_by_name.nd rfl (Or.inl rfl) (pe_op op_cat (pv 1) (pe_lst (pa_er (pe_erK (x := "Gone") (fld := "hand") E 35 hr (pv 0)) (pa_er (pe_erK (x := "Stopped") (fld := "hand") E 36 hr (pv 0)) (pa_er (pe_erK (x := "NoSolution") (fld := "denial") E 37 hr (pv 0)) (pa_er (pe_erK (x := "NotLeft") (fld := "standing") E 38 hr (pv 0)) pa_er0)))))))
    (pss_cons (ps_set (i := 1) sc_law_by_name.nd rfl (Or.inl rfl) (pe_op op_cat (pv 1) (pe_lst (pa_er (pe_erK (x := "Near") (fld := "far") E 39 hr (pv 0)) (pa_er (pe_erK (x := "Still") (fld := "counts") E 40 hr (pv 0)) (pa_er (pe_erK (x := "NotNumber") (fld := "word") E 41 hr (pv 0)) (pa_er (pe_erK (x := "Struck") (fld := "standing") E 42 hr (pv 0)) pa_er0)))))))
    (pss_one (ps_ret (pe_op op_cat (pv 1) (pe_lst (pa_er (pe_erK (x := "KeptUp") (fld := "kept") E 43 hr (pv 0)) pa_er0)))))))))))))))))), ?_⟩
  refine st_first (v := v) (fun H Q q => ⟨v, rfl, q⟩) (by decide) fun p1 H1 g1 => ?_
  refine st_cat (v := v) (fun H Q q => ⟨v, rfl, q⟩) g1 rfl (by decide) fun p2 H2 g2 => ?_
  refine st_cat (v := v) (fun H Q q => ⟨v, rfl, q⟩) g2 rfl (by decide) fun p3 H3 g3 => ?_
  refine st_cat (v := v) (fun H Q q => ⟨v, rfl, q⟩) g3 rfl (by decide) fun p4 H4 g4 => ?_
  refine st_cat (v := v) (fun H Q q => ⟨v, rfl, q⟩) g4 rfl (by decide) fun p5 H5 g5 => ?_
  refine st_cat (v := v) (fun H Q q => ⟨v, rfl, q⟩) g5 rfl (by decide) fun p6 H6 g6 => ?_
  refine st_cat (v := v) (fun H Q q => ⟨v, rfl, q⟩) g6 rfl (by decide) fun p7 H7 g7 => ?_
  refine st_cat (v := v) (fun H Q q => ⟨v, rfl, q⟩) g7 rfl (by decide) fun p8 H8 g8 => ?_
  refine st_cat (v := v) (fun H Q q => ⟨v, rfl, q⟩) g8 rfl (by decide) fun p9 H9 g9 => ?_
  refine st_cat (v := v) (fun H Q q => ⟨v, rfl, q⟩) g9 rfl (by decide) fun p10 H10 g10 => ?_
  refine st_cat (v := v) (fun H Q q => ⟨v, rfl, q⟩) g10 rfl (by decide) fun p11 H11 g11 => ?_
  refine st_cat (v := v) (fun H Q q => ⟨v, rfl, q⟩) g11 rfl (by decide) fun p12 H12 g12 => ?_
  refine st_cat (v := v) (fun H Q q => ⟨v, rfl, q⟩) g12 rfl (by decide) fun p13 H13 g13 => ?_
  exact st_last (v := v) (fun H Q q => ⟨v, rfl, q⟩) g13 rfl (by decide) fun p14 H14 g14 => q p14 H14 g14
/-- the five that keep nothing -/
def Bare (ca : Nat → Addr) (H0 H : Hp) (p : Addr) : Prop := Same H0 H ∧ ∃ as : List Addr, H p = some (.lst (as.map V.ref)) ∧ Paired (fun a i => ErAt H a (ca i) none) as [44, 45, 46, 47, 48] ∧ as.Nodup ∧ ∀ a ∈ as, H0 a = none
abbrev s_law_bare : Stmt := top 74
theorem sc_law_bare : FnScope [] [] (defScope s_law_bare) := ⟨rfl, rfl, rfl, by decide +kernel, rfl, by decide +kernel, by decide +kernel⟩
def spBare (ca : Nat → Addr) : Sp := fun vs H Q _ => vs = [] ∧ ∀ p H', Bare ca H H' p → Q (.ref p) H'
theorem ok_law_bare (E : Errs P w K mg base ca NE) (DA : DefAt K mg "_law_bare" s_law_bare) : Callee P w K mg base 1 "_law_bare" [] (spBare ca) := by
  refine callee DA sc_law_bare (fun vs H Q E h => by obtain ⟨rfl, _⟩ := h; rfl) (fun _ _ _ _ _ _ us hl => match us, hl with | [], _ => rfl) fun f cdv A outer s H vs Q E0 hr h => ?_
  obtain ⟨rfl, q⟩ := h
  refine ⟨_, (pss_one (ps_ret (pe_lst (pa_cons (pe_er0 (x := "NoNet") E 44) (pa_cons (pe_er0 (x := "MayStand") E 45) (pa_cons (pe_er0 (x := "Empty") E 46) (pa_cons (pe_er0 (x := "NothingToUndo") E 47) (pa_cons (pe_er0 (x := "NothingToRedo") E 48) pa_nil)))))))), ?_⟩
  have step : ∀ {H : Hp} {a C : Addr}, H a = none → ErAt (upd H a (ExO (.ref C) a)) a C none := fun h => exAt_ExO upd_same
  refine fun a0 h0 a1 h1 a2 h2 a3 h3 a4 h4 => ⟨by rw [sizeLine_eq]; show 5 ≤ _; omega, fun p hp => q p _ ?_⟩
  have w0 := same_new (o := ExO (.ref (ca 44)) a0) h0
  have w1 := same_new (o := ExO (.ref (ca 45)) a1) h1
  have w2 := same_new (o := ExO (.ref (ca 46)) a2) h2
  have w3 := same_new (o := ExO (.ref (ca 47)) a3) h3
  have w4 := same_new (o := ExO (.ref (ca 48)) a4) h4
  have w5 := same_new (o := .lst [.ref a0, .ref a1, .ref a2, .ref a3, .ref a4]) hp
  have n1 : a0 ≠ a1 := ne_of_none upd_same h1
  have n2 : a0 ≠ a2 ∧ a1 ≠ a2 := ⟨ne_of_none (w1 a0 _ upd_same) h2, ne_of_none upd_same h2⟩
  have n3 : a0 ≠ a3 ∧ a1 ≠ a3 ∧ a2 ≠ a3 := ⟨ne_of_none (w2 _ _ (w1 a0 _ upd_same)) h3, ne_of_none (w2 _ _ upd_same) h3, ne_of_none upd_same h3⟩
  have n4 : a0 ≠ a4 ∧ a1 ≠ a4 ∧ a2 ≠ a4 ∧ a3 ≠ a4 := ⟨ne_of_none (w3 _ _ (w2 _ _ (w1 a0 _ upd_same))) h4, ne_of_none (w3 _ _ (w2 _ _ upd_same)) h4, ne_of_none (w3 _ _ upd_same) h4, ne_of_none upd_same h4⟩
  refine ⟨w0.trans (w1.trans (w2.trans (w3.trans (w4.trans w5)))), [a0, a1, a2, a3, a4], upd_same, ?_, ?_, ?_⟩
  · exact .cons ((step h0).same (w1.trans (w2.trans (w3.trans (w4.trans w5))))) (.cons ((step h1).same (w2.trans (w3.trans (w4.trans w5)))) (.cons ((step h2).same (w3.trans (w4.trans w5))) (.cons ((step h3).same (w4.trans w5)) (.cons ((step h4).same w5) .nil))))
  · simp [n1, n2, n3, n4]
  · intro a ha
    rcases List.mem_cons.mp ha with rfl | ha
    · exact h0
    rcases List.mem_cons.mp ha with rfl | ha
    · exact w0.free h1
    rcases List.mem_cons.mp ha with rfl | ha
    · exact (w0.trans w1).free h2
    rcases List.mem_cons.mp ha with rfl | ha
    · exact (w0.trans (w1.trans w2)).free h3
    rcases List.mem_cons.mp ha with rfl | ha
    · exact (w0.trans (w1.trans (w2.trans w3))).free h4
    · simp at ha
end
end NH
set_option maxHeartbeats 1000000
namespace NH
open PySem PySem.Spec PyProof.Rows L2 TL
/-- isinstance(e, the class i) -/
def tIs (X : Cx) (ca : Nat → Addr) (i : Nat) (te : TE) : TE := fun σ H Q => te σ H fun v H1 => rIsiE X [v, .ref (ca i)] H1 Q
theorem pe_is {X : Cx} {ca : Nat → Addr} {NE : Addr} {x : Str} {e : Expr} {te : TE} {p p2 pos : Pos} (E : Errs X.prog X.w X.K X.mg X.base ca NE) (G : Bl X.mg) (i : Nat) (ha : PE X e te) (hi : i < 49 := by decide) (hx : enm i = x := by rfl) (hg : Gl X "isinstance" := by rfl) (hg2 : Gl X x := by rfl)
    (hdb : (x == ("__debug__" : Str)) = false := by decide) (he : starEach (e :: [.Name x p2]) X.env = (false, eval e X.env) :: starEach [.Name x p2] X.env := by rfl) (he2 : starEach [.Name x p2] X.env = (false, eval (.Name x p2) X.env) :: starEach [] X.env := by rfl) (hpl : (backTo pos (starEach [.Name x p2] X.env)).any (·.1) = false := by rfl) :
    PE X (.Call (.Name "isinstance" p) [e, .Name x p2] [] pos) (tIs X ca i te) :=
  pe_callB call_isiE hg G.b_isinstance (by decide +kernel) (pa_cons ha (pa_cons (pe_glob (v := .ref (ca i)) hg2 (by rw [← hx]; exact E.g i hi) rfl hdb) pa_nil he2) he) (by decide) (by decide) he hpl
def tSos (X : Cx) (ca : Nat → Addr) (te : TE) : List Nat → TA
  | [] => tNil
  | i :: is => tCons (tIs X ca i te) (tSos X ca te is)
theorem pa_so {X : Cx} {ca : Nat → Addr} {te : TE} {i : Nat} {is : List Nat} {e : Expr} {es : List Expr} (h : PE X e (tIs X ca i te)) (r : PA X es (tSos X ca te is)) (hs : starEach (e :: es) X.env = (false, eval e X.env) :: starEach es X.env := by rfl) : PA X (e :: es) (tSos X ca te (i :: is)) := pa_cons h r hs
theorem pa_so0 {X : Cx} {ca : Nat → Addr} {te : TE} : PA X [] (tSos X ca te []) := pa_nil
section
variable {X : Cx} {ca : Nat → Addr} {NE : Addr} {H : Hp} {a : Addr} {k : Nat} {x : Option (Str × V)}
theorem is_go (E : Errs X.prog X.w X.K X.mg X.base ca NE) (h : ErX X H a (ca k) x) (hk : k < 49) {i : Nat} (hi : i < 49) {Q : VK} (q : Q (.bl (decide (k = i))) H) : rIsiE X [.ref a, .ref (ca i)] H Q :=
  ⟨.ref a, .ref (ca i), _, _, _, rfl, .own _, .inr ⟨a, ca k, x, rfl, rfl, h, (E.all k hk).xc⟩, E.kit k i hk hi, q⟩
theorem sos_go (E : Errs X.prog X.w X.K X.mg X.base ca NE) {σ : L2.St} {te : TE} (ht : ∀ Q, Q (.ref a) H → te σ H Q) (h : ErX X H a (ca k) x) (hk : k < 49) : ∀ (is : List Nat), (∀ i ∈ is, i < 49) → ∀ (Q : List V → Hp → Prop), Q (is.map fun i => V.bl (decide (k = i))) H → tSos X ca te is σ H Q
  | [], _, Q, q => q
  | i :: is, hs, Q, q => ht _ (is_go E h hk (hs i (List.mem_cons_self ..)) (sos_go E ht h hk is (fun j hj => hs j (List.mem_cons_of_mem _ hj)) _ q))
end
/-- a list of answers -/
def Sot (H0 H : Hp) (k : Nat) (p : Addr) (is : List Nat) : Prop := Same H0 H ∧ H p = some (.lst (is.map fun i => V.bl (decide (k = i))))
section
variable {X : Cx} {ca : Nat → Addr} {NE : Addr} {σ : L2.St} {te : TE} {u : TS} {D : Ends} {i j k : Nat} {a : Addr} {H0 H : Hp} {x : Option (Str × V)} {is js : List Nat} {p : Addr}
theorem so_first (E : Errs X.prog X.w X.K X.mg X.base ca NE) (ht : ∀ Q, Q (.ref a) H → te σ H Q) (h : ErX X H a (ca k) x) (hk : k < 49) (hs : ∀ i ∈ is, i < 49) (hl : is.length ≤ 100) (q : ∀ p H2, Sot H H2 k p is → u D (σ.set i (some (.ref p))) H2) :
    tSeq (tAsg (tLst (tSos X ca te is)) (gName i)) u D σ H := by
  show tLst (tSos X ca te is) σ H fun x H1 => u D (σ.set i (some x)) H1
  exact sos_go E ht h hk is hs _ ⟨by rw [List.length_map, sizeLine_eq]; omega, fun p hp => q p _ ⟨same_new hp, upd_same⟩⟩
theorem so_cat0 (E : Errs X.prog X.w X.K X.mg X.base ca NE) (ht : ∀ Q, Q (.ref a) H → te σ H Q) (h : ErX X H0 a (ca k) x) (hk : k < 49) (g : Sot H0 H k p is) (hs : ∀ i ∈ js, i < 49) (hl : is.length + js.length ≤ 100) {Q : VK} (q : ∀ p2 H2, Sot H0 H2 k p2 (is ++ js) → Q (.ref p2) H2) :
    tLst (tSos X ca te js) σ H fun y H2 => rCat (.ref p) y H2 Q := by
  refine sos_go E ht (h.same g.1) hk js hs _ ⟨by rw [List.length_map, sizeLine_eq]; omega, fun p1 h1 => ?_⟩
  have w1 := same_new (o := .lst (js.map fun i => V.bl (decide (k = i)))) h1
  refine ⟨p, p1, _, _, rfl, rfl, w1 _ _ g.2, upd_same, by rw [List.length_map, List.length_map, sizeLine_eq]; omega, fun p2 h2 => q p2 _ ⟨(g.1.trans w1).trans (same_new h2), by rw [List.map_append]; exact upd_same⟩⟩
theorem so_cat (E : Errs X.prog X.w X.K X.mg X.base ca NE) (ht : ∀ Q, Q (.ref a) H → te σ H Q) (h : ErX X H0 a (ca k) x) (hk : k < 49) (g : Sot H0 H k p is) (hj : σ[j]? = some (some (.ref p))) (hs : ∀ i ∈ js, i < 49) (hl : is.length + js.length ≤ 100) (q : ∀ p2 H2, Sot H0 H2 k p2 (is ++ js) → u D (σ.set i (some (.ref p2))) H2) :
    tSeq (tAsg (tOp rCat (tVar j) (tLst (tSos X ca te js))) (gName i)) u D σ H := by
  show tVar j σ H fun x H1 => tLst (tSos X ca te js) σ H1 fun y H2 => rCat x y H2 fun z H3 => u D (σ.set i (some z)) H3
  exact ⟨_, hj, so_cat0 E ht h hk g hs hl q⟩
theorem so_last (E : Errs X.prog X.w X.K X.mg X.base ca NE) (ht : ∀ Q, Q (.ref a) H → te σ H Q) (h : ErX X H0 a (ca k) x) (hk : k < 49) (g : Sot H0 H k p is) (hj : σ[j]? = some (some (.ref p))) (hs : ∀ i ∈ js, i < 49) (hl : is.length + js.length ≤ 100) (q : ∀ p2 H2, Sot H0 H2 k p2 (is ++ js) → D.rt (.ref p2) H2) :
    tRet (tOp rCat (tVar j) (tLst (tSos X ca te js))) D σ H := by
  show tVar j σ H fun x H1 => tLst (tSos X ca te js) σ H1 fun y H2 => rCat x y H2 D.rt
  exact ⟨_, hj, so_cat0 E ht h hk g hs hl q⟩
theorem so_first2 {s0 s1 : Option V} (E : Errs X.prog X.w X.K X.mg X.base ca NE) (ht : ∀ Q, Q (.ref a) H → te [s0, s1] H Q) (h : ErX X H a (ca k) x) (hk : k < 49) (hs : ∀ i ∈ is, i < 49) (hl : is.length ≤ 100) (q : ∀ p H2, Sot H H2 k p is → u D [s0, some (.ref p)] H2) :
    tSeq (tAsg (tLst (tSos X ca te is)) (gName 1)) u D [s0, s1] H := so_first (a := a) E ht h hk hs hl q
theorem so_cat2 {s0 : Option V} (E : Errs X.prog X.w X.K X.mg X.base ca NE) (ht : ∀ Q, Q (.ref a) H → te [s0, some (.ref p)] H Q) (h : ErX X H0 a (ca k) x) (hk : k < 49) (g : Sot H0 H k p is) (hs : ∀ i ∈ js, i < 49) (hl : is.length + js.length ≤ 100) (q : ∀ p2 H2, Sot H0 H2 k p2 (is ++ js) → u D [s0, some (.ref p2)] H2) :
    tSeq (tAsg (tOp rCat (tVar 1) (tLst (tSos X ca te js))) (gName 1)) u D [s0, some (.ref p)] H := so_cat (a := a) E ht h hk g rfl hs hl q
theorem so_last2 {s0 : Option V} (E : Errs X.prog X.w X.K X.mg X.base ca NE) (ht : ∀ Q, Q (.ref a) H → te [s0, some (.ref p)] H Q) (h : ErX X H0 a (ca k) x) (hk : k < 49) (g : Sot H0 H k p is) (hs : ∀ i ∈ js, i < 49) (hl : is.length + js.length ≤ 100) (q : ∀ p2 H2, Sot H0 H2 k p2 (is ++ js) → D.rt (.ref p2) H2) :
    tRet (tOp rCat (tVar 1) (tLst (tSos X ca te js))) D [s0, some (.ref p)] H := so_last (a := a) E ht h hk g rfl hs hl q
end
section
variable {P : Program} {w : World} {K : PySem.W.Frag} {mg : Str → Option Value} {base : Heap} {ca : Nat → Addr} {NE : Addr}
abbrev s_law_sorts : Stmt := top 75
theorem sc_law_sorts : FnScope ["e", "found"] ["e"] (defScope s_law_sorts) := ⟨rfl, rfl, rfl, by decide +kernel, rfl, by decide +kernel, by decide +kernel⟩
def spSort (ca : Nat → Addr) : SpS := fun s ou vs H Q _ => ∃ (a : Addr) (k : Nat) (x : Option (Str × V)), vs = [.ref a] ∧ ErS s ou H a (ca k) x ∧ k < 49 ∧ ∀ p H', Sot H H' k p (List.range 49) → Q (.ref p) H'
theorem ok_law_sorts (E : ∀ s : Unit, Errs P w K mg base ca NE) (G : Bl mg) (DA : DefAt K mg "_law_sorts" s_law_sorts) : CalleeE P w K mg base 1 "_law_sorts" ["e"] (spSort ca) := by
  refine calleeE DA sc_law_sorts (fun s ou vs H Q E h => by obtain ⟨a, k, x, rfl, _⟩ := h; rfl) (fun _ _ _ _ _ _ us hl => match us, hl with | [_], _ => rfl) fun f cdv A outer s H vs Q E0 hgu hr h => ?_
  obtain ⟨a, k, x, rfl, he, hk, q⟩ := h
  have E := E ()
  refine ⟨_, (pss_cons (ps_set (i := 1) sc_law_sorts.nd rfl (Or.inl rfl) (pe_lst (pa_so (pe_is (x := "InvalidPorts") E G 0 (pv 0)) (pa_so (pe_is (x := "InvalidSide") E G 1 (pv 0)) (pa_so (pe_is (x := "InvalidText") E G 2 (pv 0)) pa_so0)))))
    (pss_cons (ps_set (i := 1) sc_law_sorts.nd rfl (Or.inl rfl) (pe_op op_cat (pv 1) (pe_lst (pa_so (pe_is (x := "InvalidName") E G 3 (pv 0)) (pa_so (pe_is (x := "InvalidNumbers") E G 4 (pv 0)) (pa_so (pe_is (x := "InvalidBegins") E G 5 (pv 0)) pa_so0))))))
    (pss_cons (ps_set (i := 1) sc_law_sorts.nd rfl (Or.inl rfl) (pe_op op_cat (pv 1) (pe_lst (pa_so (pe_is (x := "InvalidDoes") E G 6 (pv 0)) (pa_so (pe_is (x := "InvalidRefuses") E G 7 (pv 0)) (pa_so (pe_is (x := "InvalidIndex") E G 8 (pv 0)) pa_so0))))))
    (pss_cons (ps_set (i := 1) sc_law_sorts.nd rfl (Or.inl rfl) (pe_op op_cat (pv 1) (pe_lst (pa_so (pe_is (x := "InvalidState") E G 9 (pv 0)) (pa_so (pe_is (x := "InvalidProcesses") E G 10 (pv 0)) (pa_so (pe_is (x := "InvalidStanding") E G 11 (pv 0)) pa_so0))))))
    (pss_cons (ps_set (i := 1) sc_law_sorts.nd rfl (Or.inl rfl) (pe_op op_cat (pv 1) (pe_lst (pa_so (pe_is (x := "InvalidHands") E G 12 (pv 0)) (pa_so (pe_is (x := "InvalidMeetings") E G 13 (pv 0)) (pa_so (pe_is (x := "InvalidHand") E G 14 (pv 0)) pa_so0))))))
    (pss_cons (ps_set (i := 1) sc_law_sorts.nd rfl (Or.inl rfl) (pe_op op_cat (pv 1) (pe_lst (pa_so (pe_is (x := "InvalidStopped") E G 15 (pv 0)) (pa_so (pe_is (x := "InvalidRound") E G 16 (pv 0)) (pa_so (pe_is (x := "InvalidOrder") E G 17 (pv 0)) pa_so0))))))
    (pss_cons (ps_set (i := 1) sc_law_sorts.nd rfl (Or.inl rfl) (pe_op op_cat (pv 1) (pe_lst (pa_so (pe_is (x := "InvalidPolicy") E G 18 (pv 0)) (pa_so (pe_is (x := "InvalidRows") E G 19 (pv 0)) (pa_so (pe_is (x := "InvalidSums") E G 20 (pv 0)) pa_so0))))))
    (pss_cons (ps_set (i := 1) sc_law_sorts.nd rfl (Or.inl rfl) (pe_op op_cat (pv 1) (pe_lst (pa_so (pe_is (x := "InvalidCosts") E G 21 (pv 0)) (pa_so (pe_is (x := "InvalidCounts") E G 22 (pv 0)) (pa_so (pe_is (x := "InvalidWeights") E G 23 (pv 0)) pa_so0))))))
    (pss_cons (ps_set (i := 1) sc_law_sorts.nd rfl (Or.inl rfl) (pe_op op_cat (pv 1) (pe_lst (pa_so (pe_is (x := "InvalidDepth") E G 24 (pv 0)) (pa_so (pe_is (x := "InvalidCount") E G 25 (pv 0)) (pa_so (pe_is (x := "InvalidRanks") E G 26 (pv 0)) pa_so0))))))
    (pss_cons (ps_set (i := 1) sc_law_sorts.nd rfl (Or.inl rfl) (pe_op op_cat (pv 1) (pe_lst (pa_so (pe_is (x := "InvalidProcess") E G 27 (pv 0)) (pa_so (pe_is (x := "InvalidRules") E G 28 (pv 0)) (pa_so (pe_is (x := "InvalidFacts") E G 29 (pv 0)) pa_so0))))))
    (pss_cons (ps_set (i := 1) sc_law_sorts.nd rfl (Or.inl rfl) (pe_op op_cat (pv 1) (pe_lst (pa_so (pe_is (x := "InvalidVerdict") E G 30 (pv 0)) (pa_so (pe_is (x := "InvalidLine") E G 31 (pv 0)) (pa_so (pe_is (x := "NotDue") E G 32 (pv 0)) pa_so0))))))
    (pss_cons (ps_set (i := 1) sc_law_sorts.nd rfl (Or.inl rfl) (pe_op op_cat (pv 1) (pe_lst (pa_so (pe_is (x := "Refused") E G 33 (pv 0)) (pa_so (pe_is (x := "TooMany") E G 34 (pv 0)) (pa_so (pe_is (x := "Gone") E G 35 (pv 0)) (pa_so (pe_is (x := "Stopped") E G 36 (pv 0)) pa_so0)))))))
    (pss_cons (ps_set (i := 1) sc_law_sorts.nd rfl (Or.inl rfl) (pe_op op_cat (pv 1) (pe_lst (pa_so (pe_is (x := "NoSolution") E G 37 (pv 0)) (pa_so (pe_is (x := "NotLeft") E G 38 (pv 0)) (pa_so (pe_is (x := "Near") E G 39 (pv 0)) (pa_so (pe_is (x := "Still") E G 40 (pv 0)) pa_so0)))))))
    (pss_cons (ps_set (i := 1) sc_law_sorts.nd rfl (Or.inl rfl) (pe_op op_cat (pv 1) (pe_lst (pa_so (pe_is (x := "NotNumber") E G 41 (pv 0)) (pa_so (pe_is (x := "Struck") E G 42 (pv 0)) (pa_so (pe_is (x := "KeptUp") E G 43 (pv 0)) (pa_so (pe_is (x := "NoNet") E G 44 (pv 0)) pa_so0)))))))
    (pss_cons (ps_set (i := 1) sc_law_sorts.nd rfl (Or.inl rfl) (pe_op op_cat (pv 1) (pe_lst (pa_so (pe_is (x := "MayStand") E G 45 (pv 0)) (pa_so (pe_is (x := "Empty") E G 46 (pv 0)) (pa_so (pe_is (x := "NothingToUndo") E G 47 (pv 0)) pa_so0))))))
    (pss_one (ps_ret (pe_op op_cat (pv 1) (pe_lst (pa_so (pe_is (x := "NothingToRedo") E G 48 (pv 0)) pa_so0)))))))))))))))))))), ?_⟩
  have hx := ErS.x (CX := CX0) (P := P) (w := w) (K := K) (mg := mg) (base := base) (N := ["e", "found"]) (q := "_law_sorts") (sc := defScope s_law_sorts) (f := f) (cd := cdv) (A := A) (E := E0) he (Same.refl H)
  refine so_first2 (a := a) E (fun Q q => ⟨_, rfl, q⟩) hx hk (by decide) (by decide) fun p1 H1 g1 => ?_
  refine so_cat2 (a := a) E (fun Q q => ⟨_, rfl, q⟩) hx hk g1 (by decide) (by decide +kernel) fun p2 H2 g2 => ?_
  refine so_cat2 (a := a) E (fun Q q => ⟨_, rfl, q⟩) hx hk g2 (by decide) (by decide +kernel) fun p3 H3 g3 => ?_
  refine so_cat2 (a := a) E (fun Q q => ⟨_, rfl, q⟩) hx hk g3 (by decide) (by decide +kernel) fun p4 H4 g4 => ?_
  refine so_cat2 (a := a) E (fun Q q => ⟨_, rfl, q⟩) hx hk g4 (by decide) (by decide +kernel) fun p5 H5 g5 => ?_
  refine so_cat2 (a := a) E (fun Q q => ⟨_, rfl, q⟩) hx hk g5 (by decide) (by decide +kernel) fun p6 H6 g6 => ?_
  refine so_cat2 (a := a) E (fun Q q => ⟨_, rfl, q⟩) hx hk g6 (by decide) (by decide +kernel) fun p7 H7 g7 => ?_
  refine so_cat2 (a := a) E (fun Q q => ⟨_, rfl, q⟩) hx hk g7 (by decide) (by decide +kernel) fun p8 H8 g8 => ?_
  refine so_cat2 (a := a) E (fun Q q => ⟨_, rfl, q⟩) hx hk g8 (by decide) (by decide +kernel) fun p9 H9 g9 => ?_
  refine so_cat2 (a := a) E (fun Q q => ⟨_, rfl, q⟩) hx hk g9 (by decide) (by decide +kernel) fun p10 H10 g10 => ?_
  refine so_cat2 (a := a) E (fun Q q => ⟨_, rfl, q⟩) hx hk g10 (by decide) (by decide +kernel) fun p11 H11 g11 => ?_
  refine so_cat2 (a := a) E (fun Q q => ⟨_, rfl, q⟩) hx hk g11 (by decide) (by decide +kernel) fun p12 H12 g12 => ?_
  refine so_cat2 (a := a) E (fun Q q => ⟨_, rfl, q⟩) hx hk g12 (by decide) (by decide +kernel) fun p13 H13 g13 => ?_
  refine so_cat2 (a := a) E (fun Q q => ⟨_, rfl, q⟩) hx hk g13 (by decide) (by decide +kernel) fun p14 H14 g14 => ?_
  refine so_cat2 (a := a) E (fun Q q => ⟨_, rfl, q⟩) hx hk g14 (by decide) (by decide +kernel) fun p15 H15 g15 => ?_
  refine so_last2 (a := a) E (fun Q q => ⟨_, rfl, q⟩) hx hk g15 (by decide) (by decide +kernel) fun p16 H16 g16 => q p16 H16 ?_
  rw [show List.range 49 = [0, 1, 2] ++ [3, 4, 5] ++ [6, 7, 8] ++ [9, 10, 11] ++ [12, 13, 14] ++ [15, 16, 17] ++ [18, 19, 20] ++ [21, 22, 23] ++ [24, 25, 26] ++ [27, 28, 29] ++ [30, 31, 32] ++ [33, 34, 35, 36] ++ [37, 38, 39, 40] ++ [41, 42, 43, 44] ++ [45, 46, 47] ++ [48] from by decide +kernel]
  exact g16
end
end NH
set_option maxHeartbeats 2000000
namespace NH
open PySem PySem.Spec PyProof.Rows L2 TL
section
variable {P : Program} {w : World} {K : PySem.W.Frag} {mg : Str → Option Value} {base : Heap} {ca : Nat → Addr} {NE : Addr}
abbrev s_law_is : Stmt := top 76
theorem sc_law_is : FnScope ["e", "spot", "sorts", "k"] ["e", "spot"] (defScope s_law_is) := ⟨rfl, rfl, rfl, by decide +kernel, rfl, by decide +kernel, by decide +kernel⟩
def spIs (ca : Nat → Addr) : SpS := fun s ou vs H Q _ => ∃ (a : Addr) (k : Nat) (x : Option (Str × V)), vs = [.ref a, .int (k : Int)] ∧ ErS s ou H a (ca k) x ∧ k < 49 ∧ ∀ H', Same H H' → Q (.bl true) H'
theorem one_k (k n : Nat) : ((List.range n).filterMap fun i => if decide (k = i) = true then some (V.int (i : Int)) else none) = if k < n then [.int (k : Int)] else [] := by
  induction n with
  | zero => simp
  | succ n ih =>
    rw [List.range_succ, List.filterMap_append, ih]
    by_cases h : k < n
    · rw [if_pos h, if_pos (by omega)]
      simp [show k ≠ n by omega]
    · rw [if_neg h]
      by_cases e : k = n
      · subst e; simp
      · rw [if_neg (by omega)]; simp [e]
theorem ok_law_is (E : Errs P w K mg base ca NE) (G : Bl mg) (DA : DefAt K mg "_law_is" s_law_is) (cSo : CalleeE P w K mg base 1 "_law_sorts" ["e"] (spSort ca)) : CalleeE P w K mg base 2 "_law_is" ["e", "spot"] (spIs ca) := by
  refine calleeE DA sc_law_is (fun s ou vs H Q E h => by obtain ⟨a, k, x, rfl, _⟩ := h; rfl) (fun _ _ _ _ _ _ us hl => match us, hl with | [_, _], _ => rfl) fun f cdv A outer s H vs Q E0 hgu hr h => ?_
  obtain ⟨a, k, x, rfl, he, hk, q⟩ := h
  refine ⟨_, (pss_cons (ps_set (i := 2) sc_law_is.nd rfl (Or.inr rfl) (pe_calE cSo hgu hr (by decide) (pa_cons (pv 0) pa_nil)))
    (pss_cons (ps_if (PW.pt (pw_or (pt_not (pt_val (pe_callB call_isiE (by rfl) G.b_isinstance (by decide +kernel) (pa_cons (pv 0) (pa_cons (pe_glob (v := .ref NE) (by rfl) E.gNE rfl) pa_nil))))) (pw_or1 (pt_not (pt_val (pe_callB call_isiE (by rfl) G.b_isinstance (by decide +kernel) (pa_cons (pv 0) (pa_cons (pe_bltn (v := .ty "ValueError") (u := .type "ValueError") (by rfl) G.b_ValueError (by decide +kernel) rfl) pa_nil)))))))) (pss_one (ps_ret pe_bl)) pss_nil)
    (pss_one (ps_ret (pe_cmpR (op_eqD hr.units) (pe_lc (own := [("k", 3)]) (g := gName 3) (tt := tB (tOp (rIxL K) (tVar 2) (tVar 3))) rfl sc_law_is.nd (pi_range1 (by rfl) G.b_range (pa_cons (pe_callB call_len_seq (by rfl) G.b_len (by decide +kernel) (pa_cons (pv 2) pa_nil)) pa_nil)) (blkOk_by (N := ["e", "spot", "sorts", "k"]) (sc := defScope s_law_is) (by decide +kernel)) (fun _ _ _ _ _ => (pg_name (i := 3) sc_law_is.nd rfl (Or.inl rfl))) (fun _ _ _ _ _ => (pts_one (pt_val (pe_ix ix_list (pv 2) (pv 3) (fun _ _ => rfl))))) (fun _ _ _ _ _ => (pv 3))) (pe_lst (pa_cons (pv 1) pa_nil)) (nomark _)))))), ?_⟩
  have hx := ErS.x (CX := CX0) (P := P) (w := w) (K := K) (mg := mg) (base := base) (N := ["e", "spot", "sorts", "k"]) (q := "_law_is") (sc := defScope s_law_is) (f := f) (cd := cdv) (A := A) (E := E0) he (Same.refl H)
  refine ⟨_, rfl, fun pins s1 I => ⟨a, k, x, rfl, ErX.s I hx, hk, fun p H1 g1 => ?_⟩⟩
  have h1 := hx.same g1.1
  refine ⟨_, rfl, .ref a, .ref NE, _, _, _, rfl, .own NE, .inr ⟨a, ca k, x, rfl, rfl, h1, (E.all k hk).xc⟩, (E.all k hk).kn, _, rfl, iteF ⟨_, rfl, .ref a, .ty "ValueError", _, _, _, rfl, .ty _, .inr ⟨a, ca k, x, rfl, rfl, h1, (E.all k hk).xc⟩, (E.all k hk).kv, _, rfl, iteF ?_⟩⟩
  refine ⟨_, rfl, p, _, rfl, .inl (SqL.of g1.2), 49, rfl, by decide, by decide, fun D hD => ?_⟩
  refine lc_range (lo := 0) (n := 49) (fun i H' => Same H1 H' ∧ H' D = some (.lst ((List.range i).filterMap fun j => if decide (k = j) = true then some (V.int (j : Int)) else none))) ⟨same_new hD, upd_same⟩ ?_ ?_
  · rintro i H2 hi ⟨s2, d2⟩
    refine ⟨rfl, ?_⟩
    have at_i : atI ((List.range 49).map fun j => V.bl (decide (k = j))) ((0 : Int) + (i : Int)) = some (.bl (decide (k = i))) := by
      rw [Int.zero_add]
      exact atI_nat (by rw [List.getElem?_map, List.getElem?_range hi]; rfl)
    refine ⟨_, rfl, _, rfl, p, _, _, _, rfl, rfl, SqL.of (s2 _ _ g1.2), at_i, _, rfl, ?_⟩
    have stp : ∀ b : Bool, ((List.range (i + 1)).filterMap fun j => if decide (k = j) = true then some (V.int (j : Int)) else none) = ((List.range i).filterMap fun j => if decide (k = j) = true then some (V.int (j : Int)) else none) ++ (if decide (k = i) = true then [V.int (i : Int)] else []) := fun _ => by
      rw [List.range_succ, List.filterMap_append]
      by_cases e : k = i
      · subst e; simp
      · simp [e]
    refine itb (fun e1 => ?_) fun e1 => ?_
    · refine ⟨_, rfl, _, d2, ?_, Same.put s2 hD, ?_⟩
      · exact small1000 (Nat.le_trans (List.length_filterMap_le ..) (by rw [List.length_range]; omega))
      · rw [stp true, if_pos e1, upd_same]
        simp
    · refine ⟨s2, ?_⟩
      rw [stp true, if_neg (by simp [e1]), List.append_nil]
      exact d2
  · rintro H2 ⟨s2, d2⟩
    rw [one_k, if_pos hk] at d2
    refine ⟨_, rfl, by rw [sizeLine_eq]; show 1 ≤ _; omega, fun p2 h2 => ?_⟩
    have w2 := same_new (o := .lst [.int (k : Int)]) h2
    refine ⟨.list [.int (k : Int)], .list [.int (k : Int)], .lst (SqL.of (w2 _ _ d2)) (.cons (.int _) .nil), .lst (SqL.of upd_same) (.cons (.int _) .nil), rfl, rfl, ?_⟩
    have e : PyData.eqv (.list [.int (k : Int)]) (.list [.int (k : Int)]) = true := by simp [PyData.eqv, PyData.eqvAll]
    rw [e]
    exact q _ ((g1.1.trans s2).trans w2)

abbrev s_law_kept : Stmt := top 77
theorem sc_law_kept : FnScope ["e"] ["e"] (defScope s_law_kept) := ⟨rfl, rfl, rfl, by decide +kernel, rfl, by decide +kernel, by decide +kernel⟩
/-- what an error keeps -/
def spKept (ca : Nat → Addr) : SpS := fun s ou vs H Q _ => ∃ (a : Addr) (k : Nat) (v : V), vs = [.ref a] ∧ ErS s ou H a (ca k) (some (efl k, v)) ∧ k < 44 ∧ ∀ H', Same H H' → Q v H'
theorem efl_of : ∀ k : Nat, k < 44 → ((k = 32 ∨ k = 33) → efl k = "side") ∧ (k = 34 → efl k = "count") ∧ ((k = 35 ∨ k = 36) → efl k = "hand") ∧ (k = 37 → efl k = "denial") ∧ ((k = 38 ∨ k = 42) → efl k = "standing") ∧ (k = 39 → efl k = "far") ∧ (k = 40 → efl k = "counts") ∧ (k = 41 → efl k = "word") ∧ (k = 43 → efl k = "kept") ∧ (k < 32 → efl k = "given") := by decide +kernel
theorem k2_go {X : Cx} {H : Hp} {a : Addr} {k i j : Nat} {x : Option (Str × V)} (E : Errs X.prog X.w X.K X.mg X.base ca NE) (h : ErX X H a (ca k) x) (hk : k < 49) (hi : i < 49) (hj : j < 49) {A B : Hp → Prop} (q1 : (k = i ∨ k = j) → ∀ H2, Same H H2 → A H2) (q2 : ¬ (k = i ∨ k = j) → ∀ H2, Same H H2 → B H2) :
    ([V.ref (ca i), V.ref (ca j)] : List V).length ≤ sizeLine ∧ ∀ p, H p = none → rIsiTE X [.ref a, .ref p] (upd H p (.tup [V.ref (ca i), V.ref (ca j)])) fun u H2 => ∃ b, u = .bl b ∧ if b = true then A H2 else B H2 := by
  refine ⟨by rw [sizeLine_eq]; show 2 ≤ _; omega, fun p hp => ?_⟩
  have w := same_new (o := .tup [V.ref (ca i), V.ref (ca j)]) hp
  refine ⟨.ref a, p, _, _, _, decide (k = i ∨ k = j), rfl, upd_same, .cons (.own _) (.cons (.own _) .nil), .inr ⟨a, ca k, x, rfl, rfl, h.same w, (E.all k hk).xc⟩, ?_, _, rfl, itd (fun e => q1 e _ w) fun e => q2 e _ w⟩
  refine kitAny_cons (E.kit k i hk hi) (fun e1 => kitAny_cons (E.kit k j hk hj) (fun e2 => ?_) fun e2 => ?_) fun e1 => ?_
  · have n1 := of_decide_eq_false e1
    have n2 := of_decide_eq_false e2
    rw [decide_eq_false (by simp [n1, n2])]; rfl
  · exact decide_eq_true (Or.inr (of_decide_eq_true e2))
  · exact decide_eq_true (Or.inl (of_decide_eq_true e1))
theorem kp_go {X : Cx} {H : Hp} {a : Addr} {k : Nat} {v : V} {n : Str} (E : Errs X.prog X.w X.K X.mg X.base ca NE) (h : ErX X H a (ca k) (some (efl k, v))) (hk : k < 44) (e : efl k = n) {Q : VK} (q : Q v H) :
    ∃ (a' C : Addr) (v' : V), V.ref a = .ref a' ∧ ErX X H a' C (some (n, v')) ∧ XfC X.K C ∧ PySem.W.findIn X.K (.ref C) n = some none ∧ Q v' H := by
  subst e
  exact ⟨a, ca k, v, rfl, h, (E.all k (Nat.lt_trans hk (by decide))).xf, E.no k hk, q⟩
theorem ok_law_kept (E : Errs P w K mg base ca NE) (G : Bl mg) (DA : DefAt K mg "_law_kept" s_law_kept) : CalleeE P w K mg base 1 "_law_kept" ["e"] (spKept ca) := by
  refine calleeE DA sc_law_kept (fun s ou vs H Q E h => by obtain ⟨a, k, x, rfl, _⟩ := h; rfl) (fun _ _ _ _ _ _ us hl => match us, hl with | [_], _ => rfl) fun f cdv A outer s H vs Q E0 hgu hr h => ?_
  obtain ⟨a, k, v, rfl, he, hk, q⟩ := h
  refine ⟨_, (pss_cons (ps_if (pt_val (pe_callB call_isiTE (by rfl) G.b_isinstance (by decide +kernel) (pa_cons (pv 0) (pa_cons (pe_tup (pa_cons (pe_glob (v := .ref (ca 32)) (by rfl) (E.g 32 (by decide)) rfl) (pa_cons (pe_glob (v := .ref (ca 33)) (by rfl) (E.g 33 (by decide)) rfl) pa_nil))) pa_nil)))) (pss_one (ps_ret (pe_erF (pv 0)))) pss_nil)
    (pss_cons (ps_if (pt_val (pe_is (x := "TooMany") E G 34 (pv 0))) (pss_one (ps_ret (pe_erF (pv 0)))) pss_nil)
    (pss_cons (ps_if (pt_val (pe_callB call_isiTE (by rfl) G.b_isinstance (by decide +kernel) (pa_cons (pv 0) (pa_cons (pe_tup (pa_cons (pe_glob (v := .ref (ca 35)) (by rfl) (E.g 35 (by decide)) rfl) (pa_cons (pe_glob (v := .ref (ca 36)) (by rfl) (E.g 36 (by decide)) rfl) pa_nil))) pa_nil)))) (pss_one (ps_ret (pe_erF (pv 0)))) pss_nil)
    (pss_cons (ps_if (pt_val (pe_is (x := "NoSolution") E G 37 (pv 0))) (pss_one (ps_ret (pe_erF (pv 0)))) pss_nil)
    (pss_cons (ps_if (pt_val (pe_callB call_isiTE (by rfl) G.b_isinstance (by decide +kernel) (pa_cons (pv 0) (pa_cons (pe_tup (pa_cons (pe_glob (v := .ref (ca 38)) (by rfl) (E.g 38 (by decide)) rfl) (pa_cons (pe_glob (v := .ref (ca 42)) (by rfl) (E.g 42 (by decide)) rfl) pa_nil))) pa_nil)))) (pss_one (ps_ret (pe_erF (pv 0)))) pss_nil)
    (pss_cons (ps_if (pt_val (pe_is (x := "Near") E G 39 (pv 0))) (pss_one (ps_ret (pe_erF (pv 0)))) pss_nil)
    (pss_cons (ps_if (pt_val (pe_is (x := "Still") E G 40 (pv 0))) (pss_one (ps_ret (pe_erF (pv 0)))) pss_nil)
    (pss_cons (ps_if (pt_val (pe_is (x := "NotNumber") E G 41 (pv 0))) (pss_one (ps_ret (pe_erF (pv 0)))) pss_nil)
    (pss_cons (ps_if (pt_val (pe_is (x := "KeptUp") E G 43 (pv 0))) (pss_one (ps_ret (pe_erF (pv 0)))) pss_nil)
    (pss_one (ps_ret (pe_erF (pv 0))))))))))))), ?_⟩
  have hx := ErS.x (CX := CX0) (P := P) (w := w) (K := K) (mg := mg) (base := base) (N := ["e"]) (q := "_law_kept") (sc := defScope s_law_kept) (f := f) (cd := cdv) (A := A) (E := E0) he (Same.refl H)
  have h49 : k < 49 := Nat.lt_trans hk (by decide)
  obtain ⟨f1, f2, f3, f4, f5, f6, f7, f8, f9, f10⟩ := efl_of k hk
  refine ⟨_, rfl, k2_go E hx h49 (by decide) (by decide) (fun e H1 s1 => ⟨_, rfl, kp_go E (hx.same s1) hk (f1 e) (q _ s1)⟩) fun n1 H1 s1 => ?_⟩
  refine ⟨_, rfl, is_go E (hx.same s1) h49 (i := 34) (by decide) ⟨_, rfl, itd (fun e => ⟨_, rfl, kp_go E (hx.same s1) hk (f2 e) (q _ s1)⟩) fun n2 => ?_⟩⟩
  refine ⟨_, rfl, k2_go E (hx.same s1) h49 (by decide) (by decide) (fun e H2 s2 => ⟨_, rfl, kp_go E (hx.same (s1.trans s2)) hk (f3 e) (q _ (s1.trans s2))⟩) fun n3 H2 s2 => ?_⟩
  have s2 := s1.trans s2
  refine ⟨_, rfl, is_go E (hx.same s2) h49 (i := 37) (by decide) ⟨_, rfl, itd (fun e => ⟨_, rfl, kp_go E (hx.same s2) hk (f4 e) (q _ s2)⟩) fun n4 => ?_⟩⟩
  refine ⟨_, rfl, k2_go E (hx.same s2) h49 (by decide) (by decide) (fun e H2 s3 => ⟨_, rfl, kp_go E (hx.same (s2.trans s3)) hk (f5 e) (q _ (s2.trans s3))⟩) fun n5 H3 s3 => ?_⟩
  have s3 := s2.trans s3
  refine ⟨_, rfl, is_go E (hx.same s3) h49 (i := 39) (by decide) ⟨_, rfl, itd (fun e => ⟨_, rfl, kp_go E (hx.same s3) hk (f6 e) (q _ s3)⟩) fun n6 => ?_⟩⟩
  refine ⟨_, rfl, is_go E (hx.same s3) h49 (i := 40) (by decide) ⟨_, rfl, itd (fun e => ⟨_, rfl, kp_go E (hx.same s3) hk (f7 e) (q _ s3)⟩) fun n7 => ?_⟩⟩
  refine ⟨_, rfl, is_go E (hx.same s3) h49 (i := 41) (by decide) ⟨_, rfl, itd (fun e => ⟨_, rfl, kp_go E (hx.same s3) hk (f8 e) (q _ s3)⟩) fun n8 => ?_⟩⟩
  refine ⟨_, rfl, is_go E (hx.same s3) h49 (i := 43) (by decide) ⟨_, rfl, itd (fun e => ⟨_, rfl, kp_go E (hx.same s3) hk (f9 e) (q _ s3)⟩) fun n9 => ?_⟩⟩
  exact ⟨_, rfl, kp_go E (hx.same s3) hk (f10 (by omega)) (q _ s3)⟩

end
end NH
set_option maxHeartbeats 2000000
namespace NH
open PySem PySem.Spec PyProof.Rows L2 TL
/-! ### the things that errors keep -/
def dic1 : PyData := .dict [(.str "a", .list [.int 3])]
def big : Int := -10000000000000000000
section
variable {X : Cx} {pins : List (Addr × Obj)} {σ : L2.St} {H : Hp} {s : Shared}
theorem dic_reads (I : Inv X pins σ H s) {a l : Addr} (ea : H a = some (.dK [(Sum.inr "a", .ref l)])) (el : H l = some (.lst [.int 3])) : ∃ as, Reads s.heap (.ref a) dic1 as ∧ ∀ x ∈ as, ∃ o, H x = some o := by
  obtain ⟨_, _, vs, kv, o, es, ep, h1, h2, h3, _, h4, _⟩ := (show ObjOk X.prog X.w H s.heap a (.dK [(Sum.inr "a", .ref l)]) from I.hok a _ ea)
  obtain ⟨as, hl, hal⟩ := Dd.reads I (Dd.lst el (.cons (.int 3) .nil)) (show RelV (.ref l) (.ref l) from rfl)
  unfold KV at kv
  cases kv with
  | @cons p q ps qs h t =>
    cases t
    obtain ⟨q1, q2⟩ := q
    obtain ⟨e1, e2⟩ := h
    have e1 : (Sum.inr "a" : Key) = q1 := e1
    have e2 : q2 = Value.ref l := e2
    subst e1 e2
    have key : ∃ (e : DictEntry) (t : Tok), es.toList = [e] ∧ e.key = .str "a" t ∧ e.val = .ref l := by
      generalize es.toList = L at h4
      cases h4 with
      | @cons e kv es kvs g1 g2 g3 =>
        cases g3
        rcases keyIs_shape (k := (Sum.inr "a" : Key)) (v := e.key) g1 with ⟨i, t, y, _⟩ | ⟨z, t, y, y2⟩
        · cases y
        · cases y
          exact ⟨e, t, rfl, y2, g2⟩
    obtain ⟨e, t, e3, e4, e5⟩ := key
    refine ⟨_, Reads.dict (kvs := [(.str "a", .list [.int 3])]) (as := [] ++ []) (bs := as ++ []) h1 h2.1 h3 ?_ ?_, ?_⟩
    · rw [e3]; exact .cons (by show Reads s.heap e.key _ _; rw [e4]; exact Reads.str _ t) .nil
    · rw [e3]; exact .cons (by show Reads s.heap e.val _ _; rw [e5]; exact hl) .nil
    · intro x hx
      simp only [List.append_nil, List.cons_append, List.nil_append, List.mem_cons] at hx
      rcases hx with rfl | hx
      · exact ⟨_, ea⟩
      · exact hal x hx
/-- what repr shows of it -/
def Shows (H : Hp) (v : V) (t : Str) : Prop := (∃ d : D, Dd H v d ∧ d.fit ∧ d.sz ≤ 1000000 ∧ d.dep ≤ 40 ∧ t = d.py.shown) ∨ (v = .int big ∧ t = (PyData.int big).shown) ∨ ∃ a l, v = .ref a ∧ H a = some (.dK [(Sum.inr "a", .ref l)]) ∧ H l = some (.lst [.int 3]) ∧ t = dic1.shown
def rReprT : List V → Hp → VK → Prop := fun xs H Q => ∃ v t, xs = [v] ∧ Shows H v t ∧ Q (.str t) H
theorem call_reprT (hg : X.A.guards = some []) (hu : X.A.units + 64 < cLine) (sm : ∃ o, X.base.get? sysModules = some o) : CallR X (.builtin "repr") rReprT := by
  intro pins s σ H xs us Q I r h
  obtain ⟨v, t, rfl, h, q⟩ := h
  rcases h with ⟨d, h1, h2, h3, h4, rfl⟩ | ⟨rfl, rfl⟩ | ⟨a, l, rfl, ea, el, rfl⟩
  · exact call_repr hg hu sm pins s σ H [v] us Q I r ⟨v, d, rfl, h1, h2, h3, h4, q⟩
  · obtain ⟨u, rfl, rv⟩ := vals1 r
    obtain ⟨t, rfl⟩ := rv
    exact P.repr_of_int (by decide +kernel) ⟨.str (PyData.int big).shown, H, I.kept (fun _ _ e => e), ⟨_, rfl⟩, q⟩
  · obtain ⟨u, rfl, rv⟩ := vals1 r
    cases rv
    obtain ⟨as, rd, ours⟩ := dic_reads I ea el
    have far : sysModules ∉ as := fun z => by
      obtain ⟨o, e⟩ := ours _ z
      obtain ⟨b, y⟩ := sm
      rw [(I.bs _ b y).2] at e; cases e
    have short : dic1.shown.length ≤ sizeLine := by rw [sizeLine_eq]; exact Nat.le_trans (by decide +kernel : dic1.shown.length ≤ 100) (by decide)
    exact repr_of_reads' rd (by decide +kernel) (fun _ => far) hg (by show X.A.units + (2 + 1) < cLine; omega) (fun _ _ e => e) (fun h' w' tk hk => ⟨.str dic1.shown, H, I.kept hk, ⟨w', rfl⟩, q⟩) short
end
/-- a thing of the menu -/
inductive Thing (ca : Nat → Addr) (CP : Addr) (H : Hp) : V → Prop
  | dat {v : V} (d : D) : Dd H v d → d.fit → d.sz ≤ 1000 → d.dep ≤ 40 → Thing ca CP H v
  | big : Thing ca CP H (.int big)
  | dic {a l : Addr} : H a = some (.dK [(Sum.inr "a", .ref l)]) → H l = some (.lst [.int 3]) → Thing ca CP H (.ref a)
  | err {a : Addr} : ErAt H a (ca 2) (some ("given", .str "x")) → Thing ca CP H (.ref a)
  | prt {p : Addr} : PortsAt CP H p [("p", 2)] → Thing ca CP H (.ref p)
theorem Thing.same {ca : Nat → Addr} {CP : Addr} {H H' : Hp} {v : V} (s : Same H H') : Thing ca CP H v → Thing ca CP H' v
  | .dat d h f z e => .dat d (h.same s) f z e
  | .big => .big
  | .dic h1 h2 => .dic (s _ _ h1) (s _ _ h2)
  | .err h => .err (h.same s)
  | .prt h => .prt (h.same s)
/-! hiding the box -/
mutual
def D.no4 : D → Bool
  | .lst ds => decide (ds.length ≠ 4) && D.no4s ds
  | .tup ds => D.no4s ds
  | _ => true
def D.no4s : List D → Bool
  | [] => true
  | d :: ds => d.no4 && D.no4s ds
end
section
variable {H : Hp} {b : Addr} {x y z w : V} (hb : H b = some (.lst [x, y, z, w]))
include hb
theorem hide_ne {a : Addr} {o : HO} (h : H a = some o) (n : ∀ l, o = .lst l → l.length ≠ 4) : hid [b] H a = some o := by
  rw [hid_out, h]
  intro m
  rw [List.mem_singleton] at m
  subst m
  rw [hb] at h; cases h
  exact n _ rfl rfl
mutual
theorem Dd.hide : ∀ {v : V} {d : D}, Dd H v d → d.no4 = true → Dd (hid [b] H) v d
  | _, _, .non, _ => .non
  | _, _, .bl b, _ => .bl b
  | _, _, .int i, _ => .int i
  | _, _, .str x, _ => .str x
  | _, _, .lst e h, n => by
    have n := Bool.and_eq_true_iff.mp n
    have l := DdL.len h
    refine .lst (hide_ne hb e fun l' e' => ?_) (DdL.hide h n.2)
    cases e'
    rw [l]; exact of_decide_eq_true n.1
  | _, _, .tup e h, n => .tup (hide_ne hb e (by intro l z; cases z)) (DdL.hide h n)
  | _, _, .dic e, _ => .dic (hide_ne hb e (by intro l z; cases z))
theorem DdL.hide : ∀ {vs : List V} {ds : List D}, DdL H vs ds → D.no4s ds = true → DdL (hid [b] H) vs ds
  | _, _, .nil, _ => .nil
  | _, _, .cons h t, n => .cons (Dd.hide h (Bool.and_eq_true_iff.mp n).1) (DdL.hide t (Bool.and_eq_true_iff.mp n).2)
end
theorem ErAt.hide {a C : Addr} {q : Option (Str × V)} (h : ErAt H a C q) : ErAt (hid [b] H) a C q := by
  have one : ∀ {d}, ExAt H a C d → ExAt (hid [b] H) a C d := fun ⟨φ, e, q⟩ => ⟨φ, hide_ne hb e (by intro l z; cases z), q⟩
  match q, h with
  | none, h => exact one h
  | some (f, v), ⟨dd, h1, h2⟩ => exact ⟨dd, one h1, h2.imp (fun e => hide_ne hb e (fun l z => by unfold exd at z; cases z)) (fun e => hide_ne hb e (by intro l z; cases z))⟩
theorem PortsAt.hide {C p : Addr} {ks : List Kind} (h : PortsAt C H p ks) : PortsAt C (hid [b] H) p ks := by
  obtain ⟨dx, fs, d, kvs, h1, l1, l2, h2, h3, tk, xs, k1, k2, k3⟩ := h
  exact ⟨dx, fs, d, kvs, hide_ne hb h1 (by intro l z; cases z), l1, l2, hide_ne hb h2 (by intro l z; cases z), h3, tk, xs, k1, hide_ne hb k2 (by intro l z; cases z), k3.keep fun c l e => hide_ne hb e (by intro l z; cases z)⟩
end
end NH
set_option maxHeartbeats 2000000
namespace NH
open PySem PySem.Spec PyProof.Rows L2 TL
theorem pe_cal0 {X : Cx} {k j : Nat} {x : Str} {sp : Sp} {p pos : Pos} (c : Callee X.prog X.w X.K X.mg X.base k x [] sp) (hr : Room j X.A) (hj : k ≤ j) (hg : Gl X x := by rfl) (hdb : (x == ("__debug__" : Str)) = false := by decide) : PE X (.Call (.Name x p) [] [] pos) (tCall sp [] E0 tNil) := by
  obtain ⟨f, fd, hm, hk, hb, F⟩ := c.ex
  exact pe_call0 F (hr.mono hj) hg hm hk hb .nil pass0 hdb
/-- what is known of Ports' == -/
structure PEq (P : Program) (w : World) (K : PySem.W.Frag) (mg : Str → Option Value) (base : Heap) (C fE : Addr) : Prop where
  hs : PySem.W.findIn K (.ref C) "__eq__" = some (some (.ref fE))
  hf : PySem.W.isFn K (.ref fE) = true
  tc : PySem.W.findIn K (.ref C) "__class__" = some (some (.builtin "object.__class__"))
  hn : PySem.W.specialIn K (.builtin "object.__class__") "__get__" = some (some (.builtin "getset_descriptor.__get__"))
  ht : PySem.W.takesIn K (.builtin "object.__class__") = some true
  hm : PySem.W.mroIn K C (.type "object") = some true
section
variable {P : Program} {w : World} {K : PySem.W.Frag} {mg : Str → Option Value} {base : Heap} {ca : Nat → Addr} {NE C fI fH fE : Addr}
theorem PEq.ty {H : Hp} {p : Addr} {ks : List Kind} (Y : PEq P w K mg base C fE) (T : PortsC K mg C fI fH) (h : PortsAt C H p ks) : TyX K H (.ref p) (.ref C) := by
  obtain ⟨dx, fs, d, kvs, h1, _⟩ := h
  exact .base (.ins h1 T.cl Y.tc Y.hn Y.ht Y.hm)
theorem kit_self {K : PySem.W.Frag} {C : Addr} : PySem.W.kitOne K (.ref C) (.ref C) = some true := if_pos (by simp)
abbrev R2p (C : Addr) : Addr → Addr → Hp → Prop := fun a b H => a = b ∧ PortsAt C H a [("p", 2)]
abbrev s_eq : Stmt := inClass (top 63) 1
theorem sc_eq : FnScope ["self", "other"] ["self", "other"] (defScope s_eq) := ⟨rfl, rfl, rfl, by decide +kernel, rfl, by decide +kernel, by decide +kernel⟩
theorem ok_eq (Y : PEq P w K mg base C fE) (G : Bl mg) (T : PortsC K mg C fI fH) (F : ∃ fd, FunD K "__eq__" "Ports.__eq__" (defArgs s_eq) (defBody s_eq) (defScope s_eq) [] [] fE fd) :
    ∃ fd, Binds K fd ["self", "other"] [] ∧ FnOk P w K mg base CX0 2 fE fd ["self", "other"] (spEq (R2p C)) := by
  refine meth_ok F sc_eq (fun vs H Q E h => by obtain ⟨a, b, rfl, _⟩ := h; rfl) (fun _ _ _ _ _ _ us hl => match us, hl with | [_, _], _ => rfl) fun cdv A outer s H vs Q E hr h => ?_
  obtain ⟨a, b, rfl, ⟨rfl, hP⟩, q⟩ := h
  have hu64 := hr.units
  refine ⟨_, (pss_cons (ps_if (pt_not (pt_val (pe_callB call_isi (by rfl) G.b_isinstance (by decide +kernel) (pa_cons (pv 1) (pa_cons (pe_glob (v := .ref C) (by rfl) T.g rfl) pa_nil))))) (pss_one (ps_ret pe_bl)) pss_nil)
    (pss_one (ps_ret (pe_cmpR (op_eqD hu64) (pe_fld (pv 0) rfl) (pe_fld (pv 1) rfl) (nomark _))))), ?_⟩
  have ty := Y.ty T hP
  obtain ⟨dx, fs, d, kvs, h1, l1, l2, h2, h3, tk, xs, k1, k2, k3⟩ := hP
  refine ⟨_, rfl, .ref a, .ref C, _, _, _, rfl, .own C, ty, kit_self, _, rfl, iteF ?_⟩
  refine ⟨_, rfl, a, C, dx, _, _, rfl, h1, T.cl, T.nK, k1, _, rfl, a, C, dx, _, _, rfl, h1, T.cl, T.nK, k1, ?_⟩
  cases k3 with
  | cons hx ht =>
    cases ht
    obtain ⟨t, rfl, h5⟩ := hx
    have dp : Dp K H (.ref tk) (.tuple [.tuple [.str "p", .int 2]]) := .tup (SqT.of k2) (.cons (.tup (SqT.of h5) (.cons (.str _) (.cons (.int _) .nil))) .nil)
    have e : PyData.eqv (.tuple [.tuple [.str "p", .int 2]]) (.tuple [.tuple [.str "p", .int 2]]) = true := by decide +kernel
    exact ⟨_, _, dp, dp, by decide +kernel, by decide +kernel, by rw [e]; exact q _ Ext.rfl'⟩
abbrev s_law_deep : Stmt := top 78
theorem sc_law_deep : FnScope ["found", "k"] [] (defScope s_law_deep) := ⟨rfl, rfl, rfl, by decide +kernel, rfl, by decide +kernel, by decide +kernel⟩
def deepD : Nat → D
  | 0 => .lst [.int 1]
  | n + 1 => .lst [deepD n]
def spDeep : Sp := fun vs H Q _ => vs = [] ∧ ∀ v H', Same H H' → Dd H' v (deepD 11) → Q v H'
theorem ok_law_deep (G : Bl mg) (DA : DefAt K mg "_law_deep" s_law_deep) : Callee P w K mg base 1 "_law_deep" [] spDeep := by
  refine callee DA sc_law_deep (fun vs H Q E h => by obtain ⟨rfl, _⟩ := h; rfl) (fun _ _ _ _ _ _ us hl => match us, hl with | [], _ => rfl) fun f cdv A outer s H vs Q E0 hr h => ?_
  obtain ⟨rfl, q⟩ := h
  refine ⟨_, (pss_cons (ps_set (i := 0) sc_law_deep.nd rfl (Or.inl rfl) (pe_lst (pa_cons pe_int pa_nil)))
    (pss_cons (ps_for PassesOwn.never rfl (pi_range1 (by rfl) G.b_range (pa_cons pe_int pa_nil)) (pg_name (i := 1) sc_law_deep.nd rfl (Or.inl rfl)) (pss_one (ps_set (i := 0) sc_law_deep.nd rfl (Or.inl rfl) (pe_lst (pa_cons (pv 0) pa_nil)))))
    (pss_one (ps_ret (pv 0))))), ?_⟩
  refine ⟨by rw [sizeLine_eq]; show 1 ≤ _; omega, fun p hp => ?_⟩
  refine ⟨11, rfl, by decide, by decide, ?_⟩
  refine for_range (lo := 0) (n := 11) (fun i σ H' => ∃ (v : V) (x1 : Option V), σ = [some v, x1] ∧ Same H H' ∧ Dd H' v (deepD i)) ⟨.ref p, none, rfl, same_new hp, .lst upd_same (.cons (.int 1) .nil)⟩ ?_ ?_
  · rintro i σ H1 hi ⟨v, x1, rfl, s1, h1⟩
    refine ⟨_, rfl, by rw [sizeLine_eq]; show 1 ≤ _; omega, fun p2 h2 => ⟨_, _, rfl, Same.put s1 (s1.free h2), .lst upd_same (.cons (h1.same (same_new h2)) .nil)⟩⟩
  · rintro σ H1 ⟨v, x1, rfl, s1, h1⟩
    exact ⟨_, rfl, q _ _ s1 h1⟩
abbrev s_law_same : Stmt := top 80
theorem sc_law_same : FnScope ["kept", "thing"] ["kept", "thing"] (defScope s_law_same) := ⟨rfl, rfl, rfl, by decide +kernel, rfl, by decide +kernel, by decide +kernel⟩
/-- what isinstance says between errors and Ports -/
structure EPk (K : PySem.W.Frag) (ca : Nat → Addr) (NE C : Addr) : Prop where
  pe : ∀ i, i < 49 → PySem.W.kitOne K (.ref C) (.ref (ca i)) = some false
  pn : PySem.W.kitOne K (.ref C) (.ref NE) = some false
  ep : ∀ i, i < 49 → PySem.W.kitOne K (.ref (ca i)) (.ref C) = some false
theorem kit_data {K : PySem.W.Frag} {a : Addr} {o : Obj} (d : D) {C : Addr} (h : ∀ t ∈ tys, PySem.W.kitOne K (.type t) (.ref C) = some false) : PySem.W.kitOne K (.type d.ty) (.ref C) = some false := h _ d.ty_mem
def TyT (K : PySem.W.Frag) (C : Addr) : Prop := ∀ t ∈ tys, PySem.W.kitOne K (.type t) (.ref C) = some false
/-- a thing's type, and what it is not -/
theorem Thing.ty {X : Cx} {H : Hp} {v : V} (E : Errs X.prog X.w X.K X.mg X.base ca NE) (Y : PEq X.prog X.w X.K X.mg X.base C fE) (T : PortsC X.K X.mg C fI fH) (Z : EPk X.K ca NE C) (t2 : TyT X.K (ca 2)) (tn : TyT X.K NE) (tc : TyT X.K C) (h : Thing ca C H v) :
    (∃ a, v = .ref a ∧ ErAt H a (ca 2) (some ("given", .str "x"))) ∨ (∃ p, v = .ref p ∧ PortsAt C H p [("p", 2)]) ∨
      ∃ t s, TyX X.K H v t ∧ PySem.W.kitOne X.K t (.ref (ca 2)) = some false ∧ PySem.W.kitOne X.K t (.ref NE) = some false ∧ PySem.W.kitOne X.K t (.ref C) = some false ∧ Shows H v s := by
  cases h with
  | dat d h1 h2 h3 h4 => exact .inr (.inr ⟨_, _, h1.tyx, t2 _ d.ty_mem, tn _ d.ty_mem, tc _ d.ty_mem, .inl ⟨d, h1, h2, Nat.le_trans h3 (by decide), h4, rfl⟩⟩)
  | big => exact .inr (.inr ⟨_, _, .base (.int _), t2 _ (by simp [tys]), tn _ (by simp [tys]), tc _ (by simp [tys]), .inr (.inl ⟨rfl, rfl⟩)⟩)
  | dic h1 h2 => exact .inr (.inr ⟨_, _, .base (.dK h1), t2 _ (by simp [tys]), tn _ (by simp [tys]), tc _ (by simp [tys]), .inr (.inr ⟨_, _, rfl, h1, h2, rfl⟩)⟩)
  | err h1 => exact .inl ⟨_, rfl, h1⟩
  | prt h1 => exact .inr (.inl ⟨_, rfl, h1⟩)
theorem tyx_same {K : PySem.W.Frag} {H H' : Hp} {v : V} {t : Value} (s : Same H H') (h : TyX K H v t) : TyX K H' v t := by
  cases h with
  | base b => cases b with
    | non => exact .base .non
    | bl x => exact .base (.bl x)
    | int i => exact .base (.int i)
    | str x => exact .base (.str x)
    | flt x => exact .base (.flt x)
    | lst e => exact .base (.lst (s _ _ e))
    | frz e => exact .base (.frz (s _ _ e))
    | tup e => exact .base (.tup (s _ _ e))
    | dK e => exact .base (.dK (s _ _ e))
    | dT e => exact .base (.dT (s _ _ e))
    | ins e a b c d x => exact .base (.ins (s _ _ e) a b c d x)
  | byt b => exact .byt b
  | set e => exact .set (s _ _ e)
  | kList e c => exact .kList e c
  | kTuple e c => exact .kTuple e c
  | kDict e c => exact .kDict e c
  | fTuple e => exact .fTuple (s _ _ e)
  | fDict e => exact .fDict (s _ _ e)
theorem Shows.same {H H' : Hp} {v : V} {t : Str} (s : Same H H') : Shows H v t → Shows H' v t
  | .inl ⟨d, h1, h2⟩ => .inl ⟨d, h1.same s, h2⟩
  | .inr (.inl h) => .inr (.inl h)
  | .inr (.inr ⟨a, l, e, h1, h2, h3⟩) => .inr (.inr ⟨a, l, e, s _ _ h1, s _ _ h2, h3⟩)
def spSame (ca : Nat → Addr) (C : Addr) : Sp := fun vs H Q _ => ∃ v, vs = [v, v] ∧ Thing ca C H v ∧ ∀ H', Same H H' → Q (.bl true) H'
theorem ok_law_same (E : Errs P w K mg base ca NE) (Y : PEq P w K mg base C fE) (T : PortsC K mg C fI fH) (Z : EPk K ca NE C) (t2 : TyT K (ca 2)) (tn : TyT K NE) (tc : TyT K C) (G : Bl mg) (sm : ∃ o, base.get? sysModules = some o)
    (FE : ∃ fd, Binds K fd ["self", "other"] [] ∧ FnOk P w K mg base CX0 2 fE fd ["self", "other"] (spEq (R2p C))) (DA : DefAt K mg "_law_same" s_law_same) : CalleeG P w K mg base 3 "_law_same" ["kept", "thing"] (spSame ca C) := by
  refine calleeG DA sc_law_same (fun vs H Q E h => by obtain ⟨v, rfl, _⟩ := h; rfl) (fun _ _ _ _ _ _ us hl => match us, hl with | [_, _], _ => rfl) fun f cdv A outer s H vs Q E0 hgu hr h => ?_
  obtain ⟨v, rfl, ht, q⟩ := h
  have hu64 := hr.units
  obtain ⟨fdE, bE, okE⟩ := FE
  have hEq := rcG_ins (X := (cxOf CX0 P w K mg base ["kept", "thing"] "_law_same" (defScope s_law_same) f cdv A outer s H E0).nox) okE Y.hs Y.hf bE pass0
  refine ⟨_, (pss_cons (ps_if (pt_val (pe_is (x := "InvalidText") E G 2 (pv 1))) (pss_one (ps_ret (pe_and (pe_is (x := "InvalidText") E G 2 (pv 0)) (pe_one (pe_cmpR op_eq (pe_erF (pv 0)) pe_str (nomark _)))))) pss_nil)
    (pss_cons (ps_if (pt_val (pe_callB call_isiE (by rfl) G.b_isinstance (by decide +kernel) (pa_cons (pv 1) (pa_cons (pe_glob (v := .ref C) (by rfl) T.g rfl) pa_nil)))) (pss_one (ps_ret (pe_and (pe_callB call_isiE (by rfl) G.b_isinstance (by decide +kernel) (pa_cons (pv 0) (pa_cons (pe_glob (v := .ref C) (by rfl) T.g rfl) pa_nil))) (pe_one (pe_cmpR (op_eqG hEq (hr.mono (by decide))) (pv 0) (pv 1) (nomark _)))))) pss_nil)
    (pss_one (ps_ret (pe_and (pe_not (pe_callB call_isiTE (by rfl) G.b_isinstance (by decide +kernel) (pa_cons (pv 0) (pa_cons (pe_tup (pa_cons (pe_glob (v := .ref NE) (by rfl) E.gNE rfl) (pa_cons (pe_glob (v := .ref C) (by rfl) T.g rfl) pa_nil))) pa_nil)))) (pe_one (pe_cmpR op_eq (pe_callB (call_reprT hgu hu64 sm) (by rfl) G.b_repr (by decide +kernel) (pa_cons (pv 0) pa_nil)) (pe_callB (call_reprT hgu hu64 sm) (by rfl) G.b_repr (by decide +kernel) (pa_cons (pv 1) pa_nil)) (nomark _)))))))), ?_⟩
  have ty := Thing.ty (X := (cxOf CX0 P w K mg base ["kept", "thing"] "_law_same" (defScope s_law_same) f cdv A outer s H E0).nox) E Y T Z t2 tn tc ht
  rcases ty with ⟨a, rfl, he⟩ | ⟨p, rfl, hp⟩ | ⟨t, z, h1, h2, h3, h4, h5⟩
  · refine ⟨_, rfl, is_go E he.x (by decide) (i := 2) (by decide) ⟨_, rfl, iteT ?_⟩⟩
    refine ⟨_, rfl, is_go E he.x (by decide) (i := 2) (by decide) ⟨_, rfl, iteT ?_⟩⟩
    refine ⟨_, rfl, a, ca 2, .str "x", rfl, he.x, (E.all 2 (by decide)).xf, E.no 2 (by decide), ?_⟩
    exact ⟨rfl, q _ (Same.refl H)⟩
  · have tyP := Y.ty T hp
    refine ⟨_, rfl, .ref p, .ref (ca 2), _, _, _, rfl, .own _, .inl tyP, Z.pe 2 (by decide), _, rfl, iteF ?_⟩
    refine ⟨_, rfl, .ref p, .ref C, _, _, _, rfl, .own _, .inl tyP, kit_self, _, rfl, iteT ?_⟩
    refine ⟨_, rfl, .ref p, .ref C, _, _, _, rfl, .own _, .inl tyP, kit_self, _, rfl, iteT ?_⟩
    obtain ⟨dx, fs, d, kvs, h1, _⟩ := id hp
    exact ⟨_, rfl, _, rfl, ⟨p, p, dx, dx, fs, fs, rfl, rfl, h1, h1, rfl, hp⟩, fun H' e => q _ e⟩
  · refine ⟨_, rfl, v, .ref (ca 2), _, _, _, rfl, .own _, .inl h1, h2, _, rfl, iteF ?_⟩
    refine ⟨_, rfl, v, .ref C, _, _, _, rfl, .own _, .inl h1, h4, _, rfl, iteF ?_⟩
    refine ⟨_, rfl, by rw [sizeLine_eq]; show 2 ≤ _; omega, fun p hp => ?_⟩
    have w := same_new (o := .tup [V.ref NE, V.ref C]) hp
    refine ⟨v, p, _, _, _, false, rfl, upd_same, .cons (.own _) (.cons (.own _) .nil), .inl (tyx_same w h1), kitAny_cons h3 (fun _ => kitAny_cons h4 (fun _ => kitAny_nil) fun e => by cases e) (fun e => by cases e), _, rfl, _, rfl, iteT ?_⟩
    refine ⟨_, rfl, v, z, rfl, h5.same w, _, rfl, v, z, rfl, h5.same w, rfl, ?_⟩
    rw [decide_eq_true rfl]
    exact q _ w
end
end NH
set_option maxHeartbeats 4000000
namespace NH
open PySem PySem.Spec PyProof.Rows L2 TL
theorem nw {H H1 : Hp} {p : Addr} {o : HO} (e : upd H p o = H1) (hp : H p = none) : Same H H1 ∧ H1 p = some o := by subst e; exact ⟨same_new hp, upd_same⟩
theorem er_cons {ca : Nat → Addr} {σ : L2.St} {v : V} {te : TE} {i : Nat} {t : TA} {H : Hp} {Q : List V → Hp → Prop} (ht : ∀ H Q, Q v H → te σ H Q) (q : ∀ a H2, H a = none → Same H H2 → ErAt H2 a (ca i) (some (efl i, v)) → t σ H2 fun xs H3 => Q (.ref a :: xs) H3) : tCons (tEr ca i te) t σ H Q :=
  ht _ _ (er_go (H := H) (fld := efl i) (C := ca i) (v := v) (Q := fun x H1 => t σ H1 fun xs H2 => Q (x :: xs) H2) q)
theorem tk_go {σ : L2.St} {i : Nat} {b : Addr} {n : Nat} {H : Hp} {Q : VK} {z : Int} (m : Nat) (hz : (m : Int) = z) (h : σ[i]? = some (some (.ref b))) (x : Bx b n H) (hn : n ≤ 1000000000) (h0 : 0 < m) (h1 : m ≤ 1000000)
    (q : ∀ (d : Nat) H', d < m → Kp [b] H H' → Bx b (n + 1) H' → (∀ a, a ≠ b → H' a = H a) → Q (.int d) H') : tCall spTake [] L2.E0 (tCons (tVar i) (tCons (tC (V.int z)) tNil)) σ H Q := by
  subst hz
  exact ⟨_, h, tk (E := L2.E0) x hn h0 h1 q⟩
section
variable {P : Program} {w : World} {K : PySem.W.Frag} {mg : Str → Option Value} {base : Heap} {ca : Nat → Addr} {NE C fI fH fE : Addr}
abbrev s_law_thing : Stmt := top 79
theorem sc_law_thing : FnScope ["box", "menu"] ["box"] (defScope s_law_thing) := ⟨rfl, rfl, rfl, by decide +kernel, rfl, by decide +kernel, by decide +kernel⟩
def spThing (ca : Nat → Addr) (C : Addr) : Sp := fun vs H Q _ => ∃ (b : Addr) (n : Nat), vs = [.ref b] ∧ Bx b n H ∧ n ≤ 900000000 ∧ ∀ v H', Kp [b] H H' → Bx b (n + 1) H' → Thing ca C (hid [b] H') v → Q v H'
theorem ok_law_thing (E : Errs P w K mg base ca NE) (T : PortsC K mg C fI fH) (G : Bl mg) (gI : ∃ fd, Binds K fd ["self", "kinds"] [] ∧ FnOk P w K mg base CX0 8 fI fd ["self", "kinds"] (spInit C)) (cT : Callee P w K mg base 2 "_law_take" ["box", "many"] spTake) (cDe : Callee P w K mg base 1 "_law_deep" [] spDeep)
    (DA : DefAt K mg "_law_thing" s_law_thing) : Callee P w K mg base 10 "_law_thing" ["box"] (spThing ca C) := by
  obtain ⟨fdI, bI, GI⟩ := gI
  refine callee DA sc_law_thing (fun vs H Q E h => by obtain ⟨b, n, rfl, _⟩ := h; rfl) (fun _ _ _ _ _ _ us hl => match us, hl with | [_], _ => rfl) fun f cdv A outer s H vs Q E0 hr h => ?_
  obtain ⟨b, n, rfl, hb, hn, q⟩ := h
  refine ⟨_, (pss_cons (ps_set (i := 1) sc_law_thing.nd rfl (Or.inl rfl) (pe_lst (pa_cons pe_non (pa_cons pe_bl (pa_cons pe_bl (pa_cons pe_int (pa_cons pe_int (pa_cons pe_str (pa_cons pe_str (pa_cons (pe_lst pa_nil) (pa_cons (pe_lst (pa_cons pe_int (pa_cons pe_str pa_nil))) (pa_cons (pe_tup pa_nil) (pa_cons (pe_tup (pa_cons pe_int (pa_cons pe_bl pa_nil))) (pa_cons pe_dnewK (pa_cons (pe_disp (pps_cons pe_str (pe_lst (pa_cons pe_int pa_nil)) pps_nil) (by rfl) (by rfl) (by simp) (by decide)) (pa_cons (pe_lst (pa_cons pe_non pa_nil)) (pa_cons (pe_tup (pa_cons pe_int (pa_cons (pe_tup (pa_cons pe_str pa_nil)) pa_nil))) pa_nil)))))))))))))))))
    (pss_cons (ps_set (i := 1) sc_law_thing.nd rfl (Or.inl rfl) (pe_op op_cat (pv 1) (pe_lst (pa_cons (pe_un un_neg (pe_op op_pow pe_int pe_int)) (pa_cons (pe_tup (pa_cons pe_str (pa_cons (pe_lst (pa_cons pe_str pa_nil)) pa_nil))) (pa_cons (pe_cal0 cDe hr (by decide)) (pa_cons (pe_er (x := "InvalidText") E 2 hr pe_str) (pa_cons (pe_make T.mkP GI (hr.mono (by decide)) (by rfl) T.g bI .nil pass0 (pa_cons (pe_lst (pa_cons (pe_tup (pa_cons pe_str (pa_cons pe_int pa_nil))) pa_nil)) pa_nil)) pa_nil))))))))
    (pss_one (ps_ret (pe_ix ix_list (pv 1) (pe_cal cT hr (by decide) (pa_cons (pv 0) (pa_cons pe_int pa_nil))) (fun _ _ => rfl)))))), ?_⟩
  have sz : ∀ {k : Nat}, k ≤ 100 → k ≤ sizeLine := fun h => by rw [sizeLine_eq]; omega
  refine ⟨sz (by decide), fun p7 h7 => ?_⟩
  obtain ⟨w7, e7⟩ := nw rfl h7
  generalize upd H p7 _ = H7 at w7 e7 ⊢
  refine ⟨sz (by decide), fun p8 h8 => ?_⟩
  obtain ⟨w8, e8⟩ := nw rfl h8
  generalize upd H7 p8 _ = H8 at w8 e8 ⊢
  refine ⟨sz (by decide), fun p9 h9 => ?_⟩
  obtain ⟨w9, e9⟩ := nw rfl h9
  generalize upd H8 p9 _ = H9 at w9 e9 ⊢
  refine ⟨sz (by decide), fun pa ha => ?_⟩
  obtain ⟨wa, ea⟩ := nw rfl ha
  generalize upd H9 pa _ = Ha at wa ea ⊢
  refine fun pb hb' => ?_
  obtain ⟨wb, eb⟩ := nw rfl hb'
  generalize upd Ha pb _ = Hb at wb eb ⊢
  refine fun pc hc => ?_
  refine ⟨sz (by decide), fun pd hd => ⟨?_, [(Sum.inr "a", .ref pd)], rfl, (by show 1 ≤ 15; decide), ?_⟩⟩
  · rw [upd_ne (ne_of_none upd_same hd)]; exact upd_same
  have npc : pc ≠ pd := ne_of_none upd_same hd
  have wc : Same Hb (upd (upd (upd Hb pc (.dK [])) pd (.lst [.int 3])) pc (.dK (mergeK [] [(Sum.inr "a", .ref pd)]))) := Same.put ((same_new hc).trans (same_new hd)) hc
  have ec : (upd (upd (upd Hb pc (.dK [])) pd (.lst [.int 3])) pc (.dK (mergeK [] [(Sum.inr "a", .ref pd)]))) pc = some (.dK [(Sum.inr "a", .ref pd)]) := upd_same
  have ed : (upd (upd (upd Hb pc (.dK [])) pd (.lst [.int 3])) pc (.dK (mergeK [] [(Sum.inr "a", .ref pd)]))) pd = some (.lst [.int 3]) := by rw [upd_ne (Ne.symm npc)]; exact upd_same
  generalize upd (upd (upd Hb pc (.dK [])) pd (.lst [.int 3])) pc (.dK (mergeK [] [(Sum.inr "a", .ref pd)])) = Hc at wc ec ed ⊢
  refine ⟨sz (by decide), fun pe he => ?_⟩
  obtain ⟨we, ee⟩ := nw rfl he
  generalize upd Hc pe _ = He at we ee ⊢
  refine ⟨sz (by decide), fun pf hf => ?_⟩
  obtain ⟨wf, ef⟩ := nw rfl hf
  generalize upd He pf _ = Hf at wf ef ⊢
  refine ⟨sz (by show 2 ≤ 100; decide), fun pg hg => ?_⟩
  obtain ⟨wg, eg⟩ := nw rfl hg
  generalize upd Hf pg _ = Hg at wg eg ⊢
  refine ⟨sz (by show 15 ≤ 100; decide), fun pm hm => ?_⟩
  obtain ⟨wm, em⟩ := nw rfl hm
  generalize upd Hg pm _ = Hm at wm em ⊢
  refine ⟨_, rfl, ?_⟩
  refine ⟨10, 19, rfl, rfl, ⟨by decide, by decide, by decide⟩, _, rfl, ?_⟩
  refine ⟨sz (by decide), fun pq hq => ?_⟩
  obtain ⟨wq, eq⟩ := nw rfl hq
  generalize upd Hm pq _ = Hq at wq eq ⊢
  refine ⟨sz (by show 2 ≤ 100; decide), fun pt ht => ?_⟩
  obtain ⟨wt, et⟩ := nw rfl ht
  generalize upd Hq pt _ = Ht at wt et ⊢
  refine ⟨rfl, fun vd Hv wv dv => ?_⟩
  refine er_cons (v := .str "x") (fun H Q q => q) fun ae Hx hae wx ex => ?_
  refine ⟨sz (by decide), fun p1 h1 => ?_⟩
  obtain ⟨w1, e1⟩ := nw rfl h1
  generalize upd Hx p1 _ = H1 at w1 e1 ⊢
  refine ⟨sz (by show 1 ≤ 100; decide), fun p2 h2 => ?_⟩
  obtain ⟨w2, e2⟩ := nw rfl h2
  generalize upd H1 p2 _ = H2 at w2 e2 ⊢
  refine fun px dx hx hdx ne => ⟨px, dx, p2, [.ref p1], [("p", 2)], rfl, upd_same, ?_, ?_, ?_, fun H3 hP off => ⟨rfl, ?_⟩⟩
  · rw [upd_ne (ne_of_none e2 hx), upd_ne (ne_of_none e2 hdx)]; exact e2
  · have e3 := w2 _ _ e1
    exact .cons ⟨p1, rfl, by rw [upd_ne (ne_of_none e3 hx), upd_ne (ne_of_none e3 hdx)]; exact e3⟩ .nil
  · exact ⟨by decide, fun k hk => by rw [List.mem_singleton] at hk; subst hk; exact ⟨(by decide +kernel : ∀ c ∈ ("p" : Str).cps.toList, 97 ≤ c ∧ c ≤ 122), by decide +kernel, by decide +kernel⟩, fun k hk => by rw [List.mem_singleton] at hk; subst hk; exact Or.inl rfl, by simp⟩
  have w3 : Same H2 H3 := fun c o e => off c o (ne_of_none e hx) (by rw [upd_ne (ne_of_none e hx), upd_ne (ne_of_none e hdx)]; exact e)
  refine ⟨sz (by show 5 ≤ 100; decide), fun pl hl => ?_⟩
  obtain ⟨wl, el⟩ := nw rfl hl
  generalize upd H3 pl _ = Hl at wl el ⊢
  have t1 := wl
  have t2 := w3.trans t1
  have t3 := w2.trans t2
  have t4 := w1.trans t3
  have t5 := wx.trans t4
  have t6 := wv.trans t5
  have t7 := wt.trans t6
  have t8 := wq.trans t7
  have t9 := wm.trans t8
  refine ⟨pm, pl, _, _, rfl, rfl, t8 _ _ em, el, sz (by show 20 ≤ 100; decide), fun pz hz => ?_⟩
  obtain ⟨wz, ez⟩ := nw rfl hz
  generalize upd Hl pz _ = Hz at wz ez ⊢
  have u1 := t1.trans wz
  have u4 := t4.trans wz
  have u5 := t5.trans wz
  have u6 := t6.trans wz
  have u7 := t7.trans wz
  have u8 := t8.trans wz
  have u9 := t9.trans wz
  have ug := wg.trans u9
  have uf := wf.trans ug
  have ue := we.trans uf
  have uc := wc.trans ue
  have ub := wb.trans uc
  have ua := wa.trans ub
  have v9 := w9.trans ua
  have v8 := w8.trans v9
  have v7 := w7.trans v8
  have hbz := hb.same v7
  obtain ⟨ob, eb4, ⟨x1, x2, x3, x4, rfl, _⟩⟩ := id hbz
  have dat : ∀ {v : V} (d : D), Dd Hz v d → d.no4 = true → d.fit → d.sz ≤ 1000 → d.dep ≤ 40 → Thing ca C (hid [b] Hz) v := fun d h1 h2 h3 h4 h5 => .dat d (Dd.hide eb4 h1 h2) h3 h4 h5
  have fine : ∀ {x : Str}, (∀ c ∈ x.cps.toList, c < 128) → (D.str x).fit := fun h => h
  have all : ∀ v ∈ ([V.non, V.bl true, V.bl false, V.int 0, V.int 7, V.str "", V.str "due p1", V.ref p7, V.ref p8, V.ref p9, V.ref pa, V.ref pb, V.ref pc, V.ref pe, V.ref pg] ++ [V.int big, V.ref pt, vd, V.ref ae, V.ref px] : List V), Thing ca C (hid [b] Hz) v := by
    intro v hv
    simp only [List.cons_append, List.nil_append, List.mem_cons, List.not_mem_nil, or_false] at hv
    rcases hv with rfl | rfl | rfl | rfl | rfl | rfl | rfl | rfl | rfl | rfl | rfl | rfl | rfl | rfl | rfl | rfl | rfl | rfl | rfl | rfl
    · exact dat .non .non rfl trivial (by decide) (by decide)
    · exact dat (.bl true) (.bl _) rfl trivial (by decide) (by decide)
    · exact dat (.bl false) (.bl _) rfl trivial (by decide) (by decide)
    · exact dat (.int 0) (.int _) rfl (show (0 : Int).natAbs ≤ 1000 by decide) (by decide) (by decide)
    · exact dat (.int 7) (.int _) rfl (show (7 : Int).natAbs ≤ 1000 by decide) (by decide) (by decide)
    · exact dat (.str "") (.str _) rfl (fine (by decide +kernel)) (by decide +kernel) (by decide)
    · exact dat (.str "due p1") (.str _) rfl (fine (by decide +kernel)) (by decide +kernel) (by decide)
    · exact dat (.lst []) (.lst (v8 _ _ e7) .nil) (by decide) trivial (by decide) (by decide)
    · exact dat (.lst [.int 1, .str "a"]) (.lst (v9 _ _ e8) (.cons (.int _) (.cons (.str _) .nil))) (by decide) ⟨show (1 : Int).natAbs ≤ 1000 by decide, fine (by decide +kernel), trivial⟩ (by decide +kernel) (by decide)
    · exact dat (.tup []) (.tup (ua _ _ e9) .nil) (by decide) trivial (by decide) (by decide)
    · exact dat (.tup [.int 1, .bl true]) (.tup (ub _ _ ea) (.cons (.int _) (.cons (.bl _) .nil))) (by decide) ⟨show (1 : Int).natAbs ≤ 1000 by decide, trivial, trivial⟩ (by decide +kernel) (by decide)
    · exact dat .dic (.dic (uc _ _ eb)) rfl trivial (by decide) (by decide)
    · exact .dic (hide_ne eb4 (ue _ _ ec) (by intro l z; cases z)) (hide_ne eb4 (ue _ _ ed) (by intro l z; cases z; decide))
    · exact dat (.lst [.non]) (.lst (uf _ _ ee) (.cons .non .nil)) (by decide) ⟨trivial, trivial⟩ (by decide +kernel) (by decide)
    · exact dat (.tup [.int 2, .tup [.str "b"]]) (.tup (u9 _ _ eg) (.cons (.int _) (.cons (.tup (ug _ _ ef) (.cons (.str _) .nil)) .nil))) (by decide) ⟨show (2 : Int).natAbs ≤ 1000 by decide, ⟨fine (by decide +kernel), trivial⟩, trivial⟩ (by decide +kernel) (by decide)
    · exact .big
    · exact dat (.tup [.str "p1", .lst [.str "q2"]]) (.tup (u6 _ _ et) (.cons (.str _) (.cons (.lst (u7 _ _ eq) (.cons (.str _) .nil)) .nil))) (by decide) ⟨fine (by decide +kernel), ⟨fine (by decide +kernel), trivial⟩, trivial⟩ (by decide +kernel) (by decide)
    · exact dat (deepD 11) (dv.same u5) (by decide) (by simp [deepD, D.fit, D.fits]) (by decide +kernel) (by decide +kernel)
    · exact .err ((ex.same u4).hide eb4)
    · exact .prt ((hP.same u1).hide eb4)
  refine ⟨_, rfl, tk_go 20 rfl rfl hbz (by omega) (by decide) (by decide) fun d H' hd k bx rest => ?_⟩
  have nb : pz ≠ b := fun z => by
    subst z
    rw [ez] at eb4
    cases eb4
  obtain ⟨v, hv⟩ : ∃ v, ([V.non, V.bl true, V.bl false, V.int 0, V.int 7, V.str "", V.str "due p1", V.ref p7, V.ref p8, V.ref p9, V.ref pa, V.ref pb, V.ref pc, V.ref pe, V.ref pg] ++ [V.int big, V.ref pt, vd, V.ref ae, V.ref px] : List V)[d]? = some v := ⟨_, List.getElem?_eq_getElem (show d < (([V.non, V.bl true, V.bl false, V.int 0, V.int 7, V.str "", V.str "due p1", V.ref p7, V.ref p8, V.ref p9, V.ref pa, V.ref pb, V.ref pc, V.ref pe, V.ref pg] ++ [V.int big, V.ref pt, vd, V.ref ae, V.ref px] : List V)).length from hd)⟩
  refine ⟨pz, _, _, v, rfl, rfl, SqL.of ((rest pz nb).trans ez), atI_nat hv, ?_⟩
  exact q v H' (Kp.trans (Kp.of v7) k) bx ((all v (List.mem_of_getElem? hv)).same (Kp.hid k))

end
end NH
set_option maxHeartbeats 4000000
namespace NH
open PySem PySem.Spec PyProof.Rows L2 TL
section
variable {P : Program} {w : World} {K : PySem.W.Frag} {mg : Str → Option Value} {base : Heap} {ca : Nat → Addr} {NE C fI fH fE : Addr}
/-- where the errors are tracked, the entry does not matter -/
theorem CalleeE.cold {k : Nat} {x : Str} {ps : List Str} {sp : SpS} {sp' : Sp} (c : CalleeE P w K mg base k x ps sp) (l : ∀ vs H Q E, sp' vs H Q E → vs.length = ps.length) (h : ∀ s ou vs H Q E, sp' vs H Q E → sp s ou vs H Q E) : CalleeG P w K mg base k x ps sp' := by
  obtain ⟨f, fd, h1, h2, h3, F⟩ := c.ex
  exact ⟨f, fd, h1, h2, h3, l, fun A ou s H ar us vs Q E hg hr e0 b r q => F.goes A ou s H ar us vs Q E hg hr e0 b r (h s ou vs H Q E q)⟩
def spIsG (ca : Nat → Addr) : Sp := fun vs H Q _ => ∃ (a : Addr) (k : Nat) (x : Option (Str × V)), vs = [.ref a, .int (k : Int)] ∧ ErAt H a (ca k) x ∧ k < 49 ∧ ∀ H', Same H H' → Q (.bl true) H'
def spKeptG (ca : Nat → Addr) : Sp := fun vs H Q _ => ∃ (a : Addr) (k : Nat) (v : V), vs = [.ref a] ∧ ErAt H a (ca k) (some (efl k, v)) ∧ k < 44 ∧ ∀ H', Same H H' → Q v H'
theorem is_cold (c : CalleeE P w K mg base 2 "_law_is" ["e", "spot"] (spIs ca)) : CalleeG P w K mg base 2 "_law_is" ["e", "spot"] (spIsG ca) := c.cold (fun vs H Q E h => by obtain ⟨a, k, x, rfl, _⟩ := h; rfl) fun s ou vs H Q E ⟨a, k, x, e, h, r⟩ => ⟨a, k, x, e, h.s, r⟩
theorem kept_cold (c : CalleeE P w K mg base 1 "_law_kept" ["e"] (spKept ca)) : CalleeG P w K mg base 1 "_law_kept" ["e"] (spKeptG ca) := c.cold (fun vs H Q E h => by obtain ⟨a, k, x, rfl, _⟩ := h; rfl) fun s ou vs H Q E ⟨a, k, x, e, h, r⟩ => ⟨a, k, x, e, h.s, r⟩
theorem Ers.at {H : Hp} {v : V} : ∀ {as : List Addr} {is : List Nat} {i k : Nat}, Ers ca H v as is → is[i]? = some k → ∃ a, as[i]? = some a ∧ ErAt H a (ca k) (some (efl k, v))
  | _, _, _, _, .nil, e => by simp at e
  | _, _, 0, _, .cons h _, e => by simp at e; subst e; exact ⟨_, rfl, h⟩
  | _, _, i + 1, k, .cons _ t, e => by
    obtain ⟨a, h1, h2⟩ := Ers.at (i := i) (k := k) t (by simpa using e)
    exact ⟨a, by simpa using h1, h2⟩
theorem Ers.held {H : Hp} {v : V} : ∀ {as : List Addr} {is : List Nat} {a : Addr}, Ers ca H v as is → a ∈ as → ∃ o, H a = some o
  | _, _, _, .nil, h => by simp at h
  | _, _, _, .cons h t, m => by
    rcases List.mem_cons.mp m with rfl | m
    · obtain ⟨φ, e⟩ := h.at; exact ⟨_, e⟩
    · exact Ers.held t m
theorem Bare.at {H : Hp} : ∀ {as : List Addr} {is : List Nat} {i k : Nat}, Paired (fun a i => ErAt H a (ca i) none) as is → is[i]? = some k → ∃ a, as[i]? = some a ∧ ErAt H a (ca k) none
  | _, _, _, _, .nil, e => by simp at e
  | _, _, 0, _, .cons h _, e => by simp at e; subst e; exact ⟨_, rfl, h⟩
  | _, _, i + 1, k, .cons _ t, e => by
    obtain ⟨a, h1, h2⟩ := Bare.at (i := i) (k := k) t (by simpa using e)
    exact ⟨a, by simpa using h1, h2⟩
theorem bares_same {H H' : Hp} (s : Same H H') : ∀ {as : List Addr} {is : List Nat}, Paired (fun a i => ErAt H a (ca i) none) as is → Paired (fun a i => ErAt H' a (ca i) none) as is
  | _, _, .nil => .nil
  | _, _, .cons h r => .cons (h.same s) (bares_same s r)
theorem bare_two {H : Hp} {ab : List Addr} (h : Paired (fun a i => ErAt H a (ca i) none) ab [44, 45, 46, 47, 48]) (nd : ab.Nodup) (k : Nat) (hk : k < 5) : ∃ a c j, atI (ab.map V.ref) (k : Int) = some (.ref a) ∧ atI (ab.map V.ref) ((k : Int) - 1) = some (.ref c) ∧ a ≠ c ∧ j < 49 ∧ ErAt H a (ca (44 + k)) none ∧ ErAt H c (ca j) none := by
  cases h with
  | cons h0 h => cases h with
    | cons h1 h => cases h with
      | cons h2 h => cases h with
        | cons h3 h => cases h with
          | cons h4 h =>
            cases h
            simp only [List.nodup_cons, List.mem_cons, List.not_mem_nil, or_false, not_or] at nd
            match k, hk with
            | 0, _ => exact ⟨_, _, 48, rfl, rfl, nd.1.2.2.2, by decide, h0, h4⟩
            | 1, _ => exact ⟨_, _, 44, rfl, rfl, Ne.symm nd.1.1, by decide, h1, h0⟩
            | 2, _ => exact ⟨_, _, 45, rfl, rfl, Ne.symm nd.2.1.1, by decide, h2, h1⟩
            | 3, _ => exact ⟨_, _, 46, rfl, rfl, Ne.symm nd.2.2.1.1, by decide, h3, h2⟩
            | 4, _ => exact ⟨_, _, 47, rfl, rfl, Ne.symm nd.2.2.2.1, by decide, h4, h3⟩
theorem five_at : ∀ k : Nat, k < 5 → ([44, 45, 46, 47, 48] : List Nat)[k]? = some (44 + k) := by decide
theorem Ers.nat {H : Hp} {v : V} {as : List Addr} {i : Nat} (h : Ers ca H v as (List.range 44)) (hi : i < 44) : ∃ a, atI (as.map V.ref) (i : Int) = some (.ref a) ∧ a ∈ as ∧ ErAt H a (ca i) (some (efl i, v)) := by
  obtain ⟨a, h1, h2⟩ := h.at (i := i) (k := i) (List.getElem?_range hi)
  exact ⟨a, atI_nat (by rw [List.getElem?_map, h1]; rfl), List.mem_of_getElem? h1, h2⟩
theorem Ers.before {H : Hp} {v : V} {as : List Addr} {i : Nat} (h : Ers ca H v as (List.range 44)) (hi : i < 44) : ∃ a j, atI (as.map V.ref) ((i : Int) - 1) = some (.ref a) ∧ a ∈ as ∧ j < 44 ∧ ErAt H a (ca j) (some (efl j, v)) := by
  match i, hi with
  | i + 1, hi =>
    obtain ⟨a, h1, h2, h3⟩ := h.nat (i := i) (by omega)
    refine ⟨a, i, ?_, h2, by omega, h3⟩
    rw [show ((i + 1 : Nat) : Int) - 1 = (i : Int) by omega]
    exact h1
  | 0, _ =>
    have l : as.length = 44 := by rw [h.len]; simp
    obtain ⟨a, h1, h2⟩ := h.at (i := 43) (k := 43) (List.getElem?_range (by decide))
    refine ⟨a, 43, ?_, List.mem_of_getElem? h1, by decide, h2⟩
    have e : as.map V.ref = (as.map V.ref).dropLast ++ [V.ref a] := by
      have ne : as.map V.ref ≠ [] := fun z => by have y := congrArg List.length z; rw [List.length_map, l] at y; cases y
      rw [← List.dropLast_concat_getLast ne]
      congr 1
      · simp
      · rw [List.getLast_eq_getElem]
        simp only [List.length_map, l, List.getElem_map]
        congr 2
        exact (List.getElem?_eq_some_iff.mp h1).2
    rw [e]
    exact atI_last _ _
theorem op_eqErrK {X : Cx} (hK : X.K = K) (hu : X.A.units + 1 < cLine) : OpR X (compareOp .Eq) (rErr K false) := by subst hK; exact op_eqErr hu
theorem op_neErrK {X : Cx} (hK : X.K = K) (hu : X.A.units + 1 < cLine) : OpR X (compareOp .NotEq) (rErr K true) := by subst hK; exact op_neErr hu
theorem ix_listK {X : Cx} (hK : X.K = K) : IxR X (rIxL K) := by subst hK; exact ix_list
abbrev s_law_ones_right : Stmt := top 82
theorem sc_law_ones_right : FnScope ["first", "last", "lists", "bare", "spot", "turn", "e", "other", "k"] ["first", "last"] (defScope s_law_ones_right) := ⟨rfl, rfl, rfl, by decide +kernel, rfl, by decide +kernel, by decide +kernel⟩
def spOnes (ca : Nat → Addr) (C : Addr) : Sp := fun vs H Q _ => ∃ (u v : V), vs = [u, v] ∧ Thing ca C H u ∧ Thing ca C H v ∧ ∀ H', Same H H' → Q (.bl true) H'
theorem ok_law_ones_right (E : Errs P w K mg base ca NE) (G : Bl mg) (cPl : Callee P w K mg base 3 "_law_by_place" ["thing"] (spGot ca)) (cNm : Callee P w K mg base 3 "_law_by_name" ["thing"] (spGot ca)) (cBa : Callee P w K mg base 1 "_law_bare" [] (spBare ca))
    (cIsG : CalleeG P w K mg base 2 "_law_is" ["e", "spot"] (spIsG ca)) (cKeG : CalleeG P w K mg base 1 "_law_kept" ["e"] (spKeptG ca)) (cSa : CalleeG P w K mg base 3 "_law_same" ["kept", "thing"] (spSame ca C))
    (DA : DefAt K mg "_law_ones_right" s_law_ones_right) : CalleeG P w K mg base 4 "_law_ones_right" ["first", "last"] (spOnes ca C) := by
  refine calleeG DA sc_law_ones_right (fun vs H Q E h => by obtain ⟨u, v, rfl, _⟩ := h; rfl) (fun _ _ _ _ _ _ us hl => match us, hl with | [_, _], _ => rfl) fun f cdv A outer s H vs Q E0 hgu hr h => ?_
  obtain ⟨u, v, rfl, hu, hv, q⟩ := h
  have hu1 : (A.deeper (envOfC "_law_ones_right" (defScope s_law_ones_right) s.heap.objs.size f cdv)).units + 1 < cLine := by have := hr.units; omega
  refine ⟨_, (pss_cons (ps_asg (pe_tup (pa_cons (pe_lst (pa_cons (pe_cal cPl hr (by decide) (pa_cons (pv 0) pa_nil)) (pa_cons (pe_cal cNm hr (by decide) (pa_cons (pv 1) pa_nil)) pa_nil))) (pa_cons (pe_cal0 cBa hr (by decide)) pa_nil))) (pg_tup (by rfl) (pgs_cons (pg_name (i := 2) sc_law_ones_right.nd rfl (Or.inl rfl)) (pgs_cons (pg_name (i := 3) sc_law_ones_right.nd rfl (Or.inr rfl)) pgs_nil))))
    (pss_cons (ps_for PassesOwn.never rfl (pi_range1 (by rfl) G.b_range (pa_cons pe_int pa_nil)) (pg_name (i := 4) sc_law_ones_right.nd rfl (Or.inl rfl)) (pss_one (ps_for PassesOwn.never rfl (pi_range1 (by rfl) G.b_range (pa_cons pe_int pa_nil)) (pg_name (i := 5) sc_law_ones_right.nd rfl (Or.inl rfl)) (pss_cons (ps_par (i := 6) (j := 7) (by rfl) sc_law_ones_right.nd rfl rfl (by decide) rfl rfl (pa_cons (pe_ix ix_list (pe_ix ix_list (pv 2) (pv 5) (fun _ _ => rfl)) (pv 4) (fun _ _ => rfl)) (pa_cons (pe_ix ix_list (pe_ix ix_list (pv 2) (pe_op op_sub pe_int (pv 5)) (fun _ _ => rfl)) (pe_op op_sub (pv 4) pe_int) (fun _ _ => rfl)) pa_nil)) (by rfl))
    (pss_cons (ps_if (PW.pt (pw_or (pt_not (pt_val (pe_calG cIsG hgu hr (by decide) (pa_cons (pv 6) (pa_cons (pv 4) pa_nil))))) (pw_or1 (pt_not (pt_val (pe_calG cSa hgu hr (by decide) (pa_cons (pe_calG cKeG hgu hr (by decide) (pa_cons (pv 6) pa_nil)) (pa_cons (pe_ix ix_list (pe_lst (pa_cons (pv 0) (pa_cons (pv 1) pa_nil))) (pv 5) (fun _ _ => rfl)) pa_nil)))))))) (pss_one (ps_ret pe_bl)) pss_nil)
    (pss_one (ps_if (PW.pt (pw_or (pt_cmpR (op_eqErrK (K := K) rfl hu1) (pv 6) (pv 7) (nomark _)) (pw_or (pt_not (pt_cmpR (op_neErrK (K := K) rfl hu1) (pv 6) (pv 7) (nomark _))) (pw_or1 (pt_cmpR (op_eqErrK (K := K) rfl hu1) (pv 6) (pe_ix ix_list (pv 3) (pe_op op_mod (pe_callTy call_int1 (by rfl) G.b_int (by decide +kernel) (pa_cons (pv 4) pa_nil)) pe_int) (fun _ _ => rfl)) (nomark _)))))) (pss_one (ps_ret pe_bl)) pss_nil)))))))
    (pss_one (ps_ret (pe_cmpR (op_eqD hr.units) (pe_lc (own := [("k", 8)]) (g := gName 8) rfl sc_law_ones_right.nd (pi_range1 (by rfl) G.b_range (pa_cons pe_int pa_nil)) (blkOk_by (N := ["first", "last", "lists", "bare", "spot", "turn", "e", "other", "k"]) (sc := defScope s_law_ones_right) (by decide +kernel)) (fun _ _ _ _ _ => (pg_name (i := 8) sc_law_ones_right.nd rfl (Or.inl rfl))) (fun _ _ _ _ _ => (pts_one (PW.pt (pw_or (pt_not (pt_val (pe_calG cIsG hgu hr (by decide) (pa_cons (pe_ix (ix_listK (K := K) rfl) (pv 3) (pv 8) (fun _ _ => rfl)) (pa_cons (pe_op op_add pe_int (pv 8)) pa_nil))))) (pw_or1 (pt_cmpR (op_eqErrK (K := K) rfl hu1) (pe_ix (ix_listK (K := K) rfl) (pv 3) (pv 8) (fun _ _ => rfl)) (pe_ix (ix_listK (K := K) rfl) (pv 3) (pe_op op_sub (pv 8) pe_int) (fun _ _ => rfl)) (nomark _))))))) (fun _ _ _ _ _ => (pv 8))) (pe_lst pa_nil) (nomark _)))))), ?_⟩
  have sz : ∀ {k : Nat}, k ≤ 100 → k ≤ sizeLine := fun h => by rw [sizeLine_eq]; omega
  refine ⟨_, rfl, u, rfl, fun p1 H1 g1 => ?_⟩
  refine ⟨_, rfl, v, rfl, fun p2 H2 g2 => ?_⟩
  refine ⟨sz (by show 2 ≤ 100; decide), fun pL hL => ?_⟩
  obtain ⟨w3, e3⟩ := nw rfl hL
  generalize upd H2 pL _ = H3 at w3 e3 ⊢
  refine ⟨rfl, fun pb H4 g4 => ?_⟩
  refine ⟨sz (by show 2 ≤ 100; decide), fun pt ht => ?_⟩
  obtain ⟨w5, e5⟩ := nw rfl ht
  generalize upd H4 pt _ = H5 at w5 e5 ⊢
  refine ⟨pt, _, rfl, SqT.of e5, rfl, _, _, rfl, _, _, rfl, rfl, ?_⟩
  obtain ⟨s1, as1, l1, er1, n1⟩ := g1
  obtain ⟨s2, as2, l2, er2, n2⟩ := g2
  obtain ⟨s4, ab, l4, er4, nd4, n4⟩ := g4
  have s35 := s4.trans w5
  have s25 := w3.trans s35
  have s15 := s2.trans s25
  have s05 := s1.trans s15
  have d12 : ∀ a ∈ as1, ∀ c ∈ as2, a ≠ c := fun a ha c hc => by
    obtain ⟨o, e⟩ := er1.held ha
    exact ne_of_none e (n2 c hc)
  have db : ∀ a, (∃ o, H3 a = some o) → ∀ c ∈ ab, a ≠ c := fun a ⟨o, e⟩ c hc => ne_of_none e (n4 c hc)
  have E1 := er1.same s15
  have E2 := er2.same s25
  have EB := bares_same w5 er4
  have P1 := s15 _ _ l1
  have P2 := s25 _ _ l2
  have PL := s35 _ _ e3
  have PB := w5 _ _ l4
  have b1 : ∀ a ∈ as1, ∀ c ∈ ab, a ≠ c := fun a ha => db a (let ⟨o, e⟩ := er1.held ha; ⟨o, (s2.trans w3) _ _ e⟩)
  have b2 : ∀ a ∈ as2, ∀ c ∈ ab, a ≠ c := fun a ha => db a (let ⟨o, e⟩ := er2.held ha; ⟨o, w3 _ _ e⟩)
  refine ⟨44, rfl, by decide, by decide, ?_⟩
  refine for_range (lo := 0) (n := 44) (fun i σ H' => ∃ x4 x5 x6 x7, σ = [some u, some v, some (.ref pL), some (.ref pb), x4, x5, x6, x7, none] ∧ Same H5 H') ⟨_, _, _, _, rfl, Same.refl _⟩ ?_ ?_
  · rintro i σ H6 hi ⟨x4, x5, x6, x7, rfl, s6⟩
    show gName 4 (.int (0 + (i : Int))) _ _ _
    rw [Int.zero_add]
    refine ⟨2, rfl, by decide, by decide, ?_⟩
    refine for_range (lo := 0) (n := 2) (fun t σ H' => ∃ x5 x6 x7, σ = [some u, some v, some (.ref pL), some (.ref pb), some (.int (i : Int)), x5, x6, x7, none] ∧ Same H5 H') ⟨_, _, _, rfl, s6⟩ ?_ ?_
    · rintro t σ H7 ht ⟨x5, x6, x7, rfl, s7⟩
      show gName 5 (.int (0 + (t : Int))) _ _ _
      rw [Int.zero_add]
      obtain ⟨pa, po, va, vo, asa, aso, i1, i2, i3, Tv, q1, q2, q3, q4, q5, q6⟩ : ∃ (pa po : Addr) (va vo : V) (asa aso : List Addr), atI ([.ref p1, .ref p2] : List V) (t : Int) = some (.ref pa) ∧ atI ([.ref p1, .ref p2] : List V) (1 - (t : Int)) = some (.ref po) ∧ atI ([u, v] : List V) (t : Int) = some va ∧ Thing ca C H va ∧
          H5 pa = some (.lst (asa.map V.ref)) ∧ H5 po = some (.lst (aso.map V.ref)) ∧ Ers ca H5 va asa (List.range 44) ∧ Ers ca H5 vo aso (List.range 44) ∧ (∀ a ∈ asa, ∀ c ∈ aso, a ≠ c) ∧ (∀ a ∈ asa, ∀ c ∈ ab, a ≠ c) := by
        match t, ht with
        | 0, _ => exact ⟨p1, p2, u, v, as1, as2, rfl, rfl, rfl, hu, P1, P2, E1, E2, d12, b1⟩
        | 1, _ => exact ⟨p2, p1, v, u, as2, as1, rfl, rfl, rfl, hv, P2, P1, E2, E1, fun a ha c hc => Ne.symm (d12 c hc a ha), b2⟩
      obtain ⟨a, a1, a2, a3⟩ := q3.nat hi
      obtain ⟨c, j, c1, c2, c3, c4⟩ := q4.before hi
      refine ⟨_, rfl, _, rfl, pL, _, _, _, rfl, rfl, SqL.of (s7 _ _ PL), i1, ?_⟩
      refine ⟨_, rfl, pa, _, _, _, rfl, rfl, SqL.of (s7 _ _ q1), a1, ?_⟩
      refine ⟨_, rfl, _, rfl, 1, (t : Int), rfl, rfl, pL, _, _, _, rfl, rfl, SqL.of (s7 _ _ PL), i2, ?_⟩
      refine ⟨_, rfl, (i : Int), 1, rfl, rfl, po, _, _, _, rfl, rfl, SqL.of (s7 _ _ q2), c1, ?_⟩
      refine ⟨_, _, rfl, ?_⟩
      have i49 : i < 49 := by omega
      have j49 : j < 49 := by omega
      refine ⟨_, rfl, _, rfl, a, i, _, rfl, a3.same s7, i49, fun H8 s8 => ⟨_, rfl, iteF ?_⟩⟩
      have s58 := s7.trans s8
      refine ⟨_, rfl, a, i, va, rfl, a3.same s58, hi, fun H9 s9 => ?_⟩
      have s59 := s58.trans s9
      refine ⟨_, rfl, _, rfl, sz (by show 2 ≤ 100; decide), fun pq hq => ?_⟩
      obtain ⟨w10, e10⟩ := nw rfl hq
      generalize upd H9 pq _ = H10 at w10 e10 ⊢
      have s510 := s59.trans w10
      refine ⟨_, rfl, pq, _, _, _, rfl, rfl, SqL.of e10, i3, va, rfl, Tv.same (s05.trans s510), fun H11 s11 => ⟨_, rfl, iteF ?_⟩⟩
      have s511 := s510.trans s11
      have kd := E.all i i49
      have kj := E.all j j49
      have hs : ca i ≠ ca j → PySem.W.subIn K (.ref (ca j)) (.ref (ca i)) = some false := fun n => E.sub i j i49 j49 fun z => n (by rw [z])
      refine ⟨_, rfl, _, rfl, a, c, ca i, ca j, _, _, rfl, rfl, q5 a a2 c c2, a3.same s511, c4.same s511, kd.eq, kj.eq, hs, _, rfl, iteF ?_⟩
      refine ⟨_, rfl, _, rfl, a, c, ca i, ca j, _, _, rfl, rfl, q5 a a2 c c2, a3.same s511, c4.same s511, kd.eq, kj.eq, hs, _, rfl, iteF ?_⟩
      obtain ⟨cb, k1, k2⟩ := Bare.at EB (five_at (i % 5) (Nat.mod_lt _ (by decide)))
      have k49 : 44 + i % 5 < 49 := by have := Nat.mod_lt i (show 0 < 5 by decide); omega
      have at5 : atI (ab.map V.ref) ((i : Int) % 5) = some (.ref cb) := by
        rw [show ((i : Int) % 5) = ((i % 5 : Nat) : Int) by omega]
        exact atI_nat (by rw [List.getElem?_map, k1]; rfl)
      have kb := E.all _ k49
      have hs5 : ca i ≠ ca (44 + i % 5) → PySem.W.subIn K (.ref (ca (44 + i % 5))) (.ref (ca i)) = some false := fun n => E.sub i _ i49 k49 fun z => n (by rw [← z])
      refine ⟨_, rfl, _, rfl, _, rfl, .inl ⟨(i : Int), rfl, (i : Int), 5, rfl, rfl, by show (0 : Int) < 5; decide, pb, _, _, _, rfl, rfl, SqL.of (s511 _ _ PB), at5, ?_⟩⟩
      refine ⟨a, cb, ca i, ca (44 + i % 5), _, _, rfl, rfl, q6 a a2 cb (List.mem_of_getElem? k1), a3.same s511, k2.same s511, kd.eq, kb.eq, hs5, _, rfl, iteF ?_⟩
      exact ⟨_, _, _, rfl, s511⟩
    · rintro σ H7 ⟨x5, x6, x7, rfl, s7⟩
      exact ⟨_, _, _, _, rfl, s7⟩
  · rintro σ H6 ⟨x4, x5, x6, x7, rfl, s6⟩
    refine ⟨5, rfl, by decide, by decide, fun D hD => ?_⟩
    refine lc_range (lo := 0) (n := 5) (fun k H' => Same H6 H' ∧ H' D = some (.lst [])) ⟨same_new hD, upd_same⟩ ?_ ?_
    · rintro k H7 hk ⟨s7, d7⟩
      refine ⟨rfl, ?_⟩
      obtain ⟨a, c, j, t1, t2, t3, t4, t5, t6⟩ := bare_two EB nd4 k hk
      have s57 := s6.trans s7
      have k49 : 44 + k < 49 := by omega
      have kd := E.all _ k49
      have kj := E.all j t4
      have hs : ca (44 + k) ≠ ca j → PySem.W.subIn K (.ref (ca j)) (.ref (ca (44 + k))) = some false := fun n => E.sub _ j k49 t4 fun z => n (by rw [z])
      refine ⟨_, rfl, _, rfl, pb, _, _, _, rfl, rfl, SqL.of (s57 _ _ PB), by rw [Int.zero_add]; exact t1, ?_⟩
      refine ⟨_, rfl, 44, _, rfl, rfl, a, 44 + k, none, by rw [Int.zero_add]; rfl, t5.same s57, k49, fun H8 s8 => ⟨_, rfl, iteF ?_⟩⟩
      have s58 := s57.trans s8
      refine ⟨_, rfl, _, rfl, pb, _, _, _, rfl, rfl, SqL.of (s58 _ _ PB), by rw [Int.zero_add]; exact t1, ?_⟩
      refine ⟨_, rfl, _, rfl, _, 1, rfl, rfl, pb, _, _, _, rfl, rfl, SqL.of (s58 _ _ PB), by rw [Int.zero_add]; exact t2, ?_⟩
      exact ⟨a, c, _, _, _, _, rfl, rfl, t3, t5.same s58, t6.same s58, kd.eq, kj.eq, hs, _, rfl, iteF ⟨s7.trans s8, s8 _ _ d7⟩⟩
    · rintro H7 ⟨s7, d7⟩
      refine ⟨sz (by decide), fun pz hz => ?_⟩
      have w8 := same_new (o := .lst []) hz
      have e8 : PyData.eqv (.list []) (.list []) = true := by decide +kernel
      refine ⟨.list [], .list [], .lst (SqL.of (w8 _ _ d7)) .nil, .lst (SqL.of upd_same) .nil, rfl, rfl, ?_⟩
      rw [e8]
      exact q _ ((s05.trans (s6.trans s7)).trans w8)
end
end NH
set_option maxHeartbeats 4000000
namespace NH
open PySem PySem.Spec PyProof.Rows L2 TL
section
variable {P : Program} {w : World} {K : PySem.W.Frag} {mg : Str → Option Value} {base : Heap} {ca : Nat → Addr} {NE C fI fH fE : Addr}
/-- != of two lists of data, or of two dicts of the same entries -/
def rNeX (K : PySem.W.Frag) : R2 := fun x y H Q => rNeD K x y H Q ∨ rNeDA x y H Q
theorem op_neX {X : Cx} (hK : X.K = K) (hu : X.A.units + 64 < cLine) : OpR X (compareOp .NotEq) (rNeX K) := by
  subst hK
  intro pins s σ H x y v u Q I rx ry h
  rcases h with h | h
  · exact op_neD hu pins s σ H x y v u Q I rx ry h
  · exact op_ne_dictA (by omega) pins s σ H x y v u Q I rx ry h
abbrev s_law_grown_right : Stmt := top 83
theorem sc_law_grown_right : FnScope ["first", "grown", "table", "kept", "due", "k"] ["first"] (defScope s_law_grown_right) := ⟨rfl, rfl, rfl, by decide +kernel, rfl, by decide +kernel, by decide +kernel⟩
theorem erAt_put {H : Hp} {a C b : Addr} {x : Option (Str × V)} {o o2 : HO} (h : ErAt H a C x) (hb : H b = some o) (n : (∃ xs, o = .lst xs) ∨ ∃ kvs, o = .dK kvs) : ErAt (upd H b o2) a C x := by
  have ne : ∀ {c : Addr} {u : HO}, H c = some u → ((∃ φ, u = .ext φ) ∨ ∃ fs, u = .xd fs) → upd H b o2 c = some u := fun {c u} e k => by
    refine (upd_ne fun z => ?_).trans e
    subst z
    rw [hb] at e; cases e
    rcases n with ⟨_, rfl⟩ | ⟨_, rfl⟩ <;> rcases k with ⟨_, z⟩ | ⟨_, z⟩ <;> cases z
  have one : ∀ {d}, ExAt H a C d → ExAt (upd H b o2) a C d := fun ⟨φ, e, q⟩ => ⟨φ, ne e (.inl ⟨_, rfl⟩), q⟩
  match x, h with
  | none, h => exact one h
  | some (f, v), ⟨dd, h1, h2⟩ => exact ⟨dd, one h1, h2.imp (fun e => ne e (.inl ⟨_, rfl⟩)) fun e => ne e (.inr ⟨_, rfl⟩)⟩
theorem Ers.nth {H : Hp} {v : V} {as : List Addr} {i : Nat} (h : Ers ca H v as (List.range 44)) (hi : i < 44) : ∃ a, as[i]? = some a ∧ ErAt H a (ca i) (some (efl i, v)) := h.at (i := i) (k := i) (List.getElem?_range hi)
theorem four_at {as1 as2 as3 as4 : List Addr} (l1 : as1.length = 44) (l2 : as2.length = 44) (l3 : as3.length = 44) (l4 : as4.length = 44) (i : Nat) :
    (((as1.map V.ref ++ as2.map V.ref) ++ as3.map V.ref) ++ as4.map V.ref)[i]? = (if i < 44 then as1[i]? else if i < 88 then as2[i - 44]? else if i < 132 then as3[i - 88]? else as4[i - 132]?).map V.ref := by
  rw [List.getElem?_append, List.getElem?_append, List.getElem?_append]
  simp only [List.length_append, List.length_map, l1, l2, l3, List.getElem?_map]
  by_cases h1 : i < 44
  · simp [h1, show i < 88 by omega, show i < 132 by omega]
  by_cases h2 : i < 88
  · simp [h1, h2, show i < 132 by omega]
  by_cases h3 : i < 132
  · simp [h1, h2, h3]
  · simp [h1, h2, h3]
/-- the k-th of the four rows: which error, and what it keeps -/
theorem four_er {H : Hp} {as1 as2 as3 as4 : List Addr} {u v : V} (h1 : Ers ca H u as1 (List.range 44)) (h2 : Ers ca H u as2 (List.range 44)) (h3 : Ers ca H v as3 (List.range 44)) (h4 : Ers ca H v as4 (List.range 44)) (i : Nat) (hi : i < 176) :
    ∃ a k, atI (((as1.map V.ref ++ as2.map V.ref) ++ as3.map V.ref) ++ as4.map V.ref) (i : Int) = some (.ref a) ∧ k < 44 ∧ ErAt H a (ca k) (some (efl k, if i < 88 then u else v)) := by
  have ln : ∀ {w : V} {as : List Addr}, Ers ca H w as (List.range 44) → as.length = 44 := fun h => by rw [h.len]; simp
  have f := four_at (ln h1) (ln h2) (ln h3) (ln h4) i
  by_cases c1 : i < 44
  · obtain ⟨a, e, x⟩ := h1.nth c1
    exact ⟨a, i, atI_nat (by rw [f, if_pos c1, e]; rfl), c1, by rw [if_pos (by omega)]; exact x⟩
  by_cases c2 : i < 88
  · obtain ⟨a, e, x⟩ := h2.nth (i := i - 44) (by omega)
    exact ⟨a, i - 44, atI_nat (by rw [f, if_neg c1, if_pos c2, e]; rfl), by omega, by rw [if_pos c2]; exact x⟩
  by_cases c3 : i < 132
  · obtain ⟨a, e, x⟩ := h3.nth (i := i - 88) (by omega)
    exact ⟨a, i - 88, atI_nat (by rw [f, if_neg c1, if_neg c2, if_pos c3, e]; rfl), by omega, by rw [if_neg c2]; exact x⟩
  · obtain ⟨a, e, x⟩ := h4.nth (i := i - 132) (by omega)
    exact ⟨a, i - 132, atI_nat (by rw [f, if_neg c1, if_neg c2, if_neg c3, e]; rfl), by omega, by rw [if_neg c2]; exact x⟩
def ent (n : Nat) : List (Key × V) := [(Sum.inr "a", .int (n : Int)), (Sum.inr "more", .int 1)]
theorem ent_put (n : Nat) : putK [((Sum.inr "a" : Key), V.int (n : Int))] (Sum.inr "more" : Key) (.int 1) = ent n := by
  unfold ent putK
  have n1 : ¬ ((Sum.inr "a" : Key) = (Sum.inr "more" : Key)) := by decide +kernel
  simp [n1]
theorem ent_eq (n : Nat) : ∀ p ∈ ent n, valV (ent n) p.1 = some p.2 ∧ flatB p.2 = true := by
  intro p hp
  unfold ent at hp
  rcases List.mem_cons.mp hp with rfl | hp
  · exact ⟨by simp [ent, valV], rfl⟩
  rcases List.mem_cons.mp hp with rfl | hp
  · refine ⟨?_, rfl⟩
    have n1 : ¬ ((Sum.inr "a" : Key) = (Sum.inr "more" : Key)) := by decide +kernel
    simp [ent, valV, n1]
  · simp at hp
def spGrown : Sp := fun vs H Q _ => ∃ (n : Nat), vs = [.int (n : Int)] ∧ ∀ H', Same H H' → Q (.bl true) H'
theorem ok_law_grown_right (E : Errs P w K mg base ca NE) (G : Bl mg) (cPl : Callee P w K mg base 3 "_law_by_place" ["thing"] (spGot ca)) (cNm : Callee P w K mg base 3 "_law_by_name" ["thing"] (spGot ca))
    (cKeG : CalleeG P w K mg base 1 "_law_kept" ["e"] (spKeptG ca)) (DA : DefAt K mg "_law_grown_right" s_law_grown_right) : CalleeG P w K mg base 4 "_law_grown_right" ["first"] spGrown := by
  refine calleeG DA sc_law_grown_right (fun vs H Q E h => by obtain ⟨u, rfl, _⟩ := h; rfl) (fun _ _ _ _ _ _ us hl => match us, hl with | [_], _ => rfl) fun f cdv A outer s H vs Q E0 hgu hr h => ?_
  obtain ⟨n, rfl, q⟩ := h
  have hu1 : (A.deeper (envOfC "_law_grown_right" (defScope s_law_grown_right) s.heap.objs.size f cdv)).units + 1 < cLine := by have := hr.units; omega
  refine ⟨_, (pss_cons (ps_par (i := 1) (j := 2) (by rfl) sc_law_grown_right.nd rfl rfl (by decide) rfl rfl (pa_cons (pe_lst (pa_cons (pv 0) pa_nil)) (pa_cons (pe_disp (pps_cons pe_str (pv 0) pps_nil) (by rfl) (by rfl) (by simp) (by decide)) pa_nil)) (by rfl))
    (pss_cons (ps_set (i := 3) sc_law_grown_right.nd rfl (Or.inr rfl) (pe_op op_cat (pe_op op_cat (pe_op op_cat (pe_cal cPl hr (by decide) (pa_cons (pv 1) pa_nil)) (pe_cal cNm hr (by decide) (pa_cons (pv 1) pa_nil))) (pe_cal cPl hr (by decide) (pa_cons (pv 2) pa_nil))) (pe_cal cNm hr (by decide) (pa_cons (pv 2) pa_nil))))
    (pss_cons (ps_expr (pe_bm PySem.F.plainAttrs_list PySem.F.slot_list_append PySem.F.type_list_append mt_append (pv 1) (pa_cons pe_str pa_nil)))
    (pss_cons (ps_asg pe_int (pg_sub (pv 2) pe_str (set_dict hu1)))
    (pss_cons (ps_set (i := 4) sc_law_grown_right.nd rfl (Or.inr rfl) (pe_lst (pa_cons (pe_lst (pa_cons (pv 0) (pa_cons pe_str pa_nil))) (pa_cons (pe_disp (pps_cons pe_str (pv 0) (pps_cons pe_str pe_int pps_nil)) (by rfl) (by rfl) (by simp) (by decide)) pa_nil))))
    (pss_one (ps_ret (pe_cmpR (op_eqD hr.units) (pe_lc (own := [("k", 5)]) (g := gName 5) rfl sc_law_grown_right.nd (pi_range1 (by rfl) G.b_range (pa_cons pe_int pa_nil)) (blkOk_by (N := ["first", "grown", "table", "kept", "due", "k"]) (sc := defScope s_law_grown_right) (by decide +kernel)) (fun _ _ _ _ _ => (pg_name (i := 5) sc_law_grown_right.nd rfl (Or.inl rfl))) (fun _ _ _ _ _ => (pts_one (pt_cmpR (op_neX (K := K) rfl hr.units) (pe_calG cKeG hgu hr (by decide) (pa_cons (pe_ix (ix_listK (K := K) rfl) (pv 3) (pv 5) (fun _ _ => rfl)) pa_nil)) (pe_ix (ix_listK (K := K) rfl) (pv 4) (pe_op op_fdiv (pv 5) pe_int) (fun _ _ => rfl)) (nomark _)))) (fun _ _ _ _ _ => (pv 5))) (pe_lst pa_nil) (nomark _))))))))), ?_⟩
  have sz : ∀ {k : Nat}, k ≤ 300 → k ≤ sizeLine := fun h => by rw [sizeLine_eq]; omega
  refine ⟨_, rfl, sz (by show 1 ≤ 300; decide), fun g hg => ?_⟩
  obtain ⟨w1, e1⟩ := nw rfl hg
  generalize upd H g _ = H1 at w1 e1 ⊢
  refine fun t ht => ?_
  refine ⟨_, rfl, upd_same, [(Sum.inr "a", .int (n : Int))], rfl, by show 1 ≤ 15; decide, ?_⟩
  have w2 : Same H1 (upd (upd H1 t (.dK [])) t (.dK (mergeK [] [(Sum.inr "a", .int (n : Int))]))) := Same.put (same_new ht) ht
  have e2 : (upd (upd H1 t (.dK [])) t (.dK (mergeK [] [(Sum.inr "a", .int (n : Int))]))) t = some (.dK [(Sum.inr "a", .int (n : Int))]) := upd_same
  generalize upd (upd H1 t (.dK [])) t (.dK (mergeK [] [(Sum.inr "a", .int (n : Int))])) = H2 at w2 e2 ⊢
  refine ⟨_, _, rfl, ?_⟩
  refine ⟨_, rfl, .ref g, rfl, fun p1 H3 g1 => ?_⟩
  refine ⟨_, rfl, .ref g, rfl, fun p2 H4 g2 => ?_⟩
  obtain ⟨s3, as1, l1, er1, n1⟩ := g1
  obtain ⟨s4, as2, l2, er2, n2⟩ := g2
  have len1 : as1.length = 44 := by rw [er1.len]; simp
  have len2 : as2.length = 44 := by rw [er2.len]; simp
  refine ⟨p1, p2, _, _, rfl, rfl, s4 _ _ l1, l2, sz (by rw [List.length_map, List.length_map, len1, len2]; decide), fun p3 h3 => ?_⟩
  obtain ⟨w5, e5⟩ := nw rfl h3
  generalize upd H4 p3 _ = H5 at w5 e5 ⊢
  refine ⟨_, rfl, .ref t, rfl, fun p4 H6 g4 => ?_⟩
  obtain ⟨s6, as3, l3, er3, n3⟩ := g4
  have len3 : as3.length = 44 := by rw [er3.len]; simp
  refine ⟨p3, p4, _, _, rfl, rfl, s6 _ _ e5, l3, sz (by rw [List.length_append, List.length_map, List.length_map, List.length_map, len1, len2, len3]; decide), fun p5 h5 => ?_⟩
  obtain ⟨w7, e7⟩ := nw rfl h5
  generalize upd H6 p5 _ = H7 at w7 e7 ⊢
  refine ⟨_, rfl, .ref t, rfl, fun p6 H8 g6 => ?_⟩
  obtain ⟨s8, as4, l4, er4, n4⟩ := g6
  have len4 : as4.length = 44 := by rw [er4.len]; simp
  refine ⟨p5, p6, _, _, rfl, rfl, s8 _ _ e7, l4, sz (by rw [List.length_append, List.length_append, List.length_map, List.length_map, List.length_map, List.length_map, len1, len2, len3, len4]; decide), fun pk hk => ?_⟩
  obtain ⟨w9, e9⟩ := nw rfl hk
  generalize upd H8 pk _ = H9 at w9 e9 ⊢
  have t8 := w9
  have t7 := s8.trans t8
  have t6 := w7.trans t7
  have t5 := s6.trans t6
  have t4 := w5.trans t5
  have t3 := s4.trans t4
  have t2 := s3.trans t3
  have t1 := w2.trans t2
  have t0 := w1.trans t1
  -- grown.append, table[..] = ..
  have G9 := t1 _ _ e1
  have T9 := t2 _ _ e2
  refine ⟨_, rfl, .inl ⟨rfl, _, SqL.of G9⟩, g, _, _, rfl, rfl, G9, small1000 (by show 1 ≤ 1000; decide), ?_⟩
  have ngt : g ≠ t := ne_of_none e1 ht
  have ngk : pk ≠ g := fun z => by have y := ne_of_none (s8 _ _ (w7 _ _ (s6 _ _ (w5 _ _ (s4 _ _ (s3 _ _ (w2 _ _ e1))))))) hk; exact y z.symm
  have ntk : pk ≠ t := fun z => by have y := ne_of_none (s8 _ _ (w7 _ _ (s6 _ _ (w5 _ _ (s4 _ _ (s3 _ _ e2)))))) hk; exact y z.symm
  have Ga : (upd H9 g (.lst ([V.int (n : Int)] ++ [V.str (Str.ofString "more")]))) g = some (.lst [.int (n : Int), .str "more"]) := upd_same
  have Ta : (upd H9 g (.lst ([V.int (n : Int)] ++ [V.str (Str.ofString "more")]))) t = some (.dK [(Sum.inr "a", .int (n : Int))]) := by rw [upd_ne (Ne.symm ngt)]; exact T9
  have Ka : (upd H9 g (.lst ([V.int (n : Int)] ++ [V.str (Str.ofString "more")]))) pk = some (.lst (((as1.map V.ref ++ as2.map V.ref) ++ as3.map V.ref) ++ as4.map V.ref)) := by rw [upd_ne ngk]; exact e9
  have Na : Same H (upd H9 g (.lst ([V.int (n : Int)] ++ [V.str (Str.ofString "more")]))) := Same.put t0 hg
  have Ea : ∀ {a k : Nat} {v : V}, ErAt H9 a (ca k) (some (efl k, v)) → ErAt (upd H9 g (.lst ([V.int (n : Int)] ++ [V.str (Str.ofString "more")]))) a (ca k) (some (efl k, v)) := fun h => erAt_put h G9 (.inl ⟨_, rfl⟩)
  generalize upd H9 g (.lst ([V.int (n : Int)] ++ [V.str (Str.ofString "more")])) = Ha at Ga Ta Ka Na Ea ⊢
  refine ⟨_, rfl, t, _, rfl, DPut.k (k := Sum.inr "more") Ta (by rw [sizeLine_eq]; show 1 < _; omega), ?_⟩
  rw [ent_put]
  have Tb : (upd Ha t (.dK (ent n))) t = some (.dK (ent n)) := upd_same
  have Gb : (upd Ha t (.dK (ent n))) g = some (.lst [.int (n : Int), .str "more"]) := by rw [upd_ne ngt]; exact Ga
  have Kb : (upd Ha t (.dK (ent n))) pk = some (.lst (((as1.map V.ref ++ as2.map V.ref) ++ as3.map V.ref) ++ as4.map V.ref)) := by rw [upd_ne ntk]; exact Ka
  have Nb : Same H (upd Ha t (.dK (ent n))) := Same.put Na (w1.free ht)
  have Eb : ∀ {a k : Nat} {v : V}, ErAt H9 a (ca k) (some (efl k, v)) → ErAt (upd Ha t (.dK (ent n))) a (ca k) (some (efl k, v)) := fun h => erAt_put (Ea h) Ta (.inr ⟨_, rfl⟩)
  generalize upd Ha t (.dK (ent n)) = Hb at Tb Gb Kb Nb Eb ⊢
  refine ⟨_, rfl, sz (by show 2 ≤ 300; decide), fun d1 hd1 => ?_⟩
  obtain ⟨wc, ec⟩ := nw rfl hd1
  generalize upd Hb d1 _ = Hc at wc ec ⊢
  refine fun d2 hd2 => ?_
  refine ⟨_, rfl, upd_same, ent n, rfl, by show 2 ≤ 15; decide, ?_⟩
  rw [show mergeK [] (ent n) = ent n from ent_put n]
  have wd : Same Hc (upd (upd Hc d2 (.dK [])) d2 (.dK (ent n))) := Same.put (same_new hd2) hd2
  have ed : (upd (upd Hc d2 (.dK [])) d2 (.dK (ent n))) d2 = some (.dK (ent n)) := upd_same
  generalize upd (upd Hc d2 (.dK [])) d2 (.dK (ent n)) = Hd at wd ed ⊢
  refine ⟨sz (by show 2 ≤ 300; decide), fun dl hdl => ?_⟩
  obtain ⟨we, ee⟩ := nw rfl hdl
  generalize upd Hd dl _ = He at we ee ⊢
  have wbe := wc.trans (wd.trans we)
  refine ⟨176, rfl, by decide, by decide, fun D hD => ?_⟩
  refine lc_range (lo := 0) (n := 176) (fun i H' => Same He H' ∧ H' D = some (.lst [])) ⟨same_new hD, upd_same⟩ ?_ ?_
  · rintro i Hf hi ⟨sf, df⟩
    refine ⟨rfl, ?_⟩
    have sbf := wbe.trans sf
    obtain ⟨a, k, c1, c2, c3⟩ := four_er (er1.same t3) (er2.same t4) (er3.same t6) (er4.same t8) i hi
    refine ⟨_, rfl, _, rfl, pk, _, _, _, rfl, rfl, SqL.of (sbf _ _ Kb), by rw [Int.zero_add]; exact c1, a, k, _, rfl, (Eb c3).same sbf, c2, fun Hg sg => ?_⟩
    have sbg := sbf.trans sg
    have seg := sf.trans sg
    by_cases c88 : i < 88
    · rw [if_pos c88]
      refine ⟨_, rfl, _, rfl, _, 88, rfl, rfl, ⟨by decide, by decide⟩, dl, _, _, .ref d1, rfl, rfl, SqL.of (seg _ _ ee), ?_, ?_⟩
      · rw [Int.zero_add, show ((i : Int) / 88) = ((0 : Nat) : Int) by omega]; rfl
      have dp : ∀ {c : Addr}, Hg c = some (.lst [.int (n : Int), .str "more"]) → Dp K Hg (.ref c) (.list [.int (n : Int), .str "more"]) := fun h => .lst (SqL.of h) (.cons (.int _) (.cons (.str _) .nil))
      have sh : SeqAt.shaped (.list [.int (n : Int), .str "more"]) = true := by
        show ((true && (PyData.strOk "more" && true)) && decide (max 0 (max 0 0) + 1 ≤ 64)) = true
        rw [show PyData.strOk "more" = true from by decide +kernel]; rfl
      refine .inl ⟨_, _, dp (sbg _ _ Gb), dp ((wd.trans (we.trans seg)) _ _ ec), sh, sh, _, rfl, ?_⟩
      have ev : PyData.eqv (.list [.int (n : Int), .str "more"]) (.list [.int (n : Int), .str "more"]) = true := by simp [PyData.eqv, PyData.eqvAll]
      rw [ev]
      exact iteF ⟨sf.trans sg, sg _ _ df⟩
    · rw [if_neg c88]
      refine ⟨_, rfl, _, rfl, _, 88, rfl, rfl, ⟨by decide, by decide⟩, dl, _, _, .ref d2, rfl, rfl, SqL.of (seg _ _ ee), ?_, ?_⟩
      · rw [Int.zero_add, show ((i : Int) / 88) = ((1 : Nat) : Int) by omega]; rfl
      exact .inr ⟨t, d2, ent n, ent n, rfl, rfl, sbg _ _ Tb, (we.trans seg) _ _ ed, rfl, ent_eq n, _, rfl, iteF ⟨sf.trans sg, sg _ _ df⟩⟩
  · rintro Hf ⟨sf, df⟩
    refine ⟨sz (by decide), fun pz hz => ?_⟩
    have w8 := same_new (o := .lst []) hz
    have e8 : PyData.eqv (.list []) (.list []) = true := by decide +kernel
    refine ⟨.list [], .list [], .lst (SqL.of (w8 _ _ df)) .nil, .lst (SqL.of upd_same) .nil, rfl, rfl, ?_⟩
    rw [e8]
    exact q _ ((Nb.trans (wbe.trans sf)).trans w8)
end
end NH
set_option maxHeartbeats 4000000
namespace NH
open PySem PySem.Spec PyProof.Rows L2 TL HotX
/-! ### defs called while an error is handled -/
/-- what HotCalls names -/
abbrev HotCx (X : Cx) : Prop := L2H.HotC X
structure FnHE (P : Program) (w : World) (K : PySem.W.Frag) (mg : Str → Option Value) (base : Heap) (k : Nat) (f : Addr) (fd : FuncData) (ps : List Str) (sp : SpS) : Prop where
  long : ∀ s ou vs H Q E, sp s ou vs H Q E → vs.length = ps.length
  goes : ∀ (A : Around) (ou : List Env) (s : Shared) (H : Hp) (ar : Args) (us : List Value) (vs : List V) (Q : VK) (E : XK) (p : Addr × Obj), A.guards = some [] → L2H.RoomH k A → L2H.Hot1 A p → L2H.PinOk ou H s p → Env0 P w K mg base A ou s H →
    BindsTo s fd ar (ps.zip us) → Vals vs us → sp s ou vs H Q E → codeAny (model P w) A (.call (.ref f) ar) (CR CX0 ou P w H s Q E) s
section
variable {P : Program} {w : World} {K : PySem.W.Frag} {mg : Str → Option Value} {base : Heap} {k : Nat} {f : Addr} {fd : FuncData} {sp : SpS}
theorem FnHE.make {x q : Str} {st : Stmt} {N ps : List Str} (F : FunD K x q (defArgs st) (defBody st) (defScope st) [] [] f fd) (S : FnScope N ps (defScope st)) (long : ∀ s ou vs H Q E, sp s ou vs H Q E → vs.length = ps.length)
    (does : ∀ (cd : Value) (A : Around) (ou : List Env) (s : Shared) (H : Hp) (vs : List V) (Q : VK) (E : XK) (p : Addr × Obj), A.guards = some [] → L2H.Hot1 A p → L2H.RoomH k (A.deeper (envOfC q (defScope st) s.heap.objs.size f cd)) → sp s ou vs H Q E →
      ∃ t, PSs (L2H.cxH CX0 P w K mg base N q (defScope st) f cd A ou s H E p) (defBody st) t ∧ t { nx := fun _ H' => Q .non H', rt := Q } (start N vs) H) : FnHE P w K mg base (k + 1) f fd ps sp := by
  obtain ⟨_, _, _, _, _, _, _, cd, _, _, rfl, here, code, _⟩ := F.ex
  refine ⟨long, fun A ou s H ar us vs Q E p hg hr hot hpin e0 bnd rel want => ?_⟩
  have stays : ∀ (b : Addr) (o : Obj), base.get? b = some o → s.heap.get? b = some o := fun b o e => (e0.bs b o e).1
  have KH : K.In s.heap := e0.mod.kin.keeps stays
  have kinds : ∀ y ∈ ps.zip us, (defScope st).names.lookup y.1 = some .local ∨ ((defScope st).names.lookup y.1 = some .cell ∧ ((cellsFrom (s.heap.objs.size + 1) (defScope st).names []).lookup y.1).isSome = true) := by
    rintro ⟨n, v⟩ hy
    exact (S.par n (List.of_mem_zip hy).1).imp id fun q => ⟨q, PySem.W.cellsFrom_some _ _ _ (.inl q)⟩
  refine codeAny_call_function hr.depth (KH _ _ here) rfl S.co S.gen rfl (PySem.W.codeRec_of KH code) (bnd _ _ _ _ (wpAny_newFunctionEnv_cells S.kind kinds ?_))
  rintro env rfl s1 made
  refine ⟨(e0.mod.nolimit.keeps stays).keeps made.toInCall.keep, codeAny_func ?_⟩
  obtain ⟨t, runs, holds⟩ := does cd A ou s H vs Q E p hg hot (hr.deeper _) want
  refine wpAny_mono (runs.run [] s1 (start N vs) H _ (L2H.inv_startH S hpin e0 (long _ _ _ _ _ _ want) rel made) holds) (fun fl s' z => ?_) fun _ _ z => z
  cases fl with
  | brk => rcases z with ⟨_, _, _, z⟩; exact z.elim
  | cont => rcases z with ⟨_, _, _, z⟩; exact z.elim
  | ret u => obtain ⟨v, σ', H', J, rv, q⟩ := z; exact ⟨v, H', J.os, J.bare, J.base, J.hok, rv, q⟩
  | next => obtain ⟨σ', H', J, q⟩ := z; exact ⟨V.non, H', J.os, J.bare, J.base, J.hok, rfl, q⟩
end
structure CalleeHE (P : Program) (w : World) (K : PySem.W.Frag) (mg : Str → Option Value) (base : Heap) (k : Nat) (x : Str) (ps : List Str) (sp : SpS) : Prop where
  ex : ∃ f fd, mg x = some (.ref f) ∧ PySem.W.keepIn K (.ref f) = true ∧ Binds K fd ps [] ∧ FnHE P w K mg base k f fd ps sp
section
variable {P : Program} {w : World} {K : PySem.W.Frag} {mg : Str → Option Value} {base : Heap} {X : Cx}
theorem calleeHE {x : Str} {st : Stmt} {N ps : List Str} {k : Nat} {sp : SpS} (D : DefAt K mg x st) (S : FnScope N ps (defScope st)) (len : ∀ s ou vs H Q E, sp s ou vs H Q E → vs.length = ps.length)
    (hb : ∀ (kV doc pm : Value) (an : Option Addr) (cdv ct : Value) (us : List Value), us.length = ps.length → bindArgs (PySem.W.fnOf x x (defArgs st) (defBody st) (defScope st) .none kV doc pm an cdv ct) ⟨us, []⟩ = pure (ps.zip us))
    (does : ∀ (f : Addr) (cdv : Value) (A : Around) (outer : List Env) (s : Shared) (H : Hp) (vs : List V) (Q : VK) (E : XK) (p : Addr × Obj), A.guards = some [] → L2H.Hot1 A p → L2H.RoomH k (A.deeper (envOfC x (defScope st) s.heap.objs.size f cdv)) → sp s outer vs H Q E →
      ∃ t, PSs (L2H.cxH CX0 P w K mg base N x (defScope st) f cdv A outer s H E p) (defBody st) t ∧ t { nx := fun _ H' => Q .non H', rt := Q } (start N vs) H) : CalleeHE P w K mg base (k + 1) x ps sp := by
  obtain ⟨fd, F⟩ := D.f
  exact ⟨_, fd, D.g, F.kp, F.bindsN hb, FnHE.make F S len fun cdv A outer s H vs Q E p hg hot hr h => does _ cdv A outer s H vs Q E p hg hot hr h⟩
theorem pinOk_of {pins : List (Addr × Obj)} {σ : L2.St} {H : Hp} {s : Shared} {p : Addr × Obj} (I : Inv X pins σ H s) (hp : p ∈ X.pn) : L2H.PinOk X.stack H s p :=
  have P1 := I.pin p (List.mem_append_left _ hp)
  ⟨P1.1, P1.2.1, fun hm => (List.mem_cons.mp (I.stkSub p.1 hm)).elim P1.2.2.1 P1.2.2.2.1, P1.2.2.2.2⟩
theorem pe_calHE {k j : Nat} {x : Str} {ps : List Str} {sp : SpS} {e : Expr} {es : List Expr} {p pos : Pos} {t : TA} (c : CalleeHE X.prog X.w X.K X.mg X.base k x ps sp) (hot : L2H.HotC X) (hgu : X.A.guards = some []) (hr : L2H.RoomH j X.A) (hj : k ≤ j) (ha : PA X (e :: es) t) (hg : Gl X x := by rfl)
    (hdb : (x == ("__debug__" : Str)) = false := by decide) (he : starEach (e :: es) X.env = (false, eval e X.env) :: starEach es X.env := by rfl) (hpl : (backTo pos (starEach es X.env)).any (·.1) = false := by rfl) :
    PE X (.Call (.Name x p) (e :: es) [] pos) (tCalE X sp t) := by
  obtain ⟨f, fd, hm, hk, hb, F⟩ := c.ex
  obtain ⟨pp, h1, hp⟩ := hot
  refine ⟨fun pins s σ H Q I h => wpAny_Call_Name_kw (ld_glob I hg hm ?_ hdb)⟩
  refine PySem.W.callWith_K (h₀ := X.base) I.ok.mod.kin hk (thn (ha.run pos pins s σ H _ I h) fun us s1 ⟨vs, H1, J, rel, want⟩ => ⟨J.kIn, ?_⟩) he hpl
  have want := want pins s1 J
  have bnd := hb s1 us J.kIn (by rw [List.append_nil, ← rel.length]; exact F.long _ _ _ _ _ _ want)
  rw [List.append_nil] at bnd
  refine wpAny_call (codeAny_mono (F.goes X.A X.stack s1 H1 ⟨us, []⟩ us vs Q E0 pp hgu (hr.mono hj) h1 (pinOk_of J hp) J.env0 bnd rel want) fun r s' z => ?_)
  match r, z with
  | .ok (.ret _), z => exact J.after z
end
/-- an error at the entry, inside such a def -/
theorem ErS.xH {CX : CXT} {P : Program} {w : World} {K : PySem.W.Frag} {mg : Str → Option Value} {base : Heap} {N : List Str} {q : Str} {sc : Scope} {f : Addr} {cd : Value} {A : Around} {ou : List Env} {s : Shared} {H H1 : Hp} {E : XK} {p : Addr × Obj} {a C : Addr} {x : Option (Str × V)}
    (h : ErS s ou H a C x) (k : Same H H1) : ErX (L2H.cxH CX P w K mg base N q sc f cd A ou s H E p) H1 a C x := by
  have one : ∀ {d}, ExS s ou H a C d → ExX (L2H.cxH CX P w K mg base N q sc f cd A ou s H E p) H1 a C d := fun {d} h => by
    rcases h with h | ⟨oe, vs, e1, e2, e3, z, e⟩
    · exact .inl (h.same k)
    · refine .inr ⟨oe, vs, fun pins σ H2 s2 I => ⟨I.base.keep a oe e1 e2 e3 (by intro z; cases z), I.base.free a oe e1 e2 (by intro z; cases z), ?_⟩, z, e⟩
      intro z
      have z : a ∈ frs (envOfC q sc s.heap.objs.size f cd :: ou) := z
      have z := List.mem_filterMap.mp z
      obtain ⟨ev, m, em⟩ := z
      rcases List.mem_cons.mp m with rfl | m
      · have em : some s.heap.objs.size = some a := em
        cases em
        exact absurd (Heap.lt_size e1) (Nat.lt_irrefl _)
      · exact e3 (List.mem_filterMap.mpr ⟨ev, m, em⟩)
  match x, h with
  | none, h => exact one h
  | some (f, v), ⟨dd, h1, h2⟩ => exact ⟨dd, one h1, h2.same k⟩
theorem hot_cxH {CX : CXT} {P : Program} {w : World} {K : PySem.W.Frag} {mg : Str → Option Value} {base : Heap} {N : List Str} {q : Str} {sc : Scope} {f : Addr} {cd : Value} {A : Around} {ou : List Env} {s : Shared} {H : Hp} {E : XK} {p : Addr × Obj} (h : L2H.Hot1 A p) : L2H.HotC (L2H.cxH CX P w K mg base N q sc f cd A ou s H E p) :=
  ⟨p, ⟨h.1, h.2⟩, List.mem_cons_self⟩
end NH
set_option maxHeartbeats 4000000
/-! a list comprehension over range, where an error is handled -/
namespace NH
open PySem PySem.Spec PyProof.Rows L2 TL HotX
section
variable {X : Cx}
/-- a block's state, with one more thing that stands -/
theorem inv_stands {σ : L2.St} {H : Hp} {s : Shared} {p : Addr × Obj} (J : Inv X [] σ H s) (h : s.heap.get? p.1 = some p.2 ∧ H p.1 = none ∧ p.1 ≠ X.env.locals ∧ p.1 ∉ X.fs ∧ ∀ v, p.2.data ≠ .cell v) : Inv (X.tr (X.pn ++ [p]) fun _ _ => False) [] σ H s :=
  (J.pins_of fun q hq => by rw [List.mem_append] at hq; rcases hq with hq | hq; · cases hq
                            · rw [List.mem_singleton] at hq; subst hq; exact h).toTry (pins := [] ++ [p]) fun _ _ => False
theorem inv_stood {σ : L2.St} {H : Hp} {s : Shared} {p : Addr × Obj} (J : Inv (X.tr (X.pn ++ [p]) fun _ _ => False) [] σ H s) (ok : X.Ok) : Inv X [] σ H s :=
  (Inv.ofTry (pins := [p]) J ok).pins_of fun _ z => nomatch z
theorem lc_hot {pins : List (Addr × Obj)} {s : Shared} {σ : L2.St} {H : Hp} {Q : VK} {elt tg iter : Expr} {ifs : List Expr} {scope : Scope} {own : List (Str × Nat)} {pos pos' : Pos} {wi : TI} {g : TG} {tt : TT} {te : TE} {use : Option (Value → Sem Unit)} {Qf : Value → Shared → Prop}
    (hot : L2H.HotC X) (nd : X.N.Nodup) (I : Inv X pins σ H s) (hi : L2H.PIH X tg iter wi) (bo : BlkOk X.N X.env.scope scope own)
    (pgs : ∀ (s : Shared) (H : Hp) (B : Addr) (cl : List (Str × Addr)) (fp : List Addr), PG (X.blk s H scope (compEnvC scope cl B X.env) fp) tg g) (pts : ∀ (s : Shared) (H : Hp) (B : Addr) (cl : List (Str × Addr)) (fp : List Addr), PTs (X.blk s H scope (compEnvC scope cl B X.env) fp) ifs tt)
    (pes : ∀ (s : Shared) (H : Hp) (B : Addr) (cl : List (Str × Addr)) (fp : List Addr), PE (X.blk s H scope (compEnvC scope cl B X.env) fp) elt te) (plain : ∀ x, foldedSetIterable iter X.env x = pure x) (h : tLc wi g tt te (own.map (·.2)) σ H Q)
    (back : ∀ D B z m G, Inv X pins σ G z → Q (.ref D) G → z.heap.Ns B m → FpOk X pins G B → compPost (model X.prog X.w) X.A X.xe use Qf (.ref D) B (.ok .next) z) :
    wpAny (model X.prog X.w) X.A (comprehension (.ListComp elt [⟨tg, iter, ifs, 0⟩] scope pos) scope X.env pos' (newList []) false (eval iter X.env) use) Qf X.xe s := by
  obtain ⟨pp, hot1, hpp⟩ := hot
  have cells : ∀ y ∈ scope.names, y.2 = .free → ∃ c, X.env.cells.lookup y.1 = some c := fun y hy e => (bo.free y hy e).elim (fun k => I.ok.has _ (.inl k)) fun k => I.ok.has _ (.inr k)
  refine wpAny_comprehension_free (use := use) rfl plain (closure_ok cells) bo.kind (fun y hy e => by rw [bo.uniq y hy, e]) (thn (hi.run pins s σ H _ I h) fun xv sa hx => thn hx fun iv sb hb => ?_)
  obtain ⟨it, fp, tn, J, Hb, ev, Ib, T, stb, fb, q⟩ := hb
  subst ev
  refine wpAny_newObj_type (newEnv_comp ?_) (by show 0 ≤ sizeLine; decide)
  generalize eD : sb.heap.objs.size = D
  have freeD : Hb D = none := Ib.hok.fresh (Nat.le_of_eq eD)
  obtain ⟨W, ⟨m0, w0⟩, turn⟩ := q D freeD
  generalize ec : ({ sb with heap := sb.heap.push { cls := .type "list", data := .seq ([] : List Value).toArray } } : Shared) = sc
  have Ic : Inv X pins σ (upd Hb D (.lst [])) sc := by
    rw [← ec]
    exact Ib.laid (t' := sb.toks) (fun b o e => Heap.get?_push_of_some _ e) (Nat.le_of_eq eD) ⟨Nat.zero_le _, [], 0, .nil, by rw [← eD]; exact Heap.get?_push_size _ rfl⟩
  have hc : sc.heap = sb.heap.push { cls := .type "list", data := .seq ([] : List Value).toArray } := by rw [← ec]
  have low : ∀ b ∈ fp, b < sb.heap.objs.size := fun b hb => let ⟨o, e, _⟩ := T.obj _ _ stb b hb; Heap.lt_size e
  have fc : ∀ b ∈ fp, FpOk X pins (upd Hb D (.lst [])) b ∧ b < sc.heap.objs.size := fun b hb =>
    ⟨⟨by rw [upd_ne (by rw [← eD]; exact Nat.ne_of_lt (low b hb))]; exact (fb b hb).1, (fb b hb).2⟩, by rw [hc, Heap.size_push]; exact Nat.lt_succ_of_lt (low b hb)⟩
  have stc : tn 0 sc.heap := T.keep _ _ _ stb fun b _ o e => by rw [hc]; exact Heap.get?_push_of_some _ e
  have Id := block_start Ic bo nd fc
  have pg := pgs sc (upd Hb D (.lst [])) sc.heap.objs.size (cellsFrom (sc.heap.objs.size + 1) scope.names (cloFrom X.env.cells scope.names [])) fp
  have pt := pts sc (upd Hb D (.lst [])) sc.heap.objs.size (cellsFrom (sc.heap.objs.size + 1) scope.names (cloFrom X.env.cells scope.names [])) fp
  have pe := pes sc (upd Hb D (.lst [])) sc.heap.objs.size (cellsFrom (sc.heap.objs.size + 1) scope.names (cloFrom X.env.cells scope.names [])) fp
  show codeAny _ _ (.compStart (.ListComp elt [⟨tg, iter, ifs, 0⟩] scope pos) 0 (.ref it) (.ref D) (compEnvC scope (cellsFrom (sc.heap.objs.size + 1) scope.names (cloFrom X.env.cells scope.names [])) sc.heap.objs.size X.env)) (compPost (model X.prog X.w) X.A X.xe use Qf (.ref D) sc.heap.objs.size) { sc with heap := pushCells (sc.heap.push { cls := .type "dict", data := .dict #[] }) scope.names }
  have none0 : ∀ b ∈ fp, (upd Hb D (.lst [])) b = none := fun b hb => (fc b hb).1.1
  generalize ee : compEnvC scope (cellsFrom (sc.heap.objs.size + 1) scope.names (cloFrom X.env.cells scope.names [])) sc.heap.objs.size X.env = ev at Id pg pt pe ⊢
  have loc0 : ev.locals = sc.heap.objs.size := by subst ee; rfl
  -- the handled error stands, seen from the block
  have P0 := pinOk_of Ic hpp
  have pfp : pp.1 ∉ fp := fun z => (fc pp.1 z).1.2.2.2.2.2 pp (List.mem_append_left _ hpp) rfl
  generalize eH : upd Hb D (.lst []) = Hc at Ic Id pg pt pe w0 none0 fc P0
  generalize ed : ({ sc with heap := pushCells (sc.heap.push { cls := .type "dict", data := .dict #[] }) scope.names } : Shared) = sd at Id ⊢
  have std : tn 0 sd.heap := T.keep _ _ _ stc fun b _ o e => by rw [← ed]; exact pushCells_keeps _ _ _ _ (Heap.get?_push_of_some _ e)
  have stand : ∀ {τ : L2.St} {G : Hp} {z : Shared}, Inv (X.blk sc Hc scope ev fp) [] τ G z → z.heap.get? pp.1 = some pp.2 ∧ G pp.1 = none ∧ pp.1 ≠ ev.locals ∧ pp.1 ∉ frs X.stack ∧ ∀ v, pp.2.data ≠ .cell v := fun {τ G z} Z =>
    ⟨Z.base.keep pp.1 pp.2 P0.get P0.free P0.nofs pfp, Z.base.free pp.1 pp.2 P0.get P0.free pfp, by rw [loc0]; exact Nat.ne_of_lt (Heap.lt_size P0.get), P0.nofs, P0.nocell⟩
  have hotB : L2H.HotC ((X.blk sc Hc scope ev fp).tr ((X.blk sc Hc scope ev fp).pn ++ [pp]) fun _ _ => False) := ⟨pp, hot1, List.mem_append_right _ (List.mem_singleton_self _)⟩
  have stat : ∀ {τ : L2.St} {G : Hp} {z : Shared}, Inv (X.blk sc Hc scope ev fp) [] τ G z → (∀ b ∈ fp, G b = none) → ∀ b ∈ fp, FpOk ((X.blk sc Hc scope ev fp).tr ((X.blk sc Hc scope ev fp).pn ++ [pp]) fun _ _ => False) [] G b := fun {τ G z} Z hn b hb =>
    ⟨hn b hb, (Z.ok.exf b hb).1, Z.ok.exfs b hb, .inl hb, fun x c e => (Z.ok.exf b hb).2 x c e, fun p hp y => by
      have hp : p ∈ ([] ++ [pp]) ++ ([] : List (Addr × Obj)) := hp
      simp only [List.nil_append, List.append_nil, List.mem_singleton] at hp
      subst hp; exact pfp (y ▸ hb)⟩
  have stat0 : ∀ {τ : L2.St} {G : Hp} {z : Shared}, Inv (X.blk sc Hc scope ev fp) [] τ G z → (∀ b ∈ fp, G b = none) → ∀ b ∈ fp, FpOk (X.blk sc Hc scope ev fp) [] G b := fun {τ G z} Z hn b hb =>
    ⟨hn b hb, (Z.ok.exf b hb).1, Z.ok.exfs b hb, .inl hb, fun x c e => (Z.ok.exf b hb).2 x c e, fun p hp => nomatch (show p ∈ ([] : List (Addr × Obj)) from hp)⟩
  have loop : codeAny (model X.prog X.w) X.A (.compLoop (.ListComp elt [⟨tg, iter, ifs, 0⟩] scope pos) 0 (.ref it) (.ref D) ev) (compPost (model X.prog X.w) X.A X.xe use Qf (.ref D) sc.heap.objs.size) sd := by
    refine compLoop_any (fun n z => ∃ i G, Inv (X.blk sc Hc scope ev fp) [] (wipe σ (own.map (·.2))) G z ∧ tn i z.heap ∧ (∀ b ∈ fp, G b = none) ∧ W i n G) ?_ m0 ⟨0, Hc, Id, std, none0, w0⟩
    rintro n z5 ⟨i, G5, Z5, y5, k5, w5⟩
    rcases turn i n G5 w5 with ⟨stop, qq⟩ | ⟨go, Nx, hNx, step⟩
    · refine thnF (T.done ((X.blk sc Hc scope ev fp).tr ((X.blk sc Hc scope ev fp).pn ++ [pp]) fun _ _ => False) rfl rfl rfl hotB i [] z5 _ G5 (fun _ _ => False) (inv_stands Z5 (stand Z5)) (stat Z5 k5) y5 stop) fun r z6 ⟨er, Z6'⟩ => ?_
      subst er
      have Z6 := inv_stood Z6' Z5.ok
      have Z7 : Inv X pins σ G5 z6 := Ic.call' (ch := fp) Z6.os Z6.base Z6.hok Z6.bare fun b hb => ⟨(fc b hb).1.2.2.2.1, (fc b hb).1.2.1, (fc b hb).1.2.2.2.2.1, (fc b hb).1.2.2.2.2.2⟩
      have nB : G5 sc.heap.objs.size = none := loc0 ▸ (show G5 ev.locals = none from Z6.free)
      obtain ⟨m, hn, _⟩ := Z6.loc
      have hn : z6.heap.Ns ev.locals m := hn
      exact back D sc.heap.objs.size z6 m G5 Z7 qq (loc0 ▸ hn) (Ic.fpOk (Nat.le_refl _) nB)
    · refine thnF (T.item ((X.blk sc Hc scope ev fp).tr ((X.blk sc Hc scope ev fp).pn ++ [pp]) fun _ _ => False) rfl rfl rfl hotB i [] z5 _ G5 (fun _ _ => False) (inv_stands Z5 (stand Z5)) (stat Z5 k5) y5 go) fun r z6 ⟨u, er, h6⟩ => ?_
      subst er
      refine thnF h6 fun _ z7 ⟨x, G7, Z7', r7, yd, y7, k7⟩ => ?_
      have Z7 := inv_stood Z7' Z5.ok
      have Z7p := Z7.pinned (stat0 Z7 k7) (T.obj _ _ y7)
      refine thnF (pg.run _ z7 _ G7 x u _ Z7p r7 (step x G7 yd)) fun _ z8 ⟨τ8, G8, Z8, hw8, q8⟩ => ?_
      refine thnF (pt.run _ z8 τ8 G8 _ Z8 q8) fun b z9 ⟨G9, Z9, q9⟩ => ?_
      have fin : ∀ {z : Shared} {G : Hp}, Inv (X.blk sc Hc scope ev fp) ([] ++ pinsAt fp z7.heap) τ8 G z → Nx G → ∃ m, m < n ∧ ∃ i G, Inv (X.blk sc Hc scope ev fp) [] (wipe σ (own.map (·.2))) G z ∧ tn i z.heap ∧ (∀ b ∈ fp, G b = none) ∧ W i m G := fun {z G} Z nx => by
        obtain ⟨m', hm, w'⟩ := hNx G nx
        have held : ∀ b ∈ fp, ∀ o, z7.heap.get? b = some o → z.heap.get? b = some o ∧ G b = none := fun b hb o e =>
          have y := Z.pin (b, o) (List.mem_append_right _ (List.mem_append_right _ (mem_pinsAt hb e)))
          ⟨y.1, y.2.1⟩
        refine ⟨m', hm, i + 1, G, (Z.unpinned (pins := [])).weak (by rw [← hw8, wipe_length]) (fun j v e => ?_), T.keep _ _ _ y7 fun b hb o e => (held b hb o e).1, fun b hb => ?_, w'⟩
        · rw [← hw8] at e; exact (wipe_some e).1
        · obtain ⟨o, e, _⟩ := T.obj _ _ y7 b hb; exact (held b hb o e).2
      cases b with
      | false => simp only [Bool.false_eq_true, if_false] at q9 ⊢; exact fin Z9 q9
      | true =>
        simp only [if_true] at q9 ⊢
        refine thnF (pe.run _ z9 τ8 G9 _ Z9 q9) fun y z10 ⟨yv, G10, Z10, r10, acc, hD10, hz10, nx⟩ => ?_
        exact app_ok (X := X.blk sc Hc scope ev fp) Z10 hD10 hz10 r10 fun z11 Z11 => fin Z11 nx
  exact codeAny_compStart_list loop (T.self X.A 0 _ _ _ std loop)
/-- as a value -/
theorem pe_lcHot {elt tg iter : Expr} {ifs : List Expr} {scope : Scope} {own : List (Str × Nat)} {pos : Pos} {wi : TI} {g : TG} {tt : TT} {te : TE} (hot : L2H.HotC X) (nd : X.N.Nodup) (hi : L2H.PIH X tg iter wi) (bo : BlkOk X.N X.env.scope scope own)
    (pgs : ∀ (s : Shared) (H : Hp) (B : Addr) (cl : List (Str × Addr)) (fp : List Addr), PG (X.blk s H scope (compEnvC scope cl B X.env) fp) tg g) (pts : ∀ (s : Shared) (H : Hp) (B : Addr) (cl : List (Str × Addr)) (fp : List Addr), PTs (X.blk s H scope (compEnvC scope cl B X.env) fp) ifs tt)
    (pes : ∀ (s : Shared) (H : Hp) (B : Addr) (cl : List (Str × Addr)) (fp : List Addr), PE (X.blk s H scope (compEnvC scope cl B X.env) fp) elt te) (plain : ∀ x, foldedSetIterable iter X.env x = pure x := by intro _; rfl) :
    PE X (.ListComp elt [⟨tg, iter, ifs, 0⟩] scope pos) (tLc wi g tt te (own.map (·.2))) := by
  refine ⟨fun pins s σ H Q I h => ?_⟩
  rw [eval_ListComp]
  refine lc_hot hot nd I hi bo pgs pts pes plain h fun D B z m G Z q hn ⟨f0, f1, f2, f3, f4, f5⟩ => ⟨m, hn, fun h2 sb => ?_⟩
  exact ⟨.ref D, G, Z.turned (t' := z.toks) (fun b o hb e => (sb.2 b hb).trans e) f0 f1 f3 f4 f5, rfl, q⟩
end
end NH
set_option maxHeartbeats 4000000
namespace NH
open PySem PySem.Spec PyProof.Rows L2 TL
section
variable {P : Program} {w : World} {K : PySem.W.Frag} {mg : Str → Option Value} {base : Heap} {ca : Nat → Addr} {NE : Addr}
theorem hot_law_sorts (E : ∀ s : Unit, Errs P w K mg base ca NE) (G : Bl mg) (DA : DefAt K mg "_law_sorts" s_law_sorts) : CalleeHE P w K mg base 1 "_law_sorts" ["e"] (spSort ca) := by
  refine calleeHE DA sc_law_sorts (fun s ou vs H Q E h => by obtain ⟨a, k, x, rfl, _⟩ := h; rfl) (fun _ _ _ _ _ _ us hl => match us, hl with | [_], _ => rfl) fun f cdv A outer s H vs Q E0 p0 hgu hot hr h => ?_
  obtain ⟨a, k, x, rfl, he, hk, q⟩ := h
  have E := E ()
  refine ⟨_, (pss_cons (ps_set (i := 1) sc_law_sorts.nd rfl (Or.inl rfl) (pe_lst (pa_so (pe_is (x := "InvalidPorts") E G 0 (pv 0)) (pa_so (pe_is (x := "InvalidSide") E G 1 (pv 0)) (pa_so (pe_is (x := "InvalidText") E G 2 (pv 0)) pa_so0)))))
    (pss_cons (ps_set (i := 1) sc_law_sorts.nd rfl (Or.inl rfl) (pe_op op_cat (pv 1) (pe_lst (pa_so (pe_is (x := "InvalidName") E G 3 (pv 0)) (pa_so (pe_is (x := "InvalidNumbers") E G 4 (pv 0)) (pa_so (pe_is (x := "InvalidBegins") E G 5 (pv 0)) pa_so0))))))
    (pss_cons (ps_set (i := 1) sc_law_sorts.nd rfl (Or.inl rfl) (pe_op op_cat (pv 1) (pe_lst (pa_so (pe_is (x := "InvalidDoes") E G 6 (pv 0)) (pa_so (pe_is (x := "InvalidRefuses") E G 7 (pv 0)) (pa_so (pe_is (x := "InvalidIndex") E G 8 (pv 0)) pa_so0))))))
    (pss_cons (ps_set (i := 1) sc_law_sorts.nd rfl (Or.inl rfl) (pe_op op_cat (pv 1) (pe_lst (pa_so (pe_is (x := "InvalidState") E G 9 (pv 0)) (pa_so (pe_is (x := "InvalidProcesses") E G 10 (pv 0)) (pa_so (pe_is (x := "InvalidStanding") E G 11 (pv 0)) pa_so0))))))
    (pss_cons (ps_set (i := 1) sc_law_sorts.nd rfl (Or.inl rfl) (pe_op op_cat (pv 1) (pe_lst (pa_so (pe_is (x := "InvalidHands") E G 12 (pv 0)) (pa_so (pe_is (x := "InvalidMeetings") E G 13 (pv 0)) (pa_so (pe_is (x := "InvalidHand") E G 14 (pv 0)) pa_so0))))))
    (pss_cons (ps_set (i := 1) sc_law_sorts.nd rfl (Or.inl rfl) (pe_op op_cat (pv 1) (pe_lst (pa_so (pe_is (x := "InvalidStopped") E G 15 (pv 0)) (pa_so (pe_is (x := "InvalidRound") E G 16 (pv 0)) (pa_so (pe_is (x := "InvalidOrder") E G 17 (pv 0)) pa_so0))))))
    (pss_cons (ps_set (i := 1) sc_law_sorts.nd rfl (Or.inl rfl) (pe_op op_cat (pv 1) (pe_lst (pa_so (pe_is (x := "InvalidPolicy") E G 18 (pv 0)) (pa_so (pe_is (x := "InvalidRows") E G 19 (pv 0)) (pa_so (pe_is (x := "InvalidSums") E G 20 (pv 0)) pa_so0))))))
    (pss_cons (ps_set (i := 1) sc_law_sorts.nd rfl (Or.inl rfl) (pe_op op_cat (pv 1) (pe_lst (pa_so (pe_is (x := "InvalidCosts") E G 21 (pv 0)) (pa_so (pe_is (x := "InvalidCounts") E G 22 (pv 0)) (pa_so (pe_is (x := "InvalidWeights") E G 23 (pv 0)) pa_so0))))))
    (pss_cons (ps_set (i := 1) sc_law_sorts.nd rfl (Or.inl rfl) (pe_op op_cat (pv 1) (pe_lst (pa_so (pe_is (x := "InvalidDepth") E G 24 (pv 0)) (pa_so (pe_is (x := "InvalidCount") E G 25 (pv 0)) (pa_so (pe_is (x := "InvalidRanks") E G 26 (pv 0)) pa_so0))))))
    (pss_cons (ps_set (i := 1) sc_law_sorts.nd rfl (Or.inl rfl) (pe_op op_cat (pv 1) (pe_lst (pa_so (pe_is (x := "InvalidProcess") E G 27 (pv 0)) (pa_so (pe_is (x := "InvalidRules") E G 28 (pv 0)) (pa_so (pe_is (x := "InvalidFacts") E G 29 (pv 0)) pa_so0))))))
    (pss_cons (ps_set (i := 1) sc_law_sorts.nd rfl (Or.inl rfl) (pe_op op_cat (pv 1) (pe_lst (pa_so (pe_is (x := "InvalidVerdict") E G 30 (pv 0)) (pa_so (pe_is (x := "InvalidLine") E G 31 (pv 0)) (pa_so (pe_is (x := "NotDue") E G 32 (pv 0)) pa_so0))))))
    (pss_cons (ps_set (i := 1) sc_law_sorts.nd rfl (Or.inl rfl) (pe_op op_cat (pv 1) (pe_lst (pa_so (pe_is (x := "Refused") E G 33 (pv 0)) (pa_so (pe_is (x := "TooMany") E G 34 (pv 0)) (pa_so (pe_is (x := "Gone") E G 35 (pv 0)) (pa_so (pe_is (x := "Stopped") E G 36 (pv 0)) pa_so0)))))))
    (pss_cons (ps_set (i := 1) sc_law_sorts.nd rfl (Or.inl rfl) (pe_op op_cat (pv 1) (pe_lst (pa_so (pe_is (x := "NoSolution") E G 37 (pv 0)) (pa_so (pe_is (x := "NotLeft") E G 38 (pv 0)) (pa_so (pe_is (x := "Near") E G 39 (pv 0)) (pa_so (pe_is (x := "Still") E G 40 (pv 0)) pa_so0)))))))
    (pss_cons (ps_set (i := 1) sc_law_sorts.nd rfl (Or.inl rfl) (pe_op op_cat (pv 1) (pe_lst (pa_so (pe_is (x := "NotNumber") E G 41 (pv 0)) (pa_so (pe_is (x := "Struck") E G 42 (pv 0)) (pa_so (pe_is (x := "KeptUp") E G 43 (pv 0)) (pa_so (pe_is (x := "NoNet") E G 44 (pv 0)) pa_so0)))))))
    (pss_cons (ps_set (i := 1) sc_law_sorts.nd rfl (Or.inl rfl) (pe_op op_cat (pv 1) (pe_lst (pa_so (pe_is (x := "MayStand") E G 45 (pv 0)) (pa_so (pe_is (x := "Empty") E G 46 (pv 0)) (pa_so (pe_is (x := "NothingToUndo") E G 47 (pv 0)) pa_so0))))))
    (pss_one (ps_ret (pe_op op_cat (pv 1) (pe_lst (pa_so (pe_is (x := "NothingToRedo") E G 48 (pv 0)) pa_so0)))))))))))))))))))), ?_⟩
  have hx := ErS.xH (p := p0) (CX := CX0) (P := P) (w := w) (K := K) (mg := mg) (base := base) (N := ["e", "found"]) (q := "_law_sorts") (sc := defScope s_law_sorts) (f := f) (cd := cdv) (A := A) (E := E0) he (Same.refl H)
  refine so_first2 (a := a) E (fun Q q => ⟨_, rfl, q⟩) hx hk (by decide) (by decide) fun p1 H1 g1 => ?_
  refine so_cat2 (a := a) E (fun Q q => ⟨_, rfl, q⟩) hx hk g1 (by decide) (by decide +kernel) fun p2 H2 g2 => ?_
  refine so_cat2 (a := a) E (fun Q q => ⟨_, rfl, q⟩) hx hk g2 (by decide) (by decide +kernel) fun p3 H3 g3 => ?_
  refine so_cat2 (a := a) E (fun Q q => ⟨_, rfl, q⟩) hx hk g3 (by decide) (by decide +kernel) fun p4 H4 g4 => ?_
  refine so_cat2 (a := a) E (fun Q q => ⟨_, rfl, q⟩) hx hk g4 (by decide) (by decide +kernel) fun p5 H5 g5 => ?_
  refine so_cat2 (a := a) E (fun Q q => ⟨_, rfl, q⟩) hx hk g5 (by decide) (by decide +kernel) fun p6 H6 g6 => ?_
  refine so_cat2 (a := a) E (fun Q q => ⟨_, rfl, q⟩) hx hk g6 (by decide) (by decide +kernel) fun p7 H7 g7 => ?_
  refine so_cat2 (a := a) E (fun Q q => ⟨_, rfl, q⟩) hx hk g7 (by decide) (by decide +kernel) fun p8 H8 g8 => ?_
  refine so_cat2 (a := a) E (fun Q q => ⟨_, rfl, q⟩) hx hk g8 (by decide) (by decide +kernel) fun p9 H9 g9 => ?_
  refine so_cat2 (a := a) E (fun Q q => ⟨_, rfl, q⟩) hx hk g9 (by decide) (by decide +kernel) fun p10 H10 g10 => ?_
  refine so_cat2 (a := a) E (fun Q q => ⟨_, rfl, q⟩) hx hk g10 (by decide) (by decide +kernel) fun p11 H11 g11 => ?_
  refine so_cat2 (a := a) E (fun Q q => ⟨_, rfl, q⟩) hx hk g11 (by decide) (by decide +kernel) fun p12 H12 g12 => ?_
  refine so_cat2 (a := a) E (fun Q q => ⟨_, rfl, q⟩) hx hk g12 (by decide) (by decide +kernel) fun p13 H13 g13 => ?_
  refine so_cat2 (a := a) E (fun Q q => ⟨_, rfl, q⟩) hx hk g13 (by decide) (by decide +kernel) fun p14 H14 g14 => ?_
  refine so_cat2 (a := a) E (fun Q q => ⟨_, rfl, q⟩) hx hk g14 (by decide) (by decide +kernel) fun p15 H15 g15 => ?_
  refine so_last2 (a := a) E (fun Q q => ⟨_, rfl, q⟩) hx hk g15 (by decide) (by decide +kernel) fun p16 H16 g16 => q p16 H16 ?_
  rw [show List.range 49 = [0, 1, 2] ++ [3, 4, 5] ++ [6, 7, 8] ++ [9, 10, 11] ++ [12, 13, 14] ++ [15, 16, 17] ++ [18, 19, 20] ++ [21, 22, 23] ++ [24, 25, 26] ++ [27, 28, 29] ++ [30, 31, 32] ++ [33, 34, 35, 36] ++ [37, 38, 39, 40] ++ [41, 42, 43, 44] ++ [45, 46, 47] ++ [48] from by decide +kernel]
  exact g16
theorem hot_law_is (E : Errs P w K mg base ca NE) (G : Bl mg) (DA : DefAt K mg "_law_is" s_law_is) (cSo : CalleeHE P w K mg base 1 "_law_sorts" ["e"] (spSort ca)) : CalleeHE P w K mg base 2 "_law_is" ["e", "spot"] (spIs ca) := by
  refine calleeHE DA sc_law_is (fun s ou vs H Q E h => by obtain ⟨a, k, x, rfl, _⟩ := h; rfl) (fun _ _ _ _ _ _ us hl => match us, hl with | [_, _], _ => rfl) fun f cdv A outer s H vs Q E0 p0 hgu hot hr h => ?_
  obtain ⟨a, k, x, rfl, he, hk, q⟩ := h
  have hu64 : (A.deeper (envOfC "_law_is" (defScope s_law_is) s.heap.objs.size f cdv)).units + 64 < cLine := by have := hr.un; omega
  refine ⟨_, (pss_cons (ps_set (i := 2) sc_law_is.nd rfl (Or.inr rfl) (pe_calHE cSo (hot_cxH hot) hgu hr (by decide) (pa_cons (pv 0) pa_nil)))
    (pss_cons (ps_if (PW.pt (pw_or (pt_not (pt_val (pe_callB call_isiE (by rfl) G.b_isinstance (by decide +kernel) (pa_cons (pv 0) (pa_cons (pe_glob (v := .ref NE) (by rfl) E.gNE rfl) pa_nil))))) (pw_or1 (pt_not (pt_val (pe_callB call_isiE (by rfl) G.b_isinstance (by decide +kernel) (pa_cons (pv 0) (pa_cons (pe_bltn (v := .ty "ValueError") (u := .type "ValueError") (by rfl) G.b_ValueError (by decide +kernel) rfl) pa_nil)))))))) (pss_one (ps_ret pe_bl)) pss_nil)
    (pss_one (ps_ret (pe_cmpR (op_eqD hu64) (pe_lcHot (own := [("k", 3)]) (g := gName 3) (tt := tB (tOp (rIxL K) (tVar 2) (tVar 3))) (hot_cxH hot) sc_law_is.nd (L2H.pi_range1H (by rfl) G.b_range (pa_cons (pe_callB call_len_seq (by rfl) G.b_len (by decide +kernel) (pa_cons (pv 2) pa_nil)) pa_nil)) (blkOk_by (N := ["e", "spot", "sorts", "k"]) (sc := defScope s_law_is) (by decide +kernel)) (fun _ _ _ _ _ => (pg_name (i := 3) sc_law_is.nd rfl (Or.inl rfl))) (fun _ _ _ _ _ => (pts_one (pt_val (pe_ix ix_list (pv 2) (pv 3) (fun _ _ => rfl))))) (fun _ _ _ _ _ => (pv 3))) (pe_lst (pa_cons (pv 1) pa_nil)) (nomark _)))))), ?_⟩
  have hx := ErS.xH (p := p0) (CX := CX0) (P := P) (w := w) (K := K) (mg := mg) (base := base) (N := ["e", "spot", "sorts", "k"]) (q := "_law_is") (sc := defScope s_law_is) (f := f) (cd := cdv) (A := A) (E := E0) he (Same.refl H)
  refine ⟨_, rfl, fun pins s1 I => ⟨a, k, x, rfl, ErX.s I hx, hk, fun p H1 g1 => ?_⟩⟩
  have h1 := hx.same g1.1
  refine ⟨_, rfl, .ref a, .ref NE, _, _, _, rfl, .own NE, .inr ⟨a, ca k, x, rfl, rfl, h1, (E.all k hk).xc⟩, (E.all k hk).kn, _, rfl, iteF ⟨_, rfl, .ref a, .ty "ValueError", _, _, _, rfl, .ty _, .inr ⟨a, ca k, x, rfl, rfl, h1, (E.all k hk).xc⟩, (E.all k hk).kv, _, rfl, iteF ?_⟩⟩
  refine ⟨_, rfl, p, _, rfl, .inl (SqL.of g1.2), 49, rfl, by decide, by decide, fun D hD => ?_⟩
  refine lc_range (lo := 0) (n := 49) (fun i H' => Same H1 H' ∧ H' D = some (.lst ((List.range i).filterMap fun j => if decide (k = j) = true then some (V.int (j : Int)) else none))) ⟨same_new hD, upd_same⟩ ?_ ?_
  · rintro i H2 hi ⟨s2, d2⟩
    refine ⟨rfl, ?_⟩
    have at_i : atI ((List.range 49).map fun j => V.bl (decide (k = j))) ((0 : Int) + (i : Int)) = some (.bl (decide (k = i))) := by
      rw [Int.zero_add]
      exact atI_nat (by rw [List.getElem?_map, List.getElem?_range hi]; rfl)
    refine ⟨_, rfl, _, rfl, p, _, _, _, rfl, rfl, SqL.of (s2 _ _ g1.2), at_i, _, rfl, ?_⟩
    have stp : ∀ b : Bool, ((List.range (i + 1)).filterMap fun j => if decide (k = j) = true then some (V.int (j : Int)) else none) = ((List.range i).filterMap fun j => if decide (k = j) = true then some (V.int (j : Int)) else none) ++ (if decide (k = i) = true then [V.int (i : Int)] else []) := fun _ => by
      rw [List.range_succ, List.filterMap_append]
      by_cases e : k = i
      · subst e; simp
      · simp [e]
    refine itb (fun e1 => ?_) fun e1 => ?_
    · refine ⟨_, rfl, _, d2, ?_, Same.put s2 hD, ?_⟩
      · exact small1000 (Nat.le_trans (List.length_filterMap_le ..) (by rw [List.length_range]; omega))
      · rw [stp true, if_pos e1, upd_same]
        simp
    · refine ⟨s2, ?_⟩
      rw [stp true, if_neg (by simp [e1]), List.append_nil]
      exact d2
  · rintro H2 ⟨s2, d2⟩
    rw [one_k, if_pos hk] at d2
    refine ⟨_, rfl, by rw [sizeLine_eq]; show 1 ≤ _; omega, fun p2 h2 => ?_⟩
    have w2 := same_new (o := .lst [.int (k : Int)]) h2
    refine ⟨.list [.int (k : Int)], .list [.int (k : Int)], .lst (SqL.of (w2 _ _ d2)) (.cons (.int _) .nil), .lst (SqL.of upd_same) (.cons (.int _) .nil), rfl, rfl, ?_⟩
    have e : PyData.eqv (.list [.int (k : Int)]) (.list [.int (k : Int)]) = true := by simp [PyData.eqv, PyData.eqvAll]
    rw [e]
    exact q _ ((g1.1.trans s2).trans w2)
theorem hot_law_kept (E : Errs P w K mg base ca NE) (G : Bl mg) (DA : DefAt K mg "_law_kept" s_law_kept) : CalleeHE P w K mg base 1 "_law_kept" ["e"] (spKept ca) := by
  refine calleeHE DA sc_law_kept (fun s ou vs H Q E h => by obtain ⟨a, k, x, rfl, _⟩ := h; rfl) (fun _ _ _ _ _ _ us hl => match us, hl with | [_], _ => rfl) fun f cdv A outer s H vs Q E0 p0 hgu hot hr h => ?_
  obtain ⟨a, k, v, rfl, he, hk, q⟩ := h
  refine ⟨_, (pss_cons (ps_if (pt_val (pe_callB call_isiTE (by rfl) G.b_isinstance (by decide +kernel) (pa_cons (pv 0) (pa_cons (pe_tup (pa_cons (pe_glob (v := .ref (ca 32)) (by rfl) (E.g 32 (by decide)) rfl) (pa_cons (pe_glob (v := .ref (ca 33)) (by rfl) (E.g 33 (by decide)) rfl) pa_nil))) pa_nil)))) (pss_one (ps_ret (pe_erF (pv 0)))) pss_nil)
    (pss_cons (ps_if (pt_val (pe_is (x := "TooMany") E G 34 (pv 0))) (pss_one (ps_ret (pe_erF (pv 0)))) pss_nil)
    (pss_cons (ps_if (pt_val (pe_callB call_isiTE (by rfl) G.b_isinstance (by decide +kernel) (pa_cons (pv 0) (pa_cons (pe_tup (pa_cons (pe_glob (v := .ref (ca 35)) (by rfl) (E.g 35 (by decide)) rfl) (pa_cons (pe_glob (v := .ref (ca 36)) (by rfl) (E.g 36 (by decide)) rfl) pa_nil))) pa_nil)))) (pss_one (ps_ret (pe_erF (pv 0)))) pss_nil)
    (pss_cons (ps_if (pt_val (pe_is (x := "NoSolution") E G 37 (pv 0))) (pss_one (ps_ret (pe_erF (pv 0)))) pss_nil)
    (pss_cons (ps_if (pt_val (pe_callB call_isiTE (by rfl) G.b_isinstance (by decide +kernel) (pa_cons (pv 0) (pa_cons (pe_tup (pa_cons (pe_glob (v := .ref (ca 38)) (by rfl) (E.g 38 (by decide)) rfl) (pa_cons (pe_glob (v := .ref (ca 42)) (by rfl) (E.g 42 (by decide)) rfl) pa_nil))) pa_nil)))) (pss_one (ps_ret (pe_erF (pv 0)))) pss_nil)
    (pss_cons (ps_if (pt_val (pe_is (x := "Near") E G 39 (pv 0))) (pss_one (ps_ret (pe_erF (pv 0)))) pss_nil)
    (pss_cons (ps_if (pt_val (pe_is (x := "Still") E G 40 (pv 0))) (pss_one (ps_ret (pe_erF (pv 0)))) pss_nil)
    (pss_cons (ps_if (pt_val (pe_is (x := "NotNumber") E G 41 (pv 0))) (pss_one (ps_ret (pe_erF (pv 0)))) pss_nil)
    (pss_cons (ps_if (pt_val (pe_is (x := "KeptUp") E G 43 (pv 0))) (pss_one (ps_ret (pe_erF (pv 0)))) pss_nil)
    (pss_one (ps_ret (pe_erF (pv 0))))))))))))), ?_⟩
  have hx := ErS.xH (p := p0) (CX := CX0) (P := P) (w := w) (K := K) (mg := mg) (base := base) (N := ["e"]) (q := "_law_kept") (sc := defScope s_law_kept) (f := f) (cd := cdv) (A := A) (E := E0) he (Same.refl H)
  have h49 : k < 49 := Nat.lt_trans hk (by decide)
  obtain ⟨f1, f2, f3, f4, f5, f6, f7, f8, f9, f10⟩ := efl_of k hk
  refine ⟨_, rfl, k2_go E hx h49 (by decide) (by decide) (fun e H1 s1 => ⟨_, rfl, kp_go E (hx.same s1) hk (f1 e) (q _ s1)⟩) fun n1 H1 s1 => ?_⟩
  refine ⟨_, rfl, is_go E (hx.same s1) h49 (i := 34) (by decide) ⟨_, rfl, itd (fun e => ⟨_, rfl, kp_go E (hx.same s1) hk (f2 e) (q _ s1)⟩) fun n2 => ?_⟩⟩
  refine ⟨_, rfl, k2_go E (hx.same s1) h49 (by decide) (by decide) (fun e H2 s2 => ⟨_, rfl, kp_go E (hx.same (s1.trans s2)) hk (f3 e) (q _ (s1.trans s2))⟩) fun n3 H2 s2 => ?_⟩
  have s2 := s1.trans s2
  refine ⟨_, rfl, is_go E (hx.same s2) h49 (i := 37) (by decide) ⟨_, rfl, itd (fun e => ⟨_, rfl, kp_go E (hx.same s2) hk (f4 e) (q _ s2)⟩) fun n4 => ?_⟩⟩
  refine ⟨_, rfl, k2_go E (hx.same s2) h49 (by decide) (by decide) (fun e H2 s3 => ⟨_, rfl, kp_go E (hx.same (s2.trans s3)) hk (f5 e) (q _ (s2.trans s3))⟩) fun n5 H3 s3 => ?_⟩
  have s3 := s2.trans s3
  refine ⟨_, rfl, is_go E (hx.same s3) h49 (i := 39) (by decide) ⟨_, rfl, itd (fun e => ⟨_, rfl, kp_go E (hx.same s3) hk (f6 e) (q _ s3)⟩) fun n6 => ?_⟩⟩
  refine ⟨_, rfl, is_go E (hx.same s3) h49 (i := 40) (by decide) ⟨_, rfl, itd (fun e => ⟨_, rfl, kp_go E (hx.same s3) hk (f7 e) (q _ s3)⟩) fun n7 => ?_⟩⟩
  refine ⟨_, rfl, is_go E (hx.same s3) h49 (i := 41) (by decide) ⟨_, rfl, itd (fun e => ⟨_, rfl, kp_go E (hx.same s3) hk (f8 e) (q _ s3)⟩) fun n8 => ?_⟩⟩
  refine ⟨_, rfl, is_go E (hx.same s3) h49 (i := 43) (by decide) ⟨_, rfl, itd (fun e => ⟨_, rfl, kp_go E (hx.same s3) hk (f9 e) (q _ s3)⟩) fun n9 => ?_⟩⟩
  exact ⟨_, rfl, kp_go E (hx.same s3) hk (f10 (by omega)) (q _ s3)⟩
end
end NH
set_option maxHeartbeats 4000000
namespace NH
open PySem PySem.Spec PyProof.Rows L2 TL
/-- == by an own __eq__, where an error is handled -/
theorem op_eqHot {X : Cx} {n : Nat} {f C : Addr} {fd : FuncData} {ps : List Str} {R : Addr → Addr → Hp → Prop} (F1 : FnHE X.prog X.w X.K X.mg X.base n f fd ps fun _ _ => spEq R) (hot : L2H.HotC X) (hgu : X.A.guards = some []) (hr : L2H.RoomH n X.A)
    (own : PySem.W.findIn X.K (.ref C) "__eq__" = some (some (.ref f))) (fn : PySem.W.isFn X.K (.ref f) = true) (bnd : Binds X.K fd ps []) : OpR X (compareOp .Eq) (rEqG (DIns C R)) := by
  intro pins s σ H x y v u Q I rx ry ⟨⟨a, b, dx, dy, fs, gs, ex, ey, ha, hb, hR⟩, q⟩
  subst ex ey; cases rx; cases ry
  obtain ⟨pp, h1, hp⟩ := hot
  obtain ⟨_, Ja, _⟩ := ins_get I.hok ha
  obtain ⟨_, Jb, _⟩ := ins_get I.hok hb
  obtain ⟨_, Ja, _⟩ := Ja.look
  obtain ⟨_, Jb, _⟩ := Jb.look
  obtain ⟨m, hF⟩ := I.fr
  show wpAny (model X.prog X.w) X.A (richCompare .Eq (.ref a) (.ref b)) (EP X pins σ Q) X.xe s
  refine PySem.W.cmp_K (op := .Eq) (tb := .ref C) (by have := hr.un; omega) hF I.ok.mod.kin Ja Jb.type (by simp [PySem.W.notFirst]) own fn ?_
  have want : spEq R [.ref a, .ref b] H (fun v G => v = .bl true ∧ Q (.bl true) G) E0 := ⟨a, b, rfl, hR, fun G e => ⟨rfl, q G e⟩⟩
  have l := F1.long s X.stack _ _ _ _ want
  have b2 := bnd s [.ref a, .ref b] I.kIn (by simpa using l)
  rw [List.append_nil] at b2
  refine wpAny_call (codeAny_mono (F1.goes X.A X.stack s H ⟨[.ref a, .ref b], []⟩ [.ref a, .ref b] [.ref a, .ref b] _ E0 pp hgu hr h1 (pinOk_of I hp) I.env0 b2 (.cons rfl (.cons rfl .nil)) want) fun r z hz => ?_)
  match r, hz with
  | .ok (.ret w), hz =>
    obtain ⟨v, G, I2, rv, ev, q2⟩ := I.after hz
    subst ev
    cases rv
    exact ⟨.bl true, G, I2, rfl, q2⟩
section
variable {P : Program} {w : World} {K : PySem.W.Frag} {mg : Str → Option Value} {base : Heap} {ca : Nat → Addr} {NE C fI fH fE : Addr}
theorem hot_eq (Y : PEq P w K mg base C fE) (G : Bl mg) (T : PortsC K mg C fI fH) (F : ∃ fd, FunD K "__eq__" "Ports.__eq__" (defArgs s_eq) (defBody s_eq) (defScope s_eq) [] [] fE fd) :
    ∃ fd, Binds K fd ["self", "other"] [] ∧ FnHE P w K mg base 2 fE fd ["self", "other"] (fun _ _ => spEq (R2p C)) := by
  obtain ⟨fd, F⟩ := F
  refine ⟨fd, F.bindsN (fun _ _ _ _ _ _ us hl => match us, hl with | [_, _], _ => rfl), FnHE.make F sc_eq (fun s ou vs H Q E h => by obtain ⟨a, b, rfl, _⟩ := h; rfl) fun cdv A outer s H vs Q E p0 hgu hot hr h => ?_⟩
  obtain ⟨a, b, rfl, ⟨rfl, hP⟩, q⟩ := h
  have hu64 : (A.deeper (envOfC "Ports.__eq__" (defScope s_eq) s.heap.objs.size fE cdv)).units + 64 < cLine := by have := hr.un; omega
  refine ⟨_, (pss_cons (ps_if (pt_not (pt_val (pe_callB call_isi (by rfl) G.b_isinstance (by decide +kernel) (pa_cons (pv 1) (pa_cons (pe_glob (v := .ref C) (by rfl) T.g rfl) pa_nil))))) (pss_one (ps_ret pe_bl)) pss_nil)
    (pss_one (ps_ret (pe_cmpR (op_eqD hu64) (pe_fld (pv 0) rfl) (pe_fld (pv 1) rfl) (nomark _))))), ?_⟩
  have ty := Y.ty T hP
  obtain ⟨dx, fs, d, kvs, h1, l1, l2, h2, h3, tk, xs, k1, k2, k3⟩ := hP
  refine ⟨_, rfl, .ref a, .ref C, _, _, _, rfl, .own C, ty, kit_self, _, rfl, iteF ?_⟩
  refine ⟨_, rfl, a, C, dx, _, _, rfl, h1, T.cl, T.nK, k1, _, rfl, a, C, dx, _, _, rfl, h1, T.cl, T.nK, k1, ?_⟩
  cases k3 with
  | cons hx ht =>
    cases ht
    obtain ⟨t, rfl, h5⟩ := hx
    have dp : Dp K H (.ref tk) (.tuple [.tuple [.str "p", .int 2]]) := .tup (SqT.of k2) (.cons (.tup (SqT.of h5) (.cons (.str _) (.cons (.int _) .nil))) .nil)
    have e : PyData.eqv (.tuple [.tuple [.str "p", .int 2]]) (.tuple [.tuple [.str "p", .int 2]]) = true := by decide +kernel
    exact ⟨_, _, dp, dp, by decide +kernel, by decide +kernel, by rw [e]; exact q _ Ext.rfl'⟩
theorem hot_law_same (E : Errs P w K mg base ca NE) (Y : PEq P w K mg base C fE) (T : PortsC K mg C fI fH) (Z : EPk K ca NE C) (t2 : TyT K (ca 2)) (tn : TyT K NE) (tc : TyT K C) (G : Bl mg) (sm : ∃ o, base.get? sysModules = some o)
    (FE : ∃ fd, Binds K fd ["self", "other"] [] ∧ FnHE P w K mg base 2 fE fd ["self", "other"] (fun _ _ => spEq (R2p C))) (DA : DefAt K mg "_law_same" s_law_same) : CalleeHE P w K mg base 3 "_law_same" ["kept", "thing"] (fun _ _ => spSame ca C) := by
  refine calleeHE DA sc_law_same (fun s ou vs H Q E h => by obtain ⟨v, rfl, _⟩ := h; rfl) (fun _ _ _ _ _ _ us hl => match us, hl with | [_, _], _ => rfl) fun f cdv A outer s H vs Q E0 p0 hgu hot hr h => ?_
  obtain ⟨v, rfl, ht, q⟩ := h
  have hu64 : (A.deeper (envOfC "_law_same" (defScope s_law_same) s.heap.objs.size f cdv)).units + 64 < cLine := by have := hr.un; omega
  obtain ⟨fdE, bE, okE⟩ := FE
  refine ⟨_, (pss_cons (ps_if (pt_val (pe_is (x := "InvalidText") E G 2 (pv 1))) (pss_one (ps_ret (pe_and (pe_is (x := "InvalidText") E G 2 (pv 0)) (pe_one (pe_cmpR op_eq (pe_erF (pv 0)) pe_str (nomark _)))))) pss_nil)
    (pss_cons (ps_if (pt_val (pe_callB call_isiE (by rfl) G.b_isinstance (by decide +kernel) (pa_cons (pv 1) (pa_cons (pe_glob (v := .ref C) (by rfl) T.g rfl) pa_nil)))) (pss_one (ps_ret (pe_and (pe_callB call_isiE (by rfl) G.b_isinstance (by decide +kernel) (pa_cons (pv 0) (pa_cons (pe_glob (v := .ref C) (by rfl) T.g rfl) pa_nil))) (pe_one (pe_cmpR (op_eqHot (R := R2p C) okE (hot_cxH hot) (by exact hgu) (hr.mono (by decide)) Y.hs Y.hf bE) (pv 0) (pv 1) (nomark _)))))) pss_nil)
    (pss_one (ps_ret (pe_and (pe_not (pe_callB call_isiTE (by rfl) G.b_isinstance (by decide +kernel) (pa_cons (pv 0) (pa_cons (pe_tup (pa_cons (pe_glob (v := .ref NE) (by rfl) E.gNE rfl) (pa_cons (pe_glob (v := .ref C) (by rfl) T.g rfl) pa_nil))) pa_nil)))) (pe_one (pe_cmpR op_eq (pe_callB (call_reprT hgu hu64 sm) (by rfl) G.b_repr (by decide +kernel) (pa_cons (pv 0) pa_nil)) (pe_callB (call_reprT hgu hu64 sm) (by rfl) G.b_repr (by decide +kernel) (pa_cons (pv 1) pa_nil)) (nomark _)))))))), ?_⟩
  have ty := Thing.ty (X := (L2H.cxH CX0 P w K mg base ["kept", "thing"] "_law_same" (defScope s_law_same) f cdv A outer s H E0 p0)) E Y T Z t2 tn tc ht
  rcases ty with ⟨a, rfl, he⟩ | ⟨p, rfl, hp⟩ | ⟨t, z, h1, h2, h3, h4, h5⟩
  · refine ⟨_, rfl, is_go E he.x (by decide) (i := 2) (by decide) ⟨_, rfl, iteT ?_⟩⟩
    refine ⟨_, rfl, is_go E he.x (by decide) (i := 2) (by decide) ⟨_, rfl, iteT ?_⟩⟩
    refine ⟨_, rfl, a, ca 2, .str "x", rfl, he.x, (E.all 2 (by decide)).xf, E.no 2 (by decide), ?_⟩
    exact ⟨rfl, q _ (Same.refl H)⟩
  · have tyP := Y.ty T hp
    refine ⟨_, rfl, .ref p, .ref (ca 2), _, _, _, rfl, .own _, .inl tyP, Z.pe 2 (by decide), _, rfl, iteF ?_⟩
    refine ⟨_, rfl, .ref p, .ref C, _, _, _, rfl, .own _, .inl tyP, kit_self, _, rfl, iteT ?_⟩
    refine ⟨_, rfl, .ref p, .ref C, _, _, _, rfl, .own _, .inl tyP, kit_self, _, rfl, iteT ?_⟩
    obtain ⟨dx, fs, d, kvs, h1, _⟩ := id hp
    exact ⟨_, rfl, _, rfl, ⟨p, p, dx, dx, fs, fs, rfl, rfl, h1, h1, rfl, hp⟩, fun H' e => q _ e⟩
  · refine ⟨_, rfl, v, .ref (ca 2), _, _, _, rfl, .own _, .inl h1, h2, _, rfl, iteF ?_⟩
    refine ⟨_, rfl, v, .ref C, _, _, _, rfl, .own _, .inl h1, h4, _, rfl, iteF ?_⟩
    refine ⟨_, rfl, by rw [sizeLine_eq]; show 2 ≤ _; omega, fun p hp => ?_⟩
    have w := same_new (o := .tup [V.ref NE, V.ref C]) hp
    refine ⟨v, p, _, _, _, false, rfl, upd_same, .cons (.own _) (.cons (.own _) .nil), .inl (tyx_same w h1), kitAny_cons h3 (fun _ => kitAny_cons h4 (fun _ => kitAny_nil) fun e => by cases e) (fun e => by cases e), _, rfl, _, rfl, iteT ?_⟩
    refine ⟨_, rfl, v, z, rfl, h5.same w, _, rfl, v, z, rfl, h5.same w, rfl, ?_⟩
    rw [decide_eq_true rfl]
    exact q _ w
end
end NH
set_option maxHeartbeats 4000000
namespace NH
open PySem PySem.Spec PyProof.Rows L2 TL
/-! errors raised where nothing is handled, as ExcCtx wants them -/
section
variable {X : Cx} {C fI : Addr} {k : Nat} {fd : FuncData} {sp : Sp} {x fld : Str} {e : Expr} {te : TE} {p pos kp : Pos}
theorem mkN_end {pins : List (Addr × Obj)} {σ : L2.St} {H1 : Hp} {hp : Heap} {g : Array GenState} {dr : Drawn} {tk : Tok} {os : OsState} {us : List Value} {Q : XK} (T : OexC X.K C) (I1 : Inv X pins σ H1 ⟨hp, g, dr, tk, os⟩) {u : Value} {s' : Shared}
    (hq' : CR CX0 X.stack X.prog X.w (upd H1 (hp.objs.size + 1) (exo (hp.objs.size + 1) C none)) ⟨(hp.push (PySem.W.kdv_tup us)).push (PySem.HandSPX.excO C hp.objs.size), g, dr, tk, os⟩
      (fun v H2 => v = .non ∧ ∃ (d : Addr) (fs : List (Str × V)), H2 (hp.objs.size + 1) = some (exo (hp.objs.size + 1) C (some d)) ∧ H2 d = some (exd d fs) ∧ H1 d = none ∧ Q (.ref C) (some d) (upd (del H2 (hp.objs.size + 1)) d (.xd fs))) (fun _ _ _ => False) (.ok (.ret u)) s') :
    u = .none ∧ L2N.MkP X pins σ Q (.ref (hp.objs.size + 1)) s' := by
  have kk : ∀ b o, hp.get? b = some o → ((hp.push (PySem.W.kdv_tup us)).push (PySem.HandSPX.excO C hp.objs.size)).get? b = some o := fun b o e => Heap.get?_push_of_some _ (Heap.get?_push_of_some _ e)
  obtain ⟨v, H2, os2, bare2, un2, hok2, rv, ev, d, fs, ea, ed, hd1, q2⟩ := hq'
  subst ev
  obtain ⟨h2, g2, d2, t2, os'⟩ := s'
  obtain ⟨t0, G, J, kG, ge, hoe, na⟩ := mk_end0 (d2 := d2) (t2 := t2) I1 (Nat.le_succ _) kk un2 hok2 os2 bare2 ea ed hd1
  exact ⟨rv, hp.objs.size + 1, _, _, ⟨G, g2, d2, t2, os'⟩, _, .ref C, some d, rfl, J, kG, ge, hoe, ⟨rfl, rfl, fun vs hv => by cases hv; rfl⟩, rfl, rfl, na, rfl, bare2, raises_own T.exC T.tyC, q2⟩
theorem pmkN_x (T : OexC X.K C) (iC : PySem.W.findIn X.K (.ref C) "__init__" = some (some (.ref fI))) (tI : PySem.W.typeIn X.K (.ref fI) = some (.type "function"))
    (F1 : FnOk X.prog X.w X.K X.mg X.base CX0 k fI fd ["self", fld] sp) (hr : Room (k + 1) X.A) (hb : BindP X.K fd fld) (hm : X.mg x = some (.ref C)) (ha : PE X e te) (hg : Gl X x := by rfl)
    (hdb : (x == ("__debug__" : Str)) = false := by decide) (he : starEach [e] X.env = (false, eval e X.env) :: starEach [] X.env := by rfl) (hpl : (backTo pos (starEach [] X.env)).any (·.1) = false := by rfl) :
    L2N.PMk X (.Call (.Name x p) [e] [] pos) (tMkR C sp (tCons te tNil)) := by
  intro pins s σ H Q I h
  refine wpAny_Call_Name_kw (ld_glob I hg hm ?_ hdb)
  have hpa : PA X [e] (tCons te tNil) := pa_cons ha pa_nil he
  refine PySem.W.callWith_K (h₀ := X.base) I.ok.mod.kin T.kC (thn (hpa.run pos pins s σ H _ I h) fun us s1 ⟨vs, H1, I1, r1, hz, q1⟩ => ⟨I1.kIn, ?_⟩) he hpl
  obtain ⟨hp, g, dr, tk, os⟩ := s1
  have hq := q1 (hp.objs.size + 1) (I1.hok.fresh (Nat.le_succ _))
  have l2 : us.length = 1 := by
    have e1 := F1.len _ _ _ _ hq
    have e2 := Paired.length r1
    simp at e1; omega
  match us, l2 with
  | [u], _ => exact mkx_core (.inl rfl) T iC tI F1 hr I1 (by rw [sizeLine_eq]; show 1 ≤ _; omega) (fun s' k => hb s' _ _ k) r1 hq fun I2 u s' hq' => mkN_end T I1 hq'
theorem pmkN_xK (T : OexC X.K C) (iC : PySem.W.findIn X.K (.ref C) "__init__" = some (some (.ref fI))) (tI : PySem.W.typeIn X.K (.ref fI) = some (.type "function"))
    (F1 : FnOk X.prog X.w X.K X.mg X.base CX0 k fI fd ["self", fld] sp) (hr : Room (k + 1) X.A) (hb : BindK X.K fd fld) (hm : X.mg x = some (.ref C)) (ha : PE X e te) (hg : Gl X x := by rfl)
    (hdb : (x == ("__debug__" : Str)) = false := by decide) (hall : (backToKw pos (keywordEach [⟨some fld, e, kp⟩] X.env)).all (·.1.isSome) = true := by rfl) (hks : (backToKw pos (keywordEach [⟨some fld, e, kp⟩] X.env)).filterMap (·.1) = [fld] := by rfl)
    (hpl : ((backTo pos (starEach [] X.env)).any (·.1) || (backToKw pos (keywordEach [⟨some fld, e, kp⟩] X.env)).any (·.1.isNone)) = false := by rfl) :
    L2N.PMk X (.Call (.Name x p) [] [⟨some fld, e, kp⟩] pos) (tMkR C sp (tCons te tNil)) := by
  intro pins s σ H Q I h
  refine wpAny_Call_Name_kw (ld_glob I hg hm ?_ hdb)
  have hkw : PK X [⟨some fld, e, kp⟩] (tCons te tNil) := pk_cons ha pk_nil
  refine PySem.W.callWith_KW0 (h₀ := X.base) I.ok.mod.kin T.kC hall (thn (hkw.run pos pins s σ H _ I h) fun us s1 ⟨vs, H1, I1, r1, hz, q1⟩ => ⟨I1.kIn, ?_⟩) hpl
  rw [hks]
  obtain ⟨hp, g, dr, tk, os⟩ := s1
  have hq := q1 (hp.objs.size + 1) (I1.hok.fresh (Nat.le_succ _))
  have l2 : us.length = 1 := by
    have e1 := F1.len _ _ _ _ hq
    have e2 := Paired.length r1
    simp at e1; omega
  match us, l2 with
  | [u], _ => exact mkx_core (us := []) (.inr rfl) T iC tI F1 hr I1 (Nat.zero_le _) (fun s' k => hb s' _ _ k) r1 hq fun I2 u s' hq' => mkN_end T I1 hq'
theorem pmkN_0 {bmB : List Value} {B newId initId : String} (F : ExcBaseFacts B newId initId bmB) (q : PySem.W.excIn X.K C bmB newId = true) (gC : X.mg x = some (.ref C)) (kC : PySem.W.keepIn X.K (.ref C) = true) (r : Raises X (.ref C)) (hg : Gl X x := by rfl)
    (hdb : (x == ("__debug__" : Str)) = false := by decide) : L2N.PMk X (.Call (.Name x p) [] [] pos) (fun _ H Q => Q (.ref C) none H) := by
  intro pins s σ H Q I h
  refine wpAny_Call_Name_kw (ld_glob I hg gC ?_ hdb)
  refine PySem.W.callWith_K0 I.kIn kC ?_
  have I1 := I
  show wpAny _ _ (call (.ref C) []) _ _ _
  obtain ⟨bm, N, nm, qn, bs, hdct, sn, sub, ab, col, dd, k0, k1, k2, k3, k5, mN, hC, hN, hni, T⟩ := exc_obj I1.kIn q
  exact wpAny_call_exc_subT F T hC hN hni (fun h' e hm => L2N.mk_of I1 hm r h (I1.hok.gone hm.new)) (Nat.zero_le _)
end
section
variable {X : Cx} {ca : Nat → Addr} {NE : Addr} {j i : Nat} {x : Str} {e : Expr} {te : TE} {p pos : Pos} {kp : Pos} {fld : Str}
theorem pmkN_er (E : Errs X.prog X.w X.K X.mg X.base ca NE) (i : Nat) (hr : Room j X.A) (ha : PE X e te) (hi : i < 44 := by decide) (hj : 2 ≤ j := by decide) (hx : enm i = x := by rfl) (hg : Gl X x := by rfl)
    (hdb : (x == ("__debug__" : Str)) = false := by decide) (he : starEach [e] X.env = (false, eval e X.env) :: starEach [] X.env := by rfl) (hpl : (backTo pos (starEach [] X.env)).any (·.1) = false := by rfl) :
    L2N.PMk X (.Call (.Name x p) [e] [] pos) (tErR ca i te) := by
  obtain ⟨fI, iC, tI, fd, bp, bk, F1⟩ := E.own i hi
  have z := E.all i (Nat.lt_trans hi (by decide))
  exact pmkN_x z.T iC tI F1 (hr.mono hj) bp (by rw [← hx]; exact E.g i (Nat.lt_trans hi (by decide))) ha hg hdb he hpl
theorem pmkN_erK (E : Errs X.prog X.w X.K X.mg X.base ca NE) (i : Nat) (hr : Room j X.A) (ha : PE X e te) (hi : i < 44 := by decide) (hj : 2 ≤ j := by decide) (hx : enm i = x := by rfl) (hf : efl i = fld := by rfl) (hg : Gl X x := by rfl)
    (hdb : (x == ("__debug__" : Str)) = false := by decide) (hall : (backToKw pos (keywordEach [⟨some fld, e, kp⟩] X.env)).all (·.1.isSome) = true := by rfl) (hks : (backToKw pos (keywordEach [⟨some fld, e, kp⟩] X.env)).filterMap (·.1) = [fld] := by rfl)
    (hpl : ((backTo pos (starEach [] X.env)).any (·.1) || (backToKw pos (keywordEach [⟨some fld, e, kp⟩] X.env)).any (·.1.isNone)) = false := by rfl) :
    L2N.PMk X (.Call (.Name x p) [] [⟨some fld, e, kp⟩] pos) (tErR ca i te) := by
  subst hf
  obtain ⟨fI, iC, tI, fd, bp, bk, F1⟩ := E.own i hi
  have z := E.all i (Nat.lt_trans hi (by decide))
  exact pmkN_xK z.T iC tI F1 (hr.mono hj) bk (by rw [← hx]; exact E.g i (Nat.lt_trans hi (by decide))) ha hg hdb hall hks hpl
theorem pmkN_er0 (E : Errs X.prog X.w X.K X.mg X.base ca NE) (i : Nat) (hi : 44 ≤ i := by decide) (hi2 : i < 49 := by decide) (hx : enm i = x := by rfl) (hg : Gl X x := by rfl) (hdb : (x == ("__debug__" : Str)) = false := by decide) :
    L2N.PMk X (.Call (.Name x p) [] [] pos) (fun _ H Q => Q (.ref (ca i)) none H) :=
  pmkN_0 F.excBase_ValueError (E.bare i hi hi2) (by rw [← hx]; exact E.g i hi2) (E.all i hi2).T.kC (raises_own (E.all i hi2).T.exC (E.all i hi2).T.tyC) hg hdb
end
theorem takesN0 {X : Cx} : L2N.Takes X (fun _ _ _ _ => False) := fun _ _ ⟨_, _, _, _, _, _, _, _, _, _, _, _, _, _, _, _, w⟩ => w.elim
theorem hot_suite {X : Cx} {a : Addr} {oe : Obj} {pn : List (Addr × Obj)} {cls : Value} {d : Option Addr} (hz : L2N.Zn cls d oe) (hf : ∃ vs, oe.data = .fields vs) : L2H.HotC (X.suite a ((a, oe) :: pn)) := by
  obtain ⟨vs, hd⟩ := hf
  exact ⟨(a, oe), ⟨rfl, vs, hd, hz.2.2 vs hd⟩, List.mem_cons_self⟩
theorem erR_tm {ca : Nat → Addr} {i : Nat} {te : TE} {σ : L2.St} {H : Hp} {v : V} {Q : XK} (ht : ∀ H Q, Q v H → te σ H Q) (q : ∀ d H', H d = none → Same H H' → H' d = some (.xd [(efl i, v)]) → Q (.ref (ca i)) (some d) H') : tErR ca i te σ H Q :=
  ht _ _ (erR_go (H := H) (fld := efl i) (C := ca i) (v := v) (Q := Q) q)
theorem PSs.pre {X : Cx} {body : List Stmt} {t t' : TS} (p : PSs X body t) (i : ∀ D σ H, t' D σ H → t D σ H) : PSs X body t' := ⟨fun pins s σ H D I h => p.run pins s σ H D I (i D σ H h)⟩
section
variable {P : Program} {w : World} {K : PySem.W.Frag} {mg : Str → Option Value} {base : Heap} {ca : Nat → Addr} {NE C fI fH fE : Addr}
abbrev s_law_caught : Stmt := top 81
theorem sc_law_caught : FnScope ["way", "thing", "e"] ["way", "thing"] (defScope s_law_caught) := ⟨rfl, rfl, rfl, by decide +kernel, rfl, by decide +kernel, by decide +kernel⟩
def wl : List Nat := [6, 27, 32, 34, 42, 43, 37, 47]
def spCaught (ca : Nat → Addr) (C : Addr) : Sp := fun vs H Q _ => ∃ (wy : Nat) (v : V), vs = [.int (wy : Int), v] ∧ wy < 8 ∧ Thing ca C H v ∧ ∀ H', Same H H' → Q (.bl true) H'
theorem ok_law_caught (E : Errs P w K mg base ca NE) (EM : ∀ i, i < 49 → PySem.W.exmOne K (.ref (ca i)) (.ref NE) = some true) (G : Bl mg) (hIs : CalleeHE P w K mg base 2 "_law_is" ["e", "spot"] (spIs ca)) (hKe : CalleeHE P w K mg base 1 "_law_kept" ["e"] (spKept ca)) (hSa : CalleeHE P w K mg base 3 "_law_same" ["kept", "thing"] (fun _ _ => spSame ca C))
    (DA : DefAt K mg "_law_caught" s_law_caught) : CalleeG P w K mg base 4 "_law_caught" ["way", "thing"] (spCaught ca C) := by
  refine calleeG DA sc_law_caught (fun vs H Q E h => by obtain ⟨wy, v, rfl, _⟩ := h; rfl) (fun _ _ _ _ _ _ us hl => match us, hl with | [_, _], _ => rfl) fun f cdv A outer s H vs Q E0 hgu hr h => ?_
  obtain ⟨wy, v, rfl, hw, ht, q⟩ := h
  have hgA : (cxOf CX0 P w K mg base ["way", "thing", "e"] "_law_caught" (defScope s_law_caught) f cdv A outer s H E0).nox.A.guards = some [] := hgu
  have rH : ∀ {v : Option Value}, L2H.RoomH 3 ((A.deeper (envOfC "_law_caught" (defScope s_law_caught) s.heap.objs.size f cdv)).mark v) := ⟨hr.dp, hr.un⟩
  let tsX : Addr → Value → Option Addr → TS := fun a cls d D σ H1 => ∃ k, wl[wy]? = some k ∧ k < 49 ∧ cls = .ref (ca k) ∧ σ = [some (.int (wy : Int)), some v, some (.ref a)] ∧ Same H H1 ∧ D.rt = Q ∧ ((wy = 7 ∧ d = none) ∨ (wy < 7 ∧ k < 44 ∧ ∃ dd, d = some dd ∧ H1 dd = some (.xd [(efl k, v)])))
  let tbX : WX → TS := fun W D σ H1 => σ = [some (.int (wy : Int)), some v, none] ∧ H1 = H ∧ (∀ k, wl[wy]? = some k → wy < 7 → ∀ d H', H d = none → Same H H' → H' d = some (.xd [(efl k, v)]) → W (.ref (ca k)) (some d) σ H') ∧ (wy = 7 → W (.ref (ca 47)) none σ H)
  refine ⟨_, (pss_one (L2N.ps_try_as (i := 2) (tb := tbX) (ts := tsX) rfl rfl sc_law_caught.nd rfl rfl ⟨rfl, by decide, Or.inl E.gNE⟩ takesN0
      (fun W pn xe tk _ => PSs.pre (pss_cons (ps_if (pt_cmpR op_eq (pv 0) pe_int (nomark _)) (pss_one (L2N.ps_raise rfl tk (pmkN_er (x := "InvalidDoes") E 6 hr (pv 1)))) pss_nil)
        (pss_cons (ps_if (pt_cmpR op_eq (pv 0) pe_int (nomark _)) (pss_one (L2N.ps_raise rfl tk (pmkN_erK (x := "InvalidProcess") (fld := "given") E 27 hr (pv 1)))) pss_nil)
        (pss_cons (ps_if (pt_cmpR op_eq (pv 0) pe_int (nomark _)) (pss_one (L2N.ps_raise rfl tk (pmkN_er (x := "NotDue") E 32 hr (pv 1)))) pss_nil)
        (pss_cons (ps_if (pt_cmpR op_eq (pv 0) pe_int (nomark _)) (pss_one (L2N.ps_raise rfl tk (pmkN_erK (x := "TooMany") (fld := "count") E 34 hr (pv 1)))) pss_nil)
        (pss_cons (ps_if (pt_cmpR op_eq (pv 0) pe_int (nomark _)) (pss_one (L2N.ps_raise rfl tk (pmkN_erK (x := "Struck") (fld := "standing") E 42 hr (pv 1)))) pss_nil)
        (pss_cons (ps_if (pt_cmpR op_eq (pv 0) pe_int (nomark _)) (pss_one (L2N.ps_raise rfl tk (pmkN_er (x := "KeptUp") E 43 hr (pv 1)))) pss_nil)
        (pss_cons (ps_if (pt_cmpR op_eq (pv 0) pe_int (nomark _)) (pss_one (L2N.ps_raise rfl tk (pmkN_erK (x := "NoSolution") (fld := "denial") E 37 hr (pv 1)))) pss_nil)
        (pss_one (L2N.ps_raise rfl tk (pmkN_er0 (x := "NothingToUndo") E 47)))))))))) ?_)
      (fun a oe cls od pn hz hf => PSs.pre (pss_one (ps_ret (pe_and (pe_calHE (j := 3) hIs (hot_suite hz hf) (by exact hgA) (rH) (by decide) (pa_cons (pv 2) (pa_cons (pe_ix ix_list (pe_lst (pa_cons pe_int (pa_cons pe_int (pa_cons pe_int (pa_cons pe_int (pa_cons pe_int (pa_cons pe_int (pa_cons pe_int (pa_cons pe_int pa_nil))))))))) (pv 0) (fun _ _ => rfl)) pa_nil))) (pe_one (pe_or (pe_cmpR op_eq (pv 0) pe_int (nomark _)) (pe_one (pe_calHE (j := 3) hSa (hot_suite hz hf) (by exact hgA) (rH) (by decide) (pa_cons (pe_calHE (j := 3) hKe (hot_suite hz hf) (by exact hgA) (rH) (by decide) (pa_cons (pv 2) pa_nil)) (pa_cons (pv 1) pa_nil))))))))) ?_))), ?_⟩
  case refine_1 =>
    rintro D σ H1 ⟨rfl, rfl, ok, last⟩
    have eq : ∀ {i : Nat}, V.int (wy : Int) = V.int (i : Int) → wy = i := fun e => by injection e with e; omega
    refine ⟨_, rfl, rfl, _, rfl, itd (fun e => erR_tm (fun H Q q => ⟨_, rfl, q⟩) fun d H' hn s1 hd => ok 6 (by rw [eq (i := 0) e]; rfl) (by rw [eq (i := 0) e]; decide) d H' hn s1 hd) fun n0 => ?_⟩
    refine ⟨_, rfl, rfl, _, rfl, itd (fun e => erR_tm (fun H Q q => ⟨_, rfl, q⟩) fun d H' hn s1 hd => ok 27 (by rw [eq (i := 1) e]; rfl) (by rw [eq (i := 1) e]; decide) d H' hn s1 hd) fun n1 => ?_⟩
    refine ⟨_, rfl, rfl, _, rfl, itd (fun e => erR_tm (fun H Q q => ⟨_, rfl, q⟩) fun d H' hn s1 hd => ok 32 (by rw [eq (i := 2) e]; rfl) (by rw [eq (i := 2) e]; decide) d H' hn s1 hd) fun n2 => ?_⟩
    refine ⟨_, rfl, rfl, _, rfl, itd (fun e => erR_tm (fun H Q q => ⟨_, rfl, q⟩) fun d H' hn s1 hd => ok 34 (by rw [eq (i := 3) e]; rfl) (by rw [eq (i := 3) e]; decide) d H' hn s1 hd) fun n3 => ?_⟩
    refine ⟨_, rfl, rfl, _, rfl, itd (fun e => erR_tm (fun H Q q => ⟨_, rfl, q⟩) fun d H' hn s1 hd => ok 42 (by rw [eq (i := 4) e]; rfl) (by rw [eq (i := 4) e]; decide) d H' hn s1 hd) fun n4 => ?_⟩
    refine ⟨_, rfl, rfl, _, rfl, itd (fun e => erR_tm (fun H Q q => ⟨_, rfl, q⟩) fun d H' hn s1 hd => ok 43 (by rw [eq (i := 5) e]; rfl) (by rw [eq (i := 5) e]; decide) d H' hn s1 hd) fun n5 => ?_⟩
    refine ⟨_, rfl, rfl, _, rfl, itd (fun e => erR_tm (fun H Q q => ⟨_, rfl, q⟩) fun d H' hn s1 hd => ok 37 (by rw [eq (i := 6) e]; rfl) (by rw [eq (i := 6) e]; decide) d H' hn s1 hd) fun n6 => ?_⟩
    refine last ?_
    have ne : ∀ {i : Nat}, ¬ V.int (wy : Int) = V.int (i : Int) → wy ≠ i := fun n e => n (by rw [e])
    have a0 := ne (i := 0) n0
    have a1 := ne (i := 1) n1
    have a2 := ne (i := 2) n2
    have a3 := ne (i := 3) n3
    have a4 := ne (i := 4) n4
    have a5 := ne (i := 5) n5
    have a6 := ne (i := 6) n6
    omega
  case refine_2 =>
    rintro Ds σ H1 ⟨k, ek, hk, rfl, rfl, s1, eD, hd⟩
    obtain ⟨vs, hvs⟩ := hf
    have pin := pinX_suite (X := (cxOf CX0 P w K mg base ["way", "thing", "e"] "_law_caught" (defScope s_law_caught) f cdv A outer s H E0).nox) (a := a) (oe := oe) (pn := pn) rfl rfl
    obtain ⟨x, hx, hx7⟩ : ∃ x, ErX ((cxOf CX0 P w K mg base ["way", "thing", "e"] "_law_caught" (defScope s_law_caught) f cdv A outer s H E0).nox.suite a ((a, oe) :: pn)) H1 a (ca k) x ∧ (wy ≠ 7 → k < 44 ∧ x = some (efl k, v)) := by
      rcases hd with ⟨h7, rfl⟩ | ⟨h7, k44, dd, rfl, e⟩
      · exact ⟨none, .inr ⟨oe, vs, pin, hz.zc, hvs⟩, fun n => absurd h7 n⟩
      · exact ⟨some (efl k, v), ⟨dd, .inr ⟨oe, vs, pin, hz.zc, hvs⟩, .inr e⟩, fun _ => ⟨k44, rfl⟩⟩
    refine ⟨_, rfl, by rw [sizeLine_eq]; show 8 ≤ _; omega, fun pl hl => ?_⟩
    obtain ⟨w2, e2⟩ := nw rfl hl
    generalize upd H1 pl _ = H2 at w2 e2 ⊢
    have at_w : atI ([.int 6, .int 27, .int 32, .int 34, .int 42, .int 43, .int 37, .int 47] : List V) (wy : Int) = some (.int (k : Int)) := by
      refine atI_nat ?_
      have z : ([.int 6, .int 27, .int 32, .int 34, .int 42, .int 43, .int 37, .int 47] : List V) = wl.map fun m : Nat => V.int (m : Int) := rfl
      rw [z, List.getElem?_map, ek]; rfl
    refine ⟨_, rfl, pl, _, _, _, rfl, rfl, SqL.of e2, at_w, fun pins s2 I2 => ⟨a, k, x, rfl, ErX.s I2 (hx.same w2), hk, fun H3 s3 => ?_⟩⟩
    have s13 := s1.trans (w2.trans s3)
    refine ⟨_, rfl, iteT ⟨_, rfl, rfl, _, rfl, itd (fun e7 => ?_) fun n7 => ?_⟩⟩
    · rw [eD]; exact q _ s13
    · have ne7 : wy ≠ 7 := fun e => n7 (by rw [e]; rfl)
      obtain ⟨k44, rfl⟩ := hx7 ne7
      refine ⟨_, rfl, fun pins s4 I4 => ⟨a, k, v, rfl, ErX.s I4 (hx.same (w2.trans s3)), k44, fun H5 s5 => ⟨_, rfl, fun pins s6 I6 => ⟨v, rfl, ht.same (s13.trans s5), fun H7 s7 => ?_⟩⟩⟩⟩
      rw [eD]; exact q _ ((s13.trans s5).trans s7)
  refine ⟨rfl, rfl, fun k ek h7 d H' hn s1 hd => ?_, fun h7 => ?_⟩
  · have k49 : k < 49 ∧ k < 44 := by
      have z : ∀ i : Nat, i < 7 → wl.getD i 0 < 44 := by decide
      have y := z wy h7
      rw [List.getD_eq_getElem?_getD, ek] at y
      have y : k < 44 := y
      exact ⟨by omega, y⟩
    exact ⟨true, EM k k49.1, fun _ ae _ => ⟨k, ek, k49.1, rfl, rfl, s1, rfl, .inr ⟨h7, k49.2, d, rfl, hd⟩⟩, fun z => nomatch z⟩
  · exact ⟨true, EM 47 (by decide), fun _ ae _ => ⟨47, by rw [h7]; rfl, by decide, rfl, rfl, Same.refl H, rfl, .inl ⟨h7, rfl⟩⟩, fun z => nomatch z⟩
end
end NH
set_option maxHeartbeats 4000000
namespace NH
open PySem PySem.Spec PyProof.Rows L2 TL
section
variable {P : Program} {w : World} {K : PySem.W.Frag} {mg : Str → Option Value} {base : Heap} {ca : Nat → Addr} {NE C f : Addr} {fd : FuncData}
abbrev s_law : Stmt := top 84
theorem sc_law : FnScope ["script", "k", "box", "way", "first", "last"] ["script"] (defScope s_law) := ⟨rfl, rfl, rfl, by decide +kernel, rfl, by decide +kernel, by decide +kernel⟩
def spLaw (K : PySem.W.Frag) : Sp := fun vs H Q _ => ∃ (a : Addr) (ns : List Int), vs = [.ref a] ∧ SqL K H a (ns.map V.int) ∧ ns.length ≤ 63 ∧ ∀ H', Q (.bl true) H'
theorem ok_law (G : Bl mg) (F : FunD K "law" "law" (defArgs s_law) (defBody s_law) (defScope s_law) [] [] f fd) (cCell : Callee P w K mg base 2 "_law_cell" ["script", "k"] (spCell K)) (cBox : Callee P w K mg base 2 "_law_box" ["great"] spBox) (cT : Callee P w K mg base 2 "_law_take" ["box", "many"] spTake)
    (cTh : Callee P w K mg base 10 "_law_thing" ["box"] (spThing ca C)) (cOn : CalleeG P w K mg base 4 "_law_ones_right" ["first", "last"] (spOnes ca C)) (cCa : CalleeG P w K mg base 4 "_law_caught" ["way", "thing"] (spCaught ca C)) (cGr : CalleeG P w K mg base 4 "_law_grown_right" ["first"] spGrown) : FnG P w K mg base 11 f fd ["script"] (spLaw K) := by
  refine FnG.make F sc_law (fun vs H Q E h => by obtain ⟨_, _, rfl, _⟩ := h; rfl) fun cdv A outer s H vs Q E hgu hr h => ?_
  have hgA : (cxOf CX0 P w K mg base ["script", "k", "box", "way", "first", "last"] "law" (defScope s_law) f cdv A outer s H E).nox.A.guards = some [] := hgu
  obtain ⟨a, ns, rfl, hS, hl, q⟩ := h
  refine ⟨_, PSs.nox (pss_cons (ps_for PassesOwn.never rfl (pi_range1 (by rfl) G.b_range (pa_cons (pe_callB (call_max2 rfl) (by rfl) G.b_max (by decide +kernel) (pa_cons pe_int (pa_cons (pe_callB (call_min2 rfl) (by rfl) G.b_min (by decide +kernel) (pa_cons pe_int (pa_cons (pe_callB call_len_seq (by rfl) G.b_len (by decide +kernel) (pa_cons (pv 0) pa_nil)) pa_nil))) pa_nil))) pa_nil)) (pg_name (i := 1) sc_law.nd rfl (Or.inl rfl)) (pss_cons (ps_set (i := 2) sc_law.nd rfl (Or.inl rfl) (pe_cal cBox hr (by omega) (pa_cons (pe_cal cCell hr (by omega) (pa_cons (pv 0) (pa_cons (pv 1) pa_nil))) pa_nil)))
    (pss_cons (ps_par3 (i := 3) (j := 4) (l := 5) (by rfl) sc_law.nd rfl rfl rfl (by decide) (by decide) (by decide) rfl rfl rfl (pa_cons (pe_cal cT hr (by omega) (pa_cons (pv 2) (pa_cons pe_int pa_nil))) (pa_cons (pe_cal cTh hr (by omega) (pa_cons (pv 2) pa_nil)) (pa_cons (pe_cal cTh hr (by omega) (pa_cons (pv 2) pa_nil)) pa_nil))) (by rfl))
    (pss_cons (ps_if (PW.pt (pw_or (pt_not (pt_val (pe_calG cOn hgA hr (by omega) (pa_cons (pv 4) (pa_cons (pv 5) pa_nil))))) (pw_or1 (pt_not (pt_val (pe_calG cOn hgA hr (by omega) (pa_cons (pv 5) (pa_cons (pv 4) pa_nil)))))))) (pss_one (ps_ret pe_bl)) pss_nil)
    (pss_one (ps_if (PW.pt (pw_or (pt_not (pt_val (pe_calG cCa hgA hr (by omega) (pa_cons (pv 3) (pa_cons (pv 4) pa_nil))))) (pw_or1 (pt_not (pt_val (pe_calG cGr hgA hr (by omega) (pa_cons (pe_cal cT hr (by omega) (pa_cons (pv 2) (pa_cons pe_int pa_nil))) pa_nil))))))) (pss_one (ps_ret pe_bl)) pss_nil))))))
    (pss_one (ps_ret pe_bl))), ?_⟩
  refine ⟨_, rfl, a, _, rfl, .inl hS, ?_⟩
  obtain ⟨N, eN, hN⟩ : ∃ N : Nat, (if (if ((ns.map V.int).length : Int) < 5 then ((ns.map V.int).length : Int) else 5) > 3 then (if ((ns.map V.int).length : Int) < 5 then ((ns.map V.int).length : Int) else 5) else 3) = (N : Int) ∧ N ≤ 5 := by
    rw [List.length_map]
    by_cases h : (ns.length : Int) < 5
    · rw [if_pos h]
      by_cases g : (ns.length : Int) > 3
      · exact ⟨ns.length, by rw [if_pos g], by omega⟩
      · exact ⟨3, by rw [if_neg g]; rfl, by decide⟩
    · rw [if_neg h]; exact ⟨5, by rw [if_pos (by decide)]; rfl, by decide⟩
  refine ⟨_, _, rfl, _, _, rfl, ?_⟩
  rw [eN]
  refine ⟨_, rfl, by omega, by omega, ?_⟩
  refine for_range (lo := 0) (n := N) (fun i σ H' => ∃ x1 x2 x3 x4 x5, σ = [some (.ref a), x1, x2, x3, x4, x5] ∧ SqL K H' a (ns.map V.int)) ⟨none, none, none, none, none, rfl, hS⟩ ?_ ?_
  · rintro i σ H1 hi ⟨x1, x2, x3, x4, x5, rfl, h1⟩
    refine ⟨_, rfl, _, rfl, a, ns, i, by show [V.ref a, V.int (0 + (i : Int))] = _; rw [Int.zero_add], h1, hl, fun z H2 s2 => ?_⟩
    refine ⟨z, rfl, fun p o hp ib => ?_⟩
    have y3 : Same H2 (hid [p] (upd H2 p o)) := fun c u e => by
      have n := ne_of_none e hp
      rw [hid_out (by simpa using n), upd_ne n]; exact e
    have b3 : Bx p 0 (upd H2 p o) := ⟨o, upd_same, ib⟩
    generalize upd H2 p o = H3 at y3 b3 ⊢
    refine tk_go 8 rfl rfl b3 (by decide) (by decide) (by decide) fun wy H4 hw k4 b4 _ => ?_
    refine ⟨_, rfl, p, 1, rfl, b4, by decide, fun u H5 k5 b5 th5 => ?_⟩
    refine ⟨_, rfl, p, 2, rfl, b5, by decide, fun v H6 k6 b6 th6 => ?_⟩
    have t5 := th5.same (Kp.hid k6)
    refine ⟨_, _, _, rfl, ?_⟩
    refine ⟨_, rfl, _, rfl, u, v, rfl, t5.same hid_le, th6.same hid_le, fun H7 s7 => ⟨_, rfl, iteF ?_⟩⟩
    have m7 : Same (hid [p] H6) (hid [p] H7) := Kp.hid (Kp.of s7)
    refine ⟨_, rfl, _, rfl, v, u, rfl, (th6.same m7).same hid_le, (t5.same m7).same hid_le, fun H8 s8 => ⟨_, rfl, iteF ?_⟩⟩
    have m8 : Same (hid [p] H6) (hid [p] H8) := m7.trans (Kp.hid (Kp.of s8))
    refine ⟨_, rfl, _, rfl, wy, u, rfl, hw, (t5.same m8).same hid_le, fun H9 s9 => ⟨_, rfl, iteF ?_⟩⟩
    have m9 : Same (hid [p] H6) (hid [p] H9) := m8.trans (Kp.hid (Kp.of s9))
    refine tk_go 9 rfl rfl (((b6.same s7).same s8).same s9) (by decide) (by decide) (by decide) fun n Ha hn ka ba _ => ?_
    refine ⟨n, rfl, fun Hb sb => ⟨_, rfl, iteF ⟨_, _, _, _, _, rfl, ?_⟩⟩⟩
    have all : Same H1 Hb := ((((((s2.trans y3).trans (Kp.hid k4)).trans (Kp.hid k5)).trans (Kp.hid k6)).trans m9).trans (Kp.hid ka)).trans (hid_le.trans sb)
    exact all.seq h1
  · rintro σ H1 ⟨x1, x2, x3, x4, x5, rfl, h1⟩
    exact q H1
end
end NH
set_option maxHeartbeats 4000000
namespace NH
open PySem PySem.Spec PyProof.Rows L2 TL
section
variable {P : Program} {w : World} {K : PySem.W.Frag} {mg : Str → Option Value} {base : Heap} {ca : Nat → Addr} {NE C fI fH fE f : Addr} {fd : FuncData}
structure Defs (K : PySem.W.Frag) (mg : Str → Option Value) : Prop where
  d_is_integer : DefAt K mg "is_integer" s_is_integer
  d_is_between : DefAt K mg "is_between" s_is_between
  d_is_list : DefAt K mg "is_list" s_is_list
  d_is_pair : DefAt K mg "is_pair" s_is_pair
  d_is_name : DefAt K mg "is_name" s_is_name
  d_are_different : DefAt K mg "are_different" s_are_different
  d_are_kinds : DefAt K mg "_are_kinds" s_are_kinds
  d_is_kind : DefAt K mg "_is_kind" s_is_kind
  d_sides_of : DefAt K mg "_sides_of" s_sides_of
  d_without : DefAt K mg "_without" s_without
  d_cell : DefAt K mg "_law_cell" s_law_cell
  d_box : DefAt K mg "_law_box" s_law_box
  d_take : DefAt K mg "_law_take" s_law_take
  d_by_place : DefAt K mg "_law_by_place" s_law_by_place
  d_by_name : DefAt K mg "_law_by_name" s_law_by_name
  d_bare : DefAt K mg "_law_bare" s_law_bare
  d_sorts : DefAt K mg "_law_sorts" s_law_sorts
  d_is : DefAt K mg "_law_is" s_law_is
  d_kept : DefAt K mg "_law_kept" s_law_kept
  d_deep : DefAt K mg "_law_deep" s_law_deep
  d_thing : DefAt K mg "_law_thing" s_law_thing
  d_same : DefAt K mg "_law_same" s_law_same
  d_caught : DefAt K mg "_law_caught" s_law_caught
  d_ones : DefAt K mg "_law_ones_right" s_law_ones_right
  d_grown : DefAt K mg "_law_grown_right" s_law_grown_right
theorem all_ok (G : Bl mg) (D : Defs K mg) (T : PortsC K mg C fI fH) (n12 : ∃ t, mg "MOST_KINDS" = some (.int 12 t)) (nl : ∃ t, mg "MOST_LETTERS" = some (.int 4 t)) (gL : ∃ t, mg "LETTERS" = some (.str abc t))
    (FI : ∃ fd, FunD K "__init__" "Ports.__init__" (defArgs s_init) (defBody s_init) (defScope s_init) [] [] fI fd) (FQ : ∃ fd, FunD K "__eq__" "Ports.__eq__" (defArgs s_eq) (defBody s_eq) (defScope s_eq) [] [] fE fd)
    (E : Errs P w K mg base ca NE) (EM : ∀ i, i < 49 → PySem.W.exmOne K (.ref (ca i)) (.ref NE) = some true) (Y : PEq P w K mg base C fE) (Z : EPk K ca NE C) (t2 : TyT K (ca 2)) (tn : TyT K NE) (tc : TyT K C)
    (sm : ∃ o, base.get? sysModules = some o) (F : FunD K "law" "law" (defArgs s_law) (defBody s_law) (defScope s_law) [] [] f fd) : FnG P w K mg base 11 f fd ["script"] (spLaw K) := by
  have cT : Callee P w K mg base 2 "_law_take" ["box", "many"] spTake := ok_law_take G D.d_take
  have cIi : Callee P w K mg base 1 "is_integer" ["value"] spInt := ok_is_integer G D.d_is_integer
  have cBt := ok_is_between cIi D.d_is_between
  have cIl : Callee P w K mg base 2 "is_list" ["value"] spIsl := ok_is_list G D.d_is_list
  have cIp : Callee P w K mg base 2 "is_pair" ["value"] spPair := ok_is_pair G D.d_is_pair
  have cIn : Callee P w K mg base 2 "is_name" ["value", "most"] spName := ok_is_name G gL D.d_is_name
  have cDf : Callee P w K mg base 2 "are_different" ["items"] (spDiff K) := ok_are_different G D.d_are_different
  have cIk := ok_is_kind nl D.d_is_kind cIp cIn cBt
  have cAk := ok_are_kinds G n12 D.d_are_kinds cIl cDf cIk
  have cSo : Callee P w K mg base 2 "_sides_of" ["name", "many"] spSo := ok_sides_of G D.d_sides_of
  have cWt : Callee P w K mg base 2 "_without" ["sides", "side"] (spWout K) := ok_without G D.d_without
  have gI := ok_init (P := P) (w := w) (base := base) G T FI cAk cSo cWt
  have cPl := ok_law_by_place E D.d_by_place
  have cNm := ok_law_by_name E D.d_by_name
  have cBa := ok_law_bare E D.d_bare
  have cSr := ok_law_sorts (fun _ => E) G D.d_sorts
  have cIs := ok_law_is E G D.d_is cSr
  have cKe := ok_law_kept E G D.d_kept
  have hSr := hot_law_sorts (fun _ => E) G D.d_sorts
  have hIs := hot_law_is E G D.d_is hSr
  have hKe := hot_law_kept E G D.d_kept
  have cDe : Callee P w K mg base 1 "_law_deep" [] spDeep := ok_law_deep G D.d_deep
  have cTh := ok_law_thing E T G gI cT cDe D.d_thing
  have cEq := ok_eq (P := P) (w := w) (base := base) Y G T FQ
  have hEq := hot_eq (P := P) (w := w) (base := base) Y G T FQ
  have cSa := ok_law_same E Y T Z t2 tn tc G sm cEq D.d_same
  have hSa := hot_law_same E Y T Z t2 tn tc G sm hEq D.d_same
  have cCa := ok_law_caught E EM G hIs hKe hSa D.d_caught
  have cOn := ok_law_ones_right E G cPl cNm cBa (is_cold cIs) (kept_cold cKe) cSa D.d_ones
  have cGr := ok_law_grown_right E G cPl cNm (kept_cold cKe) D.d_grown
  exact ok_law G F (ok_law_cell G D.d_cell) (ok_law_box G D.d_box) cT cTh cOn cCa cGr
end
end NH
set_option maxHeartbeats 0
namespace NH
open PySem PySem.Spec PyProof.Rows L2 TL
/-- what oexB shows -/
theorem oexB_ok {K : PySem.W.Frag} {C : Addr} (z : oexB K C = true) : ∃ nm q N bs bm sn sub ab col dd k0 k1 k2 k3 k5, K.lookup C = some (excClassObj nm q C N bs bm true sn sub ab col dd k0 k1 k2 k3 k5 "ValueError.__new__") ∧ PySem.HandSPX.refsVE bm = true := by
  unfold oexB at z
  split at z
  · rename_i o look
    split at z
    · rename_i dic k slo
      split at z
      · rename_i C2 rest a0 a1 a2 a3 id a5 mr li
        obtain ⟨z1, z⟩ := He.ba z
        obtain ⟨z2, z⟩ := He.ba z
        obtain ⟨z3, z⟩ := He.ba z
        obtain ⟨z4, z5⟩ := He.ba z
        have z1 := of_decide_eq_true z1
        have z2 := of_decide_eq_true z2
        subst z1 z2
        obtain ⟨f1, f2, f3, f4, f5, f6, f7, f8, f9, g1, g2⟩ := k
        have mr : f3 = .ref C2 :: rest := mr
        have z3 : (!g2) = true := z3
        have z4 : f6 = true := z4
        subst mr z4
        have z3 : g2 = false := by simpa using z3
        subst z3
        have li : slo = #[a0, a1, a2, a3, some (.builtin "ValueError.__new__"), a5] := by
          obtain ⟨l⟩ := slo
          have li : l = [a0, a1, a2, a3, some (.builtin "ValueError.__new__"), a5] := li
          rw [li]
        subst li
        exact ⟨_, _, _, _, _, _, _, _, _, _, _, _, _, _, _, look, z5⟩
      · cases z
    · cases z
  · cases z
theorem kdB_ok {K : PySem.W.Frag} {C NE : Addr} (k1 : PySem.W.specialIn K (.builtin "object.__class__") "__get__" = some (some (.builtin "getset_descriptor.__get__"))) (k2 : PySem.W.takesIn K (.builtin "object.__class__") = some true) (h : kdB K NE C = true) : KdC K C NE := by
  obtain ⟨h1, h⟩ := He.ba h
  obtain ⟨h2, h⟩ := He.ba h
  obtain ⟨h3, h⟩ := He.ba h
  obtain ⟨h4, h⟩ := He.ba h
  obtain ⟨h5, h⟩ := He.ba h
  obtain ⟨h6, h⟩ := He.ba h
  obtain ⟨h7, h⟩ := He.ba h
  obtain ⟨h8, h⟩ := He.ba h
  obtain ⟨h9, h⟩ := He.ba h
  obtain ⟨ha, h⟩ := He.ba h
  obtain ⟨hb, h⟩ := He.ba h
  obtain ⟨hc, h⟩ := He.ba h
  obtain ⟨hd, he⟩ := He.ba h
  have e3 := of_decide_eq_true h3
  have ea := of_decide_eq_true ha
  exact ⟨⟨oexB_ok h1, He.eqO_ok h2, e3, of_decide_eq_true h4, h5⟩, ⟨He.eqO_ok h6, He.eqO_ok h7, e3, h8, He.eqO_ok h9, k1, k2, ea⟩, ⟨ea, He.eqO_ok hb, He.eqO_ok hc⟩, of_decide_eq_true hd, of_decide_eq_true he⟩
theorem sub_of_kit {K : PySem.W.Frag} {a b : Addr} (h : PySem.W.kitOne K (.ref a) (.ref b) = some false) : PySem.W.subIn K (.ref a) (.ref b) = some false := by
  unfold PySem.W.kitOne at h
  split at h
  · cases h
  · unfold PySem.W.kitCls at h
    dsimp only at h
    split at h
    · exact h
    · cases h
theorem kit_no {K : PySem.W.Frag} {NE a b : Addr} (h : mroB K NE a = true) (c : (PySem.W.clsIn K b).isSome = true) (ty : PySem.W.typeIn K (.ref b) = some (.type "type")) (n1 : a ≠ b) (n2 : b ≠ NE) : PySem.W.kitOne K (.ref a) (.ref b) = some false := by
  have h1 : (PySem.W.kitOne K (.ref a) (.ref b)) = PySem.W.kitCls K (.ref a) (.ref b) := if_neg (by simp [n1])
  have h2 : PySem.W.kitCls K (.ref a) (.ref b) = PySem.W.subIn K (.ref a) (.ref b) := by
    unfold PySem.W.kitCls
    dsimp only
    rw [if_pos (by rw [c, ty]; rfl)]
  rw [h1, h2]
  show PySem.W.mroIn K a (.ref b) = some false
  unfold mroB at h
  split at h
  · rename_i cd e
    have h := eq_of_beq h
    unfold PySem.W.mroIn
    rw [e, Option.bind_some, h]
    simp [Ne.symm n1, n2]
  · cases h
theorem ndB_nd : ∀ {l : List Addr}, ndB l = true → l.Nodup
  | [], _ => .nil
  | a :: l, h => by
    obtain ⟨h1, h2⟩ := He.ba h
    refine List.nodup_cons.mpr ⟨fun m => ?_, ndB_nd h2⟩
    have z := List.all_eq_true.mp h1 a m
    simp at z
theorem ndB_ok {NE : Addr} {f : Nat → Addr} {n : Nat} (h : ndB (NE :: (List.range n).map f) = true) : (∀ i, i < n → f i ≠ NE) ∧ ∀ i j, i < n → j < n → f i = f j → i = j := by
  obtain ⟨h1, h2⟩ := List.nodup_cons.mp (ndB_nd h)
  refine ⟨fun i hi e => h1 (List.mem_map.mpr ⟨i, List.mem_range.mpr hi, e⟩), fun i j hi hj e => ?_⟩
  have p := List.pairwise_iff_getElem.mp h2
  rcases Nat.lt_trichotomy i j with l | l | l
  · have y := p i j (by simpa using hi) (by simpa using hj) l
    simp only [List.getElem_map, List.getElem_range] at y
    exact absurd e y
  · exact l
  · have y := p j i (by simpa using hj) (by simpa using hi) l
    simp only [List.getElem_map, List.getElem_range] at y
    exact absurd e.symm y
theorem allR {n : Nat} {p : Nat → Bool} (h : (List.range n).all p = true) (i : Nat) (hi : i < n) : p i = true := List.all_eq_true.mp h i (List.mem_range.mpr hi)
theorem tysB_ok {K : PySem.W.Frag} {C : Addr} (h : tysB K C = true) : TyT K C := fun t ht => of_decide_eq_true (List.all_eq_true.mp h t ht)
section
variable {P : Program} {w : World} {K : PySem.W.Frag} {mg : Str → Option Value} {base : Heap}
theorem own_all (c1 : He.SaysD hfa hfn K) (T : ∀ i, i < 44 → OexC K (caK K i)) (N : ∀ i, i < 44 → PySem.W.findIn K (.ref (caK K i)) (efl i) = some none) : ∀ i, i < 44 → MkI P w K mg base (He.ma K (caK K i) "__init__") (efl i) (caK K i)
  | 0, _ => mk_0 (T 0 (by decide)) (N 0 (by decide)) (c1.def_ 28 (d := ⟨("InvalidPorts", some "__init__"), "__init__", "InvalidPorts.__init__", defArgs e_0, defBody e_0, defScope e_0, [], []⟩) rfl)
  | 1, _ => mk_1 (T 1 (by decide)) (N 1 (by decide)) (c1.def_ 29 (d := ⟨("InvalidSide", some "__init__"), "__init__", "InvalidSide.__init__", defArgs e_1, defBody e_1, defScope e_1, [], []⟩) rfl)
  | 2, _ => mk_2 (T 2 (by decide)) (N 2 (by decide)) (c1.def_ 30 (d := ⟨("InvalidText", some "__init__"), "__init__", "InvalidText.__init__", defArgs e_2, defBody e_2, defScope e_2, [], []⟩) rfl)
  | 3, _ => mk_3 (T 3 (by decide)) (N 3 (by decide)) (c1.def_ 31 (d := ⟨("InvalidName", some "__init__"), "__init__", "InvalidName.__init__", defArgs e_3, defBody e_3, defScope e_3, [], []⟩) rfl)
  | 4, _ => mk_4 (T 4 (by decide)) (N 4 (by decide)) (c1.def_ 32 (d := ⟨("InvalidNumbers", some "__init__"), "__init__", "InvalidNumbers.__init__", defArgs e_4, defBody e_4, defScope e_4, [], []⟩) rfl)
  | 5, _ => mk_5 (T 5 (by decide)) (N 5 (by decide)) (c1.def_ 33 (d := ⟨("InvalidBegins", some "__init__"), "__init__", "InvalidBegins.__init__", defArgs e_5, defBody e_5, defScope e_5, [], []⟩) rfl)
  | 6, _ => mk_6 (T 6 (by decide)) (N 6 (by decide)) (c1.def_ 34 (d := ⟨("InvalidDoes", some "__init__"), "__init__", "InvalidDoes.__init__", defArgs e_6, defBody e_6, defScope e_6, [], []⟩) rfl)
  | 7, _ => mk_7 (T 7 (by decide)) (N 7 (by decide)) (c1.def_ 35 (d := ⟨("InvalidRefuses", some "__init__"), "__init__", "InvalidRefuses.__init__", defArgs e_7, defBody e_7, defScope e_7, [], []⟩) rfl)
  | 8, _ => mk_8 (T 8 (by decide)) (N 8 (by decide)) (c1.def_ 36 (d := ⟨("InvalidIndex", some "__init__"), "__init__", "InvalidIndex.__init__", defArgs e_8, defBody e_8, defScope e_8, [], []⟩) rfl)
  | 9, _ => mk_9 (T 9 (by decide)) (N 9 (by decide)) (c1.def_ 37 (d := ⟨("InvalidState", some "__init__"), "__init__", "InvalidState.__init__", defArgs e_9, defBody e_9, defScope e_9, [], []⟩) rfl)
  | 10, _ => mk_10 (T 10 (by decide)) (N 10 (by decide)) (c1.def_ 38 (d := ⟨("InvalidProcesses", some "__init__"), "__init__", "InvalidProcesses.__init__", defArgs e_10, defBody e_10, defScope e_10, [], []⟩) rfl)
  | 11, _ => mk_11 (T 11 (by decide)) (N 11 (by decide)) (c1.def_ 39 (d := ⟨("InvalidStanding", some "__init__"), "__init__", "InvalidStanding.__init__", defArgs e_11, defBody e_11, defScope e_11, [], []⟩) rfl)
  | 12, _ => mk_12 (T 12 (by decide)) (N 12 (by decide)) (c1.def_ 40 (d := ⟨("InvalidHands", some "__init__"), "__init__", "InvalidHands.__init__", defArgs e_12, defBody e_12, defScope e_12, [], []⟩) rfl)
  | 13, _ => mk_13 (T 13 (by decide)) (N 13 (by decide)) (c1.def_ 41 (d := ⟨("InvalidMeetings", some "__init__"), "__init__", "InvalidMeetings.__init__", defArgs e_13, defBody e_13, defScope e_13, [], []⟩) rfl)
  | 14, _ => mk_14 (T 14 (by decide)) (N 14 (by decide)) (c1.def_ 42 (d := ⟨("InvalidHand", some "__init__"), "__init__", "InvalidHand.__init__", defArgs e_14, defBody e_14, defScope e_14, [], []⟩) rfl)
  | 15, _ => mk_15 (T 15 (by decide)) (N 15 (by decide)) (c1.def_ 43 (d := ⟨("InvalidStopped", some "__init__"), "__init__", "InvalidStopped.__init__", defArgs e_15, defBody e_15, defScope e_15, [], []⟩) rfl)
  | 16, _ => mk_16 (T 16 (by decide)) (N 16 (by decide)) (c1.def_ 44 (d := ⟨("InvalidRound", some "__init__"), "__init__", "InvalidRound.__init__", defArgs e_16, defBody e_16, defScope e_16, [], []⟩) rfl)
  | 17, _ => mk_17 (T 17 (by decide)) (N 17 (by decide)) (c1.def_ 45 (d := ⟨("InvalidOrder", some "__init__"), "__init__", "InvalidOrder.__init__", defArgs e_17, defBody e_17, defScope e_17, [], []⟩) rfl)
  | 18, _ => mk_18 (T 18 (by decide)) (N 18 (by decide)) (c1.def_ 46 (d := ⟨("InvalidPolicy", some "__init__"), "__init__", "InvalidPolicy.__init__", defArgs e_18, defBody e_18, defScope e_18, [], []⟩) rfl)
  | 19, _ => mk_19 (T 19 (by decide)) (N 19 (by decide)) (c1.def_ 47 (d := ⟨("InvalidRows", some "__init__"), "__init__", "InvalidRows.__init__", defArgs e_19, defBody e_19, defScope e_19, [], []⟩) rfl)
  | 20, _ => mk_20 (T 20 (by decide)) (N 20 (by decide)) (c1.def_ 48 (d := ⟨("InvalidSums", some "__init__"), "__init__", "InvalidSums.__init__", defArgs e_20, defBody e_20, defScope e_20, [], []⟩) rfl)
  | 21, _ => mk_21 (T 21 (by decide)) (N 21 (by decide)) (c1.def_ 49 (d := ⟨("InvalidCosts", some "__init__"), "__init__", "InvalidCosts.__init__", defArgs e_21, defBody e_21, defScope e_21, [], []⟩) rfl)
  | 22, _ => mk_22 (T 22 (by decide)) (N 22 (by decide)) (c1.def_ 50 (d := ⟨("InvalidCounts", some "__init__"), "__init__", "InvalidCounts.__init__", defArgs e_22, defBody e_22, defScope e_22, [], []⟩) rfl)
  | 23, _ => mk_23 (T 23 (by decide)) (N 23 (by decide)) (c1.def_ 51 (d := ⟨("InvalidWeights", some "__init__"), "__init__", "InvalidWeights.__init__", defArgs e_23, defBody e_23, defScope e_23, [], []⟩) rfl)
  | 24, _ => mk_24 (T 24 (by decide)) (N 24 (by decide)) (c1.def_ 52 (d := ⟨("InvalidDepth", some "__init__"), "__init__", "InvalidDepth.__init__", defArgs e_24, defBody e_24, defScope e_24, [], []⟩) rfl)
  | 25, _ => mk_25 (T 25 (by decide)) (N 25 (by decide)) (c1.def_ 53 (d := ⟨("InvalidCount", some "__init__"), "__init__", "InvalidCount.__init__", defArgs e_25, defBody e_25, defScope e_25, [], []⟩) rfl)
  | 26, _ => mk_26 (T 26 (by decide)) (N 26 (by decide)) (c1.def_ 54 (d := ⟨("InvalidRanks", some "__init__"), "__init__", "InvalidRanks.__init__", defArgs e_26, defBody e_26, defScope e_26, [], []⟩) rfl)
  | 27, _ => mk_27 (T 27 (by decide)) (N 27 (by decide)) (c1.def_ 55 (d := ⟨("InvalidProcess", some "__init__"), "__init__", "InvalidProcess.__init__", defArgs e_27, defBody e_27, defScope e_27, [], []⟩) rfl)
  | 28, _ => mk_28 (T 28 (by decide)) (N 28 (by decide)) (c1.def_ 56 (d := ⟨("InvalidRules", some "__init__"), "__init__", "InvalidRules.__init__", defArgs e_28, defBody e_28, defScope e_28, [], []⟩) rfl)
  | 29, _ => mk_29 (T 29 (by decide)) (N 29 (by decide)) (c1.def_ 57 (d := ⟨("InvalidFacts", some "__init__"), "__init__", "InvalidFacts.__init__", defArgs e_29, defBody e_29, defScope e_29, [], []⟩) rfl)
  | 30, _ => mk_30 (T 30 (by decide)) (N 30 (by decide)) (c1.def_ 58 (d := ⟨("InvalidVerdict", some "__init__"), "__init__", "InvalidVerdict.__init__", defArgs e_30, defBody e_30, defScope e_30, [], []⟩) rfl)
  | 31, _ => mk_31 (T 31 (by decide)) (N 31 (by decide)) (c1.def_ 59 (d := ⟨("InvalidLine", some "__init__"), "__init__", "InvalidLine.__init__", defArgs e_31, defBody e_31, defScope e_31, [], []⟩) rfl)
  | 32, _ => mk_32 (T 32 (by decide)) (N 32 (by decide)) (c1.def_ 60 (d := ⟨("NotDue", some "__init__"), "__init__", "NotDue.__init__", defArgs e_32, defBody e_32, defScope e_32, [], []⟩) rfl)
  | 33, _ => mk_33 (T 33 (by decide)) (N 33 (by decide)) (c1.def_ 61 (d := ⟨("Refused", some "__init__"), "__init__", "Refused.__init__", defArgs e_33, defBody e_33, defScope e_33, [], []⟩) rfl)
  | 34, _ => mk_34 (T 34 (by decide)) (N 34 (by decide)) (c1.def_ 62 (d := ⟨("TooMany", some "__init__"), "__init__", "TooMany.__init__", defArgs e_34, defBody e_34, defScope e_34, [], []⟩) rfl)
  | 35, _ => mk_35 (T 35 (by decide)) (N 35 (by decide)) (c1.def_ 63 (d := ⟨("Gone", some "__init__"), "__init__", "Gone.__init__", defArgs e_35, defBody e_35, defScope e_35, [], []⟩) rfl)
  | 36, _ => mk_36 (T 36 (by decide)) (N 36 (by decide)) (c1.def_ 64 (d := ⟨("Stopped", some "__init__"), "__init__", "Stopped.__init__", defArgs e_36, defBody e_36, defScope e_36, [], []⟩) rfl)
  | 37, _ => mk_37 (T 37 (by decide)) (N 37 (by decide)) (c1.def_ 65 (d := ⟨("NoSolution", some "__init__"), "__init__", "NoSolution.__init__", defArgs e_37, defBody e_37, defScope e_37, [], []⟩) rfl)
  | 38, _ => mk_38 (T 38 (by decide)) (N 38 (by decide)) (c1.def_ 66 (d := ⟨("NotLeft", some "__init__"), "__init__", "NotLeft.__init__", defArgs e_38, defBody e_38, defScope e_38, [], []⟩) rfl)
  | 39, _ => mk_39 (T 39 (by decide)) (N 39 (by decide)) (c1.def_ 67 (d := ⟨("Near", some "__init__"), "__init__", "Near.__init__", defArgs e_39, defBody e_39, defScope e_39, [], []⟩) rfl)
  | 40, _ => mk_40 (T 40 (by decide)) (N 40 (by decide)) (c1.def_ 68 (d := ⟨("Still", some "__init__"), "__init__", "Still.__init__", defArgs e_40, defBody e_40, defScope e_40, [], []⟩) rfl)
  | 41, _ => mk_41 (T 41 (by decide)) (N 41 (by decide)) (c1.def_ 69 (d := ⟨("NotNumber", some "__init__"), "__init__", "NotNumber.__init__", defArgs e_41, defBody e_41, defScope e_41, [], []⟩) rfl)
  | 42, _ => mk_42 (T 42 (by decide)) (N 42 (by decide)) (c1.def_ 70 (d := ⟨("Struck", some "__init__"), "__init__", "Struck.__init__", defArgs e_42, defBody e_42, defScope e_42, [], []⟩) rfl)
  | 43, _ => mk_43 (T 43 (by decide)) (N 43 (by decide)) (c1.def_ 71 (d := ⟨("KeptUp", some "__init__"), "__init__", "KeptUp.__init__", defArgs e_43, defBody e_43, defScope e_43, [], []⟩) rfl)
  | n + 44, h => absurd h (by omega)
end
theorem facts {P : Program} {w : World} {K : PySem.W.Frag} {h : Heap} {mg : Str → Option Value} {f : Addr} (X : K.In h) (Gn : h.Ns mainGlobals mg) (hlaw : mg ("law" : Str) = some (.ref f)) (c : SaysM w K) :
    ∃ fd : FuncData, (∀ (s : Shared) (v : Value), BindsTo s fd ⟨[v], []⟩ [("script", v)]) ∧ ∀ base : Heap, K.In base → base.Ns mainGlobals mg → FnG P w K mg base 11 f fd ["script"] (spLaw K) := by
  have c0 : He.SaysT hfa hfn [] w K := congrArg (fun z : AlM => z.1) c
  have c1 := c0.d
  have cx : exM K = true := congrArg (fun z : AlM => z.2) c
  obtain ⟨x1, cx⟩ := He.ba cx
  obtain ⟨x2, cx⟩ := He.ba cx
  obtain ⟨x3, cx⟩ := He.ba cx
  obtain ⟨x4, cx⟩ := He.ba cx
  obtain ⟨x5, cx⟩ := He.ba cx
  obtain ⟨x6, cx⟩ := He.ba cx
  obtain ⟨x6b, cx⟩ := He.ba cx
  obtain ⟨x7, cx⟩ := He.ba cx
  obtain ⟨x8, cx⟩ := He.ba cx
  obtain ⟨x9, cx⟩ := He.ba cx
  obtain ⟨y1, cx⟩ := He.ba cx
  obtain ⟨y2, cx⟩ := He.ba cx
  obtain ⟨y3, cx⟩ := He.ba cx
  obtain ⟨y4, y5⟩ := He.ba cx
  have glo : ∀ {x : Str}, (He.Fa.glo x).ok K = true → mg x = some (.ref (He.ga K x)) := fun z => He.glo_ok X Gn z
  have G : Bl mg := { b_ValueError := He.free_ok X Gn (c1.fact 28 (f := .free "ValueError") rfl), b_abs := He.free_ok X Gn (c1.fact 29 (f := .free "abs") rfl), b_all := He.free_ok X Gn (c1.fact 30 (f := .free "all") rfl), b_bool := He.free_ok X Gn (c1.fact 31 (f := .free "bool") rfl), b_int := He.free_ok X Gn (c1.fact 32 (f := .free "int") rfl), b_isinstance := He.free_ok X Gn (c1.fact 33 (f := .free "isinstance") rfl), b_len := He.free_ok X Gn (c1.fact 34 (f := .free "len") rfl), b_list := He.free_ok X Gn (c1.fact 35 (f := .free "list") rfl), b_max := He.free_ok X Gn (c1.fact 36 (f := .free "max") rfl), b_min := He.free_ok X Gn (c1.fact 37 (f := .free "min") rfl), b_range := He.free_ok X Gn (c1.fact 38 (f := .free "range") rfl), b_repr := He.free_ok X Gn (c1.fact 39 (f := .free "repr") rfl), b_set := He.free_ok X Gn (c1.fact 40 (f := .free "set") rfl), b_sorted := He.free_ok X Gn (c1.fact 41 (f := .free "sorted") rfl), b_str := He.free_ok X Gn (c1.fact 42 (f := .free "str") rfl), b_sum := He.free_ok X Gn (c1.fact 43 (f := .free "sum") rfl), b_tuple := He.free_ok X Gn (c1.fact 44 (f := .free "tuple") rfl) }
  have D : Defs K mg := { d_is_integer := ⟨glo (c1.fact 0 (f := .glo "is_integer") rfl), c1.def_ 0 rfl⟩, d_is_between := ⟨glo (c1.fact 1 (f := .glo "is_between") rfl), c1.def_ 1 rfl⟩, d_is_list := ⟨glo (c1.fact 2 (f := .glo "is_list") rfl), c1.def_ 2 rfl⟩, d_is_pair := ⟨glo (c1.fact 3 (f := .glo "is_pair") rfl), c1.def_ 3 rfl⟩, d_is_name := ⟨glo (c1.fact 4 (f := .glo "is_name") rfl), c1.def_ 4 rfl⟩, d_are_different := ⟨glo (c1.fact 5 (f := .glo "are_different") rfl), c1.def_ 5 rfl⟩, d_are_kinds := ⟨glo (c1.fact 6 (f := .glo "_are_kinds") rfl), c1.def_ 6 rfl⟩, d_is_kind := ⟨glo (c1.fact 7 (f := .glo "_is_kind") rfl), c1.def_ 7 rfl⟩, d_sides_of := ⟨glo (c1.fact 8 (f := .glo "_sides_of") rfl), c1.def_ 8 rfl⟩, d_without := ⟨glo (c1.fact 9 (f := .glo "_without") rfl), c1.def_ 9 rfl⟩, d_cell := ⟨glo (c1.fact 10 (f := .glo "_law_cell") rfl), c1.def_ 10 rfl⟩, d_box := ⟨glo (c1.fact 11 (f := .glo "_law_box") rfl), c1.def_ 11 rfl⟩, d_take := ⟨glo (c1.fact 12 (f := .glo "_law_take") rfl), c1.def_ 12 rfl⟩, d_by_place := ⟨glo (c1.fact 13 (f := .glo "_law_by_place") rfl), c1.def_ 13 rfl⟩, d_by_name := ⟨glo (c1.fact 14 (f := .glo "_law_by_name") rfl), c1.def_ 14 rfl⟩, d_bare := ⟨glo (c1.fact 15 (f := .glo "_law_bare") rfl), c1.def_ 15 rfl⟩, d_sorts := ⟨glo (c1.fact 16 (f := .glo "_law_sorts") rfl), c1.def_ 16 rfl⟩, d_is := ⟨glo (c1.fact 17 (f := .glo "_law_is") rfl), c1.def_ 17 rfl⟩, d_kept := ⟨glo (c1.fact 18 (f := .glo "_law_kept") rfl), c1.def_ 18 rfl⟩, d_deep := ⟨glo (c1.fact 19 (f := .glo "_law_deep") rfl), c1.def_ 19 rfl⟩, d_thing := ⟨glo (c1.fact 20 (f := .glo "_law_thing") rfl), c1.def_ 20 rfl⟩, d_same := ⟨glo (c1.fact 21 (f := .glo "_law_same") rfl), c1.def_ 21 rfl⟩, d_caught := ⟨glo (c1.fact 22 (f := .glo "_law_caught") rfl), c1.def_ 22 rfl⟩, d_ones := ⟨glo (c1.fact 23 (f := .glo "_law_ones_right") rfl), c1.def_ 23 rfl⟩, d_grown := ⟨glo (c1.fact 24 (f := .glo "_law_grown_right") rfl), c1.def_ 24 rfl⟩ }
  have T : PortsC K mg (He.ga K "Ports") (He.ma K (He.ga K "Ports") "__init__") (He.ma K (He.ga K "Ports") "has") :=
    ⟨He.cls_ok (c1.fact 48 (f := .cls "Ports") rfl), He.noat_ok (c1.fact 49 (f := .noat "Ports" "kinds") rfl), He.noat_ok (c1.fact 50 (f := .noat "Ports" "_names") rfl), He.noat_ok (c1.fact 51 (f := .noat "Ports" "_sides") rfl), He.noat_ok (c1.fact 52 (f := .noat "Ports" "_sides_by_name") rfl), He.noat_ok (c1.fact 53 (f := .noat "Ports" "_others") rfl), glo (c1.fact 26 (f := .glo "Ports") rfl), He.mkr_ok (c1.fact 54 (f := .mkr "Ports") rfl), He.meth_ok (c1.fact 55 (f := .meth "Ports" "has") rfl)⟩
  obtain ⟨k1, k2⟩ := He.ba y2
  have k1 := He.eqO_ok k1
  have k2 := of_decide_eq_true k2
  have kd : ∀ i, i < 49 → KdC K (caK K i) (He.ga K "NearError") := fun i hi => kdB_ok k1 k2 (allR x3 i hi)
  have ow : ∀ i, i < 44 → PySem.W.findIn K (.ref (caK K i)) "__init__" = some (some (.ref (He.ma K (caK K i) "__init__"))) ∧ PySem.W.typeIn K (.ref (He.ma K (caK K i) "__init__")) = some (.type "function") ∧ PySem.W.findIn K (.ref (caK K i)) (efl i) = some none := fun i hi => by
    obtain ⟨z1, z⟩ := He.ba (allR x4 i hi)
    obtain ⟨z2, z3⟩ := He.ba z
    exact ⟨He.eqO_ok z1, of_decide_eq_true z2, He.eqO_ok z3⟩
  obtain ⟨nNE, nij⟩ := ndB_ok x6b
  have kit : ∀ i j, i < 49 → j < 49 → PySem.W.kitOne K (.ref (caK K i)) (.ref (caK K j)) = some (decide (i = j)) := fun i j hi hj => by
    by_cases e : i = j
    · subst e; rw [decide_eq_true rfl]; exact if_pos (by simp)
    · rw [decide_eq_false e]
      exact kit_no (allR x6 i hi) (excC_cls (kd j hj).xc) (kd j hj).T.tyC (fun z => e (nij i j hi hj z)) (nNE j hj)
  have mk := fun base => own_all (P := P) (w := w) (mg := mg) (base := base) c1 (fun i hi => (kd i (Nat.lt_trans hi (by decide))).T) fun i hi => (ow i hi).2.2
  have ER : ∀ base, Errs P w K mg base (caK K) (He.ga K "NearError") := fun base =>
    { all := kd, g := fun i hi => glo (allR x2 i hi), no := fun i hi => (ow i hi).2.2, own := fun i hi => ⟨_, (ow i hi).1, (ow i hi).2.1, mk base i hi⟩
      bare := fun i h1 h2 => by
        have z := allR x5 (i - 44) (by omega)
        rw [show 44 + (i - 44) = i by omega] at z
        exact z
      kit := kit
      inj := fun i j hi hj e => by
        have a := kit i i hi hi
        have b := kit i j hi hj
        rw [← e, a] at b
        have b := Option.some.inj b
        rw [decide_eq_true rfl] at b
        exact of_decide_eq_true b.symm
      sub := fun i j hi hj n => sub_of_kit (by rw [kit j i hj hi, decide_eq_false (Ne.symm n)])
      gNE := glo (c1.fact 27 (f := .glo "NearError") rfl) }
  have EM : ∀ i, i < 49 → PySem.W.exmOne K (.ref (caK K i)) (.ref (He.ga K "NearError")) = some true := fun i hi => of_decide_eq_true (allR x7 i hi)
  obtain ⟨q1, q⟩ := He.ba y1
  obtain ⟨q2, q⟩ := He.ba q
  obtain ⟨q3, q4⟩ := He.ba q
  have Y : ∀ base, PEq P w K mg base (He.ga K "Ports") (He.ma K (He.ga K "Ports") "__eq__") := fun _ => ⟨He.eqO_ok q1, q2, He.eqO_ok q3, k1, k2, of_decide_eq_true q4⟩
  have Z : EPk K (caK K) (He.ga K "NearError") (He.ga K "Ports") := ⟨fun i hi => of_decide_eq_true (He.ba (allR x8 i hi)).1, of_decide_eq_true x9, fun i hi => of_decide_eq_true (He.ba (allR x8 i hi)).2⟩
  obtain ⟨fd, F⟩ := c1.def_ 27 (d := ⟨("law", none), "law", "law", defArgs s_law, defBody s_law, defScope s_law, [], []⟩) rfl
  have FI : ∃ fd, FunD K "__init__" "Ports.__init__" (defArgs s_init) (defBody s_init) (defScope s_init) [] [] (He.ma K (He.ga K "Ports") "__init__") fd := c1.def_ 25 (d := ⟨("Ports", some "__init__"), "__init__", "Ports.__init__", defArgs s_init, defBody s_init, defScope s_init, [], []⟩) rfl
  have FQ : ∃ fd, FunD K "__eq__" "Ports.__eq__" (defArgs s_eq) (defBody s_eq) (defScope s_eq) [] [] (He.ma K (He.ga K "Ports") "__eq__") fd := c1.def_ 26 (d := ⟨("Ports", some "__eq__"), "__eq__", "Ports.__eq__", defArgs s_eq, defBody s_eq, defScope s_eq, [], []⟩) rfl
  have e := hlaw.symm.trans (glo (c1.fact 25 (f := .glo "law") rfl))
  cases e
  have b := FunD.bindsA (ps := ["script"]) F fun _ _ _ _ _ _ us hl => match us, hl with | [_], _ => rfl
  refine ⟨fd, fun s v => b s [v] rfl, fun base hb _ => ?_⟩
  have sm : ∃ o, base.get? sysModules = some o := by
    obtain ⟨o, ho⟩ := Option.isSome_iff_exists.mp x1
    exact ⟨o, hb _ _ ho⟩
  exact all_ok G D T (He.int_ok X Gn (c1.fact 46 (f := .int "MOST_KINDS" 12) rfl)) (He.int_ok X Gn (c1.fact 47 (f := .int "MOST_LETTERS" 4) rfl)) (He.str_ok X Gn (c1.fact 45 (f := .str "LETTERS" "abcdefghijklmnopqrstuvwxyz") rfl)) FI FQ (ER base) EM (Y base) Z (tysB_ok y3) (tysB_ok y4) (tysB_ok y5) sm F
end NH
open PySem PySem.W PySem.Calls PyProof.Rows
theorem PySem.Challenge.cw_nearhelp_k00_errors_holds : PySem.Challenge.rw_nearhelp_k00_errors.Holds := by
  w_on; o_law
  refine HandSHeadRun.head_any (r := OpenLaw.row PySem.Challenge.rw_nearhelp_k00_errors) (q := view (OpenLaw.row PySem.Challenge.rw_nearhelp_k00_errors).prog [84]) (H := NH.hook) (ob := NH.ob) (M := 40000) (loose := NH.loose) (d := HandSHeadRun.topDef (OpenLaw.row PySem.Challenge.rw_nearhelp_k00_errors).prog 84) (kwd := []) NH.ob_eq
    (by kernel_rfl) (fun s => by kernel_rfl) NH.run (by kernel_rfl) (by kernel_rfl) (by kernel_rfl) (by rfl) (by first | assumption | decide +kernel) (by decide +kernel) ⟨rfl, rfl, rfl, rfl, rfl, by decide +kernel⟩ ?hw ?hc
  case hw => w_witness2
  case hc =>
    refine NH.walkG (l := PySem.Challenge.rw_nearhelp_k00_errors) (n := 63) (k := 11) (x := "script") rfl (by decide) (by kernel_rfl) ⟨rfl, by decide, by decide⟩ ?F
    intro w mg fa h Y G hmg0
    obtain ⟨K, KX, c⟩ := Y
    have hmg : mg ("law" : PySem.Str) = some (.ref fa) := by
      have e : (HandSHeadRun.topDef (OpenLaw.row PySem.Challenge.rw_nearhelp_k00_errors).prog 84).name = ("law" : PySem.Str) := by kernel_rfl
      rw [← e]
      exact hmg0
    obtain ⟨fd, hb, hF⟩ := NH.facts (P := (PySem.Challenge.rw_nearhelp_k00_errors).prog) (w := w) KX G hmg c
    exact ⟨K, fd, NH.spLaw K, KX, hb, fun H a ns hl _ hS => ⟨a, ns, rfl, hS, hl, fun _ => rfl⟩, hF⟩
