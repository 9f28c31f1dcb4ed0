import PyProof.Rows.All
import Wide.All
import OpenK.AllK
import Wide.FinOn
import PySem.Challenge.RW_waysranked_k05_prices_refused
import HandS.ForMost
import HandS.ForExc
import HandS.IsInst
import HandS.ExcIs
import HandS.Lambda
import HandS.HotCalls
import HandS.Zip
import HandS.Strs
import HandS.Flow
import HandS.Style
import HandS.TupAny
import HandS.TupLe
import HandS.Defaults
import PyProof.ReprRoads
import KE.KNestM
import HandS.Walk
import HandS.SetFor
import KE.KEqDeep
import HandS.Codes
import HandS.EndTab
set_option Elab.async false
set_option linter.all false
set_option maxRecDepth 100000
namespace Wy
open PySem PySem.Spec PyProof.Rows L2
def topS (i : Nat) : Stmt := PySem.Challenge.pw_waysranked_k05_prices_refused.main.body.getD i (.Pass ⟨0, 0, 0, 0⟩)
abbrev sWhole : Stmt := topS 22
abbrev sWithin : Stmt := topS 23
abbrev sTupOf : Stmt := topS 32
abbrev sCell : Stmt := topS 46
abbrev sState : Stmt := topS 47
abbrev sTake : Stmt := topS 48
abbrev sNum : Stmt := topS 52
/-- a def of the text, where it stands, how its arguments bind -/
structure Df (K : PySem.W.Frag) (mg : Str → Option Value) (x : Str) (st : Stmt) (ps : List Str) (f : Addr) (fd : FuncData) : Prop where
  F : Fun K x x st f fd
  b : Binds K fd ps []
  g : mg x = some (.ref f)
/-- all but the state's list stays -/
def Keep (z : Addr) (H H' : Hp) : Prop := ∀ b o, H b = some o → b ≠ z → H' b = some o
def StOk (H : Hp) (z : Addr) : Prop := ∃ x y : Int, H z = some (.lst [.int x, .int y]) ∧ 0 ≤ x ∧ 0 ≤ y ∧ y < 2147483647
theorem Keep.refl (z : Addr) (H : Hp) : Keep z H H := fun _ _ h _ => h
theorem Keep.trans {z : Addr} {H H1 H2 : Hp} (a : Keep z H H1) (b : Keep z H1 H2) : Keep z H H2 := fun c o h n => b c o (a c o h n) n
theorem Keep.self {z : Addr} {H : Hp} {o : HO} : Keep z H (upd H z o) := fun b u h n => by rw [upd_ne n]; exact h
theorem Keep.new {z p : Addr} {H : Hp} {o : HO} (h : H p = none) : Keep z H (upd H p o) := fun b u e _ => by rw [upd_ne (ne_of_none e h)]; exact e
theorem Keep.of {z : Addr} {H H' : Hp} (h : Same H H') : Keep z H H' := fun b o e _ => h b o e
theorem same_new {H : Hp} {p : Addr} {o : HO} (h : H p = none) : Same H (upd H p o) := fun b x e => by
  rw [upd_ne (ne_of_none e h)]
  exact e
theorem StOk.same {H H' : Hp} {z : Addr} (s : StOk H z) (h : Same H H') : StOk H' z := let ⟨x, y, e, r⟩ := s; ⟨x, y, h _ _ e, r⟩
theorem StOk.ne {H : Hp} {z p : Addr} (s : StOk H z) (h : H p = none) : z ≠ p := let ⟨_, _, e, _⟩ := s; ne_of_none e h
/-- a thing of whatever kind, by its class -/
inductive Tg (H : Hp) : V → String → Prop where
  | non : Tg H .non "NoneType"
  | bl (b : Bool) : Tg H (.bl b) "bool"
  | int (i : Int) : Tg H (.int i) "int"
  | str (x : Str) : Tg H (.str x) "str"
  | lst {a : Addr} {xs : List V} : H a = some (.lst xs) → Tg H (.ref a) "list"
  | tup {a : Addr} {xs : List V} : H a = some (.tup xs) → Tg H (.ref a) "tuple"
  | dct {a : Addr} {xs : List (Key × V)} : H a = some (.dK xs) → Tg H (.ref a) "dict"
theorem Tg.tyx {K : PySem.W.Frag} {H : Hp} {v : V} {n : String} (t : Tg H v n) : TyX K H v (.type n) := by
  cases t with
  | non => exact .base .non
  | bl b => exact .base (.bl b)
  | int i => exact .base (.int i)
  | str x => exact .base (.str x)
  | lst e => exact .base (.lst e)
  | tup e => exact .base (.tup e)
  | dct e => exact .base (.dK e)
theorem Tg.keep {H H' : Hp} {v : V} {n : String} (t : Tg H v n) (h : Same H H') : Tg H' v n := by
  cases t with
  | non => exact .non
  | bl b => exact .bl b
  | int i => exact .int i
  | str x => exact .str x
  | lst e => exact .lst (h _ _ e)
  | tup e => exact .tup (h _ _ e)
  | dct e => exact .dct (h _ _ e)
def kInt (n : String) : Bool := n == "int" || n == "bool"
theorem isi_int {K : PySem.W.Frag} {H : Hp} {v : V} {n : String} (t : Tg H v n) : PySem.W.kitOne K (.type n) (.type "int") = some (kInt n) := by
  cases t <;> exact kit_ty (by decide +kernel)
theorem isi_bool {K : PySem.W.Frag} {H : Hp} {v : V} {n : String} (t : Tg H v n) : PySem.W.kitOne K (.type n) (.type "bool") = some (n == "bool") := by
  cases t <;> exact kit_ty (by decide +kernel)
theorem isi_tuple {K : PySem.W.Frag} {H : Hp} {v : V} {n : String} (t : Tg H v n) : PySem.W.kitOne K (.type n) (.type "tuple") = some (n == "tuple") := by
  cases t <;> exact kit_ty (by decide +kernel)
/-- a whole number from lo to hi -/
def isIn (v : V) (lo hi : Int) : Bool := match v with
  | .int i => decide (lo ≤ i) && decide (i ≤ hi)
  | _ => false
section
variable {P : Program} {w : World} {K : PySem.W.Frag} {mg : Str → Option Value} {base : Heap}
theorem scTake : FnScope ["_law_state_here", "_law_much", "_law_found", "_law_stirred"] ["_law_state_here", "_law_much"] (defScope sTake) := ⟨rfl, rfl, rfl, by decide +kernel, rfl, by decide +kernel, by decide +kernel⟩
def spTake : Sp := fun vs H Q _ => ∃ (z : Addr) (m : Int), vs = [.ref z, .int m] ∧ StOk H z ∧ 0 < m ∧ m < 1073741824 ∧
  ∀ H' n, Keep z H H' → StOk H' z → 0 ≤ n → n < m → Q (.int n) H'
theorem ok_take {f : Addr} {fd : FuncData} {k : Nat} (D : Df K mg "_law_take" sTake ["_law_state_here", "_law_much"] f fd) : FnOk P w K mg base CX0 (k + 1) f fd ["_law_state_here", "_law_much"] spTake := by
  refine D.F.ok scTake (fun vs H Q E h => ?_) (fun cdv A outer s H vs Q E hr h => ?_)
  · obtain ⟨_, _, rfl, _⟩ := h
    rfl
  · obtain ⟨z, m, rfl, ⟨x, y, e, hx, hy, hy2⟩, hm, hm2, q⟩ := h
    refine ⟨_, pss_cons (ps_if (pt_cmpR op_gt (pe_ix ix_list (pv 0) pe_int (fun _ _ => rfl)) pe_int (nomark _))
        (pss_cons (ps_set (i := 2) scTake.nd rfl (.inl rfl) (pe_op op_mod (pe_ix ix_list (pv 0) pe_int (fun _ _ => rfl)) (pv 1)))
        (pss_cons (ps_asg (pe_op op_fdiv (pe_ix ix_list (pv 0) pe_int (fun _ _ => rfl)) (pv 1)) (pg_sub (pv 0) pe_int set_list))
        (pss_one (ps_ret (pv 2))))) pss_nil)
      (pss_cons (ps_asg (pe_op op_mod (pe_op op_add (pe_op op_mul (pe_ix ix_list (pv 0) pe_int (fun _ _ => rfl)) pe_int) pe_int) pe_int) (pg_sub (pv 0) pe_int set_list))
      (pss_cons (ps_set (i := 3) scTake.nd rfl (.inl rfl) (pe_op op_mod (pe_op op_add (pe_op op_add (pe_op op_mul (pe_ix ix_list (pv 0) pe_int (fun _ _ => rfl)) (pe_ix ix_list (pv 0) pe_int (fun _ _ => rfl))) (pe_op op_mul pe_int (pe_ix ix_list (pv 0) pe_int (fun _ _ => rfl)))) pe_int) pe_int))
      (pss_cons (ps_set (i := 3) scTake.nd rfl (.inl rfl) (pe_op op_mod (pe_op op_add (pe_op op_mul (pv 3) (pv 3)) (pe_op op_mul pe_int (pv 3))) pe_int))
      (pss_one (ps_ret (pe_op op_mod (pe_op op_fdiv (pv 3) pe_int) (pv 1))))))), ?_⟩
    refine ⟨.ref z, rfl, z, _, 0, _, rfl, rfl, SqL.of e, rfl, x, 0, rfl, rfl, _, rfl, ite2 (fun c => ?_) (fun c => ?_)⟩
    · refine ⟨.ref z, rfl, z, _, 0, _, rfl, rfl, SqL.of e, rfl, .int m, rfl, x, m, rfl, rfl, hm, ?_⟩
      refine ⟨.ref z, rfl, z, _, 0, _, rfl, rfl, SqL.of e, rfl, .int m, rfl, x, m, rfl, rfl, ⟨hm, hm2⟩, ?_⟩
      refine ⟨.ref z, rfl, z, _, 0, 0, rfl, rfl, e, rfl, ?_⟩
      refine ⟨.int (x % m), rfl, q _ _ .self ⟨x / m, y, upd_same, Int.ediv_nonneg hx (Int.le_of_lt hm), hy, hy2⟩ (Int.emod_nonneg _ (by omega)) (Int.emod_lt_of_pos _ hm)⟩
    · have b1 := Int.emod_nonneg (y * 48271 + 29) (show (2147483647 : Int) ≠ 0 by decide)
      have b2 := Int.emod_lt_of_pos (y * 48271 + 29) (show (0 : Int) < 2147483647 by decide)
      refine ⟨.ref z, rfl, z, _, 1, _, rfl, rfl, SqL.of e, rfl, y, 48271, rfl, rfl, .inr ⟨by decide, by decide⟩, _, _, rfl, rfl, _, 2147483647, rfl, rfl, (by show (0 : Int) < 2147483647; decide), ?_⟩
      refine ⟨.ref z, rfl, z, _, 1, 1, rfl, rfl, e, rfl, ?_⟩
      have e2 : (upd H z (.lst [.int x, .int ((y * 48271 + 29) % 2147483647)])) z = some (.lst [.int x, .int ((y * 48271 + 29) % 2147483647)]) := upd_same
      obtain ⟨y2, ey⟩ : ∃ y2, y2 = (y * 48271 + 29) % 2147483647 := ⟨_, rfl⟩
      rw [← ey] at b1 b2 e2
      show (fun H0 : Hp => _) (upd H z (.lst [.int x, .int ((y * 48271 + 29) % 2147483647)]))
      rw [← ey]
      refine ⟨.ref z, rfl, z, _, 1, _, rfl, rfl, SqL.of e2, rfl, .ref z, rfl, z, _, 1, _, rfl, rfl, SqL.of e2, rfl, y2, y2, rfl, rfl, .inl ⟨by omega, by omega⟩, .ref z, rfl, z, _, 1, _, rfl, rfl, SqL.of e2, rfl, 39373, y2, rfl, rfl, .inl ⟨by decide, by decide⟩, _, _, rfl, rfl, _, 7, rfl, rfl, _, 2147483629, rfl, rfl, (by show (0 : Int) < 2147483629; decide), ?_⟩
      have c1 := Int.emod_nonneg (y2 * y2 + 39373 * y2 + 7) (show (2147483629 : Int) ≠ 0 by decide)
      have c2 := Int.emod_lt_of_pos (y2 * y2 + 39373 * y2 + 7) (show (0 : Int) < 2147483629 by decide)
      have d1 : -(2 : Int) ^ 64 < (y2 * y2 + 39373 * y2 + 7) % 2147483629 := Int.lt_of_lt_of_le (by decide) c1
      have d2 : (y2 * y2 + 39373 * y2 + 7) % 2147483629 < (2 : Int) ^ 64 := Int.lt_trans c2 (by decide)
      refine ⟨_, rfl, _, rfl, _, _, rfl, rfl, .inl ⟨d1, d2⟩, _, rfl, 16807, _, rfl, rfl, .inl ⟨by decide, by decide⟩, _, _, rfl, rfl, _, 2147483587, rfl, rfl, (by show (0 : Int) < 2147483587; decide), ?_⟩
      refine ⟨_, rfl, _, 8, rfl, rfl, ⟨by decide, by decide⟩, .int m, rfl, _, m, rfl, rfl, hm, ?_⟩
      exact q _ _ .self ⟨x, y2, e2, hx, b1, b2⟩ (Int.emod_nonneg _ (by omega)) (Int.emod_lt_of_pos _ hm)
theorem scCell : FnScope ["_law_script", "_law_k"] ["_law_script", "_law_k"] (defScope sCell) := ⟨rfl, rfl, rfl, by decide +kernel, rfl, by decide +kernel, by decide +kernel⟩
def spCell (K : PySem.W.Frag) : Sp := fun vs H Q _ => ∃ (a : Addr) (ns : List Int) (i : Nat), vs = [.ref a, .int (i : Int)] ∧ SqL K H a (ns.map V.int) ∧ ∀ n, Q (.int n) H
theorem ok_cell {f : Addr} {fd : FuncData} {k : Nat} (D : Df K mg "_law_cell_at" sCell ["_law_script", "_law_k"] f fd) (ml : mg "len" = none) : FnOk P w K mg base CX0 (k + 1) f fd ["_law_script", "_law_k"] (spCell K) := by
  refine D.F.ok scCell (fun vs H Q E h => ?_) (fun cdv A outer s H vs Q E hr h => ?_)
  · obtain ⟨_, _, _, rfl, _⟩ := h
    rfl
  · obtain ⟨a, ns, i, rfl, hS, q⟩ := h
    refine ⟨_, pss_cons (ps_if (pt_cmpR op_lt (pv 1) (pe_callB call_len_seq (by rfl) ml PySem.boot_len (pa_cons (pv 0) pa_nil)) (nomark _))
        (pss_one (ps_ret (pe_ix ix_list (pv 0) (pv 1) (fun _ _ => rfl)))) pss_nil) (pss_one (ps_ret pe_int)), ?_⟩
    refine ⟨.int i, rfl, .ref a, rfl, a, _, rfl, .inl hS, _, _, rfl, rfl, _, rfl, ite2 (fun c => ?_) (fun c => ?_)⟩
    · have c' : (i : Int) < ((ns.map V.int).length : Int) := of_decide_eq_true c
      rw [List.length_map] at c'
      have hi : i < ns.length := by omega
      refine ⟨.ref a, rfl, .int i, rfl, a, _, i, .int ns[i], rfl, rfl, hS, atI_nat ?_, q _⟩
      rw [List.getElem?_map, List.getElem?_eq_getElem hi]
      rfl
    · exact q _
theorem scState : FnScope ["_law_script", "_law_k", "_law_cell"] ["_law_script", "_law_k"] (defScope sState) := ⟨rfl, rfl, rfl, by decide +kernel, rfl, by decide +kernel, by decide +kernel⟩
def spState (K : PySem.W.Frag) : Sp := fun vs H Q _ => ∃ (a : Addr) (ns : List Int) (i : Nat), vs = [.ref a, .int (i : Int)] ∧ SqL K H a (ns.map V.int) ∧ ∀ H' z, Same H H' → H z = none → StOk H' z → Q (.ref z) H'
theorem ok_state {f fC : Addr} {fd fdC : FuncData} {k : Nat} (D : Df K mg "_law_state" sState ["_law_script", "_law_k"] f fd) (DC : Df K mg "_law_cell_at" sCell ["_law_script", "_law_k"] fC fdC) (ml : mg "len" = none) (mm : mg "max" = none) : FnOk P w K mg base CX0 (k + 2) f fd ["_law_script", "_law_k"] (spState K) := by
  have G : FnOk P w K mg base CX0 (k + 1) fC fdC ["_law_script", "_law_k"] (spCell K) := ok_cell DC ml
  refine D.F.ok scState (fun vs H Q E h => ?_) (fun cdv A outer s H vs Q E hr h => ?_)
  · obtain ⟨_, _, _, rfl, _⟩ := h
    rfl
  · obtain ⟨a, ns, i, rfl, hS, q⟩ := h
    refine ⟨_, pss_cons (ps_set (i := 2) scState.nd rfl (.inl rfl) (pe_call G hr (by rfl) DC.g DC.F.kp DC.b .nil pass0 (pa_cons (pv 0) (pa_cons (pv 1) pa_nil))))
      (pss_one (ps_ret (pe_lst (pa_cons (pe_callB (call_max2 rfl) (by rfl) mm (by decide +kernel) (pa_cons pe_int (pa_cons (pe_op op_sub (pv 2) (pe_op op_pow pe_int pe_int)) pa_nil)))
        (pa_cons (pe_op op_mod (pv 2) pe_int) pa_nil))))), ?_⟩
    refine ⟨.ref a, rfl, .int i, rfl, a, ns, i, rfl, hS, fun n => ?_⟩
    refine ⟨.int n, rfl, 10, 18, rfl, rfl, ⟨by decide, by decide, by decide⟩, n, _, rfl, rfl, 0, _, rfl, .int n, rfl, n, 2147483647, rfl, rfl, (by show (0 : Int) < 2147483647; decide), by show 2 ≤ sizeLine; decide, fun z hz => ?_⟩
    refine q _ z (same_new hz) hz ⟨_, _, upd_same, ?_, Int.emod_nonneg _ (by decide), Int.emod_lt_of_pos _ (by decide)⟩
    split <;> omega
theorem scNum : FnScope ["_law_what", "_law_least", "_law_most"] ["_law_what", "_law_least", "_law_most"] (defScope sNum) := ⟨rfl, rfl, rfl, by decide +kernel, rfl, by decide +kernel, by decide +kernel⟩
def spNum : Sp := fun vs H Q _ => ∃ (v : V) (n : String) (lo hi : Int), vs = [v, .int lo, .int hi] ∧ Tg H v n ∧ Q (.bl (isIn v lo hi)) H
theorem ok_num {f : Addr} {fd : FuncData} {k : Nat} (D : Df K mg "_law_number" sNum ["_law_what", "_law_least", "_law_most"] f fd) (mi : mg "isinstance" = none) (mI : mg "int" = none) (mB : mg "bool" = none) : FnOk P w K mg base CX0 (k + 1) f fd ["_law_what", "_law_least", "_law_most"] spNum := by
  refine D.F.ok scNum (fun vs H Q E h => ?_) (fun cdv A outer s H vs Q E hr h => ?_)
  · obtain ⟨_, _, _, _, rfl, _⟩ := h
    rfl
  · obtain ⟨v, n, lo, hi, rfl, t, q⟩ := h
    refine ⟨_, pss_one (ps_ret (pe_and (pe_callB call_isi (by rfl) mi (by decide +kernel) (pa_cons (pv 0) (pa_cons (pe_bltn (v := .ty "int") (by rfl) mI (by decide +kernel) rfl) pa_nil)))
      (pe_and (pe_not (pe_callB call_isi (by rfl) mi (by decide +kernel) (pa_cons (pv 0) (pa_cons (pe_bltn (v := .ty "bool") (by rfl) mB (by decide +kernel) rfl) pa_nil))))
      (pe_one (pe_chain op_le op_le (pv 1) (pv 0) (pv 2)))))), ?_⟩
    refine ⟨v, rfl, v, .ty "int", .type n, .type "int", kInt n, rfl, .ty _, t.tyx, isi_int t, _, rfl, ?_⟩
    cases t with
    | int i =>
      refine iteT ?_
      refine ⟨_, rfl, .int i, .ty "bool", .type "int", .type "bool", false, rfl, .ty _, .base (.int i), isi_bool (.int (H := H) i), _, rfl, _, rfl, ?_⟩
      refine iteT ?_
      refine ⟨.int lo, rfl, .int i, rfl, lo, i, rfl, rfl, _, rfl, ?_⟩
      refine ite2 (fun c => ?_) (fun c => ?_)
      · refine ⟨.int hi, rfl, i, hi, rfl, rfl, ?_⟩
        have c' : lo ≤ i := of_decide_eq_true c
        have e : isIn (.int i) lo hi = decide (i ≤ hi) := by
          show (decide (lo ≤ i) && decide (i ≤ hi)) = _
          rw [c, Bool.true_and]
        rw [e] at q
        exact q
      · have e : isIn (.int i) lo hi = false := by
          show (decide (lo ≤ i) && decide (i ≤ hi)) = _
          rw [Bool.eq_false_iff.mpr c, Bool.false_and]
        rw [e] at q
        exact q
    | bl b =>
      refine iteT ?_
      refine ⟨_, rfl, .bl b, .ty "bool", .type "bool", .type "bool", true, rfl, .ty _, .base (.bl b), isi_bool (.bl (H := H) b), _, rfl, _, rfl, ?_⟩
      exact iteF q
    | non => exact iteF q
    | str x => exact iteF q
    | lst e => exact iteF q
    | tup e => exact iteF q
    | dct e => exact iteF q
end
end Wy

namespace Wy
open PySem PySem.Spec PyProof.Rows L2
abbrev sNetQ : Stmt := topS 31
abbrev sRoadQ : Stmt := topS 33
abbrev sChkN : Stmt := topS 34
abbrev sChkP : Stmt := topS 35
/-! ### nets -/
structure Road where
  one : Int
  other : Int
  cost : Int
  time : Int
def Road.vs (q : Road) : List V := [.int q.one, .int q.other, .int q.cost, .int q.time]
structure RoadOk (p : Int) (q : Road) : Prop where
  o1 : 0 ≤ q.one
  o2 : q.one ≤ p - 1
  t1 : 0 ≤ q.other
  t2 : q.other ≤ p - 1
  ne : q.one ≠ q.other
  c1 : 1 ≤ q.cost
  c2 : q.cost ≤ 99
  m1 : 0 ≤ q.time
  m2 : q.time ≤ 99
structure NetOk (p : Int) (rs : List Road) : Prop where
  p1 : 1 ≤ p
  p2 : p ≤ 10
  len : rs.length ≤ 30
  all : ∀ q ∈ rs, RoadOk p q
/-- the tuples at ts are the roads rs -/
def RoadsAt (H : Hp) : List Addr → List Road → Prop := Paired fun t q => H t = some (.tup q.vs)
def NetAt (H : Hp) (a r : Addr) (ts : List Addr) (p : Int) (rs : List Road) : Prop := H a = some (.tup [.int p, .ref r]) ∧ H r = some (.tup (ts.map V.ref)) ∧ RoadsAt H ts rs
theorem RoadsAt.keep {H H' : Hp} {ts : List Addr} {rs : List Road} (h : RoadsAt H ts rs) (k : ∀ b xs, H b = some (.tup xs) → H' b = some (.tup xs)) : RoadsAt H' ts rs := Paired.mapP h fun _ _ e => k _ _ e
theorem NetAt.keep {H H' : Hp} {a r : Addr} {ts : List Addr} {p : Int} {rs : List Road} (h : NetAt H a r ts p rs) (k : ∀ b xs, H b = some (.tup xs) → H' b = some (.tup xs)) : NetAt H' a r ts p rs := ⟨k _ _ h.1, k _ _ h.2.1, h.2.2.keep k⟩
theorem RoadsAt.len {H : Hp} {ts : List Addr} {rs : List Road} (h : RoadsAt H ts rs) : ts.length = rs.length := Paired.length h
theorem RoadsAt.get {H : Hp} : ∀ {ts : List Addr} {rs : List Road} {i : Nat} {t : Addr}, RoadsAt H ts rs → ts[i]? = some t → ∃ q, rs[i]? = some q ∧ H t = some (.tup q.vs)
  | _, _, _, _, .nil, e => by simp at e
  | _, _, 0, _, .cons r _, e => by
    simp at e
    subst e
    exact ⟨_, rfl, r⟩
  | _, _, i + 1, t, .cons _ s, e => by
    obtain ⟨q, h1, h2⟩ := RoadsAt.get (i := i) (t := t) s (by simpa using e)
    exact ⟨q, by simpa using h1, h2⟩
/-! ### ways -/
def step (rs : List Road) (here : Int) (v : V) : Option Road := match v with
  | .int i => if 0 ≤ i ∧ i ≤ (rs.length : Int) - 1 then (match rs[i.toNat]? with
    | some q => if q.one = here then some q else none
    | none => none) else none
  | _ => none
def goes (rs : List Road) : Int → List V → Option (List Road)
  | _, [] => some []
  | here, v :: r => match step rs here v with
    | none => none
    | some q => (goes rs q.other r).map (q :: ·)
def lastOf (here : Int) (qs : List Road) : Int := ((here :: qs.map Road.other).getLast?).getD here
def metOf (here : Int) (qs : List Road) : List Int := here :: qs.map Road.other
theorem lastOf_cons (here : Int) (q : Road) (qs : List Road) : lastOf here (q :: qs) = lastOf q.other qs := by
  unfold lastOf
  rw [List.map_cons, List.getLast?_cons_cons]
  cases e : (q.other :: qs.map Road.other).getLast? with
  | none => simp at e
  | some z => rfl
theorem lastOf_snoc (here : Int) (qs : List Road) (q : Road) : lastOf here (qs ++ [q]) = q.other := by
  unfold lastOf
  rw [List.map_append, List.map_singleton, ← List.cons_append, List.getLast?_append]
  rfl
theorem goes_snoc (rs : List Road) : ∀ (xs : List V) (here : Int) (v : V), goes rs here (xs ++ [v]) = (goes rs here xs).bind fun qs => (step rs (lastOf here qs) v).map fun q => qs ++ [q]
  | [], here, v => by
    show (match step rs here v with | none => none | some q => (some []).map (q :: ·)) = (step rs (lastOf here []) v).map fun q => [] ++ [q]
    show _ = (step rs here v).map fun q => [q]
    cases step rs here v <;> rfl
  | x :: r, here, v => by
    show (match step rs here x with | none => none | some q => (goes rs q.other (r ++ [v])).map (q :: ·)) = (match step rs here x with | none => none | some q => (goes rs q.other r).map (q :: ·)).bind _
    cases e : step rs here x with
    | none => rfl
    | some q =>
      show (goes rs q.other (r ++ [v])).map (q :: ·) = ((goes rs q.other r).map (q :: ·)).bind _
      rw [goes_snoc rs r q.other v]
      cases e2 : goes rs q.other r with
      | none => rfl
      | some qs =>
        show ((step rs (lastOf q.other qs) v).map fun q => qs ++ [q]).map (q :: ·) = (step rs (lastOf here (q :: qs)) v).map fun z => (q :: qs) ++ [z]
        rw [lastOf_cons]
        cases step rs (lastOf q.other qs) v <;> rfl
theorem goes_none (rs : List Road) : ∀ (ys xs : List V) (here : Int), goes rs here xs = none → goes rs here (xs ++ ys) = none
  | ys, [], here, h => by
    have h : some [] = (none : Option (List Road)) := h
    cases h
  | ys, x :: r, here, h => by
    show (match step rs here x with | none => none | some q => (goes rs q.other (r ++ ys)).map (q :: ·)) = none
    have h : (match step rs here x with | none => none | some q => (goes rs q.other r).map (q :: ·)) = none := h
    cases e : step rs here x with
    | none => rfl
    | some q =>
      rw [e] at h
      have h2 : goes rs q.other r = none := by
        cases e2 : goes rs q.other r with
        | none => rfl
        | some z =>
          have h3 : (goes rs q.other r).map (q :: ·) = none := h
          rw [e2] at h3
          cases h3
      show (goes rs q.other (r ++ ys)).map (q :: ·) = none
      rw [goes_none rs ys r q.other h2]
      rfl
theorem goes_stop (rs : List Road) {xs : List V} {here : Int} {i : Nat} {v : V} {qs : List Road} (hi : xs[i]? = some v) (h : goes rs here (xs.take i) = some qs) (hs : step rs (lastOf here qs) v = none) : goes rs here xs = none := by
  have e : goes rs here (xs.take (i + 1)) = none := by
    rw [List.take_add_one, hi]
    show goes rs here (xs.take i ++ [v]) = none
    rw [goes_snoc, h]
    show (step rs (lastOf here qs) v).map _ = none
    rw [hs]
    rfl
  have := goes_none rs (xs.drop (i + 1)) _ here e
  rwa [List.take_append_drop] at this
theorem goes_go (rs : List Road) {xs : List V} {here : Int} {i : Nat} {v : V} {qs : List Road} {q : Road} (hi : xs[i]? = some v) (h : goes rs here (xs.take i) = some qs) (hs : step rs (lastOf here qs) v = some q) : goes rs here (xs.take (i + 1)) = some (qs ++ [q]) := by
  rw [List.take_add_one, hi]
  show goes rs here (xs.take i ++ [v]) = _
  rw [goes_snoc, h]
  show (step rs (lastOf here qs) v).map _ = _
  rw [hs]
  rfl
theorem goes_len (rs : List Road) : ∀ {xs : List V} {here : Int} {qs : List Road}, goes rs here xs = some qs → qs.length = xs.length
  | [], _, _, h => by
    have h := Option.some.inj h
    subst h
    rfl
  | x :: r, here, qs, h => by
    have h : (match step rs here x with | none => none | some q => (goes rs q.other r).map (q :: ·)) = some qs := h
    cases e : step rs here x with
    | none =>
      rw [e] at h
      cases h
    | some q =>
      rw [e] at h
      obtain ⟨z, e1, e2⟩ := Option.map_eq_some_iff.mp h
      subst e2
      rw [List.length_cons, List.length_cons, goes_len rs e1]
/-- the roads of a way, by its numbers -/
theorem goes_at (rs : List Road) : ∀ {xs : List V} {here : Int} {qs : List Road} {i : Nat} {v : V}, goes rs here xs = some qs → xs[i]? = some v → ∃ (n : Nat) (q : Road), v = .int (n : Int) ∧ rs[n]? = some q ∧ qs[i]? = some q
  | [], _, _, _, _, _, e => by simp at e
  | x :: r, here, qs, i, v, h, e => by
    have h : (match step rs here x with | none => none | some q => (goes rs q.other r).map (q :: ·)) = some qs := h
    cases e1 : step rs here x with
    | none =>
      rw [e1] at h
      cases h
    | some q =>
      rw [e1] at h
      obtain ⟨z, e2, e3⟩ := Option.map_eq_some_iff.mp h
      subst e3
      cases i with
      | zero =>
        simp at e
        subst e
        unfold step at e1
        split at e1
        · rename_i k
          split at e1
          · rename_i hk
            split at e1
            · rename_i q' eq
              split at e1
              · cases e1
                exact ⟨k.toNat, q, by rw [Int.toNat_of_nonneg hk.1], eq, rfl⟩
              · cases e1
            · cases e1
          · cases e1
        · cases e1
      | succ i => exact goes_at rs (i := i) e2 (by simpa using e)
theorem step_int (rs : List Road) {here : Int} {n : Nat} {q : Road} (h : rs[n]? = some q) : step rs here (.int (n : Int)) = if q.one = here then some q else none := by
  have hn : n < rs.length := (List.getElem?_eq_some_iff.mp h).1
  unfold step
  dsimp only
  rw [if_pos (by omega), Int.toNat_natCast, h]
theorem step_out (rs : List Road) {here : Int} {v : V} (h : isIn v 0 ((rs.length : Int) - 1) = false) : step rs here v = none := by
  unfold step
  split
  · rename_i i
    have h : (decide (0 ≤ i) && decide (i ≤ (rs.length : Int) - 1)) = false := h
    rw [if_neg]
    rintro ⟨a, b⟩
    rw [decide_eq_true a, decide_eq_true b] at h
    cases h
  · rfl
theorem isIn_true {v : V} {lo hi : Int} (h : isIn v lo hi = true) : ∃ i, v = .int i ∧ lo ≤ i ∧ i ≤ hi := by
  unfold isIn at h
  split at h
  · rename_i i
    rw [Bool.and_eq_true, decide_eq_true_eq, decide_eq_true_eq] at h
    exact ⟨i, rfl, h.1, h.2⟩
  · cases h
section
variable {P : Program} {w : World} {K : PySem.W.Frag} {mg : Str → Option Value} {base : Heap}
theorem scWhole : FnScope ["thing"] ["thing"] (defScope sWhole) := ⟨rfl, rfl, rfl, by decide +kernel, rfl, by decide +kernel, by decide +kernel⟩
def isInt : V → Bool
  | .int _ => true
  | _ => false
def spWhole : Sp := fun vs H Q _ => ∃ (v : V) (n : String), vs = [v] ∧ Tg H v n ∧ Q (.bl (isInt v)) H
theorem ok_whole {f : Addr} {fd : FuncData} {k : Nat} (D : Df K mg "is_whole" sWhole ["thing"] f fd) (mi : mg "isinstance" = none) (mI : mg "int" = none) (mB : mg "bool" = none) : FnOk P w K mg base CX0 (k + 1) f fd ["thing"] spWhole := by
  refine D.F.ok scWhole (fun vs H Q E h => ?_) (fun cdv A outer s H vs Q E hr h => ?_)
  · obtain ⟨_, _, rfl, _⟩ := h
    rfl
  · obtain ⟨v, n, rfl, t, q⟩ := h
    refine ⟨_, pss_one (ps_ret (pe_and (pe_callB call_isi (by rfl) mi (by decide +kernel) (pa_cons (pv 0) (pa_cons (pe_bltn (v := .ty "int") (by rfl) mI (by decide +kernel) rfl) pa_nil)))
      (pe_one (pe_not (pe_callB call_isi (by rfl) mi (by decide +kernel) (pa_cons (pv 0) (pa_cons (pe_bltn (v := .ty "bool") (by rfl) mB (by decide +kernel) rfl) pa_nil))))))), ?_⟩
    refine ⟨v, rfl, v, .ty "int", .type n, .type "int", kInt n, rfl, .ty _, t.tyx, isi_int t, _, rfl, ?_⟩
    cases t with
    | int i => exact iteT ⟨_, rfl, .int i, .ty "bool", .type "int", .type "bool", false, rfl, .ty _, .base (.int i), isi_bool (.int (H := H) i), _, rfl, q⟩
    | bl b => exact iteT ⟨_, rfl, .bl b, .ty "bool", .type "bool", .type "bool", true, rfl, .ty _, .base (.bl b), isi_bool (.bl (H := H) b), _, rfl, q⟩
    | non => exact iteF q
    | str x => exact iteF q
    | lst e => exact iteF q
    | tup e => exact iteF q
    | dct e => exact iteF q
theorem scWithin : FnScope ["thing", "low", "high"] ["thing", "low", "high"] (defScope sWithin) := ⟨rfl, rfl, rfl, by decide +kernel, rfl, by decide +kernel, by decide +kernel⟩
/-- the defs of the two small modules -/
structure Sm (K : PySem.W.Frag) (mg : Str → Option Value) (f1 f2 f3 f4 f5 : Addr) (d1 d2 d3 d4 d5 : FuncData) : Prop where
  mi : mg "isinstance" = none
  mI : mg "int" = none
  mB : mg "bool" = none
  mT : mg "tuple" = none
  ml : mg "len" = none
  mA : mg "all" = none
  mS : mg "sum" = none
  mE : mg "set" = none
  c1 : ∃ t, mg "MOST_PLACES" = some (.int 10 t)
  c2 : ∃ t, mg "MOST_ROADS" = some (.int 30 t)
  c3 : ∃ t, mg "LEAST_COST" = some (.int 1 t)
  c4 : ∃ t, mg "MOST_COST" = some (.int 99 t)
  c5 : ∃ t, mg "MOST_TIME" = some (.int 99 t)
  whole : Df K mg "is_whole" sWhole ["thing"] f1 d1
  within : Df K mg "is_within" sWithin ["thing", "low", "high"] f2 d2
  tupOf : Df K mg "is_tuple_of" sTupOf ["thing", "many"] f3 d3
  roadQ : Df K mg "is_road_among" sRoadQ ["places", "thing"] f4 d4
  netQ : Df K mg "is_net" sNetQ ["thing"] f5 d5
variable {f1 f2 f3 f4 f5 : Addr} {d1 d2 d3 d4 d5 : FuncData}
def spWithin : Sp := fun vs H Q _ => ∃ (v : V) (n : String) (lo hi : Int), vs = [v, .int lo, .int hi] ∧ Tg H v n ∧ Q (.bl (isIn v lo hi)) H
theorem ok_within {k : Nat} (S : Sm K mg f1 f2 f3 f4 f5 d1 d2 d3 d4 d5) : FnOk P w K mg base CX0 (k + 2) f2 d2 ["thing", "low", "high"] spWithin := by
  have G : FnOk P w K mg base CX0 (k + 1) f1 d1 ["thing"] spWhole := ok_whole S.whole S.mi S.mI S.mB
  refine S.within.F.ok scWithin (fun vs H Q E h => ?_) (fun cdv A outer s H vs Q E hr h => ?_)
  · obtain ⟨_, _, _, _, rfl, _⟩ := h
    rfl
  · obtain ⟨v, n, lo, hi, rfl, t, q⟩ := h
    refine ⟨_, pss_one (ps_ret (pe_and (pe_call G hr (by rfl) S.whole.g S.whole.F.kp S.whole.b .nil pass0 (pa_cons (pv 0) pa_nil)) (pe_one (pe_chain op_le op_le (pv 1) (pv 0) (pv 2))))), ?_⟩
    refine ⟨v, rfl, v, n, rfl, t, _, rfl, ?_⟩
    cases v with
    | int i =>
      refine iteT ⟨.int lo, rfl, .int i, rfl, lo, i, rfl, rfl, _, rfl, ite2 (fun c => ?_) (fun c => ?_)⟩
      · refine ⟨.int hi, rfl, i, hi, rfl, rfl, ?_⟩
        have e : isIn (.int i) lo hi = decide (i ≤ hi) := by
          show (decide (lo ≤ i) && decide (i ≤ hi)) = _
          rw [c, Bool.true_and]
        rw [e] at q
        exact q
      · have e : isIn (.int i) lo hi = false := by
          show (decide (lo ≤ i) && decide (i ≤ hi)) = _
          rw [Bool.eq_false_iff.mpr c, Bool.false_and]
        rw [e] at q
        exact q
    | _ => exact iteF q
theorem scTupOf : FnScope ["thing", "many"] ["thing", "many"] (defScope sTupOf) := ⟨rfl, rfl, rfl, by decide +kernel, rfl, by decide +kernel, by decide +kernel⟩
def spTupOf : Sp := fun vs H Q _ => ∃ (a : Addr) (xs : List V) (m : Int), vs = [.ref a, .int m] ∧ H a = some (.tup xs) ∧ (xs.length : Int) = m ∧ Q (.bl true) H
theorem ok_tupOf {k : Nat} (S : Sm K mg f1 f2 f3 f4 f5 d1 d2 d3 d4 d5) : FnOk P w K mg base CX0 (k + 1) f3 d3 ["thing", "many"] spTupOf := by
  refine S.tupOf.F.ok scTupOf (fun vs H Q E h => ?_) (fun cdv A outer s H vs Q E hr h => ?_)
  · obtain ⟨_, _, _, rfl, _⟩ := h
    rfl
  · obtain ⟨a, xs, m, rfl, e, el, q⟩ := h
    refine ⟨_, pss_one (ps_ret (pe_and (pe_callB call_isi (by rfl) S.mi (by decide +kernel) (pa_cons (pv 0) (pa_cons (pe_bltn (v := .ty "tuple") (by rfl) S.mT (by decide +kernel) rfl) pa_nil)))
      (pe_one (pe_cmpR op_eq (pe_callB call_len_seq (by rfl) S.ml PySem.boot_len (pa_cons (pv 0) pa_nil)) (pv 1) (nomark _))))), ?_⟩
    have t : Tg H (.ref a) "tuple" := .tup e
    refine ⟨.ref a, rfl, .ref a, .ty "tuple", .type "tuple", .type "tuple", true, rfl, .ty _, t.tyx, isi_tuple t, _, rfl, iteT ?_⟩
    refine ⟨.ref a, rfl, a, xs, rfl, .inr (SqT.of e), .int m, rfl, rfl, ?_⟩
    rw [el, decide_eq_true rfl]
    exact q
theorem scRoadQ : FnScope ["places", "thing", "one", "other", "cost", "time"] ["places", "thing"] (defScope sRoadQ) := ⟨rfl, rfl, rfl, by decide +kernel, rfl, by decide +kernel, by decide +kernel⟩
def spRoadQ : Sp := fun vs H Q _ => ∃ (t : Addr) (p : Int) (q : Road), vs = [.int p, .ref t] ∧ H t = some (.tup q.vs) ∧ RoadOk p q ∧ Q (.bl true) H
theorem isIn_of {i lo hi : Int} (a : lo ≤ i) (b : i ≤ hi) : isIn (.int i) lo hi = true := by
  show (decide (lo ≤ i) && decide (i ≤ hi)) = true
  rw [decide_eq_true a, decide_eq_true b]
  rfl
theorem ok_roadQ {k : Nat} (S : Sm K mg f1 f2 f3 f4 f5 d1 d2 d3 d4 d5) : FnOk P w K mg base CX0 (k + 3) f4 d4 ["places", "thing"] spRoadQ := by
  have G : FnOk P w K mg base CX0 (k + 2) f2 d2 ["thing", "low", "high"] spWithin := ok_within S
  have GT : FnOk P w K mg base CX0 (k + 2) f3 d3 ["thing", "many"] spTupOf := ok_tupOf S
  obtain ⟨t3, c3⟩ := S.c3
  obtain ⟨t4, c4⟩ := S.c4
  obtain ⟨t5, c5⟩ := S.c5
  refine S.roadQ.F.ok scRoadQ (fun vs H Q E h => ?_) (fun cdv A outer s H vs Q E hr h => ?_)
  · obtain ⟨_, _, _, rfl, _⟩ := h
    rfl
  · obtain ⟨t, p, r, rfl, e, ok, q⟩ := h
    refine ⟨_, pss_cons (ps_if (pt_not (pt_val (pe_call GT hr (by rfl) S.tupOf.g S.tupOf.F.kp S.tupOf.b .nil pass0 (pa_cons (pv 1) (pa_cons pe_int pa_nil))))) pss_never pss_nil)
      (pss_cons (ps_asg (pv 1) (pg_tup (by rfl) (pgs_cons (pg_name (i := 2) scRoadQ.nd rfl (.inl rfl)) (pgs_cons (pg_name (i := 3) scRoadQ.nd rfl (.inl rfl)) (pgs_cons (pg_name (i := 4) scRoadQ.nd rfl (.inl rfl)) (pgs_cons (pg_name (i := 5) scRoadQ.nd rfl (.inl rfl)) pgs_nil))))))
      (pss_cons (ps_if (PW.pt (pw_or (pt_not (pt_val (pe_call G hr (by rfl) S.within.g S.within.F.kp S.within.b .nil pass0 (pa_cons (pv 2) (pa_cons pe_int (pa_cons (pe_op op_sub (pv 0) pe_int) pa_nil)))))) (pw_or1 (pt_not (pt_val (pe_call G hr (by rfl) S.within.g S.within.F.kp S.within.b .nil pass0 (pa_cons (pv 3) (pa_cons pe_int (pa_cons (pe_op op_sub (pv 0) pe_int) pa_nil)))))))))
        pss_never pss_nil)
      (pss_one (ps_ret (pe_and (pe_cmpR op_ne (pv 2) (pv 3) (nomark _)) (pe_and (pe_call G hr (by rfl) S.within.g S.within.F.kp S.within.b .nil pass0 (pa_cons (pv 4) (pa_cons (pe_glob (v := .int 1) (by rfl) c3 ⟨t3, rfl⟩) (pa_cons (pe_glob (v := .int 99) (by rfl) c4 ⟨t4, rfl⟩) pa_nil))))
        (pe_one (pe_call G hr (by rfl) S.within.g S.within.F.kp S.within.b .nil pass0 (pa_cons (pv 5) (pa_cons pe_int (pa_cons (pe_glob (v := .int 99) (by rfl) c5 ⟨t5, rfl⟩) pa_nil))))))))))), ?_⟩
    refine ⟨.ref t, rfl, t, _, 4, rfl, e, rfl, _, rfl, iteF ?_⟩
    refine ⟨.ref t, rfl, t, _, rfl, SqT.of e, rfl, .int r.one, _, rfl, .int r.other, _, rfl, .int r.cost, _, rfl, .int r.time, _, rfl, rfl, ?_⟩
    refine ⟨.int r.one, rfl, .int p, rfl, p, 1, rfl, rfl, .int r.one, "int", 0, p - 1, rfl, .int _, _, rfl, ?_⟩
    rw [isIn_of ok.o1 ok.o2]
    refine iteF ?_
    refine ⟨.int r.other, rfl, .int p, rfl, p, 1, rfl, rfl, .int r.other, "int", 0, p - 1, rfl, .int _, _, rfl, ?_⟩
    rw [isIn_of ok.t1 ok.t2]
    refine iteF ?_
    refine ⟨.int r.one, rfl, .int r.other, rfl, rfl, _, rfl, ?_⟩
    have hne : (V.int r.one) ≠ (V.int r.other) := fun z => ok.ne (V.int.inj z)
    rw [decide_eq_false hne]
    refine iteT ⟨.int r.cost, rfl, .int r.cost, "int", 1, 99, rfl, .int _, _, rfl, ?_⟩
    rw [isIn_of ok.c1 ok.c2]
    refine iteT ⟨.int r.time, rfl, .int r.time, "int", 0, 99, rfl, .int _, ?_⟩
    rw [isIn_of ok.m1 ok.m2]
    exact q
end
end Wy

namespace Wy
open PySem PySem.Spec PyProof.Rows L2
theorem Same.upd_lst {H H' : Hp} {D : Addr} {o : HO} (s : Same H H') (h : H D = none) : Same H (upd H' D o) := fun b x e => by
  rw [upd_ne (ne_of_none e h)]
  exact s b x e
/-! ### how many unlike numbers a list has -/
def manyOf (ns : List Int) : Nat := (PyProof.Rows.firstMet (fun i => ns.getD i 0) ns.length).length
theorem met_take {ns : List Int} : ∀ i, i ≤ ns.length → ((List.range i).map fun j => ns.getD j 0) = ns.take i
  | 0, _ => rfl
  | i + 1, hi => by
    rw [List.range_succ, List.map_append, met_take i (by omega), List.take_add_one, List.getElem?_eq_getElem (show i < ns.length from hi)]
    congr 1
    rw [List.map_singleton, List.getD_eq_getElem?_getD, List.getElem?_eq_getElem (show i < ns.length from hi)]
    rfl
theorem met_nodup {ns : List Int} : ∀ i, i ≤ ns.length → ((PyProof.Rows.firstMet (fun j => ns.getD j 0) i).length = i ↔ (ns.take i).Nodup)
  | 0, _ => by
    rw [PyProof.Rows.firstMet_zero]
    exact ⟨fun _ => List.nodup_nil, fun _ => rfl⟩
  | i + 1, hi => by
    have hlt : i < ns.length := hi
    have ih := met_nodup (ns := ns) i (by omega)
    have le := PyProof.Rows.firstMet_length_le (fun j => ns.getD j 0) i
    have ea := PyProof.Rows.firstMet_any (fun j => ns.getD j 0) i (ns.getD i 0)
    rw [met_take i (by omega)] at ea
    have ex : ns.getD i 0 = ns[i] := by
      rw [List.getD_eq_getElem?_getD, List.getElem?_eq_getElem hlt]
      rfl
    rw [PyProof.Rows.firstMet_succ, List.take_add_one, List.getElem?_eq_getElem hlt]
    show (PyProof.Rows.step_dedup _ (ns.getD i 0)).length = i + 1 ↔ (ns.take i ++ [ns[i]]).Nodup
    unfold PyProof.Rows.step_dedup
    rw [ea, ex]
    have hn : (ns.take i ++ [ns[i]]).Nodup ↔ (ns.take i).Nodup ∧ ns[i] ∉ ns.take i := by
      rw [List.nodup_append]
      constructor
      · rintro ⟨a, _, c⟩
        exact ⟨a, fun z => c _ z _ (List.mem_singleton.mpr rfl) rfl⟩
      · rintro ⟨a, c⟩
        refine ⟨a, List.Pairwise.cons (fun _ h => nomatch h) .nil, fun x hx y hy => ?_⟩
        rw [List.mem_singleton.mp hy]
        exact fun z => c (z ▸ hx)
    rw [hn]
    by_cases hm : ns[i] ∈ ns.take i
    · rw [if_pos (List.any_eq_true.mpr ⟨ns[i], hm, beq_self_eq_true ns[i]⟩ : ((List.take i ns).any fun x => x == ns[i]) = true)]
      constructor
      · intro z
        omega
      · intro z
        exact absurd hm z.2
    · rw [if_neg (fun (z : ((List.take i ns).any fun x => x == ns[i]) = true) => by
        obtain ⟨y, h1, h2⟩ := List.any_eq_true.mp z
        rw [eq_of_beq h2] at h1
        exact hm h1), List.length_append, List.length_singleton]
      constructor
      · intro z
        exact ⟨ih.mp (by omega), hm⟩
      · intro z
        have := ih.mpr z.1
        omega
theorem many_nodup (ns : List Int) : decide (manyOf ns = ns.length) = decide ns.Nodup := by
  have := met_nodup (ns := ns) ns.length (Nat.le_refl _)
  rw [List.take_length] at this
  exact decide_eq_decide.mpr this
def tSetLen (K : PySem.W.Frag) (ta : TE) : TE := fun σ H Q => ta σ H fun x G => ∃ (l : Addr) (ns : List Int), x = .ref l ∧ SqL K G l (ns.map V.int) ∧ ns.length ≤ 2000 ∧ Q (.int (manyOf ns : Nat)) G
theorem pe_setLen {X : Cx} {a : Expr} {ta : TE} {u1 u2 u3 u4 : Pos} (gl : Gl X "len") (ml : X.mg "len" = none) (gs : Gl X "set") (ms : X.mg "set" = none) (ha : PE X a ta) (calm : X.calm = true := by rfl)
    (st : starEach [a] X.env = (false, eval a X.env) :: starEach [] X.env := by rfl) : PE X (.Call (.Name "len" u1) [.Call (.Name "set" u2) [a] [] u3] [] u4) (tSetLen X.K ta) :=
  ⟨fun pins s σ H Q I h => by
    refine PyProof.Rows.Call_ (ld_blt I gl ml boot_len ?_)
    refine PyProof.Rows.callWith_builtin1 (PyProof.Rows.args_cons ?_ rfl) rfl rfl
    refine PyProof.Rows.Call_ (ld_blt I gs ms boot_set ?_)
    refine PyProof.Rows.callWith_type1 (PyProof.Rows.args_cons (thn (ha.run pins s σ H _ I h) fun v t ⟨x, G, J, rx, hx⟩ => PyProof.Rows.args_nil ?_) st) st rfl
    obtain ⟨l, ns, rfl, sq, len, fin⟩ := hx
    cases rx
    obtain ⟨items, vals, place, _⟩ := J.list sq
    have size : items.toArray.size = ns.length := by rw [List.size_toArray, ← vals.length, List.length_map]
    refine call_set_list (J.ok.hd calm) place.isList (by simpa using RZ.intsAre_vals vals) (by rw [size]; unfold scanBound; omega) fun h' tk made kept => ?_
    refine PyProof.Rows.args_nil ?_
    rw [size] at made
    have few := PyProof.Rows.firstMet_length_le (fun i => ns.getD i 0) ns.length
    obtain ⟨o, es, ep, t', ho, hex, hd, _, _, _, hf, hn⟩ := made
    have J2 : Inv X pins σ G { t with heap := h', toks := tk } := J.kept fun b o e => kept b o (Heap.lt_size e) e
    exact call_len_set ho hex hd hf (by rw [hn]; omega) ⟨.int (manyOf ns : Nat), G, J2.tok _, ⟨_, by rw [hn]; rfl⟩, fin⟩⟩
/-! ### what is handed in as a way -/
inductive Wh (H : Hp) : V → Option (List V) → Prop where
  | tup {b : Addr} {xs : List V} : H b = some (.tup xs) → (∀ y ∈ xs, ∃ n, Tg H y n) → xs.length ≤ 1000 → Wh H (.ref b) (some xs)
  | oth {v : V} {n : String} : Tg H v n → (n == "tuple") = false → Wh H v none
theorem Wh.keep {H H' : Hp} {v : V} {o : Option (List V)} (h : Wh H v o) (s : Same H H') : Wh H' v o := by
  cases h with
  | tup e a l =>
    refine .tup (s _ _ e) (fun y hy => ?_) l
    obtain ⟨n, t⟩ := a y hy
    exact ⟨n, t.keep s⟩
  | oth t n => exact .oth (t.keep s) n
def goesO (rs : List Road) (here : Int) (o : Option (List V)) : Option (List Road) := o.bind (goes rs here)
theorem met_last (here : Int) (qs : List Road) : atI ((metOf here qs).map V.int) (-1) = some (.int (lastOf here qs)) := by
  have e : metOf here qs ≠ [] := List.cons_ne_nil _ _
  have el : lastOf here qs = (metOf here qs).getLast e := by
    unfold lastOf
    show ((metOf here qs).getLast?).getD here = _
    rw [List.getLast?_eq_some_getLast e]
    rfl
  rw [el]
  conv => lhs; rw [← List.dropLast_concat_getLast e, List.map_append, List.map_singleton]
  exact atI_last _ _
theorem met_len (here : Int) (qs : List Road) : (metOf here qs).length = qs.length + 1 := by
  unfold metOf
  rw [List.length_cons, List.length_map]
theorem met_snoc (here : Int) (qs : List Road) (q : Road) : metOf here (qs ++ [q]) = metOf here qs ++ [q.other] := by
  unfold metOf
  rw [List.map_append, List.map_singleton, List.cons_append]
section
variable {P : Program} {w : World} {K : PySem.W.Frag} {mg : Str → Option Value} {base : Heap}
variable {f1 f2 f3 f4 f5 : Addr} {d1 d2 d3 d4 d5 : FuncData}
theorem scNetQ : FnScope ["thing", "places", "roads", "road"] ["thing"] (defScope sNetQ) := ⟨rfl, rfl, rfl, by decide +kernel, rfl, by decide +kernel, by decide +kernel⟩
def spNetQ : Sp := fun vs H Q _ => ∃ (a r : Addr) (ts : List Addr) (p : Int) (rs : List Road), vs = [.ref a] ∧ NetAt H a r ts p rs ∧ NetOk p rs ∧ ∀ H', Same H H' → Q (.bl true) H'
theorem all_yes (n : Nat) : (List.replicate n true).all id = true := by
  rw [List.all_eq_true]
  intro x hx
  rw [(List.mem_replicate.mp hx).2]
  rfl
theorem ok_netQ {k : Nat} (S : Sm K mg f1 f2 f3 f4 f5 d1 d2 d3 d4 d5) : FnOk P w K mg base CX0 (k + 4) f5 d5 ["thing"] spNetQ := by
  have G : FnOk P w K mg base CX0 (k + 3) f2 d2 ["thing", "low", "high"] spWithin := ok_within S
  have GT : FnOk P w K mg base CX0 (k + 3) f3 d3 ["thing", "many"] spTupOf := ok_tupOf S
  have GR : FnOk P w K mg base CX0 (k + 3) f4 d4 ["places", "thing"] spRoadQ := ok_roadQ S
  obtain ⟨t1, c1⟩ := S.c1
  obtain ⟨t2, c2⟩ := S.c2
  refine S.netQ.F.ok scNetQ (fun vs H Q E h => ?_) (fun cdv A outer s H vs Q E hr h => ?_)
  · obtain ⟨_, _, _, _, _, rfl, _⟩ := h
    rfl
  · obtain ⟨a, r, ts, p, rs, rfl, ⟨ea, er, et⟩, ok, q⟩ := h
    refine ⟨_, pss_cons (ps_if (pt_not (pt_val (pe_call GT hr (by rfl) S.tupOf.g S.tupOf.F.kp S.tupOf.b .nil pass0 (pa_cons (pv 0) (pa_cons pe_int pa_nil))))) pss_never pss_nil)
      (pss_cons (ps_asg (pv 0) (pg_tup (by rfl) (pgs_cons (pg_name (i := 1) scNetQ.nd rfl (.inr rfl)) (pgs_cons (pg_name (i := 2) scNetQ.nd rfl (.inl rfl)) pgs_nil))))
      (pss_cons (ps_if (pt_not (pt_val (pe_call G hr (by rfl) S.within.g S.within.F.kp S.within.b .nil pass0 (pa_cons (pv 1) (pa_cons pe_int (pa_cons (pe_glob (v := .int 10) (by rfl) c1 ⟨t1, rfl⟩) pa_nil)))))) pss_never pss_nil)
      (pss_cons (ps_if (PW.pt (pw_or (pt_not (pt_val (pe_callB call_isi (by rfl) S.mi (by decide +kernel) (pa_cons (pv 2) (pa_cons (pe_bltn (v := .ty "tuple") (by rfl) S.mT (by decide +kernel) rfl) pa_nil)))))
          (pw_or1 (pt_cmpR op_gt (pe_callB call_len_seq (by rfl) S.ml PySem.boot_len (pa_cons (pv 2) pa_nil)) (pe_glob (v := .int 30) (by rfl) c2 ⟨t2, rfl⟩) (nomark _))))) pss_never pss_nil)
      (pss_one (ps_ret (pe_callB (cr_all rfl) (by rfl) S.mA (by decide +kernel) (pa_cons
        (pe_lc (own := [("road", 3)]) (g := gName 3) (tt := tYes) rfl scNetQ.nd (pi_tup (pv 2)) (blkOk_by (N := ["thing", "places", "roads", "road"]) (sc := defScope sNetQ) (by decide +kernel))
          (fun _ _ _ _ _ => pg_name (i := 3) scNetQ.nd rfl (.inl rfl)) (fun _ _ _ _ _ => pts_nil)
          (fun _ _ _ _ _ => pe_call GR hr (by rfl) S.roadQ.g S.roadQ.F.kp S.roadQ.b .nil pass0 (pa_cons (pv 1) (pa_cons (pv 3) pa_nil)))) pa_nil))))))), ?_⟩
    refine ⟨.ref a, rfl, a, _, 2, rfl, ea, rfl, _, rfl, iteF ?_⟩
    refine ⟨.ref a, rfl, a, _, rfl, SqT.of ea, rfl, .int p, _, rfl, .ref r, _, rfl, rfl, ?_⟩
    refine ⟨.int p, rfl, .int p, "int", 1, 10, rfl, .int _, _, rfl, ?_⟩
    rw [isIn_of ok.p1 ok.p2]
    refine iteF ?_
    have t : Tg H (.ref r) "tuple" := .tup er
    refine ⟨.ref r, rfl, .ref r, .ty "tuple", .type "tuple", .type "tuple", true, rfl, .ty _, t.tyx, isi_tuple t, _, rfl, iteF ?_⟩
    have hl : ¬ ((30 : Int) < ((ts.map V.ref).length : Int)) := by
      rw [List.length_map, et.len]
      have := ok.len
      omega
    refine ⟨.ref r, rfl, r, _, rfl, .inr (SqT.of er), _, 30, rfl, rfl, _, rfl, ?_⟩
    rw [decide_eq_false hl]
    refine iteF ?_
    refine ⟨.ref r, rfl, r, rfl, ⟨_, SqT.of er⟩, fun D hD => ?_⟩
    refine lc_tup (xs := ts.map V.ref) (fun i H' => Same H H' ∧ H' D = some (.lst ((List.replicate i true).map V.bl))) ⟨same_new hD, upd_same⟩ (fun i H' _ h => SqT.of (h.1 _ _ er)) (fun i x H' hx h => ?_) (fun H' h => ?_)
    · obtain ⟨sm, eD⟩ := h
      have hi : i < ts.length := by
        have := (List.getElem?_eq_some_iff.mp hx).1
        rwa [List.length_map] at this
      rw [List.getElem?_map, List.getElem?_eq_getElem hi] at hx
      cases hx
      obtain ⟨rd, e1, e2⟩ := et.get (List.getElem?_eq_getElem hi)
      refine ⟨rfl, ?_⟩
      unfold tYes
      dsimp only
      rw [if_pos rfl]
      refine ⟨.int p, rfl, .ref ts[i], rfl, ts[i], p, rd, rfl, sm _ _ e2, ok.all _ (List.mem_of_getElem? e1), _, eD, ?_, ?_, ?_⟩
      · rw [List.length_map, List.length_replicate]
        have := ok.len
        rw [et.len] at hi
        exact small1000 (by omega)
      · exact Same.upd_lst sm hD
      · rw [upd_same, List.replicate_succ', List.map_append]
        rfl
    · obtain ⟨sm, eD⟩ := h
      refine ⟨D, _, rfl, SqL.of eD, ?_⟩
      rw [all_yes]
      exact q _ sm
theorem scChkN : FnScope ["thing"] ["thing"] (defScope sChkN) := ⟨rfl, rfl, rfl, by decide +kernel, rfl, by decide +kernel, by decide +kernel⟩
def spChkN : Sp := fun vs H Q _ => ∃ (a r : Addr) (ts : List Addr) (p : Int) (rs : List Road), vs = [.ref a] ∧ NetAt H a r ts p rs ∧ NetOk p rs ∧ ∀ H', Same H H' → Q .non H'
theorem ok_chkN {f : Addr} {fd : FuncData} {k : Nat} (S : Sm K mg f1 f2 f3 f4 f5 d1 d2 d3 d4 d5) (D : Df K mg "check_net" sChkN ["thing"] f fd) : FnOk P w K mg base CX0 (k + 5) f fd ["thing"] spChkN := by
  have G : FnOk P w K mg base CX0 (k + 4) f5 d5 ["thing"] spNetQ := ok_netQ S
  refine D.F.ok scChkN (fun vs H Q E h => ?_) (fun cdv A outer s H vs Q E hr h => ?_)
  · obtain ⟨_, _, _, _, _, rfl, _⟩ := h
    rfl
  · obtain ⟨a, r, ts, p, rs, rfl, hn, ok, q⟩ := h
    refine ⟨_, pss_one (ps_if (pt_not (pt_val (pe_call G hr (by rfl) S.netQ.g S.netQ.F.kp S.netQ.b .nil pass0 (pa_cons (pv 0) pa_nil)))) pss_never pss_nil), ?_⟩
    exact ⟨.ref a, rfl, a, r, ts, p, rs, rfl, hn, ok, fun H' sm => ⟨_, rfl, iteF (q _ sm)⟩⟩
/-- a class of refusals without an __init__ of its own -/
structure Ex (K : PySem.W.Frag) (mg : Str → Option Value) (x : Str) (C : Addr) : Prop where
  g : mg x = some (.ref C)
  x : PySem.W.excIn K C [.type "ValueError", .type "Exception", .type "BaseException", .type "object"] "ValueError.__new__" = true
  k : PySem.W.keepIn K (.ref C) = true
  b : PySem.W.subIn K (.ref C) (.type "BaseException") = some true
  t : PySem.W.typeIn K (.ref C) = some (.type "type")
theorem scChkP : FnScope ["net", "thing"] ["net", "thing"] (defScope sChkP) := ⟨rfl, rfl, rfl, by decide +kernel, rfl, by decide +kernel, by decide +kernel⟩
def spChkP (C : Addr) : Sp := fun vs H Q E => ∃ (a r : Addr) (ts : List Addr) (p : Int) (rs : List Road) (v : V) (n : String), vs = [.ref a, v] ∧ NetAt H a r ts p rs ∧ Tg H v n ∧ (isIn v 0 (p - 1) = true → Q .non H) ∧ (isIn v 0 (p - 1) = false → E (.ref C) none H)
theorem ok_chkP {f C : Addr} {fd : FuncData} {k : Nat} (S : Sm K mg f1 f2 f3 f4 f5 d1 d2 d3 d4 d5) (D : Df K mg "check_place" sChkP ["net", "thing"] f fd) (Z : Ex K mg "NoPlace" C) : FnOk P w K mg base (L2.CX P w) (k + 3) f fd ["net", "thing"] (spChkP C) := by
  have G : FnOk P w K mg base CX0 (k + 2) f2 d2 ["thing", "low", "high"] spWithin := ok_within S
  refine D.F.okX scChkP (fun vs H Q E h => ?_) (fun cdv A outer s H vs Q E hr h => ?_)
  · obtain ⟨_, _, _, _, _, _, _, rfl, _⟩ := h
    rfl
  · obtain ⟨a, r, ts, p, rs, v, n, rfl, ⟨ea, _, _⟩, t, q1, q2⟩ := h
    refine ⟨_, pss_one (ps_if (pt_not (pt_val (pe_call G hr (by rfl) S.within.g S.within.F.kp S.within.b .nil pass0 (pa_cons (pv 1) (pa_cons pe_int (pa_cons (pe_op op_sub (pe_ix ix_tup (pv 0) pe_int (fun _ _ => rfl)) pe_int) pa_nil))))))
      (pss_one (ps_raise rfl (takes_of rfl rfl rfl rfl) (pmk_own PySem.F.excBase_ValueError Z.x Z.g Z.k (raises_own Z.b Z.t) rfl))) pss_nil), ?_⟩
    refine ⟨v, rfl, .ref a, rfl, a, _, 0, _, rfl, rfl, SqT.of ea, rfl, p, 1, rfl, rfl, v, n, 0, p - 1, rfl, t, _, rfl, ?_⟩
    cases e : isIn v 0 (p - 1) with
    | true => exact iteF (q1 e)
    | false => exact iteT (q2 e)
end
end Wy

namespace Wy
open PySem PySem.Spec PyProof.Rows L2
/-! ### nets among things of whatever kind -/
def tupV (H : Hp) (v : V) : Option (List V) := match v with
  | .ref a => (match H a with
    | some (.tup xs) => some xs
    | _ => none)
  | _ => none
theorem tupV_ref {H : Hp} {a : Addr} {xs : List V} (e : H a = some (.tup xs)) : tupV H (.ref a) = some xs := by
  unfold tupV
  dsimp only
  rw [e]
theorem tupV_some {H : Hp} {v : V} {xs : List V} (h : tupV H v = some xs) : ∃ a, v = .ref a ∧ H a = some (.tup xs) := by
  unfold tupV at h
  split at h
  · rename_i a
    split at h
    · rename_i ys e
      cases h
      exact ⟨a, rfl, e⟩
    · cases h
  · cases h
/-- told by classes to so many depths -/
def Dep (H : Hp) : Nat → V → Prop
  | 0, v => ∃ n, Tg H v n
  | k + 1, v => (∃ n, Tg H v n) ∧ ∀ xs, tupV H v = some xs → xs.length ≤ 1000 ∧ ∀ y ∈ xs, Dep H k y
theorem Dep.tg {H : Hp} {k : Nat} {v : V} (h : Dep H k v) : ∃ n, Tg H v n := by
  cases k with
  | zero => exact h
  | succ k => exact h.1
theorem Tg.tup_same {H H' : Hp} {v : V} {n : String} (t : Tg H v n) (s : Same H H') : tupV H' v = tupV H v := by
  cases t with
  | non => rfl
  | bl b => rfl
  | int i => rfl
  | str x => rfl
  | lst e =>
    unfold tupV
    dsimp only
    rw [e, s _ _ e]
  | tup e =>
    unfold tupV
    dsimp only
    rw [e, s _ _ e]
  | dct e =>
    unfold tupV
    dsimp only
    rw [e, s _ _ e]
theorem Dep.same {H H' : Hp} (s : Same H H') : ∀ {k : Nat} {v : V}, Dep H k v → Dep H' k v
  | 0, _, h => let ⟨n, t⟩ := h; ⟨n, t.keep s⟩
  | k + 1, v, h => by
    obtain ⟨⟨n, t⟩, h⟩ := h
    refine ⟨⟨n, t.keep s⟩, fun xs e => ?_⟩
    rw [t.tup_same s] at e
    exact ⟨(h xs e).1, fun y hy => Dep.same s ((h xs e).2 y hy)⟩
def roadB (H : Hp) (p : Int) (v : V) : Bool := match tupV H v with
  | some [a, b, c, t] => isIn a 0 (p - 1) && (isIn b 0 (p - 1) && (!decide (a = b) && (isIn c 1 99 && isIn t 0 99)))
  | _ => false
def netB (H : Hp) (v : V) : Bool := match tupV H v with
  | some [.int p, r] => isIn (.int p) 1 10 && (match tupV H r with
    | some rs => decide (rs.length ≤ 30) && rs.all (roadB H p)
    | none => false)
  | _ => false
theorem roadB_same {H H' : Hp} {p : Int} {v : V} (d : Dep H 0 v) (s : Same H H') : roadB H' p v = roadB H p v := by
  obtain ⟨n, t⟩ := d
  unfold roadB
  rw [t.tup_same s]
section
variable {P : Program} {w : World} {K : PySem.W.Frag} {mg : Str → Option Value} {base : Heap}
variable {f1 f2 f3 f4 f5 : Addr} {d1 d2 d3 d4 d5 : FuncData}
def lenB (H : Hp) (v : V) (m : Int) : Bool := match tupV H v with
  | some xs => decide ((xs.length : Int) = m)
  | none => false
def spTupG : Sp := fun vs H Q _ => ∃ (v : V) (n : String) (m : Int), vs = [v, .int m] ∧ Tg H v n ∧ Q (.bl (lenB H v m)) H
theorem ok_tupG {k : Nat} (S : Sm K mg f1 f2 f3 f4 f5 d1 d2 d3 d4 d5) : FnOk P w K mg base CX0 (k + 1) f3 d3 ["thing", "many"] spTupG := by
  refine S.tupOf.F.ok scTupOf (fun vs H Q E h => ?_) (fun cdv A outer s H vs Q E hr h => ?_)
  · obtain ⟨_, _, _, rfl, _⟩ := h
    rfl
  · obtain ⟨v, n, m, rfl, t, q⟩ := h
    refine ⟨_, pss_one (ps_ret (pe_and (pe_callB call_isi (by rfl) S.mi (by decide +kernel) (pa_cons (pv 0) (pa_cons (pe_bltn (v := .ty "tuple") (by rfl) S.mT (by decide +kernel) rfl) pa_nil)))
      (pe_one (pe_cmpR op_eq (pe_callB call_len_seq (by rfl) S.ml PySem.boot_len (pa_cons (pv 0) pa_nil)) (pv 1) (nomark _))))), ?_⟩
    refine ⟨v, rfl, v, .ty "tuple", .type n, .type "tuple", (n == "tuple"), rfl, .ty _, t.tyx, isi_tuple t, _, rfl, ?_⟩
    cases t with
    | @tup a xs e =>
      refine iteT ⟨.ref a, rfl, a, xs, rfl, .inr (SqT.of e), .int m, rfl, rfl, ?_⟩
      have el : lenB H (.ref a) m = decide (V.int (xs.length : Int) = V.int m) := by
        unfold lenB
        rw [tupV_ref e]
        dsimp only
        exact decide_eq_decide.mpr ⟨fun z => by rw [z], fun z => V.int.inj z⟩
      rw [el] at q
      exact q
    | non => exact iteF q
    | bl b => exact iteF q
    | int i => exact iteF q
    | str x => exact iteF q
    | @lst a xs e =>
      have el : lenB H (.ref a) m = false := by
        unfold lenB tupV
        dsimp only
        rw [e]
      rw [el] at q
      exact iteF q
    | @dct a xs e =>
      have el : lenB H (.ref a) m = false := by
        unfold lenB tupV
        dsimp only
        rw [e]
      rw [el] at q
      exact iteF q
theorem lenB_true {H : Hp} {v : V} {m : Int} (h : lenB H v m = true) : ∃ a xs, v = .ref a ∧ H a = some (.tup xs) ∧ (xs.length : Int) = m := by
  unfold lenB at h
  split at h
  · rename_i xs e
    obtain ⟨a, e1, e2⟩ := tupV_some e
    exact ⟨a, xs, e1, e2, of_decide_eq_true h⟩
  · cases h
def spRoadG : Sp := fun vs H Q _ => ∃ (v : V) (p : Int), vs = [.int p, v] ∧ Dep H 1 v ∧ Q (.bl (roadB H p v)) H
theorem ok_roadG {k : Nat} (S : Sm K mg f1 f2 f3 f4 f5 d1 d2 d3 d4 d5) : FnOk P w K mg base CX0 (k + 3) f4 d4 ["places", "thing"] spRoadG := by
  have G : FnOk P w K mg base CX0 (k + 2) f2 d2 ["thing", "low", "high"] spWithin := ok_within S
  have GT : FnOk P w K mg base CX0 (k + 2) f3 d3 ["thing", "many"] spTupG := ok_tupG S
  obtain ⟨t3, c3⟩ := S.c3
  obtain ⟨t4, c4⟩ := S.c4
  obtain ⟨t5, c5⟩ := S.c5
  refine S.roadQ.F.ok scRoadQ (fun vs H Q E h => ?_) (fun cdv A outer s H vs Q E hr h => ?_)
  · obtain ⟨_, _, rfl, _⟩ := h
    rfl
  · obtain ⟨v, p, rfl, dep, q⟩ := h
    refine ⟨_, pss_cons (ps_if (pt_not (pt_val (pe_call GT hr (by rfl) S.tupOf.g S.tupOf.F.kp S.tupOf.b .nil pass0 (pa_cons (pv 1) (pa_cons pe_int pa_nil))))) (pss_one (ps_ret pe_bl)) pss_nil)
      (pss_cons (ps_asg (pv 1) (pg_tup (by rfl) (pgs_cons (pg_name (i := 2) scRoadQ.nd rfl (.inl rfl)) (pgs_cons (pg_name (i := 3) scRoadQ.nd rfl (.inl rfl)) (pgs_cons (pg_name (i := 4) scRoadQ.nd rfl (.inl rfl)) (pgs_cons (pg_name (i := 5) scRoadQ.nd rfl (.inl rfl)) pgs_nil))))))
      (pss_cons (ps_if (PW.pt (pw_or (pt_not (pt_val (pe_call G hr (by rfl) S.within.g S.within.F.kp S.within.b .nil pass0 (pa_cons (pv 2) (pa_cons pe_int (pa_cons (pe_op op_sub (pv 0) pe_int) pa_nil)))))) (pw_or1 (pt_not (pt_val (pe_call G hr (by rfl) S.within.g S.within.F.kp S.within.b .nil pass0 (pa_cons (pv 3) (pa_cons pe_int (pa_cons (pe_op op_sub (pv 0) pe_int) pa_nil)))))))))
        (pss_one (ps_ret pe_bl)) pss_nil)
      (pss_one (ps_ret (pe_and (pe_cmpR op_ne (pv 2) (pv 3) (nomark _)) (pe_and (pe_call G hr (by rfl) S.within.g S.within.F.kp S.within.b .nil pass0 (pa_cons (pv 4) (pa_cons (pe_glob (v := .int 1) (by rfl) c3 ⟨t3, rfl⟩) (pa_cons (pe_glob (v := .int 99) (by rfl) c4 ⟨t4, rfl⟩) pa_nil))))
        (pe_one (pe_call G hr (by rfl) S.within.g S.within.F.kp S.within.b .nil pass0 (pa_cons (pv 5) (pa_cons pe_int (pa_cons (pe_glob (v := .int 99) (by rfl) c5 ⟨t5, rfl⟩) pa_nil))))))))))), ?_⟩
    obtain ⟨⟨n, t⟩, dep⟩ := dep
    refine ⟨v, rfl, v, n, 4, rfl, t, _, rfl, ?_⟩
    cases e4 : lenB H v 4 with
    | false =>
      refine iteT ?_
      have eb : roadB H p v = false := by
        unfold roadB
        unfold lenB at e4
        split
        · rename_i a b c d e
          rw [e] at e4
          exact nomatch e4
        · rfl
      rw [eb] at q
      exact q
    | true =>
      refine iteF ?_
      obtain ⟨ad, xs, rfl, e, hl⟩ := lenB_true e4
      have hl' : xs.length = 4 := by omega
      obtain ⟨a, b, c, d, rfl⟩ : ∃ a b c d, xs = [a, b, c, d] := by
        match xs, hl' with
        | [a, b, c, d], _ => exact ⟨a, b, c, d, rfl⟩
      obtain ⟨_, al⟩ := dep _ (tupV_ref e)
      have eb : roadB H p (.ref ad) = (isIn a 0 (p - 1) && (isIn b 0 (p - 1) && (!decide (a = b) && (isIn c 1 99 && isIn d 0 99)))) := by
        unfold roadB
        rw [tupV_ref e]
      rw [eb] at q
      obtain ⟨na, ta⟩ := al a (by simp)
      obtain ⟨nb, tb⟩ := al b (by simp)
      obtain ⟨nc, tc⟩ := al c (by simp)
      obtain ⟨nd, td⟩ := al d (by simp)
      refine ⟨.ref ad, rfl, ad, _, rfl, SqT.of e, rfl, a, _, rfl, b, _, rfl, c, _, rfl, d, _, rfl, rfl, ?_⟩
      refine ⟨a, rfl, .int p, rfl, p, 1, rfl, rfl, a, na, 0, p - 1, rfl, ta, _, rfl, ?_⟩
      cases ea : isIn a 0 (p - 1) with
      | false =>
        rw [ea] at q
        exact iteT q
      | true =>
        rw [ea] at q
        refine iteF ?_
        refine ⟨b, rfl, .int p, rfl, p, 1, rfl, rfl, b, nb, 0, p - 1, rfl, tb, _, rfl, ?_⟩
        cases eb2 : isIn b 0 (p - 1) with
        | false =>
          rw [eb2] at q
          exact iteT q
        | true =>
          rw [eb2] at q
          refine iteF ?_
          obtain ⟨i, rfl, _, _⟩ := isIn_true ea
          obtain ⟨j, rfl, _, _⟩ := isIn_true eb2
          refine ⟨.int i, rfl, .int j, rfl, rfl, _, rfl, ?_⟩
          cases ed : decide (V.int i = V.int j) with
          | true =>
            rw [ed] at q
            exact iteF q
          | false =>
            rw [ed] at q
            refine iteT ⟨c, rfl, c, nc, 1, 99, rfl, tc, _, rfl, ?_⟩
            cases ec : isIn c 1 99 with
            | false =>
              rw [ec] at q
              exact iteF q
            | true =>
              rw [ec] at q
              exact iteT ⟨d, rfl, d, nd, 0, 99, rfl, td, q⟩
end
end Wy

namespace Wy
open PySem PySem.Spec PyProof.Rows L2
section
variable {P : Program} {w : World} {K : PySem.W.Frag} {mg : Str → Option Value} {base : Heap}
variable {f1 f2 f3 f4 f5 : Addr} {d1 d2 d3 d4 d5 : FuncData}
def spNetG : Sp := fun vs H Q _ => ∃ v : V, vs = [v] ∧ Dep H 3 v ∧ ∀ H', Same H H' → Q (.bl (netB H v)) H'
theorem all_take {α : Type} (f : α → Bool) (xs : List α) : ((xs.map f).all id) = xs.all f := by
  rw [List.all_map]
  rfl
theorem ok_netG {k : Nat} (S : Sm K mg f1 f2 f3 f4 f5 d1 d2 d3 d4 d5) : FnOk P w K mg base CX0 (k + 4) f5 d5 ["thing"] spNetG := by
  have G : FnOk P w K mg base CX0 (k + 3) f2 d2 ["thing", "low", "high"] spWithin := ok_within S
  have GT : FnOk P w K mg base CX0 (k + 3) f3 d3 ["thing", "many"] spTupG := ok_tupG S
  have GR : FnOk P w K mg base CX0 (k + 3) f4 d4 ["places", "thing"] spRoadG := ok_roadG S
  obtain ⟨t1, c1⟩ := S.c1
  obtain ⟨t2, c2⟩ := S.c2
  refine S.netQ.F.ok scNetQ (fun vs H Q E h => ?_) (fun cdv A outer s H vs Q E hr h => ?_)
  · obtain ⟨_, rfl, _⟩ := h
    rfl
  · obtain ⟨v, rfl, dep, q⟩ := h
    refine ⟨_, pss_cons (ps_if (pt_not (pt_val (pe_call GT hr (by rfl) S.tupOf.g S.tupOf.F.kp S.tupOf.b .nil pass0 (pa_cons (pv 0) (pa_cons pe_int pa_nil))))) (pss_one (ps_ret pe_bl)) pss_nil)
      (pss_cons (ps_asg (pv 0) (pg_tup (by rfl) (pgs_cons (pg_name (i := 1) scNetQ.nd rfl (.inr rfl)) (pgs_cons (pg_name (i := 2) scNetQ.nd rfl (.inl rfl)) pgs_nil))))
      (pss_cons (ps_if (pt_not (pt_val (pe_call G hr (by rfl) S.within.g S.within.F.kp S.within.b .nil pass0 (pa_cons (pv 1) (pa_cons pe_int (pa_cons (pe_glob (v := .int 10) (by rfl) c1 ⟨t1, rfl⟩) pa_nil)))))) (pss_one (ps_ret pe_bl)) pss_nil)
      (pss_cons (ps_if (PW.pt (pw_or (pt_not (pt_val (pe_callB call_isi (by rfl) S.mi (by decide +kernel) (pa_cons (pv 2) (pa_cons (pe_bltn (v := .ty "tuple") (by rfl) S.mT (by decide +kernel) rfl) pa_nil)))))
          (pw_or1 (pt_cmpR op_gt (pe_callB call_len_seq (by rfl) S.ml PySem.boot_len (pa_cons (pv 2) pa_nil)) (pe_glob (v := .int 30) (by rfl) c2 ⟨t2, rfl⟩) (nomark _))))) (pss_one (ps_ret pe_bl)) pss_nil)
      (pss_one (ps_ret (pe_callB (cr_all rfl) (by rfl) S.mA (by decide +kernel) (pa_cons
        (pe_lc (own := [("road", 3)]) (g := gName 3) (tt := tYes) rfl scNetQ.nd (pi_tup (pv 2)) (blkOk_by (N := ["thing", "places", "roads", "road"]) (sc := defScope sNetQ) (by decide +kernel))
          (fun _ _ _ _ _ => pg_name (i := 3) scNetQ.nd rfl (.inl rfl)) (fun _ _ _ _ _ => pts_nil)
          (fun _ _ _ _ _ => pe_call GR hr (by rfl) S.roadQ.g S.roadQ.F.kp S.roadQ.b .nil pass0 (pa_cons (pv 1) (pa_cons (pv 3) pa_nil)))) pa_nil))))))), ?_⟩
    obtain ⟨⟨n, t⟩, dep⟩ := dep
    have q0 := q H (Same.refl H)
    refine ⟨v, rfl, v, n, 2, rfl, t, _, rfl, ?_⟩
    cases e2 : lenB H v 2 with
    | false =>
      refine iteT ?_
      have eb : netB H v = false := by
        unfold netB
        unfold lenB at e2
        split
        · rename_i p r e
          rw [e] at e2
          exact nomatch e2
        · rfl
      rw [eb] at q0
      exact q0
    | true =>
      refine iteF ?_
      obtain ⟨ad, xs, rfl, e, hl⟩ := lenB_true e2
      have hl' : xs.length = 2 := by omega
      obtain ⟨a, r, rfl⟩ : ∃ a r, xs = [a, r] := by
        match xs, hl' with
        | [a, r], _ => exact ⟨a, r, rfl⟩
      obtain ⟨_, al⟩ := dep _ (tupV_ref e)
      obtain ⟨na, ta⟩ := (al a (by simp)).tg
      have dr : Dep H 2 r := al r (by simp)
      refine ⟨.ref ad, rfl, ad, _, rfl, SqT.of e, rfl, a, _, rfl, r, _, rfl, rfl, ?_⟩
      refine ⟨a, rfl, a, na, 1, 10, rfl, ta, _, rfl, ?_⟩
      cases ea : isIn a 1 10 with
      | false =>
        refine iteT ?_
        have eb : netB H (.ref ad) = false := by
          unfold netB
          rw [tupV_ref e]
          cases a <;> first | rfl | (dsimp only; rw [ea, Bool.false_and])
        rw [eb] at q0
        exact q0
      | true =>
        refine iteF ?_
        obtain ⟨p, rfl, p1, p2⟩ := isIn_true ea
        have eb : netB H (.ref ad) = (match tupV H r with
          | some rs => decide (rs.length ≤ 30) && rs.all (roadB H p)
          | none => false) := by
          unfold netB
          rw [tupV_ref e]
          dsimp only
          rw [ea, Bool.true_and]
          all_goals (cases tupV H r <;> rfl)
        obtain ⟨⟨nr, tr⟩, drs⟩ := dr
        refine ⟨r, rfl, r, .ty "tuple", .type nr, .type "tuple", (nr == "tuple"), rfl, .ty _, tr.tyx, isi_tuple tr, _, rfl, ?_⟩
        have none_of : tupV H r = none → Q (.bl false) H := fun h1 => by
          rw [eb, h1] at q0
          exact q0
        cases tr with
        | @tup rr rs er =>
          refine iteF ?_
          rw [tupV_ref er] at eb
          obtain ⟨_, alr⟩ := drs _ (tupV_ref er)
          refine ⟨.ref rr, rfl, rr, _, rfl, .inr (SqT.of er), _, 30, rfl, rfl, _, rfl, ?_⟩
          cases e30 : decide ((30 : Int) < (rs.length : Int)) with
          | true =>
            refine iteT ?_
            have h30 : ¬ (rs.length ≤ 30) := by
              have := of_decide_eq_true e30
              omega
            rw [eb] at q0
            dsimp only at q0
            rw [decide_eq_false h30, Bool.false_and] at q0
            exact q0
          | false =>
            refine iteF ?_
            have h30 : rs.length ≤ 30 := by
              have := of_decide_eq_false e30
              omega
            refine ⟨.ref rr, rfl, rr, rfl, ⟨_, SqT.of er⟩, fun D hD => ?_⟩
            refine lc_tup (xs := rs) (fun i H' => Same H H' ∧ H' D = some (.lst (((rs.take i).map (roadB H p)).map V.bl))) ⟨same_new hD, upd_same⟩ (fun i H' _ h => SqT.of (h.1 _ _ er)) (fun i x H' hx h => ?_) (fun H' h => ?_)
            · obtain ⟨sm, eD⟩ := h
              have dx : Dep H 1 x := alr x (List.mem_of_getElem? hx)
              refine ⟨rfl, ?_⟩
              unfold tYes
              dsimp only
              rw [if_pos rfl]
              refine ⟨.int p, rfl, x, rfl, x, p, rfl, dx.same sm, _, eD, ?_, Same.upd_lst sm hD, ?_⟩
              · rw [List.length_map, List.length_map, List.length_take]
                exact small1000 (by omega)
              · rw [upd_same, List.take_add_one, hx, roadB_same dx.tg sm, List.map_append, List.map_append]
                rfl
            · obtain ⟨sm, eD⟩ := h
              rw [List.take_length] at eD
              refine ⟨D, _, rfl, SqL.of eD, ?_⟩
              have q1 := q H' sm
              rw [eb] at q1
              dsimp only at q1
              rw [decide_eq_true h30, Bool.true_and, ← all_take] at q1
              exact q1
        | non => exact iteT (none_of rfl)
        | bl b => exact iteT (none_of rfl)
        | int i => exact iteT (none_of rfl)
        | str x => exact iteT (none_of rfl)
        | @lst a xs e' =>
          refine iteT (none_of ?_)
          unfold tupV
          dsimp only
          rw [e']
        | @dct a xs e' =>
          refine iteT (none_of ?_)
          unfold tupV
          dsimp only
          rw [e']
def spChkG (C : Addr) : Sp := fun vs H Q E => ∃ v : V, vs = [v] ∧ Dep H 3 v ∧ (netB H v = true → ∀ H', Same H H' → Q .non H') ∧ (netB H v = false → ∀ H', Same H H' → E (.ref C) none H')
theorem ok_chkG {f C : Addr} {fd : FuncData} {k : Nat} (S : Sm K mg f1 f2 f3 f4 f5 d1 d2 d3 d4 d5) (D : Df K mg "check_net" sChkN ["thing"] f fd) (Z : Ex K mg "NoNet" C) : FnOk P w K mg base (L2.CX P w) (k + 5) f fd ["thing"] (spChkG C) := by
  have G : FnOk P w K mg base CX0 (k + 4) f5 d5 ["thing"] spNetG := ok_netG S
  refine D.F.okX scChkN (fun vs H Q E h => ?_) (fun cdv A outer s H vs Q E hr h => ?_)
  · obtain ⟨_, rfl, _⟩ := h
    rfl
  · obtain ⟨v, rfl, dep, q1, q2⟩ := h
    refine ⟨_, pss_one (ps_if (pt_not (pt_val (pe_call G hr (by rfl) S.netQ.g S.netQ.F.kp S.netQ.b .nil pass0 (pa_cons (pv 0) pa_nil))))
      (pss_one (ps_raise rfl (takes_of rfl rfl rfl rfl) (pmk_own PySem.F.excBase_ValueError Z.x Z.g Z.k (raises_own Z.b Z.t) rfl))) pss_nil), ?_⟩
    refine ⟨v, rfl, v, rfl, dep, fun H' sm => ⟨_, rfl, ?_⟩⟩
    cases e : netB H v with
    | true => exact iteF (q1 e H' sm)
    | false => exact iteT (q2 e H' sm)
theorem net_is {H : Hp} {a r : Addr} {ts : List Addr} {p : Int} {rs : List Road} (h : NetAt H a r ts p rs) (ok : NetOk p rs) : netB H (.ref a) = true ∧ Dep H 3 (.ref a) := by
  obtain ⟨ea, er, et⟩ := h
  have hl := et.len
  have each : ∀ x ∈ ts.map V.ref, roadB H p x = true ∧ Dep H 1 x := fun x hx => by
    obtain ⟨t, ht, rfl⟩ := List.mem_map.mp hx
    obtain ⟨i, hi⟩ := List.mem_iff_getElem?.mp ht
    obtain ⟨q, e1, e2⟩ := et.get hi
    have o := ok.all q (List.mem_of_getElem? e1)
    refine ⟨?_, ⟨_, .tup e2⟩, fun xs e => ?_⟩
    · unfold roadB
      rw [tupV_ref e2]
      show (isIn (.int q.one) 0 (p - 1) && (isIn (.int q.other) 0 (p - 1) && (!decide (V.int q.one = V.int q.other) && (isIn (.int q.cost) 1 99 && isIn (.int q.time) 0 99)))) = true
      rw [isIn_of o.o1 o.o2, isIn_of o.t1 o.t2, isIn_of o.c1 o.c2, isIn_of o.m1 o.m2, decide_eq_false fun z => o.ne (V.int.inj z)]
      rfl
    · rw [tupV_ref e2] at e
      cases e
      refine ⟨by show 4 ≤ 1000; decide, fun y hy => ?_⟩
      simp only [Road.vs, List.mem_cons, List.not_mem_nil, or_false] at hy
      rcases hy with rfl | rfl | rfl | rfl <;> exact ⟨_, .int _⟩
  constructor
  · unfold netB
    rw [tupV_ref ea]
    dsimp only
    rw [isIn_of ok.p1 ok.p2, tupV_ref er]
    dsimp only
    have l30 := ok.len
    rw [decide_eq_true (show (ts.map V.ref).length ≤ 30 by rw [List.length_map, hl]; exact l30), List.all_eq_true.mpr fun x hx => (each x hx).1]
    rfl
  · refine ⟨⟨_, .tup ea⟩, fun xs e => ?_⟩
    rw [tupV_ref ea] at e
    cases e
    refine ⟨by show 2 ≤ 1000; decide, fun y hy => ?_⟩
    simp only [List.mem_cons, List.not_mem_nil, or_false] at hy
    rcases hy with rfl | rfl
    · exact ⟨⟨_, .int _⟩, fun xs e => nomatch e⟩
    · refine ⟨⟨_, .tup er⟩, fun xs e => ?_⟩
      rw [tupV_ref er] at e
      cases e
      have l30 := ok.len
      exact ⟨by rw [List.length_map, hl]; omega, fun x hx => (each x hx).2⟩
end
end Wy

namespace Wy
open PySem PySem.Spec PyProof.Rows L2
theorem pe_no {X : Cx} {e : Expr} : PE X e (fun _ _ _ => False) := ⟨fun _ _ _ _ _ _ h => h.elim⟩
/-- xs.count(x) of flat things -/
def rCountV (K : PySem.W.Frag) : V → List V → Hp → VK → Prop := fun x xs H Q => ∃ (a : Addr) (ys : List V) (y : V), x = V.ref a ∧ xs = [y] ∧ SqL K H a ys ∧ flatV y = true ∧ ys.all flatV = true ∧ Q (.int ((ys.countP fun u => eqV u y) : Nat)) H
theorem count_eqU {x : V} : ∀ {xs : List V} {us : List Value}, Vals xs us → xs.all flatV = true → us.countP (eqU x) = xs.countP fun y => eqV y x
  | _, _, .nil, _ => rfl
  | y :: r, _, .cons h t, f => by
    rw [List.all_cons, Bool.and_eq_true] at f
    rw [List.countP_cons, List.countP_cons, count_eqU t f.2, eqU_of h f.1]
theorem mt_countV {X : Cx} : MtR X "list.count" (rCountV X.K) := by
  intro pins s σ H x xs v us Q I rx rxs h
  obtain ⟨a, ys, y, rfl, rfl, sq, fy, fys, q⟩ := h
  cases rx
  cases rxs with
  | cons ry rt =>
    rename_i uy ut
    cases rt
    obtain ⟨its, rv, ⟨⟨cls, dd, data, sl⟩, n, ho, hc, hn, hd⟩, _⟩ := I.list sq
    simp only at hc hd
    subst hc hd
    refine call_meets PySem.F.slot_list_count ⟨_, ho, rfl⟩ PySem.F.entry_list_count (PySem.F.args_list_count_2 _ _) (SeqAt.list_countAt a its.toArray n dd sl uy (eqU y)) ⟨ho, fun u hu => mem_eqAt ry fy rv fys u (by simpa using hu), ?_⟩
    refine ⟨.int _, H, I.tok _, ⟨s.toks, ?_⟩, q⟩
    show Value.int ((its.toArray.toList.countP (eqU y) : Nat) : Int) s.toks = _
    rw [show its.toArray.toList = its from rfl, count_eqU rv fys]
/-! ### an error that is handled, and defs that are handed it -/
def ErrOf (D : Addr) (o : Obj) : Prop := Zc (.ref D) none o ∧ ∃ vs, o.data = .fields vs
theorem call_isP {X : Cx} {p : Addr × Obj} {D : Addr} (C : ExcC X.K D) (hp : p ∈ X.pn) (hz : ErrOf D p.2) : CallR X (.builtin "isinstance") (rIsE X.K D p.1) := by
  intro pins s σ H xs us Q I r h
  obtain ⟨c, cv, b, rfl, hc, e, q⟩ := h
  cases r with
  | cons rx rr =>
    cases rr with
    | cons rt rn =>
      cases rn
      cases rx
      have ec := hc _ rt
      subst ec
      obtain ⟨got, _⟩ := I.pin p (List.mem_append.mpr (.inl hp))
      obtain ⟨pa, oe⟩ := p
      obtain ⟨⟨h1, h2⟩, vs, hv⟩ := hz
      have J : PySem.W.InstAt s.heap pa oe D none := by
        obtain ⟨oc, od, oda, osl⟩ := oe
        dsimp only at h1 h2 hv
        subst h1 h2 hv
        exact ⟨got, rfl, rfl, trivial⟩
      exact PySem.W.kia_one (PySem.W.handS_kitx_exc C.hg C.hk C.hs C.hd C.ha C.hn C.ht C.hm) I.kIn J e (fun z => nomatch z) fun tk => ⟨.bl b, H, I.kept (t' := tk) fun _ _ z => z, rfl, q⟩
/-- what a def promises that is called with the error of class D while it is handled -/
structure FnE (P : Program) (w : World) (K : PySem.W.Frag) (mg : Str → Option Value) (base : Heap) (k : Nat) (f : Addr) (fd : FuncData) (ps : List Str) (D : Addr) (sp : Addr → List V → Hp → VK → Prop) : Prop where
  len : ∀ a vs H Q, sp a vs H Q → vs.length = ps.length
  run : ∀ (A : Around) (outer : List Env) (s : Shared) (H : Hp) (args : Args) (us : List Value) (vs : List V) (Q : VK) (p : Addr × Obj), L2H.RoomH k A → L2H.PinOk outer H s p → ErrOf D p.2 → Env0 P w K mg base A outer s H → BindsTo s fd args (ps.zip us) → Vals vs us → sp p.1 vs H Q →
    codeAny (model P w) A (.call (.ref f) args) (CR CX0 outer P w H s Q E0) s
theorem fnE_of {P : Program} {w : World} {K : PySem.W.Frag} {mg : Str → Option Value} {base : Heap} {x : Str} {st : Stmt} {f D : Addr} {fd : FuncData} {N ps : List Str} {k : Nat} {sp : Addr → List V → Hp → VK → Prop} (F : Fun K x x st f fd) (S : FnScope N ps (defScope st)) (len : ∀ a vs H Q, sp a vs H Q → vs.length = ps.length)
    (body : ∀ (cdv : Value) (A : Around) (outer : List Env) (s : Shared) (H : Hp) (vs : List V) (Q : VK) (p : Addr × Obj), L2H.RoomH k (A.deeper (envOfC x (defScope st) s.heap.objs.size f cdv)) → ErrOf D p.2 → sp p.1 vs H Q →
      ∃ t, PSs (L2H.cxH CX0 P w K mg base N x (defScope st) f cdv A outer s H E0 p).nox (defBody st) t ∧ t { nx := fun _ G => Q .non G, rt := Q } (L2.start N vs) H) : FnE P w K mg base (k + 1) f fd ps D sp := by
  obtain ⟨oc, od, kV, doc, pm, an, cdv, ct, osl, rfl, lk, hcd⟩ := F.ex
  refine ⟨len, fun A outer s H args us vs Q p hr pin err e0 bnd rv hsp => ?_⟩
  have inK : K.In s.heap := e0.mod.kin.keeps fun b o e => (e0.bs b o e).1
  refine codeAny_call_function hr.depth (inK _ _ lk) rfl S.co S.gen rfl (PySem.W.codeRec_of inK hcd) (bnd _ _ _ _ ?_)
  refine wpAny_newFunctionEnv_cells S.kind (fun y hy => ?_) fun env he s1 inC => ?_
  · rcases S.par y.1 (List.of_mem_zip (show (y.1, y.2) ∈ ps.zip us from hy)).1 with z | z
    · exact .inl z
    · exact .inr ⟨z, PySem.W.cellsFrom_some _ _ _ (.inl z)⟩
  · subst he
    refine ⟨(e0.mod.nolimit.keeps fun b o e => (e0.bs b o e).1).keeps inC.toInCall.keep, codeAny_func ?_⟩
    obtain ⟨t, ht, hq⟩ := body cdv A outer s H vs Q p (hr.deeper _) err hsp
    have J : L2.Inv (L2H.cxH CX0 P w K mg base N x (defScope st) f cdv A outer s H E0 p) [] (L2.start N vs) H s1 := L2H.inv_startH S pin e0 (len _ _ _ _ hsp) rv inC
    refine wpAny_mono (ht.nox.run [] s1 (L2.start N vs) H _ J hq) (fun fl s' hs => ?_) fun e s' hs => hs
    cases fl with
    | ret u =>
      obtain ⟨v, σ', H', J', rv', q⟩ := hs
      exact ⟨v, H', J'.os, J'.bare, J'.base, J'.hok, rv', q⟩
    | next =>
      obtain ⟨σ', H', J', q⟩ := hs
      exact ⟨.non, H', J'.os, J'.bare, J'.base, J'.hok, rfl, q⟩
    | brk =>
      obtain ⟨_, _, _, q⟩ := hs
      exact q.elim
    | cont =>
      obtain ⟨_, _, _, q⟩ := hs
      exact q.elim
theorem pe_callE {X : Cx} {k : Nat} {f D : Addr} {fd : FuncData} {ps : List Str} {sp : Addr → List V → Hp → VK → Prop} {x : Str} {u1 u2 : Pos} {e : Expr} {es : List Expr} {t : TA} {p : Addr × Obj} (F : FnE X.prog X.w X.K X.mg X.base k f fd ps D sp) (hr : L2H.RoomH k X.A) (hp : p ∈ X.pn) (hz : ErrOf D p.2) (hg : Gl X x) (hm : X.mg x = some (.ref f))
    (hk : PySem.W.keepIn X.K (.ref f) = true) (hb : L2.Binds X.K fd ps []) (ha : PA X (e :: es) t) (hdb : (x == ("__debug__" : Str)) = false := by decide) (he : starEach (e :: es) X.env = (false, eval e X.env) :: starEach es X.env := by rfl) (hpl : (backTo u2 (starEach es X.env)).any (·.1) = false := by rfl) :
    PE X (.Call (.Name x u1) (e :: es) [] u2) (fun σ H Q => t σ H fun vs G => sp p.1 vs G Q) := by
  refine ⟨fun pins s σ H Q I h => wpAny_Call_Name_kw (ld_glob I hg hm ?_ hdb)⟩
  refine PySem.W.callWith_K (h₀ := X.base) I.ok.mod.kin hk (thn (ha.run u2 pins s σ H _ I h) fun us t1 ⟨vs, G, J, rv, q⟩ => ⟨J.kIn, ?_⟩) he hpl
  have hl : us.length = ps.length := by
    rw [← rv.length]
    exact F.len _ _ _ _ q
  have bnd := hb t1 us J.kIn (by rw [List.append_nil]; exact hl)
  rw [List.append_nil] at bnd
  have pp := J.pin p (List.mem_append_left _ hp)
  have pin : L2H.PinOk X.stack G t1 p := ⟨pp.1, pp.2.1, fun hm => (List.mem_cons.mp (J.stkSub p.1 hm)).elim pp.2.2.1 pp.2.2.2.1, pp.2.2.2.2⟩
  refine wpAny_call (codeAny_mono (F.run X.A X.stack t1 G ⟨us, []⟩ us vs Q p hr pin hz J.env0 bnd rv q) fun r s' hq => ?_)
  cases r with
  | error e => exact (show False from hq).elim
  | ok fl =>
    cases fl with
    | ret u => exact J.after hq
    | next => exact (show False from hq).elim
    | brk => exact (show False from hq).elim
    | cont => exact (show False from hq).elim
end Wy

namespace Wy
open PySem PySem.Spec PyProof.Rows L2
abbrev sNet : Stmt := topS 53
/-! ### roads by their numbers -/
theorem road_at {H : Hp} {ts : List Addr} {rs : List Road} {n : Nat} (h : RoadsAt H ts rs) (hn : n < rs.length) : ∃ (t : Addr) (q : Road), ts[n]? = some t ∧ rs[n]? = some q ∧ H t = some (.tup q.vs) := by
  have h1 : n < ts.length := by rw [h.len]; exact hn
  obtain ⟨q, e1, e2⟩ := h.get (List.getElem?_eq_getElem h1)
  exact ⟨ts[n], q, List.getElem?_eq_getElem h1, e1, e2⟩
theorem ref_at {ts : List Addr} {n : Nat} {t : Addr} (h : ts[n]? = some t) : (ts.map V.ref)[n]? = some (.ref t) := by
  rw [List.getElem?_map, h]
  rfl
theorem ix_tupK {X : Cx} {K : PySem.W.Frag} (h : X.K = K) : IxR X (rIxT K) := by
  subst h
  exact ix_tup
theorem laid_snoc {H : Hp} {us : List Addr} {qs : List Road} {t : Addr} {q : Road} (h : RoadsAt H us qs) (e : H t = some (.tup q.vs)) : RoadsAt H (us ++ [t]) (qs ++ [q]) := by
  induction h with
  | nil => exact .cons e .nil
  | cons a _ ih => exact .cons a ih
/-! ### data of nets -/
def dRoad (q : Road) : PyData := .tuple [.int q.one, .int q.other, .int q.cost, .int q.time]
theorem road_dp {K : PySem.W.Frag} {H : Hp} {t : Addr} {q : Road} (e : H t = some (.tup q.vs)) : Dp K H (.ref t) (dRoad q) := .tup (SqT.of e) (.cons (.int _) (.cons (.int _) (.cons (.int _) (.cons (.int _) .nil))))
theorem roads_dp {K : PySem.W.Frag} {H : Hp} : ∀ {ts : List Addr} {rs : List Road}, RoadsAt H ts rs → DpAll K H (ts.map V.ref) (rs.map dRoad)
  | _, _, .nil => .nil
  | _, _, .cons e r => .cons (road_dp e) (roads_dp r)
theorem roads_lay : ∀ rs : List Road, PyData.canLayAll0 (rs.map dRoad) = true
  | [] => rfl
  | q :: r => by
    rw [List.map_cons, PyData.canLayAll0, roads_lay r]
    simp [dRoad, PyData.canLay0, PyData.canLayAll0]
theorem roads_deep : ∀ rs : List Road, PyData.depthAll (rs.map dRoad) ≤ 1
  | [] => by
    show PyData.depthAll [] ≤ 1
    rw [PyData.depthAll]
    omega
  | q :: r => by
    rw [List.map_cons, PyData.depthAll]
    have := roads_deep r
    have h2 : (dRoad q).depth ≤ 1 := by simp [dRoad, PyData.depth, PyData.depthAll]
    omega
theorem roads_shaped (rs : List Road) : SeqAt.shaped (.list (rs.map dRoad)) = true ∧ SeqAt.shaped (.tuple (rs.map dRoad)) = true := by
  have h := roads_deep rs
  constructor <;> (unfold SeqAt.shaped; rw [PyData.canLay0, roads_lay, PyData.depth, Bool.true_and]; exact decide_eq_true (by omega))
theorem pick {α : Type} {xs : List α} {n : Int} (h0 : 0 ≤ n) (h1 : n < (xs.length : Int)) : ∃ v, v ∈ xs ∧ atI xs n = some v := by
  obtain ⟨m, rfl⟩ := Int.eq_ofNat_of_zero_le h0
  have hm : m < xs.length := by omega
  exact ⟨xs[m], List.getElem_mem hm, atI_nat (List.getElem?_eq_getElem hm)⟩
theorem Keep.at {z b : Addr} {H H' : Hp} {o : HO} (k : Keep z H H') (h : H b = some o) (n : b ≠ z) : H' b = some o := k b o h n
theorem StOk.neT {H : Hp} {z b : Addr} {xs : List V} (s : StOk H z) (h : H b = some (.tup xs)) : b ≠ z := let ⟨_, _, e, _⟩ := s; ne_of h e (fun q => nomatch q)
theorem Keep.tups {z : Addr} {H H' : Hp} (k : Keep z H H') (s : StOk H z) : ∀ b xs, H b = some (.tup xs) → H' b = some (.tup xs) := fun b xs e => k b _ e (s.neT e)
end Wy

namespace Wy
open PySem PySem.Spec PyProof.Rows L2
def tCutE (t : TE) : TE := fun σ H Q => ∃ R : VK, t σ H R ∧ ∀ v H', R v H' → Q v H'
theorem pe_cut {X : Cx} {e : Expr} {t : TE} (h : PE X e t) : PE X e (tCutE t) := ⟨fun pins s σ H Q I hq => by
  obtain ⟨R, h1, h2⟩ := hq
  exact thn (h.run pins s σ H R I h1) fun u s1 ⟨v, G, J, r, q⟩ => ⟨v, G, J, r, h2 _ _ q⟩⟩
theorem other_ok {a b p : Int} (a0 : 0 ≤ a) (a1 : a < p) (b0 : 0 ≤ b) (b1 : b < p - 1) : 0 ≤ (a + 1 + b) % p ∧ (a + 1 + b) % p ≤ p - 1 ∧ a ≠ (a + 1 + b) % p := by
  by_cases h : a + 1 + b < p
  · rw [Int.emod_eq_of_lt (by omega) h]
    omega
  · have e : a + 1 + b = (a + 1 + b - p) + p := by omega
    rw [e, Int.add_emod_right, Int.emod_eq_of_lt (by omega) (by omega)]
    omega
theorem last_ref {ts : List Addr} {rs : List Road} {H : Hp} (h : RoadsAt H ts rs) (n : rs ≠ []) : ∃ t q, q ∈ rs ∧ H t = some (.tup q.vs) ∧ atI (ts.map V.ref) (-1) = some (.ref t) := by
  have hl := h.len
  have hn : ts ≠ [] := fun z => by
    rw [z] at hl
    cases rs with
    | nil => exact n rfl
    | cons _ _ => cases hl
  have hi : ts.length - 1 < ts.length := by
    cases ts with
    | nil => exact absurd rfl hn
    | cons _ _ => simp
  obtain ⟨q, e1, e2⟩ := h.get (List.getElem?_eq_getElem hi)
  refine ⟨ts[ts.length - 1], q, List.mem_of_getElem? e1, e2, ?_⟩
  rw [← List.getLast_eq_getElem hn]
  conv => lhs; rw [← List.dropLast_concat_getLast hn, List.map_append, List.map_singleton]
  exact atI_last _ _
def PvNet (z l : Addr) (m R p wd : Int) (H : Hp) (i : Nat) (σ : L2.St) (H' : Hp) : Prop :=
  ∃ y6 y7 y8 ts rs, σ = [some (.ref z), some (.int m), some (.int R), some (.int p), some (.ref l), some (.int wd), y6, y7, y8] ∧ Keep z H H' ∧ StOk H' z ∧ H' l = some (.lst (ts.map V.ref)) ∧ RoadsAt H' ts rs ∧ rs.length = i ∧ ∀ q ∈ rs, RoadOk p q
section
variable {P : Program} {w : World} {K : PySem.W.Frag} {mg : Str → Option Value} {base : Heap}
theorem scNet : FnScope ["_law_state_here", "_law_most", "_law_roads", "_law_places", "_law_found", "_law_wide", "_law_turn", "_law_one", "_law_other"] ["_law_state_here", "_law_most", "_law_roads"] (defScope sNet) := ⟨rfl, rfl, rfl, by decide +kernel, rfl, by decide +kernel, by decide +kernel⟩
def spNet : Sp := fun vs H Q _ => ∃ (z : Addr) (m R : Int), vs = [.ref z, .int m, .int R] ∧ StOk H z ∧ 0 < m ∧ m ≤ 10 ∧ 0 ≤ R ∧ R ≤ 30 ∧
  ∀ H' a r ts p rs, Keep z H H' → StOk H' z → NetAt H' a r ts p rs → NetOk p rs → Q (.ref a) H'
theorem ok_net {f fK : Addr} {fd dK : FuncData} {k : Nat} (DK : Df K mg "_law_take" sTake ["_law_state_here", "_law_much"] fK dK) (mR : mg "range" = none) (mT : mg "tuple" = none)
    (D : Df K mg "_law_net" sNet ["_law_state_here", "_law_most", "_law_roads"] f fd) : FnOk P w K mg base CX0 (k + 2) f fd ["_law_state_here", "_law_most", "_law_roads"] spNet := by
  have GK : FnOk P w K mg base CX0 (k + 1) fK dK ["_law_state_here", "_law_much"] spTake := ok_take DK
  refine D.F.ok scNet (fun vs H Q E h => ?_) (fun cdv A outer s H vs Q E hr h => ?_)
  · obtain ⟨_, _, _, rfl, _⟩ := h
    rfl
  · obtain ⟨z, m, R, rfl, st, hm0, hm1, hR0, hR1, q⟩ := h
    refine ⟨_, (pss_cons (ps_par (i := 3) (j := 4) (by rfl) scNet.nd rfl rfl (by decide) rfl rfl (pa_cons (pe_op op_add pe_int (pe_call GK hr (by rfl) DK.g DK.F.kp DK.b .nil pass0 (pa_cons (pv 0) (pa_cons (pv 1) pa_nil)))) (pa_cons (pe_lst pa_nil) pa_nil)) (by rfl))
    (pss_cons (ps_set (i := 5) scNet.nd rfl (.inl rfl) (pe_ix ix_list (pe_lst (pa_cons pe_int (pa_cons pe_int (pa_cons pe_int pa_nil)))) (pe_call GK hr (by rfl) DK.g DK.F.kp DK.b .nil pass0 (pa_cons (pv 0) (pa_cons pe_int pa_nil))) (fun _ _ => rfl)))
    (pss_cons (ps_for PassesOwn.never rfl (pi_range1 (by rfl) mR (pa_cons (pe_cut (pe_ifExp (pt_cmpR op_gt (pv 3) pe_int (nomark _)) (pe_ix ix_list (pe_lst (pa_cons (pv 2) (pa_cons (pe_call GK hr (by rfl) DK.g DK.F.kp DK.b .nil pass0 (pa_cons (pv 0) (pa_cons (pe_op op_add (pv 2) pe_int) pa_nil))) pa_nil))) (pe_call GK hr (by rfl) DK.g DK.F.kp DK.b .nil pass0 (pa_cons (pv 0) (pa_cons pe_int pa_nil))) (fun _ _ => rfl)) pe_int)) pa_nil)) (pg_name (i := 6) scNet.nd rfl (.inl rfl))
    (pss_cons (ps_set (i := 7) scNet.nd rfl (.inl rfl) (pe_call GK hr (by rfl) DK.g DK.F.kp DK.b .nil pass0 (pa_cons (pv 0) (pa_cons (pv 3) pa_nil))))
    (pss_cons (ps_set (i := 8) scNet.nd rfl (.inl rfl) (pe_op op_mod (pe_op op_add (pe_op op_add (pv 7) pe_int) (pe_call GK hr (by rfl) DK.g DK.F.kp DK.b .nil pass0 (pa_cons (pv 0) (pa_cons (pe_op op_sub (pv 3) pe_int) pa_nil)))) (pv 3)))
    (C8.pss_cut (ps_if (PW.pt (pw_and (pt_cmpR op_eq (pe_call GK hr (by rfl) DK.g DK.F.kp DK.b .nil pass0 (pa_cons (pv 0) (pa_cons pe_int pa_nil))) pe_int (nomark _)) (pw_and1 (pt_cmpR (op_neD hr.units) (pv 4) (pe_lst pa_nil) (nomark _))))) (pss_one (ps_asg (pe_slice sl_tup (pe_ix ix_list (pv 4) (pe_un un_neg pe_int) (fun _ _ => rfl)) po_none (po_some pe_int)) (pg_tup (by rfl) (pgs_cons (pg_name (i := 7) scNet.nd rfl (.inl rfl)) (pgs_cons (pg_name (i := 8) scNet.nd rfl (.inl rfl)) pgs_nil))))) pss_nil)
    (pss_one (ps_expr (pe_bm PySem.F.plainAttrs_list PySem.F.slot_list_append PySem.F.type_list_append mt_append (pv 4) (pa_cons (pe_tup (pa_cons (pv 7) (pa_cons (pv 8) (pa_cons (pe_op op_add pe_int (pe_call GK hr (by rfl) DK.g DK.F.kp DK.b .nil pass0 (pa_cons (pv 0) (pa_cons (pv 5) pa_nil)))) (pa_cons (pe_call GK hr (by rfl) DK.g DK.F.kp DK.b .nil pass0 (pa_cons (pv 0) (pa_cons (pe_ix ix_list (pe_lst (pa_cons pe_int (pa_cons pe_int pa_nil))) (pe_call GK hr (by rfl) DK.g DK.F.kp DK.b .nil pass0 (pa_cons (pv 0) (pa_cons pe_int pa_nil))) (fun _ _ => rfl)) pa_nil))) pa_nil))))) pa_nil))))))))
    (pss_one (ps_ret (pe_tup (pa_cons (pv 3) (pa_cons (pe_callTy call_tuple_of (by rfl) mT (by decide +kernel) (pa_cons (pv 4) pa_nil)) pa_nil)))))))), ?_⟩
    -- places, found
    refine ⟨.ref z, rfl, .int m, rfl, z, m, rfl, st, hm0, by omega, fun H1 n k1 st1 n0 n1 => ⟨1, n, rfl, rfl, Nat.zero_le _, fun l nl => ⟨_, _, rfl, ?_⟩⟩⟩
    have lz : l ≠ z := (st1.ne nl).symm
    have s2 : Same H1 (upd H1 l (.lst [])) := same_new nl
    have k2 : Keep z H (upd H1 l (.lst [])) := k1.trans (.of s2)
    -- wide
    refine ⟨by show 3 ≤ sizeLine; decide, fun b nb => ⟨.ref z, rfl, z, 3, rfl, (st1.same s2).same (same_new nb), by decide, by decide, fun H3 n3 k3 st3 a0 a1 => ?_⟩⟩
    have bz : b ≠ z := ((st1.same s2).ne nb).symm
    have lb : l ≠ b := ne_of_none upd_same nb
    have k3' : Keep z H H3 := k2.trans ((Keep.new nb).trans k3)
    have el : H3 l = some (.lst []) := k3 _ _ (by rw [upd_ne lb, upd_same]) lz
    obtain ⟨v, hv, ev⟩ := pick (xs := [V.int 2, V.int 4, V.int 99]) a0 a1
    obtain ⟨wd, rfl, w1, w2⟩ : ∃ wd, v = .int wd ∧ 1 ≤ wd ∧ wd ≤ 99 := by
      simp only [List.mem_cons, List.not_mem_nil, or_false] at hv
      rcases hv with rfl | rfl | rfl
      · exact ⟨2, rfl, by decide, by decide⟩
      · exact ⟨4, rfl, by decide, by decide⟩
      · exact ⟨99, rfl, by decide, by decide⟩
    refine ⟨b, _, n3, _, rfl, rfl, SqL.of (k3 _ _ upd_same bz), ev, ?_⟩
    -- range
    refine ⟨fun v H' => ∃ c : Int, v = .int c ∧ 0 ≤ c ∧ c ≤ 30 ∧ (1 < 1 + n ∨ c = 0) ∧ Keep z H H' ∧ StOk H' z ∧ H' l = some (.lst []), ?_, fun v H' hR => ?_⟩
    · refine ⟨.int (1 + n), rfl, _, _, rfl, rfl, _, rfl, ite2 (fun c => ?_) (fun c => ?_)⟩
      · have c' : 1 < 1 + n := of_decide_eq_true c
        refine ⟨.int R, rfl, .ref z, rfl, .int R, rfl, R, 1, rfl, rfl, z, _, rfl, st3, by omega, by omega, fun H4 n4 k4 st4 b0 b1 => ⟨by show 2 ≤ sizeLine; decide, fun d nd => ⟨.ref z, rfl, z, 2, rfl, st4.same (same_new nd), by decide, by decide, fun H5 n5 k5 st5 e0 e1 => ?_⟩⟩⟩
        have dz : d ≠ z := (st4.ne nd).symm
        obtain ⟨v, hv, ev⟩ := pick (xs := [V.int R, V.int n4]) e0 e1
        have el4 := k4 _ _ el lz
        have el5 : H5 l = some (.lst []) := k5 _ _ (by rw [upd_ne (ne_of_none el4 nd)]; exact el4) lz
        refine ⟨d, _, n5, v, rfl, rfl, SqL.of (k5 _ _ upd_same dz), ev, ?_⟩
        simp only [List.mem_cons, List.not_mem_nil, or_false] at hv
        have kk := k3'.trans (k4.trans ((Keep.new nd).trans k5))
        rcases hv with rfl | rfl
        · exact ⟨R, rfl, hR0, hR1, .inl c', kk, st5, el5⟩
        · exact ⟨n4, rfl, b0, by omega, .inl c', kk, st5, el5⟩
      · exact ⟨0, rfl, by decide, by decide, .inr rfl, k3', st3, el⟩
    · obtain ⟨c, rfl, c0, c1, cp, k5, st5, el5⟩ := hR
      refine ⟨c, rfl, by omega, by omega, ?_⟩
      refine for_range (lo := 0) (n := c.toNat) (PvNet z l m R (1 + n) wd H) ⟨none, none, none, [], [], rfl, k5, st5, el5, .nil, rfl, fun _ h => nomatch h⟩ (fun i σ H' hi h => ?_) (fun σ H' h => ?_)
      · obtain ⟨y6, y7, y8, ts, rs, rfl, kH, stH, eL, rA, hlen, rOk⟩ := h
        have hp : 1 < 1 + n := by
          rcases cp with z | z
          · exact z
          · rw [z] at hi
            exact absurd hi (Nat.not_lt_zero _)
        -- one, other
        refine ⟨.ref z, rfl, .int (1 + n), rfl, z, _, rfl, stH, by omega, by omega, fun Ha o1 ka sa u0 u1 => ?_⟩
        refine ⟨.int o1, rfl, o1, 1, rfl, rfl, .ref z, rfl, .int (1 + n), rfl, 1 + n, 1, rfl, rfl, z, _, rfl, sa, by omega, by omega, fun Hb o2 kb sb v0 v1 => ⟨_, o2, rfl, rfl, .int (1 + n), rfl, _, 1 + n, rfl, rfl, by omega, ?_⟩⟩
        obtain ⟨x0, x1, x2⟩ := other_ok u0 u1 v0 v1
        have kab := ka.trans kb
        have eLb := kab _ _ eL lz
        have rAb : RoadsAt Hb ts rs := rA.keep (kab.tups stH)
        -- if
        refine ⟨fun σ G => ∃ a b : Int, σ = [some (.ref z), some (.int m), some (.int R), some (.int (1 + n)), some (.ref l), some (.int wd), some (.int (0 + i)), some (.int a), some (.int b)] ∧ 0 ≤ a ∧ a ≤ 1 + n - 1 ∧ 0 ≤ b ∧ b ≤ 1 + n - 1 ∧ a ≠ b ∧ Keep z H G ∧ StOk G z ∧ G l = some (.lst (ts.map V.ref)) ∧ RoadsAt G ts rs, ?_, fun σ G hM => ?_⟩
        · refine ⟨.ref z, rfl, z, 5, rfl, sb, by decide, by decide, fun Hc t5 kc sc _ _ => ⟨rfl, _, rfl, ite2 (fun c5 => ?_) (fun c5 => ?_)⟩⟩
          · have eLc := kc _ _ eLb lz
            have rAc : RoadsAt Hc ts rs := rAb.keep (kc.tups sb)
            refine ⟨.ref l, rfl, Nat.zero_le _, fun e ne => ?_⟩
            have se : Same Hc (upd Hc e (.lst [])) := same_new ne
            have rAe : RoadsAt (upd Hc e (.lst [])) ts rs := rAc.keep fun b xs h => se _ _ h
            refine ⟨.list (rs.map dRoad), .list [], .lst (SqL.of (se _ _ eLc)) (roads_dp rAe), .lst (SqL.of upd_same) .nil, (roads_shaped rs).1, (roads_shaped []).1, _, rfl, ite2 (fun c6 => ?_) (fun c6 => ?_)⟩
            · have hne : rs ≠ [] := fun z => by
                rw [z] at c6
                have : PyData.eqv (.list ([].map dRoad)) (.list []) = true := SeqAt.eqv_refl _ rfl
                rw [this] at c6
                cases c6
              obtain ⟨t, rd, hq, et, ea⟩ := last_ref rAe hne
              have ok := rOk _ hq
              refine ⟨.ref l, rfl, 1, rfl, l, _, -1, _, rfl, rfl, SqL.of (se _ _ eLc), ea, 2, rfl, t, _, rfl, SqT.of et, (show ¬ (HT.sIx 4 0 none = 0 ∧ HT.sIx 4 4 (some 2) = 4) by decide), fun T nT => ?_⟩
              have sT := same_new (H := upd Hc e (.lst [])) (o := .tup (cutV rd.vs none (some 2))) nT
              refine ⟨T, _, rfl, SqT.of upd_same, rfl, .int rd.one, _, rfl, .int rd.other, _, rfl, rfl, ?_⟩
              exact ⟨rd.one, rd.other, rfl, ok.o1, ok.o2, ok.t1, ok.t2, ok.ne, (kH.trans (kab.trans kc)).trans (.of (se.trans sT)), (sc.same se).same sT, sT _ _ (se _ _ eLc), rAe.keep fun b xs h => sT _ _ h⟩
            · exact ⟨o1, _, rfl, u0, by omega, x0, x1, x2, (kH.trans (kab.trans kc)).trans (.of se), sc.same se, se _ _ eLc, rAe⟩
          · exact ⟨o1, _, rfl, u0, by omega, x0, x1, x2, kH.trans (kab.trans kc), sc, kc _ _ eLb lz, rAb.keep (kc.tups sb)⟩
        · obtain ⟨a, b, rfl, g1, g2, g3, g4, g5, kG, sG, eG, rG⟩ := hM
          refine ⟨.ref l, rfl, .inl ⟨rfl, _, SqL.of eG⟩, .int a, rfl, .int b, rfl, .ref z, rfl, .int wd, rfl, z, _, rfl, sG, by omega, by omega, fun Hd t7 kd sd c70 c71 => ⟨1, t7, rfl, rfl, .ref z, rfl, by show 2 ≤ sizeLine; decide, fun e ne => ?_⟩⟩
          have ez : e ≠ z := (sd.ne ne).symm
          refine ⟨.ref z, rfl, z, 2, rfl, sd.same (same_new ne), by decide, by decide, fun He t8 ke se c80 c81 => ?_⟩
          obtain ⟨v, hv, ev⟩ := pick (xs := [V.int 3, V.int 100]) c80 c81
          obtain ⟨tm, rfl, m1, m2⟩ : ∃ tm, v = .int tm ∧ 1 ≤ tm ∧ tm ≤ 100 := by
            simp only [List.mem_cons, List.not_mem_nil, or_false] at hv
            rcases hv with rfl | rfl
            · exact ⟨3, rfl, by decide, by decide⟩
            · exact ⟨100, rfl, by decide, by decide⟩
          refine ⟨e, _, t8, _, rfl, rfl, SqL.of (ke _ _ upd_same ez), ev, z, tm, rfl, se, by omega, by omega, fun Hf t9 kf sf c90 c91 => ⟨by show 4 ≤ sizeLine; decide, fun T nT => ?_⟩⟩
          have kdf : Keep z G Hf := kd.trans ((Keep.new ne).trans (ke.trans kf))
          have eF := kdf _ _ eG lz
          have rF : RoadsAt Hf ts rs := rG.keep (kdf.tups sG)
          have sT : Same Hf (upd Hf T (.tup [.int a, .int b, .int (1 + t7), .int t9])) := same_new nT
          have lT : l ≠ T := ne_of_none eF nT
          have ll : (ts.map V.ref).length < sizeLine := by
            rw [List.length_map, rF.len, hlen]
            exact small1000 (by omega)
          refine ⟨l, _, _, rfl, rfl, sT _ _ eF, ll, ?_⟩
          refine ⟨some (.int (0 + i)), some (.int a), some (.int b), ts ++ [T], rs ++ [⟨a, b, 1 + t7, t9⟩], rfl, fun c u hc hz => ?_, ?_, ?_, ?_, ?_, fun q hq => ?_⟩
          · by_cases hcl : c = l
            · exact absurd (k1 _ _ hc hz) (by rw [hcl, nl]; exact fun z => nomatch z)
            · rw [upd_ne hcl]
              exact sT _ _ (kdf _ _ (kG _ _ hc hz) hz)
          · obtain ⟨xx, yy, e1, e2⟩ := sf.same sT
            exact ⟨xx, yy, by rw [upd_ne lz.symm]; exact e1, e2⟩
          · rw [upd_same, List.map_append]
            rfl
          · refine laid_snoc ((rF.keep fun b xs h => sT _ _ h).keep fun b xs h => ?_) ?_
            · rw [upd_ne (ne_of h (sT _ _ eF) (fun q => nomatch q))]
              exact h
            · rw [upd_ne lT.symm]
              exact upd_same
          · rw [List.length_append, hlen]
            rfl
          · rcases List.mem_append.mp hq with h | h
            · exact rOk q h
            · rw [List.mem_singleton.mp h]
              exact ⟨g1, g2, g3, g4, g5, by show 1 ≤ 1 + t7; omega, by show 1 + t7 ≤ 99; omega, c90, by show t9 ≤ 99; omega⟩
      · obtain ⟨y6, y7, y8, ts, rs, rfl, kH, stH, eL, rA, hlen, rOk⟩ := h
        refine ⟨.int (1 + n), rfl, .ref l, rfl, l, _, rfl, .inl ⟨SqL.of eL, fun r nr => ⟨by show 2 ≤ sizeLine; decide, fun a na => ?_⟩⟩⟩
        have s1 := same_new (H := H') (o := .tup (ts.map V.ref)) nr
        have s2 := same_new (H := upd H' r (.tup (ts.map V.ref))) (o := .tup [.int (1 + n), .ref r]) na
        refine q _ a r ts (1 + n) rs ((kH.trans (.of s1)).trans (.of s2)) ((stH.same s1).same s2) ⟨upd_same, s2 _ _ upd_same, rA.keep fun b xs h => s2 _ _ (s1 _ _ h)⟩ ⟨by omega, by omega, by omega, rOk⟩
end
end Wy

namespace Wy
open PySem PySem.Spec PyProof.Rows L2
def tCutT (t : TT) : TT := fun σ H Q => ∃ R : Bool → Hp → Prop, t σ H R ∧ ∀ b H', R b H' → Q b H'
theorem pt_cut {X : Cx} {e : Expr} {t : TT} (h : PT X e t) : PT X e (tCutT t) := ⟨fun pins s σ H Q I hq => by
  obtain ⟨R, h1, h2⟩ := hq
  exact thn (h.run pins s σ H R I h1) fun b s1 ⟨G, J, q⟩ => ⟨G, J, h2 _ _ q⟩⟩
theorem ints_dp {K : PySem.W.Frag} {H : Hp} : ∀ ms : List Int, DpAll K H (ms.map V.int) (ms.map PyData.int)
  | [] => .nil
  | m :: r => .cons (.int m) (ints_dp r)
theorem ints_lay : ∀ ms : List Int, PyData.canLayAll0 (ms.map PyData.int) = true ∧ PyData.depthAll (ms.map PyData.int) = 0
  | [] => by
    rw [List.map_nil, PyData.canLayAll0, PyData.depthAll]
    exact ⟨rfl, rfl⟩
  | m :: r => by
    rw [List.map_cons, PyData.canLayAll0, PyData.depthAll, (ints_lay r).1, (ints_lay r).2, PyData.canLay0, PyData.depth]
    exact ⟨rfl, rfl⟩
theorem ints_shaped (ms : List Int) : SeqAt.shaped (.list (ms.map PyData.int)) = true := by
  unfold SeqAt.shaped
  rw [PyData.canLay0, (ints_lay ms).1, PyData.depth, (ints_lay ms).2]
  rfl
theorem Keep.free {z b : Addr} {H H' : Hp} (k : Keep z H H') (h : H' b = none) (n : b ≠ z) : H b = none := by
  cases e : H b with
  | none => rfl
  | some o =>
    rw [k _ _ e n] at h
    cases h
end Wy

namespace Wy
open PySem PySem.Spec PyProof.Rows L2 HT
/-! ### t[::-1] of a tuple -/
theorem rev_adjust (n : Nat) : Builtin.Slice.sliceAdjust none none (-1) (n : Int) = ((n : Int) - 1, -1) := by
  unfold Builtin.Slice.sliceAdjust
  rfl
theorem rev_places (n : Nat) : Builtin.Slice.slicePlaces ((n : Int) - 1) (-1) (-1) = n := by
  unfold Builtin.Slice.slicePlaces
  simp
  omega
theorem rev_pick (xs : List Value) : ((List.range xs.length).filterMap fun (k : Nat) => xs.toArray[(((xs.length : Int) - 1) + (k : Int) * (-1)).toNat]?) = xs.reverse := by
  have e : ∀ m, m ≤ xs.length → ((List.range m).filterMap fun (k : Nat) => xs.toArray[(((xs.length : Int) - 1) + (k : Int) * (-1)).toNat]?) = xs.reverse.take m := by
    intro m
    induction m with
    | zero =>
      intro _
      rfl
    | succ m ih =>
      intro h
      rw [List.range_succ, List.filterMap_append, ih (by omega), List.take_add_one]
      congr 1
      have hi : (((xs.length : Int) - 1) + (m : Int) * (-1)).toNat = xs.length - 1 - m := by omega
      have hr : xs.reverse[m]? = some xs[xs.length - 1 - m] := by
        rw [List.getElem?_reverse (by omega), List.getElem?_eq_getElem (by omega)]
      have ha : xs.toArray[xs.length - 1 - m]? = some xs[xs.length - 1 - m] := by
        rw [List.getElem?_toArray, List.getElem?_eq_getElem (by omega)]
      rw [hr]
      show List.filterMap _ [m] = [xs[xs.length - 1 - m]]
      rw [List.filterMap_cons_some (b := xs[xs.length - 1 - m]) (by rw [hi]; exact ha)]
      rfl
  rw [e _ (Nat.le_refl _), List.take_of_length_le (by rw [List.length_reverse]; exact Nat.le_refl _)]
section
variable {prog : Program} {w : World} {A : Around} {E : Value → Shared → Prop} {s : Shared}
theorem tuple_back {u sl : Addr} {its : List Value} {tk : Tok} {Q : Value → Shared → Prop} (hT : IsTup s.heap u its.toArray) (hs : s.heap.IsSliceOf sl .none .none (.int (-1) tk)) (hz : its.length ≤ sizeLine)
    (h : Q (.ref s.heap.objs.size) { s with heap := s.heap.push { cls := .type "tuple", data := .seq its.reverse.toArray } }) : wpAny (model prog w) A (getItem (.ref u) (.ref sl)) Q E s := by
  have fits : sizeOk (.seq its.reverse.toArray) := by
    show its.reverse.toArray.size ≤ sizeLine
    rw [List.size_toArray, List.length_reverse]
    exact hz
  obtain ⟨os, ho, hc, hd⟩ := id hs
  have ty : s.TypeIs (.ref sl) "slice" := ⟨os, ho, hc⟩
  unfold getItem
  try with_reducible refine wpAny_holding ?_
  first | refine wpAny_bind (wpAny_pure ?_) | skip
  refine wpAny_bind (wpAny_sequenceKey hT.typeIs (by decide) (wpAny_bind (wpAny_callSpecial?_slot (name := Str.ofString "__getitem__") hT.typeIs PyProof.Rows.slot_tuple_getitem (wpAny_call_entry PyProof.Rows.slot_tuple_getitem hT.typeIs entry_tuple_getitem ?_ (args_tuple_getitem _ _)))))
  show wpAny _ _ (Builtin.Tuple.tupleItemsOf (.ref u) >>= _) _ _ s
  refine wpAny_bind (tupleItemsOf_ hT (wpAny_bind (wpAny_typeOf ty ?_)))
  rw [if_pos (by decide)]
  refine wpAny_bind (m := Builtin.Slice.sliceApplied _ _) ?_
  unfold Builtin.Slice.sliceApplied Builtin.Slice.sliceFields
  refine wpAny_bind (wpAny_bind (wpAny_field ho hd (x := .none) rfl (wpAny_bind (wpAny_field ho hd (x := .none) rfl (wpAny_bind (wpAny_field ho hd (x := .int (-1) tk) rfl (wpAny_pure ?_)))))))
  refine wpAny_bind (slicePart_int ?_)
  show wpAny _ _ (if ((-1 : Int) == 0) = true then _ else _) _ _ s
  rw [if_neg (by decide)]
  refine wpAny_bind (slicePart_none (wpAny_bind (slicePart_none (wpAny_bind (wpAny_pure ?_)))))
  show wpAny _ _ (match Builtin.Slice.sliceAdjust none none (-1) (its.toArray.size : Int) with | (lo, hi) => pure (lo, (-1 : Int), Builtin.Slice.slicePlaces lo hi (-1))) _ _ s
  rw [rev_adjust]
  show wpAny _ _ (pure (((its.toArray.size : Int) - 1), (-1 : Int), Builtin.Slice.slicePlaces ((its.toArray.size : Int) - 1) (-1) (-1))) _ _ s
  rw [rev_places]
  refine wpAny_pure ?_
  show wpAny _ _ (if ((((its.toArray.size : Int) - 1) == 0 && (-1 : Int) == 1 && its.toArray.size == its.toArray.size) = true) then _ else _) _ _ s
  rw [if_neg (by simp), List.size_toArray, rev_pick]
  first
    | exact wpAny_bind (m := Builtin.Tuple.tupleExact _) (wpAny_newObj_type (wpAny_pure ⟨_, rfl, wpAny_pure h⟩) fits)
    | exact wpAny_bind (m := Builtin.Tuple.tupleExact _) (wpAny_newObj_type (wpAny_bind (wpAny_pure (wpAny_pure ⟨_, rfl, wpAny_pure h⟩))) fits)
    | exact wpAny_bind (wpAny_bind (m := Builtin.Tuple.tupleExact _) (wpAny_newObj_type (wpAny_pure (wpAny_pure ⟨_, rfl, wpAny_pure h⟩)) fits))
    | exact wpAny_bind (wpAny_bind (m := Builtin.Tuple.tupleExact _) (wpAny_newObj_type (wpAny_pure ⟨_, rfl, wpAny_pure h⟩) fits))
end
def tBackT (K : PySem.W.Frag) (te : TE) : TE := fun σ H Q => te σ H fun x G => ∃ a xs, x = .ref a ∧ SqT K G a xs ∧ ∀ p, G p = none → Q (.ref p) (upd G p (.tup xs.reverse))
theorem pe_backT {X : Cx} {e : Expr} {te : TE} {k : Nat} {u1 u2 u3 u4 : Pos} (he : PE X e te) : PE X (.Subscript e (.Slice none none (some (.UnaryOp .USub (.Constant (.int 1) k u1) u2)) u3) u4) (tBackT X.K te) := by
  refine ⟨fun pins s σ H Q I h => ?_⟩
  refine Subscript_ (thn (he.run pins s σ H _ I h) fun v t1 ⟨x, G1, J1, r1, g1⟩ => ?_)
  obtain ⟨a, xs, ex, hx, q⟩ := g1
  subst ex
  cases r1
  have step : PO X (some (.UnaryOp .USub (.Constant (.int 1) k u1) u2)) (tPart (tUn (rU fun i => .int (-i)) (tC (.int 1)))) := po_some (pe_un un_neg pe_int)
  refine wpAny_Slice (thn (po_none.run pins t1 σ G1 (fun o G => o = none ∧ G = G1) J1 ⟨rfl, rfl⟩) fun vl t2 ⟨l, G2, J2, pl, el, e2⟩ => ?_)
  subst el e2
  refine thn (po_none.run pins t2 σ G2 (fun o G => o = none ∧ G = G2) J2 ⟨rfl, rfl⟩) fun vu t3 ⟨u, G3, J3, pu, eu, e3⟩ => ?_
  subst eu e3
  refine thn (step.run pins t3 σ G3 (fun o G => o = some (-1) ∧ G = G3) J3 ⟨1, rfl, -1, rfl, rfl, rfl⟩) fun vs t4 ⟨o, G4, J4, ps, eo, e4⟩ => ?_
  subst eo e4
  have J5 : Inv X pins σ G4 { t4 with heap := t4.heap.push { cls := .type "slice", data := .fields #[vl, vu, vs] } } := J4.kept (t' := t4.toks) fun b ob z => Heap.get?_push_of_some _ z
  obtain ⟨its, r, hT, hz⟩ := J5.tuple hx
  have hlen := r.length
  show wpAny (model X.prog X.w) X.A (subscriptTail e (.Slice none none (some (.UnaryOp .USub (.Constant (.int 1) k u1) u2)) u3) (.ref a) (.ref t4.heap.objs.size)) (EP X pins σ Q) X.xe _
  refine tail_any (ops := [.ref a, .ref t4.heap.objs.size]) hT.typeIs (PyProof.Rows.slot_tuple_getitem.lookup) ?_ (by with_unfolding_all rfl)
  cases pl
  cases pu
  cases ps
  refine tuple_back hT (Heap.IsSliceOf.new _ _ _ _) (by omega) ?_
  refine ⟨.ref _, _, J5.laid (t' := t4.toks) (o := .tup xs.reverse) (fun b ob z => Heap.get?_push_of_some _ z) (Nat.le_refl _) ?_, rfl, q _ (J5.hok.fresh (Nat.le_refl _))⟩
  exact ⟨by rw [List.length_reverse]; exact hz, _, r.reverse, ⟨_, Heap.get?_push_size _ rfl, rfl, _, rfl⟩⟩
/-! ### repr of data -/
theorem dp_plain {K : PySem.W.Frag} {H : Hp} : ∀ {v : V} {d : PyData}, Dp K H v d → d.hasDict = false
  | _, _, .non => by simp only [PyData.hasDict]
  | _, _, .bl _ => by simp only [PyData.hasDict]
  | _, _, .int _ => by simp only [PyData.hasDict]
  | _, _, .str _ => by simp only [PyData.hasDict]
  | _, _, .lst _ a => by
    rw [PyData.hasDict]
    exact dpAll_plain a
  | _, _, .tup _ a => by
    rw [PyData.hasDict]
    exact dpAll_plain a
where dpAll_plain {K : PySem.W.Frag} {H : Hp} : ∀ {vs : List V} {ds : List PyData}, DpAll K H vs ds → PyData.hasDictAll ds = false
  | _, _, .nil => by simp only [PyData.hasDictAll]
  | _, _, .cons a b => by
    rw [PyData.hasDictAll, dp_plain a, dpAll_plain b]
    rfl
end Wy

namespace Wy
open PySem PySem.Spec PyProof.Rows L2
/-! ### how long a thing's text is -/
structure Sh (d : PyData) (n m : Nat) : Prop where
  s : d.showable = true
  l : d.shown.length ≤ n
  k : d.depth ≤ m
theorem Sh.mono {d : PyData} {n m n' m' : Nat} (h : Sh d n m) (a : n ≤ n') (b : m ≤ m') : Sh d n' m' := ⟨h.s, Nat.le_trans h.l a, Nat.le_trans h.k b⟩
theorem piled_le {c : Nat} : ∀ ts : List Str, (∀ t ∈ ts, t.length ≤ c) → piled ts ≤ ts.length * (c + 2)
  | [], _ => by
    show piled [] ≤ 0 * _
    simp [piled]
  | t :: r, h => by
    have h1 := h t List.mem_cons_self
    have h2 := piled_le r fun u hu => h u (List.mem_cons_of_mem _ hu)
    rw [piled_cons, List.length_cons, Nat.add_mul, Nat.one_mul]
    omega
theorem tuple_le {c : Nat} (ts : List Str) (h : ∀ t ∈ ts, t.length ≤ c) : (tupleText ts).length ≤ 4 + ts.length * (c + 2) := by
  unfold tupleText
  rw [strLen_append, strLen_append]
  have e1 : ((("(" : String) : Str)).length = 1 := rfl
  have e3 : (((if ts.length == 1 then ",)" else ")" : String) : Str)).length ≤ 2 := by split <;> decide
  have e4 := piled_le ts h
  rw [e1]
  by_cases hn : ts = []
  · subst hn
    have : (Str.join ", " []).length = 0 := rfl
    omega
  · have := join_length_add ts hn
    omega
theorem from_le {c : Nat} : ∀ (ts : List Str) (k : Nat) (acc : Str), (∀ t ∈ ts, t.length ≤ c) → (textFrom k acc ts).length ≤ acc.length + ts.length * (c + 2)
  | [], _, acc, _ => by
    show acc.length ≤ _
    omega
  | t :: r, k, acc, h => by
    have h1 := h t List.mem_cons_self
    have h2 := from_le r (k + 1) (acc ++ (if k > 0 then ", " else "" : String) ++ t) fun u hu => h u (List.mem_cons_of_mem _ hu)
    have e : (acc ++ (if k > 0 then ", " else "" : String) ++ t).length ≤ acc.length + 2 + t.length := by
      rw [strLen_append, strLen_append]
      have : (((if k > 0 then ", " else "" : String) : Str)).length ≤ 2 := by split <;> decide
      omega
    show (textFrom (k + 1) _ r).length ≤ _
    rw [List.length_cons, Nat.add_mul, Nat.one_mul]
    omega
theorem list_le {c : Nat} (ts : List Str) (h : ∀ t ∈ ts, t.length ≤ c) : (listText ts).length ≤ 4 + ts.length * (c + 2) := by
  unfold listText
  rw [strLen_append]
  have e1 : ((("[" : String) : Str)).length = 1 := rfl
  have e2 : ((("]" : String) : Str)).length = 1 := rfl
  have := from_le ts 0 "[" h
  rw [e2]
  omega
theorem shown_mem : ∀ {ds : List PyData} {t : Str}, t ∈ PyData.shownAll ds → ∃ d ∈ ds, t = d.shown
  | [], _, h => by
    rw [PyData.shownAll] at h
    cases h
  | d :: r, t, h => by
    rw [PyData.shownAll] at h
    rcases List.mem_cons.mp h with e | e
    · exact ⟨d, List.mem_cons_self, e⟩
    · obtain ⟨x, hx, e⟩ := shown_mem e
      exact ⟨x, List.mem_cons_of_mem _ hx, e⟩
theorem shown_len : ∀ ds : List PyData, (PyData.shownAll ds).length = ds.length
  | [] => by
    rw [PyData.shownAll]
    rfl
  | d :: r => by rw [PyData.shownAll, List.length_cons, List.length_cons, shown_len r]
theorem show_all : ∀ {ds : List PyData} {n m : Nat}, (∀ d ∈ ds, Sh d n m) → PyData.showableAll ds = true ∧ PyData.depthAll ds ≤ m
  | [], n, m, _ => by
    rw [PyData.showableAll, PyData.depthAll]
    exact ⟨rfl, Nat.zero_le _⟩
  | d :: r, n, m, h => by
    have h1 := h d List.mem_cons_self
    obtain ⟨h2, h3⟩ := show_all (n := n) (m := m) fun u hu => h u (List.mem_cons_of_mem _ hu)
    rw [PyData.showableAll, PyData.depthAll, h1.s, h2]
    have := h1.k
    exact ⟨rfl, by omega⟩
theorem Sh.tuple {ds : List PyData} {n m k : Nat} (h : ∀ d ∈ ds, Sh d n m) (hk : ds.length ≤ k) : Sh (.tuple ds) (4 + k * (n + 2)) (m + 1) := by
  obtain ⟨h1, h2⟩ := show_all h
  refine ⟨by rw [PyData.showable]; exact h1, ?_, by rw [PyData.depth]; omega⟩
  rw [PyData.shown]
  refine Nat.le_trans (tuple_le (c := n) _ fun t ht => ?_) ?_
  · obtain ⟨d, hd, e⟩ := shown_mem ht
    rw [e]
    exact (h d hd).l
  · rw [shown_len]
    have := Nat.mul_le_mul_right (n + 2) hk
    omega
theorem Sh.list {ds : List PyData} {n m k : Nat} (h : ∀ d ∈ ds, Sh d n m) (hk : ds.length ≤ k) : Sh (.list ds) (4 + k * (n + 2)) (m + 1) := by
  obtain ⟨h1, h2⟩ := show_all h
  refine ⟨by rw [PyData.showable]; exact h1, ?_, by rw [PyData.depth]; omega⟩
  rw [PyData.shown]
  refine Nat.le_trans (list_le (c := n) _ fun t ht => ?_) ?_
  · obtain ⟨d, hd, e⟩ := shown_mem ht
    rw [e]
    exact (h d hd).l
  · rw [shown_len]
    have := Nat.mul_le_mul_right (n + 2) hk
    omega
theorem Sh.int {i : Int} (h : i.natAbs < 10 ^ 30) : Sh (.int i) 40 0 := by
  refine ⟨?_, ?_, by rw [PyData.depth]; exact Nat.le_refl _⟩
  · rw [PyData.showable]
    refine decide_eq_true ?_
    by_cases h0 : i.natAbs = 0
    · rw [h0]
      decide
    · exact (Nat.log2_lt h0).mpr (Nat.lt_of_lt_of_le h (by decide +kernel))
  · rw [PyData.shown]
    show (Str.ofString (toString i)).length ≤ 40
    rw [PySem.ofString_length]
    have := int_text_length_le10 (k := 30) (by decide) h
    omega
theorem Sh.bool (b : Bool) : Sh (.bool b) 40 0 := by
  refine ⟨by rw [PyData.showable], ?_, by rw [PyData.depth]; exact Nat.le_refl _⟩
  rw [PyData.shown]
  cases b <;> decide
theorem Sh.none : Sh .none 40 0 := by
  refine ⟨by rw [PyData.showable], ?_, by rw [PyData.depth]; exact Nat.le_refl _⟩
  rw [PyData.shown]
  decide
theorem Sh.road {p : Int} {q : Road} (h : RoadOk p q) (hp : p ≤ 10) : Sh (dRoad q) 172 1 := by
  refine (Sh.tuple (n := 40) (m := 0) (k := 4) (fun d hd => ?_) (Nat.le_refl _)).mono (by decide) (Nat.le_refl _)
  have big : ∀ i : Int, 0 ≤ i → i ≤ 99 → Sh (.int i) 40 0 := fun i a b => Sh.int (Nat.lt_of_le_of_lt (show i.natAbs ≤ 99 by omega) (by decide +kernel))
  have o1 := h.o1
  have o2 := h.o2
  have t1 := h.t1
  have t2 := h.t2
  have c1 := h.c1
  simp only [List.mem_cons, List.not_mem_nil, or_false] at hd
  rcases hd with rfl | rfl | rfl | rfl
  · exact big _ h.o1 (by omega)
  · exact big _ h.t1 (by omega)
  · exact big _ (by omega) h.c2
  · exact big _ h.m1 h.m2
def dNet (p : Int) (rs : List Road) : PyData := .tuple [.int p, .tuple (rs.map dRoad)]
theorem Sh.net {p : Int} {rs : List Road} (h : NetOk p rs) : Sh (dNet p rs) 11000 3 := by
  have s1 : Sh (.tuple (rs.map dRoad)) (4 + 30 * (172 + 2)) 2 := Sh.tuple (n := 172) (m := 1) (k := 30) (fun d hd => by
    obtain ⟨q, hq, rfl⟩ := List.mem_map.mp hd
    exact Sh.road (h.all q hq) h.p2) (by rw [List.length_map]; exact h.len)
  have s2 : Sh (.int p) 40 0 := Sh.int (Nat.lt_of_le_of_lt (show p.natAbs ≤ 10 by have := h.p1; have := h.p2; omega) (by decide +kernel))
  refine (Sh.tuple (n := 4 + 30 * (172 + 2)) (m := 2) (k := 2) (fun d hd => ?_) (Nat.le_refl _)).mono (by decide) (Nat.le_refl _)
  simp only [List.mem_cons, List.not_mem_nil, or_false] at hd
  rcases hd with rfl | rfl
  · exact s2.mono (by decide) (by decide)
  · exact s1
/-! ### repr -/
inductive Dn (H : Hp) : V → PyData → Prop where
  | int (i : Int) : Dn H (.int i) (.int i)
  | tup {a : Addr} {xs : List V} {ds : List PyData} : H a = some (.tup xs) → Paired (Dn H) xs ds → Dn H (.ref a) (.tuple ds)
theorem net_reads {X : Cx} {pins : List (Addr × Obj)} {σ : L2.St} {H : Hp} {s : Shared} (I : Inv X pins σ H s) {a r : Addr} {ts : List Addr} {p : Int} {rs : List Road} (h : NetAt H a r ts p rs) : Reads s.heap (.ref a) (dNet p rs) [] := by
  obtain ⟨ea, er, et⟩ := h
  have rdInts : ∀ {ns : List Int} {us : List Value}, Vals (ns.map V.int) us → ReadsAll s.heap us (ns.map PyData.int) [] := by
    intro ns
    induction ns with
    | nil =>
      intro us r
      cases r
      exact .nil
    | cons n l ih =>
      intro us r
      cases r with
      | cons r1 r2 =>
        obtain ⟨t, rfl⟩ := r1
        exact ReadsAll.cons (as := []) (bs := []) (.int n t) (ih r2)
  have roads : ∀ {us : List Addr} {qs : List Road} {vs : List Value}, RoadsAt H us qs → Vals (us.map V.ref) vs → ReadsAll s.heap vs (qs.map dRoad) [] := by
    intro us qs vs h
    induction h generalizing vs with
    | nil =>
      intro r
      cases r
      exact .nil
    | @cons u q l l' e _ ih =>
      intro r
      cases r with
      | cons r1 r2 =>
        cases r1
        obtain ⟨its, rv, ⟨o, ho, hc, n, hd⟩, _⟩ := I.tuple (SqT.of (K := X.K) e)
        have hq : ReadsAll s.heap its [.int q.one, .int q.other, .int q.cost, .int q.time] [] := rdInts (ns := [q.one, q.other, q.cost, q.time]) rv
        exact ReadsAll.cons (as := []) (bs := []) (.tuple ho hc hd hq) (ih r2)
  obtain ⟨its, rv, ⟨o, ho, hc, n, hd⟩, _⟩ := I.tuple (SqT.of (K := X.K) ea)
  obtain ⟨its2, rv2, ⟨o2, ho2, hc2, n2, hd2⟩, _⟩ := I.tuple (SqT.of (K := X.K) er)
  refine .tuple ho hc hd ?_
  cases rv with
  | cons r1 r2 =>
    obtain ⟨t, rfl⟩ := r1
    cases r2 with
    | cons r3 r4 =>
      cases r3
      cases r4
      exact ReadsAll.cons (as := []) (bs := []) (.int p t) (ReadsAll.cons (as := []) (bs := []) (.tuple ho2 hc2 hd2 (roads et rv2)) .nil)
/-- the two dicts that the law hands in -/
inductive DictAt (H : Hp) (a : Addr) : List (PyData × PyData) → Prop where
  | nil : H a = some (.dK []) → DictAt H a []
  | one : H a = some (.dK [(Sum.inl 0, .int 1)]) → DictAt H a [(.int 0, .int 1)]
theorem dict_reads {X : Cx} {pins : List (Addr × Obj)} {σ : L2.St} {H : Hp} {s : Shared} (I : Inv X pins σ H s) {a : Addr} {kvs : List (PyData × PyData)} (h : DictAt H a kvs) : Reads s.heap (.ref a) (.dict kvs) [a] ∧ a ≠ sysModules := by
  cases h with
  | nil e =>
    obtain ⟨_, hs, vs, kv, o, es, ep, ho, hx, hd, _, hp, _⟩ := I.hok a _ e
    cases kv
    have he : es.toList = [] := by
      cases hes : es.toList with
      | nil => rfl
      | cons x l =>
        rw [hes] at hp
        cases hp
    refine ⟨?_, beq_eq_false_iff_ne.mp hs⟩
    have := Reads.dict (h := s.heap) (a := a) (es := es) (kvs := []) (as := []) (bs := []) ho hx.1 hd (by rw [he]; exact .nil) (by rw [he]; exact .nil)
    exact this
  | one e =>
    obtain ⟨_, hs, vs, kv, o, es, ep, ho, hx, hd, _, hp, _⟩ := I.hok a _ e
    cases kv with
    | @cons q0 q l1 l2 k1 k2 =>
      cases k2
      obtain ⟨ek, rv⟩ := k1
      obtain ⟨qk, qv⟩ := q
      obtain ⟨t, ev⟩ := rv
      have ek' : (Sum.inl 0 : Key) = qk := ek
      have ev' : qv = Value.int 1 t := ev
      cases hes : es.toList with
      | nil =>
        rw [hes] at hp
        cases hp
      | cons x r =>
        rw [hes] at hp
        cases hp with
        | cons h1 h2 h3 =>
          cases h3
          have h1' : keyIs qk x.key = true := h1
          rw [← ek'] at h1'
          obtain ⟨tk, hk⟩ : ∃ tk, x.key = .int 0 tk := by
            rcases keyIs_shape h1' with ⟨i, tk, e1, e2⟩ | ⟨y, tk, e1, e2⟩
            · cases e1
              exact ⟨tk, e2⟩
            · cases e1
          have hv : x.val = .int 1 t := h2.trans ev'
          refine ⟨?_, beq_eq_false_iff_ne.mp hs⟩
          have := Reads.dict (h := s.heap) (a := a) (es := es) (kvs := [(.int 0, .int 1)]) (as := []) (bs := []) ho hx.1 hd
            (by rw [hes]; show ReadsAll s.heap [x.key] [.int 0] []; rw [hk]; exact ReadsAll.cons (as := []) (bs := []) (.int 0 tk) .nil)
            (by rw [hes]; show ReadsAll s.heap [x.val] [.int 1] []; rw [hv]; exact ReadsAll.cons (as := []) (bs := []) (.int 1 t) .nil)
          exact this
/-- what repr is asked of -/
inductive Dr (K : PySem.W.Frag) (H : Hp) : V → PyData → Prop where
  | bl (b : Bool) : Dr K H (.bl b) (.bool b)
  | dp {a : Addr} {d : PyData} : Dp K H (.ref a) d → Dr K H (.ref a) d
  | dct {u a r b : Addr} {ts : List Addr} {p : Int} {rs : List Road} {kvs : List (PyData × PyData)} : H u = some (.tup [.ref a, .ref b]) → NetAt H a r ts p rs → DictAt H b kvs → Dr K H (.ref u) (.tuple [dNet p rs, .dict kvs])
def rRepr (K : PySem.W.Frag) : List V → Hp → VK → Prop := fun xs H Q => ∃ x d, xs = [x] ∧ Dr K H x d ∧ Sh d 30000 50 ∧ Q (.str d.shown) H
theorem call_reprD {X : Cx} (hg : X.A.guards = some []) (hu : X.A.units + 64 < cLine) : CallR X (.builtin "repr") (rRepr X.K) := by
  intro pins s σ H xs us Q I r h
  obtain ⟨x, d, rfl, hd, sh, q⟩ := h
  have fits : d.shown.length ≤ sizeLine := Nat.le_trans sh.l (by decide)
  have hk := sh.k
  cases r with
  | cons r1 r2 =>
    cases r2
    have go : ∀ {a : Addr} {as : List Addr}, Reads s.heap (.ref a) d as → (d.hasDict = true → sysModules ∉ as) → wpAny (model X.prog X.w) X.A (call (.builtin "repr") [.ref a]) (EP X pins σ Q) X.xe s := fun rd hs =>
      repr_of_reads' rd sh.s hs hg (by omega) (fun _ _ e => e) (fun h' u tk kept => ⟨.str d.shown, H, I.kept (t' := tk) kept, ⟨u, rfl⟩, q⟩) fits
    cases hd with
    | bl b =>
      cases r1
      refine PySem.P.repr_of_bool ⟨.str _, H, I.tok _, ⟨_, rfl⟩, ?_⟩
      rw [PyData.shown] at q
      cases b <;> exact q
    | dp hp =>
      cases r1
      obtain ⟨as, rd⟩ := Dp.reads I d _ _ hp rfl
      exact go rd (PyData.noDict_hsm (dp_plain hp))
    | dct hu' hn hb =>
      cases r1
      obtain ⟨hrd, hne⟩ := dict_reads I hb
      have hnr := net_reads I hn
      obtain ⟨its, rv, ⟨o, ho, hc, n, hdt⟩, _⟩ := I.tuple (SqT.of (K := X.K) hu')
      cases rv with
      | cons r3 r4 =>
        cases r4 with
        | cons r5 r6 =>
          cases r3
          cases r5
          cases r6
          refine go (.tuple ho hc hdt (ReadsAll.cons (as := []) hnr (ReadsAll.cons hrd .nil))) fun _ hm => ?_
          rcases List.mem_append.mp hm with z | z
          · cases z
          · rcases List.mem_append.mp z with z | z
            · exact hne (List.mem_singleton.mp z).symm
            · cases z
end Wy

namespace Wy
open PySem PySem.Spec PyProof.Rows L2
abbrev sOdd : Stmt := topS 54
/-! ### things -/
inductive At (H : Hp) : V → Prop where
  | int {i : Int} : i.natAbs < 10 ^ 30 → At H (.int i)
  | bl (b : Bool) : At H (.bl b)
  | non : At H .non
  | str {x : Str} : Sh (.str x) 40 0 ∧ PyData.canLay0 (.str x) = true → At H (.str x)
  | tup {a : Addr} {ns : List Int} : H a = some (.tup (ns.map V.int)) → ns.length ≤ 2 → (∀ n ∈ ns, n.natAbs < 10 ^ 30) → At H (.ref a)
theorem At.keep {H H' : Hp} {v : V} (h : At H v) (k : ∀ b xs, H b = some (.tup xs) → H' b = some (.tup xs)) : At H' v := by
  cases h with
  | int h => exact .int h
  | bl b => exact .bl b
  | non => exact .non
  | str h => exact .str h
  | tup e l a => exact .tup (k _ _ e) l a
theorem At.tg {H : Hp} {v : V} (h : At H v) : ∃ n, Tg H v n := by
  cases h with
  | int h => exact ⟨_, .int _⟩
  | bl b => exact ⟨_, .bl b⟩
  | non => exact ⟨_, .non⟩
  | str h => exact ⟨_, .str _⟩
  | tup e l a => exact ⟨_, .tup e⟩
theorem At.dp {K : PySem.W.Frag} {H : Hp} {v : V} (h : At H v) : ∃ d, Dp K H v d ∧ Sh d 100 1 ∧ d.canLay0 = true := by
  cases h with
  | int h => exact ⟨_, .int _, (Sh.int h).mono (by decide) (by decide), by rw [PyData.canLay0]⟩
  | bl b => exact ⟨_, .bl b, (Sh.bool b).mono (by decide) (by decide), by rw [PyData.canLay0]⟩
  | non => exact ⟨_, .non, Sh.none.mono (by decide) (by decide), by rw [PyData.canLay0]⟩
  | str h => exact ⟨_, .str _, h.1.mono (by decide) (by decide), h.2⟩
  | @tup a ns e l al =>
    refine ⟨_, .tup (SqT.of e) (ints_dp ns), (Sh.tuple (n := 40) (m := 0) (k := 2) (fun d hd => ?_) (by rw [List.length_map]; exact l)).mono (by decide) (by decide), by rw [PyData.canLay0]; exact (ints_lay ns).1⟩
    obtain ⟨n, hn, rfl⟩ := List.mem_map.mp hd
    exact Sh.int (al n hn)
theorem lay_all : ∀ {ds : List PyData}, (∀ d ∈ ds, d.canLay0 = true) → PyData.canLayAll0 ds = true
  | [], _ => rfl
  | d :: r, h => by
    rw [PyData.canLayAll0, h d List.mem_cons_self, lay_all fun x hx => h x (List.mem_cons_of_mem _ hx)]
    rfl
theorem all_lay : ∀ {ds : List PyData}, PyData.canLayAll0 ds = true → ∀ d ∈ ds, d.canLay0 = true
  | d :: r, h, x, hx => by
    rw [PyData.canLayAll0, Bool.and_eq_true] at h
    rcases List.mem_cons.mp hx with rfl | hx
    · exact h.1
    · exact all_lay h.2 x hx
theorem ats_dp {K : PySem.W.Frag} {H : Hp} : ∀ {ys : List V}, (∀ y ∈ ys, At H y) → ∃ ds, DpAll K H ys ds ∧ (∀ d ∈ ds, Sh d 100 1) ∧ ds.length = ys.length ∧ PyData.canLayAll0 ds = true
  | [], _ => ⟨[], .nil, (fun _ h => nomatch h), rfl, rfl⟩
  | y :: r, h => by
    obtain ⟨d, h1, h2, hl⟩ := (h y List.mem_cons_self).dp (K := K)
    obtain ⟨ds, h3, h4, h5, hl2⟩ := ats_dp (K := K) fun u hu => h u (List.mem_cons_of_mem _ hu)
    refine ⟨d :: ds, .cons h1 h3, fun x hx => ?_, by rw [List.length_cons, List.length_cons, h5], by rw [PyData.canLayAll0, hl, hl2]; rfl⟩
    rcases List.mem_cons.mp hx with e | e
    · rw [e]
      exact h2
    · exact h4 x e
def Thing (K : PySem.W.Frag) (H : Hp) (v : V) : Prop := ∃ o, Wh H v o ∧ (∀ xs, o = some xs → xs.length ≤ 40 ∧ ∃ ds, DpAll K H xs ds ∧ PyData.canLayAll0 ds = true ∧ PyData.depthAll ds ≤ 10) ∧ ((∃ d, Dp K H v d ∧ Sh d 9000 10 ∧ d.canLay0 = true) ∨ ∃ a kvs, v = .ref a ∧ DictAt H a kvs)
def ThingS (z : Addr) (K : PySem.W.Frag) (H : Hp) (v : V) : Prop := ∀ H', Keep z H H' → Thing K H' v
theorem ThingS.keep {z : Addr} {K : PySem.W.Frag} {H H' : Hp} {v : V} (h : ThingS z K H v) (k : Keep z H H') : ThingS z K H' v := fun _ k' => h _ (k.trans k')
theorem ThingS.now {z : Addr} {K : PySem.W.Frag} {H : Hp} {v : V} (h : ThingS z K H v) : Thing K H v := h _ (Keep.refl _ _)
theorem thing_tup {K : PySem.W.Frag} {H : Hp} {b : Addr} {ys : List V} (e : H b = some (.tup ys)) (a : ∀ y ∈ ys, At H y) (l : ys.length ≤ 40) : Thing K H (.ref b) := by
  obtain ⟨ds, h1, h2, h3, h4⟩ := ats_dp (K := K) a
  refine ⟨_, .tup e (fun y hy => (a y hy).tg) (by omega), (fun xs ex => by cases ex; exact ⟨l, ds, h1, h4, Nat.le_trans (show_all h2).2 (by decide)⟩), .inl ⟨_, .tup (SqT.of e) h1, (Sh.tuple h2 (by omega : ds.length ≤ 40)).mono (by decide) (by decide), by rw [PyData.canLay0]; exact h4⟩⟩
theorem thing_lst {K : PySem.W.Frag} {H : Hp} {b : Addr} {ys : List V} (e : H b = some (.lst ys)) (a : ∀ y ∈ ys, At H y) (l : ys.length ≤ 40) : Thing K H (.ref b) := by
  obtain ⟨ds, h1, h2, h3, h4⟩ := ats_dp (K := K) a
  exact ⟨_, .oth (.lst e) rfl, (fun _ q => nomatch q), .inl ⟨_, .lst (SqL.of e) h1, (Sh.list h2 (by omega : ds.length ≤ 40)).mono (by decide) (by decide), by rw [PyData.canLay0]; exact h4⟩⟩
theorem thing_flat {K : PySem.W.Frag} {H : Hp} {v : V} (h : At H v) (n : ∀ a, v ≠ .ref a) : Thing K H v := by
  obtain ⟨d, h1, h2, hl⟩ := h.dp (K := K)
  refine ⟨none, ?_, (fun _ q => nomatch q), .inl ⟨d, h1, h2.mono (by decide) (by decide), hl⟩⟩
  cases h with
  | int h => exact .oth (.int _) rfl
  | bl b => exact .oth (.bl b) rfl
  | non => exact .oth .non rfl
  | str h => exact .oth (.str _) rfl
  | tup e l a => exact absurd rfl (n _)
theorem thingS_flat {z : Addr} {K : PySem.W.Frag} {H : Hp} {v : V} (h : At (fun _ => none) v) (n : ∀ a, v ≠ .ref a) : ThingS z K H v := fun H' _ => thing_flat (h.keep fun _ _ e => nomatch e) n
theorem thingS_tup {z : Addr} {K : PySem.W.Frag} {H : Hp} {b : Addr} {ys : List V} (s : StOk H z) (e : H b = some (.tup ys)) (a : ∀ y ∈ ys, At H y) (l : ys.length ≤ 40) : ThingS z K H (.ref b) := fun H' k =>
  thing_tup (k.tups s _ _ e) (fun y hy => (a y hy).keep (k.tups s)) l
theorem thingS_lst {z : Addr} {K : PySem.W.Frag} {H : Hp} {b : Addr} {ys : List V} (s : StOk H z) (e : H b = some (.lst ys)) (n : b ≠ z) (a : ∀ y ∈ ys, At H y) (l : ys.length ≤ 40) : ThingS z K H (.ref b) := fun H' k =>
  thing_lst (k _ _ e n) (fun y hy => (a y hy).keep (k.tups s)) l
theorem StOk.neD {H : Hp} {z b : Addr} {xs : List (Key × V)} (s : StOk H z) (h : H b = some (.dK xs)) : b ≠ z := let ⟨_, _, e, _⟩ := s; ne_of h e (fun q => nomatch q)
theorem thingS_dct {z : Addr} {K : PySem.W.Frag} {H : Hp} {b : Addr} {xs : List (Key × V)} {kvs : List (PyData × PyData)} (s : StOk H z) (e : H b = some (.dK xs)) (d : ∀ G : Hp, G b = some (.dK xs) → DictAt G b kvs) : ThingS z K H (.ref b) := fun H' k =>
  ⟨none, .oth (.dct (k _ _ e (s.neD e))) rfl, (fun _ q => nomatch q), .inr ⟨b, kvs, rfl, d _ (k _ _ e (s.neD e))⟩⟩
/-- what was new behind H0, and tuples, stay -/
def KeepX (H0 : Hp) (z : Addr) (H G : Hp) : Prop := ∀ b o, H b = some o → b ≠ z → (H0 b = none ∨ ∃ xs, o = .tup xs) → G b = some o
def ThingX (H0 : Hp) (z : Addr) (K : PySem.W.Frag) (H : Hp) (v : V) : Prop := ∀ G, KeepX H0 z H G → Thing K G v
theorem KeepX.tups {H0 H G : Hp} {z : Addr} (k : KeepX H0 z H G) (s : StOk H z) : ∀ b xs, H b = some (.tup xs) → G b = some (.tup xs) := fun b xs e => k b _ e (s.neT e) (.inr ⟨xs, rfl⟩)
theorem ThingX.st {H0 H : Hp} {z : Addr} {K : PySem.W.Frag} {v : V} (h : ThingX H0 z K H v) : ThingS z K H v := fun G k => h G fun b o e n _ => k b o e n
theorem thingX_flat {H0 H : Hp} {z : Addr} {K : PySem.W.Frag} {v : V} (h : At (fun _ => none) v) (n : ∀ a, v ≠ .ref a) : ThingX H0 z K H v := fun G _ => thing_flat (h.keep fun _ _ e => nomatch e) n
theorem thingX_tup {H0 H : Hp} {z b : Addr} {K : PySem.W.Frag} {ys : List V} (s : StOk H z) (e : H b = some (.tup ys)) (a : ∀ y ∈ ys, At H y) (l : ys.length ≤ 40) : ThingX H0 z K H (.ref b) := fun G k =>
  thing_tup (k.tups s _ _ e) (fun y hy => (a y hy).keep (k.tups s)) l
theorem thingX_lst {H0 H : Hp} {z b : Addr} {K : PySem.W.Frag} {ys : List V} (s : StOk H z) (e : H b = some (.lst ys)) (n : b ≠ z) (n0 : H0 b = none) (a : ∀ y ∈ ys, At H y) (l : ys.length ≤ 40) : ThingX H0 z K H (.ref b) := fun G k =>
  thing_lst (k _ _ e n (.inl n0)) (fun y hy => (a y hy).keep (k.tups s)) l
theorem thingX_dct {H0 H : Hp} {z b : Addr} {K : PySem.W.Frag} {xs : List (Key × V)} {kvs : List (PyData × PyData)} (s : StOk H z) (e : H b = some (.dK xs)) (n0 : H0 b = none) (d : ∀ G : Hp, G b = some (.dK xs) → DictAt G b kvs) : ThingX H0 z K H (.ref b) := fun G k =>
  ⟨none, .oth (.dct (k _ _ e (s.neD e) (.inl n0))) rfl, (fun _ q => nomatch q), .inr ⟨b, kvs, rfl, d _ (k _ _ e (s.neD e) (.inl n0))⟩⟩
theorem sh_text {x : Str} (h : (reprText x).length ≤ 40) : Sh (.str x) 40 0 := ⟨by rw [PyData.showable], by rw [PyData.shown]; exact h, by rw [PyData.depth]; exact Nat.le_refl _⟩
theorem small_of {i : Int} (h : i.natAbs ≤ 1000) : i.natAbs < 10 ^ 30 := Nat.lt_of_le_of_lt h (by decide +kernel)
theorem all1 {H : Hp} {x : V} (h : At H x) : ∀ y ∈ [x], At H y := fun y hy => by
  rw [List.mem_singleton.mp hy]
  exact h
theorem all2 {H : Hp} {x u : V} (h : At H x) (h2 : At H u) : ∀ y ∈ [x, u], At H y := fun y hy => by
  rcases List.mem_cons.mp hy with e | e
  · rw [e]
    exact h
  · rw [List.mem_singleton.mp e]
    exact h2
section
variable {P : Program} {w : World} {K : PySem.W.Frag} {mg : Str → Option Value} {base : Heap}
theorem scOdd : FnScope ["_law_state_here", "_law_some"] ["_law_state_here"] (defScope sOdd) := ⟨rfl, rfl, rfl, by decide +kernel, rfl, by decide +kernel, by decide +kernel⟩
def spOdd (K : PySem.W.Frag) : Sp := fun vs H Q _ => ∃ z : Addr, vs = [.ref z] ∧ StOk H z ∧ ∀ H' v, Keep z H H' → StOk H' z → ThingX H z K H' v → Q v H'
theorem ok_odd {f fK : Addr} {fd dK : FuncData} {k : Nat} (DK : Df K mg "_law_take" sTake ["_law_state_here", "_law_much"] fK dK)
    (D : Df K mg "_law_odd" sOdd ["_law_state_here"] f fd) : FnOk P w K mg base CX0 (k + 2) f fd ["_law_state_here"] (spOdd K) := by
  have GK : FnOk P w K mg base CX0 (k + 1) fK dK ["_law_state_here", "_law_much"] spTake := ok_take DK
  refine D.F.ok scOdd (fun vs H Q E h => ?_) (fun cdv A outer s H vs Q E hr h => ?_)
  · obtain ⟨_, rfl, _⟩ := h
    rfl
  · obtain ⟨z, rfl, st, q⟩ := h
    refine ⟨_, (pss_cons (ps_set (i := 1) scOdd.nd rfl (.inl rfl) (pe_lst (pa_cons pe_non (pa_cons pe_bl (pa_cons pe_bl (pa_cons pe_int (pa_cons pe_int (pa_cons (pe_un un_neg pe_int) (pa_cons pe_int (pa_cons pe_int (pa_cons (pe_op op_pow pe_int pe_int) (pa_cons pe_str (pa_cons pe_str (pa_cons pe_str (pa_cons (pe_tup pa_nil) (pa_cons (pe_lst pa_nil) (pa_cons pe_dnewK (pa_cons (pe_tup (pa_cons pe_int pa_nil)) (pa_cons (pe_lst (pa_cons pe_int pa_nil)) (pa_cons (pe_tup (pa_cons pe_int (pa_cons pe_int pa_nil))) (pa_cons (pe_tup (pa_cons pe_bl pa_nil)) pa_nil)))))))))))))))))))))
    (pss_one (ps_ret (pe_ix ix_list (pe_op op_cat (pv 1) (pe_lst (pa_cons (pe_tup (pa_cons (pe_tup pa_nil) pa_nil)) (pa_cons (pe_disp (pps_cons pe_int pe_int pps_nil) (by rfl) (by rfl) (fun z => by cases z) (by decide)) (pa_cons (pe_tup (pa_cons pe_int (pa_cons (pe_tup pa_nil) pa_nil))) (pa_cons (pe_lst (pa_cons pe_int (pa_cons (pe_tup pa_nil) pa_nil))) (pa_cons (pe_tup (pa_cons pe_non (pa_cons pe_int pa_nil))) (pa_cons (pe_tup (pa_cons pe_str pa_nil)) (pa_cons (pe_tup (pa_cons (pe_tup (pa_cons pe_int (pa_cons pe_int pa_nil))) pa_nil)) pa_nil))))))))) (pe_call GK hr (by rfl) DK.g DK.F.kp DK.b .nil pass0 (pa_cons (pv 0) (pa_cons pe_int pa_nil))) (fun _ _ => rfl))))), ?_⟩
    refine ⟨1, rfl, 10, 29, rfl, rfl, ⟨by decide, by decide, by decide⟩, Nat.zero_le _, fun a1 n1 => ⟨Nat.zero_le _, fun a2 n2 => fun a3 n3 => ⟨by show 1 ≤ sizeLine; decide, fun a4 n4 => ⟨by show 1 ≤ sizeLine; decide, fun a5 n5 => ⟨by show 2 ≤ sizeLine; decide, fun a6 n6 => ⟨by show 1 ≤ sizeLine; decide, fun a7 n7 => ⟨by show 19 ≤ sizeLine; decide, fun L nL => ?_⟩⟩⟩⟩⟩⟩⟩
    refine ⟨.ref L, rfl, Nat.zero_le _, fun b1 m1 => ⟨by show 1 ≤ sizeLine; decide, fun b2 m2 => fun b3 m3 => ?_⟩⟩
    refine ⟨upd_same, [(Sum.inl 0, .int 1)], rfl, by decide, ?_⟩
    refine ⟨Nat.zero_le _, fun b4 m4 => ⟨by show 2 ≤ sizeLine; decide, fun b5 m5 => ⟨Nat.zero_le _, fun b6 m6 => ⟨by show 2 ≤ sizeLine; decide, fun b7 m7 => ⟨by show 2 ≤ sizeLine; decide, fun b8 m8 => ⟨by show 1 ≤ sizeLine; decide, fun b9 m9 => ⟨by show 2 ≤ sizeLine; decide, fun b10 m10 => ⟨by show 1 ≤ sizeLine; decide, fun b11 m11 => ⟨by show 7 ≤ sizeLine; decide, fun M nM => ?_⟩⟩⟩⟩⟩⟩⟩⟩⟩
    refine ⟨L, M, [.non, .bl true, .bl false, .int 0, .int 1, .int (-1), .int 99, .int 100, .int (10 ^ 29), .str "", .str "0", .str "roads", .ref a1, .ref a2, .ref a3, .ref a4, .ref a5, .ref a6, .ref a7], [.ref b2, .ref b3, .ref b5, .ref b7, .ref b8, .ref b9, .ref b11], rfl, rfl, (same_new nM _ _ (same_new m11 _ _ (same_new m10 _ _ (same_new m9 _ _ (same_new m8 _ _ (same_new m7 _ _ (same_new m6 _ _ (same_new m5 _ _ (same_new m4 _ _ (Same.upd_lst (same_new m3) m3 _ _ (same_new m2 _ _ (same_new m1 _ _ upd_same)))))))))))), upd_same, by show 26 ≤ sizeLine; decide, fun W nW => ?_⟩
    obtain ⟨sx, sy, ez, sr⟩ := id st
    have zW : z ≠ W := ne_of_none (same_new nM _ _ (same_new m11 _ _ (same_new m10 _ _ (same_new m9 _ _ (same_new m8 _ _ (same_new m7 _ _ (same_new m6 _ _ (same_new m5 _ _ (same_new m4 _ _ (Same.upd_lst (same_new m3) m3 _ _ (same_new m2 _ _ (same_new m1 _ _ (same_new nL _ _ (same_new n7 _ _ (same_new n6 _ _ (same_new n5 _ _ (same_new n4 _ _ (same_new n3 _ _ (same_new n2 _ _ (same_new n1 _ _ ez)))))))))))))))))))) nW
    refine ⟨.ref z, rfl, z, 26, rfl, ⟨sx, sy, (same_new nW _ _ (same_new nM _ _ (same_new m11 _ _ (same_new m10 _ _ (same_new m9 _ _ (same_new m8 _ _ (same_new m7 _ _ (same_new m6 _ _ (same_new m5 _ _ (same_new m4 _ _ (Same.upd_lst (same_new m3) m3 _ _ (same_new m2 _ _ (same_new m1 _ _ (same_new nL _ _ (same_new n7 _ _ (same_new n6 _ _ (same_new n5 _ _ (same_new n4 _ _ (same_new n3 _ _ (same_new n2 _ _ (same_new n1 _ _ ez))))))))))))))))))))), sr⟩, by decide, by decide, fun H' n k' st' u0 u1 => ?_⟩
    obtain ⟨v, hv, ev⟩ := pick (xs := [V.non, .bl true, .bl false, .int 0, .int 1, .int (-1), .int 99, .int 100, .int (10 ^ 29), .str "", .str "0", .str "roads", .ref a1, .ref a2, .ref a3, .ref a4, .ref a5, .ref a6, .ref a7] ++ [V.ref b2, .ref b3, .ref b5, .ref b7, .ref b8, .ref b9, .ref b11]) u0 (show n < 26 from u1)
    refine ⟨W, _, n, v, rfl, rfl, SqL.of (k' _ _ upd_same zW.symm), ev, ?_⟩
    have kk : Keep z H H' := fun b o hb hz => k' b o (same_new nW _ _ (same_new nM _ _ (same_new m11 _ _ (same_new m10 _ _ (same_new m9 _ _ (same_new m8 _ _ (same_new m7 _ _ (same_new m6 _ _ (same_new m5 _ _ (same_new m4 _ _ (Same.upd_lst (same_new m3) m3 _ _ (same_new m2 _ _ (same_new m1 _ _ (same_new nL _ _ (same_new n7 _ _ (same_new n6 _ _ (same_new n5 _ _ (same_new n4 _ _ (same_new n3 _ _ (same_new n2 _ _ (same_new n1 _ _ hb))))))))))))))))))))) hz
    have fra2 : H a2 = none := Same.free (H := H) (l := a2) (fun b o e => (same_new n1 _ _ e)) n2
    have fra3 : H a3 = none := Same.free (H := H) (l := a3) (fun b o e => (same_new n2 _ _ (same_new n1 _ _ e))) n3
    have fra5 : H a5 = none := Same.free (H := H) (l := a5) (fun b o e => (same_new n4 _ _ (same_new n3 _ _ (same_new n2 _ _ (same_new n1 _ _ e))))) n5
    have frb3 : H b3 = none := Same.free (H := H) (l := b3) (fun b o e => (same_new m2 _ _ (same_new m1 _ _ (same_new nL _ _ (same_new n7 _ _ (same_new n6 _ _ (same_new n5 _ _ (same_new n4 _ _ (same_new n3 _ _ (same_new n2 _ _ (same_new n1 _ _ e))))))))))) m3
    have frb7 : H b7 = none := Same.free (H := H) (l := b7) (fun b o e => (same_new m6 _ _ (same_new m5 _ _ (same_new m4 _ _ (Same.upd_lst (same_new m3) m3 _ _ (same_new m2 _ _ (same_new m1 _ _ (same_new nL _ _ (same_new n7 _ _ (same_new n6 _ _ (same_new n5 _ _ (same_new n4 _ _ (same_new n3 _ _ (same_new n2 _ _ (same_new n1 _ _ e))))))))))))))) m7
    have za1 : z ≠ a1 := ne_of_none ez n1
    have ea1 : H' a1 = some (.tup []) := k' _ _ (same_new nW _ _ (same_new nM _ _ (same_new m11 _ _ (same_new m10 _ _ (same_new m9 _ _ (same_new m8 _ _ (same_new m7 _ _ (same_new m6 _ _ (same_new m5 _ _ (same_new m4 _ _ (Same.upd_lst (same_new m3) m3 _ _ (same_new m2 _ _ (same_new m1 _ _ (same_new nL _ _ (same_new n7 _ _ (same_new n6 _ _ (same_new n5 _ _ (same_new n4 _ _ (same_new n3 _ _ (same_new n2 _ _ upd_same)))))))))))))))))))) za1.symm
    have za2 : z ≠ a2 := ne_of_none (same_new n1 _ _ ez) n2
    have ea2 : H' a2 = some (.lst []) := k' _ _ (same_new nW _ _ (same_new nM _ _ (same_new m11 _ _ (same_new m10 _ _ (same_new m9 _ _ (same_new m8 _ _ (same_new m7 _ _ (same_new m6 _ _ (same_new m5 _ _ (same_new m4 _ _ (Same.upd_lst (same_new m3) m3 _ _ (same_new m2 _ _ (same_new m1 _ _ (same_new nL _ _ (same_new n7 _ _ (same_new n6 _ _ (same_new n5 _ _ (same_new n4 _ _ (same_new n3 _ _ upd_same))))))))))))))))))) za2.symm
    have za3 : z ≠ a3 := ne_of_none (same_new n2 _ _ (same_new n1 _ _ ez)) n3
    have ea3 : H' a3 = some (.dK []) := k' _ _ (same_new nW _ _ (same_new nM _ _ (same_new m11 _ _ (same_new m10 _ _ (same_new m9 _ _ (same_new m8 _ _ (same_new m7 _ _ (same_new m6 _ _ (same_new m5 _ _ (same_new m4 _ _ (Same.upd_lst (same_new m3) m3 _ _ (same_new m2 _ _ (same_new m1 _ _ (same_new nL _ _ (same_new n7 _ _ (same_new n6 _ _ (same_new n5 _ _ (same_new n4 _ _ upd_same)))))))))))))))))) za3.symm
    have za4 : z ≠ a4 := ne_of_none (same_new n3 _ _ (same_new n2 _ _ (same_new n1 _ _ ez))) n4
    have ea4 : H' a4 = some (.tup [.int 0]) := k' _ _ (same_new nW _ _ (same_new nM _ _ (same_new m11 _ _ (same_new m10 _ _ (same_new m9 _ _ (same_new m8 _ _ (same_new m7 _ _ (same_new m6 _ _ (same_new m5 _ _ (same_new m4 _ _ (Same.upd_lst (same_new m3) m3 _ _ (same_new m2 _ _ (same_new m1 _ _ (same_new nL _ _ (same_new n7 _ _ (same_new n6 _ _ (same_new n5 _ _ upd_same))))))))))))))))) za4.symm
    have za5 : z ≠ a5 := ne_of_none (same_new n4 _ _ (same_new n3 _ _ (same_new n2 _ _ (same_new n1 _ _ ez)))) n5
    have ea5 : H' a5 = some (.lst [.int 0]) := k' _ _ (same_new nW _ _ (same_new nM _ _ (same_new m11 _ _ (same_new m10 _ _ (same_new m9 _ _ (same_new m8 _ _ (same_new m7 _ _ (same_new m6 _ _ (same_new m5 _ _ (same_new m4 _ _ (Same.upd_lst (same_new m3) m3 _ _ (same_new m2 _ _ (same_new m1 _ _ (same_new nL _ _ (same_new n7 _ _ (same_new n6 _ _ upd_same)))))))))))))))) za5.symm
    have za6 : z ≠ a6 := ne_of_none (same_new n5 _ _ (same_new n4 _ _ (same_new n3 _ _ (same_new n2 _ _ (same_new n1 _ _ ez))))) n6
    have ea6 : H' a6 = some (.tup [.int 0, .int 1]) := k' _ _ (same_new nW _ _ (same_new nM _ _ (same_new m11 _ _ (same_new m10 _ _ (same_new m9 _ _ (same_new m8 _ _ (same_new m7 _ _ (same_new m6 _ _ (same_new m5 _ _ (same_new m4 _ _ (Same.upd_lst (same_new m3) m3 _ _ (same_new m2 _ _ (same_new m1 _ _ (same_new nL _ _ (same_new n7 _ _ upd_same))))))))))))))) za6.symm
    have za7 : z ≠ a7 := ne_of_none (same_new n6 _ _ (same_new n5 _ _ (same_new n4 _ _ (same_new n3 _ _ (same_new n2 _ _ (same_new n1 _ _ ez)))))) n7
    have ea7 : H' a7 = some (.tup [.bl true]) := k' _ _ (same_new nW _ _ (same_new nM _ _ (same_new m11 _ _ (same_new m10 _ _ (same_new m9 _ _ (same_new m8 _ _ (same_new m7 _ _ (same_new m6 _ _ (same_new m5 _ _ (same_new m4 _ _ (Same.upd_lst (same_new m3) m3 _ _ (same_new m2 _ _ (same_new m1 _ _ (same_new nL _ _ upd_same)))))))))))))) za7.symm
    have zb1 : z ≠ b1 := ne_of_none (same_new nL _ _ (same_new n7 _ _ (same_new n6 _ _ (same_new n5 _ _ (same_new n4 _ _ (same_new n3 _ _ (same_new n2 _ _ (same_new n1 _ _ ez)))))))) m1
    have eb1 : H' b1 = some (.tup []) := k' _ _ (same_new nW _ _ (same_new nM _ _ (same_new m11 _ _ (same_new m10 _ _ (same_new m9 _ _ (same_new m8 _ _ (same_new m7 _ _ (same_new m6 _ _ (same_new m5 _ _ (same_new m4 _ _ (Same.upd_lst (same_new m3) m3 _ _ (same_new m2 _ _ upd_same)))))))))))) zb1.symm
    have zb2 : z ≠ b2 := ne_of_none (same_new m1 _ _ (same_new nL _ _ (same_new n7 _ _ (same_new n6 _ _ (same_new n5 _ _ (same_new n4 _ _ (same_new n3 _ _ (same_new n2 _ _ (same_new n1 _ _ ez))))))))) m2
    have eb2 : H' b2 = some (.tup [.ref b1]) := k' _ _ (same_new nW _ _ (same_new nM _ _ (same_new m11 _ _ (same_new m10 _ _ (same_new m9 _ _ (same_new m8 _ _ (same_new m7 _ _ (same_new m6 _ _ (same_new m5 _ _ (same_new m4 _ _ (Same.upd_lst (same_new m3) m3 _ _ upd_same))))))))))) zb2.symm
    have zb3 : z ≠ b3 := ne_of_none (same_new m2 _ _ (same_new m1 _ _ (same_new nL _ _ (same_new n7 _ _ (same_new n6 _ _ (same_new n5 _ _ (same_new n4 _ _ (same_new n3 _ _ (same_new n2 _ _ (same_new n1 _ _ ez)))))))))) m3
    have eb3 : H' b3 = some (.dK [(Sum.inl 0, .int 1)]) := k' _ _ (same_new nW _ _ (same_new nM _ _ (same_new m11 _ _ (same_new m10 _ _ (same_new m9 _ _ (same_new m8 _ _ (same_new m7 _ _ (same_new m6 _ _ (same_new m5 _ _ (same_new m4 _ _ upd_same)))))))))) zb3.symm
    have zb4 : z ≠ b4 := ne_of_none (Same.upd_lst (same_new m3) m3 _ _ (same_new m2 _ _ (same_new m1 _ _ (same_new nL _ _ (same_new n7 _ _ (same_new n6 _ _ (same_new n5 _ _ (same_new n4 _ _ (same_new n3 _ _ (same_new n2 _ _ (same_new n1 _ _ ez))))))))))) m4
    have eb4 : H' b4 = some (.tup []) := k' _ _ (same_new nW _ _ (same_new nM _ _ (same_new m11 _ _ (same_new m10 _ _ (same_new m9 _ _ (same_new m8 _ _ (same_new m7 _ _ (same_new m6 _ _ (same_new m5 _ _ upd_same))))))))) zb4.symm
    have zb5 : z ≠ b5 := ne_of_none (same_new m4 _ _ (Same.upd_lst (same_new m3) m3 _ _ (same_new m2 _ _ (same_new m1 _ _ (same_new nL _ _ (same_new n7 _ _ (same_new n6 _ _ (same_new n5 _ _ (same_new n4 _ _ (same_new n3 _ _ (same_new n2 _ _ (same_new n1 _ _ ez)))))))))))) m5
    have eb5 : H' b5 = some (.tup [.int 1, .ref b4]) := k' _ _ (same_new nW _ _ (same_new nM _ _ (same_new m11 _ _ (same_new m10 _ _ (same_new m9 _ _ (same_new m8 _ _ (same_new m7 _ _ (same_new m6 _ _ upd_same)))))))) zb5.symm
    have zb6 : z ≠ b6 := ne_of_none (same_new m5 _ _ (same_new m4 _ _ (Same.upd_lst (same_new m3) m3 _ _ (same_new m2 _ _ (same_new m1 _ _ (same_new nL _ _ (same_new n7 _ _ (same_new n6 _ _ (same_new n5 _ _ (same_new n4 _ _ (same_new n3 _ _ (same_new n2 _ _ (same_new n1 _ _ ez))))))))))))) m6
    have eb6 : H' b6 = some (.tup []) := k' _ _ (same_new nW _ _ (same_new nM _ _ (same_new m11 _ _ (same_new m10 _ _ (same_new m9 _ _ (same_new m8 _ _ (same_new m7 _ _ upd_same))))))) zb6.symm
    have zb7 : z ≠ b7 := ne_of_none (same_new m6 _ _ (same_new m5 _ _ (same_new m4 _ _ (Same.upd_lst (same_new m3) m3 _ _ (same_new m2 _ _ (same_new m1 _ _ (same_new nL _ _ (same_new n7 _ _ (same_new n6 _ _ (same_new n5 _ _ (same_new n4 _ _ (same_new n3 _ _ (same_new n2 _ _ (same_new n1 _ _ ez)))))))))))))) m7
    have eb7 : H' b7 = some (.lst [.int 1, .ref b6]) := k' _ _ (same_new nW _ _ (same_new nM _ _ (same_new m11 _ _ (same_new m10 _ _ (same_new m9 _ _ (same_new m8 _ _ upd_same)))))) zb7.symm
    have zb8 : z ≠ b8 := ne_of_none (same_new m7 _ _ (same_new m6 _ _ (same_new m5 _ _ (same_new m4 _ _ (Same.upd_lst (same_new m3) m3 _ _ (same_new m2 _ _ (same_new m1 _ _ (same_new nL _ _ (same_new n7 _ _ (same_new n6 _ _ (same_new n5 _ _ (same_new n4 _ _ (same_new n3 _ _ (same_new n2 _ _ (same_new n1 _ _ ez))))))))))))))) m8
    have eb8 : H' b8 = some (.tup [.non, .int 0]) := k' _ _ (same_new nW _ _ (same_new nM _ _ (same_new m11 _ _ (same_new m10 _ _ (same_new m9 _ _ upd_same))))) zb8.symm
    have zb9 : z ≠ b9 := ne_of_none (same_new m8 _ _ (same_new m7 _ _ (same_new m6 _ _ (same_new m5 _ _ (same_new m4 _ _ (Same.upd_lst (same_new m3) m3 _ _ (same_new m2 _ _ (same_new m1 _ _ (same_new nL _ _ (same_new n7 _ _ (same_new n6 _ _ (same_new n5 _ _ (same_new n4 _ _ (same_new n3 _ _ (same_new n2 _ _ (same_new n1 _ _ ez)))))))))))))))) m9
    have eb9 : H' b9 = some (.tup [.str "bound"]) := k' _ _ (same_new nW _ _ (same_new nM _ _ (same_new m11 _ _ (same_new m10 _ _ upd_same)))) zb9.symm
    have zb10 : z ≠ b10 := ne_of_none (same_new m9 _ _ (same_new m8 _ _ (same_new m7 _ _ (same_new m6 _ _ (same_new m5 _ _ (same_new m4 _ _ (Same.upd_lst (same_new m3) m3 _ _ (same_new m2 _ _ (same_new m1 _ _ (same_new nL _ _ (same_new n7 _ _ (same_new n6 _ _ (same_new n5 _ _ (same_new n4 _ _ (same_new n3 _ _ (same_new n2 _ _ (same_new n1 _ _ ez))))))))))))))))) m10
    have eb10 : H' b10 = some (.tup [.int 0, .int 1]) := k' _ _ (same_new nW _ _ (same_new nM _ _ (same_new m11 _ _ upd_same))) zb10.symm
    have zb11 : z ≠ b11 := ne_of_none (same_new m10 _ _ (same_new m9 _ _ (same_new m8 _ _ (same_new m7 _ _ (same_new m6 _ _ (same_new m5 _ _ (same_new m4 _ _ (Same.upd_lst (same_new m3) m3 _ _ (same_new m2 _ _ (same_new m1 _ _ (same_new nL _ _ (same_new n7 _ _ (same_new n6 _ _ (same_new n5 _ _ (same_new n4 _ _ (same_new n3 _ _ (same_new n2 _ _ (same_new n1 _ _ ez)))))))))))))))))) m11
    have eb11 : H' b11 = some (.tup [.ref b10]) := k' _ _ (same_new nW _ _ (same_new nM _ _ upd_same)) zb11.symm
    refine q H' v kk st' ?_
    have in0 : At H' (.int 0) := .int (small_of (by decide))
    have in1 : At H' (.int 1) := .int (small_of (by decide))
    have em : ∀ {b : Addr}, H' b = some (.tup []) → At H' (.ref b) := fun e => .tup (ns := []) e (by decide) (fun _ h => nomatch h)
    have flat : ∀ {u : V}, At (fun _ => none) u → (∀ a, u ≠ .ref a) → ThingX H z K H' u := fun h n => thingX_flat h n
    have num : ∀ i : Int, i.natAbs < 10 ^ 30 → ThingX H z K H' (.int i) := fun i h => flat (.int h) (fun _ q => nomatch q)
    simp only [List.cons_append, List.nil_append, List.mem_cons, List.not_mem_nil, or_false] at hv
    rcases hv with rfl | rfl | rfl | rfl | rfl | rfl | rfl | rfl | rfl | rfl | rfl | rfl | rfl | rfl | rfl | rfl | rfl | rfl | rfl | rfl | rfl | rfl | rfl | rfl | rfl | rfl
    · exact flat .non (fun _ q => nomatch q)
    · exact flat (.bl _) (fun _ q => nomatch q)
    · exact flat (.bl _) (fun _ q => nomatch q)
    · exact num _ (by decide +kernel)
    · exact num _ (by decide +kernel)
    · exact num _ (by decide +kernel)
    · exact num _ (by decide +kernel)
    · exact num _ (by decide +kernel)
    · exact num _ (by decide +kernel)
    · exact flat (.str ⟨sh_text (by decide +kernel), by rw [PyData.canLay0]; decide +kernel⟩) (fun _ q => nomatch q)
    · exact flat (.str ⟨sh_text (by decide +kernel), by rw [PyData.canLay0]; decide +kernel⟩) (fun _ q => nomatch q)
    · exact flat (.str ⟨sh_text (by decide +kernel), by rw [PyData.canLay0]; decide +kernel⟩) (fun _ q => nomatch q)
    · exact thingX_tup st' ea1 (fun _ h => nomatch h) (by decide)
    · exact thingX_lst st' ea2 za2.symm fra2 (fun _ h => nomatch h) (by decide)
    · exact thingX_dct (kvs := []) st' ea3 fra3 (fun G e => .nil e)
    · exact thingX_tup st' ea4 (all1 in0) (by decide : 1 ≤ 40)
    · exact thingX_lst st' ea5 za5.symm fra5 (all1 in0) (by decide : 1 ≤ 40)
    · exact thingX_tup st' ea6 (all2 in0 in1) (by decide : 2 ≤ 40)
    · exact thingX_tup st' ea7 (all1 (.bl _)) (by decide : 1 ≤ 40)
    · exact thingX_tup st' eb2 (all1 (em eb1)) (by decide : 1 ≤ 40)
    · exact thingX_dct (kvs := [(.int 0, .int 1)]) st' eb3 frb3 (fun G e => .one e)
    · exact thingX_tup st' eb5 (all2 in1 (em eb4)) (by decide : 2 ≤ 40)
    · exact thingX_lst st' eb7 zb7.symm frb7 (all2 in1 (em eb6)) (by decide : 2 ≤ 40)
    · exact thingX_tup st' eb8 (all2 .non in0) (by decide : 2 ≤ 40)
    · exact thingX_tup st' eb9 (all1 (.str ⟨sh_text (by decide +kernel), by rw [PyData.canLay0]; decide +kernel⟩)) (by decide : 1 ≤ 40)
    · exact thingX_tup st' eb11 (all1 (.tup (ns := [0, 1]) eb10 (by decide) (fun n hn => by
        rcases List.mem_cons.mp hn with e | e
        · rw [e]
          decide +kernel
        · rw [List.mem_singleton.mp e]
          decide +kernel))) (by decide : 1 ≤ 40)
end
end Wy

namespace Wy
open PySem PySem.Spec PyProof.Rows L2
theorem pw_no {X : Cx} {e : Expr} : PW X e (fun _ _ _ => False) := ⟨fun _ _ _ _ _ _ _ h => h.elim⟩
theorem cut_whole {xs : List V} {lo hi : Option Int} (h : HT.sIx xs.length 0 lo = 0 ∧ HT.sIx xs.length xs.length hi = xs.length) : cutV xs lo hi = xs := by
  unfold cutV
  rw [h.1, h.2, List.drop_zero, Nat.sub_zero, List.take_length]
def rSlB : V → Option Int → Option Int → Hp → VK → Prop := fun x lo hi H Q => ∃ a xs, x = .ref a ∧ H a = some (.tup xs) ∧ ∀ c H', Same H H' → H' c = some (.tup (cutV xs lo hi)) → Q (.ref c) H'
theorem sl_tupB {X : Cx} : SlR X rSlB := by
  intro pins s σ H x v vl vu lo hi sl Q I rx hs pl pu h
  obtain ⟨a, xs, rfl, e, q⟩ := h
  exact sl_tupA pins s σ H _ v vl vu lo hi sl Q I rx hs pl pu ⟨a, xs, rfl, SqT.of e, fun z => q a H (Same.refl H) (by rw [cut_whole z]; exact e), fun _ p np => q p _ (same_new np) upd_same⟩
def rCatB : R2 := fun x y H Q => ∃ a b xs ys, x = .ref a ∧ y = .ref b ∧ H a = some (.tup xs) ∧ H b = some (.tup ys) ∧ xs.length + ys.length ≤ 1000 ∧ ∀ c H', Same H H' → H' c = some (.tup (xs ++ ys)) → Q (.ref c) H'
theorem op_catB {X : Cx} : OpR X (binaryOp .Add) rCatB := by
  intro pins s σ H x y v u Q I rx ry h
  obtain ⟨a, b, xs, ys, rfl, rfl, e1, e2, hl, q⟩ := h
  refine op_catA pins s σ H _ _ v u Q I rx ry ⟨a, b, xs, ys, rfl, rfl, SqT.of e1, SqT.of e2, Nat.le_trans hl (by decide), fun z => q b H (Same.refl H) (by rw [z]; exact e2), fun _ z => q a H (Same.refl H) (by rw [z, List.append_nil]; exact e1), fun _ _ p np => q p _ (same_new np) upd_same⟩
theorem cut_mem {xs : List V} {lo hi : Option Int} {y : V} (h : y ∈ cutV xs lo hi) : y ∈ xs := List.mem_of_mem_drop (List.mem_of_mem_take h)
theorem walk_at {H : Hp} {ms : List Int} (h : ∀ m ∈ ms, m.natAbs ≤ 100) : ∀ y ∈ ms.map V.int, At H y := fun y hy => by
  obtain ⟨m, hm, rfl⟩ := List.mem_map.mp hy
  exact .int (small_of (Nat.le_trans (h m hm) (by decide)))
end Wy

namespace Wy
open PySem PySem.Spec PyProof.Rows L2
/-! ### a call by keywords alone -/
theorem pe_callK0 {X : Cx} {CX : CXT} {k : Nat} {f : Addr} {fd : FuncData} {ps ks : List Str} {sp : Sp} {E : XK} {x : Str} {u1 u2 : Pos} {kws : List Keyword} {tk : TA} {g : List Value → List Value → List Value} {gV : List V → List V → List V}
    (F : FnOk X.prog X.w X.K X.mg X.base CX k f fd ps sp) (hr : Room k X.A) (hg : Gl X x) (hm : X.mg x = some (.ref f)) (hk : PySem.W.keepIn X.K (.ref f) = true) (hb : KBinds X.K fd ps ks g gV) (hx : Passes CX X E) (hkw : PK X kws tk)
    (hall : (backToKw u2 (keywordEach kws X.env)).all (·.1.isSome) = true := by rfl) (hks : (backToKw u2 (keywordEach kws X.env)).filterMap (·.1) = ks := by rfl) (hdb : (x == ("__debug__" : Str)) = false := by decide)
    (hpl : ((backTo u2 (starEach [] X.env)).any (·.1) || (backToKw u2 (keywordEach kws X.env)).any (·.1.isNone)) = false := by rfl) : PE X (.Call (.Name x u1) [] kws u2) (fun σ H Q => tk σ H fun zs G => sp (gV [] zs) G Q E) := by
  refine ⟨fun pins s σ H Q I h => wpAny_Call_Name_kw (ld_glob I hg hm ?_ hdb)⟩
  refine PySem.W.callWith_KW0 (h₀ := X.base) I.ok.mod.kin hk hall (thn (hkw.run u2 pins s σ H _ I h) fun ws t1 ⟨zs, G, J, rz, q⟩ => ⟨J.kIn, ?_⟩) hpl
  rw [hks]
  exact run_fnk (us := []) (vs := []) F hr hb hx J .nil rz q
/-! ### data that stays -/
theorem Same.seqT {K : PySem.W.Frag} {H H' : Hp} {a : Addr} {xs : List V} (e : Same H H') (h : SqT K H a xs) : SqT K H' a xs := by
  rcases h with (h | ⟨o, h⟩) | h
  · exact .inl (.inl (e _ _ h))
  · exact .inl (.inr ⟨o, e _ _ h⟩)
  · exact .inr h
mutual
theorem dp_keep {K : PySem.W.Frag} {H H' : Hp} (s : Same H H') : ∀ {v : V} {d : PyData}, Dp K H v d → Dp K H' v d
  | _, _, .non => .non
  | _, _, .bl b => .bl b
  | _, _, .int i => .int i
  | _, _, .str x => .str x
  | _, _, .lst e a => .lst (Same.seq s e) (dpAll_keep s a)
  | _, _, .tup e a => .tup (Same.seqT s e) (dpAll_keep s a)
theorem dpAll_keep {K : PySem.W.Frag} {H H' : Hp} (s : Same H H') : ∀ {vs : List V} {ds : List PyData}, DpAll K H vs ds → DpAll K H' vs ds
  | _, _, .nil => .nil
  | _, _, .cons a b => .cons (dp_keep s a) (dpAll_keep s b)
end
theorem net_dp {K : PySem.W.Frag} {H : Hp} {a r : Addr} {ts : List Addr} {p : Int} {rs : List Road} (h : NetAt H a r ts p rs) : Dp K H (.ref a) (dNet p rs) := .tup (SqT.of h.1) (.cons (.int p) (.cons (.tup (SqT.of h.2.1) (roads_dp h.2.2)) .nil))
theorem dict_sh {H : Hp} {a : Addr} {kvs : List (PyData × PyData)} (h : DictAt H a kvs) : Sh (.dict kvs) 9000 10 := by
  cases h with
  | nil e => exact ⟨by decide +kernel, by decide +kernel, by decide +kernel⟩
  | one e => exact ⟨by decide +kernel, by decide +kernel, by decide +kernel⟩
theorem DictAt.keep {H H' : Hp} {a : Addr} {kvs : List (PyData × PyData)} (h : DictAt H a kvs) (s : Same H H') : DictAt H' a kvs := by
  cases h with
  | nil e => exact .nil (s _ _ e)
  | one e => exact .one (s _ _ e)
theorem NetAt.same {H H' : Hp} {a r : Addr} {ts : List Addr} {p : Int} {rs : List Road} (h : NetAt H a r ts p rs) (s : Same H H') : NetAt H' a r ts p rs := h.keep fun b xs e => s b _ e
/-- what repr tells of a net and a thing -/
theorem thing_shown {K : PySem.W.Frag} {H : Hp} {v : V} {a r : Addr} {ts : List Addr} {p : Int} {rs : List Road} (h : Thing K H v) (hn : NetAt H a r ts p rs) (ok : NetOk p rs) : ∃ d, Sh d 30000 50 ∧ ∀ (G : Hp) (u : Addr), Same H G → G u = some (.tup [.ref a, v]) → Dr K G (.ref u) d := by
  obtain ⟨o, _, _, h⟩ := h
  have pair : ∀ e, Sh e 9000 10 → Sh (.tuple [dNet p rs, e]) 30000 50 := fun e he => by
    refine (Sh.tuple (n := 11000) (m := 10) (k := 2) (fun d hd => ?_) (Nat.le_refl _)).mono (by decide) (by decide)
    simp only [List.mem_cons, List.not_mem_nil, or_false] at hd
    rcases hd with rfl | rfl
    · exact (Sh.net ok).mono (by decide) (by decide)
    · exact he.mono (by decide) (by decide)
  rcases h with ⟨d, h1, h2⟩ | ⟨b, kvs, rfl, h1⟩
  · exact ⟨.tuple [dNet p rs, d], pair d h2.1, fun G u s e => .dp (.tup (SqT.of e) (.cons (net_dp (hn.same s)) (.cons (dp_keep s h1) .nil)))⟩
  · exact ⟨.tuple [dNet p rs, .dict kvs], pair _ (dict_sh h1), fun G u s e => .dct e (hn.same s) (h1.keep s)⟩
end Wy

namespace Wy
open PySem PySem.Spec PyProof.Rows L2
/-- the law's call from its body at the caller's own surroundings; the script and the table of the law's code are tracked -/
theorem end_call {P : Program} {w : World} {K : PySem.W.Frag} {mg mb : Str → Option Value} {fa a c T : Addr} {st : Shared} {vs : List Value} {ns : List Int}
    (inK : K.In st.heap) (gl : st.heap.Ns mainGlobals mg) (bl : st.heap.Ns builtinsNs mb) (blt : ∀ x : Str, x ≠ "__name__" → mb x = bootBuiltins x) (lim : st.heap.NoLimit) (gen : st.gens = #[])
    (hT : st.heap.get? T = some (PySem.W.tabObj #[])) (nT : K.lookup T = none) (hC : PySem.W.CodeHd st.heap c T)
    (bmod : ∃ (bm : Addr) (ob : Obj), mg "__builtins__" = some (.ref bm) ∧ bm ≠ builtinsNs ∧ st.heap.get? bm = some ob ∧ ob.cls = .type "module" ∧ ob.dict = some builtinsNs ∧ ob.data = .plain)
    (ha : st.heap.get? a = some { cls := .type "list", data := .seq vs.toArray }) (hi : IntsAre vs ns) (hl : ns.length ≤ sizeLine)
    (F : ∀ (base : Heap) (H : Hp), LamX.TabB base mg c T → H T = some (.tbl #[]) → SqL K H a (ns.map V.int) → Env0 P w K mg base callerA [] st H →
      codeAny (model P w) callerA (.call (.ref fa) ⟨[.ref a], []⟩) (CR CX0 [] P w H st (fun v _ => v = .bl true) E0) st) :
    codeAny (model P w) callerA (.call (.ref fa) ⟨[.ref a], []⟩) (fun r t => r = .ok (.ret (.bool true)) ∧ OldK st.heap t.heap ∧ t.os = st.os ∧ AllBare t.gens) st := by
  have vals := vals_ints hi
  have nvs := hi.length
  have aT : a ≠ T := fun z => by
    rw [z, hT] at ha
    have q := congrArg Obj.data (Option.some.inj ha)
    cases q
  obtain ⟨so, hso⟩ : ∃ so : Obj, so = { cls := .type "list", data := .seq vs.toArray } := ⟨_, rfl⟩
  rw [← hso] at ha
  obtain ⟨H, hH⟩ : ∃ H : Hp, H = fun b => if b = T then some (.tbl #[]) else if b = a ∧ K.lookup a = none then some (.frz so (.lst (ns.map V.int))) else none := ⟨_, rfl⟩
  have atT : H T = some (.tbl #[]) := by
    rw [hH]
    exact if_pos rfl
  have cases2 : ∀ b u, H b = some u → (b = T ∧ u = .tbl #[]) ∨ (b = a ∧ K.lookup a = none ∧ u = .frz so (.lst (ns.map V.int))) := fun b u e => by
    rw [hH] at e
    by_cases h1 : b = T
    · exact .inl ⟨h1, (Option.some.inj ((if_pos h1).symm.trans e)).symm⟩
    · have e := (if_neg h1).symm.trans e
      by_cases h2 : b = a ∧ K.lookup a = none
      · exact .inr ⟨h2.1, h2.2, (Option.some.inj ((if_pos h2).symm.trans e)).symm⟩
      · exact nomatch (if_neg h2).symm.trans e
  have lsOk : ObjOk P w H st.heap a (.lst (ns.map V.int)) := by
    exact ⟨by rw [List.length_map]; exact hl, vs, _, vals, (hso ▸ ha : st.heap.get? a = some { cls := .type "list", data := .seq vs.toArray })⟩
  have hok : HOk P w H st.heap := fun b u e => by
    rcases cases2 b u e with ⟨rfl, rfl⟩ | ⟨rfl, _, rfl⟩
    · exact hT
    · exact ⟨ha, lsOk⟩
  have apart : ∀ {b : Addr} {o : Obj}, st.heap.get? b = some o → (∀ x n, o.data ≠ .seq x n) → o.data ≠ .fields #[] → H b = none := fun {b o} e n1 n2 => by
    cases q : H b with
    | none => rfl
    | some u =>
      rcases cases2 b u q with ⟨rfl, _⟩ | ⟨rfl, _, _⟩
      · rw [hT] at e
        cases e
        exact absurd rfl n2
      · rw [ha, hso] at e
        cases e
        exact absurd rfl (n1 _ _)
  have nsB : ∀ {b : Addr} {m : Str → Option Value}, st.heap.Ns b m → (hidT st.heap H).Ns b m := fun {b m} ⟨o, es, ep, e, d, r⟩ =>
    ⟨o, es, ep, hidT_get e (apart e (fun x n z => nomatch d.symm.trans z) fun z => nomatch d.symm.trans z), d, r⟩
  have inB : K.In (hidT st.heap H) := fun b o e => hidT_get (inK b o e) (by
    cases q : H b with
    | none => rfl
    | some u =>
      rcases cases2 b u q with ⟨rfl, _⟩ | ⟨rfl, n, _⟩
      · exact nomatch nT.symm.trans e
      · exact nomatch n.symm.trans e)
  have md : L2.Mod K mg (hidT st.heap H) := ⟨inB, nsB gl, ⟨mb, nsB bl, blt⟩, let ⟨mc, q1, q2⟩ := lim; ⟨mc, nsB q1, q2⟩⟩
  have tb : LamX.TabB (hidT st.heap H) mg c T := by
    refine ⟨?_, ?_, fun z => ?_⟩
    · obtain ⟨o, us, file, tf, flags, tg, inF, text, tt, e1, k1, k2, k3, kr⟩ := hC
      refine ⟨o, us, file, tf, flags, tg, inF, text, tt, hidT_get e1 (apart e1 (fun x n z => nomatch k2.symm.trans z) fun z => ?_), k1, k2, k3, kr⟩
      have q : Data.fields us = Data.fields #[] := k2.symm.trans z
      cases q
      simp at k3
    · obtain ⟨bm, ob, b1, b2, b3, b4, b5, b6⟩ := bmod
      refine ⟨bm, ob, b1, b2, fun q => ?_, fun q => ?_, hidT_get b3 (apart b3 (fun x n z => nomatch b6.symm.trans z) fun z => nomatch b6.symm.trans z), b4, b5, b6⟩
      · obtain ⟨o, es, ep, e, d, _⟩ := gl
        rw [q, e] at b3
        cases b3
        exact nomatch d.symm.trans b6
      · rw [q, hT] at b3
        cases b3
        cases b6
    · obtain ⟨o, es, ep, e, d, _⟩ := gl
      rw [z, hT] at e
      cases e
      cases d
  have sq : SqL K H a (ns.map V.int) := by
    cases q : K.lookup a with
    | some o =>
      have e := (inK a o q).symm.trans ha
      rw [hso] at e
      cases e
      exact .inr ⟨_, vs.toArray, _, q, rfl, rfl, rfl, by rw [List.size_toArray, nvs]; exact hl, by simpa using vals⟩
    | none =>
      refine .inl (.inr ⟨so, ?_⟩)
      rw [hH]
      exact (if_neg aT).trans (if_pos ⟨rfl, q⟩)
  have env : Env0 P w K mg (hidT st.heap H) callerA [] st H := ⟨rfl, md, fun b o e => of_hidT e, Nat.le_of_eq (hidT_size _ _), trivial, (fun b z => nomatch (show b ∈ ([] : List Addr) from z)), hok, .of_eq gen⟩
  refine codeAny_mono (F _ H tb atT sq env) fun r t h => ?_
  cases r with
  | error e => exact (show False from h).elim
  | ok fl =>
    cases fl with
    | next => exact (show False from h).elim
    | brk => exact (show False from h).elim
    | cont => exact (show False from h).elim
    | ret u =>
      obtain ⟨v, G, os, bare, un, okG, rv, q⟩ := h
      obtain rfl : v = .bl true := q
      obtain rfl : u = Value.bool true := rv
      have stays : ∀ b o, b ≠ T → st.heap.get? b = some o → t.heap.get? b = some o := fun b o nb e => by
        cases q : H b with
        | none => exact un.keep b o e q (fun z => nomatch (show b ∈ ([] : List Addr) from z)) (by simp)
        | some u =>
          rcases cases2 b u q with ⟨z, _⟩ | ⟨rfl, _, rfl⟩
          · exact absurd z nb
          · obtain ⟨e2, _⟩ := okG b _ (un.frzs b so _ q)
            rw [ha] at e
            cases e
            exact e2
      obtain ⟨more, hm⟩ := un.tbls T #[] atT
      have atG : t.heap.get? T = some { cls := .none, data := .fields (#[] ++ more) } := okG T _ hm
      refine ⟨rfl, ⟨fun b o e => ?_, fun b o e => ?_⟩, os, bare⟩
      · by_cases hb : b = T
        · subst hb
          rw [hT] at e
          cases e
          exact .inr (.inl ⟨(hC.tab hT).isCodeTable, rfl, #[], more, rfl, atG⟩)
        · exact .inl (stays b o hb e)
      · by_cases hb : b = T
        · rw [hb]
          exact ⟨_, atG⟩
        · exact ⟨o, stays b o hb e⟩
/-- what the law's def does from its place in the written part -/
def Runs (P : Program) (w : World) (K : PySem.W.Frag) (mg : Str → Option Value) (c T fa : Addr) : Prop := ∀ (base : Heap) (H : Hp) (s : Shared) (a : Addr) (ns : List Int), LamX.TabB base mg c T → H T = some (.tbl #[]) → SqL K H a (ns.map V.int) → Env0 P w K mg base callerA [] s H →
  codeAny (model P w) callerA (.call (.ref fa) ⟨[.ref a], []⟩) (CR CX0 [] P w H s (fun v _ => v = .bl true) E0) s
theorem walk_end {l : PySem.W.OpenLaw} {n : Nat} {q : Program} {loose : List Str} {XP : (Str → Option Value) → Heap → Prop} {YP : World → Heap → Prop} {d : DefRec} {K : Params → PySem.W.Frag} {T : Addr}
    (most : l.most = some n) (most2 : n ≤ sizeLine) (dflt : d.params.defaults = []) (inK : ∀ (w : World) (h : Heap), YP w h → (K w.params).In h) (tab : ∀ (w : World) (h : Heap), YP w h → h.get? T = some (PySem.W.tabObj #[]))
    (F : ∀ (w : World) (mg : Str → Option Value) (fa : Addr) (h : Heap), (K w.params).In h → h.Ns mainGlobals mg → mg d.name = some (.ref fa) → (K w.params).lookup T = none ∧ ∃ c, PySem.W.codeHdIn (K w.params) c T = true ∧ Runs l.prog w (K w.params) mg c T fa) :
    PySem.W.WalkO q loose XP YP l.row.toRowW d [] (fun f vs => PySem.call f vs) := by
  refine Att.attach_call most dflt fun w s0 st mg mb fa o pm cd doc a vs ns G Y ho hd hcd hmg hobj hints hlen hg => ?_
  have KX := inK w _ Y
  obtain ⟨nT, c, hc, run⟩ := F w mg fa _ KX G.T.g hmg
  exact end_call KX G.T.g G.T.b G.T.builtins G.T.nolimit hg (tab w _ Y) nT (PySem.W.codeHd_of_K KX hc) G.T.bmain hobj hints (Nat.le_trans hlen most2) fun base H tb hT sq env => run base H st a ns tb hT sq env
end Wy

namespace Wy
open PySem PySem.Spec PyProof.Rows L2
abbrev sMarks : Stmt := topS 49
abbrev sWord : Stmt := topS 50
abbrev sSaid : Stmt := topS 51
/-- the classes of refusals: C i the i-th of the law's list; what isinstance tells of errors of some of them -/
structure Cl (K : PySem.W.Frag) (mg : Str → Option Value) (C : Nat → Addr) (cT cN cW : Addr) : Prop where
  g0 : mg "NoNet" = some (.ref (C 0))
  g1 : mg "NoPlace" = some (.ref (C 1))
  g2 : mg "NoRoad" = some (.ref (C 2))
  g3 : mg "NoMany" = some (.ref (C 3))
  g4 : mg "NoShut" = some (.ref (C 4))
  g5 : mg "NoCost" = some (.ref (C 5))
  g6 : mg "NoNumber" = some (.ref (C 6))
  g7 : mg "NoWay" = some (.ref (C 7))
  g8 : mg "NoWord" = some (.ref (C 8))
  g9 : mg "NoTime" = some (.ref (C 9))
  g10 : mg "NoChange" = some (.ref (C 10))
  g11 : mg "NoPaper" = some (.ref (C 11))
  g12 : mg "NoLine" = some (.ref (C 12))
  g13 : mg "NoText" = some (.ref (C 13))
  g14 : mg "NoAsk" = some (.ref (C 14))
  g15 : mg "Nothing" = some (.ref (C 15))
  g16 : mg "TooMany" = some (.ref (C 16))
  c1 : ExcC K (C 1)
  k1_0 : PySem.W.kitOne K (.ref (C 1)) (.ref (C 0)) = some false
  k1_1 : PySem.W.kitOne K (.ref (C 1)) (.ref (C 1)) = some true
  k1_2 : PySem.W.kitOne K (.ref (C 1)) (.ref (C 2)) = some false
  k1_3 : PySem.W.kitOne K (.ref (C 1)) (.ref (C 3)) = some false
  k1_4 : PySem.W.kitOne K (.ref (C 1)) (.ref (C 4)) = some false
  k1_5 : PySem.W.kitOne K (.ref (C 1)) (.ref (C 5)) = some false
  k1_6 : PySem.W.kitOne K (.ref (C 1)) (.ref (C 6)) = some false
  k1_7 : PySem.W.kitOne K (.ref (C 1)) (.ref (C 7)) = some false
  k1_8 : PySem.W.kitOne K (.ref (C 1)) (.ref (C 8)) = some false
  k1_9 : PySem.W.kitOne K (.ref (C 1)) (.ref (C 9)) = some false
  k1_10 : PySem.W.kitOne K (.ref (C 1)) (.ref (C 10)) = some false
  k1_11 : PySem.W.kitOne K (.ref (C 1)) (.ref (C 11)) = some false
  k1_12 : PySem.W.kitOne K (.ref (C 1)) (.ref (C 12)) = some false
  k1_13 : PySem.W.kitOne K (.ref (C 1)) (.ref (C 13)) = some false
  k1_14 : PySem.W.kitOne K (.ref (C 1)) (.ref (C 14)) = some false
  k1_15 : PySem.W.kitOne K (.ref (C 1)) (.ref (C 15)) = some false
  k1_16 : PySem.W.kitOne K (.ref (C 1)) (.ref (C 16)) = some false
  kT1 : PySem.W.kitOne K (.ref (C 1)) (.ref cT) = some true
  kN1 : PySem.W.kitOne K (.ref (C 1)) (.ref cN) = some false
  kV1 : PySem.W.kitOne K (.ref (C 1)) (.type "ValueError") = some true
  eW1 : PySem.W.exmOne K (.ref (C 1)) (.ref cW) = some true
  c4 : ExcC K (C 4)
  k4_0 : PySem.W.kitOne K (.ref (C 4)) (.ref (C 0)) = some false
  k4_1 : PySem.W.kitOne K (.ref (C 4)) (.ref (C 1)) = some false
  k4_2 : PySem.W.kitOne K (.ref (C 4)) (.ref (C 2)) = some false
  k4_3 : PySem.W.kitOne K (.ref (C 4)) (.ref (C 3)) = some false
  k4_4 : PySem.W.kitOne K (.ref (C 4)) (.ref (C 4)) = some true
  k4_5 : PySem.W.kitOne K (.ref (C 4)) (.ref (C 5)) = some false
  k4_6 : PySem.W.kitOne K (.ref (C 4)) (.ref (C 6)) = some false
  k4_7 : PySem.W.kitOne K (.ref (C 4)) (.ref (C 7)) = some false
  k4_8 : PySem.W.kitOne K (.ref (C 4)) (.ref (C 8)) = some false
  k4_9 : PySem.W.kitOne K (.ref (C 4)) (.ref (C 9)) = some false
  k4_10 : PySem.W.kitOne K (.ref (C 4)) (.ref (C 10)) = some false
  k4_11 : PySem.W.kitOne K (.ref (C 4)) (.ref (C 11)) = some false
  k4_12 : PySem.W.kitOne K (.ref (C 4)) (.ref (C 12)) = some false
  k4_13 : PySem.W.kitOne K (.ref (C 4)) (.ref (C 13)) = some false
  k4_14 : PySem.W.kitOne K (.ref (C 4)) (.ref (C 14)) = some false
  k4_15 : PySem.W.kitOne K (.ref (C 4)) (.ref (C 15)) = some false
  k4_16 : PySem.W.kitOne K (.ref (C 4)) (.ref (C 16)) = some false
  kT4 : PySem.W.kitOne K (.ref (C 4)) (.ref cT) = some true
  kN4 : PySem.W.kitOne K (.ref (C 4)) (.ref cN) = some false
  kV4 : PySem.W.kitOne K (.ref (C 4)) (.type "ValueError") = some true
  eW4 : PySem.W.exmOne K (.ref (C 4)) (.ref cW) = some true
  gT : mg "NoThing" = some (.ref cT)
  gN : mg "NotNow" = some (.ref cN)
  gW : mg "WayError" = some (.ref cW)
theorem scMarks : FnScope ["_law_e", "_law_marks_here"] ["_law_e"] (defScope sMarks) := ⟨rfl, rfl, rfl, by decide +kernel, rfl, by decide +kernel, by decide +kernel⟩
theorem scWord : FnScope ["_law_e", "_law_marks_here", "_law_at", "_law_words_here", "_law_word_here"] ["_law_e"] (defScope sWord) := ⟨rfl, rfl, rfl, by decide +kernel, rfl, by decide +kernel, by decide +kernel⟩
def marksOf (m : Nat) : List V := (List.range 17).map fun i => .bl (i == m)
def wordOf (m : Nat) : Str := (["net", "place", "road", "many", "shut", "cost", "number", "way", "word", "time", "change", "paper", "line"] : List Str).getD m ""
def spMarks (m : Nat) : Addr → List V → Hp → VK → Prop := fun a vs H Q => vs = [.ref a] ∧ ∀ H' l, Same H H' → H' l = some (.lst (marksOf m)) → Q (.ref l) H'
def spWord (m : Nat) : Addr → List V → Hp → VK → Prop := fun a vs H Q => vs = [.ref a] ∧ ∀ H' t, Same H H' → H' t = some (.tup [.str (wordOf m)]) → Q (.ref t) H'
section
variable {P : Program} {w : World} {K : PySem.W.Frag} {mg : Str → Option Value} {base : Heap} {C : Nat → Addr} {cT cN cW : Addr}
theorem ok_marks1 {f : Addr} {fd : FuncData} {k : Nat} (Z : Cl K mg C cT cN cW) (mi : mg "isinstance" = none) (D : Df K mg "_law_marks" sMarks ["_law_e"] f fd) : FnE P w K mg base (k + 1) f fd ["_law_e"] (C 1) (spMarks 1) := by
  refine fnE_of D.F scMarks (fun a vs H Q h => ?_) (fun cdv A outer s H vs Q p hr hz h => ?_)
  · obtain ⟨rfl, _⟩ := h
    rfl
  · obtain ⟨rfl, q⟩ := h
    have hp : ∀ {G : Value → Shared → Prop}, p ∈ ((L2H.cxH CX0 P w K mg base ["_law_e", "_law_marks_here"] "_law_marks" (defScope sMarks) f cdv A outer s H E0 p).wish G).pn := List.mem_singleton.mpr rfl
    obtain ⟨a, oe⟩ := p
    refine ⟨_, (pss_cons (ps_set (i := 1) scMarks.nd rfl (.inl rfl) (pe_lst (pa_cons (pe_callB (call_isP Z.c1 hp hz) (by rfl) mi (by decide +kernel) (pa_cons (pv 0) (pa_cons (pe_glob (v := .ref (C 0)) (by rfl) Z.g0 rfl) pa_nil))) (pa_cons (pe_callB (call_isP Z.c1 hp hz) (by rfl) mi (by decide +kernel) (pa_cons (pv 0) (pa_cons (pe_glob (v := .ref (C 1)) (by rfl) Z.g1 rfl) pa_nil))) (pa_cons (pe_callB (call_isP Z.c1 hp hz) (by rfl) mi (by decide +kernel) (pa_cons (pv 0) (pa_cons (pe_glob (v := .ref (C 2)) (by rfl) Z.g2 rfl) pa_nil))) (pa_cons (pe_callB (call_isP Z.c1 hp hz) (by rfl) mi (by decide +kernel) (pa_cons (pv 0) (pa_cons (pe_glob (v := .ref (C 3)) (by rfl) Z.g3 rfl) pa_nil))) pa_nil))))))
    (pss_cons (ps_set (i := 1) scMarks.nd rfl (.inl rfl) (pe_op op_cat (pv 1) (pe_lst (pa_cons (pe_callB (call_isP Z.c1 hp hz) (by rfl) mi (by decide +kernel) (pa_cons (pv 0) (pa_cons (pe_glob (v := .ref (C 4)) (by rfl) Z.g4 rfl) pa_nil))) (pa_cons (pe_callB (call_isP Z.c1 hp hz) (by rfl) mi (by decide +kernel) (pa_cons (pv 0) (pa_cons (pe_glob (v := .ref (C 5)) (by rfl) Z.g5 rfl) pa_nil))) (pa_cons (pe_callB (call_isP Z.c1 hp hz) (by rfl) mi (by decide +kernel) (pa_cons (pv 0) (pa_cons (pe_glob (v := .ref (C 6)) (by rfl) Z.g6 rfl) pa_nil))) (pa_cons (pe_callB (call_isP Z.c1 hp hz) (by rfl) mi (by decide +kernel) (pa_cons (pv 0) (pa_cons (pe_glob (v := .ref (C 7)) (by rfl) Z.g7 rfl) pa_nil))) pa_nil)))))))
    (pss_cons (ps_set (i := 1) scMarks.nd rfl (.inl rfl) (pe_op op_cat (pv 1) (pe_lst (pa_cons (pe_callB (call_isP Z.c1 hp hz) (by rfl) mi (by decide +kernel) (pa_cons (pv 0) (pa_cons (pe_glob (v := .ref (C 8)) (by rfl) Z.g8 rfl) pa_nil))) (pa_cons (pe_callB (call_isP Z.c1 hp hz) (by rfl) mi (by decide +kernel) (pa_cons (pv 0) (pa_cons (pe_glob (v := .ref (C 9)) (by rfl) Z.g9 rfl) pa_nil))) (pa_cons (pe_callB (call_isP Z.c1 hp hz) (by rfl) mi (by decide +kernel) (pa_cons (pv 0) (pa_cons (pe_glob (v := .ref (C 10)) (by rfl) Z.g10 rfl) pa_nil))) (pa_cons (pe_callB (call_isP Z.c1 hp hz) (by rfl) mi (by decide +kernel) (pa_cons (pv 0) (pa_cons (pe_glob (v := .ref (C 11)) (by rfl) Z.g11 rfl) pa_nil))) pa_nil)))))))
    (pss_cons (ps_set (i := 1) scMarks.nd rfl (.inl rfl) (pe_op op_cat (pv 1) (pe_lst (pa_cons (pe_callB (call_isP Z.c1 hp hz) (by rfl) mi (by decide +kernel) (pa_cons (pv 0) (pa_cons (pe_glob (v := .ref (C 12)) (by rfl) Z.g12 rfl) pa_nil))) (pa_cons (pe_callB (call_isP Z.c1 hp hz) (by rfl) mi (by decide +kernel) (pa_cons (pv 0) (pa_cons (pe_glob (v := .ref (C 13)) (by rfl) Z.g13 rfl) pa_nil))) (pa_cons (pe_callB (call_isP Z.c1 hp hz) (by rfl) mi (by decide +kernel) (pa_cons (pv 0) (pa_cons (pe_glob (v := .ref (C 14)) (by rfl) Z.g14 rfl) pa_nil))) (pa_cons (pe_callB (call_isP Z.c1 hp hz) (by rfl) mi (by decide +kernel) (pa_cons (pv 0) (pa_cons (pe_glob (v := .ref (C 15)) (by rfl) Z.g15 rfl) pa_nil))) pa_nil)))))))
    (pss_one (ps_ret (pe_op op_cat (pv 1) (pe_lst (pa_cons (pe_callB (call_isP Z.c1 hp hz) (by rfl) mi (by decide +kernel) (pa_cons (pv 0) (pa_cons (pe_glob (v := .ref (C 16)) (by rfl) Z.g16 rfl) pa_nil))) pa_nil))))))))), ?_⟩
    refine ⟨.ref a, rfl, .ref (C 0), .ref (C 0), _, rfl, (fun u r => r), Z.k1_0, .ref a, rfl, .ref (C 1), .ref (C 1), _, rfl, (fun u r => r), Z.k1_1, .ref a, rfl, .ref (C 2), .ref (C 2), _, rfl, (fun u r => r), Z.k1_2, .ref a, rfl, .ref (C 3), .ref (C 3), _, rfl, (fun u r => r), Z.k1_3, by show 4 ≤ sizeLine; decide, fun l1 n1 => ?_⟩
    refine ⟨.ref l1, rfl, .ref a, rfl, .ref (C 4), .ref (C 4), _, rfl, (fun u r => r), Z.k1_4, .ref a, rfl, .ref (C 5), .ref (C 5), _, rfl, (fun u r => r), Z.k1_5, .ref a, rfl, .ref (C 6), .ref (C 6), _, rfl, (fun u r => r), Z.k1_6, .ref a, rfl, .ref (C 7), .ref (C 7), _, rfl, (fun u r => r), Z.k1_7, by show 4 ≤ sizeLine; decide, fun l2 n2 => ⟨l1, l2, _, _, rfl, rfl, same_new n2 _ _ upd_same, upd_same, by show 8 ≤ sizeLine; decide, fun l3 n3 => ?_⟩⟩
    refine ⟨.ref l3, rfl, .ref a, rfl, .ref (C 8), .ref (C 8), _, rfl, (fun u r => r), Z.k1_8, .ref a, rfl, .ref (C 9), .ref (C 9), _, rfl, (fun u r => r), Z.k1_9, .ref a, rfl, .ref (C 10), .ref (C 10), _, rfl, (fun u r => r), Z.k1_10, .ref a, rfl, .ref (C 11), .ref (C 11), _, rfl, (fun u r => r), Z.k1_11, by show 4 ≤ sizeLine; decide, fun l4 n4 => ⟨l3, l4, _, _, rfl, rfl, same_new n4 _ _ upd_same, upd_same, by show 12 ≤ sizeLine; decide, fun l5 n5 => ?_⟩⟩
    refine ⟨.ref l5, rfl, .ref a, rfl, .ref (C 12), .ref (C 12), _, rfl, (fun u r => r), Z.k1_12, .ref a, rfl, .ref (C 13), .ref (C 13), _, rfl, (fun u r => r), Z.k1_13, .ref a, rfl, .ref (C 14), .ref (C 14), _, rfl, (fun u r => r), Z.k1_14, .ref a, rfl, .ref (C 15), .ref (C 15), _, rfl, (fun u r => r), Z.k1_15, by show 4 ≤ sizeLine; decide, fun l6 n6 => ⟨l5, l6, _, _, rfl, rfl, same_new n6 _ _ upd_same, upd_same, by show 16 ≤ sizeLine; decide, fun l7 n7 => ?_⟩⟩
    refine ⟨.ref l7, rfl, .ref a, rfl, .ref (C 16), .ref (C 16), _, rfl, (fun u r => r), Z.k1_16, by show 1 ≤ sizeLine; decide, fun l8 n8 => ⟨l7, l8, _, _, rfl, rfl, same_new n8 _ _ upd_same, upd_same, by show 17 ≤ sizeLine; decide, fun l9 n9 => ?_⟩⟩
    refine q _ l9 (fun b o e => ?_) upd_same
    exact same_new n9 _ _ (same_new n8 _ _ (same_new n7 _ _ (same_new n6 _ _ (same_new n5 _ _ (same_new n4 _ _ (same_new n3 _ _ (same_new n2 _ _ (same_new n1 _ _ e))))))))
theorem ok_word1 {f fM : Addr} {fd dM : FuncData} {k : Nat} (Z : Cl K mg C cT cN cW) (mi : mg "isinstance" = none) (mV : mg "ValueError" = none) (DM : Df K mg "_law_marks" sMarks ["_law_e"] fM dM) (D : Df K mg "_law_word" sWord ["_law_e"] f fd) : FnE P w K mg base (k + 2) f fd ["_law_e"] (C 1) (spWord 1) := by
  have GM : FnE P w K mg base (k + 1) fM dM ["_law_e"] (C 1) (spMarks 1) := ok_marks1 Z mi DM
  refine fnE_of D.F scWord (fun a vs H Q h => ?_) (fun cdv A outer s H vs Q p hr hz h => ?_)
  · obtain ⟨rfl, _⟩ := h
    rfl
  · obtain ⟨rfl, q⟩ := h
    have hp : ∀ {G : Value → Shared → Prop}, p ∈ ((L2H.cxH CX0 P w K mg base ["_law_e", "_law_marks_here", "_law_at", "_law_words_here", "_law_word_here"] "_law_word" (defScope sWord) f cdv A outer s H E0 p).wish G).pn := List.mem_singleton.mpr rfl
    have hu : (A.deeper (envOfC "_law_word" (defScope sWord) s.heap.objs.size f cdv)).units + 64 < cLine := by
      have := hr.un
      omega
    obtain ⟨a, oe⟩ := p
    refine ⟨_, (pss_cons (ps_set (i := 1) scWord.nd rfl (.inl rfl) (pe_callE GM hr hp hz (by rfl) DM.g DM.F.kp DM.b (pa_cons (pv 0) pa_nil)))
    (pss_cons (ps_if (PW.pt (pw_or (pt_cmpR op_ne (pe_bm PySem.F.plainAttrs_list PySem.F.slot_list_count PySem.F.type_list_count mt_countV (pv 1) (pa_cons pe_bl pa_nil)) pe_int (nomark _)) (pw_or1 (pt_not (pt_val (pe_callB (call_isP Z.c1 hp hz) (by rfl) mi (by decide +kernel) (pa_cons (pv 0) (pa_cons (pe_bltn (v := .ty "ValueError") (by rfl) mV (by decide +kernel) rfl) pa_nil)))))))) pss_never pss_nil)
    (pss_cons (ps_set (i := 2) scWord.nd rfl (.inl rfl) (pe_bm PySem.F.plainAttrs_list PySem.F.slot_list_index PySem.F.type_list_index mt_index (pv 1) (pa_cons pe_bl pa_nil)))
    (pss_cons (ps_if (pt_cmpR (op_neD hu) (pe_lst (pa_cons (pe_callB (call_isP Z.c1 hp hz) (by rfl) mi (by decide +kernel) (pa_cons (pv 0) (pa_cons (pe_glob (v := .ref cT) (by rfl) Z.gT rfl) pa_nil))) (pa_cons (pe_callB (call_isP Z.c1 hp hz) (by rfl) mi (by decide +kernel) (pa_cons (pv 0) (pa_cons (pe_glob (v := .ref cN) (by rfl) Z.gN rfl) pa_nil))) pa_nil))) (pe_lst (pa_cons (pe_cmpR op_lt (pv 2) pe_int (nomark _)) (pa_cons (pe_cmpR op_gt (pv 2) pe_int (nomark _)) pa_nil))) (nomark _)) pss_never pss_nil)
    (pss_cons (ps_set (i := 3) scWord.nd rfl (.inl rfl) (pe_lst (pa_cons pe_str (pa_cons pe_str (pa_cons pe_str (pa_cons pe_str (pa_cons pe_str (pa_cons pe_str (pa_cons pe_str (pa_cons pe_str (pa_cons pe_str (pa_cons pe_str (pa_cons pe_str (pa_cons pe_str (pa_cons pe_str pa_nil)))))))))))))))
    (pss_cons (ps_set (i := 4) scWord.nd rfl (.inl rfl) (pe_ix ix_list (pe_op op_cat (pv 3) (pe_lst (pa_cons pe_str (pa_cons pe_str (pa_cons pe_str (pa_cons pe_str pa_nil)))))) (pv 2) (fun _ _ => rfl)))
    (pss_cons (ps_if (pt_cmpR op_eq (pv 4) pe_str (nomark _)) pss_never pss_nil)
    (pss_cons (ps_if (pt_cmpR op_eq (pv 4) pe_str (nomark _)) pss_never pss_nil)
    (pss_one (ps_ret (pe_ifExp (pt_cmpR op_eq (pv 4) pe_str (nomark _)) pe_no (pe_tup (pa_cons (pv 4) pa_nil))))))))))))), ?_⟩
    refine ⟨.ref a, rfl, rfl, fun H1 l1 s1 e1 => ?_⟩
    refine ⟨.ref l1, rfl, .inl ⟨rfl, _, SqL.of e1⟩, l1, _, .bl true, rfl, rfl, SqL.of e1, rfl, rfl, rfl, _, rfl, iteF ?_⟩
    refine ⟨.ref a, rfl, .ty "ValueError", .type "ValueError", _, rfl, (fun u r => r), Z.kV1, _, rfl, iteF ?_⟩
    refine ⟨.ref l1, rfl, .inl ⟨rfl, _, SqL.of e1⟩, l1, _, .bl true, 1, .bl true, rfl, rfl, SqL.of e1, rfl, rfl, rfl, rfl, fun j z' hm hz' => ?_, ?_⟩
    · match j, hm with
      | 0, _ => cases hz'; rfl
      | n + 1, h => exact absurd h (by omega)
    · refine ⟨.ref a, rfl, .ref cT, .ref cT, _, rfl, (fun u r => r), Z.kT1, .ref a, rfl, .ref cN, .ref cN, _, rfl, (fun u r => r), Z.kN1, by show 2 ≤ sizeLine; decide, fun l2 n2 => ?_⟩
      refine ⟨.int (1 : Nat), rfl, _, _, rfl, rfl, .int (1 : Nat), rfl, _, _, rfl, rfl, by show 2 ≤ sizeLine; decide, fun l3 n3 => ?_⟩
      refine ⟨.list [.bool true, .bool false], .list [.bool true, .bool false], .lst (SqL.of (same_new n3 _ _ upd_same)) (.cons (.bl true) (.cons (.bl false) .nil)), .lst (SqL.of upd_same) (.cons (.bl true) (.cons (.bl false) .nil)), by decide +kernel, by decide +kernel, _, rfl, ?_⟩
      rw [show PyData.eqv (.list [.bool true, .bool false]) (.list [.bool true, .bool false]) = true from by decide +kernel]
      refine iteF ?_
      refine ⟨by show 13 ≤ sizeLine; decide, fun l4 n4 => ?_⟩
      refine ⟨.ref l4, rfl, by show 4 ≤ sizeLine; decide, fun l5 n5 => ⟨l4, l5, _, _, rfl, rfl, same_new n5 _ _ upd_same, upd_same, by show 17 ≤ sizeLine; decide, fun l6 n6 => ?_⟩⟩
      refine ⟨.int (1 : Nat), rfl, l6, _, (1 : Nat), .str "place", rfl, rfl, SqL.of upd_same, rfl, ?_⟩
      refine ⟨.str "place", rfl, rfl, _, rfl, ?_⟩
      rw [show decide (V.str (Str.ofString "place") = V.str (Str.ofString "text")) = false from by decide +kernel]
      refine iteF ⟨.str "place", rfl, rfl, _, rfl, ?_⟩
      rw [show decide (V.str (Str.ofString "place") = V.str (Str.ofString "ask")) = false from by decide +kernel]
      refine iteF ⟨.str "place", rfl, rfl, _, rfl, ?_⟩
      rw [show decide (V.str (Str.ofString "place") = V.str (Str.ofString "more")) = false from by decide +kernel]
      refine iteF ⟨.str "place", rfl, by show 1 ≤ sizeLine; decide, fun t nt => ?_⟩
      refine q _ t (fun b o e => ?_) upd_same
      exact same_new nt _ _ (same_new n6 _ _ (same_new n5 _ _ (same_new n4 _ _ (same_new n3 _ _ (same_new n2 _ _ (s1 _ _ e))))))
theorem ok_marks4 {f : Addr} {fd : FuncData} {k : Nat} (Z : Cl K mg C cT cN cW) (mi : mg "isinstance" = none) (D : Df K mg "_law_marks" sMarks ["_law_e"] f fd) : FnE P w K mg base (k + 1) f fd ["_law_e"] (C 4) (spMarks 4) := by
  refine fnE_of D.F scMarks (fun a vs H Q h => ?_) (fun cdv A outer s H vs Q p hr hz h => ?_)
  · obtain ⟨rfl, _⟩ := h
    rfl
  · obtain ⟨rfl, q⟩ := h
    have hp : ∀ {G : Value → Shared → Prop}, p ∈ ((L2H.cxH CX0 P w K mg base ["_law_e", "_law_marks_here"] "_law_marks" (defScope sMarks) f cdv A outer s H E0 p).wish G).pn := List.mem_singleton.mpr rfl
    obtain ⟨a, oe⟩ := p
    refine ⟨_, (pss_cons (ps_set (i := 1) scMarks.nd rfl (.inl rfl) (pe_lst (pa_cons (pe_callB (call_isP Z.c4 hp hz) (by rfl) mi (by decide +kernel) (pa_cons (pv 0) (pa_cons (pe_glob (v := .ref (C 0)) (by rfl) Z.g0 rfl) pa_nil))) (pa_cons (pe_callB (call_isP Z.c4 hp hz) (by rfl) mi (by decide +kernel) (pa_cons (pv 0) (pa_cons (pe_glob (v := .ref (C 1)) (by rfl) Z.g1 rfl) pa_nil))) (pa_cons (pe_callB (call_isP Z.c4 hp hz) (by rfl) mi (by decide +kernel) (pa_cons (pv 0) (pa_cons (pe_glob (v := .ref (C 2)) (by rfl) Z.g2 rfl) pa_nil))) (pa_cons (pe_callB (call_isP Z.c4 hp hz) (by rfl) mi (by decide +kernel) (pa_cons (pv 0) (pa_cons (pe_glob (v := .ref (C 3)) (by rfl) Z.g3 rfl) pa_nil))) pa_nil))))))
    (pss_cons (ps_set (i := 1) scMarks.nd rfl (.inl rfl) (pe_op op_cat (pv 1) (pe_lst (pa_cons (pe_callB (call_isP Z.c4 hp hz) (by rfl) mi (by decide +kernel) (pa_cons (pv 0) (pa_cons (pe_glob (v := .ref (C 4)) (by rfl) Z.g4 rfl) pa_nil))) (pa_cons (pe_callB (call_isP Z.c4 hp hz) (by rfl) mi (by decide +kernel) (pa_cons (pv 0) (pa_cons (pe_glob (v := .ref (C 5)) (by rfl) Z.g5 rfl) pa_nil))) (pa_cons (pe_callB (call_isP Z.c4 hp hz) (by rfl) mi (by decide +kernel) (pa_cons (pv 0) (pa_cons (pe_glob (v := .ref (C 6)) (by rfl) Z.g6 rfl) pa_nil))) (pa_cons (pe_callB (call_isP Z.c4 hp hz) (by rfl) mi (by decide +kernel) (pa_cons (pv 0) (pa_cons (pe_glob (v := .ref (C 7)) (by rfl) Z.g7 rfl) pa_nil))) pa_nil)))))))
    (pss_cons (ps_set (i := 1) scMarks.nd rfl (.inl rfl) (pe_op op_cat (pv 1) (pe_lst (pa_cons (pe_callB (call_isP Z.c4 hp hz) (by rfl) mi (by decide +kernel) (pa_cons (pv 0) (pa_cons (pe_glob (v := .ref (C 8)) (by rfl) Z.g8 rfl) pa_nil))) (pa_cons (pe_callB (call_isP Z.c4 hp hz) (by rfl) mi (by decide +kernel) (pa_cons (pv 0) (pa_cons (pe_glob (v := .ref (C 9)) (by rfl) Z.g9 rfl) pa_nil))) (pa_cons (pe_callB (call_isP Z.c4 hp hz) (by rfl) mi (by decide +kernel) (pa_cons (pv 0) (pa_cons (pe_glob (v := .ref (C 10)) (by rfl) Z.g10 rfl) pa_nil))) (pa_cons (pe_callB (call_isP Z.c4 hp hz) (by rfl) mi (by decide +kernel) (pa_cons (pv 0) (pa_cons (pe_glob (v := .ref (C 11)) (by rfl) Z.g11 rfl) pa_nil))) pa_nil)))))))
    (pss_cons (ps_set (i := 1) scMarks.nd rfl (.inl rfl) (pe_op op_cat (pv 1) (pe_lst (pa_cons (pe_callB (call_isP Z.c4 hp hz) (by rfl) mi (by decide +kernel) (pa_cons (pv 0) (pa_cons (pe_glob (v := .ref (C 12)) (by rfl) Z.g12 rfl) pa_nil))) (pa_cons (pe_callB (call_isP Z.c4 hp hz) (by rfl) mi (by decide +kernel) (pa_cons (pv 0) (pa_cons (pe_glob (v := .ref (C 13)) (by rfl) Z.g13 rfl) pa_nil))) (pa_cons (pe_callB (call_isP Z.c4 hp hz) (by rfl) mi (by decide +kernel) (pa_cons (pv 0) (pa_cons (pe_glob (v := .ref (C 14)) (by rfl) Z.g14 rfl) pa_nil))) (pa_cons (pe_callB (call_isP Z.c4 hp hz) (by rfl) mi (by decide +kernel) (pa_cons (pv 0) (pa_cons (pe_glob (v := .ref (C 15)) (by rfl) Z.g15 rfl) pa_nil))) pa_nil)))))))
    (pss_one (ps_ret (pe_op op_cat (pv 1) (pe_lst (pa_cons (pe_callB (call_isP Z.c4 hp hz) (by rfl) mi (by decide +kernel) (pa_cons (pv 0) (pa_cons (pe_glob (v := .ref (C 16)) (by rfl) Z.g16 rfl) pa_nil))) pa_nil))))))))), ?_⟩
    refine ⟨.ref a, rfl, .ref (C 0), .ref (C 0), _, rfl, (fun u r => r), Z.k4_0, .ref a, rfl, .ref (C 1), .ref (C 1), _, rfl, (fun u r => r), Z.k4_1, .ref a, rfl, .ref (C 2), .ref (C 2), _, rfl, (fun u r => r), Z.k4_2, .ref a, rfl, .ref (C 3), .ref (C 3), _, rfl, (fun u r => r), Z.k4_3, by show 4 ≤ sizeLine; decide, fun l1 n1 => ?_⟩
    refine ⟨.ref l1, rfl, .ref a, rfl, .ref (C 4), .ref (C 4), _, rfl, (fun u r => r), Z.k4_4, .ref a, rfl, .ref (C 5), .ref (C 5), _, rfl, (fun u r => r), Z.k4_5, .ref a, rfl, .ref (C 6), .ref (C 6), _, rfl, (fun u r => r), Z.k4_6, .ref a, rfl, .ref (C 7), .ref (C 7), _, rfl, (fun u r => r), Z.k4_7, by show 4 ≤ sizeLine; decide, fun l2 n2 => ⟨l1, l2, _, _, rfl, rfl, same_new n2 _ _ upd_same, upd_same, by show 8 ≤ sizeLine; decide, fun l3 n3 => ?_⟩⟩
    refine ⟨.ref l3, rfl, .ref a, rfl, .ref (C 8), .ref (C 8), _, rfl, (fun u r => r), Z.k4_8, .ref a, rfl, .ref (C 9), .ref (C 9), _, rfl, (fun u r => r), Z.k4_9, .ref a, rfl, .ref (C 10), .ref (C 10), _, rfl, (fun u r => r), Z.k4_10, .ref a, rfl, .ref (C 11), .ref (C 11), _, rfl, (fun u r => r), Z.k4_11, by show 4 ≤ sizeLine; decide, fun l4 n4 => ⟨l3, l4, _, _, rfl, rfl, same_new n4 _ _ upd_same, upd_same, by show 12 ≤ sizeLine; decide, fun l5 n5 => ?_⟩⟩
    refine ⟨.ref l5, rfl, .ref a, rfl, .ref (C 12), .ref (C 12), _, rfl, (fun u r => r), Z.k4_12, .ref a, rfl, .ref (C 13), .ref (C 13), _, rfl, (fun u r => r), Z.k4_13, .ref a, rfl, .ref (C 14), .ref (C 14), _, rfl, (fun u r => r), Z.k4_14, .ref a, rfl, .ref (C 15), .ref (C 15), _, rfl, (fun u r => r), Z.k4_15, by show 4 ≤ sizeLine; decide, fun l6 n6 => ⟨l5, l6, _, _, rfl, rfl, same_new n6 _ _ upd_same, upd_same, by show 16 ≤ sizeLine; decide, fun l7 n7 => ?_⟩⟩
    refine ⟨.ref l7, rfl, .ref a, rfl, .ref (C 16), .ref (C 16), _, rfl, (fun u r => r), Z.k4_16, by show 1 ≤ sizeLine; decide, fun l8 n8 => ⟨l7, l8, _, _, rfl, rfl, same_new n8 _ _ upd_same, upd_same, by show 17 ≤ sizeLine; decide, fun l9 n9 => ?_⟩⟩
    refine q _ l9 (fun b o e => ?_) upd_same
    exact same_new n9 _ _ (same_new n8 _ _ (same_new n7 _ _ (same_new n6 _ _ (same_new n5 _ _ (same_new n4 _ _ (same_new n3 _ _ (same_new n2 _ _ (same_new n1 _ _ e))))))))
theorem ok_word4 {f fM : Addr} {fd dM : FuncData} {k : Nat} (Z : Cl K mg C cT cN cW) (mi : mg "isinstance" = none) (mV : mg "ValueError" = none) (DM : Df K mg "_law_marks" sMarks ["_law_e"] fM dM) (D : Df K mg "_law_word" sWord ["_law_e"] f fd) : FnE P w K mg base (k + 2) f fd ["_law_e"] (C 4) (spWord 4) := by
  have GM : FnE P w K mg base (k + 1) fM dM ["_law_e"] (C 4) (spMarks 4) := ok_marks4 Z mi DM
  refine fnE_of D.F scWord (fun a vs H Q h => ?_) (fun cdv A outer s H vs Q p hr hz h => ?_)
  · obtain ⟨rfl, _⟩ := h
    rfl
  · obtain ⟨rfl, q⟩ := h
    have hp : ∀ {G : Value → Shared → Prop}, p ∈ ((L2H.cxH CX0 P w K mg base ["_law_e", "_law_marks_here", "_law_at", "_law_words_here", "_law_word_here"] "_law_word" (defScope sWord) f cdv A outer s H E0 p).wish G).pn := List.mem_singleton.mpr rfl
    have hu : (A.deeper (envOfC "_law_word" (defScope sWord) s.heap.objs.size f cdv)).units + 64 < cLine := by
      have := hr.un
      omega
    obtain ⟨a, oe⟩ := p
    refine ⟨_, (pss_cons (ps_set (i := 1) scWord.nd rfl (.inl rfl) (pe_callE GM hr hp hz (by rfl) DM.g DM.F.kp DM.b (pa_cons (pv 0) pa_nil)))
    (pss_cons (ps_if (PW.pt (pw_or (pt_cmpR op_ne (pe_bm PySem.F.plainAttrs_list PySem.F.slot_list_count PySem.F.type_list_count mt_countV (pv 1) (pa_cons pe_bl pa_nil)) pe_int (nomark _)) (pw_or1 (pt_not (pt_val (pe_callB (call_isP Z.c4 hp hz) (by rfl) mi (by decide +kernel) (pa_cons (pv 0) (pa_cons (pe_bltn (v := .ty "ValueError") (by rfl) mV (by decide +kernel) rfl) pa_nil)))))))) pss_never pss_nil)
    (pss_cons (ps_set (i := 2) scWord.nd rfl (.inl rfl) (pe_bm PySem.F.plainAttrs_list PySem.F.slot_list_index PySem.F.type_list_index mt_index (pv 1) (pa_cons pe_bl pa_nil)))
    (pss_cons (ps_if (pt_cmpR (op_neD hu) (pe_lst (pa_cons (pe_callB (call_isP Z.c4 hp hz) (by rfl) mi (by decide +kernel) (pa_cons (pv 0) (pa_cons (pe_glob (v := .ref cT) (by rfl) Z.gT rfl) pa_nil))) (pa_cons (pe_callB (call_isP Z.c4 hp hz) (by rfl) mi (by decide +kernel) (pa_cons (pv 0) (pa_cons (pe_glob (v := .ref cN) (by rfl) Z.gN rfl) pa_nil))) pa_nil))) (pe_lst (pa_cons (pe_cmpR op_lt (pv 2) pe_int (nomark _)) (pa_cons (pe_cmpR op_gt (pv 2) pe_int (nomark _)) pa_nil))) (nomark _)) pss_never pss_nil)
    (pss_cons (ps_set (i := 3) scWord.nd rfl (.inl rfl) (pe_lst (pa_cons pe_str (pa_cons pe_str (pa_cons pe_str (pa_cons pe_str (pa_cons pe_str (pa_cons pe_str (pa_cons pe_str (pa_cons pe_str (pa_cons pe_str (pa_cons pe_str (pa_cons pe_str (pa_cons pe_str (pa_cons pe_str pa_nil)))))))))))))))
    (pss_cons (ps_set (i := 4) scWord.nd rfl (.inl rfl) (pe_ix ix_list (pe_op op_cat (pv 3) (pe_lst (pa_cons pe_str (pa_cons pe_str (pa_cons pe_str (pa_cons pe_str pa_nil)))))) (pv 2) (fun _ _ => rfl)))
    (pss_cons (ps_if (pt_cmpR op_eq (pv 4) pe_str (nomark _)) pss_never pss_nil)
    (pss_cons (ps_if (pt_cmpR op_eq (pv 4) pe_str (nomark _)) pss_never pss_nil)
    (pss_one (ps_ret (pe_ifExp (pt_cmpR op_eq (pv 4) pe_str (nomark _)) pe_no (pe_tup (pa_cons (pv 4) pa_nil))))))))))))), ?_⟩
    refine ⟨.ref a, rfl, rfl, fun H1 l1 s1 e1 => ?_⟩
    refine ⟨.ref l1, rfl, .inl ⟨rfl, _, SqL.of e1⟩, l1, _, .bl true, rfl, rfl, SqL.of e1, rfl, rfl, rfl, _, rfl, iteF ?_⟩
    refine ⟨.ref a, rfl, .ty "ValueError", .type "ValueError", _, rfl, (fun u r => r), Z.kV4, _, rfl, iteF ?_⟩
    refine ⟨.ref l1, rfl, .inl ⟨rfl, _, SqL.of e1⟩, l1, _, .bl true, 4, .bl true, rfl, rfl, SqL.of e1, rfl, rfl, rfl, rfl, fun j z' hm hz' => ?_, ?_⟩
    · match j, hm with
      | 0, _ => cases hz'; rfl
      | 1, _ => cases hz'; rfl
      | 2, _ => cases hz'; rfl
      | 3, _ => cases hz'; rfl
      | n + 4, h => exact absurd h (by omega)
    · refine ⟨.ref a, rfl, .ref cT, .ref cT, _, rfl, (fun u r => r), Z.kT4, .ref a, rfl, .ref cN, .ref cN, _, rfl, (fun u r => r), Z.kN4, by show 2 ≤ sizeLine; decide, fun l2 n2 => ?_⟩
      refine ⟨.int (4 : Nat), rfl, _, _, rfl, rfl, .int (4 : Nat), rfl, _, _, rfl, rfl, by show 2 ≤ sizeLine; decide, fun l3 n3 => ?_⟩
      refine ⟨.list [.bool true, .bool false], .list [.bool true, .bool false], .lst (SqL.of (same_new n3 _ _ upd_same)) (.cons (.bl true) (.cons (.bl false) .nil)), .lst (SqL.of upd_same) (.cons (.bl true) (.cons (.bl false) .nil)), by decide +kernel, by decide +kernel, _, rfl, ?_⟩
      rw [show PyData.eqv (.list [.bool true, .bool false]) (.list [.bool true, .bool false]) = true from by decide +kernel]
      refine iteF ?_
      refine ⟨by show 13 ≤ sizeLine; decide, fun l4 n4 => ?_⟩
      refine ⟨.ref l4, rfl, by show 4 ≤ sizeLine; decide, fun l5 n5 => ⟨l4, l5, _, _, rfl, rfl, same_new n5 _ _ upd_same, upd_same, by show 17 ≤ sizeLine; decide, fun l6 n6 => ?_⟩⟩
      refine ⟨.int (4 : Nat), rfl, l6, _, (4 : Nat), .str "shut", rfl, rfl, SqL.of upd_same, rfl, ?_⟩
      refine ⟨.str "shut", rfl, rfl, _, rfl, ?_⟩
      rw [show decide (V.str (Str.ofString "shut") = V.str (Str.ofString "text")) = false from by decide +kernel]
      refine iteF ⟨.str "shut", rfl, rfl, _, rfl, ?_⟩
      rw [show decide (V.str (Str.ofString "shut") = V.str (Str.ofString "ask")) = false from by decide +kernel]
      refine iteF ⟨.str "shut", rfl, rfl, _, rfl, ?_⟩
      rw [show decide (V.str (Str.ofString "shut") = V.str (Str.ofString "more")) = false from by decide +kernel]
      refine iteF ⟨.str "shut", rfl, by show 1 ≤ sizeLine; decide, fun t nt => ?_⟩
      refine q _ t (fun b o e => ?_) upd_same
      exact same_new nt _ _ (same_new n6 _ _ (same_new n5 _ _ (same_new n4 _ _ (same_new n3 _ _ (same_new n2 _ _ (s1 _ _ e))))))
/-- the word of each of these classes -/
def Words (P : Program) (w : World) (K : PySem.W.Frag) (mg : Str → Option Value) (base : Heap) (k : Nat) (f : Addr) (fd : FuncData) (C : Nat → Addr) (cW : Addr) : Prop := ∀ m ∈ [1, 4], FnE P w K mg base k f fd ["_law_e"] (C m) (spWord m) ∧ PySem.W.exmOne K (.ref (C m)) (.ref cW) = some true
theorem ok_words {f fM : Addr} {fd dM : FuncData} {k : Nat} (Z : Cl K mg C cT cN cW) (mi : mg "isinstance" = none) (mV : mg "ValueError" = none) (DM : Df K mg "_law_marks" sMarks ["_law_e"] fM dM) (D : Df K mg "_law_word" sWord ["_law_e"] f fd) : Words P w K mg base (k + 2) f fd C cW := fun m hm => by
  simp only [List.mem_cons, List.not_mem_nil, or_false] at hm
  rcases hm with rfl | rfl
  · exact ⟨ok_word1 Z mi mV DM D, Z.eW1⟩
  · exact ⟨ok_word4 Z mi mV DM D, Z.eW4⟩
theorem scSaid : FnScope ["_law_call", "_law_e"] ["_law_call"] (defScope sSaid) := ⟨rfl, rfl, rfl, by decide +kernel, rfl, by decide +kernel, by decide +kernel⟩
def TSaid (C : Nat → Addr) : (XK → Hp → VK → Prop) → Hp → VK → Prop := fun tl H Q =>
  tl (fun cls d H' => ∃ m, m ∈ [1, 4] ∧ cls = .ref (C m) ∧ d = none ∧ ∀ G t, Same H' G → G t = some (.tup [.str (wordOf m)]) → Q (.ref t) G) H fun v G => ([V.str "told", v] : List V).length ≤ sizeLine ∧ ∀ p, G p = none → Q (.ref p) (upd G p (.tup [.str "told", v]))
theorem said_gives {X : Cx} {g fW : Addr} {dW : FuncData} {cdg : Value} {q : Str} {k : Nat} (GW : Words X.prog X.w X.K X.mg X.base k fW dW C cW) (DW : Df X.K X.mg "_law_word" sWord ["_law_e"] fW dW) (hr : Room (k + 1) X.A)
    (gW : X.mg "WayError" = some (.ref cW)) : LamX.GivesTo X ["_law_call", "_law_e"] "_law_said" (defScope sSaid) g cdg (defBody sSaid) "_law_call" q (TSaid C) := by
  intro f c' s H Q tl act hc h
  have room : L2H.RoomH k (X.A.deeper (envOfC "_law_said" (defScope sSaid) s.heap.objs.size g cdg)) := L2H.roomH_of (hr.deeper _)
  refine ⟨_, pss_one (ps_try_as (X := (cxOf C8.CX0 X.prog X.w X.K X.mg X.base ["_law_call", "_law_e"] "_law_said" (defScope sSaid) g cdg X.A X.stack s H C8.E0).nox) (c := .ref cW) (i := 1)
      (tb := fun W E σ H => ∃ Ech : XK, (∀ cls d σ' H', Ech cls d H' → W cls d σ' H') ∧ σ[0]? = some (some (.ref f)) ∧ H c' = some (LamX.CodeO c' q) ∧ tl Ech H fun v G => ([V.str "told", v] : List V).length ≤ sizeLine ∧ ∀ p, G p = none → E.rt (.ref p) (upd G p (.tup [.str "told", v])))
      (ts := fun a cls d E σ H => ∃ m, m ∈ [1, 4] ∧ cls = .ref (C m) ∧ d = none ∧ (σ.length = 2 → ∃ v, σ[1]? = some (some v) ∧ spWord m a [v] H E.rt)) (Wout := fun _ _ _ _ => False)
      rfl rfl scSaid.nd rfl rfl ⟨rfl, by decide, .inl gW⟩ L2.takes0 (fun W pn xe tk _ => ?_) (fun a oe cls d pn hz hf => ?_)), ?_⟩
  · refine ⟨fun pins s' σ H' E I h' => ?_⟩
    obtain ⟨Ech, hW, h1, h2, h3⟩ := h'
    exact PSs.run (pss_one (ps_ret (pe_tup (pa_cons pe_str (pa_cons (act W pn xe Ech _ _ tk hW) pa_nil))))) pins s' σ H' E I ⟨h1, h2, h3⟩
  · refine ⟨fun pins s' σ H' E I h' => ?_⟩
    obtain ⟨m, hm, rfl, rfl, h⟩ := h'
    obtain ⟨v, hv, hw⟩ := h I.len
    exact PSs.run (pss_one (ps_ret (pe_callE (X := ((cxOf C8.CX0 X.prog X.w X.K X.mg X.base ["_law_call", "_law_e"] "_law_said" (defScope sSaid) g cdg X.A X.stack s H C8.E0).nox).suite a ((a, oe) :: pn)) (p := (a, oe)) (GW m hm).1 ⟨room.dp, room.un⟩ List.mem_cons_self ⟨hz, hf⟩ (by rfl) DW.g DW.F.kp DW.b (pa_cons (pv 1) pa_nil)))) pins s' σ H' E I ⟨v, hv, hw⟩
  · refine ⟨_, fun cls d σ' H' hE => ?_, rfl, hc, h⟩
    obtain ⟨m, hm, rfl, rfl, hq⟩ := hE
    refine ⟨true, (GW m hm).2, fun _ a _ => ⟨m, hm, rfl, rfl, fun hl => ⟨.ref a, ?_, rfl, fun G t sm e => hq G t sm e⟩⟩, fun z => nomatch z⟩
    rw [List.length_set] at hl
    rw [List.getElem?_set_self (by omega)]
end
end Wy

namespace Wy
open PySem PySem.Spec PyProof.Rows L2 RZ
abbrev sRise : Stmt := topS 24
abbrev sShutQ : Stmt := topS 39
theorem walk_zipT {K : PySem.W.Frag} {a b : Addr} {xs ys : List V} {n : Nat} (hn : n = min xs.length ys.length) : Walk (ItzT K a b) n (fun H => SqT K H a xs ∧ SqT K H b ys) (YPair (fun i => xs[i]?) (fun i => ys[i]?)) := by
  subst hn
  constructor
  · intro i _ hi q
    have l1 : i < xs.length := by omega
    have l2 : i < ys.length := by omega
    exact ⟨xs, ys, xs[i], ys[i], q.1, q.2, by simp [l1], by simp [l2]⟩
  · exact fun _ q => ⟨xs, ys, q.1, q.2, by omega⟩
  · intro i H v H' _ q y
    obtain ⟨T, x, z, h1, h2, h3, h4, h5⟩ := y
    exact ⟨T, x, z, h1, h2, h3, h4 xs q.1, h5 ys q.2⟩
/-- set of a tuple of numbers -/
def rSetT (K : PySem.W.Frag) (w : World) : List V → Hp → VK → Prop := fun xs H Q => ∃ (p : Addr) (ns : List Int), xs = [.ref p] ∧ SqT K H p (ns.map V.int) ∧ ns.length ≤ 1000 ∧ ∀ (a : Addr) (c : Nat), H a = none → c ≤ ns.length → Q (.ref a) (upd H a (SetO w a (fun j => decide (j ∈ ns)) c))
theorem cr_setT {X : Cx} (hc : X.calm = true) : CallR X (.type "set") (rSetT X.K X.w) := by
  intro pins s σ H vs us Q I r h
  obtain ⟨p, ns, rfl, hq, hl, q⟩ := h
  rw [Vals.ref1 r]
  obtain ⟨its, rv, pt, hz⟩ := I.tuple hq
  refine call_set_tupI ns (I.ok.hd hc) (show s.heap.IsTuple p its.toArray from pt) (ints_of_vals rv) (by unfold scanBound; omega) fun h' tk c R1 hcn k => ?_
  have hn : H s.heap.objs.size = none := I.hok.fresh (Nat.le_refl _)
  have J : Inv X pins σ (upd H s.heap.objs.size (SetO X.w s.heap.objs.size (fun j => decide (j ∈ ns)) c)) { s with heap := h', gens := s.gens, drawn := s.drawn, toks := tk } :=
    I.call (ch := []) (Un.laid k (Nat.le_refl _) hn) (I.hok.laid k (Nat.le_refl _) (setO_new R1)) I.bare (fun _ z => nomatch z)
  exact ⟨.ref s.heap.objs.size, _, J, rfl, q _ c hn hcn⟩
theorem cut_tail (ms : List Int) : cutV (ms.map V.int) (some 1) none = (ms.drop 1).map V.int := by
  unfold cutV
  have e1 : HT.sIx (ms.map V.int).length 0 (some 1) = min 1 ms.length := by
    unfold HT.sIx
    simp
  have e2 : HT.sIx (ms.map V.int).length (ms.map V.int).length none = ms.length := by
    unfold HT.sIx
    simp
  rw [e1, e2]
  cases ms with
  | nil => rfl
  | cons a r =>
    simp
    rw [List.take_of_length_le (by rw [List.length_map]; omega)]
/-- each greater than the one ahead -/
def riseB (ms : List Int) : Bool := ((ms.zip (ms.drop 1)).map fun q => decide (q.1 < q.2)).all id
section
variable {P : Program} {w : World} {K : PySem.W.Frag} {mg : Str → Option Value} {base : Heap}
theorem scRise : FnScope ["things", "one", "other"] ["things"] (defScope sRise) := ⟨rfl, rfl, rfl, by decide +kernel, rfl, by decide +kernel, by decide +kernel⟩
def spRise : Sp := fun vs H Q _ => ∃ (a : Addr) (ms : List Int), vs = [.ref a] ∧ H a = some (.tup (ms.map V.int)) ∧ ms.length ≤ 1000 ∧ ∀ H', Same H H' → Q (.bl (riseB ms)) H'
theorem ok_rise {f : Addr} {fd : FuncData} {k : Nat} (mA : mg "all" = none) (mZ : mg "zip" = none) (D : Df K mg "is_rising" sRise ["things"] f fd) : FnOk P w K mg base CX0 (k + 1) f fd ["things"] spRise := by
  refine D.F.ok scRise (fun vs H Q E h => ?_) (fun cdv A outer s H vs Q E hr h => ?_)
  · obtain ⟨_, _, rfl, _⟩ := h
    rfl
  · obtain ⟨a, ms, rfl, ea, hl, q⟩ := h
    refine ⟨_, pss_one (ps_ret (pe_callB (cr_all rfl) (by rfl) mA (by decide +kernel) (pa_cons
      (pe_lc (own := [("one", 1), ("other", 2)]) (g := gTup K 2 (gCons (gName 1) (gCons (gName 2) gNil))) (tt := tYes) rfl scRise.nd
        (pi_zipA (by rfl) mZ (pa_cons (pv 0) (pa_cons (pe_slice sl_tupB (pv 0) (po_some pe_int) po_none) pa_nil)))
        (blkOk_by (N := ["things", "one", "other"]) (sc := defScope sRise) (by decide +kernel))
        (fun _ _ _ _ _ => pg_tup rfl (pgs_cons (pg_name (i := 1) scRise.nd rfl (.inl rfl)) (pgs_cons (pg_name (i := 2) scRise.nd rfl (.inl rfl)) pgs_nil)))
        (fun _ _ _ _ _ => pts_nil) (fun _ _ _ _ _ => pe_cmpR op_lt (pv 1) (pv 2) (nomark _))) pa_nil))), ?_⟩
    refine ⟨.ref a, rfl, .ref a, rfl, 1, rfl, a, _, rfl, ea, fun b H1 s1 eb => ?_⟩
    have eb : H1 b = some (.tup ((ms.drop 1).map V.int)) := by
      rw [eb, cut_tail]
    have hn : min (ms.map V.int).length ((ms.drop 1).map V.int).length = (ms.zip (ms.drop 1)).length := by
      rw [List.length_map, List.length_map, List.length_zip]
    refine ⟨a, b, _, _, rfl, .inr ⟨SqT.of (s1 _ _ ea), SqT.of eb, fun D nD => ?_⟩⟩
    refine lc_it (walk_zipT (n := (ms.zip (ms.drop 1)).length) hn.symm) (fun i H' => Same H1 H' ∧ H' D = some (.lst ((((ms.zip (ms.drop 1)).map fun q => decide (q.1 < q.2)).take i).map V.bl))) ⟨same_new nD, upd_same⟩ (fun i H' _ h => ⟨SqT.of (h.1 _ _ (s1 _ _ ea)), SqT.of (h.1 _ _ eb)⟩) (fun i x H' H2 hi h hy => ?_) (fun H3 h => ?_)
    · obtain ⟨sm, eD⟩ := h
      obtain ⟨T, x', y', rfl, nT, rfl, hx, hy⟩ := hy
      have hi1 : i < ms.length := by
        rw [List.length_zip] at hi
        omega
      have hi2 : i < (ms.drop 1).length := by
        rw [List.length_zip] at hi
        omega
      have ex : x' = .int ms[i] := by
        dsimp only at hx
        rw [List.getElem?_map, List.getElem?_eq_getElem hi1] at hx
        exact (Option.some.inj hx).symm
      have ey : y' = .int (ms.drop 1)[i] := by
        dsimp only at hy
        rw [List.getElem?_map, List.getElem?_eq_getElem hi2] at hy
        exact (Option.some.inj hy).symm
      subst ex ey
      refine ⟨T, _, rfl, SqT.of upd_same, rfl, _, _, rfl, _, _, rfl, rfl, rfl, ?_⟩
      unfold tYes
      dsimp only
      rw [if_pos rfl]
      have eD2 := same_new (H := H') (o := .tup [.int ms[i], .int (ms.drop 1)[i]]) nT _ _ eD
      refine ⟨_, rfl, _, rfl, _, _, rfl, rfl, _, eD2, ?_, Same.upd_lst (sm.trans (same_new nT)) nD, ?_⟩
      · rw [List.length_map, List.length_take, List.length_map, List.length_zip]
        exact small1000 (by omega)
      · rw [upd_same, List.take_add_one, List.getElem?_map, List.getElem?_eq_getElem hi, List.getElem_zip, List.map_append]
        rfl
    · obtain ⟨s3, eD⟩ := h
      rw [List.take_of_length_le (by rw [List.length_map]; omega)] at eD
      exact ⟨D, _, rfl, SqL.of eD, q H3 (s1.trans s3)⟩
end
end Wy

namespace Wy
open PySem PySem.Spec PyProof.Rows L2 RZ
def intV : V → Int
  | .int i => i
  | _ => 0
def freeOf (p i : Int) (y : V) : Bool := isIn y 0 (p - 1) && !decide (y = .int i)
def shutL (p i : Int) (xs : List V) : Bool := (xs.map (freeOf p i)).all id && riseB (xs.map intV)
def shutO (p i : Int) : Option (List V) → Bool
  | none => false
  | some xs => shutL p i xs
theorem free_int {p i : Int} {xs : List V} (h : (xs.map (freeOf p i)).all id = true) : xs = (xs.map intV).map V.int := by
  rw [List.map_map]
  conv => lhs; rw [← List.map_id xs]
  refine List.map_congr_left fun y hy => ?_
  have := List.all_eq_true.mp h _ (List.mem_map_of_mem (f := freeOf p i) hy)
  unfold freeOf at this
  rw [id, Bool.and_eq_true] at this
  obtain ⟨j, rfl, _, _⟩ := isIn_true this.1
  rfl
section
variable {P : Program} {w : World} {K : PySem.W.Frag} {mg : Str → Option Value} {base : Heap}
variable {f1 f2 f3 f4 f5 : Addr} {d1 d2 d3 d4 d5 : FuncData}
theorem scShutQ : FnScope ["net", "goal", "thing", "place"] ["net", "goal", "thing"] (defScope sShutQ) := ⟨rfl, rfl, rfl, by decide +kernel, rfl, by decide +kernel, by decide +kernel⟩
def spShutQ (C4 : Addr) : Sp := fun vs H Q E => ∃ (a r : Addr) (ts : List Addr) (p : Int) (rs : List Road) (i : Int) (v : V) (o : Option (List V)), vs = [.ref a, .int i, v] ∧ NetAt H a r ts p rs ∧ Wh H v o ∧ (shutO p i o = true → ∀ H', Same H H' → Q .non H') ∧ (shutO p i o = false → ∀ H', Same H H' → E (.ref C4) none H')
theorem ok_shutQ {f fR C4 : Addr} {fd dR : FuncData} {k : Nat} (S : Sm K mg f1 f2 f3 f4 f5 d1 d2 d3 d4 d5) (mZ : mg "zip" = none) (DR : Df K mg "is_rising" sRise ["things"] fR dR) (Z : Ex K mg "NoShut" C4) (D : Df K mg "check_shut" sShutQ ["net", "goal", "thing"] f fd) : FnOk P w K mg base (L2.CX P w) (k + 3) f fd ["net", "goal", "thing"] (spShutQ C4) := by
  have G : FnOk P w K mg base CX0 (k + 2) f2 d2 ["thing", "low", "high"] spWithin := ok_within S
  have GR : FnOk P w K mg base CX0 (k + 2) fR dR ["things"] spRise := ok_rise (k := k + 1) S.mA mZ DR
  refine D.F.okX scShutQ (fun vs H Q E h => ?_) (fun cdv A outer s H vs Q E hr h => ?_)
  · obtain ⟨_, _, _, _, _, _, _, _, rfl, _⟩ := h
    rfl
  · obtain ⟨a, r, ts, p, rs, i, v, o, rfl, ⟨ea, _, _⟩, wh, q1, q2⟩ := h
    refine ⟨_, pss_cons (ps_if (pt_not (pt_val (pe_callB call_isi (by rfl) S.mi (by decide +kernel) (pa_cons (pv 2) (pa_cons (pe_bltn (v := .ty "tuple") (by rfl) S.mT (by decide +kernel) rfl) pa_nil))))) (pss_one (ps_raise rfl (takes_of rfl rfl rfl rfl) (pmk_own PySem.F.excBase_ValueError Z.x Z.g Z.k (raises_own Z.b Z.t) rfl))) pss_nil)
      (pss_cons (ps_if (pt_not (pt_val (pe_callB (cr_all rfl) (by rfl) S.mA (by decide +kernel) (pa_cons
        (pe_lc (own := [("place", 3)]) (g := gName 3) (tt := tYes) rfl scShutQ.nd (pi_tup (pv 2)) (blkOk_by (N := ["net", "goal", "thing", "place"]) (sc := defScope sShutQ) (by decide +kernel))
          (fun _ _ _ _ _ => pg_name (i := 3) scShutQ.nd rfl (.inl rfl)) (fun _ _ _ _ _ => pts_nil)
          (fun _ _ _ _ _ => pe_and (pe_call G hr (by rfl) S.within.g S.within.F.kp S.within.b .nil pass0 (pa_cons (pv 3) (pa_cons pe_int (pa_cons (pe_op op_sub (pe_ix (ix_tupK (K := K) rfl) (pv 0) pe_int (fun _ _ => rfl)) pe_int) pa_nil)))) (pe_one (pe_cmpR op_ne (pv 3) (pv 1) (nomark _))))) pa_nil)))) (pss_one (ps_raise rfl (takes_of rfl rfl rfl rfl) (pmk_own PySem.F.excBase_ValueError Z.x Z.g Z.k (raises_own Z.b Z.t) rfl))) pss_nil)
      (pss_one (ps_if (pt_not (pt_val (pe_call GR hr (by rfl) DR.g DR.F.kp DR.b .nil pass0 (pa_cons (pv 2) pa_nil)))) (pss_one (ps_raise rfl (takes_of rfl rfl rfl rfl) (pmk_own PySem.F.excBase_ValueError Z.x Z.g Z.k (raises_own Z.b Z.t) rfl))) pss_nil))), ?_⟩
    cases wh with
    | oth t hn =>
      refine ⟨v, rfl, v, .ty "tuple", .type _, .type "tuple", _, rfl, .ty _, t.tyx, isi_tuple t, _, rfl, ?_⟩
      rw [hn]
      exact iteT (q2 rfl _ (Same.refl _))
    | tup eb hall hlen =>
      rename_i b xs
      refine ⟨.ref b, rfl, .ref b, .ty "tuple", .type _, .type "tuple", _, rfl, .ty _, (Tg.tup eb).tyx, isi_tuple (Tg.tup eb), _, rfl, ?_⟩
      refine iteF ?_
      refine ⟨.ref b, rfl, b, rfl, ⟨_, SqT.of eb⟩, fun D nD => ?_⟩
      refine lc_tup (xs := xs) (fun j H' => Same H H' ∧ H' D = some (.lst (((xs.map (freeOf p i)).take j).map V.bl))) ⟨same_new nD, upd_same⟩ (fun j H' _ h => SqT.of (h.1 _ _ eb)) (fun j x H' hx h => ?_) (fun H' h => ?_)
      · obtain ⟨sm, eD⟩ := h
        obtain ⟨nx, tx⟩ := hall x (List.mem_of_getElem? hx)
        refine ⟨rfl, ?_⟩
        unfold tYes
        dsimp only
        rw [if_pos rfl]
        have fin : ∀ c : Bool, c = freeOf p i x → ∃ acc, H' D = some (.lst acc) ∧ acc.length < sizeLine ∧ (Same H (upd H' D (.lst (acc ++ [.bl c]))) ∧ upd H' D (.lst (acc ++ [.bl c])) D = some (.lst (((xs.map (freeOf p i)).take (j + 1)).map V.bl))) := fun c ec => by
          refine ⟨_, eD, ?_, Same.upd_lst sm nD, ?_⟩
          · rw [List.length_map, List.length_take, List.length_map]
            exact small1000 (by omega)
          · rw [upd_same, List.take_add_one, List.getElem?_map, hx, List.map_append, ec]
            rfl
        refine ⟨x, rfl, .ref a, rfl, a, _, 0, _, rfl, rfl, SqT.of (sm _ _ ea), rfl, p, 1, rfl, rfl, x, nx, 0, p - 1, rfl, tx.keep sm, _, rfl, ?_⟩
        cases e : isIn x 0 (p - 1) with
        | false =>
          refine iteF (fin _ ?_)
          unfold freeOf
          rw [e, Bool.false_and]
        | true =>
          obtain ⟨m, rfl, _, _⟩ := isIn_true e
          refine iteT ⟨.int m, rfl, .int i, rfl, rfl, fin _ ?_⟩
          unfold freeOf
          rw [e, Bool.true_and]
      · obtain ⟨sm, eD⟩ := h
        rw [List.take_of_length_le (by rw [List.length_map]; omega)] at eD
        refine ⟨D, _, rfl, SqL.of eD, _, rfl, ?_⟩
        cases e : (xs.map (freeOf p i)).all id with
        | false =>
          refine iteT (q2 ?_ _ sm)
          show shutL p i xs = false
          unfold shutL
          rw [e, Bool.false_and]
        | true =>
          refine iteF ?_
          have ex := free_int e
          refine ⟨.ref b, rfl, b, xs.map intV, rfl, by rw [← ex]; exact sm _ _ eb, by rw [List.length_map]; exact hlen, fun H2 s2 => ⟨_, rfl, ?_⟩⟩
          have es : shutO p i (some xs) = riseB (xs.map intV) := by
            show shutL p i xs = _
            unfold shutL
            rw [e, Bool.true_and]
          cases e2 : riseB (xs.map intV) with
          | true => exact iteF (q1 (es.trans e2) _ (sm.trans s2))
          | false => exact iteT (q2 (es.trans e2) _ (sm.trans s2))
end
end Wy

namespace Wy
open PySem PySem.Spec PyProof.Rows L2 RZ
abbrev sFree : Stmt := topS 40
abbrev sExc : Stmt := topS 42
abbrev sGreat : Stmt := topS 41
theorem op_notInK {X : Cx} {K : PySem.W.Frag} (h : X.K = K) : OpR X (compareOp .NotIn) (rIn K true) := by
  subst h
  exact op_notIn_seq
def vOpt : Option Int → V
  | none => .non
  | some n => .int n
def freeRoad (ms : List Int) (q : Road) : Bool := !inV (.int q.one) (ms.map V.int) && !inV (.int q.other) (ms.map V.int)
def freeR (ms : List Int) (rs : List Road) : List Road := rs.filter (freeRoad ms)
def excB (own : Option Int) (cost : Int) (ahead : Option Int) : Bool := match ahead with
  | none => false
  | some y => match own with
    | none => true
    | some x => decide (cost + y < x)
def relax (ps : List (Option Int)) (q : Road) : List (Option Int) :=
  if excB (ps.getD q.one.toNat none) q.cost (ps.getD q.other.toNat none) = true then ps.set q.one.toNat ((ps.getD q.other.toNat none).map (q.cost + ·)) else ps
def rounds (qs : List Road) (ps : List (Option Int)) : Nat → List (Option Int)
  | 0 => ps
  | n + 1 => qs.foldl relax (rounds qs ps n)
def firstP (p g : Int) : List (Option Int) := (List.replicate p.toNat none).set g.toNat (some 0)
def greatest (p : Int) (rs : List Road) (g : Int) (ms : List Int) : List (Option Int) := rounds (freeR ms rs) (firstP p g) (p - 1).toNat
theorem relax_len (ps : List (Option Int)) (q : Road) : (relax ps q).length = ps.length := by
  unfold relax
  split
  · rw [List.length_set]
  · rfl
theorem fold_len (qs : List Road) : ∀ ps : List (Option Int), (qs.foldl relax ps).length = ps.length := by
  induction qs with
  | nil => exact fun ps => rfl
  | cons q r ih => exact fun ps => (ih _).trans (relax_len ps q)
theorem rounds_len (qs : List Road) (ps : List (Option Int)) : ∀ n, (rounds qs ps n).length = ps.length
  | 0 => rfl
  | n + 1 => (fold_len qs _).trans (rounds_len qs ps n)
theorem first_len (p g : Int) : (firstP p g).length = p.toNat := by
  unfold firstP
  rw [List.length_set, List.length_replicate]
theorem flat_ints (ms : List Int) : (ms.map V.int).all flatV = true := by
  rw [List.all_map]
  exact List.all_eq_true.mpr fun _ _ => rfl
theorem at_opt {ps : List (Option Int)} {n : Int} (h0 : 0 ≤ n) (h1 : n.toNat < ps.length) : atI (ps.map vOpt) n = some (vOpt (ps.getD n.toNat none)) := by
  have e : (n.toNat : Int) = n := Int.toNat_of_nonneg h0
  have q := atI_nat (xs := ps.map vOpt) (j := n.toNat) (v := vOpt (ps.getD n.toNat none)) (by unfold List.getD; rw [List.getElem?_map, List.getElem?_eq_getElem h1]; rfl)
  rwa [e] at q
theorem ixN_of {m : Nat} {n : Int} (h0 : 0 ≤ n) (h1 : n.toNat < m) : ixN m n = some n.toNat := by
  unfold ixN
  rw [if_pos h0, if_pos (by omega)]
section
variable {P : Program} {w : World} {K : PySem.W.Frag} {mg : Str → Option Value} {base : Heap}
theorem scFree : FnScope ["net", "shut", "road"] ["net", "shut"] (defScope sFree) := ⟨rfl, rfl, rfl, by decide +kernel, rfl, by decide +kernel, by decide +kernel⟩
def spFree : Sp := fun vs H Q _ => ∃ (a r : Addr) (ts : List Addr) (p : Int) (rs : List Road) (b : Addr) (ms : List Int), vs = [.ref a, .ref b] ∧ NetAt H a r ts p rs ∧ rs.length ≤ 1000 ∧ H b = some (.tup (ms.map V.int)) ∧
  ∀ H' l us, Same H H' → H l = none → H' l = some (.lst (us.map V.ref)) → RoadsAt H' us (freeR ms rs) → Q (.ref l) H'
theorem ok_free {f : Addr} {fd : FuncData} {k : Nat} (D : Df K mg "free_roads" sFree ["net", "shut"] f fd) : FnOk P w K mg base CX0 (k + 1) f fd ["net", "shut"] spFree := by
  refine D.F.ok scFree (fun vs H Q E h => ?_) (fun cdv A outer s H vs Q E hr h => ?_)
  · obtain ⟨_, _, _, _, _, _, _, rfl, _⟩ := h
    rfl
  · obtain ⟨a, r, ts, p, rs, b, ms, rfl, ⟨ea, er, et⟩, hl, eb, q⟩ := h
    refine ⟨_, pss_one (ps_ret (pe_lc (own := [("road", 2)]) (g := gName 2) rfl scFree.nd (pi_tup (pe_ix (ix_tupK (K := K) rfl) (pv 0) pe_int (fun _ _ => rfl))) (blkOk_by (N := ["net", "shut", "road"]) (sc := defScope sFree) (by decide +kernel))
          (fun _ _ _ _ _ => pg_name (i := 2) scFree.nd rfl (.inl rfl))
          (fun _ _ _ _ _ => pts_one (PW.pt (pw_and (pt_cmpR (op_notInK (K := K) rfl) (pe_ix (ix_tupK (K := K) rfl) (pv 2) pe_int (fun _ _ => rfl)) (pv 1) (by rfl)) (pw_and1 (pt_cmpR (op_notInK (K := K) rfl) (pe_ix (ix_tupK (K := K) rfl) (pv 2) pe_int (fun _ _ => rfl)) (pv 1) (by rfl))))))
          (fun _ _ _ _ _ => pv 2))), ?_⟩
    refine ⟨.ref a, rfl, a, _, 1, _, rfl, rfl, SqT.of ea, rfl, r, rfl, ⟨_, SqT.of er⟩, fun D nD => ?_⟩
    have lt := et.len
    refine lc_tup (xs := ts.map V.ref) (fun i H' => Same H H' ∧ ∃ us, H' D = some (.lst (us.map V.ref)) ∧ RoadsAt H us (freeR ms (rs.take i))) ⟨same_new nD, [], upd_same, .nil⟩ (fun i H' _ h => SqT.of (h.1 _ _ er)) (fun i x H' hx h => ?_) (fun H3 h => ?_)
    · obtain ⟨sm, us, eD, eu⟩ := h
      have hi : i < ts.length := by
        have := (List.getElem?_eq_some_iff.mp hx).1
        rwa [List.length_map] at this
      rw [List.getElem?_map, List.getElem?_eq_getElem hi] at hx
      cases hx
      obtain ⟨q', e1, e2⟩ := et.get (List.getElem?_eq_getElem hi)
      have tk : freeR ms (rs.take (i + 1)) = freeR ms (rs.take i) ++ (if freeRoad ms q' = true then [q'] else []) := by
        unfold freeR
        rw [List.take_add_one, e1, List.filter_append]
        congr 1
        show List.filter _ [q'] = _
        rw [List.filter_cons]
        rfl
      have lu : us.length ≤ 1000 := by
        have h1 := eu.len
        have h2 : (freeR ms (rs.take i)).length ≤ (rs.take i).length := List.length_filter_le _ _
        rw [List.length_take] at h2
        omega
      refine ⟨rfl, ?_⟩
      refine ⟨.ref ts[i], rfl, ts[i], _, 0, .int q'.one, rfl, rfl, SqT.of (sm _ _ e2), rfl, .ref b, rfl, b, _, rfl, .inr (SqT.of (sm _ _ eb)), rfl, flat_ints ms, _, rfl, ?_⟩
      cases c1 : inV (.int q'.one) (ms.map V.int) with
      | true =>
        refine iteF ?_
        dsimp only
        rw [if_neg (by decide)]
        refine ⟨sm, us, eD, ?_⟩
        rw [tk, if_neg (by unfold freeRoad; rw [c1]; exact Bool.false_ne_true), List.append_nil]
        exact eu
      | false =>
        refine iteT ?_
        refine ⟨.ref ts[i], rfl, ts[i], _, 1, .int q'.other, rfl, rfl, SqT.of (sm _ _ e2), rfl, .ref b, rfl, b, _, rfl, .inr (SqT.of (sm _ _ eb)), rfl, flat_ints ms, _, rfl, ?_⟩
        cases c2 : inV (.int q'.other) (ms.map V.int) with
        | true =>
          rw [if_neg (by decide)]
          refine ⟨sm, us, eD, ?_⟩
          rw [tk, if_neg (by unfold freeRoad; rw [c1, c2]; decide), List.append_nil]
          exact eu
        | false =>
          rw [if_pos (by decide)]
          refine ⟨.ref ts[i], rfl, _, eD, ?_, Same.upd_lst sm nD, us ++ [ts[i]], ?_, ?_⟩
          · rw [List.length_map]
            exact small1000 (by omega)
          · rw [upd_same, List.map_append]
            rfl
          · rw [tk, if_pos (by unfold freeRoad; rw [c1, c2]; rfl)]
            exact laid_snoc eu e2
    · obtain ⟨sm, us, eD, eu⟩ := h
      rw [List.length_map, lt, List.take_length] at eu
      exact q H3 D us sm nD eD (eu.keep fun b xs e => sm _ _ e)
theorem scExc : FnScope ["own", "cost", "ahead"] ["own", "cost", "ahead"] (defScope sExc) := ⟨rfl, rfl, rfl, by decide +kernel, rfl, by decide +kernel, by decide +kernel⟩
def spExc : Sp := fun vs H Q _ => ∃ (own ahead : Option Int) (c : Int), vs = [vOpt own, .int c, vOpt ahead] ∧ Q (.bl (excB own c ahead)) H
theorem ok_exc {f : Addr} {fd : FuncData} {k : Nat} (D : Df K mg "exceeds" sExc ["own", "cost", "ahead"] f fd) : FnOk P w K mg base CX0 (k + 1) f fd ["own", "cost", "ahead"] spExc := by
  refine D.F.ok scExc (fun vs H Q E h => ?_) (fun cdv A outer s H vs Q E hr h => ?_)
  · obtain ⟨_, _, _, rfl, _⟩ := h
    rfl
  · obtain ⟨own, ahead, c, rfl, q⟩ := h
    refine ⟨_, pss_one (ps_ret (pe_and (pe_cmpR op_notN (pv 2) pe_non (nomark _)) (pe_one (pe_or (pe_cmpR op_isN (pv 0) pe_non (nomark _)) (pe_one (pe_cmpR op_gt (pv 0) (pe_op op_add (pv 1) (pv 2)) (nomark _))))))), ?_⟩
    cases ahead with
    | none => exact ⟨.non, rfl, rfl, _, rfl, iteF q⟩
    | some y =>
      refine ⟨.int y, rfl, rfl, _, rfl, iteT ?_⟩
      cases own with
      | none => exact ⟨.non, rfl, rfl, _, rfl, iteT q⟩
      | some x => exact ⟨.int x, rfl, rfl, _, rfl, iteF ⟨.int x, rfl, .int c, rfl, .int y, rfl, c, y, rfl, rfl, x, c + y, rfl, rfl, q⟩⟩
end
end Wy

namespace Wy
open PySem PySem.Spec PyProof.Rows L2 RZ
section
variable {P : Program} {w : World} {K : PySem.W.Frag} {mg : Str → Option Value} {base : Heap}
theorem scGreat : FnScope ["net", "goal", "shut", "roads", "prices", "turn", "one", "other", "cost", "time"] ["net", "goal", "shut"] (defScope sGreat) := ⟨rfl, rfl, rfl, by decide +kernel, rfl, by decide +kernel, by decide +kernel⟩
def spGreat : Sp := fun vs H Q _ => ∃ (a r : Addr) (ts : List Addr) (p : Int) (rs : List Road) (g : Int) (b : Addr) (ms : List Int), vs = [.ref a, .int g, .ref b] ∧ NetAt H a r ts p rs ∧ NetOk p rs ∧ 0 ≤ g ∧ g ≤ p - 1 ∧ H b = some (.tup (ms.map V.int)) ∧
  ∀ H' t, Same H H' → H t = none → H' t = some (.tup ((greatest p rs g ms).map vOpt)) → Q (.ref t) H'
theorem ok_great {f fF fE : Addr} {fd dF dE : FuncData} {k : Nat} (mR : mg "range" = none) (mT : mg "tuple" = none) (DF : Df K mg "free_roads" sFree ["net", "shut"] fF dF) (DE : Df K mg "exceeds" sExc ["own", "cost", "ahead"] fE dE) (D : Df K mg "greatest_prices" sGreat ["net", "goal", "shut"] f fd) : FnOk P w K mg base CX0 (k + 2) f fd ["net", "goal", "shut"] spGreat := by
  have GF : FnOk P w K mg base CX0 (k + 1) fF dF ["net", "shut"] spFree := ok_free DF
  have GE : FnOk P w K mg base CX0 (k + 1) fE dE ["own", "cost", "ahead"] spExc := ok_exc DE
  refine D.F.ok scGreat (fun vs H Q E h => ?_) (fun cdv A outer s H vs Q E hr h => ?_)
  · obtain ⟨_, _, _, _, _, _, _, _, rfl, _⟩ := h
    rfl
  · obtain ⟨a, r, ts, p, rs, g, b, ms, rfl, hN, ok, g0, g1, eb, q⟩ := h
    obtain ⟨ea, er, et⟩ := id hN
    refine ⟨_, pss_cons (ps_set (i := 3) scGreat.nd rfl (.inl rfl) (pe_call GF hr (by rfl) DF.g DF.F.kp DF.b .nil pass0 (pa_cons (pv 0) (pa_cons (pv 2) pa_nil))))
      (pss_cons (ps_set (i := 4) scGreat.nd rfl (.inl rfl) (pe_op op_rep (pe_lst (pa_cons pe_non pa_nil)) (pe_ix (ix_tupK (K := K) rfl) (pv 0) pe_int (fun _ _ => rfl))))
      (pss_cons (ps_asg pe_int (pg_sub (pv 4) (pv 1) set_list))
      (pss_cons (ps_for PassesOwn.never rfl (pi_range2 (by rfl) mR (pa_cons pe_int (pa_cons (pe_ix (ix_tupK (K := K) rfl) (pv 0) pe_int (fun _ _ => rfl)) pa_nil))) (pg_name (i := 5) scGreat.nd rfl (.inl rfl))
        (pss_one (ps_for PassesOwn.never rfl (pi_list (pv 3)) (pg_tup rfl (pgs_cons (pg_name (i := 6) scGreat.nd rfl (.inl rfl)) (pgs_cons (pg_name (i := 7) scGreat.nd rfl (.inl rfl)) (pgs_cons (pg_name (i := 8) scGreat.nd rfl (.inl rfl)) (pgs_cons (pg_name (i := 9) scGreat.nd rfl (.inl rfl)) pgs_nil)))))
          (pss_one (ps_if (pt_val (pe_call GE hr (by rfl) DE.g DE.F.kp DE.b .nil pass0 (pa_cons (pe_ix ix_list (pv 4) (pv 6) (fun _ _ => rfl)) (pa_cons (pv 8) (pa_cons (pe_ix ix_list (pv 4) (pv 7) (fun _ _ => rfl)) pa_nil)))))
            (pss_one (ps_asg (pe_op op_add (pv 8) (pe_ix ix_list (pv 4) (pv 7) (fun _ _ => rfl))) (pg_sub (pv 4) (pv 6) set_list))) pss_nil)))))
      (pss_one (ps_ret (pe_callTy call_tuple_of (by rfl) mT (by decide +kernel) (pa_cons (pv 4) pa_nil))))))), ?_⟩
    have hp : 0 ≤ p := by
      have := ok.p1
      omega
    have p10 := ok.p2
    refine ⟨.ref a, rfl, .ref b, rfl, a, r, ts, p, rs, b, ms, rfl, hN, Nat.le_trans ok.len (by decide), eb, fun H1 lr us s1 nlr elr eu => ?_⟩
    have okF : ∀ x ∈ freeR ms rs, RoadOk p x := fun x hx => ok.all x (List.mem_filter.mp hx).1
    obtain ⟨qs, hqs⟩ : ∃ qs, qs = freeR ms rs := ⟨_, rfl⟩
    rw [← hqs] at eu okF
    refine ⟨by show 1 ≤ sizeLine; decide, fun l0 nl0 => ?_⟩
    have x1 := same_new (o := .lst [.non]) nl0
    refine ⟨.ref a, rfl, a, _, 0, _, rfl, rfl, SqT.of (x1 _ _ (s1 _ _ ea)), rfl, l0, p, _, rfl, rfl, upd_same, by omega, by omega, ?_, fun l nl => ?_⟩
    · show 1 * p.toNat ≤ sizeLine
      exact Nat.le_trans (by omega : 1 * p.toNat ≤ 10) (by decide)
    have e0 : (List.replicate p.toNat [V.non]).flatten = (List.replicate p.toNat (none : Option Int)).map vOpt := by
      rw [List.map_replicate]
      induction p.toNat with
      | zero => rfl
      | succ n ih => rw [List.replicate_succ, List.replicate_succ, List.flatten_cons, ih]; rfl
    rw [e0]
    refine ⟨.ref l, rfl, .int g, rfl, l, _, g, g.toNat, rfl, rfl, upd_same, ?_, ?_⟩
    · rw [List.length_map, List.length_replicate]
      exact ixN_of g0 (by omega)
    have e1 : (((List.replicate p.toNat (none : Option Int)).map vOpt).set g.toNat (.int 0)) = (firstP p g).map vOpt := by
      unfold firstP
      rw [List.map_set]
      rfl
    rw [e1, upd_upd]
    obtain ⟨H2, hH2⟩ : ∃ H2, H2 = upd (upd H1 l0 (.lst [.non])) l (.lst ((firstP p g).map vOpt)) := ⟨_, rfl⟩
    rw [← hH2]
    have s2 : Same H H2 := by
      rw [hH2]
      exact (s1.trans x1).trans (same_new nl)
    have el : H2 l = some (.lst ((firstP p g).map vOpt)) := by
      rw [hH2]
      exact upd_same
    have elr2 : H2 lr = some (.lst (us.map V.ref)) := by
      rw [hH2]
      exact same_new nl _ _ (x1 _ _ elr)
    have eu2 : RoadsAt H2 us qs := eu.keep fun c xs e => by
      rw [hH2]
      exact same_new nl _ _ (x1 _ _ e)
    have nlH : H l = none := s1.free (by
      cases e : H1 l with
      | none => rfl
      | some o => rw [x1 _ _ e] at nl; cases nl)
    have nlr : lr ≠ l := ne_of_none (x1 _ _ elr) nl
    refine ⟨.ref a, rfl, a, _, 0, _, rfl, rfl, SqT.of (s2 _ _ ea), rfl, 1, p, rfl, ⟨by omega, by omega, by omega, by omega⟩, ?_⟩
    have lenR : ∀ n, (rounds qs (firstP p g) n).length = p.toNat := fun n => (rounds_len _ _ _).trans (first_len p g)
    refine for_range (lo := 1) (fun i σ H' => ∃ y5 y6 y7 y8 y9 : Option V, σ = [some (.ref a), some (.int g), some (.ref b), some (.ref lr), some (.ref l), y5, y6, y7, y8, y9] ∧ Keep l H2 H' ∧ H' l = some (.lst ((rounds qs (firstP p g) i).map vOpt))) ⟨none, none, none, none, none, rfl, Keep.refl _ _, el⟩ (fun i σ H' hi h => ?_) (fun σ H' h => ?_)
    · obtain ⟨y5, y6, y7, y8, y9, rfl, kp, eL⟩ := h
      refine ⟨.ref lr, rfl, lr, rfl, ⟨_, SqL.of (kp _ _ elr2 nlr)⟩, ?_⟩
      refine for_list (xs := us.map V.ref) (fun j σ H' => ∃ y5 y6 y7 y8 y9 : Option V, σ = [some (.ref a), some (.int g), some (.ref b), some (.ref lr), some (.ref l), y5, y6, y7, y8, y9] ∧ Keep l H2 H' ∧ H' l = some (.lst (((qs.take j).foldl relax (rounds qs (firstP p g) i)).map vOpt))) ⟨_, _, _, _, _, rfl, kp, eL⟩ (fun j σ H' _ h => ?_) (fun j x σ H' hx h => ?_) (fun σ H' h => ?_)
      · obtain ⟨_, _, _, _, _, _, kp, _⟩ := h
        exact SqL.of (kp _ _ elr2 nlr)
      · obtain ⟨z5, z6, z7, z8, z9, rfl, kp, eL⟩ := h
        have hj : j < us.length := by
          have := (List.getElem?_eq_some_iff.mp hx).1
          rwa [List.length_map] at this
        rw [List.getElem?_map, List.getElem?_eq_getElem hj] at hx
        cases hx
        obtain ⟨rd, e1, e2⟩ := eu2.get (List.getElem?_eq_getElem hj)
        have o := okF rd (List.mem_of_getElem? e1)
        have ru : us[j] ≠ l := ne_of e2 el (fun z => nomatch z)
        obtain ⟨ps, hps⟩ : ∃ ps, ps = (qs.take j).foldl relax (rounds qs (firstP p g) i) := ⟨_, rfl⟩
        have lps : ps.length = p.toNat := by
          rw [hps, fold_len]
          exact lenR i
        have step : (qs.take (j + 1)).foldl relax (rounds qs (firstP p g) i) = relax ps rd := by
          rw [List.take_add_one, e1, List.foldl_append, hps]
          rfl
        rw [← hps] at eL
        have b1 := o.o1
        have b2 := o.o2
        have b3 := o.t1
        have b4 := o.t2
        have i1 : rd.one.toNat < ps.length := by omega
        have i2 : rd.other.toNat < ps.length := by omega
        refine ⟨us[j], _, rfl, SqT.of (kp _ _ e2 ru), rfl, _, _, rfl, _, _, rfl, _, _, rfl, _, _, rfl, rfl, ?_⟩
        refine ⟨.ref l, rfl, .int rd.one, rfl, l, _, rd.one, _, rfl, rfl, SqL.of eL, at_opt b1 i1, .int rd.cost, rfl, .ref l, rfl, .int rd.other, rfl, l, _, rd.other, _, rfl, rfl, SqL.of eL, at_opt b3 i2, _, _, rd.cost, rfl, _, rfl, ?_⟩
        cases c : excB (ps.getD rd.one.toNat none) rd.cost (ps.getD rd.other.toNat none) with
        | false =>
          refine iteF ⟨_, _, _, _, _, rfl, kp, ?_⟩
          rw [step]
          unfold relax
          rw [c, if_neg (by decide)]
          exact eL
        | true =>
          cases ah : ps.getD rd.other.toNat none with
          | none =>
            rw [ah] at c
            cases c
          | some y =>
            refine iteT ⟨.int rd.cost, rfl, .ref l, rfl, .int rd.other, rfl, l, _, rd.other, _, rfl, rfl, SqL.of eL, at_opt b3 i2, rd.cost, y, rfl, (by rw [ah]; rfl), .ref l, rfl, .int rd.one, rfl, l, _, rd.one, rd.one.toNat, rfl, rfl, eL, ixN_of b1 (by rw [List.length_map]; exact i1), _, _, _, _, _, rfl, ?_, ?_⟩
            · exact kp.trans Keep.self
            · rw [upd_same, step]
              unfold relax
              rw [if_pos c, ah, List.map_set]
              rfl
      · obtain ⟨z5, z6, z7, z8, z9, rfl, kp, eL⟩ := h
        refine ⟨_, _, _, _, _, rfl, kp, ?_⟩
        rw [List.length_map, eu2.len, List.take_length] at eL
        exact eL
    · obtain ⟨z5, z6, z7, z8, z9, rfl, kp, eL⟩ := h
      have sm : Same H H' := fun c o e => kp _ _ (s2 _ _ e) (ne_of_none e nlH)
      refine ⟨.ref l, rfl, l, _, rfl, .inl ⟨SqL.of eL, fun t nt => ?_⟩⟩
      have eg : rounds qs (firstP p g) (p - 1).toNat = greatest p rs g ms := by
        rw [hqs]
        rfl
      refine q _ t (sm.trans (same_new nt)) (sm.free nt) ?_
      rw [upd_same, eg]
end
end Wy

namespace Wy
open PySem PySem.Spec PyProof.Rows L2 RZ
abbrev sPrices : Stmt := topS 37
abbrev sAre : Stmt := topS 38
abbrev sHold : Stmt := topS 43
theorem pss_no {X : Cx} {ss : List Stmt} : PSs X ss (fun _ _ _ => False) := ⟨fun _ _ _ _ _ _ h => h.elim⟩
def shutI : Option (List V) → List Int
  | none => []
  | some xs => xs.map intV
theorem shut_ints {p i : Int} {H : Hp} {v : V} {o : Option (List V)} (h : Wh H v o) (e : shutO p i o = true) : ∃ b, v = .ref b ∧ H b = some (.tup ((shutI o).map V.int)) := by
  cases h with
  | oth t hn => cases e
  | tup eb hall hlen =>
    rename_i b xs
    have e : shutL p i xs = true := e
    unfold shutL at e
    rw [Bool.and_eq_true] at e
    refine ⟨b, rfl, ?_⟩
    show H b = some (.tup ((xs.map intV).map V.int))
    rw [← free_int e.1]
    exact eb
section
variable {P : Program} {w : World} {K : PySem.W.Frag} {mg : Str → Option Value} {base : Heap}
variable {f1 f2 f3 f4 f5 : Addr} {d1 d2 d3 d4 d5 : FuncData}
theorem scPrices : FnScope ["net", "goal", "shut"] ["net", "goal", "shut"] (defScope sPrices) := ⟨rfl, rfl, rfl, by decide +kernel, rfl, by decide +kernel, by decide +kernel⟩
theorem scAre : FnScope ["net", "goal", "thing", "shut"] ["net", "goal", "thing", "shut"] (defScope sAre) := ⟨rfl, rfl, rfl, by decide +kernel, rfl, by decide +kernel, by decide +kernel⟩
theorem scHold : FnScope ["net", "goal", "thing", "shut", "part", "place", "one", "other", "cost", "time"] ["net", "goal", "thing", "shut"] (defScope sHold) := ⟨rfl, rfl, rfl, by decide +kernel, rfl, by decide +kernel, by decide +kernel⟩
def spPrices (C1 C4 : Addr) : Sp := fun vs H Q E => ∃ (a r : Addr) (ts : List Addr) (p : Int) (rs : List Road) (u v : V) (n : String) (o : Option (List V)), vs = [.ref a, u, v] ∧ NetAt H a r ts p rs ∧ NetOk p rs ∧ Tg H u n ∧ Wh H v o ∧
  (isIn u 0 (p - 1) = false → ∀ H', Same H H' → E (.ref C1) none H') ∧ (∀ g, u = .int g → isIn u 0 (p - 1) = true → shutO p g o = false → ∀ H', Same H H' → E (.ref C4) none H') ∧
  (∀ g, u = .int g → isIn u 0 (p - 1) = true → shutO p g o = true → ∀ H' t, Same H H' → H t = none → H' t = some (.tup ((greatest p rs g (shutI o)).map vOpt)) → Q (.ref t) H')
theorem ok_prices {f fN fP fS fG fR fF fX C1 C4 : Addr} {fd dN dP dS dG dR dF dX : FuncData} {k : Nat} (S : Sm K mg f1 f2 f3 f4 f5 d1 d2 d3 d4 d5) (mZ : mg "zip" = none) (mR : mg "range" = none) (DN : Df K mg "check_net" sChkN ["thing"] fN dN) (DP : Df K mg "check_place" sChkP ["net", "thing"] fP dP)
    (DR : Df K mg "is_rising" sRise ["things"] fR dR) (DS : Df K mg "check_shut" sShutQ ["net", "goal", "thing"] fS dS) (DF : Df K mg "free_roads" sFree ["net", "shut"] fF dF) (DX : Df K mg "exceeds" sExc ["own", "cost", "ahead"] fX dX) (DG : Df K mg "greatest_prices" sGreat ["net", "goal", "shut"] fG dG) (Z1 : Ex K mg "NoPlace" C1) (Z4 : Ex K mg "NoShut" C4)
    (F : Fun K "prices_of" "prices_of" sPrices f fd) : FnOk P w K mg base (L2.CX P w) (k + 6) f fd ["net", "goal", "shut"] (spPrices C1 C4) := by
  have GN : FnOk P w K mg base CX0 (k + 5) fN dN ["thing"] spChkN := ok_chkN S DN
  have GP : FnOk P w K mg base (L2.CX P w) (k + 5) fP dP ["net", "thing"] (spChkP C1) := ok_chkP (k := k + 2) S DP Z1
  have GS : FnOk P w K mg base (L2.CX P w) (k + 5) fS dS ["net", "goal", "thing"] (spShutQ C4) := ok_shutQ (k := k + 2) S mZ DR Z4 DS
  have GG : FnOk P w K mg base CX0 (k + 5) fG dG ["net", "goal", "shut"] spGreat := ok_great (k := k + 3) mR S.mT DF DX DG
  refine F.okX scPrices (fun vs H Q E h => ?_) (fun cdv A outer s H vs Q E hr h => ?_)
  · obtain ⟨_, _, _, _, _, _, _, _, _, rfl, _⟩ := h
    rfl
  · obtain ⟨a, r, ts, p, rs, u, v, n, o, rfl, hN, ok, tu, wh, q1, q4, qS⟩ := h
    refine ⟨_, pss_cons (ps_expr (pe_call GN hr (by rfl) DN.g DN.F.kp DN.b .nil pass0 (pa_cons (pv 0) pa_nil)))
      (pss_cons (ps_expr (pe_call GP hr (by rfl) DP.g DP.F.kp DP.b .nil (passes_call (takes_of rfl rfl rfl rfl) fun _ _ _ _ h => h) (pa_cons (pv 0) (pa_cons (pv 1) pa_nil))))
      (pss_cons (ps_expr (pe_call GS hr (by rfl) DS.g DS.F.kp DS.b .nil (passes_call (takes_of rfl rfl rfl rfl) fun _ _ _ _ h => h) (pa_cons (pv 0) (pa_cons (pv 1) (pa_cons (pv 2) pa_nil)))))
      (pss_one (ps_ret (pe_call GG hr (by rfl) DG.g DG.F.kp DG.b .nil pass0 (pa_cons (pv 0) (pa_cons (pv 1) (pa_cons (pv 2) pa_nil)))))))), ?_⟩
    have kp : ∀ {H' : Hp}, Same H H' → NetAt H' a r ts p rs := fun sm => hN.keep fun b xs e => sm b _ e
    refine ⟨.ref a, rfl, a, r, ts, p, rs, rfl, hN, ok, fun H1 s1 => ?_⟩
    refine ⟨.ref a, rfl, u, rfl, a, r, ts, p, rs, u, n, rfl, kp s1, tu.keep s1, fun eu => ?_, fun eu => q1 eu _ s1⟩
    obtain ⟨g, rfl, g0, g1⟩ := isIn_true eu
    refine ⟨.ref a, rfl, .int g, rfl, v, rfl, a, r, ts, p, rs, g, v, o, rfl, kp s1, wh.keep s1, fun es H2 s2 => ?_, fun es H2 s2 => q4 g rfl eu es _ (s1.trans s2)⟩
    have s12 := s1.trans s2
    obtain ⟨b, rfl, eb⟩ := shut_ints (wh.keep s12) es
    exact ⟨.ref a, rfl, .int g, rfl, .ref b, rfl, a, r, ts, p, rs, g, b, shutI o, rfl, kp s12, ok, g0, g1, eb, fun H3 t s3 nt et => qS g rfl eu es H3 t (s12.trans s3) (s12.free nt) et⟩
/-- of None: no prices -/
def spHoldN : Sp := fun vs H Q _ => ∃ (a r : Addr) (ts : List Addr) (p : Int) (rs : List Road) (u v : V), vs = [.ref a, u, .non, v] ∧ NetAt H a r ts p rs ∧ Q (.bl false) H
theorem ok_holdN {f : Addr} {fd : FuncData} {k : Nat} (S : Sm K mg f1 f2 f3 f4 f5 d1 d2 d3 d4 d5) (D : Df K mg "prices_hold" sHold ["net", "goal", "thing", "shut"] f fd) : FnOk P w K mg base CX0 (k + 2) f fd ["net", "goal", "thing", "shut"] spHoldN := by
  have GT : FnOk P w K mg base CX0 (k + 1) f3 d3 ["thing", "many"] spTupG := ok_tupG S
  refine D.F.ok scHold (fun vs H Q E h => ?_) (fun cdv A outer s H vs Q E hr h => ?_)
  · obtain ⟨_, _, _, _, _, _, _, rfl, _⟩ := h
    rfl
  · obtain ⟨a, r, ts, p, rs, u, v, rfl, ⟨ea, _, _⟩, q⟩ := h
    refine ⟨_, pss_cons (ps_if (PW.pt (pw_or (pt_not (pt_val (pe_call GT hr (by rfl) S.tupOf.g S.tupOf.F.kp S.tupOf.b .nil pass0 (pa_cons (pv 2) (pa_cons (pe_ix (ix_tupK (K := K) rfl) (pv 0) pe_int (fun _ _ => rfl)) pa_nil))))) pw_no)) (pss_one (ps_ret pe_bl)) pss_nil) pss_no, ?_⟩
    exact ⟨.non, rfl, .ref a, rfl, a, _, 0, _, rfl, rfl, SqT.of ea, rfl, .non, _, p, rfl, .non, _, rfl, iteT (iteT q)⟩
def spAre (C1 C4 : Addr) : Sp := fun vs H Q E => ∃ (a r : Addr) (ts : List Addr) (p : Int) (rs : List Road) (u v : V) (n : String) (o : Option (List V)), vs = [.ref a, u, .non, v] ∧ NetAt H a r ts p rs ∧ NetOk p rs ∧ Tg H u n ∧ Wh H v o ∧
  (isIn u 0 (p - 1) = false → ∀ H', Same H H' → E (.ref C1) none H') ∧ (∀ g, u = .int g → isIn u 0 (p - 1) = true → shutO p g o = false → ∀ H', Same H H' → E (.ref C4) none H') ∧
  (∀ g, u = .int g → isIn u 0 (p - 1) = true → shutO p g o = true → ∀ H', Same H H' → Q (.bl false) H')
theorem ok_are {f fN fP fS fH fR C1 C4 : Addr} {fd dN dP dS dH dR : FuncData} {k : Nat} (S : Sm K mg f1 f2 f3 f4 f5 d1 d2 d3 d4 d5) (mZ : mg "zip" = none) (DN : Df K mg "check_net" sChkN ["thing"] fN dN) (DP : Df K mg "check_place" sChkP ["net", "thing"] fP dP)
    (DR : Df K mg "is_rising" sRise ["things"] fR dR) (DS : Df K mg "check_shut" sShutQ ["net", "goal", "thing"] fS dS) (DH : Df K mg "prices_hold" sHold ["net", "goal", "thing", "shut"] fH dH) (Z1 : Ex K mg "NoPlace" C1) (Z4 : Ex K mg "NoShut" C4)
    (F : Fun K "are_prices" "are_prices" sAre f fd) : FnOk P w K mg base (L2.CX P w) (k + 6) f fd ["net", "goal", "thing", "shut"] (spAre C1 C4) := by
  have GN : FnOk P w K mg base CX0 (k + 5) fN dN ["thing"] spChkN := ok_chkN S DN
  have GP : FnOk P w K mg base (L2.CX P w) (k + 5) fP dP ["net", "thing"] (spChkP C1) := ok_chkP (k := k + 2) S DP Z1
  have GS : FnOk P w K mg base (L2.CX P w) (k + 5) fS dS ["net", "goal", "thing"] (spShutQ C4) := ok_shutQ (k := k + 2) S mZ DR Z4 DS
  have GH : FnOk P w K mg base CX0 (k + 5) fH dH ["net", "goal", "thing", "shut"] spHoldN := ok_holdN (k := k + 3) S DH
  refine F.okX scAre (fun vs H Q E h => ?_) (fun cdv A outer s H vs Q E hr h => ?_)
  · obtain ⟨_, _, _, _, _, _, _, _, _, rfl, _⟩ := h
    rfl
  · obtain ⟨a, r, ts, p, rs, u, v, n, o, rfl, hN, ok, tu, wh, q1, q4, qS⟩ := h
    refine ⟨_, pss_cons (ps_expr (pe_call GN hr (by rfl) DN.g DN.F.kp DN.b .nil pass0 (pa_cons (pv 0) pa_nil)))
      (pss_cons (ps_expr (pe_call GP hr (by rfl) DP.g DP.F.kp DP.b .nil (passes_call (takes_of rfl rfl rfl rfl) fun _ _ _ _ h => h) (pa_cons (pv 0) (pa_cons (pv 1) pa_nil))))
      (pss_cons (ps_expr (pe_call GS hr (by rfl) DS.g DS.F.kp DS.b .nil (passes_call (takes_of rfl rfl rfl rfl) fun _ _ _ _ h => h) (pa_cons (pv 0) (pa_cons (pv 1) (pa_cons (pv 3) pa_nil)))))
      (pss_one (ps_ret (pe_call GH hr (by rfl) DH.g DH.F.kp DH.b .nil pass0 (pa_cons (pv 0) (pa_cons (pv 1) (pa_cons (pv 2) (pa_cons (pv 3) pa_nil))))))))), ?_⟩
    have kp : ∀ {H' : Hp}, Same H H' → NetAt H' a r ts p rs := fun sm => hN.keep fun b xs e => sm b _ e
    refine ⟨.ref a, rfl, a, r, ts, p, rs, rfl, hN, ok, fun H1 s1 => ?_⟩
    refine ⟨.ref a, rfl, u, rfl, a, r, ts, p, rs, u, n, rfl, kp s1, tu.keep s1, fun eu => ?_, fun eu => q1 eu _ s1⟩
    obtain ⟨g, rfl, g0, g1⟩ := isIn_true eu
    refine ⟨.ref a, rfl, .int g, rfl, v, rfl, a, r, ts, p, rs, g, v, o, rfl, kp s1, wh.keep s1, fun es H2 s2 => ?_, fun es H2 s2 => q4 g rfl eu es _ (s1.trans s2)⟩
    have s12 := s1.trans s2
    exact ⟨.ref a, rfl, .int g, rfl, .non, rfl, v, rfl, a, r, ts, p, rs, .int g, v, rfl, kp s12, qS g rfl eu es H2 s12⟩
/-! ### calls with shut by its name -/
def gP2 (us ws : List Value) : List Value := match us, ws with
  | [n, g], [s] => [n, g, s]
  | _, _ => []
def gP2V (us ws : List V) : List V := match us, ws with
  | [n, g], [s] => [n, g, s]
  | _, _ => []
def gP3 (us ws : List Value) : List Value := match us, ws with
  | [n, g, t], [s] => [n, g, t, s]
  | _, _ => []
def gP3V (us ws : List V) : List V := match us, ws with
  | [n, g, t], [s] => [n, g, t, s]
  | _, _ => []
theorem kw_prices {f : Addr} {fd : FuncData} (F : Fun K "prices_of" "prices_of" sPrices f fd) : KBinds K fd ["net", "goal", "shut"] ["shut"] gP2 gP2V := by
  obtain ⟨oc, od, kV, doc, pm, an, cdv, ct, osl, rfl, lk, hcd⟩ := F.ex
  refine ⟨fun s us ws _ hl => ?_, fun {vs us zs ws} r rz => ?_⟩
  · match us, ws, hl with
    | [n, g], [s], _ => exact .of_eq rfl
  · match r, rz with
    | .cons a (.cons b .nil), .cons c .nil => exact .cons a (.cons b (.cons c .nil))
    | .nil, _ => exact .nil
    | .cons _ .nil, _ => exact .nil
    | .cons _ (.cons _ (.cons _ _)), _ => exact .nil
    | .cons _ (.cons _ .nil), .nil => exact .nil
    | .cons _ (.cons _ .nil), .cons _ (.cons _ _) => exact .nil
theorem kw_are {f : Addr} {fd : FuncData} (F : Fun K "are_prices" "are_prices" sAre f fd) : KBinds K fd ["net", "goal", "thing", "shut"] ["shut"] gP3 gP3V := by
  obtain ⟨oc, od, kV, doc, pm, an, cdv, ct, osl, rfl, lk, hcd⟩ := F.ex
  refine ⟨fun s us ws _ hl => ?_, fun {vs us zs ws} r rz => ?_⟩
  · match us, ws, hl with
    | [n, g, t], [s], _ => exact .of_eq rfl
  · match r, rz with
    | .cons a (.cons b (.cons d .nil)), .cons c .nil => exact .cons a (.cons b (.cons d (.cons c .nil)))
    | .nil, _ => exact .nil
    | .cons _ .nil, _ => exact .nil
    | .cons _ (.cons _ .nil), _ => exact .nil
    | .cons _ (.cons _ (.cons _ (.cons _ _))), _ => exact .nil
    | .cons _ (.cons _ (.cons _ .nil)), .nil => exact .nil
    | .cons _ (.cons _ (.cons _ .nil)), .cons _ (.cons _ _) => exact .nil
end
end Wy

namespace Wy
open PySem PySem.Spec PyProof.Rows L2 RZ LamX
abbrev sMay : Stmt := topS 55
theorem sc_sMay : FnScope ["_law_web", "_law_aim", "_law_what", "_law_one"] ["_law_web", "_law_aim", "_law_what"] (defScope sMay) := ⟨rfl, rfl, rfl, by decide +kernel, rfl, by decide +kernel, by decide +kernel⟩

/-! ### all but tables stays -/
theorem Tg.ext {H H' : Hp} {v : V} {n : String} (t : Tg H v n) (h : ExtN H H') : Tg H' v n := by
  cases t with
  | non => exact .non
  | bl b => exact .bl b
  | int i => exact .int i
  | str x => exact .str x
  | lst e => exact .lst (h _ _ e fun _ q => nomatch q)
  | tup e => exact .tup (h _ _ e fun _ q => nomatch q)
  | dct e => exact .dct (h _ _ e fun _ q => nomatch q)
theorem Wh.ext {H H' : Hp} {v : V} {o : Option (List V)} (h : Wh H v o) (s : ExtN H H') : Wh H' v o := by
  cases h with
  | tup e a l =>
    refine .tup (s _ _ e fun _ q => nomatch q) (fun y hy => ?_) l
    obtain ⟨n, t⟩ := a y hy
    exact ⟨n, t.ext s⟩
  | oth t n => exact .oth (t.ext s) n
theorem NetAt.ext {H H' : Hp} {a r : Addr} {ts : List Addr} {p : Int} {rs : List Road} (h : NetAt H a r ts p rs) (e : ExtN H H') : NetAt H' a r ts p rs := h.keep fun b xs h => e _ _ h fun _ q => nomatch q
theorem ext_sqL {K : PySem.W.Frag} {H G : Hp} {a : Addr} {xs : List V} (h : SqL K H a xs) (e : ExtN H G) : SqL K G a xs := by
  rcases h with (h | ⟨o, h⟩) | h
  · exact .inl (.inl (e _ _ h fun _ q => nomatch q))
  · exact .inl (.inr ⟨o, e _ _ h fun _ q => nomatch q⟩)
  · exact .inr h
theorem ext_sqT {K : PySem.W.Frag} {H G : Hp} {a : Addr} {xs : List V} (h : SqT K H a xs) (e : ExtN H G) : SqT K G a xs := by
  rcases h with (h | ⟨o, h⟩) | h
  · exact .inl (.inl (e _ _ h fun _ q => nomatch q))
  · exact .inl (.inr ⟨o, e _ _ h fun _ q => nomatch q⟩)
  · exact .inr h
mutual
theorem dp_ext {K : PySem.W.Frag} {H H' : Hp} (s : ExtN H H') : ∀ {v : V} {d : PyData}, Dp K H v d → Dp K H' v d
  | _, _, .non => .non
  | _, _, .bl b => .bl b
  | _, _, .int i => .int i
  | _, _, .str x => .str x
  | _, _, .lst e a => .lst (ext_sqL e s) (dpAll_ext s a)
  | _, _, .tup e a => .tup (ext_sqT e s) (dpAll_ext s a)
theorem dpAll_ext {K : PySem.W.Frag} {H H' : Hp} (s : ExtN H H') : ∀ {vs : List V} {ds : List PyData}, DpAll K H vs ds → DpAll K H' vs ds
  | _, _, .nil => .nil
  | _, _, .cons a b => .cons (dp_ext s a) (dpAll_ext s b)
end
theorem DictAt.ext {H H' : Hp} {a : Addr} {kvs : List (PyData × PyData)} (h : DictAt H a kvs) (s : ExtN H H') : DictAt H' a kvs := by
  cases h with
  | nil e => exact .nil (s _ _ e fun _ q => nomatch q)
  | one e => exact .one (s _ _ e fun _ q => nomatch q)
theorem Thing.ext {K : PySem.W.Frag} {H H' : Hp} {v : V} (h : Thing K H v) (s : ExtN H H') : Thing K H' v := by
  obtain ⟨o, h1, hx, h2⟩ := h
  refine ⟨o, h1.ext s, (fun xs e => let ⟨l, ds, k1, k2, k3⟩ := hx xs e; ⟨l, ds, dpAll_ext s k1, k2, k3⟩), ?_⟩
  rcases h2 with ⟨d, k1, k2⟩ | ⟨a, kvs, e, k⟩
  · exact .inl ⟨d, dp_ext s k1, k2⟩
  · exact .inr ⟨a, kvs, e, k.ext s⟩
/-- what repr tells of a net and a thing, whatever tables do -/
theorem thing_shownE {K : PySem.W.Frag} {H : Hp} {v : V} {a r : Addr} {ts : List Addr} {p : Int} {rs : List Road} (h : Thing K H v) (hn : NetAt H a r ts p rs) (ok : NetOk p rs) : ∃ d, Sh d 30000 50 ∧ ∀ (G : Hp) (u : Addr), ExtN H G → G u = some (.tup [.ref a, v]) → Dr K G (.ref u) d := by
  obtain ⟨o, _, _, h⟩ := h
  have pair : ∀ e, Sh e 9000 10 → Sh (.tuple [dNet p rs, e]) 30000 50 := fun e he => by
    refine (Sh.tuple (n := 11000) (m := 10) (k := 2) (fun d hd => ?_) (Nat.le_refl _)).mono (by decide) (by decide)
    simp only [List.mem_cons, List.not_mem_nil, or_false] at hd
    rcases hd with rfl | rfl
    · exact (Sh.net ok).mono (by decide) (by decide)
    · exact he.mono (by decide) (by decide)
  rcases h with ⟨d, h1, h2, _⟩ | ⟨b, kvs, rfl, h1⟩
  · exact ⟨.tuple [dNet p rs, d], pair d h2, fun G u s e => .dp (.tup (SqT.of e) (.cons (net_dp (hn.ext s)) (.cons (dp_ext s h1) .nil)))⟩
  · exact ⟨.tuple [dNet p rs, .dict kvs], pair _ (dict_sh h1), fun G u s e => .dct e (hn.ext s) (h1.ext s)⟩
/-! ### places that may be shut, as the law tells them -/
theorem filter_dp {K : PySem.W.Frag} {H : Hp} (f : V → Bool) : ∀ {xs : List V} {ds : List PyData}, DpAll K H xs ds → PyData.canLayAll0 ds = true → ∃ es, DpAll K H (xs.filter f) es ∧ PyData.canLayAll0 es = true ∧ PyData.depthAll es ≤ PyData.depthAll ds
  | _, _, .nil, _ => ⟨[], .nil, rfl, Nat.le_refl _⟩
  | _, _, .cons (v := v) (d := d) (ds := ds) a b, h => by
    rw [PyData.canLayAll0, Bool.and_eq_true] at h
    obtain ⟨es, h1, h2, h3⟩ := filter_dp f b h.2
    rw [List.filter_cons]
    by_cases e : f v = true
    · rw [if_pos e]
      refine ⟨d :: es, .cons a h1, by rw [PyData.canLayAll0, h.1, h2]; rfl, ?_⟩
      rw [PyData.depthAll, PyData.depthAll]
      omega
    · rw [if_neg e]
      refine ⟨es, h1, h2, ?_⟩
      rw [PyData.depthAll]
      omega
theorem rise_pair : ∀ {ms : List Int}, riseB ms = true → ms.Pairwise (· < ·)
  | [], _ => .nil
  | [_], _ => List.pairwise_singleton _ _
  | a :: b :: r, h => by
    have h2 : (decide (a < b) && riseB (b :: r)) = true := h
    rw [Bool.and_eq_true] at h2
    have ih := rise_pair h2.2
    have hab := of_decide_eq_true h2.1
    refine List.pairwise_cons.mpr ⟨fun x hx => ?_, ih⟩
    rcases List.mem_cons.mp hx with rfl | hx
    · exact hab
    · exact Int.lt_trans hab ((List.pairwise_cons.mp ih).1 x hx)
theorem pair_rise : ∀ {ms : List Int}, ms.Pairwise (· < ·) → riseB ms = true
  | [], _ => rfl
  | [_], _ => rfl
  | a :: b :: r, h => by
    have h1 : a < b := (List.pairwise_cons.mp h).1 b (List.mem_cons_self ..)
    have h2 := pair_rise (List.pairwise_cons.mp h).2
    show (decide (a < b) && riseB (b :: r)) = true
    rw [decide_eq_true h1, h2]
    rfl
theorem sorted_eq : ∀ {ms ns : List Int}, ms.Pairwise (· < ·) → ns.Pairwise (· < ·) → (∀ k, k ∈ ms ↔ k ∈ ns) → ms = ns
  | [], [], _, _, _ => rfl
  | [], n :: _, _, _, h => absurd ((h n).mpr (List.mem_cons_self ..)) (fun z => nomatch z)
  | m :: _, [], _, _, h => absurd ((h m).mp (List.mem_cons_self ..)) (fun z => nomatch z)
  | m :: ms, n :: ns, h1, h2, h => by
    have a1 := List.pairwise_cons.mp h1
    have a2 := List.pairwise_cons.mp h2
    have e : m = n := by
      rcases List.mem_cons.mp ((h m).mp (List.mem_cons_self ..)) with z | z
      · exact z
      · rcases List.mem_cons.mp ((h n).mpr (List.mem_cons_self ..)) with y | y
        · exact y.symm
        · have := a2.1 m z
          have := a1.1 n y
          omega
    subst e
    refine congrArg _ (sorted_eq a1.2 a2.2 fun k => ?_)
    constructor
    · intro hk
      have := a1.1 k hk
      rcases List.mem_cons.mp ((h k).mp (List.mem_cons_of_mem _ hk)) with z | z
      · omega
      · exact z
    · intro hk
      have := a2.1 k hk
      rcases List.mem_cons.mp ((h k).mpr (List.mem_cons_of_mem _ hk)) with z | z
      · omega
      · exact z
theorem all_free {p g : Int} {xs : List V} (h : xs.filter (fun y => !isIn y 0 (p - 1)) = []) (h2 : inV (.int g) (xs) = false) (hi : xs = (xs.map intV).map V.int) : (xs.map (freeOf p g)).all id = true := by
  rw [List.all_map]
  refine List.all_eq_true.mpr fun y hy => ?_
  have k1 : isIn y 0 (p - 1) = true := by
    cases e : isIn y 0 (p - 1) with
    | true => rfl
    | false =>
      have : y ∈ xs.filter (fun y => !isIn y 0 (p - 1)) := List.mem_filter.mpr ⟨hy, by rw [e]; rfl⟩
      rw [h] at this
      cases this
  show (isIn y 0 (p - 1) && !decide (y = .int g)) = true
  rw [k1, Bool.true_and]
  cases e : decide (y = .int g) with
  | false => rfl
  | true =>
    have e := of_decide_eq_true e
    subst e
    have : inV (.int g) xs = true := by
      rw [inV]
      exact List.any_eq_true.mpr ⟨.int g, hy, by simp [eqV]⟩
    rw [this] at h2
    cases h2
theorem no_free {p g : Int} {xs : List V} {y : V} (hy : y ∈ xs) (h : freeOf p g y = false) : (xs.map (freeOf p g)).all id = false := by
  rw [Bool.eq_false_iff]
  intro z
  rw [List.all_map] at z
  have := List.all_eq_true.mp z y hy
  have this : freeOf p g y = true := this
  rw [h] at this
  cases this
section
variable {P : Program} {w : World} {K : PySem.W.Frag} {mg : Str → Option Value} {base : Heap}
def spMay (K : PySem.W.Frag) : Sp := fun vs H Q _ => ∃ (a r : Addr) (ts : List Addr) (p : Int) (rs : List Road) (g : Int) (v : V) (o : Option (List V)), vs = [.ref a, .int g, v] ∧ NetAt H a r ts p rs ∧ Wh H v o ∧
  (∀ xs, o = some xs → xs.length ≤ 40 ∧ ∃ ds, DpAll K H xs ds ∧ PyData.canLayAll0 ds = true ∧ PyData.depthAll ds ≤ 10) ∧ ∀ H', Same H H' → Q (.bl (shutO p g o)) H'
set_option maxHeartbeats 4000000 in
theorem ok_may {f fN : Addr} {fd dN : FuncData} {k : Nat} (mi : mg "isinstance" = none) (mI : mg "int" = none) (mB : mg "bool" = none) (mT : mg "tuple" = none) (mLi : mg "list" = none) (mSo : mg "sorted" = none) (mSe : mg "set" = none) (DN : Df K mg "_law_number" sNum ["_law_what", "_law_least", "_law_most"] fN dN)
    (D : Df K mg "_law_may_shut" sMay ["_law_web", "_law_aim", "_law_what"] f fd) : FnOk P w K mg base CX0 (k + 2) f fd ["_law_web", "_law_aim", "_law_what"] (spMay K) := by
  have GN : FnOk P w K mg base CX0 (k + 1) fN dN ["_law_what", "_law_least", "_law_most"] spNum := ok_num DN mi mI mB
  refine D.F.ok sc_sMay (fun vs H Q E h => ?_) (fun cdv A outer s H vs Q E hr h => ?_)
  · obtain ⟨_, _, _, _, _, _, _, _, rfl, _⟩ := h
    rfl
  · obtain ⟨a, r, ts, p, rs, g, v, o, rfl, hN, wh, hd, q⟩ := h
    refine ⟨_, (pss_cons (ps_if (PW.pt (pw_or (pt_not (pt_val (pe_callB call_isi (by rfl) mi (by decide +kernel) (pa_cons (pv 2) (pa_cons (pe_bltn (v := .ty "tuple") (by rfl) mT (by decide +kernel) rfl) pa_nil))))) (pw_or1 (pt_cmpR (op_neD hr.units) (pe_lc (own := [("_law_one", 3)]) (g := gName 3) rfl sc_sMay.nd (pi_tup (pv 2)) (blkOk_by (N := ["_law_web", "_law_aim", "_law_what", "_law_one"]) (sc := defScope sMay) (by decide +kernel)) (fun _ _ _ _ _ => pg_name (i := 3) sc_sMay.nd rfl (.inl rfl)) (fun _ _ _ _ _ => pts_one (pt_not (pt_val (pe_call GN hr (by rfl) DN.g DN.F.kp DN.b .nil pass0 (pa_cons (pv 3) (pa_cons pe_int (pa_cons (pe_op op_sub (pe_ix (ix_tupK (K := K) rfl) (pv 0) pe_int (fun _ _ => rfl)) pe_int) pa_nil))))))) (fun _ _ _ _ _ => pv 3)) (pe_lst pa_nil) (nomark _))))) (pss_one (ps_ret pe_bl)) pss_nil)
    (pss_one (ps_ret (pe_and (pe_cmpR (op_notInK (K := K) rfl) (pv 1) (pv 2) (by rfl)) (pe_one (pe_cmpR (op_eqD hr.units) (pe_callTy call_list_of (by rfl) mLi (by decide +kernel) (pa_cons (pv 2) pa_nil)) (pe_callB (cr_sortedSet rfl) (by rfl) mSo (by decide +kernel) (pa_cons (pe_callTy (cr_setT rfl) (by rfl) mSe (by decide +kernel) (pa_cons (pv 2) pa_nil)) pa_nil)) (nomark _))))))), ?_⟩
    cases wh with
    | oth t hn =>
      refine ⟨v, rfl, v, .ty "tuple", .type _, .type "tuple", _, rfl, .ty _, t.tyx, isi_tuple t, _, rfl, ?_⟩
      rw [hn]
      exact iteT (iteT (q _ (Same.refl _)))
    | tup eb hall hlen =>
      rename_i b xs
      obtain ⟨hl40, ds, hdp, hlay, hdeep⟩ := hd xs rfl
      refine ⟨.ref b, rfl, .ref b, .ty "tuple", .type _, .type "tuple", _, rfl, .ty _, (Tg.tup eb).tyx, isi_tuple (Tg.tup eb), _, rfl, ?_⟩
      refine iteF ?_
      refine ⟨.ref b, rfl, b, rfl, ⟨_, SqT.of eb⟩, fun D nD => ?_⟩
      refine lc_tup (xs := xs) (fun j H' => Same H H' ∧ H' D = some (.lst ((xs.take j).filter (fun y => !isIn y 0 (p - 1))))) ⟨same_new nD, upd_same⟩ (fun j H' _ h => SqT.of (h.1 _ _ eb)) (fun j y H' hy h => ?_) (fun H' h => ?_)
      · obtain ⟨sm, eD⟩ := h
        obtain ⟨n, ty⟩ := hall y (List.mem_of_getElem? hy)
        have tk : (xs.take (j + 1)).filter (fun y => !isIn y 0 (p - 1)) = (xs.take j).filter (fun y => !isIn y 0 (p - 1)) ++ (if (!isIn y 0 (p - 1)) = true then [y] else []) := by
          rw [List.take_add_one, hy, List.filter_append]
          congr 1
          show List.filter _ [y] = _
          rw [List.filter_cons]
          rfl
        refine ⟨rfl, ?_⟩
        refine ⟨y, rfl, .ref a, rfl, a, _, 0, _, rfl, rfl, SqT.of (sm _ _ hN.1), rfl, p, 1, rfl, rfl, y, n, 0, p - 1, rfl, ty.keep sm, _, rfl, ?_⟩
        cases e : isIn y 0 (p - 1) with
        | true =>
          rw [e] at tk
          refine iteF ⟨sm, ?_⟩
          rw [tk, if_neg (by decide), List.append_nil]
          exact eD
        | false =>
          rw [e] at tk
          refine iteT ⟨y, rfl, _, eD, ?_, Same.upd_lst sm nD, ?_⟩
          · refine small1000 (Nat.le_trans (List.length_filter_le _ _) ?_)
            rw [List.length_take]
            omega
          · rw [upd_same, tk, if_pos (by decide)]
      · obtain ⟨sm, eD⟩ := h
        rw [List.take_length] at eD
        obtain ⟨es, h1, h2, h3⟩ := filter_dp (fun y => !isIn y 0 (p - 1)) (dpAll_keep sm hdp) hlay
        refine ⟨Nat.zero_le _, fun l0 nl0 => ?_⟩
        have z0 := same_new (H := H') (o := .lst []) nl0
        have shp : SeqAt.shaped (.list es) = true := by
          unfold SeqAt.shaped
          rw [PyData.canLay0, h2, PyData.depth, Bool.true_and]
          exact decide_eq_true (by omega)
        refine ⟨.list es, .list [], .lst (SqL.of (z0 _ _ eD)) (dpAll_keep z0 h1), .lst (SqL.of upd_same) .nil, shp, by decide +kernel, _, rfl, ?_⟩
        have sZ := sm.trans z0
        cases hf : xs.filter (fun y => !isIn y 0 (p - 1)) with
        | cons y ys =>
          rw [hf] at h1
          cases h1 with
          | cons d1 d2 =>
            rename_i dd ddr
            have : PyData.eqv (.list (dd :: ddr)) (.list []) = false := rfl
            rw [this]
            refine iteT ?_
            have hm : y ∈ xs.filter (fun y => !isIn y 0 (p - 1)) := by rw [hf]; exact List.mem_cons_self ..
            have hm2 := List.mem_filter.mp hm
            have hno : (xs.map (freeOf p g)).all id = false := no_free hm2.1 (by
              unfold freeOf
              have : isIn y 0 (p - 1) = false := by simpa using hm2.2
              rw [this, Bool.false_and])
            have es : shutO p g (some xs) = false := by
              show shutL p g xs = false
              unfold shutL
              rw [hno, Bool.false_and]
            have q1 := q _ sZ
            rw [es] at q1
            exact q1
        | nil =>
          rw [hf] at h1
          cases h1
          have : PyData.eqv (.list []) (.list []) = true := by decide +kernel
          rw [this]
          refine iteF ?_
          have allIn : ∀ y ∈ xs, ∃ i, y = .int i ∧ isIn y 0 (p - 1) = true := fun y hy => by
            cases e : isIn y 0 (p - 1) with
            | true =>
              obtain ⟨i, rfl, _, _⟩ := isIn_true e
              exact ⟨i, rfl, rfl⟩
            | false =>
              have : y ∈ xs.filter (fun y => !isIn y 0 (p - 1)) := List.mem_filter.mpr ⟨hy, by rw [e]; rfl⟩
              rw [hf] at this
              cases this
          have hi : xs = (xs.map intV).map V.int := by
            rw [List.map_map]
            conv => lhs; rw [← List.map_id xs]
            refine List.map_congr_left fun y hy => ?_
            obtain ⟨i, rfl, _⟩ := allIn y hy
            rfl
          obtain ⟨ms, hms⟩ : ∃ ms, ms = xs.map intV := ⟨_, rfl⟩
          rw [← hms] at hi
          have ebZ := sZ _ _ eb
          rw [hi] at ebZ
          have lm : ms.length ≤ 40 := by rw [hms, List.length_map]; exact hl40
          refine ⟨.int g, rfl, .ref b, rfl, b, _, rfl, .inr (SqT.of ebZ), rfl, flat_ints ms, _, rfl, ?_⟩
          cases hin : inV (.int g) (ms.map V.int) with
          | true =>
            refine iteF ?_
            have hy : V.int g ∈ xs := by
              rw [hi]
              rw [inV] at hin
              obtain ⟨y, hy, he⟩ := List.any_eq_true.mp hin
              obtain ⟨i, _, rfl⟩ := List.mem_map.mp hy
              have : i = g := by simpa [eqV] using he
              rw [← this]
              exact hy
            have es : shutO p g (some xs) = false := by
              show shutL p g xs = false
              unfold shutL
              rw [no_free hy (by unfold freeOf; rw [decide_eq_true rfl]; simp), Bool.false_and]
            have q1 := q _ sZ
            rw [es] at q1
            exact q1
          | false =>
            refine iteT ?_
            have es : shutO p g (some xs) = riseB ms := by
              show shutL p g xs = _
              unfold shutL
              rw [all_free hf (by rw [hi]; exact hin) (by rw [← hms]; exact hi), Bool.true_and, hms]
            refine ⟨.ref b, rfl, b, _, rfl, .inr (SqT.of ebZ), fun l1 nl1 => ?_⟩
            have z1 := same_new (H := upd H' l0 (.lst [])) (o := .lst (ms.map V.int)) nl1
            refine ⟨.ref b, rfl, b, ms, rfl, SqT.of (z1 _ _ ebZ), by omega, fun sa c nsa hc => ?_⟩
            have z2 := same_new (H := upd (upd H' l0 (.lst [])) l1 (.lst (ms.map V.int))) (o := SetO w sa (fun j => decide (j ∈ ms)) c) nsa
            refine ⟨sa, _, c, rfl, upd_same, by omega, fun ns so hso hmem hlen2 nso => ?_⟩
            have z3 := same_new (H := upd (upd (upd H' l0 (.lst [])) l1 (.lst (ms.map V.int))) sa (SetO w sa (fun j => decide (j ∈ ms)) c)) (o := .lst (ns.map V.int)) nso
            refine ⟨.list (ms.map PyData.int), .list (ns.map PyData.int), .lst (SqL.of (z3 _ _ (z2 _ _ upd_same))) (ints_dp ms), .lst (SqL.of upd_same) (ints_dp ns), ints_shaped ms, ints_shaped ns, ?_⟩
            have ev : PyData.eqv (.list (ms.map PyData.int)) (.list (ns.map PyData.int)) = riseB ms := by
              rw [PyData.eqv, PySem.W.ked_eqvAll]
              cases hr2 : riseB ms with
              | true => exact decide_eq_true (sorted_eq (rise_pair hr2) hso fun k => by rw [hmem k, decide_eq_true_eq])
              | false =>
                refine decide_eq_false fun z => ?_
                rw [← z] at hso
                rw [pair_rise hso] at hr2
                cases hr2
            rw [ev]
            have q1 := q _ (sZ.trans (z1.trans (z2.trans z3)))
            rw [es] at q1
            exact q1
end
end Wy

namespace Wy
open PySem PySem.Spec PyProof.Rows L2 RZ LamX
abbrev sLW : Stmt := topS 56
theorem sc_sLW : FnScope ["_law_web", "_law_aim", "_law_closed", "_law_found"] ["_law_web", "_law_aim", "_law_closed"] (defScope sLW) := ⟨rfl, rfl, rfl, by decide +kernel, rfl, by decide +kernel, by decide +kernel⟩
def qLW : Str := (envOfC "_law_words" (defScope sLW) 0 0 .none).qual ++ "<lambda>"
/-- what is said: the word of the refusal, or what is told -/
def Said (p : Int) (u : V) (o : Option (List V)) (told : Hp → Addr → Prop) (G : Hp) (t : Addr) : Prop :=
  (isIn u 0 (p - 1) = false ∧ G t = some (.tup [.str "place"])) ∨ (∃ g, u = .int g ∧ isIn u 0 (p - 1) = true ∧ shutO p g o = false ∧ G t = some (.tup [.str "shut"])) ∨ ∃ g, u = .int g ∧ isIn u 0 (p - 1) = true ∧ shutO p g o = true ∧ told G t
def toldA (G : Hp) (t : Addr) : Prop := ∃ v, G t = some (.tup [.str "told", v])
def toldB (G : Hp) (t : Addr) : Prop := G t = some (.tup [.str "told", .bl false])
theorem Said.ext {p : Int} {u : V} {o : Option (List V)} {told : Hp → Addr → Prop} {G G' : Hp} {t : Addr} (h : Said p u o told G t) (k : ∀ b xs, G b = some (.tup xs) → G' b = some (.tup xs)) (ht : told G t → told G' t) : Said p u o told G' t := by
  rcases h with ⟨a, b⟩ | ⟨g, a, b, c, d⟩ | ⟨g, a, b, c, d⟩
  · exact .inl ⟨a, k _ _ b⟩
  · exact .inr (.inl ⟨g, a, b, c, k _ _ d⟩)
  · exact .inr (.inr ⟨g, a, b, c, ht d⟩)
theorem toldA.ext {G G' : Hp} {t : Addr} (h : toldA G t) (k : ∀ b xs, G b = some (.tup xs) → G' b = some (.tup xs)) : toldA G' t := let ⟨v, e⟩ := h; ⟨v, k _ _ e⟩
section
variable {P : Program} {w : World} {K : PySem.W.Frag} {mg : Str → Option Value} {base : Heap} {C : Nat → Addr} {cT cN cW : Addr}
def spLW (T : List (Addr × Str)) : Sp := fun vs H Q _ => ∃ (a r : Addr) (ts : List Addr) (p : Int) (rs : List Road) (u v : V) (n : String) (o : Option (List V)), vs = [.ref a, u, v] ∧ NetAt H a r ts p rs ∧ NetOk p rs ∧ Tg H u n ∧ Wh H v o ∧ Tabs T H ∧
  ∀ H' l t1 t2, ExtN H H' → Tabs T H' → H' l = some (.lst [.ref t1, .ref t2]) → Said p u o toldA H' t1 → Said p u o toldB H' t2 → Q (.ref l) H'
set_option maxHeartbeats 4000000 in
theorem ok_lw {T : List (Addr × Str)} {f cR Pt fWd fMa fSa fPr fAr : Addr} {dWd dMa dSa dPr dAr : FuncData} {oc kV doc pm ct : Value} {od an : Option Addr} {osl : Array (Option Value)}
    (lk : K.lookup f = some ⟨oc, od, .func (PySem.W.fnOf "_law_words" "_law_words" (defArgs sLW) (defBody sLW) (defScope sLW) .none kV doc pm an (.ref cR) ct), osl⟩) (hcd : PySem.W.codeIn K (.ref cR) "_law_words" = true)
    (TB : TabB base mg cR Pt) (hmT : (Pt, qLW) ∈ T) (huT : ∀ p ∈ T, p.1 = Pt → p.2 = qLW) (Z : Cl K mg C cT cN cW) (mi : mg "isinstance" = none) (mV : mg "ValueError" = none)
    (DMa : Df K mg "_law_marks" sMarks ["_law_e"] fMa dMa) (DWd : Df K mg "_law_word" sWord ["_law_e"] fWd dWd) (DSa : Df K mg "_law_said" sSaid ["_law_call"] fSa dSa)
    (GPr : FnOk P w K mg base (L2.CX P w) 8 fPr dPr ["net", "goal", "shut"] (spPrices (C 1) (C 4))) (gPr : mg "prices_of" = some (.ref fPr)) (kPr : PySem.W.keepIn K (.ref fPr) = true) (kb2 : KBinds K dPr ["net", "goal", "shut"] ["shut"] gP2 gP2V)
    (GAr : FnOk P w K mg base (L2.CX P w) 8 fAr dAr ["net", "goal", "thing", "shut"] (spAre (C 1) (C 4))) (gAr : mg "are_prices" = some (.ref fAr)) (kAr : PySem.W.keepIn K (.ref fAr) = true) (kb3 : KBinds K dAr ["net", "goal", "thing", "shut"] ["shut"] gP3 gP3V) :
    FnOk P w K mg base CX0 12 f (PySem.W.fnOf "_law_words" "_law_words" (defArgs sLW) (defBody sLW) (defScope sLW) .none kV doc pm an (.ref cR) ct) ["_law_web", "_law_aim", "_law_closed"] (spLW T) := by
  have gW := Z.gW
  have GWd : Words P w K mg base 7 fWd dWd C cW := ok_words (k := 5) Z mi mV DMa DWd
  obtain ⟨ocS, odS, kVS, docS, pmS, anS, cdS, ctS, slS, rfl, lkS, hcS⟩ := DSa.F.ex
  refine fn_of (k := 11) (N := ["_law_web", "_law_aim", "_law_closed", "_law_found"]) lk hcd sc_sLW (fun vs H Q E h => ?_) (fun A outer s H vs Q E hr h => ?_)
  · obtain ⟨_, _, _, _, _, _, _, _, _, rfl, _⟩ := h
    rfl
  · obtain ⟨a, r, ts, p, rs, u, v, n, o, rfl, hN, ok, tu, wh, hT, q⟩ := h
    have hrW := hr.mono (show 8 ≤ 11 by decide)
    suffices hh : ∃ t, PSs (cxOf CX0 P w K mg base ["_law_web", "_law_aim", "_law_closed", "_law_found"] "_law_words" (defScope sLW) f (.ref cR) A outer s H E).nox (defBody sLW) t ∧ t { nx := fun _ H' => Q .non H', rt := Q } (L2.start ["_law_web", "_law_aim", "_law_closed", "_law_found"] [.ref a, u, v]) H from let ⟨t, ht, hq⟩ := hh; ⟨t, ht.nox, hq⟩
    refine ⟨_, (pss_cons (ps_set (i := 3) sc_sLW.nd rfl (.inl rfl) (pe_lst (pa_cons (pe_cut (LamX.pe_lamcall (T := T) (TT := TSaid C) (Ng := ["_law_call", "_law_e"]) (k := 9) (by rfl) DSa.g DSa.F.kp lkS hcS DSa.b scSaid rfl (.inl rfl) (said_gives GWd DWd hrW gW) TB rfl hmT huT hr (LamX.lamS_by (sc := defScope sLW) (by decide +kernel)) rfl (fun _ _ _ _ _ => rfl) (fun A outer s H E f2 c2 hr2 => pe_callK GPr (hr2.mono (by decide)) (by rfl) gPr kPr kb2 (passes_call (takes_of rfl rfl rfl rfl) fun _ _ _ _ h => h) (pa_cons (pv 0) (pa_cons (pv 1) pa_nil)) (pk_cons (pv 2) pk_nil)))) pa_nil)))
    (pss_one (ps_ret (pe_op op_cat (pv 3) (pe_lst (pa_cons (pe_cut (LamX.pe_lamcall (T := T) (TT := TSaid C) (Ng := ["_law_call", "_law_e"]) (k := 9) (by rfl) DSa.g DSa.F.kp lkS hcS DSa.b scSaid rfl (.inl rfl) (said_gives GWd DWd hrW gW) TB rfl hmT huT hr (LamX.lamS_by (sc := defScope sLW) (by decide +kernel)) rfl (fun _ _ _ _ _ => rfl) (fun A outer s H E f2 c2 hr2 => pe_callK GAr (hr2.mono (by decide)) (by rfl) gAr kAr kb3 (passes_call (takes_of rfl rfl rfl rfl) fun _ _ _ _ h => h) (pa_cons (pv 0) (pa_cons (pv 1) (pa_cons pe_non pa_nil))) (pk_cons (pv 2) pk_nil)))) pa_nil)))))), ?_⟩
    refine ⟨fun w1 G => ∃ t1, w1 = .ref t1 ∧ ExtN H G ∧ Tabs T G ∧ Said p u o toldA G t1, ⟨hT, fun G1 e1 T1 => ?_⟩, ?_⟩
    · refine ⟨.ref a, rfl, u, rfl, v, rfl, a, r, ts, p, rs, u, v, n, o, rfl, hN.ext e1, ok, tu.ext e1, wh.ext e1, fun eu G2 s2 => ?_, fun g eg eu es G2 s2 => ?_, fun g eg eu es G2 t s2 nt et => ?_⟩
      · exact ⟨1, by simp, rfl, rfl, fun G3 t s3 et => ⟨t, rfl, e1.trans (ExtN.of (s2.trans s3)), T1.ext (s2.trans s3), .inl ⟨eu, et⟩⟩⟩
      · exact ⟨4, by simp, rfl, rfl, fun G3 t s3 et => ⟨t, rfl, e1.trans (ExtN.of (s2.trans s3)), T1.ext (s2.trans s3), .inr (.inl ⟨g, eg, eu, es, et⟩)⟩⟩
      · exact ⟨by show 2 ≤ sizeLine; decide, fun b nb => ⟨b, rfl, e1.trans (ExtN.of (s2.trans (same_new nb))), T1.ext (s2.trans (same_new nb)), .inr (.inr ⟨g, eg, eu, es, _, upd_same⟩)⟩⟩
    rintro _ G ⟨t1, rfl, eG, TG, sd1⟩
    refine ⟨by show 1 ≤ sizeLine; decide, fun l1 nl1 => ?_⟩
    have z1 := same_new (H := G) (o := .lst [.ref t1]) nl1
    have e1 := eG.trans (ExtN.of z1)
    refine ⟨.ref l1, rfl, ?_⟩
    refine ⟨fun w2 G2 => ∃ t2, w2 = .ref t2 ∧ ExtN (upd G l1 (.lst [.ref t1])) G2 ∧ Tabs T G2 ∧ Said p u o toldB G2 t2, ⟨TG.ext z1, fun G1 e2 T1 => ?_⟩, ?_⟩
    · have e3 := e1.trans e2
      refine ⟨.ref a, rfl, u, rfl, v, rfl, a, r, ts, p, rs, u, v, n, o, rfl, hN.ext e3, ok, tu.ext e3, wh.ext e3, fun eu G2 s2 => ?_, fun g eg eu es G2 s2 => ?_, fun g eg eu es G2 s2 => ?_⟩
      · exact ⟨1, by simp, rfl, rfl, fun G3 t s3 et => ⟨t, rfl, e2.trans (ExtN.of (s2.trans s3)), T1.ext (s2.trans s3), .inl ⟨eu, et⟩⟩⟩
      · exact ⟨4, by simp, rfl, rfl, fun G3 t s3 et => ⟨t, rfl, e2.trans (ExtN.of (s2.trans s3)), T1.ext (s2.trans s3), .inr (.inl ⟨g, eg, eu, es, et⟩)⟩⟩
      · exact ⟨by show 2 ≤ sizeLine; decide, fun b nb => ⟨b, rfl, e2.trans (ExtN.of (s2.trans (same_new nb))), T1.ext (s2.trans (same_new nb)), .inr (.inr ⟨g, eg, eu, es, upd_same⟩)⟩⟩
    rintro _ G2 ⟨t2, rfl, eG2, TG2, sd2⟩
    have el1 : G2 l1 = some (.lst [.ref t1]) := eG2 _ _ upd_same fun _ q => nomatch q
    refine ⟨by show 1 ≤ sizeLine; decide, fun l2 nl2 => ?_⟩
    have z2 := same_new (H := G2) (o := .lst [.ref t2]) nl2
    refine ⟨l1, l2, _, _, rfl, rfl, z2 _ _ el1, upd_same, by show 2 ≤ sizeLine; decide, fun l3 nl3 => ?_⟩
    have z3 := same_new (H := upd G2 l2 (.lst [.ref t2])) (o := .lst ([.ref t1] ++ [.ref t2])) nl3
    have z23 := z2.trans z3
    have tE : ∀ b xs, G b = some (.tup xs) → (upd (upd G2 l2 (.lst [.ref t2])) l3 (.lst ([.ref t1] ++ [.ref t2]))) b = some (.tup xs) := fun b xs e => z23 _ _ (eG2 _ _ (z1 _ _ e) fun _ q => nomatch q)
    exact q _ l3 t1 t2 ((e1.trans eG2).trans (ExtN.of z23)) (TG2.ext z23) upd_same (sd1.ext tE fun h => h.ext tE) (sd2.ext (fun b xs e => z23 _ _ e) fun h => z23 _ _ h)
end
end Wy

namespace Wy
open PySem PySem.Spec PyProof.Rows L2 RZ LamX
abbrev sLaw : Stmt := topS 57
theorem scLaw : FnScope ["_law_script", "_law_k", "_law_state_here", "_law_web", "_law_aim", "_law_others", "_law_spot", "_law_some", "_law_closed", "_law_kept", "_law_words_here", "_law_bad"] ["_law_script"] (defScope sLaw) := ⟨rfl, rfl, rfl, by decide +kernel, rfl, by decide +kernel, by decide +kernel⟩

theorem sq_stays {K : PySem.W.Frag} {H H1 : Hp} {a z : Addr} {xs : List V} (h : SqL K H a xs) (s : Same H H1) (nz : H z = none) : ∀ G, Keep z H1 G → SqL K G a xs := fun G k => by
  rcases h with (h | ⟨o, h⟩) | h
  · exact .inl (.inl (k _ _ (s _ _ h) (ne_of_none h nz)))
  · exact .inl (.inr ⟨o, k _ _ (s _ _ h) (ne_of_none h nz)⟩)
  · exact .inr h
theorem tabs_stay {T : List (Addr × Str)} {H H1 : Hp} {z : Addr} (h : LamX.Tabs T H) (s : Same H H1) (nz : H z = none) : ∀ G, Keep z H1 G → LamX.Tabs T G := fun G k p hp => by
  obtain ⟨ps, h1, h2, h3⟩ := h p hp
  refine ⟨ps, k _ _ (s _ _ h1) (ne_of_none h1 nz), h2, fun pos cv hc => ?_⟩
  obtain ⟨c, e1, e2⟩ := h3 pos cv hc
  exact ⟨c, e1, k _ _ (s _ _ e2) (ne_of_none e2 nz)⟩
theorem said_two {K : PySem.W.Frag} {G : Hp} {l t1 t2 : Addr} {s : Str} (el : G l = some (.lst [.ref t1, .ref t2])) (e1 : G t1 = some (.tup [.str s])) (e2 : G t2 = some (.tup [.str s])) : Dp K G (.ref l) (.list [.tuple [.str s], .tuple [.str s]]) :=
  .lst (SqL.of el) (.cons (.tup (SqT.of e1) (.cons (.str _) .nil)) (.cons (.tup (SqT.of e2) (.cons (.str _) .nil)) .nil))
section
variable {P : Program} {w : World} {K : PySem.W.Frag} {mg : Str → Option Value} {base : Heap}
set_option maxHeartbeats 8000000 in
theorem law_reads {fL fLW fMy fOd fSt fTk fNe a Pt : Addr} {dLW dMy dOd dSt dTk dNe : FuncData} {cdv : Value} {s : Shared} {H : Hp} {ns : List Int}
    (GLW : FnOk P w K mg base CX0 12 fLW dLW ["_law_web", "_law_aim", "_law_closed"] (spLW [(Pt, qLW)])) (gLW : mg "_law_words" = some (.ref fLW)) (kLW : PySem.W.keepIn K (.ref fLW) = true) (bLW : Binds K dLW ["_law_web", "_law_aim", "_law_closed"] [])
    (DMy : Df K mg "_law_may_shut" sMay ["_law_web", "_law_aim", "_law_what"] fMy dMy) (GMy : FnOk P w K mg base CX0 8 fMy dMy ["_law_web", "_law_aim", "_law_what"] (spMay K))
    (DOd : Df K mg "_law_odd" sOdd ["_law_state_here"] fOd dOd) (GOd : FnOk P w K mg base CX0 8 fOd dOd ["_law_state_here"] (spOdd K))
    (DSt : Df K mg "_law_state" sState ["_law_script", "_law_k"] fSt dSt) (GSt : FnOk P w K mg base CX0 8 fSt dSt ["_law_script", "_law_k"] (spState K)) (DK : Df K mg "_law_take" sTake ["_law_state_here", "_law_much"] fTk dTk) (GK : FnOk P w K mg base CX0 8 fTk dTk ["_law_state_here", "_law_much"] spTake)
    (DNe : Df K mg "_law_net" sNet ["_law_state_here", "_law_most", "_law_roads"] fNe dNe) (GNe : FnOk P w K mg base CX0 8 fNe dNe ["_law_state_here", "_law_most", "_law_roads"] spNet)
    (mR : mg "range" = none) (mMx : mg "max" = none) (mMn : mg "min" = none) (ml : mg "len" = none) (mT : mg "tuple" = none) (mLi : mg "list" = none) (mRe : mg "repr" = none)
    (hr : Room 12 (callerA.deeper (envOfC "law" (defScope sLaw) s.heap.objs.size fL cdv))) (hPt : H Pt = some (.tbl #[])) (hS : SqL K H a (ns.map V.int)) :
    ∃ t, PSs (cxOf CX0 P w K mg base ["_law_script", "_law_k", "_law_state_here", "_law_web", "_law_aim", "_law_others", "_law_spot", "_law_some", "_law_closed", "_law_kept", "_law_words_here", "_law_bad"] "law" (defScope sLaw) fL cdv callerA [] s H E0).nox (defBody sLaw) t ∧ t { nx := fun _ _ => V.non = .bl true, rt := fun v _ => v = .bl true } (L2.start ["_law_script", "_law_k", "_law_state_here", "_law_web", "_law_aim", "_law_others", "_law_spot", "_law_some", "_law_closed", "_law_kept", "_law_words_here", "_law_bad"] [.ref a]) H := by
  refine ⟨_, (pss_cons (ps_for PassesOwn.never rfl (pi_range1 (by rfl) mR (pa_cons (pe_callB (call_max2 rfl) (by rfl) mMx (by decide +kernel) (pa_cons pe_int (pa_cons (pe_callB (call_min2 rfl) (by rfl) mMn (by decide +kernel) (pa_cons (pe_callB call_len_seq (by rfl) ml PySem.boot_len (pa_cons (pv 0) pa_nil)) (pa_cons pe_int pa_nil))) pa_nil))) pa_nil)) (pg_name (i := 1) scLaw.nd rfl (.inl rfl)) (pss_cons (ps_set (i := 2) scLaw.nd rfl (.inl rfl) (pe_call GSt (hr.mono (by decide)) (by rfl) DSt.g DSt.F.kp DSt.b .nil pass0 (pa_cons (pv 0) (pa_cons (pv 1) pa_nil))))
    (pss_cons (ps_set (i := 3) scLaw.nd rfl (.inl rfl) (pe_call GNe (hr.mono (by decide)) (by rfl) DNe.g DNe.F.kp DNe.b .nil pass0 (pa_cons (pv 2) (pa_cons pe_int (pa_cons pe_int pa_nil)))))
    (pss_cons (ps_set (i := 4) scLaw.nd rfl (.inr rfl) (pe_call GK (hr.mono (by decide)) (by rfl) DK.g DK.F.kp DK.b .nil pass0 (pa_cons (pv 2) (pa_cons (pe_ix (ix_tupK (K := K) rfl) (pv 3) pe_int (fun _ _ => rfl)) pa_nil))))
    (pss_cons (ps_set (i := 5) scLaw.nd rfl (.inl rfl) (pe_callTy call_tuple_of (by rfl) mT (by decide +kernel) (pa_cons (pe_lc (own := [("_law_spot", 6)]) (g := gName 6) rfl scLaw.nd (pi_range1 (by rfl) mR (pa_cons (pe_ix (ix_tupK (K := K) rfl) (pv 3) pe_int (fun _ _ => rfl)) pa_nil)) (blkOk_by (N := ["_law_script", "_law_k", "_law_state_here", "_law_web", "_law_aim", "_law_others", "_law_spot", "_law_some", "_law_closed", "_law_kept", "_law_words_here", "_law_bad"]) (sc := defScope sLaw) (by decide +kernel)) (fun _ _ _ _ _ => pg_name (i := 6) scLaw.nd rfl (.inl rfl)) (fun _ _ _ _ _ => pts_one (pt_cmpR op_ne (pv 6) (pv 4) (nomark _))) (fun _ _ _ _ _ => pv 6)) pa_nil)))
    (pss_cons (ps_set (i := 7) scLaw.nd rfl (.inl rfl) (pe_lst (pa_cons (pv 5) (pa_cons (pe_backT (pv 5)) (pa_cons (pe_op op_catB (pv 5) (pe_slice sl_tupB (pv 5) (po_some (pe_un un_neg pe_int)) po_none)) (pa_cons (pe_callTy call_list_of (by rfl) mLi (by decide +kernel) (pa_cons (pv 5) pa_nil)) (pa_cons (pe_tup (pa_cons (pv 4) pa_nil)) (pa_cons (pe_op op_catB (pv 5) (pe_tup (pa_cons (pv 4) pa_nil))) (pa_cons (pe_tup (pa_cons (pe_ix (ix_tupK (K := K) rfl) (pv 3) pe_int (fun _ _ => rfl)) pa_nil)) (pa_cons (pe_tup (pa_cons (pe_un un_neg pe_int) pa_nil)) pa_nil))))))))))
    (pss_cons (ps_set (i := 7) scLaw.nd rfl (.inl rfl) (pe_op op_cat (pv 7) (pe_lst (pa_cons (pe_tup (pa_cons pe_bl pa_nil)) (pa_cons (pe_tup (pa_cons pe_non pa_nil)) (pa_cons pe_non (pa_cons pe_int (pa_cons pe_str (pa_cons (pe_disp (pps_cons pe_int pe_int pps_nil) (by rfl) (by rfl) (fun z => by cases z) (by decide)) (pa_cons (pe_tup (pa_cons pe_int (pa_cons pe_int pa_nil))) (pa_cons (pe_tup (pa_cons pe_int (pa_cons pe_int pa_nil))) (pa_cons (pe_call GOd (hr.mono (by decide)) (by rfl) DOd.g DOd.F.kp DOd.b .nil pass0 (pa_cons (pv 2) pa_nil)) (pa_cons (pe_call GOd (hr.mono (by decide)) (by rfl) DOd.g DOd.F.kp DOd.b .nil pass0 (pa_cons (pv 2) pa_nil)) pa_nil)))))))))))))
    (pss_one (ps_for PassesOwn.never rfl (pi_list (pv 7)) (pg_name (i := 8) scLaw.nd rfl (.inl rfl)) (pss_cons (ps_par (i := 9) (j := 10) (by rfl) scLaw.nd rfl rfl (by decide) rfl rfl (pa_cons (pe_callB (call_reprD (by rfl) hr.units) (by rfl) mRe (by decide +kernel) (pa_cons (pe_tup (pa_cons (pv 3) (pa_cons (pv 8) pa_nil))) pa_nil)) (pa_cons (pe_call GLW hr (by rfl) gLW kLW bLW .nil pass0 (pa_cons (pv 3) (pa_cons (pv 4) (pa_cons (pv 8) pa_nil)))) pa_nil)) (by rfl))
    (C8.pss_cut (ps_if (pt_val (pe_call GMy (hr.mono (by decide)) (by rfl) DMy.g DMy.F.kp DMy.b .nil pass0 (pa_cons (pv 3) (pa_cons (pv 4) (pa_cons (pv 8) pa_nil))))) (pss_one (ps_if (PW.pt (pw_or (pt_cmpR op_ne (pe_ix (ix_tupK (K := K) rfl) (pe_ix ix_list (pv 10) pe_int (fun _ _ => rfl)) pe_int (fun _ _ => rfl)) pe_str (nomark _)) (pw_or1 (pt_cmpR (op_neD hr.units) (pe_ix ix_list (pv 10) pe_int (fun _ _ => rfl)) (pe_tup (pa_cons pe_str (pa_cons pe_bl pa_nil))) (nomark _))))) (pss_one (ps_ret pe_bl)) pss_nil)) (pss_one (ps_if (pt_cmpR (op_neD hr.units) (pv 10) (pe_op op_rep (pe_lst (pa_cons (pe_tup (pa_cons pe_str pa_nil)) pa_nil)) pe_int) (nomark _)) (pss_one (ps_ret pe_bl)) pss_nil)))
    (pss_cons (ps_for PassesOwn.never rfl (pi_list (pe_lst (pa_cons (pe_un un_neg pe_int) (pa_cons (pe_ix (ix_tupK (K := K) rfl) (pv 3) pe_int (fun _ _ => rfl)) (pa_cons pe_non (pa_cons pe_bl (pa_cons pe_str (pa_cons (pe_tup (pa_cons pe_int pa_nil)) pa_nil)))))))) (pg_name (i := 11) scLaw.nd rfl (.inl rfl)) (pss_one (ps_if (pt_cmpR (op_neD hr.units) (pe_call GLW hr (by rfl) gLW kLW bLW .nil pass0 (pa_cons (pv 3) (pa_cons (pv 11) (pa_cons (pv 8) pa_nil)))) (pe_op op_rep (pe_lst (pa_cons (pe_tup (pa_cons pe_str pa_nil)) pa_nil)) pe_int) (nomark _)) (pss_one (ps_ret pe_bl)) pss_nil)))
    (pss_one (ps_if (pt_cmpR op_ne (pe_callB (call_reprD (by rfl) hr.units) (by rfl) mRe (by decide +kernel) (pa_cons (pe_tup (pa_cons (pv 3) (pa_cons (pv 8) pa_nil))) pa_nil)) (pv 9) (nomark _)) (pss_one (ps_ret pe_bl)) pss_nil))))))))))))))
    (pss_one (ps_ret pe_bl))), ?_⟩
  have len0 : (0 : Int) ≤ ((ns.map V.int).length : Int) := Int.natCast_nonneg _
  refine ⟨.ref a, rfl, a, _, rfl, .inl hS, _, 4, rfl, 1, _, rfl, _, rfl, by split <;> split <;> omega, by split <;> split <;> omega, ?_⟩
  have T0 : LamX.Tabs [(Pt, qLW)] H := fun p hp => by
    rw [List.mem_singleton.mp hp]
    exact LamX.TabS.nil hPt
  refine for_range (lo := 0) (fun _ σ H' => ∃ y1 y2 y3 y4 y5 y7 y8 y9 y10 y11 : Option V, σ = [some (.ref a), y1, y2, y3, y4, y5, none, y7, y8, y9, y10, y11] ∧ LamX.Tabs [(Pt, qLW)] H' ∧ SqL K H' a (ns.map V.int)) ⟨none, none, none, none, none, none, none, none, none, none, rfl, T0, hS⟩ (fun i σ H' hi h => ?_) (fun σ H' h => rfl)
  obtain ⟨y1, y2, y3, y4, y5, y7, y8, y9, y10, y11, rfl, hTb, hSq⟩ := h
  refine ⟨.ref a, rfl, .int (0 + (i : Int)), rfl, a, ns, i, (by show [V.ref a, V.int (0 + (i : Int))] = _; rw [Int.zero_add]), hSq, fun Hz z sz nz stz => ?_⟩
  refine ⟨.ref z, rfl, z, 10, 12, rfl, stz, by decide, by decide, by decide, by decide, fun Hn x r ts p rs kn stn hN ok => ?_⟩
  have p1 := ok.p1
  have p2 := ok.p2
  refine ⟨.ref z, rfl, .ref x, rfl, x, _, 0, _, rfl, rfl, SqT.of hN.1, rfl, z, p, rfl, stn, by omega, by omega, fun Hg g kg stg g0 g1 => ?_⟩
  have hNg := hN.keep (kg.tups stn)
  -- the others
  refine ⟨.ref x, rfl, x, _, 0, _, rfl, rfl, SqT.of hNg.1, rfl, p, rfl, by omega, by omega, fun D nD => ?_⟩
  refine lc_range (lo := 0) (n := p.toNat) (fun i G => Same Hg G ∧ ∃ ms : List Int, G D = some (.lst (ms.map V.int)) ∧ (∀ m ∈ ms, 0 ≤ m ∧ m < i ∧ m ≠ g) ∧ ms.length ≤ i) ⟨same_new nD, [], upd_same, (fun _ h => nomatch h), Nat.le_refl _⟩ (fun e G he h => ?_) (fun G h => ?_)
  · obtain ⟨sG, ms, eD, hms, hl⟩ := h
    refine ⟨rfl, .int (0 + (e : Int)), rfl, .int g, rfl, rfl, _, rfl, ite2 (fun hne => ?_) (fun hne => ?_)⟩
    · have hne : (e : Int) ≠ g := fun k => by
        rw [← k, Int.zero_add, decide_eq_true rfl] at hne
        cases hne
      refine ⟨.int (0 + (e : Int)), rfl, _, eD, ?_, Same.upd_lst sG nD, ms ++ [(e : Int)], ?_, fun m hm => ?_, ?_⟩
      · rw [List.length_map]
        exact small1000 (by omega)
      · rw [upd_same, List.map_append, Int.zero_add]
        rfl
      · rcases List.mem_append.mp hm with h | h
        · have := hms m h
          omega
        · rw [List.mem_singleton.mp h]
          omega
      · rw [List.length_append, List.length_singleton]
        omega
    · exact ⟨sG, ms, eD, fun m hm => by have := hms m hm; omega, by omega⟩
  obtain ⟨sG, mo, eD, hms, hl⟩ := h
  refine ⟨D, _, rfl, .inl ⟨SqL.of eD, fun tO ntO => ?_⟩⟩
  have sO := sG.trans (same_new (H := G) (o := .tup (mo.map V.int)) ntO)
  have etO : (upd G tO (.tup (mo.map V.int))) tO = some (.tup (mo.map V.int)) := upd_same
  generalize upd G tO (.tup (mo.map V.int)) = H4 at sO etO ⊢
  have hN4 : NetAt H4 x r ts p rs := hNg.keep fun b xs h => sO _ _ h
  have st4 := stg.same sO
  have k4 : Keep z Hz H4 := kn.trans (kg.trans (.of sO))
  have mo100 : ∀ m ∈ mo, m.natAbs ≤ 100 := fun m hm => by have := hms m hm; omega
  have lmo : mo.length ≤ 10 := by omega
  have aO : ∀ {G : Hp}, ∀ y ∈ mo.map V.int, At G y := fun {G} => walk_at mo100
  have lO : (mo.map V.int).length ≤ 10 := by rw [List.length_map]; exact lmo
  have aI : ∀ {G : Hp} {i : Int}, i.natAbs ≤ 100 → At G (.int i) := fun h => .int (small_of (Nat.le_trans h (by decide)))
  -- things, first
  refine ⟨.ref tO, rfl, .ref tO, rfl, tO, _, rfl, SqT.of etO, fun b2 n2 => ?_⟩
  have s2 := same_new (H := H4) (o := .tup (mo.map V.int).reverse) n2
  have e2 : (upd H4 b2 (.tup (mo.map V.int).reverse)) b2 = some (.tup (mo.map V.int).reverse) := upd_same
  generalize upd H4 b2 (.tup (mo.map V.int).reverse) = H5 at s2 e2 ⊢
  refine ⟨.ref tO, rfl, .ref tO, rfl, 1, rfl, _, rfl, tO, _, rfl, s2 _ _ etO, fun b3 H6 s3 e3 => ?_⟩
  refine ⟨tO, b3, _, _, rfl, rfl, s3 _ _ (s2 _ _ etO), e3, ?_, fun b4 H7 s4 e4 => ?_⟩
  · have := cutV_length (mo.map V.int) (some (-1)) none
    omega
  have s24 := s2.trans (s3.trans s4)
  refine ⟨.ref tO, rfl, tO, _, rfl, .inr (SqT.of (s24 _ _ etO)), fun b5 n5 => ?_⟩
  have s5 := same_new (H := H7) (o := .lst (mo.map V.int)) n5
  have e5 : (upd H7 b5 (.lst (mo.map V.int))) b5 = some (.lst (mo.map V.int)) := upd_same
  have z5 : b5 ≠ z := ((st4.same s24).ne n5).symm
  generalize upd H7 b5 (.lst (mo.map V.int)) = H8 at s5 e5 ⊢
  refine ⟨.int g, rfl, by show 1 ≤ sizeLine; decide, fun b6 n6 => ?_⟩
  have s6 := same_new (H := H8) (o := .tup [.int g]) n6
  have e6 : (upd H8 b6 (.tup [.int g])) b6 = some (.tup [.int g]) := upd_same
  generalize upd H8 b6 (.tup [.int g]) = H9 at s6 e6 ⊢
  refine ⟨.ref tO, rfl, .int g, rfl, by show 1 ≤ sizeLine; decide, fun b7 n7 => ?_⟩
  have s7 := same_new (H := H9) (o := .tup [.int g]) n7
  refine ⟨tO, b7, _, _, rfl, rfl, s7 _ _ (s6 _ _ (s5 _ _ (s24 _ _ etO))), upd_same, ?_, fun b8 H10 s8 e8 => ?_⟩
  · show _ + 1 ≤ 1000
    omega
  have s28 := s24.trans (s5.trans (s6.trans (s7.trans s8)))
  refine ⟨.ref x, rfl, x, _, 0, _, rfl, rfl, SqT.of (s28 _ _ hN4.1), rfl, by show 1 ≤ sizeLine; decide, fun b9 n9 => ?_⟩
  have s9 := same_new (H := H10) (o := .tup [.int p]) n9
  have e9 : (upd H10 b9 (.tup [.int p])) b9 = some (.tup [.int p]) := upd_same
  generalize upd H10 b9 (.tup [.int p]) = H11 at s9 e9 ⊢
  refine ⟨1, rfl, by show 1 ≤ sizeLine; decide, fun b10 n10 => ?_⟩
  have s10 := same_new (H := H11) (o := .tup [.int (-1)]) n10
  have e10 : (upd H11 b10 (.tup [.int (-1)])) b10 = some (.tup [.int (-1)]) := upd_same
  generalize upd H11 b10 (.tup [.int (-1)]) = H12 at s10 e10 ⊢
  refine ⟨by show 8 ≤ sizeLine; decide, fun L1 nL1 => ?_⟩
  have t1 := same_new (H := H12) (o := .lst [.ref tO, .ref b2, .ref b4, .ref b5, .ref b6, .ref b8, .ref b9, .ref b10]) nL1
  have eL1 : (upd H12 L1 (.lst [.ref tO, .ref b2, .ref b4, .ref b5, .ref b6, .ref b8, .ref b9, .ref b10])) L1 = some (.lst [.ref tO, .ref b2, .ref b4, .ref b5, .ref b6, .ref b8, .ref b9, .ref b10]) := upd_same
  have zL1 : L1 ≠ z := ((((st4.same s28).same s9).same s10).ne nL1).symm
  generalize upd H12 L1 (.lst [.ref tO, .ref b2, .ref b4, .ref b5, .ref b6, .ref b8, .ref b9, .ref b10]) = H13 at t1 eL1 ⊢
  -- things, next
  refine ⟨.ref L1, rfl, by show 1 ≤ sizeLine; decide, fun c1 m1 => ?_⟩
  have u1 := same_new (H := H13) (o := .tup [.bl true]) m1
  have f1 : (upd H13 c1 (.tup [.bl true])) c1 = some (.tup [.bl true]) := upd_same
  generalize upd H13 c1 (.tup [.bl true]) = H14 at u1 f1 ⊢
  refine ⟨by show 1 ≤ sizeLine; decide, fun c2 m2 => ?_⟩
  have u2 := same_new (H := H14) (o := .tup [.non]) m2
  have f2 : (upd H14 c2 (.tup [.non])) c2 = some (.tup [.non]) := upd_same
  generalize upd H14 c2 (.tup [.non]) = H15 at u2 f2 ⊢
  refine fun c3 m3 => ⟨upd_same, [(Sum.inl 0, .int 1)], rfl, by decide, ?_⟩
  have u3 : Same H15 (upd (upd H15 c3 (.dK [])) c3 (.dK (mergeK [] [(Sum.inl 0, V.int 1)]))) := Same.upd_lst (same_new m3) m3
  have f3 : (upd (upd H15 c3 (.dK [])) c3 (.dK (mergeK [] [(Sum.inl 0, V.int 1)]))) c3 = some (.dK [(Sum.inl 0, .int 1)]) := upd_same
  generalize upd (upd H15 c3 (.dK [])) c3 (.dK (mergeK [] [(Sum.inl 0, V.int 1)])) = H16 at u3 f3 ⊢
  refine ⟨by show 2 ≤ sizeLine; decide, fun c4 m4 => ?_⟩
  have u4 := same_new (H := H16) (o := .tup [.int 0, .int 0]) m4
  have f4 : (upd H16 c4 (.tup [.int 0, .int 0])) c4 = some (.tup [.int 0, .int 0]) := upd_same
  generalize upd H16 c4 (.tup [.int 0, .int 0]) = H17 at u4 f4 ⊢
  refine ⟨by show 2 ≤ sizeLine; decide, fun c5 m5 => ?_⟩
  have u5 := same_new (H := H17) (o := .tup [.int 1, .int 0]) m5
  have f5 : (upd H17 c5 (.tup [.int 1, .int 0])) c5 = some (.tup [.int 1, .int 0]) := upd_same
  generalize upd H17 c5 (.tup [.int 1, .int 0]) = H18 at u5 f5 ⊢
  have w3 := u3.trans (u4.trans u5)
  have w1 := u1.trans (u2.trans w3)
  have w10 := s9.trans (s10.trans (t1.trans w1))
  have w0 := s28.trans w10
  have st18 := st4.same w0
  refine ⟨.ref z, rfl, z, rfl, st18, fun H19 v1 k19 st19 tx1 => ?_⟩
  refine ⟨.ref z, rfl, z, rfl, st19, fun H20 v2 k20 st20 tx2 => ?_⟩
  have kk := k19.trans k20
  refine ⟨by show 10 ≤ sizeLine; decide, fun L2 nL2 => ?_⟩
  have t2 := same_new (H := H20) (o := .lst [.ref c1, .ref c2, .non, .int 0, .str "0", .ref c3, .ref c4, .ref c5, v1, v2]) nL2
  refine ⟨L1, L2, _, _, rfl, rfl, t2 _ _ (kk _ _ (w1 _ _ eL1) zL1), upd_same, by show 18 ≤ sizeLine; decide, fun L nL => ⟨.ref L, rfl, L, rfl, ⟨_, SqL.of upd_same⟩, ?_⟩⟩
  have t3 := same_new (H := upd H20 L2 (.lst [.ref c1, .ref c2, .non, .int 0, .str "0", .ref c3, .ref c4, .ref c5, v1, v2])) (o := .lst ([.ref tO, .ref b2, .ref b4, .ref b5, .ref b6, .ref b8, .ref b9, .ref b10] ++ [.ref c1, .ref c2, .non, .int 0, .str "0", .ref c3, .ref c4, .ref c5, v1, v2])) nL
  have kF : Keep z H18 _ := kk.trans (.of (t2.trans t3))
  have kF2 : Keep z H20 _ := Keep.of (t2.trans t3)
  have stF := st20.same (t2.trans t3)
  have eL : (upd (upd H20 L2 (.lst [.ref c1, .ref c2, .non, .int 0, .str "0", .ref c3, .ref c4, .ref c5, v1, v2])) L (.lst ([.ref tO, .ref b2, .ref b4, .ref b5, .ref b6, .ref b8, .ref b9, .ref b10] ++ [.ref c1, .ref c2, .non, .int 0, .str "0", .ref c3, .ref c4, .ref c5, v1, v2]))) L = some (.lst ([.ref tO, .ref b2, .ref b4, .ref b5, .ref b6, .ref b8, .ref b9, .ref b10] ++ [.ref c1, .ref c2, .non, .int 0, .str "0", .ref c3, .ref c4, .ref c5, v1, v2])) := upd_same
  generalize upd (upd H20 L2 (.lst [.ref c1, .ref c2, .non, .int 0, .str "0", .ref c3, .ref c4, .ref c5, v1, v2])) L (.lst ([.ref tO, .ref b2, .ref b4, .ref b5, .ref b6, .ref b8, .ref b9, .ref b10] ++ [.ref c1, .ref c2, .non, .int 0, .str "0", .ref c3, .ref c4, .ref c5, v1, v2])) = H7' at kF kF2 stF eL ⊢
  have kT := kF.tups st18
  have aS : ∀ {G : Hp}, At G (.str "0") := .str ⟨sh_text (by decide +kernel), by rw [PyData.canLay0]; decide +kernel⟩
  have each : ∀ v ∈ ([.ref tO, .ref b2, .ref b4, .ref b5, .ref b6, .ref b8, .ref b9, .ref b10] ++ [.ref c1, .ref c2, .non, .int 0, .str "0", .ref c3, .ref c4, .ref c5, v1, v2] : List V), Thing K H7' v := fun v hv => by
    simp only [List.cons_append, List.nil_append, List.mem_cons, List.not_mem_nil, or_false] at hv
    have w4 := s5.trans (s6.trans (s7.trans (s8.trans w10)))
    rcases hv with rfl | rfl | rfl | rfl | rfl | rfl | rfl | rfl | rfl | rfl | rfl | rfl | rfl | rfl | rfl | rfl | rfl | rfl
    · exact thing_tup (kT _ _ (w0 _ _ etO)) aO (by omega)
    · exact thing_tup (kT _ _ (w4 _ _ (s4 _ _ (s3 _ _ e2)))) (fun y hy => aO y (List.mem_reverse.mp hy)) (by rw [List.length_reverse]; omega)
    · refine thing_tup (kT _ _ (w4 _ _ e4)) (fun y hy => ?_) ?_
      · rcases List.mem_append.mp hy with h | h
        · exact aO y h
        · exact aO y (cut_mem h)
      · have := cutV_length (mo.map V.int) (some (-1)) none
        rw [List.length_append]
        omega
    · exact thing_lst (kF _ _ ((s6.trans (s7.trans (s8.trans w10))) _ _ e5) z5) aO (by omega)
    · exact thing_tup (kT _ _ ((s7.trans (s8.trans w10)) _ _ e6)) (all1 (aI (by omega))) (by decide : 1 ≤ 40)
    · refine thing_tup (kT _ _ (w10 _ _ e8)) (fun y hy => ?_) ?_
      · rcases List.mem_append.mp hy with h | h
        · exact aO y h
        · exact all1 (aI (by omega)) y h
      · rw [List.length_append, List.length_singleton]
        omega
    · exact thing_tup (kT _ _ ((s10.trans (t1.trans w1)) _ _ e9)) (all1 (aI (by omega))) (by decide : 1 ≤ 40)
    · exact thing_tup (kT _ _ ((t1.trans w1) _ _ e10)) (all1 (aI (by decide))) (by decide : 1 ≤ 40)
    · exact thing_tup (kT _ _ ((u2.trans w3) _ _ f1)) (all1 (.bl _)) (by decide : 1 ≤ 40)
    · exact thing_tup (kT _ _ (w3 _ _ f2)) (all1 .non) (by decide : 1 ≤ 40)
    · exact thing_flat .non (fun _ q => nomatch q)
    · exact thing_flat (aI (by decide)) (fun _ q => nomatch q)
    · exact thing_flat aS (fun _ q => nomatch q)
    · exact (thingS_dct (kvs := [(.int 0, .int 1)]) st18 ((u4.trans u5) _ _ f3) (fun G e => .one e)).keep kF |>.now
    · exact thing_tup (kT _ _ (u5 _ _ f4)) (all2 (aI (by decide)) (aI (by decide))) (by decide : 2 ≤ 40)
    · exact thing_tup (kT _ _ f5) (all2 (aI (by decide)) (aI (by decide))) (by decide : 2 ≤ 40)
    · exact (tx1.st.keep k20).keep kF2 |>.now
    · exact tx2.st.keep kF2 |>.now
  have hN7 : NetAt H7' x r ts p rs := (hN4.keep fun b xs h => w0 _ _ h).keep kT
  have kz7 : Keep z Hz H7' := k4.trans ((Keep.of w0).trans kF)
  have T7 := tabs_stay hTb sz nz _ kz7
  have S7 := sq_stays hSq sz nz _ kz7
  obtain ⟨xs, hxs⟩ : ∃ xs, xs = ([.ref tO, .ref b2, .ref b4, .ref b5, .ref b6, .ref b8, .ref b9, .ref b10] ++ [.ref c1, .ref c2, .non, .int 0, .str "0", .ref c3, .ref c4, .ref c5, v1, v2] : List V) := ⟨_, rfl⟩
  rw [← hxs] at eL each
  refine for_list (xs := xs) (fun _ σ G => ∃ y8 y9 y10 y11 : Option V, σ = [some (.ref a), some (.int (0 + (i : Int))), some (.ref z), some (.ref x), some (.int g), some (.ref tO), none, some (.ref L), y8, y9, y10, y11] ∧ ExtN H7' G ∧ Tabs [(Pt, qLW)] G) ⟨_, _, _, _, rfl, ExtN.refl _, T7⟩ (fun _ σ G _ h => ?_) (fun e v σ G hv h => ?_) (fun σ G h => ?_)
  · obtain ⟨_, _, _, _, rfl, ex, _⟩ := h
    exact SqL.of (ex _ _ eL fun _ q => nomatch q)
  · obtain ⟨y8, y9, y10, y11, rfl, ex, Tb⟩ := h
    have th := (each v (List.mem_of_getElem? hv)).ext ex
    have hNG := hN7.ext ex
    obtain ⟨d, sh, dr⟩ := thing_shownE th hNG ok
    obtain ⟨o, wh, hx, _⟩ := th
    have ing : isIn (.int g) 0 (p - 1) = true := isIn_of g0 (by omega)
    refine ⟨.ref x, rfl, v, rfl, by show 2 ≤ sizeLine; decide, fun q1 nq1 => ⟨_, d, rfl, dr _ q1 (ExtN.of (same_new nq1)) upd_same, sh, ?_⟩⟩
    have x1 := ExtN.of (same_new (H := G) (o := .tup [.ref x, v]) nq1)
    have Tb1 := Tb.ext (same_new (H := G) (o := .tup [.ref x, v]) nq1)
    generalize upd G q1 (.tup [.ref x, v]) = G1 at x1 Tb1 ⊢
    refine ⟨.ref x, rfl, .int g, rfl, v, rfl, x, r, ts, p, rs, .int g, v, _, o, rfl, hNG.ext x1, ok, .int g, wh.ext x1, Tb1, fun G2 l w1 w2 e2 T2 el sd1 sd2 => ?_⟩
    have x2 := x1.trans e2
    refine ⟨_, _, rfl, fun σ G' => σ = [some (.ref a), some (.int (0 + (i : Int))), some (.ref z), some (.ref x), some (.int g), some (.ref tO), none, some (.ref L), some v, some (.str d.shown), some (.ref l), y11] ∧ ExtN G G' ∧ Tabs [(Pt, qLW)] G', ?_, ?_⟩
    · refine ⟨.ref x, rfl, .int g, rfl, v, rfl, x, r, ts, p, rs, g, v, o, rfl, hNG.ext x2, wh.ext x2, (fun xs ee => let ⟨k0, ds, k1, k2, k3⟩ := hx xs ee; ⟨k0, ds, dpAll_ext x2 k1, k2, k3⟩), fun G3 s3 => ⟨_, rfl, ite2 (fun hs => ?_) (fun hs => ?_)⟩⟩
      · have hs : shutO p g o = true := hs
        have ew1 : toldA G2 w1 := by
          rcases sd1 with ⟨h, _⟩ | ⟨g', eg, _, h, _⟩ | ⟨g', eg, _, _, h⟩
          · rw [ing] at h
            cases h
          · cases eg
            rw [hs] at h
            cases h
          · exact h
        have ew2 : toldB G2 w2 := by
          rcases sd2 with ⟨h, _⟩ | ⟨g', eg, _, h, _⟩ | ⟨g', eg, _, _, h⟩
          · rw [ing] at h
            cases h
          · cases eg
            rw [hs] at h
            cases h
          · exact h
        obtain ⟨vt, ew1⟩ := ew1
        refine ⟨.ref l, rfl, l, _, 0, _, rfl, rfl, SqL.of (s3 _ _ el), rfl, w1, _, 0, _, rfl, rfl, SqT.of (s3 _ _ ew1), rfl, rfl, _, rfl, ?_⟩
        rw [decide_eq_true rfl]
        refine iteF ?_
        refine ⟨.ref l, rfl, l, _, 1, _, rfl, rfl, SqL.of (s3 _ _ el), rfl, by show 2 ≤ sizeLine; decide, fun t5 n5 => ?_⟩
        have z5' := same_new (H := G3) (o := .tup [.str "told", .bl false]) n5
        refine ⟨.tuple [.str "told", .bool false], .tuple [.str "told", .bool false], .tup (SqT.of (z5' _ _ (s3 _ _ ew2))) (.cons (.str _) (.cons (.bl _) .nil)), .tup (SqT.of upd_same) (.cons (.str _) (.cons (.bl _) .nil)), by decide +kernel, by decide +kernel, _, rfl, ?_⟩
        have ev : PyData.eqv (.tuple [.str "told", .bool false]) (.tuple [.str "told", .bool false]) = true := by decide +kernel
        rw [ev]
        exact iteF ⟨rfl, x2.trans (ExtN.of (s3.trans z5')), T2.ext (s3.trans z5')⟩
      · have hs : shutO p g o = false := by simpa using hs
        have sw : ∀ {told : Hp → Addr → Prop} {t : Addr}, Said p (.int g) o told G2 t → G2 t = some (.tup [.str "shut"]) := fun sd => by
          rcases sd with ⟨h, _⟩ | ⟨g', eg, _, _, h⟩ | ⟨g', eg, _, h, _⟩
          · rw [ing] at h
            cases h
          · exact h
          · cases eg
            rw [hs] at h
            cases h
        refine ⟨.ref l, rfl, by show 1 ≤ sizeLine; decide, fun t5 n5 => ⟨by show 1 ≤ sizeLine; decide, fun l6 n6 => ⟨l6, 2, _, rfl, rfl, upd_same, by decide, by decide, by show 2 ≤ sizeLine; decide, fun l7 n7 => ?_⟩⟩⟩
        have z7 := same_new (o := .lst [.ref t5, .ref t5]) n7
        have z6 := (same_new n6).trans z7
        have z5' := (same_new n5).trans z6
        have s37 := s3.trans z5'
        refine ⟨_, _, said_two (s37 _ _ el) (s37 _ _ (sw sd1)) (s37 _ _ (sw sd2)), said_two (s := "shut") upd_same (z6 _ _ upd_same) (z6 _ _ upd_same), by decide +kernel, by decide +kernel, _, rfl, ?_⟩
        have ev : PyData.eqv (.list [.tuple [.str "shut"], .tuple [.str "shut"]]) (.list [.tuple [.str "shut"], .tuple [.str "shut"]]) = true := by decide +kernel
        rw [ev]
        exact iteF ⟨rfl, x2.trans (ExtN.of s37), T2.ext s37⟩
    rintro _ G4 ⟨rfl, x4, Tb4⟩
    refine ⟨1, rfl, .ref x, rfl, x, _, 0, _, rfl, rfl, SqT.of (hNG.ext x4).1, rfl, by show 1 ≤ sizeLine; decide, fun tb ntb => ⟨by show 6 ≤ sizeLine; decide, fun Lb nLb => ⟨Lb, rfl, ⟨_, SqL.of upd_same⟩, ?_⟩⟩⟩
    have zb := (same_new (H := G4) (o := .tup [.int 0]) ntb).trans (same_new (o := .lst [.int (-1), .int p, .non, .bl true, .str "0", .ref tb]) nLb)
    have eLb : (upd (upd G4 tb (.tup [.int 0])) Lb (.lst [.int (-1), .int p, .non, .bl true, .str "0", .ref tb])) Lb = some (.lst [.int (-1), .int p, .non, .bl true, .str "0", .ref tb]) := upd_same
    have etb : (upd (upd G4 tb (.tup [.int 0])) Lb (.lst [.int (-1), .int p, .non, .bl true, .str "0", .ref tb])) tb = some (.tup [.int 0]) := same_new nLb _ _ upd_same
    have x5 := x4.trans (ExtN.of zb)
    have Tb5 := Tb4.ext zb
    generalize upd (upd G4 tb (.tup [.int 0])) Lb (.lst [.int (-1), .int p, .non, .bl true, .str "0", .ref tb]) = G5 at eLb etb x5 Tb5 ⊢
    have bads : ∀ u ∈ ([.int (-1), .int p, .non, .bl true, .str "0", .ref tb] : List V), isIn u 0 (p - 1) = false ∧ ∀ G' : Hp, ExtN G5 G' → ∃ n, Tg G' u n := fun u hu => by
      simp only [List.mem_cons, List.not_mem_nil, or_false] at hu
      rcases hu with rfl | rfl | rfl | rfl | rfl | rfl
      · refine ⟨?_, fun _ _ => ⟨_, .int _⟩⟩
        rfl
      · refine ⟨?_, fun _ _ => ⟨_, .int _⟩⟩
        show (decide (0 ≤ p) && decide (p ≤ p - 1)) = false
        rw [decide_eq_false (show ¬ p ≤ p - 1 by omega), Bool.and_false]
      · exact ⟨rfl, fun _ _ => ⟨_, .non⟩⟩
      · exact ⟨rfl, fun _ _ => ⟨_, .bl _⟩⟩
      · exact ⟨rfl, fun _ _ => ⟨_, .str _⟩⟩
      · exact ⟨rfl, fun _ e => ⟨_, .tup (e _ _ etb fun _ q => nomatch q)⟩⟩
    refine for_list (xs := [.int (-1), .int p, .non, .bl true, .str "0", .ref tb]) (fun _ σ G' => ∃ y11 : Option V, σ = [some (.ref a), some (.int (0 + (i : Int))), some (.ref z), some (.ref x), some (.int g), some (.ref tO), none, some (.ref L), some v, some (.str d.shown), some (.ref l), y11] ∧ ExtN G5 G' ∧ Tabs [(Pt, qLW)] G') ⟨_, rfl, ExtN.refl _, Tb5⟩ (fun _ σ G' _ h => ?_) (fun _ u σ G' hu h => ?_) (fun σ G' h => ?_)
    · obtain ⟨_, rfl, ex', _⟩ := h
      exact SqL.of (ex' _ _ eLb fun _ q => nomatch q)
    · obtain ⟨y11, rfl, ex', Tb'⟩ := h
      obtain ⟨hb, htg⟩ := bads u (List.mem_of_getElem? hu)
      obtain ⟨n, tg⟩ := htg G' ex'
      have x6 := x5.trans ex'
      refine ⟨.ref x, rfl, u, rfl, v, rfl, x, r, ts, p, rs, u, v, n, o, rfl, hNG.ext x6, ok, tg, wh.ext x6, Tb', fun G6 l w1 w2 e6 T6 el sd1 sd2 => ?_⟩
      have sw : ∀ {told : Hp → Addr → Prop} {t : Addr}, Said p u o told G6 t → G6 t = some (.tup [.str "place"]) := fun sd => by
        rcases sd with ⟨_, h⟩ | ⟨g', _, h, _⟩ | ⟨g', _, h, _⟩
        · exact h
        · rw [hb] at h
          cases h
        · rw [hb] at h
          cases h
      refine ⟨by show 1 ≤ sizeLine; decide, fun t5 n5 => ⟨by show 1 ≤ sizeLine; decide, fun l6 n6 => ⟨l6, 2, _, rfl, rfl, upd_same, by decide, by decide, by show 2 ≤ sizeLine; decide, fun l7 n7 => ?_⟩⟩⟩
      have z7 := same_new (o := .lst [.ref t5, .ref t5]) n7
      have z6 := (same_new n6).trans z7
      have z5' := (same_new n5).trans z6
      refine ⟨_, _, said_two (z5' _ _ el) (z5' _ _ (sw sd1)) (z5' _ _ (sw sd2)), said_two (s := "place") upd_same (z6 _ _ upd_same) (z6 _ _ upd_same), by decide +kernel, by decide +kernel, _, rfl, ?_⟩
      have ev : PyData.eqv (.list [.tuple [.str "place"], .tuple [.str "place"]]) (.list [.tuple [.str "place"], .tuple [.str "place"]]) = true := by decide +kernel
      rw [ev]
      exact iteF ⟨_, rfl, (ex'.trans e6).trans (ExtN.of z5'), T6.ext z5'⟩
    · obtain ⟨y11, rfl, ex', Tb'⟩ := h
      have x6 := x5.trans ex'
      refine ⟨.ref x, rfl, v, rfl, by show 2 ≤ sizeLine; decide, fun q2 nq2 => ?_⟩
      have zq := same_new (H := G') (o := .tup [.ref x, v]) nq2
      refine ⟨_, d, rfl, dr _ q2 (x6.trans (ExtN.of zq)) upd_same, sh, .str d.shown, rfl, rfl, _, rfl, ?_⟩
      rw [decide_eq_true rfl]
      exact iteF ⟨_, _, _, _, rfl, ex.trans (x6.trans (ExtN.of zq)), Tb'.ext zq⟩
  · obtain ⟨y8, y9, y10, y11, rfl, ex, Tb⟩ := h
    exact ⟨_, _, _, _, _, _, _, _, _, _, rfl, Tb, ext_sqL S7 ex⟩

end
end Wy

namespace Wy
open PySem PySem.Spec PyProof.Rows L2 LamX
set_option maxHeartbeats 4000000 in
theorem fin_mk {P : Program} {w : World} {K : PySem.W.Frag} {h : Heap} {mg : Str → Option Value} {fa cLW TLW f1 f2 f3 f4 f5 fN fP fR fS fF fX fG fH fPr fAr fSt fCe fTk fNe fOd fNu fMa fWd fSa fMy fLW fL e0 e1 e2 e3 e4 e5 e6 e7 e8 e9 e10 e11 e12 e13 e14 e15 e16 eT eN eW : Addr} {t1 t2 t3 t4 t5 : Tok}
    {od1 an1 : Option Addr} {sl1 : Array (Option Value)} {oc1 kV1 dc1 pm1 ct1 cd1 : Value}
    {od2 an2 : Option Addr} {sl2 : Array (Option Value)} {oc2 kV2 dc2 pm2 ct2 cd2 : Value}
    {od3 an3 : Option Addr} {sl3 : Array (Option Value)} {oc3 kV3 dc3 pm3 ct3 cd3 : Value}
    {od4 an4 : Option Addr} {sl4 : Array (Option Value)} {oc4 kV4 dc4 pm4 ct4 cd4 : Value}
    {od5 an5 : Option Addr} {sl5 : Array (Option Value)} {oc5 kV5 dc5 pm5 ct5 cd5 : Value}
    {odN anN : Option Addr} {slN : Array (Option Value)} {ocN kVN dcN pmN ctN cdN : Value}
    {odP anP : Option Addr} {slP : Array (Option Value)} {ocP kVP dcP pmP ctP cdP : Value}
    {odR anR : Option Addr} {slR : Array (Option Value)} {ocR kVR dcR pmR ctR cdR : Value}
    {odS anS : Option Addr} {slS : Array (Option Value)} {ocS kVS dcS pmS ctS cdS : Value}
    {odF anF : Option Addr} {slF : Array (Option Value)} {ocF kVF dcF pmF ctF cdF : Value}
    {odX anX : Option Addr} {slX : Array (Option Value)} {ocX kVX dcX pmX ctX cdX : Value}
    {odG anG : Option Addr} {slG : Array (Option Value)} {ocG kVG dcG pmG ctG cdG : Value}
    {odH anH : Option Addr} {slH : Array (Option Value)} {ocH kVH dcH pmH ctH cdH : Value}
    {odPr anPr : Option Addr} {slPr : Array (Option Value)} {ocPr kVPr dcPr pmPr ctPr cdPr : Value}
    {odAr anAr : Option Addr} {slAr : Array (Option Value)} {ocAr kVAr dcAr pmAr ctAr cdAr : Value}
    {odSt anSt : Option Addr} {slSt : Array (Option Value)} {ocSt kVSt dcSt pmSt ctSt cdSt : Value}
    {odCe anCe : Option Addr} {slCe : Array (Option Value)} {ocCe kVCe dcCe pmCe ctCe cdCe : Value}
    {odTk anTk : Option Addr} {slTk : Array (Option Value)} {ocTk kVTk dcTk pmTk ctTk cdTk : Value}
    {odNe anNe : Option Addr} {slNe : Array (Option Value)} {ocNe kVNe dcNe pmNe ctNe cdNe : Value}
    {odOd anOd : Option Addr} {slOd : Array (Option Value)} {ocOd kVOd dcOd pmOd ctOd cdOd : Value}
    {odNu anNu : Option Addr} {slNu : Array (Option Value)} {ocNu kVNu dcNu pmNu ctNu cdNu : Value}
    {odMa anMa : Option Addr} {slMa : Array (Option Value)} {ocMa kVMa dcMa pmMa ctMa cdMa : Value}
    {odWd anWd : Option Addr} {slWd : Array (Option Value)} {ocWd kVWd dcWd pmWd ctWd cdWd : Value}
    {odSa anSa : Option Addr} {slSa : Array (Option Value)} {ocSa kVSa dcSa pmSa ctSa cdSa : Value}
    {odMy anMy : Option Addr} {slMy : Array (Option Value)} {ocMy kVMy dcMy pmMy ctMy cdMy : Value}
    {odLW anLW : Option Addr} {slLW : Array (Option Value)} {ocLW kVLW dcLW pmLW ctLW : Value}
    {odL anL : Option Addr} {slL : Array (Option Value)} {ocL kVL dcL pmL ctL cdL : Value}
    (X : K.In h) (G : h.Ns mainGlobals mg) (hfa : mg "law" = some (.ref fa))
    (a1 : PySem.W.nsIn K mainGlobals "is_whole" = some (some (.ref f1)))
    (l1 : K.lookup f1 = some ⟨oc1, od1, .func (PySem.W.fnOf "is_whole" "is_whole" (defArgs sWhole) (defBody sWhole) (defScope sWhole) .none kV1 dc1 pm1 an1 cd1 ct1), sl1⟩)
    (c1_ : PySem.W.codeIn K cd1 "is_whole" = true)
    (k1_ : PySem.W.keepIn K (.ref f1) = true)
    (a2 : PySem.W.nsIn K mainGlobals "is_within" = some (some (.ref f2)))
    (l2 : K.lookup f2 = some ⟨oc2, od2, .func (PySem.W.fnOf "is_within" "is_within" (defArgs sWithin) (defBody sWithin) (defScope sWithin) .none kV2 dc2 pm2 an2 cd2 ct2), sl2⟩)
    (c2_ : PySem.W.codeIn K cd2 "is_within" = true)
    (k2_ : PySem.W.keepIn K (.ref f2) = true)
    (a3 : PySem.W.nsIn K mainGlobals "is_tuple_of" = some (some (.ref f3)))
    (l3 : K.lookup f3 = some ⟨oc3, od3, .func (PySem.W.fnOf "is_tuple_of" "is_tuple_of" (defArgs sTupOf) (defBody sTupOf) (defScope sTupOf) .none kV3 dc3 pm3 an3 cd3 ct3), sl3⟩)
    (c3_ : PySem.W.codeIn K cd3 "is_tuple_of" = true)
    (k3_ : PySem.W.keepIn K (.ref f3) = true)
    (a4 : PySem.W.nsIn K mainGlobals "is_road_among" = some (some (.ref f4)))
    (l4 : K.lookup f4 = some ⟨oc4, od4, .func (PySem.W.fnOf "is_road_among" "is_road_among" (defArgs sRoadQ) (defBody sRoadQ) (defScope sRoadQ) .none kV4 dc4 pm4 an4 cd4 ct4), sl4⟩)
    (c4_ : PySem.W.codeIn K cd4 "is_road_among" = true)
    (k4_ : PySem.W.keepIn K (.ref f4) = true)
    (a5 : PySem.W.nsIn K mainGlobals "is_net" = some (some (.ref f5)))
    (l5 : K.lookup f5 = some ⟨oc5, od5, .func (PySem.W.fnOf "is_net" "is_net" (defArgs sNetQ) (defBody sNetQ) (defScope sNetQ) .none kV5 dc5 pm5 an5 cd5 ct5), sl5⟩)
    (c5_ : PySem.W.codeIn K cd5 "is_net" = true)
    (k5_ : PySem.W.keepIn K (.ref f5) = true)
    (aN : PySem.W.nsIn K mainGlobals "check_net" = some (some (.ref fN)))
    (lN : K.lookup fN = some ⟨ocN, odN, .func (PySem.W.fnOf "check_net" "check_net" (defArgs sChkN) (defBody sChkN) (defScope sChkN) .none kVN dcN pmN anN cdN ctN), slN⟩)
    (cN_ : PySem.W.codeIn K cdN "check_net" = true)
    (kN_ : PySem.W.keepIn K (.ref fN) = true)
    (aP : PySem.W.nsIn K mainGlobals "check_place" = some (some (.ref fP)))
    (lP : K.lookup fP = some ⟨ocP, odP, .func (PySem.W.fnOf "check_place" "check_place" (defArgs sChkP) (defBody sChkP) (defScope sChkP) .none kVP dcP pmP anP cdP ctP), slP⟩)
    (cP_ : PySem.W.codeIn K cdP "check_place" = true)
    (kP_ : PySem.W.keepIn K (.ref fP) = true)
    (aR : PySem.W.nsIn K mainGlobals "is_rising" = some (some (.ref fR)))
    (lR : K.lookup fR = some ⟨ocR, odR, .func (PySem.W.fnOf "is_rising" "is_rising" (defArgs sRise) (defBody sRise) (defScope sRise) .none kVR dcR pmR anR cdR ctR), slR⟩)
    (cR_ : PySem.W.codeIn K cdR "is_rising" = true)
    (kR_ : PySem.W.keepIn K (.ref fR) = true)
    (aS : PySem.W.nsIn K mainGlobals "check_shut" = some (some (.ref fS)))
    (lS : K.lookup fS = some ⟨ocS, odS, .func (PySem.W.fnOf "check_shut" "check_shut" (defArgs sShutQ) (defBody sShutQ) (defScope sShutQ) .none kVS dcS pmS anS cdS ctS), slS⟩)
    (cS_ : PySem.W.codeIn K cdS "check_shut" = true)
    (kS_ : PySem.W.keepIn K (.ref fS) = true)
    (aF : PySem.W.nsIn K mainGlobals "free_roads" = some (some (.ref fF)))
    (lF : K.lookup fF = some ⟨ocF, odF, .func (PySem.W.fnOf "free_roads" "free_roads" (defArgs sFree) (defBody sFree) (defScope sFree) .none kVF dcF pmF anF cdF ctF), slF⟩)
    (cF_ : PySem.W.codeIn K cdF "free_roads" = true)
    (kF_ : PySem.W.keepIn K (.ref fF) = true)
    (aX : PySem.W.nsIn K mainGlobals "exceeds" = some (some (.ref fX)))
    (lX : K.lookup fX = some ⟨ocX, odX, .func (PySem.W.fnOf "exceeds" "exceeds" (defArgs sExc) (defBody sExc) (defScope sExc) .none kVX dcX pmX anX cdX ctX), slX⟩)
    (cX_ : PySem.W.codeIn K cdX "exceeds" = true)
    (kX_ : PySem.W.keepIn K (.ref fX) = true)
    (aG : PySem.W.nsIn K mainGlobals "greatest_prices" = some (some (.ref fG)))
    (lG : K.lookup fG = some ⟨ocG, odG, .func (PySem.W.fnOf "greatest_prices" "greatest_prices" (defArgs sGreat) (defBody sGreat) (defScope sGreat) .none kVG dcG pmG anG cdG ctG), slG⟩)
    (cG_ : PySem.W.codeIn K cdG "greatest_prices" = true)
    (kG_ : PySem.W.keepIn K (.ref fG) = true)
    (aH : PySem.W.nsIn K mainGlobals "prices_hold" = some (some (.ref fH)))
    (lH : K.lookup fH = some ⟨ocH, odH, .func (PySem.W.fnOf "prices_hold" "prices_hold" (defArgs sHold) (defBody sHold) (defScope sHold) .none kVH dcH pmH anH cdH ctH), slH⟩)
    (cH_ : PySem.W.codeIn K cdH "prices_hold" = true)
    (kH_ : PySem.W.keepIn K (.ref fH) = true)
    (aPr : PySem.W.nsIn K mainGlobals "prices_of" = some (some (.ref fPr)))
    (lPr : K.lookup fPr = some ⟨ocPr, odPr, .func (PySem.W.fnOf "prices_of" "prices_of" (defArgs sPrices) (defBody sPrices) (defScope sPrices) .none kVPr dcPr pmPr anPr cdPr ctPr), slPr⟩)
    (cPr_ : PySem.W.codeIn K cdPr "prices_of" = true)
    (kPr_ : PySem.W.keepIn K (.ref fPr) = true)
    (aAr : PySem.W.nsIn K mainGlobals "are_prices" = some (some (.ref fAr)))
    (lAr : K.lookup fAr = some ⟨ocAr, odAr, .func (PySem.W.fnOf "are_prices" "are_prices" (defArgs sAre) (defBody sAre) (defScope sAre) .none kVAr dcAr pmAr anAr cdAr ctAr), slAr⟩)
    (cAr_ : PySem.W.codeIn K cdAr "are_prices" = true)
    (kAr_ : PySem.W.keepIn K (.ref fAr) = true)
    (aSt : PySem.W.nsIn K mainGlobals "_law_state" = some (some (.ref fSt)))
    (lSt : K.lookup fSt = some ⟨ocSt, odSt, .func (PySem.W.fnOf "_law_state" "_law_state" (defArgs sState) (defBody sState) (defScope sState) .none kVSt dcSt pmSt anSt cdSt ctSt), slSt⟩)
    (cSt_ : PySem.W.codeIn K cdSt "_law_state" = true)
    (kSt_ : PySem.W.keepIn K (.ref fSt) = true)
    (aCe : PySem.W.nsIn K mainGlobals "_law_cell_at" = some (some (.ref fCe)))
    (lCe : K.lookup fCe = some ⟨ocCe, odCe, .func (PySem.W.fnOf "_law_cell_at" "_law_cell_at" (defArgs sCell) (defBody sCell) (defScope sCell) .none kVCe dcCe pmCe anCe cdCe ctCe), slCe⟩)
    (cCe_ : PySem.W.codeIn K cdCe "_law_cell_at" = true)
    (kCe_ : PySem.W.keepIn K (.ref fCe) = true)
    (aTk : PySem.W.nsIn K mainGlobals "_law_take" = some (some (.ref fTk)))
    (lTk : K.lookup fTk = some ⟨ocTk, odTk, .func (PySem.W.fnOf "_law_take" "_law_take" (defArgs sTake) (defBody sTake) (defScope sTake) .none kVTk dcTk pmTk anTk cdTk ctTk), slTk⟩)
    (cTk_ : PySem.W.codeIn K cdTk "_law_take" = true)
    (kTk_ : PySem.W.keepIn K (.ref fTk) = true)
    (aNe : PySem.W.nsIn K mainGlobals "_law_net" = some (some (.ref fNe)))
    (lNe : K.lookup fNe = some ⟨ocNe, odNe, .func (PySem.W.fnOf "_law_net" "_law_net" (defArgs sNet) (defBody sNet) (defScope sNet) .none kVNe dcNe pmNe anNe cdNe ctNe), slNe⟩)
    (cNe_ : PySem.W.codeIn K cdNe "_law_net" = true)
    (kNe_ : PySem.W.keepIn K (.ref fNe) = true)
    (aOd : PySem.W.nsIn K mainGlobals "_law_odd" = some (some (.ref fOd)))
    (lOd : K.lookup fOd = some ⟨ocOd, odOd, .func (PySem.W.fnOf "_law_odd" "_law_odd" (defArgs sOdd) (defBody sOdd) (defScope sOdd) .none kVOd dcOd pmOd anOd cdOd ctOd), slOd⟩)
    (cOd_ : PySem.W.codeIn K cdOd "_law_odd" = true)
    (kOd_ : PySem.W.keepIn K (.ref fOd) = true)
    (aNu : PySem.W.nsIn K mainGlobals "_law_number" = some (some (.ref fNu)))
    (lNu : K.lookup fNu = some ⟨ocNu, odNu, .func (PySem.W.fnOf "_law_number" "_law_number" (defArgs sNum) (defBody sNum) (defScope sNum) .none kVNu dcNu pmNu anNu cdNu ctNu), slNu⟩)
    (cNu_ : PySem.W.codeIn K cdNu "_law_number" = true)
    (kNu_ : PySem.W.keepIn K (.ref fNu) = true)
    (aMa : PySem.W.nsIn K mainGlobals "_law_marks" = some (some (.ref fMa)))
    (lMa : K.lookup fMa = some ⟨ocMa, odMa, .func (PySem.W.fnOf "_law_marks" "_law_marks" (defArgs sMarks) (defBody sMarks) (defScope sMarks) .none kVMa dcMa pmMa anMa cdMa ctMa), slMa⟩)
    (cMa_ : PySem.W.codeIn K cdMa "_law_marks" = true)
    (kMa_ : PySem.W.keepIn K (.ref fMa) = true)
    (aWd : PySem.W.nsIn K mainGlobals "_law_word" = some (some (.ref fWd)))
    (lWd : K.lookup fWd = some ⟨ocWd, odWd, .func (PySem.W.fnOf "_law_word" "_law_word" (defArgs sWord) (defBody sWord) (defScope sWord) .none kVWd dcWd pmWd anWd cdWd ctWd), slWd⟩)
    (cWd_ : PySem.W.codeIn K cdWd "_law_word" = true)
    (kWd_ : PySem.W.keepIn K (.ref fWd) = true)
    (aSa : PySem.W.nsIn K mainGlobals "_law_said" = some (some (.ref fSa)))
    (lSa : K.lookup fSa = some ⟨ocSa, odSa, .func (PySem.W.fnOf "_law_said" "_law_said" (defArgs sSaid) (defBody sSaid) (defScope sSaid) .none kVSa dcSa pmSa anSa cdSa ctSa), slSa⟩)
    (cSa_ : PySem.W.codeIn K cdSa "_law_said" = true)
    (kSa_ : PySem.W.keepIn K (.ref fSa) = true)
    (aMy : PySem.W.nsIn K mainGlobals "_law_may_shut" = some (some (.ref fMy)))
    (lMy : K.lookup fMy = some ⟨ocMy, odMy, .func (PySem.W.fnOf "_law_may_shut" "_law_may_shut" (defArgs sMay) (defBody sMay) (defScope sMay) .none kVMy dcMy pmMy anMy cdMy ctMy), slMy⟩)
    (cMy_ : PySem.W.codeIn K cdMy "_law_may_shut" = true)
    (kMy_ : PySem.W.keepIn K (.ref fMy) = true)
    (aLW : PySem.W.nsIn K mainGlobals "_law_words" = some (some (.ref fLW)))
    (lLW : K.lookup fLW = some ⟨ocLW, odLW, .func (PySem.W.fnOf "_law_words" "_law_words" (defArgs sLW) (defBody sLW) (defScope sLW) .none kVLW dcLW pmLW anLW (.ref cLW) ctLW), slLW⟩)
    (cLW_ : PySem.W.codeIn K (.ref cLW) "_law_words" = true)
    (kLW_ : PySem.W.keepIn K (.ref fLW) = true)
    (aL : PySem.W.nsIn K mainGlobals "law" = some (some (.ref fL)))
    (lL : K.lookup fL = some ⟨ocL, odL, .func (PySem.W.fnOf "law" "law" (defArgs sLaw) (defBody sLaw) (defScope sLaw) .none kVL dcL pmL anL cdL ctL), slL⟩)
    (cL_ : PySem.W.codeIn K cdL "law" = true)
    (kL_ : PySem.W.keepIn K (.ref fL) = true)
    (z_isinstance : PySem.W.nsIn K mainGlobals "isinstance" = some none)
    (z_int : PySem.W.nsIn K mainGlobals "int" = some none)
    (z_bool : PySem.W.nsIn K mainGlobals "bool" = some none)
    (z_tuple : PySem.W.nsIn K mainGlobals "tuple" = some none)
    (z_len : PySem.W.nsIn K mainGlobals "len" = some none)
    (z_all : PySem.W.nsIn K mainGlobals "all" = some none)
    (z_sum : PySem.W.nsIn K mainGlobals "sum" = some none)
    (z_set : PySem.W.nsIn K mainGlobals "set" = some none)
    (z_range : PySem.W.nsIn K mainGlobals "range" = some none)
    (z_max : PySem.W.nsIn K mainGlobals "max" = some none)
    (z_min : PySem.W.nsIn K mainGlobals "min" = some none)
    (z_list : PySem.W.nsIn K mainGlobals "list" = some none)
    (z_ValueError : PySem.W.nsIn K mainGlobals "ValueError" = some none)
    (z_zip : PySem.W.nsIn K mainGlobals "zip" = some none)
    (z_sorted : PySem.W.nsIn K mainGlobals "sorted" = some none)
    (z_repr : PySem.W.nsIn K mainGlobals "repr" = some none)
    (q1 : PySem.W.nsIn K mainGlobals "MOST_PLACES" = some (some (.int 10 t1)))
    (q2 : PySem.W.nsIn K mainGlobals "MOST_ROADS" = some (some (.int 30 t2)))
    (q3 : PySem.W.nsIn K mainGlobals "LEAST_COST" = some (some (.int 1 t3)))
    (q4 : PySem.W.nsIn K mainGlobals "MOST_COST" = some (some (.int 99 t4)))
    (q5 : PySem.W.nsIn K mainGlobals "MOST_TIME" = some (some (.int 99 t5)))
    (g_g0 : PySem.W.nsIn K mainGlobals "NoNet" = some (some (.ref e0)))
    (g_g1 : PySem.W.nsIn K mainGlobals "NoPlace" = some (some (.ref e1)))
    (g_g2 : PySem.W.nsIn K mainGlobals "NoRoad" = some (some (.ref e2)))
    (g_g3 : PySem.W.nsIn K mainGlobals "NoMany" = some (some (.ref e3)))
    (g_g4 : PySem.W.nsIn K mainGlobals "NoShut" = some (some (.ref e4)))
    (g_g5 : PySem.W.nsIn K mainGlobals "NoCost" = some (some (.ref e5)))
    (g_g6 : PySem.W.nsIn K mainGlobals "NoNumber" = some (some (.ref e6)))
    (g_g7 : PySem.W.nsIn K mainGlobals "NoWay" = some (some (.ref e7)))
    (g_g8 : PySem.W.nsIn K mainGlobals "NoWord" = some (some (.ref e8)))
    (g_g9 : PySem.W.nsIn K mainGlobals "NoTime" = some (some (.ref e9)))
    (g_g10 : PySem.W.nsIn K mainGlobals "NoChange" = some (some (.ref e10)))
    (g_g11 : PySem.W.nsIn K mainGlobals "NoPaper" = some (some (.ref e11)))
    (g_g12 : PySem.W.nsIn K mainGlobals "NoLine" = some (some (.ref e12)))
    (g_g13 : PySem.W.nsIn K mainGlobals "NoText" = some (some (.ref e13)))
    (g_g14 : PySem.W.nsIn K mainGlobals "NoAsk" = some (some (.ref e14)))
    (g_g15 : PySem.W.nsIn K mainGlobals "Nothing" = some (some (.ref e15)))
    (g_g16 : PySem.W.nsIn K mainGlobals "TooMany" = some (some (.ref e16)))
    (g_gT : PySem.W.nsIn K mainGlobals "NoThing" = some (some (.ref eT)))
    (g_gN : PySem.W.nsIn K mainGlobals "NotNow" = some (some (.ref eN)))
    (g_gW : PySem.W.nsIn K mainGlobals "WayError" = some (some (.ref eW)))
    (x3_1 : PySem.W.subIn K (.ref e1) (.type "BaseException") = some true)
    (y1_1 : PySem.W.findIn K (.ref e1) "__getattribute__" = some (some (.builtin "BaseException.__getattribute__")))
    (y2_1 : PySem.W.findIn K (.ref e1) "__getattr__" = some none)
    (y3_1 : PySem.W.hasDictIn K e1 = true)
    (y4_1 : PySem.W.findIn K (.ref e1) "__class__" = some (some (.builtin "object.__class__")))
    (y5 : PySem.W.specialIn K (.builtin "object.__class__") "__get__" = some (some (.builtin "getset_descriptor.__get__")))
    (y6 : PySem.W.takesIn K (.builtin "object.__class__") = some true)
    (y7_1 : PySem.W.mroIn K e1 (.type "object") = some true)
    (j_k1_0 : PySem.W.kitOne K (.ref e1) (.ref e0) = some false)
    (j_k1_1 : PySem.W.kitOne K (.ref e1) (.ref e1) = some true)
    (j_k1_2 : PySem.W.kitOne K (.ref e1) (.ref e2) = some false)
    (j_k1_3 : PySem.W.kitOne K (.ref e1) (.ref e3) = some false)
    (j_k1_4 : PySem.W.kitOne K (.ref e1) (.ref e4) = some false)
    (j_k1_5 : PySem.W.kitOne K (.ref e1) (.ref e5) = some false)
    (j_k1_6 : PySem.W.kitOne K (.ref e1) (.ref e6) = some false)
    (j_k1_7 : PySem.W.kitOne K (.ref e1) (.ref e7) = some false)
    (j_k1_8 : PySem.W.kitOne K (.ref e1) (.ref e8) = some false)
    (j_k1_9 : PySem.W.kitOne K (.ref e1) (.ref e9) = some false)
    (j_k1_10 : PySem.W.kitOne K (.ref e1) (.ref e10) = some false)
    (j_k1_11 : PySem.W.kitOne K (.ref e1) (.ref e11) = some false)
    (j_k1_12 : PySem.W.kitOne K (.ref e1) (.ref e12) = some false)
    (j_k1_13 : PySem.W.kitOne K (.ref e1) (.ref e13) = some false)
    (j_k1_14 : PySem.W.kitOne K (.ref e1) (.ref e14) = some false)
    (j_k1_15 : PySem.W.kitOne K (.ref e1) (.ref e15) = some false)
    (j_k1_16 : PySem.W.kitOne K (.ref e1) (.ref e16) = some false)
    (j_kT1 : PySem.W.kitOne K (.ref e1) (.ref eT) = some true)
    (j_kN1 : PySem.W.kitOne K (.ref e1) (.ref eN) = some false)
    (j_kV1 : PySem.W.kitOne K (.ref e1) (.type "ValueError") = some true)
    (j_eW1 : PySem.W.exmOne K (.ref e1) (.ref eW) = some true)
    (x3_4 : PySem.W.subIn K (.ref e4) (.type "BaseException") = some true)
    (y1_4 : PySem.W.findIn K (.ref e4) "__getattribute__" = some (some (.builtin "BaseException.__getattribute__")))
    (y2_4 : PySem.W.findIn K (.ref e4) "__getattr__" = some none)
    (y3_4 : PySem.W.hasDictIn K e4 = true)
    (y4_4 : PySem.W.findIn K (.ref e4) "__class__" = some (some (.builtin "object.__class__")))
    (y7_4 : PySem.W.mroIn K e4 (.type "object") = some true)
    (j_k4_0 : PySem.W.kitOne K (.ref e4) (.ref e0) = some false)
    (j_k4_1 : PySem.W.kitOne K (.ref e4) (.ref e1) = some false)
    (j_k4_2 : PySem.W.kitOne K (.ref e4) (.ref e2) = some false)
    (j_k4_3 : PySem.W.kitOne K (.ref e4) (.ref e3) = some false)
    (j_k4_4 : PySem.W.kitOne K (.ref e4) (.ref e4) = some true)
    (j_k4_5 : PySem.W.kitOne K (.ref e4) (.ref e5) = some false)
    (j_k4_6 : PySem.W.kitOne K (.ref e4) (.ref e6) = some false)
    (j_k4_7 : PySem.W.kitOne K (.ref e4) (.ref e7) = some false)
    (j_k4_8 : PySem.W.kitOne K (.ref e4) (.ref e8) = some false)
    (j_k4_9 : PySem.W.kitOne K (.ref e4) (.ref e9) = some false)
    (j_k4_10 : PySem.W.kitOne K (.ref e4) (.ref e10) = some false)
    (j_k4_11 : PySem.W.kitOne K (.ref e4) (.ref e11) = some false)
    (j_k4_12 : PySem.W.kitOne K (.ref e4) (.ref e12) = some false)
    (j_k4_13 : PySem.W.kitOne K (.ref e4) (.ref e13) = some false)
    (j_k4_14 : PySem.W.kitOne K (.ref e4) (.ref e14) = some false)
    (j_k4_15 : PySem.W.kitOne K (.ref e4) (.ref e15) = some false)
    (j_k4_16 : PySem.W.kitOne K (.ref e4) (.ref e16) = some false)
    (j_kT4 : PySem.W.kitOne K (.ref e4) (.ref eT) = some true)
    (j_kN4 : PySem.W.kitOne K (.ref e4) (.ref eN) = some false)
    (j_kV4 : PySem.W.kitOne K (.ref e4) (.type "ValueError") = some true)
    (j_eW4 : PySem.W.exmOne K (.ref e4) (.ref eW) = some true)
    (x1_1 : PySem.W.excIn K e1 [.type "ValueError", .type "Exception", .type "BaseException", .type "object"] "ValueError.__new__" = true)
    (x2_1 : PySem.W.keepIn K (.ref e1) = true)
    (x4_1 : PySem.W.typeIn K (.ref e1) = some (.type "type"))
    (x1_4 : PySem.W.excIn K e4 [.type "ValueError", .type "Exception", .type "BaseException", .type "object"] "ValueError.__new__" = true)
    (x2_4 : PySem.W.keepIn K (.ref e4) = true)
    (x4_4 : PySem.W.typeIn K (.ref e4) = some (.type "type"))
    (nTLW : K.lookup TLW = none)
    (hdLW : PySem.W.codeHdIn K cLW TLW = true) :
    K.lookup TLW = none ∧ ∃ c, PySem.W.codeHdIn K c TLW = true ∧ Runs P w K mg c TLW fa := by
  have e := hfa.symm.trans (PySem.W.mg_of X G aL)
  cases e
  have F1 := fun_mk (st := sWhole) l1 c1_ k1_
  have B1 := F1.binds (ps := ["thing"]) fun _ _ _ _ _ _ us hl => match us, hl with | [_], _ => rfl
  have D1 : Df K mg "is_whole" sWhole ["thing"] f1 _ := ⟨F1, B1, PySem.W.mg_of X G a1⟩
  have F2 := fun_mk (st := sWithin) l2 c2_ k2_
  have B2 := F2.binds (ps := ["thing", "low", "high"]) fun _ _ _ _ _ _ us hl => match us, hl with | [_, _, _], _ => rfl
  have D2 : Df K mg "is_within" sWithin ["thing", "low", "high"] f2 _ := ⟨F2, B2, PySem.W.mg_of X G a2⟩
  have F3 := fun_mk (st := sTupOf) l3 c3_ k3_
  have B3 := F3.binds (ps := ["thing", "many"]) fun _ _ _ _ _ _ us hl => match us, hl with | [_, _], _ => rfl
  have D3 : Df K mg "is_tuple_of" sTupOf ["thing", "many"] f3 _ := ⟨F3, B3, PySem.W.mg_of X G a3⟩
  have F4 := fun_mk (st := sRoadQ) l4 c4_ k4_
  have B4 := F4.binds (ps := ["places", "thing"]) fun _ _ _ _ _ _ us hl => match us, hl with | [_, _], _ => rfl
  have D4 : Df K mg "is_road_among" sRoadQ ["places", "thing"] f4 _ := ⟨F4, B4, PySem.W.mg_of X G a4⟩
  have F5 := fun_mk (st := sNetQ) l5 c5_ k5_
  have B5 := F5.binds (ps := ["thing"]) fun _ _ _ _ _ _ us hl => match us, hl with | [_], _ => rfl
  have D5 : Df K mg "is_net" sNetQ ["thing"] f5 _ := ⟨F5, B5, PySem.W.mg_of X G a5⟩
  have FN := fun_mk (st := sChkN) lN cN_ kN_
  have BN := FN.binds (ps := ["thing"]) fun _ _ _ _ _ _ us hl => match us, hl with | [_], _ => rfl
  have DN : Df K mg "check_net" sChkN ["thing"] fN _ := ⟨FN, BN, PySem.W.mg_of X G aN⟩
  have FP := fun_mk (st := sChkP) lP cP_ kP_
  have BP := FP.binds (ps := ["net", "thing"]) fun _ _ _ _ _ _ us hl => match us, hl with | [_, _], _ => rfl
  have DP : Df K mg "check_place" sChkP ["net", "thing"] fP _ := ⟨FP, BP, PySem.W.mg_of X G aP⟩
  have FR := fun_mk (st := sRise) lR cR_ kR_
  have BR := FR.binds (ps := ["things"]) fun _ _ _ _ _ _ us hl => match us, hl with | [_], _ => rfl
  have DR : Df K mg "is_rising" sRise ["things"] fR _ := ⟨FR, BR, PySem.W.mg_of X G aR⟩
  have FS := fun_mk (st := sShutQ) lS cS_ kS_
  have BS := FS.binds (ps := ["net", "goal", "thing"]) fun _ _ _ _ _ _ us hl => match us, hl with | [_, _, _], _ => rfl
  have DS : Df K mg "check_shut" sShutQ ["net", "goal", "thing"] fS _ := ⟨FS, BS, PySem.W.mg_of X G aS⟩
  have FF := fun_mk (st := sFree) lF cF_ kF_
  have BF := FF.binds (ps := ["net", "shut"]) fun _ _ _ _ _ _ us hl => match us, hl with | [_, _], _ => rfl
  have DF : Df K mg "free_roads" sFree ["net", "shut"] fF _ := ⟨FF, BF, PySem.W.mg_of X G aF⟩
  have FX := fun_mk (st := sExc) lX cX_ kX_
  have BX := FX.binds (ps := ["own", "cost", "ahead"]) fun _ _ _ _ _ _ us hl => match us, hl with | [_, _, _], _ => rfl
  have DX : Df K mg "exceeds" sExc ["own", "cost", "ahead"] fX _ := ⟨FX, BX, PySem.W.mg_of X G aX⟩
  have FG := fun_mk (st := sGreat) lG cG_ kG_
  have BG := FG.binds (ps := ["net", "goal", "shut"]) fun _ _ _ _ _ _ us hl => match us, hl with | [_, _, _], _ => rfl
  have DG : Df K mg "greatest_prices" sGreat ["net", "goal", "shut"] fG _ := ⟨FG, BG, PySem.W.mg_of X G aG⟩
  have FH := fun_mk (st := sHold) lH cH_ kH_
  have BH := FH.binds (ps := ["net", "goal", "thing", "shut"]) fun _ _ _ _ _ _ us hl => match us, hl with | [_, _, _, _], _ => rfl
  have DH : Df K mg "prices_hold" sHold ["net", "goal", "thing", "shut"] fH _ := ⟨FH, BH, PySem.W.mg_of X G aH⟩
  have FSt := fun_mk (st := sState) lSt cSt_ kSt_
  have BSt := FSt.binds (ps := ["_law_script", "_law_k"]) fun _ _ _ _ _ _ us hl => match us, hl with | [_, _], _ => rfl
  have DSt : Df K mg "_law_state" sState ["_law_script", "_law_k"] fSt _ := ⟨FSt, BSt, PySem.W.mg_of X G aSt⟩
  have FCe := fun_mk (st := sCell) lCe cCe_ kCe_
  have BCe := FCe.binds (ps := ["_law_script", "_law_k"]) fun _ _ _ _ _ _ us hl => match us, hl with | [_, _], _ => rfl
  have DCe : Df K mg "_law_cell_at" sCell ["_law_script", "_law_k"] fCe _ := ⟨FCe, BCe, PySem.W.mg_of X G aCe⟩
  have FTk := fun_mk (st := sTake) lTk cTk_ kTk_
  have BTk := FTk.binds (ps := ["_law_state_here", "_law_much"]) fun _ _ _ _ _ _ us hl => match us, hl with | [_, _], _ => rfl
  have DTk : Df K mg "_law_take" sTake ["_law_state_here", "_law_much"] fTk _ := ⟨FTk, BTk, PySem.W.mg_of X G aTk⟩
  have FNe := fun_mk (st := sNet) lNe cNe_ kNe_
  have BNe := FNe.binds (ps := ["_law_state_here", "_law_most", "_law_roads"]) fun _ _ _ _ _ _ us hl => match us, hl with | [_, _, _], _ => rfl
  have DNe : Df K mg "_law_net" sNet ["_law_state_here", "_law_most", "_law_roads"] fNe _ := ⟨FNe, BNe, PySem.W.mg_of X G aNe⟩
  have FOd := fun_mk (st := sOdd) lOd cOd_ kOd_
  have BOd := FOd.binds (ps := ["_law_state_here"]) fun _ _ _ _ _ _ us hl => match us, hl with | [_], _ => rfl
  have DOd : Df K mg "_law_odd" sOdd ["_law_state_here"] fOd _ := ⟨FOd, BOd, PySem.W.mg_of X G aOd⟩
  have FNu := fun_mk (st := sNum) lNu cNu_ kNu_
  have BNu := FNu.binds (ps := ["_law_what", "_law_least", "_law_most"]) fun _ _ _ _ _ _ us hl => match us, hl with | [_, _, _], _ => rfl
  have DNu : Df K mg "_law_number" sNum ["_law_what", "_law_least", "_law_most"] fNu _ := ⟨FNu, BNu, PySem.W.mg_of X G aNu⟩
  have FMa := fun_mk (st := sMarks) lMa cMa_ kMa_
  have BMa := FMa.binds (ps := ["_law_e"]) fun _ _ _ _ _ _ us hl => match us, hl with | [_], _ => rfl
  have DMa : Df K mg "_law_marks" sMarks ["_law_e"] fMa _ := ⟨FMa, BMa, PySem.W.mg_of X G aMa⟩
  have FWd := fun_mk (st := sWord) lWd cWd_ kWd_
  have BWd := FWd.binds (ps := ["_law_e"]) fun _ _ _ _ _ _ us hl => match us, hl with | [_], _ => rfl
  have DWd : Df K mg "_law_word" sWord ["_law_e"] fWd _ := ⟨FWd, BWd, PySem.W.mg_of X G aWd⟩
  have FSa := fun_mk (st := sSaid) lSa cSa_ kSa_
  have BSa := FSa.binds (ps := ["_law_call"]) fun _ _ _ _ _ _ us hl => match us, hl with | [_], _ => rfl
  have DSa : Df K mg "_law_said" sSaid ["_law_call"] fSa _ := ⟨FSa, BSa, PySem.W.mg_of X G aSa⟩
  have FMy := fun_mk (st := sMay) lMy cMy_ kMy_
  have BMy := FMy.binds (ps := ["_law_web", "_law_aim", "_law_what"]) fun _ _ _ _ _ _ us hl => match us, hl with | [_, _, _], _ => rfl
  have DMy : Df K mg "_law_may_shut" sMay ["_law_web", "_law_aim", "_law_what"] fMy _ := ⟨FMy, BMy, PySem.W.mg_of X G aMy⟩
  have gmLW := PySem.W.mg_of X G aLW
  have FLW := fun_mk (st := sLW) lLW cLW_ kLW_
  have BLW := FLW.binds (ps := ["_law_web", "_law_aim", "_law_closed"]) fun _ _ _ _ _ _ us hl => match us, hl with | [_, _, _], _ => rfl
  have FPr := fun_mk (st := sPrices) lPr cPr_ kPr_
  have FAr := fun_mk (st := sAre) lAr cAr_ kAr_
  have m_isinstance := PySem.W.mg_none_of X G z_isinstance
  have m_int := PySem.W.mg_none_of X G z_int
  have m_bool := PySem.W.mg_none_of X G z_bool
  have m_tuple := PySem.W.mg_none_of X G z_tuple
  have m_len := PySem.W.mg_none_of X G z_len
  have m_all := PySem.W.mg_none_of X G z_all
  have m_sum := PySem.W.mg_none_of X G z_sum
  have m_set := PySem.W.mg_none_of X G z_set
  have m_range := PySem.W.mg_none_of X G z_range
  have m_max := PySem.W.mg_none_of X G z_max
  have m_min := PySem.W.mg_none_of X G z_min
  have m_list := PySem.W.mg_none_of X G z_list
  have m_ValueError := PySem.W.mg_none_of X G z_ValueError
  have m_zip := PySem.W.mg_none_of X G z_zip
  have m_sorted := PySem.W.mg_none_of X G z_sorted
  have m_repr := PySem.W.mg_none_of X G z_repr
  have S : Sm K mg f1 f2 f3 f4 f5 _ _ _ _ _ := { mi := m_isinstance, mI := m_int, mB := m_bool, mT := m_tuple, ml := m_len, mA := m_all, mS := m_sum, mE := m_set, c1 := ⟨_, PySem.W.mg_of X G q1⟩, c2 := ⟨_, PySem.W.mg_of X G q2⟩, c3 := ⟨_, PySem.W.mg_of X G q3⟩, c4 := ⟨_, PySem.W.mg_of X G q4⟩, c5 := ⟨_, PySem.W.mg_of X G q5⟩, whole := D1, within := D2, tupOf := D3, roadQ := D4, netQ := D5 }
  have Z : Cl K mg (fun i => match i with | 0 => e0 | 1 => e1 | 2 => e2 | 3 => e3 | 4 => e4 | 5 => e5 | 6 => e6 | 7 => e7 | 8 => e8 | 9 => e9 | 10 => e10 | 11 => e11 | 12 => e12 | 13 => e13 | 14 => e14 | 15 => e15 | 16 => e16 | _ => 0) eT eN eW := { g0 := PySem.W.mg_of X G g_g0, g1 := PySem.W.mg_of X G g_g1, g2 := PySem.W.mg_of X G g_g2, g3 := PySem.W.mg_of X G g_g3, g4 := PySem.W.mg_of X G g_g4, g5 := PySem.W.mg_of X G g_g5, g6 := PySem.W.mg_of X G g_g6, g7 := PySem.W.mg_of X G g_g7, g8 := PySem.W.mg_of X G g_g8, g9 := PySem.W.mg_of X G g_g9, g10 := PySem.W.mg_of X G g_g10, g11 := PySem.W.mg_of X G g_g11, g12 := PySem.W.mg_of X G g_g12, g13 := PySem.W.mg_of X G g_g13, g14 := PySem.W.mg_of X G g_g14, g15 := PySem.W.mg_of X G g_g15, g16 := PySem.W.mg_of X G g_g16, gT := PySem.W.mg_of X G g_gT, gN := PySem.W.mg_of X G g_gN, gW := PySem.W.mg_of X G g_gW, c1 := ⟨y1_1, y2_1, x3_1, y3_1, y4_1, y5, y6, y7_1⟩, k1_0 := j_k1_0, k1_1 := j_k1_1, k1_2 := j_k1_2, k1_3 := j_k1_3, k1_4 := j_k1_4, k1_5 := j_k1_5, k1_6 := j_k1_6, k1_7 := j_k1_7, k1_8 := j_k1_8, k1_9 := j_k1_9, k1_10 := j_k1_10, k1_11 := j_k1_11, k1_12 := j_k1_12, k1_13 := j_k1_13, k1_14 := j_k1_14, k1_15 := j_k1_15, k1_16 := j_k1_16, kT1 := j_kT1, kN1 := j_kN1, kV1 := j_kV1, eW1 := j_eW1, c4 := ⟨y1_4, y2_4, x3_4, y3_4, y4_4, y5, y6, y7_4⟩, k4_0 := j_k4_0, k4_1 := j_k4_1, k4_2 := j_k4_2, k4_3 := j_k4_3, k4_4 := j_k4_4, k4_5 := j_k4_5, k4_6 := j_k4_6, k4_7 := j_k4_7, k4_8 := j_k4_8, k4_9 := j_k4_9, k4_10 := j_k4_10, k4_11 := j_k4_11, k4_12 := j_k4_12, k4_13 := j_k4_13, k4_14 := j_k4_14, k4_15 := j_k4_15, k4_16 := j_k4_16, kT4 := j_kT4, kN4 := j_kN4, kV4 := j_kV4, eW4 := j_eW4 }
  have Z1 : Ex K mg "NoPlace" e1 := ⟨PySem.W.mg_of X G g_g1, x1_1, x2_1, x3_1, x4_1⟩
  have Z4 : Ex K mg "NoShut" e4 := ⟨PySem.W.mg_of X G g_g4, x1_4, x2_4, x3_4, x4_4⟩
  refine ⟨nTLW, cLW, hdLW, fun base H s a ns tb hT sq env => ?_⟩
  refine LamX.run_ofS (k := 12) (N := ["_law_script", "_law_k", "_law_state_here", "_law_web", "_law_aim", "_law_others", "_law_spot", "_law_some", "_law_closed", "_law_kept", "_law_words_here", "_law_bad"]) (ps := ["_law_script"]) (us := [.ref a]) (vs := [.ref a]) lL cL_ scLaw ⟨rfl, by decide, by decide⟩ env (.of_eq rfl) (.cons rfl .nil) rfl fun hr => ?_
  have GPr := ok_prices (P := P) (w := w) (base := base) (k := 2) S m_zip m_range DN DP DR DS DF DX DG Z1 Z4 FPr
  have GAr := ok_are (P := P) (w := w) (base := base) (k := 2) S m_zip DN DP DR DS DH Z1 Z4 FAr
  have GLW := ok_lw (P := P) (w := w) (K := K) (mg := mg) (base := base) (C := (fun i => match i with | 0 => e0 | 1 => e1 | 2 => e2 | 3 => e3 | 4 => e4 | 5 => e5 | 6 => e6 | 7 => e7 | 8 => e8 | 9 => e9 | 10 => e10 | 11 => e11 | 12 => e12 | 13 => e13 | 14 => e14 | 15 => e15 | 16 => e16 | _ => 0)) (T := [(TLW, qLW)]) lLW cLW_ tb (by simp) (fun p hp e => by rw [List.mem_singleton.mp hp]) Z m_isinstance m_ValueError DMa DWd DSa GPr (PySem.W.mg_of X G aPr) kPr_ (kw_prices FPr) GAr (PySem.W.mg_of X G aAr) kAr_ (kw_are FAr)
  obtain ⟨t, ht, hq⟩ := law_reads (P := P) (w := w) (base := base) (fL := fa) (s := s) (H := H) (a := a) (ns := ns) GLW gmLW kLW_ BLW DMy (ok_may (k := 6) m_isinstance m_int m_bool m_tuple m_list m_sorted m_set DNu DMy) DOd (ok_odd (k := 6) DTk DOd) DSt (ok_state (k := 6) DSt DCe m_len m_max) DTk (ok_take (k := 7) DTk) DNe (ok_net (k := 6) DTk m_range m_tuple DNe) m_range m_max m_min m_len m_tuple m_list m_repr hr hT sq
  exact ⟨t, ht.nox, hq⟩
end Wy

open PySem PySem.W PyProof.Rows
set_option maxHeartbeats 0 in
theorem PySem.Challenge.cw_waysranked_k05_prices_refused_holds : PySem.Challenge.rw_waysranked_k05_prices_refused.Holds := by
  w_on; o_law; k_head; (case hw => w_witness2)
  k_fill
  refine Wy.walk_end (l := PySem.Challenge.rw_waysranked_k05_prices_refused) (n := 63) rfl (by decide) rfl (fun w h Y => PySem.W.km_in_of Y) (fun w h Y => PySem.W.km_tabs_of Y _ (List.Mem.head _)) ?F
  case F =>
    intro w mg fa h KX G hmg
    refine' Wy.fin_mk KX G hmg ?zz_a1 ?zz_l1 ?zz_c1_ ?zz_k1_ ?zz_a2 ?zz_l2 ?zz_c2_ ?zz_k2_ ?zz_a3 ?zz_l3 ?zz_c3_ ?zz_k3_ ?zz_a4 ?zz_l4 ?zz_c4_ ?zz_k4_ ?zz_a5 ?zz_l5 ?zz_c5_ ?zz_k5_ ?zz_aN ?zz_lN ?zz_cN_ ?zz_kN_ ?zz_aP ?zz_lP ?zz_cP_ ?zz_kP_ ?zz_aR ?zz_lR ?zz_cR_ ?zz_kR_ ?zz_aS ?zz_lS ?zz_cS_ ?zz_kS_ ?zz_aF ?zz_lF ?zz_cF_ ?zz_kF_ ?zz_aX ?zz_lX ?zz_cX_ ?zz_kX_ ?zz_aG ?zz_lG ?zz_cG_ ?zz_kG_ ?zz_aH ?zz_lH ?zz_cH_ ?zz_kH_ ?zz_aPr ?zz_lPr ?zz_cPr_ ?zz_kPr_ ?zz_aAr ?zz_lAr ?zz_cAr_ ?zz_kAr_ ?zz_aSt ?zz_lSt ?zz_cSt_ ?zz_kSt_ ?zz_aCe ?zz_lCe ?zz_cCe_ ?zz_kCe_ ?zz_aTk ?zz_lTk ?zz_cTk_ ?zz_kTk_ ?zz_aNe ?zz_lNe ?zz_cNe_ ?zz_kNe_ ?zz_aOd ?zz_lOd ?zz_cOd_ ?zz_kOd_ ?zz_aNu ?zz_lNu ?zz_cNu_ ?zz_kNu_ ?zz_aMa ?zz_lMa ?zz_cMa_ ?zz_kMa_ ?zz_aWd ?zz_lWd ?zz_cWd_ ?zz_kWd_ ?zz_aSa ?zz_lSa ?zz_cSa_ ?zz_kSa_ ?zz_aMy ?zz_lMy ?zz_cMy_ ?zz_kMy_ ?zz_aLW ?zz_lLW ?zz_cLW_ ?zz_kLW_ ?zz_aL ?zz_lL ?zz_cL_ ?zz_kL_ ?zz_z_isinstance ?zz_z_int ?zz_z_bool ?zz_z_tuple ?zz_z_len ?zz_z_all ?zz_z_sum ?zz_z_set ?zz_z_range ?zz_z_max ?zz_z_min ?zz_z_list ?zz_z_ValueError ?zz_z_zip ?zz_z_sorted ?zz_z_repr ?zz_q1 ?zz_q2 ?zz_q3 ?zz_q4 ?zz_q5 ?zz_g_g0 ?zz_g_g1 ?zz_g_g2 ?zz_g_g3 ?zz_g_g4 ?zz_g_g5 ?zz_g_g6 ?zz_g_g7 ?zz_g_g8 ?zz_g_g9 ?zz_g_g10 ?zz_g_g11 ?zz_g_g12 ?zz_g_g13 ?zz_g_g14 ?zz_g_g15 ?zz_g_g16 ?zz_g_gT ?zz_g_gN ?zz_g_gW ?zz_x3_1 ?zz_y1_1 ?zz_y2_1 ?zz_y3_1 ?zz_y4_1 ?zz_y5 ?zz_y6 ?zz_y7_1 ?zz_j_k1_0 ?zz_j_k1_1 ?zz_j_k1_2 ?zz_j_k1_3 ?zz_j_k1_4 ?zz_j_k1_5 ?zz_j_k1_6 ?zz_j_k1_7 ?zz_j_k1_8 ?zz_j_k1_9 ?zz_j_k1_10 ?zz_j_k1_11 ?zz_j_k1_12 ?zz_j_k1_13 ?zz_j_k1_14 ?zz_j_k1_15 ?zz_j_k1_16 ?zz_j_kT1 ?zz_j_kN1 ?zz_j_kV1 ?zz_j_eW1 ?zz_x3_4 ?zz_y1_4 ?zz_y2_4 ?zz_y3_4 ?zz_y4_4 ?zz_y7_4 ?zz_j_k4_0 ?zz_j_k4_1 ?zz_j_k4_2 ?zz_j_k4_3 ?zz_j_k4_4 ?zz_j_k4_5 ?zz_j_k4_6 ?zz_j_k4_7 ?zz_j_k4_8 ?zz_j_k4_9 ?zz_j_k4_10 ?zz_j_k4_11 ?zz_j_k4_12 ?zz_j_k4_13 ?zz_j_k4_14 ?zz_j_k4_15 ?zz_j_k4_16 ?zz_j_kT4 ?zz_j_kN4 ?zz_j_kV4 ?zz_j_eW4 ?zz_x1_1 ?zz_x2_1 ?zz_x4_1 ?zz_x1_4 ?zz_x2_4 ?zz_x4_4 ?zz_nTLW ?zz_hdLW
    (case zz_a1 => first | k_is | rfl | decide +kernel | k_exc)
    (case zz_l1 => first | k_is | rfl | decide +kernel | k_exc)
    (case zz_c1_ => first | k_is | rfl | decide +kernel | k_exc)
    (case zz_k1_ => first | k_is | rfl | decide +kernel | k_exc)
    (case zz_a2 => first | k_is | rfl | decide +kernel | k_exc)
    (case zz_l2 => first | k_is | rfl | decide +kernel | k_exc)
    (case zz_c2_ => first | k_is | rfl | decide +kernel | k_exc)
    (case zz_k2_ => first | k_is | rfl | decide +kernel | k_exc)
    (case zz_a3 => first | k_is | rfl | decide +kernel | k_exc)
    (case zz_l3 => first | k_is | rfl | decide +kernel | k_exc)
    (case zz_c3_ => first | k_is | rfl | decide +kernel | k_exc)
    (case zz_k3_ => first | k_is | rfl | decide +kernel | k_exc)
    (case zz_a4 => first | k_is | rfl | decide +kernel | k_exc)
    (case zz_l4 => first | k_is | rfl | decide +kernel | k_exc)
    (case zz_c4_ => first | k_is | rfl | decide +kernel | k_exc)
    (case zz_k4_ => first | k_is | rfl | decide +kernel | k_exc)
    (case zz_a5 => first | k_is | rfl | decide +kernel | k_exc)
    (case zz_l5 => first | k_is | rfl | decide +kernel | k_exc)
    (case zz_c5_ => first | k_is | rfl | decide +kernel | k_exc)
    (case zz_k5_ => first | k_is | rfl | decide +kernel | k_exc)
    (case zz_aN => first | k_is | rfl | decide +kernel | k_exc)
    (case zz_lN => first | k_is | rfl | decide +kernel | k_exc)
    (case zz_cN_ => first | k_is | rfl | decide +kernel | k_exc)
    (case zz_kN_ => first | k_is | rfl | decide +kernel | k_exc)
    (case zz_aP => first | k_is | rfl | decide +kernel | k_exc)
    (case zz_lP => first | k_is | rfl | decide +kernel | k_exc)
    (case zz_cP_ => first | k_is | rfl | decide +kernel | k_exc)
    (case zz_kP_ => first | k_is | rfl | decide +kernel | k_exc)
    (case zz_aR => first | k_is | rfl | decide +kernel | k_exc)
    (case zz_lR => first | k_is | rfl | decide +kernel | k_exc)
    (case zz_cR_ => first | k_is | rfl | decide +kernel | k_exc)
    (case zz_kR_ => first | k_is | rfl | decide +kernel | k_exc)
    (case zz_aS => first | k_is | rfl | decide +kernel | k_exc)
    (case zz_lS => first | k_is | rfl | decide +kernel | k_exc)
    (case zz_cS_ => first | k_is | rfl | decide +kernel | k_exc)
    (case zz_kS_ => first | k_is | rfl | decide +kernel | k_exc)
    (case zz_aF => first | k_is | rfl | decide +kernel | k_exc)
    (case zz_lF => first | k_is | rfl | decide +kernel | k_exc)
    (case zz_cF_ => first | k_is | rfl | decide +kernel | k_exc)
    (case zz_kF_ => first | k_is | rfl | decide +kernel | k_exc)
    (case zz_aX => first | k_is | rfl | decide +kernel | k_exc)
    (case zz_lX => first | k_is | rfl | decide +kernel | k_exc)
    (case zz_cX_ => first | k_is | rfl | decide +kernel | k_exc)
    (case zz_kX_ => first | k_is | rfl | decide +kernel | k_exc)
    (case zz_aG => first | k_is | rfl | decide +kernel | k_exc)
    (case zz_lG => first | k_is | rfl | decide +kernel | k_exc)
    (case zz_cG_ => first | k_is | rfl | decide +kernel | k_exc)
    (case zz_kG_ => first | k_is | rfl | decide +kernel | k_exc)
    (case zz_aH => first | k_is | rfl | decide +kernel | k_exc)
    (case zz_lH => first | k_is | rfl | decide +kernel | k_exc)
    (case zz_cH_ => first | k_is | rfl | decide +kernel | k_exc)
    (case zz_kH_ => first | k_is | rfl | decide +kernel | k_exc)
    (case zz_aPr => first | k_is | rfl | decide +kernel | k_exc)
    (case zz_lPr => first | k_is | rfl | decide +kernel | k_exc)
    (case zz_cPr_ => first | k_is | rfl | decide +kernel | k_exc)
    (case zz_kPr_ => first | k_is | rfl | decide +kernel | k_exc)
    (case zz_aAr => first | k_is | rfl | decide +kernel | k_exc)
    (case zz_lAr => first | k_is | rfl | decide +kernel | k_exc)
    (case zz_cAr_ => first | k_is | rfl | decide +kernel | k_exc)
    (case zz_kAr_ => first | k_is | rfl | decide +kernel | k_exc)
    (case zz_aSt => first | k_is | rfl | decide +kernel | k_exc)
    (case zz_lSt => first | k_is | rfl | decide +kernel | k_exc)
    (case zz_cSt_ => first | k_is | rfl | decide +kernel | k_exc)
    (case zz_kSt_ => first | k_is | rfl | decide +kernel | k_exc)
    (case zz_aCe => first | k_is | rfl | decide +kernel | k_exc)
    (case zz_lCe => first | k_is | rfl | decide +kernel | k_exc)
    (case zz_cCe_ => first | k_is | rfl | decide +kernel | k_exc)
    (case zz_kCe_ => first | k_is | rfl | decide +kernel | k_exc)
    (case zz_aTk => first | k_is | rfl | decide +kernel | k_exc)
    (case zz_lTk => first | k_is | rfl | decide +kernel | k_exc)
    (case zz_cTk_ => first | k_is | rfl | decide +kernel | k_exc)
    (case zz_kTk_ => first | k_is | rfl | decide +kernel | k_exc)
    (case zz_aNe => first | k_is | rfl | decide +kernel | k_exc)
    (case zz_lNe => first | k_is | rfl | decide +kernel | k_exc)
    (case zz_cNe_ => first | k_is | rfl | decide +kernel | k_exc)
    (case zz_kNe_ => first | k_is | rfl | decide +kernel | k_exc)
    (case zz_aOd => first | k_is | rfl | decide +kernel | k_exc)
    (case zz_lOd => first | k_is | rfl | decide +kernel | k_exc)
    (case zz_cOd_ => first | k_is | rfl | decide +kernel | k_exc)
    (case zz_kOd_ => first | k_is | rfl | decide +kernel | k_exc)
    (case zz_aNu => first | k_is | rfl | decide +kernel | k_exc)
    (case zz_lNu => first | k_is | rfl | decide +kernel | k_exc)
    (case zz_cNu_ => first | k_is | rfl | decide +kernel | k_exc)
    (case zz_kNu_ => first | k_is | rfl | decide +kernel | k_exc)
    (case zz_aMa => first | k_is | rfl | decide +kernel | k_exc)
    (case zz_lMa => first | k_is | rfl | decide +kernel | k_exc)
    (case zz_cMa_ => first | k_is | rfl | decide +kernel | k_exc)
    (case zz_kMa_ => first | k_is | rfl | decide +kernel | k_exc)
    (case zz_aWd => first | k_is | rfl | decide +kernel | k_exc)
    (case zz_lWd => first | k_is | rfl | decide +kernel | k_exc)
    (case zz_cWd_ => first | k_is | rfl | decide +kernel | k_exc)
    (case zz_kWd_ => first | k_is | rfl | decide +kernel | k_exc)
    (case zz_aSa => first | k_is | rfl | decide +kernel | k_exc)
    (case zz_lSa => first | k_is | rfl | decide +kernel | k_exc)
    (case zz_cSa_ => first | k_is | rfl | decide +kernel | k_exc)
    (case zz_kSa_ => first | k_is | rfl | decide +kernel | k_exc)
    (case zz_aMy => first | k_is | rfl | decide +kernel | k_exc)
    (case zz_lMy => first | k_is | rfl | decide +kernel | k_exc)
    (case zz_cMy_ => first | k_is | rfl | decide +kernel | k_exc)
    (case zz_kMy_ => first | k_is | rfl | decide +kernel | k_exc)
    (case zz_aLW => first | k_is | rfl | decide +kernel | k_exc)
    (case zz_lLW => first | k_is | rfl | decide +kernel | k_exc)
    (case zz_cLW_ => first | k_is | rfl | decide +kernel | k_exc)
    (case zz_kLW_ => first | k_is | rfl | decide +kernel | k_exc)
    (case zz_aL => first | k_is | rfl | decide +kernel | k_exc)
    (case zz_lL => first | k_is | rfl | decide +kernel | k_exc)
    (case zz_cL_ => first | k_is | rfl | decide +kernel | k_exc)
    (case zz_kL_ => first | k_is | rfl | decide +kernel | k_exc)
    (case zz_z_isinstance => first | k_is | rfl | decide +kernel | k_exc)
    (case zz_z_int => first | k_is | rfl | decide +kernel | k_exc)
    (case zz_z_bool => first | k_is | rfl | decide +kernel | k_exc)
    (case zz_z_tuple => first | k_is | rfl | decide +kernel | k_exc)
    (case zz_z_len => first | k_is | rfl | decide +kernel | k_exc)
    (case zz_z_all => first | k_is | rfl | decide +kernel | k_exc)
    (case zz_z_sum => first | k_is | rfl | decide +kernel | k_exc)
    (case zz_z_set => first | k_is | rfl | decide +kernel | k_exc)
    (case zz_z_range => first | k_is | rfl | decide +kernel | k_exc)
    (case zz_z_max => first | k_is | rfl | decide +kernel | k_exc)
    (case zz_z_min => first | k_is | rfl | decide +kernel | k_exc)
    (case zz_z_list => first | k_is | rfl | decide +kernel | k_exc)
    (case zz_z_ValueError => first | k_is | rfl | decide +kernel | k_exc)
    (case zz_z_zip => first | k_is | rfl | decide +kernel | k_exc)
    (case zz_z_sorted => first | k_is | rfl | decide +kernel | k_exc)
    (case zz_z_repr => first | k_is | rfl | decide +kernel | k_exc)
    (case zz_q1 => first | k_is | rfl | decide +kernel | k_exc)
    (case zz_q2 => first | k_is | rfl | decide +kernel | k_exc)
    (case zz_q3 => first | k_is | rfl | decide +kernel | k_exc)
    (case zz_q4 => first | k_is | rfl | decide +kernel | k_exc)
    (case zz_q5 => first | k_is | rfl | decide +kernel | k_exc)
    (case zz_g_g0 => first | k_is | rfl | decide +kernel | k_exc)
    (case zz_g_g1 => first | k_is | rfl | decide +kernel | k_exc)
    (case zz_g_g2 => first | k_is | rfl | decide +kernel | k_exc)
    (case zz_g_g3 => first | k_is | rfl | decide +kernel | k_exc)
    (case zz_g_g4 => first | k_is | rfl | decide +kernel | k_exc)
    (case zz_g_g5 => first | k_is | rfl | decide +kernel | k_exc)
    (case zz_g_g6 => first | k_is | rfl | decide +kernel | k_exc)
    (case zz_g_g7 => first | k_is | rfl | decide +kernel | k_exc)
    (case zz_g_g8 => first | k_is | rfl | decide +kernel | k_exc)
    (case zz_g_g9 => first | k_is | rfl | decide +kernel | k_exc)
    (case zz_g_g10 => first | k_is | rfl | decide +kernel | k_exc)
    (case zz_g_g11 => first | k_is | rfl | decide +kernel | k_exc)
    (case zz_g_g12 => first | k_is | rfl | decide +kernel | k_exc)
    (case zz_g_g13 => first | k_is | rfl | decide +kernel | k_exc)
    (case zz_g_g14 => first | k_is | rfl | decide +kernel | k_exc)
    (case zz_g_g15 => first | k_is | rfl | decide +kernel | k_exc)
    (case zz_g_g16 => first | k_is | rfl | decide +kernel | k_exc)
    (case zz_g_gT => first | k_is | rfl | decide +kernel | k_exc)
    (case zz_g_gN => first | k_is | rfl | decide +kernel | k_exc)
    (case zz_g_gW => first | k_is | rfl | decide +kernel | k_exc)
    (case zz_x3_1 => first | k_is | rfl | decide +kernel | k_exc)
    (case zz_y1_1 => first | k_is | rfl | decide +kernel | k_exc)
    (case zz_y2_1 => first | k_is | rfl | decide +kernel | k_exc)
    (case zz_y3_1 => first | k_is | rfl | decide +kernel | k_exc)
    (case zz_y4_1 => first | k_is | rfl | decide +kernel | k_exc)
    (case zz_y5 => first | k_is | rfl | decide +kernel | k_exc)
    (case zz_y6 => first | k_is | rfl | decide +kernel | k_exc)
    (case zz_y7_1 => first | k_is | rfl | decide +kernel | k_exc)
    (case zz_j_k1_0 => first | k_is | rfl | decide +kernel | k_exc)
    (case zz_j_k1_1 => first | k_is | rfl | decide +kernel | k_exc)
    (case zz_j_k1_2 => first | k_is | rfl | decide +kernel | k_exc)
    (case zz_j_k1_3 => first | k_is | rfl | decide +kernel | k_exc)
    (case zz_j_k1_4 => first | k_is | rfl | decide +kernel | k_exc)
    (case zz_j_k1_5 => first | k_is | rfl | decide +kernel | k_exc)
    (case zz_j_k1_6 => first | k_is | rfl | decide +kernel | k_exc)
    (case zz_j_k1_7 => first | k_is | rfl | decide +kernel | k_exc)
    (case zz_j_k1_8 => first | k_is | rfl | decide +kernel | k_exc)
    (case zz_j_k1_9 => first | k_is | rfl | decide +kernel | k_exc)
    (case zz_j_k1_10 => first | k_is | rfl | decide +kernel | k_exc)
    (case zz_j_k1_11 => first | k_is | rfl | decide +kernel | k_exc)
    (case zz_j_k1_12 => first | k_is | rfl | decide +kernel | k_exc)
    (case zz_j_k1_13 => first | k_is | rfl | decide +kernel | k_exc)
    (case zz_j_k1_14 => first | k_is | rfl | decide +kernel | k_exc)
    (case zz_j_k1_15 => first | k_is | rfl | decide +kernel | k_exc)
    (case zz_j_k1_16 => first | k_is | rfl | decide +kernel | k_exc)
    (case zz_j_kT1 => first | k_is | rfl | decide +kernel | k_exc)
    (case zz_j_kN1 => first | k_is | rfl | decide +kernel | k_exc)
    (case zz_j_kV1 => first | k_is | rfl | decide +kernel | k_exc)
    (case zz_j_eW1 => first | k_is | rfl | decide +kernel | k_exc)
    (case zz_x3_4 => first | k_is | rfl | decide +kernel | k_exc)
    (case zz_y1_4 => first | k_is | rfl | decide +kernel | k_exc)
    (case zz_y2_4 => first | k_is | rfl | decide +kernel | k_exc)
    (case zz_y3_4 => first | k_is | rfl | decide +kernel | k_exc)
    (case zz_y4_4 => first | k_is | rfl | decide +kernel | k_exc)
    (case zz_y7_4 => first | k_is | rfl | decide +kernel | k_exc)
    (case zz_j_k4_0 => first | k_is | rfl | decide +kernel | k_exc)
    (case zz_j_k4_1 => first | k_is | rfl | decide +kernel | k_exc)
    (case zz_j_k4_2 => first | k_is | rfl | decide +kernel | k_exc)
    (case zz_j_k4_3 => first | k_is | rfl | decide +kernel | k_exc)
    (case zz_j_k4_4 => first | k_is | rfl | decide +kernel | k_exc)
    (case zz_j_k4_5 => first | k_is | rfl | decide +kernel | k_exc)
    (case zz_j_k4_6 => first | k_is | rfl | decide +kernel | k_exc)
    (case zz_j_k4_7 => first | k_is | rfl | decide +kernel | k_exc)
    (case zz_j_k4_8 => first | k_is | rfl | decide +kernel | k_exc)
    (case zz_j_k4_9 => first | k_is | rfl | decide +kernel | k_exc)
    (case zz_j_k4_10 => first | k_is | rfl | decide +kernel | k_exc)
    (case zz_j_k4_11 => first | k_is | rfl | decide +kernel | k_exc)
    (case zz_j_k4_12 => first | k_is | rfl | decide +kernel | k_exc)
    (case zz_j_k4_13 => first | k_is | rfl | decide +kernel | k_exc)
    (case zz_j_k4_14 => first | k_is | rfl | decide +kernel | k_exc)
    (case zz_j_k4_15 => first | k_is | rfl | decide +kernel | k_exc)
    (case zz_j_k4_16 => first | k_is | rfl | decide +kernel | k_exc)
    (case zz_j_kT4 => first | k_is | rfl | decide +kernel | k_exc)
    (case zz_j_kN4 => first | k_is | rfl | decide +kernel | k_exc)
    (case zz_j_kV4 => first | k_is | rfl | decide +kernel | k_exc)
    (case zz_j_eW4 => first | k_is | rfl | decide +kernel | k_exc)
    (case zz_x1_1 => first | k_is | rfl | decide +kernel | k_exc)
    (case zz_x2_1 => first | k_is | rfl | decide +kernel | k_exc)
    (case zz_x4_1 => first | k_is | rfl | decide +kernel | k_exc)
    (case zz_x1_4 => first | k_is | rfl | decide +kernel | k_exc)
    (case zz_x2_4 => first | k_is | rfl | decide +kernel | k_exc)
    (case zz_x4_4 => first | k_is | rfl | decide +kernel | k_exc)
    (case zz_nTLW => first | k_is | rfl | decide +kernel | k_exc)
    (case zz_hdLW => first | k_is | rfl | decide +kernel | k_exc)
