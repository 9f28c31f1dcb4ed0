import PyProof.Rows.All
import Wide.All
import OpenK.AllK
import Wide.FinOn
import PySem.Challenge.RW_waysranked_k02_ways_told
import HandS.ForMost
import HandS.ForExc
import HandS.IsInst
import HandS.ExcIs
import HandS.Lambda
import HandS.HotCalls
import HandS.Zip
import HandS.Strs
import HandS.Flow
import HandS.Style
import HandS.TupAny
import HandS.TupLe
import HandS.Defaults
import PyProof.ReprRoads
import KE.GoesMore
import PyProof.Draws
import KE.KNestM
set_option Elab.async false
set_option linter.all false
set_option maxRecDepth 100000
namespace Wy
open PySem PySem.Spec PyProof.Rows L2
def topS (i : Nat) : Stmt := PySem.Challenge.pw_waysranked_k02_ways_told.main.body.getD i (.Pass ⟨0, 0, 0, 0⟩)
abbrev sWhole : Stmt := topS 22
abbrev sWithin : Stmt := topS 23
abbrev sRoadOf : Stmt := topS 35
abbrev sTupOf : Stmt := topS 31
abbrev sCell : Stmt := topS 42
abbrev sState : Stmt := topS 43
abbrev sTake : Stmt := topS 44
abbrev sNum : Stmt := topS 48
/-- a def of the text, where it stands, how its arguments bind -/
structure Df (K : PySem.W.Frag) (mg : Str → Option Value) (x : Str) (st : Stmt) (ps : List Str) (f : Addr) (fd : FuncData) : Prop where
  F : Fun K x x st f fd
  b : Binds K fd ps []
  g : mg x = some (.ref f)
/-- all but the state's list stays -/
def Keep (z : Addr) (H H' : Hp) : Prop := ∀ b o, H b = some o → b ≠ z → H' b = some o
def StOk (H : Hp) (z : Addr) : Prop := ∃ x y : Int, H z = some (.lst [.int x, .int y]) ∧ 0 ≤ x ∧ 0 ≤ y ∧ y < 2147483647
theorem Keep.refl (z : Addr) (H : Hp) : Keep z H H := fun _ _ h _ => h
theorem Keep.trans {z : Addr} {H H1 H2 : Hp} (a : Keep z H H1) (b : Keep z H1 H2) : Keep z H H2 := fun c o h n => b c o (a c o h n) n
theorem Keep.self {z : Addr} {H : Hp} {o : HO} : Keep z H (upd H z o) := fun b u h n => by rw [upd_ne n]; exact h
theorem Keep.new {z p : Addr} {H : Hp} {o : HO} (h : H p = none) : Keep z H (upd H p o) := fun b u e _ => by rw [upd_ne (ne_of_none e h)]; exact e
theorem Keep.of {z : Addr} {H H' : Hp} (h : Same H H') : Keep z H H' := fun b o e _ => h b o e
theorem same_new {H : Hp} {p : Addr} {o : HO} (h : H p = none) : Same H (upd H p o) := fun b x e => by
  rw [upd_ne (ne_of_none e h)]
  exact e
theorem StOk.same {H H' : Hp} {z : Addr} (s : StOk H z) (h : Same H H') : StOk H' z := let ⟨x, y, e, r⟩ := s; ⟨x, y, h _ _ e, r⟩
theorem StOk.ne {H : Hp} {z p : Addr} (s : StOk H z) (h : H p = none) : z ≠ p := let ⟨_, _, e, _⟩ := s; ne_of_none e h
/-- a thing of whatever kind, by its class -/
inductive Tg (H : Hp) : V → String → Prop where
  | non : Tg H .non "NoneType"
  | bl (b : Bool) : Tg H (.bl b) "bool"
  | int (i : Int) : Tg H (.int i) "int"
  | str (x : Str) : Tg H (.str x) "str"
  | lst {a : Addr} {xs : List V} : H a = some (.lst xs) → Tg H (.ref a) "list"
  | tup {a : Addr} {xs : List V} : H a = some (.tup xs) → Tg H (.ref a) "tuple"
  | dct {a : Addr} {xs : List (Key × V)} : H a = some (.dK xs) → Tg H (.ref a) "dict"
theorem Tg.tyx {K : PySem.W.Frag} {H : Hp} {v : V} {n : String} (t : Tg H v n) : TyX K H v (.type n) := by
  cases t with
  | non => exact .base .non
  | bl b => exact .base (.bl b)
  | int i => exact .base (.int i)
  | str x => exact .base (.str x)
  | lst e => exact .base (.lst e)
  | tup e => exact .base (.tup e)
  | dct e => exact .base (.dK e)
theorem Tg.keep {H H' : Hp} {v : V} {n : String} (t : Tg H v n) (h : Same H H') : Tg H' v n := by
  cases t with
  | non => exact .non
  | bl b => exact .bl b
  | int i => exact .int i
  | str x => exact .str x
  | lst e => exact .lst (h _ _ e)
  | tup e => exact .tup (h _ _ e)
  | dct e => exact .dct (h _ _ e)
def kInt (n : String) : Bool := n == "int" || n == "bool"
theorem isi_int {K : PySem.W.Frag} {H : Hp} {v : V} {n : String} (t : Tg H v n) : PySem.W.kitOne K (.type n) (.type "int") = some (kInt n) := by
  cases t <;> exact kit_ty (by decide +kernel)
theorem isi_bool {K : PySem.W.Frag} {H : Hp} {v : V} {n : String} (t : Tg H v n) : PySem.W.kitOne K (.type n) (.type "bool") = some (n == "bool") := by
  cases t <;> exact kit_ty (by decide +kernel)
theorem isi_tuple {K : PySem.W.Frag} {H : Hp} {v : V} {n : String} (t : Tg H v n) : PySem.W.kitOne K (.type n) (.type "tuple") = some (n == "tuple") := by
  cases t <;> exact kit_ty (by decide +kernel)
/-- a whole number from lo to hi -/
def isIn (v : V) (lo hi : Int) : Bool := match v with
  | .int i => decide (lo ≤ i) && decide (i ≤ hi)
  | _ => false
section
variable {P : Program} {w : World} {K : PySem.W.Frag} {mg : Str → Option Value} {base : Heap}
theorem scTake : FnScope ["_law_state_here", "_law_much", "_law_found", "_law_stirred"] ["_law_state_here", "_law_much"] (defScope sTake) := ⟨rfl, rfl, rfl, by decide +kernel, rfl, by decide +kernel, by decide +kernel⟩
def spTake : Sp := fun vs H Q _ => ∃ (z : Addr) (m : Int), vs = [.ref z, .int m] ∧ StOk H z ∧ 0 < m ∧ m < 1073741824 ∧
  ∀ H' n, Keep z H H' → StOk H' z → 0 ≤ n → n < m → Q (.int n) H'
theorem ok_take {f : Addr} {fd : FuncData} {k : Nat} (D : Df K mg "_law_take" sTake ["_law_state_here", "_law_much"] f fd) : FnOk P w K mg base CX0 (k + 1) f fd ["_law_state_here", "_law_much"] spTake := by
  refine D.F.ok scTake (fun vs H Q E h => ?_) (fun cdv A outer s H vs Q E hr h => ?_)
  · obtain ⟨_, _, rfl, _⟩ := h
    rfl
  · obtain ⟨z, m, rfl, ⟨x, y, e, hx, hy, hy2⟩, hm, hm2, q⟩ := h
    refine ⟨_, pss_cons (ps_if (pt_cmpR op_gt (pe_ix ix_list (pv 0) pe_int (fun _ _ => rfl)) pe_int (nomark _))
        (pss_cons (ps_set (i := 2) scTake.nd rfl (.inl rfl) (pe_op op_mod (pe_ix ix_list (pv 0) pe_int (fun _ _ => rfl)) (pv 1)))
        (pss_cons (ps_asg (pe_op op_fdiv (pe_ix ix_list (pv 0) pe_int (fun _ _ => rfl)) (pv 1)) (pg_sub (pv 0) pe_int set_list))
        (pss_one (ps_ret (pv 2))))) pss_nil)
      (pss_cons (ps_asg (pe_op op_mod (pe_op op_add (pe_op op_mul (pe_ix ix_list (pv 0) pe_int (fun _ _ => rfl)) pe_int) pe_int) pe_int) (pg_sub (pv 0) pe_int set_list))
      (pss_cons (ps_set (i := 3) scTake.nd rfl (.inl rfl) (pe_op op_mod (pe_op op_add (pe_op op_add (pe_op op_mul (pe_ix ix_list (pv 0) pe_int (fun _ _ => rfl)) (pe_ix ix_list (pv 0) pe_int (fun _ _ => rfl))) (pe_op op_mul pe_int (pe_ix ix_list (pv 0) pe_int (fun _ _ => rfl)))) pe_int) pe_int))
      (pss_cons (ps_set (i := 3) scTake.nd rfl (.inl rfl) (pe_op op_mod (pe_op op_add (pe_op op_mul (pv 3) (pv 3)) (pe_op op_mul pe_int (pv 3))) pe_int))
      (pss_one (ps_ret (pe_op op_mod (pe_op op_fdiv (pv 3) pe_int) (pv 1))))))), ?_⟩
    refine ⟨.ref z, rfl, z, _, 0, _, rfl, rfl, SqL.of e, rfl, x, 0, rfl, rfl, _, rfl, ite2 (fun c => ?_) (fun c => ?_)⟩
    · refine ⟨.ref z, rfl, z, _, 0, _, rfl, rfl, SqL.of e, rfl, .int m, rfl, x, m, rfl, rfl, hm, ?_⟩
      refine ⟨.ref z, rfl, z, _, 0, _, rfl, rfl, SqL.of e, rfl, .int m, rfl, x, m, rfl, rfl, ⟨hm, hm2⟩, ?_⟩
      refine ⟨.ref z, rfl, z, _, 0, 0, rfl, rfl, e, rfl, ?_⟩
      refine ⟨.int (x % m), rfl, q _ _ .self ⟨x / m, y, upd_same, Int.ediv_nonneg hx (Int.le_of_lt hm), hy, hy2⟩ (Int.emod_nonneg _ (by omega)) (Int.emod_lt_of_pos _ hm)⟩
    · have b1 := Int.emod_nonneg (y * 48271 + 29) (show (2147483647 : Int) ≠ 0 by decide)
      have b2 := Int.emod_lt_of_pos (y * 48271 + 29) (show (0 : Int) < 2147483647 by decide)
      refine ⟨.ref z, rfl, z, _, 1, _, rfl, rfl, SqL.of e, rfl, y, 48271, rfl, rfl, .inr ⟨by decide, by decide⟩, _, _, rfl, rfl, _, 2147483647, rfl, rfl, (by show (0 : Int) < 2147483647; decide), ?_⟩
      refine ⟨.ref z, rfl, z, _, 1, 1, rfl, rfl, e, rfl, ?_⟩
      have e2 : (upd H z (.lst [.int x, .int ((y * 48271 + 29) % 2147483647)])) z = some (.lst [.int x, .int ((y * 48271 + 29) % 2147483647)]) := upd_same
      obtain ⟨y2, ey⟩ : ∃ y2, y2 = (y * 48271 + 29) % 2147483647 := ⟨_, rfl⟩
      rw [← ey] at b1 b2 e2
      show (fun H0 : Hp => _) (upd H z (.lst [.int x, .int ((y * 48271 + 29) % 2147483647)]))
      rw [← ey]
      refine ⟨.ref z, rfl, z, _, 1, _, rfl, rfl, SqL.of e2, rfl, .ref z, rfl, z, _, 1, _, rfl, rfl, SqL.of e2, rfl, y2, y2, rfl, rfl, .inl ⟨by omega, by omega⟩, .ref z, rfl, z, _, 1, _, rfl, rfl, SqL.of e2, rfl, 39373, y2, rfl, rfl, .inl ⟨by decide, by decide⟩, _, _, rfl, rfl, _, 7, rfl, rfl, _, 2147483629, rfl, rfl, (by show (0 : Int) < 2147483629; decide), ?_⟩
      have c1 := Int.emod_nonneg (y2 * y2 + 39373 * y2 + 7) (show (2147483629 : Int) ≠ 0 by decide)
      have c2 := Int.emod_lt_of_pos (y2 * y2 + 39373 * y2 + 7) (show (0 : Int) < 2147483629 by decide)
      have d1 : -(2 : Int) ^ 64 < (y2 * y2 + 39373 * y2 + 7) % 2147483629 := Int.lt_of_lt_of_le (by decide) c1
      have d2 : (y2 * y2 + 39373 * y2 + 7) % 2147483629 < (2 : Int) ^ 64 := Int.lt_trans c2 (by decide)
      refine ⟨_, rfl, _, rfl, _, _, rfl, rfl, .inl ⟨d1, d2⟩, _, rfl, 16807, _, rfl, rfl, .inl ⟨by decide, by decide⟩, _, _, rfl, rfl, _, 2147483587, rfl, rfl, (by show (0 : Int) < 2147483587; decide), ?_⟩
      refine ⟨_, rfl, _, 8, rfl, rfl, ⟨by decide, by decide⟩, .int m, rfl, _, m, rfl, rfl, hm, ?_⟩
      exact q _ _ .self ⟨x, y2, e2, hx, b1, b2⟩ (Int.emod_nonneg _ (by omega)) (Int.emod_lt_of_pos _ hm)
theorem scCell : FnScope ["_law_script", "_law_k"] ["_law_script", "_law_k"] (defScope sCell) := ⟨rfl, rfl, rfl, by decide +kernel, rfl, by decide +kernel, by decide +kernel⟩
def spCell (K : PySem.W.Frag) : Sp := fun vs H Q _ => ∃ (a : Addr) (ns : List Int) (i : Nat), vs = [.ref a, .int (i : Int)] ∧ SqL K H a (ns.map V.int) ∧ ∀ n, Q (.int n) H
theorem ok_cell {f : Addr} {fd : FuncData} {k : Nat} (D : Df K mg "_law_cell_at" sCell ["_law_script", "_law_k"] f fd) (ml : mg "len" = none) : FnOk P w K mg base CX0 (k + 1) f fd ["_law_script", "_law_k"] (spCell K) := by
  refine D.F.ok scCell (fun vs H Q E h => ?_) (fun cdv A outer s H vs Q E hr h => ?_)
  · obtain ⟨_, _, _, rfl, _⟩ := h
    rfl
  · obtain ⟨a, ns, i, rfl, hS, q⟩ := h
    refine ⟨_, pss_cons (ps_if (pt_cmpR op_lt (pv 1) (pe_callB call_len_seq (by rfl) ml PySem.boot_len (pa_cons (pv 0) pa_nil)) (nomark _))
        (pss_one (ps_ret (pe_ix ix_list (pv 0) (pv 1) (fun _ _ => rfl)))) pss_nil) (pss_one (ps_ret pe_int)), ?_⟩
    refine ⟨.int i, rfl, .ref a, rfl, a, _, rfl, .inl hS, _, _, rfl, rfl, _, rfl, ite2 (fun c => ?_) (fun c => ?_)⟩
    · have c' : (i : Int) < ((ns.map V.int).length : Int) := of_decide_eq_true c
      rw [List.length_map] at c'
      have hi : i < ns.length := by omega
      refine ⟨.ref a, rfl, .int i, rfl, a, _, i, .int ns[i], rfl, rfl, hS, atI_nat ?_, q _⟩
      rw [List.getElem?_map, List.getElem?_eq_getElem hi]
      rfl
    · exact q _
theorem scState : FnScope ["_law_script", "_law_k", "_law_cell"] ["_law_script", "_law_k"] (defScope sState) := ⟨rfl, rfl, rfl, by decide +kernel, rfl, by decide +kernel, by decide +kernel⟩
def spState (K : PySem.W.Frag) : Sp := fun vs H Q _ => ∃ (a : Addr) (ns : List Int) (i : Nat), vs = [.ref a, .int (i : Int)] ∧ SqL K H a (ns.map V.int) ∧ ∀ H' z, Same H H' → H z = none → StOk H' z → Q (.ref z) H'
theorem ok_state {f fC : Addr} {fd fdC : FuncData} {k : Nat} (D : Df K mg "_law_state" sState ["_law_script", "_law_k"] f fd) (DC : Df K mg "_law_cell_at" sCell ["_law_script", "_law_k"] fC fdC) (ml : mg "len" = none) (mm : mg "max" = none) : FnOk P w K mg base CX0 (k + 2) f fd ["_law_script", "_law_k"] (spState K) := by
  have G : FnOk P w K mg base CX0 (k + 1) fC fdC ["_law_script", "_law_k"] (spCell K) := ok_cell DC ml
  refine D.F.ok scState (fun vs H Q E h => ?_) (fun cdv A outer s H vs Q E hr h => ?_)
  · obtain ⟨_, _, _, rfl, _⟩ := h
    rfl
  · obtain ⟨a, ns, i, rfl, hS, q⟩ := h
    refine ⟨_, pss_cons (ps_set (i := 2) scState.nd rfl (.inl rfl) (pe_call G hr (by rfl) DC.g DC.F.kp DC.b .nil pass0 (pa_cons (pv 0) (pa_cons (pv 1) pa_nil))))
      (pss_one (ps_ret (pe_lst (pa_cons (pe_callB (call_max2 rfl) (by rfl) mm (by decide +kernel) (pa_cons pe_int (pa_cons (pe_op op_sub (pv 2) (pe_op op_pow pe_int pe_int)) pa_nil)))
        (pa_cons (pe_op op_mod (pv 2) pe_int) pa_nil))))), ?_⟩
    refine ⟨.ref a, rfl, .int i, rfl, a, ns, i, rfl, hS, fun n => ?_⟩
    refine ⟨.int n, rfl, 10, 18, rfl, rfl, ⟨by decide, by decide, by decide⟩, n, _, rfl, rfl, 0, _, rfl, .int n, rfl, n, 2147483647, rfl, rfl, (by show (0 : Int) < 2147483647; decide), by show 2 ≤ sizeLine; decide, fun z hz => ?_⟩
    refine q _ z (same_new hz) hz ⟨_, _, upd_same, ?_, Int.emod_nonneg _ (by decide), Int.emod_lt_of_pos _ (by decide)⟩
    split <;> omega
theorem scNum : FnScope ["_law_what", "_law_least", "_law_most"] ["_law_what", "_law_least", "_law_most"] (defScope sNum) := ⟨rfl, rfl, rfl, by decide +kernel, rfl, by decide +kernel, by decide +kernel⟩
def spNum : Sp := fun vs H Q _ => ∃ (v : V) (n : String) (lo hi : Int), vs = [v, .int lo, .int hi] ∧ Tg H v n ∧ Q (.bl (isIn v lo hi)) H
theorem ok_num {f : Addr} {fd : FuncData} {k : Nat} (D : Df K mg "_law_number" sNum ["_law_what", "_law_least", "_law_most"] f fd) (mi : mg "isinstance" = none) (mI : mg "int" = none) (mB : mg "bool" = none) : FnOk P w K mg base CX0 (k + 1) f fd ["_law_what", "_law_least", "_law_most"] spNum := by
  refine D.F.ok scNum (fun vs H Q E h => ?_) (fun cdv A outer s H vs Q E hr h => ?_)
  · obtain ⟨_, _, _, _, rfl, _⟩ := h
    rfl
  · obtain ⟨v, n, lo, hi, rfl, t, q⟩ := h
    refine ⟨_, pss_one (ps_ret (pe_and (pe_callB call_isi (by rfl) mi (by decide +kernel) (pa_cons (pv 0) (pa_cons (pe_bltn (v := .ty "int") (by rfl) mI (by decide +kernel) rfl) pa_nil)))
      (pe_and (pe_not (pe_callB call_isi (by rfl) mi (by decide +kernel) (pa_cons (pv 0) (pa_cons (pe_bltn (v := .ty "bool") (by rfl) mB (by decide +kernel) rfl) pa_nil))))
      (pe_one (pe_chain op_le op_le (pv 1) (pv 0) (pv 2)))))), ?_⟩
    refine ⟨v, rfl, v, .ty "int", .type n, .type "int", kInt n, rfl, .ty _, t.tyx, isi_int t, _, rfl, ?_⟩
    cases t with
    | int i =>
      refine iteT ?_
      refine ⟨_, rfl, .int i, .ty "bool", .type "int", .type "bool", false, rfl, .ty _, .base (.int i), isi_bool (.int (H := H) i), _, rfl, _, rfl, ?_⟩
      refine iteT ?_
      refine ⟨.int lo, rfl, .int i, rfl, lo, i, rfl, rfl, _, rfl, ?_⟩
      refine ite2 (fun c => ?_) (fun c => ?_)
      · refine ⟨.int hi, rfl, i, hi, rfl, rfl, ?_⟩
        have c' : lo ≤ i := of_decide_eq_true c
        have e : isIn (.int i) lo hi = decide (i ≤ hi) := by
          show (decide (lo ≤ i) && decide (i ≤ hi)) = _
          rw [c, Bool.true_and]
        rw [e] at q
        exact q
      · have e : isIn (.int i) lo hi = false := by
          show (decide (lo ≤ i) && decide (i ≤ hi)) = _
          rw [Bool.eq_false_iff.mpr c, Bool.false_and]
        rw [e] at q
        exact q
    | bl b =>
      refine iteT ?_
      refine ⟨_, rfl, .bl b, .ty "bool", .type "bool", .type "bool", true, rfl, .ty _, .base (.bl b), isi_bool (.bl (H := H) b), _, rfl, _, rfl, ?_⟩
      exact iteF q
    | non => exact iteF q
    | str x => exact iteF q
    | lst e => exact iteF q
    | tup e => exact iteF q
    | dct e => exact iteF q
end
end Wy

namespace Wy
open PySem PySem.Spec PyProof.Rows L2
abbrev sNetQ : Stmt := topS 30
abbrev sRoadQ : Stmt := topS 32
abbrev sChkN : Stmt := topS 33
abbrev sChkP : Stmt := topS 34
abbrev sWayOf : Stmt := topS 36
abbrev sSimple : Stmt := topS 37
abbrev sAlong : Stmt := topS 40
/-! ### nets -/
structure Road where
  one : Int
  other : Int
  cost : Int
  time : Int
def Road.vs (q : Road) : List V := [.int q.one, .int q.other, .int q.cost, .int q.time]
structure RoadOk (p : Int) (q : Road) : Prop where
  o1 : 0 ≤ q.one
  o2 : q.one ≤ p - 1
  t1 : 0 ≤ q.other
  t2 : q.other ≤ p - 1
  ne : q.one ≠ q.other
  c1 : 1 ≤ q.cost
  c2 : q.cost ≤ 99
  m1 : 0 ≤ q.time
  m2 : q.time ≤ 99
structure NetOk (p : Int) (rs : List Road) : Prop where
  p1 : 1 ≤ p
  p2 : p ≤ 10
  len : rs.length ≤ 30
  all : ∀ q ∈ rs, RoadOk p q
/-- the tuples at ts are the roads rs -/
def RoadsAt (H : Hp) : List Addr → List Road → Prop := Paired fun t q => H t = some (.tup q.vs)
def NetAt (H : Hp) (a r : Addr) (ts : List Addr) (p : Int) (rs : List Road) : Prop := H a = some (.tup [.int p, .ref r]) ∧ H r = some (.tup (ts.map V.ref)) ∧ RoadsAt H ts rs
theorem RoadsAt.keep {H H' : Hp} {ts : List Addr} {rs : List Road} (h : RoadsAt H ts rs) (k : ∀ b xs, H b = some (.tup xs) → H' b = some (.tup xs)) : RoadsAt H' ts rs := Paired.mapP h fun _ _ e => k _ _ e
theorem NetAt.keep {H H' : Hp} {a r : Addr} {ts : List Addr} {p : Int} {rs : List Road} (h : NetAt H a r ts p rs) (k : ∀ b xs, H b = some (.tup xs) → H' b = some (.tup xs)) : NetAt H' a r ts p rs := ⟨k _ _ h.1, k _ _ h.2.1, h.2.2.keep k⟩
theorem RoadsAt.len {H : Hp} {ts : List Addr} {rs : List Road} (h : RoadsAt H ts rs) : ts.length = rs.length := Paired.length h
theorem RoadsAt.get {H : Hp} : ∀ {ts : List Addr} {rs : List Road} {i : Nat} {t : Addr}, RoadsAt H ts rs → ts[i]? = some t → ∃ q, rs[i]? = some q ∧ H t = some (.tup q.vs)
  | _, _, _, _, .nil, e => by simp at e
  | _, _, 0, _, .cons r _, e => by
    simp at e
    subst e
    exact ⟨_, rfl, r⟩
  | _, _, i + 1, t, .cons _ s, e => by
    obtain ⟨q, h1, h2⟩ := RoadsAt.get (i := i) (t := t) s (by simpa using e)
    exact ⟨q, by simpa using h1, h2⟩
/-! ### ways -/
def step (rs : List Road) (here : Int) (v : V) : Option Road := match v with
  | .int i => if 0 ≤ i ∧ i ≤ (rs.length : Int) - 1 then (match rs[i.toNat]? with
    | some q => if q.one = here then some q else none
    | none => none) else none
  | _ => none
def goes (rs : List Road) : Int → List V → Option (List Road)
  | _, [] => some []
  | here, v :: r => match step rs here v with
    | none => none
    | some q => (goes rs q.other r).map (q :: ·)
def lastOf (here : Int) (qs : List Road) : Int := ((here :: qs.map Road.other).getLast?).getD here
def metOf (here : Int) (qs : List Road) : List Int := here :: qs.map Road.other
theorem lastOf_cons (here : Int) (q : Road) (qs : List Road) : lastOf here (q :: qs) = lastOf q.other qs := by
  unfold lastOf
  rw [List.map_cons, List.getLast?_cons_cons]
  cases e : (q.other :: qs.map Road.other).getLast? with
  | none => simp at e
  | some z => rfl
theorem lastOf_snoc (here : Int) (qs : List Road) (q : Road) : lastOf here (qs ++ [q]) = q.other := by
  unfold lastOf
  rw [List.map_append, List.map_singleton, ← List.cons_append, List.getLast?_append]
  rfl
theorem goes_snoc (rs : List Road) : ∀ (xs : List V) (here : Int) (v : V), goes rs here (xs ++ [v]) = (goes rs here xs).bind fun qs => (step rs (lastOf here qs) v).map fun q => qs ++ [q]
  | [], here, v => by
    show (match step rs here v with | none => none | some q => (some []).map (q :: ·)) = (step rs (lastOf here []) v).map fun q => [] ++ [q]
    show _ = (step rs here v).map fun q => [q]
    cases step rs here v <;> rfl
  | x :: r, here, v => by
    show (match step rs here x with | none => none | some q => (goes rs q.other (r ++ [v])).map (q :: ·)) = (match step rs here x with | none => none | some q => (goes rs q.other r).map (q :: ·)).bind _
    cases e : step rs here x with
    | none => rfl
    | some q =>
      show (goes rs q.other (r ++ [v])).map (q :: ·) = ((goes rs q.other r).map (q :: ·)).bind _
      rw [goes_snoc rs r q.other v]
      cases e2 : goes rs q.other r with
      | none => rfl
      | some qs =>
        show ((step rs (lastOf q.other qs) v).map fun q => qs ++ [q]).map (q :: ·) = (step rs (lastOf here (q :: qs)) v).map fun z => (q :: qs) ++ [z]
        rw [lastOf_cons]
        cases step rs (lastOf q.other qs) v <;> rfl
theorem goes_none (rs : List Road) : ∀ (ys xs : List V) (here : Int), goes rs here xs = none → goes rs here (xs ++ ys) = none
  | ys, [], here, h => by
    have h : some [] = (none : Option (List Road)) := h
    cases h
  | ys, x :: r, here, h => by
    show (match step rs here x with | none => none | some q => (goes rs q.other (r ++ ys)).map (q :: ·)) = none
    have h : (match step rs here x with | none => none | some q => (goes rs q.other r).map (q :: ·)) = none := h
    cases e : step rs here x with
    | none => rfl
    | some q =>
      rw [e] at h
      have h2 : goes rs q.other r = none := by
        cases e2 : goes rs q.other r with
        | none => rfl
        | some z =>
          have h3 : (goes rs q.other r).map (q :: ·) = none := h
          rw [e2] at h3
          cases h3
      show (goes rs q.other (r ++ ys)).map (q :: ·) = none
      rw [goes_none rs ys r q.other h2]
      rfl
theorem goes_stop (rs : List Road) {xs : List V} {here : Int} {i : Nat} {v : V} {qs : List Road} (hi : xs[i]? = some v) (h : goes rs here (xs.take i) = some qs) (hs : step rs (lastOf here qs) v = none) : goes rs here xs = none := by
  have e : goes rs here (xs.take (i + 1)) = none := by
    rw [List.take_add_one, hi]
    show goes rs here (xs.take i ++ [v]) = none
    rw [goes_snoc, h]
    show (step rs (lastOf here qs) v).map _ = none
    rw [hs]
    rfl
  have := goes_none rs (xs.drop (i + 1)) _ here e
  rwa [List.take_append_drop] at this
theorem goes_go (rs : List Road) {xs : List V} {here : Int} {i : Nat} {v : V} {qs : List Road} {q : Road} (hi : xs[i]? = some v) (h : goes rs here (xs.take i) = some qs) (hs : step rs (lastOf here qs) v = some q) : goes rs here (xs.take (i + 1)) = some (qs ++ [q]) := by
  rw [List.take_add_one, hi]
  show goes rs here (xs.take i ++ [v]) = _
  rw [goes_snoc, h]
  show (step rs (lastOf here qs) v).map _ = _
  rw [hs]
  rfl
theorem goes_len (rs : List Road) : ∀ {xs : List V} {here : Int} {qs : List Road}, goes rs here xs = some qs → qs.length = xs.length
  | [], _, _, h => by
    have h := Option.some.inj h
    subst h
    rfl
  | x :: r, here, qs, h => by
    have h : (match step rs here x with | none => none | some q => (goes rs q.other r).map (q :: ·)) = some qs := h
    cases e : step rs here x with
    | none =>
      rw [e] at h
      cases h
    | some q =>
      rw [e] at h
      obtain ⟨z, e1, e2⟩ := Option.map_eq_some_iff.mp h
      subst e2
      rw [List.length_cons, List.length_cons, goes_len rs e1]
/-- the roads of a way, by its numbers -/
theorem goes_at (rs : List Road) : ∀ {xs : List V} {here : Int} {qs : List Road} {i : Nat} {v : V}, goes rs here xs = some qs → xs[i]? = some v → ∃ (n : Nat) (q : Road), v = .int (n : Int) ∧ rs[n]? = some q ∧ qs[i]? = some q
  | [], _, _, _, _, _, e => by simp at e
  | x :: r, here, qs, i, v, h, e => by
    have h : (match step rs here x with | none => none | some q => (goes rs q.other r).map (q :: ·)) = some qs := h
    cases e1 : step rs here x with
    | none =>
      rw [e1] at h
      cases h
    | some q =>
      rw [e1] at h
      obtain ⟨z, e2, e3⟩ := Option.map_eq_some_iff.mp h
      subst e3
      cases i with
      | zero =>
        simp at e
        subst e
        unfold step at e1
        split at e1
        · rename_i k
          split at e1
          · rename_i hk
            split at e1
            · rename_i q' eq
              split at e1
              · cases e1
                exact ⟨k.toNat, q, by rw [Int.toNat_of_nonneg hk.1], eq, rfl⟩
              · cases e1
            · cases e1
          · cases e1
        · cases e1
      | succ i => exact goes_at rs (i := i) e2 (by simpa using e)
theorem step_int (rs : List Road) {here : Int} {n : Nat} {q : Road} (h : rs[n]? = some q) : step rs here (.int (n : Int)) = if q.one = here then some q else none := by
  have hn : n < rs.length := (List.getElem?_eq_some_iff.mp h).1
  unfold step
  dsimp only
  rw [if_pos (by omega), Int.toNat_natCast, h]
theorem step_out (rs : List Road) {here : Int} {v : V} (h : isIn v 0 ((rs.length : Int) - 1) = false) : step rs here v = none := by
  unfold step
  split
  · rename_i i
    have h : (decide (0 ≤ i) && decide (i ≤ (rs.length : Int) - 1)) = false := h
    rw [if_neg]
    rintro ⟨a, b⟩
    rw [decide_eq_true a, decide_eq_true b] at h
    cases h
  · rfl
theorem isIn_true {v : V} {lo hi : Int} (h : isIn v lo hi = true) : ∃ i, v = .int i ∧ lo ≤ i ∧ i ≤ hi := by
  unfold isIn at h
  split at h
  · rename_i i
    rw [Bool.and_eq_true, decide_eq_true_eq, decide_eq_true_eq] at h
    exact ⟨i, rfl, h.1, h.2⟩
  · cases h
section
variable {P : Program} {w : World} {K : PySem.W.Frag} {mg : Str → Option Value} {base : Heap}
theorem scWhole : FnScope ["thing"] ["thing"] (defScope sWhole) := ⟨rfl, rfl, rfl, by decide +kernel, rfl, by decide +kernel, by decide +kernel⟩
def isInt : V → Bool
  | .int _ => true
  | _ => false
def spWhole : Sp := fun vs H Q _ => ∃ (v : V) (n : String), vs = [v] ∧ Tg H v n ∧ Q (.bl (isInt v)) H
theorem ok_whole {f : Addr} {fd : FuncData} {k : Nat} (D : Df K mg "is_whole" sWhole ["thing"] f fd) (mi : mg "isinstance" = none) (mI : mg "int" = none) (mB : mg "bool" = none) : FnOk P w K mg base CX0 (k + 1) f fd ["thing"] spWhole := by
  refine D.F.ok scWhole (fun vs H Q E h => ?_) (fun cdv A outer s H vs Q E hr h => ?_)
  · obtain ⟨_, _, rfl, _⟩ := h
    rfl
  · obtain ⟨v, n, rfl, t, q⟩ := h
    refine ⟨_, pss_one (ps_ret (pe_and (pe_callB call_isi (by rfl) mi (by decide +kernel) (pa_cons (pv 0) (pa_cons (pe_bltn (v := .ty "int") (by rfl) mI (by decide +kernel) rfl) pa_nil)))
      (pe_one (pe_not (pe_callB call_isi (by rfl) mi (by decide +kernel) (pa_cons (pv 0) (pa_cons (pe_bltn (v := .ty "bool") (by rfl) mB (by decide +kernel) rfl) pa_nil))))))), ?_⟩
    refine ⟨v, rfl, v, .ty "int", .type n, .type "int", kInt n, rfl, .ty _, t.tyx, isi_int t, _, rfl, ?_⟩
    cases t with
    | int i => exact iteT ⟨_, rfl, .int i, .ty "bool", .type "int", .type "bool", false, rfl, .ty _, .base (.int i), isi_bool (.int (H := H) i), _, rfl, q⟩
    | bl b => exact iteT ⟨_, rfl, .bl b, .ty "bool", .type "bool", .type "bool", true, rfl, .ty _, .base (.bl b), isi_bool (.bl (H := H) b), _, rfl, q⟩
    | non => exact iteF q
    | str x => exact iteF q
    | lst e => exact iteF q
    | tup e => exact iteF q
    | dct e => exact iteF q
theorem scWithin : FnScope ["thing", "low", "high"] ["thing", "low", "high"] (defScope sWithin) := ⟨rfl, rfl, rfl, by decide +kernel, rfl, by decide +kernel, by decide +kernel⟩
/-- the defs of the two small modules -/
structure Sm (K : PySem.W.Frag) (mg : Str → Option Value) (f1 f2 f3 f4 f5 f6 : Addr) (d1 d2 d3 d4 d5 d6 : FuncData) : Prop where
  mi : mg "isinstance" = none
  mI : mg "int" = none
  mB : mg "bool" = none
  mT : mg "tuple" = none
  ml : mg "len" = none
  mA : mg "all" = none
  mS : mg "sum" = none
  mE : mg "set" = none
  c1 : ∃ t, mg "MOST_PLACES" = some (.int 10 t)
  c2 : ∃ t, mg "MOST_ROADS" = some (.int 30 t)
  c3 : ∃ t, mg "LEAST_COST" = some (.int 1 t)
  c4 : ∃ t, mg "MOST_COST" = some (.int 99 t)
  c5 : ∃ t, mg "MOST_TIME" = some (.int 99 t)
  whole : Df K mg "is_whole" sWhole ["thing"] f1 d1
  within : Df K mg "is_within" sWithin ["thing", "low", "high"] f2 d2
  tupOf : Df K mg "is_tuple_of" sTupOf ["thing", "many"] f3 d3
  roadQ : Df K mg "is_road_among" sRoadQ ["places", "thing"] f4 d4
  netQ : Df K mg "is_net" sNetQ ["thing"] f5 d5
  along : Df K mg "places_along" sAlong ["net", "place", "thing"] f6 d6
  roadOf : ∃ f d, Df K mg "is_road_of" sRoadOf ["net", "thing"] f d
variable {f1 f2 f3 f4 f5 f6 : Addr} {d1 d2 d3 d4 d5 d6 : FuncData}
def spWithin : Sp := fun vs H Q _ => ∃ (v : V) (n : String) (lo hi : Int), vs = [v, .int lo, .int hi] ∧ Tg H v n ∧ Q (.bl (isIn v lo hi)) H
theorem ok_within {k : Nat} (S : Sm K mg f1 f2 f3 f4 f5 f6 d1 d2 d3 d4 d5 d6) : FnOk P w K mg base CX0 (k + 2) f2 d2 ["thing", "low", "high"] spWithin := by
  have G : FnOk P w K mg base CX0 (k + 1) f1 d1 ["thing"] spWhole := ok_whole S.whole S.mi S.mI S.mB
  refine S.within.F.ok scWithin (fun vs H Q E h => ?_) (fun cdv A outer s H vs Q E hr h => ?_)
  · obtain ⟨_, _, _, _, rfl, _⟩ := h
    rfl
  · obtain ⟨v, n, lo, hi, rfl, t, q⟩ := h
    refine ⟨_, pss_one (ps_ret (pe_and (pe_call G hr (by rfl) S.whole.g S.whole.F.kp S.whole.b .nil pass0 (pa_cons (pv 0) pa_nil)) (pe_one (pe_chain op_le op_le (pv 1) (pv 0) (pv 2))))), ?_⟩
    refine ⟨v, rfl, v, n, rfl, t, _, rfl, ?_⟩
    cases v with
    | int i =>
      refine iteT ⟨.int lo, rfl, .int i, rfl, lo, i, rfl, rfl, _, rfl, ite2 (fun c => ?_) (fun c => ?_)⟩
      · refine ⟨.int hi, rfl, i, hi, rfl, rfl, ?_⟩
        have e : isIn (.int i) lo hi = decide (i ≤ hi) := by
          show (decide (lo ≤ i) && decide (i ≤ hi)) = _
          rw [c, Bool.true_and]
        rw [e] at q
        exact q
      · have e : isIn (.int i) lo hi = false := by
          show (decide (lo ≤ i) && decide (i ≤ hi)) = _
          rw [Bool.eq_false_iff.mpr c, Bool.false_and]
        rw [e] at q
        exact q
    | _ => exact iteF q
theorem scTupOf : FnScope ["thing", "many"] ["thing", "many"] (defScope sTupOf) := ⟨rfl, rfl, rfl, by decide +kernel, rfl, by decide +kernel, by decide +kernel⟩
def spTupOf : Sp := fun vs H Q _ => ∃ (a : Addr) (xs : List V) (m : Int), vs = [.ref a, .int m] ∧ H a = some (.tup xs) ∧ (xs.length : Int) = m ∧ Q (.bl true) H
theorem ok_tupOf {k : Nat} (S : Sm K mg f1 f2 f3 f4 f5 f6 d1 d2 d3 d4 d5 d6) : FnOk P w K mg base CX0 (k + 1) f3 d3 ["thing", "many"] spTupOf := by
  refine S.tupOf.F.ok scTupOf (fun vs H Q E h => ?_) (fun cdv A outer s H vs Q E hr h => ?_)
  · obtain ⟨_, _, _, rfl, _⟩ := h
    rfl
  · obtain ⟨a, xs, m, rfl, e, el, q⟩ := h
    refine ⟨_, pss_one (ps_ret (pe_and (pe_callB call_isi (by rfl) S.mi (by decide +kernel) (pa_cons (pv 0) (pa_cons (pe_bltn (v := .ty "tuple") (by rfl) S.mT (by decide +kernel) rfl) pa_nil)))
      (pe_one (pe_cmpR op_eq (pe_callB call_len_seq (by rfl) S.ml PySem.boot_len (pa_cons (pv 0) pa_nil)) (pv 1) (nomark _))))), ?_⟩
    have t : Tg H (.ref a) "tuple" := .tup e
    refine ⟨.ref a, rfl, .ref a, .ty "tuple", .type "tuple", .type "tuple", true, rfl, .ty _, t.tyx, isi_tuple t, _, rfl, iteT ?_⟩
    refine ⟨.ref a, rfl, a, xs, rfl, .inr (SqT.of e), .int m, rfl, rfl, ?_⟩
    rw [el, decide_eq_true rfl]
    exact q
theorem scRoadQ : FnScope ["places", "thing", "one", "other", "cost", "time"] ["places", "thing"] (defScope sRoadQ) := ⟨rfl, rfl, rfl, by decide +kernel, rfl, by decide +kernel, by decide +kernel⟩
def spRoadQ : Sp := fun vs H Q _ => ∃ (t : Addr) (p : Int) (q : Road), vs = [.int p, .ref t] ∧ H t = some (.tup q.vs) ∧ RoadOk p q ∧ Q (.bl true) H
theorem isIn_of {i lo hi : Int} (a : lo ≤ i) (b : i ≤ hi) : isIn (.int i) lo hi = true := by
  show (decide (lo ≤ i) && decide (i ≤ hi)) = true
  rw [decide_eq_true a, decide_eq_true b]
  rfl
theorem ok_roadQ {k : Nat} (S : Sm K mg f1 f2 f3 f4 f5 f6 d1 d2 d3 d4 d5 d6) : FnOk P w K mg base CX0 (k + 3) f4 d4 ["places", "thing"] spRoadQ := by
  have G : FnOk P w K mg base CX0 (k + 2) f2 d2 ["thing", "low", "high"] spWithin := ok_within S
  have GT : FnOk P w K mg base CX0 (k + 2) f3 d3 ["thing", "many"] spTupOf := ok_tupOf S
  obtain ⟨t3, c3⟩ := S.c3
  obtain ⟨t4, c4⟩ := S.c4
  obtain ⟨t5, c5⟩ := S.c5
  refine S.roadQ.F.ok scRoadQ (fun vs H Q E h => ?_) (fun cdv A outer s H vs Q E hr h => ?_)
  · obtain ⟨_, _, _, rfl, _⟩ := h
    rfl
  · obtain ⟨t, p, r, rfl, e, ok, q⟩ := h
    refine ⟨_, pss_cons (ps_if (pt_not (pt_val (pe_call GT hr (by rfl) S.tupOf.g S.tupOf.F.kp S.tupOf.b .nil pass0 (pa_cons (pv 1) (pa_cons pe_int pa_nil))))) pss_never pss_nil)
      (pss_cons (ps_asg (pv 1) (pg_tup (by rfl) (pgs_cons (pg_name (i := 2) scRoadQ.nd rfl (.inl rfl)) (pgs_cons (pg_name (i := 3) scRoadQ.nd rfl (.inl rfl)) (pgs_cons (pg_name (i := 4) scRoadQ.nd rfl (.inl rfl)) (pgs_cons (pg_name (i := 5) scRoadQ.nd rfl (.inl rfl)) pgs_nil))))))
      (pss_cons (ps_if (PW.pt (pw_or (pt_not (pt_val (pe_call G hr (by rfl) S.within.g S.within.F.kp S.within.b .nil pass0 (pa_cons (pv 2) (pa_cons pe_int (pa_cons (pe_op op_sub (pv 0) pe_int) pa_nil)))))) (pw_or1 (pt_not (pt_val (pe_call G hr (by rfl) S.within.g S.within.F.kp S.within.b .nil pass0 (pa_cons (pv 3) (pa_cons pe_int (pa_cons (pe_op op_sub (pv 0) pe_int) pa_nil)))))))))
        pss_never pss_nil)
      (pss_one (ps_ret (pe_and (pe_cmpR op_ne (pv 2) (pv 3) (nomark _)) (pe_and (pe_call G hr (by rfl) S.within.g S.within.F.kp S.within.b .nil pass0 (pa_cons (pv 4) (pa_cons (pe_glob (v := .int 1) (by rfl) c3 ⟨t3, rfl⟩) (pa_cons (pe_glob (v := .int 99) (by rfl) c4 ⟨t4, rfl⟩) pa_nil))))
        (pe_one (pe_call G hr (by rfl) S.within.g S.within.F.kp S.within.b .nil pass0 (pa_cons (pv 5) (pa_cons pe_int (pa_cons (pe_glob (v := .int 99) (by rfl) c5 ⟨t5, rfl⟩) pa_nil))))))))))), ?_⟩
    refine ⟨.ref t, rfl, t, _, 4, rfl, e, rfl, _, rfl, iteF ?_⟩
    refine ⟨.ref t, rfl, t, _, rfl, SqT.of e, rfl, .int r.one, _, rfl, .int r.other, _, rfl, .int r.cost, _, rfl, .int r.time, _, rfl, rfl, ?_⟩
    refine ⟨.int r.one, rfl, .int p, rfl, p, 1, rfl, rfl, .int r.one, "int", 0, p - 1, rfl, .int _, _, rfl, ?_⟩
    rw [isIn_of ok.o1 ok.o2]
    refine iteF ?_
    refine ⟨.int r.other, rfl, .int p, rfl, p, 1, rfl, rfl, .int r.other, "int", 0, p - 1, rfl, .int _, _, rfl, ?_⟩
    rw [isIn_of ok.t1 ok.t2]
    refine iteF ?_
    refine ⟨.int r.one, rfl, .int r.other, rfl, rfl, _, rfl, ?_⟩
    have hne : (V.int r.one) ≠ (V.int r.other) := fun z => ok.ne (V.int.inj z)
    rw [decide_eq_false hne]
    refine iteT ⟨.int r.cost, rfl, .int r.cost, "int", 1, 99, rfl, .int _, _, rfl, ?_⟩
    rw [isIn_of ok.c1 ok.c2]
    refine iteT ⟨.int r.time, rfl, .int r.time, "int", 0, 99, rfl, .int _, ?_⟩
    rw [isIn_of ok.m1 ok.m2]
    exact q
end
end Wy

namespace Wy
open PySem PySem.Spec PyProof.Rows L2
theorem Same.upd_lst {H H' : Hp} {D : Addr} {o : HO} (s : Same H H') (h : H D = none) : Same H (upd H' D o) := fun b x e => by
  rw [upd_ne (ne_of_none e h)]
  exact s b x e
/-! ### how many unlike numbers a list has -/
def manyOf (ns : List Int) : Nat := (PyProof.Rows.firstMet (fun i => ns.getD i 0) ns.length).length
theorem met_take {ns : List Int} : ∀ i, i ≤ ns.length → ((List.range i).map fun j => ns.getD j 0) = ns.take i
  | 0, _ => rfl
  | i + 1, hi => by
    rw [List.range_succ, List.map_append, met_take i (by omega), List.take_add_one, List.getElem?_eq_getElem (show i < ns.length from hi)]
    congr 1
    rw [List.map_singleton, List.getD_eq_getElem?_getD, List.getElem?_eq_getElem (show i < ns.length from hi)]
    rfl
theorem met_nodup {ns : List Int} : ∀ i, i ≤ ns.length → ((PyProof.Rows.firstMet (fun j => ns.getD j 0) i).length = i ↔ (ns.take i).Nodup)
  | 0, _ => by
    rw [PyProof.Rows.firstMet_zero]
    exact ⟨fun _ => List.nodup_nil, fun _ => rfl⟩
  | i + 1, hi => by
    have hlt : i < ns.length := hi
    have ih := met_nodup (ns := ns) i (by omega)
    have le := PyProof.Rows.firstMet_length_le (fun j => ns.getD j 0) i
    have ea := PyProof.Rows.firstMet_any (fun j => ns.getD j 0) i (ns.getD i 0)
    rw [met_take i (by omega)] at ea
    have ex : ns.getD i 0 = ns[i] := by
      rw [List.getD_eq_getElem?_getD, List.getElem?_eq_getElem hlt]
      rfl
    rw [PyProof.Rows.firstMet_succ, List.take_add_one, List.getElem?_eq_getElem hlt]
    show (PyProof.Rows.step_dedup _ (ns.getD i 0)).length = i + 1 ↔ (ns.take i ++ [ns[i]]).Nodup
    unfold PyProof.Rows.step_dedup
    rw [ea, ex]
    have hn : (ns.take i ++ [ns[i]]).Nodup ↔ (ns.take i).Nodup ∧ ns[i] ∉ ns.take i := by
      rw [List.nodup_append]
      constructor
      · rintro ⟨a, _, c⟩
        exact ⟨a, fun z => c _ z _ (List.mem_singleton.mpr rfl) rfl⟩
      · rintro ⟨a, c⟩
        refine ⟨a, List.Pairwise.cons (fun _ h => nomatch h) .nil, fun x hx y hy => ?_⟩
        rw [List.mem_singleton.mp hy]
        exact fun z => c (z ▸ hx)
    rw [hn]
    by_cases hm : ns[i] ∈ ns.take i
    · rw [if_pos (List.any_eq_true.mpr ⟨ns[i], hm, beq_self_eq_true ns[i]⟩ : ((List.take i ns).any fun x => x == ns[i]) = true)]
      constructor
      · intro z
        omega
      · intro z
        exact absurd hm z.2
    · rw [if_neg (fun (z : ((List.take i ns).any fun x => x == ns[i]) = true) => by
        obtain ⟨y, h1, h2⟩ := List.any_eq_true.mp z
        rw [eq_of_beq h2] at h1
        exact hm h1), List.length_append, List.length_singleton]
      constructor
      · intro z
        exact ⟨ih.mp (by omega), hm⟩
      · intro z
        have := ih.mpr z.1
        omega
theorem many_nodup (ns : List Int) : decide (manyOf ns = ns.length) = decide ns.Nodup := by
  have := met_nodup (ns := ns) ns.length (Nat.le_refl _)
  rw [List.take_length] at this
  exact decide_eq_decide.mpr this
def tSetLen (K : PySem.W.Frag) (ta : TE) : TE := fun σ H Q => ta σ H fun x G => ∃ (l : Addr) (ns : List Int), x = .ref l ∧ SqL K G l (ns.map V.int) ∧ ns.length ≤ 2000 ∧ Q (.int (manyOf ns : Nat)) G
theorem pe_setLen {X : Cx} {a : Expr} {ta : TE} {u1 u2 u3 u4 : Pos} (gl : Gl X "len") (ml : X.mg "len" = none) (gs : Gl X "set") (ms : X.mg "set" = none) (ha : PE X a ta) (calm : X.calm = true := by rfl)
    (st : starEach [a] X.env = (false, eval a X.env) :: starEach [] X.env := by rfl) : PE X (.Call (.Name "len" u1) [.Call (.Name "set" u2) [a] [] u3] [] u4) (tSetLen X.K ta) :=
  ⟨fun pins s σ H Q I h => by
    refine PyProof.Rows.Call_ (ld_blt I gl ml boot_len ?_)
    refine PyProof.Rows.callWith_builtin1 (PyProof.Rows.args_cons ?_ rfl) rfl rfl
    refine PyProof.Rows.Call_ (ld_blt I gs ms boot_set ?_)
    refine PyProof.Rows.callWith_type1 (PyProof.Rows.args_cons (thn (ha.run pins s σ H _ I h) fun v t ⟨x, G, J, rx, hx⟩ => PyProof.Rows.args_nil ?_) st) st rfl
    obtain ⟨l, ns, rfl, sq, len, fin⟩ := hx
    cases rx
    obtain ⟨items, vals, place, _⟩ := J.list sq
    have size : items.toArray.size = ns.length := by rw [List.size_toArray, ← vals.length, List.length_map]
    refine call_set_list (J.ok.hd calm) place.isList (by simpa using RZ.intsAre_vals vals) (by rw [size]; unfold scanBound; omega) fun h' tk made kept => ?_
    refine PyProof.Rows.args_nil ?_
    rw [size] at made
    have few := PyProof.Rows.firstMet_length_le (fun i => ns.getD i 0) ns.length
    obtain ⟨o, es, ep, t', ho, hex, hd, _, _, _, hf, hn⟩ := made
    have J2 : Inv X pins σ G { t with heap := h', toks := tk } := J.kept fun b o e => kept b o (Heap.lt_size e) e
    exact call_len_set ho hex hd hf (by rw [hn]; omega) ⟨.int (manyOf ns : Nat), G, J2.tok _, ⟨_, by rw [hn]; rfl⟩, fin⟩⟩
/-! ### what is handed in as a way -/
inductive Wh (H : Hp) : V → Option (List V) → Prop where
  | tup {b : Addr} {xs : List V} : H b = some (.tup xs) → (∀ y ∈ xs, ∃ n, Tg H y n) → xs.length ≤ 1000 → Wh H (.ref b) (some xs)
  | oth {v : V} {n : String} : Tg H v n → (n == "tuple") = false → Wh H v none
theorem Wh.keep {H H' : Hp} {v : V} {o : Option (List V)} (h : Wh H v o) (s : Same H H') : Wh H' v o := by
  cases h with
  | tup e a l =>
    refine .tup (s _ _ e) (fun y hy => ?_) l
    obtain ⟨n, t⟩ := a y hy
    exact ⟨n, t.keep s⟩
  | oth t n => exact .oth (t.keep s) n
def goesO (rs : List Road) (here : Int) (o : Option (List V)) : Option (List Road) := o.bind (goes rs here)
theorem met_last (here : Int) (qs : List Road) : atI ((metOf here qs).map V.int) (-1) = some (.int (lastOf here qs)) := by
  have e : metOf here qs ≠ [] := List.cons_ne_nil _ _
  have el : lastOf here qs = (metOf here qs).getLast e := by
    unfold lastOf
    show ((metOf here qs).getLast?).getD here = _
    rw [List.getLast?_eq_some_getLast e]
    rfl
  rw [el]
  conv => lhs; rw [← List.dropLast_concat_getLast e, List.map_append, List.map_singleton]
  exact atI_last _ _
theorem met_len (here : Int) (qs : List Road) : (metOf here qs).length = qs.length + 1 := by
  unfold metOf
  rw [List.length_cons, List.length_map]
theorem met_snoc (here : Int) (qs : List Road) (q : Road) : metOf here (qs ++ [q]) = metOf here qs ++ [q.other] := by
  unfold metOf
  rw [List.map_append, List.map_singleton, List.cons_append]
section
variable {P : Program} {w : World} {K : PySem.W.Frag} {mg : Str → Option Value} {base : Heap}
variable {f1 f2 f3 f4 f5 f6 : Addr} {d1 d2 d3 d4 d5 d6 : FuncData}
theorem scNetQ : FnScope ["thing", "places", "roads", "road"] ["thing"] (defScope sNetQ) := ⟨rfl, rfl, rfl, by decide +kernel, rfl, by decide +kernel, by decide +kernel⟩
def spNetQ : Sp := fun vs H Q _ => ∃ (a r : Addr) (ts : List Addr) (p : Int) (rs : List Road), vs = [.ref a] ∧ NetAt H a r ts p rs ∧ NetOk p rs ∧ ∀ H', Same H H' → Q (.bl true) H'
theorem all_yes (n : Nat) : (List.replicate n true).all id = true := by
  rw [List.all_eq_true]
  intro x hx
  rw [(List.mem_replicate.mp hx).2]
  rfl
theorem ok_netQ {k : Nat} (S : Sm K mg f1 f2 f3 f4 f5 f6 d1 d2 d3 d4 d5 d6) : FnOk P w K mg base CX0 (k + 4) f5 d5 ["thing"] spNetQ := by
  have G : FnOk P w K mg base CX0 (k + 3) f2 d2 ["thing", "low", "high"] spWithin := ok_within S
  have GT : FnOk P w K mg base CX0 (k + 3) f3 d3 ["thing", "many"] spTupOf := ok_tupOf S
  have GR : FnOk P w K mg base CX0 (k + 3) f4 d4 ["places", "thing"] spRoadQ := ok_roadQ S
  obtain ⟨t1, c1⟩ := S.c1
  obtain ⟨t2, c2⟩ := S.c2
  refine S.netQ.F.ok scNetQ (fun vs H Q E h => ?_) (fun cdv A outer s H vs Q E hr h => ?_)
  · obtain ⟨_, _, _, _, _, rfl, _⟩ := h
    rfl
  · obtain ⟨a, r, ts, p, rs, rfl, ⟨ea, er, et⟩, ok, q⟩ := h
    refine ⟨_, pss_cons (ps_if (pt_not (pt_val (pe_call GT hr (by rfl) S.tupOf.g S.tupOf.F.kp S.tupOf.b .nil pass0 (pa_cons (pv 0) (pa_cons pe_int pa_nil))))) pss_never pss_nil)
      (pss_cons (ps_asg (pv 0) (pg_tup (by rfl) (pgs_cons (pg_name (i := 1) scNetQ.nd rfl (.inr rfl)) (pgs_cons (pg_name (i := 2) scNetQ.nd rfl (.inl rfl)) pgs_nil))))
      (pss_cons (ps_if (pt_not (pt_val (pe_call G hr (by rfl) S.within.g S.within.F.kp S.within.b .nil pass0 (pa_cons (pv 1) (pa_cons pe_int (pa_cons (pe_glob (v := .int 10) (by rfl) c1 ⟨t1, rfl⟩) pa_nil)))))) pss_never pss_nil)
      (pss_cons (ps_if (PW.pt (pw_or (pt_not (pt_val (pe_callB call_isi (by rfl) S.mi (by decide +kernel) (pa_cons (pv 2) (pa_cons (pe_bltn (v := .ty "tuple") (by rfl) S.mT (by decide +kernel) rfl) pa_nil)))))
          (pw_or1 (pt_cmpR op_gt (pe_callB call_len_seq (by rfl) S.ml PySem.boot_len (pa_cons (pv 2) pa_nil)) (pe_glob (v := .int 30) (by rfl) c2 ⟨t2, rfl⟩) (nomark _))))) pss_never pss_nil)
      (pss_one (ps_ret (pe_callB (cr_all rfl) (by rfl) S.mA (by decide +kernel) (pa_cons
        (pe_lc (own := [("road", 3)]) (g := gName 3) (tt := tYes) rfl scNetQ.nd (pi_tup (pv 2)) (blkOk_by (N := ["thing", "places", "roads", "road"]) (sc := defScope sNetQ) (by decide +kernel))
          (fun _ _ _ _ _ => pg_name (i := 3) scNetQ.nd rfl (.inl rfl)) (fun _ _ _ _ _ => pts_nil)
          (fun _ _ _ _ _ => pe_call GR hr (by rfl) S.roadQ.g S.roadQ.F.kp S.roadQ.b .nil pass0 (pa_cons (pv 1) (pa_cons (pv 3) pa_nil)))) pa_nil))))))), ?_⟩
    refine ⟨.ref a, rfl, a, _, 2, rfl, ea, rfl, _, rfl, iteF ?_⟩
    refine ⟨.ref a, rfl, a, _, rfl, SqT.of ea, rfl, .int p, _, rfl, .ref r, _, rfl, rfl, ?_⟩
    refine ⟨.int p, rfl, .int p, "int", 1, 10, rfl, .int _, _, rfl, ?_⟩
    rw [isIn_of ok.p1 ok.p2]
    refine iteF ?_
    have t : Tg H (.ref r) "tuple" := .tup er
    refine ⟨.ref r, rfl, .ref r, .ty "tuple", .type "tuple", .type "tuple", true, rfl, .ty _, t.tyx, isi_tuple t, _, rfl, iteF ?_⟩
    have hl : ¬ ((30 : Int) < ((ts.map V.ref).length : Int)) := by
      rw [List.length_map, et.len]
      have := ok.len
      omega
    refine ⟨.ref r, rfl, r, _, rfl, .inr (SqT.of er), _, 30, rfl, rfl, _, rfl, ?_⟩
    rw [decide_eq_false hl]
    refine iteF ?_
    refine ⟨.ref r, rfl, r, rfl, ⟨_, SqT.of er⟩, fun D hD => ?_⟩
    refine lc_tup (xs := ts.map V.ref) (fun i H' => Same H H' ∧ H' D = some (.lst ((List.replicate i true).map V.bl))) ⟨same_new hD, upd_same⟩ (fun i H' _ h => SqT.of (h.1 _ _ er)) (fun i x H' hx h => ?_) (fun H' h => ?_)
    · obtain ⟨sm, eD⟩ := h
      have hi : i < ts.length := by
        have := (List.getElem?_eq_some_iff.mp hx).1
        rwa [List.length_map] at this
      rw [List.getElem?_map, List.getElem?_eq_getElem hi] at hx
      cases hx
      obtain ⟨rd, e1, e2⟩ := et.get (List.getElem?_eq_getElem hi)
      refine ⟨rfl, ?_⟩
      unfold tYes
      dsimp only
      rw [if_pos rfl]
      refine ⟨.int p, rfl, .ref ts[i], rfl, ts[i], p, rd, rfl, sm _ _ e2, ok.all _ (List.mem_of_getElem? e1), _, eD, ?_, ?_, ?_⟩
      · rw [List.length_map, List.length_replicate]
        have := ok.len
        rw [et.len] at hi
        exact small1000 (by omega)
      · exact Same.upd_lst sm hD
      · rw [upd_same, List.replicate_succ', List.map_append]
        rfl
    · obtain ⟨sm, eD⟩ := h
      refine ⟨D, _, rfl, SqL.of eD, ?_⟩
      rw [all_yes]
      exact q _ sm
theorem scChkN : FnScope ["thing"] ["thing"] (defScope sChkN) := ⟨rfl, rfl, rfl, by decide +kernel, rfl, by decide +kernel, by decide +kernel⟩
def spChkN : Sp := fun vs H Q _ => ∃ (a r : Addr) (ts : List Addr) (p : Int) (rs : List Road), vs = [.ref a] ∧ NetAt H a r ts p rs ∧ NetOk p rs ∧ ∀ H', Same H H' → Q .non H'
theorem ok_chkN {f : Addr} {fd : FuncData} {k : Nat} (S : Sm K mg f1 f2 f3 f4 f5 f6 d1 d2 d3 d4 d5 d6) (D : Df K mg "check_net" sChkN ["thing"] f fd) : FnOk P w K mg base CX0 (k + 5) f fd ["thing"] spChkN := by
  have G : FnOk P w K mg base CX0 (k + 4) f5 d5 ["thing"] spNetQ := ok_netQ S
  refine D.F.ok scChkN (fun vs H Q E h => ?_) (fun cdv A outer s H vs Q E hr h => ?_)
  · obtain ⟨_, _, _, _, _, rfl, _⟩ := h
    rfl
  · obtain ⟨a, r, ts, p, rs, rfl, hn, ok, q⟩ := h
    refine ⟨_, pss_one (ps_if (pt_not (pt_val (pe_call G hr (by rfl) S.netQ.g S.netQ.F.kp S.netQ.b .nil pass0 (pa_cons (pv 0) pa_nil)))) pss_never pss_nil), ?_⟩
    exact ⟨.ref a, rfl, a, r, ts, p, rs, rfl, hn, ok, fun H' sm => ⟨_, rfl, iteF (q _ sm)⟩⟩
/-- a class of refusals without an __init__ of its own -/
structure Ex (K : PySem.W.Frag) (mg : Str → Option Value) (x : Str) (C : Addr) : Prop where
  g : mg x = some (.ref C)
  x : PySem.W.excIn K C [.type "ValueError", .type "Exception", .type "BaseException", .type "object"] "ValueError.__new__" = true
  k : PySem.W.keepIn K (.ref C) = true
  b : PySem.W.subIn K (.ref C) (.type "BaseException") = some true
  t : PySem.W.typeIn K (.ref C) = some (.type "type")
theorem scChkP : FnScope ["net", "thing"] ["net", "thing"] (defScope sChkP) := ⟨rfl, rfl, rfl, by decide +kernel, rfl, by decide +kernel, by decide +kernel⟩
def spChkP (C : Addr) : Sp := fun vs H Q E => ∃ (a r : Addr) (ts : List Addr) (p : Int) (rs : List Road) (v : V) (n : String), vs = [.ref a, v] ∧ NetAt H a r ts p rs ∧ Tg H v n ∧ (isIn v 0 (p - 1) = true → Q .non H) ∧ (isIn v 0 (p - 1) = false → E (.ref C) none H)
theorem ok_chkP {f C : Addr} {fd : FuncData} {k : Nat} (S : Sm K mg f1 f2 f3 f4 f5 f6 d1 d2 d3 d4 d5 d6) (D : Df K mg "check_place" sChkP ["net", "thing"] f fd) (Z : Ex K mg "NoPlace" C) : FnOk P w K mg base (L2.CX P w) (k + 3) f fd ["net", "thing"] (spChkP C) := by
  have G : FnOk P w K mg base CX0 (k + 2) f2 d2 ["thing", "low", "high"] spWithin := ok_within S
  refine D.F.okX scChkP (fun vs H Q E h => ?_) (fun cdv A outer s H vs Q E hr h => ?_)
  · obtain ⟨_, _, _, _, _, _, _, rfl, _⟩ := h
    rfl
  · obtain ⟨a, r, ts, p, rs, v, n, rfl, ⟨ea, _, _⟩, t, q1, q2⟩ := h
    refine ⟨_, pss_one (ps_if (pt_not (pt_val (pe_call G hr (by rfl) S.within.g S.within.F.kp S.within.b .nil pass0 (pa_cons (pv 1) (pa_cons pe_int (pa_cons (pe_op op_sub (pe_ix ix_tup (pv 0) pe_int (fun _ _ => rfl)) pe_int) pa_nil))))))
      (pss_one (ps_raise rfl (takes_of rfl rfl rfl rfl) (pmk_own PySem.F.excBase_ValueError Z.x Z.g Z.k (raises_own Z.b Z.t) rfl))) pss_nil), ?_⟩
    refine ⟨v, rfl, .ref a, rfl, a, _, 0, _, rfl, rfl, SqT.of ea, rfl, p, 1, rfl, rfl, v, n, 0, p - 1, rfl, t, _, rfl, ?_⟩
    cases e : isIn v 0 (p - 1) with
    | true => exact iteF (q1 e)
    | false => exact iteT (q2 e)
end
end Wy

namespace Wy
open PySem PySem.Spec PyProof.Rows L2
section
variable {P : Program} {w : World} {K : PySem.W.Frag} {mg : Str → Option Value} {base : Heap}
variable {f1 f2 f3 f4 f5 f6 : Addr} {d1 d2 d3 d4 d5 d6 : FuncData}
theorem scAlong : FnScope ["net", "place", "thing", "roads", "along", "number"] ["net", "place", "thing"] (defScope sAlong) := ⟨rfl, rfl, rfl, by decide +kernel, rfl, by decide +kernel, by decide +kernel⟩
def spAlong : Sp := fun vs H Q _ => ∃ (a r : Addr) (ts : List Addr) (p : Int) (rs : List Road) (here : Int) (v : V) (o : Option (List V)), vs = [.ref a, .int here, v] ∧ NetAt H a r ts p rs ∧ NetOk p rs ∧ Wh H v o ∧
  (goesO rs here o = none → ∀ H', Same H H' → Q .non H') ∧
  (∀ qs, goesO rs here o = some qs → ∀ H' l, Same H H' → H l = none → H' l = some (.lst ((metOf here qs).map V.int)) → Q (.ref l) H')
theorem road_at {H : Hp} {ts : List Addr} {rs : List Road} {n : Nat} (h : RoadsAt H ts rs) (hn : n < rs.length) : ∃ (t : Addr) (q : Road), ts[n]? = some t ∧ rs[n]? = some q ∧ H t = some (.tup q.vs) := by
  have h1 : n < ts.length := by rw [h.len]; exact hn
  obtain ⟨q, e1, e2⟩ := h.get (List.getElem?_eq_getElem h1)
  exact ⟨ts[n], q, List.getElem?_eq_getElem h1, e1, e2⟩
theorem ref_at {ts : List Addr} {n : Nat} {t : Addr} (h : ts[n]? = some t) : (ts.map V.ref)[n]? = some (.ref t) := by
  rw [List.getElem?_map, h]
  rfl
theorem scRoadOf : FnScope ["net", "thing"] ["net", "thing"] (defScope sRoadOf) := ⟨rfl, rfl, rfl, by decide +kernel, rfl, by decide +kernel, by decide +kernel⟩
def spRoadOf : Sp := fun vs H Q _ => ∃ (a r : Addr) (xs : List V) (p v : V) (n : String), vs = [.ref a, v] ∧ H a = some (.tup [p, .ref r]) ∧ H r = some (.tup xs) ∧ Tg H v n ∧ Q (.bl (isIn v 0 ((xs.length : Int) - 1))) H
theorem ok_roadOf {f : Addr} {fd : FuncData} {k : Nat} (S : Sm K mg f1 f2 f3 f4 f5 f6 d1 d2 d3 d4 d5 d6) (D : Df K mg "is_road_of" sRoadOf ["net", "thing"] f fd) : FnOk P w K mg base CX0 (k + 3) f fd ["net", "thing"] spRoadOf := by
  have G : FnOk P w K mg base CX0 (k + 2) f2 d2 ["thing", "low", "high"] spWithin := ok_within S
  refine D.F.ok scRoadOf (fun vs H Q E h => ?_) (fun cdv A outer s H vs Q E hr h => ?_)
  · obtain ⟨_, _, _, _, _, _, rfl, _⟩ := h
    rfl
  · obtain ⟨a, r, xs, p, v, n, rfl, ea, er, t, q⟩ := h
    refine ⟨_, pss_one (ps_ret (pe_call G hr (by rfl) S.within.g S.within.F.kp S.within.b .nil pass0 (pa_cons (pv 1) (pa_cons pe_int (pa_cons (pe_op op_sub (pe_callB call_len_seq (by rfl) S.ml PySem.boot_len (pa_cons (pe_ix ix_tup (pv 0) pe_int (fun _ _ => rfl)) pa_nil)) pe_int) pa_nil))))), ?_⟩
    exact ⟨v, rfl, .ref a, rfl, a, _, 1, _, rfl, rfl, SqT.of ea, rfl, r, _, rfl, .inr (SqT.of er), _, 1, rfl, rfl, v, n, 0, _, rfl, t, q⟩
theorem ok_along {k : Nat} (S : Sm K mg f1 f2 f3 f4 f5 f6 d1 d2 d3 d4 d5 d6) : FnOk P w K mg base CX0 (k + 4) f6 d6 ["net", "place", "thing"] spAlong := by
  obtain ⟨fO, dO, DO⟩ := S.roadOf
  have GO : FnOk P w K mg base CX0 (k + 3) fO dO ["net", "thing"] spRoadOf := ok_roadOf S DO
  refine S.along.F.ok scAlong (fun vs H Q E h => ?_) (fun cdv A outer s H vs Q E hr h => ?_)
  · obtain ⟨_, _, _, _, _, _, _, _, rfl, _⟩ := h
    rfl
  · obtain ⟨a, r, ts, p, rs, here, v, o, rfl, ⟨ea, er, et⟩, ok, wh, qN, qS⟩ := h
    refine ⟨_, pss_cons (ps_if (pt_not (pt_val (pe_callB call_isi (by rfl) S.mi (by decide +kernel) (pa_cons (pv 2) (pa_cons (pe_bltn (v := .ty "tuple") (by rfl) S.mT (by decide +kernel) rfl) pa_nil))))) (pss_one (ps_ret pe_non)) pss_nil)
      (pss_cons (ps_set (i := 3) scAlong.nd rfl (.inl rfl) (pe_ix ix_tup (pv 0) pe_int (fun _ _ => rfl)))
      (pss_cons (ps_set (i := 4) scAlong.nd rfl (.inl rfl) (pe_lst (pa_cons (pv 1) pa_nil)))
      (pss_cons (ps_for PassesOwn.never rfl (pi_tup (pv 2)) (pg_name (i := 5) scAlong.nd rfl (.inl rfl))
        (pss_cons (ps_if (pt_not (pt_val (pe_call GO hr (by rfl) DO.g DO.F.kp DO.b .nil pass0 (pa_cons (pv 0) (pa_cons (pv 5) pa_nil))))) (pss_one (ps_ret pe_non)) pss_nil)
        (pss_cons (ps_if (pt_cmpR op_ne (pe_ix ix_tup (pe_ix ix_tup (pv 3) (pv 5) (fun _ _ => rfl)) pe_int (fun _ _ => rfl)) (pe_ix ix_list (pv 4) (pe_un un_neg pe_int) (fun _ _ => rfl)) (nomark _)) (pss_one (ps_ret pe_non)) pss_nil)
        (pss_one (ps_expr (pe_bm PySem.F.plainAttrs_list PySem.F.slot_list_append PySem.F.type_list_append mt_append (pv 4) (pa_cons (pe_ix ix_tup (pe_ix ix_tup (pv 3) (pv 5) (fun _ _ => rfl)) pe_int (fun _ _ => rfl)) pa_nil)))))))
      (pss_one (ps_ret (pv 4)))))), ?_⟩
    cases wh with
    | oth t hn =>
      rename_i n
      refine ⟨v, rfl, v, .ty "tuple", .type n, .type "tuple", (n == "tuple"), rfl, .ty _, t.tyx, isi_tuple t, _, rfl, ?_⟩
      rw [hn]
      exact iteT (qN rfl H (Same.refl H))
    | tup eb hall hlen =>
      rename_i b xs
      have t : Tg H (.ref b) "tuple" := .tup eb
      refine ⟨.ref b, rfl, .ref b, .ty "tuple", .type "tuple", .type "tuple", true, rfl, .ty _, t.tyx, isi_tuple t, _, rfl, iteF ?_⟩
      refine ⟨.ref a, rfl, a, _, 1, _, rfl, rfl, SqT.of ea, rfl, ?_⟩
      refine ⟨.int here, rfl, by show 1 ≤ sizeLine; decide, fun l hl => ?_⟩
      have s0 : Same H (upd H l (.lst [.int here])) := same_new hl
      refine ⟨.ref b, rfl, b, rfl, ⟨_, SqT.of (s0 _ _ eb)⟩, ?_⟩
      refine for_tup (xs := xs) (fun i σ H' => ∃ y5, σ = [some (.ref a), some (.int here), some (.ref b), some (.ref r), some (.ref l), y5] ∧ Same H H' ∧ ∃ qs, goes rs here (xs.take i) = some qs ∧ H' l = some (.lst ((metOf here qs).map V.int)))
        ⟨none, rfl, s0, [], rfl, upd_same⟩ (fun i σ H' _ h => ?_) (fun i x σ H' hx h => ?_) (fun σ H' h => ?_)
      · obtain ⟨_, _, sm, _⟩ := h
        exact SqT.of (sm _ _ eb)
      · obtain ⟨y5, rfl, sm, qs, eg, el⟩ := h
        obtain ⟨n, tx⟩ := hall x (List.mem_of_getElem? hx)
        have er' := sm _ _ er
        have lts : ((ts.map V.ref).length : Int) = (rs.length : Int) := by rw [List.length_map, et.len]
        refine ⟨.ref a, rfl, x, rfl, a, r, _, .int p, x, n, rfl, sm _ _ ea, er', tx.keep sm, _, rfl, ?_⟩
        rw [lts]
        cases ei : isIn x 0 ((rs.length : Int) - 1) with
        | false =>
          refine iteT ?_
          exact qN (goes_stop rs hx eg (step_out rs ei)) _ sm
        | true =>
          refine iteF ?_
          obtain ⟨j, rfl, h1, h2⟩ := isIn_true ei
          obtain ⟨m, rfl⟩ := Int.eq_ofNat_of_zero_le h1
          have hm : m < rs.length := by omega
          obtain ⟨t', rd, e1, e2, e3⟩ := road_at et hm
          have e3' := sm _ _ e3
          refine ⟨.ref r, rfl, .int m, rfl, r, _, m, .ref t', rfl, rfl, SqT.of er', atI_nat (ref_at e1), t', _, 0, _, rfl, rfl, SqT.of e3', rfl, .ref l, rfl, 1, rfl, l, _, -1, _, rfl, rfl, SqL.of el, met_last here qs, rfl, _, rfl, ?_⟩
          have hs := step_int rs (here := lastOf here qs) e2
          refine ite2 (fun c => ?_) (fun c => ?_)
          · have c' : ¬ (rd.one = lastOf here qs) := fun z => by
              rw [z] at c
              simp at c
            rw [if_neg c'] at hs
            exact qN (goes_stop rs hx eg hs) _ sm
          · have c' : rd.one = lastOf here qs := by
              have c2 : (!decide (V.int rd.one = V.int (lastOf here qs))) = false := Bool.eq_false_iff.mpr c
              rw [Bool.not_eq_false', decide_eq_true_eq] at c2
              exact V.int.inj c2
            rw [if_pos c'] at hs
            have lq := goes_len rs eg
            have ll : ((metOf here qs).map V.int).length < sizeLine := by
              rw [List.length_map, met_len, lq, List.length_take]
              exact Nat.lt_of_le_of_lt (Nat.add_le_add_right (Nat.min_le_right _ _) 1) (Nat.lt_of_le_of_lt (Nat.add_le_add_right hlen 1) (by decide))
            refine ⟨.ref l, rfl, .inl ⟨rfl, _, SqL.of el⟩, .ref r, rfl, .int m, rfl, r, _, m, .ref t', rfl, rfl, SqT.of er', atI_nat (ref_at e1), t', _, 1, _, rfl, rfl, SqT.of e3', rfl, l, _, _, rfl, rfl, el, ll, ?_⟩
            refine ⟨some (.int m), rfl, Same.upd_lst sm hl, qs ++ [rd], goes_go rs hx eg hs, ?_⟩
            rw [upd_same, met_snoc, List.map_append]
            rfl
      · obtain ⟨y5, rfl, sm, qs, eg, el⟩ := h
        rw [List.take_length] at eg
        exact ⟨.ref l, rfl, qS qs eg H' l sm hl el⟩
end
end Wy

namespace Wy
open PySem PySem.Spec PyProof.Rows L2
def costOf (qs : List Road) : Int := (qs.map Road.cost).sum
def timeOf (qs : List Road) : Int := (qs.map Road.time).sum
theorem ix_tupK {X : Cx} {K : PySem.W.Frag} (h : X.K = K) : IxR X (rIxT K) := by
  subst h
  exact ix_tup
section
variable {P : Program} {w : World} {K : PySem.W.Frag} {mg : Str → Option Value} {base : Heap}
variable {f1 f2 f3 f4 f5 f6 : Addr} {d1 d2 d3 d4 d5 d6 : FuncData}
abbrev sCostA : Stmt := topS 39
abbrev sTwice : Stmt := topS 38
theorem scCostA : FnScope ["net", "way", "number"] ["net", "way"] (defScope sCostA) := ⟨rfl, rfl, rfl, by decide +kernel, rfl, by decide +kernel, by decide +kernel⟩
theorem scTwice : FnScope ["along"] ["along"] (defScope sTwice) := ⟨rfl, rfl, rfl, by decide +kernel, rfl, by decide +kernel, by decide +kernel⟩
def spCostA : Sp := fun vs H Q _ => ∃ (a r b : Addr) (ts : List Addr) (p : Int) (rs qs : List Road) (here : Int) (xs : List V), vs = [.ref a, .ref b] ∧ NetAt H a r ts p rs ∧ H b = some (.tup xs) ∧ xs.length ≤ 1000 ∧ goes rs here xs = some qs ∧ ∀ H', Same H H' → Q (.int (costOf qs)) H'
theorem ok_costA {f : Addr} {fd : FuncData} {k : Nat} (mS : mg "sum" = none) (D : Df K mg "cost_along" sCostA ["net", "way"] f fd) : FnOk P w K mg base CX0 (k + 1) f fd ["net", "way"] spCostA := by
  refine D.F.ok scCostA (fun vs H Q E h => ?_) (fun cdv A outer s H vs Q E hr h => ?_)
  · obtain ⟨_, _, _, _, _, _, _, _, _, rfl, _⟩ := h
    rfl
  · obtain ⟨a, r, b, ts, p, rs, qs, here, xs, rfl, hN, eb, hlen, eg, q⟩ := h
    refine ⟨_, pss_one (ps_ret (pe_callB (cr_sum rfl) (by rfl) mS (by decide +kernel) (pa_cons
          (pe_lc (own := [("number", 2)]) (g := gName 2) (tt := tYes) rfl scCostA.nd (pi_tup (pv 1)) (blkOk_by (N := ["net", "way", "number"]) (sc := defScope sCostA) (by decide +kernel))
            (fun _ _ _ _ _ => pg_name (i := 2) scCostA.nd rfl (.inl rfl)) (fun _ _ _ _ _ => pts_nil) (fun _ _ _ _ _ => pe_ix (ix_tupK (K := K) rfl) (pe_ix (ix_tupK (K := K) rfl) (pe_ix (ix_tupK (K := K) rfl) (pv 0) pe_int (fun _ _ => rfl)) (pv 2) (fun _ _ => rfl)) pe_int (fun _ _ => rfl))) pa_nil))), ?_⟩
    have lq := goes_len rs eg
    obtain ⟨ea, er, et⟩ := hN
    refine ⟨.ref b, rfl, b, rfl, ⟨_, SqT.of eb⟩, fun D nD => ?_⟩
    refine lc_tup (xs := xs) (fun i H' => Same H H' ∧ H' D = some (.lst (((qs.map Road.cost).take i).map V.int))) ⟨same_new nD, upd_same⟩ (fun i H' _ h => SqT.of (h.1 _ _ eb)) (fun i x H' hx h => ?_) (fun H3 h => ?_)
    · obtain ⟨sm, eD⟩ := h
      obtain ⟨m, rd, rfl, e1, e2⟩ := goes_at rs eg hx
      obtain ⟨t', rd', f1, f2, f3⟩ := road_at et (List.getElem?_eq_some_iff.mp e1).1
      rw [e1] at f2
      cases f2
      refine ⟨rfl, ?_⟩
      unfold tYes
      dsimp only
      rw [if_pos rfl]
      refine ⟨.ref a, rfl, a, _, 1, _, rfl, rfl, SqT.of (sm _ _ ea), rfl, .int m, rfl, r, _, m, .ref t', rfl, rfl, SqT.of (sm _ _ er), atI_nat (ref_at f1), t', _, 2, _, rfl, rfl, SqT.of (sm _ _ f3), rfl, _, eD, ?_, Same.upd_lst sm nD, ?_⟩
      · rw [List.length_map, List.length_take, List.length_map]
        exact small1000 (Nat.le_trans (Nat.min_le_right _ _) (by rw [lq]; exact hlen))
      · rw [upd_same, List.take_add_one, List.getElem?_map, e2, List.map_append]
        rfl
    · obtain ⟨s3, eD⟩ := h
      rw [List.take_of_length_le (by rw [List.length_map]; omega)] at eD
      exact ⟨D, _, rfl, SqL.of eD, q H3 s3⟩
def spTwice : Sp := fun vs H Q _ => (vs = [.non] ∧ Q (.bl false) H) ∨ ∃ (l : Addr) (ms : List Int), vs = [.ref l] ∧ H l = some (.lst (ms.map V.int)) ∧ ms.length ≤ 2000 ∧ Q (.bl (decide ms.Nodup)) H
theorem ok_twice {f : Addr} {fd : FuncData} {k : Nat} (ml : mg "len" = none) (mE : mg "set" = none) (D : Df K mg "is_at_none_twice" sTwice ["along"] f fd) : FnOk P w K mg base CX0 (k + 1) f fd ["along"] spTwice := by
  refine D.F.ok scTwice (fun vs H Q E h => ?_) (fun cdv A outer s H vs Q E hr h => ?_)
  · rcases h with ⟨rfl, _⟩ | ⟨_, _, rfl, _⟩ <;> rfl
  · refine ⟨_, pss_one (ps_ret (pe_and (pe_cmpR op_notN (pv 0) pe_non (nomark _)) (pe_one (pe_cmpR op_eq (pe_setLen (by rfl) ml (by rfl) mE (pv 0)) (pe_callB call_len_seq (by rfl) ml PySem.boot_len (pa_cons (pv 0) pa_nil)) (nomark _))))), ?_⟩
    rcases h with ⟨rfl, q⟩ | ⟨l, ms, rfl, el, hl, q⟩
    · exact ⟨.non, rfl, rfl, _, rfl, iteF q⟩
    · refine ⟨.ref l, rfl, rfl, _, rfl, iteT ?_⟩
      refine ⟨.ref l, rfl, l, ms, rfl, SqL.of el, hl, .ref l, rfl, l, _, rfl, .inl (SqL.of el), rfl, ?_⟩
      have e : decide (V.int ((manyOf ms : Nat) : Int) = V.int (((ms.map V.int).length : Nat) : Int)) = decide ms.Nodup := by
        rw [← many_nodup, List.length_map]
        refine decide_eq_decide.mpr ⟨fun z => ?_, fun z => by rw [z]⟩
        have := V.int.inj z
        omega
      rw [e]
      exact q
theorem scWayOf : FnScope ["net", "place", "thing", "along", "number"] ["net", "place", "thing"] (defScope sWayOf) := ⟨rfl, rfl, rfl, by decide +kernel, rfl, by decide +kernel, by decide +kernel⟩
/-- a way's list of roads, as it is laid -/
def LaidAt (H : Hp) (us : List Addr) (qs : List Road) : Prop := RoadsAt H us qs
theorem laid_snoc {H : Hp} {us : List Addr} {qs : List Road} {t : Addr} {q : Road} (h : RoadsAt H us qs) (e : H t = some (.tup q.vs)) : RoadsAt H (us ++ [t]) (qs ++ [q]) := by
  induction h with
  | nil => exact .cons e .nil
  | cons a _ ih => exact .cons a ih
def spWayOf (C : Addr) : Sp := fun vs H Q E => ∃ (a r : Addr) (ts : List Addr) (p : Int) (rs : List Road) (u v : V) (n : String) (o : Option (List V)), vs = [.ref a, u, v] ∧ NetAt H a r ts p rs ∧ NetOk p rs ∧ Tg H u n ∧ Wh H v o ∧
  (isIn u 0 (p - 1) = false → ∀ H', Same H H' → E (.ref C) none H') ∧
  (∀ here, u = .int here → isIn u 0 (p - 1) = true → goesO rs here o = none → ∀ H', Same H H' → Q .non H') ∧
  (∀ here qs, u = .int here → isIn u 0 (p - 1) = true → goesO rs here o = some qs → ∀ H' t, Same H H' → H t = none → H' t = some (.tup [.int (lastOf here qs), .int (costOf qs), .int (timeOf qs)]) → Q (.ref t) H')
theorem ok_wayOf {f fN fP fC C : Addr} {fd dN dP dC : FuncData} {k : Nat} (S : Sm K mg f1 f2 f3 f4 f5 f6 d1 d2 d3 d4 d5 d6) (DN : Df K mg "check_net" sChkN ["thing"] fN dN) (DP : Df K mg "check_place" sChkP ["net", "thing"] fP dP) (DC : Df K mg "cost_along" sCostA ["net", "way"] fC dC) (Z : Ex K mg "NoPlace" C)
    (D : Df K mg "way_of" sWayOf ["net", "place", "thing"] f fd) : FnOk P w K mg base (L2.CX P w) (k + 6) f fd ["net", "place", "thing"] (spWayOf C) := by
  have GN : FnOk P w K mg base CX0 (k + 5) fN dN ["thing"] spChkN := ok_chkN S DN
  have GP : FnOk P w K mg base (L2.CX P w) (k + 5) fP dP ["net", "thing"] (spChkP C) := ok_chkP S DP Z
  have GA : FnOk P w K mg base CX0 (k + 5) f6 d6 ["net", "place", "thing"] spAlong := ok_along S
  have GC : FnOk P w K mg base CX0 (k + 5) fC dC ["net", "way"] spCostA := ok_costA (k := k + 4) S.mS DC
  refine D.F.okX scWayOf (fun vs H Q E h => ?_) (fun cdv A outer s H vs Q E hr h => ?_)
  · obtain ⟨_, _, _, _, _, _, _, _, _, rfl, _⟩ := h
    rfl
  · obtain ⟨a, r, ts, p, rs, u, v, n, o, rfl, hN, ok, tu, wh, qE, qN, qS⟩ := h
    refine ⟨_, pss_cons (ps_expr (pe_call GN hr (by rfl) DN.g DN.F.kp DN.b .nil pass0 (pa_cons (pv 0) pa_nil)))
      (pss_cons (ps_expr (pe_call GP hr (by rfl) DP.g DP.F.kp DP.b .nil (passes_call (takes_of rfl rfl rfl rfl) fun _ _ _ _ h => h) (pa_cons (pv 0) (pa_cons (pv 1) pa_nil))))
      (pss_cons (ps_set (i := 3) scWayOf.nd rfl (.inl rfl) (pe_call GA hr (by rfl) S.along.g S.along.F.kp S.along.b .nil pass0 (pa_cons (pv 0) (pa_cons (pv 1) (pa_cons (pv 2) pa_nil)))))
      (pss_cons (ps_if (pt_cmpR op_isN (pv 3) pe_non (nomark _)) (pss_one (ps_ret pe_non)) pss_nil)
      (pss_one (ps_ret (pe_tup (pa_cons (pe_ix ix_list (pv 3) (pe_un un_neg pe_int) (fun _ _ => rfl))
        (pa_cons (pe_call GC hr (by rfl) DC.g DC.F.kp DC.b .nil pass0 (pa_cons (pv 0) (pa_cons (pv 2) pa_nil)))
        (pa_cons (pe_callB (cr_sum rfl) (by rfl) S.mS (by decide +kernel) (pa_cons
          (pe_lc (own := [("number", 4)]) (g := gName 4) (tt := tYes) rfl scWayOf.nd (pi_tup (pv 2)) (blkOk_by (N := ["net", "place", "thing", "along", "number"]) (sc := defScope sWayOf) (by decide +kernel))
            (fun _ _ _ _ _ => pg_name (i := 4) scWayOf.nd rfl (.inl rfl)) (fun _ _ _ _ _ => pts_nil) (fun _ _ _ _ _ => pe_ix (ix_tupK (K := K) rfl) (pe_ix (ix_tupK (K := K) rfl) (pe_ix (ix_tupK (K := K) rfl) (pv 0) pe_int (fun _ _ => rfl)) (pv 4) (fun _ _ => rfl)) pe_int (fun _ _ => rfl))) pa_nil)) pa_nil))))))))), ?_⟩
    have kp : ∀ {H' : Hp}, Same H H' → NetAt H' a r ts p rs := fun sm => hN.keep fun b xs e => sm b _ e
    refine ⟨.ref a, rfl, a, r, ts, p, rs, rfl, hN, ok, fun H1 s1 => ?_⟩
    refine ⟨.ref a, rfl, u, rfl, a, r, ts, p, rs, u, n, rfl, kp s1, tu.keep s1, fun eu => ?_, fun eu => qE eu _ s1⟩
    obtain ⟨here, rfl, _, _⟩ := isIn_true eu
    refine ⟨.ref a, rfl, .int here, rfl, v, rfl, a, r, ts, p, rs, here, v, o, rfl, kp s1, ok, wh.keep s1, fun eg H2 s2 => ?_, fun qs eg H2 l s2 nl el => ?_⟩
    · refine ⟨.non, rfl, rfl, _, rfl, iteT ?_⟩
      exact qN here rfl eu eg H2 (s1.trans s2)
    · have s12 := s1.trans s2
      refine ⟨.ref l, rfl, rfl, _, rfl, iteF ?_⟩
      cases wh with
      | oth t hn => cases eg
      | tup eb hall hlen =>
        rename_i b xs
        have eg : goes rs here xs = some qs := eg
        have lq := goes_len rs eg
        have nl : H l = none := s1.free nl
        refine ⟨.ref l, rfl, 1, rfl, l, _, -1, _, rfl, rfl, SqL.of el, met_last here qs, ?_⟩
        refine ⟨.ref a, rfl, .ref b, rfl, a, r, b, ts, p, rs, qs, here, xs, rfl, kp s12, s12 _ _ eb, hlen, eg, fun H3 s3 => ?_⟩
        obtain ⟨ea, er, et⟩ := kp (s12.trans s3)
        have s13 := s12.trans s3
        refine ⟨.ref b, rfl, b, rfl, ⟨_, SqT.of (s13 _ _ eb)⟩, fun D nD => ?_⟩
        refine lc_tup (xs := xs) (fun i H' => Same H3 H' ∧ H' D = some (.lst (((qs.map Road.time).take i).map V.int))) ⟨same_new nD, upd_same⟩ (fun i H' _ h => SqT.of (h.1 _ _ (s13 _ _ eb))) (fun i x H' hx h => ?_) (fun H4 h => ?_)
        · obtain ⟨sm, eD⟩ := h
          obtain ⟨m, rd, rfl, e1, e2⟩ := goes_at rs eg hx
          obtain ⟨t', rd', f1, f2, f3⟩ := road_at et (List.getElem?_eq_some_iff.mp e1).1
          rw [e1] at f2
          cases f2
          refine ⟨rfl, ?_⟩
          unfold tYes
          dsimp only
          rw [if_pos rfl]
          refine ⟨.ref a, rfl, a, _, 1, _, rfl, rfl, SqT.of (sm _ _ ea), rfl, .int m, rfl, r, _, m, .ref t', rfl, rfl, SqT.of (sm _ _ er), atI_nat (ref_at f1), t', _, 3, _, rfl, rfl, SqT.of (sm _ _ f3), rfl, _, eD, ?_, Same.upd_lst sm nD, ?_⟩
          · rw [List.length_map, List.length_take, List.length_map]
            exact small1000 (Nat.le_trans (Nat.min_le_right _ _) (by rw [lq]; exact hlen))
          · rw [upd_same, List.take_add_one, List.getElem?_map, e2, List.map_append]
            rfl
        · obtain ⟨s4, eD⟩ := h
          rw [List.take_of_length_le (by rw [List.length_map]; omega)] at eD
          refine ⟨D, _, rfl, SqL.of eD, by show 3 ≤ sizeLine; decide, fun t nt => ?_⟩
          have s15 := s13.trans s4
          exact qS here qs rfl eu eg _ t (s15.trans (same_new nt)) (s15.free nt) upd_same
theorem scSimple : FnScope ["net", "place", "thing"] ["net", "place", "thing"] (defScope sSimple) := ⟨rfl, rfl, rfl, by decide +kernel, rfl, by decide +kernel, by decide +kernel⟩
def simpleOf (here : Int) : Option (List Road) → Bool
  | none => false
  | some qs => decide (metOf here qs).Nodup
def spSimple (C : Addr) : Sp := fun vs H Q E => ∃ (a r : Addr) (ts : List Addr) (p : Int) (rs : List Road) (u v : V) (n : String) (o : Option (List V)), vs = [.ref a, u, v] ∧ NetAt H a r ts p rs ∧ NetOk p rs ∧ Tg H u n ∧ Wh H v o ∧
  (isIn u 0 (p - 1) = false → ∀ H', Same H H' → E (.ref C) none H') ∧
  (∀ here, u = .int here → isIn u 0 (p - 1) = true → ∀ H', Same H H' → Q (.bl (simpleOf here (goesO rs here o))) H')
theorem ok_simple {f fN fP fT C : Addr} {fd dN dP dT : FuncData} {k : Nat} (S : Sm K mg f1 f2 f3 f4 f5 f6 d1 d2 d3 d4 d5 d6) (DN : Df K mg "check_net" sChkN ["thing"] fN dN) (DP : Df K mg "check_place" sChkP ["net", "thing"] fP dP) (DT : Df K mg "is_at_none_twice" sTwice ["along"] fT dT) (Z : Ex K mg "NoPlace" C)
    (D : Df K mg "is_simple" sSimple ["net", "place", "thing"] f fd) : FnOk P w K mg base (L2.CX P w) (k + 6) f fd ["net", "place", "thing"] (spSimple C) := by
  have GN : FnOk P w K mg base CX0 (k + 5) fN dN ["thing"] spChkN := ok_chkN S DN
  have GP : FnOk P w K mg base (L2.CX P w) (k + 5) fP dP ["net", "thing"] (spChkP C) := ok_chkP S DP Z
  have GA : FnOk P w K mg base CX0 (k + 5) f6 d6 ["net", "place", "thing"] spAlong := ok_along S
  have GT : FnOk P w K mg base CX0 (k + 5) fT dT ["along"] spTwice := ok_twice (k := k + 4) S.ml S.mE DT
  refine D.F.okX scSimple (fun vs H Q E h => ?_) (fun cdv A outer s H vs Q E hr h => ?_)
  · obtain ⟨_, _, _, _, _, _, _, _, _, rfl, _⟩ := h
    rfl
  · obtain ⟨a, r, ts, p, rs, u, v, n, o, rfl, hN, ok, tu, wh, qE, qS⟩ := h
    refine ⟨_, pss_cons (ps_expr (pe_call GN hr (by rfl) DN.g DN.F.kp DN.b .nil pass0 (pa_cons (pv 0) pa_nil)))
      (pss_cons (ps_expr (pe_call GP hr (by rfl) DP.g DP.F.kp DP.b .nil (passes_call (takes_of rfl rfl rfl rfl) fun _ _ _ _ h => h) (pa_cons (pv 0) (pa_cons (pv 1) pa_nil))))
      (pss_one (ps_ret (pe_call GT hr (by rfl) DT.g DT.F.kp DT.b .nil pass0 (pa_cons (pe_call GA hr (by rfl) S.along.g S.along.F.kp S.along.b .nil pass0 (pa_cons (pv 0) (pa_cons (pv 1) (pa_cons (pv 2) pa_nil)))) pa_nil))))), ?_⟩
    have kp : ∀ {H' : Hp}, Same H H' → NetAt H' a r ts p rs := fun sm => hN.keep fun b xs e => sm b _ e
    refine ⟨.ref a, rfl, a, r, ts, p, rs, rfl, hN, ok, fun H1 s1 => ?_⟩
    refine ⟨.ref a, rfl, u, rfl, a, r, ts, p, rs, u, n, rfl, kp s1, tu.keep s1, fun eu => ?_, fun eu => qE eu _ s1⟩
    obtain ⟨here, rfl, _, _⟩ := isIn_true eu
    refine ⟨.ref a, rfl, .int here, rfl, v, rfl, a, r, ts, p, rs, here, v, o, rfl, kp s1, ok, wh.keep s1, fun eg H2 s2 => ?_, fun qs eg H2 l s2 nl el => ?_⟩
    · refine .inl ⟨rfl, ?_⟩
      have q := qS here rfl eu H2 (s1.trans s2)
      rw [eg] at q
      exact q
    · have q := qS here rfl eu H2 (s1.trans s2)
      rw [eg] at q
      have hl : (metOf here qs).length ≤ 2000 := by
        cases wh with
        | oth t hn => cases eg
        | tup eb hall hlen =>
          rename_i b xs
          have lq := goes_len rs (show goes rs here xs = some qs from eg)
          rw [met_len]
          omega
      exact .inr ⟨l, metOf here qs, rfl, el, hl, q⟩
end
end Wy

namespace Wy
open PySem PySem.Spec PyProof.Rows L2
section
open AutoSeq1 (wpAny_loadPart')
/-! ### enumerate over a tuple -/
abbrev oTupIt (l : Addr) : Obj := { cls := .type "tuple_iterator", data := .fields #[.ref l, .int 0 0] }
abbrev oEnum (j : Addr) : Obj := { cls := .type "enumerate", data := .fields #[.none, .bool false, .ref j, rawInt 0, .none, .none] }
theorem meets_enum_tup (l : Addr) (its : Array Value) (n : Nat) (dc : Option Addr) (sl : Array (Option Value)) :
    Meets (Builtin.«enumerate.__new__» ⟨[.type "enumerate", .ref l], []⟩) (fun _ R s => s.heap.get? l = some { cls := .type "tuple", dict := dc, data := .seq its n, slots := sl } ∧
      R (.ok (.ret (.ref (s.heap.push (oTupIt l)).objs.size))) { s with heap := (s.heap.push (oTupIt l)).push (oEnum s.heap.objs.size) }) :=
  .of_wp fun prog w A R s h => by
    obtain ⟨hp, g, d, tk, os⟩ := s
    obtain ⟨hl, h⟩ := h
    have hsub := sub_enumerate
    have hT : Heap.IsTuple (Shared.heap ⟨hp, g, d, tk, os⟩) l its := ⟨_, hl, rfl, n, rfl⟩
    wp_walk using wpAny_loadPart' hl
    refine wpAny_stack_any fun st => wpAny_pure ?_
    split
    · rename_i c _ _ _ _ _
      cases (c == Value.type "enumerate") <;> (wp_walk using wpAny_loadPart' hl, wpAny_pyIter_tuple hT; exact ⟨_, rfl, h⟩)
    · wp_walk using wpAny_loadPart' hl, wpAny_pyIter_tuple hT
      exact ⟨_, rfl, h⟩
end
theorem call_enum_tup {prog : Program} {w : World} {A : Around} {E : Value → Shared → Prop} {s : Shared} {l : Addr} {its : Array Value} {Q : Value → Shared → Prop} (hT : s.heap.IsTuple l its)
    (h : ∀ h', IsEnum h' (s.heap.objs.size + 1) s.heap.objs.size 0 .none → h'.IsTupleIter s.heap.objs.size l 0 → h'.objs.size = s.heap.objs.size + 2 → (∀ b o, s.heap.get? b = some o → h'.get? b = some o) → Q (.ref (s.heap.objs.size + 1)) { s with heap := h' }) :
    wpAny (model prog w) A (call (.type "enumerate") [.ref l]) Q E s := by
  obtain ⟨⟨c, dc, dt, sl⟩, hl, hc, n, hd⟩ := hT
  replace hc : c = .type "tuple" := hc
  replace hd : dt = .seq its n := hd
  subst hc hd
  refine callType_new F.called_enumerate (by decide) (F.typeCall_enumerate_1 _) (F.newCall_enumerate_1 _) (fun obj => F.args_object_init_2 obj _) F.entry_enumerate_new (meets_enum_tup l its n dc sl) ⟨hl, ?_⟩
  have hz : (s.heap.push (oTupIt l)).objs.size = s.heap.objs.size + 1 := Heap.size_push ..
  show _ ∧ _
  rw [hz]
  have he : IsEnum ((s.heap.push (oTupIt l)).push (oEnum s.heap.objs.size)) (s.heap.objs.size + 1) s.heap.objs.size 0 .none := by
    have z := Heap.get?_push_size (s.heap.push (oTupIt l)) (o := oEnum s.heap.objs.size) rfl
    rw [hz] at z
    exact z
  exact ⟨⟨_, he, rfl⟩, h _ he ⟨_, Heap.get?_push_of_some _ (Heap.get?_push_size _ rfl), rfl, rfl⟩ (by rw [Heap.size_push, hz]) fun b o x => Heap.get?_push_of_some _ (Heap.get?_push_of_some _ x)⟩
/-- the tuple at a as it stands, its items in new pairs with their numbers -/
def ItT (K : PySem.W.Frag) (a : Addr) : It :=
  ⟨fun i H => ∃ (xs : List V) (x : V), SqT K H a xs ∧ xs[i]? = some x,
    fun i H v G => ∃ T x, v = .ref T ∧ H T = none ∧ G = upd H T (.tup [.int (i : Nat), x]) ∧ ∀ xs, SqT K H a xs → xs[i]? = some x,
    fun i H => ∃ xs : List V, SqT K H a xs ∧ xs.length ≤ i⟩
theorem turn_enumT {P : Program} {w : World} {K : PySem.W.Frag} {elts : List Expr} {kk : Nat} {tp : Pos} (a e it : Addr) (hae : e ≠ a) (hai : a ≠ it) :
    Turn P w K (.Tuple elts kk tp) (ItT K a) [e, it] e (fun i h => (∃ old, IsEnum h e it ((i : Nat) : Int) old) ∧ h.IsTupleIter it a i ∧ e ≠ it) where
  mem := by simp
  obj := fun i h st b hb => by
    obtain ⟨⟨old, he⟩, ⟨o, ho, hc, hd⟩, _⟩ := st
    rcases List.mem_cons.mp hb with z | z
    · rw [z]
      exact ⟨_, he, fun v q => nomatch q⟩
    · rw [List.mem_singleton.mp z]
      exact ⟨o, ho, fun v q => by rw [hd] at q; cases q⟩
  keep := fun i h h' st k => let ⟨⟨old, he⟩, hi, ne⟩ := st; ⟨⟨old, k e (by simp) _ he⟩, hi.at fun o q => k it (by simp) o q, ne⟩
  item := by
    intro X hP hw hK hc i pins s σ H E I hf st hg
    subst hP hw hK
    obtain ⟨⟨old, he⟩, hit, ne⟩ := st
    obtain ⟨xs, x, hq, hx⟩ := hg
    obtain ⟨its, rv, p, hz⟩ := I.tuple hq
    obtain ⟨u, hu, ru⟩ := rv.get hx
    have hT : s.heap.IsTuple a its.toArray := p
    have hel : e < s.heap.objs.size := Heap.lt_size he
    have hil : it < s.heap.objs.size := by
      obtain ⟨_, q, _⟩ := hit
      exact Heap.lt_size q
    have hi : i < its.toArray.size := by
      rw [List.size_toArray]
      exact (List.getElem?_eq_some_iff.mp hu).1
    have nf : e ∉ [it, a] := fun z => by
      rcases List.mem_cons.mp z with q | q
      · exact ne q
      · exact hae (List.mem_singleton.mp q)
    refine wpAny_pyNext_enum_itemD (Draws.tuple (A := X.A.in1) (show X.A.in1.handled = none from I.ok.hd hc) it a hai its.toArray) he ⟨hit, hT⟩ hi ne nf fun y h' tk hP ho hst' hTn hsz hk => ?_
    have ey : y = u := by
      have h1 : its[i]? = some y := by simpa using hP
      rw [hu] at h1
      exact (Option.some.inj h1).symm
    subst ey
    refine ⟨_, rfl, wpAny_letOwnedTupleGo_enum (s := { s with heap := h', toks := tk + 1 }) ho fun h2 he' sb => ?_⟩
    have hT2 : h2.get? s.heap.objs.size = some { cls := .type "tuple", data := .seq #[.int i tk, y] } := (sb.2 _ (Nat.ne_of_gt hel)).trans hTn
    have new : ObjOk X.prog X.w (upd H s.heap.objs.size (.tup [.int (i : Nat), x])) h2 s.heap.objs.size (.tup [.int (i : Nat), x]) :=
      ⟨by show 2 ≤ sizeLine; decide, [.int i tk, y], .cons ⟨_, rfl⟩ (.cons ru .nil), ⟨_, hT2, rfl, _, rfl⟩⟩
    have J : Inv X pins σ (upd H s.heap.objs.size (.tup [.int (i : Nat), x])) { s with heap := h2, toks := tk + 1 } :=
      I.turnedNew (ch := [e, it]) (fun b ob hb q => (sb.2 b (fun z => hb (by simp [z]))).trans (hk b ob (fun z => hb (by simp [z])) (fun z => hb (by simp [z])) q)) hf (Nat.le_refl _) new
    refine ⟨.ref s.heap.objs.size, _, J, rfl, ⟨_, x, rfl, I.hok.fresh (Nat.le_refl _), rfl, fun ys hy => by rw [I.tuple_inj hy hq]; exact hx⟩, ⟨⟨y, ?_⟩, hst'.1.at fun o q => (sb.2 it (Ne.symm ne)).trans q, ne⟩, fun b hb => ?_⟩
    · have z : ((i + 1 : Nat) : Int) = (i : Int) + 1 := by omega
      rw [z]
      exact he'
    · have hb' : b < s.heap.objs.size := by
        rcases List.mem_cons.mp hb with z | z
        · rw [z]
          exact hel
        · rw [List.mem_singleton.mp z]
          exact hil
      rw [upd_ne (Nat.ne_of_lt hb')]
      exact (hf b hb).1
  done := by
    intro X hP hw hK hc i pins s σ H E I hf st hg
    subst hP hw hK
    obtain ⟨⟨old, he⟩, hit, ne⟩ := st
    obtain ⟨xs, hq, hx⟩ := hg
    obtain ⟨its, rv, p, hz⟩ := I.tuple hq
    obtain ⟨g0, g1, g2, g3, g4, g5⟩ := hf it (by simp)
    have hT : s.heap.IsTuple a its.toArray := p
    have hl := rv.length
    have T : s.TypeIs (.ref e) "enumerate" := ⟨_, he, rfl⟩
    unfold pyNext
    refine wpAny_bind (wpAny_attempt (wpAny_callSpecial?_slot (name := Str.ofString "__next__") T F.slot_enumerate_next (wpAny_call_entry F.slot_enumerate_next T F.entry_enumerate_next ?_ (F.args_enumerate_next_1 _))))
    show wpAny _ _ (PySem.field (.ref e) 2 >>= _) _ _ _
    refine wpAny_bind (wpAny_field he rfl (x := .ref it) rfl ?_)
    refine wpAny_bind (wpAny_nextOf_tuple_end (I.ok.hd hc) hit hT (by simp; omega) fun h' x eb hx' => ?_)
    obtain ⟨o, ho, hcl⟩ := hx'
    refine wpAny_bind (wpAny_isInstance (T := "StopIteration") (b := true) ⟨o, ho, hcl⟩ isSubtype_stop ?_)
    exact wpAny_pure ⟨rfl, I.turned (t' := s.toks) (fun b o hb q => eb b o hb q) g0 g1 g3 g4 g5⟩
  self := fun A i s Q E st h => let ⟨⟨_, he⟩, _⟩ := st; wpAny_pyIter_enum he h
def iEnumT (K : PySem.W.Frag) (ta : TA) : TI := fun σ H R => ta σ H fun vs G => ∃ a xs, vs = [.ref a] ∧ SqT K G a xs ∧ R (ItT K a) G
theorem pi_enumT {X : Cx} {e : Expr} {ta : TA} {p pos tp : Pos} {elts : List Expr} {kk : Nat} (ge : Gl X "enumerate") (me : X.mg "enumerate" = none) (ha : PA X [e] ta) (hs : starEach [e] X.env = [(false, eval e X.env)] := by rfl) :
    PI X (.Tuple elts kk tp) (.Call (.Name "enumerate" p) [e] [] pos) (iEnumT X.K ta) := by
  refine ⟨fun pins s σ H R I h => ?_⟩
  refine PyProof.Rows.Call_ (ld_blt I ge me boot_enumerate (PyProof.Rows.callWith_type1 (thn (ha.run pos pins s σ H _ I h) fun us t ⟨vs, G, J, rr, hx⟩ => ?_) hs rfl))
  obtain ⟨a, xs, ex, hq, q⟩ := hx
  subst ex
  cases rr with
  | cons r r2 =>
    cases r2
    cases r
    obtain ⟨its, rv, pl, hz⟩ := J.tuple hq
    have hT : t.heap.IsTuple a its.toArray := pl
    have hlt : a < t.heap.objs.size := by
      obtain ⟨_, z, _⟩ := hT
      exact Heap.lt_size z
    refine call_enum_tup hT fun h' he hit hsz hk => wpAny_pyIter_enum he ?_
    have J2 : Inv X pins σ G { t with heap := h' } := J.kept (t' := t.toks) hk
    refine ⟨t.heap.objs.size + 1, [t.heap.objs.size + 1, t.heap.objs.size], _, _, G, rfl, J2, turn_enumT a (t.heap.objs.size + 1) t.heap.objs.size (Nat.ne_of_gt (Nat.lt_succ_of_lt hlt)) (Nat.ne_of_lt hlt), ⟨⟨.none, he⟩, hit, Nat.succ_ne_self _⟩, fun b hb => ?_, q⟩
    have hle : t.heap.objs.size ≤ b := by
      rcases List.mem_cons.mp hb with z | z
      · rw [z]
        exact Nat.le_add_right _ _
      · rw [List.mem_singleton.mp z]
        exact Nat.le_refl _
    exact J.fpOk hle (J.hok.fresh hle)
end Wy

namespace Wy
open PySem PySem.Spec PyProof.Rows L2
abbrev sNet : Stmt := topS 49
abbrev sWalk : Stmt := topS 52
abbrev sTold : Stmt := topS 53
/-! ### data of nets -/
def dRoad (q : Road) : PyData := .tuple [.int q.one, .int q.other, .int q.cost, .int q.time]
theorem road_dp {K : PySem.W.Frag} {H : Hp} {t : Addr} {q : Road} (e : H t = some (.tup q.vs)) : Dp K H (.ref t) (dRoad q) := .tup (SqT.of e) (.cons (.int _) (.cons (.int _) (.cons (.int _) (.cons (.int _) .nil))))
theorem roads_dp {K : PySem.W.Frag} {H : Hp} : ∀ {ts : List Addr} {rs : List Road}, RoadsAt H ts rs → DpAll K H (ts.map V.ref) (rs.map dRoad)
  | _, _, .nil => .nil
  | _, _, .cons e r => .cons (road_dp e) (roads_dp r)
theorem roads_lay : ∀ rs : List Road, PyData.canLayAll0 (rs.map dRoad) = true
  | [] => rfl
  | q :: r => by
    rw [List.map_cons, PyData.canLayAll0, roads_lay r]
    simp [dRoad, PyData.canLay0, PyData.canLayAll0]
theorem roads_deep : ∀ rs : List Road, PyData.depthAll (rs.map dRoad) ≤ 1
  | [] => by
    show PyData.depthAll [] ≤ 1
    rw [PyData.depthAll]
    omega
  | q :: r => by
    rw [List.map_cons, PyData.depthAll]
    have := roads_deep r
    have h2 : (dRoad q).depth ≤ 1 := by simp [dRoad, PyData.depth, PyData.depthAll]
    omega
theorem roads_shaped (rs : List Road) : SeqAt.shaped (.list (rs.map dRoad)) = true ∧ SeqAt.shaped (.tuple (rs.map dRoad)) = true := by
  have h := roads_deep rs
  constructor <;> (unfold SeqAt.shaped; rw [PyData.canLay0, roads_lay, PyData.depth, Bool.true_and]; exact decide_eq_true (by omega))
theorem pick {α : Type} {xs : List α} {n : Int} (h0 : 0 ≤ n) (h1 : n < (xs.length : Int)) : ∃ v, v ∈ xs ∧ atI xs n = some v := by
  obtain ⟨m, rfl⟩ := Int.eq_ofNat_of_zero_le h0
  have hm : m < xs.length := by omega
  exact ⟨xs[m], List.getElem_mem hm, atI_nat (List.getElem?_eq_getElem hm)⟩
theorem Keep.at {z b : Addr} {H H' : Hp} {o : HO} (k : Keep z H H') (h : H b = some o) (n : b ≠ z) : H' b = some o := k b o h n
theorem StOk.neT {H : Hp} {z b : Addr} {xs : List V} (s : StOk H z) (h : H b = some (.tup xs)) : b ≠ z := let ⟨_, _, e, _⟩ := s; ne_of h e (fun q => nomatch q)
theorem Keep.tups {z : Addr} {H H' : Hp} (k : Keep z H H') (s : StOk H z) : ∀ b xs, H b = some (.tup xs) → H' b = some (.tup xs) := fun b xs e => k b _ e (s.neT e)
section
variable {P : Program} {w : World} {K : PySem.W.Frag} {mg : Str → Option Value} {base : Heap}
variable {f1 f2 f3 f4 f5 f6 : Addr} {d1 d2 d3 d4 d5 d6 : FuncData}
theorem scTold : FnScope ["_law_web", "_law_spot", "_law_what", "_law_here", "_law_cost", "_law_time", "_law_met", "_law_bare", "_law_road"] ["_law_web", "_law_spot", "_law_what"] (defScope sTold) := ⟨rfl, rfl, rfl, by decide +kernel, rfl, by decide +kernel, by decide +kernel⟩
def spTold : Sp := fun vs H Q _ => ∃ (a r : Addr) (ts : List Addr) (p : Int) (rs : List Road) (here : Int) (v : V) (o : Option (List V)), vs = [.ref a, .int here, v] ∧ NetAt H a r ts p rs ∧ NetOk p rs ∧ Wh H v o ∧
  (goesO rs here o = none → ∀ H', Same H H' → Q .non H') ∧
  (∀ qs, goesO rs here o = some qs → ∀ H' t, Same H H' → H t = none → H' t = some (.tup [.int (lastOf here qs), .int (costOf qs), .int (timeOf qs), .bl (decide (metOf here qs).Nodup)]) → Q (.ref t) H')
theorem sum_snoc (f : Road → Int) (qs : List Road) (q : Road) : ((qs ++ [q]).map f).sum = (qs.map f).sum + f q := by
  rw [List.map_append, List.map_singleton, List.sum_append, List.sum_singleton]
theorem in_met (h : Int) : ∀ ns : List Int, inV (.int h) (ns.map V.int) = decide (h ∈ ns)
  | [] => by
    rw [decide_eq_false (fun z => nomatch z)]
    rfl
  | n :: r => by
    have ih := in_met h r
    unfold inV at ih ⊢
    rw [List.map_cons, List.any_cons, ih]
    show ((n == h) || decide (h ∈ r)) = _
    rw [Bool.eq_iff_iff]
    simp only [Bool.or_eq_true, beq_iff_eq, decide_eq_true_eq, List.mem_cons]
    constructor
    · rintro (z | z)
      · exact .inl z.symm
      · exact .inr z
    · rintro (z | z)
      · exact .inl z.symm
      · exact .inr z
theorem nodup_snoc (ns : List Int) (h : Int) : decide (ns ++ [h]).Nodup = (decide ns.Nodup && !decide (h ∈ ns)) := by
  rw [Bool.eq_iff_iff]
  simp only [Bool.and_eq_true, Bool.not_eq_true', decide_eq_true_eq, decide_eq_false_iff_not]
  rw [List.nodup_append]
  constructor
  · rintro ⟨a, _, c⟩
    exact ⟨a, fun z => c _ z _ (List.mem_singleton.mpr rfl) rfl⟩
  · rintro ⟨a, c⟩
    refine ⟨a, List.Pairwise.cons (fun _ h => nomatch h) .nil, fun x hx y hy => ?_⟩
    rw [List.mem_singleton.mp hy]
    exact fun z => c (z ▸ hx)
theorem flat_ints (ns : List Int) : (ns.map V.int).all flatV = true := by
  rw [List.all_eq_true]
  intro x hx
  obtain ⟨n, _, rfl⟩ := List.mem_map.mp hx
  rfl
theorem ok_told {f fN : Addr} {fd dN : FuncData} {k : Nat} (S : Sm K mg f1 f2 f3 f4 f5 f6 d1 d2 d3 d4 d5 d6) (DN : Df K mg "_law_number" sNum ["_law_what", "_law_least", "_law_most"] fN dN)
    (D : Df K mg "_law_told_way" sTold ["_law_web", "_law_spot", "_law_what"] f fd) : FnOk P w K mg base CX0 (k + 2) f fd ["_law_web", "_law_spot", "_law_what"] spTold := by
  have G : FnOk P w K mg base CX0 (k + 1) fN dN ["_law_what", "_law_least", "_law_most"] spNum := ok_num DN S.mi S.mI S.mB
  refine D.F.ok scTold (fun vs H Q E h => ?_) (fun cdv A outer s H vs Q E hr h => ?_)
  · obtain ⟨_, _, _, _, _, _, _, _, rfl, _⟩ := h
    rfl
  · obtain ⟨a, r, ts, p, rs, here, v, o, rfl, ⟨ea, er, et⟩, ok, wh, qN, qS⟩ := h
    refine ⟨_, pss_cons (ps_if (pt_not (pt_val (pe_callB call_isi (by rfl) S.mi (by decide +kernel) (pa_cons (pv 2) (pa_cons (pe_bltn (v := .ty "tuple") (by rfl) S.mT (by decide +kernel) rfl) pa_nil))))) (pss_one (ps_ret pe_non)) pss_nil)
      (pss_cons (ps_asg (pe_tup (pa_cons (pv 1) (pa_cons pe_int (pa_cons pe_int (pa_cons (pe_lst (pa_cons (pv 1) pa_nil)) (pa_cons pe_bl pa_nil))))))
        (pg_tup (by rfl) (pgs_cons (pg_name (i := 3) scTold.nd rfl (.inl rfl)) (pgs_cons (pg_name (i := 4) scTold.nd rfl (.inl rfl)) (pgs_cons (pg_name (i := 5) scTold.nd rfl (.inl rfl)) (pgs_cons (pg_name (i := 6) scTold.nd rfl (.inl rfl)) (pgs_cons (pg_name (i := 7) scTold.nd rfl (.inl rfl)) pgs_nil)))))))
      (pss_cons (ps_for PassesOwn.never rfl (pi_tup (pv 2)) (pg_name (i := 8) scTold.nd rfl (.inl rfl))
        (pss_cons (ps_if (PW.pt (pw_or (pt_not (pt_val (pe_call G hr (by rfl) DN.g DN.F.kp DN.b .nil pass0 (pa_cons (pv 8) (pa_cons pe_int (pa_cons (pe_op op_sub (pe_callB call_len_seq (by rfl) S.ml PySem.boot_len (pa_cons (pe_ix ix_tup (pv 0) pe_int (fun _ _ => rfl)) pa_nil)) pe_int) pa_nil))))))
            (pw_or1 (pt_cmpR op_ne (pe_ix ix_tup (pe_ix ix_tup (pe_ix ix_tup (pv 0) pe_int (fun _ _ => rfl)) (pv 8) (fun _ _ => rfl)) pe_int (fun _ _ => rfl)) (pv 3) (nomark _))))) (pss_one (ps_ret pe_non)) pss_nil)
        (pss_cons (ps_par (by rfl) scTold.nd (i := 4) (j := 5) rfl rfl (by decide) rfl rfl
          (pa_cons (pe_op op_add (pv 4) (pe_ix ix_tup (pe_ix ix_tup (pe_ix ix_tup (pv 0) pe_int (fun _ _ => rfl)) (pv 8) (fun _ _ => rfl)) pe_int (fun _ _ => rfl)))
          (pa_cons (pe_op op_add (pv 5) (pe_ix ix_tup (pe_ix ix_tup (pe_ix ix_tup (pv 0) pe_int (fun _ _ => rfl)) (pv 8) (fun _ _ => rfl)) pe_int (fun _ _ => rfl))) pa_nil)) (by rfl))
        (pss_cons (ps_set (i := 3) scTold.nd rfl (.inl rfl) (pe_ix ix_tup (pe_ix ix_tup (pe_ix ix_tup (pv 0) pe_int (fun _ _ => rfl)) (pv 8) (fun _ _ => rfl)) pe_int (fun _ _ => rfl)))
        (pss_cons (ps_set (i := 7) scTold.nd rfl (.inl rfl) (pe_and (pv 7) (pe_one (pe_cmpR op_notIn_seq (pv 3) (pv 6) (by rfl)))))
        (pss_one (ps_expr (pe_bm PySem.F.plainAttrs_list PySem.F.slot_list_append PySem.F.type_list_append mt_append (pv 6) (pa_cons (pv 3) pa_nil)))))))))
      (pss_one (ps_ret (pe_tup (pa_cons (pv 3) (pa_cons (pv 4) (pa_cons (pv 5) (pa_cons (pv 7) pa_nil))))))))), ?_⟩
    cases wh with
    | oth t hn =>
      rename_i n
      refine ⟨v, rfl, v, .ty "tuple", .type n, .type "tuple", (n == "tuple"), rfl, .ty _, t.tyx, isi_tuple t, _, rfl, ?_⟩
      rw [hn]
      exact iteT (qN rfl H (Same.refl H))
    | tup eb hall hlen =>
      rename_i b xs
      have t : Tg H (.ref b) "tuple" := .tup eb
      refine ⟨.ref b, rfl, .ref b, .ty "tuple", .type "tuple", .type "tuple", true, rfl, .ty _, t.tyx, isi_tuple t, _, rfl, iteF ?_⟩
      refine ⟨.int here, rfl, .int here, rfl, by show 1 ≤ sizeLine; decide, fun l hl => ⟨by show 5 ≤ sizeLine; decide, fun T nT => ?_⟩⟩
      have s0 : Same H (upd H l (.lst [.int here])) := same_new hl
      have s1 := s0.trans (same_new (o := .tup [.int here, .int 0, .int 0, .ref l, .bl true]) nT)
      refine ⟨T, _, rfl, SqT.of upd_same, rfl, .int here, _, rfl, .int 0, _, rfl, .int 0, _, rfl, .ref l, _, rfl, .bl true, _, rfl, rfl, ?_⟩
      refine ⟨.ref b, rfl, b, rfl, ⟨_, SqT.of (s1 _ _ eb)⟩, ?_⟩
      refine for_tup (xs := xs) (fun i σ H' => ∃ y8 qs, σ = [some (.ref a), some (.int here), some (.ref b), some (.int (lastOf here qs)), some (.int (costOf qs)), some (.int (timeOf qs)), some (.ref l), some (.bl (decide (metOf here qs).Nodup)), y8] ∧ Same H H' ∧ goes rs here (xs.take i) = some qs ∧ H' l = some (.lst ((metOf here qs).map V.int)))
        ⟨none, [], rfl, s1, rfl, ?_⟩ (fun i σ H' _ h => ?_) (fun i x σ H' hx h => ?_) (fun σ H' h => ?_)
      · rw [upd_ne (ne_of_none upd_same nT), upd_same]
        rfl
      · obtain ⟨_, _, _, sm, _⟩ := h
        exact SqT.of (sm _ _ eb)
      · obtain ⟨y8, qs, rfl, sm, eg, el⟩ := h
        obtain ⟨n, tx⟩ := hall x (List.mem_of_getElem? hx)
        have ea' := sm _ _ ea
        have er' := sm _ _ er
        have lts : ((ts.map V.ref).length : Int) = (rs.length : Int) := by rw [List.length_map, et.len]
        refine ⟨x, rfl, .ref a, rfl, a, _, 1, _, rfl, rfl, SqT.of ea', rfl, r, _, rfl, .inr (SqT.of er'), _, 1, rfl, rfl, x, n, 0, _, rfl, tx.keep sm, _, rfl, ?_⟩
        rw [lts]
        cases ei : isIn x 0 ((rs.length : Int) - 1) with
        | false =>
          refine iteT ?_
          exact qN (goes_stop rs hx eg (step_out rs ei)) _ sm
        | true =>
          refine iteF ?_
          obtain ⟨j, rfl, h1, h2⟩ := isIn_true ei
          obtain ⟨m, rfl⟩ := Int.eq_ofNat_of_zero_le h1
          have hm : m < rs.length := by omega
          obtain ⟨t', rd, e1, e2, e3⟩ := road_at et hm
          have e3' := sm _ _ e3
          refine ⟨.ref a, rfl, a, _, 1, _, rfl, rfl, SqT.of ea', rfl, .int m, rfl, r, _, m, .ref t', rfl, rfl, SqT.of er', atI_nat (ref_at e1), t', _, 0, _, rfl, rfl, SqT.of e3', rfl, .int (lastOf here qs), rfl, rfl, _, rfl, ?_⟩
          have hs := step_int rs (here := lastOf here qs) e2
          refine ite2 (fun c => ?_) (fun c => ?_)
          · have c' : ¬ (rd.one = lastOf here qs) := fun z => by
              rw [z] at c
              simp at c
            rw [if_neg c'] at hs
            exact qN (goes_stop rs hx eg hs) _ sm
          · have c' : rd.one = lastOf here qs := by
              have c2 : (!decide (V.int rd.one = V.int (lastOf here qs))) = false := Bool.eq_false_iff.mpr c
              rw [Bool.not_eq_false', decide_eq_true_eq] at c2
              exact V.int.inj c2
            rw [if_pos c'] at hs
            have lq := goes_len rs eg
            have ll : ((metOf here qs).map V.int).length < sizeLine := by
              rw [List.length_map, met_len, lq, List.length_take]
              exact Nat.lt_of_le_of_lt (Nat.add_le_add_right (Nat.min_le_right _ _) 1) (Nat.lt_of_le_of_lt (Nat.add_le_add_right hlen 1) (by decide))
            have RD : ∀ {Q' : VK} (i : Int) (v' : V), atI rd.vs i = some v' → Q' v' H' → tOp (rIxT K) (tOp (rIxT K) (tOp (rIxT K) (tVar 0) (tC (.int 1))) (tVar 8)) (tC (.int i)) [some (.ref a), some (.int here), some (.ref b), some (.int (lastOf here qs)), some (.int (costOf qs)), some (.int (timeOf qs)), some (.ref l), some (.bl (decide (metOf here qs).Nodup)), some (.int m)] H' Q' := fun i v' e q =>
              ⟨.ref a, rfl, a, _, 1, _, rfl, rfl, SqT.of ea', rfl, .int m, rfl, r, _, m, .ref t', rfl, rfl, SqT.of er', atI_nat (ref_at e1), t', _, i, v', rfl, rfl, SqT.of e3', e, q⟩
            refine ⟨.int (costOf qs), rfl, RD 2 (.int rd.cost) rfl ⟨_, _, rfl, rfl, .int (timeOf qs), rfl, RD 3 (.int rd.time) rfl ⟨_, _, rfl, rfl, _, _, rfl, ?_⟩⟩⟩
            refine ⟨.ref a, rfl, a, _, 1, _, rfl, rfl, SqT.of ea', rfl, .int m, rfl, r, _, m, .ref t', rfl, rfl, SqT.of er', atI_nat (ref_at e1), t', _, 1, _, rfl, rfl, SqT.of e3', rfl, ?_⟩
            have fin : ∀ bb : Bool, bb = decide (metOf here (qs ++ [rd])).Nodup → (fun (σ : L2.St) (H' : Hp) => ∃ y8 qs, σ = [some (.ref a), some (.int here), some (.ref b), some (.int (lastOf here qs)), some (.int (costOf qs)), some (.int (timeOf qs)), some (.ref l), some (.bl (decide (metOf here qs).Nodup)), y8] ∧ Same H H' ∧ goes rs here (xs.take (i + 1)) = some qs ∧ H' l = some (.lst ((metOf here qs).map V.int)))
                [some (.ref a), some (.int here), some (.ref b), some (.int rd.other), some (.int (costOf qs + rd.cost)), some (.int (timeOf qs + rd.time)), some (.ref l), some (.bl bb), some (.int m)] (upd H' l (.lst (((metOf here qs).map V.int) ++ [.int rd.other]))) := fun bb hb => by
              refine ⟨some (.int m), qs ++ [rd], ?_, Same.upd_lst sm hl, goes_go rs hx eg hs, ?_⟩
              · rw [lastOf_snoc, hb]
                unfold costOf timeOf
                rw [sum_snoc, sum_snoc]
              · rw [upd_same, met_snoc, List.map_append]
                rfl
            have hnd : decide (metOf here (qs ++ [rd])).Nodup = (decide (metOf here qs).Nodup && !decide (rd.other ∈ metOf here qs)) := by rw [met_snoc, nodup_snoc]
            refine ⟨_, rfl, _, rfl, ?_⟩
            cases eb2 : decide (metOf here qs).Nodup with
            | false =>
              refine iteF ⟨.ref l, rfl, .inl ⟨rfl, _, SqL.of el⟩, .int rd.other, rfl, l, _, _, rfl, rfl, el, ll, ?_⟩
              have := fin false (by rw [hnd, eb2]; rfl)
              exact this
            | true =>
              refine iteT ⟨.int rd.other, rfl, .ref l, rfl, l, _, rfl, .inl (SqL.of el), rfl, flat_ints _, .ref l, rfl, .inl ⟨rfl, _, SqL.of el⟩, .int rd.other, rfl, l, _, _, rfl, rfl, el, ll, ?_⟩
              have := fin (!inV (.int rd.other) ((metOf here qs).map V.int)) (by rw [hnd, eb2, in_met]; rfl)
              exact this
      · obtain ⟨y8, qs, rfl, sm, eg, el⟩ := h
        rw [List.take_length] at eg
        refine ⟨_, rfl, _, rfl, _, rfl, _, rfl, by show 4 ≤ sizeLine; decide, fun t nt => ?_⟩
        exact qS qs eg _ t (sm.trans (same_new nt)) (sm.free nt) upd_same
end
end Wy

namespace Wy
open PySem PySem.Spec PyProof.Rows L2
def tCutE (t : TE) : TE := fun σ H Q => ∃ R : VK, t σ H R ∧ ∀ v H', R v H' → Q v H'
theorem pe_cut {X : Cx} {e : Expr} {t : TE} (h : PE X e t) : PE X e (tCutE t) := ⟨fun pins s σ H Q I hq => by
  obtain ⟨R, h1, h2⟩ := hq
  exact thn (h.run pins s σ H R I h1) fun u s1 ⟨v, G, J, r, q⟩ => ⟨v, G, J, r, h2 _ _ q⟩⟩
theorem other_ok {a b p : Int} (a0 : 0 ≤ a) (a1 : a < p) (b0 : 0 ≤ b) (b1 : b < p - 1) : 0 ≤ (a + 1 + b) % p ∧ (a + 1 + b) % p ≤ p - 1 ∧ a ≠ (a + 1 + b) % p := by
  by_cases h : a + 1 + b < p
  · rw [Int.emod_eq_of_lt (by omega) h]
    omega
  · have e : a + 1 + b = (a + 1 + b - p) + p := by omega
    rw [e, Int.add_emod_right, Int.emod_eq_of_lt (by omega) (by omega)]
    omega
theorem last_ref {ts : List Addr} {rs : List Road} {H : Hp} (h : RoadsAt H ts rs) (n : rs ≠ []) : ∃ t q, q ∈ rs ∧ H t = some (.tup q.vs) ∧ atI (ts.map V.ref) (-1) = some (.ref t) := by
  have hl := h.len
  have hn : ts ≠ [] := fun z => by
    rw [z] at hl
    cases rs with
    | nil => exact n rfl
    | cons _ _ => cases hl
  have hi : ts.length - 1 < ts.length := by
    cases ts with
    | nil => exact absurd rfl hn
    | cons _ _ => simp
  obtain ⟨q, e1, e2⟩ := h.get (List.getElem?_eq_getElem hi)
  refine ⟨ts[ts.length - 1], q, List.mem_of_getElem? e1, e2, ?_⟩
  rw [← List.getLast_eq_getElem hn]
  conv => lhs; rw [← List.dropLast_concat_getLast hn, List.map_append, List.map_singleton]
  exact atI_last _ _
def PvNet (z l : Addr) (m p wd : Int) (H : Hp) (i : Nat) (σ : L2.St) (H' : Hp) : Prop :=
  ∃ y6 y7 y8 ts rs, σ = [some (.ref z), some (.int m), some (.int 30), some (.int p), some (.ref l), some (.int wd), y6, y7, y8] ∧ Keep z H H' ∧ StOk H' z ∧ H' l = some (.lst (ts.map V.ref)) ∧ RoadsAt H' ts rs ∧ rs.length = i ∧ ∀ q ∈ rs, RoadOk p q
section
variable {P : Program} {w : World} {K : PySem.W.Frag} {mg : Str → Option Value} {base : Heap}
theorem scNet : FnScope ["_law_state_here", "_law_most", "_law_roads", "_law_places", "_law_found", "_law_wide", "_law_turn", "_law_one", "_law_other"] ["_law_state_here", "_law_most", "_law_roads"] (defScope sNet) := ⟨rfl, rfl, rfl, by decide +kernel, rfl, by decide +kernel, by decide +kernel⟩
def spNet : Sp := fun vs H Q _ => ∃ (z : Addr) (m : Int), vs = [.ref z, .int m, .int 30] ∧ StOk H z ∧ 0 < m ∧ m ≤ 10 ∧
  ∀ H' a r ts p rs, Keep z H H' → StOk H' z → NetAt H' a r ts p rs → NetOk p rs → Q (.ref a) H'
theorem ok_net {f fK : Addr} {fd dK : FuncData} {k : Nat} (DK : Df K mg "_law_take" sTake ["_law_state_here", "_law_much"] fK dK) (mR : mg "range" = none) (mT : mg "tuple" = none)
    (D : Df K mg "_law_net" sNet ["_law_state_here", "_law_most", "_law_roads"] f fd) : FnOk P w K mg base CX0 (k + 2) f fd ["_law_state_here", "_law_most", "_law_roads"] spNet := by
  have GK : FnOk P w K mg base CX0 (k + 1) fK dK ["_law_state_here", "_law_much"] spTake := ok_take DK
  refine D.F.ok scNet (fun vs H Q E h => ?_) (fun cdv A outer s H vs Q E hr h => ?_)
  · obtain ⟨_, _, rfl, _⟩ := h
    rfl
  · obtain ⟨z, m, rfl, st, hm0, hm1, q⟩ := h
    refine ⟨_, (pss_cons (ps_par (i := 3) (j := 4) (by rfl) scNet.nd rfl rfl (by decide) rfl rfl (pa_cons (pe_op op_add pe_int (pe_call GK hr (by rfl) DK.g DK.F.kp DK.b .nil pass0 (pa_cons (pv 0) (pa_cons (pv 1) pa_nil)))) (pa_cons (pe_lst pa_nil) pa_nil)) (by rfl))
    (pss_cons (ps_set (i := 5) scNet.nd rfl (.inl rfl) (pe_ix ix_list (pe_lst (pa_cons pe_int (pa_cons pe_int (pa_cons pe_int pa_nil)))) (pe_call GK hr (by rfl) DK.g DK.F.kp DK.b .nil pass0 (pa_cons (pv 0) (pa_cons pe_int pa_nil))) (fun _ _ => rfl)))
    (pss_cons (ps_for PassesOwn.never rfl (pi_range1 (by rfl) mR (pa_cons (pe_cut (pe_ifExp (pt_cmpR op_gt (pv 3) pe_int (nomark _)) (pe_ix ix_list (pe_lst (pa_cons (pv 2) (pa_cons (pe_call GK hr (by rfl) DK.g DK.F.kp DK.b .nil pass0 (pa_cons (pv 0) (pa_cons (pe_op op_add (pv 2) pe_int) pa_nil))) pa_nil))) (pe_call GK hr (by rfl) DK.g DK.F.kp DK.b .nil pass0 (pa_cons (pv 0) (pa_cons pe_int pa_nil))) (fun _ _ => rfl)) pe_int)) pa_nil)) (pg_name (i := 6) scNet.nd rfl (.inl rfl))
    (pss_cons (ps_set (i := 7) scNet.nd rfl (.inl rfl) (pe_call GK hr (by rfl) DK.g DK.F.kp DK.b .nil pass0 (pa_cons (pv 0) (pa_cons (pv 3) pa_nil))))
    (pss_cons (ps_set (i := 8) scNet.nd rfl (.inl rfl) (pe_op op_mod (pe_op op_add (pe_op op_add (pv 7) pe_int) (pe_call GK hr (by rfl) DK.g DK.F.kp DK.b .nil pass0 (pa_cons (pv 0) (pa_cons (pe_op op_sub (pv 3) pe_int) pa_nil)))) (pv 3)))
    (C8.pss_cut (ps_if (PW.pt (pw_and (pt_cmpR op_eq (pe_call GK hr (by rfl) DK.g DK.F.kp DK.b .nil pass0 (pa_cons (pv 0) (pa_cons pe_int pa_nil))) pe_int (nomark _)) (pw_and1 (pt_cmpR (op_neD hr.units) (pv 4) (pe_lst pa_nil) (nomark _))))) (pss_one (ps_asg (pe_slice sl_tup (pe_ix ix_list (pv 4) (pe_un un_neg pe_int) (fun _ _ => rfl)) po_none (po_some pe_int)) (pg_tup (by rfl) (pgs_cons (pg_name (i := 7) scNet.nd rfl (.inl rfl)) (pgs_cons (pg_name (i := 8) scNet.nd rfl (.inl rfl)) pgs_nil))))) pss_nil)
    (pss_one (ps_expr (pe_bm PySem.F.plainAttrs_list PySem.F.slot_list_append PySem.F.type_list_append mt_append (pv 4) (pa_cons (pe_tup (pa_cons (pv 7) (pa_cons (pv 8) (pa_cons (pe_op op_add pe_int (pe_call GK hr (by rfl) DK.g DK.F.kp DK.b .nil pass0 (pa_cons (pv 0) (pa_cons (pv 5) pa_nil)))) (pa_cons (pe_call GK hr (by rfl) DK.g DK.F.kp DK.b .nil pass0 (pa_cons (pv 0) (pa_cons (pe_ix ix_list (pe_lst (pa_cons pe_int (pa_cons pe_int pa_nil))) (pe_call GK hr (by rfl) DK.g DK.F.kp DK.b .nil pass0 (pa_cons (pv 0) (pa_cons pe_int pa_nil))) (fun _ _ => rfl)) pa_nil))) pa_nil))))) pa_nil))))))))
    (pss_one (ps_ret (pe_tup (pa_cons (pv 3) (pa_cons (pe_callTy call_tuple_of (by rfl) mT (by decide +kernel) (pa_cons (pv 4) pa_nil)) pa_nil)))))))), ?_⟩
    -- places, found
    refine ⟨.ref z, rfl, .int m, rfl, z, m, rfl, st, hm0, by omega, fun H1 n k1 st1 n0 n1 => ⟨1, n, rfl, rfl, Nat.zero_le _, fun l nl => ⟨_, _, rfl, ?_⟩⟩⟩
    have lz : l ≠ z := (st1.ne nl).symm
    have s2 : Same H1 (upd H1 l (.lst [])) := same_new nl
    have k2 : Keep z H (upd H1 l (.lst [])) := k1.trans (.of s2)
    -- wide
    refine ⟨by show 3 ≤ sizeLine; decide, fun b nb => ⟨.ref z, rfl, z, 3, rfl, (st1.same s2).same (same_new nb), by decide, by decide, fun H3 n3 k3 st3 a0 a1 => ?_⟩⟩
    have bz : b ≠ z := ((st1.same s2).ne nb).symm
    have lb : l ≠ b := ne_of_none upd_same nb
    have k3' : Keep z H H3 := k2.trans ((Keep.new nb).trans k3)
    have el : H3 l = some (.lst []) := k3 _ _ (by rw [upd_ne lb, upd_same]) lz
    obtain ⟨v, hv, ev⟩ := pick (xs := [V.int 2, V.int 4, V.int 99]) a0 a1
    obtain ⟨wd, rfl, w1, w2⟩ : ∃ wd, v = .int wd ∧ 1 ≤ wd ∧ wd ≤ 99 := by
      simp only [List.mem_cons, List.not_mem_nil, or_false] at hv
      rcases hv with rfl | rfl | rfl
      · exact ⟨2, rfl, by decide, by decide⟩
      · exact ⟨4, rfl, by decide, by decide⟩
      · exact ⟨99, rfl, by decide, by decide⟩
    refine ⟨b, _, n3, _, rfl, rfl, SqL.of (k3 _ _ upd_same bz), ev, ?_⟩
    -- range
    refine ⟨fun v H' => ∃ c : Int, v = .int c ∧ 0 ≤ c ∧ c ≤ 30 ∧ (1 < 1 + n ∨ c = 0) ∧ Keep z H H' ∧ StOk H' z ∧ H' l = some (.lst []), ?_, fun v H' hR => ?_⟩
    · refine ⟨.int (1 + n), rfl, _, _, rfl, rfl, _, rfl, ite2 (fun c => ?_) (fun c => ?_)⟩
      · have c' : 1 < 1 + n := of_decide_eq_true c
        refine ⟨.int 30, rfl, .ref z, rfl, .int 30, rfl, 30, 1, rfl, rfl, z, _, rfl, st3, by decide, by decide, fun H4 n4 k4 st4 b0 b1 => ⟨by show 2 ≤ sizeLine; decide, fun d nd => ⟨.ref z, rfl, z, 2, rfl, st4.same (same_new nd), by decide, by decide, fun H5 n5 k5 st5 e0 e1 => ?_⟩⟩⟩
        have dz : d ≠ z := (st4.ne nd).symm
        obtain ⟨v, hv, ev⟩ := pick (xs := [V.int 30, V.int n4]) e0 e1
        have el4 := k4 _ _ el lz
        have el5 : H5 l = some (.lst []) := k5 _ _ (by rw [upd_ne (ne_of_none el4 nd)]; exact el4) lz
        refine ⟨d, _, n5, v, rfl, rfl, SqL.of (k5 _ _ upd_same dz), ev, ?_⟩
        simp only [List.mem_cons, List.not_mem_nil, or_false] at hv
        have kk := k3'.trans (k4.trans ((Keep.new nd).trans k5))
        rcases hv with rfl | rfl
        · exact ⟨30, rfl, by decide, by decide, .inl c', kk, st5, el5⟩
        · exact ⟨n4, rfl, b0, by omega, .inl c', kk, st5, el5⟩
      · exact ⟨0, rfl, by decide, by decide, .inr rfl, k3', st3, el⟩
    · obtain ⟨c, rfl, c0, c1, cp, k5, st5, el5⟩ := hR
      refine ⟨c, rfl, by omega, by omega, ?_⟩
      refine for_range (lo := 0) (n := c.toNat) (PvNet z l m (1 + n) wd H) ⟨none, none, none, [], [], rfl, k5, st5, el5, .nil, rfl, fun _ h => nomatch h⟩ (fun i σ H' hi h => ?_) (fun σ H' h => ?_)
      · obtain ⟨y6, y7, y8, ts, rs, rfl, kH, stH, eL, rA, hlen, rOk⟩ := h
        have hp : 1 < 1 + n := by
          rcases cp with z | z
          · exact z
          · rw [z] at hi
            exact absurd hi (Nat.not_lt_zero _)
        -- one, other
        refine ⟨.ref z, rfl, .int (1 + n), rfl, z, _, rfl, stH, by omega, by omega, fun Ha o1 ka sa u0 u1 => ?_⟩
        refine ⟨.int o1, rfl, o1, 1, rfl, rfl, .ref z, rfl, .int (1 + n), rfl, 1 + n, 1, rfl, rfl, z, _, rfl, sa, by omega, by omega, fun Hb o2 kb sb v0 v1 => ⟨_, o2, rfl, rfl, .int (1 + n), rfl, _, 1 + n, rfl, rfl, by omega, ?_⟩⟩
        obtain ⟨x0, x1, x2⟩ := other_ok u0 u1 v0 v1
        have kab := ka.trans kb
        have eLb := kab _ _ eL lz
        have rAb : RoadsAt Hb ts rs := rA.keep (kab.tups stH)
        -- if
        refine ⟨fun σ G => ∃ a b : Int, σ = [some (.ref z), some (.int m), some (.int 30), some (.int (1 + n)), some (.ref l), some (.int wd), some (.int (0 + i)), some (.int a), some (.int b)] ∧ 0 ≤ a ∧ a ≤ 1 + n - 1 ∧ 0 ≤ b ∧ b ≤ 1 + n - 1 ∧ a ≠ b ∧ Keep z H G ∧ StOk G z ∧ G l = some (.lst (ts.map V.ref)) ∧ RoadsAt G ts rs, ?_, fun σ G hM => ?_⟩
        · refine ⟨.ref z, rfl, z, 5, rfl, sb, by decide, by decide, fun Hc t5 kc sc _ _ => ⟨rfl, _, rfl, ite2 (fun c5 => ?_) (fun c5 => ?_)⟩⟩
          · have eLc := kc _ _ eLb lz
            have rAc : RoadsAt Hc ts rs := rAb.keep (kc.tups sb)
            refine ⟨.ref l, rfl, Nat.zero_le _, fun e ne => ?_⟩
            have se : Same Hc (upd Hc e (.lst [])) := same_new ne
            have rAe : RoadsAt (upd Hc e (.lst [])) ts rs := rAc.keep fun b xs h => se _ _ h
            refine ⟨.list (rs.map dRoad), .list [], .lst (SqL.of (se _ _ eLc)) (roads_dp rAe), .lst (SqL.of upd_same) .nil, (roads_shaped rs).1, (roads_shaped []).1, _, rfl, ite2 (fun c6 => ?_) (fun c6 => ?_)⟩
            · have hne : rs ≠ [] := fun z => by
                rw [z] at c6
                have : PyData.eqv (.list ([].map dRoad)) (.list []) = true := SeqAt.eqv_refl _ rfl
                rw [this] at c6
                cases c6
              obtain ⟨t, rd, hq, et, ea⟩ := last_ref rAe hne
              have ok := rOk _ hq
              refine ⟨.ref l, rfl, 1, rfl, l, _, -1, _, rfl, rfl, SqL.of (se _ _ eLc), ea, 2, rfl, t, _, rfl, SqT.of et, (show ¬ (HT.sIx 4 0 none = 0 ∧ HT.sIx 4 4 (some 2) = 4) by decide), fun T nT => ?_⟩
              have sT := same_new (H := upd Hc e (.lst [])) (o := .tup (cutV rd.vs none (some 2))) nT
              refine ⟨T, _, rfl, SqT.of upd_same, rfl, .int rd.one, _, rfl, .int rd.other, _, rfl, rfl, ?_⟩
              exact ⟨rd.one, rd.other, rfl, ok.o1, ok.o2, ok.t1, ok.t2, ok.ne, (kH.trans (kab.trans kc)).trans (.of (se.trans sT)), (sc.same se).same sT, sT _ _ (se _ _ eLc), rAe.keep fun b xs h => sT _ _ h⟩
            · exact ⟨o1, _, rfl, u0, by omega, x0, x1, x2, (kH.trans (kab.trans kc)).trans (.of se), sc.same se, se _ _ eLc, rAe⟩
          · exact ⟨o1, _, rfl, u0, by omega, x0, x1, x2, kH.trans (kab.trans kc), sc, kc _ _ eLb lz, rAb.keep (kc.tups sb)⟩
        · obtain ⟨a, b, rfl, g1, g2, g3, g4, g5, kG, sG, eG, rG⟩ := hM
          refine ⟨.ref l, rfl, .inl ⟨rfl, _, SqL.of eG⟩, .int a, rfl, .int b, rfl, .ref z, rfl, .int wd, rfl, z, _, rfl, sG, by omega, by omega, fun Hd t7 kd sd c70 c71 => ⟨1, t7, rfl, rfl, .ref z, rfl, by show 2 ≤ sizeLine; decide, fun e ne => ?_⟩⟩
          have ez : e ≠ z := (sd.ne ne).symm
          refine ⟨.ref z, rfl, z, 2, rfl, sd.same (same_new ne), by decide, by decide, fun He t8 ke se c80 c81 => ?_⟩
          obtain ⟨v, hv, ev⟩ := pick (xs := [V.int 3, V.int 100]) c80 c81
          obtain ⟨tm, rfl, m1, m2⟩ : ∃ tm, v = .int tm ∧ 1 ≤ tm ∧ tm ≤ 100 := by
            simp only [List.mem_cons, List.not_mem_nil, or_false] at hv
            rcases hv with rfl | rfl
            · exact ⟨3, rfl, by decide, by decide⟩
            · exact ⟨100, rfl, by decide, by decide⟩
          refine ⟨e, _, t8, _, rfl, rfl, SqL.of (ke _ _ upd_same ez), ev, z, tm, rfl, se, by omega, by omega, fun Hf t9 kf sf c90 c91 => ⟨by show 4 ≤ sizeLine; decide, fun T nT => ?_⟩⟩
          have kdf : Keep z G Hf := kd.trans ((Keep.new ne).trans (ke.trans kf))
          have eF := kdf _ _ eG lz
          have rF : RoadsAt Hf ts rs := rG.keep (kdf.tups sG)
          have sT : Same Hf (upd Hf T (.tup [.int a, .int b, .int (1 + t7), .int t9])) := same_new nT
          have lT : l ≠ T := ne_of_none eF nT
          have ll : (ts.map V.ref).length < sizeLine := by
            rw [List.length_map, rF.len, hlen]
            exact small1000 (by omega)
          refine ⟨l, _, _, rfl, rfl, sT _ _ eF, ll, ?_⟩
          refine ⟨some (.int (0 + i)), some (.int a), some (.int b), ts ++ [T], rs ++ [⟨a, b, 1 + t7, t9⟩], rfl, fun c u hc hz => ?_, ?_, ?_, ?_, ?_, fun q hq => ?_⟩
          · by_cases hcl : c = l
            · exact absurd (k1 _ _ hc hz) (by rw [hcl, nl]; exact fun z => nomatch z)
            · rw [upd_ne hcl]
              exact sT _ _ (kdf _ _ (kG _ _ hc hz) hz)
          · obtain ⟨xx, yy, e1, e2⟩ := sf.same sT
            exact ⟨xx, yy, by rw [upd_ne lz.symm]; exact e1, e2⟩
          · rw [upd_same, List.map_append]
            rfl
          · refine laid_snoc ((rF.keep fun b xs h => sT _ _ h).keep fun b xs h => ?_) ?_
            · rw [upd_ne (ne_of h (sT _ _ eF) (fun q => nomatch q))]
              exact h
            · rw [upd_ne lT.symm]
              exact upd_same
          · rw [List.length_append, hlen]
            rfl
          · rcases List.mem_append.mp hq with h | h
            · exact rOk q h
            · rw [List.mem_singleton.mp h]
              exact ⟨g1, g2, g3, g4, g5, by show 1 ≤ 1 + t7; omega, by show 1 + t7 ≤ 99; omega, c90, by show t9 ≤ 99; omega⟩
      · obtain ⟨y6, y7, y8, ts, rs, rfl, kH, stH, eL, rA, hlen, rOk⟩ := h
        refine ⟨.int (1 + n), rfl, .ref l, rfl, l, _, rfl, .inl ⟨SqL.of eL, fun r nr => ⟨by show 2 ≤ sizeLine; decide, fun a na => ?_⟩⟩⟩
        have s1 := same_new (H := H') (o := .tup (ts.map V.ref)) nr
        have s2 := same_new (H := upd H' r (.tup (ts.map V.ref))) (o := .tup [.int (1 + n), .ref r]) na
        refine q _ a r ts (1 + n) rs ((kH.trans (.of s1)).trans (.of s2)) ((stH.same s1).same s2) ⟨upd_same, s2 _ _ upd_same, rA.keep fun b xs h => s2 _ _ (s1 _ _ h)⟩ ⟨by omega, by omega, by omega, rOk⟩
end
end Wy

namespace Wy
open PySem PySem.Spec PyProof.Rows L2
def tCutT (t : TT) : TT := fun σ H Q => ∃ R : Bool → Hp → Prop, t σ H R ∧ ∀ b H', R b H' → Q b H'
theorem pt_cut {X : Cx} {e : Expr} {t : TT} (h : PT X e t) : PT X e (tCutT t) := ⟨fun pins s σ H Q I hq => by
  obtain ⟨R, h1, h2⟩ := hq
  exact thn (h.run pins s σ H R I h1) fun b s1 ⟨G, J, q⟩ => ⟨G, J, h2 _ _ q⟩⟩
theorem lc_enumT {K : PySem.W.Frag} {a D : Addr} {xs : List V} {g : TG} {tt : TT} {te : TE} {own : List Nat} {σ : L2.St} {G : Hp} {fin : Hp → Prop} (Pv : Nat → Hp → Prop) (first : Pv 0 (upd G D (.lst []))) (sq : ∀ i H, i ≤ xs.length → Pv i H → SqT K H a xs)
    (turn : ∀ i x T H, xs[i]? = some x → H T = none → Pv i H → g (.ref T) (wipe σ own) (upd H T (.tup [.int (i : Nat), x])) fun σ2 H2 => wipe σ2 own = wipe σ own ∧ tt σ2 H2 fun b H3 =>
      if b = true then te σ2 H3 fun y H4 => ∃ old, H4 D = some (.lst old) ∧ old.length < sizeLine ∧ Pv (i + 1) (upd H4 D (.lst (old ++ [y]))) else Pv (i + 1) H3) (last : ∀ H, Pv xs.length H → fin H) :
    ∃ W : Nat → Nat → Hp → Prop, (∃ m, W 0 m (upd G D (.lst []))) ∧ ∀ i m H, W i m H →
      ((ItT K a).stop i H ∧ fin H) ∨ ((ItT K a).go i H ∧ ∃ Nx : Hp → Prop, (∀ H', Nx H' → ∃ m', m' < m ∧ W (i + 1) m' H') ∧ ∀ x H', (ItT K a).yld i H x H' → g x (wipe σ own) H' fun σ2 H2 => wipe σ2 own = wipe σ own ∧ tt σ2 H2 fun b H3 =>
        if b = true then te σ2 H3 fun y H4 => ∃ old, H4 D = some (.lst old) ∧ old.length < sizeLine ∧ Nx (upd H4 D (.lst (old ++ [y]))) else Nx H3) := by
  refine ⟨fun i m H => m = xs.length - i ∧ i ≤ xs.length ∧ Pv i H, ⟨xs.length, rfl, Nat.zero_le _, first⟩, ?_⟩
  rintro i m H ⟨rfl, hi, p⟩
  have s := sq i H hi p
  by_cases hlt : i < xs.length
  · refine .inr ⟨⟨xs, xs[i], s, List.getElem?_eq_getElem hlt⟩, Pv (i + 1), fun H' p' => ⟨xs.length - (i + 1), by omega, rfl, hlt, p'⟩, fun x H' y => ?_⟩
    obtain ⟨T, v, rfl, nT, rfl, hv⟩ := y
    exact turn i v T H (hv xs s) nT p
  · have e : i = xs.length := by omega
    subst e
    exact .inl ⟨⟨xs, s, Nat.le_refl _⟩, last H p⟩
theorem ints_dp {K : PySem.W.Frag} {H : Hp} : ∀ ms : List Int, DpAll K H (ms.map V.int) (ms.map PyData.int)
  | [] => .nil
  | m :: r => .cons (.int m) (ints_dp r)
theorem ints_lay : ∀ ms : List Int, PyData.canLayAll0 (ms.map PyData.int) = true ∧ PyData.depthAll (ms.map PyData.int) = 0
  | [] => by
    rw [List.map_nil, PyData.canLayAll0, PyData.depthAll]
    exact ⟨rfl, rfl⟩
  | m :: r => by
    rw [List.map_cons, PyData.canLayAll0, PyData.depthAll, (ints_lay r).1, (ints_lay r).2, PyData.canLay0, PyData.depth]
    exact ⟨rfl, rfl⟩
theorem ints_shaped (ms : List Int) : SeqAt.shaped (.list (ms.map PyData.int)) = true := by
  unfold SeqAt.shaped
  rw [PyData.canLay0, (ints_lay ms).1, PyData.depth, (ints_lay ms).2]
  rfl
def PvWalk (z a l : Addr) (sp mo : Int) (rs : List Road) (H : Hp) (i : Nat) (σ : L2.St) (H' : Hp) : Prop :=
  ∃ (y6 y7 : Option V) (here : Int) (ms : List Int), σ = [some (.ref z), some (.ref a), some (.int sp), some (.int mo), some (.ref l), some (.int here), y6, y7, none, none] ∧ Keep z H H' ∧ StOk H' z ∧ H' l = some (.lst (ms.map V.int)) ∧ ms.length ≤ i ∧ ∀ m ∈ ms, 0 ≤ m ∧ m < (rs.length : Int)
section
variable {P : Program} {w : World} {K : PySem.W.Frag} {mg : Str → Option Value} {base : Heap}
theorem scWalk : FnScope ["_law_state_here", "_law_web", "_law_spot", "_law_most", "_law_found", "_law_here", "_law_turn", "_law_some", "_law_number_here", "_law_road"] ["_law_state_here", "_law_web", "_law_spot", "_law_most"] (defScope sWalk) := ⟨rfl, rfl, rfl, by decide +kernel, rfl, by decide +kernel, by decide +kernel⟩
def spWalk : Sp := fun vs H Q _ => ∃ (z a r : Addr) (ts : List Addr) (p : Int) (rs : List Road) (sp : Int), vs = [.ref z, .ref a, .int sp, .int 12] ∧ StOk H z ∧ NetAt H a r ts p rs ∧ NetOk p rs ∧
  ∀ (H' : Hp) (t : Addr) (ms : List Int), Keep z H H' → StOk H' z → H t = none → H' t = some (.tup (ms.map V.int)) → ms.length ≤ 12 → (∀ m ∈ ms, 0 ≤ m ∧ m < (rs.length : Int)) → Q (.ref t) H'
theorem Keep.free {z b : Addr} {H H' : Hp} (k : Keep z H H') (h : H' b = none) (n : b ≠ z) : H b = none := by
  cases e : H b with
  | none => rfl
  | some o =>
    rw [k _ _ e n] at h
    cases h
theorem ok_walk {f fK : Addr} {fd dK : FuncData} {k : Nat} (DK : Df K mg "_law_take" sTake ["_law_state_here", "_law_much"] fK dK) (mR : mg "range" = none) (mT : mg "tuple" = none) (mE : mg "enumerate" = none) (ml : mg "len" = none)
    (D : Df K mg "_law_walk" sWalk ["_law_state_here", "_law_web", "_law_spot", "_law_most"] f fd) : FnOk P w K mg base CX0 (k + 2) f fd ["_law_state_here", "_law_web", "_law_spot", "_law_most"] spWalk := by
  have GK : FnOk P w K mg base CX0 (k + 1) fK dK ["_law_state_here", "_law_much"] spTake := ok_take DK
  refine D.F.ok scWalk (fun vs H Q E h => ?_) (fun cdv A outer s H vs Q E hr h => ?_)
  · obtain ⟨_, _, _, _, _, _, _, rfl, _⟩ := h
    rfl
  · obtain ⟨z, a, r, ts, p, rs, sp, rfl, st, hN, ok, q⟩ := h
    refine ⟨_, (pss_cons (ps_asg (pe_tup (pa_cons (pe_lst pa_nil) (pa_cons (pv 2) pa_nil))) (pg_tup (by rfl) (pgs_cons (pg_name (i := 4) scWalk.nd rfl (.inl rfl)) (pgs_cons (pg_name (i := 5) scWalk.nd rfl (.inr rfl)) pgs_nil))))
    (pss_cons (ps_for PassesOwn.never rfl (pi_range1 (by rfl) mR (pa_cons (pe_call GK hr (by rfl) DK.g DK.F.kp DK.b .nil pass0 (pa_cons (pv 0) (pa_cons (pe_op op_add (pv 3) pe_int) pa_nil))) pa_nil)) (pg_name (i := 6) scWalk.nd rfl (.inl rfl))
    (pss_cons (ps_setLc (i := 7) (own := [("_law_number_here", 8), ("_law_road", 9)]) (g := gTup K 2 (gCons (gName 8) (gCons (gName 9) gNil))) (tt := tTest (tOp rEq (tOp (rIxT K) (tVar 9) (tC (.int 0))) (tVar 5))) rfl scWalk.nd rfl rfl (sw_true rfl rfl rfl (by decide +kernel)) (pi_enumT (by rfl) mE (pa_cons (pe_ix ix_tup (pv 1) pe_int (fun _ _ => rfl)) pa_nil)) (blkOk_by (N := ["_law_state_here", "_law_web", "_law_spot", "_law_most", "_law_found", "_law_here", "_law_turn", "_law_some", "_law_number_here", "_law_road"]) (sc := defScope sWalk) (by decide +kernel)) (fun _ _ _ _ _ => pg_tup (by rfl) (pgs_cons (pg_name (i := 8) scWalk.nd rfl (.inl rfl)) (pgs_cons (pg_name (i := 9) scWalk.nd rfl (.inl rfl)) pgs_nil))) (fun _ _ _ _ _ => pts_one (pt_cmpR op_eq (pe_ix (ix_tupK (K := K) rfl) (pv 9) pe_int (fun _ _ => rfl)) (pv 5) (nomark _))) (fun _ _ _ _ _ => pv 8))
    (pss_one (ps_if (pt_cut (PW.pt (pw_and (pt_cmpR (op_neD hr.units) (pv 7) (pe_lst pa_nil) (nomark _)) (pw_and1 (pt_cmpR op_gt (pe_call GK hr (by rfl) DK.g DK.F.kp DK.b .nil pass0 (pa_cons (pv 0) (pa_cons pe_int pa_nil))) pe_int (nomark _)))))) (pss_cons (ps_expr (pe_bm PySem.F.plainAttrs_list PySem.F.slot_list_append PySem.F.type_list_append mt_append (pv 4) (pa_cons (pe_ix ix_list (pv 7) (pe_call GK hr (by rfl) DK.g DK.F.kp DK.b .nil pass0 (pa_cons (pv 0) (pa_cons (pe_callB call_len_seq (by rfl) ml PySem.boot_len (pa_cons (pv 7) pa_nil)) pa_nil))) (fun _ _ => rfl)) pa_nil)))
    (pss_one (ps_set (i := 5) scWalk.nd rfl (.inr rfl) (pe_ix ix_tup (pe_ix ix_tup (pe_ix ix_tup (pv 1) pe_int (fun _ _ => rfl)) (pe_ix ix_list (pv 4) (pe_un un_neg pe_int) (fun _ _ => rfl)) (fun _ _ => rfl)) pe_int (fun _ _ => rfl))))) (pss_one (ps_if (PW.pt (pw_and (pt_cmpR (op_neD hr.units) (pe_ix ix_tup (pv 1) pe_int (fun _ _ => rfl)) (pe_tup pa_nil) (nomark _)) (pw_and1 (pt_cmpR op_eq (pe_call GK hr (by rfl) DK.g DK.F.kp DK.b .nil pass0 (pa_cons (pv 0) (pa_cons pe_int pa_nil))) pe_int (nomark _))))) (pss_cons (ps_expr (pe_bm PySem.F.plainAttrs_list PySem.F.slot_list_append PySem.F.type_list_append mt_append (pv 4) (pa_cons (pe_call GK hr (by rfl) DK.g DK.F.kp DK.b .nil pass0 (pa_cons (pv 0) (pa_cons (pe_callB call_len_seq (by rfl) ml PySem.boot_len (pa_cons (pe_ix ix_tup (pv 1) pe_int (fun _ _ => rfl)) pa_nil)) pa_nil))) pa_nil)))
    (pss_one (ps_set (i := 5) scWalk.nd rfl (.inr rfl) (pe_ix ix_tup (pe_ix ix_tup (pe_ix ix_tup (pv 1) pe_int (fun _ _ => rfl)) (pe_ix ix_list (pv 4) (pe_un un_neg pe_int) (fun _ _ => rfl)) (fun _ _ => rfl)) pe_int (fun _ _ => rfl))))) pss_nil))))))
    (pss_one (ps_ret (pe_callTy call_tuple_of (by rfl) mT (by decide +kernel) (pa_cons (pv 4) pa_nil)))))), ?_⟩
    refine ⟨Nat.zero_le _, fun l nl => ⟨.int sp, rfl, by show 2 ≤ sizeLine; decide, fun T nT => ?_⟩⟩
    have lz : l ≠ z := (st.ne nl).symm
    have s1 : Same H (upd H l (.lst [])) := same_new nl
    have s2 := s1.trans (same_new (o := .tup [.ref l, .int sp]) nT)
    refine ⟨T, _, rfl, SqT.of upd_same, rfl, .ref l, _, rfl, .int sp, _, rfl, rfl, ?_⟩
    have lT : l ≠ T := ne_of_none upd_same nT
    refine ⟨.ref z, rfl, .int 12, rfl, 12, 1, rfl, rfl, z, _, rfl, st.same s2, by decide, by decide, fun H1 n k1 st1 n0 n1 => ?_⟩
    have el1 : H1 l = some (.lst []) := k1 _ _ (by rw [upd_ne lT, upd_same]) lz
    have kH1 : Keep z H H1 := (Keep.of s2).trans k1
    refine ⟨n, rfl, by omega, by omega, ?_⟩
    refine for_range (lo := 0) (n := n.toNat) (PvWalk z a l sp 12 rs H) ⟨none, none, sp, [], rfl, kH1, st1, el1, Nat.le_refl _, fun _ h => nomatch h⟩ (fun i σ H' hi h => ?_) (fun σ H' h => ?_)
    · obtain ⟨y6, y7, here, ms, rfl, kH, stH, eL, hlen, hms⟩ := h
      obtain ⟨ea, er, et⟩ := hN.keep (kH.tups st)
      refine ⟨.ref a, rfl, a, _, 1, _, rfl, rfl, SqT.of ea, rfl, r, _, rfl, SqT.of er, fun D nD => ?_⟩
      have Dz : D ≠ z := (stH.ne nD).symm
      refine lc_enumT (xs := ts.map V.ref) (fun j G => Same H' G ∧ ∃ ns : List Int, G D = some (.lst (ns.map V.int)) ∧ ns.length ≤ j ∧ ∀ m ∈ ns, 0 ≤ m ∧ m < (rs.length : Int)) ⟨same_new nD, [], upd_same, Nat.le_refl _, fun _ h => nomatch h⟩ (fun j G _ h => SqT.of (h.1 _ _ er)) (fun j x U G hx nU h => ?_) (fun G h => ?_)
      · obtain ⟨sm, ns, eD, hl, hns⟩ := h
        have hj : j < ts.length := by
          have := (List.getElem?_eq_some_iff.mp hx).1
          rwa [List.length_map] at this
        rw [List.getElem?_map, List.getElem?_eq_getElem hj] at hx
        cases hx
        obtain ⟨rd, e1, e2⟩ := et.get (List.getElem?_eq_getElem hj)
        have sU := same_new (H := G) (o := .tup [.int (j : Nat), .ref ts[j]]) nU
        refine ⟨U, _, rfl, SqT.of upd_same, rfl, .int (j : Nat), _, rfl, .ref ts[j], _, rfl, rfl, rfl, ?_⟩
        have DU : D ≠ U := ne_of_none eD nU
        have hlt : j < rs.length := (List.getElem?_eq_some_iff.mp e1).1
        have l30 := ok.len
        refine ⟨.ref ts[j], rfl, ts[j], _, 0, _, rfl, rfl, SqT.of (sU _ _ (sm _ _ e2)), rfl, .int here, rfl, rfl, _, rfl, ite2 (fun c => ?_) (fun c => ?_)⟩
        · refine ⟨_, rfl, _, sU _ _ eD, ?_, Same.upd_lst (sm.trans sU) nD, ns ++ [(j : Int)], ?_, ?_, fun m hm => ?_⟩
          · rw [List.length_map]
            exact small1000 (by omega)
          · rw [upd_same, List.map_append]
            rfl
          · rw [List.length_append, List.length_singleton]
            omega
          · rcases List.mem_append.mp hm with h | h
            · exact hns m h
            · rw [List.mem_singleton.mp h]
              omega
        · exact ⟨sm.trans sU, ns, sU _ _ eD, by omega, hns⟩
      · obtain ⟨sm, ns, eD, hl, hns⟩ := h
        have stG : StOk G z := stH.same sm
        have eLG : G l = some (.lst (ms.map V.int)) := sm _ _ eL
        have Dl : D ≠ l := (ne_of_none eL nD).symm
        refine ⟨fun b G' => Keep z G G' ∧ StOk G' z ∧ (b = true → ns ≠ []), ?_, fun b G' hR => ?_⟩
        · refine ⟨.ref D, rfl, Nat.zero_le _, fun e ne => ?_⟩
          have se : Same G (upd G e (.lst [])) := same_new ne
          refine ⟨.list (ns.map PyData.int), .list [], .lst (SqL.of (se _ _ eD)) (ints_dp ns), .lst (SqL.of upd_same) .nil, ints_shaped ns, ints_shaped [], _, rfl, ite2 (fun c6 => ?_) (fun c6 => ?_)⟩
          · have hne : ns ≠ [] := fun z => by
              rw [z] at c6
              have : PyData.eqv (.list ([].map PyData.int)) (.list []) = true := SeqAt.eqv_refl _ rfl
              rw [this] at c6
              cases c6
            refine ⟨.ref z, rfl, z, 12, rfl, stG.same se, by decide, by decide, fun G2 t kt s2 _ _ => ⟨_, _, rfl, rfl, _, rfl, (Keep.of se).trans kt, s2, fun _ => hne⟩⟩
          · exact ⟨.of se, stG.same se, fun z => nomatch z⟩
        · obtain ⟨kG, sG, hb⟩ := hR
          have eDb := kG _ _ eD Dz
          have eLb := kG _ _ eLG lz
          have kHG : Keep z H G' := kH.trans ((Keep.of sm).trans kG)
          obtain ⟨fa, fr, ft⟩ := hN.keep (kHG.tups st)
          refine ite2 (fun c => ?_) (fun c => ?_)
          · have hne := hb c
            refine ⟨.ref l, rfl, .inl ⟨rfl, _, SqL.of eLb⟩, .ref D, rfl, .ref z, rfl, .ref D, rfl, D, _, rfl, .inl (SqL.of eDb), z, _, rfl, sG, ?_, ?_, fun G2 t k2 s2 t0 t1 => ?_⟩
            · rw [List.length_map]
              cases ns with
              | nil => exact absurd rfl hne
              | cons _ _ => rw [List.length_cons]; omega
            · rw [List.length_map]
              have := ok.len
              have := ft.len
              rw [List.length_map] at hl
              omega
            · obtain ⟨v, hv, ev⟩ := pick t0 t1
              obtain ⟨m, hm, rfl⟩ := List.mem_map.mp hv
              obtain ⟨m0, m1⟩ := hns m hm
              have eD2 := k2 _ _ eDb Dz
              have eL2 := k2 _ _ eLb lz
              refine ⟨D, _, t, _, rfl, rfl, SqL.of eD2, ev, l, _, _, rfl, rfl, eL2, ?_, ?_⟩
              · rw [List.length_map]
                exact small1000 (by omega)
              · obtain ⟨ga, gr, gt⟩ := hN.keep ((kHG.trans k2).tups st)
                have kF : Keep z H (upd G2 l (.lst ((ms.map V.int) ++ [.int m]))) := fun b o hb hz => by
                  rw [upd_ne (fun e => by rw [e, nl] at hb; cases hb)]
                  exact k2 _ _ (kHG _ _ hb hz) hz
                obtain ⟨ha, hr', ht⟩ := hN.keep (kF.tups st)
                have sF : StOk (upd G2 l (.lst ((ms.map V.int) ++ [.int m]))) z := by
                  obtain ⟨xx, yy, e1, e2⟩ := s2
                  exact ⟨xx, yy, by rw [upd_ne lz.symm]; exact e1, e2⟩
                obtain ⟨mm, rfl⟩ := Int.eq_ofNat_of_zero_le m0
                obtain ⟨t', rd, e1, e2, e3⟩ := road_at ht (show mm < rs.length by omega)
                refine ⟨.ref a, rfl, a, _, 1, _, rfl, rfl, SqT.of ha, rfl, .ref l, rfl, 1, rfl, l, _, -1, _, rfl, rfl, SqL.of upd_same, atI_last _ _, r, _, mm, .ref t', rfl, rfl, SqT.of hr', atI_nat (ref_at e1), t', _, 1, _, rfl, rfl, SqT.of e3, rfl, ?_⟩
                refine ⟨some (.int (0 + i)), some (.ref D), rd.other, ms ++ [(mm : Int)], rfl, kF, sF, ?_, ?_, fun x hx => ?_⟩
                · rw [upd_same, List.map_append]
                  rfl
                · rw [List.length_append, List.length_singleton]
                  omega
                · rcases List.mem_append.mp hx with h | h
                  · exact hms x h
                  · rw [List.mem_singleton.mp h]
                    omega
          · refine ⟨.ref a, rfl, a, _, 1, _, rfl, rfl, SqT.of fa, rfl, Nat.zero_le _, fun e ne => ?_⟩
            have se : Same G' (upd G' e (.tup [])) := same_new ne
            have sE : StOk (upd G' e (.tup [])) z := sG.same se
            refine ⟨.tuple (rs.map dRoad), .tuple [], .tup (SqT.of (se _ _ fr)) (roads_dp (ft.keep fun b xs h => se _ _ h)), .tup (SqT.of upd_same) .nil, (roads_shaped rs).2, (roads_shaped []).2, _, rfl, ite2 (fun c6 => ?_) (fun c6 => ?_)⟩
            · have hne : rs ≠ [] := fun z => by
                rw [z] at c6
                have : PyData.eqv (.tuple ([].map dRoad)) (.tuple []) = true := SeqAt.eqv_refl _ rfl
                rw [this] at c6
                cases c6
              have hpos : 0 < rs.length := by
                cases rs with
                | nil => exact absurd rfl hne
                | cons _ _ => simp
              refine ⟨.ref z, rfl, z, 3, rfl, sE, by decide, by decide, fun G3 t3 k3 s3 _ _ => ⟨rfl, _, rfl, ite2 (fun c7 => ?_) (fun c7 => ?_)⟩⟩
              · have kH3 := kHG.trans ((Keep.of se).trans k3)
                obtain ⟨ga, gr, gt⟩ := hN.keep (kH3.tups st)
                have eL3 : G3 l = some (.lst (ms.map V.int)) := k3 _ _ (se _ _ eLb) lz
                have l30 := ok.len
                have lts : ((ts.map V.ref).length : Int) = (rs.length : Int) := by rw [List.length_map, gt.len]
                refine ⟨.ref l, rfl, .inl ⟨rfl, _, SqL.of eL3⟩, .ref z, rfl, .ref a, rfl, a, _, 1, _, rfl, rfl, SqT.of ga, rfl, r, _, rfl, .inr (SqT.of gr), z, _, rfl, s3, by rw [lts]; omega, by rw [lts]; omega, fun G2 m k2 s2 m0 m1 => ?_⟩
                rw [lts] at m1
                have eL2 := k2 _ _ eL3 lz
                refine ⟨l, _, _, rfl, rfl, eL2, ?_, ?_⟩
                · rw [List.length_map]
                  exact small1000 (by omega)
                · have kF : Keep z H (upd G2 l (.lst ((ms.map V.int) ++ [.int m]))) := fun b o hb hz => by
                    rw [upd_ne (fun e => by rw [e, nl] at hb; cases hb)]
                    exact k2 _ _ (kH3 _ _ hb hz) hz
                  obtain ⟨ha, hr', ht⟩ := hN.keep (kF.tups st)
                  have sF : StOk (upd G2 l (.lst ((ms.map V.int) ++ [.int m]))) z := by
                    obtain ⟨xx, yy, e1, e2⟩ := s2
                    exact ⟨xx, yy, by rw [upd_ne lz.symm]; exact e1, e2⟩
                  obtain ⟨mm, rfl⟩ := Int.eq_ofNat_of_zero_le m0
                  obtain ⟨t', rd, e1, e2, e3⟩ := road_at ht (show mm < rs.length by omega)
                  refine ⟨.ref a, rfl, a, _, 1, _, rfl, rfl, SqT.of ha, rfl, .ref l, rfl, 1, rfl, l, _, -1, _, rfl, rfl, SqL.of upd_same, atI_last _ _, r, _, mm, .ref t', rfl, rfl, SqT.of hr', atI_nat (ref_at e1), t', _, 1, _, rfl, rfl, SqT.of e3, rfl, ?_⟩
                  refine ⟨some (.int (0 + i)), some (.ref D), rd.other, ms ++ [(mm : Int)], rfl, kF, sF, ?_, ?_, fun x hx => ?_⟩
                  · rw [upd_same, List.map_append]
                    rfl
                  · rw [List.length_append, List.length_singleton]
                    omega
                  · rcases List.mem_append.mp hx with h | h
                    · exact hms x h
                    · rw [List.mem_singleton.mp h]
                      omega
              · exact ⟨some (.int (0 + i)), some (.ref D), here, ms, rfl, kHG.trans ((Keep.of se).trans k3), s3, k3 _ _ (se _ _ eLb) lz, by omega, hms⟩
            · exact ⟨some (.int (0 + i)), some (.ref D), here, ms, rfl, kHG.trans (.of se), sE, se _ _ eLb, by omega, hms⟩
    · obtain ⟨y6, y7, here, ms, rfl, kH, stH, eL, hlen, hms⟩ := h
      refine ⟨.ref l, rfl, l, _, rfl, .inl ⟨SqL.of eL, fun t nt => ?_⟩⟩
      have s1 := same_new (H := H') (o := .tup (ms.map V.int)) nt
      exact q _ t ms (kH.trans (.of s1)) (stH.same s1) (kH.free nt (stH.ne nt).symm) upd_same (by omega) hms
end
end Wy

namespace Wy
open PySem PySem.Spec PyProof.Rows L2 HT
/-! ### t[::-1] of a tuple -/
theorem rev_adjust (n : Nat) : Builtin.Slice.sliceAdjust none none (-1) (n : Int) = ((n : Int) - 1, -1) := by
  unfold Builtin.Slice.sliceAdjust
  rfl
theorem rev_places (n : Nat) : Builtin.Slice.slicePlaces ((n : Int) - 1) (-1) (-1) = n := by
  unfold Builtin.Slice.slicePlaces
  simp
  omega
theorem rev_pick (xs : List Value) : ((List.range xs.length).filterMap fun (k : Nat) => xs.toArray[(((xs.length : Int) - 1) + (k : Int) * (-1)).toNat]?) = xs.reverse := by
  have e : ∀ m, m ≤ xs.length → ((List.range m).filterMap fun (k : Nat) => xs.toArray[(((xs.length : Int) - 1) + (k : Int) * (-1)).toNat]?) = xs.reverse.take m := by
    intro m
    induction m with
    | zero =>
      intro _
      rfl
    | succ m ih =>
      intro h
      rw [List.range_succ, List.filterMap_append, ih (by omega), List.take_add_one]
      congr 1
      have hi : (((xs.length : Int) - 1) + (m : Int) * (-1)).toNat = xs.length - 1 - m := by omega
      have hr : xs.reverse[m]? = some xs[xs.length - 1 - m] := by
        rw [List.getElem?_reverse (by omega), List.getElem?_eq_getElem (by omega)]
      have ha : xs.toArray[xs.length - 1 - m]? = some xs[xs.length - 1 - m] := by
        rw [List.getElem?_toArray, List.getElem?_eq_getElem (by omega)]
      rw [hr]
      show List.filterMap _ [m] = [xs[xs.length - 1 - m]]
      rw [List.filterMap_cons_some (b := xs[xs.length - 1 - m]) (by rw [hi]; exact ha)]
      rfl
  rw [e _ (Nat.le_refl _), List.take_of_length_le (by rw [List.length_reverse]; exact Nat.le_refl _)]
section
variable {prog : Program} {w : World} {A : Around} {E : Value → Shared → Prop} {s : Shared}
theorem tuple_back {u sl : Addr} {its : List Value} {tk : Tok} {Q : Value → Shared → Prop} (hT : IsTup s.heap u its.toArray) (hs : s.heap.IsSliceOf sl .none .none (.int (-1) tk)) (hz : its.length ≤ sizeLine)
    (h : Q (.ref s.heap.objs.size) { s with heap := s.heap.push { cls := .type "tuple", data := .seq its.reverse.toArray } }) : wpAny (model prog w) A (getItem (.ref u) (.ref sl)) Q E s := by
  have fits : sizeOk (.seq its.reverse.toArray) := by
    show its.reverse.toArray.size ≤ sizeLine
    rw [List.size_toArray, List.length_reverse]
    exact hz
  obtain ⟨os, ho, hc, hd⟩ := id hs
  have ty : s.TypeIs (.ref sl) "slice" := ⟨os, ho, hc⟩
  unfold getItem
  try with_reducible refine wpAny_holding ?_
  first | refine wpAny_bind (wpAny_pure ?_) | skip
  refine wpAny_bind (wpAny_sequenceKey hT.typeIs (by decide) (wpAny_bind (wpAny_callSpecial?_slot (name := Str.ofString "__getitem__") hT.typeIs PyProof.Rows.slot_tuple_getitem (wpAny_call_entry PyProof.Rows.slot_tuple_getitem hT.typeIs entry_tuple_getitem ?_ (args_tuple_getitem _ _)))))
  show wpAny _ _ (Builtin.Tuple.tupleItemsOf (.ref u) >>= _) _ _ s
  refine wpAny_bind (tupleItemsOf_ hT (wpAny_bind (wpAny_typeOf ty ?_)))
  rw [if_pos (by decide)]
  refine wpAny_bind (m := Builtin.Slice.sliceApplied _ _) ?_
  unfold Builtin.Slice.sliceApplied Builtin.Slice.sliceFields
  refine wpAny_bind (wpAny_bind (wpAny_field ho hd (x := .none) rfl (wpAny_bind (wpAny_field ho hd (x := .none) rfl (wpAny_bind (wpAny_field ho hd (x := .int (-1) tk) rfl (wpAny_pure ?_)))))))
  refine wpAny_bind (slicePart_int ?_)
  show wpAny _ _ (if ((-1 : Int) == 0) = true then _ else _) _ _ s
  rw [if_neg (by decide)]
  refine wpAny_bind (slicePart_none (wpAny_bind (slicePart_none (wpAny_bind (wpAny_pure ?_)))))
  show wpAny _ _ (match Builtin.Slice.sliceAdjust none none (-1) (its.toArray.size : Int) with | (lo, hi) => pure (lo, (-1 : Int), Builtin.Slice.slicePlaces lo hi (-1))) _ _ s
  rw [rev_adjust]
  show wpAny _ _ (pure (((its.toArray.size : Int) - 1), (-1 : Int), Builtin.Slice.slicePlaces ((its.toArray.size : Int) - 1) (-1) (-1))) _ _ s
  rw [rev_places]
  refine wpAny_pure ?_
  show wpAny _ _ (if ((((its.toArray.size : Int) - 1) == 0 && (-1 : Int) == 1 && its.toArray.size == its.toArray.size) = true) then _ else _) _ _ s
  rw [if_neg (by simp), List.size_toArray, rev_pick]
  first
    | exact wpAny_bind (m := Builtin.Tuple.tupleExact _) (wpAny_newObj_type (wpAny_pure ⟨_, rfl, wpAny_pure h⟩) fits)
    | exact wpAny_bind (m := Builtin.Tuple.tupleExact _) (wpAny_newObj_type (wpAny_bind (wpAny_pure (wpAny_pure ⟨_, rfl, wpAny_pure h⟩))) fits)
    | exact wpAny_bind (wpAny_bind (m := Builtin.Tuple.tupleExact _) (wpAny_newObj_type (wpAny_pure (wpAny_pure ⟨_, rfl, wpAny_pure h⟩)) fits))
    | exact wpAny_bind (wpAny_bind (m := Builtin.Tuple.tupleExact _) (wpAny_newObj_type (wpAny_pure ⟨_, rfl, wpAny_pure h⟩) fits))
end
def tBackT (K : PySem.W.Frag) (te : TE) : TE := fun σ H Q => te σ H fun x G => ∃ a xs, x = .ref a ∧ SqT K G a xs ∧ ∀ p, G p = none → Q (.ref p) (upd G p (.tup xs.reverse))
theorem pe_backT {X : Cx} {e : Expr} {te : TE} {k : Nat} {u1 u2 u3 u4 : Pos} (he : PE X e te) : PE X (.Subscript e (.Slice none none (some (.UnaryOp .USub (.Constant (.int 1) k u1) u2)) u3) u4) (tBackT X.K te) := by
  refine ⟨fun pins s σ H Q I h => ?_⟩
  refine Subscript_ (thn (he.run pins s σ H _ I h) fun v t1 ⟨x, G1, J1, r1, g1⟩ => ?_)
  obtain ⟨a, xs, ex, hx, q⟩ := g1
  subst ex
  cases r1
  have step : PO X (some (.UnaryOp .USub (.Constant (.int 1) k u1) u2)) (tPart (tUn (rU fun i => .int (-i)) (tC (.int 1)))) := po_some (pe_un un_neg pe_int)
  refine wpAny_Slice (thn (po_none.run pins t1 σ G1 (fun o G => o = none ∧ G = G1) J1 ⟨rfl, rfl⟩) fun vl t2 ⟨l, G2, J2, pl, el, e2⟩ => ?_)
  subst el e2
  refine thn (po_none.run pins t2 σ G2 (fun o G => o = none ∧ G = G2) J2 ⟨rfl, rfl⟩) fun vu t3 ⟨u, G3, J3, pu, eu, e3⟩ => ?_
  subst eu e3
  refine thn (step.run pins t3 σ G3 (fun o G => o = some (-1) ∧ G = G3) J3 ⟨1, rfl, -1, rfl, rfl, rfl⟩) fun vs t4 ⟨o, G4, J4, ps, eo, e4⟩ => ?_
  subst eo e4
  have J5 : Inv X pins σ G4 { t4 with heap := t4.heap.push { cls := .type "slice", data := .fields #[vl, vu, vs] } } := J4.kept (t' := t4.toks) fun b ob z => Heap.get?_push_of_some _ z
  obtain ⟨its, r, hT, hz⟩ := J5.tuple hx
  have hlen := r.length
  show wpAny (model X.prog X.w) X.A (subscriptTail e (.Slice none none (some (.UnaryOp .USub (.Constant (.int 1) k u1) u2)) u3) (.ref a) (.ref t4.heap.objs.size)) (EP X pins σ Q) X.xe _
  refine tail_any (ops := [.ref a, .ref t4.heap.objs.size]) hT.typeIs (PyProof.Rows.slot_tuple_getitem.lookup) ?_ (by with_unfolding_all rfl)
  cases pl
  cases pu
  cases ps
  refine tuple_back hT (Heap.IsSliceOf.new _ _ _ _) (by omega) ?_
  refine ⟨.ref _, _, J5.laid (t' := t4.toks) (o := .tup xs.reverse) (fun b ob z => Heap.get?_push_of_some _ z) (Nat.le_refl _) ?_, rfl, q _ (J5.hok.fresh (Nat.le_refl _))⟩
  exact ⟨by rw [List.length_reverse]; exact hz, _, r.reverse, ⟨_, Heap.get?_push_size _ rfl, rfl, _, rfl⟩⟩
/-! ### repr of data -/
theorem dp_plain {K : PySem.W.Frag} {H : Hp} : ∀ {v : V} {d : PyData}, Dp K H v d → d.hasDict = false
  | _, _, .non => by simp only [PyData.hasDict]
  | _, _, .bl _ => by simp only [PyData.hasDict]
  | _, _, .int _ => by simp only [PyData.hasDict]
  | _, _, .str _ => by simp only [PyData.hasDict]
  | _, _, .lst _ a => by
    rw [PyData.hasDict]
    exact dpAll_plain a
  | _, _, .tup _ a => by
    rw [PyData.hasDict]
    exact dpAll_plain a
where dpAll_plain {K : PySem.W.Frag} {H : Hp} : ∀ {vs : List V} {ds : List PyData}, DpAll K H vs ds → PyData.hasDictAll ds = false
  | _, _, .nil => by simp only [PyData.hasDictAll]
  | _, _, .cons a b => by
    rw [PyData.hasDictAll, dp_plain a, dpAll_plain b]
    rfl
end Wy

namespace Wy
open PySem PySem.Spec PyProof.Rows L2
/-! ### how long a thing's text is -/
structure Sh (d : PyData) (n m : Nat) : Prop where
  s : d.showable = true
  l : d.shown.length ≤ n
  k : d.depth ≤ m
theorem Sh.mono {d : PyData} {n m n' m' : Nat} (h : Sh d n m) (a : n ≤ n') (b : m ≤ m') : Sh d n' m' := ⟨h.s, Nat.le_trans h.l a, Nat.le_trans h.k b⟩
theorem piled_le {c : Nat} : ∀ ts : List Str, (∀ t ∈ ts, t.length ≤ c) → piled ts ≤ ts.length * (c + 2)
  | [], _ => by
    show piled [] ≤ 0 * _
    simp [piled]
  | t :: r, h => by
    have h1 := h t List.mem_cons_self
    have h2 := piled_le r fun u hu => h u (List.mem_cons_of_mem _ hu)
    rw [piled_cons, List.length_cons, Nat.add_mul, Nat.one_mul]
    omega
theorem tuple_le {c : Nat} (ts : List Str) (h : ∀ t ∈ ts, t.length ≤ c) : (tupleText ts).length ≤ 4 + ts.length * (c + 2) := by
  unfold tupleText
  rw [strLen_append, strLen_append]
  have e1 : ((("(" : String) : Str)).length = 1 := rfl
  have e3 : (((if ts.length == 1 then ",)" else ")" : String) : Str)).length ≤ 2 := by split <;> decide
  have e4 := piled_le ts h
  rw [e1]
  by_cases hn : ts = []
  · subst hn
    have : (Str.join ", " []).length = 0 := rfl
    omega
  · have := join_length_add ts hn
    omega
theorem from_le {c : Nat} : ∀ (ts : List Str) (k : Nat) (acc : Str), (∀ t ∈ ts, t.length ≤ c) → (textFrom k acc ts).length ≤ acc.length + ts.length * (c + 2)
  | [], _, acc, _ => by
    show acc.length ≤ _
    omega
  | t :: r, k, acc, h => by
    have h1 := h t List.mem_cons_self
    have h2 := from_le r (k + 1) (acc ++ (if k > 0 then ", " else "" : String) ++ t) fun u hu => h u (List.mem_cons_of_mem _ hu)
    have e : (acc ++ (if k > 0 then ", " else "" : String) ++ t).length ≤ acc.length + 2 + t.length := by
      rw [strLen_append, strLen_append]
      have : (((if k > 0 then ", " else "" : String) : Str)).length ≤ 2 := by split <;> decide
      omega
    show (textFrom (k + 1) _ r).length ≤ _
    rw [List.length_cons, Nat.add_mul, Nat.one_mul]
    omega
theorem list_le {c : Nat} (ts : List Str) (h : ∀ t ∈ ts, t.length ≤ c) : (listText ts).length ≤ 4 + ts.length * (c + 2) := by
  unfold listText
  rw [strLen_append]
  have e1 : ((("[" : String) : Str)).length = 1 := rfl
  have e2 : ((("]" : String) : Str)).length = 1 := rfl
  have := from_le ts 0 "[" h
  rw [e2]
  omega
theorem shown_mem : ∀ {ds : List PyData} {t : Str}, t ∈ PyData.shownAll ds → ∃ d ∈ ds, t = d.shown
  | [], _, h => by
    rw [PyData.shownAll] at h
    cases h
  | d :: r, t, h => by
    rw [PyData.shownAll] at h
    rcases List.mem_cons.mp h with e | e
    · exact ⟨d, List.mem_cons_self, e⟩
    · obtain ⟨x, hx, e⟩ := shown_mem e
      exact ⟨x, List.mem_cons_of_mem _ hx, e⟩
theorem shown_len : ∀ ds : List PyData, (PyData.shownAll ds).length = ds.length
  | [] => by
    rw [PyData.shownAll]
    rfl
  | d :: r => by rw [PyData.shownAll, List.length_cons, List.length_cons, shown_len r]
theorem show_all : ∀ {ds : List PyData} {n m : Nat}, (∀ d ∈ ds, Sh d n m) → PyData.showableAll ds = true ∧ PyData.depthAll ds ≤ m
  | [], n, m, _ => by
    rw [PyData.showableAll, PyData.depthAll]
    exact ⟨rfl, Nat.zero_le _⟩
  | d :: r, n, m, h => by
    have h1 := h d List.mem_cons_self
    obtain ⟨h2, h3⟩ := show_all (n := n) (m := m) fun u hu => h u (List.mem_cons_of_mem _ hu)
    rw [PyData.showableAll, PyData.depthAll, h1.s, h2]
    have := h1.k
    exact ⟨rfl, by omega⟩
theorem Sh.tuple {ds : List PyData} {n m k : Nat} (h : ∀ d ∈ ds, Sh d n m) (hk : ds.length ≤ k) : Sh (.tuple ds) (4 + k * (n + 2)) (m + 1) := by
  obtain ⟨h1, h2⟩ := show_all h
  refine ⟨by rw [PyData.showable]; exact h1, ?_, by rw [PyData.depth]; omega⟩
  rw [PyData.shown]
  refine Nat.le_trans (tuple_le (c := n) _ fun t ht => ?_) ?_
  · obtain ⟨d, hd, e⟩ := shown_mem ht
    rw [e]
    exact (h d hd).l
  · rw [shown_len]
    have := Nat.mul_le_mul_right (n + 2) hk
    omega
theorem Sh.list {ds : List PyData} {n m k : Nat} (h : ∀ d ∈ ds, Sh d n m) (hk : ds.length ≤ k) : Sh (.list ds) (4 + k * (n + 2)) (m + 1) := by
  obtain ⟨h1, h2⟩ := show_all h
  refine ⟨by rw [PyData.showable]; exact h1, ?_, by rw [PyData.depth]; omega⟩
  rw [PyData.shown]
  refine Nat.le_trans (list_le (c := n) _ fun t ht => ?_) ?_
  · obtain ⟨d, hd, e⟩ := shown_mem ht
    rw [e]
    exact (h d hd).l
  · rw [shown_len]
    have := Nat.mul_le_mul_right (n + 2) hk
    omega
theorem Sh.int {i : Int} (h : i.natAbs < 10 ^ 30) : Sh (.int i) 40 0 := by
  refine ⟨?_, ?_, by rw [PyData.depth]; exact Nat.le_refl _⟩
  · rw [PyData.showable]
    refine decide_eq_true ?_
    by_cases h0 : i.natAbs = 0
    · rw [h0]
      decide
    · exact (Nat.log2_lt h0).mpr (Nat.lt_of_lt_of_le h (by decide +kernel))
  · rw [PyData.shown]
    show (Str.ofString (toString i)).length ≤ 40
    rw [PySem.ofString_length]
    have := int_text_length_le10 (k := 30) (by decide) h
    omega
theorem Sh.bool (b : Bool) : Sh (.bool b) 40 0 := by
  refine ⟨by rw [PyData.showable], ?_, by rw [PyData.depth]; exact Nat.le_refl _⟩
  rw [PyData.shown]
  cases b <;> decide
theorem Sh.none : Sh .none 40 0 := by
  refine ⟨by rw [PyData.showable], ?_, by rw [PyData.depth]; exact Nat.le_refl _⟩
  rw [PyData.shown]
  decide
theorem Sh.road {p : Int} {q : Road} (h : RoadOk p q) (hp : p ≤ 10) : Sh (dRoad q) 172 1 := by
  refine (Sh.tuple (n := 40) (m := 0) (k := 4) (fun d hd => ?_) (Nat.le_refl _)).mono (by decide) (Nat.le_refl _)
  have big : ∀ i : Int, 0 ≤ i → i ≤ 99 → Sh (.int i) 40 0 := fun i a b => Sh.int (Nat.lt_of_le_of_lt (show i.natAbs ≤ 99 by omega) (by decide +kernel))
  have o1 := h.o1
  have o2 := h.o2
  have t1 := h.t1
  have t2 := h.t2
  have c1 := h.c1
  simp only [List.mem_cons, List.not_mem_nil, or_false] at hd
  rcases hd with rfl | rfl | rfl | rfl
  · exact big _ h.o1 (by omega)
  · exact big _ h.t1 (by omega)
  · exact big _ (by omega) h.c2
  · exact big _ h.m1 h.m2
def dNet (p : Int) (rs : List Road) : PyData := .tuple [.int p, .tuple (rs.map dRoad)]
theorem Sh.net {p : Int} {rs : List Road} (h : NetOk p rs) : Sh (dNet p rs) 11000 3 := by
  have s1 : Sh (.tuple (rs.map dRoad)) (4 + 30 * (172 + 2)) 2 := Sh.tuple (n := 172) (m := 1) (k := 30) (fun d hd => by
    obtain ⟨q, hq, rfl⟩ := List.mem_map.mp hd
    exact Sh.road (h.all q hq) h.p2) (by rw [List.length_map]; exact h.len)
  have s2 : Sh (.int p) 40 0 := Sh.int (Nat.lt_of_le_of_lt (show p.natAbs ≤ 10 by have := h.p1; have := h.p2; omega) (by decide +kernel))
  refine (Sh.tuple (n := 4 + 30 * (172 + 2)) (m := 2) (k := 2) (fun d hd => ?_) (Nat.le_refl _)).mono (by decide) (Nat.le_refl _)
  simp only [List.mem_cons, List.not_mem_nil, or_false] at hd
  rcases hd with rfl | rfl
  · exact s2.mono (by decide) (by decide)
  · exact s1
/-! ### repr -/
inductive Dn (H : Hp) : V → PyData → Prop where
  | int (i : Int) : Dn H (.int i) (.int i)
  | tup {a : Addr} {xs : List V} {ds : List PyData} : H a = some (.tup xs) → Paired (Dn H) xs ds → Dn H (.ref a) (.tuple ds)
theorem net_reads {X : Cx} {pins : List (Addr × Obj)} {σ : L2.St} {H : Hp} {s : Shared} (I : Inv X pins σ H s) {a r : Addr} {ts : List Addr} {p : Int} {rs : List Road} (h : NetAt H a r ts p rs) : Reads s.heap (.ref a) (dNet p rs) [] := by
  obtain ⟨ea, er, et⟩ := h
  have rdInts : ∀ {ns : List Int} {us : List Value}, Vals (ns.map V.int) us → ReadsAll s.heap us (ns.map PyData.int) [] := by
    intro ns
    induction ns with
    | nil =>
      intro us r
      cases r
      exact .nil
    | cons n l ih =>
      intro us r
      cases r with
      | cons r1 r2 =>
        obtain ⟨t, rfl⟩ := r1
        exact ReadsAll.cons (as := []) (bs := []) (.int n t) (ih r2)
  have roads : ∀ {us : List Addr} {qs : List Road} {vs : List Value}, RoadsAt H us qs → Vals (us.map V.ref) vs → ReadsAll s.heap vs (qs.map dRoad) [] := by
    intro us qs vs h
    induction h generalizing vs with
    | nil =>
      intro r
      cases r
      exact .nil
    | @cons u q l l' e _ ih =>
      intro r
      cases r with
      | cons r1 r2 =>
        cases r1
        obtain ⟨its, rv, ⟨o, ho, hc, n, hd⟩, _⟩ := I.tuple (SqT.of (K := X.K) e)
        have hq : ReadsAll s.heap its [.int q.one, .int q.other, .int q.cost, .int q.time] [] := rdInts (ns := [q.one, q.other, q.cost, q.time]) rv
        exact ReadsAll.cons (as := []) (bs := []) (.tuple ho hc hd hq) (ih r2)
  obtain ⟨its, rv, ⟨o, ho, hc, n, hd⟩, _⟩ := I.tuple (SqT.of (K := X.K) ea)
  obtain ⟨its2, rv2, ⟨o2, ho2, hc2, n2, hd2⟩, _⟩ := I.tuple (SqT.of (K := X.K) er)
  refine .tuple ho hc hd ?_
  cases rv with
  | cons r1 r2 =>
    obtain ⟨t, rfl⟩ := r1
    cases r2 with
    | cons r3 r4 =>
      cases r3
      cases r4
      exact ReadsAll.cons (as := []) (bs := []) (.int p t) (ReadsAll.cons (as := []) (bs := []) (.tuple ho2 hc2 hd2 (roads et rv2)) .nil)
/-- the two dicts that the law hands in -/
inductive DictAt (H : Hp) (a : Addr) : List (PyData × PyData) → Prop where
  | nil : H a = some (.dK []) → DictAt H a []
  | one : H a = some (.dK [(Sum.inl 0, .int 1)]) → DictAt H a [(.int 0, .int 1)]
theorem dict_reads {X : Cx} {pins : List (Addr × Obj)} {σ : L2.St} {H : Hp} {s : Shared} (I : Inv X pins σ H s) {a : Addr} {kvs : List (PyData × PyData)} (h : DictAt H a kvs) : Reads s.heap (.ref a) (.dict kvs) [a] ∧ a ≠ sysModules := by
  cases h with
  | nil e =>
    obtain ⟨_, hs, vs, kv, o, es, ep, ho, hx, hd, _, hp, _⟩ := I.hok a _ e
    cases kv
    have he : es.toList = [] := by
      cases hes : es.toList with
      | nil => rfl
      | cons x l =>
        rw [hes] at hp
        cases hp
    refine ⟨?_, beq_eq_false_iff_ne.mp hs⟩
    have := Reads.dict (h := s.heap) (a := a) (es := es) (kvs := []) (as := []) (bs := []) ho hx.1 hd (by rw [he]; exact .nil) (by rw [he]; exact .nil)
    exact this
  | one e =>
    obtain ⟨_, hs, vs, kv, o, es, ep, ho, hx, hd, _, hp, _⟩ := I.hok a _ e
    cases kv with
    | @cons q0 q l1 l2 k1 k2 =>
      cases k2
      obtain ⟨ek, rv⟩ := k1
      obtain ⟨qk, qv⟩ := q
      obtain ⟨t, ev⟩ := rv
      have ek' : (Sum.inl 0 : Key) = qk := ek
      have ev' : qv = Value.int 1 t := ev
      cases hes : es.toList with
      | nil =>
        rw [hes] at hp
        cases hp
      | cons x r =>
        rw [hes] at hp
        cases hp with
        | cons h1 h2 h3 =>
          cases h3
          have h1' : keyIs qk x.key = true := h1
          rw [← ek'] at h1'
          obtain ⟨tk, hk⟩ : ∃ tk, x.key = .int 0 tk := by
            rcases keyIs_shape h1' with ⟨i, tk, e1, e2⟩ | ⟨y, tk, e1, e2⟩
            · cases e1
              exact ⟨tk, e2⟩
            · cases e1
          have hv : x.val = .int 1 t := h2.trans ev'
          refine ⟨?_, beq_eq_false_iff_ne.mp hs⟩
          have := Reads.dict (h := s.heap) (a := a) (es := es) (kvs := [(.int 0, .int 1)]) (as := []) (bs := []) ho hx.1 hd
            (by rw [hes]; show ReadsAll s.heap [x.key] [.int 0] []; rw [hk]; exact ReadsAll.cons (as := []) (bs := []) (.int 0 tk) .nil)
            (by rw [hes]; show ReadsAll s.heap [x.val] [.int 1] []; rw [hv]; exact ReadsAll.cons (as := []) (bs := []) (.int 1 t) .nil)
          exact this
/-- what repr is asked of -/
inductive Dr (K : PySem.W.Frag) (H : Hp) : V → PyData → Prop where
  | bl (b : Bool) : Dr K H (.bl b) (.bool b)
  | dp {a : Addr} {d : PyData} : Dp K H (.ref a) d → Dr K H (.ref a) d
  | dct {u a r b : Addr} {ts : List Addr} {p : Int} {rs : List Road} {kvs : List (PyData × PyData)} : H u = some (.tup [.ref a, .ref b]) → NetAt H a r ts p rs → DictAt H b kvs → Dr K H (.ref u) (.tuple [dNet p rs, .dict kvs])
def rRepr (K : PySem.W.Frag) : List V → Hp → VK → Prop := fun xs H Q => ∃ x d, xs = [x] ∧ Dr K H x d ∧ Sh d 30000 50 ∧ Q (.str d.shown) H
theorem call_reprD {X : Cx} (hg : X.A.guards = some []) (hu : X.A.units + 64 < cLine) : CallR X (.builtin "repr") (rRepr X.K) := by
  intro pins s σ H xs us Q I r h
  obtain ⟨x, d, rfl, hd, sh, q⟩ := h
  have fits : d.shown.length ≤ sizeLine := Nat.le_trans sh.l (by decide)
  have hk := sh.k
  cases r with
  | cons r1 r2 =>
    cases r2
    have go : ∀ {a : Addr} {as : List Addr}, Reads s.heap (.ref a) d as → (d.hasDict = true → sysModules ∉ as) → wpAny (model X.prog X.w) X.A (call (.builtin "repr") [.ref a]) (EP X pins σ Q) X.xe s := fun rd hs =>
      repr_of_reads' rd sh.s hs hg (by omega) (fun _ _ e => e) (fun h' u tk kept => ⟨.str d.shown, H, I.kept (t' := tk) kept, ⟨u, rfl⟩, q⟩) fits
    cases hd with
    | bl b =>
      cases r1
      refine PySem.P.repr_of_bool ⟨.str _, H, I.tok _, ⟨_, rfl⟩, ?_⟩
      rw [PyData.shown] at q
      cases b <;> exact q
    | dp hp =>
      cases r1
      obtain ⟨as, rd⟩ := Dp.reads I d _ _ hp rfl
      exact go rd (PyData.noDict_hsm (dp_plain hp))
    | dct hu' hn hb =>
      cases r1
      obtain ⟨hrd, hne⟩ := dict_reads I hb
      have hnr := net_reads I hn
      obtain ⟨its, rv, ⟨o, ho, hc, n, hdt⟩, _⟩ := I.tuple (SqT.of (K := X.K) hu')
      cases rv with
      | cons r3 r4 =>
        cases r4 with
        | cons r5 r6 =>
          cases r3
          cases r5
          cases r6
          refine go (.tuple ho hc hdt (ReadsAll.cons (as := []) hnr (ReadsAll.cons hrd .nil))) fun _ hm => ?_
          rcases List.mem_append.mp hm with z | z
          · cases z
          · rcases List.mem_append.mp z with z | z
            · exact hne (List.mem_singleton.mp z).symm
            · cases z
end Wy

namespace Wy
open PySem PySem.Spec PyProof.Rows L2
abbrev sOdd : Stmt := topS 50
/-! ### things -/
inductive At (H : Hp) : V → Prop where
  | int {i : Int} : i.natAbs < 10 ^ 30 → At H (.int i)
  | bl (b : Bool) : At H (.bl b)
  | non : At H .non
  | str {x : Str} : Sh (.str x) 40 0 → At H (.str x)
  | tup {a : Addr} {ns : List Int} : H a = some (.tup (ns.map V.int)) → ns.length ≤ 2 → (∀ n ∈ ns, n.natAbs < 10 ^ 30) → At H (.ref a)
theorem At.keep {H H' : Hp} {v : V} (h : At H v) (k : ∀ b xs, H b = some (.tup xs) → H' b = some (.tup xs)) : At H' v := by
  cases h with
  | int h => exact .int h
  | bl b => exact .bl b
  | non => exact .non
  | str h => exact .str h
  | tup e l a => exact .tup (k _ _ e) l a
theorem At.tg {H : Hp} {v : V} (h : At H v) : ∃ n, Tg H v n := by
  cases h with
  | int h => exact ⟨_, .int _⟩
  | bl b => exact ⟨_, .bl b⟩
  | non => exact ⟨_, .non⟩
  | str h => exact ⟨_, .str _⟩
  | tup e l a => exact ⟨_, .tup e⟩
theorem At.dp {K : PySem.W.Frag} {H : Hp} {v : V} (h : At H v) : ∃ d, Dp K H v d ∧ Sh d 100 1 := by
  cases h with
  | int h => exact ⟨_, .int _, (Sh.int h).mono (by decide) (by decide)⟩
  | bl b => exact ⟨_, .bl b, (Sh.bool b).mono (by decide) (by decide)⟩
  | non => exact ⟨_, .non, Sh.none.mono (by decide) (by decide)⟩
  | str h => exact ⟨_, .str _, h.mono (by decide) (by decide)⟩
  | @tup a ns e l al =>
    refine ⟨_, .tup (SqT.of e) (ints_dp ns), (Sh.tuple (n := 40) (m := 0) (k := 2) (fun d hd => ?_) (by rw [List.length_map]; exact l)).mono (by decide) (by decide)⟩
    obtain ⟨n, hn, rfl⟩ := List.mem_map.mp hd
    exact Sh.int (al n hn)
theorem ats_dp {K : PySem.W.Frag} {H : Hp} : ∀ {ys : List V}, (∀ y ∈ ys, At H y) → ∃ ds, DpAll K H ys ds ∧ (∀ d ∈ ds, Sh d 100 1) ∧ ds.length = ys.length
  | [], _ => ⟨[], .nil, (fun _ h => nomatch h), rfl⟩
  | y :: r, h => by
    obtain ⟨d, h1, h2⟩ := (h y List.mem_cons_self).dp (K := K)
    obtain ⟨ds, h3, h4, h5⟩ := ats_dp (K := K) fun u hu => h u (List.mem_cons_of_mem _ hu)
    refine ⟨d :: ds, .cons h1 h3, fun x hx => ?_, by rw [List.length_cons, List.length_cons, h5]⟩
    rcases List.mem_cons.mp hx with e | e
    · rw [e]
      exact h2
    · exact h4 x e
def Thing (K : PySem.W.Frag) (H : Hp) (v : V) : Prop := ∃ o, Wh H v o ∧ ((∃ d, Dp K H v d ∧ Sh d 9000 10) ∨ ∃ a kvs, v = .ref a ∧ DictAt H a kvs)
def ThingS (z : Addr) (K : PySem.W.Frag) (H : Hp) (v : V) : Prop := ∀ H', Keep z H H' → Thing K H' v
theorem ThingS.keep {z : Addr} {K : PySem.W.Frag} {H H' : Hp} {v : V} (h : ThingS z K H v) (k : Keep z H H') : ThingS z K H' v := fun _ k' => h _ (k.trans k')
theorem ThingS.now {z : Addr} {K : PySem.W.Frag} {H : Hp} {v : V} (h : ThingS z K H v) : Thing K H v := h _ (Keep.refl _ _)
theorem thing_tup {K : PySem.W.Frag} {H : Hp} {b : Addr} {ys : List V} (e : H b = some (.tup ys)) (a : ∀ y ∈ ys, At H y) (l : ys.length ≤ 40) : Thing K H (.ref b) := by
  obtain ⟨ds, h1, h2, h3⟩ := ats_dp (K := K) a
  refine ⟨_, .tup e (fun y hy => (a y hy).tg) (by omega), .inl ⟨_, .tup (SqT.of e) h1, (Sh.tuple h2 (by omega : ds.length ≤ 40)).mono (by decide) (by decide)⟩⟩
theorem thing_lst {K : PySem.W.Frag} {H : Hp} {b : Addr} {ys : List V} (e : H b = some (.lst ys)) (a : ∀ y ∈ ys, At H y) (l : ys.length ≤ 40) : Thing K H (.ref b) := by
  obtain ⟨ds, h1, h2, h3⟩ := ats_dp (K := K) a
  exact ⟨_, .oth (.lst e) rfl, .inl ⟨_, .lst (SqL.of e) h1, (Sh.list h2 (by omega : ds.length ≤ 40)).mono (by decide) (by decide)⟩⟩
theorem thing_flat {K : PySem.W.Frag} {H : Hp} {v : V} (h : At H v) (n : ∀ a, v ≠ .ref a) : Thing K H v := by
  obtain ⟨d, h1, h2⟩ := h.dp (K := K)
  refine ⟨none, ?_, .inl ⟨d, h1, h2.mono (by decide) (by decide)⟩⟩
  cases h with
  | int h => exact .oth (.int _) rfl
  | bl b => exact .oth (.bl b) rfl
  | non => exact .oth .non rfl
  | str h => exact .oth (.str _) rfl
  | tup e l a => exact absurd rfl (n _)
theorem thingS_flat {z : Addr} {K : PySem.W.Frag} {H : Hp} {v : V} (h : At (fun _ => none) v) (n : ∀ a, v ≠ .ref a) : ThingS z K H v := fun H' _ => thing_flat (h.keep fun _ _ e => nomatch e) n
theorem thingS_tup {z : Addr} {K : PySem.W.Frag} {H : Hp} {b : Addr} {ys : List V} (s : StOk H z) (e : H b = some (.tup ys)) (a : ∀ y ∈ ys, At H y) (l : ys.length ≤ 40) : ThingS z K H (.ref b) := fun H' k =>
  thing_tup (k.tups s _ _ e) (fun y hy => (a y hy).keep (k.tups s)) l
theorem thingS_lst {z : Addr} {K : PySem.W.Frag} {H : Hp} {b : Addr} {ys : List V} (s : StOk H z) (e : H b = some (.lst ys)) (n : b ≠ z) (a : ∀ y ∈ ys, At H y) (l : ys.length ≤ 40) : ThingS z K H (.ref b) := fun H' k =>
  thing_lst (k _ _ e n) (fun y hy => (a y hy).keep (k.tups s)) l
theorem StOk.neD {H : Hp} {z b : Addr} {xs : List (Key × V)} (s : StOk H z) (h : H b = some (.dK xs)) : b ≠ z := let ⟨_, _, e, _⟩ := s; ne_of h e (fun q => nomatch q)
theorem thingS_dct {z : Addr} {K : PySem.W.Frag} {H : Hp} {b : Addr} {xs : List (Key × V)} {kvs : List (PyData × PyData)} (s : StOk H z) (e : H b = some (.dK xs)) (d : ∀ G : Hp, G b = some (.dK xs) → DictAt G b kvs) : ThingS z K H (.ref b) := fun H' k =>
  ⟨none, .oth (.dct (k _ _ e (s.neD e))) rfl, .inr ⟨b, kvs, rfl, d _ (k _ _ e (s.neD e))⟩⟩
/-- what was new behind H0, and tuples, stay -/
def KeepX (H0 : Hp) (z : Addr) (H G : Hp) : Prop := ∀ b o, H b = some o → b ≠ z → (H0 b = none ∨ ∃ xs, o = .tup xs) → G b = some o
def ThingX (H0 : Hp) (z : Addr) (K : PySem.W.Frag) (H : Hp) (v : V) : Prop := ∀ G, KeepX H0 z H G → Thing K G v
theorem KeepX.tups {H0 H G : Hp} {z : Addr} (k : KeepX H0 z H G) (s : StOk H z) : ∀ b xs, H b = some (.tup xs) → G b = some (.tup xs) := fun b xs e => k b _ e (s.neT e) (.inr ⟨xs, rfl⟩)
theorem ThingX.st {H0 H : Hp} {z : Addr} {K : PySem.W.Frag} {v : V} (h : ThingX H0 z K H v) : ThingS z K H v := fun G k => h G fun b o e n _ => k b o e n
theorem thingX_flat {H0 H : Hp} {z : Addr} {K : PySem.W.Frag} {v : V} (h : At (fun _ => none) v) (n : ∀ a, v ≠ .ref a) : ThingX H0 z K H v := fun G _ => thing_flat (h.keep fun _ _ e => nomatch e) n
theorem thingX_tup {H0 H : Hp} {z b : Addr} {K : PySem.W.Frag} {ys : List V} (s : StOk H z) (e : H b = some (.tup ys)) (a : ∀ y ∈ ys, At H y) (l : ys.length ≤ 40) : ThingX H0 z K H (.ref b) := fun G k =>
  thing_tup (k.tups s _ _ e) (fun y hy => (a y hy).keep (k.tups s)) l
theorem thingX_lst {H0 H : Hp} {z b : Addr} {K : PySem.W.Frag} {ys : List V} (s : StOk H z) (e : H b = some (.lst ys)) (n : b ≠ z) (n0 : H0 b = none) (a : ∀ y ∈ ys, At H y) (l : ys.length ≤ 40) : ThingX H0 z K H (.ref b) := fun G k =>
  thing_lst (k _ _ e n (.inl n0)) (fun y hy => (a y hy).keep (k.tups s)) l
theorem thingX_dct {H0 H : Hp} {z b : Addr} {K : PySem.W.Frag} {xs : List (Key × V)} {kvs : List (PyData × PyData)} (s : StOk H z) (e : H b = some (.dK xs)) (n0 : H0 b = none) (d : ∀ G : Hp, G b = some (.dK xs) → DictAt G b kvs) : ThingX H0 z K H (.ref b) := fun G k =>
  ⟨none, .oth (.dct (k _ _ e (s.neD e) (.inl n0))) rfl, .inr ⟨b, kvs, rfl, d _ (k _ _ e (s.neD e) (.inl n0))⟩⟩
theorem sh_text {x : Str} (h : (reprText x).length ≤ 40) : Sh (.str x) 40 0 := ⟨by rw [PyData.showable], by rw [PyData.shown]; exact h, by rw [PyData.depth]; exact Nat.le_refl _⟩
theorem small_of {i : Int} (h : i.natAbs ≤ 1000) : i.natAbs < 10 ^ 30 := Nat.lt_of_le_of_lt h (by decide +kernel)
theorem all1 {H : Hp} {x : V} (h : At H x) : ∀ y ∈ [x], At H y := fun y hy => by
  rw [List.mem_singleton.mp hy]
  exact h
theorem all2 {H : Hp} {x u : V} (h : At H x) (h2 : At H u) : ∀ y ∈ [x, u], At H y := fun y hy => by
  rcases List.mem_cons.mp hy with e | e
  · rw [e]
    exact h
  · rw [List.mem_singleton.mp e]
    exact h2
section
variable {P : Program} {w : World} {K : PySem.W.Frag} {mg : Str → Option Value} {base : Heap}
theorem scOdd : FnScope ["_law_state_here", "_law_some"] ["_law_state_here"] (defScope sOdd) := ⟨rfl, rfl, rfl, by decide +kernel, rfl, by decide +kernel, by decide +kernel⟩
def spOdd (K : PySem.W.Frag) : Sp := fun vs H Q _ => ∃ z : Addr, vs = [.ref z] ∧ StOk H z ∧ ∀ H' v, Keep z H H' → StOk H' z → ThingX H z K H' v → Q v H'
theorem ok_odd {f fK : Addr} {fd dK : FuncData} {k : Nat} (DK : Df K mg "_law_take" sTake ["_law_state_here", "_law_much"] fK dK)
    (D : Df K mg "_law_odd" sOdd ["_law_state_here"] f fd) : FnOk P w K mg base CX0 (k + 2) f fd ["_law_state_here"] (spOdd K) := by
  have GK : FnOk P w K mg base CX0 (k + 1) fK dK ["_law_state_here", "_law_much"] spTake := ok_take DK
  refine D.F.ok scOdd (fun vs H Q E h => ?_) (fun cdv A outer s H vs Q E hr h => ?_)
  · obtain ⟨_, rfl, _⟩ := h
    rfl
  · obtain ⟨z, rfl, st, q⟩ := h
    refine ⟨_, (pss_cons (ps_set (i := 1) scOdd.nd rfl (.inl rfl) (pe_lst (pa_cons pe_non (pa_cons pe_bl (pa_cons pe_bl (pa_cons pe_int (pa_cons pe_int (pa_cons (pe_un un_neg pe_int) (pa_cons pe_int (pa_cons pe_int (pa_cons (pe_op op_pow pe_int pe_int) (pa_cons pe_str (pa_cons pe_str (pa_cons pe_str (pa_cons (pe_tup pa_nil) (pa_cons (pe_lst pa_nil) (pa_cons pe_dnewK (pa_cons (pe_tup (pa_cons pe_int pa_nil)) (pa_cons (pe_lst (pa_cons pe_int pa_nil)) (pa_cons (pe_tup (pa_cons pe_int (pa_cons pe_int pa_nil))) (pa_cons (pe_tup (pa_cons pe_bl pa_nil)) pa_nil)))))))))))))))))))))
    (pss_one (ps_ret (pe_ix ix_list (pe_op op_cat (pv 1) (pe_lst (pa_cons (pe_tup (pa_cons (pe_tup pa_nil) pa_nil)) (pa_cons (pe_disp (pps_cons pe_int pe_int pps_nil) (by rfl) (by rfl) (fun z => by cases z) (by decide)) (pa_cons (pe_tup (pa_cons pe_int (pa_cons (pe_tup pa_nil) pa_nil))) (pa_cons (pe_lst (pa_cons pe_int (pa_cons (pe_tup pa_nil) pa_nil))) (pa_cons (pe_tup (pa_cons pe_non (pa_cons pe_int pa_nil))) (pa_cons (pe_tup (pa_cons pe_str pa_nil)) (pa_cons (pe_tup (pa_cons (pe_tup (pa_cons pe_int (pa_cons pe_int pa_nil))) pa_nil)) pa_nil))))))))) (pe_call GK hr (by rfl) DK.g DK.F.kp DK.b .nil pass0 (pa_cons (pv 0) (pa_cons pe_int pa_nil))) (fun _ _ => rfl))))), ?_⟩
    refine ⟨1, rfl, 10, 29, rfl, rfl, ⟨by decide, by decide, by decide⟩, Nat.zero_le _, fun a1 n1 => ⟨Nat.zero_le _, fun a2 n2 => fun a3 n3 => ⟨by show 1 ≤ sizeLine; decide, fun a4 n4 => ⟨by show 1 ≤ sizeLine; decide, fun a5 n5 => ⟨by show 2 ≤ sizeLine; decide, fun a6 n6 => ⟨by show 1 ≤ sizeLine; decide, fun a7 n7 => ⟨by show 19 ≤ sizeLine; decide, fun L nL => ?_⟩⟩⟩⟩⟩⟩⟩
    refine ⟨.ref L, rfl, Nat.zero_le _, fun b1 m1 => ⟨by show 1 ≤ sizeLine; decide, fun b2 m2 => fun b3 m3 => ?_⟩⟩
    refine ⟨upd_same, [(Sum.inl 0, .int 1)], rfl, by decide, ?_⟩
    refine ⟨Nat.zero_le _, fun b4 m4 => ⟨by show 2 ≤ sizeLine; decide, fun b5 m5 => ⟨Nat.zero_le _, fun b6 m6 => ⟨by show 2 ≤ sizeLine; decide, fun b7 m7 => ⟨by show 2 ≤ sizeLine; decide, fun b8 m8 => ⟨by show 1 ≤ sizeLine; decide, fun b9 m9 => ⟨by show 2 ≤ sizeLine; decide, fun b10 m10 => ⟨by show 1 ≤ sizeLine; decide, fun b11 m11 => ⟨by show 7 ≤ sizeLine; decide, fun M nM => ?_⟩⟩⟩⟩⟩⟩⟩⟩⟩
    refine ⟨L, M, [.non, .bl true, .bl false, .int 0, .int 1, .int (-1), .int 99, .int 100, .int (10 ^ 29), .str "", .str "0", .str "roads", .ref a1, .ref a2, .ref a3, .ref a4, .ref a5, .ref a6, .ref a7], [.ref b2, .ref b3, .ref b5, .ref b7, .ref b8, .ref b9, .ref b11], rfl, rfl, (same_new nM _ _ (same_new m11 _ _ (same_new m10 _ _ (same_new m9 _ _ (same_new m8 _ _ (same_new m7 _ _ (same_new m6 _ _ (same_new m5 _ _ (same_new m4 _ _ (Same.upd_lst (same_new m3) m3 _ _ (same_new m2 _ _ (same_new m1 _ _ upd_same)))))))))))), upd_same, by show 26 ≤ sizeLine; decide, fun W nW => ?_⟩
    obtain ⟨sx, sy, ez, sr⟩ := id st
    have zW : z ≠ W := ne_of_none (same_new nM _ _ (same_new m11 _ _ (same_new m10 _ _ (same_new m9 _ _ (same_new m8 _ _ (same_new m7 _ _ (same_new m6 _ _ (same_new m5 _ _ (same_new m4 _ _ (Same.upd_lst (same_new m3) m3 _ _ (same_new m2 _ _ (same_new m1 _ _ (same_new nL _ _ (same_new n7 _ _ (same_new n6 _ _ (same_new n5 _ _ (same_new n4 _ _ (same_new n3 _ _ (same_new n2 _ _ (same_new n1 _ _ ez)))))))))))))))))))) nW
    refine ⟨.ref z, rfl, z, 26, rfl, ⟨sx, sy, (same_new nW _ _ (same_new nM _ _ (same_new m11 _ _ (same_new m10 _ _ (same_new m9 _ _ (same_new m8 _ _ (same_new m7 _ _ (same_new m6 _ _ (same_new m5 _ _ (same_new m4 _ _ (Same.upd_lst (same_new m3) m3 _ _ (same_new m2 _ _ (same_new m1 _ _ (same_new nL _ _ (same_new n7 _ _ (same_new n6 _ _ (same_new n5 _ _ (same_new n4 _ _ (same_new n3 _ _ (same_new n2 _ _ (same_new n1 _ _ ez))))))))))))))))))))), sr⟩, by decide, by decide, fun H' n k' st' u0 u1 => ?_⟩
    obtain ⟨v, hv, ev⟩ := pick (xs := [V.non, .bl true, .bl false, .int 0, .int 1, .int (-1), .int 99, .int 100, .int (10 ^ 29), .str "", .str "0", .str "roads", .ref a1, .ref a2, .ref a3, .ref a4, .ref a5, .ref a6, .ref a7] ++ [V.ref b2, .ref b3, .ref b5, .ref b7, .ref b8, .ref b9, .ref b11]) u0 (show n < 26 from u1)
    refine ⟨W, _, n, v, rfl, rfl, SqL.of (k' _ _ upd_same zW.symm), ev, ?_⟩
    have kk : Keep z H H' := fun b o hb hz => k' b o (same_new nW _ _ (same_new nM _ _ (same_new m11 _ _ (same_new m10 _ _ (same_new m9 _ _ (same_new m8 _ _ (same_new m7 _ _ (same_new m6 _ _ (same_new m5 _ _ (same_new m4 _ _ (Same.upd_lst (same_new m3) m3 _ _ (same_new m2 _ _ (same_new m1 _ _ (same_new nL _ _ (same_new n7 _ _ (same_new n6 _ _ (same_new n5 _ _ (same_new n4 _ _ (same_new n3 _ _ (same_new n2 _ _ (same_new n1 _ _ hb))))))))))))))))))))) hz
    have fra2 : H a2 = none := Same.free (H := H) (l := a2) (fun b o e => (same_new n1 _ _ e)) n2
    have fra3 : H a3 = none := Same.free (H := H) (l := a3) (fun b o e => (same_new n2 _ _ (same_new n1 _ _ e))) n3
    have fra5 : H a5 = none := Same.free (H := H) (l := a5) (fun b o e => (same_new n4 _ _ (same_new n3 _ _ (same_new n2 _ _ (same_new n1 _ _ e))))) n5
    have frb3 : H b3 = none := Same.free (H := H) (l := b3) (fun b o e => (same_new m2 _ _ (same_new m1 _ _ (same_new nL _ _ (same_new n7 _ _ (same_new n6 _ _ (same_new n5 _ _ (same_new n4 _ _ (same_new n3 _ _ (same_new n2 _ _ (same_new n1 _ _ e))))))))))) m3
    have frb7 : H b7 = none := Same.free (H := H) (l := b7) (fun b o e => (same_new m6 _ _ (same_new m5 _ _ (same_new m4 _ _ (Same.upd_lst (same_new m3) m3 _ _ (same_new m2 _ _ (same_new m1 _ _ (same_new nL _ _ (same_new n7 _ _ (same_new n6 _ _ (same_new n5 _ _ (same_new n4 _ _ (same_new n3 _ _ (same_new n2 _ _ (same_new n1 _ _ e))))))))))))))) m7
    have za1 : z ≠ a1 := ne_of_none ez n1
    have ea1 : H' a1 = some (.tup []) := k' _ _ (same_new nW _ _ (same_new nM _ _ (same_new m11 _ _ (same_new m10 _ _ (same_new m9 _ _ (same_new m8 _ _ (same_new m7 _ _ (same_new m6 _ _ (same_new m5 _ _ (same_new m4 _ _ (Same.upd_lst (same_new m3) m3 _ _ (same_new m2 _ _ (same_new m1 _ _ (same_new nL _ _ (same_new n7 _ _ (same_new n6 _ _ (same_new n5 _ _ (same_new n4 _ _ (same_new n3 _ _ (same_new n2 _ _ upd_same)))))))))))))))))))) za1.symm
    have za2 : z ≠ a2 := ne_of_none (same_new n1 _ _ ez) n2
    have ea2 : H' a2 = some (.lst []) := k' _ _ (same_new nW _ _ (same_new nM _ _ (same_new m11 _ _ (same_new m10 _ _ (same_new m9 _ _ (same_new m8 _ _ (same_new m7 _ _ (same_new m6 _ _ (same_new m5 _ _ (same_new m4 _ _ (Same.upd_lst (same_new m3) m3 _ _ (same_new m2 _ _ (same_new m1 _ _ (same_new nL _ _ (same_new n7 _ _ (same_new n6 _ _ (same_new n5 _ _ (same_new n4 _ _ (same_new n3 _ _ upd_same))))))))))))))))))) za2.symm
    have za3 : z ≠ a3 := ne_of_none (same_new n2 _ _ (same_new n1 _ _ ez)) n3
    have ea3 : H' a3 = some (.dK []) := k' _ _ (same_new nW _ _ (same_new nM _ _ (same_new m11 _ _ (same_new m10 _ _ (same_new m9 _ _ (same_new m8 _ _ (same_new m7 _ _ (same_new m6 _ _ (same_new m5 _ _ (same_new m4 _ _ (Same.upd_lst (same_new m3) m3 _ _ (same_new m2 _ _ (same_new m1 _ _ (same_new nL _ _ (same_new n7 _ _ (same_new n6 _ _ (same_new n5 _ _ (same_new n4 _ _ upd_same)))))))))))))))))) za3.symm
    have za4 : z ≠ a4 := ne_of_none (same_new n3 _ _ (same_new n2 _ _ (same_new n1 _ _ ez))) n4
    have ea4 : H' a4 = some (.tup [.int 0]) := k' _ _ (same_new nW _ _ (same_new nM _ _ (same_new m11 _ _ (same_new m10 _ _ (same_new m9 _ _ (same_new m8 _ _ (same_new m7 _ _ (same_new m6 _ _ (same_new m5 _ _ (same_new m4 _ _ (Same.upd_lst (same_new m3) m3 _ _ (same_new m2 _ _ (same_new m1 _ _ (same_new nL _ _ (same_new n7 _ _ (same_new n6 _ _ (same_new n5 _ _ upd_same))))))))))))))))) za4.symm
    have za5 : z ≠ a5 := ne_of_none (same_new n4 _ _ (same_new n3 _ _ (same_new n2 _ _ (same_new n1 _ _ ez)))) n5
    have ea5 : H' a5 = some (.lst [.int 0]) := k' _ _ (same_new nW _ _ (same_new nM _ _ (same_new m11 _ _ (same_new m10 _ _ (same_new m9 _ _ (same_new m8 _ _ (same_new m7 _ _ (same_new m6 _ _ (same_new m5 _ _ (same_new m4 _ _ (Same.upd_lst (same_new m3) m3 _ _ (same_new m2 _ _ (same_new m1 _ _ (same_new nL _ _ (same_new n7 _ _ (same_new n6 _ _ upd_same)))))))))))))))) za5.symm
    have za6 : z ≠ a6 := ne_of_none (same_new n5 _ _ (same_new n4 _ _ (same_new n3 _ _ (same_new n2 _ _ (same_new n1 _ _ ez))))) n6
    have ea6 : H' a6 = some (.tup [.int 0, .int 1]) := k' _ _ (same_new nW _ _ (same_new nM _ _ (same_new m11 _ _ (same_new m10 _ _ (same_new m9 _ _ (same_new m8 _ _ (same_new m7 _ _ (same_new m6 _ _ (same_new m5 _ _ (same_new m4 _ _ (Same.upd_lst (same_new m3) m3 _ _ (same_new m2 _ _ (same_new m1 _ _ (same_new nL _ _ (same_new n7 _ _ upd_same))))))))))))))) za6.symm
    have za7 : z ≠ a7 := ne_of_none (same_new n6 _ _ (same_new n5 _ _ (same_new n4 _ _ (same_new n3 _ _ (same_new n2 _ _ (same_new n1 _ _ ez)))))) n7
    have ea7 : H' a7 = some (.tup [.bl true]) := k' _ _ (same_new nW _ _ (same_new nM _ _ (same_new m11 _ _ (same_new m10 _ _ (same_new m9 _ _ (same_new m8 _ _ (same_new m7 _ _ (same_new m6 _ _ (same_new m5 _ _ (same_new m4 _ _ (Same.upd_lst (same_new m3) m3 _ _ (same_new m2 _ _ (same_new m1 _ _ (same_new nL _ _ upd_same)))))))))))))) za7.symm
    have zb1 : z ≠ b1 := ne_of_none (same_new nL _ _ (same_new n7 _ _ (same_new n6 _ _ (same_new n5 _ _ (same_new n4 _ _ (same_new n3 _ _ (same_new n2 _ _ (same_new n1 _ _ ez)))))))) m1
    have eb1 : H' b1 = some (.tup []) := k' _ _ (same_new nW _ _ (same_new nM _ _ (same_new m11 _ _ (same_new m10 _ _ (same_new m9 _ _ (same_new m8 _ _ (same_new m7 _ _ (same_new m6 _ _ (same_new m5 _ _ (same_new m4 _ _ (Same.upd_lst (same_new m3) m3 _ _ (same_new m2 _ _ upd_same)))))))))))) zb1.symm
    have zb2 : z ≠ b2 := ne_of_none (same_new m1 _ _ (same_new nL _ _ (same_new n7 _ _ (same_new n6 _ _ (same_new n5 _ _ (same_new n4 _ _ (same_new n3 _ _ (same_new n2 _ _ (same_new n1 _ _ ez))))))))) m2
    have eb2 : H' b2 = some (.tup [.ref b1]) := k' _ _ (same_new nW _ _ (same_new nM _ _ (same_new m11 _ _ (same_new m10 _ _ (same_new m9 _ _ (same_new m8 _ _ (same_new m7 _ _ (same_new m6 _ _ (same_new m5 _ _ (same_new m4 _ _ (Same.upd_lst (same_new m3) m3 _ _ upd_same))))))))))) zb2.symm
    have zb3 : z ≠ b3 := ne_of_none (same_new m2 _ _ (same_new m1 _ _ (same_new nL _ _ (same_new n7 _ _ (same_new n6 _ _ (same_new n5 _ _ (same_new n4 _ _ (same_new n3 _ _ (same_new n2 _ _ (same_new n1 _ _ ez)))))))))) m3
    have eb3 : H' b3 = some (.dK [(Sum.inl 0, .int 1)]) := k' _ _ (same_new nW _ _ (same_new nM _ _ (same_new m11 _ _ (same_new m10 _ _ (same_new m9 _ _ (same_new m8 _ _ (same_new m7 _ _ (same_new m6 _ _ (same_new m5 _ _ (same_new m4 _ _ upd_same)))))))))) zb3.symm
    have zb4 : z ≠ b4 := ne_of_none (Same.upd_lst (same_new m3) m3 _ _ (same_new m2 _ _ (same_new m1 _ _ (same_new nL _ _ (same_new n7 _ _ (same_new n6 _ _ (same_new n5 _ _ (same_new n4 _ _ (same_new n3 _ _ (same_new n2 _ _ (same_new n1 _ _ ez))))))))))) m4
    have eb4 : H' b4 = some (.tup []) := k' _ _ (same_new nW _ _ (same_new nM _ _ (same_new m11 _ _ (same_new m10 _ _ (same_new m9 _ _ (same_new m8 _ _ (same_new m7 _ _ (same_new m6 _ _ (same_new m5 _ _ upd_same))))))))) zb4.symm
    have zb5 : z ≠ b5 := ne_of_none (same_new m4 _ _ (Same.upd_lst (same_new m3) m3 _ _ (same_new m2 _ _ (same_new m1 _ _ (same_new nL _ _ (same_new n7 _ _ (same_new n6 _ _ (same_new n5 _ _ (same_new n4 _ _ (same_new n3 _ _ (same_new n2 _ _ (same_new n1 _ _ ez)))))))))))) m5
    have eb5 : H' b5 = some (.tup [.int 1, .ref b4]) := k' _ _ (same_new nW _ _ (same_new nM _ _ (same_new m11 _ _ (same_new m10 _ _ (same_new m9 _ _ (same_new m8 _ _ (same_new m7 _ _ (same_new m6 _ _ upd_same)))))))) zb5.symm
    have zb6 : z ≠ b6 := ne_of_none (same_new m5 _ _ (same_new m4 _ _ (Same.upd_lst (same_new m3) m3 _ _ (same_new m2 _ _ (same_new m1 _ _ (same_new nL _ _ (same_new n7 _ _ (same_new n6 _ _ (same_new n5 _ _ (same_new n4 _ _ (same_new n3 _ _ (same_new n2 _ _ (same_new n1 _ _ ez))))))))))))) m6
    have eb6 : H' b6 = some (.tup []) := k' _ _ (same_new nW _ _ (same_new nM _ _ (same_new m11 _ _ (same_new m10 _ _ (same_new m9 _ _ (same_new m8 _ _ (same_new m7 _ _ upd_same))))))) zb6.symm
    have zb7 : z ≠ b7 := ne_of_none (same_new m6 _ _ (same_new m5 _ _ (same_new m4 _ _ (Same.upd_lst (same_new m3) m3 _ _ (same_new m2 _ _ (same_new m1 _ _ (same_new nL _ _ (same_new n7 _ _ (same_new n6 _ _ (same_new n5 _ _ (same_new n4 _ _ (same_new n3 _ _ (same_new n2 _ _ (same_new n1 _ _ ez)))))))))))))) m7
    have eb7 : H' b7 = some (.lst [.int 1, .ref b6]) := k' _ _ (same_new nW _ _ (same_new nM _ _ (same_new m11 _ _ (same_new m10 _ _ (same_new m9 _ _ (same_new m8 _ _ upd_same)))))) zb7.symm
    have zb8 : z ≠ b8 := ne_of_none (same_new m7 _ _ (same_new m6 _ _ (same_new m5 _ _ (same_new m4 _ _ (Same.upd_lst (same_new m3) m3 _ _ (same_new m2 _ _ (same_new m1 _ _ (same_new nL _ _ (same_new n7 _ _ (same_new n6 _ _ (same_new n5 _ _ (same_new n4 _ _ (same_new n3 _ _ (same_new n2 _ _ (same_new n1 _ _ ez))))))))))))))) m8
    have eb8 : H' b8 = some (.tup [.non, .int 0]) := k' _ _ (same_new nW _ _ (same_new nM _ _ (same_new m11 _ _ (same_new m10 _ _ (same_new m9 _ _ upd_same))))) zb8.symm
    have zb9 : z ≠ b9 := ne_of_none (same_new m8 _ _ (same_new m7 _ _ (same_new m6 _ _ (same_new m5 _ _ (same_new m4 _ _ (Same.upd_lst (same_new m3) m3 _ _ (same_new m2 _ _ (same_new m1 _ _ (same_new nL _ _ (same_new n7 _ _ (same_new n6 _ _ (same_new n5 _ _ (same_new n4 _ _ (same_new n3 _ _ (same_new n2 _ _ (same_new n1 _ _ ez)))))))))))))))) m9
    have eb9 : H' b9 = some (.tup [.str "bound"]) := k' _ _ (same_new nW _ _ (same_new nM _ _ (same_new m11 _ _ (same_new m10 _ _ upd_same)))) zb9.symm
    have zb10 : z ≠ b10 := ne_of_none (same_new m9 _ _ (same_new m8 _ _ (same_new m7 _ _ (same_new m6 _ _ (same_new m5 _ _ (same_new m4 _ _ (Same.upd_lst (same_new m3) m3 _ _ (same_new m2 _ _ (same_new m1 _ _ (same_new nL _ _ (same_new n7 _ _ (same_new n6 _ _ (same_new n5 _ _ (same_new n4 _ _ (same_new n3 _ _ (same_new n2 _ _ (same_new n1 _ _ ez))))))))))))))))) m10
    have eb10 : H' b10 = some (.tup [.int 0, .int 1]) := k' _ _ (same_new nW _ _ (same_new nM _ _ (same_new m11 _ _ upd_same))) zb10.symm
    have zb11 : z ≠ b11 := ne_of_none (same_new m10 _ _ (same_new m9 _ _ (same_new m8 _ _ (same_new m7 _ _ (same_new m6 _ _ (same_new m5 _ _ (same_new m4 _ _ (Same.upd_lst (same_new m3) m3 _ _ (same_new m2 _ _ (same_new m1 _ _ (same_new nL _ _ (same_new n7 _ _ (same_new n6 _ _ (same_new n5 _ _ (same_new n4 _ _ (same_new n3 _ _ (same_new n2 _ _ (same_new n1 _ _ ez)))))))))))))))))) m11
    have eb11 : H' b11 = some (.tup [.ref b10]) := k' _ _ (same_new nW _ _ (same_new nM _ _ upd_same)) zb11.symm
    refine q H' v kk st' ?_
    have in0 : At H' (.int 0) := .int (small_of (by decide))
    have in1 : At H' (.int 1) := .int (small_of (by decide))
    have em : ∀ {b : Addr}, H' b = some (.tup []) → At H' (.ref b) := fun e => .tup (ns := []) e (by decide) (fun _ h => nomatch h)
    have flat : ∀ {u : V}, At (fun _ => none) u → (∀ a, u ≠ .ref a) → ThingX H z K H' u := fun h n => thingX_flat h n
    have num : ∀ i : Int, i.natAbs < 10 ^ 30 → ThingX H z K H' (.int i) := fun i h => flat (.int h) (fun _ q => nomatch q)
    simp only [List.cons_append, List.nil_append, List.mem_cons, List.not_mem_nil, or_false] at hv
    rcases hv with rfl | rfl | rfl | rfl | rfl | rfl | rfl | rfl | rfl | rfl | rfl | rfl | rfl | rfl | rfl | rfl | rfl | rfl | rfl | rfl | rfl | rfl | rfl | rfl | rfl | rfl
    · exact flat .non (fun _ q => nomatch q)
    · exact flat (.bl _) (fun _ q => nomatch q)
    · exact flat (.bl _) (fun _ q => nomatch q)
    · exact num _ (by decide +kernel)
    · exact num _ (by decide +kernel)
    · exact num _ (by decide +kernel)
    · exact num _ (by decide +kernel)
    · exact num _ (by decide +kernel)
    · exact num _ (by decide +kernel)
    · exact flat (.str (sh_text (by decide +kernel))) (fun _ q => nomatch q)
    · exact flat (.str (sh_text (by decide +kernel))) (fun _ q => nomatch q)
    · exact flat (.str (sh_text (by decide +kernel))) (fun _ q => nomatch q)
    · exact thingX_tup st' ea1 (fun _ h => nomatch h) (by decide)
    · exact thingX_lst st' ea2 za2.symm fra2 (fun _ h => nomatch h) (by decide)
    · exact thingX_dct (kvs := []) st' ea3 fra3 (fun G e => .nil e)
    · exact thingX_tup st' ea4 (all1 in0) (by decide : 1 ≤ 40)
    · exact thingX_lst st' ea5 za5.symm fra5 (all1 in0) (by decide : 1 ≤ 40)
    · exact thingX_tup st' ea6 (all2 in0 in1) (by decide : 2 ≤ 40)
    · exact thingX_tup st' ea7 (all1 (.bl _)) (by decide : 1 ≤ 40)
    · exact thingX_tup st' eb2 (all1 (em eb1)) (by decide : 1 ≤ 40)
    · exact thingX_dct (kvs := [(.int 0, .int 1)]) st' eb3 frb3 (fun G e => .one e)
    · exact thingX_tup st' eb5 (all2 in1 (em eb4)) (by decide : 2 ≤ 40)
    · exact thingX_lst st' eb7 zb7.symm frb7 (all2 in1 (em eb6)) (by decide : 2 ≤ 40)
    · exact thingX_tup st' eb8 (all2 .non in0) (by decide : 2 ≤ 40)
    · exact thingX_tup st' eb9 (all1 (.str (sh_text (by decide +kernel)))) (by decide : 1 ≤ 40)
    · exact thingX_tup st' eb11 (all1 (.tup (ns := [0, 1]) eb10 (by decide) (fun n hn => by
        rcases List.mem_cons.mp hn with e | e
        · rw [e]
          decide +kernel
        · rw [List.mem_singleton.mp e]
          decide +kernel))) (by decide : 1 ≤ 40)
end
end Wy

namespace Wy
open PySem PySem.Spec PyProof.Rows L2
abbrev sSpoilt : Stmt := topS 51
theorem pw_no {X : Cx} {e : Expr} : PW X e (fun _ _ _ => False) := ⟨fun _ _ _ _ _ _ _ h => h.elim⟩
theorem cut_whole {xs : List V} {lo hi : Option Int} (h : HT.sIx xs.length 0 lo = 0 ∧ HT.sIx xs.length xs.length hi = xs.length) : cutV xs lo hi = xs := by
  unfold cutV
  rw [h.1, h.2, List.drop_zero, Nat.sub_zero, List.take_length]
def rSlB : V → Option Int → Option Int → Hp → VK → Prop := fun x lo hi H Q => ∃ a xs, x = .ref a ∧ H a = some (.tup xs) ∧ ∀ c H', Same H H' → H' c = some (.tup (cutV xs lo hi)) → Q (.ref c) H'
theorem sl_tupB {X : Cx} : SlR X rSlB := by
  intro pins s σ H x v vl vu lo hi sl Q I rx hs pl pu h
  obtain ⟨a, xs, rfl, e, q⟩ := h
  exact sl_tupA pins s σ H _ v vl vu lo hi sl Q I rx hs pl pu ⟨a, xs, rfl, SqT.of e, fun z => q a H (Same.refl H) (by rw [cut_whole z]; exact e), fun _ p np => q p _ (same_new np) upd_same⟩
def rCatB : R2 := fun x y H Q => ∃ a b xs ys, x = .ref a ∧ y = .ref b ∧ H a = some (.tup xs) ∧ H b = some (.tup ys) ∧ xs.length + ys.length ≤ 1000 ∧ ∀ c H', Same H H' → H' c = some (.tup (xs ++ ys)) → Q (.ref c) H'
theorem op_catB {X : Cx} : OpR X (binaryOp .Add) rCatB := by
  intro pins s σ H x y v u Q I rx ry h
  obtain ⟨a, b, xs, ys, rfl, rfl, e1, e2, hl, q⟩ := h
  refine op_catA pins s σ H _ _ v u Q I rx ry ⟨a, b, xs, ys, rfl, rfl, SqT.of e1, SqT.of e2, Nat.le_trans hl (by decide), fun z => q b H (Same.refl H) (by rw [z]; exact e2), fun _ z => q a H (Same.refl H) (by rw [z, List.append_nil]; exact e1), fun _ _ p np => q p _ (same_new np) upd_same⟩
theorem cut_mem {xs : List V} {lo hi : Option Int} {y : V} (h : y ∈ cutV xs lo hi) : y ∈ xs := List.mem_of_mem_drop (List.mem_of_mem_take h)
section
variable {P : Program} {w : World} {K : PySem.W.Frag} {mg : Str → Option Value} {base : Heap}
theorem scSpoilt : FnScope ["_law_state_here", "_law_what", "_law_deep", "_law_at", "_law_walk_here", "_law_odd_here"] ["_law_state_here", "_law_what", "_law_deep"] (defScope sSpoilt) := ⟨rfl, rfl, rfl, by decide +kernel, rfl, by decide +kernel, by decide +kernel⟩
def spSpoilt (K : PySem.W.Frag) : Sp := fun vs H Q _ => ∃ (z b : Addr) (ms : List Int), vs = [.ref z, .ref b, .int 0] ∧ StOk H z ∧ H b = some (.tup (ms.map V.int)) ∧ ms.length ≤ 12 ∧ (∀ m ∈ ms, m.natAbs ≤ 100) ∧ ∀ H' v, Keep z H H' → StOk H' z → ThingX H z K H' v → Q v H'
theorem walk_at {H : Hp} {ms : List Int} (h : ∀ m ∈ ms, m.natAbs ≤ 100) : ∀ y ∈ ms.map V.int, At H y := fun y hy => by
  obtain ⟨m, hm, rfl⟩ := List.mem_map.mp hy
  exact .int (small_of (Nat.le_trans (h m hm) (by decide)))
theorem ok_spoilt {f fK : Addr} {fd dK : FuncData} {k : Nat} (DK : Df K mg "_law_take" sTake ["_law_state_here", "_law_much"] fK dK) (ml : mg "len" = none) (mLi : mg "list" = none) (mi : mg "isinstance" = none) (mI : mg "int" = none)
    (D : Df K mg "_law_spoilt" sSpoilt ["_law_state_here", "_law_what", "_law_deep"] f fd) : FnOk P w K mg base CX0 (k + 2) f fd ["_law_state_here", "_law_what", "_law_deep"] (spSpoilt K) := by
  have GK : FnOk P w K mg base CX0 (k + 1) fK dK ["_law_state_here", "_law_much"] spTake := ok_take DK
  refine D.F.ok scSpoilt (fun vs H Q E h => ?_) (fun cdv A outer s H vs Q E hr h => ?_)
  · obtain ⟨_, _, _, rfl, _⟩ := h
    rfl
  · obtain ⟨z, b, ms, rfl, st, eb, hl, hm, q⟩ := h
    refine ⟨_, (pss_cons (ps_par (i := 3) (j := 4) (by rfl) scSpoilt.nd rfl rfl (by decide) rfl rfl (pa_cons (pe_call GK hr (by rfl) DK.g DK.F.kp DK.b .nil pass0 (pa_cons (pv 0) (pa_cons (pe_op op_add (pe_callB call_len_seq (by rfl) ml PySem.boot_len (pa_cons (pv 1) pa_nil)) pe_int) pa_nil))) (pa_cons (pe_call GK hr (by rfl) DK.g DK.F.kp DK.b .nil pass0 (pa_cons (pv 0) (pa_cons pe_int pa_nil))) pa_nil)) (by rfl))
    (pss_cons (ps_set (i := 5) scSpoilt.nd rfl (.inl rfl) (pe_ix ix_list (pe_lst (pa_cons (pe_un un_neg pe_int) (pa_cons pe_int (pa_cons pe_int (pa_cons pe_int (pa_cons pe_int (pa_cons pe_int (pa_cons pe_int (pa_cons pe_bl (pa_cons pe_bl (pa_cons pe_non (pa_cons pe_str (pa_cons (pe_tup pa_nil) (pa_cons (pe_op op_pow pe_int pe_int) (pa_cons pe_int pa_nil))))))))))))))) (pe_call GK hr (by rfl) DK.g DK.F.kp DK.b .nil pass0 (pa_cons (pv 0) (pa_cons pe_int pa_nil))) (fun _ _ => rfl)))
    (pss_cons (ps_if (PW.pt (pw_and (pt_cmpR op_gt (pv 2) pe_int (nomark _)) pw_no)) pss_never pss_nil)
    (pss_cons (ps_if (pt_cmpR op_eq (pv 4) pe_int (nomark _)) (pss_one (ps_ret (pe_ix ix_list (pe_lst (pa_cons (pe_callTy call_list_of (by rfl) mLi (by decide +kernel) (pa_cons (pv 1) pa_nil)) (pa_cons (pe_backT (pv 1)) (pa_cons (pe_op op_catB (pv 1) (pe_slice sl_tupB (pv 1) (po_some (pe_un un_neg pe_int)) po_none)) (pa_cons (pe_slice sl_tupB (pv 1) po_none (po_some (pe_un un_neg pe_int))) pa_nil))))) (pe_call GK hr (by rfl) DK.g DK.F.kp DK.b .nil pass0 (pa_cons (pv 0) (pa_cons pe_int pa_nil))) (fun _ _ => rfl)))) pss_nil)
    (pss_cons (ps_if (pt_cmpR op_eq (pv 4) pe_int (nomark _)) (pss_one (ps_ret (pe_op op_catB (pe_op op_catB (pe_slice sl_tupB (pv 1) po_none (po_some (pv 3))) (pe_tup (pa_cons (pv 5) pa_nil))) (pe_slice sl_tupB (pv 1) (po_some (pv 3)) po_none)))) pss_nil)
    (pss_cons (ps_if (pt_cut (PW.pt (pw_and (pt_cmpR op_lt (pv 4) pe_int (nomark _)) (pw_and (pt_cmpR op_lt (pv 3) (pe_callB call_len_seq (by rfl) ml PySem.boot_len (pa_cons (pv 1) pa_nil)) (nomark _)) (pw_and1 (pt_val (pe_callB call_isi (by rfl) mi (by decide +kernel) (pa_cons (pe_ix ix_tup (pv 1) (pv 3) (fun _ _ => rfl)) (pa_cons (pe_bltn (v := .ty "int") (by rfl) mI (by decide +kernel) rfl) pa_nil))))))))) (pss_one (ps_ret (pe_op op_catB (pe_op op_catB (pe_slice sl_tupB (pv 1) po_none (po_some (pv 3))) (pe_tup (pa_cons (pe_op op_add (pe_ix ix_tup (pv 1) (pv 3) (fun _ _ => rfl)) (pe_ix ix_list (pe_lst (pa_cons pe_int (pa_cons (pe_un un_neg pe_int) pa_nil))) (pe_call GK hr (by rfl) DK.g DK.F.kp DK.b .nil pass0 (pa_cons (pv 0) (pa_cons pe_int pa_nil))) (fun _ _ => rfl))) pa_nil))) (pe_slice sl_tupB (pv 1) (po_some (pe_op op_add (pv 3) pe_int)) po_none)))) pss_nil)
    (pss_one (ps_ret (pe_op op_catB (pe_op op_catB (pe_slice sl_tupB (pv 1) po_none (po_some (pv 3))) (pe_tup (pa_cons (pv 5) pa_nil))) (pe_slice sl_tupB (pv 1) (po_some (pe_op op_add (pv 3) pe_int)) po_none)))))))))), ?_⟩
    have len : ((ms.map V.int).length : Int) = (ms.length : Int) := by rw [List.length_map]
    -- at, walk
    refine ⟨.ref z, rfl, .ref b, rfl, b, _, rfl, .inr (SqT.of eb), _, 1, rfl, rfl, z, _, rfl, st, by rw [len]; omega, by rw [len]; omega, fun H1 n k1 st1 n0 n1 => ?_⟩
    rw [len] at n1
    refine ⟨.ref z, rfl, z, 7, rfl, st1, by decide, by decide, fun H2 x k2 st2 x0 x1 => ⟨_, _, rfl, ?_⟩⟩
    -- odd
    refine ⟨1, rfl, Nat.zero_le _, fun a na => ⟨10, 29, rfl, rfl, ⟨by decide, by decide, by decide⟩, by show 14 ≤ sizeLine; decide, fun l nl => ?_⟩⟩
    have s3 : Same H2 (upd H2 a (.tup [])) := same_new na
    refine ⟨.ref z, rfl, z, 14, rfl, (st2.same s3).same (same_new nl), by decide, by decide, fun H3 y k3 st3 y0 y1 => ?_⟩
    have lz : l ≠ z := ((st2.same s3).ne nl).symm
    obtain ⟨v, hv, ev⟩ := pick (xs := [V.int (-1), V.int 0, V.int 1, V.int 9, V.int 10, V.int 99, V.int 100, V.bl true, V.bl false, V.non, V.str "1", V.ref a, V.int (10 ^ 29), V.int 5]) y0 (show y < 14 from y1)
    refine ⟨l, _, y, v, rfl, rfl, SqL.of (k3 _ _ upd_same lz), ev, ?_⟩
    have kH3 : Keep z H H3 := ((k1.trans k2).trans (.of s3)).trans ((Keep.new nl).trans k3)
    have ea3 : H3 a = some (.tup []) := k3 _ _ (same_new nl _ _ upd_same) ((st2.ne na).symm)
    have av : At H3 v := by
      simp only [List.mem_cons, List.not_mem_nil, or_false] at hv
      rcases hv with rfl | rfl | rfl | rfl | rfl | rfl | rfl | rfl | rfl | rfl | rfl | rfl | rfl | rfl
      · exact .int (by decide +kernel)
      · exact .int (by decide +kernel)
      · exact .int (by decide +kernel)
      · exact .int (by decide +kernel)
      · exact .int (by decide +kernel)
      · exact .int (by decide +kernel)
      · exact .int (by decide +kernel)
      · exact .bl _
      · exact .bl _
      · exact .non
      · exact .str (sh_text (by decide +kernel))
      · exact .tup (ns := []) ea3 (by decide) (fun _ h => nomatch h)
      · exact .int (by decide +kernel)
      · exact .int (by decide +kernel)
    have eb3 : H3 b = some (.tup (ms.map V.int)) := kH3.tups st _ _ eb
    -- deep
    refine ⟨.int 0, rfl, 0, 0, rfl, rfl, _, rfl, iteF (iteF ?_)⟩
    have fin : ∀ (G : Hp) (c : Addr) (ys : List V), Same H3 G → G c = some (.tup ys) → (∀ y ∈ ys, At G y) → ys.length ≤ 40 → Q (.ref c) G := fun G c ys sm ec al ln =>
      q G _ (kH3.trans (.of sm)) (st3.same sm) (thingX_tup (st3.same sm) ec al ln)
    have atG : ∀ {G : Hp}, Same H3 G → ∀ y ∈ ms.map V.int, At G y := fun _ => walk_at hm
    have cl : ∀ lo hi, (cutV (ms.map V.int) lo hi).length ≤ 12 := fun lo hi => Nat.le_trans (cutV_length _ _ _) (by rw [List.length_map]; exact hl)
    -- walk == 0
    refine ⟨.int x, rfl, rfl, _, rfl, ite2 (fun c0 => ?_) (fun c0 => ?_)⟩
    · refine ⟨.ref b, rfl, b, _, rfl, .inr (SqT.of eb3), fun l1 g1 => ?_⟩
      have t1 := same_new (H := H3) (o := .lst (ms.map V.int)) g1
      refine ⟨.ref b, rfl, b, _, rfl, SqT.of (t1 _ _ eb3), fun l2 g2 => ?_⟩
      have t2 := t1.trans (same_new (o := .tup (ms.map V.int).reverse) g2)
      refine ⟨.ref b, rfl, .ref b, rfl, 1, rfl, -1, rfl, b, _, rfl, t2 _ _ eb3, fun c3 G3 w3 f3 => ?_⟩
      have t3 := t2.trans w3
      refine ⟨b, c3, _, _, rfl, rfl, t3 _ _ eb3, f3, by have := cl (some (-1)) none; rw [List.length_map]; omega, fun c4 G4 w4 f4 => ?_⟩
      have t4 := t3.trans w4
      refine ⟨.ref b, rfl, 1, rfl, -1, rfl, b, _, rfl, t4 _ _ eb3, fun c5 G5 w5 f5 => ⟨by show 4 ≤ sizeLine; decide, fun l6 g6 => ?_⟩⟩
      have t5 := t4.trans w5
      have t6 := t5.trans (same_new (o := .lst [.ref l1, .ref l2, .ref c4, .ref c5]) g6)
      have l6z : l6 ≠ z := ((st3.same t5).ne g6).symm
      refine ⟨.ref z, rfl, z, 4, rfl, st3.same t6, by decide, by decide, fun G7 p k7 st7 p0 p1 => ?_⟩
      obtain ⟨u, hu, eu⟩ := pick (xs := [V.ref l1, V.ref l2, V.ref c4, V.ref c5]) p0 (show p < 4 from p1)
      refine ⟨l6, _, p, u, rfl, rfl, SqL.of (k7 _ _ upd_same l6z), eu, ?_⟩
      have k67 : Keep z H3 G7 := (Keep.of t6).trans k7
      refine q G7 u (kH3.trans k67) st7 ?_
      have same6 := same_new (H := G5) (o := .lst [.ref l1, .ref l2, .ref c4, .ref c5]) g6
      have w46 : Same G4 (upd G5 l6 (.lst [.ref l1, .ref l2, .ref c4, .ref c5])) := w5.trans same6
      have w26 := (w3.trans w4).trans w46
      have w16 := (same_new (H := upd H3 l1 (.lst (ms.map V.int))) (o := .tup (ms.map V.int).reverse) g2).trans w26
      simp only [List.mem_cons, List.not_mem_nil, or_false] at hu
      rcases hu with rfl | rfl | rfl | rfl
      · have l1z : l1 ≠ z := (st3.ne g1).symm
        exact thingX_lst st7 (k7 _ _ (w16 _ _ upd_same) l1z) l1z (kH3.free g1 l1z) (walk_at hm) (by rw [List.length_map]; omega)
      · refine thingX_tup st7 (k7.tups (st3.same t6) _ _ (w26 _ _ upd_same)) (fun y hy => walk_at hm y (List.mem_reverse.mp hy)) (by rw [List.length_reverse, List.length_map]; omega)
      · refine thingX_tup st7 (k7.tups (st3.same t6) _ _ (w46 _ _ f4)) (fun y hy => ?_) (by rw [List.length_append, List.length_map]; have := cl (some (-1)) none; omega)
        rcases List.mem_append.mp hy with h | h
        · exact walk_at hm y h
        · exact walk_at hm y (cut_mem h)
      · exact thingX_tup st7 (k7.tups (st3.same t6) _ _ (same6 _ _ f5)) (fun y hy => walk_at hm y (cut_mem hy)) (by have := cl none (some (-1)); omega)
    · refine ⟨.int x, rfl, rfl, _, rfl, ite2 (fun c1 => ?_) (fun c1 => ?_)⟩
      · refine ⟨.ref b, rfl, .int n, rfl, n, rfl, b, _, rfl, eb3, fun d1 G1 w1 f1 => ⟨v, rfl, by show 1 ≤ sizeLine; decide, fun d2 g2 => ?_⟩⟩
        have t2 := w1.trans (same_new (o := .tup [v]) g2)
        refine ⟨d1, d2, _, _, rfl, rfl, same_new g2 _ _ f1, upd_same, by have := cl none (some n); simp only [List.length_singleton]; omega, fun d3 G3 w3 f3 => ?_⟩
        have t3 := t2.trans w3
        refine ⟨.ref b, rfl, .int n, rfl, n, rfl, b, _, rfl, t3 _ _ eb3, fun d4 G4 w4 f4 => ?_⟩
        have t4 := t3.trans w4
        refine ⟨d3, d4, _, _, rfl, rfl, w4 _ _ f3, f4, by have := cl none (some n); have := cl (some n) none; rw [List.length_append, List.length_singleton]; omega, fun d5 G5 w5 f5 => ?_⟩
        have t5 := t4.trans w5
        refine fin G5 d5 _ t5 f5 (fun y hy => ?_) (by have := cl none (some n); have := cl (some n) none; rw [List.length_append, List.length_append, List.length_singleton]; omega)
        rcases List.mem_append.mp hy with h | h
        · rcases List.mem_append.mp h with h | h
          · exact walk_at hm y (cut_mem h)
          · rw [List.mem_singleton.mp h]
            exact av.keep fun b xs e => t5 _ _ e
        · exact walk_at hm y (cut_mem h)
      · refine ⟨fun bb G => G = H3 ∧ (bb = true → n < (ms.length : Int)), ?_, fun bb G hR => ?_⟩
        · refine ⟨.int x, rfl, _, _, rfl, rfl, _, rfl, ite2 (fun c2 => ?_) (fun c2 => ⟨rfl, fun z => nomatch z⟩)⟩
          refine ⟨.int n, rfl, .ref b, rfl, b, _, rfl, .inr (SqT.of eb3), _, _, rfl, rfl, _, rfl, ite2 (fun c3 => ?_) (fun c3 => ⟨rfl, fun z => nomatch z⟩)⟩
          have c3' : n < ((ms.map V.int).length : Int) := of_decide_eq_true c3
          obtain ⟨u, hu, eu⟩ := pick n0 c3'
          rw [len] at c3'
          obtain ⟨m, hm', rfl⟩ := List.mem_map.mp hu
          refine ⟨.ref b, rfl, .int n, rfl, b, _, n, _, rfl, rfl, SqT.of eb3, eu, .int m, .ty "int", .type "int", .type "int", true, rfl, .ty _, .base (.int m), isi_int (.int (H := H3) m), _, rfl, rfl, fun _ => c3'⟩
        · obtain ⟨rfl, hb⟩ := hR
          refine ite2 (fun c => ?_) (fun c => ?_)
          · have hn := hb c
            obtain ⟨u, hu, eu⟩ := pick (xs := ms.map V.int) n0 (by rw [len]; exact hn)
            obtain ⟨m, hm', rfl⟩ := List.mem_map.mp hu
            refine ⟨.ref b, rfl, .int n, rfl, n, rfl, b, _, rfl, eb3, fun d1 G1 w1 f1 => ?_⟩
            refine ⟨.ref b, rfl, .int n, rfl, b, _, n, _, rfl, rfl, SqT.of (w1 _ _ eb3), eu, 1, rfl, by show 2 ≤ sizeLine; decide, fun l2 g2 => ?_⟩
            have sg : StOk G1 z := st3.same w1
            have l2z : l2 ≠ z := (sg.ne g2).symm
            refine ⟨.ref z, rfl, z, 2, rfl, sg.same (same_new g2), by decide, by decide, fun G3 p k3' st3' p0 p1 => ?_⟩
            obtain ⟨e, he, ee⟩ := pick (xs := [V.int 1, V.int (-1)]) p0 (show p < 2 from p1)
            obtain ⟨j, rfl, j1⟩ : ∃ j : Int, e = .int j ∧ j.natAbs ≤ 1 := by
              simp only [List.mem_cons, List.not_mem_nil, or_false] at he
              rcases he with rfl | rfl
              · exact ⟨1, rfl, by decide⟩
              · exact ⟨-1, rfl, by decide⟩
            refine ⟨l2, _, p, _, rfl, rfl, SqL.of (k3' _ _ upd_same l2z), ee, m, j, rfl, rfl, by show 1 ≤ sizeLine; decide, fun d2 g4 => ?_⟩
            have kG3 : Keep z G G3 := ((Keep.of w1).trans (.new g2)).trans k3'
            have s4 := same_new (H := G3) (o := .tup [.int (m + j)]) g4
            have f1' : G3 d1 = some (.tup (cutV (ms.map V.int) none (some n))) := k3'.tups (sg.same (same_new g2)) _ _ (same_new g2 _ _ f1)
            refine ⟨d1, d2, _, _, rfl, rfl, s4 _ _ f1', upd_same, by have := cl none (some n); simp only [List.length_singleton]; omega, fun d3 G5 w5 f5 => ?_⟩
            have t5 := s4.trans w5
            have eb5 : G5 b = some (.tup (ms.map V.int)) := t5 _ _ (kG3.tups st3 _ _ eb3)
            refine ⟨.ref b, rfl, .int n, rfl, n, 1, rfl, rfl, n + 1, rfl, b, _, rfl, eb5, fun d4 G6 w6 f6 => ?_⟩
            have t6 := t5.trans w6
            refine ⟨d3, d4, _, _, rfl, rfl, w6 _ _ f5, f6, by have := cl none (some n); have := cl (some (n + 1)) none; rw [List.length_append, List.length_singleton]; omega, fun d5 G7 w7 f7 => ?_⟩
            have t7 := t6.trans w7
            have hmm := hm m hm'
            refine q G7 _ ((kH3.trans kG3).trans (.of t7)) (st3'.same t7) (thingX_tup (st3'.same t7) f7 (fun y hy => ?_) (by have := cl none (some n); have := cl (some (n + 1)) none; rw [List.length_append, List.length_append, List.length_singleton]; omega))
            rcases List.mem_append.mp hy with h | h
            · rcases List.mem_append.mp h with h | h
              · exact walk_at hm y (cut_mem h)
              · rw [List.mem_singleton.mp h]
                exact .int (small_of (by omega))
            · exact walk_at hm y (cut_mem h)
          · refine ⟨.ref b, rfl, .int n, rfl, n, rfl, b, _, rfl, eb3, fun d1 G1 w1 f1 => ⟨v, rfl, by show 1 ≤ sizeLine; decide, fun d2 g2 => ?_⟩⟩
            have t2 := w1.trans (same_new (o := .tup [v]) g2)
            refine ⟨d1, d2, _, _, rfl, rfl, same_new g2 _ _ f1, upd_same, by have := cl none (some n); simp only [List.length_singleton]; omega, fun d3 G3 w3 f3 => ?_⟩
            have t3 := t2.trans w3
            refine ⟨.ref b, rfl, .int n, rfl, n, 1, rfl, rfl, n + 1, rfl, b, _, rfl, t3 _ _ eb3, fun d4 G4 w4 f4 => ?_⟩
            have t4 := t3.trans w4
            refine ⟨d3, d4, _, _, rfl, rfl, w4 _ _ f3, f4, by have := cl none (some n); have := cl (some (n + 1)) none; rw [List.length_append, List.length_singleton]; omega, fun d5 G5 w5 f5 => ?_⟩
            have t5 := t4.trans w5
            refine fin G5 d5 _ t5 f5 (fun y hy => ?_) (by have := cl none (some n); have := cl (some (n + 1)) none; rw [List.length_append, List.length_append, List.length_singleton]; omega)
            rcases List.mem_append.mp hy with h | h
            · rcases List.mem_append.mp h with h | h
              · exact walk_at hm y (cut_mem h)
              · rw [List.mem_singleton.mp h]
                exact av.keep fun b xs e => t5 _ _ e
            · exact walk_at hm y (cut_mem h)
end
end Wy

namespace Wy
open PySem PySem.Spec PyProof.Rows L2
abbrev sMarks : Stmt := topS 45
abbrev sWord : Stmt := topS 46
abbrev sSaid : Stmt := topS 47
theorem pe_no {X : Cx} {e : Expr} : PE X e (fun _ _ _ => False) := ⟨fun _ _ _ _ _ _ h => h.elim⟩
/-- xs.count(x) of flat things -/
def rCountV (K : PySem.W.Frag) : V → List V → Hp → VK → Prop := fun x xs H Q => ∃ (a : Addr) (ys : List V) (y : V), x = V.ref a ∧ xs = [y] ∧ SqL K H a ys ∧ flatV y = true ∧ ys.all flatV = true ∧ Q (.int ((ys.countP fun u => eqV u y) : Nat)) H
theorem count_eqU {x : V} : ∀ {xs : List V} {us : List Value}, Vals xs us → xs.all flatV = true → us.countP (eqU x) = xs.countP fun y => eqV y x
  | _, _, .nil, _ => rfl
  | y :: r, _, .cons h t, f => by
    rw [List.all_cons, Bool.and_eq_true] at f
    rw [List.countP_cons, List.countP_cons, count_eqU t f.2, eqU_of h f.1]
theorem mt_countV {X : Cx} : MtR X "list.count" (rCountV X.K) := by
  intro pins s σ H x xs v us Q I rx rxs h
  obtain ⟨a, ys, y, rfl, rfl, sq, fy, fys, q⟩ := h
  cases rx
  cases rxs with
  | cons ry rt =>
    rename_i uy ut
    cases rt
    obtain ⟨its, rv, ⟨⟨cls, dd, data, sl⟩, n, ho, hc, hn, hd⟩, _⟩ := I.list sq
    simp only at hc hd
    subst hc hd
    refine call_meets PySem.F.slot_list_count ⟨_, ho, rfl⟩ PySem.F.entry_list_count (PySem.F.args_list_count_2 _ _) (SeqAt.list_countAt a its.toArray n dd sl uy (eqU y)) ⟨ho, fun u hu => mem_eqAt ry fy rv fys u (by simpa using hu), ?_⟩
    refine ⟨.int _, H, I.tok _, ⟨s.toks, ?_⟩, q⟩
    show Value.int ((its.toArray.toList.countP (eqU y) : Nat) : Int) s.toks = _
    rw [show its.toArray.toList = its from rfl, count_eqU rv fys]
/-! ### an error that is handled, and defs that are handed it -/
def ErrOf (D : Addr) (o : Obj) : Prop := Zc (.ref D) none o ∧ ∃ vs, o.data = .fields vs
theorem call_isP {X : Cx} {p : Addr × Obj} {D : Addr} (C : ExcC X.K D) (hp : p ∈ X.pn) (hz : ErrOf D p.2) : CallR X (.builtin "isinstance") (rIsE X.K D p.1) := by
  intro pins s σ H xs us Q I r h
  obtain ⟨c, cv, b, rfl, hc, e, q⟩ := h
  cases r with
  | cons rx rr =>
    cases rr with
    | cons rt rn =>
      cases rn
      cases rx
      have ec := hc _ rt
      subst ec
      obtain ⟨got, _⟩ := I.pin p (List.mem_append.mpr (.inl hp))
      obtain ⟨pa, oe⟩ := p
      obtain ⟨⟨h1, h2⟩, vs, hv⟩ := hz
      have J : PySem.W.InstAt s.heap pa oe D none := by
        obtain ⟨oc, od, oda, osl⟩ := oe
        dsimp only at h1 h2 hv
        subst h1 h2 hv
        exact ⟨got, rfl, rfl, trivial⟩
      exact PySem.W.kia_one (PySem.W.handS_kitx_exc C.hg C.hk C.hs C.hd C.ha C.hn C.ht C.hm) I.kIn J e (fun z => nomatch z) fun tk => ⟨.bl b, H, I.kept (t' := tk) fun _ _ z => z, rfl, q⟩
/-- what a def promises that is called with the error of class D while it is handled -/
structure FnE (P : Program) (w : World) (K : PySem.W.Frag) (mg : Str → Option Value) (base : Heap) (k : Nat) (f : Addr) (fd : FuncData) (ps : List Str) (D : Addr) (sp : Addr → List V → Hp → VK → Prop) : Prop where
  len : ∀ a vs H Q, sp a vs H Q → vs.length = ps.length
  run : ∀ (A : Around) (outer : List Env) (s : Shared) (H : Hp) (args : Args) (us : List Value) (vs : List V) (Q : VK) (p : Addr × Obj), L2H.RoomH k A → L2H.PinOk outer H s p → ErrOf D p.2 → Env0 P w K mg base A outer s H → BindsTo s fd args (ps.zip us) → Vals vs us → sp p.1 vs H Q →
    codeAny (model P w) A (.call (.ref f) args) (CR CX0 outer P w H s Q E0) s
theorem fnE_of {P : Program} {w : World} {K : PySem.W.Frag} {mg : Str → Option Value} {base : Heap} {x : Str} {st : Stmt} {f D : Addr} {fd : FuncData} {N ps : List Str} {k : Nat} {sp : Addr → List V → Hp → VK → Prop} (F : Fun K x x st f fd) (S : FnScope N ps (defScope st)) (len : ∀ a vs H Q, sp a vs H Q → vs.length = ps.length)
    (body : ∀ (cdv : Value) (A : Around) (outer : List Env) (s : Shared) (H : Hp) (vs : List V) (Q : VK) (p : Addr × Obj), L2H.RoomH k (A.deeper (envOfC x (defScope st) s.heap.objs.size f cdv)) → ErrOf D p.2 → sp p.1 vs H Q →
      ∃ t, PSs (L2H.cxH CX0 P w K mg base N x (defScope st) f cdv A outer s H E0 p).nox (defBody st) t ∧ t { nx := fun _ G => Q .non G, rt := Q } (L2.start N vs) H) : FnE P w K mg base (k + 1) f fd ps D sp := by
  obtain ⟨oc, od, kV, doc, pm, an, cdv, ct, osl, rfl, lk, hcd⟩ := F.ex
  refine ⟨len, fun A outer s H args us vs Q p hr pin err e0 bnd rv hsp => ?_⟩
  have inK : K.In s.heap := e0.mod.kin.keeps fun b o e => (e0.bs b o e).1
  refine codeAny_call_function hr.depth (inK _ _ lk) rfl S.co S.gen rfl (PySem.W.codeRec_of inK hcd) (bnd _ _ _ _ ?_)
  refine wpAny_newFunctionEnv_cells S.kind (fun y hy => ?_) fun env he s1 inC => ?_
  · rcases S.par y.1 (List.of_mem_zip (show (y.1, y.2) ∈ ps.zip us from hy)).1 with z | z
    · exact .inl z
    · exact .inr ⟨z, PySem.W.cellsFrom_some _ _ _ (.inl z)⟩
  · subst he
    refine ⟨(e0.mod.nolimit.keeps fun b o e => (e0.bs b o e).1).keeps inC.toInCall.keep, codeAny_func ?_⟩
    obtain ⟨t, ht, hq⟩ := body cdv A outer s H vs Q p (hr.deeper _) err hsp
    have J : L2.Inv (L2H.cxH CX0 P w K mg base N x (defScope st) f cdv A outer s H E0 p) [] (L2.start N vs) H s1 := L2H.inv_startH S pin e0 (len _ _ _ _ hsp) rv inC
    refine wpAny_mono (ht.nox.run [] s1 (L2.start N vs) H _ J hq) (fun fl s' hs => ?_) fun e s' hs => hs
    cases fl with
    | ret u =>
      obtain ⟨v, σ', H', J', rv', q⟩ := hs
      exact ⟨v, H', J'.os, J'.bare, J'.base, J'.hok, rv', q⟩
    | next =>
      obtain ⟨σ', H', J', q⟩ := hs
      exact ⟨.non, H', J'.os, J'.bare, J'.base, J'.hok, rfl, q⟩
    | brk =>
      obtain ⟨_, _, _, q⟩ := hs
      exact q.elim
    | cont =>
      obtain ⟨_, _, _, q⟩ := hs
      exact q.elim
theorem pe_callE {X : Cx} {k : Nat} {f D : Addr} {fd : FuncData} {ps : List Str} {sp : Addr → List V → Hp → VK → Prop} {x : Str} {u1 u2 : Pos} {e : Expr} {es : List Expr} {t : TA} {p : Addr × Obj} (F : FnE X.prog X.w X.K X.mg X.base k f fd ps D sp) (hr : L2H.RoomH k X.A) (hp : p ∈ X.pn) (hz : ErrOf D p.2) (hg : Gl X x) (hm : X.mg x = some (.ref f))
    (hk : PySem.W.keepIn X.K (.ref f) = true) (hb : L2.Binds X.K fd ps []) (ha : PA X (e :: es) t) (hdb : (x == ("__debug__" : Str)) = false := by decide) (he : starEach (e :: es) X.env = (false, eval e X.env) :: starEach es X.env := by rfl) (hpl : (backTo u2 (starEach es X.env)).any (·.1) = false := by rfl) :
    PE X (.Call (.Name x u1) (e :: es) [] u2) (fun σ H Q => t σ H fun vs G => sp p.1 vs G Q) := by
  refine ⟨fun pins s σ H Q I h => wpAny_Call_Name_kw (ld_glob I hg hm ?_ hdb)⟩
  refine PySem.W.callWith_K (h₀ := X.base) I.ok.mod.kin hk (thn (ha.run u2 pins s σ H _ I h) fun us t1 ⟨vs, G, J, rv, q⟩ => ⟨J.kIn, ?_⟩) he hpl
  have hl : us.length = ps.length := by
    rw [← rv.length]
    exact F.len _ _ _ _ q
  have bnd := hb t1 us J.kIn (by rw [List.append_nil]; exact hl)
  rw [List.append_nil] at bnd
  have pp := J.pin p (List.mem_append_left _ hp)
  have pin : L2H.PinOk X.stack G t1 p := ⟨pp.1, pp.2.1, fun hm => (List.mem_cons.mp (J.stkSub p.1 hm)).elim pp.2.2.1 pp.2.2.2.1, pp.2.2.2.2⟩
  refine wpAny_call (codeAny_mono (F.run X.A X.stack t1 G ⟨us, []⟩ us vs Q p hr pin hz J.env0 bnd rv q) fun r s' hq => ?_)
  cases r with
  | error e => exact (show False from hq).elim
  | ok fl =>
    cases fl with
    | ret u => exact J.after hq
    | next => exact (show False from hq).elim
    | brk => exact (show False from hq).elim
    | cont => exact (show False from hq).elim
/-- the classes of refusals: C i the i-th of the law's list; what isinstance tells of an error of the class C 1 -/
structure Cl (K : PySem.W.Frag) (mg : Str → Option Value) (C : Nat → Addr) (cT cN : Addr) : Prop where
  c : ExcC K (C 1)
  g0 : mg "NoNet" = some (.ref (C 0))
  k0 : PySem.W.kitOne K (.ref (C 1)) (.ref (C 0)) = some false
  g1 : mg "NoPlace" = some (.ref (C 1))
  k1 : PySem.W.kitOne K (.ref (C 1)) (.ref (C 1)) = some true
  g2 : mg "NoRoad" = some (.ref (C 2))
  k2 : PySem.W.kitOne K (.ref (C 1)) (.ref (C 2)) = some false
  g3 : mg "NoMany" = some (.ref (C 3))
  k3 : PySem.W.kitOne K (.ref (C 1)) (.ref (C 3)) = some false
  g4 : mg "NoShut" = some (.ref (C 4))
  k4 : PySem.W.kitOne K (.ref (C 1)) (.ref (C 4)) = some false
  g5 : mg "NoCost" = some (.ref (C 5))
  k5 : PySem.W.kitOne K (.ref (C 1)) (.ref (C 5)) = some false
  g6 : mg "NoNumber" = some (.ref (C 6))
  k6 : PySem.W.kitOne K (.ref (C 1)) (.ref (C 6)) = some false
  g7 : mg "NoWay" = some (.ref (C 7))
  k7 : PySem.W.kitOne K (.ref (C 1)) (.ref (C 7)) = some false
  g8 : mg "NoWord" = some (.ref (C 8))
  k8 : PySem.W.kitOne K (.ref (C 1)) (.ref (C 8)) = some false
  g9 : mg "NoTime" = some (.ref (C 9))
  k9 : PySem.W.kitOne K (.ref (C 1)) (.ref (C 9)) = some false
  g10 : mg "NoChange" = some (.ref (C 10))
  k10 : PySem.W.kitOne K (.ref (C 1)) (.ref (C 10)) = some false
  g11 : mg "NoPaper" = some (.ref (C 11))
  k11 : PySem.W.kitOne K (.ref (C 1)) (.ref (C 11)) = some false
  g12 : mg "NoLine" = some (.ref (C 12))
  k12 : PySem.W.kitOne K (.ref (C 1)) (.ref (C 12)) = some false
  g13 : mg "NoText" = some (.ref (C 13))
  k13 : PySem.W.kitOne K (.ref (C 1)) (.ref (C 13)) = some false
  g14 : mg "NoAsk" = some (.ref (C 14))
  k14 : PySem.W.kitOne K (.ref (C 1)) (.ref (C 14)) = some false
  g15 : mg "Nothing" = some (.ref (C 15))
  k15 : PySem.W.kitOne K (.ref (C 1)) (.ref (C 15)) = some false
  g16 : mg "TooMany" = some (.ref (C 16))
  k16 : PySem.W.kitOne K (.ref (C 1)) (.ref (C 16)) = some false
  gT : mg "NoThing" = some (.ref cT)
  kT : PySem.W.kitOne K (.ref (C 1)) (.ref cT) = some true
  gN : mg "NotNow" = some (.ref cN)
  kN : PySem.W.kitOne K (.ref (C 1)) (.ref cN) = some false
  kV : PySem.W.kitOne K (.ref (C 1)) (.type "ValueError") = some true
section
variable {P : Program} {w : World} {K : PySem.W.Frag} {mg : Str → Option Value} {base : Heap} {C : Nat → Addr} {cT cN : Addr}
theorem scMarks : FnScope ["_law_e", "_law_marks_here"] ["_law_e"] (defScope sMarks) := ⟨rfl, rfl, rfl, by decide +kernel, rfl, by decide +kernel, by decide +kernel⟩
def spMarks : Addr → List V → Hp → VK → Prop := fun a vs H Q => vs = [.ref a] ∧ ∀ H' l, Same H H' → H' l = some (.lst [.bl false, .bl true, .bl false, .bl false, .bl false, .bl false, .bl false, .bl false, .bl false, .bl false, .bl false, .bl false, .bl false, .bl false, .bl false, .bl false, .bl false]) → Q (.ref l) H'
theorem ok_marks {f : Addr} {fd : FuncData} {k : Nat} (Z : Cl K mg C cT cN) (mi : mg "isinstance" = none) (D : Df K mg "_law_marks" sMarks ["_law_e"] f fd) : FnE P w K mg base (k + 1) f fd ["_law_e"] (C 1) spMarks := by
  refine fnE_of D.F scMarks (fun a vs H Q h => ?_) (fun cdv A outer s H vs Q p hr hz h => ?_)
  · obtain ⟨rfl, _⟩ := h
    rfl
  · obtain ⟨rfl, q⟩ := h
    have hp : ∀ {G : Value → Shared → Prop}, p ∈ ((L2H.cxH CX0 P w K mg base ["_law_e", "_law_marks_here"] "_law_marks" (defScope sMarks) f cdv A outer s H E0 p).wish G).pn := List.mem_singleton.mpr rfl
    obtain ⟨a, oe⟩ := p
    refine ⟨_, (pss_cons (ps_set (i := 1) scMarks.nd rfl (.inl rfl) (pe_lst (pa_cons (pe_callB (call_isP Z.c hp hz) (by rfl) mi (by decide +kernel) (pa_cons (pv 0) (pa_cons (pe_glob (v := .ref (C 0)) (by rfl) (Z.g0) rfl) pa_nil))) (pa_cons (pe_callB (call_isP Z.c hp hz) (by rfl) mi (by decide +kernel) (pa_cons (pv 0) (pa_cons (pe_glob (v := .ref (C 1)) (by rfl) (Z.g1) rfl) pa_nil))) (pa_cons (pe_callB (call_isP Z.c hp hz) (by rfl) mi (by decide +kernel) (pa_cons (pv 0) (pa_cons (pe_glob (v := .ref (C 2)) (by rfl) (Z.g2) rfl) pa_nil))) (pa_cons (pe_callB (call_isP Z.c hp hz) (by rfl) mi (by decide +kernel) (pa_cons (pv 0) (pa_cons (pe_glob (v := .ref (C 3)) (by rfl) (Z.g3) rfl) pa_nil))) pa_nil))))))
    (pss_cons (ps_set (i := 1) scMarks.nd rfl (.inl rfl) (pe_op op_cat (pv 1) (pe_lst (pa_cons (pe_callB (call_isP Z.c hp hz) (by rfl) mi (by decide +kernel) (pa_cons (pv 0) (pa_cons (pe_glob (v := .ref (C 4)) (by rfl) (Z.g4) rfl) pa_nil))) (pa_cons (pe_callB (call_isP Z.c hp hz) (by rfl) mi (by decide +kernel) (pa_cons (pv 0) (pa_cons (pe_glob (v := .ref (C 5)) (by rfl) (Z.g5) rfl) pa_nil))) (pa_cons (pe_callB (call_isP Z.c hp hz) (by rfl) mi (by decide +kernel) (pa_cons (pv 0) (pa_cons (pe_glob (v := .ref (C 6)) (by rfl) (Z.g6) rfl) pa_nil))) (pa_cons (pe_callB (call_isP Z.c hp hz) (by rfl) mi (by decide +kernel) (pa_cons (pv 0) (pa_cons (pe_glob (v := .ref (C 7)) (by rfl) (Z.g7) rfl) pa_nil))) pa_nil)))))))
    (pss_cons (ps_set (i := 1) scMarks.nd rfl (.inl rfl) (pe_op op_cat (pv 1) (pe_lst (pa_cons (pe_callB (call_isP Z.c hp hz) (by rfl) mi (by decide +kernel) (pa_cons (pv 0) (pa_cons (pe_glob (v := .ref (C 8)) (by rfl) (Z.g8) rfl) pa_nil))) (pa_cons (pe_callB (call_isP Z.c hp hz) (by rfl) mi (by decide +kernel) (pa_cons (pv 0) (pa_cons (pe_glob (v := .ref (C 9)) (by rfl) (Z.g9) rfl) pa_nil))) (pa_cons (pe_callB (call_isP Z.c hp hz) (by rfl) mi (by decide +kernel) (pa_cons (pv 0) (pa_cons (pe_glob (v := .ref (C 10)) (by rfl) (Z.g10) rfl) pa_nil))) (pa_cons (pe_callB (call_isP Z.c hp hz) (by rfl) mi (by decide +kernel) (pa_cons (pv 0) (pa_cons (pe_glob (v := .ref (C 11)) (by rfl) (Z.g11) rfl) pa_nil))) pa_nil)))))))
    (pss_cons (ps_set (i := 1) scMarks.nd rfl (.inl rfl) (pe_op op_cat (pv 1) (pe_lst (pa_cons (pe_callB (call_isP Z.c hp hz) (by rfl) mi (by decide +kernel) (pa_cons (pv 0) (pa_cons (pe_glob (v := .ref (C 12)) (by rfl) (Z.g12) rfl) pa_nil))) (pa_cons (pe_callB (call_isP Z.c hp hz) (by rfl) mi (by decide +kernel) (pa_cons (pv 0) (pa_cons (pe_glob (v := .ref (C 13)) (by rfl) (Z.g13) rfl) pa_nil))) (pa_cons (pe_callB (call_isP Z.c hp hz) (by rfl) mi (by decide +kernel) (pa_cons (pv 0) (pa_cons (pe_glob (v := .ref (C 14)) (by rfl) (Z.g14) rfl) pa_nil))) (pa_cons (pe_callB (call_isP Z.c hp hz) (by rfl) mi (by decide +kernel) (pa_cons (pv 0) (pa_cons (pe_glob (v := .ref (C 15)) (by rfl) (Z.g15) rfl) pa_nil))) pa_nil)))))))
    (pss_one (ps_ret (pe_op op_cat (pv 1) (pe_lst (pa_cons (pe_callB (call_isP Z.c hp hz) (by rfl) mi (by decide +kernel) (pa_cons (pv 0) (pa_cons (pe_glob (v := .ref (C 16)) (by rfl) (Z.g16) rfl) pa_nil))) pa_nil))))))))), ?_⟩
    refine ⟨.ref a, rfl, .ref (C 0), .ref (C 0), _, rfl, (fun u r => r), Z.k0, .ref a, rfl, .ref (C 1), .ref (C 1), _, rfl, (fun u r => r), Z.k1, .ref a, rfl, .ref (C 2), .ref (C 2), _, rfl, (fun u r => r), Z.k2, .ref a, rfl, .ref (C 3), .ref (C 3), _, rfl, (fun u r => r), Z.k3, by show 4 ≤ sizeLine; decide, fun l1 n1 => ?_⟩
    refine ⟨.ref l1, rfl, .ref a, rfl, .ref (C 4), .ref (C 4), _, rfl, (fun u r => r), Z.k4, .ref a, rfl, .ref (C 5), .ref (C 5), _, rfl, (fun u r => r), Z.k5, .ref a, rfl, .ref (C 6), .ref (C 6), _, rfl, (fun u r => r), Z.k6, .ref a, rfl, .ref (C 7), .ref (C 7), _, rfl, (fun u r => r), Z.k7, by show 4 ≤ sizeLine; decide, fun l2 n2 => ⟨l1, l2, _, _, rfl, rfl, same_new n2 _ _ upd_same, upd_same, by show 8 ≤ sizeLine; decide, fun l3 n3 => ?_⟩⟩
    refine ⟨.ref l3, rfl, .ref a, rfl, .ref (C 8), .ref (C 8), _, rfl, (fun u r => r), Z.k8, .ref a, rfl, .ref (C 9), .ref (C 9), _, rfl, (fun u r => r), Z.k9, .ref a, rfl, .ref (C 10), .ref (C 10), _, rfl, (fun u r => r), Z.k10, .ref a, rfl, .ref (C 11), .ref (C 11), _, rfl, (fun u r => r), Z.k11, by show 4 ≤ sizeLine; decide, fun l4 n4 => ⟨l3, l4, _, _, rfl, rfl, same_new n4 _ _ upd_same, upd_same, by show 12 ≤ sizeLine; decide, fun l5 n5 => ?_⟩⟩
    refine ⟨.ref l5, rfl, .ref a, rfl, .ref (C 12), .ref (C 12), _, rfl, (fun u r => r), Z.k12, .ref a, rfl, .ref (C 13), .ref (C 13), _, rfl, (fun u r => r), Z.k13, .ref a, rfl, .ref (C 14), .ref (C 14), _, rfl, (fun u r => r), Z.k14, .ref a, rfl, .ref (C 15), .ref (C 15), _, rfl, (fun u r => r), Z.k15, by show 4 ≤ sizeLine; decide, fun l6 n6 => ⟨l5, l6, _, _, rfl, rfl, same_new n6 _ _ upd_same, upd_same, by show 16 ≤ sizeLine; decide, fun l7 n7 => ?_⟩⟩
    refine ⟨.ref l7, rfl, .ref a, rfl, .ref (C 16), .ref (C 16), _, rfl, (fun u r => r), Z.k16, by show 1 ≤ sizeLine; decide, fun l8 n8 => ⟨l7, l8, _, _, rfl, rfl, same_new n8 _ _ upd_same, upd_same, by show 17 ≤ sizeLine; decide, fun l9 n9 => ?_⟩⟩
    refine q _ l9 (fun b o e => ?_) upd_same
    exact same_new n9 _ _ (same_new n8 _ _ (same_new n7 _ _ (same_new n6 _ _ (same_new n5 _ _ (same_new n4 _ _ (same_new n3 _ _ (same_new n2 _ _ (same_new n1 _ _ e))))))))
theorem scWord : FnScope ["_law_e", "_law_marks_here", "_law_at", "_law_words", "_law_word_here"] ["_law_e"] (defScope sWord) := ⟨rfl, rfl, rfl, by decide +kernel, rfl, by decide +kernel, by decide +kernel⟩
def spWord : Addr → List V → Hp → VK → Prop := fun a vs H Q => vs = [.ref a] ∧ ∀ H' t, Same H H' → H' t = some (.tup [.str "place"]) → Q (.ref t) H'
theorem ok_word {f fM : Addr} {fd dM : FuncData} {k : Nat} (Z : Cl K mg C cT cN) (mi : mg "isinstance" = none) (mV : mg "ValueError" = none) (DM : Df K mg "_law_marks" sMarks ["_law_e"] fM dM) (D : Df K mg "_law_word" sWord ["_law_e"] f fd) : FnE P w K mg base (k + 2) f fd ["_law_e"] (C 1) spWord := by
  have GM : FnE P w K mg base (k + 1) fM dM ["_law_e"] (C 1) spMarks := ok_marks Z mi DM
  refine fnE_of D.F scWord (fun a vs H Q h => ?_) (fun cdv A outer s H vs Q p hr hz h => ?_)
  · obtain ⟨rfl, _⟩ := h
    rfl
  · obtain ⟨rfl, q⟩ := h
    have hp : ∀ {G : Value → Shared → Prop}, p ∈ ((L2H.cxH CX0 P w K mg base ["_law_e", "_law_marks_here", "_law_at", "_law_words", "_law_word_here"] "_law_word" (defScope sWord) f cdv A outer s H E0 p).wish G).pn := List.mem_singleton.mpr rfl
    have hrm := hr
    have hu : (A.deeper (envOfC "_law_word" (defScope sWord) s.heap.objs.size f cdv)).units + 64 < cLine := by
      have := hr.un
      omega
    obtain ⟨a, oe⟩ := p
    refine ⟨_, (pss_cons (ps_set (i := 1) scWord.nd rfl (.inl rfl) (pe_callE GM hrm hp hz (by rfl) DM.g DM.F.kp DM.b (pa_cons (pv 0) pa_nil)))
    (pss_cons (ps_if (PW.pt (pw_or (pt_cmpR op_ne (pe_bm PySem.F.plainAttrs_list PySem.F.slot_list_count PySem.F.type_list_count mt_countV (pv 1) (pa_cons pe_bl pa_nil)) pe_int (nomark _)) (pw_or1 (pt_not (pt_val (pe_callB (call_isP Z.c hp hz) (by rfl) mi (by decide +kernel) (pa_cons (pv 0) (pa_cons (pe_bltn (v := .ty "ValueError") (by rfl) mV (by decide +kernel) rfl) pa_nil)))))))) pss_never pss_nil)
    (pss_cons (ps_set (i := 2) scWord.nd rfl (.inl rfl) (pe_bm PySem.F.plainAttrs_list PySem.F.slot_list_index PySem.F.type_list_index mt_index (pv 1) (pa_cons pe_bl pa_nil)))
    (pss_cons (ps_if (pt_cmpR (op_neD hu) (pe_lst (pa_cons (pe_callB (call_isP Z.c hp hz) (by rfl) mi (by decide +kernel) (pa_cons (pv 0) (pa_cons (pe_glob (v := .ref cT) (by rfl) Z.gT rfl) pa_nil))) (pa_cons (pe_callB (call_isP Z.c hp hz) (by rfl) mi (by decide +kernel) (pa_cons (pv 0) (pa_cons (pe_glob (v := .ref cN) (by rfl) Z.gN rfl) pa_nil))) pa_nil))) (pe_lst (pa_cons (pe_cmpR op_lt (pv 2) pe_int (nomark _)) (pa_cons (pe_cmpR op_gt (pv 2) pe_int (nomark _)) pa_nil))) (nomark _)) pss_never pss_nil)
    (pss_cons (ps_set (i := 3) scWord.nd rfl (.inl rfl) (pe_lst (pa_cons pe_str (pa_cons pe_str (pa_cons pe_str (pa_cons pe_str (pa_cons pe_str (pa_cons pe_str (pa_cons pe_str (pa_cons pe_str (pa_cons pe_str (pa_cons pe_str (pa_cons pe_str (pa_cons pe_str (pa_cons pe_str pa_nil)))))))))))))))
    (pss_cons (ps_set (i := 4) scWord.nd rfl (.inl rfl) (pe_ix ix_list (pe_op op_cat (pv 3) (pe_lst (pa_cons pe_str (pa_cons pe_str (pa_cons pe_str (pa_cons pe_str pa_nil)))))) (pv 2) (fun _ _ => rfl)))
    (pss_cons (ps_if (pt_cmpR op_eq (pv 4) pe_str (nomark _)) pss_never pss_nil)
    (pss_cons (ps_if (pt_cmpR op_eq (pv 4) pe_str (nomark _)) pss_never pss_nil)
    (pss_one (ps_ret (pe_ifExp (pt_cmpR op_eq (pv 4) pe_str (nomark _)) pe_no (pe_tup (pa_cons (pv 4) pa_nil))))))))))))), ?_⟩
    refine ⟨.ref a, rfl, rfl, fun H1 l1 s1 e1 => ?_⟩
    refine ⟨.ref l1, rfl, .inl ⟨rfl, _, SqL.of e1⟩, l1, _, .bl true, rfl, rfl, SqL.of e1, rfl, rfl, rfl, _, rfl, iteF ?_⟩
    refine ⟨.ref a, rfl, .ty "ValueError", .type "ValueError", _, rfl, (fun u r => r), Z.kV, _, rfl, iteF ?_⟩
    refine ⟨.ref l1, rfl, .inl ⟨rfl, _, SqL.of e1⟩, l1, _, .bl true, 1, .bl true, rfl, rfl, SqL.of e1, rfl, rfl, rfl, rfl, fun m z' hm hz' => ?_, ?_⟩
    · have : m = 0 := by omega
      subst this
      cases hz'
      rfl
    · refine ⟨.ref a, rfl, .ref cT, .ref cT, _, rfl, (fun u r => r), Z.kT, .ref a, rfl, .ref cN, .ref cN, _, rfl, (fun u r => r), Z.kN, by show 2 ≤ sizeLine; decide, fun l2 n2 => ?_⟩
      refine ⟨.int (1 : Nat), rfl, _, _, rfl, rfl, .int (1 : Nat), rfl, _, _, rfl, rfl, by show 2 ≤ sizeLine; decide, fun l3 n3 => ?_⟩
      refine ⟨.list [.bool true, .bool false], .list [.bool true, .bool false], .lst (SqL.of (same_new n3 _ _ upd_same)) (.cons (.bl true) (.cons (.bl false) .nil)), .lst (SqL.of upd_same) (.cons (.bl true) (.cons (.bl false) .nil)), by decide +kernel, by decide +kernel, _, rfl, ?_⟩
      rw [show PyData.eqv (.list [.bool true, .bool false]) (.list [.bool true, .bool false]) = true from by decide +kernel]
      refine iteF ?_
      refine ⟨by show 13 ≤ sizeLine; decide, fun l4 n4 => ?_⟩
      refine ⟨.ref l4, rfl, by show 4 ≤ sizeLine; decide, fun l5 n5 => ⟨l4, l5, _, _, rfl, rfl, same_new n5 _ _ upd_same, upd_same, by show 17 ≤ sizeLine; decide, fun l6 n6 => ?_⟩⟩
      refine ⟨.int (1 : Nat), rfl, l6, _, (1 : Nat), .str "place", rfl, rfl, SqL.of upd_same, rfl, ?_⟩
      refine ⟨.str "place", rfl, rfl, _, rfl, ?_⟩
      rw [show decide (V.str (Str.ofString "place") = V.str (Str.ofString "text")) = false from by decide +kernel]
      refine iteF ⟨.str "place", rfl, rfl, _, rfl, ?_⟩
      rw [show decide (V.str (Str.ofString "place") = V.str (Str.ofString "ask")) = false from by decide +kernel]
      refine iteF ⟨.str "place", rfl, rfl, _, rfl, ?_⟩
      rw [show decide (V.str (Str.ofString "place") = V.str (Str.ofString "more")) = false from by decide +kernel]
      refine iteF ⟨.str "place", rfl, by show 1 ≤ sizeLine; decide, fun t nt => ?_⟩
      refine q _ t (fun b o e => ?_) upd_same
      exact same_new nt _ _ (same_new n6 _ _ (same_new n5 _ _ (same_new n4 _ _ (same_new n3 _ _ (same_new n2 _ _ (s1 _ _ e))))))
end
end Wy

namespace Wy
open PySem PySem.Spec PyProof.Rows L2
abbrev sLaw : Stmt := topS 54
/-! ### a call by keywords alone -/
theorem pe_callK0 {X : Cx} {CX : CXT} {k : Nat} {f : Addr} {fd : FuncData} {ps ks : List Str} {sp : Sp} {E : XK} {x : Str} {u1 u2 : Pos} {kws : List Keyword} {tk : TA} {g : List Value → List Value → List Value} {gV : List V → List V → List V}
    (F : FnOk X.prog X.w X.K X.mg X.base CX k f fd ps sp) (hr : Room k X.A) (hg : Gl X x) (hm : X.mg x = some (.ref f)) (hk : PySem.W.keepIn X.K (.ref f) = true) (hb : KBinds X.K fd ps ks g gV) (hx : Passes CX X E) (hkw : PK X kws tk)
    (hall : (backToKw u2 (keywordEach kws X.env)).all (·.1.isSome) = true := by rfl) (hks : (backToKw u2 (keywordEach kws X.env)).filterMap (·.1) = ks := by rfl) (hdb : (x == ("__debug__" : Str)) = false := by decide)
    (hpl : ((backTo u2 (starEach [] X.env)).any (·.1) || (backToKw u2 (keywordEach kws X.env)).any (·.1.isNone)) = false := by rfl) : PE X (.Call (.Name x u1) [] kws u2) (fun σ H Q => tk σ H fun zs G => sp (gV [] zs) G Q E) := by
  refine ⟨fun pins s σ H Q I h => wpAny_Call_Name_kw (ld_glob I hg hm ?_ hdb)⟩
  refine PySem.W.callWith_KW0 (h₀ := X.base) I.ok.mod.kin hk hall (thn (hkw.run u2 pins s σ H _ I h) fun ws t1 ⟨zs, G, J, rz, q⟩ => ⟨J.kIn, ?_⟩) hpl
  rw [hks]
  exact run_fnk (us := []) (vs := []) F hr hb hx J .nil rz q
def gKw (us ws : List Value) : List Value := match us, ws with
  | [], [t, n, p] => [n, p, t]
  | _, _ => []
def gKwV (us ws : List V) : List V := match us, ws with
  | [], [t, n, p] => [n, p, t]
  | _, _ => []
theorem kw_way {K : PySem.W.Frag} {f : Addr} {fd : FuncData} (F : Fun K "way_of" "way_of" sWayOf f fd) : KBinds K fd ["net", "place", "thing"] ["thing", "net", "place"] gKw gKwV := by
  obtain ⟨oc, od, kV, doc, pm, an, cdv, ct, osl, rfl, lk, hcd⟩ := F.ex
  refine ⟨fun s us ws _ hl => ?_, fun {vs us zs ws} r rz => ?_⟩
  · match us, ws, hl with
    | [], [t, n, p], _ => exact .of_eq rfl
  · cases r with
    | nil =>
      match rz with
      | .cons a (.cons b (.cons c .nil)) => exact .cons b (.cons c (.cons a .nil))
      | .nil => exact .nil
      | .cons _ .nil => exact .nil
      | .cons _ (.cons _ .nil) => exact .nil
      | .cons _ (.cons _ (.cons _ (.cons _ _))) => exact .nil
    | cons _ _ => exact .nil
/-! ### said -/
theorem scSaid : FnScope ["_law_call", "_law_e"] ["_law_call"] (defScope sSaid) := ⟨rfl, rfl, rfl, by decide +kernel, rfl, by decide +kernel, by decide +kernel⟩
def TSaid (D : Addr) : (XK → Hp → VK → Prop) → Hp → VK → Prop := fun tl H Q =>
  tl (fun cls d H' => cls = .ref D ∧ d = none ∧ ∀ G t, Same H' G → G t = some (.tup [.str "place"]) → Q (.ref t) G) H fun v G => ([V.str "told", v] : List V).length ≤ sizeLine ∧ ∀ p, G p = none → Q (.ref p) (upd G p (.tup [.str "told", v]))
theorem said_gives {X : Cx} {g cW D fW : Addr} {dW : FuncData} {cdg : Value} {q : Str} {k : Nat} (GW : FnE X.prog X.w X.K X.mg X.base k fW dW ["_law_e"] D spWord) (DW : Df X.K X.mg "_law_word" sWord ["_law_e"] fW dW) (hr : Room (k + 1) X.A)
    (gW : X.mg "WayError" = some (.ref cW)) (eW : PySem.W.exmOne X.K (.ref D) (.ref cW) = some true) : LamX.GivesTo X ["_law_call", "_law_e"] "_law_said" (defScope sSaid) g cdg (defBody sSaid) "_law_call" q (TSaid D) := by
  intro f c' s H Q tl act hc h
  have room : L2H.RoomH k (X.A.deeper (envOfC "_law_said" (defScope sSaid) s.heap.objs.size g cdg)) := L2H.roomH_of (hr.deeper _)
  refine ⟨_, pss_one (ps_try_as (X := (cxOf C8.CX0 X.prog X.w X.K X.mg X.base ["_law_call", "_law_e"] "_law_said" (defScope sSaid) g cdg X.A X.stack s H C8.E0).nox) (c := .ref cW) (i := 1)
      (tb := fun W E σ H => ∃ Ech : XK, (∀ cls d σ' H', Ech cls d H' → W cls d σ' H') ∧ σ[0]? = some (some (.ref f)) ∧ H c' = some (LamX.CodeO c' q) ∧ tl Ech H fun v G => ([V.str "told", v] : List V).length ≤ sizeLine ∧ ∀ p, G p = none → E.rt (.ref p) (upd G p (.tup [.str "told", v])))
      (ts := fun a cls d E σ H => cls = .ref D ∧ d = none ∧ (σ.length = 2 → ∃ v, σ[1]? = some (some v) ∧ spWord a [v] H E.rt)) (Wout := fun _ _ _ _ => False)
      rfl rfl scSaid.nd rfl rfl ⟨rfl, by decide, .inl gW⟩ L2.takes0 (fun W pn xe tk _ => ?_) (fun a oe cls d pn hz hf => ?_)), ?_⟩
  · refine ⟨fun pins s' σ H' E I h' => ?_⟩
    obtain ⟨Ech, hW, h1, h2, h3⟩ := h'
    exact PSs.run (pss_one (ps_ret (pe_tup (pa_cons pe_str (pa_cons (act W pn xe Ech _ _ tk hW) pa_nil))))) pins s' σ H' E I ⟨h1, h2, h3⟩
  · refine ⟨fun pins s' σ H' E I h' => ?_⟩
    obtain ⟨rfl, rfl, h⟩ := h'
    obtain ⟨v, hv, hw⟩ := h I.len
    exact PSs.run (pss_one (ps_ret (pe_callE (X := ((cxOf C8.CX0 X.prog X.w X.K X.mg X.base ["_law_call", "_law_e"] "_law_said" (defScope sSaid) g cdg X.A X.stack s H C8.E0).nox).suite a ((a, oe) :: pn)) (p := (a, oe)) GW ⟨room.dp, room.un⟩ List.mem_cons_self ⟨hz, hf⟩ (by rfl) DW.g DW.F.kp DW.b (pa_cons (pv 1) pa_nil)))) pins s' σ H' E I ⟨v, hv, hw⟩
  · refine ⟨_, fun cls d σ' H' hE => ?_, rfl, hc, h⟩
    obtain ⟨rfl, rfl, hq⟩ := hE
    refine ⟨true, eW, fun _ a _ => ⟨rfl, rfl, fun hl => ⟨.ref a, ?_, rfl, fun G t sm e => hq G t sm e⟩⟩, fun z => nomatch z⟩
    rw [List.length_set] at hl
    rw [List.getElem?_set_self (by omega)]
/-! ### data that stays -/
theorem Same.seqT {K : PySem.W.Frag} {H H' : Hp} {a : Addr} {xs : List V} (e : Same H H') (h : SqT K H a xs) : SqT K H' a xs := by
  rcases h with (h | ⟨o, h⟩) | h
  · exact .inl (.inl (e _ _ h))
  · exact .inl (.inr ⟨o, e _ _ h⟩)
  · exact .inr h
mutual
theorem dp_keep {K : PySem.W.Frag} {H H' : Hp} (s : Same H H') : ∀ {v : V} {d : PyData}, Dp K H v d → Dp K H' v d
  | _, _, .non => .non
  | _, _, .bl b => .bl b
  | _, _, .int i => .int i
  | _, _, .str x => .str x
  | _, _, .lst e a => .lst (Same.seq s e) (dpAll_keep s a)
  | _, _, .tup e a => .tup (Same.seqT s e) (dpAll_keep s a)
theorem dpAll_keep {K : PySem.W.Frag} {H H' : Hp} (s : Same H H') : ∀ {vs : List V} {ds : List PyData}, DpAll K H vs ds → DpAll K H' vs ds
  | _, _, .nil => .nil
  | _, _, .cons a b => .cons (dp_keep s a) (dpAll_keep s b)
end
theorem net_dp {K : PySem.W.Frag} {H : Hp} {a r : Addr} {ts : List Addr} {p : Int} {rs : List Road} (h : NetAt H a r ts p rs) : Dp K H (.ref a) (dNet p rs) := .tup (SqT.of h.1) (.cons (.int p) (.cons (.tup (SqT.of h.2.1) (roads_dp h.2.2)) .nil))
theorem dict_sh {H : Hp} {a : Addr} {kvs : List (PyData × PyData)} (h : DictAt H a kvs) : Sh (.dict kvs) 9000 10 := by
  cases h with
  | nil e => exact ⟨by decide +kernel, by decide +kernel, by decide +kernel⟩
  | one e => exact ⟨by decide +kernel, by decide +kernel, by decide +kernel⟩
theorem DictAt.keep {H H' : Hp} {a : Addr} {kvs : List (PyData × PyData)} (h : DictAt H a kvs) (s : Same H H') : DictAt H' a kvs := by
  cases h with
  | nil e => exact .nil (s _ _ e)
  | one e => exact .one (s _ _ e)
theorem NetAt.same {H H' : Hp} {a r : Addr} {ts : List Addr} {p : Int} {rs : List Road} (h : NetAt H a r ts p rs) (s : Same H H') : NetAt H' a r ts p rs := h.keep fun b xs e => s b _ e
/-- what repr tells of a net and a thing -/
theorem thing_shown {K : PySem.W.Frag} {H : Hp} {v : V} {a r : Addr} {ts : List Addr} {p : Int} {rs : List Road} (h : Thing K H v) (hn : NetAt H a r ts p rs) (ok : NetOk p rs) : ∃ d, Sh d 30000 50 ∧ ∀ (G : Hp) (u : Addr), Same H G → G u = some (.tup [.ref a, v]) → Dr K G (.ref u) d := by
  obtain ⟨o, _, h⟩ := h
  have pair : ∀ e, Sh e 9000 10 → Sh (.tuple [dNet p rs, e]) 30000 50 := fun e he => by
    refine (Sh.tuple (n := 11000) (m := 10) (k := 2) (fun d hd => ?_) (Nat.le_refl _)).mono (by decide) (by decide)
    simp only [List.mem_cons, List.not_mem_nil, or_false] at hd
    rcases hd with rfl | rfl
    · exact (Sh.net ok).mono (by decide) (by decide)
    · exact he.mono (by decide) (by decide)
  rcases h with ⟨d, h1, h2⟩ | ⟨b, kvs, rfl, h1⟩
  · exact ⟨.tuple [dNet p rs, d], pair d h2, fun G u s e => .dp (.tup (SqT.of e) (.cons (net_dp (hn.same s)) (.cons (dp_keep s h1) .nil)))⟩
  · exact ⟨.tuple [dNet p rs, .dict kvs], pair _ (dict_sh h1), fun G u s e => .dct e (hn.same s) (h1.keep s)⟩
/-! ### how great a way's numbers are -/
theorem goes_mem (rs : List Road) {xs : List V} {here : Int} {qs : List Road} (h : goes rs here xs = some qs) : ∀ q ∈ qs, q ∈ rs := fun q hq => by
  obtain ⟨i, hi⟩ := List.mem_iff_getElem?.mp hq
  have hl := goes_len rs h
  have hx : i < xs.length := by
    have := (List.getElem?_eq_some_iff.mp hi).1
    omega
  obtain ⟨n, q', _, e1, e2⟩ := goes_at rs h (List.getElem?_eq_getElem hx)
  rw [hi] at e2
  cases e2
  exact List.mem_of_getElem? e1
theorem sum_le (f : Road → Int) : ∀ qs : List Road, (∀ q ∈ qs, 0 ≤ f q ∧ f q ≤ 99) → 0 ≤ (qs.map f).sum ∧ (qs.map f).sum ≤ 99 * (qs.length : Int)
  | [], _ => ⟨Int.le_refl _, Int.le_refl _⟩
  | q :: r, h => by
    have h1 := h q List.mem_cons_self
    have h2 := sum_le f r fun u hu => h u (List.mem_cons_of_mem _ hu)
    rw [List.map_cons, List.sum_cons, List.length_cons]
    omega
theorem last_le {p : Int} {here : Int} {qs : List Road} (h0 : 0 ≤ here) (h1 : here ≤ p - 1) (h : ∀ q ∈ qs, RoadOk p q) : 0 ≤ lastOf here qs ∧ lastOf here qs ≤ p - 1 := by
  induction qs generalizing here with
  | nil => exact ⟨h0, h1⟩
  | cons q r ih =>
    rw [lastOf_cons]
    have := h q List.mem_cons_self
    exact ih this.t1 this.t2 fun u hu => h u (List.mem_cons_of_mem _ hu)
def dWay (here : Int) : Option (List Road) → PyData
  | none => .none
  | some qs => .tuple [.int (lastOf here qs), .int (costOf qs), .int (timeOf qs)]
theorem way_sh {p here : Int} {rs : List Road} {v : V} {H : Hp} {o : Option (List V)} (ok : NetOk p rs) (h0 : 0 ≤ here) (h1 : here ≤ p - 1) (wh : Wh H v o) : Sh (dWay here (goesO rs here o)) 200 1 := by
  cases e : goesO rs here o with
  | none => exact Sh.none.mono (by decide) (by decide)
  | some qs =>
    cases wh with
    | oth t n => cases e
    | tup eb al hl =>
      rename_i b xs
      have eg : goes rs here xs = some qs := e
      have hq : ∀ q ∈ qs, RoadOk p q := fun q hq => ok.all q (goes_mem rs eg q hq)
      have hlen := goes_len rs eg
      have c := sum_le Road.cost qs fun q h => ⟨by have := (hq q h).c1; omega, (hq q h).c2⟩
      have t := sum_le Road.time qs fun q h => ⟨(hq q h).m1, (hq q h).m2⟩
      have l := last_le h0 h1 hq
      have p2 := ok.p2
      have num : ∀ i : Int, 0 ≤ i → i ≤ 99 * 1000 → Sh (.int i) 40 0 := fun i a b => Sh.int (Nat.lt_of_le_of_lt (show i.natAbs ≤ 99000 by omega) (by decide +kernel))
      refine (Sh.tuple (n := 40) (m := 0) (k := 3) (fun d hd => ?_) (Nat.le_refl _)).mono (by decide) (by decide)
      simp only [List.mem_cons, List.not_mem_nil, or_false] at hd
      rcases hd with rfl | rfl | rfl
      · exact num _ l.1 (by omega)
      · exact num _ c.1 (by unfold costOf; omega)
      · exact num _ t.1 (by unfold timeOf; omega)
/-- what is told of a way, as it lies -/
def WayV (H : Hp) (here : Int) (o : Option (List Road)) (v : V) : Prop := match o with
  | none => v = .non
  | some qs => ∃ t, v = .ref t ∧ H t = some (.tup [.int (lastOf here qs), .int (costOf qs), .int (timeOf qs)])
theorem WayV.same {H H' : Hp} {here : Int} {o : Option (List Road)} {v : V} (h : WayV H here o v) (s : Same H H') : WayV H' here o v := by
  cases o with
  | none => exact h
  | some qs =>
    obtain ⟨t, e, h⟩ := h
    exact ⟨t, e, s _ _ h⟩
theorem WayV.dp {K : PySem.W.Frag} {H : Hp} {here : Int} {o : Option (List Road)} {v : V} (h : WayV H here o v) : Dp K H v (dWay here o) := by
  cases o with
  | none =>
    have e : v = .non := h
    rw [e]
    exact .non
  | some qs =>
    obtain ⟨t, e, h⟩ := h
    rw [e]
    exact .tup (SqT.of h) (.cons (.int _) (.cons (.int _) (.cons (.int _) .nil)))
theorem two_sh {d : PyData} (h : Sh d 200 1) : Sh (.list [d, d]) 30000 50 := by
  refine (Sh.list (n := 200) (m := 1) (k := 2) (fun e he => ?_) (Nat.le_refl _)).mono (by decide) (by decide)
  simp only [List.mem_cons, List.not_mem_nil, or_false] at he
  rcases he with rfl | rfl <;> exact h
end Wy

namespace Wy
open PySem PySem.Spec PyProof.Rows L2
def qLaw : Str := (envOfC "law" (defScope sLaw) 0 0 .none).qual ++ "<lambda>"
theorem scLaw : FnScope ["_law_script", "_law_k", "_law_state_here", "_law_turn", "_law_spot", "_law_walk_here", "_law_some", "_law_lap", "_law_what", "_law_kept", "_law_due", "_law_told", "_law_words", "_law_bad", "_law_web"] ["_law_script"] (defScope sLaw) := ⟨rfl, rfl, rfl, by decide +kernel, rfl, by decide +kernel, by decide +kernel⟩
/-- what is told of a way and whether it is simple, as the law reckons it -/
def DueV (H : Hp) (here : Int) (o : Option (List Road)) (v : V) : Prop := match o with
  | none => v = .non
  | some qs => ∃ t, v = .ref t ∧ H t = some (.tup [.int (lastOf here qs), .int (costOf qs), .int (timeOf qs), .bl (decide (metOf here qs).Nodup)])
theorem DueV.same {H H' : Hp} {here : Int} {o : Option (List Road)} {v : V} (h : DueV H here o v) (s : Same H H') : DueV H' here o v := by
  cases o with
  | none => exact h
  | some qs =>
    obtain ⟨t, e, h⟩ := h
    exact ⟨t, e, s _ _ h⟩
theorem sq_stays {K : PySem.W.Frag} {H H1 : Hp} {a z : Addr} {xs : List V} (h : SqL K H a xs) (s : Same H H1) (nz : H z = none) : ∀ G, Keep z H1 G → SqL K G a xs := fun G k => by
  rcases h with (h | ⟨o, h⟩) | h
  · exact .inl (.inl (k _ _ (s _ _ h) (ne_of_none h nz)))
  · exact .inl (.inr ⟨o, k _ _ (s _ _ h) (ne_of_none h nz)⟩)
  · exact .inr h
theorem tabs_stay {T : List (Addr × Str)} {H H1 : Hp} {z : Addr} (h : LamX.Tabs T H) (s : Same H H1) (nz : H z = none) : ∀ G, Keep z H1 G → LamX.Tabs T G := fun G k p hp => by
  obtain ⟨ps, h1, h2, h3⟩ := h p hp
  refine ⟨ps, k _ _ (s _ _ h1) (ne_of_none h1 nz), h2, fun pos cv hc => ?_⟩
  obtain ⟨c, e1, e2⟩ := h3 pos cv hc
  exact ⟨c, e1, k _ _ (s _ _ e2) (ne_of_none e2 nz)⟩
/-- all but the state and the list at D stay -/
def Keep2 (z D : Addr) (H H' : Hp) : Prop := ∀ b o, H b = some o → b ≠ z → b ≠ D → H' b = some o
def ThingD (z D : Addr) (K : PySem.W.Frag) (H : Hp) (v : V) : Prop := ∀ G, Keep2 z D H G → Thing K G v
theorem ThingD.keep {z D : Addr} {K : PySem.W.Frag} {H H' : Hp} {v : V} (h : ThingD z D K H v) (k : Keep2 z D H H') : ThingD z D K H' v := fun G k' => h G fun b o e n m => k' b o (k b o e n m) n m
theorem ThingX.d {z D : Addr} {K : PySem.W.Frag} {H G : Hp} {v : V} {xs : List V} (h : ThingX H z K G v) (eD : H D = some (.lst xs)) (eG : G D = some (.lst xs)) : ThingD z D K G v := fun G' k => h G' fun b o e n m => k b o e n (by
  rcases m with m | ⟨ys, rfl⟩
  · exact (ne_of_none eD m).symm
  · exact ne_of e eG fun q => nomatch q)
theorem ext_sq {K : PySem.W.Frag} {H G : Hp} {a : Addr} {xs : List V} (h : SqL K H a xs) (e : LamX.ExtN H G) : SqL K G a xs := by
  rcases h with (h | ⟨o, h⟩) | h
  · exact .inl (.inl (e _ _ h fun _ q => nomatch q))
  · exact .inl (.inr ⟨o, e _ _ h fun _ q => nomatch q⟩)
  · exact .inr h
section
variable {P : Program} {w : World} {K : PySem.W.Frag} {mg : Str → Option Value} {base : Heap} {C : Nat → Addr} {cT cN : Addr}
variable {f1 f2 f3 f4 f5 f6 : Addr} {d1 d2 d3 d4 d5 d6 : FuncData}
set_option maxHeartbeats 4000000 in
theorem law_reads {fCo fTw : Addr} {dCo dTw : FuncData} {fL fN fP fW fI fSt fCe fTk fNe fWk fOd fTo fSp fNu fMa fWd fSa cW c Pt a : Addr} {dN dP dW dI dSt dCe dTk dNe dWk dOd dTo dSp dNu dMa dWd dSa : FuncData} {cdv : Value} {s : Shared} {H : Hp} {ns : List Int}
    (S : Sm K mg f1 f2 f3 f4 f5 f6 d1 d2 d3 d4 d5 d6) (Z : Cl K mg C cT cN) (ZP : Ex K mg "NoPlace" (C 1)) (DN : Df K mg "check_net" sChkN ["thing"] fN dN) (DP : Df K mg "check_place" sChkP ["net", "thing"] fP dP) (DCo : Df K mg "cost_along" sCostA ["net", "way"] fCo dCo) (DTw : Df K mg "is_at_none_twice" sTwice ["along"] fTw dTw) (DW : Df K mg "way_of" sWayOf ["net", "place", "thing"] fW dW) (DI : Df K mg "is_simple" sSimple ["net", "place", "thing"] fI dI)
    (DSt : Df K mg "_law_state" sState ["_law_script", "_law_k"] fSt dSt) (DCe : Df K mg "_law_cell_at" sCell ["_law_script", "_law_k"] fCe dCe) (DTk : Df K mg "_law_take" sTake ["_law_state_here", "_law_much"] fTk dTk) (DNe : Df K mg "_law_net" sNet ["_law_state_here", "_law_most", "_law_roads"] fNe dNe)
    (DWk : Df K mg "_law_walk" sWalk ["_law_state_here", "_law_web", "_law_spot", "_law_most"] fWk dWk) (DOd : Df K mg "_law_odd" sOdd ["_law_state_here"] fOd dOd) (DTo : Df K mg "_law_told_way" sTold ["_law_web", "_law_spot", "_law_what"] fTo dTo) (DSp : Df K mg "_law_spoilt" sSpoilt ["_law_state_here", "_law_what", "_law_deep"] fSp dSp)
    (DNu : Df K mg "_law_number" sNum ["_law_what", "_law_least", "_law_most"] fNu dNu) (DMa : Df K mg "_law_marks" sMarks ["_law_e"] fMa dMa) (DWd : Df K mg "_law_word" sWord ["_law_e"] fWd dWd) (DSa : Df K mg "_law_said" sSaid ["_law_call"] fSa dSa)
    (mR : mg "range" = none) (mMx : mg "max" = none) (mMn : mg "min" = none) (mLi : mg "list" = none) (mRe : mg "repr" = none) (mEn : mg "enumerate" = none) (mV : mg "ValueError" = none) (gW : mg "WayError" = some (.ref cW)) (eW : PySem.W.exmOne K (.ref (C 1)) (.ref cW) = some true)
    (TB : LamX.TabB base mg c Pt) (hc : cdv = .ref c) (hr : Room 10 (callerA.deeper (envOfC "law" (defScope sLaw) s.heap.objs.size fL cdv))) (hPt : H Pt = some (.tbl #[])) (hS : SqL K H a (ns.map V.int)) :
    ∃ t, PSs (cxOf CX0 P w K mg base ["_law_script", "_law_k", "_law_state_here", "_law_turn", "_law_spot", "_law_walk_here", "_law_some", "_law_lap", "_law_what", "_law_kept", "_law_due", "_law_told", "_law_words", "_law_bad", "_law_web"] "law" (defScope sLaw) fL cdv callerA [] s H E0).nox (defBody sLaw) t ∧ t { nx := fun _ _ => V.non = .bl true, rt := fun v _ => v = .bl true } (L2.start ["_law_script", "_law_k", "_law_state_here", "_law_turn", "_law_spot", "_law_walk_here", "_law_some", "_law_lap", "_law_what", "_law_kept", "_law_due", "_law_told", "_law_words", "_law_bad", "_law_web"] [.ref a]) H := by
  have hr8 := hr.mono (show 8 ≤ 10 by decide)
  have hcode : (cxOf CX0 P w K mg base ["_law_script", "_law_k", "_law_state_here", "_law_turn", "_law_spot", "_law_walk_here", "_law_some", "_law_lap", "_law_what", "_law_kept", "_law_due", "_law_told", "_law_words", "_law_bad", "_law_web"] "law" (defScope sLaw) fL cdv callerA [] s H E0).nox.env.code = .ref c := hc
  have GSt : FnOk P w K mg base CX0 8 fSt dSt ["_law_script", "_law_k"] (spState K) := ok_state (k := 6) DSt DCe S.ml mMx
  have GTk : FnOk P w K mg base CX0 8 fTk dTk ["_law_state_here", "_law_much"] spTake := ok_take (k := 7) DTk
  have GNe : FnOk P w K mg base CX0 8 fNe dNe ["_law_state_here", "_law_most", "_law_roads"] spNet := ok_net (k := 6) DTk mR S.mT DNe
  have GWk : FnOk P w K mg base CX0 8 fWk dWk ["_law_state_here", "_law_web", "_law_spot", "_law_most"] spWalk := ok_walk (k := 6) DTk mR S.mT mEn S.ml DWk
  have GOd : FnOk P w K mg base CX0 8 fOd dOd ["_law_state_here"] (spOdd K) := ok_odd (k := 6) DTk DOd
  have GTo : FnOk P w K mg base CX0 8 fTo dTo ["_law_web", "_law_spot", "_law_what"] spTold := ok_told (k := 6) S DNu DTo
  have GSp : FnOk P w K mg base CX0 8 fSp dSp ["_law_state_here", "_law_what", "_law_deep"] (spSpoilt K) := ok_spoilt (k := 6) DTk S.ml mLi S.mi S.mI DSp
  have GW : FnOk P w K mg base (L2.CX P w) 8 fW dW ["net", "place", "thing"] (spWayOf (C 1)) := ok_wayOf (k := 2) S DN DP DCo ZP DW
  have GI : FnOk P w K mg base (L2.CX P w) 8 fI dI ["net", "place", "thing"] (spSimple (C 1)) := ok_simple (k := 2) S DN DP DTw ZP DI
  have GWd : FnE P w K mg base 7 fWd dWd ["_law_e"] (C 1) spWord := ok_word (k := 5) Z S.mi mV DMa DWd
  obtain ⟨ocS, odS, kVS, docS, pmS, anS, cdS, ctS, slS, rfl, lkS, hcS⟩ := DSa.F.ex
  refine ⟨_, (pss_cons (ps_for PassesOwn.never rfl (pi_range1 (by rfl) mR (pa_cons (pe_callB (call_max2 rfl) (by rfl) mMx (by decide +kernel) (pa_cons pe_int (pa_cons (pe_callB (call_min2 rfl) (by rfl) mMn (by decide +kernel) (pa_cons (pe_callB call_len_seq (by rfl) S.ml PySem.boot_len (pa_cons (pv 0) pa_nil)) (pa_cons pe_int pa_nil))) pa_nil))) pa_nil)) (pg_name (i := 1) scLaw.nd rfl (.inl rfl))
    (pss_cons (ps_set (i := 2) scLaw.nd rfl (.inr rfl) (pe_call GSt hr8 (by rfl) DSt.g DSt.F.kp DSt.b .nil pass0 (pa_cons (pv 0) (pa_cons (pv 1) pa_nil))))
    (pss_cons (ps_for PassesOwn.never rfl (pi_range1 (by rfl) mR (pa_cons pe_int pa_nil)) (pg_name (i := 3) scLaw.nd rfl (.inl rfl))
    (pss_cons (ps_set (i := 14) scLaw.nd rfl (.inr rfl) (pe_call GNe hr8 (by rfl) DNe.g DNe.F.kp DNe.b .nil pass0 (pa_cons (pv 2) (pa_cons (pe_ix ix_list (pe_lst (pa_cons pe_int (pa_cons pe_int pa_nil))) (pe_call GTk hr8 (by rfl) DTk.g DTk.F.kp DTk.b .nil pass0 (pa_cons (pv 2) (pa_cons pe_int pa_nil))) (fun _ _ => rfl)) (pa_cons pe_int pa_nil)))))
    (pss_cons (ps_set (i := 4) scLaw.nd rfl (.inl rfl) (pe_call GTk hr8 (by rfl) DTk.g DTk.F.kp DTk.b .nil pass0 (pa_cons (pv 2) (pa_cons (pe_ix ix_tup (pv 14) pe_int (fun _ _ => rfl)) pa_nil))))
    (pss_cons (ps_set (i := 5) scLaw.nd rfl (.inr rfl) (pe_call GWk hr8 (by rfl) DWk.g DWk.F.kp DWk.b .nil pass0 (pa_cons (pv 2) (pa_cons (pv 14) (pa_cons (pv 4) (pa_cons pe_int pa_nil))))))
    (pss_cons (ps_set (i := 6) scLaw.nd rfl (.inl rfl) (pe_lst (pa_cons (pv 5) (pa_cons (pe_tup pa_nil) (pa_cons (pe_callTy call_list_of (by rfl) mLi (by decide +kernel) (pa_cons (pv 5) pa_nil)) (pa_cons (pe_op op_catB (pv 5) (pv 5)) (pa_cons (pe_backT (pv 5)) (pa_cons (pe_slice sl_tupB (pv 5) po_none (po_some (pe_un un_neg pe_int))) (pa_cons (pe_call GOd hr8 (by rfl) DOd.g DOd.F.kp DOd.b .nil pass0 (pa_cons (pv 2) pa_nil)) (pa_cons (pe_op op_catB (pv 5) (pe_tup (pa_cons (pe_un un_neg pe_int) pa_nil))) pa_nil))))))))))
    (pss_cons (ps_expr (pe_bm PySem.F.plainAttrs_list PySem.F.slot_list_append PySem.F.type_list_append mt_append (pv 6) (pa_cons (pe_op op_catB (pv 5) (pe_tup (pa_cons (pe_callB call_len_seq (by rfl) S.ml PySem.boot_len (pa_cons (pe_ix ix_tup (pv 14) pe_int (fun _ _ => rfl)) pa_nil)) pa_nil))) pa_nil)))
    (pss_one (ps_for PassesOwn.never rfl (pi_list (pe_op op_cat (pv 6) (pe_lc (own := [("_law_lap", 7)]) (g := gName 7) (tt := tYes) rfl scLaw.nd (pi_range1 (by rfl) mR (pa_cons pe_int pa_nil)) (blkOk_by (N := ["_law_script", "_law_k", "_law_state_here", "_law_turn", "_law_spot", "_law_walk_here", "_law_some", "_law_lap", "_law_what", "_law_kept", "_law_due", "_law_told", "_law_words", "_law_bad", "_law_web"]) (sc := defScope sLaw) (by decide +kernel)) (fun _ _ _ _ _ => pg_name (i := 7) scLaw.nd rfl (.inl rfl)) (fun _ _ _ _ _ => pts_nil) (fun _ _ _ _ _ => pe_call GSp hr8 (by rfl) DSp.g DSp.F.kp DSp.b .nil pass0 (pa_cons (pv 2) (pa_cons (pv 5) (pa_cons pe_int pa_nil))))))) (pg_name (i := 8) scLaw.nd rfl (.inl rfl))
    (pss_cons (ps_par (i := 9) (j := 10) (by rfl) scLaw.nd rfl rfl (by decide) rfl rfl (pa_cons (pe_callB (call_reprD (by rfl) hr.units) (by rfl) mRe (by decide +kernel) (pa_cons (pe_tup (pa_cons (pv 14) (pa_cons (pv 8) pa_nil))) pa_nil)) (pa_cons (pe_cut (pe_call GTo hr8 (by rfl) DTo.g DTo.F.kp DTo.b .nil pass0 (pa_cons (pv 14) (pa_cons (pv 4) (pa_cons (pv 8) pa_nil))))) pa_nil)) (by rfl))
    (pss_cons (ps_set (i := 11) scLaw.nd rfl (.inl rfl) (pe_cut (pe_ifExp (pt_cmpR op_isN (pv 10) pe_non (nomark _)) pe_non (pe_slice sl_tupB (pv 10) po_none (po_some pe_int)))))
    (pss_cons (ps_for PassesOwn.never rfl (pi_range1 (by rfl) mR (pa_cons pe_int pa_nil)) (pg_name (i := 7) scLaw.nd rfl (.inl rfl))
    (pss_cons (ps_if (pt_cmpR op_ne (pe_callB (call_reprD (by rfl) hr.units) (by rfl) mRe (by decide +kernel) (pa_cons (pe_lst (pa_cons (pe_cut (pe_call GW hr8 (by rfl) DW.g DW.F.kp DW.b .nil passL (pa_cons (pv 14) (pa_cons (pv 4) (pa_cons (pv 8) pa_nil))))) (pa_cons (pe_cut (pe_callK0 GW hr8 (by rfl) DW.g DW.F.kp (kw_way DW.F) passL (pk_cons (pv 8) (pk_cons (pv 14) (pk_cons (pv 4) pk_nil))))) pa_nil))) pa_nil)) (pe_callB (call_reprD (by rfl) hr.units) (by rfl) mRe (by decide +kernel) (pa_cons (pe_op op_rep (pe_lst (pa_cons (pv 11) pa_nil)) pe_int) pa_nil)) (nomark _)) (pss_one (ps_ret pe_bl)) pss_nil)
    (pss_one (ps_if (pt_cmpR op_ne (pe_callB (call_reprD (by rfl) hr.units) (by rfl) mRe (by decide +kernel) (pa_cons (pe_cut (pe_call GI hr8 (by rfl) DI.g DI.F.kp DI.b .nil passL (pa_cons (pv 14) (pa_cons (pv 4) (pa_cons (pv 8) pa_nil))))) pa_nil)) (pe_callB (call_reprD (by rfl) hr.units) (by rfl) mRe (by decide +kernel) (pa_cons (pe_cut (pe_and (pe_cmpR op_notN (pv 10) pe_non (nomark _)) (pe_one (pe_ix ix_tup (pv 10) pe_int (fun _ _ => rfl))))) pa_nil)) (nomark _)) (pss_one (ps_ret pe_bl)) pss_nil))))
    (pss_one (ps_if (pt_cmpR op_ne (pe_callB (call_reprD (by rfl) hr.units) (by rfl) mRe (by decide +kernel) (pa_cons (pe_tup (pa_cons (pv 14) (pa_cons (pv 8) pa_nil))) pa_nil)) (pv 9) (nomark _)) (pss_one (ps_ret pe_bl)) pss_nil)))))))))))))
    (pss_one (ps_for PassesOwn.never rfl (pi_list (pe_lst (pa_cons (pe_un un_neg pe_int) (pa_cons (pe_ix ix_tup (pv 14) pe_int (fun _ _ => rfl)) (pa_cons pe_non (pa_cons pe_bl (pa_cons pe_str (pa_cons (pe_tup (pa_cons pe_int pa_nil)) (pa_cons (pe_op op_pow pe_int pe_int) pa_nil))))))))) (pg_name (i := 13) scLaw.nd rfl (.inr rfl))
    (pss_cons (ps_set (i := 12) scLaw.nd rfl (.inl rfl) (pe_lst (pa_cons (LamX.pe_lamcall (T := [(Pt, qLaw)]) (TT := TSaid (C 1)) (Ng := ["_law_call", "_law_e"]) (k := 8) (by rfl) DSa.g DSa.F.kp lkS hcS DSa.b scSaid rfl (.inl rfl) (said_gives GWd DWd hr8 gW eW) TB hcode (List.mem_singleton.mpr rfl) (fun p hp _ => by rw [List.mem_singleton.mp hp]; rfl) hr (LamX.lamS_by (sc := defScope sLaw) (by decide +kernel)) rfl (fun _ _ _ _ _ => rfl) (fun A outer s H E f2 c2 hr2 => pe_call GW hr2 (by rfl) DW.g DW.F.kp DW.b .nil (passes_call (takes_of rfl rfl rfl rfl) fun _ _ _ _ h => h) (pa_cons (pv 14) (pa_cons (pv 13) (pa_cons pe_non pa_nil))))) pa_nil)))
    (pss_one (ps_if (pt_cmpR (op_neD hr.units) (pe_op op_cat (pv 12) (pe_lst (pa_cons (LamX.pe_lamcall (T := [(Pt, qLaw)]) (TT := TSaid (C 1)) (Ng := ["_law_call", "_law_e"]) (k := 8) (by rfl) DSa.g DSa.F.kp lkS hcS DSa.b scSaid rfl (.inl rfl) (said_gives GWd DWd hr8 gW eW) TB hcode (List.mem_singleton.mpr rfl) (fun p hp _ => by rw [List.mem_singleton.mp hp]; rfl) hr (LamX.lamS_by (sc := defScope sLaw) (by decide +kernel)) rfl (fun _ _ _ _ _ => rfl) (fun A outer s H E f2 c2 hr2 => pe_call GI hr2 (by rfl) DI.g DI.F.kp DI.b .nil (passes_call (takes_of rfl rfl rfl rfl) fun _ _ _ _ h => h) (pa_cons (pv 14) (pa_cons (pv 13) (pa_cons (pe_tup pa_nil) pa_nil))))) pa_nil))) (pe_op op_rep (pe_lst (pa_cons (pe_tup (pa_cons pe_str pa_nil)) pa_nil)) pe_int) (nomark _)) (pss_one (ps_ret pe_bl)) pss_nil))))))))
    (pss_one (ps_ret pe_bl))), ?_⟩

  -- range(max(1, min(len(script), 4)))
  have len0 : (0 : Int) ≤ ((ns.map V.int).length : Int) := Int.natCast_nonneg _
  refine ⟨.ref a, rfl, a, _, rfl, .inl hS, _, 4, rfl, 1, _, rfl, _, rfl, by split <;> split <;> omega, by split <;> split <;> omega, ?_⟩
  have T0 : LamX.Tabs [(Pt, qLaw)] H := fun p hp => by
    rw [List.mem_singleton.mp hp]
    exact LamX.TabS.nil hPt
  refine for_range (lo := 0) (fun _ σ H' => ∃ y1 y2 y3 y4 y5 y6 y7 y8 y9 y10 y11 y12 y13 y14 : Option V, σ = [some (.ref a), y1, y2, y3, y4, y5, y6, y7, y8, y9, y10, y11, y12, y13, y14] ∧ LamX.Tabs [(Pt, qLaw)] H' ∧ SqL K H' a (ns.map V.int)) ⟨none, none, none, none, none, none, none, none, none, none, none, none, none, none, rfl, T0, hS⟩ (fun i σ H' hi h => ?_) (fun σ H' h => ?_)
  · obtain ⟨y1, y2, y3, y4, y5, y6, y7, y8, y9, y10, y11, y12, y13, y14, rfl, hTb, hSq⟩ := h
    -- the state
    refine ⟨.ref a, rfl, .int (0 + (i : Int)), rfl, a, ns, i, (by show [V.ref a, V.int (0 + (i : Int))] = _; rw [Int.zero_add]), hSq, fun Hz z sz nz stz => ?_⟩
    have tabs := tabs_stay hTb sz nz
    have sq := sq_stays hSq sz nz
    -- the turns
    refine ⟨3, rfl, by decide, by decide, ?_⟩
    refine for_range (lo := 0) (n := 3) (fun j σ H' => ∃ y3 y4 y5 y6 y7 y8 y9 y10 y11 y12 y13 y14 : Option V, σ = [some (.ref a), some (.int (0 + (i : Int))), some (.ref z), y3, y4, y5, y6, y7, y8, y9, y10, y11, y12, y13, y14] ∧ Keep z Hz H' ∧ StOk H' z ∧ (0 < j → ∃ w r ts p rs, y14 = some (.ref w) ∧ NetAt H' w r ts p rs ∧ NetOk p rs)) ⟨y3, y4, y5, y6, y7, y8, y9, y10, y11, y12, y13, y14, rfl, Keep.refl _ _, stz, fun z => absurd z (Nat.lt_irrefl 0)⟩ (fun j σ H' hj h => ?_) (fun σ H' h => ?_)
    · obtain ⟨y3, y4, y5, y6, y7, y8, y9, y10, y11, y12, y13, y14, rfl, kz, st, _⟩ := h
      -- web
      refine ⟨.ref z, rfl, by show 2 ≤ sizeLine; decide, fun l nl => ⟨.ref z, rfl, z, 2, rfl, st.same (same_new nl), by decide, by decide, fun H2 n k2 st2 n0 n1 => ?_⟩⟩
      have lz : l ≠ z := (st.ne nl).symm
      obtain ⟨v, hv, ev⟩ := pick (xs := [V.int 3, V.int 10]) n0 (show n < 2 from n1)
      obtain ⟨mm, rfl, mm1, mm2⟩ : ∃ mm, v = .int mm ∧ 0 < mm ∧ mm ≤ 10 := by
        simp only [List.mem_cons, List.not_mem_nil, or_false] at hv
        rcases hv with rfl | rfl
        · exact ⟨3, rfl, by decide, by decide⟩
        · exact ⟨10, rfl, by decide, by decide⟩
      refine ⟨l, _, n, _, rfl, rfl, SqL.of (k2 _ _ upd_same lz), ev, z, mm, rfl, st2, mm1, mm2, fun H3 w r ts p rs k3 st3 hN ok => ?_⟩
      -- spot
      refine ⟨.ref z, rfl, .ref w, rfl, w, _, 0, _, rfl, rfl, SqT.of hN.1, rfl, z, p, rfl, st3, by have := ok.p1; omega, by have := ok.p2; omega, fun H4 sp k4 st4 sp0 sp1 => ?_⟩
      have hN4 := hN.keep (k4.tups st3)
      -- walk
      refine ⟨.ref z, rfl, .ref w, rfl, .int sp, rfl, z, w, r, ts, p, rs, sp, rfl, st4, hN4, ok, fun H5 b ms k5 st5 nb eb hl hms => ?_⟩
      have hN5 := hN4.keep (k5.tups st4)
      have k05 : Keep z Hz H5 := kz.trans ((Keep.new nl).trans (k2.trans (k3.trans (k4.trans k5))))
      have hms' : ∀ m ∈ ms, m.natAbs ≤ 100 := fun m hm => by
        have := hms m hm
        have := ok.len
        omega
      have lm : (ms.map V.int).length ≤ 12 := by rw [List.length_map]; exact hl
      have cl : ∀ lo hi, (cutV (ms.map V.int) lo hi).length ≤ 12 := fun lo hi => Nat.le_trans (cutV_length _ _ _) lm
      -- some
      refine ⟨.ref b, rfl, Nat.zero_le _, fun a1 n1 => ?_⟩
      have t1 := same_new (H := H5) (o := .tup []) n1
      refine ⟨.ref b, rfl, b, _, rfl, .inr (SqT.of (t1 _ _ eb)), fun l2 n2 => ?_⟩
      have u2 := same_new (H := upd H5 a1 (.tup [])) (o := .lst (ms.map V.int)) n2
      have t2 := t1.trans u2
      refine ⟨.ref b, rfl, .ref b, rfl, b, b, _, _, rfl, rfl, t2 _ _ eb, t2 _ _ eb, by omega, fun c3 G3 w3 f3 => ?_⟩
      have t3 := t2.trans w3
      refine ⟨.ref b, rfl, b, _, rfl, SqT.of (t3 _ _ eb), fun l4 n4 => ?_⟩
      have u4 := same_new (H := G3) (o := .tup (ms.map V.int).reverse) n4
      have t4 := t3.trans u4
      refine ⟨.ref b, rfl, 1, rfl, -1, rfl, b, _, rfl, t4 _ _ eb, fun c5 G5 w5 f5 => ?_⟩
      have t5 := t4.trans w5
      refine ⟨.ref z, rfl, z, rfl, st5.same t5, fun G6 v6 k6 st6 th6 => ?_⟩
      have k56 : Keep z H5 G6 := (Keep.of t5).trans k6
      have eb6 : G6 b = some (.tup (ms.map V.int)) := k56.tups st5 _ _ eb
      refine ⟨.ref b, rfl, 1, rfl, by show 1 ≤ sizeLine; decide, fun l7 n7 => ?_⟩
      have u7 := same_new (H := G6) (o := .tup [.int (-1)]) n7
      refine ⟨b, l7, _, _, rfl, rfl, u7 _ _ eb6, upd_same, by simp only [List.length_singleton]; omega, fun c8 G8 w8 f8 => ⟨by show 8 ≤ sizeLine; decide, fun L nL => ?_⟩⟩
      have u8 := u7.trans w8
      have uL := same_new (H := G8) (o := .lst [.ref b, .ref a1, .ref l2, .ref c3, .ref l4, .ref c5, v6, .ref c8]) nL
      have st8 : StOk G8 z := st6.same u8
      have Lz : L ≠ z := (st8.ne nL).symm
      have k5L : Keep z H5 (upd G8 L (.lst [.ref b, .ref a1, .ref l2, .ref c3, .ref l4, .ref c5, v6, .ref c8])) := (k56.trans (.of u8)).trans (.of uL)
      have hNL := hN5.keep (k5L.tups st5)
      have ebL := k5L.tups st5 _ _ eb
      -- append
      refine ⟨.ref L, rfl, .inl ⟨rfl, _, SqL.of upd_same⟩, .ref b, rfl, .ref w, rfl, w, _, 1, _, rfl, rfl, SqT.of hNL.1, rfl, r, _, rfl, .inr (SqT.of hNL.2.1), by show 1 ≤ sizeLine; decide, fun l9 n9 => ?_⟩
      have u9 := same_new (H := upd G8 L (.lst [.ref b, .ref a1, .ref l2, .ref c3, .ref l4, .ref c5, v6, .ref c8])) (o := .tup [.int ((ts.map V.ref).length : Int)]) n9
      refine ⟨b, l9, _, _, rfl, rfl, u9 _ _ ebL, upd_same, by simp only [List.length_singleton]; omega, fun c10 G10 w10 f10 => ?_⟩
      have u10 := u9.trans w10
      refine ⟨L, _, _, rfl, rfl, u10 _ _ upd_same, by show 8 < sizeLine; decide, ?_⟩
      have k10 : Keep z H5 G10 := k5L.trans (.of u10)
      have st10 : StOk G10 z := (st8.same uL).same u10
      have uF : ∀ {bb : Addr} {o : HO}, G10 bb = some o → bb ≠ L → (upd G10 L (.lst ([.ref b, .ref a1, .ref l2, .ref c3, .ref l4, .ref c5, v6, .ref c8] ++ [.ref c10]))) bb = some o := fun e n => by
        rw [upd_ne n]
        exact e
      have stF : StOk (upd G10 L (.lst ([.ref b, .ref a1, .ref l2, .ref c3, .ref l4, .ref c5, v6, .ref c8] ++ [.ref c10]))) z := by
        obtain ⟨xx, yy, e1, e2⟩ := st10
        exact ⟨xx, yy, uF e1 Lz.symm, e2⟩
      have kF : Keep z H5 (upd G10 L (.lst ([.ref b, .ref a1, .ref l2, .ref c3, .ref l4, .ref c5, v6, .ref c8] ++ [.ref c10]))) := fun bb o e hz => uF (k10 _ _ e hz) (ne_of_none ((k56.trans (.of u8)) _ _ e hz) nL)
      -- from a heap on the way to the end of the list
      have kG6 : Keep z G6 (upd G10 L (.lst ([.ref b, .ref a1, .ref l2, .ref c3, .ref l4, .ref c5, v6, .ref c8] ++ [.ref c10]))) := fun bb o e hz => uF (u10 _ _ (uL _ _ (u8 _ _ e))) (ne_of_none (u8 _ _ e) nL)
      have things : ∀ v ∈ [.ref b, .ref a1, .ref l2, .ref c3, .ref l4, .ref c5, v6, .ref c8, V.ref c10], ThingS z K (upd G10 L (.lst ([.ref b, .ref a1, .ref l2, .ref c3, .ref l4, .ref c5, v6, .ref c8] ++ [.ref c10]))) v := by
        have tupF : ∀ {bb : Addr} {ys : List V}, G6 bb = some (.tup ys) → (upd G10 L (.lst ([.ref b, .ref a1, .ref l2, .ref c3, .ref l4, .ref c5, v6, .ref c8] ++ [.ref c10]))) bb = some (.tup ys) := fun e => kG6.tups st6 _ _ e
        have from5 : ∀ {bb : Addr} {ys : List V}, G5 bb = some (.tup ys) → G6 bb = some (.tup ys) := fun e => k6.tups (st5.same t5) _ _ e
        intro v hv
        simp only [List.mem_cons, List.not_mem_nil, or_false] at hv
        rcases hv with rfl | rfl | rfl | rfl | rfl | rfl | rfl | rfl | rfl
        · exact thingS_tup stF (tupF eb6) (walk_at hms') (by omega)
        · exact thingS_tup stF (tupF (from5 (w5 _ _ (u4 _ _ (w3 _ _ (u2 _ _ upd_same)))))) (fun _ h => nomatch h) (by decide)
        · have l2z : l2 ≠ z := ((st5.same t1).ne n2).symm
          exact thingS_lst stF (kG6 _ _ (k6 _ _ (w5 _ _ (u4 _ _ (w3 _ _ upd_same))) l2z) l2z) l2z (walk_at hms') (by omega)
        · refine thingS_tup stF (tupF (from5 (w5 _ _ (u4 _ _ f3)))) (fun y hy => ?_) (by rw [List.length_append]; omega)
          rcases List.mem_append.mp hy with h | h <;> exact walk_at hms' y h
        · exact thingS_tup stF (tupF (from5 (w5 _ _ upd_same))) (fun y hy => walk_at hms' y (List.mem_reverse.mp hy)) (by rw [List.length_reverse]; omega)
        · exact thingS_tup stF (tupF (from5 f5)) (fun y hy => walk_at hms' y (cut_mem hy)) (by have := cl none (some (-1)); omega)
        · exact (ThingX.st (H0 := G5) th6).keep kG6
        · have c8L : c8 ≠ L := ne_of_none f8 nL
          refine thingS_tup stF (uF (u10 _ _ (uL _ _ f8)) c8L) (fun y hy => ?_) (by rw [List.length_append, List.length_singleton]; omega)
          rcases List.mem_append.mp hy with h | h
          · exact walk_at hms' y h
          · rw [List.mem_singleton.mp h]
            exact .int (by decide +kernel)
        · have c10L : c10 ≠ L := ne_of f10 (u10 _ _ upd_same) (fun q => nomatch q)
          refine thingS_tup stF (uF f10 c10L) (fun y hy => ?_) (by rw [List.length_append, List.length_singleton]; omega)
          rcases List.mem_append.mp hy with h | h
          · exact walk_at hms' y h
          · rw [List.mem_singleton.mp h]
            have l30 := ok.len
            have lt := hN5.2.2.len
            refine .int (small_of ?_)
            rw [List.length_map]
            omega
      -- the spoilt ones
      refine ⟨.ref L, rfl, 5, rfl, by decide, by decide, fun D nD => ?_⟩
      have Dz : D ≠ z := (stF.ne nD).symm
      have LD : L ≠ D := ne_of_none upd_same nD
      refine lc_range (lo := 0) (n := 5) (fun q G => Keep z (upd G10 L (.lst ([.ref b, .ref a1, .ref l2, .ref c3, .ref l4, .ref c5, v6, .ref c8] ++ [.ref c10]))) G ∧ StOk G z ∧ ∃ vs5 : List V, G D = some (.lst vs5) ∧ vs5.length = q ∧ ∀ v ∈ vs5, ThingD z D K G v)
        ⟨Keep.new nD, stF.same (same_new nD), [], upd_same, rfl, fun _ h => nomatch h⟩ (fun q G hq h => ?_) (fun G h => ?_)
      · obtain ⟨kG, sG, vs5, eD, lD, hvs⟩ := h
        refine ⟨rfl, ?_⟩
        unfold tYes
        dsimp only
        rw [if_pos rfl]
        refine ⟨.ref z, rfl, .ref b, rfl, z, b, ms, rfl, sG, (kF.trans kG).tups st5 _ _ eb, hl, hms', fun G' v k' s' th => ?_⟩
        have eD' := k' _ _ eD Dz
        have k2 : Keep2 z D G (upd G' D (.lst (vs5 ++ [v]))) := fun bb o e hz hd => by
          rw [upd_ne hd]
          exact k' _ _ e hz
        have k3 : Keep2 z D G' (upd G' D (.lst (vs5 ++ [v]))) := fun bb o e hz hd => by
          rw [upd_ne hd]
          exact e
        refine ⟨_, eD', small1000 (by omega), fun bb o e hz => ?_, ?_, vs5 ++ [v], upd_same, by rw [List.length_append, lD]; rfl, fun u hu => ?_⟩
        · rw [upd_ne (ne_of_none e nD)]
          exact k' _ _ (kG _ _ e hz) hz
        · obtain ⟨xx, yy, e1, e2⟩ := s'
          exact ⟨xx, yy, by rw [upd_ne Dz.symm]; exact e1, e2⟩
        · rcases List.mem_append.mp hu with h | h
          · exact (hvs u h).keep k2
          · rw [List.mem_singleton.mp h]
            exact (th.d eD eD').keep k3
      · obtain ⟨kG, sG, vs5, eD, lD, hvs⟩ := h
        have eL : G L = some (.lst ([.ref b, .ref a1, .ref l2, .ref c3, .ref l4, .ref c5, v6, .ref c8] ++ [.ref c10])) := kG _ _ upd_same Lz
        refine ⟨L, D, _, _, rfl, rfl, eL, eD, by simp only [List.length_append, List.length_cons, List.length_nil, lD]; decide, fun M nM => ?_⟩
        have sM := same_new (H := G) (o := .lst (([.ref b, .ref a1, .ref l2, .ref c3, .ref l4, .ref c5, v6, .ref c8] ++ [.ref c10]) ++ vs5)) nM
        obtain ⟨H0, hH0⟩ : ∃ H0, H0 = upd G M (.lst (([.ref b, .ref a1, .ref l2, .ref c3, .ref l4, .ref c5, v6, .ref c8] ++ [.ref c10]) ++ vs5)) := ⟨_, rfl⟩
        have kH0 : Keep z H5 H0 := hH0 ▸ ((kF.trans kG).trans (.of sM))
        have stH0 : StOk H0 z := hH0 ▸ (sG.same sM)
        have eM0 : H0 M = some (.lst (([.ref b, .ref a1, .ref l2, .ref c3, .ref l4, .ref c5, v6, .ref c8] ++ [.ref c10]) ++ vs5)) := hH0 ▸ upd_same
        have hN0 : NetAt H0 w r ts p rs := hN5.keep (kH0.tups st5)
        have allT : ∀ x ∈ ([.ref b, .ref a1, .ref l2, .ref c3, .ref l4, .ref c5, v6, .ref c8] ++ [.ref c10]) ++ vs5, ∀ G', Same H0 G' → Thing K G' x := fun x hx G' sm => by
          rcases List.mem_append.mp hx with h | h
          · exact ((things x h).keep (kG.trans (.of sM))) G' (hH0 ▸ Keep.of sm)
          · exact (hvs x h) G' fun bb o e _ _ => sm _ _ (hH0 ▸ sM _ _ e)
        refine ⟨M, rfl, ⟨_, SqL.of upd_same⟩, ?_⟩
        rw [← hH0]
        have sp2 : sp ≤ p - 1 := by omega
        have inP : isIn (.int sp) 0 (p - 1) = true := isIn_of sp0 sp2
        refine for_list (xs := ([.ref b, .ref a1, .ref l2, .ref c3, .ref l4, .ref c5, v6, .ref c8] ++ [.ref c10]) ++ vs5) (fun _ σ G => ∃ x7 x8 x9 x10 x11 : Option V, σ = [some (.ref a), some (.int (0 + (i : Int))), some (.ref z), some (.int (0 + (j : Int))), some (.int sp), some (.ref b), some (.ref L), x7, x8, x9, x10, x11, y12, y13, some (.ref w)] ∧ Same H0 G) ⟨y7, y8, y9, y10, y11, rfl, Same.refl _⟩ (fun _ σ G' _ h => ?_) (fun q x σ G' hx h => ?_) (fun σ G' h => ?_)
        · obtain ⟨_, _, _, _, _, _, sm⟩ := h
          exact SqL.of (sm _ _ eM0)
        · obtain ⟨x7, x8, x9, x10, x11, rfl, sm⟩ := h
          have th := allT x (List.mem_of_getElem? hx) G' sm
          have hNg := hN0.same sm
          obtain ⟨d, shd, dr⟩ := thing_shown th hNg ok
          obtain ⟨o, wh, _⟩ := th
          -- kept, due
          refine ⟨.ref w, rfl, x, rfl, by show 2 ≤ sizeLine; decide, fun u nu => ?_⟩
          have s1 := same_new (H := G') (o := .tup [.ref w, x]) nu
          refine ⟨.ref u, d, rfl, dr _ u s1 upd_same, shd, ?_⟩
          refine ⟨fun v G => Same G' G ∧ DueV G sp (goesO rs sp o) v, ⟨.ref w, rfl, .int sp, rfl, x, rfl, w, r, ts, p, rs, sp, x, o, rfl, hNg.same s1, ok, wh.keep s1, fun e G s2 => ⟨s1.trans s2, ?_⟩, fun qs e G t s2 nt et => ⟨s1.trans s2, ?_⟩⟩, fun dv G1 hR => ?_⟩
          · rw [e]
            rfl
          · rw [e]
            exact ⟨t, rfl, et⟩
          obtain ⟨s2, due⟩ := hR
          refine ⟨_, _, rfl, ?_⟩
          -- told
          refine ⟨fun v G => Same G1 G ∧ WayV G sp (goesO rs sp o) v, ?_, fun tv G2 hR => ?_⟩
          · cases eo : goesO rs sp o with
            | none =>
              rw [eo] at due
              have ed : dv = .non := due
              subst ed
              exact ⟨.non, rfl, rfl, _, rfl, iteT ⟨Same.refl _, rfl⟩⟩
            | some qs =>
              rw [eo] at due
              obtain ⟨t, rfl, et⟩ := due
              exact ⟨.ref t, rfl, rfl, _, rfl, iteF ⟨.ref t, rfl, 3, rfl, t, _, rfl, et, fun c G sm' ec => ⟨sm', c, rfl, ec⟩⟩⟩
          obtain ⟨s3, tld⟩ := hR
          have s03 : Same H0 G2 := sm.trans (s2.trans s3)
          have s23 : Same G' G2 := s2.trans s3
          have hN2 := hN0.same s03
          have wh2 := wh.keep s23
          have due2 := due.same s3
          have shW : Sh (dWay sp (goesO rs sp o)) 200 1 := way_sh ok sp0 sp2 wh2
          -- twice
          refine ⟨2, rfl, by decide, by decide, ?_⟩
          refine for_range (lo := 0) (n := 2) (fun _ σ G => ∃ x7 : Option V, σ = [some (.ref a), some (.int (0 + (i : Int))), some (.ref z), some (.int (0 + (j : Int))), some (.int sp), some (.ref b), some (.ref L), x7, some x, some (.str d.shown), some dv, some tv, y12, y13, some (.ref w)] ∧ Same G2 G) ⟨x7, rfl, Same.refl _⟩ (fun lap σ G3 _ h => ?_) (fun σ G3 h => ?_)
          · obtain ⟨x7', rfl, s4⟩ := h
            have hN3 := hN2.same s4
            have wh3 := wh2.keep s4
            have call : ∀ {G4 : Hp} {Q : VK}, Same G2 G4 → (∀ v G5, Same G4 G5 ∧ WayV G5 sp (goesO rs sp o) v → Q v G5) → spWayOf (C 1) [.ref w, .int sp, x] G4 Q E0 := fun {G4 Q} s5 hQ =>
              ⟨w, r, ts, p, rs, .int sp, x, "int", o, rfl, hN2.same s5, ok, .int sp, wh2.keep s5, fun e => absurd (inP.symm.trans e) (fun q => nomatch q), fun here eh _ e G6 s6 => hQ _ _ ⟨s6, by cases eh; rw [e]; rfl⟩, fun here qs eh _ e G6 t s6 nt et => hQ _ _ ⟨s6, by cases eh; rw [e]; exact ⟨t, rfl, et⟩⟩⟩
            refine ⟨fun v G => Same G3 G ∧ WayV G sp (goesO rs sp o) v, ⟨.ref w, rfl, .int sp, rfl, x, rfl, call s4 fun v G5 h => h⟩, fun v1 G4 hR1 => ?_⟩
            obtain ⟨s5, wv1⟩ := hR1
            refine ⟨fun v G => Same G4 G ∧ WayV G sp (goesO rs sp o) v, ⟨x, rfl, .ref w, rfl, .int sp, rfl, call (s4.trans s5) fun v G5 h => h⟩, fun v2 G5 hR2 => ?_⟩
            obtain ⟨s6, wv2⟩ := hR2
            refine ⟨by show 2 ≤ sizeLine; decide, fun l nl => ?_⟩
            have s7 := same_new (H := G5) (o := .lst [v1, v2]) nl
            refine ⟨.ref l, .list [dWay sp (goesO rs sp o), dWay sp (goesO rs sp o)], rfl, .dp (.lst (SqL.of upd_same) (.cons ((wv1.same s6).same s7).dp (.cons (wv2.same s7).dp .nil))), two_sh shW, ?_⟩
            have s47 : Same G2 (upd G5 l (.lst [v1, v2])) := ((s4.trans s5).trans s6).trans s7
            refine ⟨tv, rfl, by show 1 ≤ sizeLine; decide, fun l2 n2' => ?_⟩
            have s8 := same_new (H := upd G5 l (.lst [v1, v2])) (o := .lst [tv]) n2'
            refine ⟨l2, 2, _, rfl, rfl, upd_same, by decide, by decide, by show 1 * 2 ≤ sizeLine; decide, fun l3 n3 => ?_⟩
            have s9 := s8.trans (same_new (o := .lst [tv, tv]) n3)
            refine ⟨.ref l3, .list [dWay sp (goesO rs sp o), dWay sp (goesO rs sp o)], rfl, .dp (.lst (SqL.of (show (upd _ l3 (HO.lst (List.replicate (2 : Int).toNat [tv]).flatten)) l3 = some (.lst [tv, tv]) from upd_same)) (.cons ((tld.same s47).same s9).dp (.cons ((tld.same s47).same s9).dp .nil))), two_sh shW, ?_⟩
            refine ⟨rfl, _, rfl, iteNS rfl ?_⟩
            have s29 := s47.trans s9
            -- simple
            refine ⟨fun v G => Same G2 G ∧ v = .bl (simpleOf sp (goesO rs sp o)), ⟨.ref w, rfl, .int sp, rfl, x, rfl, w, r, ts, p, rs, .int sp, x, "int", o, rfl, hN2.same s29, ok, .int sp, wh2.keep s29, fun e => absurd (inP.symm.trans e) (fun q => nomatch q), fun here eh _ G6 s6' => ⟨s29.trans s6', by cases eh; rfl⟩⟩, fun v3 G6 hR3 => ?_⟩
            obtain ⟨s10, rfl⟩ := hR3
            refine ⟨_, .bool (simpleOf sp (goesO rs sp o)), rfl, .bl _, (Sh.bool _).mono (by decide) (by decide), ?_⟩
            refine ⟨fun v G => G = G6 ∧ v = .bl (simpleOf sp (goesO rs sp o)), ?_, fun v4 G7 hR4 => ?_⟩
            · have due3 := due2.same s10
              cases eo : goesO rs sp o with
              | none =>
                rw [eo] at due3
                have ed : dv = .non := due3
                subst ed
                exact ⟨.non, rfl, rfl, _, rfl, iteF ⟨rfl, rfl⟩⟩
              | some qs =>
                rw [eo] at due3
                obtain ⟨t, rfl, et⟩ := due3
                exact ⟨.ref t, rfl, rfl, _, rfl, iteT ⟨.ref t, rfl, t, _, 3, _, rfl, rfl, SqT.of et, rfl, rfl, rfl⟩⟩
            obtain ⟨rfl, rfl⟩ := hR4
            refine ⟨_, .bool (simpleOf sp (goesO rs sp o)), rfl, .bl _, (Sh.bool _).mono (by decide) (by decide), ?_⟩
            refine ⟨rfl, _, rfl, iteNS rfl ?_⟩
            exact ⟨some (.int (0 + (lap : Int))), rfl, s10⟩
          · obtain ⟨x7', rfl, s4⟩ := h
            refine ⟨.ref w, rfl, x, rfl, by show 2 ≤ sizeLine; decide, fun u2 nu2 => ?_⟩
            have s5 := same_new (H := G3) (o := .tup [.ref w, x]) nu2
            refine ⟨.ref u2, d, rfl, dr _ u2 ((s23.trans s4).trans s5) upd_same, shd, .str d.shown, rfl, rfl, _, rfl, iteNS rfl ?_⟩
            exact ⟨x7', some x, some (.str d.shown), some dv, some tv, rfl, (s03.trans s4).trans s5⟩
        · obtain ⟨x7, x8, x9, x10, x11, rfl, sm⟩ := h
          have kEnd : Keep z Hz G' := (k05.trans kH0).trans (.of sm)
          exact ⟨some (.int (0 + (j : Int))), some (.int sp), some (.ref b), some (.ref L), x7, x8, x9, x10, x11, y12, y13, some (.ref w), rfl, kEnd, stH0.same sm, fun _ => ⟨w, r, ts, p, rs, rfl, hN0.same sm, ok⟩⟩
    · obtain ⟨y3, y4, y5, y6, y7, y8, y9, y10, y11, y12, y13, y14, rfl, kz, st, hw⟩ := h
      obtain ⟨w, r, ts, p, rs, rfl, hN, ok⟩ := hw (by decide)
      have hTb' := tabs _ kz
      have hSq' := sq _ kz
      -- the bad ones
      refine ⟨1, rfl, .ref w, rfl, w, _, 0, _, rfl, rfl, SqT.of hN.1, rfl, by show 1 ≤ sizeLine; decide, fun t0 nt0 => ⟨10, 29, rfl, rfl, ⟨by decide, by decide, by decide⟩, by show 7 ≤ sizeLine; decide, fun Lb nLb => ⟨Lb, rfl, ⟨_, SqL.of upd_same⟩, ?_⟩⟩⟩
      have s1 := same_new (H := H') (o := .tup [.int 0]) nt0
      have s2 := s1.trans (same_new (o := .lst [.int (-1), .int p, .non, .bl true, .str "0", .ref t0, .int (10 ^ 29)]) nLb)
      obtain ⟨H1, hH1⟩ : ∃ H1, H1 = upd (upd H' t0 (.tup [.int 0])) Lb (.lst [.int (-1), .int p, .non, .bl true, .str "0", .ref t0, .int (10 ^ 29)]) := ⟨_, rfl⟩
      have eLb : H1 Lb = some (.lst [.int (-1), .int p, .non, .bl true, .str "0", .ref t0, .int (10 ^ 29)]) := hH1 ▸ upd_same
      have et0 : H1 t0 = some (.tup [.int 0]) := hH1 ▸ same_new nLb _ _ upd_same
      have s2' : Same H' H1 := hH1 ▸ s2
      have T1 : LamX.Tabs [(Pt, qLaw)] H1 := hTb'.ext s2'
      have hN1 := hN.same s2'
      have hSq1 : SqL K H1 a (ns.map V.int) := Same.seq s2' hSq'
      refine for_list (xs := [.int (-1), .int p, .non, .bl true, .str "0", .ref t0, .int (10 ^ 29)]) (fun _ σ G => ∃ x12 x13 : Option V, σ = [some (.ref a), some (.int (0 + (i : Int))), some (.ref z), y3, y4, y5, y6, y7, y8, y9, y10, y11, x12, x13, some (.ref w)] ∧ LamX.ExtN H1 G ∧ LamX.Tabs [(Pt, qLaw)] G) ⟨y12, y13, rfl, (by rw [hH1]; exact LamX.ExtN.refl _), (by rw [hH1] at T1; exact T1)⟩ (fun _ σ G _ h => ?_) (fun q x σ G hx h => ?_) (fun σ G h => ?_)
      · obtain ⟨_, _, _, ex, _⟩ := h
        exact SqL.of (ex _ _ eLb fun _ q => nomatch q)
      · obtain ⟨x12, x13, rfl, ex, Tb⟩ := h
        have bad : isIn x 0 (p - 1) = false ∧ ∀ G' : Hp, LamX.ExtN H1 G' → ∃ n, Tg G' x n := by
          have hx' := List.mem_of_getElem? hx
          simp only [List.mem_cons, List.not_mem_nil, or_false] at hx'
          have p1 := ok.p1
          have p2 := ok.p2
          have num : ∀ i : Int, (i < 0 ∨ p - 1 < i) → isIn (.int i) 0 (p - 1) = false := fun i h => by
            show (decide (0 ≤ i) && decide (i ≤ p - 1)) = false
            rcases h with h | h
            · rw [decide_eq_false (by omega)]
              rfl
            · rw [decide_eq_false (show ¬ (i ≤ p - 1) by omega), Bool.and_false]
          rcases hx' with rfl | rfl | rfl | rfl | rfl | rfl | rfl
          · exact ⟨num _ (.inl (by decide)), fun _ _ => ⟨_, .int _⟩⟩
          · exact ⟨num _ (.inr (by omega)), fun _ _ => ⟨_, .int _⟩⟩
          · exact ⟨rfl, fun _ _ => ⟨_, .non⟩⟩
          · exact ⟨rfl, fun _ _ => ⟨_, .bl _⟩⟩
          · exact ⟨rfl, fun _ _ => ⟨_, .str _⟩⟩
          · exact ⟨rfl, fun _ e => ⟨_, .tup (e _ _ et0 fun _ q => nomatch q)⟩⟩
          · exact ⟨num _ (.inr (by have : (10 : Int) < 10 ^ 29 := by decide +kernel
                                   omega)), fun _ _ => ⟨_, .int _⟩⟩
        obtain ⟨hbad, htg⟩ := bad
        have tupE : ∀ {A B : Hp}, LamX.ExtN A B → ∀ b xs, A b = some (.tup xs) → B b = some (.tup xs) := fun e b xs h => e _ _ h fun _ q => nomatch q
        -- words
        refine ⟨Tb, fun G1 e1 Tb1 => ?_⟩
        have ex1 := ex.trans e1
        have hNa := hN1.keep (tupE ex1)
        obtain ⟨n1, tg1⟩ := htg G1 ex1
        refine ⟨.ref w, rfl, x, rfl, w, r, ts, p, rs, x, .non, n1, none, rfl, hNa, ok, tg1, .oth .non rfl, fun _ G2 s3 => ⟨rfl, rfl, fun G3 t1 s4 et1 => ?_⟩, fun here _ e => absurd (e.symm.trans hbad) (fun q => nomatch q), fun here qs _ e => absurd (e.symm.trans hbad) (fun q => nomatch q)⟩
        refine ⟨by show 1 ≤ sizeLine; decide, fun l5 n5 => ?_⟩
        have s5 := same_new (H := G3) (o := .lst [.ref t1]) n5
        have s35 : Same G1 (upd G3 l5 (.lst [.ref t1])) := (s3.trans s4).trans s5
        have Tb5 : LamX.Tabs [(Pt, qLaw)] (upd G3 l5 (.lst [.ref t1])) := Tb1.ext s35
        have ex5 := ex1.trans (LamX.ExtN.of s35)
        -- the other one
        refine ⟨.ref l5, rfl, Tb5, fun G6 e6 Tb6 => ?_⟩
        have ex6 := ex5.trans e6
        obtain ⟨n6, tg6⟩ := htg G6 ex6
        refine ⟨.ref w, rfl, x, rfl, Nat.zero_le _, fun t6 nt6 => ?_⟩
        have s6 := same_new (H := G6) (o := .tup []) nt6
        refine ⟨w, r, ts, p, rs, x, .ref t6, n6, some [], rfl, (hN1.keep (tupE ex6)).same s6, ok, tg6.keep s6, .tup upd_same (fun _ h => nomatch h) (by decide), fun _ G7 s7 => ⟨rfl, rfl, fun G8 t8 s8 et8 => ?_⟩, fun here _ e => absurd (e.symm.trans hbad) (fun q => nomatch q)⟩
        have s68 : Same G6 G8 := (s6.trans s7).trans s8
        refine ⟨by show 1 ≤ sizeLine; decide, fun l9 n9 => ?_⟩
        have s9 := same_new (H := G8) (o := .lst [.ref t8]) n9
        have el5 : (upd G8 l9 (.lst [.ref t8])) l5 = some (.lst [.ref t1]) := s9 _ _ (s68 _ _ (e6 _ _ upd_same fun _ q => nomatch q))
        refine ⟨l5, l9, _, _, rfl, rfl, el5, upd_same, by show 2 ≤ sizeLine; decide, fun l10 n10 => ?_⟩
        have s10 := s9.trans (same_new (o := .lst ([.ref t1] ++ [.ref t8])) n10)
        refine ⟨by show 1 ≤ sizeLine; decide, fun t11 n11 => ⟨by show 1 ≤ sizeLine; decide, fun l12 n12 => ⟨l12, 2, _, rfl, rfl, upd_same, by decide, by decide, by show 1 * 2 ≤ sizeLine; decide, fun l13 n13 => ?_⟩⟩⟩
        have et1' : ∀ G', Same G8 G' → G' t1 = some (.tup [.str "place"]) := fun G' sm => sm _ _ (s68 _ _ (e6 _ _ (s5 _ _ et1) fun _ q => nomatch q))
        have s11 := s10.trans (same_new (o := .tup [.str "place"]) n11)
        have s12 := s11.trans (same_new (o := .lst [.ref t11]) n12)
        have s13 := s12.trans (same_new (o := .lst [.ref t11, .ref t11]) n13)
        have pl : ∀ {G' : Hp} {t : Addr}, G' t = some (.tup [.str "place"]) → Dp K G' (.ref t) (.tuple [.str "place"]) := fun e => .tup (SqT.of e) (.cons (.str _) .nil)
        have e11 := same_new (o := .lst [.ref t11, .ref t11]) n13 _ _ (same_new (o := .lst [.ref t11]) n12 _ _ (upd_same (H := upd (upd G8 l9 (.lst [.ref t8])) l10 (.lst ([.ref t1] ++ [.ref t8]))) (a := t11) (o := .tup [.str "place"])))
        refine ⟨.list [.tuple [.str "place"], .tuple [.str "place"]], .list [.tuple [.str "place"], .tuple [.str "place"]], .lst (SqL.of (same_new n13 _ _ (same_new n12 _ _ (same_new n11 _ _ upd_same)))) (.cons (pl (et1' _ s13)) (.cons (pl (s13 _ _ et8)) .nil)), .lst (SqL.of (show (upd _ l13 (HO.lst (List.replicate (2 : Int).toNat [V.ref t11]).flatten)) l13 = some (.lst [.ref t11, .ref t11]) from upd_same)) (.cons (pl e11) (.cons (pl e11) .nil)), by decide +kernel, by decide +kernel, _, rfl, ?_⟩
        rw [show PyData.eqv (.list [.tuple [.str "place"], .tuple [.str "place"]]) (.list [.tuple [.str "place"], .tuple [.str "place"]]) = true from by decide +kernel]
        refine iteF ?_
        exact ⟨some (.ref l5), some x, rfl, ex6.trans (LamX.ExtN.of (s68.trans s13)), Tb6.ext (s68.trans s13)⟩
      · obtain ⟨x12, x13, rfl, ex, Tb⟩ := h
        exact ⟨some (.int (0 + (i : Int))), some (.ref z), y3, y4, y5, y6, y7, y8, y9, y10, y11, x12, x13, some (.ref w), rfl, Tb, ext_sq hSq1 ex⟩
  · exact rfl
end
end Wy

namespace Wy
open PySem PySem.Spec PyProof.Rows L2
/-- the law's call from its body at the caller's own surroundings; the script and the table of the law's code are tracked -/
theorem end_call {P : Program} {w : World} {K : PySem.W.Frag} {mg mb : Str → Option Value} {fa a c T : Addr} {st : Shared} {vs : List Value} {ns : List Int}
    (inK : K.In st.heap) (gl : st.heap.Ns mainGlobals mg) (bl : st.heap.Ns builtinsNs mb) (blt : ∀ x : Str, x ≠ "__name__" → mb x = bootBuiltins x) (lim : st.heap.NoLimit) (gen : st.gens = #[])
    (hT : st.heap.get? T = some (PySem.W.tabObj #[])) (nT : K.lookup T = none) (hC : PySem.W.CodeHd st.heap c T)
    (bmod : ∃ (bm : Addr) (ob : Obj), mg "__builtins__" = some (.ref bm) ∧ bm ≠ builtinsNs ∧ st.heap.get? bm = some ob ∧ ob.cls = .type "module" ∧ ob.dict = some builtinsNs ∧ ob.data = .plain)
    (ha : st.heap.get? a = some { cls := .type "list", data := .seq vs.toArray }) (hi : IntsAre vs ns) (hl : ns.length ≤ sizeLine)
    (F : ∀ (base : Heap) (H : Hp), LamX.TabB base mg c T → H T = some (.tbl #[]) → SqL K H a (ns.map V.int) → Env0 P w K mg base callerA [] st H →
      codeAny (model P w) callerA (.call (.ref fa) ⟨[.ref a], []⟩) (CR CX0 [] P w H st (fun v _ => v = .bl true) E0) st) :
    codeAny (model P w) callerA (.call (.ref fa) ⟨[.ref a], []⟩) (fun r t => r = .ok (.ret (.bool true)) ∧ OldK st.heap t.heap ∧ t.os = st.os ∧ AllBare t.gens) st := by
  have vals := vals_ints hi
  have nvs := hi.length
  have aT : a ≠ T := fun z => by
    rw [z, hT] at ha
    have q := congrArg Obj.data (Option.some.inj ha)
    cases q
  obtain ⟨so, hso⟩ : ∃ so : Obj, so = { cls := .type "list", data := .seq vs.toArray } := ⟨_, rfl⟩
  rw [← hso] at ha
  obtain ⟨H, hH⟩ : ∃ H : Hp, H = fun b => if b = T then some (.tbl #[]) else if b = a ∧ K.lookup a = none then some (.frz so (.lst (ns.map V.int))) else none := ⟨_, rfl⟩
  have atT : H T = some (.tbl #[]) := by
    rw [hH]
    exact if_pos rfl
  have cases2 : ∀ b u, H b = some u → (b = T ∧ u = .tbl #[]) ∨ (b = a ∧ K.lookup a = none ∧ u = .frz so (.lst (ns.map V.int))) := fun b u e => by
    rw [hH] at e
    by_cases h1 : b = T
    · exact .inl ⟨h1, (Option.some.inj ((if_pos h1).symm.trans e)).symm⟩
    · have e := (if_neg h1).symm.trans e
      by_cases h2 : b = a ∧ K.lookup a = none
      · exact .inr ⟨h2.1, h2.2, (Option.some.inj ((if_pos h2).symm.trans e)).symm⟩
      · exact nomatch (if_neg h2).symm.trans e
  have lsOk : ObjOk P w H st.heap a (.lst (ns.map V.int)) := by
    exact ⟨by rw [List.length_map]; exact hl, vs, _, vals, (hso ▸ ha : st.heap.get? a = some { cls := .type "list", data := .seq vs.toArray })⟩
  have hok : HOk P w H st.heap := fun b u e => by
    rcases cases2 b u e with ⟨rfl, rfl⟩ | ⟨rfl, _, rfl⟩
    · exact hT
    · exact ⟨ha, lsOk⟩
  have apart : ∀ {b : Addr} {o : Obj}, st.heap.get? b = some o → (∀ x n, o.data ≠ .seq x n) → o.data ≠ .fields #[] → H b = none := fun {b o} e n1 n2 => by
    cases q : H b with
    | none => rfl
    | some u =>
      rcases cases2 b u q with ⟨rfl, _⟩ | ⟨rfl, _, _⟩
      · rw [hT] at e
        cases e
        exact absurd rfl n2
      · rw [ha, hso] at e
        cases e
        exact absurd rfl (n1 _ _)
  have nsB : ∀ {b : Addr} {m : Str → Option Value}, st.heap.Ns b m → (hidT st.heap H).Ns b m := fun {b m} ⟨o, es, ep, e, d, r⟩ =>
    ⟨o, es, ep, hidT_get e (apart e (fun x n z => nomatch d.symm.trans z) fun z => nomatch d.symm.trans z), d, r⟩
  have inB : K.In (hidT st.heap H) := fun b o e => hidT_get (inK b o e) (by
    cases q : H b with
    | none => rfl
    | some u =>
      rcases cases2 b u q with ⟨rfl, _⟩ | ⟨rfl, n, _⟩
      · exact nomatch nT.symm.trans e
      · exact nomatch n.symm.trans e)
  have md : L2.Mod K mg (hidT st.heap H) := ⟨inB, nsB gl, ⟨mb, nsB bl, blt⟩, let ⟨mc, q1, q2⟩ := lim; ⟨mc, nsB q1, q2⟩⟩
  have tb : LamX.TabB (hidT st.heap H) mg c T := by
    refine ⟨?_, ?_, fun z => ?_⟩
    · obtain ⟨o, us, file, tf, flags, tg, inF, text, tt, e1, k1, k2, k3, kr⟩ := hC
      refine ⟨o, us, file, tf, flags, tg, inF, text, tt, hidT_get e1 (apart e1 (fun x n z => nomatch k2.symm.trans z) fun z => ?_), k1, k2, k3, kr⟩
      have q : Data.fields us = Data.fields #[] := k2.symm.trans z
      cases q
      simp at k3
    · obtain ⟨bm, ob, b1, b2, b3, b4, b5, b6⟩ := bmod
      refine ⟨bm, ob, b1, b2, fun q => ?_, fun q => ?_, hidT_get b3 (apart b3 (fun x n z => nomatch b6.symm.trans z) fun z => nomatch b6.symm.trans z), b4, b5, b6⟩
      · obtain ⟨o, es, ep, e, d, _⟩ := gl
        rw [q, e] at b3
        cases b3
        exact nomatch d.symm.trans b6
      · rw [q, hT] at b3
        cases b3
        cases b6
    · obtain ⟨o, es, ep, e, d, _⟩ := gl
      rw [z, hT] at e
      cases e
      cases d
  have sq : SqL K H a (ns.map V.int) := by
    cases q : K.lookup a with
    | some o =>
      have e := (inK a o q).symm.trans ha
      rw [hso] at e
      cases e
      exact .inr ⟨_, vs.toArray, _, q, rfl, rfl, rfl, by rw [List.size_toArray, nvs]; exact hl, by simpa using vals⟩
    | none =>
      refine .inl (.inr ⟨so, ?_⟩)
      rw [hH]
      exact (if_neg aT).trans (if_pos ⟨rfl, q⟩)
  have env : Env0 P w K mg (hidT st.heap H) callerA [] st H := ⟨rfl, md, fun b o e => of_hidT e, Nat.le_of_eq (hidT_size _ _), trivial, (fun b z => nomatch (show b ∈ ([] : List Addr) from z)), hok, .of_eq gen⟩
  refine codeAny_mono (F _ H tb atT sq env) fun r t h => ?_
  cases r with
  | error e => exact (show False from h).elim
  | ok fl =>
    cases fl with
    | next => exact (show False from h).elim
    | brk => exact (show False from h).elim
    | cont => exact (show False from h).elim
    | ret u =>
      obtain ⟨v, G, os, bare, un, okG, rv, q⟩ := h
      obtain rfl : v = .bl true := q
      obtain rfl : u = Value.bool true := rv
      have stays : ∀ b o, b ≠ T → st.heap.get? b = some o → t.heap.get? b = some o := fun b o nb e => by
        cases q : H b with
        | none => exact un.keep b o e q (fun z => nomatch (show b ∈ ([] : List Addr) from z)) (by simp)
        | some u =>
          rcases cases2 b u q with ⟨z, _⟩ | ⟨rfl, _, rfl⟩
          · exact absurd z nb
          · obtain ⟨e2, _⟩ := okG b _ (un.frzs b so _ q)
            rw [ha] at e
            cases e
            exact e2
      obtain ⟨more, hm⟩ := un.tbls T #[] atT
      have atG : t.heap.get? T = some { cls := .none, data := .fields (#[] ++ more) } := okG T _ hm
      refine ⟨rfl, ⟨fun b o e => ?_, fun b o e => ?_⟩, os, bare⟩
      · by_cases hb : b = T
        · subst hb
          rw [hT] at e
          cases e
          exact .inr (.inl ⟨(hC.tab hT).isCodeTable, rfl, #[], more, rfl, atG⟩)
        · exact .inl (stays b o hb e)
      · by_cases hb : b = T
        · rw [hb]
          exact ⟨_, atG⟩
        · exact ⟨o, stays b o hb e⟩
/-- what the law's def does from its place in the written part -/
def Runs (P : Program) (w : World) (K : PySem.W.Frag) (mg : Str → Option Value) (c T fa : Addr) : Prop := ∀ (base : Heap) (H : Hp) (s : Shared) (a : Addr) (ns : List Int), LamX.TabB base mg c T → H T = some (.tbl #[]) → SqL K H a (ns.map V.int) → Env0 P w K mg base callerA [] s H →
  codeAny (model P w) callerA (.call (.ref fa) ⟨[.ref a], []⟩) (CR CX0 [] P w H s (fun v _ => v = .bl true) E0) s
theorem walk_end {l : PySem.W.OpenLaw} {n : Nat} {q : Program} {loose : List Str} {XP : (Str → Option Value) → Heap → Prop} {YP : World → Heap → Prop} {d : DefRec} {K : Params → PySem.W.Frag} {T : Addr}
    (most : l.most = some n) (most2 : n ≤ sizeLine) (dflt : d.params.defaults = []) (inK : ∀ (w : World) (h : Heap), YP w h → (K w.params).In h) (tab : ∀ (w : World) (h : Heap), YP w h → h.get? T = some (PySem.W.tabObj #[]))
    (F : ∀ (w : World) (mg : Str → Option Value) (fa : Addr) (h : Heap), (K w.params).In h → h.Ns mainGlobals mg → mg d.name = some (.ref fa) → (K w.params).lookup T = none ∧ ∃ c, PySem.W.codeHdIn (K w.params) c T = true ∧ Runs l.prog w (K w.params) mg c T fa) :
    PySem.W.WalkO q loose XP YP l.row.toRowW d [] (fun f vs => PySem.call f vs) := by
  refine Att.attach_call most dflt fun w s0 st mg mb fa o pm cd doc a vs ns G Y ho hd hcd hmg hobj hints hlen hg => ?_
  have KX := inK w _ Y
  obtain ⟨nT, c, hc, run⟩ := F w mg fa _ KX G.T.g hmg
  exact end_call KX G.T.g G.T.b G.T.builtins G.T.nolimit hg (tab w _ Y) nT (PySem.W.codeHd_of_K KX hc) G.T.bmain hobj hints (Nat.le_trans hlen most2) fun base H tb hT sq env => run base H st a ns tb hT sq env
end Wy

namespace Wy
open PySem PySem.Spec PyProof.Rows L2
set_option maxHeartbeats 4000000 in
theorem fin_mk {P : Program} {w : World} {K : PySem.W.Frag} {h : Heap} {mg : Str → Option Value} {fa cL T f1 f2 fRO f3 f4 f5 f6 fN fP fW fI fCo fTw fSt fCe fTk fNe fWk fOd fTo fSp fNu fMa fWd fSa fL e0 e1 e2 e3 e4 e5 e6 e7 e8 e9 e10 e11 e12 e13 e14 e15 e16 eT eN eW : Addr} {t1 t2 t3 t4 t5 : Tok}
    {od1 an1 : Option Addr} {sl1 : Array (Option Value)} {oc1 kV1 dc1 pm1 ct1 cd1 : Value}
    {od2 an2 : Option Addr} {sl2 : Array (Option Value)} {oc2 kV2 dc2 pm2 ct2 cd2 : Value}
{odRO anRO : Option Addr} {slRO : Array (Option Value)} {ocRO kVRO dcRO pmRO ctRO cdRO : Value}
    {od3 an3 : Option Addr} {sl3 : Array (Option Value)} {oc3 kV3 dc3 pm3 ct3 cd3 : Value}
    {od4 an4 : Option Addr} {sl4 : Array (Option Value)} {oc4 kV4 dc4 pm4 ct4 cd4 : Value}
    {od5 an5 : Option Addr} {sl5 : Array (Option Value)} {oc5 kV5 dc5 pm5 ct5 cd5 : Value}
    {od6 an6 : Option Addr} {sl6 : Array (Option Value)} {oc6 kV6 dc6 pm6 ct6 cd6 : Value}
    {odN anN : Option Addr} {slN : Array (Option Value)} {ocN kVN dcN pmN ctN cdN : Value}
    {odP anP : Option Addr} {slP : Array (Option Value)} {ocP kVP dcP pmP ctP cdP : Value}
    {odW anW : Option Addr} {slW : Array (Option Value)} {ocW kVW dcW pmW ctW cdW : Value}
    {odI anI : Option Addr} {slI : Array (Option Value)} {ocI kVI dcI pmI ctI cdI : Value}
    {odCo anCo : Option Addr} {slCo : Array (Option Value)} {ocCo kVCo dcCo pmCo ctCo cdCo : Value}
    {odTw anTw : Option Addr} {slTw : Array (Option Value)} {ocTw kVTw dcTw pmTw ctTw cdTw : Value}
    {odSt anSt : Option Addr} {slSt : Array (Option Value)} {ocSt kVSt dcSt pmSt ctSt cdSt : Value}
    {odCe anCe : Option Addr} {slCe : Array (Option Value)} {ocCe kVCe dcCe pmCe ctCe cdCe : Value}
    {odTk anTk : Option Addr} {slTk : Array (Option Value)} {ocTk kVTk dcTk pmTk ctTk cdTk : Value}
    {odNe anNe : Option Addr} {slNe : Array (Option Value)} {ocNe kVNe dcNe pmNe ctNe cdNe : Value}
    {odWk anWk : Option Addr} {slWk : Array (Option Value)} {ocWk kVWk dcWk pmWk ctWk cdWk : Value}
    {odOd anOd : Option Addr} {slOd : Array (Option Value)} {ocOd kVOd dcOd pmOd ctOd cdOd : Value}
    {odTo anTo : Option Addr} {slTo : Array (Option Value)} {ocTo kVTo dcTo pmTo ctTo cdTo : Value}
    {odSp anSp : Option Addr} {slSp : Array (Option Value)} {ocSp kVSp dcSp pmSp ctSp cdSp : Value}
    {odNu anNu : Option Addr} {slNu : Array (Option Value)} {ocNu kVNu dcNu pmNu ctNu cdNu : Value}
    {odMa anMa : Option Addr} {slMa : Array (Option Value)} {ocMa kVMa dcMa pmMa ctMa cdMa : Value}
    {odWd anWd : Option Addr} {slWd : Array (Option Value)} {ocWd kVWd dcWd pmWd ctWd cdWd : Value}
    {odSa anSa : Option Addr} {slSa : Array (Option Value)} {ocSa kVSa dcSa pmSa ctSa cdSa : Value}
    {odL anL : Option Addr} {slL : Array (Option Value)} {ocL kVL dcL pmL ctL : Value}
    (X : K.In h) (G : h.Ns mainGlobals mg) (hfa : mg "law" = some (.ref fa))
    (a1 : PySem.W.nsIn K mainGlobals "is_whole" = some (some (.ref f1)))
    (l1 : K.lookup f1 = some ⟨oc1, od1, .func (PySem.W.fnOf "is_whole" "is_whole" (defArgs sWhole) (defBody sWhole) (defScope sWhole) .none kV1 dc1 pm1 an1 cd1 ct1), sl1⟩)
    (c1_ : PySem.W.codeIn K cd1 "is_whole" = true)
    (k1_ : PySem.W.keepIn K (.ref f1) = true)
    (a2 : PySem.W.nsIn K mainGlobals "is_within" = some (some (.ref f2)))
    (l2 : K.lookup f2 = some ⟨oc2, od2, .func (PySem.W.fnOf "is_within" "is_within" (defArgs sWithin) (defBody sWithin) (defScope sWithin) .none kV2 dc2 pm2 an2 cd2 ct2), sl2⟩)
    (c2_ : PySem.W.codeIn K cd2 "is_within" = true)
    (k2_ : PySem.W.keepIn K (.ref f2) = true)
    (aRO : PySem.W.nsIn K mainGlobals "is_road_of" = some (some (.ref fRO)))
    (lRO : K.lookup fRO = some ⟨ocRO, odRO, .func (PySem.W.fnOf "is_road_of" "is_road_of" (defArgs sRoadOf) (defBody sRoadOf) (defScope sRoadOf) .none kVRO dcRO pmRO anRO cdRO ctRO), slRO⟩)
    (cRO_ : PySem.W.codeIn K cdRO "is_road_of" = true)
    (kRO_ : PySem.W.keepIn K (.ref fRO) = true)
    (a3 : PySem.W.nsIn K mainGlobals "is_tuple_of" = some (some (.ref f3)))
    (l3 : K.lookup f3 = some ⟨oc3, od3, .func (PySem.W.fnOf "is_tuple_of" "is_tuple_of" (defArgs sTupOf) (defBody sTupOf) (defScope sTupOf) .none kV3 dc3 pm3 an3 cd3 ct3), sl3⟩)
    (c3_ : PySem.W.codeIn K cd3 "is_tuple_of" = true)
    (k3_ : PySem.W.keepIn K (.ref f3) = true)
    (a4 : PySem.W.nsIn K mainGlobals "is_road_among" = some (some (.ref f4)))
    (l4 : K.lookup f4 = some ⟨oc4, od4, .func (PySem.W.fnOf "is_road_among" "is_road_among" (defArgs sRoadQ) (defBody sRoadQ) (defScope sRoadQ) .none kV4 dc4 pm4 an4 cd4 ct4), sl4⟩)
    (c4_ : PySem.W.codeIn K cd4 "is_road_among" = true)
    (k4_ : PySem.W.keepIn K (.ref f4) = true)
    (a5 : PySem.W.nsIn K mainGlobals "is_net" = some (some (.ref f5)))
    (l5 : K.lookup f5 = some ⟨oc5, od5, .func (PySem.W.fnOf "is_net" "is_net" (defArgs sNetQ) (defBody sNetQ) (defScope sNetQ) .none kV5 dc5 pm5 an5 cd5 ct5), sl5⟩)
    (c5_ : PySem.W.codeIn K cd5 "is_net" = true)
    (k5_ : PySem.W.keepIn K (.ref f5) = true)
    (a6 : PySem.W.nsIn K mainGlobals "places_along" = some (some (.ref f6)))
    (l6 : K.lookup f6 = some ⟨oc6, od6, .func (PySem.W.fnOf "places_along" "places_along" (defArgs sAlong) (defBody sAlong) (defScope sAlong) .none kV6 dc6 pm6 an6 cd6 ct6), sl6⟩)
    (c6_ : PySem.W.codeIn K cd6 "places_along" = true)
    (k6_ : PySem.W.keepIn K (.ref f6) = true)
    (aN : PySem.W.nsIn K mainGlobals "check_net" = some (some (.ref fN)))
    (lN : K.lookup fN = some ⟨ocN, odN, .func (PySem.W.fnOf "check_net" "check_net" (defArgs sChkN) (defBody sChkN) (defScope sChkN) .none kVN dcN pmN anN cdN ctN), slN⟩)
    (cN_ : PySem.W.codeIn K cdN "check_net" = true)
    (kN_ : PySem.W.keepIn K (.ref fN) = true)
    (aP : PySem.W.nsIn K mainGlobals "check_place" = some (some (.ref fP)))
    (lP : K.lookup fP = some ⟨ocP, odP, .func (PySem.W.fnOf "check_place" "check_place" (defArgs sChkP) (defBody sChkP) (defScope sChkP) .none kVP dcP pmP anP cdP ctP), slP⟩)
    (cP_ : PySem.W.codeIn K cdP "check_place" = true)
    (kP_ : PySem.W.keepIn K (.ref fP) = true)
    (aW : PySem.W.nsIn K mainGlobals "way_of" = some (some (.ref fW)))
    (lW : K.lookup fW = some ⟨ocW, odW, .func (PySem.W.fnOf "way_of" "way_of" (defArgs sWayOf) (defBody sWayOf) (defScope sWayOf) .none kVW dcW pmW anW cdW ctW), slW⟩)
    (cW_ : PySem.W.codeIn K cdW "way_of" = true)
    (kW_ : PySem.W.keepIn K (.ref fW) = true)
    (aI : PySem.W.nsIn K mainGlobals "is_simple" = some (some (.ref fI)))
    (lI : K.lookup fI = some ⟨ocI, odI, .func (PySem.W.fnOf "is_simple" "is_simple" (defArgs sSimple) (defBody sSimple) (defScope sSimple) .none kVI dcI pmI anI cdI ctI), slI⟩)
    (cI_ : PySem.W.codeIn K cdI "is_simple" = true)
    (kI_ : PySem.W.keepIn K (.ref fI) = true)
    (aCo : PySem.W.nsIn K mainGlobals "cost_along" = some (some (.ref fCo)))
    (lCo : K.lookup fCo = some ⟨ocCo, odCo, .func (PySem.W.fnOf "cost_along" "cost_along" (defArgs sCostA) (defBody sCostA) (defScope sCostA) .none kVCo dcCo pmCo anCo cdCo ctCo), slCo⟩)
    (cCo_ : PySem.W.codeIn K cdCo "cost_along" = true)
    (kCo_ : PySem.W.keepIn K (.ref fCo) = true)
    (aTw : PySem.W.nsIn K mainGlobals "is_at_none_twice" = some (some (.ref fTw)))
    (lTw : K.lookup fTw = some ⟨ocTw, odTw, .func (PySem.W.fnOf "is_at_none_twice" "is_at_none_twice" (defArgs sTwice) (defBody sTwice) (defScope sTwice) .none kVTw dcTw pmTw anTw cdTw ctTw), slTw⟩)
    (cTw_ : PySem.W.codeIn K cdTw "is_at_none_twice" = true)
    (kTw_ : PySem.W.keepIn K (.ref fTw) = true)
    (aSt : PySem.W.nsIn K mainGlobals "_law_state" = some (some (.ref fSt)))
    (lSt : K.lookup fSt = some ⟨ocSt, odSt, .func (PySem.W.fnOf "_law_state" "_law_state" (defArgs sState) (defBody sState) (defScope sState) .none kVSt dcSt pmSt anSt cdSt ctSt), slSt⟩)
    (cSt_ : PySem.W.codeIn K cdSt "_law_state" = true)
    (kSt_ : PySem.W.keepIn K (.ref fSt) = true)
    (aCe : PySem.W.nsIn K mainGlobals "_law_cell_at" = some (some (.ref fCe)))
    (lCe : K.lookup fCe = some ⟨ocCe, odCe, .func (PySem.W.fnOf "_law_cell_at" "_law_cell_at" (defArgs sCell) (defBody sCell) (defScope sCell) .none kVCe dcCe pmCe anCe cdCe ctCe), slCe⟩)
    (cCe_ : PySem.W.codeIn K cdCe "_law_cell_at" = true)
    (kCe_ : PySem.W.keepIn K (.ref fCe) = true)
    (aTk : PySem.W.nsIn K mainGlobals "_law_take" = some (some (.ref fTk)))
    (lTk : K.lookup fTk = some ⟨ocTk, odTk, .func (PySem.W.fnOf "_law_take" "_law_take" (defArgs sTake) (defBody sTake) (defScope sTake) .none kVTk dcTk pmTk anTk cdTk ctTk), slTk⟩)
    (cTk_ : PySem.W.codeIn K cdTk "_law_take" = true)
    (kTk_ : PySem.W.keepIn K (.ref fTk) = true)
    (aNe : PySem.W.nsIn K mainGlobals "_law_net" = some (some (.ref fNe)))
    (lNe : K.lookup fNe = some ⟨ocNe, odNe, .func (PySem.W.fnOf "_law_net" "_law_net" (defArgs sNet) (defBody sNet) (defScope sNet) .none kVNe dcNe pmNe anNe cdNe ctNe), slNe⟩)
    (cNe_ : PySem.W.codeIn K cdNe "_law_net" = true)
    (kNe_ : PySem.W.keepIn K (.ref fNe) = true)
    (aWk : PySem.W.nsIn K mainGlobals "_law_walk" = some (some (.ref fWk)))
    (lWk : K.lookup fWk = some ⟨ocWk, odWk, .func (PySem.W.fnOf "_law_walk" "_law_walk" (defArgs sWalk) (defBody sWalk) (defScope sWalk) .none kVWk dcWk pmWk anWk cdWk ctWk), slWk⟩)
    (cWk_ : PySem.W.codeIn K cdWk "_law_walk" = true)
    (kWk_ : PySem.W.keepIn K (.ref fWk) = true)
    (aOd : PySem.W.nsIn K mainGlobals "_law_odd" = some (some (.ref fOd)))
    (lOd : K.lookup fOd = some ⟨ocOd, odOd, .func (PySem.W.fnOf "_law_odd" "_law_odd" (defArgs sOdd) (defBody sOdd) (defScope sOdd) .none kVOd dcOd pmOd anOd cdOd ctOd), slOd⟩)
    (cOd_ : PySem.W.codeIn K cdOd "_law_odd" = true)
    (kOd_ : PySem.W.keepIn K (.ref fOd) = true)
    (aTo : PySem.W.nsIn K mainGlobals "_law_told_way" = some (some (.ref fTo)))
    (lTo : K.lookup fTo = some ⟨ocTo, odTo, .func (PySem.W.fnOf "_law_told_way" "_law_told_way" (defArgs sTold) (defBody sTold) (defScope sTold) .none kVTo dcTo pmTo anTo cdTo ctTo), slTo⟩)
    (cTo_ : PySem.W.codeIn K cdTo "_law_told_way" = true)
    (kTo_ : PySem.W.keepIn K (.ref fTo) = true)
    (aSp : PySem.W.nsIn K mainGlobals "_law_spoilt" = some (some (.ref fSp)))
    (lSp : K.lookup fSp = some ⟨ocSp, odSp, .func (PySem.W.fnOf "_law_spoilt" "_law_spoilt" (defArgs sSpoilt) (defBody sSpoilt) (defScope sSpoilt) .none kVSp dcSp pmSp anSp cdSp ctSp), slSp⟩)
    (cSp_ : PySem.W.codeIn K cdSp "_law_spoilt" = true)
    (kSp_ : PySem.W.keepIn K (.ref fSp) = true)
    (aNu : PySem.W.nsIn K mainGlobals "_law_number" = some (some (.ref fNu)))
    (lNu : K.lookup fNu = some ⟨ocNu, odNu, .func (PySem.W.fnOf "_law_number" "_law_number" (defArgs sNum) (defBody sNum) (defScope sNum) .none kVNu dcNu pmNu anNu cdNu ctNu), slNu⟩)
    (cNu_ : PySem.W.codeIn K cdNu "_law_number" = true)
    (kNu_ : PySem.W.keepIn K (.ref fNu) = true)
    (aMa : PySem.W.nsIn K mainGlobals "_law_marks" = some (some (.ref fMa)))
    (lMa : K.lookup fMa = some ⟨ocMa, odMa, .func (PySem.W.fnOf "_law_marks" "_law_marks" (defArgs sMarks) (defBody sMarks) (defScope sMarks) .none kVMa dcMa pmMa anMa cdMa ctMa), slMa⟩)
    (cMa_ : PySem.W.codeIn K cdMa "_law_marks" = true)
    (kMa_ : PySem.W.keepIn K (.ref fMa) = true)
    (aWd : PySem.W.nsIn K mainGlobals "_law_word" = some (some (.ref fWd)))
    (lWd : K.lookup fWd = some ⟨ocWd, odWd, .func (PySem.W.fnOf "_law_word" "_law_word" (defArgs sWord) (defBody sWord) (defScope sWord) .none kVWd dcWd pmWd anWd cdWd ctWd), slWd⟩)
    (cWd_ : PySem.W.codeIn K cdWd "_law_word" = true)
    (kWd_ : PySem.W.keepIn K (.ref fWd) = true)
    (aSa : PySem.W.nsIn K mainGlobals "_law_said" = some (some (.ref fSa)))
    (lSa : K.lookup fSa = some ⟨ocSa, odSa, .func (PySem.W.fnOf "_law_said" "_law_said" (defArgs sSaid) (defBody sSaid) (defScope sSaid) .none kVSa dcSa pmSa anSa cdSa ctSa), slSa⟩)
    (cSa_ : PySem.W.codeIn K cdSa "_law_said" = true)
    (kSa_ : PySem.W.keepIn K (.ref fSa) = true)
    (aL : PySem.W.nsIn K mainGlobals "law" = some (some (.ref fL)))
    (lL : K.lookup fL = some ⟨ocL, odL, .func (PySem.W.fnOf "law" "law" (defArgs sLaw) (defBody sLaw) (defScope sLaw) .none kVL dcL pmL anL (.ref cL) ctL), slL⟩)
    (cL_ : PySem.W.codeIn K (.ref cL) "law" = true)
    (kL_ : PySem.W.keepIn K (.ref fL) = true)
    (z_isinstance : PySem.W.nsIn K mainGlobals "isinstance" = some none)
    (z_int : PySem.W.nsIn K mainGlobals "int" = some none)
    (z_bool : PySem.W.nsIn K mainGlobals "bool" = some none)
    (z_tuple : PySem.W.nsIn K mainGlobals "tuple" = some none)
    (z_len : PySem.W.nsIn K mainGlobals "len" = some none)
    (z_all : PySem.W.nsIn K mainGlobals "all" = some none)
    (z_sum : PySem.W.nsIn K mainGlobals "sum" = some none)
    (z_set : PySem.W.nsIn K mainGlobals "set" = some none)
    (z_range : PySem.W.nsIn K mainGlobals "range" = some none)
    (z_max : PySem.W.nsIn K mainGlobals "max" = some none)
    (z_min : PySem.W.nsIn K mainGlobals "min" = some none)
    (z_list : PySem.W.nsIn K mainGlobals "list" = some none)
    (z_repr : PySem.W.nsIn K mainGlobals "repr" = some none)
    (z_enumerate : PySem.W.nsIn K mainGlobals "enumerate" = some none)
    (z_ValueError : PySem.W.nsIn K mainGlobals "ValueError" = some none)
    (q1 : PySem.W.nsIn K mainGlobals "MOST_PLACES" = some (some (.int 10 t1)))
    (q2 : PySem.W.nsIn K mainGlobals "MOST_ROADS" = some (some (.int 30 t2)))
    (q3 : PySem.W.nsIn K mainGlobals "LEAST_COST" = some (some (.int 1 t3)))
    (q4 : PySem.W.nsIn K mainGlobals "MOST_COST" = some (some (.int 99 t4)))
    (q5 : PySem.W.nsIn K mainGlobals "MOST_TIME" = some (some (.int 99 t5)))
    (g0 : PySem.W.nsIn K mainGlobals "NoNet" = some (some (.ref e0)))
    (g1 : PySem.W.nsIn K mainGlobals "NoPlace" = some (some (.ref e1)))
    (g2 : PySem.W.nsIn K mainGlobals "NoRoad" = some (some (.ref e2)))
    (g3 : PySem.W.nsIn K mainGlobals "NoMany" = some (some (.ref e3)))
    (g4 : PySem.W.nsIn K mainGlobals "NoShut" = some (some (.ref e4)))
    (g5 : PySem.W.nsIn K mainGlobals "NoCost" = some (some (.ref e5)))
    (g6 : PySem.W.nsIn K mainGlobals "NoNumber" = some (some (.ref e6)))
    (g7 : PySem.W.nsIn K mainGlobals "NoWay" = some (some (.ref e7)))
    (g8 : PySem.W.nsIn K mainGlobals "NoWord" = some (some (.ref e8)))
    (g9 : PySem.W.nsIn K mainGlobals "NoTime" = some (some (.ref e9)))
    (g10 : PySem.W.nsIn K mainGlobals "NoChange" = some (some (.ref e10)))
    (g11 : PySem.W.nsIn K mainGlobals "NoPaper" = some (some (.ref e11)))
    (g12 : PySem.W.nsIn K mainGlobals "NoLine" = some (some (.ref e12)))
    (g13 : PySem.W.nsIn K mainGlobals "NoText" = some (some (.ref e13)))
    (g14 : PySem.W.nsIn K mainGlobals "NoAsk" = some (some (.ref e14)))
    (g15 : PySem.W.nsIn K mainGlobals "Nothing" = some (some (.ref e15)))
    (g16 : PySem.W.nsIn K mainGlobals "TooMany" = some (some (.ref e16)))
    (j0 : PySem.W.kitOne K (.ref e1) (.ref e0) = some false)
    (j1 : PySem.W.kitOne K (.ref e1) (.ref e1) = some true)
    (j2 : PySem.W.kitOne K (.ref e1) (.ref e2) = some false)
    (j3 : PySem.W.kitOne K (.ref e1) (.ref e3) = some false)
    (j4 : PySem.W.kitOne K (.ref e1) (.ref e4) = some false)
    (j5 : PySem.W.kitOne K (.ref e1) (.ref e5) = some false)
    (j6 : PySem.W.kitOne K (.ref e1) (.ref e6) = some false)
    (j7 : PySem.W.kitOne K (.ref e1) (.ref e7) = some false)
    (j8 : PySem.W.kitOne K (.ref e1) (.ref e8) = some false)
    (j9 : PySem.W.kitOne K (.ref e1) (.ref e9) = some false)
    (j10 : PySem.W.kitOne K (.ref e1) (.ref e10) = some false)
    (j11 : PySem.W.kitOne K (.ref e1) (.ref e11) = some false)
    (j12 : PySem.W.kitOne K (.ref e1) (.ref e12) = some false)
    (j13 : PySem.W.kitOne K (.ref e1) (.ref e13) = some false)
    (j14 : PySem.W.kitOne K (.ref e1) (.ref e14) = some false)
    (j15 : PySem.W.kitOne K (.ref e1) (.ref e15) = some false)
    (j16 : PySem.W.kitOne K (.ref e1) (.ref e16) = some false)
    (gT : PySem.W.nsIn K mainGlobals "NoThing" = some (some (.ref eT)))
    (jT : PySem.W.kitOne K (.ref e1) (.ref eT) = some true)
    (gN : PySem.W.nsIn K mainGlobals "NotNow" = some (some (.ref eN)))
    (jN : PySem.W.kitOne K (.ref e1) (.ref eN) = some false)
    (jV : PySem.W.kitOne K (.ref e1) (.type "ValueError") = some true)
    (gWy : PySem.W.nsIn K mainGlobals "WayError" = some (some (.ref eW)))
    (jW : PySem.W.exmOne K (.ref e1) (.ref eW) = some true)
    (x1 : PySem.W.excIn K e1 [.type "ValueError", .type "Exception", .type "BaseException", .type "object"] "ValueError.__new__" = true)
    (x2 : PySem.W.keepIn K (.ref e1) = true)
    (x3 : PySem.W.subIn K (.ref e1) (.type "BaseException") = some true)
    (x4 : PySem.W.typeIn K (.ref e1) = some (.type "type"))
    (y1 : PySem.W.findIn K (.ref e1) "__getattribute__" = some (some (.builtin "BaseException.__getattribute__")))
    (y2 : PySem.W.findIn K (.ref e1) "__getattr__" = some none)
    (y3 : PySem.W.hasDictIn K e1 = true)
    (y4 : PySem.W.findIn K (.ref e1) "__class__" = some (some (.builtin "object.__class__")))
    (y5 : PySem.W.specialIn K (.builtin "object.__class__") "__get__" = some (some (.builtin "getset_descriptor.__get__")))
    (y6 : PySem.W.takesIn K (.builtin "object.__class__") = some true)
    (y7 : PySem.W.mroIn K e1 (.type "object") = some true)
    (nT : K.lookup T = none)
    (hd : PySem.W.codeHdIn K cL T = true) :
    K.lookup T = none ∧ ∃ c, PySem.W.codeHdIn K c T = true ∧ Runs P w K mg c T fa := by
  have e := hfa.symm.trans (PySem.W.mg_of X G aL)
  cases e
  have F1 := fun_mk (st := sWhole) l1 c1_ k1_
  have B1 := F1.binds (ps := ["thing"]) fun _ _ _ _ _ _ us hl => match us, hl with | [_], _ => rfl
  have D1 : Df K mg "is_whole" sWhole ["thing"] f1 _ := ⟨F1, B1, PySem.W.mg_of X G a1⟩
  have F2 := fun_mk (st := sWithin) l2 c2_ k2_
  have B2 := F2.binds (ps := ["thing", "low", "high"]) fun _ _ _ _ _ _ us hl => match us, hl with | [_, _, _], _ => rfl
  have D2 : Df K mg "is_within" sWithin ["thing", "low", "high"] f2 _ := ⟨F2, B2, PySem.W.mg_of X G a2⟩
  have FRO := fun_mk (st := sRoadOf) lRO cRO_ kRO_
  have BRO := FRO.binds (ps := ["net", "thing"]) fun _ _ _ _ _ _ us hl => match us, hl with | [_, _], _ => rfl
  have DRO : Df K mg "is_road_of" sRoadOf ["net", "thing"] fRO _ := ⟨FRO, BRO, PySem.W.mg_of X G aRO⟩
  have F3 := fun_mk (st := sTupOf) l3 c3_ k3_
  have B3 := F3.binds (ps := ["thing", "many"]) fun _ _ _ _ _ _ us hl => match us, hl with | [_, _], _ => rfl
  have D3 : Df K mg "is_tuple_of" sTupOf ["thing", "many"] f3 _ := ⟨F3, B3, PySem.W.mg_of X G a3⟩
  have F4 := fun_mk (st := sRoadQ) l4 c4_ k4_
  have B4 := F4.binds (ps := ["places", "thing"]) fun _ _ _ _ _ _ us hl => match us, hl with | [_, _], _ => rfl
  have D4 : Df K mg "is_road_among" sRoadQ ["places", "thing"] f4 _ := ⟨F4, B4, PySem.W.mg_of X G a4⟩
  have F5 := fun_mk (st := sNetQ) l5 c5_ k5_
  have B5 := F5.binds (ps := ["thing"]) fun _ _ _ _ _ _ us hl => match us, hl with | [_], _ => rfl
  have D5 : Df K mg "is_net" sNetQ ["thing"] f5 _ := ⟨F5, B5, PySem.W.mg_of X G a5⟩
  have F6 := fun_mk (st := sAlong) l6 c6_ k6_
  have B6 := F6.binds (ps := ["net", "place", "thing"]) fun _ _ _ _ _ _ us hl => match us, hl with | [_, _, _], _ => rfl
  have D6 : Df K mg "places_along" sAlong ["net", "place", "thing"] f6 _ := ⟨F6, B6, PySem.W.mg_of X G a6⟩
  have FN := fun_mk (st := sChkN) lN cN_ kN_
  have BN := FN.binds (ps := ["thing"]) fun _ _ _ _ _ _ us hl => match us, hl with | [_], _ => rfl
  have DN : Df K mg "check_net" sChkN ["thing"] fN _ := ⟨FN, BN, PySem.W.mg_of X G aN⟩
  have FP := fun_mk (st := sChkP) lP cP_ kP_
  have BP := FP.binds (ps := ["net", "thing"]) fun _ _ _ _ _ _ us hl => match us, hl with | [_, _], _ => rfl
  have DP : Df K mg "check_place" sChkP ["net", "thing"] fP _ := ⟨FP, BP, PySem.W.mg_of X G aP⟩
  have FW := fun_mk (st := sWayOf) lW cW_ kW_
  have BW := FW.binds (ps := ["net", "place", "thing"]) fun _ _ _ _ _ _ us hl => match us, hl with | [_, _, _], _ => rfl
  have DW : Df K mg "way_of" sWayOf ["net", "place", "thing"] fW _ := ⟨FW, BW, PySem.W.mg_of X G aW⟩
  have FI := fun_mk (st := sSimple) lI cI_ kI_
  have BI := FI.binds (ps := ["net", "place", "thing"]) fun _ _ _ _ _ _ us hl => match us, hl with | [_, _, _], _ => rfl
  have DI : Df K mg "is_simple" sSimple ["net", "place", "thing"] fI _ := ⟨FI, BI, PySem.W.mg_of X G aI⟩
  have FCo := fun_mk (st := sCostA) lCo cCo_ kCo_
  have BCo := FCo.binds (ps := ["net", "way"]) fun _ _ _ _ _ _ us hl => match us, hl with | [_, _], _ => rfl
  have DCo : Df K mg "cost_along" sCostA ["net", "way"] fCo _ := ⟨FCo, BCo, PySem.W.mg_of X G aCo⟩
  have FTw := fun_mk (st := sTwice) lTw cTw_ kTw_
  have BTw := FTw.binds (ps := ["along"]) fun _ _ _ _ _ _ us hl => match us, hl with | [_], _ => rfl
  have DTw : Df K mg "is_at_none_twice" sTwice ["along"] fTw _ := ⟨FTw, BTw, PySem.W.mg_of X G aTw⟩
  have FSt := fun_mk (st := sState) lSt cSt_ kSt_
  have BSt := FSt.binds (ps := ["_law_script", "_law_k"]) fun _ _ _ _ _ _ us hl => match us, hl with | [_, _], _ => rfl
  have DSt : Df K mg "_law_state" sState ["_law_script", "_law_k"] fSt _ := ⟨FSt, BSt, PySem.W.mg_of X G aSt⟩
  have FCe := fun_mk (st := sCell) lCe cCe_ kCe_
  have BCe := FCe.binds (ps := ["_law_script", "_law_k"]) fun _ _ _ _ _ _ us hl => match us, hl with | [_, _], _ => rfl
  have DCe : Df K mg "_law_cell_at" sCell ["_law_script", "_law_k"] fCe _ := ⟨FCe, BCe, PySem.W.mg_of X G aCe⟩
  have FTk := fun_mk (st := sTake) lTk cTk_ kTk_
  have BTk := FTk.binds (ps := ["_law_state_here", "_law_much"]) fun _ _ _ _ _ _ us hl => match us, hl with | [_, _], _ => rfl
  have DTk : Df K mg "_law_take" sTake ["_law_state_here", "_law_much"] fTk _ := ⟨FTk, BTk, PySem.W.mg_of X G aTk⟩
  have FNe := fun_mk (st := sNet) lNe cNe_ kNe_
  have BNe := FNe.binds (ps := ["_law_state_here", "_law_most", "_law_roads"]) fun _ _ _ _ _ _ us hl => match us, hl with | [_, _, _], _ => rfl
  have DNe : Df K mg "_law_net" sNet ["_law_state_here", "_law_most", "_law_roads"] fNe _ := ⟨FNe, BNe, PySem.W.mg_of X G aNe⟩
  have FWk := fun_mk (st := sWalk) lWk cWk_ kWk_
  have BWk := FWk.binds (ps := ["_law_state_here", "_law_web", "_law_spot", "_law_most"]) fun _ _ _ _ _ _ us hl => match us, hl with | [_, _, _, _], _ => rfl
  have DWk : Df K mg "_law_walk" sWalk ["_law_state_here", "_law_web", "_law_spot", "_law_most"] fWk _ := ⟨FWk, BWk, PySem.W.mg_of X G aWk⟩
  have FOd := fun_mk (st := sOdd) lOd cOd_ kOd_
  have BOd := FOd.binds (ps := ["_law_state_here"]) fun _ _ _ _ _ _ us hl => match us, hl with | [_], _ => rfl
  have DOd : Df K mg "_law_odd" sOdd ["_law_state_here"] fOd _ := ⟨FOd, BOd, PySem.W.mg_of X G aOd⟩
  have FTo := fun_mk (st := sTold) lTo cTo_ kTo_
  have BTo := FTo.binds (ps := ["_law_web", "_law_spot", "_law_what"]) fun _ _ _ _ _ _ us hl => match us, hl with | [_, _, _], _ => rfl
  have DTo : Df K mg "_law_told_way" sTold ["_law_web", "_law_spot", "_law_what"] fTo _ := ⟨FTo, BTo, PySem.W.mg_of X G aTo⟩
  have FSp := fun_mk (st := sSpoilt) lSp cSp_ kSp_
  have BSp := FSp.binds (ps := ["_law_state_here", "_law_what", "_law_deep"]) fun _ _ _ _ _ _ us hl => match us, hl with | [_, _, _], _ => rfl
  have DSp : Df K mg "_law_spoilt" sSpoilt ["_law_state_here", "_law_what", "_law_deep"] fSp _ := ⟨FSp, BSp, PySem.W.mg_of X G aSp⟩
  have FNu := fun_mk (st := sNum) lNu cNu_ kNu_
  have BNu := FNu.binds (ps := ["_law_what", "_law_least", "_law_most"]) fun _ _ _ _ _ _ us hl => match us, hl with | [_, _, _], _ => rfl
  have DNu : Df K mg "_law_number" sNum ["_law_what", "_law_least", "_law_most"] fNu _ := ⟨FNu, BNu, PySem.W.mg_of X G aNu⟩
  have FMa := fun_mk (st := sMarks) lMa cMa_ kMa_
  have BMa := FMa.binds (ps := ["_law_e"]) fun _ _ _ _ _ _ us hl => match us, hl with | [_], _ => rfl
  have DMa : Df K mg "_law_marks" sMarks ["_law_e"] fMa _ := ⟨FMa, BMa, PySem.W.mg_of X G aMa⟩
  have FWd := fun_mk (st := sWord) lWd cWd_ kWd_
  have BWd := FWd.binds (ps := ["_law_e"]) fun _ _ _ _ _ _ us hl => match us, hl with | [_], _ => rfl
  have DWd : Df K mg "_law_word" sWord ["_law_e"] fWd _ := ⟨FWd, BWd, PySem.W.mg_of X G aWd⟩
  have FSa := fun_mk (st := sSaid) lSa cSa_ kSa_
  have BSa := FSa.binds (ps := ["_law_call"]) fun _ _ _ _ _ _ us hl => match us, hl with | [_], _ => rfl
  have DSa : Df K mg "_law_said" sSaid ["_law_call"] fSa _ := ⟨FSa, BSa, PySem.W.mg_of X G aSa⟩
  have S : Sm K mg f1 f2 f3 f4 f5 f6 _ _ _ _ _ _ := { mi := PySem.W.mg_none_of X G z_isinstance, mI := PySem.W.mg_none_of X G z_int, mB := PySem.W.mg_none_of X G z_bool, mT := PySem.W.mg_none_of X G z_tuple, ml := PySem.W.mg_none_of X G z_len, mA := PySem.W.mg_none_of X G z_all, mS := PySem.W.mg_none_of X G z_sum, mE := PySem.W.mg_none_of X G z_set, c1 := ⟨_, PySem.W.mg_of X G q1⟩, c2 := ⟨_, PySem.W.mg_of X G q2⟩, c3 := ⟨_, PySem.W.mg_of X G q3⟩, c4 := ⟨_, PySem.W.mg_of X G q4⟩, c5 := ⟨_, PySem.W.mg_of X G q5⟩, whole := D1, within := D2, tupOf := D3, roadQ := D4, netQ := D5, along := D6, roadOf := ⟨fRO, _, DRO⟩ }
  have Z : Cl K mg (fun i => match i with | 0 => e0 | 1 => e1 | 2 => e2 | 3 => e3 | 4 => e4 | 5 => e5 | 6 => e6 | 7 => e7 | 8 => e8 | 9 => e9 | 10 => e10 | 11 => e11 | 12 => e12 | 13 => e13 | 14 => e14 | 15 => e15 | 16 => e16 | _ => 0) eT eN := { c := ⟨y1, y2, x3, y3, y4, y5, y6, y7⟩, g0 := PySem.W.mg_of X G g0, k0 := j0, g1 := PySem.W.mg_of X G g1, k1 := j1, g2 := PySem.W.mg_of X G g2, k2 := j2, g3 := PySem.W.mg_of X G g3, k3 := j3, g4 := PySem.W.mg_of X G g4, k4 := j4, g5 := PySem.W.mg_of X G g5, k5 := j5, g6 := PySem.W.mg_of X G g6, k6 := j6, g7 := PySem.W.mg_of X G g7, k7 := j7, g8 := PySem.W.mg_of X G g8, k8 := j8, g9 := PySem.W.mg_of X G g9, k9 := j9, g10 := PySem.W.mg_of X G g10, k10 := j10, g11 := PySem.W.mg_of X G g11, k11 := j11, g12 := PySem.W.mg_of X G g12, k12 := j12, g13 := PySem.W.mg_of X G g13, k13 := j13, g14 := PySem.W.mg_of X G g14, k14 := j14, g15 := PySem.W.mg_of X G g15, k15 := j15, g16 := PySem.W.mg_of X G g16, k16 := j16, gT := PySem.W.mg_of X G gT, kT := jT, gN := PySem.W.mg_of X G gN, kN := jN, kV := jV }
  have ZP : Ex K mg "NoPlace" e1 := ⟨PySem.W.mg_of X G g1, x1, x2, x3, x4⟩
  refine ⟨nT, cL, hd, fun base H s a ns tb hT sq env => ?_⟩
  refine LamX.run_ofS (k := 10) (N := ["_law_script", "_law_k", "_law_state_here", "_law_turn", "_law_spot", "_law_walk_here", "_law_some", "_law_lap", "_law_what", "_law_kept", "_law_due", "_law_told", "_law_words", "_law_bad", "_law_web"]) (ps := ["_law_script"]) (us := [.ref a]) (vs := [.ref a]) lL cL_ scLaw ⟨rfl, by decide, by decide⟩ env (.of_eq rfl) (.cons rfl .nil) rfl fun hr => ?_
  obtain ⟨t, ht, hq⟩ := law_reads (P := P) (w := w) (base := base) (fL := fa) (s := s) (H := H) (a := a) (ns := ns) S Z ZP DN DP DCo DTw DW DI DSt DCe DTk DNe DWk DOd DTo DSp DNu DMa DWd DSa (PySem.W.mg_none_of X G z_range) (PySem.W.mg_none_of X G z_max) (PySem.W.mg_none_of X G z_min) (PySem.W.mg_none_of X G z_list) (PySem.W.mg_none_of X G z_repr) (PySem.W.mg_none_of X G z_enumerate) (PySem.W.mg_none_of X G z_ValueError) (PySem.W.mg_of X G gWy) jW tb rfl hr hT sq
  exact ⟨t, ht.nox, hq⟩
end Wy

open PySem PySem.W PyProof.Rows
set_option maxHeartbeats 0 in
theorem PySem.Challenge.cw_waysranked_k02_ways_told_holds : PySem.Challenge.rw_waysranked_k02_ways_told.Holds := by
  w_on; o_law; k_head; (case hw => w_witness2)
  k_fill
  refine Wy.walk_end (l := PySem.Challenge.rw_waysranked_k02_ways_told) (n := 63) rfl (by decide) rfl (fun w h Y => PySem.W.km_in_of Y) (fun w h Y => PySem.W.km_tabs_of Y _ (List.Mem.head _)) ?F
  case F =>
    intro w mg fa h KX G hmg
    refine' Wy.fin_mk KX G hmg ?zz_a1 ?zz_l1 ?zz_c1_ ?zz_k1_ ?zz_a2 ?zz_l2 ?zz_c2_ ?zz_k2_ ?zz_aRO ?zz_lRO ?zz_cRO_ ?zz_kRO_ ?zz_a3 ?zz_l3 ?zz_c3_ ?zz_k3_ ?zz_a4 ?zz_l4 ?zz_c4_ ?zz_k4_ ?zz_a5 ?zz_l5 ?zz_c5_ ?zz_k5_ ?zz_a6 ?zz_l6 ?zz_c6_ ?zz_k6_ ?zz_aN ?zz_lN ?zz_cN_ ?zz_kN_ ?zz_aP ?zz_lP ?zz_cP_ ?zz_kP_ ?zz_aW ?zz_lW ?zz_cW_ ?zz_kW_ ?zz_aI ?zz_lI ?zz_cI_ ?zz_kI_ ?zz_aCo ?zz_lCo ?zz_cCo_ ?zz_kCo_ ?zz_aTw ?zz_lTw ?zz_cTw_ ?zz_kTw_ ?zz_aSt ?zz_lSt ?zz_cSt_ ?zz_kSt_ ?zz_aCe ?zz_lCe ?zz_cCe_ ?zz_kCe_ ?zz_aTk ?zz_lTk ?zz_cTk_ ?zz_kTk_ ?zz_aNe ?zz_lNe ?zz_cNe_ ?zz_kNe_ ?zz_aWk ?zz_lWk ?zz_cWk_ ?zz_kWk_ ?zz_aOd ?zz_lOd ?zz_cOd_ ?zz_kOd_ ?zz_aTo ?zz_lTo ?zz_cTo_ ?zz_kTo_ ?zz_aSp ?zz_lSp ?zz_cSp_ ?zz_kSp_ ?zz_aNu ?zz_lNu ?zz_cNu_ ?zz_kNu_ ?zz_aMa ?zz_lMa ?zz_cMa_ ?zz_kMa_ ?zz_aWd ?zz_lWd ?zz_cWd_ ?zz_kWd_ ?zz_aSa ?zz_lSa ?zz_cSa_ ?zz_kSa_ ?zz_aL ?zz_lL ?zz_cL_ ?zz_kL_ ?zz_z_isinstance ?zz_z_int ?zz_z_bool ?zz_z_tuple ?zz_z_len ?zz_z_all ?zz_z_sum ?zz_z_set ?zz_z_range ?zz_z_max ?zz_z_min ?zz_z_list ?zz_z_repr ?zz_z_enumerate ?zz_z_ValueError ?zz_q1 ?zz_q2 ?zz_q3 ?zz_q4 ?zz_q5 ?zz_g0 ?zz_g1 ?zz_g2 ?zz_g3 ?zz_g4 ?zz_g5 ?zz_g6 ?zz_g7 ?zz_g8 ?zz_g9 ?zz_g10 ?zz_g11 ?zz_g12 ?zz_g13 ?zz_g14 ?zz_g15 ?zz_g16 ?zz_j0 ?zz_j1 ?zz_j2 ?zz_j3 ?zz_j4 ?zz_j5 ?zz_j6 ?zz_j7 ?zz_j8 ?zz_j9 ?zz_j10 ?zz_j11 ?zz_j12 ?zz_j13 ?zz_j14 ?zz_j15 ?zz_j16 ?zz_gT ?zz_jT ?zz_gN ?zz_jN ?zz_jV ?zz_gWy ?zz_jW ?zz_x1 ?zz_x2 ?zz_x3 ?zz_x4 ?zz_y1 ?zz_y2 ?zz_y3 ?zz_y4 ?zz_y5 ?zz_y6 ?zz_y7 ?zz_nT ?zz_hd
    (case zz_a1 => first | k_is | rfl | decide +kernel | k_exc)
    (case zz_l1 => first | k_is | rfl | decide +kernel | k_exc)
    (case zz_c1_ => first | k_is | rfl | decide +kernel | k_exc)
    (case zz_k1_ => first | k_is | rfl | decide +kernel | k_exc)
    (case zz_a2 => first | k_is | rfl | decide +kernel | k_exc)
    (case zz_l2 => first | k_is | rfl | decide +kernel | k_exc)
    (case zz_c2_ => first | k_is | rfl | decide +kernel | k_exc)
    (case zz_aRO => first | k_is | rfl | decide +kernel | k_exc)
    (case zz_lRO => first | k_is | rfl | decide +kernel | k_exc)
    (case zz_cRO_ => first | k_is | rfl | decide +kernel | k_exc)
    (case zz_kRO_ => first | k_is | rfl | decide +kernel | k_exc)
    (case zz_k2_ => first | k_is | rfl | decide +kernel | k_exc)
    (case zz_a3 => first | k_is | rfl | decide +kernel | k_exc)
    (case zz_l3 => first | k_is | rfl | decide +kernel | k_exc)
    (case zz_c3_ => first | k_is | rfl | decide +kernel | k_exc)
    (case zz_k3_ => first | k_is | rfl | decide +kernel | k_exc)
    (case zz_a4 => first | k_is | rfl | decide +kernel | k_exc)
    (case zz_l4 => first | k_is | rfl | decide +kernel | k_exc)
    (case zz_c4_ => first | k_is | rfl | decide +kernel | k_exc)
    (case zz_k4_ => first | k_is | rfl | decide +kernel | k_exc)
    (case zz_a5 => first | k_is | rfl | decide +kernel | k_exc)
    (case zz_l5 => first | k_is | rfl | decide +kernel | k_exc)
    (case zz_c5_ => first | k_is | rfl | decide +kernel | k_exc)
    (case zz_k5_ => first | k_is | rfl | decide +kernel | k_exc)
    (case zz_a6 => first | k_is | rfl | decide +kernel | k_exc)
    (case zz_l6 => first | k_is | rfl | decide +kernel | k_exc)
    (case zz_c6_ => first | k_is | rfl | decide +kernel | k_exc)
    (case zz_k6_ => first | k_is | rfl | decide +kernel | k_exc)
    (case zz_aN => first | k_is | rfl | decide +kernel | k_exc)
    (case zz_lN => first | k_is | rfl | decide +kernel | k_exc)
    (case zz_cN_ => first | k_is | rfl | decide +kernel | k_exc)
    (case zz_kN_ => first | k_is | rfl | decide +kernel | k_exc)
    (case zz_aP => first | k_is | rfl | decide +kernel | k_exc)
    (case zz_lP => first | k_is | rfl | decide +kernel | k_exc)
    (case zz_cP_ => first | k_is | rfl | decide +kernel | k_exc)
    (case zz_kP_ => first | k_is | rfl | decide +kernel | k_exc)
    (case zz_aW => first | k_is | rfl | decide +kernel | k_exc)
    (case zz_lW => first | k_is | rfl | decide +kernel | k_exc)
    (case zz_cW_ => first | k_is | rfl | decide +kernel | k_exc)
    (case zz_kW_ => first | k_is | rfl | decide +kernel | k_exc)
    (case zz_aI => first | k_is | rfl | decide +kernel | k_exc)
    (case zz_lI => first | k_is | rfl | decide +kernel | k_exc)
    (case zz_cI_ => first | k_is | rfl | decide +kernel | k_exc)
    (case zz_kI_ => first | k_is | rfl | decide +kernel | k_exc)
    (case zz_aCo => first | k_is | rfl | decide +kernel | k_exc)
    (case zz_lCo => first | k_is | rfl | decide +kernel | k_exc)
    (case zz_cCo_ => first | k_is | rfl | decide +kernel | k_exc)
    (case zz_kCo_ => first | k_is | rfl | decide +kernel | k_exc)
    (case zz_aTw => first | k_is | rfl | decide +kernel | k_exc)
    (case zz_lTw => first | k_is | rfl | decide +kernel | k_exc)
    (case zz_cTw_ => first | k_is | rfl | decide +kernel | k_exc)
    (case zz_kTw_ => first | k_is | rfl | decide +kernel | k_exc)
    (case zz_aSt => first | k_is | rfl | decide +kernel | k_exc)
    (case zz_lSt => first | k_is | rfl | decide +kernel | k_exc)
    (case zz_cSt_ => first | k_is | rfl | decide +kernel | k_exc)
    (case zz_kSt_ => first | k_is | rfl | decide +kernel | k_exc)
    (case zz_aCe => first | k_is | rfl | decide +kernel | k_exc)
    (case zz_lCe => first | k_is | rfl | decide +kernel | k_exc)
    (case zz_cCe_ => first | k_is | rfl | decide +kernel | k_exc)
    (case zz_kCe_ => first | k_is | rfl | decide +kernel | k_exc)
    (case zz_aTk => first | k_is | rfl | decide +kernel | k_exc)
    (case zz_lTk => first | k_is | rfl | decide +kernel | k_exc)
    (case zz_cTk_ => first | k_is | rfl | decide +kernel | k_exc)
    (case zz_kTk_ => first | k_is | rfl | decide +kernel | k_exc)
    (case zz_aNe => first | k_is | rfl | decide +kernel | k_exc)
    (case zz_lNe => first | k_is | rfl | decide +kernel | k_exc)
    (case zz_cNe_ => first | k_is | rfl | decide +kernel | k_exc)
    (case zz_kNe_ => first | k_is | rfl | decide +kernel | k_exc)
    (case zz_aWk => first | k_is | rfl | decide +kernel | k_exc)
    (case zz_lWk => first | k_is | rfl | decide +kernel | k_exc)
    (case zz_cWk_ => first | k_is | rfl | decide +kernel | k_exc)
    (case zz_kWk_ => first | k_is | rfl | decide +kernel | k_exc)
    (case zz_aOd => first | k_is | rfl | decide +kernel | k_exc)
    (case zz_lOd => first | k_is | rfl | decide +kernel | k_exc)
    (case zz_cOd_ => first | k_is | rfl | decide +kernel | k_exc)
    (case zz_kOd_ => first | k_is | rfl | decide +kernel | k_exc)
    (case zz_aTo => first | k_is | rfl | decide +kernel | k_exc)
    (case zz_lTo => first | k_is | rfl | decide +kernel | k_exc)
    (case zz_cTo_ => first | k_is | rfl | decide +kernel | k_exc)
    (case zz_kTo_ => first | k_is | rfl | decide +kernel | k_exc)
    (case zz_aSp => first | k_is | rfl | decide +kernel | k_exc)
    (case zz_lSp => first | k_is | rfl | decide +kernel | k_exc)
    (case zz_cSp_ => first | k_is | rfl | decide +kernel | k_exc)
    (case zz_kSp_ => first | k_is | rfl | decide +kernel | k_exc)
    (case zz_aNu => first | k_is | rfl | decide +kernel | k_exc)
    (case zz_lNu => first | k_is | rfl | decide +kernel | k_exc)
    (case zz_cNu_ => first | k_is | rfl | decide +kernel | k_exc)
    (case zz_kNu_ => first | k_is | rfl | decide +kernel | k_exc)
    (case zz_aMa => first | k_is | rfl | decide +kernel | k_exc)
    (case zz_lMa => first | k_is | rfl | decide +kernel | k_exc)
    (case zz_cMa_ => first | k_is | rfl | decide +kernel | k_exc)
    (case zz_kMa_ => first | k_is | rfl | decide +kernel | k_exc)
    (case zz_aWd => first | k_is | rfl | decide +kernel | k_exc)
    (case zz_lWd => first | k_is | rfl | decide +kernel | k_exc)
    (case zz_cWd_ => first | k_is | rfl | decide +kernel | k_exc)
    (case zz_kWd_ => first | k_is | rfl | decide +kernel | k_exc)
    (case zz_aSa => first | k_is | rfl | decide +kernel | k_exc)
    (case zz_lSa => first | k_is | rfl | decide +kernel | k_exc)
    (case zz_cSa_ => first | k_is | rfl | decide +kernel | k_exc)
    (case zz_kSa_ => first | k_is | rfl | decide +kernel | k_exc)
    (case zz_aL => first | k_is | rfl | decide +kernel | k_exc)
    (case zz_lL => first | k_is | rfl | decide +kernel | k_exc)
    (case zz_cL_ => first | k_is | rfl | decide +kernel | k_exc)
    (case zz_kL_ => first | k_is | rfl | decide +kernel | k_exc)
    (case zz_z_isinstance => first | k_is | rfl | decide +kernel | k_exc)
    (case zz_z_int => first | k_is | rfl | decide +kernel | k_exc)
    (case zz_z_bool => first | k_is | rfl | decide +kernel | k_exc)
    (case zz_z_tuple => first | k_is | rfl | decide +kernel | k_exc)
    (case zz_z_len => first | k_is | rfl | decide +kernel | k_exc)
    (case zz_z_all => first | k_is | rfl | decide +kernel | k_exc)
    (case zz_z_sum => first | k_is | rfl | decide +kernel | k_exc)
    (case zz_z_set => first | k_is | rfl | decide +kernel | k_exc)
    (case zz_z_range => first | k_is | rfl | decide +kernel | k_exc)
    (case zz_z_max => first | k_is | rfl | decide +kernel | k_exc)
    (case zz_z_min => first | k_is | rfl | decide +kernel | k_exc)
    (case zz_z_list => first | k_is | rfl | decide +kernel | k_exc)
    (case zz_z_repr => first | k_is | rfl | decide +kernel | k_exc)
    (case zz_z_enumerate => first | k_is | rfl | decide +kernel | k_exc)
    (case zz_z_ValueError => first | k_is | rfl | decide +kernel | k_exc)
    (case zz_q1 => first | k_is | rfl | decide +kernel | k_exc)
    (case zz_q2 => first | k_is | rfl | decide +kernel | k_exc)
    (case zz_q3 => first | k_is | rfl | decide +kernel | k_exc)
    (case zz_q4 => first | k_is | rfl | decide +kernel | k_exc)
    (case zz_q5 => first | k_is | rfl | decide +kernel | k_exc)
    (case zz_g0 => first | k_is | rfl | decide +kernel | k_exc)
    (case zz_g1 => first | k_is | rfl | decide +kernel | k_exc)
    (case zz_g2 => first | k_is | rfl | decide +kernel | k_exc)
    (case zz_g3 => first | k_is | rfl | decide +kernel | k_exc)
    (case zz_g4 => first | k_is | rfl | decide +kernel | k_exc)
    (case zz_g5 => first | k_is | rfl | decide +kernel | k_exc)
    (case zz_g6 => first | k_is | rfl | decide +kernel | k_exc)
    (case zz_g7 => first | k_is | rfl | decide +kernel | k_exc)
    (case zz_g8 => first | k_is | rfl | decide +kernel | k_exc)
    (case zz_g9 => first | k_is | rfl | decide +kernel | k_exc)
    (case zz_g10 => first | k_is | rfl | decide +kernel | k_exc)
    (case zz_g11 => first | k_is | rfl | decide +kernel | k_exc)
    (case zz_g12 => first | k_is | rfl | decide +kernel | k_exc)
    (case zz_g13 => first | k_is | rfl | decide +kernel | k_exc)
    (case zz_g14 => first | k_is | rfl | decide +kernel | k_exc)
    (case zz_g15 => first | k_is | rfl | decide +kernel | k_exc)
    (case zz_g16 => first | k_is | rfl | decide +kernel | k_exc)
    (case zz_j0 => first | k_is | rfl | decide +kernel | k_exc)
    (case zz_j1 => first | k_is | rfl | decide +kernel | k_exc)
    (case zz_j2 => first | k_is | rfl | decide +kernel | k_exc)
    (case zz_j3 => first | k_is | rfl | decide +kernel | k_exc)
    (case zz_j4 => first | k_is | rfl | decide +kernel | k_exc)
    (case zz_j5 => first | k_is | rfl | decide +kernel | k_exc)
    (case zz_j6 => first | k_is | rfl | decide +kernel | k_exc)
    (case zz_j7 => first | k_is | rfl | decide +kernel | k_exc)
    (case zz_j8 => first | k_is | rfl | decide +kernel | k_exc)
    (case zz_j9 => first | k_is | rfl | decide +kernel | k_exc)
    (case zz_j10 => first | k_is | rfl | decide +kernel | k_exc)
    (case zz_j11 => first | k_is | rfl | decide +kernel | k_exc)
    (case zz_j12 => first | k_is | rfl | decide +kernel | k_exc)
    (case zz_j13 => first | k_is | rfl | decide +kernel | k_exc)
    (case zz_j14 => first | k_is | rfl | decide +kernel | k_exc)
    (case zz_j15 => first | k_is | rfl | decide +kernel | k_exc)
    (case zz_j16 => first | k_is | rfl | decide +kernel | k_exc)
    (case zz_gT => first | k_is | rfl | decide +kernel | k_exc)
    (case zz_jT => first | k_is | rfl | decide +kernel | k_exc)
    (case zz_gN => first | k_is | rfl | decide +kernel | k_exc)
    (case zz_jN => first | k_is | rfl | decide +kernel | k_exc)
    (case zz_jV => first | k_is | rfl | decide +kernel | k_exc)
    (case zz_gWy => first | k_is | rfl | decide +kernel | k_exc)
    (case zz_jW => first | k_is | rfl | decide +kernel | k_exc)
    (case zz_x1 => first | k_is | rfl | decide +kernel | k_exc)
    (case zz_x2 => first | k_is | rfl | decide +kernel | k_exc)
    (case zz_x3 => first | k_is | rfl | decide +kernel | k_exc)
    (case zz_x4 => first | k_is | rfl | decide +kernel | k_exc)
    (case zz_y1 => first | k_is | rfl | decide +kernel | k_exc)
    (case zz_y2 => first | k_is | rfl | decide +kernel | k_exc)
    (case zz_y3 => first | k_is | rfl | decide +kernel | k_exc)
    (case zz_y4 => first | k_is | rfl | decide +kernel | k_exc)
    (case zz_y5 => first | k_is | rfl | decide +kernel | k_exc)
    (case zz_y6 => first | k_is | rfl | decide +kernel | k_exc)
    (case zz_y7 => first | k_is | rfl | decide +kernel | k_exc)
    (case zz_nT => first | k_is | rfl | decide +kernel | k_exc)
    (case zz_hd => first | k_is | rfl | decide +kernel | k_exc)
