import PyProof.Rows.All
import Wide.All
import OpenK.AllK
import Wide.FinOn
import PySem.Challenge.RW_waysranked_k56_fronts_refuse
import HandS.ForMost
import HandS.ForExc
import HandS.IsInst
import HandS.ExcIs
import HandS.Lambda
import HandS.HotCalls
import HandS.Zip
import HandS.Strs
import HandS.Flow
import HandS.Style
import HandS.TupAny
import HandS.TupLe
import HandS.Defaults
import PyProof.ReprRoads
import HandS.Nested
import HandS.EndTab
set_option Elab.async false
set_option linter.all false
set_option maxRecDepth 100000
namespace Wy
open PySem PySem.Spec PyProof.Rows L2
def topS (i : Nat) : Stmt := PySem.Challenge.pw_waysranked_k56_fronts_refuse.main.body.getD i (.Pass ⟨0, 0, 0, 0⟩)
abbrev sWhole : Stmt := topS 22
abbrev sWithin : Stmt := topS 23
abbrev sTupOf : Stmt := topS 32
abbrev sCell : Stmt := topS 55
abbrev sState : Stmt := topS 56
abbrev sTake : Stmt := topS 57
/-- a def of the text, where it stands, how its arguments bind -/
structure Df (K : PySem.W.Frag) (mg : Str → Option Value) (x : Str) (st : Stmt) (ps : List Str) (f : Addr) (fd : FuncData) : Prop where
  F : Fun K x x st f fd
  b : Binds K fd ps []
  g : mg x = some (.ref f)
/-- all but the state's list stays -/
def Keep (z : Addr) (H H' : Hp) : Prop := ∀ b o, H b = some o → b ≠ z → H' b = some o
def StOk (H : Hp) (z : Addr) : Prop := ∃ x y : Int, H z = some (.lst [.int x, .int y]) ∧ 0 ≤ x ∧ 0 ≤ y ∧ y < 2147483647
theorem Keep.refl (z : Addr) (H : Hp) : Keep z H H := fun _ _ h _ => h
theorem Keep.trans {z : Addr} {H H1 H2 : Hp} (a : Keep z H H1) (b : Keep z H1 H2) : Keep z H H2 := fun c o h n => b c o (a c o h n) n
theorem Keep.self {z : Addr} {H : Hp} {o : HO} : Keep z H (upd H z o) := fun b u h n => by rw [upd_ne n]; exact h
theorem Keep.new {z p : Addr} {H : Hp} {o : HO} (h : H p = none) : Keep z H (upd H p o) := fun b u e _ => by rw [upd_ne (ne_of_none e h)]; exact e
theorem Keep.of {z : Addr} {H H' : Hp} (h : Same H H') : Keep z H H' := fun b o e _ => h b o e
theorem same_new {H : Hp} {p : Addr} {o : HO} (h : H p = none) : Same H (upd H p o) := fun b x e => by
  rw [upd_ne (ne_of_none e h)]
  exact e
theorem StOk.same {H H' : Hp} {z : Addr} (s : StOk H z) (h : Same H H') : StOk H' z := let ⟨x, y, e, r⟩ := s; ⟨x, y, h _ _ e, r⟩
theorem StOk.ne {H : Hp} {z p : Addr} (s : StOk H z) (h : H p = none) : z ≠ p := let ⟨_, _, e, _⟩ := s; ne_of_none e h
/-- a thing of whatever kind, by its class -/
inductive Tg (H : Hp) : V → String → Prop where
  | non : Tg H .non "NoneType"
  | bl (b : Bool) : Tg H (.bl b) "bool"
  | int (i : Int) : Tg H (.int i) "int"
  | str (x : Str) : Tg H (.str x) "str"
  | lst {a : Addr} {xs : List V} : H a = some (.lst xs) → Tg H (.ref a) "list"
  | tup {a : Addr} {xs : List V} : H a = some (.tup xs) → Tg H (.ref a) "tuple"
  | dct {a : Addr} {xs : List (Key × V)} : H a = some (.dK xs) → Tg H (.ref a) "dict"
theorem Tg.tyx {K : PySem.W.Frag} {H : Hp} {v : V} {n : String} (t : Tg H v n) : TyX K H v (.type n) := by
  cases t with
  | non => exact .base .non
  | bl b => exact .base (.bl b)
  | int i => exact .base (.int i)
  | str x => exact .base (.str x)
  | lst e => exact .base (.lst e)
  | tup e => exact .base (.tup e)
  | dct e => exact .base (.dK e)
theorem Tg.keep {H H' : Hp} {v : V} {n : String} (t : Tg H v n) (h : Same H H') : Tg H' v n := by
  cases t with
  | non => exact .non
  | bl b => exact .bl b
  | int i => exact .int i
  | str x => exact .str x
  | lst e => exact .lst (h _ _ e)
  | tup e => exact .tup (h _ _ e)
  | dct e => exact .dct (h _ _ e)
def kInt (n : String) : Bool := n == "int" || n == "bool"
theorem isi_int {K : PySem.W.Frag} {H : Hp} {v : V} {n : String} (t : Tg H v n) : PySem.W.kitOne K (.type n) (.type "int") = some (kInt n) := by
  cases t <;> exact kit_ty (by decide +kernel)
theorem isi_bool {K : PySem.W.Frag} {H : Hp} {v : V} {n : String} (t : Tg H v n) : PySem.W.kitOne K (.type n) (.type "bool") = some (n == "bool") := by
  cases t <;> exact kit_ty (by decide +kernel)
theorem isi_tuple {K : PySem.W.Frag} {H : Hp} {v : V} {n : String} (t : Tg H v n) : PySem.W.kitOne K (.type n) (.type "tuple") = some (n == "tuple") := by
  cases t <;> exact kit_ty (by decide +kernel)
/-- a whole number from lo to hi -/
def isIn (v : V) (lo hi : Int) : Bool := match v with
  | .int i => decide (lo ≤ i) && decide (i ≤ hi)
  | _ => false
section
variable {P : Program} {w : World} {K : PySem.W.Frag} {mg : Str → Option Value} {base : Heap}
theorem scTake : FnScope ["_law_state_here", "_law_far", "_law_found", "_law_stirred"] ["_law_state_here", "_law_far"] (defScope sTake) := ⟨rfl, rfl, rfl, by decide +kernel, rfl, by decide +kernel, by decide +kernel⟩
def spTake : Sp := fun vs H Q _ => ∃ (z : Addr) (m : Int), vs = [.ref z, .int m] ∧ StOk H z ∧ 0 < m ∧ m < 1073741824 ∧
  ∀ H' n, Keep z H H' → StOk H' z → 0 ≤ n → n < m → Q (.int n) H'
theorem ok_take {f : Addr} {fd : FuncData} {k : Nat} (D : Df K mg "_law_take" sTake ["_law_state_here", "_law_far"] f fd) : FnOk P w K mg base CX0 (k + 1) f fd ["_law_state_here", "_law_far"] spTake := by
  refine D.F.ok scTake (fun vs H Q E h => ?_) (fun cdv A outer s H vs Q E hr h => ?_)
  · obtain ⟨_, _, rfl, _⟩ := h
    rfl
  · obtain ⟨z, m, rfl, ⟨x, y, e, hx, hy, hy2⟩, hm, hm2, q⟩ := h
    refine ⟨_, pss_cons (ps_if (pt_cmpR op_gt (pe_ix ix_list (pv 0) pe_int (fun _ _ => rfl)) pe_int (nomark _))
        (pss_cons (ps_set (i := 2) scTake.nd rfl (.inl rfl) (pe_op op_mod (pe_ix ix_list (pv 0) pe_int (fun _ _ => rfl)) (pv 1)))
        (pss_cons (ps_asg (pe_op op_fdiv (pe_ix ix_list (pv 0) pe_int (fun _ _ => rfl)) (pv 1)) (pg_sub (pv 0) pe_int set_list))
        (pss_one (ps_ret (pv 2))))) pss_nil)
      (pss_cons (ps_asg (pe_op op_mod (pe_op op_add (pe_op op_mul (pe_ix ix_list (pv 0) pe_int (fun _ _ => rfl)) pe_int) pe_int) pe_int) (pg_sub (pv 0) pe_int set_list))
      (pss_cons (ps_set (i := 3) scTake.nd rfl (.inl rfl) (pe_op op_mod (pe_op op_add (pe_op op_add (pe_op op_mul (pe_ix ix_list (pv 0) pe_int (fun _ _ => rfl)) (pe_ix ix_list (pv 0) pe_int (fun _ _ => rfl))) (pe_op op_mul pe_int (pe_ix ix_list (pv 0) pe_int (fun _ _ => rfl)))) pe_int) pe_int))
      (pss_cons (ps_set (i := 3) scTake.nd rfl (.inl rfl) (pe_op op_mod (pe_op op_add (pe_op op_mul (pv 3) (pv 3)) (pe_op op_mul pe_int (pv 3))) pe_int))
      (pss_one (ps_ret (pe_op op_mod (pe_op op_fdiv (pv 3) pe_int) (pv 1))))))), ?_⟩
    refine ⟨.ref z, rfl, z, _, 0, _, rfl, rfl, SqL.of e, rfl, x, 0, rfl, rfl, _, rfl, ite2 (fun c => ?_) (fun c => ?_)⟩
    · refine ⟨.ref z, rfl, z, _, 0, _, rfl, rfl, SqL.of e, rfl, .int m, rfl, x, m, rfl, rfl, hm, ?_⟩
      refine ⟨.ref z, rfl, z, _, 0, _, rfl, rfl, SqL.of e, rfl, .int m, rfl, x, m, rfl, rfl, ⟨hm, hm2⟩, ?_⟩
      refine ⟨.ref z, rfl, z, _, 0, 0, rfl, rfl, e, rfl, ?_⟩
      refine ⟨.int (x % m), rfl, q _ _ .self ⟨x / m, y, upd_same, Int.ediv_nonneg hx (Int.le_of_lt hm), hy, hy2⟩ (Int.emod_nonneg _ (by omega)) (Int.emod_lt_of_pos _ hm)⟩
    · have b1 := Int.emod_nonneg (y * 48271 + 29) (show (2147483647 : Int) ≠ 0 by decide)
      have b2 := Int.emod_lt_of_pos (y * 48271 + 29) (show (0 : Int) < 2147483647 by decide)
      refine ⟨.ref z, rfl, z, _, 1, _, rfl, rfl, SqL.of e, rfl, y, 48271, rfl, rfl, .inr ⟨by decide, by decide⟩, _, _, rfl, rfl, _, 2147483647, rfl, rfl, (by show (0 : Int) < 2147483647; decide), ?_⟩
      refine ⟨.ref z, rfl, z, _, 1, 1, rfl, rfl, e, rfl, ?_⟩
      have e2 : (upd H z (.lst [.int x, .int ((y * 48271 + 29) % 2147483647)])) z = some (.lst [.int x, .int ((y * 48271 + 29) % 2147483647)]) := upd_same
      obtain ⟨y2, ey⟩ : ∃ y2, y2 = (y * 48271 + 29) % 2147483647 := ⟨_, rfl⟩
      rw [← ey] at b1 b2 e2
      show (fun H0 : Hp => _) (upd H z (.lst [.int x, .int ((y * 48271 + 29) % 2147483647)]))
      rw [← ey]
      refine ⟨.ref z, rfl, z, _, 1, _, rfl, rfl, SqL.of e2, rfl, .ref z, rfl, z, _, 1, _, rfl, rfl, SqL.of e2, rfl, y2, y2, rfl, rfl, .inl ⟨by omega, by omega⟩, .ref z, rfl, z, _, 1, _, rfl, rfl, SqL.of e2, rfl, 39373, y2, rfl, rfl, .inl ⟨by decide, by decide⟩, _, _, rfl, rfl, _, 7, rfl, rfl, _, 2147483629, rfl, rfl, (by show (0 : Int) < 2147483629; decide), ?_⟩
      have c1 := Int.emod_nonneg (y2 * y2 + 39373 * y2 + 7) (show (2147483629 : Int) ≠ 0 by decide)
      have c2 := Int.emod_lt_of_pos (y2 * y2 + 39373 * y2 + 7) (show (0 : Int) < 2147483629 by decide)
      have d1 : -(2 : Int) ^ 64 < (y2 * y2 + 39373 * y2 + 7) % 2147483629 := Int.lt_of_lt_of_le (by decide) c1
      have d2 : (y2 * y2 + 39373 * y2 + 7) % 2147483629 < (2 : Int) ^ 64 := Int.lt_trans c2 (by decide)
      refine ⟨_, rfl, _, rfl, _, _, rfl, rfl, .inl ⟨d1, d2⟩, _, rfl, 16807, _, rfl, rfl, .inl ⟨by decide, by decide⟩, _, _, rfl, rfl, _, 2147483587, rfl, rfl, (by show (0 : Int) < 2147483587; decide), ?_⟩
      refine ⟨_, rfl, _, 8, rfl, rfl, ⟨by decide, by decide⟩, .int m, rfl, _, m, rfl, rfl, hm, ?_⟩
      exact q _ _ .self ⟨x, y2, e2, hx, b1, b2⟩ (Int.emod_nonneg _ (by omega)) (Int.emod_lt_of_pos _ hm)
theorem scCell : FnScope ["_law_script", "_law_k"] ["_law_script", "_law_k"] (defScope sCell) := ⟨rfl, rfl, rfl, by decide +kernel, rfl, by decide +kernel, by decide +kernel⟩
def spCell (K : PySem.W.Frag) : Sp := fun vs H Q _ => ∃ (a : Addr) (ns : List Int) (i : Nat), vs = [.ref a, .int (i : Int)] ∧ SqL K H a (ns.map V.int) ∧ ∀ n, Q (.int n) H
theorem ok_cell {f : Addr} {fd : FuncData} {k : Nat} (D : Df K mg "_law_cell_at" sCell ["_law_script", "_law_k"] f fd) (ml : mg "len" = none) : FnOk P w K mg base CX0 (k + 1) f fd ["_law_script", "_law_k"] (spCell K) := by
  refine D.F.ok scCell (fun vs H Q E h => ?_) (fun cdv A outer s H vs Q E hr h => ?_)
  · obtain ⟨_, _, _, rfl, _⟩ := h
    rfl
  · obtain ⟨a, ns, i, rfl, hS, q⟩ := h
    refine ⟨_, pss_cons (ps_if (pt_cmpR op_lt (pv 1) (pe_callB call_len_seq (by rfl) ml PySem.boot_len (pa_cons (pv 0) pa_nil)) (nomark _))
        (pss_one (ps_ret (pe_ix ix_list (pv 0) (pv 1) (fun _ _ => rfl)))) pss_nil) (pss_one (ps_ret pe_int)), ?_⟩
    refine ⟨.int i, rfl, .ref a, rfl, a, _, rfl, .inl hS, _, _, rfl, rfl, _, rfl, ite2 (fun c => ?_) (fun c => ?_)⟩
    · have c' : (i : Int) < ((ns.map V.int).length : Int) := of_decide_eq_true c
      rw [List.length_map] at c'
      have hi : i < ns.length := by omega
      refine ⟨.ref a, rfl, .int i, rfl, a, _, i, .int ns[i], rfl, rfl, hS, atI_nat ?_, q _⟩
      rw [List.getElem?_map, List.getElem?_eq_getElem hi]
      rfl
    · exact q _
theorem scState : FnScope ["_law_script", "_law_k", "_law_cell"] ["_law_script", "_law_k"] (defScope sState) := ⟨rfl, rfl, rfl, by decide +kernel, rfl, by decide +kernel, by decide +kernel⟩
def spState (K : PySem.W.Frag) : Sp := fun vs H Q _ => ∃ (a : Addr) (ns : List Int) (i : Nat), vs = [.ref a, .int (i : Int)] ∧ SqL K H a (ns.map V.int) ∧ ∀ H' z, Same H H' → H z = none → StOk H' z → Q (.ref z) H'
theorem ok_state {f fC : Addr} {fd fdC : FuncData} {k : Nat} (D : Df K mg "_law_state" sState ["_law_script", "_law_k"] f fd) (DC : Df K mg "_law_cell_at" sCell ["_law_script", "_law_k"] fC fdC) (ml : mg "len" = none) (mm : mg "max" = none) : FnOk P w K mg base CX0 (k + 2) f fd ["_law_script", "_law_k"] (spState K) := by
  have G : FnOk P w K mg base CX0 (k + 1) fC fdC ["_law_script", "_law_k"] (spCell K) := ok_cell DC ml
  refine D.F.ok scState (fun vs H Q E h => ?_) (fun cdv A outer s H vs Q E hr h => ?_)
  · obtain ⟨_, _, _, rfl, _⟩ := h
    rfl
  · obtain ⟨a, ns, i, rfl, hS, q⟩ := h
    refine ⟨_, pss_cons (ps_set (i := 2) scState.nd rfl (.inl rfl) (pe_call G hr (by rfl) DC.g DC.F.kp DC.b .nil pass0 (pa_cons (pv 0) (pa_cons (pv 1) pa_nil))))
      (pss_one (ps_ret (pe_lst (pa_cons (pe_callB (call_max2 rfl) (by rfl) mm (by decide +kernel) (pa_cons pe_int (pa_cons (pe_op op_sub (pv 2) (pe_op op_pow pe_int pe_int)) pa_nil)))
        (pa_cons (pe_op op_mod (pv 2) pe_int) pa_nil))))), ?_⟩
    refine ⟨.ref a, rfl, .int i, rfl, a, ns, i, rfl, hS, fun n => ?_⟩
    refine ⟨.int n, rfl, 10, 18, rfl, rfl, ⟨by decide, by decide, by decide⟩, n, _, rfl, rfl, 0, _, rfl, .int n, rfl, n, 2147483647, rfl, rfl, (by show (0 : Int) < 2147483647; decide), by show 2 ≤ sizeLine; decide, fun z hz => ?_⟩
    refine q _ z (same_new hz) hz ⟨_, _, upd_same, ?_, Int.emod_nonneg _ (by decide), Int.emod_lt_of_pos _ (by decide)⟩
    split <;> omega
end
end Wy

namespace Wy
open PySem PySem.Spec PyProof.Rows L2
abbrev sNetQ : Stmt := topS 31
abbrev sRoadQ : Stmt := topS 33
abbrev sChkN : Stmt := topS 34
abbrev sChkP : Stmt := topS 35
/-! ### nets -/
structure Road where
  one : Int
  other : Int
  cost : Int
  time : Int
def Road.vs (q : Road) : List V := [.int q.one, .int q.other, .int q.cost, .int q.time]
structure RoadOk (p : Int) (q : Road) : Prop where
  o1 : 0 ≤ q.one
  o2 : q.one ≤ p - 1
  t1 : 0 ≤ q.other
  t2 : q.other ≤ p - 1
  ne : q.one ≠ q.other
  c1 : 1 ≤ q.cost
  c2 : q.cost ≤ 99
  m1 : 0 ≤ q.time
  m2 : q.time ≤ 99
structure NetOk (p : Int) (rs : List Road) : Prop where
  p1 : 1 ≤ p
  p2 : p ≤ 10
  len : rs.length ≤ 30
  all : ∀ q ∈ rs, RoadOk p q
/-- the tuples at ts are the roads rs -/
def RoadsAt (H : Hp) : List Addr → List Road → Prop := Paired fun t q => H t = some (.tup q.vs)
def NetAt (H : Hp) (a r : Addr) (ts : List Addr) (p : Int) (rs : List Road) : Prop := H a = some (.tup [.int p, .ref r]) ∧ H r = some (.tup (ts.map V.ref)) ∧ RoadsAt H ts rs
theorem RoadsAt.keep {H H' : Hp} {ts : List Addr} {rs : List Road} (h : RoadsAt H ts rs) (k : ∀ b xs, H b = some (.tup xs) → H' b = some (.tup xs)) : RoadsAt H' ts rs := Paired.mapP h fun _ _ e => k _ _ e
theorem NetAt.keep {H H' : Hp} {a r : Addr} {ts : List Addr} {p : Int} {rs : List Road} (h : NetAt H a r ts p rs) (k : ∀ b xs, H b = some (.tup xs) → H' b = some (.tup xs)) : NetAt H' a r ts p rs := ⟨k _ _ h.1, k _ _ h.2.1, h.2.2.keep k⟩
theorem RoadsAt.len {H : Hp} {ts : List Addr} {rs : List Road} (h : RoadsAt H ts rs) : ts.length = rs.length := Paired.length h
theorem RoadsAt.get {H : Hp} : ∀ {ts : List Addr} {rs : List Road} {i : Nat} {t : Addr}, RoadsAt H ts rs → ts[i]? = some t → ∃ q, rs[i]? = some q ∧ H t = some (.tup q.vs)
  | _, _, _, _, .nil, e => by simp at e
  | _, _, 0, _, .cons r _, e => by
    simp at e
    subst e
    exact ⟨_, rfl, r⟩
  | _, _, i + 1, t, .cons _ s, e => by
    obtain ⟨q, h1, h2⟩ := RoadsAt.get (i := i) (t := t) s (by simpa using e)
    exact ⟨q, by simpa using h1, h2⟩
/-! ### ways -/
def step (rs : List Road) (here : Int) (v : V) : Option Road := match v with
  | .int i => if 0 ≤ i ∧ i ≤ (rs.length : Int) - 1 then (match rs[i.toNat]? with
    | some q => if q.one = here then some q else none
    | none => none) else none
  | _ => none
def goes (rs : List Road) : Int → List V → Option (List Road)
  | _, [] => some []
  | here, v :: r => match step rs here v with
    | none => none
    | some q => (goes rs q.other r).map (q :: ·)
def lastOf (here : Int) (qs : List Road) : Int := ((here :: qs.map Road.other).getLast?).getD here
def metOf (here : Int) (qs : List Road) : List Int := here :: qs.map Road.other
theorem lastOf_cons (here : Int) (q : Road) (qs : List Road) : lastOf here (q :: qs) = lastOf q.other qs := by
  unfold lastOf
  rw [List.map_cons, List.getLast?_cons_cons]
  cases e : (q.other :: qs.map Road.other).getLast? with
  | none => simp at e
  | some z => rfl
theorem lastOf_snoc (here : Int) (qs : List Road) (q : Road) : lastOf here (qs ++ [q]) = q.other := by
  unfold lastOf
  rw [List.map_append, List.map_singleton, ← List.cons_append, List.getLast?_append]
  rfl
theorem goes_snoc (rs : List Road) : ∀ (xs : List V) (here : Int) (v : V), goes rs here (xs ++ [v]) = (goes rs here xs).bind fun qs => (step rs (lastOf here qs) v).map fun q => qs ++ [q]
  | [], here, v => by
    show (match step rs here v with | none => none | some q => (some []).map (q :: ·)) = (step rs (lastOf here []) v).map fun q => [] ++ [q]
    show _ = (step rs here v).map fun q => [q]
    cases step rs here v <;> rfl
  | x :: r, here, v => by
    show (match step rs here x with | none => none | some q => (goes rs q.other (r ++ [v])).map (q :: ·)) = (match step rs here x with | none => none | some q => (goes rs q.other r).map (q :: ·)).bind _
    cases e : step rs here x with
    | none => rfl
    | some q =>
      show (goes rs q.other (r ++ [v])).map (q :: ·) = ((goes rs q.other r).map (q :: ·)).bind _
      rw [goes_snoc rs r q.other v]
      cases e2 : goes rs q.other r with
      | none => rfl
      | some qs =>
        show ((step rs (lastOf q.other qs) v).map fun q => qs ++ [q]).map (q :: ·) = (step rs (lastOf here (q :: qs)) v).map fun z => (q :: qs) ++ [z]
        rw [lastOf_cons]
        cases step rs (lastOf q.other qs) v <;> rfl
theorem goes_none (rs : List Road) : ∀ (ys xs : List V) (here : Int), goes rs here xs = none → goes rs here (xs ++ ys) = none
  | ys, [], here, h => by
    have h : some [] = (none : Option (List Road)) := h
    cases h
  | ys, x :: r, here, h => by
    show (match step rs here x with | none => none | some q => (goes rs q.other (r ++ ys)).map (q :: ·)) = none
    have h : (match step rs here x with | none => none | some q => (goes rs q.other r).map (q :: ·)) = none := h
    cases e : step rs here x with
    | none => rfl
    | some q =>
      rw [e] at h
      have h2 : goes rs q.other r = none := by
        cases e2 : goes rs q.other r with
        | none => rfl
        | some z =>
          have h3 : (goes rs q.other r).map (q :: ·) = none := h
          rw [e2] at h3
          cases h3
      show (goes rs q.other (r ++ ys)).map (q :: ·) = none
      rw [goes_none rs ys r q.other h2]
      rfl
theorem goes_stop (rs : List Road) {xs : List V} {here : Int} {i : Nat} {v : V} {qs : List Road} (hi : xs[i]? = some v) (h : goes rs here (xs.take i) = some qs) (hs : step rs (lastOf here qs) v = none) : goes rs here xs = none := by
  have e : goes rs here (xs.take (i + 1)) = none := by
    rw [List.take_add_one, hi]
    show goes rs here (xs.take i ++ [v]) = none
    rw [goes_snoc, h]
    show (step rs (lastOf here qs) v).map _ = none
    rw [hs]
    rfl
  have := goes_none rs (xs.drop (i + 1)) _ here e
  rwa [List.take_append_drop] at this
theorem goes_go (rs : List Road) {xs : List V} {here : Int} {i : Nat} {v : V} {qs : List Road} {q : Road} (hi : xs[i]? = some v) (h : goes rs here (xs.take i) = some qs) (hs : step rs (lastOf here qs) v = some q) : goes rs here (xs.take (i + 1)) = some (qs ++ [q]) := by
  rw [List.take_add_one, hi]
  show goes rs here (xs.take i ++ [v]) = _
  rw [goes_snoc, h]
  show (step rs (lastOf here qs) v).map _ = _
  rw [hs]
  rfl
theorem goes_len (rs : List Road) : ∀ {xs : List V} {here : Int} {qs : List Road}, goes rs here xs = some qs → qs.length = xs.length
  | [], _, _, h => by
    have h := Option.some.inj h
    subst h
    rfl
  | x :: r, here, qs, h => by
    have h : (match step rs here x with | none => none | some q => (goes rs q.other r).map (q :: ·)) = some qs := h
    cases e : step rs here x with
    | none =>
      rw [e] at h
      cases h
    | some q =>
      rw [e] at h
      obtain ⟨z, e1, e2⟩ := Option.map_eq_some_iff.mp h
      subst e2
      rw [List.length_cons, List.length_cons, goes_len rs e1]
/-- the roads of a way, by its numbers -/
theorem goes_at (rs : List Road) : ∀ {xs : List V} {here : Int} {qs : List Road} {i : Nat} {v : V}, goes rs here xs = some qs → xs[i]? = some v → ∃ (n : Nat) (q : Road), v = .int (n : Int) ∧ rs[n]? = some q ∧ qs[i]? = some q
  | [], _, _, _, _, _, e => by simp at e
  | x :: r, here, qs, i, v, h, e => by
    have h : (match step rs here x with | none => none | some q => (goes rs q.other r).map (q :: ·)) = some qs := h
    cases e1 : step rs here x with
    | none =>
      rw [e1] at h
      cases h
    | some q =>
      rw [e1] at h
      obtain ⟨z, e2, e3⟩ := Option.map_eq_some_iff.mp h
      subst e3
      cases i with
      | zero =>
        simp at e
        subst e
        unfold step at e1
        split at e1
        · rename_i k
          split at e1
          · rename_i hk
            split at e1
            · rename_i q' eq
              split at e1
              · cases e1
                exact ⟨k.toNat, q, by rw [Int.toNat_of_nonneg hk.1], eq, rfl⟩
              · cases e1
            · cases e1
          · cases e1
        · cases e1
      | succ i => exact goes_at rs (i := i) e2 (by simpa using e)
theorem step_int (rs : List Road) {here : Int} {n : Nat} {q : Road} (h : rs[n]? = some q) : step rs here (.int (n : Int)) = if q.one = here then some q else none := by
  have hn : n < rs.length := (List.getElem?_eq_some_iff.mp h).1
  unfold step
  dsimp only
  rw [if_pos (by omega), Int.toNat_natCast, h]
theorem step_out (rs : List Road) {here : Int} {v : V} (h : isIn v 0 ((rs.length : Int) - 1) = false) : step rs here v = none := by
  unfold step
  split
  · rename_i i
    have h : (decide (0 ≤ i) && decide (i ≤ (rs.length : Int) - 1)) = false := h
    rw [if_neg]
    rintro ⟨a, b⟩
    rw [decide_eq_true a, decide_eq_true b] at h
    cases h
  · rfl
theorem isIn_true {v : V} {lo hi : Int} (h : isIn v lo hi = true) : ∃ i, v = .int i ∧ lo ≤ i ∧ i ≤ hi := by
  unfold isIn at h
  split at h
  · rename_i i
    rw [Bool.and_eq_true, decide_eq_true_eq, decide_eq_true_eq] at h
    exact ⟨i, rfl, h.1, h.2⟩
  · cases h
section
variable {P : Program} {w : World} {K : PySem.W.Frag} {mg : Str → Option Value} {base : Heap}
theorem scWhole : FnScope ["thing"] ["thing"] (defScope sWhole) := ⟨rfl, rfl, rfl, by decide +kernel, rfl, by decide +kernel, by decide +kernel⟩
def isInt : V → Bool
  | .int _ => true
  | _ => false
def spWhole : Sp := fun vs H Q _ => ∃ (v : V) (n : String), vs = [v] ∧ Tg H v n ∧ Q (.bl (isInt v)) H
theorem ok_whole {f : Addr} {fd : FuncData} {k : Nat} (D : Df K mg "is_whole" sWhole ["thing"] f fd) (mi : mg "isinstance" = none) (mI : mg "int" = none) (mB : mg "bool" = none) : FnOk P w K mg base CX0 (k + 1) f fd ["thing"] spWhole := by
  refine D.F.ok scWhole (fun vs H Q E h => ?_) (fun cdv A outer s H vs Q E hr h => ?_)
  · obtain ⟨_, _, rfl, _⟩ := h
    rfl
  · obtain ⟨v, n, rfl, t, q⟩ := h
    refine ⟨_, pss_one (ps_ret (pe_and (pe_callB call_isi (by rfl) mi (by decide +kernel) (pa_cons (pv 0) (pa_cons (pe_bltn (v := .ty "int") (by rfl) mI (by decide +kernel) rfl) pa_nil)))
      (pe_one (pe_not (pe_callB call_isi (by rfl) mi (by decide +kernel) (pa_cons (pv 0) (pa_cons (pe_bltn (v := .ty "bool") (by rfl) mB (by decide +kernel) rfl) pa_nil))))))), ?_⟩
    refine ⟨v, rfl, v, .ty "int", .type n, .type "int", kInt n, rfl, .ty _, t.tyx, isi_int t, _, rfl, ?_⟩
    cases t with
    | int i => exact iteT ⟨_, rfl, .int i, .ty "bool", .type "int", .type "bool", false, rfl, .ty _, .base (.int i), isi_bool (.int (H := H) i), _, rfl, q⟩
    | bl b => exact iteT ⟨_, rfl, .bl b, .ty "bool", .type "bool", .type "bool", true, rfl, .ty _, .base (.bl b), isi_bool (.bl (H := H) b), _, rfl, q⟩
    | non => exact iteF q
    | str x => exact iteF q
    | lst e => exact iteF q
    | tup e => exact iteF q
    | dct e => exact iteF q
theorem scWithin : FnScope ["thing", "low", "high"] ["thing", "low", "high"] (defScope sWithin) := ⟨rfl, rfl, rfl, by decide +kernel, rfl, by decide +kernel, by decide +kernel⟩
/-- the defs of the two small modules -/
structure Sm (K : PySem.W.Frag) (mg : Str → Option Value) (f1 f2 f3 f4 f5 : Addr) (d1 d2 d3 d4 d5 : FuncData) : Prop where
  mi : mg "isinstance" = none
  mI : mg "int" = none
  mB : mg "bool" = none
  mT : mg "tuple" = none
  ml : mg "len" = none
  mA : mg "all" = none
  mS : mg "sum" = none
  mE : mg "set" = none
  c1 : ∃ t, mg "MOST_PLACES" = some (.int 10 t)
  c2 : ∃ t, mg "MOST_ROADS" = some (.int 30 t)
  c3 : ∃ t, mg "LEAST_COST" = some (.int 1 t)
  c4 : ∃ t, mg "MOST_COST" = some (.int 99 t)
  c5 : ∃ t, mg "MOST_TIME" = some (.int 99 t)
  whole : Df K mg "is_whole" sWhole ["thing"] f1 d1
  within : Df K mg "is_within" sWithin ["thing", "low", "high"] f2 d2
  tupOf : Df K mg "is_tuple_of" sTupOf ["thing", "many"] f3 d3
  roadQ : Df K mg "is_road_among" sRoadQ ["places", "thing"] f4 d4
  netQ : Df K mg "is_net" sNetQ ["thing"] f5 d5
variable {f1 f2 f3 f4 f5 : Addr} {d1 d2 d3 d4 d5 : FuncData}
def spWithin : Sp := fun vs H Q _ => ∃ (v : V) (n : String) (lo hi : Int), vs = [v, .int lo, .int hi] ∧ Tg H v n ∧ Q (.bl (isIn v lo hi)) H
theorem ok_within {k : Nat} (S : Sm K mg f1 f2 f3 f4 f5 d1 d2 d3 d4 d5) : FnOk P w K mg base CX0 (k + 2) f2 d2 ["thing", "low", "high"] spWithin := by
  have G : FnOk P w K mg base CX0 (k + 1) f1 d1 ["thing"] spWhole := ok_whole S.whole S.mi S.mI S.mB
  refine S.within.F.ok scWithin (fun vs H Q E h => ?_) (fun cdv A outer s H vs Q E hr h => ?_)
  · obtain ⟨_, _, _, _, rfl, _⟩ := h
    rfl
  · obtain ⟨v, n, lo, hi, rfl, t, q⟩ := h
    refine ⟨_, pss_one (ps_ret (pe_and (pe_call G hr (by rfl) S.whole.g S.whole.F.kp S.whole.b .nil pass0 (pa_cons (pv 0) pa_nil)) (pe_one (pe_chain op_le op_le (pv 1) (pv 0) (pv 2))))), ?_⟩
    refine ⟨v, rfl, v, n, rfl, t, _, rfl, ?_⟩
    cases v with
    | int i =>
      refine iteT ⟨.int lo, rfl, .int i, rfl, lo, i, rfl, rfl, _, rfl, ite2 (fun c => ?_) (fun c => ?_)⟩
      · refine ⟨.int hi, rfl, i, hi, rfl, rfl, ?_⟩
        have e : isIn (.int i) lo hi = decide (i ≤ hi) := by
          show (decide (lo ≤ i) && decide (i ≤ hi)) = _
          rw [c, Bool.true_and]
        rw [e] at q
        exact q
      · have e : isIn (.int i) lo hi = false := by
          show (decide (lo ≤ i) && decide (i ≤ hi)) = _
          rw [Bool.eq_false_iff.mpr c, Bool.false_and]
        rw [e] at q
        exact q
    | _ => exact iteF q
theorem scTupOf : FnScope ["thing", "many"] ["thing", "many"] (defScope sTupOf) := ⟨rfl, rfl, rfl, by decide +kernel, rfl, by decide +kernel, by decide +kernel⟩
def spTupOf : Sp := fun vs H Q _ => ∃ (a : Addr) (xs : List V) (m : Int), vs = [.ref a, .int m] ∧ H a = some (.tup xs) ∧ (xs.length : Int) = m ∧ Q (.bl true) H
theorem ok_tupOf {k : Nat} (S : Sm K mg f1 f2 f3 f4 f5 d1 d2 d3 d4 d5) : FnOk P w K mg base CX0 (k + 1) f3 d3 ["thing", "many"] spTupOf := by
  refine S.tupOf.F.ok scTupOf (fun vs H Q E h => ?_) (fun cdv A outer s H vs Q E hr h => ?_)
  · obtain ⟨_, _, _, rfl, _⟩ := h
    rfl
  · obtain ⟨a, xs, m, rfl, e, el, q⟩ := h
    refine ⟨_, pss_one (ps_ret (pe_and (pe_callB call_isi (by rfl) S.mi (by decide +kernel) (pa_cons (pv 0) (pa_cons (pe_bltn (v := .ty "tuple") (by rfl) S.mT (by decide +kernel) rfl) pa_nil)))
      (pe_one (pe_cmpR op_eq (pe_callB call_len_seq (by rfl) S.ml PySem.boot_len (pa_cons (pv 0) pa_nil)) (pv 1) (nomark _))))), ?_⟩
    have t : Tg H (.ref a) "tuple" := .tup e
    refine ⟨.ref a, rfl, .ref a, .ty "tuple", .type "tuple", .type "tuple", true, rfl, .ty _, t.tyx, isi_tuple t, _, rfl, iteT ?_⟩
    refine ⟨.ref a, rfl, a, xs, rfl, .inr (SqT.of e), .int m, rfl, rfl, ?_⟩
    rw [el, decide_eq_true rfl]
    exact q
theorem scRoadQ : FnScope ["places", "thing", "one", "other", "cost", "time"] ["places", "thing"] (defScope sRoadQ) := ⟨rfl, rfl, rfl, by decide +kernel, rfl, by decide +kernel, by decide +kernel⟩
def spRoadQ : Sp := fun vs H Q _ => ∃ (t : Addr) (p : Int) (q : Road), vs = [.int p, .ref t] ∧ H t = some (.tup q.vs) ∧ RoadOk p q ∧ Q (.bl true) H
theorem isIn_of {i lo hi : Int} (a : lo ≤ i) (b : i ≤ hi) : isIn (.int i) lo hi = true := by
  show (decide (lo ≤ i) && decide (i ≤ hi)) = true
  rw [decide_eq_true a, decide_eq_true b]
  rfl
theorem ok_roadQ {k : Nat} (S : Sm K mg f1 f2 f3 f4 f5 d1 d2 d3 d4 d5) : FnOk P w K mg base CX0 (k + 3) f4 d4 ["places", "thing"] spRoadQ := by
  have G : FnOk P w K mg base CX0 (k + 2) f2 d2 ["thing", "low", "high"] spWithin := ok_within S
  have GT : FnOk P w K mg base CX0 (k + 2) f3 d3 ["thing", "many"] spTupOf := ok_tupOf S
  obtain ⟨t3, c3⟩ := S.c3
  obtain ⟨t4, c4⟩ := S.c4
  obtain ⟨t5, c5⟩ := S.c5
  refine S.roadQ.F.ok scRoadQ (fun vs H Q E h => ?_) (fun cdv A outer s H vs Q E hr h => ?_)
  · obtain ⟨_, _, _, rfl, _⟩ := h
    rfl
  · obtain ⟨t, p, r, rfl, e, ok, q⟩ := h
    refine ⟨_, pss_cons (ps_if (pt_not (pt_val (pe_call GT hr (by rfl) S.tupOf.g S.tupOf.F.kp S.tupOf.b .nil pass0 (pa_cons (pv 1) (pa_cons pe_int pa_nil))))) pss_never pss_nil)
      (pss_cons (ps_asg (pv 1) (pg_tup (by rfl) (pgs_cons (pg_name (i := 2) scRoadQ.nd rfl (.inl rfl)) (pgs_cons (pg_name (i := 3) scRoadQ.nd rfl (.inl rfl)) (pgs_cons (pg_name (i := 4) scRoadQ.nd rfl (.inl rfl)) (pgs_cons (pg_name (i := 5) scRoadQ.nd rfl (.inl rfl)) pgs_nil))))))
      (pss_cons (ps_if (PW.pt (pw_or (pt_not (pt_val (pe_call G hr (by rfl) S.within.g S.within.F.kp S.within.b .nil pass0 (pa_cons (pv 2) (pa_cons pe_int (pa_cons (pe_op op_sub (pv 0) pe_int) pa_nil)))))) (pw_or1 (pt_not (pt_val (pe_call G hr (by rfl) S.within.g S.within.F.kp S.within.b .nil pass0 (pa_cons (pv 3) (pa_cons pe_int (pa_cons (pe_op op_sub (pv 0) pe_int) pa_nil)))))))))
        pss_never pss_nil)
      (pss_one (ps_ret (pe_and (pe_cmpR op_ne (pv 2) (pv 3) (nomark _)) (pe_and (pe_call G hr (by rfl) S.within.g S.within.F.kp S.within.b .nil pass0 (pa_cons (pv 4) (pa_cons (pe_glob (v := .int 1) (by rfl) c3 ⟨t3, rfl⟩) (pa_cons (pe_glob (v := .int 99) (by rfl) c4 ⟨t4, rfl⟩) pa_nil))))
        (pe_one (pe_call G hr (by rfl) S.within.g S.within.F.kp S.within.b .nil pass0 (pa_cons (pv 5) (pa_cons pe_int (pa_cons (pe_glob (v := .int 99) (by rfl) c5 ⟨t5, rfl⟩) pa_nil))))))))))), ?_⟩
    refine ⟨.ref t, rfl, t, _, 4, rfl, e, rfl, _, rfl, iteF ?_⟩
    refine ⟨.ref t, rfl, t, _, rfl, SqT.of e, rfl, .int r.one, _, rfl, .int r.other, _, rfl, .int r.cost, _, rfl, .int r.time, _, rfl, rfl, ?_⟩
    refine ⟨.int r.one, rfl, .int p, rfl, p, 1, rfl, rfl, .int r.one, "int", 0, p - 1, rfl, .int _, _, rfl, ?_⟩
    rw [isIn_of ok.o1 ok.o2]
    refine iteF ?_
    refine ⟨.int r.other, rfl, .int p, rfl, p, 1, rfl, rfl, .int r.other, "int", 0, p - 1, rfl, .int _, _, rfl, ?_⟩
    rw [isIn_of ok.t1 ok.t2]
    refine iteF ?_
    refine ⟨.int r.one, rfl, .int r.other, rfl, rfl, _, rfl, ?_⟩
    have hne : (V.int r.one) ≠ (V.int r.other) := fun z => ok.ne (V.int.inj z)
    rw [decide_eq_false hne]
    refine iteT ⟨.int r.cost, rfl, .int r.cost, "int", 1, 99, rfl, .int _, _, rfl, ?_⟩
    rw [isIn_of ok.c1 ok.c2]
    refine iteT ⟨.int r.time, rfl, .int r.time, "int", 0, 99, rfl, .int _, ?_⟩
    rw [isIn_of ok.m1 ok.m2]
    exact q
end
end Wy

namespace Wy
open PySem PySem.Spec PyProof.Rows L2
theorem Same.upd_lst {H H' : Hp} {D : Addr} {o : HO} (s : Same H H') (h : H D = none) : Same H (upd H' D o) := fun b x e => by
  rw [upd_ne (ne_of_none e h)]
  exact s b x e
/-! ### how many unlike numbers a list has -/
def manyOf (ns : List Int) : Nat := (PyProof.Rows.firstMet (fun i => ns.getD i 0) ns.length).length
theorem met_take {ns : List Int} : ∀ i, i ≤ ns.length → ((List.range i).map fun j => ns.getD j 0) = ns.take i
  | 0, _ => rfl
  | i + 1, hi => by
    rw [List.range_succ, List.map_append, met_take i (by omega), List.take_add_one, List.getElem?_eq_getElem (show i < ns.length from hi)]
    congr 1
    rw [List.map_singleton, List.getD_eq_getElem?_getD, List.getElem?_eq_getElem (show i < ns.length from hi)]
    rfl
theorem met_nodup {ns : List Int} : ∀ i, i ≤ ns.length → ((PyProof.Rows.firstMet (fun j => ns.getD j 0) i).length = i ↔ (ns.take i).Nodup)
  | 0, _ => by
    rw [PyProof.Rows.firstMet_zero]
    exact ⟨fun _ => List.nodup_nil, fun _ => rfl⟩
  | i + 1, hi => by
    have hlt : i < ns.length := hi
    have ih := met_nodup (ns := ns) i (by omega)
    have le := PyProof.Rows.firstMet_length_le (fun j => ns.getD j 0) i
    have ea := PyProof.Rows.firstMet_any (fun j => ns.getD j 0) i (ns.getD i 0)
    rw [met_take i (by omega)] at ea
    have ex : ns.getD i 0 = ns[i] := by
      rw [List.getD_eq_getElem?_getD, List.getElem?_eq_getElem hlt]
      rfl
    rw [PyProof.Rows.firstMet_succ, List.take_add_one, List.getElem?_eq_getElem hlt]
    show (PyProof.Rows.step_dedup _ (ns.getD i 0)).length = i + 1 ↔ (ns.take i ++ [ns[i]]).Nodup
    unfold PyProof.Rows.step_dedup
    rw [ea, ex]
    have hn : (ns.take i ++ [ns[i]]).Nodup ↔ (ns.take i).Nodup ∧ ns[i] ∉ ns.take i := by
      rw [List.nodup_append]
      constructor
      · rintro ⟨a, _, c⟩
        exact ⟨a, fun z => c _ z _ (List.mem_singleton.mpr rfl) rfl⟩
      · rintro ⟨a, c⟩
        refine ⟨a, List.Pairwise.cons (fun _ h => nomatch h) .nil, fun x hx y hy => ?_⟩
        rw [List.mem_singleton.mp hy]
        exact fun z => c (z ▸ hx)
    rw [hn]
    by_cases hm : ns[i] ∈ ns.take i
    · rw [if_pos (List.any_eq_true.mpr ⟨ns[i], hm, beq_self_eq_true ns[i]⟩ : ((List.take i ns).any fun x => x == ns[i]) = true)]
      constructor
      · intro z
        omega
      · intro z
        exact absurd hm z.2
    · rw [if_neg (fun (z : ((List.take i ns).any fun x => x == ns[i]) = true) => by
        obtain ⟨y, h1, h2⟩ := List.any_eq_true.mp z
        rw [eq_of_beq h2] at h1
        exact hm h1), List.length_append, List.length_singleton]
      constructor
      · intro z
        exact ⟨ih.mp (by omega), hm⟩
      · intro z
        have := ih.mpr z.1
        omega
theorem many_nodup (ns : List Int) : decide (manyOf ns = ns.length) = decide ns.Nodup := by
  have := met_nodup (ns := ns) ns.length (Nat.le_refl _)
  rw [List.take_length] at this
  exact decide_eq_decide.mpr this
def tSetLen (K : PySem.W.Frag) (ta : TE) : TE := fun σ H Q => ta σ H fun x G => ∃ (l : Addr) (ns : List Int), x = .ref l ∧ SqL K G l (ns.map V.int) ∧ ns.length ≤ 2000 ∧ Q (.int (manyOf ns : Nat)) G
theorem pe_setLen {X : Cx} {a : Expr} {ta : TE} {u1 u2 u3 u4 : Pos} (gl : Gl X "len") (ml : X.mg "len" = none) (gs : Gl X "set") (ms : X.mg "set" = none) (ha : PE X a ta) (calm : X.calm = true := by rfl)
    (st : starEach [a] X.env = (false, eval a X.env) :: starEach [] X.env := by rfl) : PE X (.Call (.Name "len" u1) [.Call (.Name "set" u2) [a] [] u3] [] u4) (tSetLen X.K ta) :=
  ⟨fun pins s σ H Q I h => by
    refine PyProof.Rows.Call_ (ld_blt I gl ml boot_len ?_)
    refine PyProof.Rows.callWith_builtin1 (PyProof.Rows.args_cons ?_ rfl) rfl rfl
    refine PyProof.Rows.Call_ (ld_blt I gs ms boot_set ?_)
    refine PyProof.Rows.callWith_type1 (PyProof.Rows.args_cons (thn (ha.run pins s σ H _ I h) fun v t ⟨x, G, J, rx, hx⟩ => PyProof.Rows.args_nil ?_) st) st rfl
    obtain ⟨l, ns, rfl, sq, len, fin⟩ := hx
    cases rx
    obtain ⟨items, vals, place, _⟩ := J.list sq
    have size : items.toArray.size = ns.length := by rw [List.size_toArray, ← vals.length, List.length_map]
    refine call_set_list (J.ok.hd calm) place.isList (by simpa using RZ.intsAre_vals vals) (by rw [size]; unfold scanBound; omega) fun h' tk made kept => ?_
    refine PyProof.Rows.args_nil ?_
    rw [size] at made
    have few := PyProof.Rows.firstMet_length_le (fun i => ns.getD i 0) ns.length
    obtain ⟨o, es, ep, t', ho, hex, hd, _, _, _, hf, hn⟩ := made
    have J2 : Inv X pins σ G { t with heap := h', toks := tk } := J.kept fun b o e => kept b o (Heap.lt_size e) e
    exact call_len_set ho hex hd hf (by rw [hn]; omega) ⟨.int (manyOf ns : Nat), G, J2.tok _, ⟨_, by rw [hn]; rfl⟩, fin⟩⟩
/-! ### what is handed in as a way -/
inductive Wh (H : Hp) : V → Option (List V) → Prop where
  | tup {b : Addr} {xs : List V} : H b = some (.tup xs) → (∀ y ∈ xs, ∃ n, Tg H y n) → xs.length ≤ 1000 → Wh H (.ref b) (some xs)
  | oth {v : V} {n : String} : Tg H v n → (n == "tuple") = false → Wh H v none
theorem Wh.keep {H H' : Hp} {v : V} {o : Option (List V)} (h : Wh H v o) (s : Same H H') : Wh H' v o := by
  cases h with
  | tup e a l =>
    refine .tup (s _ _ e) (fun y hy => ?_) l
    obtain ⟨n, t⟩ := a y hy
    exact ⟨n, t.keep s⟩
  | oth t n => exact .oth (t.keep s) n
def goesO (rs : List Road) (here : Int) (o : Option (List V)) : Option (List Road) := o.bind (goes rs here)
theorem met_last (here : Int) (qs : List Road) : atI ((metOf here qs).map V.int) (-1) = some (.int (lastOf here qs)) := by
  have e : metOf here qs ≠ [] := List.cons_ne_nil _ _
  have el : lastOf here qs = (metOf here qs).getLast e := by
    unfold lastOf
    show ((metOf here qs).getLast?).getD here = _
    rw [List.getLast?_eq_some_getLast e]
    rfl
  rw [el]
  conv => lhs; rw [← List.dropLast_concat_getLast e, List.map_append, List.map_singleton]
  exact atI_last _ _
theorem met_len (here : Int) (qs : List Road) : (metOf here qs).length = qs.length + 1 := by
  unfold metOf
  rw [List.length_cons, List.length_map]
theorem met_snoc (here : Int) (qs : List Road) (q : Road) : metOf here (qs ++ [q]) = metOf here qs ++ [q.other] := by
  unfold metOf
  rw [List.map_append, List.map_singleton, List.cons_append]
section
variable {P : Program} {w : World} {K : PySem.W.Frag} {mg : Str → Option Value} {base : Heap}
variable {f1 f2 f3 f4 f5 : Addr} {d1 d2 d3 d4 d5 : FuncData}
theorem scNetQ : FnScope ["thing", "places", "roads", "road"] ["thing"] (defScope sNetQ) := ⟨rfl, rfl, rfl, by decide +kernel, rfl, by decide +kernel, by decide +kernel⟩
def spNetQ : Sp := fun vs H Q _ => ∃ (a r : Addr) (ts : List Addr) (p : Int) (rs : List Road), vs = [.ref a] ∧ NetAt H a r ts p rs ∧ NetOk p rs ∧ ∀ H', Same H H' → Q (.bl true) H'
theorem all_yes (n : Nat) : (List.replicate n true).all id = true := by
  rw [List.all_eq_true]
  intro x hx
  rw [(List.mem_replicate.mp hx).2]
  rfl
theorem ok_netQ {k : Nat} (S : Sm K mg f1 f2 f3 f4 f5 d1 d2 d3 d4 d5) : FnOk P w K mg base CX0 (k + 4) f5 d5 ["thing"] spNetQ := by
  have G : FnOk P w K mg base CX0 (k + 3) f2 d2 ["thing", "low", "high"] spWithin := ok_within S
  have GT : FnOk P w K mg base CX0 (k + 3) f3 d3 ["thing", "many"] spTupOf := ok_tupOf S
  have GR : FnOk P w K mg base CX0 (k + 3) f4 d4 ["places", "thing"] spRoadQ := ok_roadQ S
  obtain ⟨t1, c1⟩ := S.c1
  obtain ⟨t2, c2⟩ := S.c2
  refine S.netQ.F.ok scNetQ (fun vs H Q E h => ?_) (fun cdv A outer s H vs Q E hr h => ?_)
  · obtain ⟨_, _, _, _, _, rfl, _⟩ := h
    rfl
  · obtain ⟨a, r, ts, p, rs, rfl, ⟨ea, er, et⟩, ok, q⟩ := h
    refine ⟨_, pss_cons (ps_if (pt_not (pt_val (pe_call GT hr (by rfl) S.tupOf.g S.tupOf.F.kp S.tupOf.b .nil pass0 (pa_cons (pv 0) (pa_cons pe_int pa_nil))))) pss_never pss_nil)
      (pss_cons (ps_asg (pv 0) (pg_tup (by rfl) (pgs_cons (pg_name (i := 1) scNetQ.nd rfl (.inr rfl)) (pgs_cons (pg_name (i := 2) scNetQ.nd rfl (.inl rfl)) pgs_nil))))
      (pss_cons (ps_if (pt_not (pt_val (pe_call G hr (by rfl) S.within.g S.within.F.kp S.within.b .nil pass0 (pa_cons (pv 1) (pa_cons pe_int (pa_cons (pe_glob (v := .int 10) (by rfl) c1 ⟨t1, rfl⟩) pa_nil)))))) pss_never pss_nil)
      (pss_cons (ps_if (PW.pt (pw_or (pt_not (pt_val (pe_callB call_isi (by rfl) S.mi (by decide +kernel) (pa_cons (pv 2) (pa_cons (pe_bltn (v := .ty "tuple") (by rfl) S.mT (by decide +kernel) rfl) pa_nil)))))
          (pw_or1 (pt_cmpR op_gt (pe_callB call_len_seq (by rfl) S.ml PySem.boot_len (pa_cons (pv 2) pa_nil)) (pe_glob (v := .int 30) (by rfl) c2 ⟨t2, rfl⟩) (nomark _))))) pss_never pss_nil)
      (pss_one (ps_ret (pe_callB (cr_all rfl) (by rfl) S.mA (by decide +kernel) (pa_cons
        (pe_lc (own := [("road", 3)]) (g := gName 3) (tt := tYes) rfl scNetQ.nd (pi_tup (pv 2)) (blkOk_by (N := ["thing", "places", "roads", "road"]) (sc := defScope sNetQ) (by decide +kernel))
          (fun _ _ _ _ _ => pg_name (i := 3) scNetQ.nd rfl (.inl rfl)) (fun _ _ _ _ _ => pts_nil)
          (fun _ _ _ _ _ => pe_call GR hr (by rfl) S.roadQ.g S.roadQ.F.kp S.roadQ.b .nil pass0 (pa_cons (pv 1) (pa_cons (pv 3) pa_nil)))) pa_nil))))))), ?_⟩
    refine ⟨.ref a, rfl, a, _, 2, rfl, ea, rfl, _, rfl, iteF ?_⟩
    refine ⟨.ref a, rfl, a, _, rfl, SqT.of ea, rfl, .int p, _, rfl, .ref r, _, rfl, rfl, ?_⟩
    refine ⟨.int p, rfl, .int p, "int", 1, 10, rfl, .int _, _, rfl, ?_⟩
    rw [isIn_of ok.p1 ok.p2]
    refine iteF ?_
    have t : Tg H (.ref r) "tuple" := .tup er
    refine ⟨.ref r, rfl, .ref r, .ty "tuple", .type "tuple", .type "tuple", true, rfl, .ty _, t.tyx, isi_tuple t, _, rfl, iteF ?_⟩
    have hl : ¬ ((30 : Int) < ((ts.map V.ref).length : Int)) := by
      rw [List.length_map, et.len]
      have := ok.len
      omega
    refine ⟨.ref r, rfl, r, _, rfl, .inr (SqT.of er), _, 30, rfl, rfl, _, rfl, ?_⟩
    rw [decide_eq_false hl]
    refine iteF ?_
    refine ⟨.ref r, rfl, r, rfl, ⟨_, SqT.of er⟩, fun D hD => ?_⟩
    refine lc_tup (xs := ts.map V.ref) (fun i H' => Same H H' ∧ H' D = some (.lst ((List.replicate i true).map V.bl))) ⟨same_new hD, upd_same⟩ (fun i H' _ h => SqT.of (h.1 _ _ er)) (fun i x H' hx h => ?_) (fun H' h => ?_)
    · obtain ⟨sm, eD⟩ := h
      have hi : i < ts.length := by
        have := (List.getElem?_eq_some_iff.mp hx).1
        rwa [List.length_map] at this
      rw [List.getElem?_map, List.getElem?_eq_getElem hi] at hx
      cases hx
      obtain ⟨rd, e1, e2⟩ := et.get (List.getElem?_eq_getElem hi)
      refine ⟨rfl, ?_⟩
      unfold tYes
      dsimp only
      rw [if_pos rfl]
      refine ⟨.int p, rfl, .ref ts[i], rfl, ts[i], p, rd, rfl, sm _ _ e2, ok.all _ (List.mem_of_getElem? e1), _, eD, ?_, ?_, ?_⟩
      · rw [List.length_map, List.length_replicate]
        have := ok.len
        rw [et.len] at hi
        exact small1000 (by omega)
      · exact Same.upd_lst sm hD
      · rw [upd_same, List.replicate_succ', List.map_append]
        rfl
    · obtain ⟨sm, eD⟩ := h
      refine ⟨D, _, rfl, SqL.of eD, ?_⟩
      rw [all_yes]
      exact q _ sm
theorem scChkN : FnScope ["thing"] ["thing"] (defScope sChkN) := ⟨rfl, rfl, rfl, by decide +kernel, rfl, by decide +kernel, by decide +kernel⟩
def spChkN : Sp := fun vs H Q _ => ∃ (a r : Addr) (ts : List Addr) (p : Int) (rs : List Road), vs = [.ref a] ∧ NetAt H a r ts p rs ∧ NetOk p rs ∧ ∀ H', Same H H' → Q .non H'
theorem ok_chkN {f : Addr} {fd : FuncData} {k : Nat} (S : Sm K mg f1 f2 f3 f4 f5 d1 d2 d3 d4 d5) (D : Df K mg "check_net" sChkN ["thing"] f fd) : FnOk P w K mg base CX0 (k + 5) f fd ["thing"] spChkN := by
  have G : FnOk P w K mg base CX0 (k + 4) f5 d5 ["thing"] spNetQ := ok_netQ S
  refine D.F.ok scChkN (fun vs H Q E h => ?_) (fun cdv A outer s H vs Q E hr h => ?_)
  · obtain ⟨_, _, _, _, _, rfl, _⟩ := h
    rfl
  · obtain ⟨a, r, ts, p, rs, rfl, hn, ok, q⟩ := h
    refine ⟨_, pss_one (ps_if (pt_not (pt_val (pe_call G hr (by rfl) S.netQ.g S.netQ.F.kp S.netQ.b .nil pass0 (pa_cons (pv 0) pa_nil)))) pss_never pss_nil), ?_⟩
    exact ⟨.ref a, rfl, a, r, ts, p, rs, rfl, hn, ok, fun H' sm => ⟨_, rfl, iteF (q _ sm)⟩⟩
/-- a class of refusals without an __init__ of its own -/
structure Ex (K : PySem.W.Frag) (mg : Str → Option Value) (x : Str) (C : Addr) : Prop where
  g : mg x = some (.ref C)
  x : PySem.W.excIn K C [.type "ValueError", .type "Exception", .type "BaseException", .type "object"] "ValueError.__new__" = true
  k : PySem.W.keepIn K (.ref C) = true
  b : PySem.W.subIn K (.ref C) (.type "BaseException") = some true
  t : PySem.W.typeIn K (.ref C) = some (.type "type")
theorem scChkP : FnScope ["net", "thing"] ["net", "thing"] (defScope sChkP) := ⟨rfl, rfl, rfl, by decide +kernel, rfl, by decide +kernel, by decide +kernel⟩
def spChkP (C : Addr) : Sp := fun vs H Q E => ∃ (a r : Addr) (ts : List Addr) (p : Int) (rs : List Road) (v : V) (n : String), vs = [.ref a, v] ∧ NetAt H a r ts p rs ∧ Tg H v n ∧ (isIn v 0 (p - 1) = true → Q .non H) ∧ (isIn v 0 (p - 1) = false → E (.ref C) none H)
theorem ok_chkP {f C : Addr} {fd : FuncData} {k : Nat} (S : Sm K mg f1 f2 f3 f4 f5 d1 d2 d3 d4 d5) (D : Df K mg "check_place" sChkP ["net", "thing"] f fd) (Z : Ex K mg "NoPlace" C) : FnOk P w K mg base (L2.CX P w) (k + 3) f fd ["net", "thing"] (spChkP C) := by
  have G : FnOk P w K mg base CX0 (k + 2) f2 d2 ["thing", "low", "high"] spWithin := ok_within S
  refine D.F.okX scChkP (fun vs H Q E h => ?_) (fun cdv A outer s H vs Q E hr h => ?_)
  · obtain ⟨_, _, _, _, _, _, _, rfl, _⟩ := h
    rfl
  · obtain ⟨a, r, ts, p, rs, v, n, rfl, ⟨ea, _, _⟩, t, q1, q2⟩ := h
    refine ⟨_, pss_one (ps_if (pt_not (pt_val (pe_call G hr (by rfl) S.within.g S.within.F.kp S.within.b .nil pass0 (pa_cons (pv 1) (pa_cons pe_int (pa_cons (pe_op op_sub (pe_ix ix_tup (pv 0) pe_int (fun _ _ => rfl)) pe_int) pa_nil))))))
      (pss_one (ps_raise rfl (takes_of rfl rfl rfl rfl) (pmk_own PySem.F.excBase_ValueError Z.x Z.g Z.k (raises_own Z.b Z.t) rfl))) pss_nil), ?_⟩
    refine ⟨v, rfl, .ref a, rfl, a, _, 0, _, rfl, rfl, SqT.of ea, rfl, p, 1, rfl, rfl, v, n, 0, p - 1, rfl, t, _, rfl, ?_⟩
    cases e : isIn v 0 (p - 1) with
    | true => exact iteF (q1 e)
    | false => exact iteT (q2 e)
end
end Wy

namespace Wy
open PySem PySem.Spec PyProof.Rows L2
/-! ### nets among things of whatever kind -/
def tupV (H : Hp) (v : V) : Option (List V) := match v with
  | .ref a => (match H a with
    | some (.tup xs) => some xs
    | _ => none)
  | _ => none
theorem tupV_ref {H : Hp} {a : Addr} {xs : List V} (e : H a = some (.tup xs)) : tupV H (.ref a) = some xs := by
  unfold tupV
  dsimp only
  rw [e]
theorem tupV_some {H : Hp} {v : V} {xs : List V} (h : tupV H v = some xs) : ∃ a, v = .ref a ∧ H a = some (.tup xs) := by
  unfold tupV at h
  split at h
  · rename_i a
    split at h
    · rename_i ys e
      cases h
      exact ⟨a, rfl, e⟩
    · cases h
  · cases h
/-- told by classes to so many depths -/
def Dep (H : Hp) : Nat → V → Prop
  | 0, v => ∃ n, Tg H v n
  | k + 1, v => (∃ n, Tg H v n) ∧ ∀ xs, tupV H v = some xs → xs.length ≤ 1000 ∧ ∀ y ∈ xs, Dep H k y
theorem Dep.tg {H : Hp} {k : Nat} {v : V} (h : Dep H k v) : ∃ n, Tg H v n := by
  cases k with
  | zero => exact h
  | succ k => exact h.1
theorem Tg.tup_same {H H' : Hp} {v : V} {n : String} (t : Tg H v n) (s : Same H H') : tupV H' v = tupV H v := by
  cases t with
  | non => rfl
  | bl b => rfl
  | int i => rfl
  | str x => rfl
  | lst e =>
    unfold tupV
    dsimp only
    rw [e, s _ _ e]
  | tup e =>
    unfold tupV
    dsimp only
    rw [e, s _ _ e]
  | dct e =>
    unfold tupV
    dsimp only
    rw [e, s _ _ e]
theorem Dep.same {H H' : Hp} (s : Same H H') : ∀ {k : Nat} {v : V}, Dep H k v → Dep H' k v
  | 0, _, h => let ⟨n, t⟩ := h; ⟨n, t.keep s⟩
  | k + 1, v, h => by
    obtain ⟨⟨n, t⟩, h⟩ := h
    refine ⟨⟨n, t.keep s⟩, fun xs e => ?_⟩
    rw [t.tup_same s] at e
    exact ⟨(h xs e).1, fun y hy => Dep.same s ((h xs e).2 y hy)⟩
def roadB (H : Hp) (p : Int) (v : V) : Bool := match tupV H v with
  | some [a, b, c, t] => isIn a 0 (p - 1) && (isIn b 0 (p - 1) && (!decide (a = b) && (isIn c 1 99 && isIn t 0 99)))
  | _ => false
def netB (H : Hp) (v : V) : Bool := match tupV H v with
  | some [.int p, r] => isIn (.int p) 1 10 && (match tupV H r with
    | some rs => decide (rs.length ≤ 30) && rs.all (roadB H p)
    | none => false)
  | _ => false
theorem roadB_same {H H' : Hp} {p : Int} {v : V} (d : Dep H 0 v) (s : Same H H') : roadB H' p v = roadB H p v := by
  obtain ⟨n, t⟩ := d
  unfold roadB
  rw [t.tup_same s]
section
variable {P : Program} {w : World} {K : PySem.W.Frag} {mg : Str → Option Value} {base : Heap}
variable {f1 f2 f3 f4 f5 : Addr} {d1 d2 d3 d4 d5 : FuncData}
def lenB (H : Hp) (v : V) (m : Int) : Bool := match tupV H v with
  | some xs => decide ((xs.length : Int) = m)
  | none => false
def spTupG : Sp := fun vs H Q _ => ∃ (v : V) (n : String) (m : Int), vs = [v, .int m] ∧ Tg H v n ∧ Q (.bl (lenB H v m)) H
theorem ok_tupG {k : Nat} (S : Sm K mg f1 f2 f3 f4 f5 d1 d2 d3 d4 d5) : FnOk P w K mg base CX0 (k + 1) f3 d3 ["thing", "many"] spTupG := by
  refine S.tupOf.F.ok scTupOf (fun vs H Q E h => ?_) (fun cdv A outer s H vs Q E hr h => ?_)
  · obtain ⟨_, _, _, rfl, _⟩ := h
    rfl
  · obtain ⟨v, n, m, rfl, t, q⟩ := h
    refine ⟨_, pss_one (ps_ret (pe_and (pe_callB call_isi (by rfl) S.mi (by decide +kernel) (pa_cons (pv 0) (pa_cons (pe_bltn (v := .ty "tuple") (by rfl) S.mT (by decide +kernel) rfl) pa_nil)))
      (pe_one (pe_cmpR op_eq (pe_callB call_len_seq (by rfl) S.ml PySem.boot_len (pa_cons (pv 0) pa_nil)) (pv 1) (nomark _))))), ?_⟩
    refine ⟨v, rfl, v, .ty "tuple", .type n, .type "tuple", (n == "tuple"), rfl, .ty _, t.tyx, isi_tuple t, _, rfl, ?_⟩
    cases t with
    | @tup a xs e =>
      refine iteT ⟨.ref a, rfl, a, xs, rfl, .inr (SqT.of e), .int m, rfl, rfl, ?_⟩
      have el : lenB H (.ref a) m = decide (V.int (xs.length : Int) = V.int m) := by
        unfold lenB
        rw [tupV_ref e]
        dsimp only
        exact decide_eq_decide.mpr ⟨fun z => by rw [z], fun z => V.int.inj z⟩
      rw [el] at q
      exact q
    | non => exact iteF q
    | bl b => exact iteF q
    | int i => exact iteF q
    | str x => exact iteF q
    | @lst a xs e =>
      have el : lenB H (.ref a) m = false := by
        unfold lenB tupV
        dsimp only
        rw [e]
      rw [el] at q
      exact iteF q
    | @dct a xs e =>
      have el : lenB H (.ref a) m = false := by
        unfold lenB tupV
        dsimp only
        rw [e]
      rw [el] at q
      exact iteF q
theorem lenB_true {H : Hp} {v : V} {m : Int} (h : lenB H v m = true) : ∃ a xs, v = .ref a ∧ H a = some (.tup xs) ∧ (xs.length : Int) = m := by
  unfold lenB at h
  split at h
  · rename_i xs e
    obtain ⟨a, e1, e2⟩ := tupV_some e
    exact ⟨a, xs, e1, e2, of_decide_eq_true h⟩
  · cases h
def spRoadG : Sp := fun vs H Q _ => ∃ (v : V) (p : Int), vs = [.int p, v] ∧ Dep H 1 v ∧ Q (.bl (roadB H p v)) H
theorem ok_roadG {k : Nat} (S : Sm K mg f1 f2 f3 f4 f5 d1 d2 d3 d4 d5) : FnOk P w K mg base CX0 (k + 3) f4 d4 ["places", "thing"] spRoadG := by
  have G : FnOk P w K mg base CX0 (k + 2) f2 d2 ["thing", "low", "high"] spWithin := ok_within S
  have GT : FnOk P w K mg base CX0 (k + 2) f3 d3 ["thing", "many"] spTupG := ok_tupG S
  obtain ⟨t3, c3⟩ := S.c3
  obtain ⟨t4, c4⟩ := S.c4
  obtain ⟨t5, c5⟩ := S.c5
  refine S.roadQ.F.ok scRoadQ (fun vs H Q E h => ?_) (fun cdv A outer s H vs Q E hr h => ?_)
  · obtain ⟨_, _, rfl, _⟩ := h
    rfl
  · obtain ⟨v, p, rfl, dep, q⟩ := h
    refine ⟨_, pss_cons (ps_if (pt_not (pt_val (pe_call GT hr (by rfl) S.tupOf.g S.tupOf.F.kp S.tupOf.b .nil pass0 (pa_cons (pv 1) (pa_cons pe_int pa_nil))))) (pss_one (ps_ret pe_bl)) pss_nil)
      (pss_cons (ps_asg (pv 1) (pg_tup (by rfl) (pgs_cons (pg_name (i := 2) scRoadQ.nd rfl (.inl rfl)) (pgs_cons (pg_name (i := 3) scRoadQ.nd rfl (.inl rfl)) (pgs_cons (pg_name (i := 4) scRoadQ.nd rfl (.inl rfl)) (pgs_cons (pg_name (i := 5) scRoadQ.nd rfl (.inl rfl)) pgs_nil))))))
      (pss_cons (ps_if (PW.pt (pw_or (pt_not (pt_val (pe_call G hr (by rfl) S.within.g S.within.F.kp S.within.b .nil pass0 (pa_cons (pv 2) (pa_cons pe_int (pa_cons (pe_op op_sub (pv 0) pe_int) pa_nil)))))) (pw_or1 (pt_not (pt_val (pe_call G hr (by rfl) S.within.g S.within.F.kp S.within.b .nil pass0 (pa_cons (pv 3) (pa_cons pe_int (pa_cons (pe_op op_sub (pv 0) pe_int) pa_nil)))))))))
        (pss_one (ps_ret pe_bl)) pss_nil)
      (pss_one (ps_ret (pe_and (pe_cmpR op_ne (pv 2) (pv 3) (nomark _)) (pe_and (pe_call G hr (by rfl) S.within.g S.within.F.kp S.within.b .nil pass0 (pa_cons (pv 4) (pa_cons (pe_glob (v := .int 1) (by rfl) c3 ⟨t3, rfl⟩) (pa_cons (pe_glob (v := .int 99) (by rfl) c4 ⟨t4, rfl⟩) pa_nil))))
        (pe_one (pe_call G hr (by rfl) S.within.g S.within.F.kp S.within.b .nil pass0 (pa_cons (pv 5) (pa_cons pe_int (pa_cons (pe_glob (v := .int 99) (by rfl) c5 ⟨t5, rfl⟩) pa_nil))))))))))), ?_⟩
    obtain ⟨⟨n, t⟩, dep⟩ := dep
    refine ⟨v, rfl, v, n, 4, rfl, t, _, rfl, ?_⟩
    cases e4 : lenB H v 4 with
    | false =>
      refine iteT ?_
      have eb : roadB H p v = false := by
        unfold roadB
        unfold lenB at e4
        split
        · rename_i a b c d e
          rw [e] at e4
          exact nomatch e4
        · rfl
      rw [eb] at q
      exact q
    | true =>
      refine iteF ?_
      obtain ⟨ad, xs, rfl, e, hl⟩ := lenB_true e4
      have hl' : xs.length = 4 := by omega
      obtain ⟨a, b, c, d, rfl⟩ : ∃ a b c d, xs = [a, b, c, d] := by
        match xs, hl' with
        | [a, b, c, d], _ => exact ⟨a, b, c, d, rfl⟩
      obtain ⟨_, al⟩ := dep _ (tupV_ref e)
      have eb : roadB H p (.ref ad) = (isIn a 0 (p - 1) && (isIn b 0 (p - 1) && (!decide (a = b) && (isIn c 1 99 && isIn d 0 99)))) := by
        unfold roadB
        rw [tupV_ref e]
      rw [eb] at q
      obtain ⟨na, ta⟩ := al a (by simp)
      obtain ⟨nb, tb⟩ := al b (by simp)
      obtain ⟨nc, tc⟩ := al c (by simp)
      obtain ⟨nd, td⟩ := al d (by simp)
      refine ⟨.ref ad, rfl, ad, _, rfl, SqT.of e, rfl, a, _, rfl, b, _, rfl, c, _, rfl, d, _, rfl, rfl, ?_⟩
      refine ⟨a, rfl, .int p, rfl, p, 1, rfl, rfl, a, na, 0, p - 1, rfl, ta, _, rfl, ?_⟩
      cases ea : isIn a 0 (p - 1) with
      | false =>
        rw [ea] at q
        exact iteT q
      | true =>
        rw [ea] at q
        refine iteF ?_
        refine ⟨b, rfl, .int p, rfl, p, 1, rfl, rfl, b, nb, 0, p - 1, rfl, tb, _, rfl, ?_⟩
        cases eb2 : isIn b 0 (p - 1) with
        | false =>
          rw [eb2] at q
          exact iteT q
        | true =>
          rw [eb2] at q
          refine iteF ?_
          obtain ⟨i, rfl, _, _⟩ := isIn_true ea
          obtain ⟨j, rfl, _, _⟩ := isIn_true eb2
          refine ⟨.int i, rfl, .int j, rfl, rfl, _, rfl, ?_⟩
          cases ed : decide (V.int i = V.int j) with
          | true =>
            rw [ed] at q
            exact iteF q
          | false =>
            rw [ed] at q
            refine iteT ⟨c, rfl, c, nc, 1, 99, rfl, tc, _, rfl, ?_⟩
            cases ec : isIn c 1 99 with
            | false =>
              rw [ec] at q
              exact iteF q
            | true =>
              rw [ec] at q
              exact iteT ⟨d, rfl, d, nd, 0, 99, rfl, td, q⟩
end
end Wy

namespace Wy
open PySem PySem.Spec PyProof.Rows L2
section
variable {P : Program} {w : World} {K : PySem.W.Frag} {mg : Str → Option Value} {base : Heap}
variable {f1 f2 f3 f4 f5 : Addr} {d1 d2 d3 d4 d5 : FuncData}
def spNetG : Sp := fun vs H Q _ => ∃ v : V, vs = [v] ∧ Dep H 3 v ∧ ∀ H', Same H H' → Q (.bl (netB H v)) H'
theorem all_take {α : Type} (f : α → Bool) (xs : List α) : ((xs.map f).all id) = xs.all f := by
  rw [List.all_map]
  rfl
theorem ok_netG {k : Nat} (S : Sm K mg f1 f2 f3 f4 f5 d1 d2 d3 d4 d5) : FnOk P w K mg base CX0 (k + 4) f5 d5 ["thing"] spNetG := by
  have G : FnOk P w K mg base CX0 (k + 3) f2 d2 ["thing", "low", "high"] spWithin := ok_within S
  have GT : FnOk P w K mg base CX0 (k + 3) f3 d3 ["thing", "many"] spTupG := ok_tupG S
  have GR : FnOk P w K mg base CX0 (k + 3) f4 d4 ["places", "thing"] spRoadG := ok_roadG S
  obtain ⟨t1, c1⟩ := S.c1
  obtain ⟨t2, c2⟩ := S.c2
  refine S.netQ.F.ok scNetQ (fun vs H Q E h => ?_) (fun cdv A outer s H vs Q E hr h => ?_)
  · obtain ⟨_, rfl, _⟩ := h
    rfl
  · obtain ⟨v, rfl, dep, q⟩ := h
    refine ⟨_, pss_cons (ps_if (pt_not (pt_val (pe_call GT hr (by rfl) S.tupOf.g S.tupOf.F.kp S.tupOf.b .nil pass0 (pa_cons (pv 0) (pa_cons pe_int pa_nil))))) (pss_one (ps_ret pe_bl)) pss_nil)
      (pss_cons (ps_asg (pv 0) (pg_tup (by rfl) (pgs_cons (pg_name (i := 1) scNetQ.nd rfl (.inr rfl)) (pgs_cons (pg_name (i := 2) scNetQ.nd rfl (.inl rfl)) pgs_nil))))
      (pss_cons (ps_if (pt_not (pt_val (pe_call G hr (by rfl) S.within.g S.within.F.kp S.within.b .nil pass0 (pa_cons (pv 1) (pa_cons pe_int (pa_cons (pe_glob (v := .int 10) (by rfl) c1 ⟨t1, rfl⟩) pa_nil)))))) (pss_one (ps_ret pe_bl)) pss_nil)
      (pss_cons (ps_if (PW.pt (pw_or (pt_not (pt_val (pe_callB call_isi (by rfl) S.mi (by decide +kernel) (pa_cons (pv 2) (pa_cons (pe_bltn (v := .ty "tuple") (by rfl) S.mT (by decide +kernel) rfl) pa_nil)))))
          (pw_or1 (pt_cmpR op_gt (pe_callB call_len_seq (by rfl) S.ml PySem.boot_len (pa_cons (pv 2) pa_nil)) (pe_glob (v := .int 30) (by rfl) c2 ⟨t2, rfl⟩) (nomark _))))) (pss_one (ps_ret pe_bl)) pss_nil)
      (pss_one (ps_ret (pe_callB (cr_all rfl) (by rfl) S.mA (by decide +kernel) (pa_cons
        (pe_lc (own := [("road", 3)]) (g := gName 3) (tt := tYes) rfl scNetQ.nd (pi_tup (pv 2)) (blkOk_by (N := ["thing", "places", "roads", "road"]) (sc := defScope sNetQ) (by decide +kernel))
          (fun _ _ _ _ _ => pg_name (i := 3) scNetQ.nd rfl (.inl rfl)) (fun _ _ _ _ _ => pts_nil)
          (fun _ _ _ _ _ => pe_call GR hr (by rfl) S.roadQ.g S.roadQ.F.kp S.roadQ.b .nil pass0 (pa_cons (pv 1) (pa_cons (pv 3) pa_nil)))) pa_nil))))))), ?_⟩
    obtain ⟨⟨n, t⟩, dep⟩ := dep
    have q0 := q H (Same.refl H)
    refine ⟨v, rfl, v, n, 2, rfl, t, _, rfl, ?_⟩
    cases e2 : lenB H v 2 with
    | false =>
      refine iteT ?_
      have eb : netB H v = false := by
        unfold netB
        unfold lenB at e2
        split
        · rename_i p r e
          rw [e] at e2
          exact nomatch e2
        · rfl
      rw [eb] at q0
      exact q0
    | true =>
      refine iteF ?_
      obtain ⟨ad, xs, rfl, e, hl⟩ := lenB_true e2
      have hl' : xs.length = 2 := by omega
      obtain ⟨a, r, rfl⟩ : ∃ a r, xs = [a, r] := by
        match xs, hl' with
        | [a, r], _ => exact ⟨a, r, rfl⟩
      obtain ⟨_, al⟩ := dep _ (tupV_ref e)
      obtain ⟨na, ta⟩ := (al a (by simp)).tg
      have dr : Dep H 2 r := al r (by simp)
      refine ⟨.ref ad, rfl, ad, _, rfl, SqT.of e, rfl, a, _, rfl, r, _, rfl, rfl, ?_⟩
      refine ⟨a, rfl, a, na, 1, 10, rfl, ta, _, rfl, ?_⟩
      cases ea : isIn a 1 10 with
      | false =>
        refine iteT ?_
        have eb : netB H (.ref ad) = false := by
          unfold netB
          rw [tupV_ref e]
          cases a <;> first | rfl | (dsimp only; rw [ea, Bool.false_and])
        rw [eb] at q0
        exact q0
      | true =>
        refine iteF ?_
        obtain ⟨p, rfl, p1, p2⟩ := isIn_true ea
        have eb : netB H (.ref ad) = (match tupV H r with
          | some rs => decide (rs.length ≤ 30) && rs.all (roadB H p)
          | none => false) := by
          unfold netB
          rw [tupV_ref e]
          dsimp only
          rw [ea, Bool.true_and]
          all_goals (cases tupV H r <;> rfl)
        obtain ⟨⟨nr, tr⟩, drs⟩ := dr
        refine ⟨r, rfl, r, .ty "tuple", .type nr, .type "tuple", (nr == "tuple"), rfl, .ty _, tr.tyx, isi_tuple tr, _, rfl, ?_⟩
        have none_of : tupV H r = none → Q (.bl false) H := fun h1 => by
          rw [eb, h1] at q0
          exact q0
        cases tr with
        | @tup rr rs er =>
          refine iteF ?_
          rw [tupV_ref er] at eb
          obtain ⟨_, alr⟩ := drs _ (tupV_ref er)
          refine ⟨.ref rr, rfl, rr, _, rfl, .inr (SqT.of er), _, 30, rfl, rfl, _, rfl, ?_⟩
          cases e30 : decide ((30 : Int) < (rs.length : Int)) with
          | true =>
            refine iteT ?_
            have h30 : ¬ (rs.length ≤ 30) := by
              have := of_decide_eq_true e30
              omega
            rw [eb] at q0
            dsimp only at q0
            rw [decide_eq_false h30, Bool.false_and] at q0
            exact q0
          | false =>
            refine iteF ?_
            have h30 : rs.length ≤ 30 := by
              have := of_decide_eq_false e30
              omega
            refine ⟨.ref rr, rfl, rr, rfl, ⟨_, SqT.of er⟩, fun D hD => ?_⟩
            refine lc_tup (xs := rs) (fun i H' => Same H H' ∧ H' D = some (.lst (((rs.take i).map (roadB H p)).map V.bl))) ⟨same_new hD, upd_same⟩ (fun i H' _ h => SqT.of (h.1 _ _ er)) (fun i x H' hx h => ?_) (fun H' h => ?_)
            · obtain ⟨sm, eD⟩ := h
              have dx : Dep H 1 x := alr x (List.mem_of_getElem? hx)
              refine ⟨rfl, ?_⟩
              unfold tYes
              dsimp only
              rw [if_pos rfl]
              refine ⟨.int p, rfl, x, rfl, x, p, rfl, dx.same sm, _, eD, ?_, Same.upd_lst sm hD, ?_⟩
              · rw [List.length_map, List.length_map, List.length_take]
                exact small1000 (by omega)
              · rw [upd_same, List.take_add_one, hx, roadB_same dx.tg sm, List.map_append, List.map_append]
                rfl
            · obtain ⟨sm, eD⟩ := h
              rw [List.take_length] at eD
              refine ⟨D, _, rfl, SqL.of eD, ?_⟩
              have q1 := q H' sm
              rw [eb] at q1
              dsimp only at q1
              rw [decide_eq_true h30, Bool.true_and, ← all_take] at q1
              exact q1
        | non => exact iteT (none_of rfl)
        | bl b => exact iteT (none_of rfl)
        | int i => exact iteT (none_of rfl)
        | str x => exact iteT (none_of rfl)
        | @lst a xs e' =>
          refine iteT (none_of ?_)
          unfold tupV
          dsimp only
          rw [e']
        | @dct a xs e' =>
          refine iteT (none_of ?_)
          unfold tupV
          dsimp only
          rw [e']
def spChkG (C : Addr) : Sp := fun vs H Q E => ∃ v : V, vs = [v] ∧ Dep H 3 v ∧ (netB H v = true → ∀ H', Same H H' → Q .non H') ∧ (netB H v = false → ∀ H', Same H H' → E (.ref C) none H')
theorem ok_chkG {f C : Addr} {fd : FuncData} {k : Nat} (S : Sm K mg f1 f2 f3 f4 f5 d1 d2 d3 d4 d5) (D : Df K mg "check_net" sChkN ["thing"] f fd) (Z : Ex K mg "NoNet" C) : FnOk P w K mg base (L2.CX P w) (k + 5) f fd ["thing"] (spChkG C) := by
  have G : FnOk P w K mg base CX0 (k + 4) f5 d5 ["thing"] spNetG := ok_netG S
  refine D.F.okX scChkN (fun vs H Q E h => ?_) (fun cdv A outer s H vs Q E hr h => ?_)
  · obtain ⟨_, rfl, _⟩ := h
    rfl
  · obtain ⟨v, rfl, dep, q1, q2⟩ := h
    refine ⟨_, pss_one (ps_if (pt_not (pt_val (pe_call G hr (by rfl) S.netQ.g S.netQ.F.kp S.netQ.b .nil pass0 (pa_cons (pv 0) pa_nil))))
      (pss_one (ps_raise rfl (takes_of rfl rfl rfl rfl) (pmk_own PySem.F.excBase_ValueError Z.x Z.g Z.k (raises_own Z.b Z.t) rfl))) pss_nil), ?_⟩
    refine ⟨v, rfl, v, rfl, dep, fun H' sm => ⟨_, rfl, ?_⟩⟩
    cases e : netB H v with
    | true => exact iteF (q1 e H' sm)
    | false => exact iteT (q2 e H' sm)
theorem net_is {H : Hp} {a r : Addr} {ts : List Addr} {p : Int} {rs : List Road} (h : NetAt H a r ts p rs) (ok : NetOk p rs) : netB H (.ref a) = true ∧ Dep H 3 (.ref a) := by
  obtain ⟨ea, er, et⟩ := h
  have hl := et.len
  have each : ∀ x ∈ ts.map V.ref, roadB H p x = true ∧ Dep H 1 x := fun x hx => by
    obtain ⟨t, ht, rfl⟩ := List.mem_map.mp hx
    obtain ⟨i, hi⟩ := List.mem_iff_getElem?.mp ht
    obtain ⟨q, e1, e2⟩ := et.get hi
    have o := ok.all q (List.mem_of_getElem? e1)
    refine ⟨?_, ⟨_, .tup e2⟩, fun xs e => ?_⟩
    · unfold roadB
      rw [tupV_ref e2]
      show (isIn (.int q.one) 0 (p - 1) && (isIn (.int q.other) 0 (p - 1) && (!decide (V.int q.one = V.int q.other) && (isIn (.int q.cost) 1 99 && isIn (.int q.time) 0 99)))) = true
      rw [isIn_of o.o1 o.o2, isIn_of o.t1 o.t2, isIn_of o.c1 o.c2, isIn_of o.m1 o.m2, decide_eq_false fun z => o.ne (V.int.inj z)]
      rfl
    · rw [tupV_ref e2] at e
      cases e
      refine ⟨by show 4 ≤ 1000; decide, fun y hy => ?_⟩
      simp only [Road.vs, List.mem_cons, List.not_mem_nil, or_false] at hy
      rcases hy with rfl | rfl | rfl | rfl <;> exact ⟨_, .int _⟩
  constructor
  · unfold netB
    rw [tupV_ref ea]
    dsimp only
    rw [isIn_of ok.p1 ok.p2, tupV_ref er]
    dsimp only
    have l30 := ok.len
    rw [decide_eq_true (show (ts.map V.ref).length ≤ 30 by rw [List.length_map, hl]; exact l30), List.all_eq_true.mpr fun x hx => (each x hx).1]
    rfl
  · refine ⟨⟨_, .tup ea⟩, fun xs e => ?_⟩
    rw [tupV_ref ea] at e
    cases e
    refine ⟨by show 2 ≤ 1000; decide, fun y hy => ?_⟩
    simp only [List.mem_cons, List.not_mem_nil, or_false] at hy
    rcases hy with rfl | rfl
    · exact ⟨⟨_, .int _⟩, fun xs e => nomatch e⟩
    · refine ⟨⟨_, .tup er⟩, fun xs e => ?_⟩
      rw [tupV_ref er] at e
      cases e
      have l30 := ok.len
      exact ⟨by rw [List.length_map, hl]; omega, fun x hx => (each x hx).2⟩
end
end Wy

namespace Wy
open PySem PySem.Spec PyProof.Rows L2
theorem pe_no {X : Cx} {e : Expr} : PE X e (fun _ _ _ => False) := ⟨fun _ _ _ _ _ _ h => h.elim⟩
/-- xs.count(x) of flat things -/
def rCountV (K : PySem.W.Frag) : V → List V → Hp → VK → Prop := fun x xs H Q => ∃ (a : Addr) (ys : List V) (y : V), x = V.ref a ∧ xs = [y] ∧ SqL K H a ys ∧ flatV y = true ∧ ys.all flatV = true ∧ Q (.int ((ys.countP fun u => eqV u y) : Nat)) H
theorem count_eqU {x : V} : ∀ {xs : List V} {us : List Value}, Vals xs us → xs.all flatV = true → us.countP (eqU x) = xs.countP fun y => eqV y x
  | _, _, .nil, _ => rfl
  | y :: r, _, .cons h t, f => by
    rw [List.all_cons, Bool.and_eq_true] at f
    rw [List.countP_cons, List.countP_cons, count_eqU t f.2, eqU_of h f.1]
theorem mt_countV {X : Cx} : MtR X "list.count" (rCountV X.K) := by
  intro pins s σ H x xs v us Q I rx rxs h
  obtain ⟨a, ys, y, rfl, rfl, sq, fy, fys, q⟩ := h
  cases rx
  cases rxs with
  | cons ry rt =>
    rename_i uy ut
    cases rt
    obtain ⟨its, rv, ⟨⟨cls, dd, data, sl⟩, n, ho, hc, hn, hd⟩, _⟩ := I.list sq
    simp only at hc hd
    subst hc hd
    refine call_meets PySem.F.slot_list_count ⟨_, ho, rfl⟩ PySem.F.entry_list_count (PySem.F.args_list_count_2 _ _) (SeqAt.list_countAt a its.toArray n dd sl uy (eqU y)) ⟨ho, fun u hu => mem_eqAt ry fy rv fys u (by simpa using hu), ?_⟩
    refine ⟨.int _, H, I.tok _, ⟨s.toks, ?_⟩, q⟩
    show Value.int ((its.toArray.toList.countP (eqU y) : Nat) : Int) s.toks = _
    rw [show its.toArray.toList = its from rfl, count_eqU rv fys]
/-! ### an error that is handled, and defs that are handed it -/
def ErrOf (D : Addr) (o : Obj) : Prop := Zc (.ref D) none o ∧ ∃ vs, o.data = .fields vs
theorem call_isP {X : Cx} {p : Addr × Obj} {D : Addr} (C : ExcC X.K D) (hp : p ∈ X.pn) (hz : ErrOf D p.2) : CallR X (.builtin "isinstance") (rIsE X.K D p.1) := by
  intro pins s σ H xs us Q I r h
  obtain ⟨c, cv, b, rfl, hc, e, q⟩ := h
  cases r with
  | cons rx rr =>
    cases rr with
    | cons rt rn =>
      cases rn
      cases rx
      have ec := hc _ rt
      subst ec
      obtain ⟨got, _⟩ := I.pin p (List.mem_append.mpr (.inl hp))
      obtain ⟨pa, oe⟩ := p
      obtain ⟨⟨h1, h2⟩, vs, hv⟩ := hz
      have J : PySem.W.InstAt s.heap pa oe D none := by
        obtain ⟨oc, od, oda, osl⟩ := oe
        dsimp only at h1 h2 hv
        subst h1 h2 hv
        exact ⟨got, rfl, rfl, trivial⟩
      exact PySem.W.kia_one (PySem.W.handS_kitx_exc C.hg C.hk C.hs C.hd C.ha C.hn C.ht C.hm) I.kIn J e (fun z => nomatch z) fun tk => ⟨.bl b, H, I.kept (t' := tk) fun _ _ z => z, rfl, q⟩
/-- what a def promises that is called with the error of class D while it is handled -/
structure FnE (P : Program) (w : World) (K : PySem.W.Frag) (mg : Str → Option Value) (base : Heap) (k : Nat) (f : Addr) (fd : FuncData) (ps : List Str) (D : Addr) (sp : Addr → List V → Hp → VK → Prop) : Prop where
  len : ∀ a vs H Q, sp a vs H Q → vs.length = ps.length
  run : ∀ (A : Around) (outer : List Env) (s : Shared) (H : Hp) (args : Args) (us : List Value) (vs : List V) (Q : VK) (p : Addr × Obj), L2H.RoomH k A → L2H.PinOk outer H s p → ErrOf D p.2 → Env0 P w K mg base A outer s H → BindsTo s fd args (ps.zip us) → Vals vs us → sp p.1 vs H Q →
    codeAny (model P w) A (.call (.ref f) args) (CR CX0 outer P w H s Q E0) s
theorem fnE_of {P : Program} {w : World} {K : PySem.W.Frag} {mg : Str → Option Value} {base : Heap} {x : Str} {st : Stmt} {f D : Addr} {fd : FuncData} {N ps : List Str} {k : Nat} {sp : Addr → List V → Hp → VK → Prop} (F : Fun K x x st f fd) (S : FnScope N ps (defScope st)) (len : ∀ a vs H Q, sp a vs H Q → vs.length = ps.length)
    (body : ∀ (cdv : Value) (A : Around) (outer : List Env) (s : Shared) (H : Hp) (vs : List V) (Q : VK) (p : Addr × Obj), L2H.RoomH k (A.deeper (envOfC x (defScope st) s.heap.objs.size f cdv)) → ErrOf D p.2 → sp p.1 vs H Q →
      ∃ t, PSs (L2H.cxH CX0 P w K mg base N x (defScope st) f cdv A outer s H E0 p).nox (defBody st) t ∧ t { nx := fun _ G => Q .non G, rt := Q } (L2.start N vs) H) : FnE P w K mg base (k + 1) f fd ps D sp := by
  obtain ⟨oc, od, kV, doc, pm, an, cdv, ct, osl, rfl, lk, hcd⟩ := F.ex
  refine ⟨len, fun A outer s H args us vs Q p hr pin err e0 bnd rv hsp => ?_⟩
  have inK : K.In s.heap := e0.mod.kin.keeps fun b o e => (e0.bs b o e).1
  refine codeAny_call_function hr.depth (inK _ _ lk) rfl S.co S.gen rfl (PySem.W.codeRec_of inK hcd) (bnd _ _ _ _ ?_)
  refine wpAny_newFunctionEnv_cells S.kind (fun y hy => ?_) fun env he s1 inC => ?_
  · rcases S.par y.1 (List.of_mem_zip (show (y.1, y.2) ∈ ps.zip us from hy)).1 with z | z
    · exact .inl z
    · exact .inr ⟨z, PySem.W.cellsFrom_some _ _ _ (.inl z)⟩
  · subst he
    refine ⟨(e0.mod.nolimit.keeps fun b o e => (e0.bs b o e).1).keeps inC.toInCall.keep, codeAny_func ?_⟩
    obtain ⟨t, ht, hq⟩ := body cdv A outer s H vs Q p (hr.deeper _) err hsp
    have J : L2.Inv (L2H.cxH CX0 P w K mg base N x (defScope st) f cdv A outer s H E0 p) [] (L2.start N vs) H s1 := L2H.inv_startH S pin e0 (len _ _ _ _ hsp) rv inC
    refine wpAny_mono (ht.nox.run [] s1 (L2.start N vs) H _ J hq) (fun fl s' hs => ?_) fun e s' hs => hs
    cases fl with
    | ret u =>
      obtain ⟨v, σ', H', J', rv', q⟩ := hs
      exact ⟨v, H', J'.os, J'.bare, J'.base, J'.hok, rv', q⟩
    | next =>
      obtain ⟨σ', H', J', q⟩ := hs
      exact ⟨.non, H', J'.os, J'.bare, J'.base, J'.hok, rfl, q⟩
    | brk =>
      obtain ⟨_, _, _, q⟩ := hs
      exact q.elim
    | cont =>
      obtain ⟨_, _, _, q⟩ := hs
      exact q.elim
theorem pe_callE {X : Cx} {k : Nat} {f D : Addr} {fd : FuncData} {ps : List Str} {sp : Addr → List V → Hp → VK → Prop} {x : Str} {u1 u2 : Pos} {e : Expr} {es : List Expr} {t : TA} {p : Addr × Obj} (F : FnE X.prog X.w X.K X.mg X.base k f fd ps D sp) (hr : L2H.RoomH k X.A) (hp : p ∈ X.pn) (hz : ErrOf D p.2) (hg : Gl X x) (hm : X.mg x = some (.ref f))
    (hk : PySem.W.keepIn X.K (.ref f) = true) (hb : L2.Binds X.K fd ps []) (ha : PA X (e :: es) t) (hdb : (x == ("__debug__" : Str)) = false := by decide) (he : starEach (e :: es) X.env = (false, eval e X.env) :: starEach es X.env := by rfl) (hpl : (backTo u2 (starEach es X.env)).any (·.1) = false := by rfl) :
    PE X (.Call (.Name x u1) (e :: es) [] u2) (fun σ H Q => t σ H fun vs G => sp p.1 vs G Q) := by
  refine ⟨fun pins s σ H Q I h => wpAny_Call_Name_kw (ld_glob I hg hm ?_ hdb)⟩
  refine PySem.W.callWith_K (h₀ := X.base) I.ok.mod.kin hk (thn (ha.run u2 pins s σ H _ I h) fun us t1 ⟨vs, G, J, rv, q⟩ => ⟨J.kIn, ?_⟩) he hpl
  have hl : us.length = ps.length := by
    rw [← rv.length]
    exact F.len _ _ _ _ q
  have bnd := hb t1 us J.kIn (by rw [List.append_nil]; exact hl)
  rw [List.append_nil] at bnd
  have pp := J.pin p (List.mem_append_left _ hp)
  have pin : L2H.PinOk X.stack G t1 p := ⟨pp.1, pp.2.1, fun hm => (List.mem_cons.mp (J.stkSub p.1 hm)).elim pp.2.2.1 pp.2.2.2.1, pp.2.2.2.2⟩
  refine wpAny_call (codeAny_mono (F.run X.A X.stack t1 G ⟨us, []⟩ us vs Q p hr pin hz J.env0 bnd rv q) fun r s' hq => ?_)
  cases r with
  | error e => exact (show False from hq).elim
  | ok fl =>
    cases fl with
    | ret u => exact J.after hq
    | next => exact (show False from hq).elim
    | brk => exact (show False from hq).elim
    | cont => exact (show False from hq).elim
end Wy

namespace Wy
open PySem PySem.Spec PyProof.Rows L2
abbrev sNet : Stmt := topS 60
/-! ### roads by their numbers -/
theorem road_at {H : Hp} {ts : List Addr} {rs : List Road} {n : Nat} (h : RoadsAt H ts rs) (hn : n < rs.length) : ∃ (t : Addr) (q : Road), ts[n]? = some t ∧ rs[n]? = some q ∧ H t = some (.tup q.vs) := by
  have h1 : n < ts.length := by rw [h.len]; exact hn
  obtain ⟨q, e1, e2⟩ := h.get (List.getElem?_eq_getElem h1)
  exact ⟨ts[n], q, List.getElem?_eq_getElem h1, e1, e2⟩
theorem ref_at {ts : List Addr} {n : Nat} {t : Addr} (h : ts[n]? = some t) : (ts.map V.ref)[n]? = some (.ref t) := by
  rw [List.getElem?_map, h]
  rfl
theorem ix_tupK {X : Cx} {K : PySem.W.Frag} (h : X.K = K) : IxR X (rIxT K) := by
  subst h
  exact ix_tup
theorem laid_snoc {H : Hp} {us : List Addr} {qs : List Road} {t : Addr} {q : Road} (h : RoadsAt H us qs) (e : H t = some (.tup q.vs)) : RoadsAt H (us ++ [t]) (qs ++ [q]) := by
  induction h with
  | nil => exact .cons e .nil
  | cons a _ ih => exact .cons a ih
/-! ### data of nets -/
def dRoad (q : Road) : PyData := .tuple [.int q.one, .int q.other, .int q.cost, .int q.time]
theorem road_dp {K : PySem.W.Frag} {H : Hp} {t : Addr} {q : Road} (e : H t = some (.tup q.vs)) : Dp K H (.ref t) (dRoad q) := .tup (SqT.of e) (.cons (.int _) (.cons (.int _) (.cons (.int _) (.cons (.int _) .nil))))
theorem roads_dp {K : PySem.W.Frag} {H : Hp} : ∀ {ts : List Addr} {rs : List Road}, RoadsAt H ts rs → DpAll K H (ts.map V.ref) (rs.map dRoad)
  | _, _, .nil => .nil
  | _, _, .cons e r => .cons (road_dp e) (roads_dp r)
theorem roads_lay : ∀ rs : List Road, PyData.canLayAll0 (rs.map dRoad) = true
  | [] => rfl
  | q :: r => by
    rw [List.map_cons, PyData.canLayAll0, roads_lay r]
    simp [dRoad, PyData.canLay0, PyData.canLayAll0]
theorem roads_deep : ∀ rs : List Road, PyData.depthAll (rs.map dRoad) ≤ 1
  | [] => by
    show PyData.depthAll [] ≤ 1
    rw [PyData.depthAll]
    omega
  | q :: r => by
    rw [List.map_cons, PyData.depthAll]
    have := roads_deep r
    have h2 : (dRoad q).depth ≤ 1 := by simp [dRoad, PyData.depth, PyData.depthAll]
    omega
theorem roads_shaped (rs : List Road) : SeqAt.shaped (.list (rs.map dRoad)) = true ∧ SeqAt.shaped (.tuple (rs.map dRoad)) = true := by
  have h := roads_deep rs
  constructor <;> (unfold SeqAt.shaped; rw [PyData.canLay0, roads_lay, PyData.depth, Bool.true_and]; exact decide_eq_true (by omega))
theorem pick {α : Type} {xs : List α} {n : Int} (h0 : 0 ≤ n) (h1 : n < (xs.length : Int)) : ∃ v, v ∈ xs ∧ atI xs n = some v := by
  obtain ⟨m, rfl⟩ := Int.eq_ofNat_of_zero_le h0
  have hm : m < xs.length := by omega
  exact ⟨xs[m], List.getElem_mem hm, atI_nat (List.getElem?_eq_getElem hm)⟩
theorem Keep.at {z b : Addr} {H H' : Hp} {o : HO} (k : Keep z H H') (h : H b = some o) (n : b ≠ z) : H' b = some o := k b o h n
theorem StOk.neT {H : Hp} {z b : Addr} {xs : List V} (s : StOk H z) (h : H b = some (.tup xs)) : b ≠ z := let ⟨_, _, e, _⟩ := s; ne_of h e (fun q => nomatch q)
theorem Keep.tups {z : Addr} {H H' : Hp} (k : Keep z H H') (s : StOk H z) : ∀ b xs, H b = some (.tup xs) → H' b = some (.tup xs) := fun b xs e => k b _ e (s.neT e)
end Wy

namespace Wy
open PySem PySem.Spec PyProof.Rows L2
abbrev sWord : Stmt := topS 58
abbrev sSaid : Stmt := topS 59
/-- the classes of refusals: C i the i-th of the law's list; what isinstance tells of errors of some of them -/
structure Cl (K : PySem.W.Frag) (mg : Str → Option Value) (C : Nat → Addr) (cT cN cW : Addr) : Prop where
  g0 : mg "NoNet" = some (.ref (C 0))
  g1 : mg "NoPlace" = some (.ref (C 1))
  g2 : mg "NoRoad" = some (.ref (C 2))
  g3 : mg "NoMany" = some (.ref (C 3))
  g4 : mg "NoShut" = some (.ref (C 4))
  g5 : mg "NoCost" = some (.ref (C 5))
  g6 : mg "NoNumber" = some (.ref (C 6))
  g7 : mg "NoWay" = some (.ref (C 7))
  g8 : mg "NoWord" = some (.ref (C 8))
  g9 : mg "NoTime" = some (.ref (C 9))
  g10 : mg "NoChange" = some (.ref (C 10))
  g11 : mg "NoPaper" = some (.ref (C 11))
  g12 : mg "NoLine" = some (.ref (C 12))
  g13 : mg "NoText" = some (.ref (C 13))
  g14 : mg "NoAsk" = some (.ref (C 14))
  g15 : mg "Nothing" = some (.ref (C 15))
  g16 : mg "TooMany" = some (.ref (C 16))
  c0 : ExcC K (C 0)
  k0_0 : PySem.W.kitOne K (.ref (C 0)) (.ref (C 0)) = some true
  k0_1 : PySem.W.kitOne K (.ref (C 0)) (.ref (C 1)) = some false
  k0_2 : PySem.W.kitOne K (.ref (C 0)) (.ref (C 2)) = some false
  k0_3 : PySem.W.kitOne K (.ref (C 0)) (.ref (C 3)) = some false
  k0_4 : PySem.W.kitOne K (.ref (C 0)) (.ref (C 4)) = some false
  k0_5 : PySem.W.kitOne K (.ref (C 0)) (.ref (C 5)) = some false
  k0_6 : PySem.W.kitOne K (.ref (C 0)) (.ref (C 6)) = some false
  k0_7 : PySem.W.kitOne K (.ref (C 0)) (.ref (C 7)) = some false
  k0_8 : PySem.W.kitOne K (.ref (C 0)) (.ref (C 8)) = some false
  k0_9 : PySem.W.kitOne K (.ref (C 0)) (.ref (C 9)) = some false
  k0_10 : PySem.W.kitOne K (.ref (C 0)) (.ref (C 10)) = some false
  k0_11 : PySem.W.kitOne K (.ref (C 0)) (.ref (C 11)) = some false
  k0_12 : PySem.W.kitOne K (.ref (C 0)) (.ref (C 12)) = some false
  k0_13 : PySem.W.kitOne K (.ref (C 0)) (.ref (C 13)) = some false
  k0_14 : PySem.W.kitOne K (.ref (C 0)) (.ref (C 14)) = some false
  k0_15 : PySem.W.kitOne K (.ref (C 0)) (.ref (C 15)) = some false
  k0_16 : PySem.W.kitOne K (.ref (C 0)) (.ref (C 16)) = some false
  kT0 : PySem.W.kitOne K (.ref (C 0)) (.ref cT) = some true
  kN0 : PySem.W.kitOne K (.ref (C 0)) (.ref cN) = some false
  kV0 : PySem.W.kitOne K (.ref (C 0)) (.type "ValueError") = some true
  eW0 : PySem.W.exmOne K (.ref (C 0)) (.ref cW) = some true
  c1 : ExcC K (C 1)
  k1_0 : PySem.W.kitOne K (.ref (C 1)) (.ref (C 0)) = some false
  k1_1 : PySem.W.kitOne K (.ref (C 1)) (.ref (C 1)) = some true
  k1_2 : PySem.W.kitOne K (.ref (C 1)) (.ref (C 2)) = some false
  k1_3 : PySem.W.kitOne K (.ref (C 1)) (.ref (C 3)) = some false
  k1_4 : PySem.W.kitOne K (.ref (C 1)) (.ref (C 4)) = some false
  k1_5 : PySem.W.kitOne K (.ref (C 1)) (.ref (C 5)) = some false
  k1_6 : PySem.W.kitOne K (.ref (C 1)) (.ref (C 6)) = some false
  k1_7 : PySem.W.kitOne K (.ref (C 1)) (.ref (C 7)) = some false
  k1_8 : PySem.W.kitOne K (.ref (C 1)) (.ref (C 8)) = some false
  k1_9 : PySem.W.kitOne K (.ref (C 1)) (.ref (C 9)) = some false
  k1_10 : PySem.W.kitOne K (.ref (C 1)) (.ref (C 10)) = some false
  k1_11 : PySem.W.kitOne K (.ref (C 1)) (.ref (C 11)) = some false
  k1_12 : PySem.W.kitOne K (.ref (C 1)) (.ref (C 12)) = some false
  k1_13 : PySem.W.kitOne K (.ref (C 1)) (.ref (C 13)) = some false
  k1_14 : PySem.W.kitOne K (.ref (C 1)) (.ref (C 14)) = some false
  k1_15 : PySem.W.kitOne K (.ref (C 1)) (.ref (C 15)) = some false
  k1_16 : PySem.W.kitOne K (.ref (C 1)) (.ref (C 16)) = some false
  kT1 : PySem.W.kitOne K (.ref (C 1)) (.ref cT) = some true
  kN1 : PySem.W.kitOne K (.ref (C 1)) (.ref cN) = some false
  kV1 : PySem.W.kitOne K (.ref (C 1)) (.type "ValueError") = some true
  eW1 : PySem.W.exmOne K (.ref (C 1)) (.ref cW) = some true
  gT : mg "NoThing" = some (.ref cT)
  gN : mg "NotNow" = some (.ref cN)
  gW : mg "WayError" = some (.ref cW)
theorem scWord : FnScope ["_law_e", "_law_marks", "_law_words", "_law_at"] ["_law_e"] (defScope sWord) := ⟨rfl, rfl, rfl, by decide +kernel, rfl, by decide +kernel, by decide +kernel⟩
def wordOf (m : Nat) : Str := (["net", "place", "road", "many", "shut", "cost", "number", "way", "word", "time", "change", "paper", "line"] : List Str).getD m ""
def spWord (m : Nat) : Addr → List V → Hp → VK → Prop := fun a vs H Q => vs = [.ref a] ∧ ∀ H', Same H H' → Q (.str (wordOf m)) H'
section
variable {P : Program} {w : World} {K : PySem.W.Frag} {mg : Str → Option Value} {base : Heap} {C : Nat → Addr} {cT cN cW : Addr}
theorem ok_word0 {f : Addr} {fd : FuncData} {k : Nat} (Z : Cl K mg C cT cN cW) (mi : mg "isinstance" = none) (mV : mg "ValueError" = none) (D : Df K mg "_law_word" sWord ["_law_e"] f fd) : FnE P w K mg base (k + 1) f fd ["_law_e"] (C 0) (spWord 0) := by
  refine fnE_of D.F scWord (fun a vs H Q h => ?_) (fun cdv A outer s H vs Q p hr hz h => ?_)
  · obtain ⟨rfl, _⟩ := h
    rfl
  · obtain ⟨rfl, q⟩ := h
    have hp : ∀ {G : Value → Shared → Prop}, p ∈ ((L2H.cxH CX0 P w K mg base ["_law_e", "_law_marks", "_law_words", "_law_at"] "_law_word" (defScope sWord) f cdv A outer s H E0 p).wish G).pn := List.mem_singleton.mpr rfl
    have hu : (A.deeper (envOfC "_law_word" (defScope sWord) s.heap.objs.size f cdv)).units + 64 < cLine := by
      have := hr.un
      omega
    obtain ⟨a, oe⟩ := p
    refine ⟨_, (pss_cons (ps_set (i := 1) scWord.nd rfl (.inl rfl) (pe_lst (pa_cons (pe_callB (call_isP Z.c0 hp hz) (by rfl) mi (by decide +kernel) (pa_cons (pv 0) (pa_cons (pe_glob (v := .ref (C 0)) (by rfl) Z.g0 rfl) pa_nil))) (pa_cons (pe_callB (call_isP Z.c0 hp hz) (by rfl) mi (by decide +kernel) (pa_cons (pv 0) (pa_cons (pe_glob (v := .ref (C 1)) (by rfl) Z.g1 rfl) pa_nil))) (pa_cons (pe_callB (call_isP Z.c0 hp hz) (by rfl) mi (by decide +kernel) (pa_cons (pv 0) (pa_cons (pe_glob (v := .ref (C 2)) (by rfl) Z.g2 rfl) pa_nil))) (pa_cons (pe_callB (call_isP Z.c0 hp hz) (by rfl) mi (by decide +kernel) (pa_cons (pv 0) (pa_cons (pe_glob (v := .ref (C 3)) (by rfl) Z.g3 rfl) pa_nil))) pa_nil))))))
    (pss_cons (ps_set (i := 1) scWord.nd rfl (.inl rfl) (pe_op op_cat (pv 1) (pe_lst (pa_cons (pe_callB (call_isP Z.c0 hp hz) (by rfl) mi (by decide +kernel) (pa_cons (pv 0) (pa_cons (pe_glob (v := .ref (C 4)) (by rfl) Z.g4 rfl) pa_nil))) (pa_cons (pe_callB (call_isP Z.c0 hp hz) (by rfl) mi (by decide +kernel) (pa_cons (pv 0) (pa_cons (pe_glob (v := .ref (C 5)) (by rfl) Z.g5 rfl) pa_nil))) (pa_cons (pe_callB (call_isP Z.c0 hp hz) (by rfl) mi (by decide +kernel) (pa_cons (pv 0) (pa_cons (pe_glob (v := .ref (C 6)) (by rfl) Z.g6 rfl) pa_nil))) (pa_cons (pe_callB (call_isP Z.c0 hp hz) (by rfl) mi (by decide +kernel) (pa_cons (pv 0) (pa_cons (pe_glob (v := .ref (C 7)) (by rfl) Z.g7 rfl) pa_nil))) pa_nil)))))))
    (pss_cons (ps_set (i := 1) scWord.nd rfl (.inl rfl) (pe_op op_cat (pv 1) (pe_lst (pa_cons (pe_callB (call_isP Z.c0 hp hz) (by rfl) mi (by decide +kernel) (pa_cons (pv 0) (pa_cons (pe_glob (v := .ref (C 8)) (by rfl) Z.g8 rfl) pa_nil))) (pa_cons (pe_callB (call_isP Z.c0 hp hz) (by rfl) mi (by decide +kernel) (pa_cons (pv 0) (pa_cons (pe_glob (v := .ref (C 9)) (by rfl) Z.g9 rfl) pa_nil))) (pa_cons (pe_callB (call_isP Z.c0 hp hz) (by rfl) mi (by decide +kernel) (pa_cons (pv 0) (pa_cons (pe_glob (v := .ref (C 10)) (by rfl) Z.g10 rfl) pa_nil))) (pa_cons (pe_callB (call_isP Z.c0 hp hz) (by rfl) mi (by decide +kernel) (pa_cons (pv 0) (pa_cons (pe_glob (v := .ref (C 11)) (by rfl) Z.g11 rfl) pa_nil))) pa_nil)))))))
    (pss_cons (ps_set (i := 1) scWord.nd rfl (.inl rfl) (pe_op op_cat (pv 1) (pe_lst (pa_cons (pe_callB (call_isP Z.c0 hp hz) (by rfl) mi (by decide +kernel) (pa_cons (pv 0) (pa_cons (pe_glob (v := .ref (C 12)) (by rfl) Z.g12 rfl) pa_nil))) (pa_cons (pe_callB (call_isP Z.c0 hp hz) (by rfl) mi (by decide +kernel) (pa_cons (pv 0) (pa_cons (pe_glob (v := .ref (C 13)) (by rfl) Z.g13 rfl) pa_nil))) (pa_cons (pe_callB (call_isP Z.c0 hp hz) (by rfl) mi (by decide +kernel) (pa_cons (pv 0) (pa_cons (pe_glob (v := .ref (C 14)) (by rfl) Z.g14 rfl) pa_nil))) (pa_cons (pe_callB (call_isP Z.c0 hp hz) (by rfl) mi (by decide +kernel) (pa_cons (pv 0) (pa_cons (pe_glob (v := .ref (C 15)) (by rfl) Z.g15 rfl) pa_nil))) pa_nil)))))))
    (pss_cons (ps_expr (pe_bm PySem.F.plainAttrs_list PySem.F.slot_list_append PySem.F.type_list_append mt_append (pv 1) (pa_cons (pe_callB (call_isP Z.c0 hp hz) (by rfl) mi (by decide +kernel) (pa_cons (pv 0) (pa_cons (pe_glob (v := .ref (C 16)) (by rfl) Z.g16 rfl) pa_nil))) pa_nil)))
    (pss_cons (ps_set (i := 2) scWord.nd rfl (.inl rfl) (pe_lst (pa_cons pe_str (pa_cons pe_str (pa_cons pe_str (pa_cons pe_str (pa_cons pe_str (pa_cons pe_str (pa_cons pe_str (pa_cons pe_str (pa_cons pe_str (pa_cons pe_str (pa_cons pe_str (pa_cons pe_str pa_nil))))))))))))))
    (pss_cons (ps_set (i := 2) scWord.nd rfl (.inl rfl) (pe_op op_cat (pv 2) (pe_lst (pa_cons pe_str (pa_cons pe_str (pa_cons pe_str (pa_cons pe_str (pa_cons pe_str pa_nil))))))))
    (pss_cons (ps_if (PW.pt (pw_or (pt_cmpR op_ne (pe_bm PySem.F.plainAttrs_list PySem.F.slot_list_count PySem.F.type_list_count mt_countV (pv 1) (pa_cons pe_bl pa_nil)) pe_int (nomark _)) (pw_or1 (pt_not (pt_val (pe_callB (call_isP Z.c0 hp hz) (by rfl) mi (by decide +kernel) (pa_cons (pv 0) (pa_cons (pe_bltn (v := .ty "ValueError") (by rfl) mV (by decide +kernel) rfl) pa_nil)))))))) pss_never pss_nil)
    (pss_cons (ps_set (i := 3) scWord.nd rfl (.inl rfl) (pe_bm PySem.F.plainAttrs_list PySem.F.slot_list_index PySem.F.type_list_index mt_index (pv 1) (pa_cons pe_bl pa_nil)))
    (pss_one (ps_ret (pe_ifExp (pt_cmpR (op_eqD hu) (pe_lst (pa_cons (pe_callB (call_isP Z.c0 hp hz) (by rfl) mi (by decide +kernel) (pa_cons (pv 0) (pa_cons (pe_glob (v := .ref cT) (by rfl) Z.gT rfl) pa_nil))) (pa_cons (pe_callB (call_isP Z.c0 hp hz) (by rfl) mi (by decide +kernel) (pa_cons (pv 0) (pa_cons (pe_glob (v := .ref cN) (by rfl) Z.gN rfl) pa_nil))) pa_nil))) (pe_lst (pa_cons (pe_cmpR op_lt (pv 3) pe_int (nomark _)) (pa_cons (pe_cmpR op_gt (pv 3) pe_int (nomark _)) pa_nil))) (nomark _)) (pe_ix ix_list (pv 2) (pv 3) (fun _ _ => rfl)) pe_no)))))))))))), ?_⟩
    refine ⟨.ref a, rfl, .ref (C 0), .ref (C 0), _, rfl, (fun u r => r), Z.k0_0, .ref a, rfl, .ref (C 1), .ref (C 1), _, rfl, (fun u r => r), Z.k0_1, .ref a, rfl, .ref (C 2), .ref (C 2), _, rfl, (fun u r => r), Z.k0_2, .ref a, rfl, .ref (C 3), .ref (C 3), _, rfl, (fun u r => r), Z.k0_3, by show 4 ≤ sizeLine; decide, fun l1 n1 => ?_⟩
    refine ⟨.ref l1, rfl, .ref a, rfl, .ref (C 4), .ref (C 4), _, rfl, (fun u r => r), Z.k0_4, .ref a, rfl, .ref (C 5), .ref (C 5), _, rfl, (fun u r => r), Z.k0_5, .ref a, rfl, .ref (C 6), .ref (C 6), _, rfl, (fun u r => r), Z.k0_6, .ref a, rfl, .ref (C 7), .ref (C 7), _, rfl, (fun u r => r), Z.k0_7, by show 4 ≤ sizeLine; decide, fun l2 n2 => ⟨l1, l2, _, _, rfl, rfl, same_new n2 _ _ upd_same, upd_same, by show 8 ≤ sizeLine; decide, fun l3 n3 => ?_⟩⟩
    refine ⟨.ref l3, rfl, .ref a, rfl, .ref (C 8), .ref (C 8), _, rfl, (fun u r => r), Z.k0_8, .ref a, rfl, .ref (C 9), .ref (C 9), _, rfl, (fun u r => r), Z.k0_9, .ref a, rfl, .ref (C 10), .ref (C 10), _, rfl, (fun u r => r), Z.k0_10, .ref a, rfl, .ref (C 11), .ref (C 11), _, rfl, (fun u r => r), Z.k0_11, by show 4 ≤ sizeLine; decide, fun l4 n4 => ⟨l3, l4, _, _, rfl, rfl, same_new n4 _ _ upd_same, upd_same, by show 12 ≤ sizeLine; decide, fun l5 n5 => ?_⟩⟩
    refine ⟨.ref l5, rfl, .ref a, rfl, .ref (C 12), .ref (C 12), _, rfl, (fun u r => r), Z.k0_12, .ref a, rfl, .ref (C 13), .ref (C 13), _, rfl, (fun u r => r), Z.k0_13, .ref a, rfl, .ref (C 14), .ref (C 14), _, rfl, (fun u r => r), Z.k0_14, .ref a, rfl, .ref (C 15), .ref (C 15), _, rfl, (fun u r => r), Z.k0_15, by show 4 ≤ sizeLine; decide, fun l6 n6 => ⟨l5, l6, _, _, rfl, rfl, same_new n6 _ _ upd_same, upd_same, by show 16 ≤ sizeLine; decide, fun l7 n7 => ?_⟩⟩
    refine ⟨.ref l7, rfl, .inl ⟨rfl, _, SqL.of upd_same⟩, .ref a, rfl, .ref (C 16), .ref (C 16), _, rfl, (fun u r => r), Z.k0_16, l7, _, _, rfl, rfl, upd_same, by show 16 < sizeLine; decide, ?_⟩
    refine ⟨by show 12 ≤ sizeLine; decide, fun l8 n8 => ?_⟩
    refine ⟨.ref l8, rfl, by show 5 ≤ sizeLine; decide, fun l9 n9 => ⟨l8, l9, _, _, rfl, rfl, same_new n9 _ _ upd_same, upd_same, by show 17 ≤ sizeLine; decide, fun l10 n10 => ?_⟩⟩
    have e7 := same_new (o := .lst ([.str "net", .str "place", .str "road", .str "many", .str "shut", .str "cost", .str "number", .str "way", .str "word", .str "time", .str "change", .str "paper", .str "line", .str "text", .str "ask", .str "nothing", .str "too many"] : List V)) n10 _ _ (same_new (o := .lst ([.str "line", .str "text", .str "ask", .str "nothing", .str "too many"] : List V)) n9 _ _ (same_new (o := .lst ([.str "net", .str "place", .str "road", .str "many", .str "shut", .str "cost", .str "number", .str "way", .str "word", .str "time", .str "change", .str "paper"] : List V)) n8 _ _ upd_same))
    refine ⟨.ref l7, rfl, .inl ⟨rfl, _, SqL.of e7⟩, l7, _, .bl true, rfl, rfl, SqL.of e7, rfl, rfl, rfl, _, rfl, iteF ?_⟩
    refine ⟨.ref a, rfl, .ty "ValueError", .type "ValueError", _, rfl, (fun u r => r), Z.kV0, _, rfl, iteF ?_⟩
    refine ⟨.ref l7, rfl, .inl ⟨rfl, _, SqL.of e7⟩, l7, _, .bl true, 0, .bl true, rfl, rfl, SqL.of e7, rfl, rfl, rfl, rfl, fun j z' hm hz' => ?_, ?_⟩
    · match j, hm with
      | n + 0, h => exact absurd h (by omega)
    · refine ⟨.ref a, rfl, .ref cT, .ref cT, _, rfl, (fun u r => r), Z.kT0, .ref a, rfl, .ref cN, .ref cN, _, rfl, (fun u r => r), Z.kN0, by show 2 ≤ sizeLine; decide, fun l11 n11 => ?_⟩
      refine ⟨.int (0 : Nat), rfl, _, _, rfl, rfl, .int (0 : Nat), rfl, _, _, rfl, rfl, by show 2 ≤ sizeLine; decide, fun l12 n12 => ?_⟩
      refine ⟨.list [.bool true, .bool false], .list [.bool true, .bool false], .lst (SqL.of (same_new n12 _ _ upd_same)) (.cons (.bl true) (.cons (.bl false) .nil)), .lst (SqL.of upd_same) (.cons (.bl true) (.cons (.bl false) .nil)), by decide +kernel, by decide +kernel, _, rfl, ?_⟩
      rw [show PyData.eqv (.list [.bool true, .bool false]) (.list [.bool true, .bool false]) = true from by decide +kernel]
      refine iteT ?_
      refine ⟨.ref l10, rfl, .int (0 : Nat), rfl, l10, _, (0 : Nat), .str "net", rfl, rfl, SqL.of (same_new n12 _ _ (same_new n11 _ _ upd_same)), rfl, ?_⟩
      refine q _ (fun b o e => ?_)
      refine same_new n12 _ _ (same_new n11 _ _ (same_new n10 _ _ (same_new n9 _ _ (same_new n8 _ _ ?_))))
      exact (upd_ne (ne_of_none (same_new n6 _ _ (same_new n5 _ _ (same_new n4 _ _ (same_new n3 _ _ (same_new n2 _ _ (same_new n1 _ _ e)))))) n7)).trans (same_new n7 _ _ (same_new n6 _ _ (same_new n5 _ _ (same_new n4 _ _ (same_new n3 _ _ (same_new n2 _ _ (same_new n1 _ _ e)))))))
theorem ok_word1 {f : Addr} {fd : FuncData} {k : Nat} (Z : Cl K mg C cT cN cW) (mi : mg "isinstance" = none) (mV : mg "ValueError" = none) (D : Df K mg "_law_word" sWord ["_law_e"] f fd) : FnE P w K mg base (k + 1) f fd ["_law_e"] (C 1) (spWord 1) := by
  refine fnE_of D.F scWord (fun a vs H Q h => ?_) (fun cdv A outer s H vs Q p hr hz h => ?_)
  · obtain ⟨rfl, _⟩ := h
    rfl
  · obtain ⟨rfl, q⟩ := h
    have hp : ∀ {G : Value → Shared → Prop}, p ∈ ((L2H.cxH CX0 P w K mg base ["_law_e", "_law_marks", "_law_words", "_law_at"] "_law_word" (defScope sWord) f cdv A outer s H E0 p).wish G).pn := List.mem_singleton.mpr rfl
    have hu : (A.deeper (envOfC "_law_word" (defScope sWord) s.heap.objs.size f cdv)).units + 64 < cLine := by
      have := hr.un
      omega
    obtain ⟨a, oe⟩ := p
    refine ⟨_, (pss_cons (ps_set (i := 1) scWord.nd rfl (.inl rfl) (pe_lst (pa_cons (pe_callB (call_isP Z.c1 hp hz) (by rfl) mi (by decide +kernel) (pa_cons (pv 0) (pa_cons (pe_glob (v := .ref (C 0)) (by rfl) Z.g0 rfl) pa_nil))) (pa_cons (pe_callB (call_isP Z.c1 hp hz) (by rfl) mi (by decide +kernel) (pa_cons (pv 0) (pa_cons (pe_glob (v := .ref (C 1)) (by rfl) Z.g1 rfl) pa_nil))) (pa_cons (pe_callB (call_isP Z.c1 hp hz) (by rfl) mi (by decide +kernel) (pa_cons (pv 0) (pa_cons (pe_glob (v := .ref (C 2)) (by rfl) Z.g2 rfl) pa_nil))) (pa_cons (pe_callB (call_isP Z.c1 hp hz) (by rfl) mi (by decide +kernel) (pa_cons (pv 0) (pa_cons (pe_glob (v := .ref (C 3)) (by rfl) Z.g3 rfl) pa_nil))) pa_nil))))))
    (pss_cons (ps_set (i := 1) scWord.nd rfl (.inl rfl) (pe_op op_cat (pv 1) (pe_lst (pa_cons (pe_callB (call_isP Z.c1 hp hz) (by rfl) mi (by decide +kernel) (pa_cons (pv 0) (pa_cons (pe_glob (v := .ref (C 4)) (by rfl) Z.g4 rfl) pa_nil))) (pa_cons (pe_callB (call_isP Z.c1 hp hz) (by rfl) mi (by decide +kernel) (pa_cons (pv 0) (pa_cons (pe_glob (v := .ref (C 5)) (by rfl) Z.g5 rfl) pa_nil))) (pa_cons (pe_callB (call_isP Z.c1 hp hz) (by rfl) mi (by decide +kernel) (pa_cons (pv 0) (pa_cons (pe_glob (v := .ref (C 6)) (by rfl) Z.g6 rfl) pa_nil))) (pa_cons (pe_callB (call_isP Z.c1 hp hz) (by rfl) mi (by decide +kernel) (pa_cons (pv 0) (pa_cons (pe_glob (v := .ref (C 7)) (by rfl) Z.g7 rfl) pa_nil))) pa_nil)))))))
    (pss_cons (ps_set (i := 1) scWord.nd rfl (.inl rfl) (pe_op op_cat (pv 1) (pe_lst (pa_cons (pe_callB (call_isP Z.c1 hp hz) (by rfl) mi (by decide +kernel) (pa_cons (pv 0) (pa_cons (pe_glob (v := .ref (C 8)) (by rfl) Z.g8 rfl) pa_nil))) (pa_cons (pe_callB (call_isP Z.c1 hp hz) (by rfl) mi (by decide +kernel) (pa_cons (pv 0) (pa_cons (pe_glob (v := .ref (C 9)) (by rfl) Z.g9 rfl) pa_nil))) (pa_cons (pe_callB (call_isP Z.c1 hp hz) (by rfl) mi (by decide +kernel) (pa_cons (pv 0) (pa_cons (pe_glob (v := .ref (C 10)) (by rfl) Z.g10 rfl) pa_nil))) (pa_cons (pe_callB (call_isP Z.c1 hp hz) (by rfl) mi (by decide +kernel) (pa_cons (pv 0) (pa_cons (pe_glob (v := .ref (C 11)) (by rfl) Z.g11 rfl) pa_nil))) pa_nil)))))))
    (pss_cons (ps_set (i := 1) scWord.nd rfl (.inl rfl) (pe_op op_cat (pv 1) (pe_lst (pa_cons (pe_callB (call_isP Z.c1 hp hz) (by rfl) mi (by decide +kernel) (pa_cons (pv 0) (pa_cons (pe_glob (v := .ref (C 12)) (by rfl) Z.g12 rfl) pa_nil))) (pa_cons (pe_callB (call_isP Z.c1 hp hz) (by rfl) mi (by decide +kernel) (pa_cons (pv 0) (pa_cons (pe_glob (v := .ref (C 13)) (by rfl) Z.g13 rfl) pa_nil))) (pa_cons (pe_callB (call_isP Z.c1 hp hz) (by rfl) mi (by decide +kernel) (pa_cons (pv 0) (pa_cons (pe_glob (v := .ref (C 14)) (by rfl) Z.g14 rfl) pa_nil))) (pa_cons (pe_callB (call_isP Z.c1 hp hz) (by rfl) mi (by decide +kernel) (pa_cons (pv 0) (pa_cons (pe_glob (v := .ref (C 15)) (by rfl) Z.g15 rfl) pa_nil))) pa_nil)))))))
    (pss_cons (ps_expr (pe_bm PySem.F.plainAttrs_list PySem.F.slot_list_append PySem.F.type_list_append mt_append (pv 1) (pa_cons (pe_callB (call_isP Z.c1 hp hz) (by rfl) mi (by decide +kernel) (pa_cons (pv 0) (pa_cons (pe_glob (v := .ref (C 16)) (by rfl) Z.g16 rfl) pa_nil))) pa_nil)))
    (pss_cons (ps_set (i := 2) scWord.nd rfl (.inl rfl) (pe_lst (pa_cons pe_str (pa_cons pe_str (pa_cons pe_str (pa_cons pe_str (pa_cons pe_str (pa_cons pe_str (pa_cons pe_str (pa_cons pe_str (pa_cons pe_str (pa_cons pe_str (pa_cons pe_str (pa_cons pe_str pa_nil))))))))))))))
    (pss_cons (ps_set (i := 2) scWord.nd rfl (.inl rfl) (pe_op op_cat (pv 2) (pe_lst (pa_cons pe_str (pa_cons pe_str (pa_cons pe_str (pa_cons pe_str (pa_cons pe_str pa_nil))))))))
    (pss_cons (ps_if (PW.pt (pw_or (pt_cmpR op_ne (pe_bm PySem.F.plainAttrs_list PySem.F.slot_list_count PySem.F.type_list_count mt_countV (pv 1) (pa_cons pe_bl pa_nil)) pe_int (nomark _)) (pw_or1 (pt_not (pt_val (pe_callB (call_isP Z.c1 hp hz) (by rfl) mi (by decide +kernel) (pa_cons (pv 0) (pa_cons (pe_bltn (v := .ty "ValueError") (by rfl) mV (by decide +kernel) rfl) pa_nil)))))))) pss_never pss_nil)
    (pss_cons (ps_set (i := 3) scWord.nd rfl (.inl rfl) (pe_bm PySem.F.plainAttrs_list PySem.F.slot_list_index PySem.F.type_list_index mt_index (pv 1) (pa_cons pe_bl pa_nil)))
    (pss_one (ps_ret (pe_ifExp (pt_cmpR (op_eqD hu) (pe_lst (pa_cons (pe_callB (call_isP Z.c1 hp hz) (by rfl) mi (by decide +kernel) (pa_cons (pv 0) (pa_cons (pe_glob (v := .ref cT) (by rfl) Z.gT rfl) pa_nil))) (pa_cons (pe_callB (call_isP Z.c1 hp hz) (by rfl) mi (by decide +kernel) (pa_cons (pv 0) (pa_cons (pe_glob (v := .ref cN) (by rfl) Z.gN rfl) pa_nil))) pa_nil))) (pe_lst (pa_cons (pe_cmpR op_lt (pv 3) pe_int (nomark _)) (pa_cons (pe_cmpR op_gt (pv 3) pe_int (nomark _)) pa_nil))) (nomark _)) (pe_ix ix_list (pv 2) (pv 3) (fun _ _ => rfl)) pe_no)))))))))))), ?_⟩
    refine ⟨.ref a, rfl, .ref (C 0), .ref (C 0), _, rfl, (fun u r => r), Z.k1_0, .ref a, rfl, .ref (C 1), .ref (C 1), _, rfl, (fun u r => r), Z.k1_1, .ref a, rfl, .ref (C 2), .ref (C 2), _, rfl, (fun u r => r), Z.k1_2, .ref a, rfl, .ref (C 3), .ref (C 3), _, rfl, (fun u r => r), Z.k1_3, by show 4 ≤ sizeLine; decide, fun l1 n1 => ?_⟩
    refine ⟨.ref l1, rfl, .ref a, rfl, .ref (C 4), .ref (C 4), _, rfl, (fun u r => r), Z.k1_4, .ref a, rfl, .ref (C 5), .ref (C 5), _, rfl, (fun u r => r), Z.k1_5, .ref a, rfl, .ref (C 6), .ref (C 6), _, rfl, (fun u r => r), Z.k1_6, .ref a, rfl, .ref (C 7), .ref (C 7), _, rfl, (fun u r => r), Z.k1_7, by show 4 ≤ sizeLine; decide, fun l2 n2 => ⟨l1, l2, _, _, rfl, rfl, same_new n2 _ _ upd_same, upd_same, by show 8 ≤ sizeLine; decide, fun l3 n3 => ?_⟩⟩
    refine ⟨.ref l3, rfl, .ref a, rfl, .ref (C 8), .ref (C 8), _, rfl, (fun u r => r), Z.k1_8, .ref a, rfl, .ref (C 9), .ref (C 9), _, rfl, (fun u r => r), Z.k1_9, .ref a, rfl, .ref (C 10), .ref (C 10), _, rfl, (fun u r => r), Z.k1_10, .ref a, rfl, .ref (C 11), .ref (C 11), _, rfl, (fun u r => r), Z.k1_11, by show 4 ≤ sizeLine; decide, fun l4 n4 => ⟨l3, l4, _, _, rfl, rfl, same_new n4 _ _ upd_same, upd_same, by show 12 ≤ sizeLine; decide, fun l5 n5 => ?_⟩⟩
    refine ⟨.ref l5, rfl, .ref a, rfl, .ref (C 12), .ref (C 12), _, rfl, (fun u r => r), Z.k1_12, .ref a, rfl, .ref (C 13), .ref (C 13), _, rfl, (fun u r => r), Z.k1_13, .ref a, rfl, .ref (C 14), .ref (C 14), _, rfl, (fun u r => r), Z.k1_14, .ref a, rfl, .ref (C 15), .ref (C 15), _, rfl, (fun u r => r), Z.k1_15, by show 4 ≤ sizeLine; decide, fun l6 n6 => ⟨l5, l6, _, _, rfl, rfl, same_new n6 _ _ upd_same, upd_same, by show 16 ≤ sizeLine; decide, fun l7 n7 => ?_⟩⟩
    refine ⟨.ref l7, rfl, .inl ⟨rfl, _, SqL.of upd_same⟩, .ref a, rfl, .ref (C 16), .ref (C 16), _, rfl, (fun u r => r), Z.k1_16, l7, _, _, rfl, rfl, upd_same, by show 16 < sizeLine; decide, ?_⟩
    refine ⟨by show 12 ≤ sizeLine; decide, fun l8 n8 => ?_⟩
    refine ⟨.ref l8, rfl, by show 5 ≤ sizeLine; decide, fun l9 n9 => ⟨l8, l9, _, _, rfl, rfl, same_new n9 _ _ upd_same, upd_same, by show 17 ≤ sizeLine; decide, fun l10 n10 => ?_⟩⟩
    have e7 := same_new (o := .lst ([.str "net", .str "place", .str "road", .str "many", .str "shut", .str "cost", .str "number", .str "way", .str "word", .str "time", .str "change", .str "paper", .str "line", .str "text", .str "ask", .str "nothing", .str "too many"] : List V)) n10 _ _ (same_new (o := .lst ([.str "line", .str "text", .str "ask", .str "nothing", .str "too many"] : List V)) n9 _ _ (same_new (o := .lst ([.str "net", .str "place", .str "road", .str "many", .str "shut", .str "cost", .str "number", .str "way", .str "word", .str "time", .str "change", .str "paper"] : List V)) n8 _ _ upd_same))
    refine ⟨.ref l7, rfl, .inl ⟨rfl, _, SqL.of e7⟩, l7, _, .bl true, rfl, rfl, SqL.of e7, rfl, rfl, rfl, _, rfl, iteF ?_⟩
    refine ⟨.ref a, rfl, .ty "ValueError", .type "ValueError", _, rfl, (fun u r => r), Z.kV1, _, rfl, iteF ?_⟩
    refine ⟨.ref l7, rfl, .inl ⟨rfl, _, SqL.of e7⟩, l7, _, .bl true, 1, .bl true, rfl, rfl, SqL.of e7, rfl, rfl, rfl, rfl, fun j z' hm hz' => ?_, ?_⟩
    · match j, hm with
      | 0, _ => cases hz'; rfl
      | n + 1, h => exact absurd h (by omega)
    · refine ⟨.ref a, rfl, .ref cT, .ref cT, _, rfl, (fun u r => r), Z.kT1, .ref a, rfl, .ref cN, .ref cN, _, rfl, (fun u r => r), Z.kN1, by show 2 ≤ sizeLine; decide, fun l11 n11 => ?_⟩
      refine ⟨.int (1 : Nat), rfl, _, _, rfl, rfl, .int (1 : Nat), rfl, _, _, rfl, rfl, by show 2 ≤ sizeLine; decide, fun l12 n12 => ?_⟩
      refine ⟨.list [.bool true, .bool false], .list [.bool true, .bool false], .lst (SqL.of (same_new n12 _ _ upd_same)) (.cons (.bl true) (.cons (.bl false) .nil)), .lst (SqL.of upd_same) (.cons (.bl true) (.cons (.bl false) .nil)), by decide +kernel, by decide +kernel, _, rfl, ?_⟩
      rw [show PyData.eqv (.list [.bool true, .bool false]) (.list [.bool true, .bool false]) = true from by decide +kernel]
      refine iteT ?_
      refine ⟨.ref l10, rfl, .int (1 : Nat), rfl, l10, _, (1 : Nat), .str "place", rfl, rfl, SqL.of (same_new n12 _ _ (same_new n11 _ _ upd_same)), rfl, ?_⟩
      refine q _ (fun b o e => ?_)
      refine same_new n12 _ _ (same_new n11 _ _ (same_new n10 _ _ (same_new n9 _ _ (same_new n8 _ _ ?_))))
      exact (upd_ne (ne_of_none (same_new n6 _ _ (same_new n5 _ _ (same_new n4 _ _ (same_new n3 _ _ (same_new n2 _ _ (same_new n1 _ _ e)))))) n7)).trans (same_new n7 _ _ (same_new n6 _ _ (same_new n5 _ _ (same_new n4 _ _ (same_new n3 _ _ (same_new n2 _ _ (same_new n1 _ _ e)))))))
/-- the word of each of these classes -/
def Words (P : Program) (w : World) (K : PySem.W.Frag) (mg : Str → Option Value) (base : Heap) (k : Nat) (f : Addr) (fd : FuncData) (C : Nat → Addr) (cW : Addr) : Prop := ∀ m ∈ [0, 1], FnE P w K mg base k f fd ["_law_e"] (C m) (spWord m) ∧ PySem.W.exmOne K (.ref (C m)) (.ref cW) = some true
theorem ok_words {f : Addr} {fd : FuncData} {k : Nat} (Z : Cl K mg C cT cN cW) (mi : mg "isinstance" = none) (mV : mg "ValueError" = none) (D : Df K mg "_law_word" sWord ["_law_e"] f fd) : Words P w K mg base (k + 1) f fd C cW := fun m hm => by
  simp only [List.mem_cons, List.not_mem_nil, or_false] at hm
  rcases hm with rfl | rfl
  · exact ⟨ok_word0 Z mi mV D, Z.eW0⟩
  · exact ⟨ok_word1 Z mi mV D, Z.eW1⟩
theorem scSaid : FnScope ["_law_call", "_law_e"] ["_law_call"] (defScope sSaid) := ⟨rfl, rfl, rfl, by decide +kernel, rfl, by decide +kernel, by decide +kernel⟩
def TSaid (C : Nat → Addr) : (XK → Hp → VK → Prop) → Hp → VK → Prop := fun tl H Q =>
  tl (fun cls d H' => ∃ m, m ∈ [0, 1] ∧ cls = .ref (C m) ∧ d = none ∧ ∀ G t, Same H' G → G t = some (.tup [.str (wordOf m)]) → Q (.ref t) G) H fun v G => ([V.str "told", v] : List V).length ≤ sizeLine ∧ ∀ p, G p = none → Q (.ref p) (upd G p (.tup [.str "told", v]))
theorem said_gives {X : Cx} {g fW : Addr} {dW : FuncData} {cdg : Value} {q : Str} {k : Nat} (GW : Words X.prog X.w X.K X.mg X.base k fW dW C cW) (DW : Df X.K X.mg "_law_word" sWord ["_law_e"] fW dW) (hr : Room (k + 1) X.A)
    (gW : X.mg "WayError" = some (.ref cW)) : LamX.GivesTo X ["_law_call", "_law_e"] "_law_said" (defScope sSaid) g cdg (defBody sSaid) "_law_call" q (TSaid C) := by
  intro f c' s H Q tl act hc h
  have room : L2H.RoomH k (X.A.deeper (envOfC "_law_said" (defScope sSaid) s.heap.objs.size g cdg)) := L2H.roomH_of (hr.deeper _)
  refine ⟨_, pss_one (ps_try_as (X := (cxOf C8.CX0 X.prog X.w X.K X.mg X.base ["_law_call", "_law_e"] "_law_said" (defScope sSaid) g cdg X.A X.stack s H C8.E0).nox) (c := .ref cW) (i := 1)
      (tb := fun W E σ H => ∃ Ech : XK, (∀ cls d σ' H', Ech cls d H' → W cls d σ' H') ∧ σ[0]? = some (some (.ref f)) ∧ H c' = some (LamX.CodeO c' q) ∧ tl Ech H fun v G => ([V.str "told", v] : List V).length ≤ sizeLine ∧ ∀ p, G p = none → E.rt (.ref p) (upd G p (.tup [.str "told", v])))
      (ts := fun a cls d E σ H => ∃ m, m ∈ [0, 1] ∧ cls = .ref (C m) ∧ d = none ∧ (σ.length = 2 → ∃ v, σ[1]? = some (some v) ∧ spWord m a [v] H fun x G => ([x] : List V).length ≤ sizeLine ∧ ∀ p, G p = none → E.rt (.ref p) (upd G p (.tup [x])))) (Wout := fun _ _ _ _ => False)
      rfl rfl scSaid.nd rfl rfl ⟨rfl, by decide, .inl gW⟩ L2.takes0 (fun W pn xe tk _ => ?_) (fun a oe cls d pn hz hf => ?_)), ?_⟩
  · refine ⟨fun pins s' σ H' E I h' => ?_⟩
    obtain ⟨Ech, hW, h1, h2, h3⟩ := h'
    exact PSs.run (pss_one (ps_ret (pe_tup (pa_cons pe_str (pa_cons (act W pn xe Ech _ _ tk hW) pa_nil))))) pins s' σ H' E I ⟨h1, h2, h3⟩
  · refine ⟨fun pins s' σ H' E I h' => ?_⟩
    obtain ⟨m, hm, rfl, rfl, h⟩ := h'
    obtain ⟨v, hv, hw⟩ := h I.len
    exact PSs.run (pss_one (ps_ret (pe_tup (pa_cons (pe_callE (X := ((cxOf C8.CX0 X.prog X.w X.K X.mg X.base ["_law_call", "_law_e"] "_law_said" (defScope sSaid) g cdg X.A X.stack s H C8.E0).nox).suite a ((a, oe) :: pn)) (p := (a, oe)) (GW m hm).1 ⟨room.dp, room.un⟩ List.mem_cons_self ⟨hz, hf⟩ (by rfl) DW.g DW.F.kp DW.b (pa_cons (pv 1) pa_nil)) pa_nil)))) pins s' σ H' E I ⟨v, hv, hw⟩
  · refine ⟨_, fun cls d σ' H' hE => ?_, rfl, hc, h⟩
    obtain ⟨m, hm, rfl, rfl, hq⟩ := hE
    refine ⟨true, (GW m hm).2, fun _ a _ => ⟨m, hm, rfl, rfl, fun hl => ⟨.ref a, ?_, rfl, fun G sm => ⟨by show 1 ≤ sizeLine; decide, fun t nt => hq _ t (fun b o e => same_new nt _ _ (sm _ _ e)) upd_same⟩⟩⟩, fun z => nomatch z⟩
    rw [List.length_set] at hl
    rw [List.getElem?_set_self (by omega)]
end
end Wy

namespace Wy
open PySem PySem.Spec PyProof.Rows L2
def tCutE (t : TE) : TE := fun σ H Q => ∃ R : VK, t σ H R ∧ ∀ v H', R v H' → Q v H'
theorem pe_cut {X : Cx} {e : Expr} {t : TE} (h : PE X e t) : PE X e (tCutE t) := ⟨fun pins s σ H Q I hq => by
  obtain ⟨R, h1, h2⟩ := hq
  exact thn (h.run pins s σ H R I h1) fun u s1 ⟨v, G, J, r, q⟩ => ⟨v, G, J, r, h2 _ _ q⟩⟩
theorem other_ok {a b p : Int} (a0 : 0 ≤ a) (a1 : a < p) (b0 : 0 ≤ b) (b1 : b < p - 1) : 0 ≤ (a + 1 + b) % p ∧ (a + 1 + b) % p ≤ p - 1 ∧ a ≠ (a + 1 + b) % p := by
  by_cases h : a + 1 + b < p
  · rw [Int.emod_eq_of_lt (by omega) h]
    omega
  · have e : a + 1 + b = (a + 1 + b - p) + p := by omega
    rw [e, Int.add_emod_right, Int.emod_eq_of_lt (by omega) (by omega)]
    omega
/-- a number from lo to hi, drawn -/
def Got (z : Addr) (lo hi : Int) (H : Hp) : VK := fun v H' => ∃ a : Int, v = .int a ∧ lo ≤ a ∧ a ≤ hi ∧ Keep z H H' ∧ StOk H' z
def PvNet (z l : Addr) (m R p : Int) (H : Hp) (i : Nat) (σ : L2.St) (H' : Hp) : Prop :=
  ∃ y5 y6 y7 y8 y9 ts rs, σ = [some (.ref z), some (.int m), some (.int R), some (.int p), some (.ref l), y5, y6, y7, y8, y9] ∧ Keep z H H' ∧ StOk H' z ∧ H' l = some (.lst (ts.map V.ref)) ∧ RoadsAt H' ts rs ∧ rs.length = i ∧ ∀ q ∈ rs, RoadOk p q
section
variable {P : Program} {w : World} {K : PySem.W.Frag} {mg : Str → Option Value} {base : Heap}
theorem scNet : FnScope ["_law_state_here", "_law_most", "_law_far", "_law_places", "_law_roads", "_law_turn", "_law_one", "_law_other", "_law_cost", "_law_time"] ["_law_state_here", "_law_most", "_law_far"] (defScope sNet) := ⟨rfl, rfl, rfl, by decide +kernel, rfl, by decide +kernel, by decide +kernel⟩
def spNet : Sp := fun vs H Q _ => ∃ (z : Addr) (m R : Int), vs = [.ref z, .int m, .int R] ∧ StOk H z ∧ 0 < m ∧ m ≤ 10 ∧ 0 ≤ R ∧ R ≤ 30 ∧
  ∀ H' a r ts p rs, Keep z H H' → StOk H' z → NetAt H' a r ts p rs → NetOk p rs → p ≤ m → (rs.length : Int) ≤ R → Q (.ref a) H'
theorem ok_net {f fK : Addr} {fd dK : FuncData} {k : Nat} (DK : Df K mg "_law_take" sTake ["_law_state_here", "_law_far"] fK dK) (mR : mg "range" = none) (mT : mg "tuple" = none) (mI : mg "int" = none) (mm : mg "min" = none)
    (D : Df K mg "_law_net" sNet ["_law_state_here", "_law_most", "_law_far"] f fd) : FnOk P w K mg base CX0 (k + 2) f fd ["_law_state_here", "_law_most", "_law_far"] spNet := by
  have GK : FnOk P w K mg base CX0 (k + 1) fK dK ["_law_state_here", "_law_far"] spTake := ok_take DK
  refine D.F.ok scNet (fun vs H Q E h => ?_) (fun cdv A outer s H vs Q E hr h => ?_)
  · obtain ⟨_, _, _, rfl, _⟩ := h
    rfl
  · obtain ⟨z, m, R, rfl, st, hm0, hm1, hR0, hR1, q⟩ := h
    refine ⟨_, (pss_cons (ps_par (i := 3) (j := 4) (by rfl) scNet.nd rfl rfl (by decide) rfl rfl (pa_cons (pe_op op_add pe_int (pe_call GK hr (by rfl) DK.g DK.F.kp DK.b .nil pass0 (pa_cons (pv 0) (pa_cons (pv 1) pa_nil)))) (pa_cons (pe_lst pa_nil) pa_nil)) (by rfl))
    (pss_cons (ps_for PassesOwn.never rfl (pi_range1 (by rfl) mR (pa_cons (pe_cut (pe_op op_mul (pe_call GK hr (by rfl) DK.g DK.F.kp DK.b .nil pass0 (pa_cons (pv 0) (pa_cons (pe_op op_add (pv 2) pe_int) pa_nil))) (pe_callTy call_int1 (by rfl) mI (by decide +kernel) (pa_cons (pe_cmpR op_gt (pv 3) pe_int (nomark _)) pa_nil)))) pa_nil)) (pg_name (i := 5) scNet.nd rfl (.inl rfl))
    (pss_cons (ps_set (i := 6) scNet.nd rfl (.inl rfl) (pe_cut (pe_ix ix_list (pe_lst (pa_cons (pe_call GK hr (by rfl) DK.g DK.F.kp DK.b .nil pass0 (pa_cons (pv 0) (pa_cons (pv 3) pa_nil))) (pa_cons (pe_callB (call_min2 rfl) (by rfl) mm (by decide +kernel) (pa_cons (pv 5) (pa_cons (pe_op op_sub (pv 3) pe_int) pa_nil))) pa_nil))) (pe_call GK hr (by rfl) DK.g DK.F.kp DK.b .nil pass0 (pa_cons (pv 0) (pa_cons pe_int pa_nil))) (fun _ _ => rfl))))
    (pss_cons (ps_set (i := 7) scNet.nd rfl (.inl rfl) (pe_cut (pe_op op_mod (pe_op op_add (pe_op op_add (pv 6) pe_int) (pe_ix ix_list (pe_lst (pa_cons pe_int (pa_cons (pe_call GK hr (by rfl) DK.g DK.F.kp DK.b .nil pass0 (pa_cons (pv 0) (pa_cons (pe_op op_sub (pv 3) pe_int) pa_nil))) pa_nil))) (pe_call GK hr (by rfl) DK.g DK.F.kp DK.b .nil pass0 (pa_cons (pv 0) (pa_cons pe_int pa_nil))) (fun _ _ => rfl))) (pv 3))))
    (pss_cons (ps_set (i := 8) scNet.nd rfl (.inl rfl) (pe_cut (pe_ix ix_list (pe_lst (pa_cons (pe_op op_add pe_int (pe_call GK hr (by rfl) DK.g DK.F.kp DK.b .nil pass0 (pa_cons (pv 0) (pa_cons pe_int pa_nil)))) (pa_cons (pe_op op_add pe_int (pe_call GK hr (by rfl) DK.g DK.F.kp DK.b .nil pass0 (pa_cons (pv 0) (pa_cons pe_int pa_nil)))) (pa_cons pe_int pa_nil)))) (pe_call GK hr (by rfl) DK.g DK.F.kp DK.b .nil pass0 (pa_cons (pv 0) (pa_cons pe_int pa_nil))) (fun _ _ => rfl))))
    (pss_cons (ps_set (i := 9) scNet.nd rfl (.inl rfl) (pe_cut (pe_ix ix_list (pe_lst (pa_cons (pe_call GK hr (by rfl) DK.g DK.F.kp DK.b .nil pass0 (pa_cons (pv 0) (pa_cons pe_int pa_nil))) (pa_cons (pe_call GK hr (by rfl) DK.g DK.F.kp DK.b .nil pass0 (pa_cons (pv 0) (pa_cons pe_int pa_nil))) (pa_cons pe_int pa_nil)))) (pe_call GK hr (by rfl) DK.g DK.F.kp DK.b .nil pass0 (pa_cons (pv 0) (pa_cons pe_int pa_nil))) (fun _ _ => rfl))))
    (pss_one (ps_expr (pe_bm PySem.F.plainAttrs_list PySem.F.slot_list_append PySem.F.type_list_append mt_append (pv 4) (pa_cons (pe_tup (pa_cons (pv 6) (pa_cons (pv 7) (pa_cons (pv 8) (pa_cons (pv 9) pa_nil))))) pa_nil)))))))))
    (pss_one (ps_ret (pe_tup (pa_cons (pv 3) (pa_cons (pe_callTy call_tuple_of (by rfl) mT (by decide +kernel) (pa_cons (pv 4) pa_nil)) pa_nil))))))), ?_⟩
    -- places, roads
    refine ⟨.ref z, rfl, .int m, rfl, z, m, rfl, st, hm0, by omega, fun H1 n k1 st1 n0 n1 => ⟨1, n, rfl, rfl, Nat.zero_le _, fun l nl => ⟨_, _, rfl, ?_⟩⟩⟩
    have lz : l ≠ z := (st1.ne nl).symm
    have s2 : Same H1 (upd H1 l (.lst [])) := same_new nl
    have k2 : Keep z H (upd H1 l (.lst [])) := k1.trans (.of s2)
    -- range
    refine ⟨fun v H' => ∃ c : Int, v = .int c ∧ 0 ≤ c ∧ c ≤ R ∧ (1 < 1 + n ∨ c = 0) ∧ Keep z H H' ∧ StOk H' z ∧ H' l = some (.lst []), ?_, fun v H' hR => ?_⟩
    · refine ⟨.ref z, rfl, .int R, rfl, R, 1, rfl, rfl, z, _, rfl, st1.same s2, by omega, by omega, fun H3 c k3 st3 c0 c1 => ⟨.int (1 + n), rfl, _, _, rfl, rfl, .inr ⟨_, rfl, c, _, rfl, rfl, .inr ⟨by split <;> decide, by split <;> decide⟩, ?_⟩⟩⟩
      have el : H3 l = some (.lst []) := k3 _ _ upd_same lz
      by_cases hp : 1 < 1 + n
      · rw [if_pos (decide_eq_true hp)]
        exact ⟨c * 1, rfl, by omega, by omega, .inl hp, k2.trans k3, st3, el⟩
      · rw [if_neg (by rw [decide_eq_true_eq]; exact hp)]
        exact ⟨c * 0, rfl, by omega, by omega, .inr (Int.mul_zero c), k2.trans k3, st3, el⟩
    · obtain ⟨c, rfl, c0, c1, cp, k5, st5, el5⟩ := hR
      refine ⟨c, rfl, by omega, by omega, ?_⟩
      refine for_range (lo := 0) (n := c.toNat) (PvNet z l m R (1 + n) H) ⟨none, none, none, none, none, [], [], rfl, k5, st5, el5, .nil, rfl, fun _ h => nomatch h⟩ (fun i σ H' hi h => ?_) (fun σ H' h => ?_)
      · obtain ⟨y5, y6, y7, y8, y9, ts, rs, rfl, kH, stH, eL, rA, hlen, rOk⟩ := h
        have hp : 1 < 1 + n := by
          rcases cp with z | z
          · exact z
          · rw [z] at hi
            exact absurd hi (Nat.not_lt_zero _)
        -- one
        refine ⟨Got z 0 n H', ?_, fun v G1 hG1 => ?_⟩
        · refine ⟨.ref z, rfl, .int (1 + n), rfl, z, _, rfl, stH, by omega, by omega, fun Ha o1 ka sa u0 u1 => ⟨.int (0 + i), rfl, .int (1 + n), rfl, 1 + n, 1, rfl, rfl, _, _, rfl, by show 2 ≤ sizeLine; decide, fun d nd => ⟨.ref z, rfl, z, 2, rfl, sa.same (same_new nd), by decide, by decide, fun Hb o2 kb sb e0 e1 => ?_⟩⟩⟩
          have dz : d ≠ z := (sa.ne nd).symm
          obtain ⟨v, hv, ev⟩ := pick (xs := [V.int o1, V.int (if 1 + n - 1 < 0 + (i : Int) then 1 + n - 1 else 0 + i)]) e0 e1
          refine ⟨d, _, o2, v, rfl, rfl, SqL.of (kb _ _ upd_same dz), ev, ?_⟩
          have kk := ka.trans ((Keep.new nd).trans kb)
          simp only [List.mem_cons, List.not_mem_nil, or_false] at hv
          rcases hv with rfl | rfl
          · exact ⟨o1, rfl, u0, by omega, kk, sb⟩
          · exact ⟨_, rfl, by split <;> omega, by split <;> omega, kk, sb⟩
        obtain ⟨a, rfl, a0, a1, ka, sa⟩ := hG1
        -- other
        refine ⟨fun v G => ∃ b : Int, v = .int b ∧ 0 ≤ b ∧ b ≤ n ∧ a ≠ b ∧ Keep z G1 G ∧ StOk G z, ?_, fun v G2 hG2 => ?_⟩
        · refine ⟨.int a, rfl, a, 1, rfl, rfl, .ref z, rfl, .int (1 + n), rfl, 1 + n, 1, rfl, rfl, z, _, rfl, sa, by omega, by omega, fun Hb o2 kb sb v0 v1 => ⟨by show 2 ≤ sizeLine; decide, fun d nd => ⟨.ref z, rfl, z, 2, rfl, sb.same (same_new nd), by decide, by decide, fun Hc o3 kc sc e0 e1 => ?_⟩⟩⟩
          have dz : d ≠ z := (sb.ne nd).symm
          obtain ⟨v, hv, ev⟩ := pick (xs := [V.int 0, V.int o2]) e0 e1
          have kk := kb.trans ((Keep.new nd).trans kc)
          obtain ⟨b, rfl, b0, b1⟩ : ∃ b, v = .int b ∧ 0 ≤ b ∧ b < 1 + n - 1 := by
            simp only [List.mem_cons, List.not_mem_nil, or_false] at hv
            rcases hv with rfl | rfl
            · exact ⟨0, rfl, by decide, by omega⟩
            · exact ⟨o2, rfl, v0, v1⟩
          obtain ⟨x0, x1, x2⟩ := other_ok (p := 1 + n) a0 (by omega) b0 b1
          exact ⟨d, _, o3, .int b, rfl, rfl, SqL.of (kc _ _ upd_same dz), ev, _, b, rfl, rfl, .int (1 + n), rfl, _, 1 + n, rfl, rfl, by omega, _, rfl, x0, by omega, x2, kk, sc⟩
        obtain ⟨b, rfl, b0, b1, ab, kb, sb⟩ := hG2
        -- cost
        refine ⟨Got z 1 99 G2, ?_, fun v G3 hG3 => ?_⟩
        · refine ⟨.ref z, rfl, z, 4, rfl, sb, by decide, by decide, fun Ha o1 ka' sa' u0 u1 => ⟨1, o1, rfl, rfl, .ref z, rfl, z, 99, rfl, sa', by decide, by decide, fun Hb o2 kb' sb' v0 v1 => ⟨1, o2, rfl, rfl, by show 3 ≤ sizeLine; decide, fun d nd => ⟨.ref z, rfl, z, 3, rfl, sb'.same (same_new nd), by decide, by decide, fun Hc o3 kc sc e0 e1 => ?_⟩⟩⟩⟩
          have dz : d ≠ z := (sb'.ne nd).symm
          obtain ⟨v, hv, ev⟩ := pick (xs := [V.int (1 + o1), V.int (1 + o2), V.int 1]) e0 e1
          refine ⟨d, _, o3, v, rfl, rfl, SqL.of (kc _ _ upd_same dz), ev, ?_⟩
          have kk := ka'.trans (kb'.trans ((Keep.new nd).trans kc))
          simp only [List.mem_cons, List.not_mem_nil, or_false] at hv
          rcases hv with rfl | rfl | rfl
          · exact ⟨_, rfl, by omega, by omega, kk, sc⟩
          · exact ⟨_, rfl, by omega, by omega, kk, sc⟩
          · exact ⟨_, rfl, by decide, by decide, kk, sc⟩
        obtain ⟨x, rfl, x0, x1, kx, sx⟩ := hG3
        -- time
        refine ⟨Got z 0 99 G3, ?_, fun v G4 hG4 => ?_⟩
        · refine ⟨.ref z, rfl, z, 4, rfl, sx, by decide, by decide, fun Ha o1 ka' sa' u0 u1 => ⟨.ref z, rfl, z, 100, rfl, sa', by decide, by decide, fun Hb o2 kb' sb' v0 v1 => ⟨by show 3 ≤ sizeLine; decide, fun d nd => ⟨.ref z, rfl, z, 3, rfl, sb'.same (same_new nd), by decide, by decide, fun Hc o3 kc sc e0 e1 => ?_⟩⟩⟩⟩
          have dz : d ≠ z := (sb'.ne nd).symm
          obtain ⟨v, hv, ev⟩ := pick (xs := [V.int o1, V.int o2, V.int 0]) e0 e1
          refine ⟨d, _, o3, v, rfl, rfl, SqL.of (kc _ _ upd_same dz), ev, ?_⟩
          have kk := ka'.trans (kb'.trans ((Keep.new nd).trans kc))
          simp only [List.mem_cons, List.not_mem_nil, or_false] at hv
          rcases hv with rfl | rfl | rfl
          · exact ⟨_, rfl, by omega, by omega, kk, sc⟩
          · exact ⟨_, rfl, by omega, by omega, kk, sc⟩
          · exact ⟨_, rfl, by decide, by decide, kk, sc⟩
        obtain ⟨y, rfl, y0, y1, ky, sy⟩ := hG4
        have kdf : Keep z H' G4 := ka.trans (kb.trans (kx.trans ky))
        have eF := kdf _ _ eL lz
        have rF : RoadsAt G4 ts rs := rA.keep (kdf.tups stH)
        refine ⟨.ref l, rfl, .inl ⟨rfl, _, SqL.of eF⟩, .int a, rfl, .int b, rfl, .int x, rfl, .int y, rfl, by show 4 ≤ sizeLine; decide, fun T nT => ?_⟩
        have sT : Same G4 (upd G4 T (.tup [.int a, .int b, .int x, .int y])) := same_new nT
        have lT : l ≠ T := ne_of_none eF nT
        have ll : (ts.map V.ref).length < sizeLine := by
          rw [List.length_map, rF.len, hlen]
          exact small1000 (by omega)
        refine ⟨l, _, _, rfl, rfl, sT _ _ eF, ll, ?_⟩
        refine ⟨some (.int (0 + i)), some (.int a), some (.int b), some (.int x), some (.int y), ts ++ [T], rs ++ [⟨a, b, x, y⟩], rfl, fun c u hc hz => ?_, ?_, ?_, ?_, ?_, fun q hq => ?_⟩
        · by_cases hcl : c = l
          · exact absurd (k1 _ _ hc hz) (by rw [hcl, nl]; exact fun z => nomatch z)
          · rw [upd_ne hcl]
            exact sT _ _ (kdf _ _ (kH _ _ hc hz) hz)
        · obtain ⟨xx, yy, e1, e2⟩ := sy.same sT
          exact ⟨xx, yy, by rw [upd_ne lz.symm]; exact e1, e2⟩
        · rw [upd_same, List.map_append]
          rfl
        · refine laid_snoc ((rF.keep fun b xs h => sT _ _ h).keep fun b xs h => ?_) ?_
          · rw [upd_ne (ne_of h (sT _ _ eF) (fun q => nomatch q))]
            exact h
          · rw [upd_ne lT.symm]
            exact upd_same
        · rw [List.length_append, hlen]
          rfl
        · rcases List.mem_append.mp hq with h | h
          · exact rOk q h
          · rw [List.mem_singleton.mp h]
            exact ⟨a0, by show a ≤ 1 + n - 1; omega, b0, by show b ≤ 1 + n - 1; omega, ab, x0, x1, y0, y1⟩
      · obtain ⟨y5, y6, y7, y8, y9, ts, rs, rfl, kH, stH, eL, rA, hlen, rOk⟩ := h
        refine ⟨.int (1 + n), rfl, .ref l, rfl, l, _, rfl, .inl ⟨SqL.of eL, fun r nr => ⟨by show 2 ≤ sizeLine; decide, fun a na => ?_⟩⟩⟩
        have s1 := same_new (H := H') (o := .tup (ts.map V.ref)) nr
        have s2 := same_new (H := upd H' r (.tup (ts.map V.ref))) (o := .tup [.int (1 + n), .ref r]) na
        exact q _ a r ts (1 + n) rs ((kH.trans (.of s1)).trans (.of s2)) ((stH.same s1).same s2) ⟨upd_same, s2 _ _ upd_same, rA.keep fun b xs h => s2 _ _ (s1 _ _ h)⟩ ⟨by omega, by omega, by omega, rOk⟩ (by omega) (by omega)
end
end Wy

namespace Wy
open PySem PySem.Spec PyProof.Rows L2 LamX NdefX
/-! ### lambdas that are kept -/
/-- at f lies a lambda: words, cells and code object in F (whose suite is not looked at), its expression b -/
def LamO (f : Addr) (F : NF) (b : Expr) : HO := .ext fun h => ∃ pm ctv : Value, h.get? f = some (PySem.W.kla_obj F.name F.qual F.params b F.scope F.cl pm F.c ctv)
theorem lamO_tbl {f : Addr} {F : NF} {b : Expr} (ps : Array Value) : LamO f F b ≠ .tbl ps := by
  intro z
  simp [LamO] at z
theorem lamO_at {P : Program} {w : World} {H : Hp} {h : Heap} {f : Addr} {F : NF} {b : Expr} (hok : HOk P w H h) (e : H f = some (LamO f F b)) : ∃ pm ctv : Value, h.get? f = some (PySem.W.kla_obj F.name F.qual F.params b F.scope F.cl pm F.c ctv) := (hok f _ e).1
/-- the tables with one code object more -/
theorem tabs_more {T : List (Addr × Str)} {H : Hp} {P c' : Addr} {q : Str} {ps : Array Value} {pos : Pos} (hT : Tabs T H) (hP : H P = some (.tbl ps)) (nC : H c' = none) (hm : (P, q) ∈ T) (hu : ∀ p ∈ T, p.1 = P → p.2 = q) :
    ExtN H (upd (upd H P (.tbl (ps ++ #[rawInt pos.line, rawInt pos.col, .ref c']))) c' (CodeO c' q)) ∧ Tabs T (upd (upd H P (.tbl (ps ++ #[rawInt pos.line, rawInt pos.col, .ref c']))) c' (CodeO c' q)) := by
  have ext : ExtN H (upd (upd H P (.tbl (ps ++ #[rawInt pos.line, rawInt pos.col, .ref c']))) c' (CodeO c' q)) := fun b o e n => by
    have n1 : b ≠ c' := ne_of_none e nC
    have n2 : b ≠ P := fun z => by
      subst z
      rw [hP] at e
      exact n ps (Option.some.inj e).symm
    rw [upd_ne n1, upd_ne n2, e]
  refine ⟨ext, fun p hp => ?_⟩
  obtain ⟨qs, a1, a2, a3⟩ := hT p hp
  by_cases hb : p.1 = P
  · have eq : p.2 = q := hu p hp hb
    rw [hb, hP] at a1
    cases a1
    rw [hb, eq]
    refine ⟨ps ++ #[rawInt pos.line, rawInt pos.col, .ref c'], (upd_ne (ne_of_none hP nC)).trans upd_same, ?_, fun p' cv hcv => ?_⟩
    · rw [show (ps ++ #[rawInt pos.line, rawInt pos.col, .ref c']).toList = ps.toList ++ [rawInt pos.line, rawInt pos.col, .ref c'] from by simp]
      exact PySem.TriplesOk_snoc _ _ _ _ a2
    · rw [show (ps ++ #[rawInt pos.line, rawInt pos.col, .ref c']).toList = ps.toList ++ [rawInt pos.line, rawInt pos.col, .ref c'] from by simp] at hcv
      rcases among_app _ a2 hcv with z | z
      · obtain ⟨c0, e1, e2⟩ := a3 p' cv z
        rw [eq] at e2
        exact ⟨c0, e1, ext _ _ e2 codeO_ne⟩
      · exact ⟨c', z, upd_same⟩
  · refine ⟨qs, (upd_ne (ne_of_none a1 nC)).trans ((upd_ne hb).trans a1), a2, fun p' cv hcv => ?_⟩
    obtain ⟨c0, e1, e2⟩ := a3 p' cv hcv
    exact ⟨c0, e1, ext _ _ e2 codeO_ne⟩
section
variable {X : Cx} {pins : List (Addr × Obj)} {σ : L2.St} {H : Hp} {s : Shared}
theorem inv_lam {F : NF} {b : Expr} {pm ctv : Value} {t' : Nat} (I : Inv X pins σ H s) :
    Inv X pins σ (upd H s.heap.objs.size (LamO s.heap.objs.size F b)) { s with heap := s.heap.push (PySem.W.kla_obj F.name F.qual F.params b F.scope F.cl pm F.c ctv), toks := t' } := by
  have at_ : (s.heap.push (PySem.W.kla_obj F.name F.qual F.params b F.scope F.cl pm F.c ctv)).get? s.heap.objs.size = some (PySem.W.kla_obj F.name F.qual F.params b F.scope F.cl pm F.c ctv) := Heap.get?_push_size _ rfl
  exact I.laid (a := s.heap.objs.size) (fun _ _ e => Heap.get?_push_of_some _ e) (Nat.le_refl _) ⟨⟨pm, ctv, at_⟩, ⟨_, at_⟩, fun h1 h2 ⟨p, t, z⟩ st => ⟨p, t, st _ z⟩⟩
/-- a lambda of the running frame, by its code object -/
abbrev lamF (X : Cx) (params : Arguments) (scope : Scope) (c' : Addr) : NF := ⟨"<lambda>", X.env.qual ++ "<lambda>", params, [], scope, cloFrom X.env.cells scope.names [], c'⟩
/-- the reading of a lambda that is kept -/
def tKeep (T : List (Addr × Str)) (X : Cx) (params : Arguments) (scope : Scope) (b : Expr) : TE := fun σ H Q => Tabs T H ∧ ∀ (f c' : Addr) (H1 : Hp), ExtN H H1 → (∀ a, H1 a = none → H a = none) → Tabs T H1 → H f = none → H1 f = some (LamO f (lamF X params scope c') b) → H1 c' = some (CodeO c' (X.env.qual ++ "<lambda>")) → Q (.ref f) H1
theorem pe_lambda {T : List (Addr × Str)} {c P : Addr} {params : Arguments} {body : Expr} {scope : Scope} {pos : Pos} (TB : TabB X.base X.mg c P) (hcode : X.env.code = .ref c) (hm : (P, X.env.qual ++ "<lambda>") ∈ T) (hu : ∀ p ∈ T, p.1 = P → p.2 = X.env.qual ++ "<lambda>")
    (hdef : defaultsOf params X.env = ([], [])) (hfree : ∀ y ∈ scope.names, y.2 = .free → X.env.scope.names.lookup y.1 = some .cell ∨ X.env.scope.names.lookup y.1 = some .free) : PE X (.Lambda params body scope pos) (tKeep T X params scope body) := by
  refine ⟨fun pins s σ H Q I h => ?_⟩
  obtain ⟨hT, h⟩ := h
  obtain ⟨ps, hP, ht, ha⟩ := hT _ hm
  have hP : H P = some (.tbl ps) := hP
  have has : ∀ y ∈ scope.names, y.2 = .free → ∃ c, X.env.cells.lookup y.1 = some c := fun y hy e => I.ok.has _ (hfree y hy e)
  have bP : s.heap.BuiltinsAt X.mg P := TB.bm.keeps I.bk
  have lies : s.heap.get? P = some { cls := .none, data := .fields ps } := I.hok P _ hP
  refine PySem.W.kla_eval hdef ?_
  cases hc : codeAmong pos ps.toList with
  | none =>
    refine PySem.W.kla_makeFunction (mg := X.mg) (c := c) (P := P) (ps := ps) (closure_ok has) I.ok.glob (I.mod.glob.keeps I.bk) hcode (TB.code.keeps I.bk) lies ht hc TB.gP bP fun c' ctv h' tk hx hge hlt hrec htb => ?_
    obtain ⟨c2, oc, vs, t, e2, hoc, hd, hv⟩ := hrec
    cases e2
    have nC : H c' = none := I.hok.fresh hge
    have J := inv_table (t' := tk) (more := #[rawInt pos.line, rawInt pos.col, .ref c']) (h' := h') (q := X.env.qual ++ "<lambda>") I hP hx htb hge ⟨oc, vs, t, hoc, hd, hv⟩
    obtain ⟨x1, x2⟩ := tabs_more (pos := pos) hT hP nC hm hu
    have nF := J.hok.fresh (Nat.le_refl _)
    have J2 := inv_lam (F := lamF X params scope c') (b := body) (pm := (X.mg "__name__").getD .none) (ctv := ctv) (t' := tk) J
    refine ⟨.ref h'.objs.size, _, J2, rfl, h h'.objs.size c' _ (fun a o e n => ?_) (fun a e => upd_none (upd_none (upd_none e))) (x2.ext fun a o e => (upd_ne (ne_of_none e nF)).trans e) (I.hok.fresh (Nat.le_trans hge (Nat.le_of_lt hlt))) upd_same ((upd_ne (Nat.ne_of_lt hlt)).trans upd_same)⟩
    exact (upd_ne (ne_of_none (x1 a o e n) nF)).trans (x1 a o e n)
  | some cv =>
    obtain ⟨c', e, hco⟩ := ha pos cv hc
    subst e
    refine PySem.W.kla_makeFunctionHit (mg := X.mg) (c := c) (P := P) (ps := ps) (closure_ok has) I.ok.glob (I.mod.glob.keeps I.bk) hcode (TB.code.keeps I.bk) lies ht hc bP fun ctv h' tk hx hsz => ?_
    have J : Inv X pins σ H { s with heap := h', toks := tk } := I.kept hx
    have nF : H h'.objs.size = none := J.hok.fresh (Nat.le_refl _)
    have J2 := inv_lam (F := lamF X params scope c') (b := body) (pm := (X.mg "__name__").getD .none) (ctv := ctv) (t' := tk) J
    have up : ∀ a o, H a = some o → upd H h'.objs.size (LamO h'.objs.size (lamF X params scope c') body) a = some o := fun a o e => (upd_ne (ne_of_none e nF)).trans e
    exact ⟨.ref h'.objs.size, _, J2, rfl, h h'.objs.size c' _ (fun a o e _ => up a o e) (fun a e => upd_none e) (hT.ext up) nF upd_same (up _ _ hco)⟩
end
/-! ### its call -/
/-- what a kept lambda promises, whoever calls it -/
structure LOk (P : Program) (w : World) (K : PySem.W.Frag) (mg : Str → Option Value) (base : Heap) (CX : CXT) (k : Nat) (f : Addr) (F : NF) (b : Expr) (n : Nat) (sp : Sp) : Prop where
  len : ∀ vs H Q E, sp vs H Q E → vs.length = n
  run : ∀ (A : Around) (outer : List Env) (s : Shared) (H : Hp) (us : List Value) (vs : List V) (Q : VK) (E : XK), Room k A → Env0 P w K mg base A outer s H → H f = some (LamO f F b) → H F.c = some (CodeO F.c F.qual) → Vals vs us → sp vs H Q E →
    codeAny (model P w) A (.call (.ref f) ⟨us, []⟩) (CR CX outer P w H s Q E) s
theorem cells_nil {cl : List (Str × Addr)} {h : Heap} {H : Hp} (e : cl = []) : CellsAt cl [] [] h H := by
  subst e
  refine ⟨rfl, fun y c z => ?_, fun x y c z _ => ?_, fun i y z => ?_⟩ <;> simp at z
/-- a lambda with parameters that captures nothing, by its expression -/
theorem lok_of {CX : CXT} {P : Program} {w : World} {K : PySem.W.Frag} {mg : Str → Option Value} {base : Heap} {N ps : List Str} {F : NF} {f : Addr} {b : Expr} {k : Nat} {sp : Sp} (S : NScope N ps [] F.scope) (hcl : F.cl = [])
    (hb : ∀ (pm ctv : Value) (us : List Value), us.length = ps.length → bindArgs (PySem.W.kla_fn F.name F.qual F.params b F.scope F.cl pm (.ref F.c) ctv) ⟨us, []⟩ = pure (ps.zip us)) (len : ∀ vs H Q E, sp vs H Q E → vs.length = ps.length)
    (hbody : ∀ (A : Around) (outer : List Env) (s : Shared) (H : Hp) (vs : List V) (Q : VK) (E : XK), Room k (A.deeper (envF F f s.heap.objs.size)) → sp vs H Q E → ∃ t, PE (ncx CX P w K mg base N F f A outer s H E) b t ∧ t (startF N vs []) H Q) :
    LOk P w K mg base CX (k + 1) f F b ps.length sp := by
  refine ⟨len, fun A outer s H us vs Q E hr e0 hf hc r hsp => ?_⟩
  have hl := len _ _ _ _ hsp
  have lim : s.heap.NoLimit := e0.mod.nolimit.keeps fun a o e => (e0.bs a o e).1
  obtain ⟨pm, ctv, ho⟩ := lamO_at e0.hok hf
  refine PySem.W.kla_callFunE hr.depth ho rfl S.co S.gen rfl (codeO_at e0.hok hc) ?_
  rw [hb pm ctv us (r.length.symm.trans hl)]
  refine wpAny_pure (wpAny_newFunctionEnv S.nocell (fun ⟨n, _⟩ hy => S.par n (List.of_mem_zip hy).1) (fun h₁ hns hsb => ⟨lim.fresh _ hsb, ?_⟩) S.kind)
  have kp : ∀ a o, s.heap.get? a = some o → h₁.get? a = some o := fun a o e => hsb.extBut a o (Nat.ne_of_lt (Heap.lt_size e)) (Heap.get?_push_of_some _ e)
  obtain ⟨t, ht, hq⟩ := hbody A outer s H vs Q E (hr.deeper _) hsp
  have I : Inv (ncx CX P w K mg base N F f A outer s H E) [] (startF N vs []) H { s with heap := h₁, toks := s.toks + (ps.zip us).length } := inv_startN S hr.hd e0 hl r (cells_nil hcl) hns kp
  show codeAny _ _ (.expr b (envF F f s.heap.objs.size)) _ _
  refine PySem.W.kla_codeExpr (wpAny_mono (ht.run [] _ _ H Q I hq) (fun v s' hs => ?_) fun e s' hs => hs)
  obtain ⟨v', H', J, rv, q⟩ := hs
  exact ⟨v', H', J.os, J.bare, J.base, J.hok, rv, q⟩
/-- x(..), x a name that holds a kept lambda -/
def tCallV (P : Program) (w : World) (K : PySem.W.Frag) (mg : Str → Option Value) (base : Heap) (CX : CXT) (k i n : Nat) (E : XK) (t : TA) : TE := fun σ H Q => ∃ (f : Addr) (F : NF) (b : Expr) (sp : Sp), LOk P w K mg base CX k f F b n sp ∧ σ[i]? = some (some (.ref f)) ∧ H f = some (LamO f F b) ∧
  t σ H fun vs H1 => H1 f = some (LamO f F b) ∧ H1 F.c = some (CodeO F.c F.qual) ∧ sp vs H1 Q E
section
variable {X : Cx} {CX : CXT} {i k n : Nat} {x : Str} {E : XK} {t : TA} {e : Expr} {es : List Expr} {p pos : Pos}
theorem lam_fnAt {pins : List (Addr × Obj)} {σ : L2.St} {H : Hp} {s : Shared} {f : Addr} {F : NF} {b : Expr} (I : Inv X pins σ H s) (e : H f = some (LamO f F b)) : PySem.W.FnAt f s.heap := by
  obtain ⟨pm, ctv, ho⟩ := lamO_at I.hok e
  exact ⟨_, _, _, _, ho⟩
theorem pe_callV {P : Program} {w : World} {K : PySem.W.Frag} {mg : Str → Option Value} {base : Heap} (hX : X.prog = P ∧ X.w = w ∧ X.K = K ∧ X.mg = mg ∧ X.base = base) (hr : Room k X.A) (hx : Passes CX X E) (hN : X.N[i]? = some x) (hv : Vis X.env.scope x) (ha : PA X (e :: es) t) (hd : (x == ("__debug__" : Str)) = false := by decide) (hcd : (x == ("__classdict__" : Str)) = false := by decide)
    (he : starEach (e :: es) X.env = (false, eval e X.env) :: starEach es X.env := by rfl) (hpl : (backTo pos (starEach es X.env)).any (·.1) = false := by rfl) : PE X (.Call (.Name x p) (e :: es) [] pos) (tCallV P w K mg base CX k i n E t) := by
  obtain ⟨rfl, rfl, rfl, rfl, rfl⟩ := hX
  refine ⟨fun pins s σ H Q I h => ?_⟩
  obtain ⟨f, F, b, sp, L, hs, hf, ht⟩ := h
  refine wpAny_Call_Name_kw (thn ((pe_var (pos := p) hN hv hd hcd).run pins s σ H (fun v G => v = .ref f ∧ G = H) I ⟨.ref f, hs, rfl, rfl⟩) fun u s1 ⟨v, G, I1, r1, q1⟩ => ?_)
  obtain ⟨ev, eG⟩ := q1
  subst ev eG
  obtain rfl : u = Value.ref f := r1
  refine PySem.W.callWith_F (first := []) (lam_fnAt I1 hf) (thn (ha.run pos pins s1 σ _ _ I1 ht) fun us s2 ⟨vs, H2, I2, r, h1, h2, q⟩ => ⟨lam_fnAt I2 h1, ?_⟩) he hpl
  show wpAny _ _ (call (.ref f) us) _ _ _
  refine wpAny_call (codeAny_mono (L.run X.A X.stack s2 H2 us vs Q E hr I2.env0 h1 h2 r q) fun rs s' hq => ?_)
  match rs, hq with
  | .error e, hq => exact hx pins σ H2 s2 e s' I2 hq
  | .ok (.ret u), hq => exact I2.after hq
  | .ok .next, hq => exact False.elim hq
  | .ok .brk, hq => exact False.elim hq
  | .ok .cont, hq => exact False.elim hq
end
end Wy

namespace Wy
open PySem PySem.Spec PyProof.Rows L2 LamX NdefX
/-- what is handed in is no net, or no places of it: the refusal, whatever stands behind -/
def Ends (C0 C1 : Addr) (v a b : V) (H : Hp) (E : XK) : Prop := (Dep H 3 v ∧ netB H v = false ∧ ∀ H', Same H H' → E (.ref C0) none H') ∨
  ∃ (x r : Addr) (ts : List Addr) (p : Int) (rs : List Road) (n1 n2 : String), v = .ref x ∧ NetAt H x r ts p rs ∧ NetOk p rs ∧ Tg H a n1 ∧ Tg H b n2 ∧ (isIn a 0 (p - 1) = false ∨ (isIn a 0 (p - 1) = true ∧ isIn b 0 (p - 1) = false)) ∧ ∀ H', Same H H' → E (.ref C1) none H'
def spEnds (C0 C1 : Addr) : Sp := fun vs H _ E => ∃ v a b c, vs = [v, a, b, c] ∧ Ends C0 C1 v a b H E
def spEnds3 (C0 C1 : Addr) : Sp := fun vs H _ E => ∃ v a b, vs = [v, a, b] ∧ Ends C0 C1 v a b H E
/-- the lambda that hands three things on, and None -/
theorem lok_ends {P : Program} {w : World} {K : PySem.W.Frag} {mg : Str → Option Value} {base : Heap} {F : NF} {f g C0 C1 : Addr} {fd : FuncData} {ps : List Str} {x : Str} {k i1 : Nat} {q1 q2 q3 q4 q5 q6 : Pos} (S : NScope ["_law_one", "_law_two", "_law_far"] ["_law_one", "_law_two", "_law_far"] [] F.scope) (hcl : F.cl = [])
    (hb : ∀ (b : Expr) (pm ctv : Value) (us : List Value), us.length = 3 → bindArgs (PySem.W.kla_fn F.name F.qual F.params b F.scope F.cl pm (.ref F.c) ctv) ⟨us, []⟩ = pure ((["_law_one", "_law_two", "_law_far"] : List Str).zip us))
    (G : FnOk P w K mg base (L2.CX P w) k g fd ps (spEnds C0 C1)) (hg : F.scope.names.lookup x = some .globalImplicit) (hm : mg x = some (.ref g)) (hk : PySem.W.keepIn K (.ref g) = true) (bi : Binds K fd ps []) (hdb : (x == ("__debug__" : Str)) = false) :
    LOk P w K mg base (L2.CX P w) (k + 1) f F (.Call (.Name x q1) [.Name "_law_one" q2, .Name "_law_two" q3, .Name "_law_far" q4, .Constant .none i1 q5] [] q6) 3 (spEnds3 C0 C1) := by
  refine lok_of (N := ["_law_one", "_law_two", "_law_far"]) (ps := ["_law_one", "_law_two", "_law_far"]) S hcl (hb _) (fun vs H Q E h => ?_) (fun A outer s H vs Q E hr h => ?_)
  · obtain ⟨_, _, _, rfl, _⟩ := h
    rfl
  · obtain ⟨v, a, b, rfl, h⟩ := h
    have v1 : Vis (ncx (L2.CX P w) P w K mg base ["_law_one", "_law_two", "_law_far"] F f A outer s H E).env.scope "_law_one" := .inl (S.par _ (by simp))
    have v2 : Vis (ncx (L2.CX P w) P w K mg base ["_law_one", "_law_two", "_law_far"] F f A outer s H E).env.scope "_law_two" := .inl (S.par _ (by simp))
    have v3 : Vis (ncx (L2.CX P w) P w K mg base ["_law_one", "_law_two", "_law_far"] F f A outer s H E).env.scope "_law_far" := .inl (S.par _ (by simp))
    refine ⟨_, pe_call G hr hg hm hk bi .nil (passes_call (takes_of rfl rfl rfl rfl) fun _ _ _ _ h => h) (pa_cons (pe_var (i := 0) rfl v1) (pa_cons (pe_var (i := 1) rfl v2) (pa_cons (pe_var (i := 2) rfl v3) (pa_cons pe_non pa_nil)))) hdb, ?_⟩
    exact ⟨v, rfl, a, rfl, b, rfl, v, a, b, .non, rfl, h⟩
end Wy

namespace Wy
open PySem PySem.Spec PyProof.Rows L2 LamX NdefX
abbrev sRef : Stmt := topS 61
def qRef : Str := (envOfC "_law_refused" (defScope sRef) 0 0 .none).qual ++ "<lambda>"
theorem scRef : FnScope ["_law_net_here", "_law_calls", "_law_bad", "_law_call", "_law_words"] ["_law_net_here", "_law_calls"] (defScope sRef) := ⟨rfl, rfl, rfl, by decide +kernel, rfl, by decide +kernel, by decide +kernel⟩
theorem dep_non {H : Hp} {k : Nat} : Dep H k .non := by
  cases k with
  | zero => exact ⟨_, .non⟩
  | succ k => exact ⟨⟨_, .non⟩, fun xs e => nomatch e⟩
theorem dep_int {H : Hp} {k : Nat} {i : Int} : Dep H k (.int i) := by
  cases k with
  | zero => exact ⟨_, .int i⟩
  | succ k => exact ⟨⟨_, .int i⟩, fun xs e => nomatch e⟩
theorem dep_bl {H : Hp} {k : Nat} {b : Bool} : Dep H k (.bl b) := by
  cases k with
  | zero => exact ⟨_, .bl b⟩
  | succ k => exact ⟨⟨_, .bl b⟩, fun xs e => nomatch e⟩
theorem dep_tup {H : Hp} {k : Nat} {t : Addr} {xs : List V} (e : H t = some (.tup xs)) (hl : xs.length ≤ 1000) (h : ∀ y ∈ xs, Dep H k y) : Dep H (k + 1) (.ref t) := ⟨⟨_, .tup e⟩, fun ys ey => by
  rw [tupV_ref e] at ey
  cases ey
  exact ⟨hl, h⟩⟩
theorem tupV_lst {H : Hp} {l : Addr} {xs : List V} (e : H l = some (.lst xs)) : tupV H (.ref l) = none := by
  unfold tupV
  dsimp only
  rw [e]
theorem dep_lst {H : Hp} {k : Nat} {l : Addr} {xs : List V} (e : H l = some (.lst xs)) : Dep H k (.ref l) := by
  cases k with
  | zero => exact ⟨_, .lst e⟩
  | succ k => exact ⟨⟨_, .lst e⟩, fun ys ey => by
      rw [tupV_lst e] at ey
      cases ey⟩
/-- things and what isn't of tables stay behind ExtN -/
theorem Tg.ext {H H' : Hp} {v : V} {n : String} (t : Tg H v n) (h : ExtN H H') : Tg H' v n := by
  cases t with
  | non => exact .non
  | bl b => exact .bl b
  | int i => exact .int i
  | str x => exact .str x
  | lst e => exact .lst (h _ _ e fun _ q => nomatch q)
  | tup e => exact .tup (h _ _ e fun _ q => nomatch q)
  | dct e => exact .dct (h _ _ e fun _ q => nomatch q)
theorem Tg.tup_ext {H H' : Hp} {v : V} {n : String} (t : Tg H v n) (h : ExtN H H') : tupV H' v = tupV H v := by
  cases t with
  | non => rfl
  | bl b => rfl
  | int i => rfl
  | str x => rfl
  | lst e => rw [tupV_lst e, tupV_lst (h _ _ e fun _ q => nomatch q)]
  | tup e => rw [tupV_ref e, tupV_ref (h _ _ e fun _ q => nomatch q)]
  | dct e =>
    have e' := h _ _ e fun _ q => nomatch q
    unfold tupV
    dsimp only
    rw [e, e']
theorem Dep.ext {H H' : Hp} (s : ExtN H H') : ∀ {k : Nat} {v : V}, Dep H k v → Dep H' k v
  | 0, _, h => let ⟨n, t⟩ := h; ⟨n, t.ext s⟩
  | k + 1, v, h => by
    obtain ⟨⟨n, t⟩, h⟩ := h
    refine ⟨⟨n, t.ext s⟩, fun xs e => ?_⟩
    rw [t.tup_ext s] at e
    exact ⟨(h xs e).1, fun y hy => Dep.ext s ((h xs e).2 y hy)⟩
/-- a kept lambda that refuses what is no net, no place -/
def LamAt (P : Program) (w : World) (K : PySem.W.Frag) (mg : Str → Option Value) (base : Heap) (C : Nat → Addr) (H : Hp) (f : Addr) : Prop := ∃ (F : NF) (b : Expr), LOk P w K mg base (L2.CX P w) 9 f F b 3 (spEnds3 (C 0) (C 1)) ∧ H f = some (LamO f F b) ∧ H F.c = some (CodeO F.c F.qual)
theorem LamAt.ext {P : Program} {w : World} {K : PySem.W.Frag} {mg : Str → Option Value} {base : Heap} {C : Nat → Addr} {H H' : Hp} {f : Addr} (h : LamAt P w K mg base C H f) (e : ExtN H H') : LamAt P w K mg base C H' f := by
  obtain ⟨F, b, L, h1, h2⟩ := h
  exact ⟨F, b, L, e _ _ h1 lamO_tbl, e _ _ h2 codeO_ne⟩
theorem NetAt.ext {H H' : Hp} {a r : Addr} {ts : List Addr} {p : Int} {rs : List Road} (h : NetAt H a r ts p rs) (e : ExtN H H') : NetAt H' a r ts p rs := h.keep fun b xs h => e _ _ h fun _ q => nomatch q
theorem tabs_upd {T : List (Addr × Str)} {G : Hp} {l : Addr} {xs ys : List V} (h : Tabs T G) (e : G l = some (.lst xs)) : Tabs T (upd G l (.lst ys)) := fun p hp => by
  obtain ⟨ps, h1, h2, h3⟩ := h p hp
  refine ⟨ps, (upd_ne (ne_of h1 e fun q => nomatch q)).trans h1, h2, fun pos cv hc => ?_⟩
  obtain ⟨c, e1, e2⟩ := h3 pos cv hc
  exact ⟨c, e1, (upd_ne (ne_of e2 e fun q => by
    unfold CodeO at q
    cases q)).trans e2⟩
def BadNet (H : Hp) (x : V) : Prop := ∀ G, ExtN H G → Dep G 3 x ∧ netB G x = false
section
variable {P : Program} {w : World} {K : PySem.W.Frag} {mg : Str → Option Value} {base : Heap} {C : Nat → Addr} {cT cN cW : Addr}
def spRefused (P : Program) (w : World) (K : PySem.W.Frag) (mg : Str → Option Value) (base : Heap) (C : Nat → Addr) (T : List (Addr × Str)) : Sp := fun vs H Q _ => ∃ (a r lc : Addr) (ts : List Addr) (p : Int) (rs : List Road) (fs : List Addr), vs = [.ref a, .ref lc] ∧ NetAt H a r ts p rs ∧ NetOk p rs ∧ H lc = some (.lst (fs.map V.ref)) ∧
  (∀ f ∈ fs, LamAt P w K mg base C H f) ∧ Tabs T H ∧ ∀ H', ExtN H H' → Tabs T H' → Q (.bl true) H'
set_option maxHeartbeats 4000000 in
theorem ok_refused {T : List (Addr × Str)} {fR cR Pt fWd fSa : Addr} {dWd dSa : FuncData} {oc kV doc pm ct : Value} {od an : Option Addr} {osl : Array (Option Value)}
    (lk : K.lookup fR = some ⟨oc, od, .func (PySem.W.fnOf "_law_refused" "_law_refused" (defArgs sRef) (defBody sRef) (defScope sRef) .none kV doc pm an (.ref cR) ct), osl⟩) (hcd : PySem.W.codeIn K (.ref cR) "_law_refused" = true)
    (TB : TabB base mg cR Pt) (hmT : (Pt, qRef) ∈ T) (huT : ∀ p ∈ T, p.1 = Pt → p.2 = qRef) (Z : Cl K mg C cT cN cW) (mi : mg "isinstance" = none) (mV : mg "ValueError" = none) (mLi : mg "list" = none)
    (DWd : Df K mg "_law_word" sWord ["_law_e"] fWd dWd) (DSa : Df K mg "_law_said" sSaid ["_law_call"] fSa dSa) :
    FnOk P w K mg base CX0 12 fR (PySem.W.fnOf "_law_refused" "_law_refused" (defArgs sRef) (defBody sRef) (defScope sRef) .none kV doc pm an (.ref cR) ct) ["_law_net_here", "_law_calls"] (spRefused P w K mg base C T) := by
  have gW := Z.gW
  have GWd : Words P w K mg base 7 fWd dWd C cW := ok_words (k := 6) Z mi mV DWd
  obtain ⟨ocS, odS, kVS, docS, pmS, anS, cdS, ctS, slS, rfl, lkS, hcS⟩ := DSa.F.ex
  refine fn_of (k := 11) (N := ["_law_net_here", "_law_calls", "_law_bad", "_law_call", "_law_words"]) lk hcd scRef (fun vs H Q E h => ?_) (fun A outer s H vs Q E hr h => ?_)
  · obtain ⟨_, _, _, _, _, _, _, rfl, _⟩ := h
    rfl
  · obtain ⟨a, r, lc, ts, p, rs, fs, rfl, hN, ok, eC, hF, hT, q⟩ := h
    have hrW := hr.mono (show 8 ≤ 11 by decide)
    suffices hh : ∃ t, PSs (cxOf CX0 P w K mg base ["_law_net_here", "_law_calls", "_law_bad", "_law_call", "_law_words"] "_law_refused" (defScope sRef) fR (.ref cR) A outer s H E).nox (defBody sRef) t ∧ t { nx := fun _ H' => Q .non H', rt := Q } (L2.start ["_law_net_here", "_law_calls", "_law_bad", "_law_call", "_law_words"] [.ref a, .ref lc]) H from let ⟨t, ht, hq⟩ := hh; ⟨t, ht.nox, hq⟩
    refine ⟨_, (pss_cons (ps_for PassesOwn.never rfl (pi_list (pe_lst (pa_cons pe_non (pa_cons (pe_tup pa_nil) (pa_cons (pe_slice sl_tup (pv 0) po_none (po_some pe_int)) (pa_cons (pe_tup (pa_cons (pe_ix ix_tup (pv 0) pe_int (fun _ _ => rfl)) (pa_cons (pe_callTy call_list_of (by rfl) mLi (by decide +kernel) (pa_cons (pe_ix ix_tup (pv 0) pe_int (fun _ _ => rfl)) pa_nil)) pa_nil))) (pa_cons (pe_tup (pa_cons pe_int (pa_cons (pe_tup pa_nil) pa_nil))) (pa_cons (pe_tup (pa_cons pe_int (pa_cons (pe_tup pa_nil) pa_nil))) (pa_cons (pe_tup (pa_cons pe_bl (pa_cons (pe_tup pa_nil) pa_nil))) (pa_cons (pe_tup (pa_cons pe_int (pa_cons (pe_tup (pa_cons (pe_tup (pa_cons pe_int (pa_cons pe_int (pa_cons pe_int (pa_cons pe_int pa_nil))))) pa_nil)) pa_nil))) pa_nil)))))))))) (pg_name (i := 2) scRef.nd rfl (.inr rfl))
    (pss_one (ps_for PassesOwn.never rfl (pi_list (pv 1)) (pg_name (i := 3) scRef.nd rfl (.inr rfl))
    (pss_one (ps_if (pt_cmpR (op_neD hr.units) (LamX.pe_lamcall (T := T) (TT := TSaid C) (Ng := ["_law_call", "_law_e"]) (k := 9) (by rfl) DSa.g DSa.F.kp lkS hcS DSa.b scSaid rfl (.inl rfl) (said_gives GWd DWd hrW gW) TB rfl hmT huT hr (LamX.lamS_by (sc := defScope sRef) (by decide +kernel)) rfl (fun _ _ _ _ _ => rfl) (fun A outer s H E f2 c2 hr2 => pe_callV (P := P) (w := w) (K := K) (mg := mg) (base := base) (CX := L2.CX P w) (i := 3) (n := 3) ⟨rfl, rfl, rfl, rfl, rfl⟩ hr2 (passes_call (takes_of rfl rfl rfl rfl) fun _ _ _ _ h => h) rfl (.inr (.inr rfl)) (pa_cons (pv 2) (pa_cons pe_non (pa_cons pe_non pa_nil))))) (pe_tup (pa_cons pe_str pa_nil)) (nomark _)) (pss_one (ps_ret pe_bl)) pss_nil)))))
    (pss_cons (ps_for PassesOwn.never rfl (pi_list (pe_lst (pa_cons (pe_un un_neg pe_int) (pa_cons (pe_ix ix_tup (pv 0) pe_int (fun _ _ => rfl)) (pa_cons pe_bl (pa_cons pe_non (pa_cons pe_str (pa_cons (pe_tup (pa_cons pe_int pa_nil)) (pa_cons (pe_op op_pow pe_int pe_int) pa_nil))))))))) (pg_name (i := 2) scRef.nd rfl (.inr rfl))
    (pss_one (ps_for PassesOwn.never rfl (pi_list (pv 1)) (pg_name (i := 3) scRef.nd rfl (.inr rfl))
    (pss_cons (ps_set (i := 4) scRef.nd rfl (.inl rfl) (pe_lst (pa_cons (LamX.pe_lamcall (T := T) (TT := TSaid C) (Ng := ["_law_call", "_law_e"]) (k := 9) (by rfl) DSa.g DSa.F.kp lkS hcS DSa.b scSaid rfl (.inl rfl) (said_gives GWd DWd hrW gW) TB rfl hmT huT hr (LamX.lamS_by (sc := defScope sRef) (by decide +kernel)) rfl (fun _ _ _ _ _ => rfl) (fun A outer s H E f2 c2 hr2 => pe_callV (P := P) (w := w) (K := K) (mg := mg) (base := base) (CX := L2.CX P w) (i := 3) (n := 3) ⟨rfl, rfl, rfl, rfl, rfl⟩ hr2 (passes_call (takes_of rfl rfl rfl rfl) fun _ _ _ _ h => h) rfl (.inr (.inr rfl)) (pa_cons (pv 0) (pa_cons (pv 2) (pa_cons (pv 2) pa_nil))))) pa_nil)))
    (pss_cons (ps_expr (pe_bm PySem.F.plainAttrs_list PySem.F.slot_list_append PySem.F.type_list_append mt_append (pv 4) (pa_cons (LamX.pe_lamcall (T := T) (TT := TSaid C) (Ng := ["_law_call", "_law_e"]) (k := 9) (by rfl) DSa.g DSa.F.kp lkS hcS DSa.b scSaid rfl (.inl rfl) (said_gives GWd DWd hrW gW) TB rfl hmT huT hr (LamX.lamS_by (sc := defScope sRef) (by decide +kernel)) rfl (fun _ _ _ _ _ => rfl) (fun A outer s H E f2 c2 hr2 => pe_callV (P := P) (w := w) (K := K) (mg := mg) (base := base) (CX := L2.CX P w) (i := 3) (n := 3) ⟨rfl, rfl, rfl, rfl, rfl⟩ hr2 (passes_call (takes_of rfl rfl rfl rfl) fun _ _ _ _ h => h) rfl (.inr (.inr rfl)) (pa_cons (pv 0) (pa_cons pe_int (pa_cons (pv 2) pa_nil))))) pa_nil)))
    (pss_one (ps_if (pt_cmpR (op_neD hr.units) (pv 4) (pe_lst (pa_cons (pe_tup (pa_cons pe_str pa_nil)) (pa_cons (pe_tup (pa_cons pe_str pa_nil)) pa_nil))) (nomark _)) (pss_one (ps_ret pe_bl)) pss_nil)))))))
    (pss_one (ps_ret pe_bl)))), ?_⟩
    -- what is no net
    refine ⟨Nat.zero_le _, fun t1 n1 => ?_⟩
    have s1 := same_new (H := H) (o := .tup []) n1
    refine ⟨.ref a, rfl, 1, rfl, a, _, rfl, SqT.of (hN.1 |> s1 _ _), (show ¬ (HT.sIx 2 0 none = 0 ∧ HT.sIx 2 2 (some 1) = 2) by decide), fun t2 n2 => ?_⟩
    have s2 := s1.trans (same_new (o := .tup [.int p]) n2)
    refine ⟨.ref a, rfl, a, _, 0, _, rfl, rfl, SqT.of (s2 _ _ hN.1), rfl, .ref a, rfl, a, _, 1, _, rfl, rfl, SqT.of (s2 _ _ hN.1), rfl, r, _, rfl, .inr (SqT.of (s2 _ _ hN.2.1)), fun l3 n3 => ?_⟩
    have s3 := s2.trans (same_new (o := .lst (ts.map V.ref)) n3)
    refine ⟨by show 2 ≤ sizeLine; decide, fun t3 m3 => ?_⟩
    have s4 := s3.trans (same_new (o := .tup [.int p, .ref l3]) m3)
    refine ⟨Nat.zero_le _, fun u4 m4 => ⟨by show 2 ≤ sizeLine; decide, fun t4 n4 => ?_⟩⟩
    refine ⟨Nat.zero_le _, fun u5 m5 => ⟨by show 2 ≤ sizeLine; decide, fun t5 n5 => ?_⟩⟩
    refine ⟨Nat.zero_le _, fun u6 m6 => ⟨by show 2 ≤ sizeLine; decide, fun t6 n6 => ?_⟩⟩
    refine ⟨by show 4 ≤ sizeLine; decide, fun u7 m7 => ⟨by show 1 ≤ sizeLine; decide, fun u8 m8 => ⟨by show 2 ≤ sizeLine; decide, fun t7 n7 => ?_⟩⟩⟩
    refine ⟨by show 8 ≤ sizeLine; decide, fun L nL => ?_⟩
    have sL := same_new (o := .lst [.non, .ref t1, .ref t2, .ref t3, .ref t4, .ref t5, .ref t6, .ref t7]) nL
    have a7 := (same_new n7).trans sL
    have b8 := (same_new m8).trans a7
    have b7 := (same_new m7).trans b8
    have a6 := (same_new n6).trans b7
    have b6 := (same_new m6).trans a6
    have a5 := (same_new n5).trans b6
    have b5 := (same_new m5).trans a5
    have a4 := (same_new n4).trans b5
    have b4 := (same_new m4).trans a4
    have b3 := (same_new m3).trans b4
    have a3 := (same_new n3).trans b3
    have a2 := (same_new n2).trans a3
    have a1 := (same_new n1).trans a2
    have bad : ∀ x ∈ ([.non, .ref t1, .ref t2, .ref t3, .ref t4, .ref t5, .ref t6, .ref t7] : List V), BadNet _ x := fun x hx G ex => by
      have f1 := ex _ _ (a2 _ _ upd_same) fun _ q => nomatch q
      have f2 := ex _ _ (a3 _ _ upd_same) fun _ q => nomatch q
      have g3 := ex _ _ (b3 _ _ upd_same) fun _ q => nomatch q
      have f3 := ex _ _ (b4 _ _ upd_same) fun _ q => nomatch q
      have g4 := ex _ _ (a4 _ _ upd_same) fun _ q => nomatch q
      have f4 := ex _ _ (b5 _ _ upd_same) fun _ q => nomatch q
      have g5 := ex _ _ (a5 _ _ upd_same) fun _ q => nomatch q
      have f5 := ex _ _ (b6 _ _ upd_same) fun _ q => nomatch q
      have g6 := ex _ _ (a6 _ _ upd_same) fun _ q => nomatch q
      have f6 := ex _ _ (b7 _ _ upd_same) fun _ q => nomatch q
      have g7 := ex _ _ (b8 _ _ upd_same) fun _ q => nomatch q
      have g8 := ex _ _ (a7 _ _ upd_same) fun _ q => nomatch q
      have f7 := ex _ _ (sL _ _ upd_same) fun _ q => nomatch q
      have two : ∀ {t u : Addr} {v : V}, G t = some (.tup [v, .ref u]) → G u = some (.tup []) → Dep G 2 v → Dep G 3 (.ref t) := fun e1 e2 dv => dep_tup e1 (by simp) fun y hy => by
        simp only [List.mem_cons, List.not_mem_nil, or_false] at hy
        rcases hy with rfl | rfl
        · exact dv
        · exact dep_tup e2 (by simp) fun _ h => nomatch h
      simp only [List.mem_cons, List.not_mem_nil, or_false] at hx
      rcases hx with rfl | rfl | rfl | rfl | rfl | rfl | rfl | rfl
      · exact ⟨dep_non, rfl⟩
      · refine ⟨dep_tup f1 (by simp) fun _ h => (nomatch h), ?_⟩
        unfold netB
        rw [tupV_ref f1]
      · refine ⟨dep_tup (xs := [.int p]) f2 (by simp) fun y hy => ?_, ?_⟩
        · rw [List.mem_singleton.mp hy]
          exact dep_int
        · unfold netB
          rw [tupV_ref (xs := [.int p]) f2]
      · refine ⟨dep_tup f3 (by simp) fun y hy => ?_, ?_⟩
        · simp only [List.mem_cons, List.not_mem_nil, or_false] at hy
          rcases hy with rfl | rfl
          · exact dep_int
          · exact dep_lst g3
        · unfold netB
          rw [tupV_ref f3]
          dsimp only
          rw [tupV_lst g3, Bool.and_false]
      · refine ⟨two f4 g4 dep_int, ?_⟩
        unfold netB
        rw [tupV_ref f4]
        rfl
      · refine ⟨two f5 g5 dep_int, ?_⟩
        unfold netB
        rw [tupV_ref f5]
        rfl
      · refine ⟨two f6 g6 dep_bl, ?_⟩
        unfold netB
        rw [tupV_ref f6]
      · refine ⟨dep_tup f7 (by simp) fun y hy => ?_, ?_⟩
        · simp only [List.mem_cons, List.not_mem_nil, or_false] at hy
          rcases hy with rfl | rfl
          · exact dep_int
          · refine dep_tup g8 (by simp) fun y hy => ?_
            rw [List.mem_singleton.mp hy]
            refine dep_tup g7 (by simp) fun y hy => ?_
            simp only [List.mem_cons, List.not_mem_nil, or_false] at hy
            rcases hy with rfl | rfl | rfl | rfl <;> exact dep_int
        · unfold netB
          rw [tupV_ref f7]
          dsimp only
          rw [tupV_ref g8]
          have rb : roadB G 2 (.ref u7) = false := by
            unfold roadB
            rw [tupV_ref g7]
            rfl
          simp [rb]
    refine ⟨L, rfl, ⟨_, SqL.of upd_same⟩, ?_⟩
    refine for_list (xs := [.non, .ref t1, .ref t2, .ref t3, .ref t4, .ref t5, .ref t6, .ref t7]) (fun _ σ G => ∃ x2 x3 x4 : Option V, σ = [some (.ref a), some (.ref lc), x2, x3, x4] ∧ ExtN _ G ∧ Tabs T G) ⟨none, none, none, rfl, ExtN.refl _, hT.ext a1⟩ (fun _ σ G _ h => ?_) (fun q x σ G hx h => ?_) (fun σ G h => ?_)
    · obtain ⟨_, _, _, rfl, ex, _⟩ := h
      exact SqL.of (ex _ _ upd_same fun _ q => nomatch q)
    · obtain ⟨x2, x3, x4, rfl, ex, Tb⟩ := h
      have bx := bad x (List.mem_of_getElem? hx)
      have eC' : G lc = some (.lst (fs.map V.ref)) := ex _ _ (a1 _ _ eC) (fun _ q => nomatch q)
      refine ⟨.ref lc, rfl, lc, rfl, ⟨_, SqL.of eC'⟩, ?_⟩
      refine for_list (xs := fs.map V.ref) (fun _ σ G' => ∃ x3 x4 : Option V, σ = [some (.ref a), some (.ref lc), some x, x3, x4] ∧ ExtN G G' ∧ Tabs T G') ⟨x3, x4, rfl, ExtN.refl _, Tb⟩ (fun _ σ G' _ h => ?_) (fun q y σ G' hy h => ?_) (fun σ G' h => ?_)
      · obtain ⟨_, _, rfl, ex', _⟩ := h
        exact SqL.of (ex' _ _ eC' fun _ q => nomatch q)
      · obtain ⟨x3, x4, rfl, ex', Tb'⟩ := h
        obtain ⟨f, hf, rfl⟩ : ∃ f ∈ fs, y = .ref f := by
          obtain ⟨f, hf, e⟩ := List.mem_map.mp (List.mem_of_getElem? hy)
          exact ⟨f, hf, e.symm⟩
        refine ⟨Tb', fun G1 e1 Tb1 => ?_⟩
        obtain ⟨F, b, LO, h1, h2⟩ := (hF f hf).ext ((ExtN.of a1).trans (ex.trans (ex'.trans e1)))
        obtain ⟨dep, hn⟩ := bx G1 (ex.trans (ex'.trans e1))
        refine ⟨f, F, b, _, LO, rfl, h1, x, rfl, h1, h2, x, .non, .non, rfl, .inl ⟨dep, hn, fun G2 s2' => ⟨0, by simp, rfl, rfl, fun G3 t s3' et => ?_⟩⟩⟩
        refine ⟨by show 1 ≤ sizeLine; decide, fun t' nt => ?_⟩
        refine ⟨.tuple [.str "net"], .tuple [.str "net"], .tup (SqT.of (same_new nt _ _ et)) (.cons (.str _) .nil), .tup (SqT.of upd_same) (.cons (.str _) .nil), by decide +kernel, by decide +kernel, _, rfl, ?_⟩
        rw [show PyData.eqv (.tuple [.str "net"]) (.tuple [.str "net"]) = true from by decide +kernel]
        refine iteF ?_
        have ss := (s2'.trans s3').trans (same_new (o := .tup [.str "net"]) nt)
        exact ⟨some (.ref f), x4, rfl, ex'.trans (e1.trans (ExtN.of ss)), Tb1.ext ss⟩
      · obtain ⟨x3, x4, rfl, ex', Tb'⟩ := h
        exact ⟨some x, x3, x4, rfl, ex.trans ex', Tb'⟩
    · obtain ⟨x2, x3, x4, rfl, ex, Tb⟩ := h
      have hNG := hN.ext ((ExtN.of a1).trans ex)
      refine ⟨1, rfl, .ref a, rfl, a, _, 0, _, rfl, rfl, SqT.of hNG.1, rfl, by show 1 ≤ sizeLine; decide, fun t0 nt0 => ⟨10, 19, rfl, rfl, ⟨by decide, by decide, by decide⟩, by show 7 ≤ sizeLine; decide, fun Lb nLb => ⟨Lb, rfl, ⟨_, SqL.of upd_same⟩, ?_⟩⟩⟩
      have z1 := same_new (H := G) (o := .tup [.int 0]) nt0
      have z2 := z1.trans (same_new (o := .lst [.int (-1), .int p, .bl true, .non, .str "0", .ref t0, .int (10 ^ 19)]) nLb)
      have exH := (ExtN.of a1).trans (ex.trans (ExtN.of z2))
      obtain ⟨H1, hH1⟩ : ∃ H1, H1 = upd (upd G t0 (.tup [.int 0])) Lb (.lst [.int (-1), .int p, .bl true, .non, .str "0", .ref t0, .int (10 ^ 19)]) := ⟨_, rfl⟩
      rw [← hH1] at exH z2
      have eLb : H1 Lb = some (.lst [.int (-1), .int p, .bl true, .non, .str "0", .ref t0, .int (10 ^ 19)]) := hH1 ▸ upd_same
      have et0 : H1 t0 = some (.tup [.int 0]) := hH1 ▸ same_new nLb _ _ upd_same
      have hN1 := hN.ext exH
      have eC1 : H1 lc = some (.lst (fs.map V.ref)) := exH _ _ eC fun _ q => nomatch q
      have p1 := ok.p1
      have p2 := ok.p2
      have bad2 : ∀ x ∈ ([.int (-1), .int p, .bl true, .non, .str "0", .ref t0, .int (10 ^ 19)] : List V), isIn x 0 (p - 1) = false ∧ ∀ G' : Hp, ExtN H1 G' → ∃ n, Tg G' x n := fun x hx => by
        have num : ∀ i : Int, (i < 0 ∨ p - 1 < i) → isIn (.int i) 0 (p - 1) = false := fun i h => by
          show (decide (0 ≤ i) && decide (i ≤ p - 1)) = false
          rcases h with h | h
          · rw [decide_eq_false (by omega)]
            rfl
          · rw [decide_eq_false (show ¬ (i ≤ p - 1) by omega), Bool.and_false]
        simp only [List.mem_cons, List.not_mem_nil, or_false] at hx
        rcases hx with rfl | rfl | rfl | rfl | rfl | rfl | rfl
        · exact ⟨num _ (.inl (by decide)), fun _ _ => ⟨_, .int _⟩⟩
        · exact ⟨num _ (.inr (by omega)), fun _ _ => ⟨_, .int _⟩⟩
        · exact ⟨rfl, fun _ _ => ⟨_, .bl _⟩⟩
        · exact ⟨rfl, fun _ _ => ⟨_, .non⟩⟩
        · exact ⟨rfl, fun _ _ => ⟨_, .str _⟩⟩
        · exact ⟨rfl, fun _ e => ⟨_, .tup (e _ _ et0 fun _ q => nomatch q)⟩⟩
        · refine ⟨num _ (.inr ?_), fun _ _ => ⟨_, .int _⟩⟩
          have : (10 : Int) < 10 ^ 19 := by decide +kernel
          omega
      refine for_list (xs := [.int (-1), .int p, .bl true, .non, .str "0", .ref t0, .int (10 ^ 19)]) (fun _ σ G => ∃ x2 x3 x4 : Option V, σ = [some (.ref a), some (.ref lc), x2, x3, x4] ∧ ExtN H1 G ∧ Tabs T G) ⟨x2, x3, x4, rfl, (by rw [hH1]; exact ExtN.refl _), (by have tz := Tb.ext z2; rw [hH1] at tz; exact tz)⟩ (fun _ σ G _ h => ?_) (fun q x σ G hx h => ?_) (fun σ G h => ?_)
      · obtain ⟨_, _, _, rfl, ex, _⟩ := h
        exact SqL.of (ex _ _ eLb fun _ q => nomatch q)
      · obtain ⟨x2, x3, x4, rfl, ex, Tb⟩ := h
        obtain ⟨hbad, htg⟩ := bad2 x (List.mem_of_getElem? hx)
        have eC' : G lc = some (.lst (fs.map V.ref)) := ex _ _ eC1 (fun _ q => nomatch q)
        refine ⟨.ref lc, rfl, lc, rfl, ⟨_, SqL.of eC'⟩, ?_⟩
        refine for_list (xs := fs.map V.ref) (fun _ σ G' => ∃ x3 x4 : Option V, σ = [some (.ref a), some (.ref lc), some x, x3, x4] ∧ ExtN G G' ∧ Tabs T G') ⟨x3, x4, rfl, ExtN.refl _, Tb⟩ (fun _ σ G' _ h => ?_) (fun q y σ G' hy h => ?_) (fun σ G' h => ?_)
        · obtain ⟨_, _, rfl, ex', _⟩ := h
          exact SqL.of (ex' _ _ eC' fun _ q => nomatch q)
        · obtain ⟨x3, x4, rfl, ex', Tb'⟩ := h
          obtain ⟨f, hf, rfl⟩ : ∃ f ∈ fs, y = .ref f := by
            obtain ⟨f, hf, e⟩ := List.mem_map.mp (List.mem_of_getElem? hy)
            exact ⟨f, hf, e.symm⟩
          -- words
          refine ⟨Tb', fun G1 e1 Tb1 => ?_⟩
          have x1 := ex.trans (ex'.trans e1)
          obtain ⟨F, b, LO, h1, h2⟩ := (hF f hf).ext (exH.trans x1)
          obtain ⟨n1, tg1⟩ := htg G1 x1
          refine ⟨f, F, b, _, LO, rfl, h1, .ref a, rfl, x, rfl, x, rfl, h1, h2, .ref a, x, x, rfl, .inr ⟨a, r, ts, p, rs, n1, n1, rfl, hN1.ext x1, ok, tg1, tg1, .inl hbad, fun G2 s2' => ⟨1, by simp, rfl, rfl, fun G3 w1 s3' ew1 => ?_⟩⟩⟩
          refine ⟨by show 1 ≤ sizeLine; decide, fun l5 n5 => ?_⟩
          have s13 := s2'.trans s3'
          have s35 := same_new (H := G3) (o := .lst [.ref w1]) n5
          have s15 := s13.trans s35
          have Tb5 := Tb1.ext s15
          have x5 := x1.trans (ExtN.of s15)
          -- append
          refine ⟨.ref l5, rfl, .inl ⟨rfl, _, SqL.of upd_same⟩, Tb5, fun G6 e6 Tb6 => ?_⟩
          have x6 := x5.trans e6
          obtain ⟨F', b', LO', h1', h2'⟩ := (hF f hf).ext (exH.trans x6)
          obtain ⟨n6, tg6⟩ := htg G6 x6
          refine ⟨f, F', b', _, LO', rfl, h1', .ref a, rfl, x, rfl, h1', h2', .ref a, .int 0, x, rfl, .inr ⟨a, r, ts, p, rs, _, n6, rfl, hN1.ext x6, ok, .int 0, tg6, .inr ⟨isIn_of (by decide) (by omega), hbad⟩, fun G7 s7 => ⟨1, by simp, rfl, rfl, fun G8 w8 s8 ew8 => ?_⟩⟩⟩
          have s68 := s7.trans s8
          have el5 : G8 l5 = some (.lst [.ref w1]) := s68 _ _ (e6 _ _ upd_same fun _ q => nomatch q)
          have ew1' : G8 w1 = some (.tup [.str "place"]) := s68 _ _ (e6 _ _ (s35 _ _ ew1) fun _ q => nomatch q)
          refine ⟨l5, _, _, rfl, rfl, el5, by show 1 < sizeLine; decide, ?_⟩
          refine ⟨.ref l5, rfl, by show 1 ≤ sizeLine; decide, fun t9 n9 => ⟨by show 1 ≤ sizeLine; decide, fun t10 n10 => ⟨by show 2 ≤ sizeLine; decide, fun l11 n11 => ?_⟩⟩⟩
          have y11 := same_new (o := .lst [.ref t9, .ref t10]) n11
          have y10 := (same_new n10).trans y11
          have y9 := (same_new n9).trans y10
          have pl : ∀ {G' : Hp} {t : Addr}, G' t = some (.tup [.str "place"]) → Dp K G' (.ref t) (.tuple [.str "place"]) := fun e => .tup (SqT.of e) (.cons (.str _) .nil)
          have tl : ∀ t, G8 t = some (.tup [.str "place"]) → (upd G8 l5 (.lst ([.ref w1] ++ [.ref w8]))) t = some (.tup [.str "place"]) := fun t e => (upd_ne (ne_of e el5 fun q => nomatch q)).trans e
          refine ⟨.list [.tuple [.str "place"], .tuple [.str "place"]], .list [.tuple [.str "place"], .tuple [.str "place"]], .lst (SqL.of (y9 _ _ upd_same)) (.cons (pl (y9 _ _ (tl _ ew1'))) (.cons (pl (y9 _ _ (tl _ ew8))) .nil)), .lst (SqL.of upd_same) (.cons (pl (y10 _ _ upd_same)) (.cons (pl (y11 _ _ upd_same)) .nil)), by decide +kernel, by decide +kernel, _, rfl, ?_⟩
          rw [show PyData.eqv (.list [.tuple [.str "place"], .tuple [.str "place"]]) (.list [.tuple [.str "place"], .tuple [.str "place"]]) = true from by decide +kernel]
          refine iteF ?_
          refine ⟨some (.ref f), some (.ref l5), rfl, fun c o hc ho => ?_, (tabs_upd (Tb6.ext s68) el5).ext y9⟩
          have g3 : G3 c = some o := s13 _ _ (e1 _ _ (ex' _ _ hc ho) ho)
          have g8 : G8 c = some o := s68 _ _ (e6 _ _ (s35 _ _ g3) ho)
          exact y9 _ _ ((upd_ne (ne_of_none g3 n5)).trans g8)
        · obtain ⟨x3, x4, rfl, ex', Tb'⟩ := h
          exact ⟨some x, x3, x4, rfl, ex.trans ex', Tb'⟩
      · obtain ⟨x2, x3, x4, rfl, ex, Tb⟩ := h
        exact q _ (exH.trans ex) Tb
end
end Wy

namespace Wy
open PySem PySem.Spec PyProof.Rows L2 LamX NdefX
abbrev sEnds : Stmt := topS 37
theorem sc_sEnds : FnScope ["net", "start", "goal"] ["net", "start", "goal"] (defScope sEnds) := ⟨rfl, rfl, rfl, by decide +kernel, rfl, by decide +kernel, by decide +kernel⟩
abbrev sFo : Stmt := topS 42
theorem sc_sFo : FnScope ["net", "start", "goal"] ["net", "start", "goal"] (defScope sFo) := ⟨rfl, rfl, rfl, by decide +kernel, rfl, by decide +kernel, by decide +kernel⟩
abbrev sWi : Stmt := topS 43
theorem sc_sWi : FnScope ["net", "start", "goal", "most", "cost", "time", "way"] ["net", "start", "goal", "most"] (defScope sWi) := ⟨rfl, rfl, rfl, by decide +kernel, rfl, by decide +kernel, by decide +kernel⟩
abbrev sFh : Stmt := topS 46
theorem sc_sFh : FnScope ["net", "start", "goal", "front", "fence", "cost", "time", "way"] ["net", "start", "goal", "front", "fence"] (defScope sFh) := ⟨rfl, rfl, rfl, by decide +kernel, rfl, by decide +kernel, by decide +kernel⟩
abbrev sFe : Stmt := topS 44
theorem sc_sFe : FnScope ["net", "start", "turned", "one", "other", "cost", "time", "fronts", "way", "front"] ["net", "start"] (defScope sFe) := ⟨rfl, rfl, rfl, by decide +kernel, rfl, by decide +kernel, by decide +kernel⟩
abbrev sIf : Stmt := topS 45
theorem sc_sIf : FnScope ["net", "start", "thing", "pairs", "one", "other", "cost", "time"] ["net", "start", "thing"] (defScope sIf) := ⟨rfl, rfl, rfl, by decide +kernel, rfl, by decide +kernel, by decide +kernel⟩
/-- what can't be come to -/
theorem pss_no {X : Cx} {ss : List Stmt} : PSs X ss (fun _ _ _ => False) := ⟨fun _ _ _ _ _ _ h => h.elim⟩
def spEnds5 (C0 C1 : Addr) : Sp := fun vs H _ E => ∃ v a b c d, vs = [v, a, b, c, d] ∧ Ends C0 C1 v a b H E
/-- what is handed in is no net, or no place of it -/
def One (C0 C1 : Addr) (v a : V) (H : Hp) (E : XK) : Prop := (Dep H 3 v ∧ netB H v = false ∧ ∀ H', Same H H' → E (.ref C0) none H') ∨
  ∃ (x r : Addr) (ts : List Addr) (p : Int) (rs : List Road) (n1 : String), v = .ref x ∧ NetAt H x r ts p rs ∧ NetOk p rs ∧ Tg H a n1 ∧ isIn a 0 (p - 1) = false ∧ ∀ H', Same H H' → E (.ref C1) none H'
def spOne2 (C0 C1 : Addr) : Sp := fun vs H _ E => ∃ v a, vs = [v, a] ∧ One C0 C1 v a H E
def spOne3 (C0 C1 : Addr) : Sp := fun vs H _ E => ∃ v a b, vs = [v, a, b] ∧ One C0 C1 v a H E
/-- the lambda that hands three things on, and None -/
theorem lok_ends3 {P : Program} {w : World} {K : PySem.W.Frag} {mg : Str → Option Value} {base : Heap} {F : NF} {f g C0 C1 : Addr} {fd : FuncData} {ps : List Str} {x : Str} {k : Nat} {q1 q2 q3 q4 q6 : Pos} (S : NScope ["_law_one", "_law_two", "_law_far"] ["_law_one", "_law_two", "_law_far"] [] F.scope) (hcl : F.cl = [])
    (hb : ∀ (b : Expr) (pm ctv : Value) (us : List Value), us.length = 3 → bindArgs (PySem.W.kla_fn F.name F.qual F.params b F.scope F.cl pm (.ref F.c) ctv) ⟨us, []⟩ = pure ((["_law_one", "_law_two", "_law_far"] : List Str).zip us))
    (G : FnOk P w K mg base (L2.CX P w) k g fd ps (spEnds3 C0 C1)) (hg : F.scope.names.lookup x = some .globalImplicit) (hm : mg x = some (.ref g)) (hk : PySem.W.keepIn K (.ref g) = true) (bi : Binds K fd ps []) (hdb : (x == ("__debug__" : Str)) = false) :
    LOk P w K mg base (L2.CX P w) (k + 1) f F (.Call (.Name x q1) [.Name "_law_one" q2, .Name "_law_two" q3, .Name "_law_far" q4] [] q6) 3 (spEnds3 C0 C1) := by
  refine lok_of (N := ["_law_one", "_law_two", "_law_far"]) (ps := ["_law_one", "_law_two", "_law_far"]) S hcl (hb _) (fun vs H Q E h => ?_) (fun A outer s H vs Q E hr h => ?_)
  · obtain ⟨_, _, _, rfl, _⟩ := h
    rfl
  · obtain ⟨v, a, b, rfl, h⟩ := h
    have v1 : Vis (ncx (L2.CX P w) P w K mg base ["_law_one", "_law_two", "_law_far"] F f A outer s H E).env.scope "_law_one" := .inl (S.par _ (by simp))
    have v2 : Vis (ncx (L2.CX P w) P w K mg base ["_law_one", "_law_two", "_law_far"] F f A outer s H E).env.scope "_law_two" := .inl (S.par _ (by simp))
    have v3 : Vis (ncx (L2.CX P w) P w K mg base ["_law_one", "_law_two", "_law_far"] F f A outer s H E).env.scope "_law_far" := .inl (S.par _ (by simp))
    refine ⟨_, pe_call G hr hg hm hk bi .nil (passes_call (takes_of rfl rfl rfl rfl) fun _ _ _ _ h => h) (pa_cons (pe_var (i := 0) rfl v1) (pa_cons (pe_var (i := 1) rfl v2) (pa_cons (pe_var (i := 2) rfl v3) pa_nil))) hdb, ?_⟩
    exact ⟨v, rfl, a, rfl, b, rfl, v, a, b, rfl, h⟩
/-- the lambda that hands three things on, and None -/
theorem lok_ends5 {P : Program} {w : World} {K : PySem.W.Frag} {mg : Str → Option Value} {base : Heap} {F : NF} {f g C0 C1 : Addr} {fd : FuncData} {ps : List Str} {x : Str} {k i1 i2 : Nat} {q1 q2 q3 q4 q5 q6 q7 : Pos} (S : NScope ["_law_one", "_law_two", "_law_far"] ["_law_one", "_law_two", "_law_far"] [] F.scope) (hcl : F.cl = [])
    (hb : ∀ (b : Expr) (pm ctv : Value) (us : List Value), us.length = 3 → bindArgs (PySem.W.kla_fn F.name F.qual F.params b F.scope F.cl pm (.ref F.c) ctv) ⟨us, []⟩ = pure ((["_law_one", "_law_two", "_law_far"] : List Str).zip us))
    (G : FnOk P w K mg base (L2.CX P w) k g fd ps (spEnds5 C0 C1)) (hg : F.scope.names.lookup x = some .globalImplicit) (hm : mg x = some (.ref g)) (hk : PySem.W.keepIn K (.ref g) = true) (bi : Binds K fd ps []) (hdb : (x == ("__debug__" : Str)) = false) :
    LOk P w K mg base (L2.CX P w) (k + 1) f F (.Call (.Name x q1) [.Name "_law_one" q2, .Name "_law_two" q3, .Name "_law_far" q4, .Constant .none i1 q5, .Constant .none i2 q7] [] q6) 3 (spEnds3 C0 C1) := by
  refine lok_of (N := ["_law_one", "_law_two", "_law_far"]) (ps := ["_law_one", "_law_two", "_law_far"]) S hcl (hb _) (fun vs H Q E h => ?_) (fun A outer s H vs Q E hr h => ?_)
  · obtain ⟨_, _, _, rfl, _⟩ := h
    rfl
  · obtain ⟨v, a, b, rfl, h⟩ := h
    have v1 : Vis (ncx (L2.CX P w) P w K mg base ["_law_one", "_law_two", "_law_far"] F f A outer s H E).env.scope "_law_one" := .inl (S.par _ (by simp))
    have v2 : Vis (ncx (L2.CX P w) P w K mg base ["_law_one", "_law_two", "_law_far"] F f A outer s H E).env.scope "_law_two" := .inl (S.par _ (by simp))
    have v3 : Vis (ncx (L2.CX P w) P w K mg base ["_law_one", "_law_two", "_law_far"] F f A outer s H E).env.scope "_law_far" := .inl (S.par _ (by simp))
    refine ⟨_, pe_call G hr hg hm hk bi .nil (passes_call (takes_of rfl rfl rfl rfl) fun _ _ _ _ h => h) (pa_cons (pe_var (i := 0) rfl v1) (pa_cons (pe_var (i := 1) rfl v2) (pa_cons (pe_var (i := 2) rfl v3) (pa_cons pe_non (pa_cons pe_non pa_nil))))) hdb, ?_⟩
    exact ⟨v, rfl, a, rfl, b, rfl, v, a, b, .non, .non, rfl, h⟩
theorem in_tg {H : Hp} {v : V} {lo hi : Int} (h : isIn v lo hi = true) : Tg H v "int" := by
  cases v with
  | int i => exact .int i
  | _ => cases h
def spChkE (C0 C1 : Addr) : Sp := fun vs H Q E => ∃ v a b, vs = [v, a, b] ∧ (Ends C0 C1 v a b H E ∨ ∃ (x r : Addr) (ts : List Addr) (p : Int) (rs : List Road), v = .ref x ∧ NetAt H x r ts p rs ∧ NetOk p rs ∧ isIn a 0 (p - 1) = true ∧ isIn b 0 (p - 1) = true ∧ ∀ H', Same H H' → Q .non H')
section
variable {P : Program} {w : World} {K : PySem.W.Frag} {mg : Str → Option Value} {base : Heap} {f1 f2 f3 f4 f5 : Addr} {d1 d2 d3 d4 d5 : FuncData}
theorem ok_chkE {f fN fP C0 C1 : Addr} {fd dN dP : FuncData} {k : Nat} (S : Sm K mg f1 f2 f3 f4 f5 d1 d2 d3 d4 d5) (DN : Df K mg "check_net" sChkN ["thing"] fN dN) (DP : Df K mg "check_place" sChkP ["net", "thing"] fP dP) (Z0 : Ex K mg "NoNet" C0) (Z1 : Ex K mg "NoPlace" C1)
    (D : Df K mg "check_ends" sEnds ["net", "start", "goal"] f fd) : FnOk P w K mg base (L2.CX P w) (k + 6) f fd ["net", "start", "goal"] (spChkE C0 C1) := by
  have GN : FnOk P w K mg base (L2.CX P w) (k + 5) fN dN ["thing"] (spChkG C0) := ok_chkG S DN Z0
  have GP : FnOk P w K mg base (L2.CX P w) (k + 5) fP dP ["net", "thing"] (spChkP C1) := ok_chkP (k := k + 2) S DP Z1
  refine D.F.okX sc_sEnds (fun vs H Q E h => ?_) (fun cdv A outer s H vs Q E hr h => ?_)
  · obtain ⟨_, _, _, rfl, _⟩ := h
    rfl
  · obtain ⟨v, a, b, rfl, h⟩ := h
    refine ⟨_, pss_cons (ps_expr (pe_call GN hr (by rfl) DN.g DN.F.kp DN.b .nil (passes_call (takes_of rfl rfl rfl rfl) fun _ _ _ _ h => h) (pa_cons (pv 0) pa_nil)))
      (pss_cons (ps_expr (pe_call GP hr (by rfl) DP.g DP.F.kp DP.b .nil (passes_call (takes_of rfl rfl rfl rfl) fun _ _ _ _ h => h) (pa_cons (pv 0) (pa_cons (pv 1) pa_nil))))
      (pss_one (ps_expr (pe_call GP hr (by rfl) DP.g DP.F.kp DP.b .nil (passes_call (takes_of rfl rfl rfl rfl) fun _ _ _ _ h => h) (pa_cons (pv 0) (pa_cons (pv 2) pa_nil)))))), ?_⟩
    rcases h with (⟨dep, nb, q⟩ | ⟨x, r, ts, p, rs, n1, n2, rfl, hN, ok, ta, tb, hb, q⟩) | ⟨x, r, ts, p, rs, rfl, hN, ok, ia, ib, q⟩
    · exact ⟨v, rfl, v, rfl, dep, fun e => absurd (nb.symm.trans e) (by decide), fun _ H' sm => q H' sm⟩
    · obtain ⟨nb, dep⟩ := net_is hN ok
      refine ⟨.ref x, rfl, .ref x, rfl, dep, fun _ H' sm => ?_, fun e => absurd (nb.symm.trans e) (by decide)⟩
      have hN' : NetAt H' x r ts p rs := hN.keep fun b xs h => sm _ _ h
      refine ⟨.ref x, rfl, a, rfl, x, r, ts, p, rs, a, n1, rfl, hN', ta.keep sm, fun e => ?_, fun _ => q H' sm⟩
      rcases hb with hb | ⟨_, hb⟩
      · exact absurd (hb.symm.trans e) (by decide)
      · exact ⟨.ref x, rfl, b, rfl, x, r, ts, p, rs, b, n2, rfl, hN', tb.keep sm, fun e2 => absurd (hb.symm.trans e2) (by decide), fun _ => q H' sm⟩
    · obtain ⟨nb, dep⟩ := net_is hN ok
      refine ⟨.ref x, rfl, .ref x, rfl, dep, fun _ H' sm => ?_, fun e => absurd (nb.symm.trans e) (by decide)⟩
      have hN' : NetAt H' x r ts p rs := hN.keep fun b xs h => sm _ _ h
      refine ⟨.ref x, rfl, a, rfl, x, r, ts, p, rs, a, _, rfl, hN', in_tg ia, fun _ => ?_, fun e => absurd (ia.symm.trans e) (by decide)⟩
      exact ⟨.ref x, rfl, b, rfl, x, r, ts, p, rs, b, _, rfl, hN', in_tg ib, fun _ => q H' sm, fun e => absurd (ib.symm.trans e) (by decide)⟩
theorem ok_frontOf {f fE fN fP C0 C1 : Addr} {fd dE dN dP : FuncData} {k : Nat} (S : Sm K mg f1 f2 f3 f4 f5 d1 d2 d3 d4 d5) (DN : Df K mg "check_net" sChkN ["thing"] fN dN) (DP : Df K mg "check_place" sChkP ["net", "thing"] fP dP) (DE : Df K mg "check_ends" sEnds ["net", "start", "goal"] fE dE)
    (Z0 : Ex K mg "NoNet" C0) (Z1 : Ex K mg "NoPlace" C1) (D : Df K mg "front_of" sFo ["net", "start", "goal"] f fd) : FnOk P w K mg base (L2.CX P w) (k + 7) f fd ["net", "start", "goal"] (spEnds3 C0 C1) := by
  have GE : FnOk P w K mg base (L2.CX P w) (k + 6) fE dE ["net", "start", "goal"] (spChkE C0 C1) := ok_chkE S DN DP Z0 Z1 DE
  refine D.F.okX sc_sFo (fun vs H Q E h => ?_) (fun cdv A outer s H vs Q E hr h => ?_)
  · obtain ⟨_, _, _, rfl, _⟩ := h
    rfl
  · obtain ⟨v, a, b, rfl, h⟩ := h
    refine ⟨_, pss_cons (ps_expr (pe_call GE hr (by rfl) DE.g DE.F.kp DE.b .nil (passes_call (takes_of rfl rfl rfl rfl) fun _ _ _ _ h => h) (pa_cons (pv 0) (pa_cons (pv 1) (pa_cons (pv 2) pa_nil))))) pss_no, ?_⟩
    exact ⟨v, rfl, a, rfl, b, rfl, v, a, b, rfl, .inl h⟩

theorem ok_withinQ {f fE fN fP C0 C1 : Addr} {fd dE dN dP : FuncData} {k : Nat} (S : Sm K mg f1 f2 f3 f4 f5 d1 d2 d3 d4 d5) (DN : Df K mg "check_net" sChkN ["thing"] fN dN) (DP : Df K mg "check_place" sChkP ["net", "thing"] fP dP) (DE : Df K mg "check_ends" sEnds ["net", "start", "goal"] fE dE)
    (Z0 : Ex K mg "NoNet" C0) (Z1 : Ex K mg "NoPlace" C1) (D : Df K mg "within" sWi ["net", "start", "goal", "most"] f fd) : FnOk P w K mg base (L2.CX P w) (k + 7) f fd ["net", "start", "goal", "most"] (spEnds C0 C1) := by
  have GE : FnOk P w K mg base (L2.CX P w) (k + 6) fE dE ["net", "start", "goal"] (spChkE C0 C1) := ok_chkE S DN DP Z0 Z1 DE
  refine D.F.okX sc_sWi (fun vs H Q E h => ?_) (fun cdv A outer s H vs Q E hr h => ?_)
  · obtain ⟨_, _, _, _, rfl, _⟩ := h
    rfl
  · obtain ⟨v, a, b, u, rfl, h⟩ := h
    refine ⟨_, pss_cons (ps_expr (pe_call GE hr (by rfl) DE.g DE.F.kp DE.b .nil (passes_call (takes_of rfl rfl rfl rfl) fun _ _ _ _ h => h) (pa_cons (pv 0) (pa_cons (pv 1) (pa_cons (pv 2) pa_nil))))) pss_no, ?_⟩
    exact ⟨v, rfl, a, rfl, b, rfl, v, a, b, rfl, .inl h⟩

theorem ok_frontHolds {f fE fN fP C0 C1 : Addr} {fd dE dN dP : FuncData} {k : Nat} (S : Sm K mg f1 f2 f3 f4 f5 d1 d2 d3 d4 d5) (DN : Df K mg "check_net" sChkN ["thing"] fN dN) (DP : Df K mg "check_place" sChkP ["net", "thing"] fP dP) (DE : Df K mg "check_ends" sEnds ["net", "start", "goal"] fE dE)
    (Z0 : Ex K mg "NoNet" C0) (Z1 : Ex K mg "NoPlace" C1) (D : Df K mg "front_holds" sFh ["net", "start", "goal", "front", "fence"] f fd) : FnOk P w K mg base (L2.CX P w) (k + 7) f fd ["net", "start", "goal", "front", "fence"] (spEnds5 C0 C1) := by
  have GE : FnOk P w K mg base (L2.CX P w) (k + 6) fE dE ["net", "start", "goal"] (spChkE C0 C1) := ok_chkE S DN DP Z0 Z1 DE
  refine D.F.okX sc_sFh (fun vs H Q E h => ?_) (fun cdv A outer s H vs Q E hr h => ?_)
  · obtain ⟨_, _, _, _, _, rfl, _⟩ := h
    rfl
  · obtain ⟨v, a, b, u, u2, rfl, h⟩ := h
    refine ⟨_, pss_cons (ps_expr (pe_call GE hr (by rfl) DE.g DE.F.kp DE.b .nil (passes_call (takes_of rfl rfl rfl rfl) fun _ _ _ _ h => h) (pa_cons (pv 0) (pa_cons (pv 1) (pa_cons (pv 2) pa_nil))))) pss_no, ?_⟩
    exact ⟨v, rfl, a, rfl, b, rfl, v, a, b, rfl, .inl h⟩

theorem ok_fenceOf {f fN fP C0 C1 : Addr} {fd dN dP : FuncData} {k : Nat} (S : Sm K mg f1 f2 f3 f4 f5 d1 d2 d3 d4 d5) (DN : Df K mg "check_net" sChkN ["thing"] fN dN) (DP : Df K mg "check_place" sChkP ["net", "thing"] fP dP) (Z0 : Ex K mg "NoNet" C0) (Z1 : Ex K mg "NoPlace" C1)
    (D : Df K mg "fence_of" sFe ["net", "start"] f fd) : FnOk P w K mg base (L2.CX P w) (k + 6) f fd ["net", "start"] (spOne2 C0 C1) := by
  have GN : FnOk P w K mg base (L2.CX P w) (k + 5) fN dN ["thing"] (spChkG C0) := ok_chkG S DN Z0
  have GP : FnOk P w K mg base (L2.CX P w) (k + 5) fP dP ["net", "thing"] (spChkP C1) := ok_chkP (k := k + 2) S DP Z1
  refine D.F.okX sc_sFe (fun vs H Q E h => ?_) (fun cdv A outer s H vs Q E hr h => ?_)
  · obtain ⟨_, _, rfl, _⟩ := h
    rfl
  · obtain ⟨v, a, rfl, h⟩ := h
    refine ⟨_, pss_cons (ps_expr (pe_call GN hr (by rfl) DN.g DN.F.kp DN.b .nil (passes_call (takes_of rfl rfl rfl rfl) fun _ _ _ _ h => h) (pa_cons (pv 0) pa_nil)))
      (pss_cons (ps_expr (pe_call GP hr (by rfl) DP.g DP.F.kp DP.b .nil (passes_call (takes_of rfl rfl rfl rfl) fun _ _ _ _ h => h) (pa_cons (pv 0) (pa_cons (pv 1) pa_nil)))) pss_no), ?_⟩
    rcases h with ⟨dep, nb, q⟩ | ⟨x, r, ts, p, rs, n1, rfl, hN, ok, ta, hb, q⟩
    · exact ⟨v, rfl, v, rfl, dep, fun e => absurd (nb.symm.trans e) (by decide), fun _ H' sm => q H' sm⟩
    · obtain ⟨nb, dep⟩ := net_is hN ok
      refine ⟨.ref x, rfl, .ref x, rfl, dep, fun _ H' sm => ?_, fun e => absurd (nb.symm.trans e) (by decide)⟩
      have hN' : NetAt H' x r ts p rs := hN.keep fun b xs h => sm _ _ h
      exact ⟨.ref x, rfl, a, rfl, x, r, ts, p, rs, a, n1, rfl, hN', ta.keep sm, fun e => absurd (hb.symm.trans e) (by decide), fun _ => q H' sm⟩
theorem ok_isFence {f fN fP C0 C1 : Addr} {fd dN dP : FuncData} {k : Nat} (S : Sm K mg f1 f2 f3 f4 f5 d1 d2 d3 d4 d5) (DN : Df K mg "check_net" sChkN ["thing"] fN dN) (DP : Df K mg "check_place" sChkP ["net", "thing"] fP dP) (Z0 : Ex K mg "NoNet" C0) (Z1 : Ex K mg "NoPlace" C1)
    (D : Df K mg "is_fence" sIf ["net", "start", "thing"] f fd) : FnOk P w K mg base (L2.CX P w) (k + 6) f fd ["net", "start", "thing"] (spOne3 C0 C1) := by
  have GN : FnOk P w K mg base (L2.CX P w) (k + 5) fN dN ["thing"] (spChkG C0) := ok_chkG S DN Z0
  have GP : FnOk P w K mg base (L2.CX P w) (k + 5) fP dP ["net", "thing"] (spChkP C1) := ok_chkP (k := k + 2) S DP Z1
  refine D.F.okX sc_sIf (fun vs H Q E h => ?_) (fun cdv A outer s H vs Q E hr h => ?_)
  · obtain ⟨_, _, _, rfl, _⟩ := h
    rfl
  · obtain ⟨v, a, b, rfl, h⟩ := h
    refine ⟨_, pss_cons (ps_expr (pe_call GN hr (by rfl) DN.g DN.F.kp DN.b .nil (passes_call (takes_of rfl rfl rfl rfl) fun _ _ _ _ h => h) (pa_cons (pv 0) pa_nil)))
      (pss_cons (ps_expr (pe_call GP hr (by rfl) DP.g DP.F.kp DP.b .nil (passes_call (takes_of rfl rfl rfl rfl) fun _ _ _ _ h => h) (pa_cons (pv 0) (pa_cons (pv 1) pa_nil)))) pss_no), ?_⟩
    rcases h with ⟨dep, nb, q⟩ | ⟨x, r, ts, p, rs, n1, rfl, hN, ok, ta, hb, q⟩
    · exact ⟨v, rfl, v, rfl, dep, fun e => absurd (nb.symm.trans e) (by decide), fun _ H' sm => q H' sm⟩
    · obtain ⟨nb, dep⟩ := net_is hN ok
      refine ⟨.ref x, rfl, .ref x, rfl, dep, fun _ H' sm => ?_, fun e => absurd (nb.symm.trans e) (by decide)⟩
      have hN' : NetAt H' x r ts p rs := hN.keep fun b xs h => sm _ _ h
      exact ⟨.ref x, rfl, a, rfl, x, r, ts, p, rs, a, n1, rfl, hN', ta.keep sm, fun e => absurd (hb.symm.trans e) (by decide), fun _ => q H' sm⟩
end
end Wy

namespace Wy
open PySem PySem.Spec PyProof.Rows L2 LamX NdefX
abbrev sLaw : Stmt := topS 62
def qLaw : Str := (envOfC "law" (defScope sLaw) 0 0 .none).qual ++ "<lambda>"
theorem scLaw : FnScope ["_law_script", "_law_k", "_law_state_here", "_law_net_here", "_law_calls", "_law_bads", "_law_bad", "_law_words"] ["_law_script"] (defScope sLaw) := ⟨rfl, rfl, rfl, by decide +kernel, rfl, by decide +kernel, by decide +kernel⟩
theorem BadNet.up {H H' : Hp} {x : V} (h : BadNet H x) (e : Same H H') : BadNet H' x := fun G ex => h G ((ExtN.of e).trans ex)
theorem badRoad {H : Hp} {t v u : Addr} {a b c d : Int} (e1 : H t = some (.tup [.int 2, .ref v])) (e2 : H v = some (.tup [.ref u])) (e3 : H u = some (.tup [.int a, .int b, .int c, .int d])) (hb : ∀ G : Hp, G u = some (.tup [.int a, .int b, .int c, .int d]) → roadB G 2 (.ref u) = false) : BadNet H (.ref t) := fun G ex => by
  have f7 := ex _ _ e1 fun _ q => nomatch q
  have g8 := ex _ _ e2 fun _ q => nomatch q
  have g7 := ex _ _ e3 fun _ q => nomatch q
  refine ⟨dep_tup f7 (by simp) fun y hy => ?_, ?_⟩
  · simp only [List.mem_cons, List.not_mem_nil, or_false] at hy
    rcases hy with rfl | rfl
    · exact dep_int
    · refine dep_tup g8 (by simp) fun y hy => ?_
      rw [List.mem_singleton.mp hy]
      refine dep_tup g7 (by simp) fun y hy => ?_
      simp only [List.mem_cons, List.not_mem_nil, or_false] at hy
      rcases hy with rfl | rfl | rfl | rfl <;> exact dep_int
  · unfold netB
    rw [tupV_ref f7]
    dsimp only
    rw [tupV_ref g8]
    simp [hb G g7]
theorem badPair {H : Hp} {t u : Addr} {v : V} (e1 : H t = some (.tup [v, .ref u])) (e2 : H u = some (.tup [])) (dv : ∀ G : Hp, Dep G 2 v) (hb : ∀ G : Hp, G t = some (.tup [v, .ref u]) → netB G (.ref t) = false) : BadNet H (.ref t) := fun G ex => by
  have f1 := ex _ _ e1 fun _ q => nomatch q
  have f2 := ex _ _ e2 fun _ q => nomatch q
  refine ⟨dep_tup f1 (by simp) fun y hy => ?_, hb G f1⟩
  simp only [List.mem_cons, List.not_mem_nil, or_false] at hy
  rcases hy with rfl | rfl
  · exact dv G
  · exact dep_tup f2 (by simp) fun _ h => nomatch h
theorem sq_stays {K : PySem.W.Frag} {H H1 : Hp} {a z : Addr} {xs : List V} (h : SqL K H a xs) (s : Same H H1) (nz : H z = none) : ∀ G, Keep z H1 G → SqL K G a xs := fun G k => by
  rcases h with (h | ⟨o, h⟩) | h
  · exact .inl (.inl (k _ _ (s _ _ h) (ne_of_none h nz)))
  · exact .inl (.inr ⟨o, k _ _ (s _ _ h) (ne_of_none h nz)⟩)
  · exact .inr h
theorem tabs_stay {T : List (Addr × Str)} {H H1 : Hp} {z : Addr} (h : LamX.Tabs T H) (s : Same H H1) (nz : H z = none) : ∀ G, Keep z H1 G → LamX.Tabs T G := fun G k p hp => by
  obtain ⟨ps, h1, h2, h3⟩ := h p hp
  refine ⟨ps, k _ _ (s _ _ h1) (ne_of_none h1 nz), h2, fun pos cv hc => ?_⟩
  obtain ⟨c, e1, e2⟩ := h3 pos cv hc
  exact ⟨c, e1, k _ _ (s _ _ e2) (ne_of_none e2 nz)⟩
theorem ext_sq {K : PySem.W.Frag} {H G : Hp} {a : Addr} {xs : List V} (h : SqL K H a xs) (e : LamX.ExtN H G) : SqL K G a xs := by
  rcases h with (h | ⟨o, h⟩) | h
  · exact .inl (.inl (e _ _ h fun _ q => nomatch q))
  · exact .inl (.inr ⟨o, e _ _ h fun _ q => nomatch q⟩)
  · exact .inr h
def CallsAt (P : Program) (w : World) (K : PySem.W.Frag) (mg : Str → Option Value) (base : Heap) (C : Nat → Addr) (H : Hp) (l : Addr) (fs : List Addr) : Prop := H l = some (.lst (fs.map V.ref)) ∧ ∀ f ∈ fs, LamAt P w K mg base C H f
theorem LamAt.upd {P : Program} {w : World} {K : PySem.W.Frag} {mg : Str → Option Value} {base : Heap} {C : Nat → Addr} {H : Hp} {f l : Addr} {xs ys : List V} (h : LamAt P w K mg base C H f) (e : H l = some (.lst xs)) : LamAt P w K mg base C (L2.upd H l (.lst ys)) f := by
  obtain ⟨F, b, L, h1, h2⟩ := h
  exact ⟨F, b, L, (upd_ne (ne_of h1 e fun q => by
    unfold LamO at q
    cases q)).trans h1, (upd_ne (ne_of h2 e fun q => by
    unfold CodeO at q
    cases q)).trans h2⟩
theorem CallsAt.more {P : Program} {w : World} {K : PySem.W.Frag} {mg : Str → Option Value} {base : Heap} {C : Nat → Addr} {G G2 : Hp} {l f : Addr} {fs : List Addr} (h : CallsAt P w K mg base C G l fs) (e : ExtN G G2) (hf : LamAt P w K mg base C G2 f) : CallsAt P w K mg base C (L2.upd G2 l (.lst (fs.map V.ref ++ [.ref f]))) l (fs ++ [f]) := by
  have el : G2 l = some (.lst (fs.map V.ref)) := e _ _ h.1 fun _ q => nomatch q
  refine ⟨upd_same.trans (by simp), fun g hg => ?_⟩
  rcases List.mem_append.mp hg with z | z
  · exact ((h.2 g z).ext e).upd el
  · rw [List.mem_singleton.mp z]
    exact hf.upd el
/-- all but the list at l and the tables stay -/
theorem ext_upd {G G2 : Hp} {l : Addr} {o : HO} {H0 : Hp} (e0 : ExtN H0 G) (e : ExtN G G2) (n : H0 l = none) : ExtN H0 (upd G2 l o) := fun b u h t => (upd_ne (ne_of_none h n)).trans (e _ _ (e0 _ _ h t) t)
section
variable {P : Program} {w : World} {K : PySem.W.Frag} {mg : Str → Option Value} {base : Heap} {C : Nat → Addr} {cT cN cW : Addr}
set_option maxHeartbeats 4000000 in
theorem law_reads {fL fR fF fW fH fE fI fSt fCe fTk fNe fWd fSa c PL PR a : Addr} {dR dF dW dH dE dI dSt dCe dTk dNe dWd dSa : FuncData} {cdv : Value} {s : Shared} {H : Hp} {A : Around} {outer : List Env} {Q : VK} {E : XK} {ns : List Int} {psF psW psH psE psI : List Str} {sF sW sH sE sI : Stmt}
    (Z : Cl K mg C cT cN cW) (DF : Df K mg "front_of" sF psF fF dF) (DW : Df K mg "within" sW psW fW dW) (DH : Df K mg "front_holds" sH psH fH dH) (DE : Df K mg "fence_of" sE psE fE dE) (DI : Df K mg "is_fence" sI psI fI dI)
    (GF : FnOk P w K mg base (L2.CX P w) 8 fF dF psF (spEnds3 (C 0) (C 1))) (GW : FnOk P w K mg base (L2.CX P w) 8 fW dW psW (spEnds (C 0) (C 1))) (GH : FnOk P w K mg base (L2.CX P w) 8 fH dH psH (spEnds5 (C 0) (C 1)))
    (GE : FnOk P w K mg base (L2.CX P w) 8 fE dE psE (spOne2 (C 0) (C 1))) (GI : FnOk P w K mg base (L2.CX P w) 8 fI dI psI (spOne3 (C 0) (C 1)))
    (DSt : Df K mg "_law_state" sState ["_law_script", "_law_k"] fSt dSt) (DCe : Df K mg "_law_cell_at" sCell ["_law_script", "_law_k"] fCe dCe) (DTk : Df K mg "_law_take" sTake ["_law_state_here", "_law_far"] fTk dTk) (DNe : Df K mg "_law_net" sNet ["_law_state_here", "_law_most", "_law_far"] fNe dNe)
    (DWd : Df K mg "_law_word" sWord ["_law_e"] fWd dWd) (DSa : Df K mg "_law_said" sSaid ["_law_call"] fSa dSa) (gR : mg "_law_refused" = some (.ref fR)) (kR : PySem.W.keepIn K (.ref fR) = true) (bR : Binds K dR ["_law_net_here", "_law_calls"] [])
    (GR : FnOk P w K mg base CX0 12 fR dR ["_law_net_here", "_law_calls"] (spRefused P w K mg base C [(PL, qLaw), (PR, qRef)]))
    (mi : mg "isinstance" = none) (mV : mg "ValueError" = none) (mR : mg "range" = none) (mMx : mg "max" = none) (mMn : mg "min" = none) (ml : mg "len" = none) (mT : mg "tuple" = none) (mI : mg "int" = none)
    (TBL : LamX.TabB base mg c PL) (hLR : PL ≠ PR) (hc : cdv = .ref c) (hr : Room 12 (A.deeper (envOfC "law" (defScope sLaw) s.heap.objs.size fL cdv))) (hPL : H PL = some (.tbl #[])) (hPR : H PR = some (.tbl #[])) (hS : SqL K H a (ns.map V.int)) (hQ : ∀ G, Q (.bl true) G) :
    ∃ t, PSs (cxOf CX0 P w K mg base ["_law_script", "_law_k", "_law_state_here", "_law_net_here", "_law_calls", "_law_bads", "_law_bad", "_law_words"] "law" (defScope sLaw) fL cdv A outer s H E).nox (defBody sLaw) t ∧ t { nx := fun _ G => Q .non G, rt := Q } (L2.start ["_law_script", "_law_k", "_law_state_here", "_law_net_here", "_law_calls", "_law_bads", "_law_bad", "_law_words"] [.ref a]) H := by
  have hrW := hr.mono (show 8 ≤ 12 by decide)
  have hcode : (cxOf CX0 P w K mg base ["_law_script", "_law_k", "_law_state_here", "_law_net_here", "_law_calls", "_law_bads", "_law_bad", "_law_words"] "law" (defScope sLaw) fL cdv A outer s H E).nox.env.code = .ref c := hc
  have hmL : (PL, qLaw) ∈ [(PL, qLaw), (PR, qRef)] := List.mem_cons_self
  have huL : ∀ p ∈ [(PL, qLaw), (PR, qRef)], p.1 = PL → p.2 = qLaw := fun p hp e => by
    simp only [List.mem_cons, List.not_mem_nil, or_false] at hp
    rcases hp with rfl | rfl
    · rfl
    · exact absurd e.symm hLR
  have GSt : FnOk P w K mg base CX0 8 fSt dSt ["_law_script", "_law_k"] (spState K) := ok_state (k := 6) DSt DCe ml mMx
  have GNe : FnOk P w K mg base CX0 8 fNe dNe ["_law_state_here", "_law_most", "_law_far"] spNet := ok_net (k := 6) DTk mR mT mI mMn DNe
  have GWd : Words P w K mg base 7 fWd dWd C cW := ok_words (k := 6) Z mi mV DWd
  obtain ⟨ocS, odS, kVS, docS, pmS, anS, cdS, ctS, slS, rfl, lkS, hcS⟩ := DSa.F.ex
  refine ⟨_, (pss_cons (ps_for PassesOwn.never rfl (pi_range1 (by rfl) mR (pa_cons (pe_callB (call_max2 rfl) (by rfl) mMx (by decide +kernel) (pa_cons pe_int (pa_cons (pe_callB (call_min2 rfl) (by rfl) mMn (by decide +kernel) (pa_cons (pe_callB call_len_seq (by rfl) ml PySem.boot_len (pa_cons (pv 0) pa_nil)) (pa_cons pe_int pa_nil))) pa_nil))) pa_nil)) (pg_name (i := 1) scLaw.nd rfl (.inl rfl))
    (pss_cons (ps_set (i := 2) scLaw.nd rfl (.inl rfl) (pe_call GSt (hr.mono (by decide)) (by rfl) DSt.g DSt.F.kp DSt.b .nil pass0 (pa_cons (pv 0) (pa_cons (pv 1) pa_nil))))
    (pss_cons (ps_set (i := 3) scLaw.nd rfl (.inr rfl) (pe_call GNe (hr.mono (by decide)) (by rfl) DNe.g DNe.F.kp DNe.b .nil pass0 (pa_cons (pv 2) (pa_cons pe_int (pa_cons pe_int pa_nil)))))
    (pss_cons (ps_set (i := 4) scLaw.nd rfl (.inl rfl) (pe_lst (pa_cons (pe_lambda (T := [(PL, qLaw), (PR, qRef)]) TBL hcode hmL huL rfl (fun y hy e => by simp only [List.mem_cons, List.not_mem_nil, or_false] at hy; rcases hy with rfl | rfl | rfl | rfl <;> cases e)) pa_nil)))
    (pss_cons (ps_expr (pe_bm PySem.F.plainAttrs_list PySem.F.slot_list_append PySem.F.type_list_append mt_append (pv 4) (pa_cons (pe_lambda (T := [(PL, qLaw), (PR, qRef)]) TBL hcode hmL huL rfl (fun y hy e => by simp only [List.mem_cons, List.not_mem_nil, or_false] at hy; rcases hy with rfl | rfl | rfl | rfl <;> cases e)) pa_nil)))
    (pss_cons (ps_expr (pe_bm PySem.F.plainAttrs_list PySem.F.slot_list_append PySem.F.type_list_append mt_append (pv 4) (pa_cons (pe_lambda (T := [(PL, qLaw), (PR, qRef)]) TBL hcode hmL huL rfl (fun y hy e => by simp only [List.mem_cons, List.not_mem_nil, or_false] at hy; rcases hy with rfl | rfl | rfl | rfl <;> cases e)) pa_nil)))
    (pss_cons (ps_if (pt_not (pt_val (pe_call GR hr (by rfl) gR kR bR .nil pass0 (pa_cons (pv 3) (pa_cons (pv 4) pa_nil))))) (pss_one (ps_ret pe_bl)) pss_nil)
    (pss_cons (ps_set (i := 5) scLaw.nd rfl (.inl rfl) (pe_lst (pa_cons (pe_tup (pa_cons pe_int (pa_cons (pe_tup (pa_cons (pe_tup (pa_cons pe_int (pa_cons pe_int (pa_cons pe_int (pa_cons pe_int pa_nil))))) pa_nil)) pa_nil))) (pa_cons (pe_tup (pa_cons pe_int (pa_cons (pe_tup (pa_cons (pe_tup (pa_cons pe_int (pa_cons pe_int (pa_cons pe_int (pa_cons pe_int pa_nil))))) pa_nil)) pa_nil))) (pa_cons (pe_tup (pa_cons pe_int (pa_cons (pe_tup (pa_cons (pe_tup (pa_cons pe_int (pa_cons pe_int (pa_cons pe_int (pa_cons pe_int pa_nil))))) pa_nil)) pa_nil))) (pa_cons (pe_tup (pa_cons pe_int (pa_cons (pe_tup (pa_cons (pe_tup (pa_cons pe_int (pa_cons pe_int (pa_cons pe_int (pa_cons pe_int pa_nil))))) pa_nil)) pa_nil))) pa_nil))))))
    (pss_cons (ps_for PassesOwn.never rfl (pi_list (pe_op op_cat (pv 5) (pe_lst (pa_cons pe_non (pa_cons (pe_tup pa_nil) (pa_cons (pe_slice sl_tup (pv 3) po_none (po_some pe_int)) (pa_cons (pe_tup (pa_cons pe_int (pa_cons (pe_tup pa_nil) pa_nil))) (pa_cons (pe_tup (pa_cons pe_int (pa_cons (pe_tup pa_nil) pa_nil))) (pa_cons (pe_tup (pa_cons pe_bl (pa_cons (pe_tup pa_nil) pa_nil))) pa_nil))))))))) (pg_name (i := 6) scLaw.nd rfl (.inr rfl))
    (pss_cons (ps_set (i := 7) scLaw.nd rfl (.inl rfl) (pe_lst (pa_cons (LamX.pe_lamcall (T := [(PL, qLaw), (PR, qRef)]) (TT := TSaid C) (Ng := ["_law_call", "_law_e"]) (k := 9) (by rfl) DSa.g DSa.F.kp lkS hcS DSa.b scSaid rfl (.inl rfl) (said_gives GWd DWd hrW Z.gW) TBL hcode hmL huL (hr.mono (by decide)) (LamX.lamS_by (sc := defScope sLaw) (by decide +kernel)) rfl (fun _ _ _ _ _ => rfl) (fun A outer s H E f2 c2 hr2 => pe_call GE (hr2.mono (by decide)) (by rfl) DE.g DE.F.kp DE.b .nil (passes_call (takes_of rfl rfl rfl rfl) fun _ _ _ _ h => h) (pa_cons (pv 6) (pa_cons pe_non pa_nil)))) pa_nil)))
    (pss_cons (ps_expr (pe_bm PySem.F.plainAttrs_list PySem.F.slot_list_append PySem.F.type_list_append mt_append (pv 7) (pa_cons (LamX.pe_lamcall (T := [(PL, qLaw), (PR, qRef)]) (TT := TSaid C) (Ng := ["_law_call", "_law_e"]) (k := 9) (by rfl) DSa.g DSa.F.kp lkS hcS DSa.b scSaid rfl (.inl rfl) (said_gives GWd DWd hrW Z.gW) TBL hcode hmL huL (hr.mono (by decide)) (LamX.lamS_by (sc := defScope sLaw) (by decide +kernel)) rfl (fun _ _ _ _ _ => rfl) (fun A outer s H E f2 c2 hr2 => pe_call GI (hr2.mono (by decide)) (by rfl) DI.g DI.F.kp DI.b .nil (passes_call (takes_of rfl rfl rfl rfl) fun _ _ _ _ h => h) (pa_cons (pv 6) (pa_cons pe_non (pa_cons pe_non pa_nil))))) pa_nil)))
    (pss_one (ps_if (pt_cmpR (op_neD hr.units) (pv 7) (pe_lst (pa_cons (pe_tup (pa_cons pe_str pa_nil)) (pa_cons (pe_tup (pa_cons pe_str pa_nil)) pa_nil))) (nomark _)) (pss_one (ps_ret pe_bl)) pss_nil)))))
    (pss_one (ps_for PassesOwn.never rfl (pi_list (pe_lst (pa_cons (pe_un un_neg pe_int) (pa_cons (pe_ix ix_tup (pv 3) pe_int (fun _ _ => rfl)) (pa_cons pe_bl (pa_cons pe_non (pa_cons pe_str (pa_cons (pe_tup (pa_cons pe_int pa_nil)) pa_nil)))))))) (pg_name (i := 6) scLaw.nd rfl (.inr rfl))
    (pss_cons (ps_set (i := 7) scLaw.nd rfl (.inl rfl) (pe_lst (pa_cons (LamX.pe_lamcall (T := [(PL, qLaw), (PR, qRef)]) (TT := TSaid C) (Ng := ["_law_call", "_law_e"]) (k := 9) (by rfl) DSa.g DSa.F.kp lkS hcS DSa.b scSaid rfl (.inl rfl) (said_gives GWd DWd hrW Z.gW) TBL hcode hmL huL (hr.mono (by decide)) (LamX.lamS_by (sc := defScope sLaw) (by decide +kernel)) rfl (fun _ _ _ _ _ => rfl) (fun A outer s H E f2 c2 hr2 => pe_call GE (hr2.mono (by decide)) (by rfl) DE.g DE.F.kp DE.b .nil (passes_call (takes_of rfl rfl rfl rfl) fun _ _ _ _ h => h) (pa_cons (pv 3) (pa_cons (pv 6) pa_nil)))) pa_nil)))
    (pss_cons (ps_expr (pe_bm PySem.F.plainAttrs_list PySem.F.slot_list_append PySem.F.type_list_append mt_append (pv 7) (pa_cons (LamX.pe_lamcall (T := [(PL, qLaw), (PR, qRef)]) (TT := TSaid C) (Ng := ["_law_call", "_law_e"]) (k := 9) (by rfl) DSa.g DSa.F.kp lkS hcS DSa.b scSaid rfl (.inl rfl) (said_gives GWd DWd hrW Z.gW) TBL hcode hmL huL (hr.mono (by decide)) (LamX.lamS_by (sc := defScope sLaw) (by decide +kernel)) rfl (fun _ _ _ _ _ => rfl) (fun A outer s H E f2 c2 hr2 => pe_call GI (hr2.mono (by decide)) (by rfl) DI.g DI.F.kp DI.b .nil (passes_call (takes_of rfl rfl rfl rfl) fun _ _ _ _ h => h) (pa_cons (pv 3) (pa_cons (pv 6) (pa_cons pe_non pa_nil))))) pa_nil)))
    (pss_one (ps_if (pt_cmpR (op_neD hr.units) (pv 7) (pe_lst (pa_cons (pe_tup (pa_cons pe_str pa_nil)) (pa_cons (pe_tup (pa_cons pe_str pa_nil)) pa_nil))) (nomark _)) (pss_one (ps_ret pe_bl)) pss_nil)))))))))))))))
    (pss_one (ps_ret pe_bl))), ?_⟩
  have len0 : (0 : Int) ≤ ((ns.map V.int).length : Int) := Int.natCast_nonneg _
  refine ⟨.ref a, rfl, a, _, rfl, .inl hS, _, 3, rfl, 1, _, rfl, _, rfl, by split <;> split <;> omega, by split <;> split <;> omega, ?_⟩
  have T0 : LamX.Tabs [(PL, qLaw), (PR, qRef)] H := fun p hp => by
    simp only [List.mem_cons, List.not_mem_nil, or_false] at hp
    rcases hp with rfl | rfl
    · exact LamX.TabS.nil hPL
    · exact LamX.TabS.nil hPR
  refine for_range (lo := 0) (fun _ σ H' => ∃ y1 y2 y3 y4 y5 y6 y7 : Option V, σ = [some (.ref a), y1, y2, y3, y4, y5, y6, y7] ∧ LamX.Tabs [(PL, qLaw), (PR, qRef)] H' ∧ SqL K H' a (ns.map V.int)) ⟨none, none, none, none, none, none, none, rfl, T0, hS⟩ (fun i σ H' hi h => ?_) (fun σ H' h => ?_)
  · obtain ⟨y1, y2, y3, y4, y5, y6, y7, rfl, hTb, hSq⟩ := h
    -- the state, the net
    refine ⟨.ref a, rfl, .int (0 + (i : Int)), rfl, a, ns, i, (by show [V.ref a, V.int (0 + (i : Int))] = _; rw [Int.zero_add]), hSq, fun Hz z sz nz stz => ?_⟩
    refine ⟨.ref z, rfl, z, 10, 30, rfl, stz, by decide, by decide, by decide, by decide, fun Hn x r ts p rs kn stn hN ok _ _ => ?_⟩
    have hTn := tabs_stay hTb sz nz _ kn
    have hSn := sq_stays hSq sz nz _ kn
    -- the calls
    refine ⟨hTn, fun f1 c1 G1 e1 m1 T1 g1 o1 d1 => ?_⟩
    refine ⟨by show 1 ≤ sizeLine; decide, fun l nl => ?_⟩
    have A1 : CallsAt P w K mg base C (upd G1 l (.lst [.ref f1])) l [f1] := ⟨upd_same, fun f hf => by
      rw [List.mem_singleton.mp hf]
      exact ⟨_, _, lok_ends3 (x := "front_of") (nscope_by (by rfl)) rfl (fun b pm ctv us hl => match us, hl with | [_, _, _], _ => rfl) GF (by rfl) DF.g DF.F.kp DF.b (by decide), (upd_ne (ne_of_none o1 nl)).trans o1, (upd_ne (ne_of_none d1 nl)).trans d1⟩⟩
    have E1 : ExtN Hn (upd G1 l (.lst [.ref f1])) := e1.trans (ExtN.of (same_new nl))
    have T1' : Tabs [(PL, qLaw), (PR, qRef)] (upd G1 l (.lst [.ref f1])) := T1.ext (same_new nl)
    have nl0 : Hn l = none := m1 _ nl
    refine ⟨.ref l, rfl, .inl ⟨rfl, _, SqL.of upd_same⟩, T1', fun f2 c2 G2 e2 _ T2 g2 o2 d2 => ⟨l, _, _, rfl, rfl, e2 _ _ upd_same (fun _ q => nomatch q), by show 1 < sizeLine; decide, ?_⟩⟩
    have A2 := A1.more e2 ⟨_, _, lok_ends (x := "within") (nscope_by (by rfl)) rfl (fun b pm ctv us hl => match us, hl with | [_, _, _], _ => rfl) GW (by rfl) DW.g DW.F.kp DW.b (by decide), o2, d2⟩
    have E2 := ext_upd (o := .lst ([.ref f1] ++ [.ref f2])) E1 e2 nl0
    have T2' := tabs_upd (ys := [.ref f1] ++ [.ref f2]) T2 (e2 _ _ A1.1 fun _ q => nomatch q)
    refine ⟨.ref l, rfl, .inl ⟨rfl, _, SqL.of A2.1⟩, T2', fun f3 c3 G3 e3 _ T3 g3 o3 d3 => ⟨l, _, _, rfl, rfl, e3 _ _ A2.1 (fun _ q => nomatch q), by show 2 < sizeLine; decide, ?_⟩⟩
    have A3 := A2.more e3 ⟨_, _, lok_ends5 (x := "front_holds") (nscope_by (by rfl)) rfl (fun b pm ctv us hl => match us, hl with | [_, _, _], _ => rfl) GH (by rfl) DH.g DH.F.kp DH.b (by decide), o3, d3⟩
    have E3 := ext_upd (o := .lst ([.ref f1, .ref f2] ++ [.ref f3])) E2 e3 nl0
    have T3' := tabs_upd (ys := [.ref f1, .ref f2] ++ [.ref f3]) T3 (e3 _ _ A2.1 fun _ q => nomatch q)
    -- refused
    refine ⟨.ref x, rfl, .ref l, rfl, x, r, l, ts, p, rs, _, rfl, hN.ext E3, ok, A3.1, A3.2, T3', fun G6 e6 T6 => ?_⟩
    refine ⟨_, rfl, iteF ?_⟩
    have E6 := E3.trans e6
    have hN6 := hN.ext E6
    have hS6 := ext_sq hSn E6
    have p1 := ok.p1
    -- bads
    refine ⟨by show 4 ≤ sizeLine; decide, fun u1 mu1 => ⟨by show 1 ≤ sizeLine; decide, fun v1 mv1 => ⟨by show 2 ≤ sizeLine; decide, fun t1 mt1 => ?_⟩⟩⟩
    refine ⟨by show 4 ≤ sizeLine; decide, fun u2 mu2 => ⟨by show 1 ≤ sizeLine; decide, fun v2 mv2 => ⟨by show 2 ≤ sizeLine; decide, fun t2 mt2 => ?_⟩⟩⟩
    refine ⟨by show 4 ≤ sizeLine; decide, fun u3 mu3 => ⟨by show 1 ≤ sizeLine; decide, fun v3 mv3 => ⟨by show 2 ≤ sizeLine; decide, fun t3 mt3 => ?_⟩⟩⟩
    refine ⟨by show 4 ≤ sizeLine; decide, fun u4 mu4 => ⟨by show 1 ≤ sizeLine; decide, fun v4 mv4 => ⟨by show 2 ≤ sizeLine; decide, fun t4 mt4 => ?_⟩⟩⟩
    refine ⟨by show 4 ≤ sizeLine; decide, fun Lb nLb => ?_⟩
    have sLb := same_new (o := .lst [.ref t1, .ref t2, .ref t3, .ref t4]) nLb
    have st4 := (same_new (o := .tup [.int 2, .ref v4]) mt4).trans sLb
    have sv4 := (same_new (o := .tup [.ref u4]) mv4).trans st4
    have su4 := (same_new (o := .tup [.int 0, .int 2, .int 1, .int 0]) mu4).trans sv4
    have st3 := (same_new (o := .tup [.int 2, .ref v3]) mt3).trans su4
    have sv3 := (same_new (o := .tup [.ref u3]) mv3).trans st3
    have su3 := (same_new (o := .tup [.int 0, .int 1, .int 1, .int 100]) mu3).trans sv3
    have st2 := (same_new (o := .tup [.int 2, .ref v2]) mt2).trans su3
    have sv2 := (same_new (o := .tup [.ref u2]) mv2).trans st2
    have su2 := (same_new (o := .tup [.int 0, .int 1, .int 0, .int 0]) mu2).trans sv2
    have st1 := (same_new (o := .tup [.int 2, .ref v1]) mt1).trans su2
    have sv1 := (same_new (o := .tup [.ref u1]) mv1).trans st1
    have su1 := (same_new (o := .tup [.int 0, .int 0, .int 1, .int 0]) mu1).trans sv1
    have B1 : BadNet _ (.ref t1) := badRoad (su2 _ _ upd_same) (st1 _ _ upd_same) (sv1 _ _ upd_same) (fun G e => by unfold roadB; rw [tupV_ref e]; rfl)
    have B2 : BadNet _ (.ref t2) := badRoad (su3 _ _ upd_same) (st2 _ _ upd_same) (sv2 _ _ upd_same) (fun G e => by unfold roadB; rw [tupV_ref e]; rfl)
    have B3 : BadNet _ (.ref t3) := badRoad (su4 _ _ upd_same) (st3 _ _ upd_same) (sv3 _ _ upd_same) (fun G e => by unfold roadB; rw [tupV_ref e]; rfl)
    have B4 : BadNet _ (.ref t4) := badRoad (sLb _ _ upd_same) (st4 _ _ upd_same) (sv4 _ _ upd_same) (fun G e => by unfold roadB; rw [tupV_ref e]; rfl)
    obtain ⟨Ha, hHa⟩ : ∃ Ha, Ha = upd (upd (upd (upd (upd (upd (upd (upd (upd (upd (upd (upd (upd G6 u1 (.tup [.int 0, .int 0, .int 1, .int 0])) v1 (.tup [.ref u1])) t1 (.tup [.int 2, .ref v1])) u2 (.tup [.int 0, .int 1, .int 0, .int 0])) v2 (.tup [.ref u2])) t2 (.tup [.int 2, .ref v2])) u3 (.tup [.int 0, .int 1, .int 1, .int 100])) v3 (.tup [.ref u3])) t3 (.tup [.int 2, .ref v3])) u4 (.tup [.int 0, .int 2, .int 1, .int 0])) v4 (.tup [.ref u4])) t4 (.tup [.int 2, .ref v4])) Lb (.lst [.ref t1, .ref t2, .ref t3, .ref t4]) := ⟨_, rfl⟩
    have eLb0 : Ha Lb = some (.lst [.ref t1, .ref t2, .ref t3, .ref t4]) := hHa ▸ upd_same
    rw [← hHa] at su1 B1 B2 B3 B4
    show (fun H0 : Hp => _) (upd (upd (upd (upd (upd (upd (upd (upd (upd (upd (upd (upd (upd G6 u1 (.tup [.int 0, .int 0, .int 1, .int 0])) v1 (.tup [.ref u1])) t1 (.tup [.int 2, .ref v1])) u2 (.tup [.int 0, .int 1, .int 0, .int 0])) v2 (.tup [.ref u2])) t2 (.tup [.int 2, .ref v2])) u3 (.tup [.int 0, .int 1, .int 1, .int 100])) v3 (.tup [.ref u3])) t3 (.tup [.int 2, .ref v3])) u4 (.tup [.int 0, .int 2, .int 1, .int 0])) v4 (.tup [.ref u4])) t4 (.tup [.int 2, .ref v4])) Lb (.lst [.ref t1, .ref t2, .ref t3, .ref t4]))
    rw [← hHa]
    have hNa := hN6.ext (ExtN.of su1)
    have hSa := ext_sq hS6 (ExtN.of su1)
    have Ta := T6.ext su1
    refine ⟨.ref Lb, rfl, Nat.zero_le _, fun w1 nw1 => ?_⟩
    refine ⟨.ref x, rfl, 1, rfl, x, _, rfl, SqT.of (same_new nw1 _ _ hNa.1), (show ¬ (HT.sIx 2 0 none = 0 ∧ HT.sIx 2 2 (some 1) = 2) by decide), fun w2 nw2 => ?_⟩
    refine ⟨Nat.zero_le _, fun w3 nw3 => ⟨by show 2 ≤ sizeLine; decide, fun w4 nw4 => ?_⟩⟩
    refine ⟨Nat.zero_le _, fun w5 nw5 => ⟨by show 2 ≤ sizeLine; decide, fun w6 nw6 => ?_⟩⟩
    refine ⟨Nat.zero_le _, fun w7 nw7 => ⟨by show 2 ≤ sizeLine; decide, fun w8 nw8 => ?_⟩⟩
    refine ⟨by show 6 ≤ sizeLine; decide, fun Lc nLc => ?_⟩
    have c9 := same_new (o := .lst [.non, .ref w1, .ref w2, .ref w4, .ref w6, .ref w8]) nLc
    have c8 := (same_new (o := .tup [.bl true, .ref w7]) nw8).trans c9
    have c7 := (same_new (o := .tup []) nw7).trans c8
    have c6 := (same_new (o := .tup [.int 11, .ref w5]) nw6).trans c7
    have c5 := (same_new (o := .tup []) nw5).trans c6
    have c4 := (same_new (o := .tup [.int 0, .ref w3]) nw4).trans c5
    have c3 := (same_new (o := .tup []) nw3).trans c4
    have c2 := (same_new (o := .tup [.int p]) nw2).trans c3
    have c1 := (same_new (o := .tup []) nw1).trans c2
    have B0 : BadNet Ha .non := fun G ex => ⟨dep_non, rfl⟩
    have B5 : BadNet _ (.ref w1) := fun G ex => by
      have f1 := ex _ _ (c2 _ _ upd_same) fun _ q => nomatch q
      refine ⟨dep_tup f1 (by simp) fun _ h => (nomatch h), ?_⟩
      unfold netB
      rw [tupV_ref f1]
    have B6 : BadNet _ (.ref w2) := fun G ex => by
      have f2 := ex _ _ (c3 _ _ upd_same) fun _ q => nomatch q
      refine ⟨dep_tup (xs := [.int p]) f2 (by simp) fun y hy => ?_, ?_⟩
      · rw [List.mem_singleton.mp hy]
        exact dep_int
      · unfold netB
        rw [tupV_ref (xs := [.int p]) f2]
    have B7 : BadNet _ (.ref w4) := badPair (c5 _ _ upd_same) (c4 _ _ upd_same) (fun _ => dep_int) (fun G e => by unfold netB; rw [tupV_ref e]; rfl)
    have B8 : BadNet _ (.ref w6) := badPair (c7 _ _ upd_same) (c6 _ _ upd_same) (fun _ => dep_int) (fun G e => by unfold netB; rw [tupV_ref e]; rfl)
    have B9 : BadNet _ (.ref w8) := badPair (c9 _ _ upd_same) (c8 _ _ upd_same) (fun _ => dep_bl) (fun G e => by unfold netB; rw [tupV_ref e])
    refine ⟨Lb, Lc, _, _, rfl, rfl, c1 _ _ eLb0, upd_same, by show 10 ≤ sizeLine; decide, fun L nL => ⟨L, rfl, ⟨_, SqL.of upd_same⟩, ?_⟩⟩
    have cL := same_new (o := .lst ([.ref t1, .ref t2, .ref t3, .ref t4] ++ [.non, .ref w1, .ref w2, .ref w4, .ref w6, .ref w8])) nL
    have bad : ∀ v ∈ ([.ref t1, .ref t2, .ref t3, .ref t4, .non, .ref w1, .ref w2, .ref w4, .ref w6, .ref w8] : List V), BadNet _ v := fun v hv => by
      have cz := c1.trans cL
      simp only [List.mem_cons, List.not_mem_nil, or_false] at hv
      rcases hv with rfl | rfl | rfl | rfl | rfl | rfl | rfl | rfl | rfl | rfl
      · exact B1.up cz
      · exact B2.up cz
      · exact B3.up cz
      · exact B4.up cz
      · exact B0.up cz
      · exact B5.up cL
      · exact B6.up cL
      · exact B7.up cL
      · exact B8.up cL
      · exact B9.up cL
    have hN1 := hNa.ext (ExtN.of (c1.trans cL))
    have hS1 := ext_sq hSa (ExtN.of (c1.trans cL))
    have T1z := Ta.ext (c1.trans cL)
    refine for_list (xs := [.ref t1, .ref t2, .ref t3, .ref t4, .non, .ref w1, .ref w2, .ref w4, .ref w6, .ref w8]) (fun _ σ G => ∃ x5 x6 : Option V, σ = [some (.ref a), some (.int (0 + (i : Int))), some (.ref z), some (.ref x), some (.ref l), some (.ref Lb), x5, x6] ∧ ExtN _ G ∧ Tabs [(PL, qLaw), (PR, qRef)] G) ⟨y6, y7, rfl, ExtN.refl _, T1z⟩ (fun _ σ G _ h => ?_) (fun q v σ G hv h => ?_) (fun σ G h => ?_)
    · obtain ⟨_, _, rfl, ex, _⟩ := h
      exact SqL.of (ex _ _ upd_same fun _ q => nomatch q)
    · obtain ⟨x5, x6, rfl, ex, Tb⟩ := h
      have bx := bad v (List.mem_of_getElem? hv)
      refine ⟨Tb, fun G1 e1 Tb1 => ?_⟩
      have x1 := ex.trans e1
      obtain ⟨dp1, nb1⟩ := bx G1 x1
      refine ⟨v, rfl, v, .non, rfl, .inl ⟨dp1, nb1, fun G2 s2' => ⟨0, by simp, rfl, rfl, fun G3 w1 s3' ew1 => ?_⟩⟩⟩
      refine ⟨by show 1 ≤ sizeLine; decide, fun l5 n5 => ?_⟩
      have s13 := s2'.trans s3'
      have s35 := same_new (H := G3) (o := .lst [.ref w1]) n5
      have s15 := s13.trans s35
      have x5' := x1.trans (ExtN.of s15)
      refine ⟨.ref l5, rfl, .inl ⟨rfl, _, SqL.of upd_same⟩, Tb1.ext s15, fun G6 e6 Tb6 => ?_⟩
      have x6' := x5'.trans e6
      obtain ⟨dp2, nb2⟩ := bx G6 x6'
      refine ⟨v, rfl, v, .non, .non, rfl, .inl ⟨dp2, nb2, fun G7 s7 => ⟨0, by simp, rfl, rfl, fun G8 w8 s8 ew8 => ?_⟩⟩⟩
      have s68 := s7.trans s8
      have el5 : G8 l5 = some (.lst [.ref w1]) := s68 _ _ (e6 _ _ upd_same fun _ q => nomatch q)
      have ew1' : G8 w1 = some (.tup [.str "net"]) := s68 _ _ (e6 _ _ (s35 _ _ ew1) fun _ q => nomatch q)
      refine ⟨l5, _, _, rfl, rfl, el5, by show 1 < sizeLine; decide, ?_⟩
      refine ⟨.ref l5, rfl, by show 1 ≤ sizeLine; decide, fun t9 n9 => ⟨by show 1 ≤ sizeLine; decide, fun t10 n10 => ⟨by show 2 ≤ sizeLine; decide, fun l11 n11 => ?_⟩⟩⟩
      have y11 := same_new (o := .lst [.ref t9, .ref t10]) n11
      have y10 := (same_new n10).trans y11
      have y9 := (same_new n9).trans y10
      have pl : ∀ {G' : Hp} {t : Addr}, G' t = some (.tup [.str "net"]) → Dp K G' (.ref t) (.tuple [.str "net"]) := fun e => .tup (SqT.of e) (.cons (.str _) .nil)
      have tl : ∀ t, G8 t = some (.tup [.str "net"]) → (upd G8 l5 (.lst ([.ref w1] ++ [.ref w8]))) t = some (.tup [.str "net"]) := fun t e => (upd_ne (ne_of e el5 fun q => nomatch q)).trans e
      refine ⟨.list [.tuple [.str "net"], .tuple [.str "net"]], .list [.tuple [.str "net"], .tuple [.str "net"]], .lst (SqL.of (y9 _ _ upd_same)) (.cons (pl (y9 _ _ (tl _ ew1'))) (.cons (pl (y9 _ _ (tl _ ew8))) .nil)), .lst (SqL.of upd_same) (.cons (pl (y10 _ _ upd_same)) (.cons (pl (y11 _ _ upd_same)) .nil)), by decide +kernel, by decide +kernel, _, rfl, ?_⟩
      rw [show PyData.eqv (.list [.tuple [.str "net"], .tuple [.str "net"]]) (.list [.tuple [.str "net"], .tuple [.str "net"]]) = true from by decide +kernel]
      refine iteF ?_
      refine ⟨some v, some (.ref l5), rfl, fun c o hc ho => ?_, (tabs_upd (Tb6.ext s68) el5).ext y9⟩
      have g3 : G3 c = some o := s13 _ _ (e1 _ _ (ex _ _ hc ho) ho)
      have g8 : G8 c = some o := s68 _ _ (e6 _ _ (s35 _ _ g3) ho)
      exact y9 _ _ ((upd_ne (ne_of_none g3 n5)).trans g8)
    · obtain ⟨x5, x6, rfl, ex, Tb⟩ := h
      have hNb := hN1.ext ex
      have hSb := ext_sq hS1 ex
      -- places
      refine ⟨1, rfl, .ref x, rfl, x, _, 0, _, rfl, rfl, SqT.of hNb.1, rfl, by show 1 ≤ sizeLine; decide, fun t0 nt0 => ⟨by show 6 ≤ sizeLine; decide, fun Ld nLd => ⟨Ld, rfl, ⟨_, SqL.of upd_same⟩, ?_⟩⟩⟩
      have q2 := (same_new (H := G) (o := .tup [.int 0]) nt0).trans (same_new (o := .lst [.int (-1), .int p, .bl true, .non, .str "0", .ref t0]) nLd)
      obtain ⟨H2, hH2⟩ : ∃ H2, H2 = upd (upd G t0 (.tup [.int 0])) Ld (.lst [.int (-1), .int p, .bl true, .non, .str "0", .ref t0]) := ⟨_, rfl⟩
      rw [← hH2] at q2
      have eLd : H2 Ld = some (.lst [.int (-1), .int p, .bl true, .non, .str "0", .ref t0]) := hH2 ▸ upd_same
      have et0 : H2 t0 = some (.tup [.int 0]) := hH2 ▸ same_new nLd _ _ upd_same
      have hN2 := hNb.ext (ExtN.of q2)
      have hS2 := ext_sq hSb (ExtN.of q2)
      have p2 := ok.p2
      have bad3 : ∀ v ∈ ([.int (-1), .int p, .bl true, .non, .str "0", .ref t0] : List V), isIn v 0 (p - 1) = false ∧ ∀ G' : Hp, ExtN H2 G' → ∃ n, Tg G' v n := fun v hv => by
        have num : ∀ i : Int, (i < 0 ∨ p - 1 < i) → isIn (.int i) 0 (p - 1) = false := fun i h => by
          show (decide (0 ≤ i) && decide (i ≤ p - 1)) = false
          rcases h with h | h
          · rw [decide_eq_false (by omega)]
            rfl
          · rw [decide_eq_false (show ¬ (i ≤ p - 1) by omega), Bool.and_false]
        simp only [List.mem_cons, List.not_mem_nil, or_false] at hv
        rcases hv with rfl | rfl | rfl | rfl | rfl | rfl
        · exact ⟨num _ (.inl (by decide)), fun _ _ => ⟨_, .int _⟩⟩
        · exact ⟨num _ (.inr (by omega)), fun _ _ => ⟨_, .int _⟩⟩
        · exact ⟨rfl, fun _ _ => ⟨_, .bl _⟩⟩
        · exact ⟨rfl, fun _ _ => ⟨_, .non⟩⟩
        · exact ⟨rfl, fun _ _ => ⟨_, .str _⟩⟩
        · exact ⟨rfl, fun _ e => ⟨_, .tup (e _ _ et0 fun _ q => nomatch q)⟩⟩
      refine for_list (xs := [.int (-1), .int p, .bl true, .non, .str "0", .ref t0]) (fun _ σ G => ∃ x5 x6 : Option V, σ = [some (.ref a), some (.int (0 + (i : Int))), some (.ref z), some (.ref x), some (.ref l), some (.ref Lb), x5, x6] ∧ ExtN H2 G ∧ Tabs [(PL, qLaw), (PR, qRef)] G) ⟨x5, x6, rfl, (by rw [hH2]; exact ExtN.refl _), (by have tz := Tb.ext q2; rw [hH2] at tz; exact tz)⟩ (fun _ σ G _ h => ?_) (fun q v σ G hv h => ?_) (fun σ G h => ?_)
      · obtain ⟨_, _, rfl, ex, _⟩ := h
        exact SqL.of (ex _ _ eLd fun _ q => nomatch q)
      · obtain ⟨x5, x6, rfl, ex, Tb⟩ := h
        obtain ⟨hbad, htg⟩ := bad3 v (List.mem_of_getElem? hv)
        refine ⟨Tb, fun G1 e1 Tb1 => ?_⟩
        have x1 := ex.trans e1
        obtain ⟨n1, tg1⟩ := htg G1 x1
        refine ⟨.ref x, rfl, v, rfl, .ref x, v, rfl, .inr ⟨x, r, ts, p, rs, n1, rfl, hN2.ext x1, ok, tg1, hbad, fun G2 s2' => ⟨1, by simp, rfl, rfl, fun G3 w1 s3' ew1 => ?_⟩⟩⟩
        refine ⟨by show 1 ≤ sizeLine; decide, fun l5 n5 => ?_⟩
        have s13 := s2'.trans s3'
        have s35 := same_new (H := G3) (o := .lst [.ref w1]) n5
        have s15 := s13.trans s35
        have x5' := x1.trans (ExtN.of s15)
        refine ⟨.ref l5, rfl, .inl ⟨rfl, _, SqL.of upd_same⟩, Tb1.ext s15, fun G6 e6 Tb6 => ?_⟩
        have x6' := x5'.trans e6
        obtain ⟨n6, tg6⟩ := htg G6 x6'
        refine ⟨.ref x, rfl, v, rfl, .ref x, v, .non, rfl, .inr ⟨x, r, ts, p, rs, n6, rfl, hN2.ext x6', ok, tg6, hbad, fun G7 s7 => ⟨1, by simp, rfl, rfl, fun G8 w8 s8 ew8 => ?_⟩⟩⟩
        have s68 := s7.trans s8
        have el5 : G8 l5 = some (.lst [.ref w1]) := s68 _ _ (e6 _ _ upd_same fun _ q => nomatch q)
        have ew1' : G8 w1 = some (.tup [.str "place"]) := s68 _ _ (e6 _ _ (s35 _ _ ew1) fun _ q => nomatch q)
        refine ⟨l5, _, _, rfl, rfl, el5, by show 1 < sizeLine; decide, ?_⟩
        refine ⟨.ref l5, rfl, by show 1 ≤ sizeLine; decide, fun t9 n9 => ⟨by show 1 ≤ sizeLine; decide, fun t10 n10 => ⟨by show 2 ≤ sizeLine; decide, fun l11 n11 => ?_⟩⟩⟩
        have y11 := same_new (o := .lst [.ref t9, .ref t10]) n11
        have y10 := (same_new n10).trans y11
        have y9 := (same_new n9).trans y10
        have pl : ∀ {G' : Hp} {t : Addr}, G' t = some (.tup [.str "place"]) → Dp K G' (.ref t) (.tuple [.str "place"]) := fun e => .tup (SqT.of e) (.cons (.str _) .nil)
        have tl : ∀ t, G8 t = some (.tup [.str "place"]) → (upd G8 l5 (.lst ([.ref w1] ++ [.ref w8]))) t = some (.tup [.str "place"]) := fun t e => (upd_ne (ne_of e el5 fun q => nomatch q)).trans e
        refine ⟨.list [.tuple [.str "place"], .tuple [.str "place"]], .list [.tuple [.str "place"], .tuple [.str "place"]], .lst (SqL.of (y9 _ _ upd_same)) (.cons (pl (y9 _ _ (tl _ ew1'))) (.cons (pl (y9 _ _ (tl _ ew8))) .nil)), .lst (SqL.of upd_same) (.cons (pl (y10 _ _ upd_same)) (.cons (pl (y11 _ _ upd_same)) .nil)), by decide +kernel, by decide +kernel, _, rfl, ?_⟩
        rw [show PyData.eqv (.list [.tuple [.str "place"], .tuple [.str "place"]]) (.list [.tuple [.str "place"], .tuple [.str "place"]]) = true from by decide +kernel]
        refine iteF ?_
        refine ⟨some v, some (.ref l5), rfl, fun c o hc ho => ?_, (tabs_upd (Tb6.ext s68) el5).ext y9⟩
        have g3 : G3 c = some o := s13 _ _ (e1 _ _ (ex _ _ hc ho) ho)
        have g8 : G8 c = some o := s68 _ _ (e6 _ _ (s35 _ _ g3) ho)
        exact y9 _ _ ((upd_ne (ne_of_none g3 n5)).trans g8)
      · obtain ⟨x5, x6, rfl, ex, Tb⟩ := h
        exact ⟨some (.int (0 + (i : Int))), some (.ref z), some (.ref x), some (.ref l), some (.ref Lb), x5, x6, rfl, Tb, ext_sq hS2 ex⟩
  · exact hQ _
end
end Wy

namespace Wy
open PySem PySem.Spec PyProof.Rows L2 LamX
/-- what the law promises of a list of numbers; the tables of code are empty at first -/
def spLaw (K : PySem.W.Frag) (Ts : List Addr) : Sp := fun vs H Q _ => ∃ (a : Addr) (ns : List Int), vs = [.ref a] ∧ ns.length ≤ 63 ∧ SqL K H a (ns.map V.int) ∧ (∀ T ∈ Ts, H T = some (.tbl #[])) ∧ ∀ G, Q (.bl true) G
set_option maxHeartbeats 4000000 in
theorem fin_mk {l : PySem.W.OpenLaw} {w : World} {K : PySem.W.Frag} {h : Heap} {mg : Str → Option Value} {fa cL TL cR TR f1 f2 f3 f4 f5 fN fP fE fFo fWi fFh fFe fIf fSt fCe fTk fNe fWd fSa fR fL e0 e1 e2 e3 e4 e5 e6 e7 e8 e9 e10 e11 e12 e13 e14 e15 e16 eT eN eW : Addr} {t1 t2 t3 t4 t5 : Tok}
    {od1 an1 : Option Addr} {sl1 : Array (Option Value)} {oc1 kV1 dc1 pm1 ct1 cd1 : Value}
    {od2 an2 : Option Addr} {sl2 : Array (Option Value)} {oc2 kV2 dc2 pm2 ct2 cd2 : Value}
    {od3 an3 : Option Addr} {sl3 : Array (Option Value)} {oc3 kV3 dc3 pm3 ct3 cd3 : Value}
    {od4 an4 : Option Addr} {sl4 : Array (Option Value)} {oc4 kV4 dc4 pm4 ct4 cd4 : Value}
    {od5 an5 : Option Addr} {sl5 : Array (Option Value)} {oc5 kV5 dc5 pm5 ct5 cd5 : Value}
    {odN anN : Option Addr} {slN : Array (Option Value)} {ocN kVN dcN pmN ctN cdN : Value}
    {odP anP : Option Addr} {slP : Array (Option Value)} {ocP kVP dcP pmP ctP cdP : Value}
    {odE anE : Option Addr} {slE : Array (Option Value)} {ocE kVE dcE pmE ctE cdE : Value}
    {odFo anFo : Option Addr} {slFo : Array (Option Value)} {ocFo kVFo dcFo pmFo ctFo cdFo : Value}
    {odWi anWi : Option Addr} {slWi : Array (Option Value)} {ocWi kVWi dcWi pmWi ctWi cdWi : Value}
    {odFh anFh : Option Addr} {slFh : Array (Option Value)} {ocFh kVFh dcFh pmFh ctFh cdFh : Value}
    {odFe anFe : Option Addr} {slFe : Array (Option Value)} {ocFe kVFe dcFe pmFe ctFe cdFe : Value}
    {odIf anIf : Option Addr} {slIf : Array (Option Value)} {ocIf kVIf dcIf pmIf ctIf cdIf : Value}
    {odSt anSt : Option Addr} {slSt : Array (Option Value)} {ocSt kVSt dcSt pmSt ctSt cdSt : Value}
    {odCe anCe : Option Addr} {slCe : Array (Option Value)} {ocCe kVCe dcCe pmCe ctCe cdCe : Value}
    {odTk anTk : Option Addr} {slTk : Array (Option Value)} {ocTk kVTk dcTk pmTk ctTk cdTk : Value}
    {odNe anNe : Option Addr} {slNe : Array (Option Value)} {ocNe kVNe dcNe pmNe ctNe cdNe : Value}
    {odWd anWd : Option Addr} {slWd : Array (Option Value)} {ocWd kVWd dcWd pmWd ctWd cdWd : Value}
    {odSa anSa : Option Addr} {slSa : Array (Option Value)} {ocSa kVSa dcSa pmSa ctSa cdSa : Value}
    {odR anR : Option Addr} {slR : Array (Option Value)} {ocR kVR dcR pmR ctR : Value}
    {odL anL : Option Addr} {slL : Array (Option Value)} {ocL kVL dcL pmL ctL : Value}
    (X : K.In h) (G : h.Ns mainGlobals mg) (hfa : mg "law" = some (.ref fa))
    (tL : h.get? TL = some (PySem.W.tabObj #[]))
    (tR : h.get? TR = some (PySem.W.tabObj #[]))
    (a1 : PySem.W.nsIn K mainGlobals "is_whole" = some (some (.ref f1)))
    (l1 : K.lookup f1 = some ⟨oc1, od1, .func (PySem.W.fnOf "is_whole" "is_whole" (defArgs sWhole) (defBody sWhole) (defScope sWhole) .none kV1 dc1 pm1 an1 cd1 ct1), sl1⟩)
    (c1_ : PySem.W.codeIn K cd1 "is_whole" = true)
    (k1_ : PySem.W.keepIn K (.ref f1) = true)
    (a2 : PySem.W.nsIn K mainGlobals "is_within" = some (some (.ref f2)))
    (l2 : K.lookup f2 = some ⟨oc2, od2, .func (PySem.W.fnOf "is_within" "is_within" (defArgs sWithin) (defBody sWithin) (defScope sWithin) .none kV2 dc2 pm2 an2 cd2 ct2), sl2⟩)
    (c2_ : PySem.W.codeIn K cd2 "is_within" = true)
    (k2_ : PySem.W.keepIn K (.ref f2) = true)
    (a3 : PySem.W.nsIn K mainGlobals "is_tuple_of" = some (some (.ref f3)))
    (l3 : K.lookup f3 = some ⟨oc3, od3, .func (PySem.W.fnOf "is_tuple_of" "is_tuple_of" (defArgs sTupOf) (defBody sTupOf) (defScope sTupOf) .none kV3 dc3 pm3 an3 cd3 ct3), sl3⟩)
    (c3_ : PySem.W.codeIn K cd3 "is_tuple_of" = true)
    (k3_ : PySem.W.keepIn K (.ref f3) = true)
    (a4 : PySem.W.nsIn K mainGlobals "is_road_among" = some (some (.ref f4)))
    (l4 : K.lookup f4 = some ⟨oc4, od4, .func (PySem.W.fnOf "is_road_among" "is_road_among" (defArgs sRoadQ) (defBody sRoadQ) (defScope sRoadQ) .none kV4 dc4 pm4 an4 cd4 ct4), sl4⟩)
    (c4_ : PySem.W.codeIn K cd4 "is_road_among" = true)
    (k4_ : PySem.W.keepIn K (.ref f4) = true)
    (a5 : PySem.W.nsIn K mainGlobals "is_net" = some (some (.ref f5)))
    (l5 : K.lookup f5 = some ⟨oc5, od5, .func (PySem.W.fnOf "is_net" "is_net" (defArgs sNetQ) (defBody sNetQ) (defScope sNetQ) .none kV5 dc5 pm5 an5 cd5 ct5), sl5⟩)
    (c5_ : PySem.W.codeIn K cd5 "is_net" = true)
    (k5_ : PySem.W.keepIn K (.ref f5) = true)
    (aN : PySem.W.nsIn K mainGlobals "check_net" = some (some (.ref fN)))
    (lN : K.lookup fN = some ⟨ocN, odN, .func (PySem.W.fnOf "check_net" "check_net" (defArgs sChkN) (defBody sChkN) (defScope sChkN) .none kVN dcN pmN anN cdN ctN), slN⟩)
    (cN_ : PySem.W.codeIn K cdN "check_net" = true)
    (kN_ : PySem.W.keepIn K (.ref fN) = true)
    (aP : PySem.W.nsIn K mainGlobals "check_place" = some (some (.ref fP)))
    (lP : K.lookup fP = some ⟨ocP, odP, .func (PySem.W.fnOf "check_place" "check_place" (defArgs sChkP) (defBody sChkP) (defScope sChkP) .none kVP dcP pmP anP cdP ctP), slP⟩)
    (cP_ : PySem.W.codeIn K cdP "check_place" = true)
    (kP_ : PySem.W.keepIn K (.ref fP) = true)
    (aE : PySem.W.nsIn K mainGlobals "check_ends" = some (some (.ref fE)))
    (lE : K.lookup fE = some ⟨ocE, odE, .func (PySem.W.fnOf "check_ends" "check_ends" (defArgs sEnds) (defBody sEnds) (defScope sEnds) .none kVE dcE pmE anE cdE ctE), slE⟩)
    (cE_ : PySem.W.codeIn K cdE "check_ends" = true)
    (kE_ : PySem.W.keepIn K (.ref fE) = true)
    (aFo : PySem.W.nsIn K mainGlobals "front_of" = some (some (.ref fFo)))
    (lFo : K.lookup fFo = some ⟨ocFo, odFo, .func (PySem.W.fnOf "front_of" "front_of" (defArgs sFo) (defBody sFo) (defScope sFo) .none kVFo dcFo pmFo anFo cdFo ctFo), slFo⟩)
    (cFo_ : PySem.W.codeIn K cdFo "front_of" = true)
    (kFo_ : PySem.W.keepIn K (.ref fFo) = true)
    (aWi : PySem.W.nsIn K mainGlobals "within" = some (some (.ref fWi)))
    (lWi : K.lookup fWi = some ⟨ocWi, odWi, .func (PySem.W.fnOf "within" "within" (defArgs sWi) (defBody sWi) (defScope sWi) .none kVWi dcWi pmWi anWi cdWi ctWi), slWi⟩)
    (cWi_ : PySem.W.codeIn K cdWi "within" = true)
    (kWi_ : PySem.W.keepIn K (.ref fWi) = true)
    (aFh : PySem.W.nsIn K mainGlobals "front_holds" = some (some (.ref fFh)))
    (lFh : K.lookup fFh = some ⟨ocFh, odFh, .func (PySem.W.fnOf "front_holds" "front_holds" (defArgs sFh) (defBody sFh) (defScope sFh) .none kVFh dcFh pmFh anFh cdFh ctFh), slFh⟩)
    (cFh_ : PySem.W.codeIn K cdFh "front_holds" = true)
    (kFh_ : PySem.W.keepIn K (.ref fFh) = true)
    (aFe : PySem.W.nsIn K mainGlobals "fence_of" = some (some (.ref fFe)))
    (lFe : K.lookup fFe = some ⟨ocFe, odFe, .func (PySem.W.fnOf "fence_of" "fence_of" (defArgs sFe) (defBody sFe) (defScope sFe) .none kVFe dcFe pmFe anFe cdFe ctFe), slFe⟩)
    (cFe_ : PySem.W.codeIn K cdFe "fence_of" = true)
    (kFe_ : PySem.W.keepIn K (.ref fFe) = true)
    (aIf : PySem.W.nsIn K mainGlobals "is_fence" = some (some (.ref fIf)))
    (lIf : K.lookup fIf = some ⟨ocIf, odIf, .func (PySem.W.fnOf "is_fence" "is_fence" (defArgs sIf) (defBody sIf) (defScope sIf) .none kVIf dcIf pmIf anIf cdIf ctIf), slIf⟩)
    (cIf_ : PySem.W.codeIn K cdIf "is_fence" = true)
    (kIf_ : PySem.W.keepIn K (.ref fIf) = true)
    (aSt : PySem.W.nsIn K mainGlobals "_law_state" = some (some (.ref fSt)))
    (lSt : K.lookup fSt = some ⟨ocSt, odSt, .func (PySem.W.fnOf "_law_state" "_law_state" (defArgs sState) (defBody sState) (defScope sState) .none kVSt dcSt pmSt anSt cdSt ctSt), slSt⟩)
    (cSt_ : PySem.W.codeIn K cdSt "_law_state" = true)
    (kSt_ : PySem.W.keepIn K (.ref fSt) = true)
    (aCe : PySem.W.nsIn K mainGlobals "_law_cell_at" = some (some (.ref fCe)))
    (lCe : K.lookup fCe = some ⟨ocCe, odCe, .func (PySem.W.fnOf "_law_cell_at" "_law_cell_at" (defArgs sCell) (defBody sCell) (defScope sCell) .none kVCe dcCe pmCe anCe cdCe ctCe), slCe⟩)
    (cCe_ : PySem.W.codeIn K cdCe "_law_cell_at" = true)
    (kCe_ : PySem.W.keepIn K (.ref fCe) = true)
    (aTk : PySem.W.nsIn K mainGlobals "_law_take" = some (some (.ref fTk)))
    (lTk : K.lookup fTk = some ⟨ocTk, odTk, .func (PySem.W.fnOf "_law_take" "_law_take" (defArgs sTake) (defBody sTake) (defScope sTake) .none kVTk dcTk pmTk anTk cdTk ctTk), slTk⟩)
    (cTk_ : PySem.W.codeIn K cdTk "_law_take" = true)
    (kTk_ : PySem.W.keepIn K (.ref fTk) = true)
    (aNe : PySem.W.nsIn K mainGlobals "_law_net" = some (some (.ref fNe)))
    (lNe : K.lookup fNe = some ⟨ocNe, odNe, .func (PySem.W.fnOf "_law_net" "_law_net" (defArgs sNet) (defBody sNet) (defScope sNet) .none kVNe dcNe pmNe anNe cdNe ctNe), slNe⟩)
    (cNe_ : PySem.W.codeIn K cdNe "_law_net" = true)
    (kNe_ : PySem.W.keepIn K (.ref fNe) = true)
    (aWd : PySem.W.nsIn K mainGlobals "_law_word" = some (some (.ref fWd)))
    (lWd : K.lookup fWd = some ⟨ocWd, odWd, .func (PySem.W.fnOf "_law_word" "_law_word" (defArgs sWord) (defBody sWord) (defScope sWord) .none kVWd dcWd pmWd anWd cdWd ctWd), slWd⟩)
    (cWd_ : PySem.W.codeIn K cdWd "_law_word" = true)
    (kWd_ : PySem.W.keepIn K (.ref fWd) = true)
    (aSa : PySem.W.nsIn K mainGlobals "_law_said" = some (some (.ref fSa)))
    (lSa : K.lookup fSa = some ⟨ocSa, odSa, .func (PySem.W.fnOf "_law_said" "_law_said" (defArgs sSaid) (defBody sSaid) (defScope sSaid) .none kVSa dcSa pmSa anSa cdSa ctSa), slSa⟩)
    (cSa_ : PySem.W.codeIn K cdSa "_law_said" = true)
    (kSa_ : PySem.W.keepIn K (.ref fSa) = true)
    (aR : PySem.W.nsIn K mainGlobals "_law_refused" = some (some (.ref fR)))
    (lR : K.lookup fR = some ⟨ocR, odR, .func (PySem.W.fnOf "_law_refused" "_law_refused" (defArgs sRef) (defBody sRef) (defScope sRef) .none kVR dcR pmR anR (.ref cR) ctR), slR⟩)
    (cR_ : PySem.W.codeIn K (.ref cR) "_law_refused" = true)
    (kR_ : PySem.W.keepIn K (.ref fR) = true)
    (aL : PySem.W.nsIn K mainGlobals "law" = some (some (.ref fL)))
    (lL : K.lookup fL = some ⟨ocL, odL, .func (PySem.W.fnOf "law" "law" (defArgs sLaw) (defBody sLaw) (defScope sLaw) .none kVL dcL pmL anL (.ref cL) ctL), slL⟩)
    (cL_ : PySem.W.codeIn K (.ref cL) "law" = true)
    (kL_ : PySem.W.keepIn K (.ref fL) = true)
    (z_isinstance : PySem.W.nsIn K mainGlobals "isinstance" = some none)
    (z_int : PySem.W.nsIn K mainGlobals "int" = some none)
    (z_bool : PySem.W.nsIn K mainGlobals "bool" = some none)
    (z_tuple : PySem.W.nsIn K mainGlobals "tuple" = some none)
    (z_len : PySem.W.nsIn K mainGlobals "len" = some none)
    (z_all : PySem.W.nsIn K mainGlobals "all" = some none)
    (z_sum : PySem.W.nsIn K mainGlobals "sum" = some none)
    (z_set : PySem.W.nsIn K mainGlobals "set" = some none)
    (z_range : PySem.W.nsIn K mainGlobals "range" = some none)
    (z_max : PySem.W.nsIn K mainGlobals "max" = some none)
    (z_min : PySem.W.nsIn K mainGlobals "min" = some none)
    (z_list : PySem.W.nsIn K mainGlobals "list" = some none)
    (z_ValueError : PySem.W.nsIn K mainGlobals "ValueError" = some none)
    (q1 : PySem.W.nsIn K mainGlobals "MOST_PLACES" = some (some (.int 10 t1)))
    (q2 : PySem.W.nsIn K mainGlobals "MOST_ROADS" = some (some (.int 30 t2)))
    (q3 : PySem.W.nsIn K mainGlobals "LEAST_COST" = some (some (.int 1 t3)))
    (q4 : PySem.W.nsIn K mainGlobals "MOST_COST" = some (some (.int 99 t4)))
    (q5 : PySem.W.nsIn K mainGlobals "MOST_TIME" = some (some (.int 99 t5)))
    (g_g0 : PySem.W.nsIn K mainGlobals "NoNet" = some (some (.ref e0)))
    (g_g1 : PySem.W.nsIn K mainGlobals "NoPlace" = some (some (.ref e1)))
    (g_g2 : PySem.W.nsIn K mainGlobals "NoRoad" = some (some (.ref e2)))
    (g_g3 : PySem.W.nsIn K mainGlobals "NoMany" = some (some (.ref e3)))
    (g_g4 : PySem.W.nsIn K mainGlobals "NoShut" = some (some (.ref e4)))
    (g_g5 : PySem.W.nsIn K mainGlobals "NoCost" = some (some (.ref e5)))
    (g_g6 : PySem.W.nsIn K mainGlobals "NoNumber" = some (some (.ref e6)))
    (g_g7 : PySem.W.nsIn K mainGlobals "NoWay" = some (some (.ref e7)))
    (g_g8 : PySem.W.nsIn K mainGlobals "NoWord" = some (some (.ref e8)))
    (g_g9 : PySem.W.nsIn K mainGlobals "NoTime" = some (some (.ref e9)))
    (g_g10 : PySem.W.nsIn K mainGlobals "NoChange" = some (some (.ref e10)))
    (g_g11 : PySem.W.nsIn K mainGlobals "NoPaper" = some (some (.ref e11)))
    (g_g12 : PySem.W.nsIn K mainGlobals "NoLine" = some (some (.ref e12)))
    (g_g13 : PySem.W.nsIn K mainGlobals "NoText" = some (some (.ref e13)))
    (g_g14 : PySem.W.nsIn K mainGlobals "NoAsk" = some (some (.ref e14)))
    (g_g15 : PySem.W.nsIn K mainGlobals "Nothing" = some (some (.ref e15)))
    (g_g16 : PySem.W.nsIn K mainGlobals "TooMany" = some (some (.ref e16)))
    (g_gT : PySem.W.nsIn K mainGlobals "NoThing" = some (some (.ref eT)))
    (g_gN : PySem.W.nsIn K mainGlobals "NotNow" = some (some (.ref eN)))
    (g_gW : PySem.W.nsIn K mainGlobals "WayError" = some (some (.ref eW)))
    (x3_0 : PySem.W.subIn K (.ref e0) (.type "BaseException") = some true)
    (y1_0 : PySem.W.findIn K (.ref e0) "__getattribute__" = some (some (.builtin "BaseException.__getattribute__")))
    (y2_0 : PySem.W.findIn K (.ref e0) "__getattr__" = some none)
    (y3_0 : PySem.W.hasDictIn K e0 = true)
    (y4_0 : PySem.W.findIn K (.ref e0) "__class__" = some (some (.builtin "object.__class__")))
    (y5 : PySem.W.specialIn K (.builtin "object.__class__") "__get__" = some (some (.builtin "getset_descriptor.__get__")))
    (y6 : PySem.W.takesIn K (.builtin "object.__class__") = some true)
    (y7_0 : PySem.W.mroIn K e0 (.type "object") = some true)
    (j_k0_0 : PySem.W.kitOne K (.ref e0) (.ref e0) = some true)
    (j_k0_1 : PySem.W.kitOne K (.ref e0) (.ref e1) = some false)
    (j_k0_2 : PySem.W.kitOne K (.ref e0) (.ref e2) = some false)
    (j_k0_3 : PySem.W.kitOne K (.ref e0) (.ref e3) = some false)
    (j_k0_4 : PySem.W.kitOne K (.ref e0) (.ref e4) = some false)
    (j_k0_5 : PySem.W.kitOne K (.ref e0) (.ref e5) = some false)
    (j_k0_6 : PySem.W.kitOne K (.ref e0) (.ref e6) = some false)
    (j_k0_7 : PySem.W.kitOne K (.ref e0) (.ref e7) = some false)
    (j_k0_8 : PySem.W.kitOne K (.ref e0) (.ref e8) = some false)
    (j_k0_9 : PySem.W.kitOne K (.ref e0) (.ref e9) = some false)
    (j_k0_10 : PySem.W.kitOne K (.ref e0) (.ref e10) = some false)
    (j_k0_11 : PySem.W.kitOne K (.ref e0) (.ref e11) = some false)
    (j_k0_12 : PySem.W.kitOne K (.ref e0) (.ref e12) = some false)
    (j_k0_13 : PySem.W.kitOne K (.ref e0) (.ref e13) = some false)
    (j_k0_14 : PySem.W.kitOne K (.ref e0) (.ref e14) = some false)
    (j_k0_15 : PySem.W.kitOne K (.ref e0) (.ref e15) = some false)
    (j_k0_16 : PySem.W.kitOne K (.ref e0) (.ref e16) = some false)
    (j_kT0 : PySem.W.kitOne K (.ref e0) (.ref eT) = some true)
    (j_kN0 : PySem.W.kitOne K (.ref e0) (.ref eN) = some false)
    (j_kV0 : PySem.W.kitOne K (.ref e0) (.type "ValueError") = some true)
    (j_eW0 : PySem.W.exmOne K (.ref e0) (.ref eW) = some true)
    (x3_1 : PySem.W.subIn K (.ref e1) (.type "BaseException") = some true)
    (y1_1 : PySem.W.findIn K (.ref e1) "__getattribute__" = some (some (.builtin "BaseException.__getattribute__")))
    (y2_1 : PySem.W.findIn K (.ref e1) "__getattr__" = some none)
    (y3_1 : PySem.W.hasDictIn K e1 = true)
    (y4_1 : PySem.W.findIn K (.ref e1) "__class__" = some (some (.builtin "object.__class__")))
    (y7_1 : PySem.W.mroIn K e1 (.type "object") = some true)
    (j_k1_0 : PySem.W.kitOne K (.ref e1) (.ref e0) = some false)
    (j_k1_1 : PySem.W.kitOne K (.ref e1) (.ref e1) = some true)
    (j_k1_2 : PySem.W.kitOne K (.ref e1) (.ref e2) = some false)
    (j_k1_3 : PySem.W.kitOne K (.ref e1) (.ref e3) = some false)
    (j_k1_4 : PySem.W.kitOne K (.ref e1) (.ref e4) = some false)
    (j_k1_5 : PySem.W.kitOne K (.ref e1) (.ref e5) = some false)
    (j_k1_6 : PySem.W.kitOne K (.ref e1) (.ref e6) = some false)
    (j_k1_7 : PySem.W.kitOne K (.ref e1) (.ref e7) = some false)
    (j_k1_8 : PySem.W.kitOne K (.ref e1) (.ref e8) = some false)
    (j_k1_9 : PySem.W.kitOne K (.ref e1) (.ref e9) = some false)
    (j_k1_10 : PySem.W.kitOne K (.ref e1) (.ref e10) = some false)
    (j_k1_11 : PySem.W.kitOne K (.ref e1) (.ref e11) = some false)
    (j_k1_12 : PySem.W.kitOne K (.ref e1) (.ref e12) = some false)
    (j_k1_13 : PySem.W.kitOne K (.ref e1) (.ref e13) = some false)
    (j_k1_14 : PySem.W.kitOne K (.ref e1) (.ref e14) = some false)
    (j_k1_15 : PySem.W.kitOne K (.ref e1) (.ref e15) = some false)
    (j_k1_16 : PySem.W.kitOne K (.ref e1) (.ref e16) = some false)
    (j_kT1 : PySem.W.kitOne K (.ref e1) (.ref eT) = some true)
    (j_kN1 : PySem.W.kitOne K (.ref e1) (.ref eN) = some false)
    (j_kV1 : PySem.W.kitOne K (.ref e1) (.type "ValueError") = some true)
    (j_eW1 : PySem.W.exmOne K (.ref e1) (.ref eW) = some true)
    (x1_0 : PySem.W.excIn K e0 [.type "ValueError", .type "Exception", .type "BaseException", .type "object"] "ValueError.__new__" = true)
    (x2_0 : PySem.W.keepIn K (.ref e0) = true)
    (x4_0 : PySem.W.typeIn K (.ref e0) = some (.type "type"))
    (x1_1 : PySem.W.excIn K e1 [.type "ValueError", .type "Exception", .type "BaseException", .type "object"] "ValueError.__new__" = true)
    (x2_1 : PySem.W.keepIn K (.ref e1) = true)
    (x4_1 : PySem.W.typeIn K (.ref e1) = some (.type "type"))
    (nTL : K.lookup TL = none)
    (hdL : PySem.W.codeHdIn K cL TL = true)
    (nTR : K.lookup TR = none)
    (hdR : PySem.W.codeHdIn K cR TR = true)
    (neLR : TL ≠ TR) :
    LamX.LawAtS l w K CX0 13 63 "_law_script" mg fa h := by
  have e := hfa.symm.trans (PySem.W.mg_of X G aL)
  cases e
  have F1 := fun_mk (st := sWhole) l1 c1_ k1_
  have B1 := F1.binds (ps := ["thing"]) fun _ _ _ _ _ _ us hl => match us, hl with | [_], _ => rfl
  have D1 : Df K mg "is_whole" sWhole ["thing"] f1 _ := ⟨F1, B1, PySem.W.mg_of X G a1⟩
  have F2 := fun_mk (st := sWithin) l2 c2_ k2_
  have B2 := F2.binds (ps := ["thing", "low", "high"]) fun _ _ _ _ _ _ us hl => match us, hl with | [_, _, _], _ => rfl
  have D2 : Df K mg "is_within" sWithin ["thing", "low", "high"] f2 _ := ⟨F2, B2, PySem.W.mg_of X G a2⟩
  have F3 := fun_mk (st := sTupOf) l3 c3_ k3_
  have B3 := F3.binds (ps := ["thing", "many"]) fun _ _ _ _ _ _ us hl => match us, hl with | [_, _], _ => rfl
  have D3 : Df K mg "is_tuple_of" sTupOf ["thing", "many"] f3 _ := ⟨F3, B3, PySem.W.mg_of X G a3⟩
  have F4 := fun_mk (st := sRoadQ) l4 c4_ k4_
  have B4 := F4.binds (ps := ["places", "thing"]) fun _ _ _ _ _ _ us hl => match us, hl with | [_, _], _ => rfl
  have D4 : Df K mg "is_road_among" sRoadQ ["places", "thing"] f4 _ := ⟨F4, B4, PySem.W.mg_of X G a4⟩
  have F5 := fun_mk (st := sNetQ) l5 c5_ k5_
  have B5 := F5.binds (ps := ["thing"]) fun _ _ _ _ _ _ us hl => match us, hl with | [_], _ => rfl
  have D5 : Df K mg "is_net" sNetQ ["thing"] f5 _ := ⟨F5, B5, PySem.W.mg_of X G a5⟩
  have FN := fun_mk (st := sChkN) lN cN_ kN_
  have BN := FN.binds (ps := ["thing"]) fun _ _ _ _ _ _ us hl => match us, hl with | [_], _ => rfl
  have DN : Df K mg "check_net" sChkN ["thing"] fN _ := ⟨FN, BN, PySem.W.mg_of X G aN⟩
  have FP := fun_mk (st := sChkP) lP cP_ kP_
  have BP := FP.binds (ps := ["net", "thing"]) fun _ _ _ _ _ _ us hl => match us, hl with | [_, _], _ => rfl
  have DP : Df K mg "check_place" sChkP ["net", "thing"] fP _ := ⟨FP, BP, PySem.W.mg_of X G aP⟩
  have FE := fun_mk (st := sEnds) lE cE_ kE_
  have BE := FE.binds (ps := ["net", "start", "goal"]) fun _ _ _ _ _ _ us hl => match us, hl with | [_, _, _], _ => rfl
  have DE : Df K mg "check_ends" sEnds ["net", "start", "goal"] fE _ := ⟨FE, BE, PySem.W.mg_of X G aE⟩
  have FFo := fun_mk (st := sFo) lFo cFo_ kFo_
  have BFo := FFo.binds (ps := ["net", "start", "goal"]) fun _ _ _ _ _ _ us hl => match us, hl with | [_, _, _], _ => rfl
  have DFo : Df K mg "front_of" sFo ["net", "start", "goal"] fFo _ := ⟨FFo, BFo, PySem.W.mg_of X G aFo⟩
  have FWi := fun_mk (st := sWi) lWi cWi_ kWi_
  have BWi := FWi.binds (ps := ["net", "start", "goal", "most"]) fun _ _ _ _ _ _ us hl => match us, hl with | [_, _, _, _], _ => rfl
  have DWi : Df K mg "within" sWi ["net", "start", "goal", "most"] fWi _ := ⟨FWi, BWi, PySem.W.mg_of X G aWi⟩
  have FFh := fun_mk (st := sFh) lFh cFh_ kFh_
  have BFh := FFh.binds (ps := ["net", "start", "goal", "front", "fence"]) fun _ _ _ _ _ _ us hl => match us, hl with | [_, _, _, _, _], _ => rfl
  have DFh : Df K mg "front_holds" sFh ["net", "start", "goal", "front", "fence"] fFh _ := ⟨FFh, BFh, PySem.W.mg_of X G aFh⟩
  have FFe := fun_mk (st := sFe) lFe cFe_ kFe_
  have BFe := FFe.binds (ps := ["net", "start"]) fun _ _ _ _ _ _ us hl => match us, hl with | [_, _], _ => rfl
  have DFe : Df K mg "fence_of" sFe ["net", "start"] fFe _ := ⟨FFe, BFe, PySem.W.mg_of X G aFe⟩
  have FIf := fun_mk (st := sIf) lIf cIf_ kIf_
  have BIf := FIf.binds (ps := ["net", "start", "thing"]) fun _ _ _ _ _ _ us hl => match us, hl with | [_, _, _], _ => rfl
  have DIf : Df K mg "is_fence" sIf ["net", "start", "thing"] fIf _ := ⟨FIf, BIf, PySem.W.mg_of X G aIf⟩
  have FSt := fun_mk (st := sState) lSt cSt_ kSt_
  have BSt := FSt.binds (ps := ["_law_script", "_law_k"]) fun _ _ _ _ _ _ us hl => match us, hl with | [_, _], _ => rfl
  have DSt : Df K mg "_law_state" sState ["_law_script", "_law_k"] fSt _ := ⟨FSt, BSt, PySem.W.mg_of X G aSt⟩
  have FCe := fun_mk (st := sCell) lCe cCe_ kCe_
  have BCe := FCe.binds (ps := ["_law_script", "_law_k"]) fun _ _ _ _ _ _ us hl => match us, hl with | [_, _], _ => rfl
  have DCe : Df K mg "_law_cell_at" sCell ["_law_script", "_law_k"] fCe _ := ⟨FCe, BCe, PySem.W.mg_of X G aCe⟩
  have FTk := fun_mk (st := sTake) lTk cTk_ kTk_
  have BTk := FTk.binds (ps := ["_law_state_here", "_law_far"]) fun _ _ _ _ _ _ us hl => match us, hl with | [_, _], _ => rfl
  have DTk : Df K mg "_law_take" sTake ["_law_state_here", "_law_far"] fTk _ := ⟨FTk, BTk, PySem.W.mg_of X G aTk⟩
  have FNe := fun_mk (st := sNet) lNe cNe_ kNe_
  have BNe := FNe.binds (ps := ["_law_state_here", "_law_most", "_law_far"]) fun _ _ _ _ _ _ us hl => match us, hl with | [_, _, _], _ => rfl
  have DNe : Df K mg "_law_net" sNet ["_law_state_here", "_law_most", "_law_far"] fNe _ := ⟨FNe, BNe, PySem.W.mg_of X G aNe⟩
  have FWd := fun_mk (st := sWord) lWd cWd_ kWd_
  have BWd := FWd.binds (ps := ["_law_e"]) fun _ _ _ _ _ _ us hl => match us, hl with | [_], _ => rfl
  have DWd : Df K mg "_law_word" sWord ["_law_e"] fWd _ := ⟨FWd, BWd, PySem.W.mg_of X G aWd⟩
  have FSa := fun_mk (st := sSaid) lSa cSa_ kSa_
  have BSa := FSa.binds (ps := ["_law_call"]) fun _ _ _ _ _ _ us hl => match us, hl with | [_], _ => rfl
  have DSa : Df K mg "_law_said" sSaid ["_law_call"] fSa _ := ⟨FSa, BSa, PySem.W.mg_of X G aSa⟩
  have gmR := PySem.W.mg_of X G aR
  have FR := fun_mk (st := sRef) lR cR_ kR_
  have BR := FR.binds (ps := ["_law_net_here", "_law_calls"]) fun _ _ _ _ _ _ us hl => match us, hl with | [_, _], _ => rfl
  have m_isinstance := PySem.W.mg_none_of X G z_isinstance
  have m_int := PySem.W.mg_none_of X G z_int
  have m_bool := PySem.W.mg_none_of X G z_bool
  have m_tuple := PySem.W.mg_none_of X G z_tuple
  have m_len := PySem.W.mg_none_of X G z_len
  have m_all := PySem.W.mg_none_of X G z_all
  have m_sum := PySem.W.mg_none_of X G z_sum
  have m_set := PySem.W.mg_none_of X G z_set
  have m_range := PySem.W.mg_none_of X G z_range
  have m_max := PySem.W.mg_none_of X G z_max
  have m_min := PySem.W.mg_none_of X G z_min
  have m_list := PySem.W.mg_none_of X G z_list
  have m_ValueError := PySem.W.mg_none_of X G z_ValueError
  have S : Sm K mg f1 f2 f3 f4 f5 _ _ _ _ _ := { mi := m_isinstance, mI := m_int, mB := m_bool, mT := m_tuple, ml := m_len, mA := m_all, mS := m_sum, mE := m_set, c1 := ⟨_, PySem.W.mg_of X G q1⟩, c2 := ⟨_, PySem.W.mg_of X G q2⟩, c3 := ⟨_, PySem.W.mg_of X G q3⟩, c4 := ⟨_, PySem.W.mg_of X G q4⟩, c5 := ⟨_, PySem.W.mg_of X G q5⟩, whole := D1, within := D2, tupOf := D3, roadQ := D4, netQ := D5 }
  have Z : Cl K mg (fun i => match i with | 0 => e0 | 1 => e1 | 2 => e2 | 3 => e3 | 4 => e4 | 5 => e5 | 6 => e6 | 7 => e7 | 8 => e8 | 9 => e9 | 10 => e10 | 11 => e11 | 12 => e12 | 13 => e13 | 14 => e14 | 15 => e15 | 16 => e16 | _ => 0) eT eN eW := { g0 := PySem.W.mg_of X G g_g0, g1 := PySem.W.mg_of X G g_g1, g2 := PySem.W.mg_of X G g_g2, g3 := PySem.W.mg_of X G g_g3, g4 := PySem.W.mg_of X G g_g4, g5 := PySem.W.mg_of X G g_g5, g6 := PySem.W.mg_of X G g_g6, g7 := PySem.W.mg_of X G g_g7, g8 := PySem.W.mg_of X G g_g8, g9 := PySem.W.mg_of X G g_g9, g10 := PySem.W.mg_of X G g_g10, g11 := PySem.W.mg_of X G g_g11, g12 := PySem.W.mg_of X G g_g12, g13 := PySem.W.mg_of X G g_g13, g14 := PySem.W.mg_of X G g_g14, g15 := PySem.W.mg_of X G g_g15, g16 := PySem.W.mg_of X G g_g16, gT := PySem.W.mg_of X G g_gT, gN := PySem.W.mg_of X G g_gN, gW := PySem.W.mg_of X G g_gW, c0 := ⟨y1_0, y2_0, x3_0, y3_0, y4_0, y5, y6, y7_0⟩, k0_0 := j_k0_0, k0_1 := j_k0_1, k0_2 := j_k0_2, k0_3 := j_k0_3, k0_4 := j_k0_4, k0_5 := j_k0_5, k0_6 := j_k0_6, k0_7 := j_k0_7, k0_8 := j_k0_8, k0_9 := j_k0_9, k0_10 := j_k0_10, k0_11 := j_k0_11, k0_12 := j_k0_12, k0_13 := j_k0_13, k0_14 := j_k0_14, k0_15 := j_k0_15, k0_16 := j_k0_16, kT0 := j_kT0, kN0 := j_kN0, kV0 := j_kV0, eW0 := j_eW0, c1 := ⟨y1_1, y2_1, x3_1, y3_1, y4_1, y5, y6, y7_1⟩, k1_0 := j_k1_0, k1_1 := j_k1_1, k1_2 := j_k1_2, k1_3 := j_k1_3, k1_4 := j_k1_4, k1_5 := j_k1_5, k1_6 := j_k1_6, k1_7 := j_k1_7, k1_8 := j_k1_8, k1_9 := j_k1_9, k1_10 := j_k1_10, k1_11 := j_k1_11, k1_12 := j_k1_12, k1_13 := j_k1_13, k1_14 := j_k1_14, k1_15 := j_k1_15, k1_16 := j_k1_16, kT1 := j_kT1, kN1 := j_kN1, kV1 := j_kV1, eW1 := j_eW1 }
  have Z0 : Ex K mg "NoNet" e0 := ⟨PySem.W.mg_of X G g_g0, x1_0, x2_0, x3_0, x4_0⟩
  have Z1 : Ex K mg "NoPlace" e1 := ⟨PySem.W.mg_of X G g_g1, x1_1, x2_1, x3_1, x4_1⟩
  refine ⟨PySem.W.fnOf "law" "law" (defArgs sLaw) (defBody sLaw) (defScope sLaw) .none kVL dcL pmL anL (.ref cL) ctL, [(cL, TL), (cR, TR)], spLaw K [TL, TR], ?_, ?_, ?_, fun s u => .of_eq rfl, ?_, ?_⟩
  · intro p hp
    simp only [List.mem_cons, List.not_mem_nil, or_false] at hp
    rcases hp with rfl | rfl
    · exact tL
    · exact tR
  · intro p hp
    simp only [List.mem_cons, List.not_mem_nil, or_false] at hp
    rcases hp with rfl | rfl
    · exact nTL
    · exact nTR
  · intro p hp
    simp only [List.mem_cons, List.not_mem_nil, or_false] at hp
    rcases hp with rfl | rfl
    · exact PySem.W.codeHd_of_K X hdL
    · exact PySem.W.codeHd_of_K X hdR
  · exact fun H a ns hl hb hT sq => ⟨a, ns, rfl, hl, sq, fun T hT2 => (by obtain ⟨p, hp, e⟩ := List.mem_map.mp (show T ∈ List.map (·.2) [(cL, TL), (cR, TR)] from hT2); exact e ▸ hT p hp), fun G => rfl⟩
  · intro base KB GB TB
    have tbL : LamX.TabB base mg cL TL := TB (cL, TL) (by simp)
    have tbR : LamX.TabB base mg cR TR := TB (cR, TR) (by simp)
    refine fn_of (k := 12) (N := ["_law_script", "_law_k", "_law_state_here", "_law_net_here", "_law_calls", "_law_bads", "_law_bad", "_law_words"]) lL cL_ scLaw (fun vs H Q E h => ?_) (fun A outer s H vs Q E hr h => ?_)
    · obtain ⟨_, _, rfl, _⟩ := h
      rfl
    · obtain ⟨a, ns, rfl, hln, sq, hTs, hQ⟩ := h
      have GR := ok_refused (P := l.prog) (w := w) (K := K) (mg := mg) (base := base) (C := fun i => match i with | 0 => e0 | 1 => e1 | 2 => e2 | 3 => e3 | 4 => e4 | 5 => e5 | 6 => e6 | 7 => e7 | 8 => e8 | 9 => e9 | 10 => e10 | 11 => e11 | 12 => e12 | 13 => e13 | 14 => e14 | 15 => e15 | 16 => e16 | _ => 0) (T := [(TL, qLaw), (TR, qRef)]) lR cR_ tbR (by simp) (fun p hp e => by
        simp only [List.mem_cons, List.not_mem_nil, or_false] at hp
        rcases hp with rfl | rfl
        · exact absurd e neLR
        · rfl) Z m_isinstance m_ValueError m_list DWd DSa
      obtain ⟨t, ht, hq⟩ := law_reads (P := l.prog) (w := w) (base := base) (fL := fa) (A := A) (outer := outer) (s := s) (H := H) (a := a) (ns := ns) (Q := Q) (E := E) Z DFo DWi DFh DFe DIf (ok_frontOf (k := 1) S DN DP DE Z0 Z1 DFo) (ok_withinQ (k := 1) S DN DP DE Z0 Z1 DWi) (ok_frontHolds (k := 1) S DN DP DE Z0 Z1 DFh) (ok_fenceOf (k := 2) S DN DP Z0 Z1 DFe) (ok_isFence (k := 2) S DN DP Z0 Z1 DIf) DSt DCe DTk DNe DWd DSa gmR kR_ BR GR m_isinstance m_ValueError m_range m_max m_min m_len m_tuple m_int tbL neLR rfl hr (hTs TL (by simp)) (hTs TR (by simp)) sq hQ
      exact ⟨t, ht.nox, hq⟩
end Wy

open PySem PySem.W PyProof.Rows
set_option maxHeartbeats 0 in
theorem PySem.Challenge.cw_waysranked_k56_fronts_refuse_holds : PySem.Challenge.rw_waysranked_k56_fronts_refuse.Holds := by
  w_on; o_law; k_head; (case hw => w_witness2)
  k_fill
  refine LamX.walk_ofTs (l := PySem.Challenge.rw_waysranked_k56_fronts_refuse) (n := 63) (k := 13) (CX := fun _ => L2.CX0) (x := "_law_script") rfl (by decide) rfl ⟨rfl, by decide, by decide⟩ (fun w h Y => PySem.W.km_in_of Y) ?F (fun _ _ _ _ _ z => z)
  case F =>
    intro w mg fa h Y KX G hmg
    refine' Wy.fin_mk KX G hmg (PySem.W.km_tabs_of Y _ (List.Mem.tail _ (List.Mem.head _))) (PySem.W.km_tabs_of Y _ (List.Mem.head _)) ?zz_a1 ?zz_l1 ?zz_c1_ ?zz_k1_ ?zz_a2 ?zz_l2 ?zz_c2_ ?zz_k2_ ?zz_a3 ?zz_l3 ?zz_c3_ ?zz_k3_ ?zz_a4 ?zz_l4 ?zz_c4_ ?zz_k4_ ?zz_a5 ?zz_l5 ?zz_c5_ ?zz_k5_ ?zz_aN ?zz_lN ?zz_cN_ ?zz_kN_ ?zz_aP ?zz_lP ?zz_cP_ ?zz_kP_ ?zz_aE ?zz_lE ?zz_cE_ ?zz_kE_ ?zz_aFo ?zz_lFo ?zz_cFo_ ?zz_kFo_ ?zz_aWi ?zz_lWi ?zz_cWi_ ?zz_kWi_ ?zz_aFh ?zz_lFh ?zz_cFh_ ?zz_kFh_ ?zz_aFe ?zz_lFe ?zz_cFe_ ?zz_kFe_ ?zz_aIf ?zz_lIf ?zz_cIf_ ?zz_kIf_ ?zz_aSt ?zz_lSt ?zz_cSt_ ?zz_kSt_ ?zz_aCe ?zz_lCe ?zz_cCe_ ?zz_kCe_ ?zz_aTk ?zz_lTk ?zz_cTk_ ?zz_kTk_ ?zz_aNe ?zz_lNe ?zz_cNe_ ?zz_kNe_ ?zz_aWd ?zz_lWd ?zz_cWd_ ?zz_kWd_ ?zz_aSa ?zz_lSa ?zz_cSa_ ?zz_kSa_ ?zz_aR ?zz_lR ?zz_cR_ ?zz_kR_ ?zz_aL ?zz_lL ?zz_cL_ ?zz_kL_ ?zz_z_isinstance ?zz_z_int ?zz_z_bool ?zz_z_tuple ?zz_z_len ?zz_z_all ?zz_z_sum ?zz_z_set ?zz_z_range ?zz_z_max ?zz_z_min ?zz_z_list ?zz_z_ValueError ?zz_q1 ?zz_q2 ?zz_q3 ?zz_q4 ?zz_q5 ?zz_g_g0 ?zz_g_g1 ?zz_g_g2 ?zz_g_g3 ?zz_g_g4 ?zz_g_g5 ?zz_g_g6 ?zz_g_g7 ?zz_g_g8 ?zz_g_g9 ?zz_g_g10 ?zz_g_g11 ?zz_g_g12 ?zz_g_g13 ?zz_g_g14 ?zz_g_g15 ?zz_g_g16 ?zz_g_gT ?zz_g_gN ?zz_g_gW ?zz_x3_0 ?zz_y1_0 ?zz_y2_0 ?zz_y3_0 ?zz_y4_0 ?zz_y5 ?zz_y6 ?zz_y7_0 ?zz_j_k0_0 ?zz_j_k0_1 ?zz_j_k0_2 ?zz_j_k0_3 ?zz_j_k0_4 ?zz_j_k0_5 ?zz_j_k0_6 ?zz_j_k0_7 ?zz_j_k0_8 ?zz_j_k0_9 ?zz_j_k0_10 ?zz_j_k0_11 ?zz_j_k0_12 ?zz_j_k0_13 ?zz_j_k0_14 ?zz_j_k0_15 ?zz_j_k0_16 ?zz_j_kT0 ?zz_j_kN0 ?zz_j_kV0 ?zz_j_eW0 ?zz_x3_1 ?zz_y1_1 ?zz_y2_1 ?zz_y3_1 ?zz_y4_1 ?zz_y7_1 ?zz_j_k1_0 ?zz_j_k1_1 ?zz_j_k1_2 ?zz_j_k1_3 ?zz_j_k1_4 ?zz_j_k1_5 ?zz_j_k1_6 ?zz_j_k1_7 ?zz_j_k1_8 ?zz_j_k1_9 ?zz_j_k1_10 ?zz_j_k1_11 ?zz_j_k1_12 ?zz_j_k1_13 ?zz_j_k1_14 ?zz_j_k1_15 ?zz_j_k1_16 ?zz_j_kT1 ?zz_j_kN1 ?zz_j_kV1 ?zz_j_eW1 ?zz_x1_0 ?zz_x2_0 ?zz_x4_0 ?zz_x1_1 ?zz_x2_1 ?zz_x4_1 ?zz_nTL ?zz_hdL ?zz_nTR ?zz_hdR ?zz_neLR
    (case zz_a1 => first | k_is | rfl | decide +kernel | k_exc)
    (case zz_l1 => first | k_is | rfl | decide +kernel | k_exc)
    (case zz_c1_ => first | k_is | rfl | decide +kernel | k_exc)
    (case zz_k1_ => first | k_is | rfl | decide +kernel | k_exc)
    (case zz_a2 => first | k_is | rfl | decide +kernel | k_exc)
    (case zz_l2 => first | k_is | rfl | decide +kernel | k_exc)
    (case zz_c2_ => first | k_is | rfl | decide +kernel | k_exc)
    (case zz_k2_ => first | k_is | rfl | decide +kernel | k_exc)
    (case zz_a3 => first | k_is | rfl | decide +kernel | k_exc)
    (case zz_l3 => first | k_is | rfl | decide +kernel | k_exc)
    (case zz_c3_ => first | k_is | rfl | decide +kernel | k_exc)
    (case zz_k3_ => first | k_is | rfl | decide +kernel | k_exc)
    (case zz_a4 => first | k_is | rfl | decide +kernel | k_exc)
    (case zz_l4 => first | k_is | rfl | decide +kernel | k_exc)
    (case zz_c4_ => first | k_is | rfl | decide +kernel | k_exc)
    (case zz_k4_ => first | k_is | rfl | decide +kernel | k_exc)
    (case zz_a5 => first | k_is | rfl | decide +kernel | k_exc)
    (case zz_l5 => first | k_is | rfl | decide +kernel | k_exc)
    (case zz_c5_ => first | k_is | rfl | decide +kernel | k_exc)
    (case zz_k5_ => first | k_is | rfl | decide +kernel | k_exc)
    (case zz_aN => first | k_is | rfl | decide +kernel | k_exc)
    (case zz_lN => first | k_is | rfl | decide +kernel | k_exc)
    (case zz_cN_ => first | k_is | rfl | decide +kernel | k_exc)
    (case zz_kN_ => first | k_is | rfl | decide +kernel | k_exc)
    (case zz_aP => first | k_is | rfl | decide +kernel | k_exc)
    (case zz_lP => first | k_is | rfl | decide +kernel | k_exc)
    (case zz_cP_ => first | k_is | rfl | decide +kernel | k_exc)
    (case zz_kP_ => first | k_is | rfl | decide +kernel | k_exc)
    (case zz_aE => first | k_is | rfl | decide +kernel | k_exc)
    (case zz_lE => first | k_is | rfl | decide +kernel | k_exc)
    (case zz_cE_ => first | k_is | rfl | decide +kernel | k_exc)
    (case zz_kE_ => first | k_is | rfl | decide +kernel | k_exc)
    (case zz_aFo => first | k_is | rfl | decide +kernel | k_exc)
    (case zz_lFo => first | k_is | rfl | decide +kernel | k_exc)
    (case zz_cFo_ => first | k_is | rfl | decide +kernel | k_exc)
    (case zz_kFo_ => first | k_is | rfl | decide +kernel | k_exc)
    (case zz_aWi => first | k_is | rfl | decide +kernel | k_exc)
    (case zz_lWi => first | k_is | rfl | decide +kernel | k_exc)
    (case zz_cWi_ => first | k_is | rfl | decide +kernel | k_exc)
    (case zz_kWi_ => first | k_is | rfl | decide +kernel | k_exc)
    (case zz_aFh => first | k_is | rfl | decide +kernel | k_exc)
    (case zz_lFh => first | k_is | rfl | decide +kernel | k_exc)
    (case zz_cFh_ => first | k_is | rfl | decide +kernel | k_exc)
    (case zz_kFh_ => first | k_is | rfl | decide +kernel | k_exc)
    (case zz_aFe => first | k_is | rfl | decide +kernel | k_exc)
    (case zz_lFe => first | k_is | rfl | decide +kernel | k_exc)
    (case zz_cFe_ => first | k_is | rfl | decide +kernel | k_exc)
    (case zz_kFe_ => first | k_is | rfl | decide +kernel | k_exc)
    (case zz_aIf => first | k_is | rfl | decide +kernel | k_exc)
    (case zz_lIf => first | k_is | rfl | decide +kernel | k_exc)
    (case zz_cIf_ => first | k_is | rfl | decide +kernel | k_exc)
    (case zz_kIf_ => first | k_is | rfl | decide +kernel | k_exc)
    (case zz_aSt => first | k_is | rfl | decide +kernel | k_exc)
    (case zz_lSt => first | k_is | rfl | decide +kernel | k_exc)
    (case zz_cSt_ => first | k_is | rfl | decide +kernel | k_exc)
    (case zz_kSt_ => first | k_is | rfl | decide +kernel | k_exc)
    (case zz_aCe => first | k_is | rfl | decide +kernel | k_exc)
    (case zz_lCe => first | k_is | rfl | decide +kernel | k_exc)
    (case zz_cCe_ => first | k_is | rfl | decide +kernel | k_exc)
    (case zz_kCe_ => first | k_is | rfl | decide +kernel | k_exc)
    (case zz_aTk => first | k_is | rfl | decide +kernel | k_exc)
    (case zz_lTk => first | k_is | rfl | decide +kernel | k_exc)
    (case zz_cTk_ => first | k_is | rfl | decide +kernel | k_exc)
    (case zz_kTk_ => first | k_is | rfl | decide +kernel | k_exc)
    (case zz_aNe => first | k_is | rfl | decide +kernel | k_exc)
    (case zz_lNe => first | k_is | rfl | decide +kernel | k_exc)
    (case zz_cNe_ => first | k_is | rfl | decide +kernel | k_exc)
    (case zz_kNe_ => first | k_is | rfl | decide +kernel | k_exc)
    (case zz_aWd => first | k_is | rfl | decide +kernel | k_exc)
    (case zz_lWd => first | k_is | rfl | decide +kernel | k_exc)
    (case zz_cWd_ => first | k_is | rfl | decide +kernel | k_exc)
    (case zz_kWd_ => first | k_is | rfl | decide +kernel | k_exc)
    (case zz_aSa => first | k_is | rfl | decide +kernel | k_exc)
    (case zz_lSa => first | k_is | rfl | decide +kernel | k_exc)
    (case zz_cSa_ => first | k_is | rfl | decide +kernel | k_exc)
    (case zz_kSa_ => first | k_is | rfl | decide +kernel | k_exc)
    (case zz_aR => first | k_is | rfl | decide +kernel | k_exc)
    (case zz_lR => first | k_is | rfl | decide +kernel | k_exc)
    (case zz_cR_ => first | k_is | rfl | decide +kernel | k_exc)
    (case zz_kR_ => first | k_is | rfl | decide +kernel | k_exc)
    (case zz_aL => first | k_is | rfl | decide +kernel | k_exc)
    (case zz_lL => first | k_is | rfl | decide +kernel | k_exc)
    (case zz_cL_ => first | k_is | rfl | decide +kernel | k_exc)
    (case zz_kL_ => first | k_is | rfl | decide +kernel | k_exc)
    (case zz_z_isinstance => first | k_is | rfl | decide +kernel | k_exc)
    (case zz_z_int => first | k_is | rfl | decide +kernel | k_exc)
    (case zz_z_bool => first | k_is | rfl | decide +kernel | k_exc)
    (case zz_z_tuple => first | k_is | rfl | decide +kernel | k_exc)
    (case zz_z_len => first | k_is | rfl | decide +kernel | k_exc)
    (case zz_z_all => first | k_is | rfl | decide +kernel | k_exc)
    (case zz_z_sum => first | k_is | rfl | decide +kernel | k_exc)
    (case zz_z_set => first | k_is | rfl | decide +kernel | k_exc)
    (case zz_z_range => first | k_is | rfl | decide +kernel | k_exc)
    (case zz_z_max => first | k_is | rfl | decide +kernel | k_exc)
    (case zz_z_min => first | k_is | rfl | decide +kernel | k_exc)
    (case zz_z_list => first | k_is | rfl | decide +kernel | k_exc)
    (case zz_z_ValueError => first | k_is | rfl | decide +kernel | k_exc)
    (case zz_q1 => first | k_is | rfl | decide +kernel | k_exc)
    (case zz_q2 => first | k_is | rfl | decide +kernel | k_exc)
    (case zz_q3 => first | k_is | rfl | decide +kernel | k_exc)
    (case zz_q4 => first | k_is | rfl | decide +kernel | k_exc)
    (case zz_q5 => first | k_is | rfl | decide +kernel | k_exc)
    (case zz_g_g0 => first | k_is | rfl | decide +kernel | k_exc)
    (case zz_g_g1 => first | k_is | rfl | decide +kernel | k_exc)
    (case zz_g_g2 => first | k_is | rfl | decide +kernel | k_exc)
    (case zz_g_g3 => first | k_is | rfl | decide +kernel | k_exc)
    (case zz_g_g4 => first | k_is | rfl | decide +kernel | k_exc)
    (case zz_g_g5 => first | k_is | rfl | decide +kernel | k_exc)
    (case zz_g_g6 => first | k_is | rfl | decide +kernel | k_exc)
    (case zz_g_g7 => first | k_is | rfl | decide +kernel | k_exc)
    (case zz_g_g8 => first | k_is | rfl | decide +kernel | k_exc)
    (case zz_g_g9 => first | k_is | rfl | decide +kernel | k_exc)
    (case zz_g_g10 => first | k_is | rfl | decide +kernel | k_exc)
    (case zz_g_g11 => first | k_is | rfl | decide +kernel | k_exc)
    (case zz_g_g12 => first | k_is | rfl | decide +kernel | k_exc)
    (case zz_g_g13 => first | k_is | rfl | decide +kernel | k_exc)
    (case zz_g_g14 => first | k_is | rfl | decide +kernel | k_exc)
    (case zz_g_g15 => first | k_is | rfl | decide +kernel | k_exc)
    (case zz_g_g16 => first | k_is | rfl | decide +kernel | k_exc)
    (case zz_g_gT => first | k_is | rfl | decide +kernel | k_exc)
    (case zz_g_gN => first | k_is | rfl | decide +kernel | k_exc)
    (case zz_g_gW => first | k_is | rfl | decide +kernel | k_exc)
    (case zz_x3_0 => first | k_is | rfl | decide +kernel | k_exc)
    (case zz_y1_0 => first | k_is | rfl | decide +kernel | k_exc)
    (case zz_y2_0 => first | k_is | rfl | decide +kernel | k_exc)
    (case zz_y3_0 => first | k_is | rfl | decide +kernel | k_exc)
    (case zz_y4_0 => first | k_is | rfl | decide +kernel | k_exc)
    (case zz_y5 => first | k_is | rfl | decide +kernel | k_exc)
    (case zz_y6 => first | k_is | rfl | decide +kernel | k_exc)
    (case zz_y7_0 => first | k_is | rfl | decide +kernel | k_exc)
    (case zz_j_k0_0 => first | k_is | rfl | decide +kernel | k_exc)
    (case zz_j_k0_1 => first | k_is | rfl | decide +kernel | k_exc)
    (case zz_j_k0_2 => first | k_is | rfl | decide +kernel | k_exc)
    (case zz_j_k0_3 => first | k_is | rfl | decide +kernel | k_exc)
    (case zz_j_k0_4 => first | k_is | rfl | decide +kernel | k_exc)
    (case zz_j_k0_5 => first | k_is | rfl | decide +kernel | k_exc)
    (case zz_j_k0_6 => first | k_is | rfl | decide +kernel | k_exc)
    (case zz_j_k0_7 => first | k_is | rfl | decide +kernel | k_exc)
    (case zz_j_k0_8 => first | k_is | rfl | decide +kernel | k_exc)
    (case zz_j_k0_9 => first | k_is | rfl | decide +kernel | k_exc)
    (case zz_j_k0_10 => first | k_is | rfl | decide +kernel | k_exc)
    (case zz_j_k0_11 => first | k_is | rfl | decide +kernel | k_exc)
    (case zz_j_k0_12 => first | k_is | rfl | decide +kernel | k_exc)
    (case zz_j_k0_13 => first | k_is | rfl | decide +kernel | k_exc)
    (case zz_j_k0_14 => first | k_is | rfl | decide +kernel | k_exc)
    (case zz_j_k0_15 => first | k_is | rfl | decide +kernel | k_exc)
    (case zz_j_k0_16 => first | k_is | rfl | decide +kernel | k_exc)
    (case zz_j_kT0 => first | k_is | rfl | decide +kernel | k_exc)
    (case zz_j_kN0 => first | k_is | rfl | decide +kernel | k_exc)
    (case zz_j_kV0 => first | k_is | rfl | decide +kernel | k_exc)
    (case zz_j_eW0 => first | k_is | rfl | decide +kernel | k_exc)
    (case zz_x3_1 => first | k_is | rfl | decide +kernel | k_exc)
    (case zz_y1_1 => first | k_is | rfl | decide +kernel | k_exc)
    (case zz_y2_1 => first | k_is | rfl | decide +kernel | k_exc)
    (case zz_y3_1 => first | k_is | rfl | decide +kernel | k_exc)
    (case zz_y4_1 => first | k_is | rfl | decide +kernel | k_exc)
    (case zz_y7_1 => first | k_is | rfl | decide +kernel | k_exc)
    (case zz_j_k1_0 => first | k_is | rfl | decide +kernel | k_exc)
    (case zz_j_k1_1 => first | k_is | rfl | decide +kernel | k_exc)
    (case zz_j_k1_2 => first | k_is | rfl | decide +kernel | k_exc)
    (case zz_j_k1_3 => first | k_is | rfl | decide +kernel | k_exc)
    (case zz_j_k1_4 => first | k_is | rfl | decide +kernel | k_exc)
    (case zz_j_k1_5 => first | k_is | rfl | decide +kernel | k_exc)
    (case zz_j_k1_6 => first | k_is | rfl | decide +kernel | k_exc)
    (case zz_j_k1_7 => first | k_is | rfl | decide +kernel | k_exc)
    (case zz_j_k1_8 => first | k_is | rfl | decide +kernel | k_exc)
    (case zz_j_k1_9 => first | k_is | rfl | decide +kernel | k_exc)
    (case zz_j_k1_10 => first | k_is | rfl | decide +kernel | k_exc)
    (case zz_j_k1_11 => first | k_is | rfl | decide +kernel | k_exc)
    (case zz_j_k1_12 => first | k_is | rfl | decide +kernel | k_exc)
    (case zz_j_k1_13 => first | k_is | rfl | decide +kernel | k_exc)
    (case zz_j_k1_14 => first | k_is | rfl | decide +kernel | k_exc)
    (case zz_j_k1_15 => first | k_is | rfl | decide +kernel | k_exc)
    (case zz_j_k1_16 => first | k_is | rfl | decide +kernel | k_exc)
    (case zz_j_kT1 => first | k_is | rfl | decide +kernel | k_exc)
    (case zz_j_kN1 => first | k_is | rfl | decide +kernel | k_exc)
    (case zz_j_kV1 => first | k_is | rfl | decide +kernel | k_exc)
    (case zz_j_eW1 => first | k_is | rfl | decide +kernel | k_exc)
    (case zz_x1_0 => first | k_is | rfl | decide +kernel | k_exc)
    (case zz_x2_0 => first | k_is | rfl | decide +kernel | k_exc)
    (case zz_x4_0 => first | k_is | rfl | decide +kernel | k_exc)
    (case zz_x1_1 => first | k_is | rfl | decide +kernel | k_exc)
    (case zz_x2_1 => first | k_is | rfl | decide +kernel | k_exc)
    (case zz_x4_1 => first | k_is | rfl | decide +kernel | k_exc)
    (case zz_nTL => first | k_is | rfl | decide +kernel | k_exc)
    (case zz_hdL => first | k_is | rfl | decide +kernel | k_exc)
    (case zz_nTR => first | k_is | rfl | decide +kernel | k_exc)
    (case zz_hdR => first | k_is | rfl | decide +kernel | k_exc)
    (case zz_neLR => first | k_is | rfl | decide +kernel | k_exc)
