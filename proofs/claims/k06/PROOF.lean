import PyProof.Rows.All
import Wide.All
import OpenK.AllK
import Wide.FinOn
import PySem.Challenge.RW_waysranked_k06_whole_no_way_costs_less
import HandS.ForMost
import HandS.ForExc
import HandS.IsInst
import HandS.ExcIs
import HandS.Lambda
import HandS.HotCalls
import HandS.Zip
import HandS.Strs
import HandS.Flow
import HandS.Style
import HandS.TupAny
import HandS.TupLe
import HandS.Defaults
import PyProof.ReprRoads
import HandS.Walk
import HandS.SetFor
import KE.GoesMore
import PyProof.Draws
set_option Elab.async false
set_option linter.all false
set_option maxRecDepth 100000
namespace Wy
open PySem PySem.Spec PyProof.Rows L2
def topS (i : Nat) : Stmt := PySem.Challenge.pw_waysranked_k06_whole_no_way_costs_less.main.body.getD i (.Pass ⟨0, 0, 0, 0⟩)
abbrev sWhole : Stmt := topS 7
abbrev sWithin : Stmt := topS 8
abbrev sRoadOf : Stmt := topS 21
abbrev sTupOf : Stmt := topS 17
abbrev sCell : Stmt := topS 35
abbrev sState : Stmt := topS 36
abbrev sTake : Stmt := topS 37
/-- a def of the text, where it stands, how its arguments bind -/
structure Df (K : PySem.W.Frag) (mg : Str → Option Value) (x : Str) (st : Stmt) (ps : List Str) (f : Addr) (fd : FuncData) : Prop where
  F : Fun K x x st f fd
  b : Binds K fd ps []
  g : mg x = some (.ref f)
/-- all but the state's list stays -/
def Keep (z : Addr) (H H' : Hp) : Prop := ∀ b o, H b = some o → b ≠ z → H' b = some o
def StOk (H : Hp) (z : Addr) : Prop := ∃ x y : Int, H z = some (.lst [.int x, .int y]) ∧ 0 ≤ x ∧ 0 ≤ y ∧ y < 2147483647
theorem Keep.refl (z : Addr) (H : Hp) : Keep z H H := fun _ _ h _ => h
theorem Keep.trans {z : Addr} {H H1 H2 : Hp} (a : Keep z H H1) (b : Keep z H1 H2) : Keep z H H2 := fun c o h n => b c o (a c o h n) n
theorem Keep.self {z : Addr} {H : Hp} {o : HO} : Keep z H (upd H z o) := fun b u h n => by rw [upd_ne n]; exact h
theorem Keep.new {z p : Addr} {H : Hp} {o : HO} (h : H p = none) : Keep z H (upd H p o) := fun b u e _ => by rw [upd_ne (ne_of_none e h)]; exact e
theorem Keep.of {z : Addr} {H H' : Hp} (h : Same H H') : Keep z H H' := fun b o e _ => h b o e
theorem same_new {H : Hp} {p : Addr} {o : HO} (h : H p = none) : Same H (upd H p o) := fun b x e => by
  rw [upd_ne (ne_of_none e h)]
  exact e
theorem StOk.same {H H' : Hp} {z : Addr} (s : StOk H z) (h : Same H H') : StOk H' z := let ⟨x, y, e, r⟩ := s; ⟨x, y, h _ _ e, r⟩
theorem StOk.ne {H : Hp} {z p : Addr} (s : StOk H z) (h : H p = none) : z ≠ p := let ⟨_, _, e, _⟩ := s; ne_of_none e h
/-- a thing of whatever kind, by its class -/
inductive Tg (H : Hp) : V → String → Prop where
  | non : Tg H .non "NoneType"
  | bl (b : Bool) : Tg H (.bl b) "bool"
  | int (i : Int) : Tg H (.int i) "int"
  | str (x : Str) : Tg H (.str x) "str"
  | lst {a : Addr} {xs : List V} : H a = some (.lst xs) → Tg H (.ref a) "list"
  | tup {a : Addr} {xs : List V} : H a = some (.tup xs) → Tg H (.ref a) "tuple"
  | dct {a : Addr} {xs : List (Key × V)} : H a = some (.dK xs) → Tg H (.ref a) "dict"
theorem Tg.tyx {K : PySem.W.Frag} {H : Hp} {v : V} {n : String} (t : Tg H v n) : TyX K H v (.type n) := by
  cases t with
  | non => exact .base .non
  | bl b => exact .base (.bl b)
  | int i => exact .base (.int i)
  | str x => exact .base (.str x)
  | lst e => exact .base (.lst e)
  | tup e => exact .base (.tup e)
  | dct e => exact .base (.dK e)
theorem Tg.keep {H H' : Hp} {v : V} {n : String} (t : Tg H v n) (h : Same H H') : Tg H' v n := by
  cases t with
  | non => exact .non
  | bl b => exact .bl b
  | int i => exact .int i
  | str x => exact .str x
  | lst e => exact .lst (h _ _ e)
  | tup e => exact .tup (h _ _ e)
  | dct e => exact .dct (h _ _ e)
def kInt (n : String) : Bool := n == "int" || n == "bool"
theorem isi_int {K : PySem.W.Frag} {H : Hp} {v : V} {n : String} (t : Tg H v n) : PySem.W.kitOne K (.type n) (.type "int") = some (kInt n) := by
  cases t <;> exact kit_ty (by decide +kernel)
theorem isi_bool {K : PySem.W.Frag} {H : Hp} {v : V} {n : String} (t : Tg H v n) : PySem.W.kitOne K (.type n) (.type "bool") = some (n == "bool") := by
  cases t <;> exact kit_ty (by decide +kernel)
theorem isi_tuple {K : PySem.W.Frag} {H : Hp} {v : V} {n : String} (t : Tg H v n) : PySem.W.kitOne K (.type n) (.type "tuple") = some (n == "tuple") := by
  cases t <;> exact kit_ty (by decide +kernel)
/-- a whole number from lo to hi -/
def isIn (v : V) (lo hi : Int) : Bool := match v with
  | .int i => decide (lo ≤ i) && decide (i ≤ hi)
  | _ => false
section
variable {P : Program} {w : World} {K : PySem.W.Frag} {mg : Str → Option Value} {base : Heap}
theorem scTake : FnScope ["_law_state_here", "_law_much", "_law_found", "_law_stirred"] ["_law_state_here", "_law_much"] (defScope sTake) := ⟨rfl, rfl, rfl, by decide +kernel, rfl, by decide +kernel, by decide +kernel⟩
def spTake : Sp := fun vs H Q _ => ∃ (z : Addr) (m : Int), vs = [.ref z, .int m] ∧ StOk H z ∧ 0 < m ∧ m < 1073741824 ∧
  ∀ H' n, Keep z H H' → StOk H' z → 0 ≤ n → n < m → Q (.int n) H'
theorem ok_take {f : Addr} {fd : FuncData} {k : Nat} (D : Df K mg "_law_take" sTake ["_law_state_here", "_law_much"] f fd) : FnOk P w K mg base CX0 (k + 1) f fd ["_law_state_here", "_law_much"] spTake := by
  refine D.F.ok scTake (fun vs H Q E h => ?_) (fun cdv A outer s H vs Q E hr h => ?_)
  · obtain ⟨_, _, rfl, _⟩ := h
    rfl
  · obtain ⟨z, m, rfl, ⟨x, y, e, hx, hy, hy2⟩, hm, hm2, q⟩ := h
    refine ⟨_, pss_cons (ps_if (pt_cmpR op_gt (pe_ix ix_list (pv 0) pe_int (fun _ _ => rfl)) pe_int (nomark _))
        (pss_cons (ps_set (i := 2) scTake.nd rfl (.inl rfl) (pe_op op_mod (pe_ix ix_list (pv 0) pe_int (fun _ _ => rfl)) (pv 1)))
        (pss_cons (ps_asg (pe_op op_fdiv (pe_ix ix_list (pv 0) pe_int (fun _ _ => rfl)) (pv 1)) (pg_sub (pv 0) pe_int set_list))
        (pss_one (ps_ret (pv 2))))) pss_nil)
      (pss_cons (ps_asg (pe_op op_mod (pe_op op_add (pe_op op_mul (pe_ix ix_list (pv 0) pe_int (fun _ _ => rfl)) pe_int) pe_int) pe_int) (pg_sub (pv 0) pe_int set_list))
      (pss_cons (ps_set (i := 3) scTake.nd rfl (.inl rfl) (pe_op op_mod (pe_op op_add (pe_op op_add (pe_op op_mul (pe_ix ix_list (pv 0) pe_int (fun _ _ => rfl)) (pe_ix ix_list (pv 0) pe_int (fun _ _ => rfl))) (pe_op op_mul pe_int (pe_ix ix_list (pv 0) pe_int (fun _ _ => rfl)))) pe_int) pe_int))
      (pss_cons (ps_set (i := 3) scTake.nd rfl (.inl rfl) (pe_op op_mod (pe_op op_add (pe_op op_mul (pv 3) (pv 3)) (pe_op op_mul pe_int (pv 3))) pe_int))
      (pss_one (ps_ret (pe_op op_mod (pe_op op_fdiv (pv 3) pe_int) (pv 1))))))), ?_⟩
    refine ⟨.ref z, rfl, z, _, 0, _, rfl, rfl, SqL.of e, rfl, x, 0, rfl, rfl, _, rfl, ite2 (fun c => ?_) (fun c => ?_)⟩
    · refine ⟨.ref z, rfl, z, _, 0, _, rfl, rfl, SqL.of e, rfl, .int m, rfl, x, m, rfl, rfl, hm, ?_⟩
      refine ⟨.ref z, rfl, z, _, 0, _, rfl, rfl, SqL.of e, rfl, .int m, rfl, x, m, rfl, rfl, ⟨hm, hm2⟩, ?_⟩
      refine ⟨.ref z, rfl, z, _, 0, 0, rfl, rfl, e, rfl, ?_⟩
      refine ⟨.int (x % m), rfl, q _ _ .self ⟨x / m, y, upd_same, Int.ediv_nonneg hx (Int.le_of_lt hm), hy, hy2⟩ (Int.emod_nonneg _ (by omega)) (Int.emod_lt_of_pos _ hm)⟩
    · have b1 := Int.emod_nonneg (y * 48271 + 29) (show (2147483647 : Int) ≠ 0 by decide)
      have b2 := Int.emod_lt_of_pos (y * 48271 + 29) (show (0 : Int) < 2147483647 by decide)
      refine ⟨.ref z, rfl, z, _, 1, _, rfl, rfl, SqL.of e, rfl, y, 48271, rfl, rfl, .inr ⟨by decide, by decide⟩, _, _, rfl, rfl, _, 2147483647, rfl, rfl, (by show (0 : Int) < 2147483647; decide), ?_⟩
      refine ⟨.ref z, rfl, z, _, 1, 1, rfl, rfl, e, rfl, ?_⟩
      have e2 : (upd H z (.lst [.int x, .int ((y * 48271 + 29) % 2147483647)])) z = some (.lst [.int x, .int ((y * 48271 + 29) % 2147483647)]) := upd_same
      obtain ⟨y2, ey⟩ : ∃ y2, y2 = (y * 48271 + 29) % 2147483647 := ⟨_, rfl⟩
      rw [← ey] at b1 b2 e2
      show (fun H0 : Hp => _) (upd H z (.lst [.int x, .int ((y * 48271 + 29) % 2147483647)]))
      rw [← ey]
      refine ⟨.ref z, rfl, z, _, 1, _, rfl, rfl, SqL.of e2, rfl, .ref z, rfl, z, _, 1, _, rfl, rfl, SqL.of e2, rfl, y2, y2, rfl, rfl, .inl ⟨by omega, by omega⟩, .ref z, rfl, z, _, 1, _, rfl, rfl, SqL.of e2, rfl, 39373, y2, rfl, rfl, .inl ⟨by decide, by decide⟩, _, _, rfl, rfl, _, 7, rfl, rfl, _, 2147483629, rfl, rfl, (by show (0 : Int) < 2147483629; decide), ?_⟩
      have c1 := Int.emod_nonneg (y2 * y2 + 39373 * y2 + 7) (show (2147483629 : Int) ≠ 0 by decide)
      have c2 := Int.emod_lt_of_pos (y2 * y2 + 39373 * y2 + 7) (show (0 : Int) < 2147483629 by decide)
      have d1 : -(2 : Int) ^ 64 < (y2 * y2 + 39373 * y2 + 7) % 2147483629 := Int.lt_of_lt_of_le (by decide) c1
      have d2 : (y2 * y2 + 39373 * y2 + 7) % 2147483629 < (2 : Int) ^ 64 := Int.lt_trans c2 (by decide)
      refine ⟨_, rfl, _, rfl, _, _, rfl, rfl, .inl ⟨d1, d2⟩, _, rfl, 16807, _, rfl, rfl, .inl ⟨by decide, by decide⟩, _, _, rfl, rfl, _, 2147483587, rfl, rfl, (by show (0 : Int) < 2147483587; decide), ?_⟩
      refine ⟨_, rfl, _, 8, rfl, rfl, ⟨by decide, by decide⟩, .int m, rfl, _, m, rfl, rfl, hm, ?_⟩
      exact q _ _ .self ⟨x, y2, e2, hx, b1, b2⟩ (Int.emod_nonneg _ (by omega)) (Int.emod_lt_of_pos _ hm)
theorem scCell : FnScope ["_law_script", "_law_k"] ["_law_script", "_law_k"] (defScope sCell) := ⟨rfl, rfl, rfl, by decide +kernel, rfl, by decide +kernel, by decide +kernel⟩
def spCell (K : PySem.W.Frag) : Sp := fun vs H Q _ => ∃ (a : Addr) (ns : List Int) (i : Nat), vs = [.ref a, .int (i : Int)] ∧ SqL K H a (ns.map V.int) ∧ ∀ n, Q (.int n) H
theorem ok_cell {f : Addr} {fd : FuncData} {k : Nat} (D : Df K mg "_law_cell_at" sCell ["_law_script", "_law_k"] f fd) (ml : mg "len" = none) : FnOk P w K mg base CX0 (k + 1) f fd ["_law_script", "_law_k"] (spCell K) := by
  refine D.F.ok scCell (fun vs H Q E h => ?_) (fun cdv A outer s H vs Q E hr h => ?_)
  · obtain ⟨_, _, _, rfl, _⟩ := h
    rfl
  · obtain ⟨a, ns, i, rfl, hS, q⟩ := h
    refine ⟨_, pss_cons (ps_if (pt_cmpR op_lt (pv 1) (pe_callB call_len_seq (by rfl) ml PySem.boot_len (pa_cons (pv 0) pa_nil)) (nomark _))
        (pss_one (ps_ret (pe_ix ix_list (pv 0) (pv 1) (fun _ _ => rfl)))) pss_nil) (pss_one (ps_ret pe_int)), ?_⟩
    refine ⟨.int i, rfl, .ref a, rfl, a, _, rfl, .inl hS, _, _, rfl, rfl, _, rfl, ite2 (fun c => ?_) (fun c => ?_)⟩
    · have c' : (i : Int) < ((ns.map V.int).length : Int) := of_decide_eq_true c
      rw [List.length_map] at c'
      have hi : i < ns.length := by omega
      refine ⟨.ref a, rfl, .int i, rfl, a, _, i, .int ns[i], rfl, rfl, hS, atI_nat ?_, q _⟩
      rw [List.getElem?_map, List.getElem?_eq_getElem hi]
      rfl
    · exact q _
theorem scState : FnScope ["_law_script", "_law_k", "_law_cell"] ["_law_script", "_law_k"] (defScope sState) := ⟨rfl, rfl, rfl, by decide +kernel, rfl, by decide +kernel, by decide +kernel⟩
def spState (K : PySem.W.Frag) : Sp := fun vs H Q _ => ∃ (a : Addr) (ns : List Int) (i : Nat), vs = [.ref a, .int (i : Int)] ∧ SqL K H a (ns.map V.int) ∧ ∀ H' z, Same H H' → H z = none → StOk H' z → Q (.ref z) H'
theorem ok_state {f fC : Addr} {fd fdC : FuncData} {k : Nat} (D : Df K mg "_law_state" sState ["_law_script", "_law_k"] f fd) (DC : Df K mg "_law_cell_at" sCell ["_law_script", "_law_k"] fC fdC) (ml : mg "len" = none) (mm : mg "max" = none) : FnOk P w K mg base CX0 (k + 2) f fd ["_law_script", "_law_k"] (spState K) := by
  have G : FnOk P w K mg base CX0 (k + 1) fC fdC ["_law_script", "_law_k"] (spCell K) := ok_cell DC ml
  refine D.F.ok scState (fun vs H Q E h => ?_) (fun cdv A outer s H vs Q E hr h => ?_)
  · obtain ⟨_, _, _, rfl, _⟩ := h
    rfl
  · obtain ⟨a, ns, i, rfl, hS, q⟩ := h
    refine ⟨_, pss_cons (ps_set (i := 2) scState.nd rfl (.inl rfl) (pe_call G hr (by rfl) DC.g DC.F.kp DC.b .nil pass0 (pa_cons (pv 0) (pa_cons (pv 1) pa_nil))))
      (pss_one (ps_ret (pe_lst (pa_cons (pe_callB (call_max2 rfl) (by rfl) mm (by decide +kernel) (pa_cons pe_int (pa_cons (pe_op op_sub (pv 2) (pe_op op_pow pe_int pe_int)) pa_nil)))
        (pa_cons (pe_op op_mod (pv 2) pe_int) pa_nil))))), ?_⟩
    refine ⟨.ref a, rfl, .int i, rfl, a, ns, i, rfl, hS, fun n => ?_⟩
    refine ⟨.int n, rfl, 10, 18, rfl, rfl, ⟨by decide, by decide, by decide⟩, n, _, rfl, rfl, 0, _, rfl, .int n, rfl, n, 2147483647, rfl, rfl, (by show (0 : Int) < 2147483647; decide), by show 2 ≤ sizeLine; decide, fun z hz => ?_⟩
    refine q _ z (same_new hz) hz ⟨_, _, upd_same, ?_, Int.emod_nonneg _ (by decide), Int.emod_lt_of_pos _ (by decide)⟩
    split <;> omega
end
end Wy

namespace Wy
open PySem PySem.Spec PyProof.Rows L2
abbrev sNetQ : Stmt := topS 16
abbrev sRoadQ : Stmt := topS 18
abbrev sChkN : Stmt := topS 19
abbrev sChkP : Stmt := topS 20
/-! ### nets -/
structure Road where
  one : Int
  other : Int
  cost : Int
  time : Int
def Road.vs (q : Road) : List V := [.int q.one, .int q.other, .int q.cost, .int q.time]
structure RoadOk (p : Int) (q : Road) : Prop where
  o1 : 0 ≤ q.one
  o2 : q.one ≤ p - 1
  t1 : 0 ≤ q.other
  t2 : q.other ≤ p - 1
  ne : q.one ≠ q.other
  c1 : 1 ≤ q.cost
  c2 : q.cost ≤ 99
  m1 : 0 ≤ q.time
  m2 : q.time ≤ 99
structure NetOk (p : Int) (rs : List Road) : Prop where
  p1 : 1 ≤ p
  p2 : p ≤ 10
  len : rs.length ≤ 30
  all : ∀ q ∈ rs, RoadOk p q
/-- the tuples at ts are the roads rs -/
def RoadsAt (H : Hp) : List Addr → List Road → Prop := Paired fun t q => H t = some (.tup q.vs)
def NetAt (H : Hp) (a r : Addr) (ts : List Addr) (p : Int) (rs : List Road) : Prop := H a = some (.tup [.int p, .ref r]) ∧ H r = some (.tup (ts.map V.ref)) ∧ RoadsAt H ts rs
theorem RoadsAt.keep {H H' : Hp} {ts : List Addr} {rs : List Road} (h : RoadsAt H ts rs) (k : ∀ b xs, H b = some (.tup xs) → H' b = some (.tup xs)) : RoadsAt H' ts rs := Paired.mapP h fun _ _ e => k _ _ e
theorem NetAt.keep {H H' : Hp} {a r : Addr} {ts : List Addr} {p : Int} {rs : List Road} (h : NetAt H a r ts p rs) (k : ∀ b xs, H b = some (.tup xs) → H' b = some (.tup xs)) : NetAt H' a r ts p rs := ⟨k _ _ h.1, k _ _ h.2.1, h.2.2.keep k⟩
theorem RoadsAt.len {H : Hp} {ts : List Addr} {rs : List Road} (h : RoadsAt H ts rs) : ts.length = rs.length := Paired.length h
theorem RoadsAt.get {H : Hp} : ∀ {ts : List Addr} {rs : List Road} {i : Nat} {t : Addr}, RoadsAt H ts rs → ts[i]? = some t → ∃ q, rs[i]? = some q ∧ H t = some (.tup q.vs)
  | _, _, _, _, .nil, e => by simp at e
  | _, _, 0, _, .cons r _, e => by
    simp at e
    subst e
    exact ⟨_, rfl, r⟩
  | _, _, i + 1, t, .cons _ s, e => by
    obtain ⟨q, h1, h2⟩ := RoadsAt.get (i := i) (t := t) s (by simpa using e)
    exact ⟨q, by simpa using h1, h2⟩
/-! ### ways -/
def step (rs : List Road) (here : Int) (v : V) : Option Road := match v with
  | .int i => if 0 ≤ i ∧ i ≤ (rs.length : Int) - 1 then (match rs[i.toNat]? with
    | some q => if q.one = here then some q else none
    | none => none) else none
  | _ => none
def goes (rs : List Road) : Int → List V → Option (List Road)
  | _, [] => some []
  | here, v :: r => match step rs here v with
    | none => none
    | some q => (goes rs q.other r).map (q :: ·)
def lastOf (here : Int) (qs : List Road) : Int := ((here :: qs.map Road.other).getLast?).getD here
def metOf (here : Int) (qs : List Road) : List Int := here :: qs.map Road.other
theorem lastOf_cons (here : Int) (q : Road) (qs : List Road) : lastOf here (q :: qs) = lastOf q.other qs := by
  unfold lastOf
  rw [List.map_cons, List.getLast?_cons_cons]
  cases e : (q.other :: qs.map Road.other).getLast? with
  | none => simp at e
  | some z => rfl
theorem lastOf_snoc (here : Int) (qs : List Road) (q : Road) : lastOf here (qs ++ [q]) = q.other := by
  unfold lastOf
  rw [List.map_append, List.map_singleton, ← List.cons_append, List.getLast?_append]
  rfl
theorem goes_snoc (rs : List Road) : ∀ (xs : List V) (here : Int) (v : V), goes rs here (xs ++ [v]) = (goes rs here xs).bind fun qs => (step rs (lastOf here qs) v).map fun q => qs ++ [q]
  | [], here, v => by
    show (match step rs here v with | none => none | some q => (some []).map (q :: ·)) = (step rs (lastOf here []) v).map fun q => [] ++ [q]
    show _ = (step rs here v).map fun q => [q]
    cases step rs here v <;> rfl
  | x :: r, here, v => by
    show (match step rs here x with | none => none | some q => (goes rs q.other (r ++ [v])).map (q :: ·)) = (match step rs here x with | none => none | some q => (goes rs q.other r).map (q :: ·)).bind _
    cases e : step rs here x with
    | none => rfl
    | some q =>
      show (goes rs q.other (r ++ [v])).map (q :: ·) = ((goes rs q.other r).map (q :: ·)).bind _
      rw [goes_snoc rs r q.other v]
      cases e2 : goes rs q.other r with
      | none => rfl
      | some qs =>
        show ((step rs (lastOf q.other qs) v).map fun q => qs ++ [q]).map (q :: ·) = (step rs (lastOf here (q :: qs)) v).map fun z => (q :: qs) ++ [z]
        rw [lastOf_cons]
        cases step rs (lastOf q.other qs) v <;> rfl
theorem goes_none (rs : List Road) : ∀ (ys xs : List V) (here : Int), goes rs here xs = none → goes rs here (xs ++ ys) = none
  | ys, [], here, h => by
    have h : some [] = (none : Option (List Road)) := h
    cases h
  | ys, x :: r, here, h => by
    show (match step rs here x with | none => none | some q => (goes rs q.other (r ++ ys)).map (q :: ·)) = none
    have h : (match step rs here x with | none => none | some q => (goes rs q.other r).map (q :: ·)) = none := h
    cases e : step rs here x with
    | none => rfl
    | some q =>
      rw [e] at h
      have h2 : goes rs q.other r = none := by
        cases e2 : goes rs q.other r with
        | none => rfl
        | some z =>
          have h3 : (goes rs q.other r).map (q :: ·) = none := h
          rw [e2] at h3
          cases h3
      show (goes rs q.other (r ++ ys)).map (q :: ·) = none
      rw [goes_none rs ys r q.other h2]
      rfl
theorem goes_stop (rs : List Road) {xs : List V} {here : Int} {i : Nat} {v : V} {qs : List Road} (hi : xs[i]? = some v) (h : goes rs here (xs.take i) = some qs) (hs : step rs (lastOf here qs) v = none) : goes rs here xs = none := by
  have e : goes rs here (xs.take (i + 1)) = none := by
    rw [List.take_add_one, hi]
    show goes rs here (xs.take i ++ [v]) = none
    rw [goes_snoc, h]
    show (step rs (lastOf here qs) v).map _ = none
    rw [hs]
    rfl
  have := goes_none rs (xs.drop (i + 1)) _ here e
  rwa [List.take_append_drop] at this
theorem goes_go (rs : List Road) {xs : List V} {here : Int} {i : Nat} {v : V} {qs : List Road} {q : Road} (hi : xs[i]? = some v) (h : goes rs here (xs.take i) = some qs) (hs : step rs (lastOf here qs) v = some q) : goes rs here (xs.take (i + 1)) = some (qs ++ [q]) := by
  rw [List.take_add_one, hi]
  show goes rs here (xs.take i ++ [v]) = _
  rw [goes_snoc, h]
  show (step rs (lastOf here qs) v).map _ = _
  rw [hs]
  rfl
theorem goes_len (rs : List Road) : ∀ {xs : List V} {here : Int} {qs : List Road}, goes rs here xs = some qs → qs.length = xs.length
  | [], _, _, h => by
    have h := Option.some.inj h
    subst h
    rfl
  | x :: r, here, qs, h => by
    have h : (match step rs here x with | none => none | some q => (goes rs q.other r).map (q :: ·)) = some qs := h
    cases e : step rs here x with
    | none =>
      rw [e] at h
      cases h
    | some q =>
      rw [e] at h
      obtain ⟨z, e1, e2⟩ := Option.map_eq_some_iff.mp h
      subst e2
      rw [List.length_cons, List.length_cons, goes_len rs e1]
/-- the roads of a way, by its numbers -/
theorem goes_at (rs : List Road) : ∀ {xs : List V} {here : Int} {qs : List Road} {i : Nat} {v : V}, goes rs here xs = some qs → xs[i]? = some v → ∃ (n : Nat) (q : Road), v = .int (n : Int) ∧ rs[n]? = some q ∧ qs[i]? = some q
  | [], _, _, _, _, _, e => by simp at e
  | x :: r, here, qs, i, v, h, e => by
    have h : (match step rs here x with | none => none | some q => (goes rs q.other r).map (q :: ·)) = some qs := h
    cases e1 : step rs here x with
    | none =>
      rw [e1] at h
      cases h
    | some q =>
      rw [e1] at h
      obtain ⟨z, e2, e3⟩ := Option.map_eq_some_iff.mp h
      subst e3
      cases i with
      | zero =>
        simp at e
        subst e
        unfold step at e1
        split at e1
        · rename_i k
          split at e1
          · rename_i hk
            split at e1
            · rename_i q' eq
              split at e1
              · cases e1
                exact ⟨k.toNat, q, by rw [Int.toNat_of_nonneg hk.1], eq, rfl⟩
              · cases e1
            · cases e1
          · cases e1
        · cases e1
      | succ i => exact goes_at rs (i := i) e2 (by simpa using e)
theorem step_int (rs : List Road) {here : Int} {n : Nat} {q : Road} (h : rs[n]? = some q) : step rs here (.int (n : Int)) = if q.one = here then some q else none := by
  have hn : n < rs.length := (List.getElem?_eq_some_iff.mp h).1
  unfold step
  dsimp only
  rw [if_pos (by omega), Int.toNat_natCast, h]
theorem step_out (rs : List Road) {here : Int} {v : V} (h : isIn v 0 ((rs.length : Int) - 1) = false) : step rs here v = none := by
  unfold step
  split
  · rename_i i
    have h : (decide (0 ≤ i) && decide (i ≤ (rs.length : Int) - 1)) = false := h
    rw [if_neg]
    rintro ⟨a, b⟩
    rw [decide_eq_true a, decide_eq_true b] at h
    cases h
  · rfl
theorem isIn_true {v : V} {lo hi : Int} (h : isIn v lo hi = true) : ∃ i, v = .int i ∧ lo ≤ i ∧ i ≤ hi := by
  unfold isIn at h
  split at h
  · rename_i i
    rw [Bool.and_eq_true, decide_eq_true_eq, decide_eq_true_eq] at h
    exact ⟨i, rfl, h.1, h.2⟩
  · cases h
section
variable {P : Program} {w : World} {K : PySem.W.Frag} {mg : Str → Option Value} {base : Heap}
theorem scWhole : FnScope ["thing"] ["thing"] (defScope sWhole) := ⟨rfl, rfl, rfl, by decide +kernel, rfl, by decide +kernel, by decide +kernel⟩
def isInt : V → Bool
  | .int _ => true
  | _ => false
def spWhole : Sp := fun vs H Q _ => ∃ (v : V) (n : String), vs = [v] ∧ Tg H v n ∧ Q (.bl (isInt v)) H
theorem ok_whole {f : Addr} {fd : FuncData} {k : Nat} (D : Df K mg "is_whole" sWhole ["thing"] f fd) (mi : mg "isinstance" = none) (mI : mg "int" = none) (mB : mg "bool" = none) : FnOk P w K mg base CX0 (k + 1) f fd ["thing"] spWhole := by
  refine D.F.ok scWhole (fun vs H Q E h => ?_) (fun cdv A outer s H vs Q E hr h => ?_)
  · obtain ⟨_, _, rfl, _⟩ := h
    rfl
  · obtain ⟨v, n, rfl, t, q⟩ := h
    refine ⟨_, pss_one (ps_ret (pe_and (pe_callB call_isi (by rfl) mi (by decide +kernel) (pa_cons (pv 0) (pa_cons (pe_bltn (v := .ty "int") (by rfl) mI (by decide +kernel) rfl) pa_nil)))
      (pe_one (pe_not (pe_callB call_isi (by rfl) mi (by decide +kernel) (pa_cons (pv 0) (pa_cons (pe_bltn (v := .ty "bool") (by rfl) mB (by decide +kernel) rfl) pa_nil))))))), ?_⟩
    refine ⟨v, rfl, v, .ty "int", .type n, .type "int", kInt n, rfl, .ty _, t.tyx, isi_int t, _, rfl, ?_⟩
    cases t with
    | int i => exact iteT ⟨_, rfl, .int i, .ty "bool", .type "int", .type "bool", false, rfl, .ty _, .base (.int i), isi_bool (.int (H := H) i), _, rfl, q⟩
    | bl b => exact iteT ⟨_, rfl, .bl b, .ty "bool", .type "bool", .type "bool", true, rfl, .ty _, .base (.bl b), isi_bool (.bl (H := H) b), _, rfl, q⟩
    | non => exact iteF q
    | str x => exact iteF q
    | lst e => exact iteF q
    | tup e => exact iteF q
    | dct e => exact iteF q
theorem scWithin : FnScope ["thing", "low", "high"] ["thing", "low", "high"] (defScope sWithin) := ⟨rfl, rfl, rfl, by decide +kernel, rfl, by decide +kernel, by decide +kernel⟩
/-- the defs of the two small modules -/
structure Sm (K : PySem.W.Frag) (mg : Str → Option Value) (f1 f2 f3 f4 f5 : Addr) (d1 d2 d3 d4 d5 : FuncData) : Prop where
  mi : mg "isinstance" = none
  mI : mg "int" = none
  mB : mg "bool" = none
  mT : mg "tuple" = none
  ml : mg "len" = none
  mA : mg "all" = none
  mS : mg "sum" = none
  mE : mg "set" = none
  c1 : ∃ t, mg "MOST_PLACES" = some (.int 10 t)
  c2 : ∃ t, mg "MOST_ROADS" = some (.int 30 t)
  c3 : ∃ t, mg "LEAST_COST" = some (.int 1 t)
  c4 : ∃ t, mg "MOST_COST" = some (.int 99 t)
  c5 : ∃ t, mg "MOST_TIME" = some (.int 99 t)
  whole : Df K mg "is_whole" sWhole ["thing"] f1 d1
  within : Df K mg "is_within" sWithin ["thing", "low", "high"] f2 d2
  tupOf : Df K mg "is_tuple_of" sTupOf ["thing", "many"] f3 d3
  roadQ : Df K mg "is_road_among" sRoadQ ["places", "thing"] f4 d4
  netQ : Df K mg "is_net" sNetQ ["thing"] f5 d5
  roadOf : ∃ f d, Df K mg "is_road_of" sRoadOf ["net", "thing"] f d
variable {f1 f2 f3 f4 f5 : Addr} {d1 d2 d3 d4 d5 : FuncData}
def spWithin : Sp := fun vs H Q _ => ∃ (v : V) (n : String) (lo hi : Int), vs = [v, .int lo, .int hi] ∧ Tg H v n ∧ Q (.bl (isIn v lo hi)) H
theorem ok_within {k : Nat} (S : Sm K mg f1 f2 f3 f4 f5 d1 d2 d3 d4 d5) : FnOk P w K mg base CX0 (k + 2) f2 d2 ["thing", "low", "high"] spWithin := by
  have G : FnOk P w K mg base CX0 (k + 1) f1 d1 ["thing"] spWhole := ok_whole S.whole S.mi S.mI S.mB
  refine S.within.F.ok scWithin (fun vs H Q E h => ?_) (fun cdv A outer s H vs Q E hr h => ?_)
  · obtain ⟨_, _, _, _, rfl, _⟩ := h
    rfl
  · obtain ⟨v, n, lo, hi, rfl, t, q⟩ := h
    refine ⟨_, pss_one (ps_ret (pe_and (pe_call G hr (by rfl) S.whole.g S.whole.F.kp S.whole.b .nil pass0 (pa_cons (pv 0) pa_nil)) (pe_one (pe_chain op_le op_le (pv 1) (pv 0) (pv 2))))), ?_⟩
    refine ⟨v, rfl, v, n, rfl, t, _, rfl, ?_⟩
    cases v with
    | int i =>
      refine iteT ⟨.int lo, rfl, .int i, rfl, lo, i, rfl, rfl, _, rfl, ite2 (fun c => ?_) (fun c => ?_)⟩
      · refine ⟨.int hi, rfl, i, hi, rfl, rfl, ?_⟩
        have e : isIn (.int i) lo hi = decide (i ≤ hi) := by
          show (decide (lo ≤ i) && decide (i ≤ hi)) = _
          rw [c, Bool.true_and]
        rw [e] at q
        exact q
      · have e : isIn (.int i) lo hi = false := by
          show (decide (lo ≤ i) && decide (i ≤ hi)) = _
          rw [Bool.eq_false_iff.mpr c, Bool.false_and]
        rw [e] at q
        exact q
    | _ => exact iteF q
theorem scTupOf : FnScope ["thing", "many"] ["thing", "many"] (defScope sTupOf) := ⟨rfl, rfl, rfl, by decide +kernel, rfl, by decide +kernel, by decide +kernel⟩
def spTupOf : Sp := fun vs H Q _ => ∃ (a : Addr) (xs : List V) (m : Int), vs = [.ref a, .int m] ∧ H a = some (.tup xs) ∧ (xs.length : Int) = m ∧ Q (.bl true) H
theorem ok_tupOf {k : Nat} (S : Sm K mg f1 f2 f3 f4 f5 d1 d2 d3 d4 d5) : FnOk P w K mg base CX0 (k + 1) f3 d3 ["thing", "many"] spTupOf := by
  refine S.tupOf.F.ok scTupOf (fun vs H Q E h => ?_) (fun cdv A outer s H vs Q E hr h => ?_)
  · obtain ⟨_, _, _, rfl, _⟩ := h
    rfl
  · obtain ⟨a, xs, m, rfl, e, el, q⟩ := h
    refine ⟨_, pss_one (ps_ret (pe_and (pe_callB call_isi (by rfl) S.mi (by decide +kernel) (pa_cons (pv 0) (pa_cons (pe_bltn (v := .ty "tuple") (by rfl) S.mT (by decide +kernel) rfl) pa_nil)))
      (pe_one (pe_cmpR op_eq (pe_callB call_len_seq (by rfl) S.ml PySem.boot_len (pa_cons (pv 0) pa_nil)) (pv 1) (nomark _))))), ?_⟩
    have t : Tg H (.ref a) "tuple" := .tup e
    refine ⟨.ref a, rfl, .ref a, .ty "tuple", .type "tuple", .type "tuple", true, rfl, .ty _, t.tyx, isi_tuple t, _, rfl, iteT ?_⟩
    refine ⟨.ref a, rfl, a, xs, rfl, .inr (SqT.of e), .int m, rfl, rfl, ?_⟩
    rw [el, decide_eq_true rfl]
    exact q
theorem scRoadQ : FnScope ["places", "thing", "one", "other", "cost", "time"] ["places", "thing"] (defScope sRoadQ) := ⟨rfl, rfl, rfl, by decide +kernel, rfl, by decide +kernel, by decide +kernel⟩
def spRoadQ : Sp := fun vs H Q _ => ∃ (t : Addr) (p : Int) (q : Road), vs = [.int p, .ref t] ∧ H t = some (.tup q.vs) ∧ RoadOk p q ∧ Q (.bl true) H
theorem isIn_of {i lo hi : Int} (a : lo ≤ i) (b : i ≤ hi) : isIn (.int i) lo hi = true := by
  show (decide (lo ≤ i) && decide (i ≤ hi)) = true
  rw [decide_eq_true a, decide_eq_true b]
  rfl
theorem ok_roadQ {k : Nat} (S : Sm K mg f1 f2 f3 f4 f5 d1 d2 d3 d4 d5) : FnOk P w K mg base CX0 (k + 3) f4 d4 ["places", "thing"] spRoadQ := by
  have G : FnOk P w K mg base CX0 (k + 2) f2 d2 ["thing", "low", "high"] spWithin := ok_within S
  have GT : FnOk P w K mg base CX0 (k + 2) f3 d3 ["thing", "many"] spTupOf := ok_tupOf S
  obtain ⟨t3, c3⟩ := S.c3
  obtain ⟨t4, c4⟩ := S.c4
  obtain ⟨t5, c5⟩ := S.c5
  refine S.roadQ.F.ok scRoadQ (fun vs H Q E h => ?_) (fun cdv A outer s H vs Q E hr h => ?_)
  · obtain ⟨_, _, _, rfl, _⟩ := h
    rfl
  · obtain ⟨t, p, r, rfl, e, ok, q⟩ := h
    refine ⟨_, pss_cons (ps_if (pt_not (pt_val (pe_call GT hr (by rfl) S.tupOf.g S.tupOf.F.kp S.tupOf.b .nil pass0 (pa_cons (pv 1) (pa_cons pe_int pa_nil))))) pss_never pss_nil)
      (pss_cons (ps_asg (pv 1) (pg_tup (by rfl) (pgs_cons (pg_name (i := 2) scRoadQ.nd rfl (.inl rfl)) (pgs_cons (pg_name (i := 3) scRoadQ.nd rfl (.inl rfl)) (pgs_cons (pg_name (i := 4) scRoadQ.nd rfl (.inl rfl)) (pgs_cons (pg_name (i := 5) scRoadQ.nd rfl (.inl rfl)) pgs_nil))))))
      (pss_cons (ps_if (PW.pt (pw_or (pt_not (pt_val (pe_call G hr (by rfl) S.within.g S.within.F.kp S.within.b .nil pass0 (pa_cons (pv 2) (pa_cons pe_int (pa_cons (pe_op op_sub (pv 0) pe_int) pa_nil)))))) (pw_or1 (pt_not (pt_val (pe_call G hr (by rfl) S.within.g S.within.F.kp S.within.b .nil pass0 (pa_cons (pv 3) (pa_cons pe_int (pa_cons (pe_op op_sub (pv 0) pe_int) pa_nil)))))))))
        pss_never pss_nil)
      (pss_one (ps_ret (pe_and (pe_cmpR op_ne (pv 2) (pv 3) (nomark _)) (pe_and (pe_call G hr (by rfl) S.within.g S.within.F.kp S.within.b .nil pass0 (pa_cons (pv 4) (pa_cons (pe_glob (v := .int 1) (by rfl) c3 ⟨t3, rfl⟩) (pa_cons (pe_glob (v := .int 99) (by rfl) c4 ⟨t4, rfl⟩) pa_nil))))
        (pe_one (pe_call G hr (by rfl) S.within.g S.within.F.kp S.within.b .nil pass0 (pa_cons (pv 5) (pa_cons pe_int (pa_cons (pe_glob (v := .int 99) (by rfl) c5 ⟨t5, rfl⟩) pa_nil))))))))))), ?_⟩
    refine ⟨.ref t, rfl, t, _, 4, rfl, e, rfl, _, rfl, iteF ?_⟩
    refine ⟨.ref t, rfl, t, _, rfl, SqT.of e, rfl, .int r.one, _, rfl, .int r.other, _, rfl, .int r.cost, _, rfl, .int r.time, _, rfl, rfl, ?_⟩
    refine ⟨.int r.one, rfl, .int p, rfl, p, 1, rfl, rfl, .int r.one, "int", 0, p - 1, rfl, .int _, _, rfl, ?_⟩
    rw [isIn_of ok.o1 ok.o2]
    refine iteF ?_
    refine ⟨.int r.other, rfl, .int p, rfl, p, 1, rfl, rfl, .int r.other, "int", 0, p - 1, rfl, .int _, _, rfl, ?_⟩
    rw [isIn_of ok.t1 ok.t2]
    refine iteF ?_
    refine ⟨.int r.one, rfl, .int r.other, rfl, rfl, _, rfl, ?_⟩
    have hne : (V.int r.one) ≠ (V.int r.other) := fun z => ok.ne (V.int.inj z)
    rw [decide_eq_false hne]
    refine iteT ⟨.int r.cost, rfl, .int r.cost, "int", 1, 99, rfl, .int _, _, rfl, ?_⟩
    rw [isIn_of ok.c1 ok.c2]
    refine iteT ⟨.int r.time, rfl, .int r.time, "int", 0, 99, rfl, .int _, ?_⟩
    rw [isIn_of ok.m1 ok.m2]
    exact q
end
end Wy

namespace Wy
open PySem PySem.Spec PyProof.Rows L2
theorem Same.upd_lst {H H' : Hp} {D : Addr} {o : HO} (s : Same H H') (h : H D = none) : Same H (upd H' D o) := fun b x e => by
  rw [upd_ne (ne_of_none e h)]
  exact s b x e
/-! ### how many unlike numbers a list has -/
def manyOf (ns : List Int) : Nat := (PyProof.Rows.firstMet (fun i => ns.getD i 0) ns.length).length
theorem met_take {ns : List Int} : ∀ i, i ≤ ns.length → ((List.range i).map fun j => ns.getD j 0) = ns.take i
  | 0, _ => rfl
  | i + 1, hi => by
    rw [List.range_succ, List.map_append, met_take i (by omega), List.take_add_one, List.getElem?_eq_getElem (show i < ns.length from hi)]
    congr 1
    rw [List.map_singleton, List.getD_eq_getElem?_getD, List.getElem?_eq_getElem (show i < ns.length from hi)]
    rfl
theorem met_nodup {ns : List Int} : ∀ i, i ≤ ns.length → ((PyProof.Rows.firstMet (fun j => ns.getD j 0) i).length = i ↔ (ns.take i).Nodup)
  | 0, _ => by
    rw [PyProof.Rows.firstMet_zero]
    exact ⟨fun _ => List.nodup_nil, fun _ => rfl⟩
  | i + 1, hi => by
    have hlt : i < ns.length := hi
    have ih := met_nodup (ns := ns) i (by omega)
    have le := PyProof.Rows.firstMet_length_le (fun j => ns.getD j 0) i
    have ea := PyProof.Rows.firstMet_any (fun j => ns.getD j 0) i (ns.getD i 0)
    rw [met_take i (by omega)] at ea
    have ex : ns.getD i 0 = ns[i] := by
      rw [List.getD_eq_getElem?_getD, List.getElem?_eq_getElem hlt]
      rfl
    rw [PyProof.Rows.firstMet_succ, List.take_add_one, List.getElem?_eq_getElem hlt]
    show (PyProof.Rows.step_dedup _ (ns.getD i 0)).length = i + 1 ↔ (ns.take i ++ [ns[i]]).Nodup
    unfold PyProof.Rows.step_dedup
    rw [ea, ex]
    have hn : (ns.take i ++ [ns[i]]).Nodup ↔ (ns.take i).Nodup ∧ ns[i] ∉ ns.take i := by
      rw [List.nodup_append]
      constructor
      · rintro ⟨a, _, c⟩
        exact ⟨a, fun z => c _ z _ (List.mem_singleton.mpr rfl) rfl⟩
      · rintro ⟨a, c⟩
        refine ⟨a, List.Pairwise.cons (fun _ h => nomatch h) .nil, fun x hx y hy => ?_⟩
        rw [List.mem_singleton.mp hy]
        exact fun z => c (z ▸ hx)
    rw [hn]
    by_cases hm : ns[i] ∈ ns.take i
    · rw [if_pos (List.any_eq_true.mpr ⟨ns[i], hm, beq_self_eq_true ns[i]⟩ : ((List.take i ns).any fun x => x == ns[i]) = true)]
      constructor
      · intro z
        omega
      · intro z
        exact absurd hm z.2
    · rw [if_neg (fun (z : ((List.take i ns).any fun x => x == ns[i]) = true) => by
        obtain ⟨y, h1, h2⟩ := List.any_eq_true.mp z
        rw [eq_of_beq h2] at h1
        exact hm h1), List.length_append, List.length_singleton]
      constructor
      · intro z
        exact ⟨ih.mp (by omega), hm⟩
      · intro z
        have := ih.mpr z.1
        omega
theorem many_nodup (ns : List Int) : decide (manyOf ns = ns.length) = decide ns.Nodup := by
  have := met_nodup (ns := ns) ns.length (Nat.le_refl _)
  rw [List.take_length] at this
  exact decide_eq_decide.mpr this
def tSetLen (K : PySem.W.Frag) (ta : TE) : TE := fun σ H Q => ta σ H fun x G => ∃ (l : Addr) (ns : List Int), x = .ref l ∧ SqL K G l (ns.map V.int) ∧ ns.length ≤ 2000 ∧ Q (.int (manyOf ns : Nat)) G
theorem pe_setLen {X : Cx} {a : Expr} {ta : TE} {u1 u2 u3 u4 : Pos} (gl : Gl X "len") (ml : X.mg "len" = none) (gs : Gl X "set") (ms : X.mg "set" = none) (ha : PE X a ta) (calm : X.calm = true := by rfl)
    (st : starEach [a] X.env = (false, eval a X.env) :: starEach [] X.env := by rfl) : PE X (.Call (.Name "len" u1) [.Call (.Name "set" u2) [a] [] u3] [] u4) (tSetLen X.K ta) :=
  ⟨fun pins s σ H Q I h => by
    refine PyProof.Rows.Call_ (ld_blt I gl ml boot_len ?_)
    refine PyProof.Rows.callWith_builtin1 (PyProof.Rows.args_cons ?_ rfl) rfl rfl
    refine PyProof.Rows.Call_ (ld_blt I gs ms boot_set ?_)
    refine PyProof.Rows.callWith_type1 (PyProof.Rows.args_cons (thn (ha.run pins s σ H _ I h) fun v t ⟨x, G, J, rx, hx⟩ => PyProof.Rows.args_nil ?_) st) st rfl
    obtain ⟨l, ns, rfl, sq, len, fin⟩ := hx
    cases rx
    obtain ⟨items, vals, place, _⟩ := J.list sq
    have size : items.toArray.size = ns.length := by rw [List.size_toArray, ← vals.length, List.length_map]
    refine call_set_list (J.ok.hd calm) place.isList (by simpa using RZ.intsAre_vals vals) (by rw [size]; unfold scanBound; omega) fun h' tk made kept => ?_
    refine PyProof.Rows.args_nil ?_
    rw [size] at made
    have few := PyProof.Rows.firstMet_length_le (fun i => ns.getD i 0) ns.length
    obtain ⟨o, es, ep, t', ho, hex, hd, _, _, _, hf, hn⟩ := made
    have J2 : Inv X pins σ G { t with heap := h', toks := tk } := J.kept fun b o e => kept b o (Heap.lt_size e) e
    exact call_len_set ho hex hd hf (by rw [hn]; omega) ⟨.int (manyOf ns : Nat), G, J2.tok _, ⟨_, by rw [hn]; rfl⟩, fin⟩⟩
/-! ### what is handed in as a way -/
inductive Wh (H : Hp) : V → Option (List V) → Prop where
  | tup {b : Addr} {xs : List V} : H b = some (.tup xs) → (∀ y ∈ xs, ∃ n, Tg H y n) → xs.length ≤ 1000 → Wh H (.ref b) (some xs)
  | oth {v : V} {n : String} : Tg H v n → (n == "tuple") = false → Wh H v none
theorem Wh.keep {H H' : Hp} {v : V} {o : Option (List V)} (h : Wh H v o) (s : Same H H') : Wh H' v o := by
  cases h with
  | tup e a l =>
    refine .tup (s _ _ e) (fun y hy => ?_) l
    obtain ⟨n, t⟩ := a y hy
    exact ⟨n, t.keep s⟩
  | oth t n => exact .oth (t.keep s) n
def goesO (rs : List Road) (here : Int) (o : Option (List V)) : Option (List Road) := o.bind (goes rs here)
theorem met_last (here : Int) (qs : List Road) : atI ((metOf here qs).map V.int) (-1) = some (.int (lastOf here qs)) := by
  have e : metOf here qs ≠ [] := List.cons_ne_nil _ _
  have el : lastOf here qs = (metOf here qs).getLast e := by
    unfold lastOf
    show ((metOf here qs).getLast?).getD here = _
    rw [List.getLast?_eq_some_getLast e]
    rfl
  rw [el]
  conv => lhs; rw [← List.dropLast_concat_getLast e, List.map_append, List.map_singleton]
  exact atI_last _ _
theorem met_len (here : Int) (qs : List Road) : (metOf here qs).length = qs.length + 1 := by
  unfold metOf
  rw [List.length_cons, List.length_map]
theorem met_snoc (here : Int) (qs : List Road) (q : Road) : metOf here (qs ++ [q]) = metOf here qs ++ [q.other] := by
  unfold metOf
  rw [List.map_append, List.map_singleton, List.cons_append]
section
variable {P : Program} {w : World} {K : PySem.W.Frag} {mg : Str → Option Value} {base : Heap}
variable {f1 f2 f3 f4 f5 : Addr} {d1 d2 d3 d4 d5 : FuncData}
theorem scNetQ : FnScope ["thing", "places", "roads", "road"] ["thing"] (defScope sNetQ) := ⟨rfl, rfl, rfl, by decide +kernel, rfl, by decide +kernel, by decide +kernel⟩
def spNetQ : Sp := fun vs H Q _ => ∃ (a r : Addr) (ts : List Addr) (p : Int) (rs : List Road), vs = [.ref a] ∧ NetAt H a r ts p rs ∧ NetOk p rs ∧ ∀ H', Same H H' → Q (.bl true) H'
theorem all_yes (n : Nat) : (List.replicate n true).all id = true := by
  rw [List.all_eq_true]
  intro x hx
  rw [(List.mem_replicate.mp hx).2]
  rfl
theorem ok_netQ {k : Nat} (S : Sm K mg f1 f2 f3 f4 f5 d1 d2 d3 d4 d5) : FnOk P w K mg base CX0 (k + 4) f5 d5 ["thing"] spNetQ := by
  have G : FnOk P w K mg base CX0 (k + 3) f2 d2 ["thing", "low", "high"] spWithin := ok_within S
  have GT : FnOk P w K mg base CX0 (k + 3) f3 d3 ["thing", "many"] spTupOf := ok_tupOf S
  have GR : FnOk P w K mg base CX0 (k + 3) f4 d4 ["places", "thing"] spRoadQ := ok_roadQ S
  obtain ⟨t1, c1⟩ := S.c1
  obtain ⟨t2, c2⟩ := S.c2
  refine S.netQ.F.ok scNetQ (fun vs H Q E h => ?_) (fun cdv A outer s H vs Q E hr h => ?_)
  · obtain ⟨_, _, _, _, _, rfl, _⟩ := h
    rfl
  · obtain ⟨a, r, ts, p, rs, rfl, ⟨ea, er, et⟩, ok, q⟩ := h
    refine ⟨_, pss_cons (ps_if (pt_not (pt_val (pe_call GT hr (by rfl) S.tupOf.g S.tupOf.F.kp S.tupOf.b .nil pass0 (pa_cons (pv 0) (pa_cons pe_int pa_nil))))) pss_never pss_nil)
      (pss_cons (ps_asg (pv 0) (pg_tup (by rfl) (pgs_cons (pg_name (i := 1) scNetQ.nd rfl (.inr rfl)) (pgs_cons (pg_name (i := 2) scNetQ.nd rfl (.inl rfl)) pgs_nil))))
      (pss_cons (ps_if (pt_not (pt_val (pe_call G hr (by rfl) S.within.g S.within.F.kp S.within.b .nil pass0 (pa_cons (pv 1) (pa_cons pe_int (pa_cons (pe_glob (v := .int 10) (by rfl) c1 ⟨t1, rfl⟩) pa_nil)))))) pss_never pss_nil)
      (pss_cons (ps_if (PW.pt (pw_or (pt_not (pt_val (pe_callB call_isi (by rfl) S.mi (by decide +kernel) (pa_cons (pv 2) (pa_cons (pe_bltn (v := .ty "tuple") (by rfl) S.mT (by decide +kernel) rfl) pa_nil)))))
          (pw_or1 (pt_cmpR op_gt (pe_callB call_len_seq (by rfl) S.ml PySem.boot_len (pa_cons (pv 2) pa_nil)) (pe_glob (v := .int 30) (by rfl) c2 ⟨t2, rfl⟩) (nomark _))))) pss_never pss_nil)
      (pss_one (ps_ret (pe_callB (cr_all rfl) (by rfl) S.mA (by decide +kernel) (pa_cons
        (pe_lc (own := [("road", 3)]) (g := gName 3) (tt := tYes) rfl scNetQ.nd (pi_tup (pv 2)) (blkOk_by (N := ["thing", "places", "roads", "road"]) (sc := defScope sNetQ) (by decide +kernel))
          (fun _ _ _ _ _ => pg_name (i := 3) scNetQ.nd rfl (.inl rfl)) (fun _ _ _ _ _ => pts_nil)
          (fun _ _ _ _ _ => pe_call GR hr (by rfl) S.roadQ.g S.roadQ.F.kp S.roadQ.b .nil pass0 (pa_cons (pv 1) (pa_cons (pv 3) pa_nil)))) pa_nil))))))), ?_⟩
    refine ⟨.ref a, rfl, a, _, 2, rfl, ea, rfl, _, rfl, iteF ?_⟩
    refine ⟨.ref a, rfl, a, _, rfl, SqT.of ea, rfl, .int p, _, rfl, .ref r, _, rfl, rfl, ?_⟩
    refine ⟨.int p, rfl, .int p, "int", 1, 10, rfl, .int _, _, rfl, ?_⟩
    rw [isIn_of ok.p1 ok.p2]
    refine iteF ?_
    have t : Tg H (.ref r) "tuple" := .tup er
    refine ⟨.ref r, rfl, .ref r, .ty "tuple", .type "tuple", .type "tuple", true, rfl, .ty _, t.tyx, isi_tuple t, _, rfl, iteF ?_⟩
    have hl : ¬ ((30 : Int) < ((ts.map V.ref).length : Int)) := by
      rw [List.length_map, et.len]
      have := ok.len
      omega
    refine ⟨.ref r, rfl, r, _, rfl, .inr (SqT.of er), _, 30, rfl, rfl, _, rfl, ?_⟩
    rw [decide_eq_false hl]
    refine iteF ?_
    refine ⟨.ref r, rfl, r, rfl, ⟨_, SqT.of er⟩, fun D hD => ?_⟩
    refine lc_tup (xs := ts.map V.ref) (fun i H' => Same H H' ∧ H' D = some (.lst ((List.replicate i true).map V.bl))) ⟨same_new hD, upd_same⟩ (fun i H' _ h => SqT.of (h.1 _ _ er)) (fun i x H' hx h => ?_) (fun H' h => ?_)
    · obtain ⟨sm, eD⟩ := h
      have hi : i < ts.length := by
        have := (List.getElem?_eq_some_iff.mp hx).1
        rwa [List.length_map] at this
      rw [List.getElem?_map, List.getElem?_eq_getElem hi] at hx
      cases hx
      obtain ⟨rd, e1, e2⟩ := et.get (List.getElem?_eq_getElem hi)
      refine ⟨rfl, ?_⟩
      unfold tYes
      dsimp only
      rw [if_pos rfl]
      refine ⟨.int p, rfl, .ref ts[i], rfl, ts[i], p, rd, rfl, sm _ _ e2, ok.all _ (List.mem_of_getElem? e1), _, eD, ?_, ?_, ?_⟩
      · rw [List.length_map, List.length_replicate]
        have := ok.len
        rw [et.len] at hi
        exact small1000 (by omega)
      · exact Same.upd_lst sm hD
      · rw [upd_same, List.replicate_succ', List.map_append]
        rfl
    · obtain ⟨sm, eD⟩ := h
      refine ⟨D, _, rfl, SqL.of eD, ?_⟩
      rw [all_yes]
      exact q _ sm
theorem scChkN : FnScope ["thing"] ["thing"] (defScope sChkN) := ⟨rfl, rfl, rfl, by decide +kernel, rfl, by decide +kernel, by decide +kernel⟩
def spChkN : Sp := fun vs H Q _ => ∃ (a r : Addr) (ts : List Addr) (p : Int) (rs : List Road), vs = [.ref a] ∧ NetAt H a r ts p rs ∧ NetOk p rs ∧ ∀ H', Same H H' → Q .non H'
theorem ok_chkN {f : Addr} {fd : FuncData} {k : Nat} (S : Sm K mg f1 f2 f3 f4 f5 d1 d2 d3 d4 d5) (D : Df K mg "check_net" sChkN ["thing"] f fd) : FnOk P w K mg base CX0 (k + 5) f fd ["thing"] spChkN := by
  have G : FnOk P w K mg base CX0 (k + 4) f5 d5 ["thing"] spNetQ := ok_netQ S
  refine D.F.ok scChkN (fun vs H Q E h => ?_) (fun cdv A outer s H vs Q E hr h => ?_)
  · obtain ⟨_, _, _, _, _, rfl, _⟩ := h
    rfl
  · obtain ⟨a, r, ts, p, rs, rfl, hn, ok, q⟩ := h
    refine ⟨_, pss_one (ps_if (pt_not (pt_val (pe_call G hr (by rfl) S.netQ.g S.netQ.F.kp S.netQ.b .nil pass0 (pa_cons (pv 0) pa_nil)))) pss_never pss_nil), ?_⟩
    exact ⟨.ref a, rfl, a, r, ts, p, rs, rfl, hn, ok, fun H' sm => ⟨_, rfl, iteF (q _ sm)⟩⟩
/-- a class of refusals without an __init__ of its own -/
structure Ex (K : PySem.W.Frag) (mg : Str → Option Value) (x : Str) (C : Addr) : Prop where
  g : mg x = some (.ref C)
  x : PySem.W.excIn K C [.type "ValueError", .type "Exception", .type "BaseException", .type "object"] "ValueError.__new__" = true
  k : PySem.W.keepIn K (.ref C) = true
  b : PySem.W.subIn K (.ref C) (.type "BaseException") = some true
  t : PySem.W.typeIn K (.ref C) = some (.type "type")
theorem scChkP : FnScope ["net", "thing"] ["net", "thing"] (defScope sChkP) := ⟨rfl, rfl, rfl, by decide +kernel, rfl, by decide +kernel, by decide +kernel⟩
def spChkP (C : Addr) : Sp := fun vs H Q E => ∃ (a r : Addr) (ts : List Addr) (p : Int) (rs : List Road) (v : V) (n : String), vs = [.ref a, v] ∧ NetAt H a r ts p rs ∧ Tg H v n ∧ (isIn v 0 (p - 1) = true → Q .non H) ∧ (isIn v 0 (p - 1) = false → E (.ref C) none H)
theorem ok_chkP {f C : Addr} {fd : FuncData} {k : Nat} (S : Sm K mg f1 f2 f3 f4 f5 d1 d2 d3 d4 d5) (D : Df K mg "check_place" sChkP ["net", "thing"] f fd) (Z : Ex K mg "NoPlace" C) : FnOk P w K mg base (L2.CX P w) (k + 3) f fd ["net", "thing"] (spChkP C) := by
  have G : FnOk P w K mg base CX0 (k + 2) f2 d2 ["thing", "low", "high"] spWithin := ok_within S
  refine D.F.okX scChkP (fun vs H Q E h => ?_) (fun cdv A outer s H vs Q E hr h => ?_)
  · obtain ⟨_, _, _, _, _, _, _, rfl, _⟩ := h
    rfl
  · obtain ⟨a, r, ts, p, rs, v, n, rfl, ⟨ea, _, _⟩, t, q1, q2⟩ := h
    refine ⟨_, pss_one (ps_if (pt_not (pt_val (pe_call G hr (by rfl) S.within.g S.within.F.kp S.within.b .nil pass0 (pa_cons (pv 1) (pa_cons pe_int (pa_cons (pe_op op_sub (pe_ix ix_tup (pv 0) pe_int (fun _ _ => rfl)) pe_int) pa_nil))))))
      (pss_one (ps_raise rfl (takes_of rfl rfl rfl rfl) (pmk_own PySem.F.excBase_ValueError Z.x Z.g Z.k (raises_own Z.b Z.t) rfl))) pss_nil), ?_⟩
    refine ⟨v, rfl, .ref a, rfl, a, _, 0, _, rfl, rfl, SqT.of ea, rfl, p, 1, rfl, rfl, v, n, 0, p - 1, rfl, t, _, rfl, ?_⟩
    cases e : isIn v 0 (p - 1) with
    | true => exact iteF (q1 e)
    | false => exact iteT (q2 e)
end
end Wy

namespace Wy
open PySem PySem.Spec PyProof.Rows L2
abbrev sNet : Stmt := topS 38
/-! ### roads by their numbers -/
theorem road_at {H : Hp} {ts : List Addr} {rs : List Road} {n : Nat} (h : RoadsAt H ts rs) (hn : n < rs.length) : ∃ (t : Addr) (q : Road), ts[n]? = some t ∧ rs[n]? = some q ∧ H t = some (.tup q.vs) := by
  have h1 : n < ts.length := by rw [h.len]; exact hn
  obtain ⟨q, e1, e2⟩ := h.get (List.getElem?_eq_getElem h1)
  exact ⟨ts[n], q, List.getElem?_eq_getElem h1, e1, e2⟩
theorem ref_at {ts : List Addr} {n : Nat} {t : Addr} (h : ts[n]? = some t) : (ts.map V.ref)[n]? = some (.ref t) := by
  rw [List.getElem?_map, h]
  rfl
theorem ix_tupK {X : Cx} {K : PySem.W.Frag} (h : X.K = K) : IxR X (rIxT K) := by
  subst h
  exact ix_tup
theorem laid_snoc {H : Hp} {us : List Addr} {qs : List Road} {t : Addr} {q : Road} (h : RoadsAt H us qs) (e : H t = some (.tup q.vs)) : RoadsAt H (us ++ [t]) (qs ++ [q]) := by
  induction h with
  | nil => exact .cons e .nil
  | cons a _ ih => exact .cons a ih
/-! ### data of nets -/
def dRoad (q : Road) : PyData := .tuple [.int q.one, .int q.other, .int q.cost, .int q.time]
theorem road_dp {K : PySem.W.Frag} {H : Hp} {t : Addr} {q : Road} (e : H t = some (.tup q.vs)) : Dp K H (.ref t) (dRoad q) := .tup (SqT.of e) (.cons (.int _) (.cons (.int _) (.cons (.int _) (.cons (.int _) .nil))))
theorem roads_dp {K : PySem.W.Frag} {H : Hp} : ∀ {ts : List Addr} {rs : List Road}, RoadsAt H ts rs → DpAll K H (ts.map V.ref) (rs.map dRoad)
  | _, _, .nil => .nil
  | _, _, .cons e r => .cons (road_dp e) (roads_dp r)
theorem roads_lay : ∀ rs : List Road, PyData.canLayAll0 (rs.map dRoad) = true
  | [] => rfl
  | q :: r => by
    rw [List.map_cons, PyData.canLayAll0, roads_lay r]
    simp [dRoad, PyData.canLay0, PyData.canLayAll0]
theorem roads_deep : ∀ rs : List Road, PyData.depthAll (rs.map dRoad) ≤ 1
  | [] => by
    show PyData.depthAll [] ≤ 1
    rw [PyData.depthAll]
    omega
  | q :: r => by
    rw [List.map_cons, PyData.depthAll]
    have := roads_deep r
    have h2 : (dRoad q).depth ≤ 1 := by simp [dRoad, PyData.depth, PyData.depthAll]
    omega
theorem roads_shaped (rs : List Road) : SeqAt.shaped (.list (rs.map dRoad)) = true ∧ SeqAt.shaped (.tuple (rs.map dRoad)) = true := by
  have h := roads_deep rs
  constructor <;> (unfold SeqAt.shaped; rw [PyData.canLay0, roads_lay, PyData.depth, Bool.true_and]; exact decide_eq_true (by omega))
theorem pick {α : Type} {xs : List α} {n : Int} (h0 : 0 ≤ n) (h1 : n < (xs.length : Int)) : ∃ v, v ∈ xs ∧ atI xs n = some v := by
  obtain ⟨m, rfl⟩ := Int.eq_ofNat_of_zero_le h0
  have hm : m < xs.length := by omega
  exact ⟨xs[m], List.getElem_mem hm, atI_nat (List.getElem?_eq_getElem hm)⟩
theorem Keep.at {z b : Addr} {H H' : Hp} {o : HO} (k : Keep z H H') (h : H b = some o) (n : b ≠ z) : H' b = some o := k b o h n
theorem StOk.neT {H : Hp} {z b : Addr} {xs : List V} (s : StOk H z) (h : H b = some (.tup xs)) : b ≠ z := let ⟨_, _, e, _⟩ := s; ne_of h e (fun q => nomatch q)
theorem Keep.tups {z : Addr} {H H' : Hp} (k : Keep z H H') (s : StOk H z) : ∀ b xs, H b = some (.tup xs) → H' b = some (.tup xs) := fun b xs e => k b _ e (s.neT e)
end Wy

namespace Wy
open PySem PySem.Spec PyProof.Rows L2
def tCutE (t : TE) : TE := fun σ H Q => ∃ R : VK, t σ H R ∧ ∀ v H', R v H' → Q v H'
theorem pe_cut {X : Cx} {e : Expr} {t : TE} (h : PE X e t) : PE X e (tCutE t) := ⟨fun pins s σ H Q I hq => by
  obtain ⟨R, h1, h2⟩ := hq
  exact thn (h.run pins s σ H R I h1) fun u s1 ⟨v, G, J, r, q⟩ => ⟨v, G, J, r, h2 _ _ q⟩⟩
theorem other_ok {a b p : Int} (a0 : 0 ≤ a) (a1 : a < p) (b0 : 0 ≤ b) (b1 : b < p - 1) : 0 ≤ (a + 1 + b) % p ∧ (a + 1 + b) % p ≤ p - 1 ∧ a ≠ (a + 1 + b) % p := by
  by_cases h : a + 1 + b < p
  · rw [Int.emod_eq_of_lt (by omega) h]
    omega
  · have e : a + 1 + b = (a + 1 + b - p) + p := by omega
    rw [e, Int.add_emod_right, Int.emod_eq_of_lt (by omega) (by omega)]
    omega
theorem last_ref {ts : List Addr} {rs : List Road} {H : Hp} (h : RoadsAt H ts rs) (n : rs ≠ []) : ∃ t q, q ∈ rs ∧ H t = some (.tup q.vs) ∧ atI (ts.map V.ref) (-1) = some (.ref t) := by
  have hl := h.len
  have hn : ts ≠ [] := fun z => by
    rw [z] at hl
    cases rs with
    | nil => exact n rfl
    | cons _ _ => cases hl
  have hi : ts.length - 1 < ts.length := by
    cases ts with
    | nil => exact absurd rfl hn
    | cons _ _ => simp
  obtain ⟨q, e1, e2⟩ := h.get (List.getElem?_eq_getElem hi)
  refine ⟨ts[ts.length - 1], q, List.mem_of_getElem? e1, e2, ?_⟩
  rw [← List.getLast_eq_getElem hn]
  conv => lhs; rw [← List.dropLast_concat_getLast hn, List.map_append, List.map_singleton]
  exact atI_last _ _
def PvNet (z l : Addr) (m R p wd : Int) (H : Hp) (i : Nat) (σ : L2.St) (H' : Hp) : Prop :=
  ∃ y6 y7 y8 ts rs, σ = [some (.ref z), some (.int m), some (.int R), some (.int p), some (.ref l), some (.int wd), y6, y7, y8] ∧ Keep z H H' ∧ StOk H' z ∧ H' l = some (.lst (ts.map V.ref)) ∧ RoadsAt H' ts rs ∧ rs.length = i ∧ ∀ q ∈ rs, RoadOk p q
section
variable {P : Program} {w : World} {K : PySem.W.Frag} {mg : Str → Option Value} {base : Heap}
theorem scNet : FnScope ["_law_state_here", "_law_most", "_law_roads", "_law_places", "_law_found", "_law_wide", "_law_turn", "_law_one", "_law_other"] ["_law_state_here", "_law_most", "_law_roads"] (defScope sNet) := ⟨rfl, rfl, rfl, by decide +kernel, rfl, by decide +kernel, by decide +kernel⟩
def spNet : Sp := fun vs H Q _ => ∃ (z : Addr) (m R : Int), vs = [.ref z, .int m, .int R] ∧ StOk H z ∧ 0 < m ∧ m ≤ 10 ∧ 0 ≤ R ∧ R ≤ 30 ∧
  ∀ H' a r ts p rs, Keep z H H' → StOk H' z → NetAt H' a r ts p rs → NetOk p rs → Q (.ref a) H'
theorem ok_net {f fK : Addr} {fd dK : FuncData} {k : Nat} (DK : Df K mg "_law_take" sTake ["_law_state_here", "_law_much"] fK dK) (mR : mg "range" = none) (mT : mg "tuple" = none)
    (D : Df K mg "_law_net" sNet ["_law_state_here", "_law_most", "_law_roads"] f fd) : FnOk P w K mg base CX0 (k + 2) f fd ["_law_state_here", "_law_most", "_law_roads"] spNet := by
  have GK : FnOk P w K mg base CX0 (k + 1) fK dK ["_law_state_here", "_law_much"] spTake := ok_take DK
  refine D.F.ok scNet (fun vs H Q E h => ?_) (fun cdv A outer s H vs Q E hr h => ?_)
  · obtain ⟨_, _, _, rfl, _⟩ := h
    rfl
  · obtain ⟨z, m, R, rfl, st, hm0, hm1, hR0, hR1, q⟩ := h
    refine ⟨_, (pss_cons (ps_par (i := 3) (j := 4) (by rfl) scNet.nd rfl rfl (by decide) rfl rfl (pa_cons (pe_op op_add pe_int (pe_call GK hr (by rfl) DK.g DK.F.kp DK.b .nil pass0 (pa_cons (pv 0) (pa_cons (pv 1) pa_nil)))) (pa_cons (pe_lst pa_nil) pa_nil)) (by rfl))
    (pss_cons (ps_set (i := 5) scNet.nd rfl (.inl rfl) (pe_ix ix_list (pe_lst (pa_cons pe_int (pa_cons pe_int (pa_cons pe_int pa_nil)))) (pe_call GK hr (by rfl) DK.g DK.F.kp DK.b .nil pass0 (pa_cons (pv 0) (pa_cons pe_int pa_nil))) (fun _ _ => rfl)))
    (pss_cons (ps_for PassesOwn.never rfl (pi_range1 (by rfl) mR (pa_cons (pe_cut (pe_ifExp (pt_cmpR op_gt (pv 3) pe_int (nomark _)) (pe_ix ix_list (pe_lst (pa_cons (pv 2) (pa_cons (pe_call GK hr (by rfl) DK.g DK.F.kp DK.b .nil pass0 (pa_cons (pv 0) (pa_cons (pe_op op_add (pv 2) pe_int) pa_nil))) pa_nil))) (pe_call GK hr (by rfl) DK.g DK.F.kp DK.b .nil pass0 (pa_cons (pv 0) (pa_cons pe_int pa_nil))) (fun _ _ => rfl)) pe_int)) pa_nil)) (pg_name (i := 6) scNet.nd rfl (.inl rfl))
    (pss_cons (ps_set (i := 7) scNet.nd rfl (.inl rfl) (pe_call GK hr (by rfl) DK.g DK.F.kp DK.b .nil pass0 (pa_cons (pv 0) (pa_cons (pv 3) pa_nil))))
    (pss_cons (ps_set (i := 8) scNet.nd rfl (.inl rfl) (pe_op op_mod (pe_op op_add (pe_op op_add (pv 7) pe_int) (pe_call GK hr (by rfl) DK.g DK.F.kp DK.b .nil pass0 (pa_cons (pv 0) (pa_cons (pe_op op_sub (pv 3) pe_int) pa_nil)))) (pv 3)))
    (C8.pss_cut (ps_if (PW.pt (pw_and (pt_cmpR op_eq (pe_call GK hr (by rfl) DK.g DK.F.kp DK.b .nil pass0 (pa_cons (pv 0) (pa_cons pe_int pa_nil))) pe_int (nomark _)) (pw_and1 (pt_cmpR (op_neD hr.units) (pv 4) (pe_lst pa_nil) (nomark _))))) (pss_one (ps_asg (pe_slice sl_tup (pe_ix ix_list (pv 4) (pe_un un_neg pe_int) (fun _ _ => rfl)) po_none (po_some pe_int)) (pg_tup (by rfl) (pgs_cons (pg_name (i := 7) scNet.nd rfl (.inl rfl)) (pgs_cons (pg_name (i := 8) scNet.nd rfl (.inl rfl)) pgs_nil))))) pss_nil)
    (pss_one (ps_expr (pe_bm PySem.F.plainAttrs_list PySem.F.slot_list_append PySem.F.type_list_append mt_append (pv 4) (pa_cons (pe_tup (pa_cons (pv 7) (pa_cons (pv 8) (pa_cons (pe_op op_add pe_int (pe_call GK hr (by rfl) DK.g DK.F.kp DK.b .nil pass0 (pa_cons (pv 0) (pa_cons (pv 5) pa_nil)))) (pa_cons (pe_call GK hr (by rfl) DK.g DK.F.kp DK.b .nil pass0 (pa_cons (pv 0) (pa_cons (pe_ix ix_list (pe_lst (pa_cons pe_int (pa_cons pe_int pa_nil))) (pe_call GK hr (by rfl) DK.g DK.F.kp DK.b .nil pass0 (pa_cons (pv 0) (pa_cons pe_int pa_nil))) (fun _ _ => rfl)) pa_nil))) pa_nil))))) pa_nil))))))))
    (pss_one (ps_ret (pe_tup (pa_cons (pv 3) (pa_cons (pe_callTy call_tuple_of (by rfl) mT (by decide +kernel) (pa_cons (pv 4) pa_nil)) pa_nil)))))))), ?_⟩
    -- places, found
    refine ⟨.ref z, rfl, .int m, rfl, z, m, rfl, st, hm0, by omega, fun H1 n k1 st1 n0 n1 => ⟨1, n, rfl, rfl, Nat.zero_le _, fun l nl => ⟨_, _, rfl, ?_⟩⟩⟩
    have lz : l ≠ z := (st1.ne nl).symm
    have s2 : Same H1 (upd H1 l (.lst [])) := same_new nl
    have k2 : Keep z H (upd H1 l (.lst [])) := k1.trans (.of s2)
    -- wide
    refine ⟨by show 3 ≤ sizeLine; decide, fun b nb => ⟨.ref z, rfl, z, 3, rfl, (st1.same s2).same (same_new nb), by decide, by decide, fun H3 n3 k3 st3 a0 a1 => ?_⟩⟩
    have bz : b ≠ z := ((st1.same s2).ne nb).symm
    have lb : l ≠ b := ne_of_none upd_same nb
    have k3' : Keep z H H3 := k2.trans ((Keep.new nb).trans k3)
    have el : H3 l = some (.lst []) := k3 _ _ (by rw [upd_ne lb, upd_same]) lz
    obtain ⟨v, hv, ev⟩ := pick (xs := [V.int 2, V.int 4, V.int 99]) a0 a1
    obtain ⟨wd, rfl, w1, w2⟩ : ∃ wd, v = .int wd ∧ 1 ≤ wd ∧ wd ≤ 99 := by
      simp only [List.mem_cons, List.not_mem_nil, or_false] at hv
      rcases hv with rfl | rfl | rfl
      · exact ⟨2, rfl, by decide, by decide⟩
      · exact ⟨4, rfl, by decide, by decide⟩
      · exact ⟨99, rfl, by decide, by decide⟩
    refine ⟨b, _, n3, _, rfl, rfl, SqL.of (k3 _ _ upd_same bz), ev, ?_⟩
    -- range
    refine ⟨fun v H' => ∃ c : Int, v = .int c ∧ 0 ≤ c ∧ c ≤ 30 ∧ (1 < 1 + n ∨ c = 0) ∧ Keep z H H' ∧ StOk H' z ∧ H' l = some (.lst []), ?_, fun v H' hR => ?_⟩
    · refine ⟨.int (1 + n), rfl, _, _, rfl, rfl, _, rfl, ite2 (fun c => ?_) (fun c => ?_)⟩
      · have c' : 1 < 1 + n := of_decide_eq_true c
        refine ⟨.int R, rfl, .ref z, rfl, .int R, rfl, R, 1, rfl, rfl, z, _, rfl, st3, by omega, by omega, fun H4 n4 k4 st4 b0 b1 => ⟨by show 2 ≤ sizeLine; decide, fun d nd => ⟨.ref z, rfl, z, 2, rfl, st4.same (same_new nd), by decide, by decide, fun H5 n5 k5 st5 e0 e1 => ?_⟩⟩⟩
        have dz : d ≠ z := (st4.ne nd).symm
        obtain ⟨v, hv, ev⟩ := pick (xs := [V.int R, V.int n4]) e0 e1
        have el4 := k4 _ _ el lz
        have el5 : H5 l = some (.lst []) := k5 _ _ (by rw [upd_ne (ne_of_none el4 nd)]; exact el4) lz
        refine ⟨d, _, n5, v, rfl, rfl, SqL.of (k5 _ _ upd_same dz), ev, ?_⟩
        simp only [List.mem_cons, List.not_mem_nil, or_false] at hv
        have kk := k3'.trans (k4.trans ((Keep.new nd).trans k5))
        rcases hv with rfl | rfl
        · exact ⟨R, rfl, hR0, hR1, .inl c', kk, st5, el5⟩
        · exact ⟨n4, rfl, b0, by omega, .inl c', kk, st5, el5⟩
      · exact ⟨0, rfl, by decide, by decide, .inr rfl, k3', st3, el⟩
    · obtain ⟨c, rfl, c0, c1, cp, k5, st5, el5⟩ := hR
      refine ⟨c, rfl, by omega, by omega, ?_⟩
      refine for_range (lo := 0) (n := c.toNat) (PvNet z l m R (1 + n) wd H) ⟨none, none, none, [], [], rfl, k5, st5, el5, .nil, rfl, fun _ h => nomatch h⟩ (fun i σ H' hi h => ?_) (fun σ H' h => ?_)
      · obtain ⟨y6, y7, y8, ts, rs, rfl, kH, stH, eL, rA, hlen, rOk⟩ := h
        have hp : 1 < 1 + n := by
          rcases cp with z | z
          · exact z
          · rw [z] at hi
            exact absurd hi (Nat.not_lt_zero _)
        -- one, other
        refine ⟨.ref z, rfl, .int (1 + n), rfl, z, _, rfl, stH, by omega, by omega, fun Ha o1 ka sa u0 u1 => ?_⟩
        refine ⟨.int o1, rfl, o1, 1, rfl, rfl, .ref z, rfl, .int (1 + n), rfl, 1 + n, 1, rfl, rfl, z, _, rfl, sa, by omega, by omega, fun Hb o2 kb sb v0 v1 => ⟨_, o2, rfl, rfl, .int (1 + n), rfl, _, 1 + n, rfl, rfl, by omega, ?_⟩⟩
        obtain ⟨x0, x1, x2⟩ := other_ok u0 u1 v0 v1
        have kab := ka.trans kb
        have eLb := kab _ _ eL lz
        have rAb : RoadsAt Hb ts rs := rA.keep (kab.tups stH)
        -- if
        refine ⟨fun σ G => ∃ a b : Int, σ = [some (.ref z), some (.int m), some (.int R), some (.int (1 + n)), some (.ref l), some (.int wd), some (.int (0 + i)), some (.int a), some (.int b)] ∧ 0 ≤ a ∧ a ≤ 1 + n - 1 ∧ 0 ≤ b ∧ b ≤ 1 + n - 1 ∧ a ≠ b ∧ Keep z H G ∧ StOk G z ∧ G l = some (.lst (ts.map V.ref)) ∧ RoadsAt G ts rs, ?_, fun σ G hM => ?_⟩
        · refine ⟨.ref z, rfl, z, 5, rfl, sb, by decide, by decide, fun Hc t5 kc sc _ _ => ⟨rfl, _, rfl, ite2 (fun c5 => ?_) (fun c5 => ?_)⟩⟩
          · have eLc := kc _ _ eLb lz
            have rAc : RoadsAt Hc ts rs := rAb.keep (kc.tups sb)
            refine ⟨.ref l, rfl, Nat.zero_le _, fun e ne => ?_⟩
            have se : Same Hc (upd Hc e (.lst [])) := same_new ne
            have rAe : RoadsAt (upd Hc e (.lst [])) ts rs := rAc.keep fun b xs h => se _ _ h
            refine ⟨.list (rs.map dRoad), .list [], .lst (SqL.of (se _ _ eLc)) (roads_dp rAe), .lst (SqL.of upd_same) .nil, (roads_shaped rs).1, (roads_shaped []).1, _, rfl, ite2 (fun c6 => ?_) (fun c6 => ?_)⟩
            · have hne : rs ≠ [] := fun z => by
                rw [z] at c6
                have : PyData.eqv (.list ([].map dRoad)) (.list []) = true := SeqAt.eqv_refl _ rfl
                rw [this] at c6
                cases c6
              obtain ⟨t, rd, hq, et, ea⟩ := last_ref rAe hne
              have ok := rOk _ hq
              refine ⟨.ref l, rfl, 1, rfl, l, _, -1, _, rfl, rfl, SqL.of (se _ _ eLc), ea, 2, rfl, t, _, rfl, SqT.of et, (show ¬ (HT.sIx 4 0 none = 0 ∧ HT.sIx 4 4 (some 2) = 4) by decide), fun T nT => ?_⟩
              have sT := same_new (H := upd Hc e (.lst [])) (o := .tup (cutV rd.vs none (some 2))) nT
              refine ⟨T, _, rfl, SqT.of upd_same, rfl, .int rd.one, _, rfl, .int rd.other, _, rfl, rfl, ?_⟩
              exact ⟨rd.one, rd.other, rfl, ok.o1, ok.o2, ok.t1, ok.t2, ok.ne, (kH.trans (kab.trans kc)).trans (.of (se.trans sT)), (sc.same se).same sT, sT _ _ (se _ _ eLc), rAe.keep fun b xs h => sT _ _ h⟩
            · exact ⟨o1, _, rfl, u0, by omega, x0, x1, x2, (kH.trans (kab.trans kc)).trans (.of se), sc.same se, se _ _ eLc, rAe⟩
          · exact ⟨o1, _, rfl, u0, by omega, x0, x1, x2, kH.trans (kab.trans kc), sc, kc _ _ eLb lz, rAb.keep (kc.tups sb)⟩
        · obtain ⟨a, b, rfl, g1, g2, g3, g4, g5, kG, sG, eG, rG⟩ := hM
          refine ⟨.ref l, rfl, .inl ⟨rfl, _, SqL.of eG⟩, .int a, rfl, .int b, rfl, .ref z, rfl, .int wd, rfl, z, _, rfl, sG, by omega, by omega, fun Hd t7 kd sd c70 c71 => ⟨1, t7, rfl, rfl, .ref z, rfl, by show 2 ≤ sizeLine; decide, fun e ne => ?_⟩⟩
          have ez : e ≠ z := (sd.ne ne).symm
          refine ⟨.ref z, rfl, z, 2, rfl, sd.same (same_new ne), by decide, by decide, fun He t8 ke se c80 c81 => ?_⟩
          obtain ⟨v, hv, ev⟩ := pick (xs := [V.int 3, V.int 100]) c80 c81
          obtain ⟨tm, rfl, m1, m2⟩ : ∃ tm, v = .int tm ∧ 1 ≤ tm ∧ tm ≤ 100 := by
            simp only [List.mem_cons, List.not_mem_nil, or_false] at hv
            rcases hv with rfl | rfl
            · exact ⟨3, rfl, by decide, by decide⟩
            · exact ⟨100, rfl, by decide, by decide⟩
          refine ⟨e, _, t8, _, rfl, rfl, SqL.of (ke _ _ upd_same ez), ev, z, tm, rfl, se, by omega, by omega, fun Hf t9 kf sf c90 c91 => ⟨by show 4 ≤ sizeLine; decide, fun T nT => ?_⟩⟩
          have kdf : Keep z G Hf := kd.trans ((Keep.new ne).trans (ke.trans kf))
          have eF := kdf _ _ eG lz
          have rF : RoadsAt Hf ts rs := rG.keep (kdf.tups sG)
          have sT : Same Hf (upd Hf T (.tup [.int a, .int b, .int (1 + t7), .int t9])) := same_new nT
          have lT : l ≠ T := ne_of_none eF nT
          have ll : (ts.map V.ref).length < sizeLine := by
            rw [List.length_map, rF.len, hlen]
            exact small1000 (by omega)
          refine ⟨l, _, _, rfl, rfl, sT _ _ eF, ll, ?_⟩
          refine ⟨some (.int (0 + i)), some (.int a), some (.int b), ts ++ [T], rs ++ [⟨a, b, 1 + t7, t9⟩], rfl, fun c u hc hz => ?_, ?_, ?_, ?_, ?_, fun q hq => ?_⟩
          · by_cases hcl : c = l
            · exact absurd (k1 _ _ hc hz) (by rw [hcl, nl]; exact fun z => nomatch z)
            · rw [upd_ne hcl]
              exact sT _ _ (kdf _ _ (kG _ _ hc hz) hz)
          · obtain ⟨xx, yy, e1, e2⟩ := sf.same sT
            exact ⟨xx, yy, by rw [upd_ne lz.symm]; exact e1, e2⟩
          · rw [upd_same, List.map_append]
            rfl
          · refine laid_snoc ((rF.keep fun b xs h => sT _ _ h).keep fun b xs h => ?_) ?_
            · rw [upd_ne (ne_of h (sT _ _ eF) (fun q => nomatch q))]
              exact h
            · rw [upd_ne lT.symm]
              exact upd_same
          · rw [List.length_append, hlen]
            rfl
          · rcases List.mem_append.mp hq with h | h
            · exact rOk q h
            · rw [List.mem_singleton.mp h]
              exact ⟨g1, g2, g3, g4, g5, by show 1 ≤ 1 + t7; omega, by show 1 + t7 ≤ 99; omega, c90, by show t9 ≤ 99; omega⟩
      · obtain ⟨y6, y7, y8, ts, rs, rfl, kH, stH, eL, rA, hlen, rOk⟩ := h
        refine ⟨.int (1 + n), rfl, .ref l, rfl, l, _, rfl, .inl ⟨SqL.of eL, fun r nr => ⟨by show 2 ≤ sizeLine; decide, fun a na => ?_⟩⟩⟩
        have s1 := same_new (H := H') (o := .tup (ts.map V.ref)) nr
        have s2 := same_new (H := upd H' r (.tup (ts.map V.ref))) (o := .tup [.int (1 + n), .ref r]) na
        refine q _ a r ts (1 + n) rs ((kH.trans (.of s1)).trans (.of s2)) ((stH.same s1).same s2) ⟨upd_same, s2 _ _ upd_same, rA.keep fun b xs h => s2 _ _ (s1 _ _ h)⟩ ⟨by omega, by omega, by omega, rOk⟩
end
end Wy

namespace Wy
open PySem PySem.Spec PyProof.Rows L2
def tCutT (t : TT) : TT := fun σ H Q => ∃ R : Bool → Hp → Prop, t σ H R ∧ ∀ b H', R b H' → Q b H'
theorem pt_cut {X : Cx} {e : Expr} {t : TT} (h : PT X e t) : PT X e (tCutT t) := ⟨fun pins s σ H Q I hq => by
  obtain ⟨R, h1, h2⟩ := hq
  exact thn (h.run pins s σ H R I h1) fun b s1 ⟨G, J, q⟩ => ⟨G, J, h2 _ _ q⟩⟩
theorem ints_dp {K : PySem.W.Frag} {H : Hp} : ∀ ms : List Int, DpAll K H (ms.map V.int) (ms.map PyData.int)
  | [] => .nil
  | m :: r => .cons (.int m) (ints_dp r)
theorem ints_lay : ∀ ms : List Int, PyData.canLayAll0 (ms.map PyData.int) = true ∧ PyData.depthAll (ms.map PyData.int) = 0
  | [] => by
    rw [List.map_nil, PyData.canLayAll0, PyData.depthAll]
    exact ⟨rfl, rfl⟩
  | m :: r => by
    rw [List.map_cons, PyData.canLayAll0, PyData.depthAll, (ints_lay r).1, (ints_lay r).2, PyData.canLay0, PyData.depth]
    exact ⟨rfl, rfl⟩
theorem ints_shaped (ms : List Int) : SeqAt.shaped (.list (ms.map PyData.int)) = true := by
  unfold SeqAt.shaped
  rw [PyData.canLay0, (ints_lay ms).1, PyData.depth, (ints_lay ms).2]
  rfl
theorem Keep.free {z b : Addr} {H H' : Hp} (k : Keep z H H') (h : H' b = none) (n : b ≠ z) : H b = none := by
  cases e : H b with
  | none => rfl
  | some o =>
    rw [k _ _ e n] at h
    cases h
end Wy

namespace Wy
open PySem PySem.Spec PyProof.Rows L2 HT
/-! ### t[::-1] of a tuple -/
theorem rev_adjust (n : Nat) : Builtin.Slice.sliceAdjust none none (-1) (n : Int) = ((n : Int) - 1, -1) := by
  unfold Builtin.Slice.sliceAdjust
  rfl
theorem rev_places (n : Nat) : Builtin.Slice.slicePlaces ((n : Int) - 1) (-1) (-1) = n := by
  unfold Builtin.Slice.slicePlaces
  simp
  omega
theorem rev_pick (xs : List Value) : ((List.range xs.length).filterMap fun (k : Nat) => xs.toArray[(((xs.length : Int) - 1) + (k : Int) * (-1)).toNat]?) = xs.reverse := by
  have e : ∀ m, m ≤ xs.length → ((List.range m).filterMap fun (k : Nat) => xs.toArray[(((xs.length : Int) - 1) + (k : Int) * (-1)).toNat]?) = xs.reverse.take m := by
    intro m
    induction m with
    | zero =>
      intro _
      rfl
    | succ m ih =>
      intro h
      rw [List.range_succ, List.filterMap_append, ih (by omega), List.take_add_one]
      congr 1
      have hi : (((xs.length : Int) - 1) + (m : Int) * (-1)).toNat = xs.length - 1 - m := by omega
      have hr : xs.reverse[m]? = some xs[xs.length - 1 - m] := by
        rw [List.getElem?_reverse (by omega), List.getElem?_eq_getElem (by omega)]
      have ha : xs.toArray[xs.length - 1 - m]? = some xs[xs.length - 1 - m] := by
        rw [List.getElem?_toArray, List.getElem?_eq_getElem (by omega)]
      rw [hr]
      show List.filterMap _ [m] = [xs[xs.length - 1 - m]]
      rw [List.filterMap_cons_some (b := xs[xs.length - 1 - m]) (by rw [hi]; exact ha)]
      rfl
  rw [e _ (Nat.le_refl _), List.take_of_length_le (by rw [List.length_reverse]; exact Nat.le_refl _)]
section
variable {prog : Program} {w : World} {A : Around} {E : Value → Shared → Prop} {s : Shared}
theorem tuple_back {u sl : Addr} {its : List Value} {tk : Tok} {Q : Value → Shared → Prop} (hT : IsTup s.heap u its.toArray) (hs : s.heap.IsSliceOf sl .none .none (.int (-1) tk)) (hz : its.length ≤ sizeLine)
    (h : Q (.ref s.heap.objs.size) { s with heap := s.heap.push { cls := .type "tuple", data := .seq its.reverse.toArray } }) : wpAny (model prog w) A (getItem (.ref u) (.ref sl)) Q E s := by
  have fits : sizeOk (.seq its.reverse.toArray) := by
    show its.reverse.toArray.size ≤ sizeLine
    rw [List.size_toArray, List.length_reverse]
    exact hz
  obtain ⟨os, ho, hc, hd⟩ := id hs
  have ty : s.TypeIs (.ref sl) "slice" := ⟨os, ho, hc⟩
  unfold getItem
  try with_reducible refine wpAny_holding ?_
  first | refine wpAny_bind (wpAny_pure ?_) | skip
  refine wpAny_bind (wpAny_sequenceKey hT.typeIs (by decide) (wpAny_bind (wpAny_callSpecial?_slot (name := Str.ofString "__getitem__") hT.typeIs PyProof.Rows.slot_tuple_getitem (wpAny_call_entry PyProof.Rows.slot_tuple_getitem hT.typeIs entry_tuple_getitem ?_ (args_tuple_getitem _ _)))))
  show wpAny _ _ (Builtin.Tuple.tupleItemsOf (.ref u) >>= _) _ _ s
  refine wpAny_bind (tupleItemsOf_ hT (wpAny_bind (wpAny_typeOf ty ?_)))
  rw [if_pos (by decide)]
  refine wpAny_bind (m := Builtin.Slice.sliceApplied _ _) ?_
  unfold Builtin.Slice.sliceApplied Builtin.Slice.sliceFields
  refine wpAny_bind (wpAny_bind (wpAny_field ho hd (x := .none) rfl (wpAny_bind (wpAny_field ho hd (x := .none) rfl (wpAny_bind (wpAny_field ho hd (x := .int (-1) tk) rfl (wpAny_pure ?_)))))))
  refine wpAny_bind (slicePart_int ?_)
  show wpAny _ _ (if ((-1 : Int) == 0) = true then _ else _) _ _ s
  rw [if_neg (by decide)]
  refine wpAny_bind (slicePart_none (wpAny_bind (slicePart_none (wpAny_bind (wpAny_pure ?_)))))
  show wpAny _ _ (match Builtin.Slice.sliceAdjust none none (-1) (its.toArray.size : Int) with | (lo, hi) => pure (lo, (-1 : Int), Builtin.Slice.slicePlaces lo hi (-1))) _ _ s
  rw [rev_adjust]
  show wpAny _ _ (pure (((its.toArray.size : Int) - 1), (-1 : Int), Builtin.Slice.slicePlaces ((its.toArray.size : Int) - 1) (-1) (-1))) _ _ s
  rw [rev_places]
  refine wpAny_pure ?_
  show wpAny _ _ (if ((((its.toArray.size : Int) - 1) == 0 && (-1 : Int) == 1 && its.toArray.size == its.toArray.size) = true) then _ else _) _ _ s
  rw [if_neg (by simp), List.size_toArray, rev_pick]
  first
    | exact wpAny_bind (m := Builtin.Tuple.tupleExact _) (wpAny_newObj_type (wpAny_pure ⟨_, rfl, wpAny_pure h⟩) fits)
    | exact wpAny_bind (m := Builtin.Tuple.tupleExact _) (wpAny_newObj_type (wpAny_bind (wpAny_pure (wpAny_pure ⟨_, rfl, wpAny_pure h⟩))) fits)
    | exact wpAny_bind (wpAny_bind (m := Builtin.Tuple.tupleExact _) (wpAny_newObj_type (wpAny_pure (wpAny_pure ⟨_, rfl, wpAny_pure h⟩)) fits))
    | exact wpAny_bind (wpAny_bind (m := Builtin.Tuple.tupleExact _) (wpAny_newObj_type (wpAny_pure ⟨_, rfl, wpAny_pure h⟩) fits))
end
def tBackT (K : PySem.W.Frag) (te : TE) : TE := fun σ H Q => te σ H fun x G => ∃ a xs, x = .ref a ∧ SqT K G a xs ∧ ∀ p, G p = none → Q (.ref p) (upd G p (.tup xs.reverse))
theorem pe_backT {X : Cx} {e : Expr} {te : TE} {k : Nat} {u1 u2 u3 u4 : Pos} (he : PE X e te) : PE X (.Subscript e (.Slice none none (some (.UnaryOp .USub (.Constant (.int 1) k u1) u2)) u3) u4) (tBackT X.K te) := by
  refine ⟨fun pins s σ H Q I h => ?_⟩
  refine Subscript_ (thn (he.run pins s σ H _ I h) fun v t1 ⟨x, G1, J1, r1, g1⟩ => ?_)
  obtain ⟨a, xs, ex, hx, q⟩ := g1
  subst ex
  cases r1
  have step : PO X (some (.UnaryOp .USub (.Constant (.int 1) k u1) u2)) (tPart (tUn (rU fun i => .int (-i)) (tC (.int 1)))) := po_some (pe_un un_neg pe_int)
  refine wpAny_Slice (thn (po_none.run pins t1 σ G1 (fun o G => o = none ∧ G = G1) J1 ⟨rfl, rfl⟩) fun vl t2 ⟨l, G2, J2, pl, el, e2⟩ => ?_)
  subst el e2
  refine thn (po_none.run pins t2 σ G2 (fun o G => o = none ∧ G = G2) J2 ⟨rfl, rfl⟩) fun vu t3 ⟨u, G3, J3, pu, eu, e3⟩ => ?_
  subst eu e3
  refine thn (step.run pins t3 σ G3 (fun o G => o = some (-1) ∧ G = G3) J3 ⟨1, rfl, -1, rfl, rfl, rfl⟩) fun vs t4 ⟨o, G4, J4, ps, eo, e4⟩ => ?_
  subst eo e4
  have J5 : Inv X pins σ G4 { t4 with heap := t4.heap.push { cls := .type "slice", data := .fields #[vl, vu, vs] } } := J4.kept (t' := t4.toks) fun b ob z => Heap.get?_push_of_some _ z
  obtain ⟨its, r, hT, hz⟩ := J5.tuple hx
  have hlen := r.length
  show wpAny (model X.prog X.w) X.A (subscriptTail e (.Slice none none (some (.UnaryOp .USub (.Constant (.int 1) k u1) u2)) u3) (.ref a) (.ref t4.heap.objs.size)) (EP X pins σ Q) X.xe _
  refine tail_any (ops := [.ref a, .ref t4.heap.objs.size]) hT.typeIs (PyProof.Rows.slot_tuple_getitem.lookup) ?_ (by with_unfolding_all rfl)
  cases pl
  cases pu
  cases ps
  refine tuple_back hT (Heap.IsSliceOf.new _ _ _ _) (by omega) ?_
  refine ⟨.ref _, _, J5.laid (t' := t4.toks) (o := .tup xs.reverse) (fun b ob z => Heap.get?_push_of_some _ z) (Nat.le_refl _) ?_, rfl, q _ (J5.hok.fresh (Nat.le_refl _))⟩
  exact ⟨by rw [List.length_reverse]; exact hz, _, r.reverse, ⟨_, Heap.get?_push_size _ rfl, rfl, _, rfl⟩⟩
/-! ### repr of data -/
theorem dp_plain {K : PySem.W.Frag} {H : Hp} : ∀ {v : V} {d : PyData}, Dp K H v d → d.hasDict = false
  | _, _, .non => by simp only [PyData.hasDict]
  | _, _, .bl _ => by simp only [PyData.hasDict]
  | _, _, .int _ => by simp only [PyData.hasDict]
  | _, _, .str _ => by simp only [PyData.hasDict]
  | _, _, .lst _ a => by
    rw [PyData.hasDict]
    exact dpAll_plain a
  | _, _, .tup _ a => by
    rw [PyData.hasDict]
    exact dpAll_plain a
where dpAll_plain {K : PySem.W.Frag} {H : Hp} : ∀ {vs : List V} {ds : List PyData}, DpAll K H vs ds → PyData.hasDictAll ds = false
  | _, _, .nil => by simp only [PyData.hasDictAll]
  | _, _, .cons a b => by
    rw [PyData.hasDictAll, dp_plain a, dpAll_plain b]
    rfl
end Wy

namespace Wy
open PySem PySem.Spec PyProof.Rows L2
/-! ### how long a thing's text is -/
structure Sh (d : PyData) (n m : Nat) : Prop where
  s : d.showable = true
  l : d.shown.length ≤ n
  k : d.depth ≤ m
theorem Sh.mono {d : PyData} {n m n' m' : Nat} (h : Sh d n m) (a : n ≤ n') (b : m ≤ m') : Sh d n' m' := ⟨h.s, Nat.le_trans h.l a, Nat.le_trans h.k b⟩
theorem piled_le {c : Nat} : ∀ ts : List Str, (∀ t ∈ ts, t.length ≤ c) → piled ts ≤ ts.length * (c + 2)
  | [], _ => by
    show piled [] ≤ 0 * _
    simp [piled]
  | t :: r, h => by
    have h1 := h t List.mem_cons_self
    have h2 := piled_le r fun u hu => h u (List.mem_cons_of_mem _ hu)
    rw [piled_cons, List.length_cons, Nat.add_mul, Nat.one_mul]
    omega
theorem tuple_le {c : Nat} (ts : List Str) (h : ∀ t ∈ ts, t.length ≤ c) : (tupleText ts).length ≤ 4 + ts.length * (c + 2) := by
  unfold tupleText
  rw [strLen_append, strLen_append]
  have e1 : ((("(" : String) : Str)).length = 1 := rfl
  have e3 : (((if ts.length == 1 then ",)" else ")" : String) : Str)).length ≤ 2 := by split <;> decide
  have e4 := piled_le ts h
  rw [e1]
  by_cases hn : ts = []
  · subst hn
    have : (Str.join ", " []).length = 0 := rfl
    omega
  · have := join_length_add ts hn
    omega
theorem from_le {c : Nat} : ∀ (ts : List Str) (k : Nat) (acc : Str), (∀ t ∈ ts, t.length ≤ c) → (textFrom k acc ts).length ≤ acc.length + ts.length * (c + 2)
  | [], _, acc, _ => by
    show acc.length ≤ _
    omega
  | t :: r, k, acc, h => by
    have h1 := h t List.mem_cons_self
    have h2 := from_le r (k + 1) (acc ++ (if k > 0 then ", " else "" : String) ++ t) fun u hu => h u (List.mem_cons_of_mem _ hu)
    have e : (acc ++ (if k > 0 then ", " else "" : String) ++ t).length ≤ acc.length + 2 + t.length := by
      rw [strLen_append, strLen_append]
      have : (((if k > 0 then ", " else "" : String) : Str)).length ≤ 2 := by split <;> decide
      omega
    show (textFrom (k + 1) _ r).length ≤ _
    rw [List.length_cons, Nat.add_mul, Nat.one_mul]
    omega
theorem list_le {c : Nat} (ts : List Str) (h : ∀ t ∈ ts, t.length ≤ c) : (listText ts).length ≤ 4 + ts.length * (c + 2) := by
  unfold listText
  rw [strLen_append]
  have e1 : ((("[" : String) : Str)).length = 1 := rfl
  have e2 : ((("]" : String) : Str)).length = 1 := rfl
  have := from_le ts 0 "[" h
  rw [e2]
  omega
theorem shown_mem : ∀ {ds : List PyData} {t : Str}, t ∈ PyData.shownAll ds → ∃ d ∈ ds, t = d.shown
  | [], _, h => by
    rw [PyData.shownAll] at h
    cases h
  | d :: r, t, h => by
    rw [PyData.shownAll] at h
    rcases List.mem_cons.mp h with e | e
    · exact ⟨d, List.mem_cons_self, e⟩
    · obtain ⟨x, hx, e⟩ := shown_mem e
      exact ⟨x, List.mem_cons_of_mem _ hx, e⟩
theorem shown_len : ∀ ds : List PyData, (PyData.shownAll ds).length = ds.length
  | [] => by
    rw [PyData.shownAll]
    rfl
  | d :: r => by rw [PyData.shownAll, List.length_cons, List.length_cons, shown_len r]
theorem show_all : ∀ {ds : List PyData} {n m : Nat}, (∀ d ∈ ds, Sh d n m) → PyData.showableAll ds = true ∧ PyData.depthAll ds ≤ m
  | [], n, m, _ => by
    rw [PyData.showableAll, PyData.depthAll]
    exact ⟨rfl, Nat.zero_le _⟩
  | d :: r, n, m, h => by
    have h1 := h d List.mem_cons_self
    obtain ⟨h2, h3⟩ := show_all (n := n) (m := m) fun u hu => h u (List.mem_cons_of_mem _ hu)
    rw [PyData.showableAll, PyData.depthAll, h1.s, h2]
    have := h1.k
    exact ⟨rfl, by omega⟩
theorem Sh.tuple {ds : List PyData} {n m k : Nat} (h : ∀ d ∈ ds, Sh d n m) (hk : ds.length ≤ k) : Sh (.tuple ds) (4 + k * (n + 2)) (m + 1) := by
  obtain ⟨h1, h2⟩ := show_all h
  refine ⟨by rw [PyData.showable]; exact h1, ?_, by rw [PyData.depth]; omega⟩
  rw [PyData.shown]
  refine Nat.le_trans (tuple_le (c := n) _ fun t ht => ?_) ?_
  · obtain ⟨d, hd, e⟩ := shown_mem ht
    rw [e]
    exact (h d hd).l
  · rw [shown_len]
    have := Nat.mul_le_mul_right (n + 2) hk
    omega
theorem Sh.list {ds : List PyData} {n m k : Nat} (h : ∀ d ∈ ds, Sh d n m) (hk : ds.length ≤ k) : Sh (.list ds) (4 + k * (n + 2)) (m + 1) := by
  obtain ⟨h1, h2⟩ := show_all h
  refine ⟨by rw [PyData.showable]; exact h1, ?_, by rw [PyData.depth]; omega⟩
  rw [PyData.shown]
  refine Nat.le_trans (list_le (c := n) _ fun t ht => ?_) ?_
  · obtain ⟨d, hd, e⟩ := shown_mem ht
    rw [e]
    exact (h d hd).l
  · rw [shown_len]
    have := Nat.mul_le_mul_right (n + 2) hk
    omega
theorem Sh.int {i : Int} (h : i.natAbs < 10 ^ 30) : Sh (.int i) 40 0 := by
  refine ⟨?_, ?_, by rw [PyData.depth]; exact Nat.le_refl _⟩
  · rw [PyData.showable]
    refine decide_eq_true ?_
    by_cases h0 : i.natAbs = 0
    · rw [h0]
      decide
    · exact (Nat.log2_lt h0).mpr (Nat.lt_of_lt_of_le h (by decide +kernel))
  · rw [PyData.shown]
    show (Str.ofString (toString i)).length ≤ 40
    rw [PySem.ofString_length]
    have := int_text_length_le10 (k := 30) (by decide) h
    omega
theorem Sh.bool (b : Bool) : Sh (.bool b) 40 0 := by
  refine ⟨by rw [PyData.showable], ?_, by rw [PyData.depth]; exact Nat.le_refl _⟩
  rw [PyData.shown]
  cases b <;> decide
theorem Sh.none : Sh .none 40 0 := by
  refine ⟨by rw [PyData.showable], ?_, by rw [PyData.depth]; exact Nat.le_refl _⟩
  rw [PyData.shown]
  decide
theorem Sh.road {p : Int} {q : Road} (h : RoadOk p q) (hp : p ≤ 10) : Sh (dRoad q) 172 1 := by
  refine (Sh.tuple (n := 40) (m := 0) (k := 4) (fun d hd => ?_) (Nat.le_refl _)).mono (by decide) (Nat.le_refl _)
  have big : ∀ i : Int, 0 ≤ i → i ≤ 99 → Sh (.int i) 40 0 := fun i a b => Sh.int (Nat.lt_of_le_of_lt (show i.natAbs ≤ 99 by omega) (by decide +kernel))
  have o1 := h.o1
  have o2 := h.o2
  have t1 := h.t1
  have t2 := h.t2
  have c1 := h.c1
  simp only [List.mem_cons, List.not_mem_nil, or_false] at hd
  rcases hd with rfl | rfl | rfl | rfl
  · exact big _ h.o1 (by omega)
  · exact big _ h.t1 (by omega)
  · exact big _ (by omega) h.c2
  · exact big _ h.m1 h.m2
def dNet (p : Int) (rs : List Road) : PyData := .tuple [.int p, .tuple (rs.map dRoad)]
theorem Sh.net {p : Int} {rs : List Road} (h : NetOk p rs) : Sh (dNet p rs) 11000 3 := by
  have s1 : Sh (.tuple (rs.map dRoad)) (4 + 30 * (172 + 2)) 2 := Sh.tuple (n := 172) (m := 1) (k := 30) (fun d hd => by
    obtain ⟨q, hq, rfl⟩ := List.mem_map.mp hd
    exact Sh.road (h.all q hq) h.p2) (by rw [List.length_map]; exact h.len)
  have s2 : Sh (.int p) 40 0 := Sh.int (Nat.lt_of_le_of_lt (show p.natAbs ≤ 10 by have := h.p1; have := h.p2; omega) (by decide +kernel))
  refine (Sh.tuple (n := 4 + 30 * (172 + 2)) (m := 2) (k := 2) (fun d hd => ?_) (Nat.le_refl _)).mono (by decide) (Nat.le_refl _)
  simp only [List.mem_cons, List.not_mem_nil, or_false] at hd
  rcases hd with rfl | rfl
  · exact s2.mono (by decide) (by decide)
  · exact s1
/-! ### repr -/
inductive Dn (H : Hp) : V → PyData → Prop where
  | int (i : Int) : Dn H (.int i) (.int i)
  | tup {a : Addr} {xs : List V} {ds : List PyData} : H a = some (.tup xs) → Paired (Dn H) xs ds → Dn H (.ref a) (.tuple ds)
theorem net_reads {X : Cx} {pins : List (Addr × Obj)} {σ : L2.St} {H : Hp} {s : Shared} (I : Inv X pins σ H s) {a r : Addr} {ts : List Addr} {p : Int} {rs : List Road} (h : NetAt H a r ts p rs) : Reads s.heap (.ref a) (dNet p rs) [] := by
  obtain ⟨ea, er, et⟩ := h
  have rdInts : ∀ {ns : List Int} {us : List Value}, Vals (ns.map V.int) us → ReadsAll s.heap us (ns.map PyData.int) [] := by
    intro ns
    induction ns with
    | nil =>
      intro us r
      cases r
      exact .nil
    | cons n l ih =>
      intro us r
      cases r with
      | cons r1 r2 =>
        obtain ⟨t, rfl⟩ := r1
        exact ReadsAll.cons (as := []) (bs := []) (.int n t) (ih r2)
  have roads : ∀ {us : List Addr} {qs : List Road} {vs : List Value}, RoadsAt H us qs → Vals (us.map V.ref) vs → ReadsAll s.heap vs (qs.map dRoad) [] := by
    intro us qs vs h
    induction h generalizing vs with
    | nil =>
      intro r
      cases r
      exact .nil
    | @cons u q l l' e _ ih =>
      intro r
      cases r with
      | cons r1 r2 =>
        cases r1
        obtain ⟨its, rv, ⟨o, ho, hc, n, hd⟩, _⟩ := I.tuple (SqT.of (K := X.K) e)
        have hq : ReadsAll s.heap its [.int q.one, .int q.other, .int q.cost, .int q.time] [] := rdInts (ns := [q.one, q.other, q.cost, q.time]) rv
        exact ReadsAll.cons (as := []) (bs := []) (.tuple ho hc hd hq) (ih r2)
  obtain ⟨its, rv, ⟨o, ho, hc, n, hd⟩, _⟩ := I.tuple (SqT.of (K := X.K) ea)
  obtain ⟨its2, rv2, ⟨o2, ho2, hc2, n2, hd2⟩, _⟩ := I.tuple (SqT.of (K := X.K) er)
  refine .tuple ho hc hd ?_
  cases rv with
  | cons r1 r2 =>
    obtain ⟨t, rfl⟩ := r1
    cases r2 with
    | cons r3 r4 =>
      cases r3
      cases r4
      exact ReadsAll.cons (as := []) (bs := []) (.int p t) (ReadsAll.cons (as := []) (bs := []) (.tuple ho2 hc2 hd2 (roads et rv2)) .nil)
/-- the two dicts that the law hands in -/
inductive DictAt (H : Hp) (a : Addr) : List (PyData × PyData) → Prop where
  | nil : H a = some (.dK []) → DictAt H a []
  | one : H a = some (.dK [(Sum.inl 0, .int 1)]) → DictAt H a [(.int 0, .int 1)]
theorem dict_reads {X : Cx} {pins : List (Addr × Obj)} {σ : L2.St} {H : Hp} {s : Shared} (I : Inv X pins σ H s) {a : Addr} {kvs : List (PyData × PyData)} (h : DictAt H a kvs) : Reads s.heap (.ref a) (.dict kvs) [a] ∧ a ≠ sysModules := by
  cases h with
  | nil e =>
    obtain ⟨_, hs, vs, kv, o, es, ep, ho, hx, hd, _, hp, _⟩ := I.hok a _ e
    cases kv
    have he : es.toList = [] := by
      cases hes : es.toList with
      | nil => rfl
      | cons x l =>
        rw [hes] at hp
        cases hp
    refine ⟨?_, beq_eq_false_iff_ne.mp hs⟩
    have := Reads.dict (h := s.heap) (a := a) (es := es) (kvs := []) (as := []) (bs := []) ho hx.1 hd (by rw [he]; exact .nil) (by rw [he]; exact .nil)
    exact this
  | one e =>
    obtain ⟨_, hs, vs, kv, o, es, ep, ho, hx, hd, _, hp, _⟩ := I.hok a _ e
    cases kv with
    | @cons q0 q l1 l2 k1 k2 =>
      cases k2
      obtain ⟨ek, rv⟩ := k1
      obtain ⟨qk, qv⟩ := q
      obtain ⟨t, ev⟩ := rv
      have ek' : (Sum.inl 0 : Key) = qk := ek
      have ev' : qv = Value.int 1 t := ev
      cases hes : es.toList with
      | nil =>
        rw [hes] at hp
        cases hp
      | cons x r =>
        rw [hes] at hp
        cases hp with
        | cons h1 h2 h3 =>
          cases h3
          have h1' : keyIs qk x.key = true := h1
          rw [← ek'] at h1'
          obtain ⟨tk, hk⟩ : ∃ tk, x.key = .int 0 tk := by
            rcases keyIs_shape h1' with ⟨i, tk, e1, e2⟩ | ⟨y, tk, e1, e2⟩
            · cases e1
              exact ⟨tk, e2⟩
            · cases e1
          have hv : x.val = .int 1 t := h2.trans ev'
          refine ⟨?_, beq_eq_false_iff_ne.mp hs⟩
          have := Reads.dict (h := s.heap) (a := a) (es := es) (kvs := [(.int 0, .int 1)]) (as := []) (bs := []) ho hx.1 hd
            (by rw [hes]; show ReadsAll s.heap [x.key] [.int 0] []; rw [hk]; exact ReadsAll.cons (as := []) (bs := []) (.int 0 tk) .nil)
            (by rw [hes]; show ReadsAll s.heap [x.val] [.int 1] []; rw [hv]; exact ReadsAll.cons (as := []) (bs := []) (.int 1 t) .nil)
          exact this
/-- what repr is asked of -/
inductive Dr (K : PySem.W.Frag) (H : Hp) : V → PyData → Prop where
  | bl (b : Bool) : Dr K H (.bl b) (.bool b)
  | dp {a : Addr} {d : PyData} : Dp K H (.ref a) d → Dr K H (.ref a) d
  | dct {u a r b : Addr} {ts : List Addr} {p : Int} {rs : List Road} {kvs : List (PyData × PyData)} : H u = some (.tup [.ref a, .ref b]) → NetAt H a r ts p rs → DictAt H b kvs → Dr K H (.ref u) (.tuple [dNet p rs, .dict kvs])
def rRepr (K : PySem.W.Frag) : List V → Hp → VK → Prop := fun xs H Q => ∃ x d, xs = [x] ∧ Dr K H x d ∧ Sh d 30000 50 ∧ Q (.str d.shown) H
theorem call_reprD {X : Cx} (hg : X.A.guards = some []) (hu : X.A.units + 64 < cLine) : CallR X (.builtin "repr") (rRepr X.K) := by
  intro pins s σ H xs us Q I r h
  obtain ⟨x, d, rfl, hd, sh, q⟩ := h
  have fits : d.shown.length ≤ sizeLine := Nat.le_trans sh.l (by decide)
  have hk := sh.k
  cases r with
  | cons r1 r2 =>
    cases r2
    have go : ∀ {a : Addr} {as : List Addr}, Reads s.heap (.ref a) d as → (d.hasDict = true → sysModules ∉ as) → wpAny (model X.prog X.w) X.A (call (.builtin "repr") [.ref a]) (EP X pins σ Q) X.xe s := fun rd hs =>
      repr_of_reads' rd sh.s hs hg (by omega) (fun _ _ e => e) (fun h' u tk kept => ⟨.str d.shown, H, I.kept (t' := tk) kept, ⟨u, rfl⟩, q⟩) fits
    cases hd with
    | bl b =>
      cases r1
      refine PySem.P.repr_of_bool ⟨.str _, H, I.tok _, ⟨_, rfl⟩, ?_⟩
      rw [PyData.shown] at q
      cases b <;> exact q
    | dp hp =>
      cases r1
      obtain ⟨as, rd⟩ := Dp.reads I d _ _ hp rfl
      exact go rd (PyData.noDict_hsm (dp_plain hp))
    | dct hu' hn hb =>
      cases r1
      obtain ⟨hrd, hne⟩ := dict_reads I hb
      have hnr := net_reads I hn
      obtain ⟨its, rv, ⟨o, ho, hc, n, hdt⟩, _⟩ := I.tuple (SqT.of (K := X.K) hu')
      cases rv with
      | cons r3 r4 =>
        cases r4 with
        | cons r5 r6 =>
          cases r3
          cases r5
          cases r6
          refine go (.tuple ho hc hdt (ReadsAll.cons (as := []) hnr (ReadsAll.cons hrd .nil))) fun _ hm => ?_
          rcases List.mem_append.mp hm with z | z
          · cases z
          · rcases List.mem_append.mp z with z | z
            · exact hne (List.mem_singleton.mp z).symm
            · cases z
end Wy

namespace Wy
open PySem PySem.Spec PyProof.Rows L2 RZ
abbrev sRise : Stmt := topS 9
abbrev sShutQ : Stmt := topS 28
abbrev sFree : Stmt := topS 29
abbrev sExc : Stmt := topS 31
abbrev sGreat : Stmt := topS 30
abbrev sPrices : Stmt := topS 26
theorem walk_zipT {K : PySem.W.Frag} {a b : Addr} {xs ys : List V} {n : Nat} (hn : n = min xs.length ys.length) : Walk (ItzT K a b) n (fun H => SqT K H a xs ∧ SqT K H b ys) (YPair (fun i => xs[i]?) (fun i => ys[i]?)) := by
  subst hn
  constructor
  · intro i _ hi q
    have l1 : i < xs.length := by omega
    have l2 : i < ys.length := by omega
    exact ⟨xs, ys, xs[i], ys[i], q.1, q.2, by simp [l1], by simp [l2]⟩
  · exact fun _ q => ⟨xs, ys, q.1, q.2, by omega⟩
  · intro i H v H' _ q y
    obtain ⟨T, x, z, h1, h2, h3, h4, h5⟩ := y
    exact ⟨T, x, z, h1, h2, h3, h4 xs q.1, h5 ys q.2⟩
theorem cut_tail (ms : List Int) : cutV (ms.map V.int) (some 1) none = (ms.drop 1).map V.int := by
  unfold cutV
  have e1 : HT.sIx (ms.map V.int).length 0 (some 1) = min 1 ms.length := by
    unfold HT.sIx
    simp
  have e2 : HT.sIx (ms.map V.int).length (ms.map V.int).length none = ms.length := by
    unfold HT.sIx
    simp
  rw [e1, e2]
  cases ms with
  | nil => rfl
  | cons a r =>
    simp
    rw [List.take_of_length_le (by rw [List.length_map]; omega)]
/-- each greater than the one ahead -/
def riseB (ms : List Int) : Bool := ((ms.zip (ms.drop 1)).map fun q => decide (q.1 < q.2)).all id
theorem sqt_same {K : PySem.W.Frag} {H G : Hp} {a : Addr} {xs : List V} (h : SqT K H a xs) (s : Same H G) : SqT K G a xs := by
  rcases h with (h | ⟨o, h⟩) | h
  · exact .inl (.inl (s _ _ h))
  · exact .inl (.inr ⟨o, s _ _ h⟩)
  · exact .inr h
theorem sqt_ty {K : PySem.W.Frag} {H : Hp} {a : Addr} {xs : List V} (h : SqT K H a xs) : TyX K H (.ref a) (.type "tuple") := by
  rcases h with (h | ⟨o, h⟩) | ⟨o, its, n, h, c, _⟩
  · exact .base (.tup h)
  · exact .fTuple h
  · exact .kTuple h c
theorem isi_tt {K : PySem.W.Frag} : PySem.W.kitOne K (.type "tuple") (.type "tuple") = some true := kit_ty (by decide +kernel)
/-- t[lo:hi], whichever it is -/
def rSlS (K : PySem.W.Frag) : V → Option Int → Option Int → Hp → VK → Prop := fun x lo hi H Q => ∃ a xs, x = .ref a ∧ SqT K H a xs ∧ ∀ c H', Same H H' → SqT K H' c (cutV xs lo hi) → Q (.ref c) H'
theorem sl_tupS {X : Cx} : SlR X (rSlS X.K) := by
  intro pins s σ H x v vl vu lo hi sl Q I rx hs pl pu h
  obtain ⟨a, xs, rfl, e, q⟩ := h
  refine sl_tupA pins s σ H _ v vl vu lo hi sl Q I rx hs pl pu ⟨a, xs, rfl, e, fun hw => ?_, fun hw p np => ?_⟩
  · refine q a H (Same.refl _) ?_
    have e2 : cutV xs lo hi = xs := by
      unfold cutV
      rw [hw.1, hw.2, List.drop_zero, Nat.sub_zero, List.take_length]
    rw [e2]
    exact e
  · exact q p _ (same_new np) (SqT.of upd_same)
section
variable {P : Program} {w : World} {K : PySem.W.Frag} {mg : Str → Option Value} {base : Heap}
theorem scRise : FnScope ["things", "one", "other"] ["things"] (defScope sRise) := ⟨rfl, rfl, rfl, by decide +kernel, rfl, by decide +kernel, by decide +kernel⟩
def spRise (K : PySem.W.Frag) : Sp := fun vs H Q _ => ∃ (a : Addr) (ms : List Int), vs = [.ref a] ∧ SqT K H a (ms.map V.int) ∧ ms.length ≤ 1000 ∧ ∀ H', Same H H' → Q (.bl (riseB ms)) H'
theorem ok_rise {f : Addr} {fd : FuncData} {k : Nat} (mA : mg "all" = none) (mZ : mg "zip" = none) (D : Df K mg "is_rising" sRise ["things"] f fd) : FnOk P w K mg base CX0 (k + 1) f fd ["things"] (spRise K) := by
  refine D.F.ok scRise (fun vs H Q E h => ?_) (fun cdv A outer s H vs Q E hr h => ?_)
  · obtain ⟨_, _, rfl, _⟩ := h
    rfl
  · obtain ⟨a, ms, rfl, ea, hl, q⟩ := h
    refine ⟨_, pss_one (ps_ret (pe_callB (cr_all rfl) (by rfl) mA (by decide +kernel) (pa_cons
      (pe_lc (own := [("one", 1), ("other", 2)]) (g := gTup K 2 (gCons (gName 1) (gCons (gName 2) gNil))) (tt := tYes) rfl scRise.nd
        (pi_zipA (by rfl) mZ (pa_cons (pv 0) (pa_cons (pe_slice sl_tupS (pv 0) (po_some pe_int) po_none) pa_nil)))
        (blkOk_by (N := ["things", "one", "other"]) (sc := defScope sRise) (by decide +kernel))
        (fun _ _ _ _ _ => pg_tup rfl (pgs_cons (pg_name (i := 1) scRise.nd rfl (.inl rfl)) (pgs_cons (pg_name (i := 2) scRise.nd rfl (.inl rfl)) pgs_nil)))
        (fun _ _ _ _ _ => pts_nil) (fun _ _ _ _ _ => pe_cmpR op_lt (pv 1) (pv 2) (nomark _))) pa_nil))), ?_⟩
    refine ⟨.ref a, rfl, .ref a, rfl, 1, rfl, a, _, rfl, ea, fun b H1 s1 eb => ?_⟩
    rw [cut_tail] at eb
    have hn : min (ms.map V.int).length ((ms.drop 1).map V.int).length = (ms.zip (ms.drop 1)).length := by
      rw [List.length_map, List.length_map, List.length_zip]
    refine ⟨a, b, _, _, rfl, .inr ⟨sqt_same ea s1, eb, fun D nD => ?_⟩⟩
    refine lc_it (walk_zipT (n := (ms.zip (ms.drop 1)).length) hn.symm) (fun i H' => Same H1 H' ∧ H' D = some (.lst ((((ms.zip (ms.drop 1)).map fun q => decide (q.1 < q.2)).take i).map V.bl))) ⟨same_new nD, upd_same⟩ (fun i H' _ h => ⟨sqt_same (sqt_same ea s1) h.1, sqt_same eb h.1⟩) (fun i x H' H2 hi h hy => ?_) (fun H3 h => ?_)
    · obtain ⟨sm, eD⟩ := h
      obtain ⟨T, x', y', rfl, nT, rfl, hx, hy⟩ := hy
      have hi1 : i < ms.length := by
        rw [List.length_zip] at hi
        omega
      have hi2 : i < (ms.drop 1).length := by
        rw [List.length_zip] at hi
        omega
      have ex : x' = .int ms[i] := by
        dsimp only at hx
        rw [List.getElem?_map, List.getElem?_eq_getElem hi1] at hx
        exact (Option.some.inj hx).symm
      have ey : y' = .int (ms.drop 1)[i] := by
        dsimp only at hy
        rw [List.getElem?_map, List.getElem?_eq_getElem hi2] at hy
        exact (Option.some.inj hy).symm
      subst ex ey
      refine ⟨T, _, rfl, SqT.of upd_same, rfl, _, _, rfl, _, _, rfl, rfl, rfl, ?_⟩
      unfold tYes
      dsimp only
      rw [if_pos rfl]
      have eD2 := same_new (H := H') (o := .tup [.int ms[i], .int (ms.drop 1)[i]]) nT _ _ eD
      refine ⟨_, rfl, _, rfl, _, _, rfl, rfl, _, eD2, ?_, Same.upd_lst (sm.trans (same_new nT)) nD, ?_⟩
      · rw [List.length_map, List.length_take, List.length_map, List.length_zip]
        exact small1000 (by omega)
      · rw [upd_same, List.take_add_one, List.getElem?_map, List.getElem?_eq_getElem hi, List.getElem_zip, List.map_append]
        rfl
    · obtain ⟨s3, eD⟩ := h
      rw [List.take_of_length_le (by rw [List.length_map]; omega)] at eD
      exact ⟨D, _, rfl, SqL.of eD, q H3 (s1.trans s3)⟩
end
theorem op_notInK {X : Cx} {K : PySem.W.Frag} (h : X.K = K) : OpR X (compareOp .NotIn) (rIn K true) := by
  subst h
  exact op_notIn_seq
def vOpt : Option Int → V
  | none => .non
  | some n => .int n
def freeRoad (ms : List Int) (q : Road) : Bool := !inV (.int q.one) (ms.map V.int) && !inV (.int q.other) (ms.map V.int)
def freeR (ms : List Int) (rs : List Road) : List Road := rs.filter (freeRoad ms)
def excB (own : Option Int) (cost : Int) (ahead : Option Int) : Bool := match ahead with
  | none => false
  | some y => match own with
    | none => true
    | some x => decide (cost + y < x)
def relax (ps : List (Option Int)) (q : Road) : List (Option Int) :=
  if excB (ps.getD q.one.toNat none) q.cost (ps.getD q.other.toNat none) = true then ps.set q.one.toNat ((ps.getD q.other.toNat none).map (q.cost + ·)) else ps
def rounds (qs : List Road) (ps : List (Option Int)) : Nat → List (Option Int)
  | 0 => ps
  | n + 1 => qs.foldl relax (rounds qs ps n)
def firstP (p g : Int) : List (Option Int) := (List.replicate p.toNat none).set g.toNat (some 0)
def greatest (p : Int) (rs : List Road) (g : Int) (ms : List Int) : List (Option Int) := rounds (freeR ms rs) (firstP p g) (p - 1).toNat
theorem relax_len (ps : List (Option Int)) (q : Road) : (relax ps q).length = ps.length := by
  unfold relax
  split
  · rw [List.length_set]
  · rfl
theorem fold_len (qs : List Road) : ∀ ps : List (Option Int), (qs.foldl relax ps).length = ps.length := by
  induction qs with
  | nil => exact fun ps => rfl
  | cons q r ih => exact fun ps => (ih _).trans (relax_len ps q)
theorem rounds_len (qs : List Road) (ps : List (Option Int)) : ∀ n, (rounds qs ps n).length = ps.length
  | 0 => rfl
  | n + 1 => (fold_len qs _).trans (rounds_len qs ps n)
theorem first_len (p g : Int) : (firstP p g).length = p.toNat := by
  unfold firstP
  rw [List.length_set, List.length_replicate]
theorem flat_ints (ms : List Int) : (ms.map V.int).all flatV = true := by
  rw [List.all_map]
  exact List.all_eq_true.mpr fun _ _ => rfl
theorem at_opt {ps : List (Option Int)} {n : Int} (h0 : 0 ≤ n) (h1 : n.toNat < ps.length) : atI (ps.map vOpt) n = some (vOpt (ps.getD n.toNat none)) := by
  have e : (n.toNat : Int) = n := Int.toNat_of_nonneg h0
  have q := atI_nat (xs := ps.map vOpt) (j := n.toNat) (v := vOpt (ps.getD n.toNat none)) (by unfold List.getD; rw [List.getElem?_map, List.getElem?_eq_getElem h1]; rfl)
  rwa [e] at q
theorem ixN_of {m : Nat} {n : Int} (h0 : 0 ≤ n) (h1 : n.toNat < m) : ixN m n = some n.toNat := by
  unfold ixN
  rw [if_pos h0, if_pos (by omega)]
section
variable {P : Program} {w : World} {K : PySem.W.Frag} {mg : Str → Option Value} {base : Heap}
theorem scFree : FnScope ["net", "shut", "road"] ["net", "shut"] (defScope sFree) := ⟨rfl, rfl, rfl, by decide +kernel, rfl, by decide +kernel, by decide +kernel⟩
def spFree (K : PySem.W.Frag) : Sp := fun vs H Q _ => ∃ (a r : Addr) (ts : List Addr) (p : Int) (rs : List Road) (b : Addr) (ms : List Int), vs = [.ref a, .ref b] ∧ NetAt H a r ts p rs ∧ rs.length ≤ 1000 ∧ SqT K H b (ms.map V.int) ∧
  ∀ H' l us, Same H H' → H l = none → H' l = some (.lst (us.map V.ref)) → RoadsAt H' us (freeR ms rs) → Q (.ref l) H'
theorem ok_free {f : Addr} {fd : FuncData} {k : Nat} (D : Df K mg "free_roads" sFree ["net", "shut"] f fd) : FnOk P w K mg base CX0 (k + 1) f fd ["net", "shut"] (spFree K) := by
  refine D.F.ok scFree (fun vs H Q E h => ?_) (fun cdv A outer s H vs Q E hr h => ?_)
  · obtain ⟨_, _, _, _, _, _, _, rfl, _⟩ := h
    rfl
  · obtain ⟨a, r, ts, p, rs, b, ms, rfl, ⟨ea, er, et⟩, hl, eb, q⟩ := h
    refine ⟨_, pss_one (ps_ret (pe_lc (own := [("road", 2)]) (g := gName 2) rfl scFree.nd (pi_tup (pe_ix (ix_tupK (K := K) rfl) (pv 0) pe_int (fun _ _ => rfl))) (blkOk_by (N := ["net", "shut", "road"]) (sc := defScope sFree) (by decide +kernel))
          (fun _ _ _ _ _ => pg_name (i := 2) scFree.nd rfl (.inl rfl))
          (fun _ _ _ _ _ => pts_one (PW.pt (pw_and (pt_cmpR (op_notInK (K := K) rfl) (pe_ix (ix_tupK (K := K) rfl) (pv 2) pe_int (fun _ _ => rfl)) (pv 1) (by rfl)) (pw_and1 (pt_cmpR (op_notInK (K := K) rfl) (pe_ix (ix_tupK (K := K) rfl) (pv 2) pe_int (fun _ _ => rfl)) (pv 1) (by rfl))))))
          (fun _ _ _ _ _ => pv 2))), ?_⟩
    refine ⟨.ref a, rfl, a, _, 1, _, rfl, rfl, SqT.of ea, rfl, r, rfl, ⟨_, SqT.of er⟩, fun D nD => ?_⟩
    have lt := et.len
    refine lc_tup (xs := ts.map V.ref) (fun i H' => Same H H' ∧ ∃ us, H' D = some (.lst (us.map V.ref)) ∧ RoadsAt H us (freeR ms (rs.take i))) ⟨same_new nD, [], upd_same, .nil⟩ (fun i H' _ h => SqT.of (h.1 _ _ er)) (fun i x H' hx h => ?_) (fun H3 h => ?_)
    · obtain ⟨sm, us, eD, eu⟩ := h
      have hi : i < ts.length := by
        have := (List.getElem?_eq_some_iff.mp hx).1
        rwa [List.length_map] at this
      rw [List.getElem?_map, List.getElem?_eq_getElem hi] at hx
      cases hx
      obtain ⟨q', e1, e2⟩ := et.get (List.getElem?_eq_getElem hi)
      have tk : freeR ms (rs.take (i + 1)) = freeR ms (rs.take i) ++ (if freeRoad ms q' = true then [q'] else []) := by
        unfold freeR
        rw [List.take_add_one, e1, List.filter_append]
        congr 1
        show List.filter _ [q'] = _
        rw [List.filter_cons]
        rfl
      have lu : us.length ≤ 1000 := by
        have h1 := eu.len
        have h2 : (freeR ms (rs.take i)).length ≤ (rs.take i).length := List.length_filter_le _ _
        rw [List.length_take] at h2
        omega
      refine ⟨rfl, ?_⟩
      refine ⟨.ref ts[i], rfl, ts[i], _, 0, .int q'.one, rfl, rfl, SqT.of (sm _ _ e2), rfl, .ref b, rfl, b, _, rfl, .inr (sqt_same eb sm), rfl, flat_ints ms, _, rfl, ?_⟩
      cases c1 : inV (.int q'.one) (ms.map V.int) with
      | true =>
        refine iteF ?_
        dsimp only
        rw [if_neg (by decide)]
        refine ⟨sm, us, eD, ?_⟩
        rw [tk, if_neg (by unfold freeRoad; rw [c1]; exact Bool.false_ne_true), List.append_nil]
        exact eu
      | false =>
        refine iteT ?_
        refine ⟨.ref ts[i], rfl, ts[i], _, 1, .int q'.other, rfl, rfl, SqT.of (sm _ _ e2), rfl, .ref b, rfl, b, _, rfl, .inr (sqt_same eb sm), rfl, flat_ints ms, _, rfl, ?_⟩
        cases c2 : inV (.int q'.other) (ms.map V.int) with
        | true =>
          rw [if_neg (by decide)]
          refine ⟨sm, us, eD, ?_⟩
          rw [tk, if_neg (by unfold freeRoad; rw [c1, c2]; decide), List.append_nil]
          exact eu
        | false =>
          rw [if_pos (by decide)]
          refine ⟨.ref ts[i], rfl, _, eD, ?_, Same.upd_lst sm nD, us ++ [ts[i]], ?_, ?_⟩
          · rw [List.length_map]
            exact small1000 (by omega)
          · rw [upd_same, List.map_append]
            rfl
          · rw [tk, if_pos (by unfold freeRoad; rw [c1, c2]; rfl)]
            exact laid_snoc eu e2
    · obtain ⟨sm, us, eD, eu⟩ := h
      rw [List.length_map, lt, List.take_length] at eu
      exact q H3 D us sm nD eD (eu.keep fun b xs e => sm _ _ e)
theorem scExc : FnScope ["own", "cost", "ahead"] ["own", "cost", "ahead"] (defScope sExc) := ⟨rfl, rfl, rfl, by decide +kernel, rfl, by decide +kernel, by decide +kernel⟩
def spExc : Sp := fun vs H Q _ => ∃ (own ahead : Option Int) (c : Int), vs = [vOpt own, .int c, vOpt ahead] ∧ Q (.bl (excB own c ahead)) H
theorem ok_exc {f : Addr} {fd : FuncData} {k : Nat} (D : Df K mg "exceeds" sExc ["own", "cost", "ahead"] f fd) : FnOk P w K mg base CX0 (k + 1) f fd ["own", "cost", "ahead"] spExc := by
  refine D.F.ok scExc (fun vs H Q E h => ?_) (fun cdv A outer s H vs Q E hr h => ?_)
  · obtain ⟨_, _, _, rfl, _⟩ := h
    rfl
  · obtain ⟨own, ahead, c, rfl, q⟩ := h
    refine ⟨_, pss_one (ps_ret (pe_and (pe_cmpR op_notN (pv 2) pe_non (nomark _)) (pe_one (pe_or (pe_cmpR op_isN (pv 0) pe_non (nomark _)) (pe_one (pe_cmpR op_gt (pv 0) (pe_op op_add (pv 1) (pv 2)) (nomark _))))))), ?_⟩
    cases ahead with
    | none => exact ⟨.non, rfl, rfl, _, rfl, iteF q⟩
    | some y =>
      refine ⟨.int y, rfl, rfl, _, rfl, iteT ?_⟩
      cases own with
      | none => exact ⟨.non, rfl, rfl, _, rfl, iteT q⟩
      | some x => exact ⟨.int x, rfl, rfl, _, rfl, iteF ⟨.int x, rfl, .int c, rfl, .int y, rfl, c, y, rfl, rfl, x, c + y, rfl, rfl, q⟩⟩
theorem scGreat : FnScope ["net", "goal", "shut", "roads", "prices", "turn", "one", "other", "cost", "time"] ["net", "goal", "shut"] (defScope sGreat) := ⟨rfl, rfl, rfl, by decide +kernel, rfl, by decide +kernel, by decide +kernel⟩
def spGreat (K : PySem.W.Frag) : Sp := fun vs H Q _ => ∃ (a r : Addr) (ts : List Addr) (p : Int) (rs : List Road) (g : Int) (b : Addr) (ms : List Int), vs = [.ref a, .int g, .ref b] ∧ NetAt H a r ts p rs ∧ NetOk p rs ∧ 0 ≤ g ∧ g ≤ p - 1 ∧ SqT K H b (ms.map V.int) ∧
  ∀ H' t, Same H H' → H t = none → H' t = some (.tup ((greatest p rs g ms).map vOpt)) → Q (.ref t) H'
theorem ok_great {f fF fE : Addr} {fd dF dE : FuncData} {k : Nat} (mR : mg "range" = none) (mT : mg "tuple" = none) (DF : Df K mg "free_roads" sFree ["net", "shut"] fF dF) (DE : Df K mg "exceeds" sExc ["own", "cost", "ahead"] fE dE) (D : Df K mg "greatest_prices" sGreat ["net", "goal", "shut"] f fd) : FnOk P w K mg base CX0 (k + 2) f fd ["net", "goal", "shut"] (spGreat K) := by
  have GF : FnOk P w K mg base CX0 (k + 1) fF dF ["net", "shut"] (spFree K) := ok_free DF
  have GE : FnOk P w K mg base CX0 (k + 1) fE dE ["own", "cost", "ahead"] spExc := ok_exc DE
  refine D.F.ok scGreat (fun vs H Q E h => ?_) (fun cdv A outer s H vs Q E hr h => ?_)
  · obtain ⟨_, _, _, _, _, _, _, _, rfl, _⟩ := h
    rfl
  · obtain ⟨a, r, ts, p, rs, g, b, ms, rfl, hN, ok, g0, g1, eb, q⟩ := h
    obtain ⟨ea, er, et⟩ := id hN
    refine ⟨_, pss_cons (ps_set (i := 3) scGreat.nd rfl (.inl rfl) (pe_call GF hr (by rfl) DF.g DF.F.kp DF.b .nil pass0 (pa_cons (pv 0) (pa_cons (pv 2) pa_nil))))
      (pss_cons (ps_set (i := 4) scGreat.nd rfl (.inl rfl) (pe_op op_rep (pe_lst (pa_cons pe_non pa_nil)) (pe_ix (ix_tupK (K := K) rfl) (pv 0) pe_int (fun _ _ => rfl))))
      (pss_cons (ps_asg pe_int (pg_sub (pv 4) (pv 1) set_list))
      (pss_cons (ps_for PassesOwn.never rfl (pi_range2 (by rfl) mR (pa_cons pe_int (pa_cons (pe_ix (ix_tupK (K := K) rfl) (pv 0) pe_int (fun _ _ => rfl)) pa_nil))) (pg_name (i := 5) scGreat.nd rfl (.inl rfl))
        (pss_one (ps_for PassesOwn.never rfl (pi_list (pv 3)) (pg_tup rfl (pgs_cons (pg_name (i := 6) scGreat.nd rfl (.inl rfl)) (pgs_cons (pg_name (i := 7) scGreat.nd rfl (.inl rfl)) (pgs_cons (pg_name (i := 8) scGreat.nd rfl (.inl rfl)) (pgs_cons (pg_name (i := 9) scGreat.nd rfl (.inl rfl)) pgs_nil)))))
          (pss_one (ps_if (pt_val (pe_call GE hr (by rfl) DE.g DE.F.kp DE.b .nil pass0 (pa_cons (pe_ix ix_list (pv 4) (pv 6) (fun _ _ => rfl)) (pa_cons (pv 8) (pa_cons (pe_ix ix_list (pv 4) (pv 7) (fun _ _ => rfl)) pa_nil)))))
            (pss_one (ps_asg (pe_op op_add (pv 8) (pe_ix ix_list (pv 4) (pv 7) (fun _ _ => rfl))) (pg_sub (pv 4) (pv 6) set_list))) pss_nil)))))
      (pss_one (ps_ret (pe_callTy call_tuple_of (by rfl) mT (by decide +kernel) (pa_cons (pv 4) pa_nil))))))), ?_⟩
    have hp : 0 ≤ p := by
      have := ok.p1
      omega
    have p10 := ok.p2
    refine ⟨.ref a, rfl, .ref b, rfl, a, r, ts, p, rs, b, ms, rfl, hN, Nat.le_trans ok.len (by decide), eb, fun H1 lr us s1 nlr elr eu => ?_⟩
    have okF : ∀ x ∈ freeR ms rs, RoadOk p x := fun x hx => ok.all x (List.mem_filter.mp hx).1
    obtain ⟨qs, hqs⟩ : ∃ qs, qs = freeR ms rs := ⟨_, rfl⟩
    rw [← hqs] at eu okF
    refine ⟨by show 1 ≤ sizeLine; decide, fun l0 nl0 => ?_⟩
    have x1 := same_new (o := .lst [.non]) nl0
    refine ⟨.ref a, rfl, a, _, 0, _, rfl, rfl, SqT.of (x1 _ _ (s1 _ _ ea)), rfl, l0, p, _, rfl, rfl, upd_same, by omega, by omega, ?_, fun l nl => ?_⟩
    · show 1 * p.toNat ≤ sizeLine
      exact Nat.le_trans (by omega : 1 * p.toNat ≤ 10) (by decide)
    have e0 : (List.replicate p.toNat [V.non]).flatten = (List.replicate p.toNat (none : Option Int)).map vOpt := by
      rw [List.map_replicate]
      induction p.toNat with
      | zero => rfl
      | succ n ih => rw [List.replicate_succ, List.replicate_succ, List.flatten_cons, ih]; rfl
    rw [e0]
    refine ⟨.ref l, rfl, .int g, rfl, l, _, g, g.toNat, rfl, rfl, upd_same, ?_, ?_⟩
    · rw [List.length_map, List.length_replicate]
      exact ixN_of g0 (by omega)
    have e1 : (((List.replicate p.toNat (none : Option Int)).map vOpt).set g.toNat (.int 0)) = (firstP p g).map vOpt := by
      unfold firstP
      rw [List.map_set]
      rfl
    rw [e1, upd_upd]
    obtain ⟨H2, hH2⟩ : ∃ H2, H2 = upd (upd H1 l0 (.lst [.non])) l (.lst ((firstP p g).map vOpt)) := ⟨_, rfl⟩
    rw [← hH2]
    have s2 : Same H H2 := by
      rw [hH2]
      exact (s1.trans x1).trans (same_new nl)
    have el : H2 l = some (.lst ((firstP p g).map vOpt)) := by
      rw [hH2]
      exact upd_same
    have elr2 : H2 lr = some (.lst (us.map V.ref)) := by
      rw [hH2]
      exact same_new nl _ _ (x1 _ _ elr)
    have eu2 : RoadsAt H2 us qs := eu.keep fun c xs e => by
      rw [hH2]
      exact same_new nl _ _ (x1 _ _ e)
    have nlH : H l = none := s1.free (by
      cases e : H1 l with
      | none => rfl
      | some o => rw [x1 _ _ e] at nl; cases nl)
    have nlr : lr ≠ l := ne_of_none (x1 _ _ elr) nl
    refine ⟨.ref a, rfl, a, _, 0, _, rfl, rfl, SqT.of (s2 _ _ ea), rfl, 1, p, rfl, ⟨by omega, by omega, by omega, by omega⟩, ?_⟩
    have lenR : ∀ n, (rounds qs (firstP p g) n).length = p.toNat := fun n => (rounds_len _ _ _).trans (first_len p g)
    refine for_range (lo := 1) (fun i σ H' => ∃ y5 y6 y7 y8 y9 : Option V, σ = [some (.ref a), some (.int g), some (.ref b), some (.ref lr), some (.ref l), y5, y6, y7, y8, y9] ∧ Keep l H2 H' ∧ H' l = some (.lst ((rounds qs (firstP p g) i).map vOpt))) ⟨none, none, none, none, none, rfl, Keep.refl _ _, el⟩ (fun i σ H' hi h => ?_) (fun σ H' h => ?_)
    · obtain ⟨y5, y6, y7, y8, y9, rfl, kp, eL⟩ := h
      refine ⟨.ref lr, rfl, lr, rfl, ⟨_, SqL.of (kp _ _ elr2 nlr)⟩, ?_⟩
      refine for_list (xs := us.map V.ref) (fun j σ H' => ∃ y5 y6 y7 y8 y9 : Option V, σ = [some (.ref a), some (.int g), some (.ref b), some (.ref lr), some (.ref l), y5, y6, y7, y8, y9] ∧ Keep l H2 H' ∧ H' l = some (.lst (((qs.take j).foldl relax (rounds qs (firstP p g) i)).map vOpt))) ⟨_, _, _, _, _, rfl, kp, eL⟩ (fun j σ H' _ h => ?_) (fun j x σ H' hx h => ?_) (fun σ H' h => ?_)
      · obtain ⟨_, _, _, _, _, _, kp, _⟩ := h
        exact SqL.of (kp _ _ elr2 nlr)
      · obtain ⟨z5, z6, z7, z8, z9, rfl, kp, eL⟩ := h
        have hj : j < us.length := by
          have := (List.getElem?_eq_some_iff.mp hx).1
          rwa [List.length_map] at this
        rw [List.getElem?_map, List.getElem?_eq_getElem hj] at hx
        cases hx
        obtain ⟨rd, e1, e2⟩ := eu2.get (List.getElem?_eq_getElem hj)
        have o := okF rd (List.mem_of_getElem? e1)
        have ru : us[j] ≠ l := ne_of e2 el (fun z => nomatch z)
        obtain ⟨ps, hps⟩ : ∃ ps, ps = (qs.take j).foldl relax (rounds qs (firstP p g) i) := ⟨_, rfl⟩
        have lps : ps.length = p.toNat := by
          rw [hps, fold_len]
          exact lenR i
        have step : (qs.take (j + 1)).foldl relax (rounds qs (firstP p g) i) = relax ps rd := by
          rw [List.take_add_one, e1, List.foldl_append, hps]
          rfl
        rw [← hps] at eL
        have b1 := o.o1
        have b2 := o.o2
        have b3 := o.t1
        have b4 := o.t2
        have i1 : rd.one.toNat < ps.length := by omega
        have i2 : rd.other.toNat < ps.length := by omega
        refine ⟨us[j], _, rfl, SqT.of (kp _ _ e2 ru), rfl, _, _, rfl, _, _, rfl, _, _, rfl, _, _, rfl, rfl, ?_⟩
        refine ⟨.ref l, rfl, .int rd.one, rfl, l, _, rd.one, _, rfl, rfl, SqL.of eL, at_opt b1 i1, .int rd.cost, rfl, .ref l, rfl, .int rd.other, rfl, l, _, rd.other, _, rfl, rfl, SqL.of eL, at_opt b3 i2, _, _, rd.cost, rfl, _, rfl, ?_⟩
        cases c : excB (ps.getD rd.one.toNat none) rd.cost (ps.getD rd.other.toNat none) with
        | false =>
          refine iteF ⟨_, _, _, _, _, rfl, kp, ?_⟩
          rw [step]
          unfold relax
          rw [c, if_neg (by decide)]
          exact eL
        | true =>
          cases ah : ps.getD rd.other.toNat none with
          | none =>
            rw [ah] at c
            cases c
          | some y =>
            refine iteT ⟨.int rd.cost, rfl, .ref l, rfl, .int rd.other, rfl, l, _, rd.other, _, rfl, rfl, SqL.of eL, at_opt b3 i2, rd.cost, y, rfl, (by rw [ah]; rfl), .ref l, rfl, .int rd.one, rfl, l, _, rd.one, rd.one.toNat, rfl, rfl, eL, ixN_of b1 (by rw [List.length_map]; exact i1), _, _, _, _, _, rfl, ?_, ?_⟩
            · exact kp.trans Keep.self
            · rw [upd_same, step]
              unfold relax
              rw [if_pos c, ah, List.map_set]
              rfl
      · obtain ⟨z5, z6, z7, z8, z9, rfl, kp, eL⟩ := h
        refine ⟨_, _, _, _, _, rfl, kp, ?_⟩
        rw [List.length_map, eu2.len, List.take_length] at eL
        exact eL
    · obtain ⟨z5, z6, z7, z8, z9, rfl, kp, eL⟩ := h
      have sm : Same H H' := fun c o e => kp _ _ (s2 _ _ e) (ne_of_none e nlH)
      refine ⟨.ref l, rfl, l, _, rfl, .inl ⟨SqL.of eL, fun t nt => ?_⟩⟩
      have eg : rounds qs (firstP p g) (p - 1).toNat = greatest p rs g ms := by
        rw [hqs]
        rfl
      refine q _ t (sm.trans (same_new nt)) (sm.free nt) ?_
      rw [upd_same, eg]
end
end Wy

namespace Wy
open PySem PySem.Spec PyProof.Rows L2
/-! ### least costs -/
/-- a walk to g over the roads fr, at places of A alone: what it costs, how many roads it has -/
inductive Wk (fr : List Road) (g : Int) (A : Int → Prop) : Int → Int → Nat → Prop where
  | nil : A g → Wk fr g A g 0 0
  | cons {q : Road} {v : Int} {n : Nat} : q ∈ fr → A q.one → Wk fr g A q.other v n → Wk fr g A q.one (q.cost + v) (n + 1)
/-- roads among p places -/
structure Fr (p : Int) (fr : List Road) : Prop where
  o : ∀ q ∈ fr, 0 ≤ q.one ∧ q.one < p
  t : ∀ q ∈ fr, 0 ≤ q.other ∧ q.other < p
  c : ∀ q ∈ fr, 1 ≤ q.cost
def In (p a : Int) : Prop := 0 ≤ a ∧ a < p
theorem Wk.here {fr : List Road} {g a v : Int} {n : Nat} {A : Int → Prop} (h : Wk fr g A a v n) : A a := by
  cases h with
  | nil h => exact h
  | cons _ h _ => exact h
theorem Wk.nonneg {p : Int} {fr : List Road} (F : Fr p fr) {g a v : Int} {n : Nat} {A : Int → Prop} (h : Wk fr g A a v n) : 0 ≤ v := by
  induction h with
  | nil _ => exact Int.le_refl _
  | cons hq _ _ ih =>
    have := F.c _ hq
    omega
theorem Wk.mono {fr : List Road} {g a v : Int} {n : Nat} {A B : Int → Prop} (h : Wk fr g A a v n) (m : ∀ x, A x → B x) : Wk fr g B a v n := by
  induction h with
  | nil h => exact .nil (m _ h)
  | cons hq ha _ ih => exact .cons hq (m _ ha) ih
/-- where it is at b for the last time -/
theorem Wk.last {p : Int} {fr : List Road} (F : Fr p fr) {g a v : Int} {n : Nat} {A : Int → Prop} (b : Int) (h : Wk fr g A a v n) :
    Wk fr g (fun x => A x ∧ x ≠ b) a v n ∨ (b = g ∧ A g) ∨ ∃ q v' n', q ∈ fr ∧ q.one = b ∧ Wk fr g (fun x => A x ∧ x ≠ b) q.other v' n' ∧ q.cost + v' ≤ v := by
  induction h with
  | nil h =>
    by_cases e : g = b
    · exact .inr (.inl ⟨e.symm, h⟩)
    · exact .inl (.nil ⟨h, e⟩)
  | @cons q v n hq ha hw ih =>
    rcases ih with z | z | ⟨q', v', n', h1, h2, h3, h4⟩
    · by_cases e : q.one = b
      · exact .inr (.inr ⟨q, v, n, hq, e, z, Int.le_refl _⟩)
      · exact .inl (.cons hq ⟨ha, e⟩ z)
    · exact .inr (.inl z)
    · refine .inr (.inr ⟨q', v', n', h1, h2, h3, ?_⟩)
      have := F.c _ hq
      omega
/-- one with few roads that costs no more -/
theorem short {p : Int} {fr : List Road} (F : Fr p fr) {g : Int} : ∀ (k : Nat) (L : List Int), L.length = k → ∀ (A : Int → Prop), (∀ x, A x → x ∈ L) → ∀ {a v : Int} {n : Nat}, Wk fr g A a v n → ∃ v' n', v' ≤ v ∧ n' + 1 ≤ k ∧ Wk fr g A a v' n'
  | 0, L, hl, A, hA, a, v, n, h => by
    have := hA _ h.here
    rw [List.length_eq_zero_iff.mp hl] at this
    cases this
  | k + 1, L, hl, A, hA, a, v, n, h => by
    have ha := hA _ h.here
    rcases h.last F a with z | ⟨z, zg⟩ | ⟨q, v', n', h1, h2, h3, h4⟩
    · exact absurd rfl z.here.2
    · exact ⟨0, 0, h.nonneg F, by omega, by rw [z]; exact .nil zg⟩
    · obtain ⟨v2, n2, h5, h6, h7⟩ := short F k (L.erase a) (by rw [List.length_erase_of_mem ha]; omega) _ (fun x hx => (List.mem_erase_of_ne hx.2).mpr (hA _ hx.1)) h3
      refine ⟨q.cost + v2, n2 + 1, by omega, by omega, ?_⟩
      have := Wk.cons (A := A) h1 (by rw [h2]; exact h.here) (h7.mono fun x hx => hx.1)
      rwa [h2] at this
theorem in_list (p : Int) : ∃ L : List Int, L.length = p.toNat ∧ ∀ x, In p x → x ∈ L := by
  refine ⟨(List.range p.toNat).map fun (i : Nat) => (i : Int), by simp, fun x hx => ?_⟩
  obtain ⟨h0, h1⟩ := hx
  exact List.mem_map.mpr ⟨x.toNat, List.mem_range.mpr (by omega), by omega⟩
def at' (ps : List (Option Int)) (a : Int) : Option Int := ps.getD a.toNat none
/-- what each place costs at least, to g -/
structure Dist (p : Int) (fr : List Road) (g : Int) (d : Int → Option Int) : Prop where
  sound : ∀ a v, In p a → d a = some v → ∃ n, Wk fr g (In p) a v n
  least : ∀ a v n, Wk fr g (In p) a v n → ∃ u, d a = some u ∧ u ≤ v
theorem Dist.eq {p : Int} {fr : List Road} {g : Int} {d e : Int → Option Int} (D : Dist p fr g d) (E : Dist p fr g e) {a : Int} (ha : In p a) : d a = e a := by
  cases hd : d a with
  | none =>
    cases he : e a with
    | none => rfl
    | some v =>
      obtain ⟨n, w⟩ := E.sound a v ha he
      obtain ⟨u, h, _⟩ := D.least a v n w
      rw [hd] at h
      cases h
  | some u =>
    obtain ⟨n, w⟩ := D.sound a u ha hd
    obtain ⟨v, h1, h2⟩ := E.least a u n w
    obtain ⟨m, w2⟩ := E.sound a v ha h1
    obtain ⟨u', h3, h4⟩ := D.least a v m w2
    rw [hd] at h3
    cases h3
    rw [h1, show u = v by omega]
/-! ### rounds of the roads -/
def LeP (ps qs : List (Option Int)) : Prop := ∀ a u, at' ps a = some u → ∃ v, at' qs a = some v ∧ v ≤ u
theorem LeP.refl (ps : List (Option Int)) : LeP ps ps := fun _ u h => ⟨u, h, Int.le_refl _⟩
theorem LeP.trans {ps qs rs : List (Option Int)} (h : LeP ps qs) (k : LeP qs rs) : LeP ps rs := fun a u e => by
  obtain ⟨v, e1, e2⟩ := h a u e
  obtain ⟨w, e3, e4⟩ := k a v e1
  exact ⟨w, e3, by omega⟩
theorem at_set {ps : List (Option Int)} {a b : Int} {x : Option Int} (ha : 0 ≤ a) (hb : 0 ≤ b) (hl : a.toNat < ps.length) : at' (ps.set a.toNat x) b = if b = a then x else at' ps b := by
  unfold at' List.getD
  rw [List.getElem?_set]
  by_cases e : b = a
  · rw [if_pos e, e, if_pos rfl, if_pos hl]
    rfl
  · rw [if_neg e, if_neg (by omega)]
theorem relax_cases {p : Int} {ps : List (Option Int)} {q : Road} (hq : 0 ≤ q.one ∧ q.one < p) (hl : ps.length = p.toNat) :
    (relax ps q = ps ∧ ∀ v, at' ps q.other = some v → ∃ u, at' ps q.one = some u ∧ u ≤ q.cost + v) ∨
    ∃ v, at' ps q.other = some v ∧ (∀ u, at' ps q.one = some u → q.cost + v < u) ∧ ∀ b, 0 ≤ b → at' (relax ps q) b = if b = q.one then some (q.cost + v) else at' ps b := by
  by_cases h : excB (ps.getD q.one.toNat none) q.cost (ps.getD q.other.toNat none) = true
  · right
    have e : relax ps q = ps.set q.one.toNat ((ps.getD q.other.toNat none).map (q.cost + ·)) := by
      unfold relax
      rw [if_pos h]
    cases ho : ps.getD q.other.toNat none with
    | none =>
      rw [ho] at h
      cases h
    | some v =>
      refine ⟨v, ho, fun u hu => ?_, fun b hb => ?_⟩
      · have hu : ps.getD q.one.toNat none = some u := hu
        rw [ho, hu] at h
        exact of_decide_eq_true h
      · rw [e, ho, at_set hq.1 hb (by omega)]
        rfl
  · left
    refine ⟨by unfold relax; rw [if_neg h], fun v hv => ?_⟩
    have hv : ps.getD q.other.toNat none = some v := hv
    rw [hv] at h
    cases ho : ps.getD q.one.toNat none with
    | none =>
      rw [ho] at h
      exact absurd rfl h
    | some u =>
      rw [ho] at h
      exact ⟨u, ho, Int.not_lt.mp fun z => h (decide_eq_true z)⟩
/-- no negative index is asked for -/
theorem relax_le {p : Int} {ps : List (Option Int)} {q : Road} (hq : 0 ≤ q.one ∧ q.one < p) (hl : ps.length = p.toNat) : ∀ a u, 0 ≤ a → at' ps a = some u → ∃ v, at' (relax ps q) a = some v ∧ v ≤ u := by
  intro a u ha e
  rcases relax_cases hq hl with ⟨z, _⟩ | ⟨v, h1, h2, h3⟩
  · rw [z]
    exact ⟨u, e, Int.le_refl _⟩
  · rw [h3 a ha]
    by_cases k : a = q.one
    · rw [if_pos k]
      have := h2 u (k ▸ e)
      exact ⟨_, rfl, by omega⟩
    · rw [if_neg k]
      exact ⟨u, e, Int.le_refl _⟩
theorem relax_edge {p : Int} {ps : List (Option Int)} {q : Road} (hq : 0 ≤ q.one ∧ q.one < p) (hl : ps.length = p.toNat) {v : Int} (hv : at' ps q.other = some v) : ∃ u, at' (relax ps q) q.one = some u ∧ u ≤ q.cost + v := by
  rcases relax_cases hq hl with ⟨z, k⟩ | ⟨v', h1, h2, h3⟩
  · rw [z]
    exact k v hv
  · rw [hv] at h1
    cases h1
    rw [h3 _ hq.1, if_pos rfl]
    exact ⟨_, rfl, Int.le_refl _⟩
theorem fold_le {p : Int} : ∀ {qs : List Road} {ps : List (Option Int)}, (∀ q ∈ qs, 0 ≤ q.one ∧ q.one < p) → ps.length = p.toNat → ∀ a u, 0 ≤ a → at' ps a = some u → ∃ v, at' (qs.foldl relax ps) a = some v ∧ v ≤ u
  | [], _, _, _, _, u, _, e => ⟨u, e, Int.le_refl _⟩
  | q :: r, ps, hq, hl, a, u, ha, e => by
    obtain ⟨v, e1, e2⟩ := relax_le (hq q (List.mem_cons_self ..)) hl a u ha e
    obtain ⟨w, e3, e4⟩ := fold_le (qs := r) (fun x hx => hq x (List.mem_cons_of_mem _ hx)) ((relax_len ps q).trans hl) a v ha e1
    exact ⟨w, e3, by omega⟩
theorem fold_edge {p : Int} : ∀ {qs : List Road} {ps : List (Option Int)}, (∀ q ∈ qs, (0 ≤ q.one ∧ q.one < p) ∧ 0 ≤ q.other) → ps.length = p.toNat → ∀ q ∈ qs, ∀ v, at' ps q.other = some v → ∃ u, at' (qs.foldl relax ps) q.one = some u ∧ u ≤ q.cost + v
  | q' :: r, ps, hq, hl, q, hm, v, hv => by
    have h0 := hq q' (List.mem_cons_self ..)
    have hr : ∀ x ∈ r, (0 ≤ x.one ∧ x.one < p) ∧ 0 ≤ x.other := fun x hx => hq x (List.mem_cons_of_mem _ hx)
    have hl' := (relax_len ps q').trans hl
    rcases List.mem_cons.mp hm with rfl | hm
    · obtain ⟨u, e1, e2⟩ := relax_edge h0.1 hl hv
      obtain ⟨w, e3, e4⟩ := fold_le (qs := r) (fun x hx => (hr x hx).1) hl' _ u h0.1.1 e1
      exact ⟨w, e3, by omega⟩
    · obtain ⟨v', e1, e2⟩ := relax_le h0.1 hl q.other v (hr q hm).2 hv
      obtain ⟨u, e3, e4⟩ := fold_edge hr hl' q hm v' e1
      exact ⟨u, e3, by omega⟩
/-- each number is what some walk costs -/
def Snd (p : Int) (fr : List Road) (g : Int) (ps : List (Option Int)) : Prop := ∀ a v, In p a → at' ps a = some v → ∃ n, Wk fr g (In p) a v n
theorem relax_snd {p : Int} {fr : List Road} (F : Fr p fr) {g : Int} {ps : List (Option Int)} {q : Road} (hq : q ∈ fr) (hl : ps.length = p.toNat) (h : Snd p fr g ps) : Snd p fr g (relax ps q) := by
  intro a v ha e
  rcases relax_cases (F.o q hq) hl with ⟨z, _⟩ | ⟨x, h1, h2, h3⟩
  · rw [z] at e
    exact h a v ha e
  · rw [h3 a ha.1] at e
    by_cases k : a = q.one
    · rw [if_pos k] at e
      cases e
      obtain ⟨n, w⟩ := h _ x (F.t q hq) h1
      exact ⟨n + 1, k ▸ .cons hq (F.o q hq) w⟩
    · rw [if_neg k] at e
      exact h a v ha e
theorem fold_snd {p : Int} {fr : List Road} (F : Fr p fr) {g : Int} : ∀ {qs : List Road} {ps : List (Option Int)}, (∀ q ∈ qs, q ∈ fr) → ps.length = p.toNat → Snd p fr g ps → Snd p fr g (qs.foldl relax ps)
  | [], _, _, _, h => h
  | q :: r, ps, hq, hl, h => fold_snd F (qs := r) (fun x hx => hq x (List.mem_cons_of_mem _ hx)) ((relax_len ps q).trans hl) (relax_snd F (hq q (List.mem_cons_self ..)) hl h)
theorem first_at {p g : Int} (hg : In p g) (a : Int) (ha : 0 ≤ a) : at' (firstP p g) a = if a = g then some 0 else none := by
  unfold firstP
  rw [at_set hg.1 ha (by rw [List.length_replicate]; have := hg.1; have := hg.2; omega)]
  by_cases e : a = g
  · rw [if_pos e, if_pos e]
  · rw [if_neg e, if_neg e]
    unfold at' List.getD
    cases h : (List.replicate p.toNat (none : Option Int))[a.toNat]? with
    | none => rfl
    | some x =>
      rw [List.eq_of_mem_replicate (List.mem_of_getElem? h)]
      rfl
theorem rounds_snd {p : Int} {fr : List Road} (F : Fr p fr) {g : Int} (hg : In p g) : ∀ t, Snd p fr g (rounds fr (firstP p g) t)
  | 0 => fun a v ha e => by
    have e : at' (firstP p g) a = some v := e
    rw [first_at hg a ha.1] at e
    by_cases k : a = g
    · rw [if_pos k] at e
      cases e
      exact ⟨0, by rw [k]; exact .nil hg⟩
    · rw [if_neg k] at e
      cases e
  | t + 1 => fold_snd F (fun _ h => h) ((rounds_len fr _ t).trans (first_len p g)) (rounds_snd F hg t)
theorem rounds_least {p : Int} {fr : List Road} (F : Fr p fr) {g : Int} (hg : In p g) : ∀ t {a v : Int} {n : Nat}, n ≤ t → Wk fr g (In p) a v n → ∃ u, at' (rounds fr (firstP p g) t) a = some u ∧ u ≤ v
  | 0, a, v, n, hn, w => by
    cases w with
    | nil _ => exact ⟨0, by show at' (firstP p g) g = _; rw [first_at hg g hg.1, if_pos rfl], Int.le_refl _⟩
    | cons _ _ _ => omega
  | t + 1, a, v, n, hn, w => by
    have hl := (rounds_len fr _ t).trans (first_len p g)
    cases w with
    | nil h =>
      obtain ⟨u, e1, e2⟩ := rounds_least F hg t (Nat.zero_le _) (.nil h)
      obtain ⟨u', e3, e4⟩ := fold_le (qs := fr) F.o hl g u hg.1 e1
      exact ⟨u', e3, by omega⟩
    | @cons q v n hq ha w =>
      obtain ⟨u, e1, e2⟩ := rounds_least F hg t (by omega) w
      obtain ⟨u', e3, e4⟩ := fold_edge (qs := fr) (fun x hx => ⟨F.o x hx, (F.t x hx).1⟩) hl q hq u e1
      exact ⟨u', e3, by omega⟩
theorem rounds_dist {p : Int} {fr : List Road} (F : Fr p fr) {g : Int} (hg : In p g) : Dist p fr g (at' (rounds fr (firstP p g) (p - 1).toNat)) := by
  refine ⟨rounds_snd F hg _, fun a v n w => ?_⟩
  obtain ⟨L, h1, h2⟩ := in_list p
  obtain ⟨v', n', h3, h4, h5⟩ := short F _ L h1 (In p) h2 w
  obtain ⟨u, e1, e2⟩ := rounds_least F hg (p - 1).toNat (by omega) h5
  exact ⟨u, e1, by omega⟩
/-! ### place by place, the nearest first -/
/-- some places have their least cost -/
structure Near (p : Int) (fr : List Road) (g : Int) (f : Int → Option Int) : Prop where
  goal : f g = some 0
  inn : ∀ a v, f a = some v → In p a
  sound : ∀ a v, f a = some v → ∃ n, Wk fr g (In p) a v n
  least : ∀ a u, f a = some u → ∀ v n, Wk fr g (In p) a v n → u ≤ v
theorem Near.cross {p : Int} {fr : List Road} (F : Fr p fr) {g : Int} {f : Int → Option Int} (N : Near p fr g f) {a v : Int} {n : Nat} (w : Wk fr g (In p) a v n) (h : f a = none) : ∃ q u, q ∈ fr ∧ f q.one = none ∧ f q.other = some u ∧ q.cost + u ≤ v := by
  induction w with
  | nil _ =>
    rw [N.goal] at h
    cases h
  | @cons q v n hq ha w ih =>
    cases e : f q.other with
    | some u => exact ⟨q, u, hq, h, e, by have := N.least _ u e v n w; omega⟩
    | none =>
      obtain ⟨q', u, h1, h2, h3, h4⟩ := ih e
      have := F.c _ hq
      exact ⟨q', u, h1, h2, h3, by omega⟩
theorem Near.next {p : Int} {fr : List Road} (F : Fr p fr) {g : Int} {f : Int → Option Int} (N : Near p fr g f) {s : Int} {d : Int} {q : Road} {u : Int} (hq : q ∈ fr) (e1 : f q.one = none) (e2 : f q.other = some u) (es : q.one = s) (ed : q.cost + u = d)
    (hm : ∀ q' u', q' ∈ fr → f q'.one = none → f q'.other = some u' → d ≤ q'.cost + u') : Near p fr g (fun a => if a = s then some d else f a) := by
  have gs : g ≠ s := fun z => by
    rw [es, ← z, N.goal] at e1
    cases e1
  refine ⟨by rw [if_neg gs]; exact N.goal, fun a v h => ?_, fun a v h => ?_, fun a u' h v n w => ?_⟩
  · by_cases k : a = s
    · exact k ▸ es ▸ F.o q hq
    · rw [if_neg k] at h
      exact N.inn a v h
  · by_cases k : a = s
    · rw [if_pos k] at h
      cases h
      obtain ⟨n, w⟩ := N.sound _ u e2
      rw [k, ← es, ← ed]
      exact ⟨n + 1, .cons hq (F.o q hq) w⟩
    · rw [if_neg k] at h
      exact N.sound a v h
  · by_cases k : a = s
    · rw [if_pos k] at h
      cases h
      rw [k, ← es] at w
      obtain ⟨q', u2, h1, h2, h3, h4⟩ := N.cross F w e1
      have := hm q' u2 h1 h2 h3
      omega
    · rw [if_neg k] at h
      exact N.least a u' h v n w
theorem Near.done {p : Int} {fr : List Road} (F : Fr p fr) {g : Int} {f : Int → Option Int} (N : Near p fr g f) (h : ∀ q u, q ∈ fr → f q.one = none → f q.other = some u → False) : Dist p fr g f := by
  refine ⟨fun a v _ e => N.sound a v e, fun a v n w => ?_⟩
  cases e : f a with
  | none =>
    obtain ⟨q, u, h1, h2, h3, _⟩ := N.cross F w e
    exact (h q u h1 h2 h3).elim
  | some u => exact ⟨u, rfl, N.least a u e v n w⟩
theorem near_first {p : Int} {fr : List Road} (F : Fr p fr) {g : Int} (hg : In p g) : Near p fr g (fun a => if a = g then some 0 else none) := by
  refine ⟨if_pos rfl, fun a v h => ?_, fun a v h => ?_, fun a u h v n w => ?_⟩
  · by_cases k : a = g
    · exact k ▸ hg
    · rw [if_neg k] at h
      cases h
  · by_cases k : a = g
    · rw [if_pos k] at h
      cases h
      exact ⟨0, by rw [k]; exact .nil hg⟩
    · rw [if_neg k] at h
      cases h
  · by_cases k : a = g
    · rw [if_pos k] at h
      cases h
      exact w.nonneg F
    · rw [if_neg k] at h
      cases h
/-- how many places are still without -/
def left (p : Int) (f : Int → Option Int) : Nat := ((List.range p.toNat).filter fun (a : Nat) => (f (a : Int)).isNone).length
theorem left_first {p g : Int} (hg : In p g) : left p (fun a => if a = g then some 0 else none) + 1 = p.toNat := by
  unfold left
  obtain ⟨h0, h1⟩ := hg
  have key : ∀ n : Nat, ((List.range n).filter fun (a : Nat) => (if (a : Int) = g then some (0 : Int) else none).isNone).length + (if g.toNat < n then 1 else 0) = n := by
    intro n
    induction n with
    | zero => rfl
    | succ n ih =>
      rw [List.range_succ, List.filter_append, List.length_append]
      by_cases e : (n : Int) = g
      · have e2 : g.toNat = n := by omega
        rw [List.filter_cons_of_neg (by rw [if_pos e]; decide), List.filter_nil, List.length_nil]
        rw [if_neg (by omega)] at ih
        rw [if_pos (by omega)]
        omega
      · rw [List.filter_cons_of_pos (by rw [if_neg e]; rfl), List.filter_nil, List.length_singleton]
        by_cases k : g.toNat < n
        · rw [if_pos k] at ih
          rw [if_pos (by omega)]
          omega
        · rw [if_neg k] at ih
          rw [if_neg (by omega)]
          omega
  have := key p.toNat
  rw [if_pos (by omega)] at this
  exact this
theorem left_next {p : Int} {f : Int → Option Int} {s d : Int} (hs : In p s) (e : f s = none) : left p (fun a => if a = s then some d else f a) + 1 = left p f := by
  unfold left
  obtain ⟨h0, h1⟩ := hs
  have key : ∀ n : Nat, ((List.range n).filter fun (a : Nat) => (if (a : Int) = s then some d else f a).isNone).length + (if s.toNat < n then 1 else 0) = ((List.range n).filter fun (a : Nat) => (f (a : Int)).isNone).length := by
    intro n
    induction n with
    | zero => rfl
    | succ n ih =>
      rw [List.range_succ, List.filter_append, List.filter_append, List.length_append, List.length_append]
      by_cases k : (n : Int) = s
      · have e2 : s.toNat = n := by omega
        rw [List.filter_cons_of_neg (by rw [if_pos k]; exact Bool.false_ne_true), List.filter_nil, List.length_nil]
        rw [List.filter_cons_of_pos (by rw [k, e]; rfl), List.filter_nil, List.length_singleton]
        rw [if_neg (by omega)] at ih
        rw [if_pos (by omega)]
        omega
      · have e3 : ((if (n : Int) = s then some d else f n).isNone) = (f (n : Int)).isNone := by rw [if_neg k]
        have e4 : (List.filter (fun (a : Nat) => (if (a : Int) = s then some d else f a).isNone) [n]).length = (List.filter (fun (a : Nat) => (f (a : Int)).isNone) [n]).length := by
          rw [List.filter_cons, List.filter_cons, e3]
          cases (f (n : Int)).isNone <;> rfl
        rw [e4]
        by_cases k2 : s.toNat < n
        · rw [if_pos k2] at ih
          rw [if_pos (by omega)]
          omega
        · rw [if_neg k2] at ih
          rw [if_neg (by omega)]
          omega
  have := key p.toNat
  rw [if_pos (by omega)] at this
  exact this

theorem fr_of {p : Int} {rs : List Road} (ok : NetOk p rs) (ms : List Int) : Fr p (freeR ms rs) := by
  have h : ∀ q ∈ freeR ms rs, RoadOk p q := fun q hq => ok.all q (List.mem_filter.mp hq).1
  exact ⟨fun q hq => ⟨(h q hq).o1, by have := (h q hq).o2; omega⟩, fun q hq => ⟨(h q hq).t1, by have := (h q hq).t2; omega⟩, fun q hq => (h q hq).c1⟩
theorem great_dist {p g : Int} {rs : List Road} (ok : NetOk p rs) (ms : List Int) (hg : In p g) : Dist p (freeR ms rs) g (at' (greatest p rs g ms)) := rounds_dist (fr_of ok ms) hg
end Wy

namespace Wy
open PySem PySem.Spec PyProof.Rows L2

section
variable {P : Program} {w : World} {K : PySem.W.Frag} {mg : Str → Option Value} {base : Heap} {f1 f2 f3 f4 f5 : Addr} {d1 d2 d3 d4 d5 : FuncData}
def spP0 : Sp := fun vs H Q _ => ∃ (x r : Addr) (ts : List Addr) (p : Int) (rs : List Road) (a : Int), vs = [.ref x, .int a] ∧ NetAt H x r ts p rs ∧ 0 ≤ a ∧ a ≤ p - 1 ∧ Q .non H
theorem ok_P0 {f : Addr} {fd : FuncData} {k : Nat} (S : Sm K mg f1 f2 f3 f4 f5 d1 d2 d3 d4 d5) (D : Df K mg "check_place" sChkP ["net", "thing"] f fd) : FnOk P w K mg base CX0 (k + 3) f fd ["net", "thing"] spP0 := by
  have G : FnOk P w K mg base CX0 (k + 2) f2 d2 ["thing", "low", "high"] spWithin := ok_within S
  refine D.F.ok scChkP (fun vs H Q E h => ?_) (fun cdv A outer s H vs Q E hr h => ?_)
  · obtain ⟨_, _, _, _, _, _, rfl, _⟩ := h
    rfl
  · obtain ⟨x, r, ts, p, rs, a, rfl, ⟨ea, _, _⟩, a0, a1, q⟩ := h
    refine ⟨_, pss_one (ps_if (pt_not (pt_val (pe_call G hr (by rfl) S.within.g S.within.F.kp S.within.b .nil pass0 (pa_cons (pv 1) (pa_cons pe_int (pa_cons (pe_op op_sub (pe_ix ix_tup (pv 0) pe_int (fun _ _ => rfl)) pe_int) pa_nil)))))) pss_never pss_nil), ?_⟩
    refine ⟨.int a, rfl, .ref x, rfl, x, _, 0, _, rfl, rfl, SqT.of ea, rfl, p, 1, rfl, rfl, .int a, "int", 0, p - 1, rfl, .int _, _, rfl, ?_⟩
    rw [isIn_of a0 a1]
    exact iteF q
theorem scShutQ : FnScope ["net", "goal", "thing", "place"] ["net", "goal", "thing"] (defScope sShutQ) := ⟨rfl, rfl, rfl, by decide +kernel, rfl, by decide +kernel, by decide +kernel⟩
/-- places that may be shut -/
structure ShutOk (p g : Int) (ms : List Int) : Prop where
  inn : ∀ m ∈ ms, 0 ≤ m ∧ m ≤ p - 1 ∧ m ≠ g
  rise : riseB ms = true
  len : ms.length ≤ 1000
def spShut0 (K : PySem.W.Frag) : Sp := fun vs H Q _ => ∃ (x r : Addr) (ts : List Addr) (p : Int) (rs : List Road) (g : Int) (b : Addr) (ms : List Int), vs = [.ref x, .int g, .ref b] ∧ NetAt H x r ts p rs ∧ SqT K H b (ms.map V.int) ∧ ShutOk p g ms ∧ ∀ H', Same H H' → Q .non H'
theorem ok_shut0 {f fR : Addr} {fd dR : FuncData} {k : Nat} (S : Sm K mg f1 f2 f3 f4 f5 d1 d2 d3 d4 d5) (mZ : mg "zip" = none) (DR : Df K mg "is_rising" sRise ["things"] fR dR) (D : Df K mg "check_shut" sShutQ ["net", "goal", "thing"] f fd) : FnOk P w K mg base CX0 (k + 3) f fd ["net", "goal", "thing"] (spShut0 K) := by
  have G : FnOk P w K mg base CX0 (k + 2) f2 d2 ["thing", "low", "high"] spWithin := ok_within S
  have GR : FnOk P w K mg base CX0 (k + 2) fR dR ["things"] (spRise K) := ok_rise (k := k + 1) S.mA mZ DR
  refine D.F.ok scShutQ (fun vs H Q E h => ?_) (fun cdv A outer s H vs Q E hr h => ?_)
  · obtain ⟨_, _, _, _, _, _, _, _, rfl, _⟩ := h
    rfl
  · obtain ⟨a, r, ts, p, rs, g, b, ms, rfl, ⟨ea, _, _⟩, eb, ok, q⟩ := h
    refine ⟨_, pss_cons (ps_if (pt_not (pt_val (pe_callB call_isi (by rfl) S.mi (by decide +kernel) (pa_cons (pv 2) (pa_cons (pe_bltn (v := .ty "tuple") (by rfl) S.mT (by decide +kernel) rfl) pa_nil))))) pss_never pss_nil)
      (pss_cons (ps_if (pt_not (pt_val (pe_callB (cr_all rfl) (by rfl) S.mA (by decide +kernel) (pa_cons
        (pe_lc (own := [("place", 3)]) (g := gName 3) (tt := tYes) rfl scShutQ.nd (pi_tup (pv 2)) (blkOk_by (N := ["net", "goal", "thing", "place"]) (sc := defScope sShutQ) (by decide +kernel))
          (fun _ _ _ _ _ => pg_name (i := 3) scShutQ.nd rfl (.inl rfl)) (fun _ _ _ _ _ => pts_nil)
          (fun _ _ _ _ _ => pe_and (pe_call G hr (by rfl) S.within.g S.within.F.kp S.within.b .nil pass0 (pa_cons (pv 3) (pa_cons pe_int (pa_cons (pe_op op_sub (pe_ix (ix_tupK (K := K) rfl) (pv 0) pe_int (fun _ _ => rfl)) pe_int) pa_nil)))) (pe_one (pe_cmpR op_ne (pv 3) (pv 1) (nomark _))))) pa_nil)))) pss_never pss_nil)
      (pss_one (ps_if (pt_not (pt_val (pe_call GR hr (by rfl) DR.g DR.F.kp DR.b .nil pass0 (pa_cons (pv 2) pa_nil)))) pss_never pss_nil))), ?_⟩
    refine ⟨.ref b, rfl, .ref b, .ty "tuple", .type _, .type "tuple", _, rfl, .ty _, sqt_ty eb, isi_tt, _, rfl, iteF ?_⟩
    refine ⟨.ref b, rfl, b, rfl, ⟨_, eb⟩, fun D nD => ?_⟩
    refine lc_tup (xs := ms.map V.int) (fun j H' => Same H H' ∧ H' D = some (.lst ((List.replicate j true).map V.bl))) ⟨same_new nD, upd_same⟩ (fun j H' _ h => sqt_same eb h.1) (fun j x H' hx h => ?_) (fun H' h => ?_)
    · obtain ⟨sm, eD⟩ := h
      rw [List.getElem?_map] at hx
      obtain ⟨m, e1, rfl⟩ := Option.map_eq_some_iff.mp hx
      have hj := (List.getElem?_eq_some_iff.mp e1).1
      have hl := ok.len
      obtain ⟨m0, m1, m2⟩ := ok.inn m (List.mem_of_getElem? e1)
      refine ⟨rfl, ?_⟩
      unfold tYes
      dsimp only
      rw [if_pos rfl]
      refine ⟨.int m, rfl, .ref a, rfl, a, _, 0, _, rfl, rfl, SqT.of (sm _ _ ea), rfl, p, 1, rfl, rfl, .int m, "int", 0, p - 1, rfl, .int _, _, rfl, ?_⟩
      rw [isIn_of m0 m1]
      refine iteT ⟨.int m, rfl, .int g, rfl, rfl, _, eD, ?_, Same.upd_lst sm nD, ?_⟩
      · rw [List.length_map, List.length_replicate]
        exact small1000 (by omega)
      · rw [upd_same, List.replicate_succ', List.map_append, decide_eq_false (fun z => m2 (V.int.inj z))]
        rfl
    · obtain ⟨sm, eD⟩ := h
      refine ⟨D, _, rfl, SqL.of eD, _, rfl, ?_⟩
      rw [all_yes]
      refine iteF ⟨.ref b, rfl, b, ms, rfl, sqt_same eb sm, ok.len, fun H2 s2 => ⟨_, rfl, ?_⟩⟩
      rw [ok.rise]
      exact iteF (q _ (sm.trans s2))
theorem scPrices : FnScope ["net", "goal", "shut"] ["net", "goal", "shut"] (defScope sPrices) := ⟨rfl, rfl, rfl, by decide +kernel, rfl, by decide +kernel, by decide +kernel⟩
def spPr (K : PySem.W.Frag) : Sp := fun vs H Q _ => ∃ (x r : Addr) (ts : List Addr) (p : Int) (rs : List Road) (g : Int) (b : Addr) (ms : List Int), vs = [.ref x, .int g, .ref b] ∧ NetAt H x r ts p rs ∧ NetOk p rs ∧ 0 ≤ g ∧ g ≤ p - 1 ∧ SqT K H b (ms.map V.int) ∧ ShutOk p g ms ∧
  ∀ H' t, Same H H' → H t = none → H' t = some (.tup ((greatest p rs g ms).map vOpt)) → Q (.ref t) H'
/-- the program's prices, as they stand in the text -/
structure Pt (K : PySem.W.Frag) (mg : Str → Option Value) (fN fP fR fS fF fX fG : Addr) (dN dP dR dS dF dX dG : FuncData) : Prop where
  N : Df K mg "check_net" sChkN ["thing"] fN dN
  P : Df K mg "check_place" sChkP ["net", "thing"] fP dP
  R : Df K mg "is_rising" sRise ["things"] fR dR
  S : Df K mg "check_shut" sShutQ ["net", "goal", "thing"] fS dS
  F : Df K mg "free_roads" sFree ["net", "shut"] fF dF
  X : Df K mg "exceeds" sExc ["own", "cost", "ahead"] fX dX
  G : Df K mg "greatest_prices" sGreat ["net", "goal", "shut"] fG dG
  mZ : mg "zip" = none
  mR : mg "range" = none
variable {fN fP fR fS fF fX fG : Addr} {dN dP dR dS dF dX dG : FuncData}
theorem ok_pr {f : Addr} {fd : FuncData} {k : Nat} (S : Sm K mg f1 f2 f3 f4 f5 d1 d2 d3 d4 d5) (T : Pt K mg fN fP fR fS fF fX fG dN dP dR dS dF dX dG)
    (F : Fun K "prices_of" "prices_of" sPrices f fd) : FnOk P w K mg base CX0 (k + 6) f fd ["net", "goal", "shut"] (spPr K) := by
  have GN : FnOk P w K mg base CX0 (k + 5) fN dN ["thing"] spChkN := ok_chkN S T.N
  have GP : FnOk P w K mg base CX0 (k + 5) fP dP ["net", "thing"] spP0 := ok_P0 (k := k + 2) S T.P
  have GS : FnOk P w K mg base CX0 (k + 5) fS dS ["net", "goal", "thing"] (spShut0 K) := ok_shut0 (k := k + 2) S T.mZ T.R T.S
  have GG : FnOk P w K mg base CX0 (k + 5) fG dG ["net", "goal", "shut"] (spGreat K) := ok_great (k := k + 3) T.mR S.mT T.F T.X T.G
  refine F.ok scPrices (fun vs H Q E h => ?_) (fun cdv A outer s H vs Q E hr h => ?_)
  · obtain ⟨_, _, _, _, _, _, _, _, rfl, _⟩ := h
    rfl
  · obtain ⟨a, r, ts, p, rs, g, b, ms, rfl, hN, ok, g0, g1, eb, sh, q⟩ := h
    refine ⟨_, (pss_cons (ps_expr (pe_call GN hr (by rfl) T.N.g T.N.F.kp T.N.b .nil pass0 (pa_cons (pv 0) pa_nil)))
      (pss_cons (ps_expr (pe_call GP hr (by rfl) T.P.g T.P.F.kp T.P.b .nil pass0 (pa_cons (pv 0) (pa_cons (pv 1) pa_nil))))
      (pss_cons (ps_expr (pe_call GS hr (by rfl) T.S.g T.S.F.kp T.S.b .nil pass0 (pa_cons (pv 0) (pa_cons (pv 1) (pa_cons (pv 2) pa_nil)))))
      (pss_one (ps_ret (pe_call GG hr (by rfl) T.G.g T.G.F.kp T.G.b .nil pass0 (pa_cons (pv 0) (pa_cons (pv 1) (pa_cons (pv 2) pa_nil))))))))), ?_⟩
    have kp : ∀ {H' : Hp}, Same H H' → NetAt H' a r ts p rs := fun sm => hN.keep fun b xs e => sm b _ e
    refine ⟨.ref a, rfl, a, r, ts, p, rs, rfl, hN, ok, fun H1 s1 => ?_⟩
    refine ⟨.ref a, rfl, .int g, rfl, a, r, ts, p, rs, g, rfl, kp s1, g0, g1, ?_⟩
    refine ⟨.ref a, rfl, .int g, rfl, .ref b, rfl, a, r, ts, p, rs, g, b, ms, rfl, kp s1, sqt_same eb s1, sh, fun H2 s2 => ?_⟩
    have s12 := s1.trans s2
    exact ⟨.ref a, rfl, .int g, rfl, .ref b, rfl, a, r, ts, p, rs, g, b, ms, rfl, kp s12, ok, g0, g1, sqt_same eb s12, fun H3 t s3 nt et => q H3 t (s12.trans s3) (s12.free nt) et⟩
end
end Wy

namespace Wy
open PySem PySem.Spec PyProof.Rows L2
abbrev sAlong : Stmt := topS 24
abbrev sCostA : Stmt := topS 23
abbrev sWayOf : Stmt := topS 22
def costOf (qs : List Road) : Int := (qs.map Road.cost).sum
def timeOf (qs : List Road) : Int := (qs.map Road.time).sum
section
variable {P : Program} {w : World} {K : PySem.W.Frag} {mg : Str → Option Value} {base : Heap} {f1 f2 f3 f4 f5 : Addr} {d1 d2 d3 d4 d5 : FuncData}
theorem scAlong : FnScope ["net", "place", "thing", "roads", "along", "number"] ["net", "place", "thing"] (defScope sAlong) := ⟨rfl, rfl, rfl, by decide +kernel, rfl, by decide +kernel, by decide +kernel⟩
def spAlong : Sp := fun vs H Q _ => ∃ (a r : Addr) (ts : List Addr) (p : Int) (rs : List Road) (here : Int) (v : V) (o : Option (List V)), vs = [.ref a, .int here, v] ∧ NetAt H a r ts p rs ∧ NetOk p rs ∧ Wh H v o ∧
  (goesO rs here o = none → ∀ H', Same H H' → Q .non H') ∧
  (∀ qs, goesO rs here o = some qs → ∀ H' l, Same H H' → H l = none → H' l = some (.lst ((metOf here qs).map V.int)) → Q (.ref l) H')
theorem scRoadOf : FnScope ["net", "thing"] ["net", "thing"] (defScope sRoadOf) := ⟨rfl, rfl, rfl, by decide +kernel, rfl, by decide +kernel, by decide +kernel⟩
def spRoadOf : Sp := fun vs H Q _ => ∃ (a r : Addr) (xs : List V) (p v : V) (n : String), vs = [.ref a, v] ∧ H a = some (.tup [p, .ref r]) ∧ H r = some (.tup xs) ∧ Tg H v n ∧ Q (.bl (isIn v 0 ((xs.length : Int) - 1))) H
theorem ok_roadOf {f : Addr} {fd : FuncData} {k : Nat} (S : Sm K mg f1 f2 f3 f4 f5 d1 d2 d3 d4 d5) (D : Df K mg "is_road_of" sRoadOf ["net", "thing"] f fd) : FnOk P w K mg base CX0 (k + 3) f fd ["net", "thing"] spRoadOf := by
  have G : FnOk P w K mg base CX0 (k + 2) f2 d2 ["thing", "low", "high"] spWithin := ok_within S
  refine D.F.ok scRoadOf (fun vs H Q E h => ?_) (fun cdv A outer s H vs Q E hr h => ?_)
  · obtain ⟨_, _, _, _, _, _, rfl, _⟩ := h
    rfl
  · obtain ⟨a, r, xs, p, v, n, rfl, ea, er, t, q⟩ := h
    refine ⟨_, pss_one (ps_ret (pe_call G hr (by rfl) S.within.g S.within.F.kp S.within.b .nil pass0 (pa_cons (pv 1) (pa_cons pe_int (pa_cons (pe_op op_sub (pe_callB call_len_seq (by rfl) S.ml PySem.boot_len (pa_cons (pe_ix ix_tup (pv 0) pe_int (fun _ _ => rfl)) pa_nil)) pe_int) pa_nil))))), ?_⟩
    exact ⟨v, rfl, .ref a, rfl, a, _, 1, _, rfl, rfl, SqT.of ea, rfl, r, _, rfl, .inr (SqT.of er), _, 1, rfl, rfl, v, n, 0, _, rfl, t, q⟩
theorem ok_along {f : Addr} {fd : FuncData} {k : Nat} (S : Sm K mg f1 f2 f3 f4 f5 d1 d2 d3 d4 d5) (D : Df K mg "places_along" sAlong ["net", "place", "thing"] f fd) : FnOk P w K mg base CX0 (k + 4) f fd ["net", "place", "thing"] spAlong := by
  obtain ⟨fO, dO, DO⟩ := S.roadOf
  have GO : FnOk P w K mg base CX0 (k + 3) fO dO ["net", "thing"] spRoadOf := ok_roadOf S DO
  refine D.F.ok scAlong (fun vs H Q E h => ?_) (fun cdv A outer s H vs Q E hr h => ?_)
  · obtain ⟨_, _, _, _, _, _, _, _, rfl, _⟩ := h
    rfl
  · obtain ⟨a, r, ts, p, rs, here, v, o, rfl, ⟨ea, er, et⟩, ok, wh, qN, qS⟩ := h
    refine ⟨_, pss_cons (ps_if (pt_not (pt_val (pe_callB call_isi (by rfl) S.mi (by decide +kernel) (pa_cons (pv 2) (pa_cons (pe_bltn (v := .ty "tuple") (by rfl) S.mT (by decide +kernel) rfl) pa_nil))))) (pss_one (ps_ret pe_non)) pss_nil)
      (pss_cons (ps_set (i := 3) scAlong.nd rfl (.inl rfl) (pe_ix ix_tup (pv 0) pe_int (fun _ _ => rfl)))
      (pss_cons (ps_set (i := 4) scAlong.nd rfl (.inl rfl) (pe_lst (pa_cons (pv 1) pa_nil)))
      (pss_cons (ps_for PassesOwn.never rfl (pi_tup (pv 2)) (pg_name (i := 5) scAlong.nd rfl (.inl rfl))
        (pss_cons (ps_if (pt_not (pt_val (pe_call GO hr (by rfl) DO.g DO.F.kp DO.b .nil pass0 (pa_cons (pv 0) (pa_cons (pv 5) pa_nil))))) (pss_one (ps_ret pe_non)) pss_nil)
        (pss_cons (ps_if (pt_cmpR op_ne (pe_ix ix_tup (pe_ix ix_tup (pv 3) (pv 5) (fun _ _ => rfl)) pe_int (fun _ _ => rfl)) (pe_ix ix_list (pv 4) (pe_un un_neg pe_int) (fun _ _ => rfl)) (nomark _)) (pss_one (ps_ret pe_non)) pss_nil)
        (pss_one (ps_expr (pe_bm PySem.F.plainAttrs_list PySem.F.slot_list_append PySem.F.type_list_append mt_append (pv 4) (pa_cons (pe_ix ix_tup (pe_ix ix_tup (pv 3) (pv 5) (fun _ _ => rfl)) pe_int (fun _ _ => rfl)) pa_nil)))))))
      (pss_one (ps_ret (pv 4)))))), ?_⟩
    cases wh with
    | oth t hn =>
      rename_i n
      refine ⟨v, rfl, v, .ty "tuple", .type n, .type "tuple", (n == "tuple"), rfl, .ty _, t.tyx, isi_tuple t, _, rfl, ?_⟩
      rw [hn]
      exact iteT (qN rfl H (Same.refl H))
    | tup eb hall hlen =>
      rename_i b xs
      have t : Tg H (.ref b) "tuple" := .tup eb
      refine ⟨.ref b, rfl, .ref b, .ty "tuple", .type "tuple", .type "tuple", true, rfl, .ty _, t.tyx, isi_tuple t, _, rfl, iteF ?_⟩
      refine ⟨.ref a, rfl, a, _, 1, _, rfl, rfl, SqT.of ea, rfl, ?_⟩
      refine ⟨.int here, rfl, by show 1 ≤ sizeLine; decide, fun l hl => ?_⟩
      have s0 : Same H (upd H l (.lst [.int here])) := same_new hl
      refine ⟨.ref b, rfl, b, rfl, ⟨_, SqT.of (s0 _ _ eb)⟩, ?_⟩
      refine for_tup (xs := xs) (fun i σ H' => ∃ y5, σ = [some (.ref a), some (.int here), some (.ref b), some (.ref r), some (.ref l), y5] ∧ Same H H' ∧ ∃ qs, goes rs here (xs.take i) = some qs ∧ H' l = some (.lst ((metOf here qs).map V.int)))
        ⟨none, rfl, s0, [], rfl, upd_same⟩ (fun i σ H' _ h => ?_) (fun i x σ H' hx h => ?_) (fun σ H' h => ?_)
      · obtain ⟨_, _, sm, _⟩ := h
        exact SqT.of (sm _ _ eb)
      · obtain ⟨y5, rfl, sm, qs, eg, el⟩ := h
        obtain ⟨n, tx⟩ := hall x (List.mem_of_getElem? hx)
        have er' := sm _ _ er
        have lts : ((ts.map V.ref).length : Int) = (rs.length : Int) := by rw [List.length_map, et.len]
        refine ⟨.ref a, rfl, x, rfl, a, r, _, .int p, x, n, rfl, sm _ _ ea, er', tx.keep sm, _, rfl, ?_⟩
        rw [lts]
        cases ei : isIn x 0 ((rs.length : Int) - 1) with
        | false =>
          refine iteT ?_
          exact qN (goes_stop rs hx eg (step_out rs ei)) _ sm
        | true =>
          refine iteF ?_
          obtain ⟨j, rfl, h1, h2⟩ := isIn_true ei
          obtain ⟨m, rfl⟩ := Int.eq_ofNat_of_zero_le h1
          have hm : m < rs.length := by omega
          obtain ⟨t', rd, e1, e2, e3⟩ := road_at et hm
          have e3' := sm _ _ e3
          refine ⟨.ref r, rfl, .int m, rfl, r, _, m, .ref t', rfl, rfl, SqT.of er', atI_nat (ref_at e1), t', _, 0, _, rfl, rfl, SqT.of e3', rfl, .ref l, rfl, 1, rfl, l, _, -1, _, rfl, rfl, SqL.of el, met_last here qs, rfl, _, rfl, ?_⟩
          have hs := step_int rs (here := lastOf here qs) e2
          refine ite2 (fun c => ?_) (fun c => ?_)
          · have c' : ¬ (rd.one = lastOf here qs) := fun z => by
              rw [z] at c
              simp at c
            rw [if_neg c'] at hs
            exact qN (goes_stop rs hx eg hs) _ sm
          · have c' : rd.one = lastOf here qs := by
              have c2 : (!decide (V.int rd.one = V.int (lastOf here qs))) = false := Bool.eq_false_iff.mpr c
              rw [Bool.not_eq_false', decide_eq_true_eq] at c2
              exact V.int.inj c2
            rw [if_pos c'] at hs
            have lq := goes_len rs eg
            have ll : ((metOf here qs).map V.int).length < sizeLine := by
              rw [List.length_map, met_len, lq, List.length_take]
              exact Nat.lt_of_le_of_lt (Nat.add_le_add_right (Nat.min_le_right _ _) 1) (Nat.lt_of_le_of_lt (Nat.add_le_add_right hlen 1) (by decide))
            refine ⟨.ref l, rfl, .inl ⟨rfl, _, SqL.of el⟩, .ref r, rfl, .int m, rfl, r, _, m, .ref t', rfl, rfl, SqT.of er', atI_nat (ref_at e1), t', _, 1, _, rfl, rfl, SqT.of e3', rfl, l, _, _, rfl, rfl, el, ll, ?_⟩
            refine ⟨some (.int m), rfl, Same.upd_lst sm hl, qs ++ [rd], goes_go rs hx eg hs, ?_⟩
            rw [upd_same, met_snoc, List.map_append]
            rfl
      · obtain ⟨y5, rfl, sm, qs, eg, el⟩ := h
        rw [List.take_length] at eg
        exact ⟨.ref l, rfl, qS qs eg H' l sm hl el⟩
theorem scCostA : FnScope ["net", "way", "number"] ["net", "way"] (defScope sCostA) := ⟨rfl, rfl, rfl, by decide +kernel, rfl, by decide +kernel, by decide +kernel⟩
def spCostA : Sp := fun vs H Q _ => ∃ (a r b : Addr) (ts : List Addr) (p : Int) (rs qs : List Road) (here : Int) (xs : List V), vs = [.ref a, .ref b] ∧ NetAt H a r ts p rs ∧ H b = some (.tup xs) ∧ xs.length ≤ 1000 ∧ goes rs here xs = some qs ∧ ∀ H', Same H H' → Q (.int (costOf qs)) H'
theorem ok_costA {f : Addr} {fd : FuncData} {k : Nat} (mS : mg "sum" = none) (D : Df K mg "cost_along" sCostA ["net", "way"] f fd) : FnOk P w K mg base CX0 (k + 1) f fd ["net", "way"] spCostA := by
  refine D.F.ok scCostA (fun vs H Q E h => ?_) (fun cdv A outer s H vs Q E hr h => ?_)
  · obtain ⟨_, _, _, _, _, _, _, _, _, rfl, _⟩ := h
    rfl
  · obtain ⟨a, r, b, ts, p, rs, qs, here, xs, rfl, hN, eb, hlen, eg, q⟩ := h
    refine ⟨_, pss_one (ps_ret (pe_callB (cr_sum rfl) (by rfl) mS (by decide +kernel) (pa_cons
          (pe_lc (own := [("number", 2)]) (g := gName 2) (tt := tYes) rfl scCostA.nd (pi_tup (pv 1)) (blkOk_by (N := ["net", "way", "number"]) (sc := defScope sCostA) (by decide +kernel))
            (fun _ _ _ _ _ => pg_name (i := 2) scCostA.nd rfl (.inl rfl)) (fun _ _ _ _ _ => pts_nil) (fun _ _ _ _ _ => pe_ix (ix_tupK (K := K) rfl) (pe_ix (ix_tupK (K := K) rfl) (pe_ix (ix_tupK (K := K) rfl) (pv 0) pe_int (fun _ _ => rfl)) (pv 2) (fun _ _ => rfl)) pe_int (fun _ _ => rfl))) pa_nil))), ?_⟩
    have lq := goes_len rs eg
    obtain ⟨ea, er, et⟩ := hN
    refine ⟨.ref b, rfl, b, rfl, ⟨_, SqT.of eb⟩, fun D nD => ?_⟩
    refine lc_tup (xs := xs) (fun i H' => Same H H' ∧ H' D = some (.lst (((qs.map Road.cost).take i).map V.int))) ⟨same_new nD, upd_same⟩ (fun i H' _ h => SqT.of (h.1 _ _ eb)) (fun i x H' hx h => ?_) (fun H3 h => ?_)
    · obtain ⟨sm, eD⟩ := h
      obtain ⟨m, rd, rfl, e1, e2⟩ := goes_at rs eg hx
      obtain ⟨t', rd', f1, f2, f3⟩ := road_at et (List.getElem?_eq_some_iff.mp e1).1
      rw [e1] at f2
      cases f2
      refine ⟨rfl, ?_⟩
      unfold tYes
      dsimp only
      rw [if_pos rfl]
      refine ⟨.ref a, rfl, a, _, 1, _, rfl, rfl, SqT.of (sm _ _ ea), rfl, .int m, rfl, r, _, m, .ref t', rfl, rfl, SqT.of (sm _ _ er), atI_nat (ref_at f1), t', _, 2, _, rfl, rfl, SqT.of (sm _ _ f3), rfl, _, eD, ?_, Same.upd_lst sm nD, ?_⟩
      · rw [List.length_map, List.length_take, List.length_map]
        exact small1000 (Nat.le_trans (Nat.min_le_right _ _) (by rw [lq]; exact hlen))
      · rw [upd_same, List.take_add_one, List.getElem?_map, e2, List.map_append]
        rfl
    · obtain ⟨s3, eD⟩ := h
      rw [List.take_of_length_le (by rw [List.length_map]; omega)] at eD
      exact ⟨D, _, rfl, SqL.of eD, q H3 s3⟩
theorem scWayOf : FnScope ["net", "place", "thing", "along", "number"] ["net", "place", "thing"] (defScope sWayOf) := ⟨rfl, rfl, rfl, by decide +kernel, rfl, by decide +kernel, by decide +kernel⟩
def spWay0 : Sp := fun vs H Q _ => ∃ (a r : Addr) (ts : List Addr) (p : Int) (rs : List Road) (here : Int) (v : V) (o : Option (List V)), vs = [.ref a, .int here, v] ∧ NetAt H a r ts p rs ∧ NetOk p rs ∧ 0 ≤ here ∧ here ≤ p - 1 ∧ Wh H v o ∧
  (goesO rs here o = none → ∀ H', Same H H' → Q .non H') ∧
  (∀ qs, goesO rs here o = some qs → ∀ H' t, Same H H' → H t = none → H' t = some (.tup [.int (lastOf here qs), .int (costOf qs), .int (timeOf qs)]) → Q (.ref t) H')
theorem ok_way0 {f fN fP fC fA : Addr} {fd dN dP dC dA : FuncData} {k : Nat} (S : Sm K mg f1 f2 f3 f4 f5 d1 d2 d3 d4 d5) (DN : Df K mg "check_net" sChkN ["thing"] fN dN) (DP : Df K mg "check_place" sChkP ["net", "thing"] fP dP) (DC : Df K mg "cost_along" sCostA ["net", "way"] fC dC) (DA : Df K mg "places_along" sAlong ["net", "place", "thing"] fA dA)
    (D : Df K mg "way_of" sWayOf ["net", "place", "thing"] f fd) : FnOk P w K mg base CX0 (k + 6) f fd ["net", "place", "thing"] spWay0 := by
  have GN : FnOk P w K mg base CX0 (k + 5) fN dN ["thing"] spChkN := ok_chkN S DN
  have GP : FnOk P w K mg base CX0 (k + 5) fP dP ["net", "thing"] spP0 := ok_P0 (k := k + 2) S DP
  have GA : FnOk P w K mg base CX0 (k + 5) fA dA ["net", "place", "thing"] spAlong := ok_along (k := k + 1) S DA
  have GC : FnOk P w K mg base CX0 (k + 5) fC dC ["net", "way"] spCostA := ok_costA (k := k + 4) S.mS DC
  refine D.F.ok scWayOf (fun vs H Q E h => ?_) (fun cdv A outer s H vs Q E hr h => ?_)
  · obtain ⟨_, _, _, _, _, _, _, _, rfl, _⟩ := h
    rfl
  · obtain ⟨a, r, ts, p, rs, here, v, o, rfl, hN, ok, h0, h1, wh, qN, qS⟩ := h
    refine ⟨_, pss_cons (ps_expr (pe_call GN hr (by rfl) DN.g DN.F.kp DN.b .nil pass0 (pa_cons (pv 0) pa_nil)))
      (pss_cons (ps_expr (pe_call GP hr (by rfl) DP.g DP.F.kp DP.b .nil pass0 (pa_cons (pv 0) (pa_cons (pv 1) pa_nil))))
      (pss_cons (ps_set (i := 3) scWayOf.nd rfl (.inl rfl) (pe_call GA hr (by rfl) DA.g DA.F.kp DA.b .nil pass0 (pa_cons (pv 0) (pa_cons (pv 1) (pa_cons (pv 2) pa_nil)))))
      (pss_cons (ps_if (pt_cmpR op_isN (pv 3) pe_non (nomark _)) (pss_one (ps_ret pe_non)) pss_nil)
      (pss_one (ps_ret (pe_tup (pa_cons (pe_ix ix_list (pv 3) (pe_un un_neg pe_int) (fun _ _ => rfl))
        (pa_cons (pe_call GC hr (by rfl) DC.g DC.F.kp DC.b .nil pass0 (pa_cons (pv 0) (pa_cons (pv 2) pa_nil)))
        (pa_cons (pe_callB (cr_sum rfl) (by rfl) S.mS (by decide +kernel) (pa_cons
          (pe_lc (own := [("number", 4)]) (g := gName 4) (tt := tYes) rfl scWayOf.nd (pi_tup (pv 2)) (blkOk_by (N := ["net", "place", "thing", "along", "number"]) (sc := defScope sWayOf) (by decide +kernel))
            (fun _ _ _ _ _ => pg_name (i := 4) scWayOf.nd rfl (.inl rfl)) (fun _ _ _ _ _ => pts_nil) (fun _ _ _ _ _ => pe_ix (ix_tupK (K := K) rfl) (pe_ix (ix_tupK (K := K) rfl) (pe_ix (ix_tupK (K := K) rfl) (pv 0) pe_int (fun _ _ => rfl)) (pv 4) (fun _ _ => rfl)) pe_int (fun _ _ => rfl))) pa_nil)) pa_nil))))))))), ?_⟩
    have kp : ∀ {H' : Hp}, Same H H' → NetAt H' a r ts p rs := fun sm => hN.keep fun b xs e => sm b _ e
    refine ⟨.ref a, rfl, a, r, ts, p, rs, rfl, hN, ok, fun H1 s1 => ?_⟩
    refine ⟨.ref a, rfl, .int here, rfl, a, r, ts, p, rs, here, rfl, kp s1, h0, h1, ?_⟩
    refine ⟨.ref a, rfl, .int here, rfl, v, rfl, a, r, ts, p, rs, here, v, o, rfl, kp s1, ok, wh.keep s1, fun eg H2 s2 => ?_, fun qs eg H2 l s2 nl el => ?_⟩
    · refine ⟨.non, rfl, rfl, _, rfl, iteT ?_⟩
      exact qN eg H2 (s1.trans s2)
    · have s12 := s1.trans s2
      refine ⟨.ref l, rfl, rfl, _, rfl, iteF ?_⟩
      cases wh with
      | oth t hn => cases eg
      | tup eb hall hlen =>
        rename_i b xs
        have eg : goes rs here xs = some qs := eg
        have lq := goes_len rs eg
        have nl : H l = none := s1.free nl
        refine ⟨.ref l, rfl, 1, rfl, l, _, -1, _, rfl, rfl, SqL.of el, met_last here qs, ?_⟩
        refine ⟨.ref a, rfl, .ref b, rfl, a, r, b, ts, p, rs, qs, here, xs, rfl, kp s12, s12 _ _ eb, hlen, eg, fun H3 s3 => ?_⟩
        obtain ⟨ea, er, et⟩ := kp (s12.trans s3)
        have s13 := s12.trans s3
        refine ⟨.ref b, rfl, b, rfl, ⟨_, SqT.of (s13 _ _ eb)⟩, fun D nD => ?_⟩
        refine lc_tup (xs := xs) (fun i H' => Same H3 H' ∧ H' D = some (.lst (((qs.map Road.time).take i).map V.int))) ⟨same_new nD, upd_same⟩ (fun i H' _ h => SqT.of (h.1 _ _ (s13 _ _ eb))) (fun i x H' hx h => ?_) (fun H4 h => ?_)
        · obtain ⟨sm, eD⟩ := h
          obtain ⟨m, rd, rfl, e1, e2⟩ := goes_at rs eg hx
          obtain ⟨t', rd', f1, f2, f3⟩ := road_at et (List.getElem?_eq_some_iff.mp e1).1
          rw [e1] at f2
          cases f2
          refine ⟨rfl, ?_⟩
          unfold tYes
          dsimp only
          rw [if_pos rfl]
          refine ⟨.ref a, rfl, a, _, 1, _, rfl, rfl, SqT.of (sm _ _ ea), rfl, .int m, rfl, r, _, m, .ref t', rfl, rfl, SqT.of (sm _ _ er), atI_nat (ref_at f1), t', _, 3, _, rfl, rfl, SqT.of (sm _ _ f3), rfl, _, eD, ?_, Same.upd_lst sm nD, ?_⟩
          · rw [List.length_map, List.length_take, List.length_map]
            exact small1000 (Nat.le_trans (Nat.min_le_right _ _) (by rw [lq]; exact hlen))
          · rw [upd_same, List.take_add_one, List.getElem?_map, e2, List.map_append]
            rfl
        · obtain ⟨s4, eD⟩ := h
          rw [List.take_of_length_le (by rw [List.length_map]; omega)] at eD
          refine ⟨D, _, rfl, SqL.of eD, by show 3 ≤ sizeLine; decide, fun t nt => ?_⟩
          have s15 := s13.trans s4
          exact qS qs eg _ t (s15.trans (same_new nt)) (s15.free nt) upd_same
end
end Wy

namespace Wy
open PySem PySem.Spec PyProof.Rows L2
section
open AutoSeq1 (wpAny_loadPart')
/-! ### enumerate over a tuple -/
abbrev oTupIt (l : Addr) : Obj := { cls := .type "tuple_iterator", data := .fields #[.ref l, .int 0 0] }
abbrev oEnum (j : Addr) : Obj := { cls := .type "enumerate", data := .fields #[.none, .bool false, .ref j, rawInt 0, .none, .none] }
theorem meets_enum_tup (l : Addr) (its : Array Value) (n : Nat) (dc : Option Addr) (sl : Array (Option Value)) :
    Meets (Builtin.«enumerate.__new__» ⟨[.type "enumerate", .ref l], []⟩) (fun _ R s => s.heap.get? l = some { cls := .type "tuple", dict := dc, data := .seq its n, slots := sl } ∧
      R (.ok (.ret (.ref (s.heap.push (oTupIt l)).objs.size))) { s with heap := (s.heap.push (oTupIt l)).push (oEnum s.heap.objs.size) }) :=
  .of_wp fun prog w A R s h => by
    obtain ⟨hp, g, d, tk, os⟩ := s
    obtain ⟨hl, h⟩ := h
    have hsub := sub_enumerate
    have hT : Heap.IsTuple (Shared.heap ⟨hp, g, d, tk, os⟩) l its := ⟨_, hl, rfl, n, rfl⟩
    wp_walk using wpAny_loadPart' hl
    refine wpAny_stack_any fun st => wpAny_pure ?_
    split
    · rename_i c _ _ _ _ _
      cases (c == Value.type "enumerate") <;> (wp_walk using wpAny_loadPart' hl, wpAny_pyIter_tuple hT; exact ⟨_, rfl, h⟩)
    · wp_walk using wpAny_loadPart' hl, wpAny_pyIter_tuple hT
      exact ⟨_, rfl, h⟩
end
theorem call_enum_tup {prog : Program} {w : World} {A : Around} {E : Value → Shared → Prop} {s : Shared} {l : Addr} {its : Array Value} {Q : Value → Shared → Prop} (hT : s.heap.IsTuple l its)
    (h : ∀ h', IsEnum h' (s.heap.objs.size + 1) s.heap.objs.size 0 .none → h'.IsTupleIter s.heap.objs.size l 0 → h'.objs.size = s.heap.objs.size + 2 → (∀ b o, s.heap.get? b = some o → h'.get? b = some o) → Q (.ref (s.heap.objs.size + 1)) { s with heap := h' }) :
    wpAny (model prog w) A (call (.type "enumerate") [.ref l]) Q E s := by
  obtain ⟨⟨c, dc, dt, sl⟩, hl, hc, n, hd⟩ := hT
  replace hc : c = .type "tuple" := hc
  replace hd : dt = .seq its n := hd
  subst hc hd
  refine callType_new F.called_enumerate (by decide) (F.typeCall_enumerate_1 _) (F.newCall_enumerate_1 _) (fun obj => F.args_object_init_2 obj _) F.entry_enumerate_new (meets_enum_tup l its n dc sl) ⟨hl, ?_⟩
  have hz : (s.heap.push (oTupIt l)).objs.size = s.heap.objs.size + 1 := Heap.size_push ..
  show _ ∧ _
  rw [hz]
  have he : IsEnum ((s.heap.push (oTupIt l)).push (oEnum s.heap.objs.size)) (s.heap.objs.size + 1) s.heap.objs.size 0 .none := by
    have z := Heap.get?_push_size (s.heap.push (oTupIt l)) (o := oEnum s.heap.objs.size) rfl
    rw [hz] at z
    exact z
  exact ⟨⟨_, he, rfl⟩, h _ he ⟨_, Heap.get?_push_of_some _ (Heap.get?_push_size _ rfl), rfl, rfl⟩ (by rw [Heap.size_push, hz]) fun b o x => Heap.get?_push_of_some _ (Heap.get?_push_of_some _ x)⟩
/-- the tuple at a as it stands, its items in new pairs with their numbers -/
def ItT (K : PySem.W.Frag) (a : Addr) : It :=
  ⟨fun i H => ∃ (xs : List V) (x : V), SqT K H a xs ∧ xs[i]? = some x,
    fun i H v G => ∃ T x, v = .ref T ∧ H T = none ∧ G = upd H T (.tup [.int (i : Nat), x]) ∧ ∀ xs, SqT K H a xs → xs[i]? = some x,
    fun i H => ∃ xs : List V, SqT K H a xs ∧ xs.length ≤ i⟩
theorem turn_enumT {P : Program} {w : World} {K : PySem.W.Frag} {elts : List Expr} {kk : Nat} {tp : Pos} (a e it : Addr) (hae : e ≠ a) (hai : a ≠ it) :
    Turn P w K (.Tuple elts kk tp) (ItT K a) [e, it] e (fun i h => (∃ old, IsEnum h e it ((i : Nat) : Int) old) ∧ h.IsTupleIter it a i ∧ e ≠ it) where
  mem := by simp
  obj := fun i h st b hb => by
    obtain ⟨⟨old, he⟩, ⟨o, ho, hc, hd⟩, _⟩ := st
    rcases List.mem_cons.mp hb with z | z
    · rw [z]
      exact ⟨_, he, fun v q => nomatch q⟩
    · rw [List.mem_singleton.mp z]
      exact ⟨o, ho, fun v q => by rw [hd] at q; cases q⟩
  keep := fun i h h' st k => let ⟨⟨old, he⟩, hi, ne⟩ := st; ⟨⟨old, k e (by simp) _ he⟩, hi.at fun o q => k it (by simp) o q, ne⟩
  item := by
    intro X hP hw hK hc i pins s σ H E I hf st hg
    subst hP hw hK
    obtain ⟨⟨old, he⟩, hit, ne⟩ := st
    obtain ⟨xs, x, hq, hx⟩ := hg
    obtain ⟨its, rv, p, hz⟩ := I.tuple hq
    obtain ⟨u, hu, ru⟩ := rv.get hx
    have hT : s.heap.IsTuple a its.toArray := p
    have hel : e < s.heap.objs.size := Heap.lt_size he
    have hil : it < s.heap.objs.size := by
      obtain ⟨_, q, _⟩ := hit
      exact Heap.lt_size q
    have hi : i < its.toArray.size := by
      rw [List.size_toArray]
      exact (List.getElem?_eq_some_iff.mp hu).1
    have nf : e ∉ [it, a] := fun z => by
      rcases List.mem_cons.mp z with q | q
      · exact ne q
      · exact hae (List.mem_singleton.mp q)
    refine wpAny_pyNext_enum_itemD (Draws.tuple (A := X.A.in1) (show X.A.in1.handled = none from I.ok.hd hc) it a hai its.toArray) he ⟨hit, hT⟩ hi ne nf fun y h' tk hP ho hst' hTn hsz hk => ?_
    have ey : y = u := by
      have h1 : its[i]? = some y := by simpa using hP
      rw [hu] at h1
      exact (Option.some.inj h1).symm
    subst ey
    refine ⟨_, rfl, wpAny_letOwnedTupleGo_enum (s := { s with heap := h', toks := tk + 1 }) ho fun h2 he' sb => ?_⟩
    have hT2 : h2.get? s.heap.objs.size = some { cls := .type "tuple", data := .seq #[.int i tk, y] } := (sb.2 _ (Nat.ne_of_gt hel)).trans hTn
    have new : ObjOk X.prog X.w (upd H s.heap.objs.size (.tup [.int (i : Nat), x])) h2 s.heap.objs.size (.tup [.int (i : Nat), x]) :=
      ⟨by show 2 ≤ sizeLine; decide, [.int i tk, y], .cons ⟨_, rfl⟩ (.cons ru .nil), ⟨_, hT2, rfl, _, rfl⟩⟩
    have J : Inv X pins σ (upd H s.heap.objs.size (.tup [.int (i : Nat), x])) { s with heap := h2, toks := tk + 1 } :=
      I.turnedNew (ch := [e, it]) (fun b ob hb q => (sb.2 b (fun z => hb (by simp [z]))).trans (hk b ob (fun z => hb (by simp [z])) (fun z => hb (by simp [z])) q)) hf (Nat.le_refl _) new
    refine ⟨.ref s.heap.objs.size, _, J, rfl, ⟨_, x, rfl, I.hok.fresh (Nat.le_refl _), rfl, fun ys hy => by rw [I.tuple_inj hy hq]; exact hx⟩, ⟨⟨y, ?_⟩, hst'.1.at fun o q => (sb.2 it (Ne.symm ne)).trans q, ne⟩, fun b hb => ?_⟩
    · have z : ((i + 1 : Nat) : Int) = (i : Int) + 1 := by omega
      rw [z]
      exact he'
    · have hb' : b < s.heap.objs.size := by
        rcases List.mem_cons.mp hb with z | z
        · rw [z]
          exact hel
        · rw [List.mem_singleton.mp z]
          exact hil
      rw [upd_ne (Nat.ne_of_lt hb')]
      exact (hf b hb).1
  done := by
    intro X hP hw hK hc i pins s σ H E I hf st hg
    subst hP hw hK
    obtain ⟨⟨old, he⟩, hit, ne⟩ := st
    obtain ⟨xs, hq, hx⟩ := hg
    obtain ⟨its, rv, p, hz⟩ := I.tuple hq
    obtain ⟨g0, g1, g2, g3, g4, g5⟩ := hf it (by simp)
    have hT : s.heap.IsTuple a its.toArray := p
    have hl := rv.length
    have T : s.TypeIs (.ref e) "enumerate" := ⟨_, he, rfl⟩
    unfold pyNext
    refine wpAny_bind (wpAny_attempt (wpAny_callSpecial?_slot (name := Str.ofString "__next__") T F.slot_enumerate_next (wpAny_call_entry F.slot_enumerate_next T F.entry_enumerate_next ?_ (F.args_enumerate_next_1 _))))
    show wpAny _ _ (PySem.field (.ref e) 2 >>= _) _ _ _
    refine wpAny_bind (wpAny_field he rfl (x := .ref it) rfl ?_)
    refine wpAny_bind (wpAny_nextOf_tuple_end (I.ok.hd hc) hit hT (by simp; omega) fun h' x eb hx' => ?_)
    obtain ⟨o, ho, hcl⟩ := hx'
    refine wpAny_bind (wpAny_isInstance (T := "StopIteration") (b := true) ⟨o, ho, hcl⟩ isSubtype_stop ?_)
    exact wpAny_pure ⟨rfl, I.turned (t' := s.toks) (fun b o hb q => eb b o hb q) g0 g1 g3 g4 g5⟩
  self := fun A i s Q E st h => let ⟨⟨_, he⟩, _⟩ := st; wpAny_pyIter_enum he h
def iEnumT (K : PySem.W.Frag) (ta : TA) : TI := fun σ H R => ta σ H fun vs G => ∃ a xs, vs = [.ref a] ∧ SqT K G a xs ∧ R (ItT K a) G
theorem pi_enumT {X : Cx} {e : Expr} {ta : TA} {p pos tp : Pos} {elts : List Expr} {kk : Nat} (ge : Gl X "enumerate") (me : X.mg "enumerate" = none) (ha : PA X [e] ta) (hs : starEach [e] X.env = [(false, eval e X.env)] := by rfl) :
    PI X (.Tuple elts kk tp) (.Call (.Name "enumerate" p) [e] [] pos) (iEnumT X.K ta) := by
  refine ⟨fun pins s σ H R I h => ?_⟩
  refine PyProof.Rows.Call_ (ld_blt I ge me boot_enumerate (PyProof.Rows.callWith_type1 (thn (ha.run pos pins s σ H _ I h) fun us t ⟨vs, G, J, rr, hx⟩ => ?_) hs rfl))
  obtain ⟨a, xs, ex, hq, q⟩ := hx
  subst ex
  cases rr with
  | cons r r2 =>
    cases r2
    cases r
    obtain ⟨its, rv, pl, hz⟩ := J.tuple hq
    have hT : t.heap.IsTuple a its.toArray := pl
    have hlt : a < t.heap.objs.size := by
      obtain ⟨_, z, _⟩ := hT
      exact Heap.lt_size z
    refine call_enum_tup hT fun h' he hit hsz hk => wpAny_pyIter_enum he ?_
    have J2 : Inv X pins σ G { t with heap := h' } := J.kept (t' := t.toks) hk
    refine ⟨t.heap.objs.size + 1, [t.heap.objs.size + 1, t.heap.objs.size], _, _, G, rfl, J2, turn_enumT a (t.heap.objs.size + 1) t.heap.objs.size (Nat.ne_of_gt (Nat.lt_succ_of_lt hlt)) (Nat.ne_of_lt hlt), ⟨⟨.none, he⟩, hit, Nat.succ_ne_self _⟩, fun b hb => ?_, q⟩
    have hle : t.heap.objs.size ≤ b := by
      rcases List.mem_cons.mp hb with z | z
      · rw [z]
        exact Nat.le_add_right _ _
      · rw [List.mem_singleton.mp z]
        exact Nat.le_refl _
    exact J.fpOk hle (J.hok.fresh hle)
end Wy

namespace Wy
open PySem PySem.Spec PyProof.Rows L2
abbrev sWalk : Stmt := topS 42
theorem lc_enumT {K : PySem.W.Frag} {a D : Addr} {xs : List V} {g : TG} {tt : TT} {te : TE} {own : List Nat} {σ : L2.St} {G : Hp} {fin : Hp → Prop} (Pv : Nat → Hp → Prop) (first : Pv 0 (upd G D (.lst []))) (sq : ∀ i H, i ≤ xs.length → Pv i H → SqT K H a xs)
    (turn : ∀ i x T H, xs[i]? = some x → H T = none → Pv i H → g (.ref T) (wipe σ own) (upd H T (.tup [.int (i : Nat), x])) fun σ2 H2 => wipe σ2 own = wipe σ own ∧ tt σ2 H2 fun b H3 =>
      if b = true then te σ2 H3 fun y H4 => ∃ old, H4 D = some (.lst old) ∧ old.length < sizeLine ∧ Pv (i + 1) (upd H4 D (.lst (old ++ [y]))) else Pv (i + 1) H3) (last : ∀ H, Pv xs.length H → fin H) :
    ∃ W : Nat → Nat → Hp → Prop, (∃ m, W 0 m (upd G D (.lst []))) ∧ ∀ i m H, W i m H →
      ((ItT K a).stop i H ∧ fin H) ∨ ((ItT K a).go i H ∧ ∃ Nx : Hp → Prop, (∀ H', Nx H' → ∃ m', m' < m ∧ W (i + 1) m' H') ∧ ∀ x H', (ItT K a).yld i H x H' → g x (wipe σ own) H' fun σ2 H2 => wipe σ2 own = wipe σ own ∧ tt σ2 H2 fun b H3 =>
        if b = true then te σ2 H3 fun y H4 => ∃ old, H4 D = some (.lst old) ∧ old.length < sizeLine ∧ Nx (upd H4 D (.lst (old ++ [y]))) else Nx H3) := by
  refine ⟨fun i m H => m = xs.length - i ∧ i ≤ xs.length ∧ Pv i H, ⟨xs.length, rfl, Nat.zero_le _, first⟩, ?_⟩
  rintro i m H ⟨rfl, hi, p⟩
  have s := sq i H hi p
  by_cases hlt : i < xs.length
  · refine .inr ⟨⟨xs, xs[i], s, List.getElem?_eq_getElem hlt⟩, Pv (i + 1), fun H' p' => ⟨xs.length - (i + 1), by omega, rfl, hlt, p'⟩, fun x H' y => ?_⟩
    obtain ⟨T, v, rfl, nT, rfl, hv⟩ := y
    exact turn i v T H (hv xs s) nT p
  · have e : i = xs.length := by omega
    subst e
    exact .inl ⟨⟨xs, s, Nat.le_refl _⟩, last H p⟩
def PvWalk (z a l : Addr) (sp mo : Int) (rs : List Road) (H : Hp) (i : Nat) (σ : L2.St) (H' : Hp) : Prop :=
  ∃ (y6 y7 : Option V) (here : Int) (ms : List Int), σ = [some (.ref z), some (.ref a), some (.int sp), some (.int mo), some (.ref l), some (.int here), y6, y7, none, none] ∧ Keep z H H' ∧ StOk H' z ∧ H' l = some (.lst (ms.map V.int)) ∧ ms.length ≤ i ∧ ∀ m ∈ ms, 0 ≤ m ∧ m < (rs.length : Int)
section
variable {P : Program} {w : World} {K : PySem.W.Frag} {mg : Str → Option Value} {base : Heap}
theorem scWalk : FnScope ["_law_state_here", "_law_web", "_law_spot", "_law_most", "_law_found", "_law_here", "_law_turn", "_law_some", "_law_number", "_law_road"] ["_law_state_here", "_law_web", "_law_spot", "_law_most"] (defScope sWalk) := ⟨rfl, rfl, rfl, by decide +kernel, rfl, by decide +kernel, by decide +kernel⟩
def spWalk : Sp := fun vs H Q _ => ∃ (z a r : Addr) (ts : List Addr) (p : Int) (rs : List Road) (sp mo : Int), vs = [.ref z, .ref a, .int sp, .int mo] ∧ 0 ≤ mo ∧ mo ≤ 100 ∧ StOk H z ∧ NetAt H a r ts p rs ∧ NetOk p rs ∧
  ∀ (H' : Hp) (t : Addr) (ms : List Int), Keep z H H' → StOk H' z → H t = none → H' t = some (.tup (ms.map V.int)) → (ms.length : Int) ≤ mo → (∀ m ∈ ms, 0 ≤ m ∧ m < (rs.length : Int)) → Q (.ref t) H'
theorem ok_walk {f fK : Addr} {fd dK : FuncData} {k : Nat} (DK : Df K mg "_law_take" sTake ["_law_state_here", "_law_much"] fK dK) (mR : mg "range" = none) (mT : mg "tuple" = none) (mE : mg "enumerate" = none) (ml : mg "len" = none)
    (D : Df K mg "_law_walk" sWalk ["_law_state_here", "_law_web", "_law_spot", "_law_most"] f fd) : FnOk P w K mg base CX0 (k + 2) f fd ["_law_state_here", "_law_web", "_law_spot", "_law_most"] spWalk := by
  have GK : FnOk P w K mg base CX0 (k + 1) fK dK ["_law_state_here", "_law_much"] spTake := ok_take DK
  refine D.F.ok scWalk (fun vs H Q E h => ?_) (fun cdv A outer s H vs Q E hr h => ?_)
  · obtain ⟨_, _, _, _, _, _, _, _, rfl, _⟩ := h
    rfl
  · obtain ⟨z, a, r, ts, p, rs, sp, mo, rfl, mo0, mo1, st, hN, ok, q⟩ := h
    refine ⟨_, (pss_cons (ps_asg (pe_tup (pa_cons (pe_lst pa_nil) (pa_cons (pv 2) pa_nil))) (pg_tup (by rfl) (pgs_cons (pg_name (i := 4) scWalk.nd rfl (.inl rfl)) (pgs_cons (pg_name (i := 5) scWalk.nd rfl (.inr rfl)) pgs_nil))))
    (pss_cons (ps_for PassesOwn.never rfl (pi_range1 (by rfl) mR (pa_cons (pe_call GK hr (by rfl) DK.g DK.F.kp DK.b .nil pass0 (pa_cons (pv 0) (pa_cons (pe_op op_add (pv 3) pe_int) pa_nil))) pa_nil)) (pg_name (i := 6) scWalk.nd rfl (.inl rfl))
    (pss_cons (ps_setLc (i := 7) (own := [("_law_number", 8), ("_law_road", 9)]) (g := gTup K 2 (gCons (gName 8) (gCons (gName 9) gNil))) (tt := tTest (tOp rEq (tOp (rIxT K) (tVar 9) (tC (.int 0))) (tVar 5))) rfl scWalk.nd rfl rfl (sw_true rfl rfl rfl (by decide +kernel)) (pi_enumT (by rfl) mE (pa_cons (pe_ix ix_tup (pv 1) pe_int (fun _ _ => rfl)) pa_nil)) (blkOk_by (N := ["_law_state_here", "_law_web", "_law_spot", "_law_most", "_law_found", "_law_here", "_law_turn", "_law_some", "_law_number", "_law_road"]) (sc := defScope sWalk) (by decide +kernel)) (fun _ _ _ _ _ => pg_tup (by rfl) (pgs_cons (pg_name (i := 8) scWalk.nd rfl (.inl rfl)) (pgs_cons (pg_name (i := 9) scWalk.nd rfl (.inl rfl)) pgs_nil))) (fun _ _ _ _ _ => pts_one (pt_cmpR op_eq (pe_ix (ix_tupK (K := K) rfl) (pv 9) pe_int (fun _ _ => rfl)) (pv 5) (nomark _))) (fun _ _ _ _ _ => pv 8))
    (pss_one (ps_if (pt_cut (PW.pt (pw_and (pt_cmpR (op_neD hr.units) (pv 7) (pe_lst pa_nil) (nomark _)) (pw_and1 (pt_cmpR op_gt (pe_call GK hr (by rfl) DK.g DK.F.kp DK.b .nil pass0 (pa_cons (pv 0) (pa_cons pe_int pa_nil))) pe_int (nomark _)))))) (pss_cons (ps_expr (pe_bm PySem.F.plainAttrs_list PySem.F.slot_list_append PySem.F.type_list_append mt_append (pv 4) (pa_cons (pe_ix ix_list (pv 7) (pe_call GK hr (by rfl) DK.g DK.F.kp DK.b .nil pass0 (pa_cons (pv 0) (pa_cons (pe_callB call_len_seq (by rfl) ml PySem.boot_len (pa_cons (pv 7) pa_nil)) pa_nil))) (fun _ _ => rfl)) pa_nil)))
    (pss_one (ps_set (i := 5) scWalk.nd rfl (.inr rfl) (pe_ix ix_tup (pe_ix ix_tup (pe_ix ix_tup (pv 1) pe_int (fun _ _ => rfl)) (pe_ix ix_list (pv 4) (pe_un un_neg pe_int) (fun _ _ => rfl)) (fun _ _ => rfl)) pe_int (fun _ _ => rfl))))) (pss_one (ps_if (PW.pt (pw_and (pt_cmpR (op_neD hr.units) (pe_ix ix_tup (pv 1) pe_int (fun _ _ => rfl)) (pe_tup pa_nil) (nomark _)) (pw_and1 (pt_cmpR op_eq (pe_call GK hr (by rfl) DK.g DK.F.kp DK.b .nil pass0 (pa_cons (pv 0) (pa_cons pe_int pa_nil))) pe_int (nomark _))))) (pss_cons (ps_expr (pe_bm PySem.F.plainAttrs_list PySem.F.slot_list_append PySem.F.type_list_append mt_append (pv 4) (pa_cons (pe_call GK hr (by rfl) DK.g DK.F.kp DK.b .nil pass0 (pa_cons (pv 0) (pa_cons (pe_callB call_len_seq (by rfl) ml PySem.boot_len (pa_cons (pe_ix ix_tup (pv 1) pe_int (fun _ _ => rfl)) pa_nil)) pa_nil))) pa_nil)))
    (pss_one (ps_set (i := 5) scWalk.nd rfl (.inr rfl) (pe_ix ix_tup (pe_ix ix_tup (pe_ix ix_tup (pv 1) pe_int (fun _ _ => rfl)) (pe_ix ix_list (pv 4) (pe_un un_neg pe_int) (fun _ _ => rfl)) (fun _ _ => rfl)) pe_int (fun _ _ => rfl))))) pss_nil))))))
    (pss_one (ps_ret (pe_callTy call_tuple_of (by rfl) mT (by decide +kernel) (pa_cons (pv 4) pa_nil)))))), ?_⟩
    refine ⟨Nat.zero_le _, fun l nl => ⟨.int sp, rfl, by show 2 ≤ sizeLine; decide, fun T nT => ?_⟩⟩
    have lz : l ≠ z := (st.ne nl).symm
    have s1 : Same H (upd H l (.lst [])) := same_new nl
    have s2 := s1.trans (same_new (o := .tup [.ref l, .int sp]) nT)
    refine ⟨T, _, rfl, SqT.of upd_same, rfl, .ref l, _, rfl, .int sp, _, rfl, rfl, ?_⟩
    have lT : l ≠ T := ne_of_none upd_same nT
    refine ⟨.ref z, rfl, .int mo, rfl, mo, 1, rfl, rfl, z, _, rfl, st.same s2, by omega, by omega, fun H1 n k1 st1 n0 n1 => ?_⟩
    have el1 : H1 l = some (.lst []) := k1 _ _ (by rw [upd_ne lT, upd_same]) lz
    have kH1 : Keep z H H1 := (Keep.of s2).trans k1
    refine ⟨n, rfl, by omega, by omega, ?_⟩
    refine for_range (lo := 0) (n := n.toNat) (PvWalk z a l sp mo rs H) ⟨none, none, sp, [], rfl, kH1, st1, el1, Nat.le_refl _, fun _ h => nomatch h⟩ (fun i σ H' hi h => ?_) (fun σ H' h => ?_)
    · obtain ⟨y6, y7, here, ms, rfl, kH, stH, eL, hlen, hms⟩ := h
      obtain ⟨ea, er, et⟩ := hN.keep (kH.tups st)
      refine ⟨.ref a, rfl, a, _, 1, _, rfl, rfl, SqT.of ea, rfl, r, _, rfl, SqT.of er, fun D nD => ?_⟩
      have Dz : D ≠ z := (stH.ne nD).symm
      refine lc_enumT (xs := ts.map V.ref) (fun j G => Same H' G ∧ ∃ ns : List Int, G D = some (.lst (ns.map V.int)) ∧ ns.length ≤ j ∧ ∀ m ∈ ns, 0 ≤ m ∧ m < (rs.length : Int)) ⟨same_new nD, [], upd_same, Nat.le_refl _, fun _ h => nomatch h⟩ (fun j G _ h => SqT.of (h.1 _ _ er)) (fun j x U G hx nU h => ?_) (fun G h => ?_)
      · obtain ⟨sm, ns, eD, hl, hns⟩ := h
        have hj : j < ts.length := by
          have := (List.getElem?_eq_some_iff.mp hx).1
          rwa [List.length_map] at this
        rw [List.getElem?_map, List.getElem?_eq_getElem hj] at hx
        cases hx
        obtain ⟨rd, e1, e2⟩ := et.get (List.getElem?_eq_getElem hj)
        have sU := same_new (H := G) (o := .tup [.int (j : Nat), .ref ts[j]]) nU
        refine ⟨U, _, rfl, SqT.of upd_same, rfl, .int (j : Nat), _, rfl, .ref ts[j], _, rfl, rfl, rfl, ?_⟩
        have DU : D ≠ U := ne_of_none eD nU
        have hlt : j < rs.length := (List.getElem?_eq_some_iff.mp e1).1
        have l30 := ok.len
        refine ⟨.ref ts[j], rfl, ts[j], _, 0, _, rfl, rfl, SqT.of (sU _ _ (sm _ _ e2)), rfl, .int here, rfl, rfl, _, rfl, ite2 (fun c => ?_) (fun c => ?_)⟩
        · refine ⟨_, rfl, _, sU _ _ eD, ?_, Same.upd_lst (sm.trans sU) nD, ns ++ [(j : Int)], ?_, ?_, fun m hm => ?_⟩
          · rw [List.length_map]
            exact small1000 (by omega)
          · rw [upd_same, List.map_append]
            rfl
          · rw [List.length_append, List.length_singleton]
            omega
          · rcases List.mem_append.mp hm with h | h
            · exact hns m h
            · rw [List.mem_singleton.mp h]
              omega
        · exact ⟨sm.trans sU, ns, sU _ _ eD, by omega, hns⟩
      · obtain ⟨sm, ns, eD, hl, hns⟩ := h
        have stG : StOk G z := stH.same sm
        have eLG : G l = some (.lst (ms.map V.int)) := sm _ _ eL
        have Dl : D ≠ l := (ne_of_none eL nD).symm
        refine ⟨fun b G' => Keep z G G' ∧ StOk G' z ∧ (b = true → ns ≠ []), ?_, fun b G' hR => ?_⟩
        · refine ⟨.ref D, rfl, Nat.zero_le _, fun e ne => ?_⟩
          have se : Same G (upd G e (.lst [])) := same_new ne
          refine ⟨.list (ns.map PyData.int), .list [], .lst (SqL.of (se _ _ eD)) (ints_dp ns), .lst (SqL.of upd_same) .nil, ints_shaped ns, ints_shaped [], _, rfl, ite2 (fun c6 => ?_) (fun c6 => ?_)⟩
          · have hne : ns ≠ [] := fun z => by
              rw [z] at c6
              have : PyData.eqv (.list ([].map PyData.int)) (.list []) = true := SeqAt.eqv_refl _ rfl
              rw [this] at c6
              cases c6
            refine ⟨.ref z, rfl, z, 12, rfl, stG.same se, by decide, by decide, fun G2 t kt s2 _ _ => ⟨_, _, rfl, rfl, _, rfl, (Keep.of se).trans kt, s2, fun _ => hne⟩⟩
          · exact ⟨.of se, stG.same se, fun z => nomatch z⟩
        · obtain ⟨kG, sG, hb⟩ := hR
          have eDb := kG _ _ eD Dz
          have eLb := kG _ _ eLG lz
          have kHG : Keep z H G' := kH.trans ((Keep.of sm).trans kG)
          obtain ⟨fa, fr, ft⟩ := hN.keep (kHG.tups st)
          refine ite2 (fun c => ?_) (fun c => ?_)
          · have hne := hb c
            refine ⟨.ref l, rfl, .inl ⟨rfl, _, SqL.of eLb⟩, .ref D, rfl, .ref z, rfl, .ref D, rfl, D, _, rfl, .inl (SqL.of eDb), z, _, rfl, sG, ?_, ?_, fun G2 t k2 s2 t0 t1 => ?_⟩
            · rw [List.length_map]
              cases ns with
              | nil => exact absurd rfl hne
              | cons _ _ => rw [List.length_cons]; omega
            · rw [List.length_map]
              have := ok.len
              have := ft.len
              rw [List.length_map] at hl
              omega
            · obtain ⟨v, hv, ev⟩ := pick t0 t1
              obtain ⟨m, hm, rfl⟩ := List.mem_map.mp hv
              obtain ⟨m0, m1⟩ := hns m hm
              have eD2 := k2 _ _ eDb Dz
              have eL2 := k2 _ _ eLb lz
              refine ⟨D, _, t, _, rfl, rfl, SqL.of eD2, ev, l, _, _, rfl, rfl, eL2, ?_, ?_⟩
              · rw [List.length_map]
                exact small1000 (by omega)
              · obtain ⟨ga, gr, gt⟩ := hN.keep ((kHG.trans k2).tups st)
                have kF : Keep z H (upd G2 l (.lst ((ms.map V.int) ++ [.int m]))) := fun b o hb hz => by
                  rw [upd_ne (fun e => by rw [e, nl] at hb; cases hb)]
                  exact k2 _ _ (kHG _ _ hb hz) hz
                obtain ⟨ha, hr', ht⟩ := hN.keep (kF.tups st)
                have sF : StOk (upd G2 l (.lst ((ms.map V.int) ++ [.int m]))) z := by
                  obtain ⟨xx, yy, e1, e2⟩ := s2
                  exact ⟨xx, yy, by rw [upd_ne lz.symm]; exact e1, e2⟩
                obtain ⟨mm, rfl⟩ := Int.eq_ofNat_of_zero_le m0
                obtain ⟨t', rd, e1, e2, e3⟩ := road_at ht (show mm < rs.length by omega)
                refine ⟨.ref a, rfl, a, _, 1, _, rfl, rfl, SqT.of ha, rfl, .ref l, rfl, 1, rfl, l, _, -1, _, rfl, rfl, SqL.of upd_same, atI_last _ _, r, _, mm, .ref t', rfl, rfl, SqT.of hr', atI_nat (ref_at e1), t', _, 1, _, rfl, rfl, SqT.of e3, rfl, ?_⟩
                refine ⟨some (.int (0 + i)), some (.ref D), rd.other, ms ++ [(mm : Int)], rfl, kF, sF, ?_, ?_, fun x hx => ?_⟩
                · rw [upd_same, List.map_append]
                  rfl
                · rw [List.length_append, List.length_singleton]
                  omega
                · rcases List.mem_append.mp hx with h | h
                  · exact hms x h
                  · rw [List.mem_singleton.mp h]
                    omega
          · refine ⟨.ref a, rfl, a, _, 1, _, rfl, rfl, SqT.of fa, rfl, Nat.zero_le _, fun e ne => ?_⟩
            have se : Same G' (upd G' e (.tup [])) := same_new ne
            have sE : StOk (upd G' e (.tup [])) z := sG.same se
            refine ⟨.tuple (rs.map dRoad), .tuple [], .tup (SqT.of (se _ _ fr)) (roads_dp (ft.keep fun b xs h => se _ _ h)), .tup (SqT.of upd_same) .nil, (roads_shaped rs).2, (roads_shaped []).2, _, rfl, ite2 (fun c6 => ?_) (fun c6 => ?_)⟩
            · have hne : rs ≠ [] := fun z => by
                rw [z] at c6
                have : PyData.eqv (.tuple ([].map dRoad)) (.tuple []) = true := SeqAt.eqv_refl _ rfl
                rw [this] at c6
                cases c6
              have hpos : 0 < rs.length := by
                cases rs with
                | nil => exact absurd rfl hne
                | cons _ _ => simp
              refine ⟨.ref z, rfl, z, 3, rfl, sE, by decide, by decide, fun G3 t3 k3 s3 _ _ => ⟨rfl, _, rfl, ite2 (fun c7 => ?_) (fun c7 => ?_)⟩⟩
              · have kH3 := kHG.trans ((Keep.of se).trans k3)
                obtain ⟨ga, gr, gt⟩ := hN.keep (kH3.tups st)
                have eL3 : G3 l = some (.lst (ms.map V.int)) := k3 _ _ (se _ _ eLb) lz
                have l30 := ok.len
                have lts : ((ts.map V.ref).length : Int) = (rs.length : Int) := by rw [List.length_map, gt.len]
                refine ⟨.ref l, rfl, .inl ⟨rfl, _, SqL.of eL3⟩, .ref z, rfl, .ref a, rfl, a, _, 1, _, rfl, rfl, SqT.of ga, rfl, r, _, rfl, .inr (SqT.of gr), z, _, rfl, s3, by rw [lts]; omega, by rw [lts]; omega, fun G2 m k2 s2 m0 m1 => ?_⟩
                rw [lts] at m1
                have eL2 := k2 _ _ eL3 lz
                refine ⟨l, _, _, rfl, rfl, eL2, ?_, ?_⟩
                · rw [List.length_map]
                  exact small1000 (by omega)
                · have kF : Keep z H (upd G2 l (.lst ((ms.map V.int) ++ [.int m]))) := fun b o hb hz => by
                    rw [upd_ne (fun e => by rw [e, nl] at hb; cases hb)]
                    exact k2 _ _ (kH3 _ _ hb hz) hz
                  obtain ⟨ha, hr', ht⟩ := hN.keep (kF.tups st)
                  have sF : StOk (upd G2 l (.lst ((ms.map V.int) ++ [.int m]))) z := by
                    obtain ⟨xx, yy, e1, e2⟩ := s2
                    exact ⟨xx, yy, by rw [upd_ne lz.symm]; exact e1, e2⟩
                  obtain ⟨mm, rfl⟩ := Int.eq_ofNat_of_zero_le m0
                  obtain ⟨t', rd, e1, e2, e3⟩ := road_at ht (show mm < rs.length by omega)
                  refine ⟨.ref a, rfl, a, _, 1, _, rfl, rfl, SqT.of ha, rfl, .ref l, rfl, 1, rfl, l, _, -1, _, rfl, rfl, SqL.of upd_same, atI_last _ _, r, _, mm, .ref t', rfl, rfl, SqT.of hr', atI_nat (ref_at e1), t', _, 1, _, rfl, rfl, SqT.of e3, rfl, ?_⟩
                  refine ⟨some (.int (0 + i)), some (.ref D), rd.other, ms ++ [(mm : Int)], rfl, kF, sF, ?_, ?_, fun x hx => ?_⟩
                  · rw [upd_same, List.map_append]
                    rfl
                  · rw [List.length_append, List.length_singleton]
                    omega
                  · rcases List.mem_append.mp hx with h | h
                    · exact hms x h
                    · rw [List.mem_singleton.mp h]
                      omega
              · exact ⟨some (.int (0 + i)), some (.ref D), here, ms, rfl, kHG.trans ((Keep.of se).trans k3), s3, k3 _ _ (se _ _ eLb) lz, by omega, hms⟩
            · exact ⟨some (.int (0 + i)), some (.ref D), here, ms, rfl, kHG.trans (.of se), sE, se _ _ eLb, by omega, hms⟩
    · obtain ⟨y6, y7, here, ms, rfl, kH, stH, eL, hlen, hms⟩ := h
      refine ⟨.ref l, rfl, l, _, rfl, .inl ⟨SqL.of eL, fun t nt => ?_⟩⟩
      have s1 := same_new (H := H') (o := .tup (ms.map V.int)) nt
      exact q _ t ms (kH.trans (.of s1)) (stH.same s1) (kH.free nt (stH.ne nt).symm) upd_same (by omega) hms
end
end Wy

namespace Wy
open PySem PySem.Spec PyProof.Rows L2

/-! ### prices: what holds of them -/
structure Feas (p : Int) (fr : List Road) (g : Int) (ps : List (Option Int)) : Prop where
  len : ps.length = p.toNat
  goal : at' ps g = some 0
  pos : ∀ a v, at' ps a = some v → 0 ≤ v
  road : ∀ q ∈ fr, ∀ y, at' ps q.other = some y → ∃ x, at' ps q.one = some x ∧ x ≤ q.cost + y
theorem Feas.exc {p : Int} {fr : List Road} {g : Int} {ps : List (Option Int)} (F : Feas p fr g ps) : ∀ q ∈ fr, excB (at' ps q.one) q.cost (at' ps q.other) = false := fun q hq => by
  cases e : at' ps q.other with
  | none => rfl
  | some y =>
    obtain ⟨x, h1, h2⟩ := F.road q hq y e
    rw [h1]
    exact decide_eq_false (by omega)
theorem Feas.least {p : Int} {fr : List Road} {g : Int} {ps : List (Option Int)} (F : Feas p fr g ps) {A : Int → Prop} {a v : Int} {n : Nat} (w : Wk fr g A a v n) : ∃ u, at' ps a = some u ∧ u ≤ v := by
  induction w with
  | nil _ => exact ⟨0, F.goal, Int.le_refl _⟩
  | cons hq _ _ ih =>
    obtain ⟨u, h1, h2⟩ := ih
    obtain ⟨x, h3, h4⟩ := F.road _ hq u h1
    exact ⟨x, h3, by omega⟩
theorem at_out {ps : List (Option Int)} {a v : Int} (h : at' ps a = some v) : a.toNat < ps.length := by
  unfold at' List.getD at h
  cases e : ps[a.toNat]? with
  | none =>
    rw [e] at h
    cases h
  | some o => exact (List.getElem?_eq_some_iff.mp e).1
theorem Dist.feas {p : Int} {fr : List Road} (F : Fr p fr) {g : Int} {ps : List (Option Int)} (hg : In p g) (hl : ps.length = p.toNat) (D : Dist p fr g (at' ps)) : Feas p fr g ps := by
  have pos : ∀ a v, In p a → at' ps a = some v → 0 ≤ v := fun a v ha h => by
    obtain ⟨n, w⟩ := D.sound a v ha h
    exact w.nonneg F
  refine ⟨hl, ?_, fun a v h => ?_, fun q hq y h => ?_⟩
  · obtain ⟨u, h1, h2⟩ := D.least g 0 0 (.nil hg)
    have := pos g u hg h1
    rw [h1, show u = 0 by omega]
  · have h1 := at_out h
    have e : at' ps (a.toNat : Int) = some v := by
      unfold at'
      rw [Int.toNat_natCast]
      exact h
    exact pos (a.toNat : Int) v ⟨by omega, by omega⟩ e
  · obtain ⟨n, w⟩ := D.sound _ y (F.t q hq) h
    exact D.least _ _ _ (.cons hq (F.o q hq) w)
def lessO (top : Int) (o : Option Int) : Option Int := o.map fun v => if top < v then top else v
def grO (a b : Option Int) : Option Int := match a, b with
  | some x, some y => some (if y > x then y else x)
  | _, _ => none
theorem at_map {ps : List (Option Int)} {f : Option Int → Option Int} (h : f none = none) (a : Int) : at' (ps.map f) a = f (at' ps a) := by
  unfold at' List.getD
  rw [List.getElem?_map]
  cases ps[a.toNat]? with
  | none => exact h.symm
  | some o => rfl
theorem Feas.less {p : Int} {fr : List Road} (hc : ∀ q ∈ fr, 0 ≤ q.cost) {g : Int} {ps : List (Option Int)} (F : Feas p fr g ps) {top : Int} (h0 : 0 ≤ top) : Feas p fr g (ps.map (lessO top)) := by
  refine ⟨by rw [List.length_map]; exact F.len, ?_, fun a v h => ?_, fun q hq y h => ?_⟩
  · rw [at_map rfl, F.goal]
    show some (if top < 0 then top else 0) = some 0
    rw [if_neg (by omega)]
  · rw [at_map rfl] at h
    obtain ⟨x, h1, h2⟩ := Option.map_eq_some_iff.mp h
    have := F.pos a x h1
    subst h2
    split <;> omega
  · rw [at_map rfl] at h
    obtain ⟨x, h1, h2⟩ := Option.map_eq_some_iff.mp h
    obtain ⟨z, h3, h4⟩ := F.road q hq x h1
    have := hc q hq
    refine ⟨if top < z then top else z, by rw [at_map rfl, h3]; rfl, ?_⟩
    subst h2
    split <;> split <;> omega
theorem at_zip {ps qs : List (Option Int)} (hl : ps.length = qs.length) (a : Int) : at' (List.zipWith grO ps qs) a = grO (at' ps a) (at' qs a) := by
  unfold at' List.getD
  rw [List.getElem?_zipWith]
  by_cases h : a.toNat < ps.length
  · rw [List.getElem?_eq_getElem h, List.getElem?_eq_getElem (by omega)]
    rfl
  · rw [List.getElem?_eq_none (by omega), List.getElem?_eq_none (by omega)]
    rfl
theorem Feas.gr {p : Int} {fr : List Road} {g : Int} {ps qs : List (Option Int)} (F : Feas p fr g ps) (G : Feas p fr g qs) : Feas p fr g (List.zipWith grO ps qs) := by
  have hl : ps.length = qs.length := F.len.trans G.len.symm
  refine ⟨by rw [List.length_zipWith, F.len, G.len, Nat.min_self], ?_, fun a v h => ?_, fun q hq y h => ?_⟩
  · rw [at_zip hl, F.goal, G.goal]
    rfl
  · rw [at_zip hl] at h
    cases h1 : at' ps a with
    | none =>
      rw [h1] at h
      cases h
    | some x =>
      cases h2 : at' qs a with
      | none =>
        rw [h1, h2] at h
        cases h
      | some z =>
        rw [h1, h2] at h
        have e := Option.some.inj h
        have := F.pos a x h1
        have := G.pos a z h2
        subst e
        split <;> omega
  · rw [at_zip hl] at h
    cases h1 : at' ps q.other with
    | none =>
      rw [h1] at h
      cases h
    | some x =>
      cases h2 : at' qs q.other with
      | none =>
        rw [h1, h2] at h
        cases h
      | some z =>
        rw [h1, h2] at h
        have e := Option.some.inj h
        obtain ⟨x2, h3, h4⟩ := F.road q hq x h1
        obtain ⟨z2, h5, h6⟩ := G.road q hq z h2
        refine ⟨if z2 > x2 then z2 else x2, by rw [at_zip hl, h3, h5]; rfl, ?_⟩
        subst e
        split <;> split <;> omega
theorem gr_less {ps : List (Option Int)} {top : Int} : List.zipWith grO ps (ps.map (lessO top)) = ps := by
  refine List.ext_getElem? fun i => ?_
  rw [List.getElem?_zipWith, List.getElem?_map]
  cases ps[i]? with
  | none => rfl
  | some o =>
    cases o with
    | none => rfl
    | some v =>
      show some (some (if (if top < v then top else v) > v then (if top < v then top else v) else v)) = some (some v)
      congr 2
      split <;> split <;> omega
theorem free_nil (rs : List Road) : freeR [] rs = rs := List.filter_eq_self.mpr fun q _ => rfl
/-- a way is a walk -/
theorem goes_wk {p : Int} {rs : List Road} (F : Fr p rs) : ∀ {xs : List V} {here : Int} {qs : List Road}, In p here → goes rs here xs = some qs → Wk rs (lastOf here qs) (In p) here (costOf qs) qs.length
  | [], here, qs, hh, h => by
    have h := Option.some.inj h
    subst h
    exact .nil hh
  | x :: r, here, qs, hh, h => by
    have h : (match step rs here x with | none => none | some q => (goes rs q.other r).map (q :: ·)) = some qs := h
    cases e1 : step rs here x with
    | none =>
      rw [e1] at h
      cases h
    | some q =>
      rw [e1] at h
      obtain ⟨z, e2, e3⟩ := Option.map_eq_some_iff.mp h
      subst e3
      have hq : q ∈ rs ∧ q.one = here := by
        unfold step at e1
        split at e1
        · split at e1
          · split at e1
            · rename_i q' eq
              split at e1
              · rename_i ho
                cases e1
                exact ⟨List.mem_of_getElem? eq, ho⟩
              · cases e1
            · cases e1
          · cases e1
        · cases e1
      have ih := goes_wk F (F.t q hq.1) e2
      rw [lastOf_cons]
      have hc : costOf (q :: z) = q.cost + costOf z := by
        unfold costOf
        rw [List.map_cons, List.sum_cons]
      rw [hc, ← hq.2]
      exact .cons hq.1 (F.o q hq.1) ih
/-- with more places shut no price is less; a shut place has none -/
theorem wk_more {rs : List Road} {ms : List Int} {g a v : Int} {n : Nat} {A : Int → Prop} (w : Wk (freeR ms rs) g A a v n) : Wk rs g A a v n := by
  induction w with
  | nil h => exact .nil h
  | cons hq ha _ ih => exact .cons (List.mem_filter.mp hq).1 ha ih
theorem shut_none {p g : Int} {rs : List Road} (ok : NetOk p rs) {ms : List Int} (hg : In p g) {m : Int} (hm : m ∈ ms) (hi : In p m) (hne : m ≠ g) : at' (greatest p rs g ms) m = none := by
  cases e : at' (greatest p rs g ms) m with
  | none => rfl
  | some v =>
    obtain ⟨n, w⟩ := (great_dist ok ms hg).sound m v hi e
    cases w with
    | nil _ => exact absurd rfl hne
    | @cons q v n hq _ _ =>
      have h := (List.mem_filter.mp hq).2
      unfold freeRoad at h
      have : inV (.int q.one) (ms.map V.int) = true := by
        rw [inV]
        exact List.any_eq_true.mpr ⟨.int q.one, List.mem_map.mpr ⟨q.one, hm, rfl⟩, by simp [eqV]⟩
      rw [this] at h
      cases h
end Wy

namespace Wy
open PySem PySem.Spec PyProof.Rows L2 RZ
abbrev sIsP : Stmt := topS 33
theorem sc_sIsP : FnScope ["thing"] ["thing"] (defScope sIsP) := ⟨rfl, rfl, rfl, by decide +kernel, rfl, by decide +kernel, by decide +kernel⟩
abbrev sHold : Stmt := topS 32
theorem sc_sHold : FnScope ["net", "goal", "thing", "shut", "part", "place", "one", "other", "cost", "time"] ["net", "goal", "thing", "shut"] (defScope sHold) := ⟨rfl, rfl, rfl, by decide +kernel, rfl, by decide +kernel, by decide +kernel⟩
abbrev sAre : Stmt := topS 27
theorem sc_sAre : FnScope ["net", "goal", "thing", "shut"] ["net", "goal", "thing", "shut"] (defScope sAre) := ⟨rfl, rfl, rfl, by decide +kernel, rfl, by decide +kernel, by decide +kernel⟩
abbrev sLess : Stmt := topS 45
theorem sc_sLess : FnScope ["_law_state_here", "_law_web", "_law_prices_here", "_law_top", "_law_price"] ["_law_state_here", "_law_web", "_law_prices_here"] (defScope sLess) := ⟨rfl, rfl, rfl, by decide +kernel, rfl, by decide +kernel, by decide +kernel⟩
abbrev sGr : Stmt := topS 44
theorem sc_sGr : FnScope ["_law_one", "_law_other", "_law_a", "_law_b"] ["_law_one", "_law_other"] (defScope sGr) := ⟨rfl, rfl, rfl, by decide +kernel, rfl, by decide +kernel, by decide +kernel⟩

theorem at_optI {ps : List (Option Int)} {n : Int} (h0 : 0 ≤ n) (h1 : n.toNat < ps.length) : atI (ps.map vOpt) n = some (vOpt (at' ps n)) := at_opt h0 h1
theorem opt_at {ps : List (Option Int)} {i : Nat} {v : V} (h : (ps.map vOpt)[i]? = some v) : ∃ o, ps[i]? = some o ∧ v = vOpt o := by
  rw [List.getElem?_map] at h
  obtain ⟨o, h1, h2⟩ := Option.map_eq_some_iff.mp h
  exact ⟨o, h1, h2.symm⟩
section
variable {P : Program} {w : World} {K : PySem.W.Frag} {mg : Str → Option Value} {base : Heap} {f1 f2 f3 f4 f5 : Addr} {d1 d2 d3 d4 d5 : FuncData} {fN fP fR fS fF fX fG : Addr} {dN dP dR dS dF dX dG : FuncData}
def spIsP : Sp := fun vs H Q _ => ∃ o : Option Int, vs = [vOpt o] ∧ (∀ v, o = some v → 0 ≤ v) ∧ Q (.bl true) H
theorem ok_isP {f : Addr} {fd : FuncData} {k : Nat} (S : Sm K mg f1 f2 f3 f4 f5 d1 d2 d3 d4 d5) (D : Df K mg "is_price" sIsP ["thing"] f fd) : FnOk P w K mg base CX0 (k + 2) f fd ["thing"] spIsP := by
  have G : FnOk P w K mg base CX0 (k + 1) f1 d1 ["thing"] spWhole := ok_whole S.whole S.mi S.mI S.mB
  refine D.F.ok sc_sIsP (fun vs H Q E h => ?_) (fun cdv A outer s H vs Q E hr h => ?_)
  · obtain ⟨_, rfl, _⟩ := h
    rfl
  · obtain ⟨o, rfl, h0, q⟩ := h
    refine ⟨_, (pss_one (ps_ret (pe_or (pe_cmpR op_isN (pv 0) pe_non (nomark _)) (pe_one (pe_and (pe_call G hr (by rfl) S.whole.g S.whole.F.kp S.whole.b .nil pass0 (pa_cons (pv 0) pa_nil)) (pe_one (pe_cmpR op_ge (pv 0) pe_int (nomark _)))))))), ?_⟩
    cases o with
    | none => exact ⟨.non, rfl, rfl, _, rfl, iteT q⟩
    | some v =>
      refine ⟨.int v, rfl, rfl, _, rfl, iteF ⟨.int v, rfl, .int v, "int", rfl, .int _, _, rfl, iteT ⟨.int v, rfl, v, 0, rfl, rfl, ?_⟩⟩⟩
      have := h0 v rfl
      have e : decide (0 ≤ v) = true := decide_eq_true this
      show Q (.bl (decide (0 ≤ v))) H
      rw [e]
      exact q
/-- a tuple of prices that hold -/
def HoldAt (K : PySem.W.Frag) (H : Hp) (x r t b : Addr) (ts : List Addr) (p : Int) (rs : List Road) (g : Int) (ps : List (Option Int)) (ms : List Int) : Prop :=
  NetAt H x r ts p rs ∧ NetOk p rs ∧ 0 ≤ g ∧ g ≤ p - 1 ∧ H t = some (.tup (ps.map vOpt)) ∧ SqT K H b (ms.map V.int) ∧ ShutOk p g ms ∧ (∀ m ∈ ms, at' ps m = none) ∧ Feas p (freeR ms rs) g ps
theorem HoldAt.same {K : PySem.W.Frag} {H H' : Hp} {x r t b : Addr} {ts : List Addr} {p : Int} {rs : List Road} {g : Int} {ps : List (Option Int)} {ms : List Int} (h : HoldAt K H x r t b ts p rs g ps ms) (s : Same H H') : HoldAt K H' x r t b ts p rs g ps ms := by
  obtain ⟨h1, h2, h3, h4, h5, h6, h7, h8, h9⟩ := h
  exact ⟨h1.keep fun b xs e => s _ _ e, h2, h3, h4, s _ _ h5, sqt_same h6 s, h7, h8, h9⟩
def spHold (K : PySem.W.Frag) : Sp := fun vs H Q _ => ∃ (x r t b : Addr) (ts : List Addr) (p : Int) (rs : List Road) (g : Int) (ps : List (Option Int)) (ms : List Int), vs = [.ref x, .int g, .ref t, .ref b] ∧ HoldAt K H x r t b ts p rs g ps ms ∧ ∀ H', Same H H' → Q (.bl true) H'
set_option maxHeartbeats 4000000 in
theorem ok_hold {f fI : Addr} {fd dI : FuncData} {k : Nat} (S : Sm K mg f1 f2 f3 f4 f5 d1 d2 d3 d4 d5) (T : Pt K mg fN fP fR fS fF fX fG dN dP dR dS dF dX dG) (mY : mg "any" = none) (DI : Df K mg "is_price" sIsP ["thing"] fI dI) (D : Df K mg "prices_hold" sHold ["net", "goal", "thing", "shut"] f fd) : FnOk P w K mg base CX0 (k + 3) f fd ["net", "goal", "thing", "shut"] (spHold K) := by
  have GI : FnOk P w K mg base CX0 (k + 2) fI dI ["thing"] spIsP := ok_isP S DI
  have GT : FnOk P w K mg base CX0 (k + 2) f3 d3 ["thing", "many"] spTupOf := ok_tupOf (k := k + 1) S
  have GF : FnOk P w K mg base CX0 (k + 2) fF dF ["net", "shut"] (spFree K) := ok_free (k := k + 1) T.F
  have GX : FnOk P w K mg base CX0 (k + 2) fX dX ["own", "cost", "ahead"] spExc := ok_exc (k := k + 1) T.X
  refine D.F.ok sc_sHold (fun vs H Q E h => ?_) (fun cdv A outer s H vs Q E hr h => ?_)
  · obtain ⟨_, _, _, _, _, _, _, _, _, _, rfl, _⟩ := h
    rfl
  · obtain ⟨x, r, t, b, ts, p, rs, g, ps, ms, rfl, ⟨hN, ok, g0, g1, et, eb, sh, hnone, fe⟩, q⟩ := h
    refine ⟨_, (pss_cons (ps_if (PW.pt (pw_or (pt_not (pt_val (pe_call GT hr (by rfl) S.tupOf.g S.tupOf.F.kp S.tupOf.b .nil pass0 (pa_cons (pv 2) (pa_cons (pe_ix (ix_tupK (K := K) rfl) (pv 0) pe_int (fun _ _ => rfl)) pa_nil))))) (pw_or1 (pt_not (pt_val (pe_callB (cr_all rfl) (by rfl) S.mA (by decide +kernel) (pa_cons (pe_lc (own := [("part", 4)]) (g := gName 4) (tt := tYes) rfl sc_sHold.nd (pi_tup (pv 2)) (blkOk_by (N := ["net", "goal", "thing", "shut", "part", "place", "one", "other", "cost", "time"]) (sc := defScope sHold) (by decide +kernel)) (fun _ _ _ _ _ => (pg_name (i := 4) sc_sHold.nd rfl (.inl rfl))) (fun _ _ _ _ _ => pts_nil) (fun _ _ _ _ _ => (pe_call GI hr (by rfl) DI.g DI.F.kp DI.b .nil pass0 (pa_cons (pv 4) pa_nil)))) pa_nil))))))) pss_never pss_nil)
    (pss_cons (ps_if (PW.pt (pw_or (pt_cmpR op_ne (pe_ix (ix_tupK (K := K) rfl) (pv 2) (pv 1) (fun _ _ => rfl)) pe_int (nomark _)) (pw_or1 (pt_val (pe_callB (cr_any rfl) (by rfl) mY (by decide +kernel) (pa_cons (pe_lc (own := [("place", 5)]) (g := gName 5) (tt := tYes) rfl sc_sHold.nd (pi_tup (pv 3)) (blkOk_by (N := ["net", "goal", "thing", "shut", "part", "place", "one", "other", "cost", "time"]) (sc := defScope sHold) (by decide +kernel)) (fun _ _ _ _ _ => (pg_name (i := 5) sc_sHold.nd rfl (.inl rfl))) (fun _ _ _ _ _ => pts_nil) (fun _ _ _ _ _ => (pe_cmpR op_notN (pe_ix (ix_tupK (K := K) rfl) (pv 2) (pv 5) (fun _ _ => rfl)) pe_non (nomark _)))) pa_nil)))))) pss_never pss_nil)
    (pss_one (ps_ret (pe_not (pe_callB (cr_any rfl) (by rfl) mY (by decide +kernel) (pa_cons (pe_lc (own := [("one", 6), ("other", 7), ("cost", 8), ("time", 9)]) (g := gTup K 4 (gCons (gName 6) (gCons (gName 7) (gCons (gName 8) (gCons (gName 9) gNil))))) (tt := tYes) rfl sc_sHold.nd (pi_list (pe_call GF hr (by rfl) T.F.g T.F.F.kp T.F.b .nil pass0 (pa_cons (pv 0) (pa_cons (pv 3) pa_nil)))) (blkOk_by (N := ["net", "goal", "thing", "shut", "part", "place", "one", "other", "cost", "time"]) (sc := defScope sHold) (by decide +kernel)) (fun _ _ _ _ _ => pg_tup rfl (pgs_cons (pg_name (i := 6) sc_sHold.nd rfl (.inl rfl)) (pgs_cons (pg_name (i := 7) sc_sHold.nd rfl (.inl rfl)) (pgs_cons (pg_name (i := 8) sc_sHold.nd rfl (.inl rfl)) (pgs_cons (pg_name (i := 9) sc_sHold.nd rfl (.inl rfl)) pgs_nil))))) (fun _ _ _ _ _ => pts_nil) (fun _ _ _ _ _ => (pe_call GX hr (by rfl) T.X.g T.X.F.kp T.X.b .nil pass0 (pa_cons (pe_ix (ix_tupK (K := K) rfl) (pv 2) (pv 6) (fun _ _ => rfl)) (pa_cons (pv 8) (pa_cons (pe_ix (ix_tupK (K := K) rfl) (pv 2) (pv 7) (fun _ _ => rfl)) pa_nil)))))) pa_nil))))))), ?_⟩
    have p1 := ok.p1
    have p2 := ok.p2
    have hl := fe.len
    refine ⟨.ref t, rfl, .ref x, rfl, x, _, 0, _, rfl, rfl, SqT.of hN.1, rfl, t, _, p, rfl, et, by rw [List.length_map, hl]; omega, _, rfl, iteF ?_⟩
    refine ⟨.ref t, rfl, t, rfl, ⟨_, SqT.of et⟩, fun D nD => ?_⟩
    refine lc_tup (xs := ps.map vOpt) (fun j H' => Same H H' ∧ H' D = some (.lst ((List.replicate j true).map V.bl))) ⟨same_new nD, upd_same⟩ (fun j H' _ h => SqT.of (h.1 _ _ et)) (fun j v H' hv h => ?_) (fun H' h => ?_)
    · obtain ⟨sm, eD⟩ := h
      obtain ⟨o, e1, rfl⟩ := opt_at hv
      have hj := (List.getElem?_eq_some_iff.mp e1).1
      refine ⟨rfl, ?_⟩
      unfold tYes
      dsimp only
      rw [if_pos rfl]
      refine ⟨vOpt o, rfl, o, rfl, fun v hv => ?_, _, eD, ?_, Same.upd_lst sm nD, ?_⟩
      · refine fe.pos (j : Int) v ?_
        unfold at' List.getD
        rw [Int.toNat_natCast, e1, hv]
        rfl
      · rw [List.length_map, List.length_replicate]
        exact small1000 (by omega)
      · rw [upd_same, List.replicate_succ', List.map_append]
        rfl
    obtain ⟨s1, eD⟩ := h
    refine ⟨D, _, rfl, SqL.of eD, _, rfl, ?_⟩
    rw [all_yes]
    refine iteF ?_
    refine ⟨.ref t, rfl, .int g, rfl, t, _, g, _, rfl, rfl, SqT.of (s1 _ _ et), at_optI g0 (by omega), ?_⟩
    rw [fe.goal]
    refine ⟨rfl, _, rfl, ?_⟩
    rw [show (!decide (vOpt (some 0) = V.int 0)) = false from rfl]
    refine iteF ?_
    refine ⟨.ref b, rfl, b, rfl, ⟨_, sqt_same eb s1⟩, fun D2 nD2 => ?_⟩
    refine lc_tup (xs := ms.map V.int) (fun j G => Same H' G ∧ G D2 = some (.lst ((List.replicate j false).map V.bl))) ⟨same_new nD2, upd_same⟩ (fun j G _ h => sqt_same (sqt_same eb s1) h.1) (fun j v G hv h => ?_) (fun G h => ?_)
    · obtain ⟨sm, eD2⟩ := h
      rw [List.getElem?_map] at hv
      obtain ⟨m, e1, rfl⟩ := Option.map_eq_some_iff.mp hv
      have hj := (List.getElem?_eq_some_iff.mp e1).1
      have hml := sh.len
      obtain ⟨m0, m1, m2⟩ := sh.inn m (List.mem_of_getElem? e1)
      refine ⟨rfl, ?_⟩
      unfold tYes
      dsimp only
      rw [if_pos rfl]
      refine ⟨.ref t, rfl, .int m, rfl, t, _, m, _, rfl, rfl, SqT.of (sm _ _ (s1 _ _ et)), at_optI m0 (by omega), ?_⟩
      rw [hnone m (List.mem_of_getElem? e1)]
      refine ⟨rfl, _, eD2, ?_, Same.upd_lst sm nD2, ?_⟩
      · rw [List.length_map, List.length_replicate]
        exact small1000 (by omega)
      · rw [upd_same, List.replicate_succ', List.map_append]
        rfl
    obtain ⟨s2, eD2⟩ := h
    have any_no : ∀ n : Nat, (List.replicate n false).any id = false := fun n => by
      rw [Bool.eq_false_iff]
      intro z
      obtain ⟨y, h1, h2⟩ := List.any_eq_true.mp z
      rw [(List.mem_replicate.mp h1).2] at h2
      cases h2
    refine ⟨D2, _, rfl, SqL.of eD2, _, rfl, ?_⟩
    rw [any_no]
    refine iteF ?_
    have s12 := s1.trans s2
    have hN2 : NetAt G x r ts p rs := hN.keep fun b xs h => s12 _ _ h
    refine ⟨.ref x, rfl, .ref b, rfl, x, r, ts, p, rs, b, ms, rfl, hN2, Nat.le_trans ok.len (by decide), sqt_same eb s12, fun G1 lr us s3 nlr elr eu => ?_⟩
    have lu : us.length ≤ 30 := by
      rw [eu.len]
      exact Nat.le_trans (List.length_filter_le _ _) ok.len
    refine ⟨lr, rfl, ⟨_, SqL.of elr⟩, fun D3 nD3 => ?_⟩
    have s13 := s12.trans s3
    refine lc_list (xs := us.map V.ref) (fun j G2 => Same G1 G2 ∧ G2 D3 = some (.lst ((List.replicate j false).map V.bl))) ⟨same_new nD3, upd_same⟩ (fun j G2 _ h => SqL.of (h.1 _ _ elr)) (fun j v G2 hv h => ?_) (fun G2 h => ?_)
    · obtain ⟨sm, eD3⟩ := h
      rw [List.getElem?_map] at hv
      obtain ⟨u, e1, rfl⟩ := Option.map_eq_some_iff.mp hv
      have hj := (List.getElem?_eq_some_iff.mp e1).1
      obtain ⟨rd, e2, e3⟩ := eu.get e1
      have hm := List.mem_of_getElem? e2
      have o := ok.all rd (List.mem_filter.mp hm).1
      have o1 := o.o1
      have o2 := o.o2
      have o3 := o.t1
      have o4 := o.t2
      have et2 := sm _ _ (s13 _ _ et)
      refine ⟨u, _, rfl, SqT.of (sm _ _ e3), rfl, .int rd.one, _, rfl, .int rd.other, _, rfl, .int rd.cost, _, rfl, .int rd.time, _, rfl, rfl, rfl, ?_⟩
      unfold tYes
      dsimp only
      rw [if_pos rfl]
      refine ⟨.ref t, rfl, .int rd.one, rfl, t, _, rd.one, _, rfl, rfl, SqT.of et2, at_optI o1 (by omega), .int rd.cost, rfl, .ref t, rfl, .int rd.other, rfl, t, _, rd.other, _, rfl, rfl, SqT.of et2, at_optI o3 (by omega), at' ps rd.one, at' ps rd.other, rd.cost, rfl, ?_⟩
      rw [fe.exc rd hm]
      refine ⟨_, eD3, ?_, Same.upd_lst sm nD3, ?_⟩
      · rw [List.length_map, List.length_replicate]
        exact small1000 (by omega)
      · rw [upd_same, List.replicate_succ', List.map_append]
        rfl
    obtain ⟨s4, eD3⟩ := h
    refine ⟨D3, _, rfl, SqL.of eD3, _, rfl, ?_⟩
    rw [any_no]
    exact q _ (s13.trans s4)
def spAre (K : PySem.W.Frag) : Sp := spHold K
theorem ok_are {f fH fI : Addr} {fd dH dI : FuncData} {k : Nat} (S : Sm K mg f1 f2 f3 f4 f5 d1 d2 d3 d4 d5) (T : Pt K mg fN fP fR fS fF fX fG dN dP dR dS dF dX dG) (mY : mg "any" = none) (DI : Df K mg "is_price" sIsP ["thing"] fI dI) (DH : Df K mg "prices_hold" sHold ["net", "goal", "thing", "shut"] fH dH) (F : Fun K "are_prices" "are_prices" sAre f fd) : FnOk P w K mg base CX0 (k + 6) f fd ["net", "goal", "thing", "shut"] (spAre K) := by
  have GN : FnOk P w K mg base CX0 (k + 5) fN dN ["thing"] spChkN := ok_chkN S T.N
  have GP : FnOk P w K mg base CX0 (k + 5) fP dP ["net", "thing"] spP0 := ok_P0 (k := k + 2) S T.P
  have GS : FnOk P w K mg base CX0 (k + 5) fS dS ["net", "goal", "thing"] (spShut0 K) := ok_shut0 (k := k + 2) S T.mZ T.R T.S
  have GH : FnOk P w K mg base CX0 (k + 5) fH dH ["net", "goal", "thing", "shut"] (spHold K) := ok_hold (k := k + 2) S T mY DI DH
  refine F.ok sc_sAre (fun vs H Q E h => ?_) (fun cdv A outer s H vs Q E hr h => ?_)
  · obtain ⟨_, _, _, _, _, _, _, _, _, _, rfl, _⟩ := h
    rfl
  · obtain ⟨x, r, t, b, ts, p, rs, g, ps, ms, rfl, hh, q⟩ := h
    refine ⟨_, (pss_cons (ps_expr (pe_call GN hr (by rfl) T.N.g T.N.F.kp T.N.b .nil pass0 (pa_cons (pv 0) pa_nil)))
      (pss_cons (ps_expr (pe_call GP hr (by rfl) T.P.g T.P.F.kp T.P.b .nil pass0 (pa_cons (pv 0) (pa_cons (pv 1) pa_nil))))
      (pss_cons (ps_expr (pe_call GS hr (by rfl) T.S.g T.S.F.kp T.S.b .nil pass0 (pa_cons (pv 0) (pa_cons (pv 1) (pa_cons (pv 3) pa_nil)))))
      (pss_one (ps_ret (pe_call GH hr (by rfl) DH.g DH.F.kp DH.b .nil pass0 (pa_cons (pv 0) (pa_cons (pv 1) (pa_cons (pv 2) (pa_cons (pv 3) pa_nil)))))))))), ?_⟩
    obtain ⟨hN, ok, g0, g1, et, eb, sh, hnone, fe⟩ := id hh
    refine ⟨.ref x, rfl, x, r, ts, p, rs, rfl, hN, ok, fun H1 s1 => ?_⟩
    have h1 := hh.same s1
    refine ⟨.ref x, rfl, .int g, rfl, x, r, ts, p, rs, g, rfl, h1.1, g0, g1, ?_⟩
    refine ⟨.ref x, rfl, .int g, rfl, .ref b, rfl, x, r, ts, p, rs, g, b, ms, rfl, h1.1, sqt_same eb s1, sh, fun H2 s2 => ?_⟩
    exact ⟨.ref x, rfl, .int g, rfl, .ref t, rfl, .ref b, rfl, x, r, t, b, ts, p, rs, g, ps, ms, rfl, h1.same s2, fun H3 s3 => q _ (s1.trans (s2.trans s3))⟩
def spLess : Sp := fun vs H Q _ => ∃ (z : Addr) (v : V) (t : Addr) (ps : List (Option Int)), vs = [.ref z, v, .ref t] ∧ StOk H z ∧ H t = some (.tup (ps.map vOpt)) ∧ ps.length ≤ 1000 ∧ ∀ H' t' top, Keep z H H' → StOk H' z → 0 ≤ top → H' t' = some (.tup ((ps.map (lessO top)).map vOpt)) → Q (.ref t') H'
theorem ok_less {f fK : Addr} {fd dK : FuncData} {k : Nat} (mT : mg "tuple" = none) (mMn : mg "min" = none) (DK : Df K mg "_law_take" sTake ["_law_state_here", "_law_much"] fK dK) (D : Df K mg "_law_lesser" sLess ["_law_state_here", "_law_web", "_law_prices_here"] f fd) : FnOk P w K mg base CX0 (k + 2) f fd ["_law_state_here", "_law_web", "_law_prices_here"] spLess := by
  have GK : FnOk P w K mg base CX0 (k + 1) fK dK ["_law_state_here", "_law_much"] spTake := ok_take DK
  refine D.F.ok sc_sLess (fun vs H Q E h => ?_) (fun cdv A outer s H vs Q E hr h => ?_)
  · obtain ⟨_, _, _, _, rfl, _⟩ := h
    rfl
  · obtain ⟨z, v, t, ps, rfl, st, et, hl, q⟩ := h
    refine ⟨_, (pss_cons (ps_set (i := 3) sc_sLess.nd rfl (.inr rfl) (pe_call GK hr (by rfl) DK.g DK.F.kp DK.b .nil pass0 (pa_cons (pv 0) (pa_cons pe_int pa_nil))))
    (pss_one (ps_ret (pe_callTy call_tuple_of (by rfl) mT (by decide +kernel) (pa_cons (pe_lc (own := [("_law_price", 4)]) (g := gName 4) (tt := tYes) rfl sc_sLess.nd (pi_tup (pv 2)) (blkOk_by (N := ["_law_state_here", "_law_web", "_law_prices_here", "_law_top", "_law_price"]) (sc := defScope sLess) (by decide +kernel)) (fun _ _ _ _ _ => (pg_name (i := 4) sc_sLess.nd rfl (.inl rfl))) (fun _ _ _ _ _ => pts_nil) (fun _ _ _ _ _ => pe_ifExp (pt_cmpR op_isN (pv 4) pe_non (nomark _)) pe_non (pe_callB (call_min2 rfl) (by rfl) mMn (by decide +kernel) (pa_cons (pv 4) (pa_cons (pv 3) pa_nil))))) pa_nil))))), ?_⟩
    refine ⟨.ref z, rfl, z, 30, rfl, st, by decide, by decide, fun H1 top k1 st1 t0 t1 => ?_⟩
    have et1 := k1.tups st _ _ et
    refine ⟨.ref t, rfl, t, rfl, ⟨_, SqT.of et1⟩, fun D nD => ?_⟩
    refine lc_tup (xs := ps.map vOpt) (fun j H' => Same H1 H' ∧ H' D = some (.lst (((ps.map (lessO top)).take j).map vOpt))) ⟨same_new nD, upd_same⟩ (fun j H' _ h => SqT.of (h.1 _ _ et1)) (fun j v H' hv h => ?_) (fun H' h => ?_)
    · obtain ⟨sm, eD⟩ := h
      obtain ⟨o, e1, rfl⟩ := opt_at hv
      refine ⟨rfl, ?_⟩
      unfold tYes
      dsimp only
      rw [if_pos rfl]
      have fin : ∀ y : V, y = vOpt (lessO top o) → ∃ acc, H' D = some (.lst acc) ∧ acc.length < sizeLine ∧ (Same H1 (upd H' D (.lst (acc ++ [y]))) ∧ upd H' D (.lst (acc ++ [y])) D = some (.lst (((ps.map (lessO top)).take (j + 1)).map vOpt))) := fun y ey => by
        refine ⟨_, eD, ?_, Same.upd_lst sm nD, ?_⟩
        · rw [List.length_map, List.length_take, List.length_map]
          exact small1000 (by omega)
        · rw [upd_same, List.take_add_one, List.getElem?_map, e1, List.map_append, ey]
          rfl
      cases o with
      | none => exact ⟨.non, rfl, rfl, _, rfl, iteT (fin _ rfl)⟩
      | some v => exact ⟨.int v, rfl, rfl, _, rfl, iteF ⟨.int v, rfl, .int top, rfl, v, top, rfl, fin _ rfl⟩⟩
    · obtain ⟨sm, eD⟩ := h
      rw [List.take_of_length_le (by rw [List.length_map, List.length_map]; omega)] at eD
      refine ⟨D, _, rfl, .inl ⟨SqL.of eD, fun t' nt' => ?_⟩⟩
      have s3 := sm.trans (same_new (H := H') (o := .tup ((ps.map (lessO top)).map vOpt)) nt')
      exact q _ t' top (k1.trans (.of s3)) (st1.same s3) t0 upd_same
def spGr : Sp := fun vs H Q _ => ∃ (t u : Addr) (ps qs : List (Option Int)), vs = [.ref t, .ref u] ∧ H t = some (.tup (ps.map vOpt)) ∧ H u = some (.tup (qs.map vOpt)) ∧ ps.length = qs.length ∧ ps.length ≤ 1000 ∧ ∀ H' t', Same H H' → H' t' = some (.tup ((List.zipWith grO ps qs).map vOpt)) → Q (.ref t') H'
theorem ok_gr {f : Addr} {fd : FuncData} {k : Nat} (mT : mg "tuple" = none) (mMx : mg "max" = none) (mZ : mg "zip" = none) (D : Df K mg "_law_greater" sGr ["_law_one", "_law_other"] f fd) : FnOk P w K mg base CX0 (k + 1) f fd ["_law_one", "_law_other"] spGr := by
  refine D.F.ok sc_sGr (fun vs H Q E h => ?_) (fun cdv A outer s H vs Q E hr h => ?_)
  · obtain ⟨_, _, _, _, rfl, _⟩ := h
    rfl
  · obtain ⟨t, u, ps, qs, rfl, et, eu, hl, hlen, q⟩ := h
    refine ⟨_, (pss_one (ps_ret (pe_callTy call_tuple_of (by rfl) mT (by decide +kernel) (pa_cons (pe_lc (own := [("_law_a", 2), ("_law_b", 3)]) (g := gTup K 2 (gCons (gName 2) (gCons (gName 3) gNil))) (tt := tYes) rfl sc_sGr.nd (pi_zipA (by rfl) mZ (pa_cons (pv 0) (pa_cons (pv 1) pa_nil))) (blkOk_by (N := ["_law_one", "_law_other", "_law_a", "_law_b"]) (sc := defScope sGr) (by decide +kernel)) (fun _ _ _ _ _ => pg_tup rfl (pgs_cons (pg_name (i := 2) sc_sGr.nd rfl (.inl rfl)) (pgs_cons (pg_name (i := 3) sc_sGr.nd rfl (.inl rfl)) pgs_nil))) (fun _ _ _ _ _ => pts_nil) (fun _ _ _ _ _ => pe_ifExp (PW.pt (pw_or (pt_cmpR op_isN (pv 2) pe_non (nomark _)) (pw_or1 (pt_cmpR op_isN (pv 3) pe_non (nomark _))))) pe_non (pe_callB (call_max2 rfl) (by rfl) mMx (by decide +kernel) (pa_cons (pv 2) (pa_cons (pv 3) pa_nil))))) pa_nil)))), ?_⟩
    refine ⟨.ref t, rfl, .ref u, rfl, t, u, _, _, rfl, .inr ⟨SqT.of et, SqT.of eu, fun D nD => ?_⟩⟩
    have hz : (List.zipWith grO ps qs).length = ps.length := by rw [List.length_zipWith, ← hl, Nat.min_self]
    refine lc_it (walk_zipT (n := ps.length) (by rw [List.length_map, List.length_map, ← hl, Nat.min_self])) (fun i H' => Same H H' ∧ H' D = some (.lst (((List.zipWith grO ps qs).take i).map vOpt))) ⟨same_new nD, upd_same⟩ (fun i H' _ h => ⟨SqT.of (h.1 _ _ et), SqT.of (h.1 _ _ eu)⟩) (fun i x H' H2 hi h hy => ?_) (fun H' h => ?_)
    · obtain ⟨sm, eD⟩ := h
      obtain ⟨T, x', y', rfl, nT, rfl, hx, hy⟩ := hy
      obtain ⟨o1, e1, rfl⟩ := opt_at hx
      obtain ⟨o2, e2, rfl⟩ := opt_at hy
      refine ⟨T, _, rfl, SqT.of upd_same, rfl, _, _, rfl, _, _, rfl, rfl, rfl, ?_⟩
      unfold tYes
      dsimp only
      rw [if_pos rfl]
      have sT := same_new (H := H') (o := .tup [vOpt o1, vOpt o2]) nT
      have fin : ∀ y : V, y = vOpt (grO o1 o2) → ∃ acc, (upd H' T (.tup [vOpt o1, vOpt o2])) D = some (.lst acc) ∧ acc.length < sizeLine ∧ (Same H (upd (upd H' T (.tup [vOpt o1, vOpt o2])) D (.lst (acc ++ [y]))) ∧ upd (upd H' T (.tup [vOpt o1, vOpt o2])) D (.lst (acc ++ [y])) D = some (.lst (((List.zipWith grO ps qs).take (i + 1)).map vOpt))) := fun y ey => by
        refine ⟨_, sT _ _ eD, ?_, Same.upd_lst (sm.trans sT) nD, ?_⟩
        · rw [List.length_map, List.length_take]
          exact small1000 (by omega)
        · rw [upd_same, List.take_add_one, List.getElem?_zipWith, e1, e2, List.map_append, ey]
          rfl
      cases o1 with
      | none => exact ⟨.non, rfl, rfl, _, rfl, iteT (iteT (fin _ rfl))⟩
      | some v1 =>
        cases o2 with
        | none => exact ⟨.int v1, rfl, rfl, _, rfl, iteF ⟨.non, rfl, rfl, _, rfl, iteT (fin _ rfl)⟩⟩
        | some v2 => exact ⟨.int v1, rfl, rfl, _, rfl, iteF ⟨.int v2, rfl, rfl, _, rfl, iteF ⟨.int v1, rfl, .int v2, rfl, v1, v2, rfl, fin _ rfl⟩⟩⟩
    · obtain ⟨sm, eD⟩ := h
      rw [← hz, List.take_length] at eD
      refine ⟨D, _, rfl, .inl ⟨SqL.of eD, fun t' nt' => ?_⟩⟩
      exact q _ t' (sm.trans (same_new nt')) upd_same
end
end Wy

namespace Wy
open PySem PySem.Spec PyProof.Rows L2
abbrev sLed : Stmt := topS 43
theorem sc_sLed : FnScope ["_law_web", "_law_spot", "_law_prices_here", "_law_found", "_law_here", "_law_some", "_law_number", "_law_road"] ["_law_web", "_law_spot", "_law_prices_here"] (defScope sLed) := ⟨rfl, rfl, rfl, by decide +kernel, rfl, by decide +kernel, by decide +kernel⟩

theorem for_enumT {K : PySem.W.Frag} {a : Addr} {xs : List V} {g : TG} {tb : TS} {D : Ends} {σ : L2.St} {H : Hp} (Pv : Nat → L2.St → Hp → Prop) (h0 : Pv 0 σ H) (hl : ∀ i σ H, i ≤ xs.length → Pv i σ H → SqT K H a xs)
    (hs : ∀ i x T σ H, xs[i]? = some x → H T = none → Pv i σ H → g (.ref T) σ (upd H T (.tup [.int (i : Nat), x])) fun σ2 H2 => tb { D with nx := Pv (i + 1), ct := Pv (i + 1), bk := D.nx } σ2 H2) (hd : ∀ σ H, Pv xs.length σ H → D.nx σ H) :
    ∃ W : Nat → Nat → L2.St → Hp → Prop, (∃ m, W 0 m σ H) ∧ ∀ i m σ H, W i m σ H →
      ((ItT K a).stop i H ∧ D.nx σ H) ∨ ((ItT K a).go i H ∧ ∃ N : L2.St → Hp → Prop, (∀ σ' H', N σ' H' → ∃ m', m' < m ∧ W (i + 1) m' σ' H') ∧ ∀ x H', (ItT K a).yld i H x H' → g x σ H' fun σ2 H2 => tb { D with nx := N, ct := N, bk := D.nx } σ2 H2) := by
  refine ⟨fun i m σ H => m = xs.length - i ∧ i ≤ xs.length ∧ Pv i σ H, ⟨xs.length, by simp, Nat.zero_le _, h0⟩, ?_⟩
  rintro i m σ H ⟨rfl, hi, p⟩
  have s := hl i σ H hi p
  by_cases hlt : i < xs.length
  · refine .inr ⟨⟨xs, xs[i], s, List.getElem?_eq_getElem hlt⟩, Pv (i + 1), fun σ' H' p' => ⟨xs.length - (i + 1), by omega, rfl, hlt, p'⟩, fun x H' y => ?_⟩
    obtain ⟨T, v, rfl, nT, rfl, hv⟩ := y
    exact hs i v T σ H (hv xs s) nT p
  · have e : i = xs.length := by omega
    subst e
    exact .inl ⟨⟨xs, s, Nat.le_refl _⟩, hd σ H p⟩
/-- how many places have a greater price -/
def above (p : Int) (ps : List (Option Int)) (v : Int) : Nat := ((List.range p.toNat).filter fun (a : Nat) => match at' ps (a : Int) with | some u => decide (v < u) | none => false).length
theorem above_le (p : Int) (ps : List (Option Int)) (v : Int) : above p ps v ≤ p.toNat := by
  unfold above
  refine Nat.le_trans (List.length_filter_le _ _) ?_
  rw [List.length_range]
  exact Nat.le_refl _
theorem filter_more {P Q : Nat → Bool} (h : ∀ a, P a = true → Q a = true) (b : Nat) (hb : Q b = true) (hn : P b = false) : ∀ n, b < n → ((List.range n).filter P).length + 1 ≤ ((List.range n).filter Q).length
  | 0, z => absurd z (Nat.not_lt_zero _)
  | n + 1, z => by
    have le : ∀ m, ((List.range m).filter P).length ≤ ((List.range m).filter Q).length := fun m => by
      induction m with
      | zero => exact Nat.le_refl _
      | succ m ih =>
        rw [List.range_succ, List.filter_append, List.filter_append, List.length_append, List.length_append]
        refine Nat.add_le_add ih ?_
        rw [List.filter_cons, List.filter_cons]
        by_cases e : P m = true
        · rw [if_pos e, if_pos (h m e)]
          exact Nat.le_refl _
        · rw [if_neg e]
          exact Nat.zero_le _
    rw [List.range_succ, List.filter_append, List.filter_append, List.length_append, List.length_append]
    by_cases e : b = n
    · subst e
      have := le b
      rw [List.filter_cons, List.filter_cons, if_pos hb, if_neg (by rw [hn]; decide)]
      show _ + 0 + 1 ≤ _ + 1
      omega
    · have ih := filter_more h b hb hn n (by omega)
      have l2 : ([n].filter P).length ≤ ([n].filter Q).length := by
        rw [List.filter_cons, List.filter_cons]
        by_cases k : P n = true
        · rw [if_pos k, if_pos (h n k)]
          exact Nat.le_refl _
        · rw [if_neg k]
          exact Nat.zero_le _
      omega
theorem above_more {p : Int} {ps : List (Option Int)} {b u v : Int} (hb : In p b) (e : at' ps b = some u) (h : v < u) : above p ps u + 1 ≤ above p ps v := by
  obtain ⟨b0, b1⟩ := hb
  refine filter_more (fun a ha => ?_) b.toNat ?_ ?_ p.toNat (by omega)
  · cases k : at' ps (a : Int) with
    | none =>
      rw [k] at ha
      cases ha
    | some x =>
      rw [k] at ha
      have := of_decide_eq_true ha
      exact decide_eq_true (by omega)
  · have : at' ps (b.toNat : Int) = some u := by
      unfold at' at e ⊢
      rw [Int.toNat_natCast]
      exact e
    rw [this]
    exact decide_eq_true h
  · have : at' ps (b.toNat : Int) = some u := by
      unfold at' at e ⊢
      rw [Int.toNat_natCast]
      exact e
    rw [this]
    exact decide_eq_false (Int.lt_irrefl _)
/-- a road by which the price falls by its cost -/
def goodR (ps : List (Option Int)) (here v : Int) (q : Road) : Bool := decide (q.one = here) && (match at' ps q.other with | some u => decide (v = q.cost + u) | none => false)
def goods (ps : List (Option Int)) (rs : List Road) (here v : Int) (n : Nat) : List Int := ((List.range n).filter fun i => match rs[i]? with | some q => goodR ps here v q | none => false).map fun (i : Nat) => (i : Int)
theorem goods_len (ps : List (Option Int)) (rs : List Road) (here v : Int) (n : Nat) : (goods ps rs here v n).length ≤ n := by
  unfold goods
  rw [List.length_map]
  refine Nat.le_trans (List.length_filter_le _ _) ?_
  rw [List.length_range]
  exact Nat.le_refl _
theorem goods_next {ps : List (Option Int)} {rs : List Road} {here v : Int} {n : Nat} {q : Road} (e : rs[n]? = some q) : goods ps rs here v (n + 1) = goods ps rs here v n ++ (if goodR ps here v q = true then [(n : Int)] else []) := by
  unfold goods
  rw [List.range_succ, List.filter_append, List.map_append]
  congr 1
  rw [List.filter_cons]
  simp only [e]
  split <;> rfl
theorem goods_mem {ps : List (Option Int)} {rs : List Road} {here v : Int} {m : Int} (h : m ∈ goods ps rs here v rs.length) : ∃ (i : Nat) (q : Road) (u : Int), m = (i : Int) ∧ rs[i]? = some q ∧ q.one = here ∧ at' ps q.other = some u ∧ v = q.cost + u := by
  obtain ⟨i, hi, rfl⟩ := List.mem_map.mp h
  have h2 := (List.mem_filter.mp hi).2
  cases e : rs[i]? with
  | none =>
    simp only [e] at h2
    cases h2
  | some q =>
    simp only [e] at h2
    unfold goodR at h2
    rw [Bool.and_eq_true] at h2
    cases k : at' ps q.other with
    | none =>
      simp only [k] at h2
      cases h2.2
    | some u =>
      simp only [k] at h2
      exact ⟨i, q, u, rfl, e ▸ rfl, of_decide_eq_true h2.1, k, of_decide_eq_true h2.2⟩
theorem goods_ne {p : Int} {ps : List (Option Int)} {rs : List Road} (F : Fr p rs) {g here v : Int} (D : Dist p rs g (at' ps)) (hg : In p g) (hl : ps.length = p.toNat) (hh : In p here) (e : at' ps here = some v) (h0 : 0 < v) : goods ps rs here v rs.length ≠ [] := by
  have fe := D.feas F hg hl
  obtain ⟨n, w⟩ := D.sound here v hh e
  cases w with
  | nil _ => exact absurd h0 (Int.lt_irrefl _)
  | @cons q v' n hq _ w =>
    obtain ⟨u, h1, h2⟩ := D.least _ _ _ w
    obtain ⟨x, h3, h4⟩ := fe.road q hq u h1
    rw [e] at h3
    cases h3
    have hu : u = v' := by omega
    subst hu
    obtain ⟨i, hi⟩ := List.mem_iff_getElem?.mp hq
    intro z
    have hm : (i : Int) ∈ goods ps rs q.one (q.cost + u) rs.length := by
      refine List.mem_map.mpr ⟨i, List.mem_filter.mpr ⟨List.mem_range.mpr (List.getElem?_eq_some_iff.mp hi).1, ?_⟩, rfl⟩
      simp only [hi]
      unfold goodR
      simp only [h1]
      rfl
    rw [z] at hm
    cases hm
theorem costOf_snoc (qs : List Road) (q : Road) : costOf (qs ++ [q]) = costOf qs + q.cost := by
  unfold costOf
  rw [List.map_append, List.sum_append]
  simp
section
variable {P : Program} {w : World} {K : PySem.W.Frag} {mg : Str → Option Value} {base : Heap}
def spLed (K : PySem.W.Frag) : Sp := fun vs H Q _ => ∃ (x r t : Addr) (ts : List Addr) (p : Int) (rs : List Road) (g a c : Int) (ps : List (Option Int)), vs = [.ref x, .int a, .ref t] ∧ NetAt H x r ts p rs ∧ NetOk p rs ∧ In p g ∧ In p a ∧ H t = some (.tup (ps.map vOpt)) ∧ ps.length = p.toNat ∧ Dist p rs g (at' ps) ∧ at' ps a = some c ∧
  ∀ (H' : Hp) (b : Addr) (ms : List Int) (qs : List Road), Same H H' → H' b = some (.tup (ms.map V.int)) → ms.length ≤ 11 → goes rs a (ms.map V.int) = some qs → lastOf a qs = g → costOf qs = c → Q (.ref b) H'
set_option maxHeartbeats 4000000 in
theorem ok_led {f : Addr} {fd : FuncData} {k : Nat} (mE : mg "enumerate" = none) (ml : mg "len" = none) (D : Df K mg "_law_led" sLed ["_law_web", "_law_spot", "_law_prices_here"] f fd) : FnOk P w K mg base CX0 (k + 1) f fd ["_law_web", "_law_spot", "_law_prices_here"] (spLed K) := by
  refine D.F.ok sc_sLed (fun vs H Q E h => ?_) (fun cdv A outer s H vs Q E hr h => ?_)
  · obtain ⟨_, _, _, _, _, _, _, _, _, _, rfl, _⟩ := h
    rfl
  · obtain ⟨x, r, t, ts, p, rs, g, a, c, ps, rfl, hN, ok, hg, ha, et, hl, di, ec, q⟩ := h
    refine ⟨_, (pss_cons (ps_par (i := 3) (j := 4) (by rfl) sc_sLed.nd rfl rfl (by decide) rfl rfl (pa_cons (pe_tup pa_nil) (pa_cons (pv 1) pa_nil)) (by rfl))
    (pss_cons (ps_while PassesOwn.never (pt_cmpR op_gt (pe_ix (ix_tupK (K := K) rfl) (pv 2) (pv 4) (fun _ _ => rfl)) pe_int (nomark _)) (pss_cons (ps_set (i := 5) sc_sLed.nd rfl (.inl rfl) (pe_lst pa_nil))
    (pss_cons (ps_for PassesOwn.never rfl (pi_enumT (by rfl) mE (pa_cons (pe_ix (ix_tupK (K := K) rfl) (pv 0) pe_int (fun _ _ => rfl)) pa_nil)) (pg_tup (by rfl) (pgs_cons (pg_name (i := 6) sc_sLed.nd rfl (.inl rfl)) (pgs_cons (pg_name (i := 7) sc_sLed.nd rfl (.inl rfl)) pgs_nil))) (pss_one (ps_if (PW.pt (pw_and (pt_cmpR op_eq (pe_ix (ix_tupK (K := K) rfl) (pv 7) pe_int (fun _ _ => rfl)) (pv 4) (nomark _)) (pw_and (pt_cmpR op_notN (pe_ix (ix_tupK (K := K) rfl) (pv 2) (pe_ix (ix_tupK (K := K) rfl) (pv 7) pe_int (fun _ _ => rfl)) (fun _ _ => rfl)) pe_non (nomark _)) (pw_and1 (pt_cmpR op_eq (pe_ix (ix_tupK (K := K) rfl) (pv 2) (pv 4) (fun _ _ => rfl)) (pe_op op_add (pe_ix (ix_tupK (K := K) rfl) (pv 7) pe_int (fun _ _ => rfl)) (pe_ix (ix_tupK (K := K) rfl) (pv 2) (pe_ix (ix_tupK (K := K) rfl) (pv 7) pe_int (fun _ _ => rfl)) (fun _ _ => rfl))) (nomark _)))))) (pss_one (ps_expr (pe_bm PySem.F.plainAttrs_list PySem.F.slot_list_append PySem.F.type_list_append mt_append (pv 5) (pa_cons (pv 6) pa_nil)))) pss_nil)))
    (pss_cons (ps_if (PW.pt (pw_or (pt_cmpR (op_eqD hr.units) (pv 5) (pe_lst pa_nil) (nomark _)) (pw_or1 (pt_cmpR op_gt (pe_callB call_len_seq (by rfl) ml PySem.boot_len (pa_cons (pv 3) pa_nil)) pe_int (nomark _))))) (pss_one (ps_ret pe_non)) pss_nil)
    (pss_cons (ps_set (i := 3) sc_sLed.nd rfl (.inl rfl) (pe_op op_catA (pv 3) (pe_tup (pa_cons (pe_ix ix_list (pv 5) (pe_un un_neg pe_int) (fun _ _ => rfl)) pa_nil))))
    (pss_one (ps_set (i := 4) sc_sLed.nd rfl (.inl rfl) (pe_ix (ix_tupK (K := K) rfl) (pe_ix (ix_tupK (K := K) rfl) (pe_ix (ix_tupK (K := K) rfl) (pv 0) pe_int (fun _ _ => rfl)) (pe_ix ix_list (pv 5) (pe_un un_neg pe_int) (fun _ _ => rfl)) (fun _ _ => rfl)) pe_int (fun _ _ => rfl)))))))))
    (pss_one (ps_ret (pv 3))))), ?_⟩
    have F : Fr p rs := free_nil rs ▸ fr_of ok []
    have fe := di.feas F hg hl
    have p2 := ok.p2
    refine ⟨Nat.zero_le _, fun b0 nb0 => ⟨.int a, rfl, _, _, rfl, ?_⟩⟩
    let IV : Nat → L2.St → Hp → Prop := fun m σ' H' => ∃ (b : Addr) (ms : List Int) (qs : List Road) (here v : Int) (y5 y6 y7 : Option V), σ' = [some (.ref x), some (.int a), some (.ref t), some (.ref b), some (.int here), y5, y6, y7] ∧ Same H H' ∧ H' b = some (.tup (ms.map V.int)) ∧ goes rs a (ms.map V.int) = some qs ∧ lastOf a qs = here ∧ In p here ∧ at' ps here = some v ∧ costOf qs + v = c ∧ ms.length ≤ above p ps v ∧ v.toNat = m
    refine ⟨IV, ⟨c.toNat, b0, [], [], a, c, none, none, none, rfl, same_new nb0, upd_same, rfl, rfl, ha, ec, by show 0 + c = c; omega, Nat.zero_le _, rfl⟩, ?_⟩
    rintro m σ' H' ⟨b, ms, qs, here, v, y5, y6, y7, rfl, sm, eb, eg, hlast, hh, ev, hc, hab, hm⟩
    obtain ⟨h0, h1⟩ := id hh
    have et' := sm _ _ et
    have hN' : NetAt H' x r ts p rs := hN.keep fun b xs h => sm _ _ h
    have av : ∀ o, at' ps here = o → atI (ps.map vOpt) here = some (vOpt o) := fun o e => e ▸ at_optI h0 (by omega)
    refine ⟨.ref t, rfl, .int here, rfl, t, _, here, _, rfl, rfl, SqT.of et', av _ ev, v, 0, rfl, rfl, _, rfl, ite2 (fun hv => ?_) (fun hv => ?_)⟩
    · have hv : (0 : Int) < v := of_decide_eq_true hv
      refine ⟨fun σ2 H2 => ∃ m', m' < m ∧ IV m' σ2 H2, fun σ2 H2 h => h, ?_⟩
      refine ⟨Nat.zero_le _, fun L nL => ?_⟩
      have sL := same_new (H := H') (o := .lst []) nL
      refine ⟨.ref x, rfl, x, _, 1, _, rfl, rfl, SqT.of (sL _ _ hN'.1), rfl, r, _, rfl, SqT.of (sL _ _ hN'.2.1), ?_⟩
      refine for_enumT (xs := ts.map V.ref) (fun i σ G => ∃ y6 y7 : Option V, σ = [some (.ref x), some (.int a), some (.ref t), some (.ref b), some (.int here), some (.ref L), y6, y7] ∧ Same H' G ∧ G L = some (.lst ((goods ps rs here v i).map V.int))) ⟨y6, y7, rfl, sL, upd_same⟩ (fun i σ G _ h => ?_) (fun i w T σ G hw nT h => ?_) (fun σ G h => ?_)
      · obtain ⟨_, _, _, sG, _⟩ := h
        exact SqT.of (sG _ _ hN'.2.1)
      · obtain ⟨z6, z7, rfl, sG, eL⟩ := h
        rw [List.getElem?_map] at hw
        obtain ⟨u, e1, rfl⟩ := Option.map_eq_some_iff.mp hw
        obtain ⟨rd, e2, e3⟩ := hN'.2.2.get e1
        have hi := (List.getElem?_eq_some_iff.mp e2).1
        have l30 := ok.len
        have gl := goods_len ps rs here v i
        have o := ok.all rd (List.mem_of_getElem? e2)
        have o3 := o.t1
        have o4 := o.t2
        have sT := same_new (H := G) (o := .tup [.int (i : Nat), .ref u]) nT
        have sGT := sG.trans sT
        have e3' := sGT _ _ e3
        have et2 := sGT _ _ et'
        have eL2 := sT _ _ eL
        refine ⟨T, _, rfl, SqT.of upd_same, rfl, .int (i : Nat), _, rfl, .ref u, _, rfl, rfl, ?_⟩
        have skip : goodR ps here v rd = false → ∃ y6 y7 : Option V, ([some (.ref x), some (.int a), some (.ref t), some (.ref b), some (.int here), some (.ref L), some (.int (i : Nat)), some (.ref u)] : L2.St) = [some (.ref x), some (.int a), some (.ref t), some (.ref b), some (.int here), some (.ref L), y6, y7] ∧ Same H' (upd G T (.tup [.int (i : Nat), .ref u])) ∧ (upd G T (.tup [.int (i : Nat), .ref u])) L = some (.lst ((goods ps rs here v (i + 1)).map V.int)) := fun hf => by
          refine ⟨_, _, rfl, sGT, ?_⟩
          rw [goods_next e2, hf, if_neg (by decide), List.append_nil]
          exact eL2
        refine ⟨.ref u, rfl, u, _, 0, .int rd.one, rfl, rfl, SqT.of e3', rfl, .int here, rfl, rfl, _, rfl, ite2 (fun k1 => ?_) (fun k1 => ?_)⟩
        · have k1 : rd.one = here := V.int.inj (of_decide_eq_true k1)
          refine ⟨.ref t, rfl, .ref u, rfl, u, _, 1, .int rd.other, rfl, rfl, SqT.of e3', rfl, t, _, rd.other, _, rfl, rfl, SqT.of et2, at_optI o3 (by omega), rfl, _, rfl, ?_⟩
          cases k2 : at' ps rd.other with
          | none =>
            refine iteF (iteF (skip ?_))
            unfold goodR
            simp only [k2]
            rw [Bool.and_false]
          | some y =>
            refine iteT ?_
            refine ⟨.ref t, rfl, .int here, rfl, t, _, here, _, rfl, rfl, SqT.of et2, av _ ev, .ref u, rfl, u, _, 2, .int rd.cost, rfl, rfl, SqT.of e3', rfl, .ref t, rfl, .ref u, rfl, u, _, 1, .int rd.other, rfl, rfl, SqT.of e3', rfl, t, _, rd.other, _, rfl, rfl, SqT.of et2, (by rw [at_optI o3 (by omega), k2]; rfl), _, y, rfl, rfl, rfl, _, rfl, ite2 (fun k3 => ?_) (fun k3 => ?_)⟩
            · have k3 : v = rd.cost + y := V.int.inj (of_decide_eq_true k3)
              have hg2 : goodR ps here v rd = true := by
                unfold goodR
                simp only [k2]
                rw [decide_eq_true k1, decide_eq_true k3]
                rfl
              refine ⟨.ref L, rfl, .inl ⟨rfl, _, SqL.of eL2⟩, .int (i : Nat), rfl, L, _, _, rfl, rfl, eL2, ?_, _, _, rfl, ?_, ?_⟩
              · rw [List.length_map]
                exact small1000 (by omega)
              · exact fun c' o' e => by
                  rw [upd_ne (ne_of_none e nL)]
                  exact sGT _ _ e
              · rw [upd_same, goods_next e2, hg2, if_pos rfl, List.map_append]
                rfl
            · refine skip ?_
              have k3 : ¬ v = rd.cost + y := fun z => k3 (decide_eq_true (by rw [z]; rfl))
              unfold goodR
              simp only [k2]
              rw [decide_eq_false k3, Bool.and_false]
        · refine iteF (skip ?_)
          have k1 : ¬ rd.one = here := fun z => k1 (decide_eq_true (by rw [z]))
          unfold goodR
          rw [decide_eq_false k1, Bool.false_and]
      obtain ⟨z6, z7, rfl, sG, eL⟩ := h
      rw [List.length_map, hN'.2.2.len] at eL
      have ne := goods_ne F di hg hl hh ev hv
      have gl := goods_len ps rs here v rs.length
      have l30 := ok.len
      obtain ⟨gs, hgs⟩ : ∃ gs, gs = goods ps rs here v rs.length := ⟨_, rfl⟩
      rw [← hgs] at eL ne gl
      refine ⟨.ref L, rfl, Nat.zero_le _, fun l0 nl0 => ?_⟩
      have z0 := same_new (H := G) (o := .lst []) nl0
      refine ⟨.list (gs.map PyData.int), .list [], .lst (SqL.of (z0 _ _ eL)) (ints_dp gs), .lst (SqL.of upd_same) .nil, ints_shaped gs, by decide +kernel, _, rfl, ?_⟩
      have hne : PyData.eqv (.list (gs.map PyData.int)) (.list []) = false := by
        cases gs with
        | nil => exact absurd rfl ne
        | cons c r => rfl
      rw [hne]
      refine iteF ?_
      have sZ := sG.trans z0
      have eb2 := sZ _ _ eb
      have ab := above_le p ps v
      refine ⟨.ref b, rfl, b, _, rfl, .inr (SqT.of eb2), _, 10, rfl, rfl, _, rfl, ?_⟩
      rw [List.length_map, decide_eq_false (show ¬ ((10 : Int) < (ms.length : Int)) by omega)]
      refine iteF ?_
      -- the last of them
      have eLz := z0 _ _ eL
      have glast : gs = gs.dropLast ++ [gs.getLast ne] := (List.dropLast_concat_getLast ne).symm
      have atl : atI (gs.map V.int) (-1) = some (.int (gs.getLast ne)) := by
        conv => lhs; rw [glast, List.map_append]
        exact atI_last _ _
      have hmem : ∀ m, m ∈ gs → m ∈ goods ps rs here v rs.length := fun m h => hgs ▸ h
      obtain ⟨i, rd, u, hi, e2, k1, k2, k3⟩ := goods_mem (hmem _ (List.getLast_mem ne))
      obtain ⟨t', rd', f1, f2, f3⟩ := road_at hN'.2.2 (List.getElem?_eq_some_iff.mp e2).1
      rw [e2] at f2
      cases f2
      have o := ok.all rd (List.mem_of_getElem? e2)
      refine ⟨.ref b, rfl, .ref L, rfl, 1, rfl, L, _, -1, _, rfl, rfl, SqL.of eLz, atl, by show 1 ≤ sizeLine; decide, fun t1 nt1 => ?_⟩
      rw [hi]
      have s1 := same_new (H := upd G l0 (.lst [])) (o := .tup [.int (i : Nat)]) nt1
      have sA := sm.trans (sZ.trans s1)
      have fin : ∀ G5 b5, Same (upd (upd G l0 (.lst [])) t1 (.tup [.int (i : Nat)])) G5 → G5 b5 = some (.tup ((ms ++ [(i : Int)]).map V.int)) → True → ∃ m', m' < m ∧ IV m' [some (.ref x), some (.int a), some (.ref t), some (.ref b5), some (.int rd.other), some (.ref L), z6, z7] G5 := fun G5 b5 s5 e5 _ => by
        have hlt : u.toNat < m := by
          have := o.c1
          have := fe.pos _ u k2
          omega
        refine ⟨u.toNat, hlt, b5, ms ++ [(i : Int)], qs ++ [rd], rd.other, u, some (.ref L), z6, z7, rfl, sA.trans s5, e5, ?_, lastOf_snoc _ _ _, F.t rd (List.mem_of_getElem? e2), k2, ?_, ?_, rfl⟩
        · rw [List.map_append]
          show goes rs a (ms.map V.int ++ [.int (i : Int)]) = _
          rw [goes_snoc, eg]
          show (step rs (lastOf a qs) (.int (i : Int))).map _ = _
          rw [step_int rs e2, hlast, if_pos k1]
          rfl
        · rw [costOf_snoc]
          omega
        · rw [List.length_append, List.length_singleton]
          have := above_more (v := u) hh ev (by have := o.c1; omega)
          omega
      refine ⟨b, t1, _, _, rfl, rfl, SqT.of (s1 _ _ eb2), SqT.of upd_same, ?_, fun hx => ?_, fun _ hy => absurd hy (List.cons_ne_nil _ _), fun hx _ b5 nb5 => ?_⟩
      · rw [List.length_map]
        show _ + 1 ≤ sizeLine
        exact Nat.le_of_lt (small1000 (by omega))
      · have hms : ms = [] := List.map_eq_nil_iff.mp hx
        have hNe : NetAt (upd (upd G l0 (.lst [])) t1 (.tup [.int (i : Nat)])) x r ts p rs := hN.keep fun b xs h => sA _ _ h
        refine ⟨.ref x, rfl, x, _, 1, _, rfl, rfl, SqT.of hNe.1, rfl, .ref L, rfl, 1, rfl, L, _, -1, _, rfl, rfl, SqL.of (s1 _ _ eLz), atl, r, _, _, .ref t', rfl, rfl, SqT.of hNe.2.1, (by rw [hi]; exact atI_nat (ref_at f1)), t', _, 1, _, rfl, rfl, SqT.of (s1 _ _ (sZ _ _ f3)), rfl, ?_⟩
        refine fin _ t1 (Same.refl _) ?_ trivial
        rw [hms]
        exact upd_same
      · have s5 := same_new (H := upd (upd G l0 (.lst [])) t1 (.tup [.int (i : Nat)])) (o := .tup (ms.map V.int ++ [.int (i : Nat)])) nb5
        have hNe : NetAt (upd (upd (upd G l0 (.lst [])) t1 (.tup [.int (i : Nat)])) b5 (.tup (ms.map V.int ++ [.int (i : Nat)]))) x r ts p rs := hN.keep fun b xs h => s5 _ _ (sA _ _ h)
        refine ⟨.ref x, rfl, x, _, 1, _, rfl, rfl, SqT.of hNe.1, rfl, .ref L, rfl, 1, rfl, L, _, -1, _, rfl, rfl, SqL.of (s5 _ _ (s1 _ _ eLz)), atl, r, _, _, .ref t', rfl, rfl, SqT.of hNe.2.1, (by rw [hi]; exact atI_nat (ref_at f1)), t', _, 1, _, rfl, rfl, SqT.of (s5 _ _ (s1 _ _ (sZ _ _ f3))), rfl, ?_⟩
        refine fin _ b5 s5 ?_ trivial
        rw [upd_same, List.map_append]
        rfl
    · have hv : ¬ (0 : Int) < v := fun z => hv (decide_eq_true z)
      have v0 : v = 0 := by
        have := fe.pos _ v ev
        omega
      have hg' : here = g := by
        obtain ⟨n, w⟩ := di.sound here v hh ev
        cases w with
        | nil _ => rfl
        | @cons q' v' n hq _ w =>
          have := F.c q' hq
          have := w.nonneg F
          omega
      have ab := above_le p ps v
      exact ⟨.ref b, rfl, q _ b ms qs sm eb (by omega) eg (hlast.trans hg') (by omega)⟩
end
end Wy

namespace Wy
open PySem PySem.Spec PyProof.Rows L2
abbrev sLSh : Stmt := topS 41
theorem sc_sLSh : FnScope ["_law_state_here", "_law_web", "_law_aim", "_law_often", "_law_spot"] ["_law_state_here", "_law_web", "_law_aim"] (defScope sLSh) := ⟨rfl, rfl, rfl, by decide +kernel, rfl, by decide +kernel, by decide +kernel⟩
def gP2 (us ws : List Value) : List Value := match us, ws with
  | [n, g], [s] => [n, g, s]
  | _, _ => []
def gP2V (us ws : List V) : List V := match us, ws with
  | [n, g], [s] => [n, g, s]
  | _, _ => []

theorem rise_of : ∀ {ms : List Int}, ms.Pairwise (· < ·) → riseB ms = true
  | [], _ => rfl
  | [_], _ => rfl
  | a :: b :: r, h => by
    have h1 : a < b := (List.pairwise_cons.mp h).1 b (List.mem_cons_self ..)
    have h2 := rise_of (List.pairwise_cons.mp h).2
    unfold riseB at h2 ⊢
    show (decide (a < b) && _) = true
    rw [decide_eq_true h1, Bool.true_and]
    exact h2
section
variable {P : Program} {w : World} {K : PySem.W.Frag} {mg : Str → Option Value} {base : Heap}
theorem kw_prices {f : Addr} {fd : FuncData} (F : Fun K "prices_of" "prices_of" sPrices f fd) : KBinds K fd ["net", "goal", "shut"] ["shut"] gP2 gP2V := by
  obtain ⟨oc, od, kV, doc, pm, an, cdv, ct, osl, rfl, lk, hcd⟩ := F.ex
  refine ⟨fun s us ws _ hl => ?_, fun {vs us zs ws} r rz => ?_⟩
  · match us, ws, hl with
    | [n, g], [s], _ => exact .of_eq rfl
  · match r, rz with
    | .cons a (.cons b .nil), .cons c .nil => exact .cons a (.cons b (.cons c .nil))
    | .nil, _ => exact .nil
    | .cons _ .nil, _ => exact .nil
    | .cons _ (.cons _ (.cons _ _)), _ => exact .nil
    | .cons _ (.cons _ .nil), .nil => exact .nil
    | .cons _ (.cons _ .nil), .cons _ (.cons _ _) => exact .nil

theorem df_prices {f T : Addr} {fd : FuncData} (F : FunD K "prices_of" "prices_of" (defArgs sPrices) (defBody sPrices) (defScope sPrices) [] [("shut", .ref T)] f fd) : ∃ ds, Vals [.ref T] ds ∧ Binds K fd ["net", "goal", "shut"] ds :=
  F.binds0 2 (List.cons_ne_nil _ _) rfl fun D doc pm an cdv ct us ks hu hk => match us, ks, hu, hk with
    | [a, b], [c], _, _ => ⟨_, _, _, _, _, _, rfl, rfl, rfl⟩
def spLSh : Sp := fun vs H Q _ => ∃ (z x r : Addr) (ts : List Addr) (p : Int) (rs : List Road) (g : Int), vs = [.ref z, .ref x, .int g] ∧ StOk H z ∧ NetAt H x r ts p rs ∧ NetOk p rs ∧ ∀ H' t ms, Keep z H H' → StOk H' z → H' t = some (.tup (ms.map V.int)) → ShutOk p g ms → Q (.ref t) H'
theorem ok_lsh {f fK : Addr} {fd dK : FuncData} {k : Nat} (mR : mg "range" = none) (mT : mg "tuple" = none) (DK : Df K mg "_law_take" sTake ["_law_state_here", "_law_much"] fK dK) (D : Df K mg "_law_shut" sLSh ["_law_state_here", "_law_web", "_law_aim"] f fd) : FnOk P w K mg base CX0 (k + 2) f fd ["_law_state_here", "_law_web", "_law_aim"] spLSh := by
  have GK : FnOk P w K mg base CX0 (k + 1) fK dK ["_law_state_here", "_law_much"] spTake := ok_take DK
  refine D.F.ok sc_sLSh (fun vs H Q E h => ?_) (fun cdv A outer s H vs Q E hr h => ?_)
  · obtain ⟨_, _, _, _, _, _, _, rfl, _⟩ := h
    rfl
  · obtain ⟨z, x, r, ts, p, rs, g, rfl, st, hN, ok, q⟩ := h
    refine ⟨_, (pss_cons (ps_set (i := 3) sc_sLSh.nd rfl (.inr rfl) (pe_op op_add pe_int (pe_call GK hr (by rfl) DK.g DK.F.kp DK.b .nil pass0 (pa_cons (pv 0) (pa_cons pe_int pa_nil)))))
    (pss_one (ps_ret (pe_callTy call_tuple_of (by rfl) mT (by decide +kernel) (pa_cons (pe_lc (own := [("_law_spot", 4)]) (g := gName 4) rfl sc_sLSh.nd (pi_range1 (by rfl) mR (pa_cons (pe_ix (ix_tupK (K := K) rfl) (pv 1) pe_int (fun _ _ => rfl)) pa_nil)) (blkOk_by (N := ["_law_state_here", "_law_web", "_law_aim", "_law_often", "_law_spot"]) (sc := defScope sLSh) (by decide +kernel)) (fun _ _ _ _ _ => (pg_name (i := 4) sc_sLSh.nd rfl (.inl rfl))) (fun _ _ _ _ _ => pts_one (PW.pt (pw_and (pt_cmpR op_ne (pv 4) (pv 2) (nomark _)) (pw_and1 (pt_cmpR op_eq (pe_call GK hr (by rfl) DK.g DK.F.kp DK.b .nil pass0 (pa_cons (pv 0) (pa_cons (pv 3) pa_nil))) pe_int (nomark _)))))) (fun _ _ _ _ _ => pv 4)) pa_nil))))), ?_⟩
    have p1 := ok.p1
    have p2 := ok.p2
    refine ⟨.ref z, rfl, z, 5, rfl, st, by decide, by decide, fun H1 o k1 st1 o0 o1 => ⟨1, o, rfl, rfl, ?_⟩⟩
    have hN1 := hN.keep (k1.tups st)
    refine ⟨.ref x, rfl, x, _, 0, _, rfl, rfl, SqT.of hN1.1, rfl, p, rfl, by omega, by omega, fun D nD => ?_⟩
    have Dz : D ≠ z := (st1.ne nD).symm
    have s2 := same_new (H := H1) (o := .lst []) nD
    refine lc_range (lo := 0) (n := p.toNat) (fun i G => Keep z H1 G ∧ StOk G z ∧ ∃ ms : List Int, G D = some (.lst (ms.map V.int)) ∧ (∀ m ∈ ms, 0 ≤ m ∧ m < i ∧ m ≠ g) ∧ ms.Pairwise (· < ·) ∧ ms.length ≤ i) ⟨.of s2, st1.same s2, [], upd_same, (fun _ h => nomatch h), .nil, Nat.le_refl _⟩ (fun i G hi h => ?_) (fun G h => ?_)
    · obtain ⟨kG, sG, ms, eD, hms, hp, hl⟩ := h
      refine ⟨rfl, ?_⟩
      refine ⟨.int (0 + (i : Int)), rfl, .int g, rfl, rfl, _, rfl, ite2 (fun hne => ?_) (fun hne => ?_)⟩
      · have hne : (i : Int) ≠ g := fun e => by
          rw [← e, Int.zero_add, decide_eq_true rfl] at hne
          cases hne
        refine ⟨.ref z, rfl, .int (1 + o), rfl, z, _, rfl, sG, by omega, by omega, fun G2 n k2 st2 n0 n1 => ⟨rfl, _, rfl, ?_⟩⟩
        have eD2 := k2 _ _ eD Dz
        have k3 := kG.trans k2
        refine ite2 (fun h1 => ?_) (fun h1 => ?_)
        · refine ⟨.int (0 + (i : Int)), rfl, _, eD2, ?_, fun c u hc hz => ?_, ?_, ms ++ [(i : Int)], ?_, fun m hm => ?_, ?_, ?_⟩
          · rw [List.length_map]
            exact small1000 (by omega)
          · rw [upd_ne (ne_of_none hc nD)]
            exact k3 _ _ hc hz
          · obtain ⟨xx, yy, e1, e2⟩ := st2
            exact ⟨xx, yy, by rw [upd_ne Dz.symm]; exact e1, e2⟩
          · rw [upd_same, List.map_append, Int.zero_add]
            rfl
          · rcases List.mem_append.mp hm with h | h
            · have := hms m h
              omega
            · rw [List.mem_singleton.mp h]
              omega
          · rw [List.pairwise_append]
            refine ⟨hp, List.pairwise_singleton _ _, fun a ha b hb => ?_⟩
            rw [List.mem_singleton.mp hb]
            exact (hms a ha).2.1
          · rw [List.length_append, List.length_singleton]
            omega
        · exact ⟨k3, st2, ms, eD2, fun m hm => by have := hms m hm; omega, hp, by omega⟩
      · exact iteF ⟨kG, sG, ms, eD, fun m hm => by have := hms m hm; omega, hp, by omega⟩
    · obtain ⟨kG, sG, ms, eD, hms, hp, hl⟩ := h
      refine ⟨D, _, rfl, .inl ⟨SqL.of eD, fun t nt => ?_⟩⟩
      have s3 := same_new (H := G) (o := .tup (ms.map V.int)) nt
      exact q _ t ms (k1.trans (kG.trans (.of s3))) (sG.same s3) upd_same ⟨fun m hm => by have := hms m hm; omega, rise_of hp, by omega⟩

theorem df_are {f T : Addr} {fd : FuncData} (F : FunD K "are_prices" "are_prices" (defArgs sAre) (defBody sAre) (defScope sAre) [] [("shut", .ref T)] f fd) : ∃ ds, Vals [.ref T] ds ∧ Binds K fd ["net", "goal", "thing", "shut"] ds :=
  F.binds0 3 (List.cons_ne_nil _ _) rfl fun D doc pm an cdv ct us ks hu hk => match us, ks, hu, hk with
    | [a, b, e], [c], _, _ => ⟨_, _, _, _, _, _, rfl, rfl, rfl⟩
end
end Wy

namespace Wy
open PySem PySem.Spec PyProof.Rows L2
abbrev sWR : Stmt := topS 46
theorem sc_sWR : FnScope ["_law_state_here", "_law_web", "_law_aim", "_law_some", "_law_turn", "_law_spot", "_law_walk_here", "_law_told", "_law_prices_here"] ["_law_state_here", "_law_web", "_law_aim", "_law_some"] (defScope sWR) := ⟨rfl, rfl, rfl, by decide +kernel, rfl, by decide +kernel, by decide +kernel⟩

section
variable {P : Program} {w : World} {K : PySem.W.Frag} {mg : Str → Option Value} {base : Heap}
/-- a list of tuples of prices that hold -/
def Some3 (H : Hp) (l : Addr) (p : Int) (rs : List Road) (g : Int) : Prop := ∃ us : List Addr, H l = some (.lst (us.map V.ref)) ∧ ∀ u ∈ us, ∃ ps : List (Option Int), H u = some (.tup (ps.map vOpt)) ∧ Feas p rs g ps
theorem Some3.keep {H H' : Hp} {l : Addr} {p : Int} {rs : List Road} {g : Int} (h : Some3 H l p rs g) (k : ∀ b o, H b = some o → (b = l ∨ ∃ xs, o = .tup xs) → H' b = some o) : Some3 H' l p rs g := by
  obtain ⟨us, h1, h2⟩ := h
  refine ⟨us, k _ _ h1 (.inl rfl), fun u hu => ?_⟩
  obtain ⟨ps, h3, h4⟩ := h2 u hu
  exact ⟨ps, k _ _ h3 (.inr ⟨_, rfl⟩), h4⟩
def spWR : Sp := fun vs H Q _ => ∃ (z x r l : Addr) (ts : List Addr) (p : Int) (rs : List Road) (g : Int), vs = [.ref z, .ref x, .int g, .ref l] ∧ StOk H z ∧ NetAt H x r ts p rs ∧ NetOk p rs ∧ l ≠ z ∧ Some3 H l p rs g ∧ ∀ H', Keep z H H' → StOk H' z → Q (.bl true) H'
set_option maxHeartbeats 4000000 in
theorem ok_wr {f fK fW fY : Addr} {fd dK dW dY : FuncData} {k : Nat} (mR : mg "range" = none) (DK : Df K mg "_law_take" sTake ["_law_state_here", "_law_much"] fK dK) (DW : Df K mg "_law_walk" sWalk ["_law_state_here", "_law_web", "_law_spot", "_law_most"] fW dW) (DY : Df K mg "way_of" sWayOf ["net", "place", "thing"] fY dY)
    (GK : FnOk P w K mg base CX0 (k + 6) fK dK ["_law_state_here", "_law_much"] spTake) (GW : FnOk P w K mg base CX0 (k + 6) fW dW ["_law_state_here", "_law_web", "_law_spot", "_law_most"] spWalk) (GY : FnOk P w K mg base CX0 (k + 6) fY dY ["net", "place", "thing"] spWay0)
    (D : Df K mg "_law_ways_right" sWR ["_law_state_here", "_law_web", "_law_aim", "_law_some"] f fd) : FnOk P w K mg base CX0 (k + 7) f fd ["_law_state_here", "_law_web", "_law_aim", "_law_some"] spWR := by
  refine D.F.ok sc_sWR (fun vs H Q E h => ?_) (fun cdv A outer s H vs Q E hr h => ?_)
  · obtain ⟨_, _, _, _, _, _, _, _, rfl, _⟩ := h
    rfl
  · obtain ⟨z, x, r, l, ts, p, rs, g, rfl, st, hN, ok, lz, h3, q⟩ := h
    refine ⟨_, (pss_cons (ps_for PassesOwn.never rfl (pi_range1 (by rfl) mR (pa_cons pe_int pa_nil)) (pg_name (i := 4) sc_sWR.nd rfl (.inl rfl)) (pss_cons (ps_set (i := 5) sc_sWR.nd rfl (.inr rfl) (pe_call GK (hr.mono (by omega)) (by rfl) DK.g DK.F.kp DK.b .nil pass0 (pa_cons (pv 0) (pa_cons (pe_ix (ix_tupK (K := K) rfl) (pv 1) pe_int (fun _ _ => rfl)) pa_nil))))
    (pss_cons (ps_set (i := 6) sc_sWR.nd rfl (.inl rfl) (pe_call GW (hr.mono (by omega)) (by rfl) DW.g DW.F.kp DW.b .nil pass0 (pa_cons (pv 0) (pa_cons (pv 1) (pa_cons (pv 5) (pa_cons pe_int pa_nil))))))
    (pss_cons (ps_set (i := 7) sc_sWR.nd rfl (.inr rfl) (pe_call GY (hr.mono (by omega)) (by rfl) DY.g DY.F.kp DY.b .nil pass0 (pa_cons (pv 1) (pa_cons (pv 5) (pa_cons (pv 6) pa_nil)))))
    (pss_one (ps_if (PW.pt (pw_and (pt_cmpR op_notN (pv 7) pe_non (nomark _)) (pw_and1 (pt_cmpR op_eq (pe_ix (ix_tupK (K := K) rfl) (pv 7) pe_int (fun _ _ => rfl)) (pv 2) (nomark _))))) (pss_one (ps_if (pt_cmpR (op_neD hr.units) (pe_lc (own := [("_law_prices_here", 8)]) (g := gName 8) rfl sc_sWR.nd (pi_list (pv 3)) (blkOk_by (N := ["_law_state_here", "_law_web", "_law_aim", "_law_some", "_law_turn", "_law_spot", "_law_walk_here", "_law_told", "_law_prices_here"]) (sc := defScope sWR) (by decide +kernel)) (fun _ _ _ _ _ => pg_name (i := 8) sc_sWR.nd rfl (.inl rfl)) (fun _ _ _ _ _ => pts_one (PW.pt (pw_or (pt_cmpR op_isN (pe_ix (ix_tupK (K := K) rfl) (pv 8) (pv 5) (fun _ _ => rfl)) pe_non (nomark _)) (pw_or1 (pt_cmpR op_gt (pe_ix (ix_tupK (K := K) rfl) (pv 8) (pv 5) (fun _ _ => rfl)) (pe_ix (ix_tupK (K := K) rfl) (pv 7) pe_int (fun _ _ => rfl)) (nomark _)))))) (fun _ _ _ _ _ => pv 8)) (pe_lst pa_nil) (nomark _)) (pss_one (ps_ret pe_bl)) pss_nil)) pss_nil))))))
    (pss_one (ps_ret pe_bl))), ?_⟩
    have p1 := ok.p1
    have p2 := ok.p2
    have F : Fr p rs := free_nil rs ▸ fr_of ok []
    refine ⟨6, rfl, by decide, by decide, ?_⟩
    refine for_range (lo := 0) (n := 6) (fun _ σ H' => ∃ y4 y5 y6 y7 : Option V, σ = [some (.ref z), some (.ref x), some (.int g), some (.ref l), y4, y5, y6, y7, none] ∧ Keep z H H' ∧ StOk H' z) ⟨_, _, _, _, rfl, Keep.refl _ _, st⟩ (fun i σ H' hi h => ?_) (fun σ H' h => ?_)
    · obtain ⟨y4, y5, y6, y7, rfl, kz, st'⟩ := h
      have hN' := hN.keep (kz.tups st)
      refine ⟨.ref z, rfl, .ref x, rfl, x, _, 0, _, rfl, rfl, SqT.of hN'.1, rfl, z, p, rfl, st', by omega, by omega, fun H1 a k1 st1 a0 a1 => ?_⟩
      have hN1 := hN'.keep (k1.tups st')
      refine ⟨.ref z, rfl, .ref x, rfl, .int a, rfl, z, x, r, ts, p, rs, a, 9, rfl, by decide, by decide, st1, hN1, ok, fun H2 t ms k2 st2 nt et hl hms => ?_⟩
      have hN2 := hN1.keep (k2.tups st1)
      have k02 := kz.trans (k1.trans k2)
      have wh : Wh H2 (.ref t) (some (ms.map V.int)) := .tup et (fun y hy => by
        obtain ⟨m, _, rfl⟩ := List.mem_map.mp hy
        exact ⟨_, .int m⟩) (by rw [List.length_map]; omega)
      refine ⟨.ref x, rfl, .int a, rfl, .ref t, rfl, x, r, ts, p, rs, a, .ref t, some (ms.map V.int), rfl, hN2, ok, a0, by omega, wh, fun eg H3 s3 => ?_, fun qs eg H3 t3 s3 nt3 et3 => ?_⟩
      · refine ⟨.non, rfl, rfl, _, rfl, iteF (iteF ⟨_, _, _, _, rfl, k02.trans (.of s3), st2.same s3⟩)⟩
      · refine ⟨.ref t3, rfl, rfl, _, rfl, iteT ?_⟩
        refine ⟨.ref t3, rfl, t3, _, 0, _, rfl, rfl, SqT.of et3, rfl, .int g, rfl, rfl, _, rfl, ite2 (fun hlast => ?_) (fun hlast => ?_)⟩
        · have hlast : lastOf a qs = g := V.int.inj (of_decide_eq_true hlast)
          have k03 := k02.trans (.of s3)
          have st3 := st2.same s3
          obtain ⟨us, eus, hus⟩ := h3.keep (H' := H3) fun b o e hb => by
            rcases hb with rfl | ⟨xs, rfl⟩
            · exact k03 _ _ e lz
            · exact k03 _ _ e (st.neT e)
          refine ⟨.ref l, rfl, l, rfl, ⟨_, SqL.of eus⟩, fun D nD => ?_⟩
          refine lc_list (xs := us.map V.ref) (fun _ G => Same H3 G ∧ G D = some (.lst [])) ⟨same_new nD, upd_same⟩ (fun _ G _ h => SqL.of (h.1 _ _ eus)) (fun j v G hv h => ?_) (fun G h => ?_)
          · obtain ⟨sG, eD⟩ := h
            rw [List.getElem?_map] at hv
            obtain ⟨u, e1, rfl⟩ := Option.map_eq_some_iff.mp hv
            obtain ⟨ps, e2, fe⟩ := hus u (List.mem_of_getElem? e1)
            have wk := goes_wk F (here := a) ⟨a0, a1⟩ (show goes rs a (ms.map V.int) = some qs from eg)
            rw [hlast] at wk
            obtain ⟨v, e3, hle⟩ := fe.least wk
            have hlp := fe.len
            have av : atI (ps.map vOpt) a = some (.int v) := by
              rw [at_optI a0 (by omega), e3]
              rfl
            refine ⟨rfl, ?_⟩
            refine ⟨.ref u, rfl, .int a, rfl, u, _, a, _, rfl, rfl, SqT.of (sG _ _ e2), av, rfl, _, rfl, iteF ?_⟩
            refine ⟨.ref u, rfl, .int a, rfl, u, _, a, _, rfl, rfl, SqT.of (sG _ _ e2), av, .ref t3, rfl, t3, _, 1, _, rfl, rfl, SqT.of (sG _ _ et3), rfl, _, _, rfl, rfl, _, rfl, ?_⟩
            rw [decide_eq_false (show ¬ costOf qs < v by omega)]
            exact ⟨sG, eD⟩
          · obtain ⟨sG, eD⟩ := h
            refine ⟨Nat.zero_le _, fun l0 nl0 => ?_⟩
            have z0 := same_new (H := G) (o := .lst []) nl0
            refine ⟨.list [], .list [], .lst (SqL.of (z0 _ _ eD)) .nil, .lst (SqL.of upd_same) .nil, by decide +kernel, by decide +kernel, _, rfl, ?_⟩
            rw [show PyData.eqv (.list []) (.list []) = true from by decide +kernel]
            have sZ := sG.trans z0
            exact iteF ⟨_, _, _, _, rfl, k03.trans (.of sZ), st3.same sZ⟩
        · exact ⟨_, _, _, _, rfl, k02.trans (.of s3), st2.same s3⟩
    · obtain ⟨y4, y5, y6, y7, rfl, kz, st'⟩ := h
      exact q _ kz st'
end
end Wy

namespace Wy
open PySem PySem.Spec PyProof.Rows L2
abbrev sLaw : Stmt := topS 47
theorem scLaw : FnScope ["_law_script", "_law_k", "_law_state_here", "_law_turn", "_law_web", "_law_aim", "_law_best", "_law_less", "_law_one", "_law_spot", "_law_price", "_law_walk_here", "_law_closed", "_law_more", "_law_at"] ["_law_script"] (defScope sLaw) := ⟨rfl, rfl, rfl, by decide +kernel, rfl, by decide +kernel, by decide +kernel⟩

theorem sq_stays {K : PySem.W.Frag} {H H1 : Hp} {a z : Addr} {xs : List V} (h : SqL K H a xs) (s : Same H H1) (nz : H z = none) : ∀ G, Keep z H1 G → SqL K G a xs := fun G k => by
  rcases h with (h | ⟨o, h⟩) | h
  · exact .inl (.inl (k _ _ (s _ _ h) (ne_of_none h nz)))
  · exact .inl (.inr ⟨o, k _ _ (s _ _ h) (ne_of_none h nz)⟩)
  · exact .inr h
def dOpt : Option Int → PyData
  | none => .none
  | some v => .int v
def dPr (ps : List (Option Int)) : PyData := .tuple (ps.map dOpt)
theorem opts_dp {K : PySem.W.Frag} {H : Hp} : ∀ ps : List (Option Int), DpAll K H (ps.map vOpt) (ps.map dOpt)
  | [] => .nil
  | none :: r => .cons .non (opts_dp r)
  | some v :: r => .cons (.int v) (opts_dp r)
theorem pr_dp {K : PySem.W.Frag} {H : Hp} {t : Addr} {ps : List (Option Int)} (e : H t = some (.tup (ps.map vOpt))) : Dp K H (.ref t) (dPr ps) := .tup (SqT.of e) (opts_dp ps)
theorem opts_lay : ∀ ps : List (Option Int), PyData.canLayAll0 (ps.map dOpt) = true ∧ PyData.depthAll (ps.map dOpt) = 0
  | [] => ⟨rfl, rfl⟩
  | none :: r => by
    rw [List.map_cons, PyData.canLayAll0, PyData.depthAll, (opts_lay r).1, (opts_lay r).2]
    exact ⟨rfl, rfl⟩
  | some v :: r => by
    rw [List.map_cons, PyData.canLayAll0, PyData.depthAll, (opts_lay r).1, (opts_lay r).2]
    simp [dOpt, PyData.canLay0, PyData.depth]
theorem pr_shaped (ps : List (Option Int)) : SeqAt.shaped (dPr ps) = true ∧ (dPr ps).canLay0 = true := by
  unfold SeqAt.shaped dPr
  rw [PyData.canLay0, (opts_lay ps).1, PyData.depth, (opts_lay ps).2]
  exact ⟨rfl, rfl⟩
def spLaw (K : PySem.W.Frag) : Sp := fun vs H Q _ => ∃ (a : Addr) (ns : List Int), vs = [.ref a] ∧ SqL K H a (ns.map V.int) ∧ ns.length ≤ 63 ∧ ∀ H', Q (.bl true) H'
section
variable {P : Program} {w : World} {K : PySem.W.Frag} {mg : Str → Option Value} {base : Heap}
set_option maxHeartbeats 8000000 in
theorem ok_law {f fPr fAr fGr fLe fLd fWR fY fSh fSt fTk fNe Tk Tj : Addr} {fd dPrF dAr dGr dLe dLd dWR dY dSh dSt dTk dNe : FuncData} {ds ds2 : List Value}
    (GPr : FnOk P w K mg base CX0 6 fPr dPrF ["net", "goal", "shut"] (spPr K)) (gPr : mg "prices_of" = some (.ref fPr)) (kPr : PySem.W.keepIn K (.ref fPr) = true) (kb2 : KBinds K dPrF ["net", "goal", "shut"] ["shut"] gP2 gP2V) (bD : Binds K dPrF ["net", "goal", "shut"] ds) (vD : Vals [.ref Tk] ds)
    (GAr : FnOk P w K mg base CX0 6 fAr dAr ["net", "goal", "thing", "shut"] (spAre K)) (gAr : mg "are_prices" = some (.ref fAr)) (kAr : PySem.W.keepIn K (.ref fAr) = true) (bA : Binds K dAr ["net", "goal", "thing", "shut"] ds2) (vA : Vals [.ref Tj] ds2) (hTk : ∀ H : Hp, SqT K H Tk []) (hTj : ∀ H : Hp, SqT K H Tj [])
    (DGr : Df K mg "_law_greater" sGr ["_law_one", "_law_other"] fGr dGr) (GGr : FnOk P w K mg base CX0 6 fGr dGr ["_law_one", "_law_other"] spGr)
    (DLe : Df K mg "_law_lesser" sLess ["_law_state_here", "_law_web", "_law_prices_here"] fLe dLe) (GLe : FnOk P w K mg base CX0 6 fLe dLe ["_law_state_here", "_law_web", "_law_prices_here"] spLess)
    (DLd : Df K mg "_law_led" sLed ["_law_web", "_law_spot", "_law_prices_here"] fLd dLd) (GLd : FnOk P w K mg base CX0 6 fLd dLd ["_law_web", "_law_spot", "_law_prices_here"] (spLed K))
    (DWR : Df K mg "_law_ways_right" sWR ["_law_state_here", "_law_web", "_law_aim", "_law_some"] fWR dWR) (GWR : FnOk P w K mg base CX0 7 fWR dWR ["_law_state_here", "_law_web", "_law_aim", "_law_some"] spWR)
    (DY : Df K mg "way_of" sWayOf ["net", "place", "thing"] fY dY) (GY : FnOk P w K mg base CX0 6 fY dY ["net", "place", "thing"] spWay0)
    (DSh : Df K mg "_law_shut" sLSh ["_law_state_here", "_law_web", "_law_aim"] fSh dSh) (GSh : FnOk P w K mg base CX0 6 fSh dSh ["_law_state_here", "_law_web", "_law_aim"] spLSh)
    (DSt : Df K mg "_law_state" sState ["_law_script", "_law_k"] fSt dSt) (GSt : FnOk P w K mg base CX0 6 fSt dSt ["_law_script", "_law_k"] (spState K)) (DK : Df K mg "_law_take" sTake ["_law_state_here", "_law_much"] fTk dTk) (GK : FnOk P w K mg base CX0 6 fTk dTk ["_law_state_here", "_law_much"] spTake)
    (DNe : Df K mg "_law_net" sNet ["_law_state_here", "_law_most", "_law_roads"] fNe dNe) (GNe : FnOk P w K mg base CX0 6 fNe dNe ["_law_state_here", "_law_most", "_law_roads"] spNet)
    (mR : mg "range" = none) (mMx : mg "max" = none) (mMn : mg "min" = none) (ml : mg "len" = none) (mA : mg "all" = none) (mE : mg "enumerate" = none)
    (D : Df K mg "law" sLaw ["_law_script"] f fd) : FnOk P w K mg base CX0 8 f fd ["_law_script"] (spLaw K) := by
  refine D.F.ok scLaw (fun vs H Q E h => ?_) (fun cdv A outer s H vs Q E hr h => ?_)
  · obtain ⟨_, _, rfl, _⟩ := h
    rfl
  · obtain ⟨a, ns, rfl, hS, hlen, hQ⟩ := h
    refine ⟨_, (pss_cons (ps_for PassesOwn.never rfl (pi_range1 (by rfl) mR (pa_cons (pe_callB (call_max2 rfl) (by rfl) mMx (by decide +kernel) (pa_cons pe_int (pa_cons (pe_callB (call_min2 rfl) (by rfl) mMn (by decide +kernel) (pa_cons (pe_callB call_len_seq (by rfl) ml PySem.boot_len (pa_cons (pv 0) pa_nil)) (pa_cons pe_int pa_nil))) pa_nil))) pa_nil)) (pg_name (i := 1) scLaw.nd rfl (.inl rfl)) (pss_cons (ps_set (i := 2) scLaw.nd rfl (.inl rfl) (pe_call GSt (hr.mono (by decide)) (by rfl) DSt.g DSt.F.kp DSt.b .nil pass0 (pa_cons (pv 0) (pa_cons (pv 1) pa_nil))))
    (pss_one (ps_for PassesOwn.never rfl (pi_range1 (by rfl) mR (pa_cons pe_int pa_nil)) (pg_name (i := 3) scLaw.nd rfl (.inl rfl)) (pss_cons (ps_set (i := 4) scLaw.nd rfl (.inr rfl) (pe_call GNe (hr.mono (by decide)) (by rfl) DNe.g DNe.F.kp DNe.b .nil pass0 (pa_cons (pv 2) (pa_cons pe_int (pa_cons pe_int pa_nil)))))
    (pss_cons (ps_set (i := 5) scLaw.nd rfl (.inr rfl) (pe_call GK (hr.mono (by decide)) (by rfl) DK.g DK.F.kp DK.b .nil pass0 (pa_cons (pv 2) (pa_cons (pe_ix (ix_tupK (K := K) rfl) (pv 4) pe_int (fun _ _ => rfl)) pa_nil))))
    (pss_cons (ps_set (i := 6) scLaw.nd rfl (.inr rfl) (pe_call GPr (hr.mono (by decide)) (by rfl) gPr kPr bD vD pass0 (pa_cons (pv 4) (pa_cons (pv 5) pa_nil))))
    (pss_cons (ps_set (i := 7) scLaw.nd rfl (.inl rfl) (pe_lst (pa_cons (pe_call GLe (hr.mono (by decide)) (by rfl) DLe.g DLe.F.kp DLe.b .nil pass0 (pa_cons (pv 2) (pa_cons (pv 4) (pa_cons (pv 6) pa_nil)))) (pa_cons (pe_call GLe (hr.mono (by decide)) (by rfl) DLe.g DLe.F.kp DLe.b .nil pass0 (pa_cons (pv 2) (pa_cons (pv 4) (pa_cons (pv 6) pa_nil)))) pa_nil))))
    (pss_cons (ps_if (pt_not (pt_val (pe_callB (cr_all rfl) (by rfl) mA (by decide +kernel) (pa_cons (pe_lc (own := [("_law_one", 8)]) (g := gName 8) (tt := tYes) rfl scLaw.nd (pi_list (pe_op op_cat (pe_op op_cat (pe_lst (pa_cons (pv 6) pa_nil)) (pv 7)) (pe_lst (pa_cons (pe_call GGr (hr.mono (by decide)) (by rfl) DGr.g DGr.F.kp DGr.b .nil pass0 (pa_cons (pe_ix ix_list (pv 7) pe_int (fun _ _ => rfl)) (pa_cons (pe_ix ix_list (pv 7) pe_int (fun _ _ => rfl)) pa_nil))) pa_nil)))) (blkOk_by (N := ["_law_script", "_law_k", "_law_state_here", "_law_turn", "_law_web", "_law_aim", "_law_best", "_law_less", "_law_one", "_law_spot", "_law_price", "_law_walk_here", "_law_closed", "_law_more", "_law_at"]) (sc := defScope sLaw) (by decide +kernel)) (fun _ _ _ _ _ => (pg_name (i := 8) scLaw.nd rfl (.inl rfl))) (fun _ _ _ _ _ => pts_nil) (fun _ _ _ _ _ => (pe_call GAr (hr.mono (by decide)) (by rfl) gAr kAr bA vA pass0 (pa_cons (pv 4) (pa_cons (pv 5) (pa_cons (pv 8) pa_nil)))))) pa_nil)))) (pss_one (ps_ret pe_bl)) pss_nil)
    (pss_cons (ps_if (PW.pt (pw_or (pt_cmpR (op_neD hr.units) (pe_call GGr (hr.mono (by decide)) (by rfl) DGr.g DGr.F.kp DGr.b .nil pass0 (pa_cons (pv 6) (pa_cons (pe_ix ix_list (pv 7) pe_int (fun _ _ => rfl)) pa_nil))) (pv 6) (nomark _)) (pw_or1 (pt_not (pt_val (pe_call GWR (hr.mono (by decide)) (by rfl) DWR.g DWR.F.kp DWR.b .nil pass0 (pa_cons (pv 2) (pa_cons (pv 4) (pa_cons (pv 5) (pa_cons (pe_op op_cat (pe_lst (pa_cons (pv 6) pa_nil)) (pv 7)) pa_nil)))))))))) (pss_one (ps_ret pe_bl)) pss_nil)
    (pss_cons (ps_for PassesOwn.never rfl (pi_enumT (by rfl) mE (pa_cons (pv 6) pa_nil)) (pg_tup (by rfl) (pgs_cons (pg_name (i := 9) scLaw.nd rfl (.inl rfl)) (pgs_cons (pg_name (i := 10) scLaw.nd rfl (.inl rfl)) pgs_nil))) (pss_cons (ps_set (i := 11) scLaw.nd rfl (.inl rfl) (pe_cut (pe_ifExp (pt_cmpR op_isN (pv 10) pe_non (nomark _)) pe_non (pe_call GLd (hr.mono (by decide)) (by rfl) DLd.g DLd.F.kp DLd.b .nil pass0 (pa_cons (pv 4) (pa_cons (pv 9) (pa_cons (pv 6) pa_nil)))))))
    (pss_one (ps_if (pt_cmpR op_notN (pv 10) pe_non (nomark _)) (pss_one (ps_if (PW.pt (pw_or (pt_cmpR op_isN (pv 11) pe_non (nomark _)) (pw_or1 (pt_cmpR (op_neD hr.units) (pe_slice sl_tupS (pe_call GY (hr.mono (by decide)) (by rfl) DY.g DY.F.kp DY.b .nil pass0 (pa_cons (pv 4) (pa_cons (pv 9) (pa_cons (pv 11) pa_nil)))) po_none (po_some pe_int)) (pe_tup (pa_cons (pv 5) (pa_cons (pv 10) pa_nil))) (nomark _))))) (pss_one (ps_ret pe_bl)) pss_nil)) pss_nil))))
    (pss_cons (ps_set (i := 12) scLaw.nd rfl (.inl rfl) (pe_call GSh (hr.mono (by decide)) (by rfl) DSh.g DSh.F.kp DSh.b .nil pass0 (pa_cons (pv 2) (pa_cons (pv 4) (pa_cons (pv 5) pa_nil)))))
    (pss_cons (ps_set (i := 13) scLaw.nd rfl (.inr rfl) (pe_callK GPr (hr.mono (by decide)) (by rfl) gPr kPr kb2 pass0 (pa_cons (pv 4) (pa_cons (pv 5) pa_nil)) (pk_cons (pv 12) pk_nil)))
    (pss_cons (ps_if (pt_cmpR (op_neD hr.units) (pe_lc (own := [("_law_at", 14)]) (g := gName 14) rfl scLaw.nd (pi_range1 (by rfl) mR (pa_cons (pe_ix (ix_tupK (K := K) rfl) (pv 4) pe_int (fun _ _ => rfl)) pa_nil)) (blkOk_by (N := ["_law_script", "_law_k", "_law_state_here", "_law_turn", "_law_web", "_law_aim", "_law_best", "_law_less", "_law_one", "_law_spot", "_law_price", "_law_walk_here", "_law_closed", "_law_more", "_law_at"]) (sc := defScope sLaw) (by decide +kernel)) (fun _ _ _ _ _ => (pg_name (i := 14) scLaw.nd rfl (.inl rfl))) (fun _ _ _ _ _ => pts_one (PW.pt (pw_and (pt_cmpR op_notN (pe_ix (ix_tupK (K := K) rfl) (pv 13) (pv 14) (fun _ _ => rfl)) pe_non (nomark _)) (pw_and1 (PW.pt (pw_or (pt_cmpR op_isN (pe_ix (ix_tupK (K := K) rfl) (pv 6) (pv 14) (fun _ _ => rfl)) pe_non (nomark _)) (pw_or1 (pt_cmpR op_lt (pe_ix (ix_tupK (K := K) rfl) (pv 13) (pv 14) (fun _ _ => rfl)) (pe_ix (ix_tupK (K := K) rfl) (pv 6) (pv 14) (fun _ _ => rfl)) (nomark _))))))))) (fun _ _ _ _ _ => pv 14)) (pe_lst pa_nil) (nomark _)) (pss_one (ps_ret pe_bl)) pss_nil)
    (pss_one (ps_if (PW.pt (pw_or (pt_cmpR (op_neD hr.units) (pe_lc (own := [("_law_at", 14)]) (g := gName 14) rfl scLaw.nd (pi_tup (pv 12)) (blkOk_by (N := ["_law_script", "_law_k", "_law_state_here", "_law_turn", "_law_web", "_law_aim", "_law_best", "_law_less", "_law_one", "_law_spot", "_law_price", "_law_walk_here", "_law_closed", "_law_more", "_law_at"]) (sc := defScope sLaw) (by decide +kernel)) (fun _ _ _ _ _ => (pg_name (i := 14) scLaw.nd rfl (.inl rfl))) (fun _ _ _ _ _ => pts_one (pt_cmpR op_notN (pe_ix (ix_tupK (K := K) rfl) (pv 13) (pv 14) (fun _ _ => rfl)) pe_non (nomark _))) (fun _ _ _ _ _ => pv 14)) (pe_lst pa_nil) (nomark _)) (pw_or1 (pt_cmpR op_ne (pe_ix (ix_tupK (K := K) rfl) (pv 6) (pv 5) (fun _ _ => rfl)) pe_int (nomark _))))) (pss_one (ps_ret pe_bl)) pss_nil))))))))))))))))
    (pss_one (ps_ret pe_bl))), ?_⟩
    have len0 : (0 : Int) ≤ ((ns.map V.int).length : Int) := Int.natCast_nonneg _
    refine ⟨.ref a, rfl, a, _, rfl, .inl hS, _, 4, rfl, 1, _, rfl, _, rfl, by split <;> split <;> omega, by split <;> split <;> omega, ?_⟩
    refine for_range (lo := 0) (fun _ σ H' => ∃ y1 y2 y3 y4 y5 y6 y7 y9 y10 y11 y12 y13 : Option V, σ = [some (.ref a), y1, y2, y3, y4, y5, y6, y7, none, y9, y10, y11, y12, y13, none] ∧ SqL K H' a (ns.map V.int)) ⟨none, none, none, none, none, none, none, none, none, none, none, none, rfl, hS⟩ (fun i σ H' hi h => ?_) (fun σ H' h => hQ _)
    obtain ⟨y1, y2, y3, y4, y5, y6, y7, y9, y10, y11, y12, y13, rfl, hSq⟩ := h
    refine ⟨.ref a, rfl, .int (0 + (i : Int)), rfl, a, ns, i, (by show [V.ref a, V.int (0 + (i : Int))] = _; rw [Int.zero_add]), hSq, fun Hz z sz nz stz => ?_⟩
    have az : ∀ G, Keep z Hz G → SqL K G a (ns.map V.int) := sq_stays hSq sz nz
    refine ⟨3, rfl, by decide, by decide, ?_⟩
    refine for_range (lo := 0) (n := 3) (fun _ σ H' => ∃ y3 y4 y5 y6 y7 y9 y10 y11 y12 y13 : Option V, σ = [some (.ref a), some (.int (0 + (i : Int))), some (.ref z), y3, y4, y5, y6, y7, none, y9, y10, y11, y12, y13, none] ∧ Keep z Hz H' ∧ StOk H' z) ⟨_, _, _, _, _, _, _, _, _, _, rfl, Keep.refl _ _, stz⟩ (fun j σ H' hj h => ?_) (fun σ H' h => ?_)
    · obtain ⟨y3, y4, y5, y6, y7, y9, y10, y11, y12, y13, rfl, kz, st⟩ := h
      refine ⟨.ref z, rfl, z, 7, 24, rfl, st, by decide, by decide, by decide, by decide, fun Hn x r ts p rs kn stn hN ok => ?_⟩
      have p1 := ok.p1
      have p2 := ok.p2
      refine ⟨.ref z, rfl, .ref x, rfl, x, _, 0, _, rfl, rfl, SqT.of hN.1, rfl, z, p, rfl, stn, by omega, by omega, fun Hg g kg stg g0 g1 => ?_⟩
      have hNg := hN.keep (kg.tups stn)
      have hg : In p g := ⟨g0, g1⟩
      have sh0 : ShutOk p g [] := ⟨fun _ h => (nomatch h), rfl, by decide⟩
      have F : Fr p rs := free_nil rs ▸ fr_of ok []
      have di : Dist p rs g (at' (greatest p rs g [])) := by
        have := great_dist ok [] hg
        rwa [free_nil] at this
      have hlb : (greatest p rs g []).length = p.toNat := (rounds_len _ _ _).trans (first_len p g)
      have fe := di.feas F hg hlb
      -- best
      refine ⟨.ref x, rfl, .int g, rfl, x, r, ts, p, rs, g, Tk, [], rfl, hNg, ok, g0, by omega, hTk _, sh0, fun H1 tb s1 nb eb => ?_⟩
      obtain ⟨bs, hbs⟩ : ∃ bs, bs = greatest p rs g [] := ⟨_, rfl⟩
      rw [← hbs] at eb di hlb fe
      have hN1 : NetAt H1 x r ts p rs := hNg.keep fun b xs h => s1 _ _ h
      have st1 := stg.same s1
      have k1 : Keep z Hz H1 := kz.trans (kn.trans (kg.trans (.of s1)))
      -- less
      refine ⟨.ref z, rfl, .ref x, rfl, .ref tb, rfl, z, .ref x, tb, bs, rfl, st1, eb, by omega, fun H2 t2 top2 k2 st2 u2 e2 => ?_⟩
      have eb2 := k2.tups st1 _ _ eb
      have hN2 := hN1.keep (k2.tups st1)
      refine ⟨.ref z, rfl, .ref x, rfl, .ref tb, rfl, z, .ref x, tb, bs, rfl, st2, eb2, by omega, fun H3 t3 top3 k3 st3 u3 e3 => ⟨by show 2 ≤ sizeLine; decide, fun L nL => ?_⟩⟩
      have eb3 := k3.tups st2 _ _ eb2
      have e23 := k3.tups st2 _ _ e2
      have hN3 := hN2.keep (k3.tups st2)
      have hc0 : ∀ q ∈ rs, 0 ≤ q.cost := fun q hq => by have := F.c q hq; omega
      have f2 := fe.less hc0 u2
      have f3 := fe.less hc0 u3
      obtain ⟨l2, hl2⟩ : ∃ l2, l2 = bs.map (lessO top2) := ⟨_, rfl⟩
      obtain ⟨l3, hl3⟩ : ∃ l3, l3 = bs.map (lessO top3) := ⟨_, rfl⟩
      rw [← hl2] at e23 f2
      rw [← hl3] at e3 f3
      have sL := same_new (H := H3) (o := .lst [.ref t2, .ref t3]) nL
      have eL : (upd H3 L (.lst [.ref t2, .ref t3])) L = some (.lst [.ref t2, .ref t3]) := upd_same
      have ebL := sL _ _ eb3
      have e2L := sL _ _ e23
      have e3L := sL _ _ e3
      have hNL : NetAt (upd H3 L (.lst [.ref t2, .ref t3])) x r ts p rs := hN3.keep fun b xs h => sL _ _ h
      have stL := st3.same sL
      have kL : Keep z Hz (upd H3 L (.lst [.ref t2, .ref t3])) := k1.trans (k2.trans (k3.trans (.of sL)))
      generalize upd H3 L (.lst [.ref t2, .ref t3]) = H4 at eL ebL e2L e3L hNL stL kL ⊢
      -- all of them are prices
      refine ⟨.ref tb, rfl, by show 1 ≤ sizeLine; decide, fun q1 nq1 => ?_⟩
      have z1 := same_new (H := H4) (o := .lst [.ref tb]) nq1
      refine ⟨.ref L, rfl, q1, L, _, _, rfl, rfl, upd_same, z1 _ _ eL, by show 3 ≤ sizeLine; decide, fun q2 nq2 => ?_⟩
      have z2 := same_new (H := upd H4 q1 (.lst [.ref tb])) (o := .lst ([.ref tb] ++ [.ref t2, .ref t3])) nq2
      have s42 := z1.trans z2
      refine ⟨.ref L, rfl, L, _, 0, .ref t2, rfl, rfl, SqL.of (s42 _ _ eL), rfl, .ref L, rfl, L, _, 1, .ref t3, rfl, rfl, SqL.of (s42 _ _ eL), rfl, t2, t3, l2, l3, rfl, s42 _ _ e2L, s42 _ _ e3L, by rw [f2.len, f3.len], by rw [f2.len]; omega, fun H5 t5 s5 e5 => ?_⟩
      refine ⟨by show 1 ≤ sizeLine; decide, fun q3 nq3 => ?_⟩
      have z3 := same_new (H := H5) (o := .lst [.ref t5]) nq3
      refine ⟨q2, q3, _, _, rfl, rfl, z3 _ _ (s5 _ _ upd_same), upd_same, by show 4 ≤ sizeLine; decide, fun q4 nq4 => ?_⟩
      have z4 := same_new (H := upd H5 q3 (.lst [.ref t5])) (o := .lst ([.ref tb] ++ [.ref t2, .ref t3] ++ [.ref t5])) nq4
      have s6 := s42.trans (s5.trans (z3.trans z4))
      have e5' := z4 _ _ (z3 _ _ e5)
      have eq4 : (upd (upd H5 q3 (.lst [.ref t5])) q4 (.lst ([.ref tb] ++ [.ref t2, .ref t3] ++ [.ref t5]))) q4 = some (.lst [.ref tb, .ref t2, .ref t3, .ref t5]) := upd_same
      have each : ∀ v ∈ [V.ref tb, .ref t2, .ref t3, .ref t5], ∃ (u : Addr) (ps : List (Option Int)), v = .ref u ∧ (upd (upd H5 q3 (.lst [.ref t5])) q4 (.lst ([.ref tb] ++ [.ref t2, .ref t3] ++ [.ref t5]))) u = some (.tup (ps.map vOpt)) ∧ Feas p rs g ps := fun v hv => by
        simp only [List.mem_cons, List.not_mem_nil, or_false] at hv
        rcases hv with rfl | rfl | rfl | rfl
        · exact ⟨tb, bs, rfl, s6 _ _ ebL, fe⟩
        · exact ⟨t2, l2, rfl, s6 _ _ e2L, f2⟩
        · exact ⟨t3, l3, rfl, s6 _ _ e3L, f3⟩
        · exact ⟨t5, _, rfl, e5', f2.gr f3⟩
      have ns6 : ∀ b, H4 b = none → True := fun _ _ => trivial
      show (fun H0 : Hp => _) (upd (upd H5 q3 (.lst [.ref t5])) q4 (.lst ([.ref tb] ++ [.ref t2, .ref t3] ++ [.ref t5])))
      generalize upd (upd H5 q3 (.lst [.ref t5])) q4 (.lst ([.ref tb] ++ [.ref t2, .ref t3] ++ [.ref t5])) = H6 at s6 eq4 each ⊢
      refine ⟨q4, rfl, ⟨_, SqL.of eq4⟩, fun D1 nD1 => ?_⟩
      have hN6 : NetAt H6 x r ts p rs := hNL.keep fun b xs h => s6 _ _ h
      refine lc_list (xs := [.ref tb, .ref t2, .ref t3, .ref t5]) (fun n G => Same H6 G ∧ G D1 = some (.lst ((List.replicate n true).map V.bl))) ⟨same_new nD1, upd_same⟩ (fun n G _ h => SqL.of (h.1 _ _ eq4)) (fun n v G hv h => ?_) (fun G h => ?_)
      · obtain ⟨sG, eD⟩ := h
        have hn := (List.getElem?_eq_some_iff.mp hv).1
        obtain ⟨u, ps, rfl, eu, fu⟩ := each v (List.mem_of_getElem? hv)
        refine ⟨rfl, ?_⟩
        unfold tYes
        dsimp only
        rw [if_pos rfl]
        refine ⟨.ref x, rfl, .int g, rfl, .ref u, rfl, x, r, u, Tj, ts, p, rs, g, ps, [], rfl, ⟨hN6.keep (fun b xs h => sG _ _ h), ok, g0, by omega, sG _ _ eu, hTj _, sh0, (fun _ h => nomatch h), (by rw [free_nil]; exact fu)⟩, fun G2 s2 => ⟨_, s2 _ _ eD, ?_, Same.upd_lst (sG.trans s2) nD1, ?_⟩⟩
        · rw [List.length_map, List.length_replicate]
          exact small1000 (by have : n < 4 := hn; omega)
        · rw [upd_same, List.replicate_succ', List.map_append]
          rfl
      obtain ⟨s7, eD1⟩ := h
      refine ⟨D1, _, rfl, SqL.of eD1, _, rfl, ?_⟩
      rw [all_yes]
      refine iteF ?_
      have s47 := s6.trans s7
      have eLG := s47 _ _ eL
      have ebG := s47 _ _ ebL
      have e2G := s47 _ _ e2L
      have e3G := s47 _ _ e3L
      -- greater of best and less
      refine ⟨.ref tb, rfl, .ref L, rfl, L, _, 0, .ref t2, rfl, rfl, SqL.of eLG, rfl, tb, t2, bs, l2, rfl, ebG, e2G, by rw [fe.len, f2.len], by omega, fun H8 t8 s8 e8 => ?_⟩
      rw [hl2, gr_less] at e8
      refine ⟨.ref tb, rfl, dPr bs, dPr bs, pr_dp e8, pr_dp (s8 _ _ ebG), (pr_shaped bs).1, (pr_shaped bs).1, _, rfl, ?_⟩
      rw [SeqAt.eqv_refl _ (pr_shaped bs).2]
      refine iteF ?_
      have s48 := s47.trans s8
      refine ⟨.ref z, rfl, .ref x, rfl, .int g, rfl, .ref tb, rfl, by show 1 ≤ sizeLine; decide, fun q5 nq5 => ?_⟩
      have z5 := same_new (H := H8) (o := .lst [.ref tb]) nq5
      refine ⟨.ref L, rfl, q5, L, _, _, rfl, rfl, upd_same, z5 _ _ (s48 _ _ eL), by show 3 ≤ sizeLine; decide, fun q6 nq6 => ?_⟩
      have z6 := same_new (H := upd H8 q5 (.lst [.ref tb])) (o := .lst ([.ref tb] ++ [.ref t2, .ref t3])) nq6
      have s9 := s48.trans (z5.trans z6)
      have eq6 : (upd (upd H8 q5 (.lst [.ref tb])) q6 (.lst ([.ref tb] ++ [.ref t2, .ref t3]))) q6 = some (.lst ([tb, t2, t3].map V.ref)) := upd_same
      have q6z : q6 ≠ z := ((stL.same (s48.trans z5)).ne nq6).symm
      have so3 : Some3 (upd (upd H8 q5 (.lst [.ref tb])) q6 (.lst ([.ref tb] ++ [.ref t2, .ref t3]))) q6 p rs g := ⟨[tb, t2, t3], eq6, fun u hu => by
        simp only [List.mem_cons, List.not_mem_nil, or_false] at hu
        rcases hu with rfl | rfl | rfl
        · exact ⟨bs, s9 _ _ ebL, fe⟩
        · exact ⟨l2, s9 _ _ e2L, f2⟩
        · exact ⟨l3, s9 _ _ e3L, f3⟩⟩
      refine ⟨z, x, r, q6, ts, p, rs, g, rfl, stL.same s9, hNL.keep (fun b xs h => s9 _ _ h), ok, q6z, so3, fun HA kA stA => ⟨_, rfl, iteF ?_⟩⟩
      have ebA := kA.tups (stL.same s9) _ _ (s9 _ _ ebL)
      have hNA : NetAt HA x r ts p rs := (hNL.keep fun b xs h => s9 _ _ h).keep (kA.tups (stL.same s9))
      have kZA : Keep z Hz HA := kL.trans ((Keep.of s9).trans kA)
      -- led from each place
      refine ⟨.ref tb, rfl, tb, _, rfl, SqT.of ebA, ?_⟩
      refine for_enumT (xs := bs.map vOpt) (fun _ σ G => ∃ y9 y10 y11 : Option V, σ = [some (.ref a), some (.int (0 + (i : Int))), some (.ref z), some (.int (0 + (j : Int))), some (.ref x), some (.int g), some (.ref tb), some (.ref L), none, y9, y10, y11, y12, y13, none] ∧ Same HA G) ⟨_, _, _, rfl, Same.refl _⟩ (fun _ σ G _ h => ?_) (fun n v T σ G hv nT h => ?_) (fun σ G h => ?_)
      · obtain ⟨_, _, _, _, sG⟩ := h
        exact SqT.of (sG _ _ ebA)
      · obtain ⟨v9, v10, v11, rfl, sG⟩ := h
        obtain ⟨o, e1, rfl⟩ := opt_at hv
        have hn := (List.getElem?_eq_some_iff.mp e1).1
        have eo : at' bs (n : Int) = o := by
          unfold at' List.getD
          rw [Int.toNat_natCast, e1]
          rfl
        have sT := same_new (H := G) (o := .tup [.int (n : Nat), vOpt o]) nT
        have sGT := sG.trans sT
        refine ⟨T, _, rfl, SqT.of upd_same, rfl, .int (n : Nat), _, rfl, vOpt o, _, rfl, rfl, ?_⟩
        cases o with
        | none =>
          refine ⟨fun v G2 => v = .non ∧ Same HA G2, ⟨.non, rfl, rfl, _, rfl, iteT ⟨rfl, sGT⟩⟩, ?_⟩
          rintro _ G2 ⟨rfl, sG2⟩
          exact ⟨.non, rfl, rfl, _, rfl, iteF ⟨_, _, _, rfl, sG2⟩⟩
        | some c =>
          have hNT : NetAt (upd G T (.tup [.int (n : Nat), vOpt (some c)])) x r ts p rs := hNA.keep fun b xs h => sGT _ _ h
          have inn : In p (n : Int) := ⟨by omega, by omega⟩
          refine ⟨fun v G2 => ∃ (b : Addr) (ms : List Int) (qs : List Road), v = .ref b ∧ Same HA G2 ∧ G2 b = some (.tup (ms.map V.int)) ∧ ms.length ≤ 11 ∧ goes rs (n : Int) (ms.map V.int) = some qs ∧ lastOf (n : Int) qs = g ∧ costOf qs = c, ⟨.int c, rfl, rfl, _, rfl, iteF ⟨.ref x, rfl, .int (n : Nat), rfl, .ref tb, rfl, x, r, tb, ts, p, rs, g, n, c, bs, rfl, hNT, ok, hg, inn, sGT _ _ ebA, hlb, di, eo, fun G2 b ms qs s2 eb2 hms hgo hla hco => ⟨b, ms, qs, rfl, sGT.trans s2, eb2, hms, hgo, hla, hco⟩⟩⟩, ?_⟩
          rintro _ G2 ⟨b, ms, qs, rfl, sG2, ebm, hms, hgo, hla, hco⟩
          refine ⟨.int c, rfl, rfl, _, rfl, iteT ?_⟩
          refine ⟨.ref b, rfl, rfl, _, rfl, iteF ?_⟩
          have wh : Wh G2 (.ref b) (some (ms.map V.int)) := .tup ebm (fun y hy => by
            obtain ⟨m, _, rfl⟩ := List.mem_map.mp hy
            exact ⟨_, .int m⟩) (by rw [List.length_map]; omega)
          refine ⟨.ref x, rfl, .int (n : Nat), rfl, .ref b, rfl, x, r, ts, p, rs, n, .ref b, some (ms.map V.int), rfl, hNA.keep (fun b xs h => sG2 _ _ h), ok, by omega, by omega, wh, fun eg => ?_, fun qs' eg G3 t9 s9' nt9 e9 => ?_⟩
          · have eg : goes rs (n : Int) (ms.map V.int) = none := eg
            rw [hgo] at eg
            cases eg
          · have eg : goes rs (n : Int) (ms.map V.int) = some qs' := eg
            rw [hgo] at eg
            cases eg
            rw [hla, hco] at e9
            refine ⟨2, rfl, t9, _, rfl, SqT.of e9, fun c5 G4 s10 e10 => ?_⟩
            have e10 : SqT K G4 c5 [.int g, .int c] := e10
            refine ⟨.int g, rfl, .int c, rfl, by show 2 ≤ sizeLine; decide, fun c6 nc6 => ?_⟩
            have z7 := same_new (H := G4) (o := .tup [.int g, .int c]) nc6
            refine ⟨.tuple [.int g, .int c], .tuple [.int g, .int c], .tup (sqt_same e10 z7) (.cons (.int _) (.cons (.int _) .nil)), .tup (SqT.of upd_same) (.cons (.int _) (.cons (.int _) .nil)), ?_, ?_, _, rfl, ?_⟩
            · unfold SeqAt.shaped
              simp [PyData.canLay0, PyData.canLayAll0, PyData.depth, PyData.depthAll]
            · unfold SeqAt.shaped
              simp [PyData.canLay0, PyData.canLayAll0, PyData.depth, PyData.depthAll]
            rw [SeqAt.eqv_refl _ (by simp [PyData.canLay0, PyData.canLayAll0])]
            exact iteF ⟨_, _, _, rfl, sG2.trans (s9'.trans (s10.trans z7))⟩
      obtain ⟨v9, v10, v11, rfl, sB⟩ := h
      have hNB : NetAt G x r ts p rs := hNA.keep fun b xs h => sB _ _ h
      have stB := stA.same sB
      have kZB := kZA.trans (.of sB)
      have ebB := sB _ _ ebA
      -- some shut
      refine ⟨.ref z, rfl, .ref x, rfl, .int g, rfl, z, x, r, ts, p, rs, g, rfl, stB, hNB, ok, fun HC tS mS kC stC etS shS => ?_⟩
      have hNC := hNB.keep (kC.tups stB)
      have ebC := kC.tups stB _ _ ebB
      refine ⟨.ref x, rfl, .int g, rfl, .ref tS, rfl, x, r, ts, p, rs, g, tS, mS, rfl, hNC, ok, g0, by omega, SqT.of etS, shS, fun HD tM sD nM eM => ?_⟩
      have dm := great_dist ok mS hg
      obtain ⟨mo, hmo⟩ : ∃ mo, mo = greatest p rs g mS := ⟨_, rfl⟩
      have hlm : mo.length = p.toNat := by rw [hmo]; exact (rounds_len _ _ _).trans (first_len p g)
      rw [← hmo] at eM dm
      have hND : NetAt HD x r ts p rs := hNC.keep fun b xs h => sD _ _ h
      have ebD := sD _ _ ebC
      refine ⟨.ref x, rfl, x, _, 0, _, rfl, rfl, SqT.of hND.1, rfl, p, rfl, by omega, by omega, fun D2 nD2 => ?_⟩
      refine lc_range (lo := 0) (n := p.toNat) (fun _ G2 => Same HD G2 ∧ G2 D2 = some (.lst [])) ⟨same_new nD2, upd_same⟩ (fun n G2 hn h => ?_) (fun G2 h => ?_)
      · obtain ⟨sG2, eD2⟩ := h
        refine ⟨rfl, ?_⟩
        have n0 : (0 : Int) ≤ 0 + (n : Int) := by omega
        have inn : In p (0 + (n : Int)) := ⟨by omega, by omega⟩
        refine ⟨.ref tM, rfl, .int (0 + (n : Int)), rfl, tM, _, 0 + (n : Int), _, rfl, rfl, SqT.of (sG2 _ _ eM), at_optI n0 (by omega), rfl, _, rfl, ?_⟩
        cases k1 : at' mo (0 + (n : Int)) with
        | none => exact iteF (iteF ⟨sG2, eD2⟩)
        | some v =>
          refine iteT ?_
          obtain ⟨m, wk⟩ := dm.sound _ v inn k1
          obtain ⟨u, k2, k3⟩ := di.least _ _ _ (wk_more wk)
          have ab : atI (bs.map vOpt) (0 + (n : Int)) = some (.int u) := by
            rw [at_optI n0 (by omega), k2]
            rfl
          have am : atI (mo.map vOpt) (0 + (n : Int)) = some (.int v) := by
            rw [at_optI n0 (by omega), k1]
            rfl
          refine ⟨.ref tb, rfl, .int (0 + (n : Int)), rfl, tb, _, 0 + (n : Int), _, rfl, rfl, SqT.of (sG2 _ _ ebD), ab, rfl, _, rfl, iteF ?_⟩
          refine ⟨.ref tM, rfl, .int (0 + (n : Int)), rfl, tM, _, 0 + (n : Int), _, rfl, rfl, SqT.of (sG2 _ _ eM), am, .ref tb, rfl, .int (0 + (n : Int)), rfl, tb, _, 0 + (n : Int), _, rfl, rfl, SqT.of (sG2 _ _ ebD), ab, v, u, rfl, rfl, _, rfl, ?_⟩
          rw [decide_eq_false (show ¬ v < u by omega)]
          exact iteF ⟨sG2, eD2⟩
      obtain ⟨sE, eD2⟩ := h
      have emp : ∀ {G5 : Hp} {d : Addr}, G5 d = some (.lst []) → Dp K G5 (.ref d) (.list []) := fun e => .lst (SqL.of e) .nil
      refine ⟨Nat.zero_le _, fun l5 nl5 => ?_⟩
      have z8 := same_new (H := G2) (o := .lst []) nl5
      refine ⟨.list [], .list [], emp (z8 _ _ eD2), emp upd_same, by decide +kernel, by decide +kernel, _, rfl, ?_⟩
      rw [show PyData.eqv (.list []) (.list []) = true from by decide +kernel]
      refine iteF ?_
      have sF := sE.trans z8
      have etF := sF _ _ (sD _ _ etS)
      have eMF := sF _ _ eM
      refine ⟨.ref tS, rfl, tS, rfl, ⟨_, SqT.of etF⟩, fun D3 nD3 => ?_⟩
      refine lc_tup (xs := mS.map V.int) (fun _ G3 => Same (upd G2 l5 (.lst [])) G3 ∧ G3 D3 = some (.lst [])) ⟨same_new nD3, upd_same⟩ (fun _ G3 _ h => SqT.of (h.1 _ _ etF)) (fun n v G3 hv h => ?_) (fun G3 h => ?_)
      · obtain ⟨sG3, eD3⟩ := h
        rw [List.getElem?_map] at hv
        obtain ⟨m, e1, rfl⟩ := Option.map_eq_some_iff.mp hv
        have hm := List.mem_of_getElem? e1
        obtain ⟨m0, m1, m2⟩ := shS.inn m hm
        have am : atI (mo.map vOpt) m = some .non := by
          rw [at_optI m0 (by omega), hmo, shut_none ok hg hm ⟨m0, by omega⟩ m2]
          rfl
        refine ⟨rfl, .ref tM, rfl, .int m, rfl, tM, _, m, _, rfl, rfl, SqT.of (sG3 _ _ eMF), am, rfl, _, rfl, iteF ⟨sG3, eD3⟩⟩
      obtain ⟨sH, eD3⟩ := h
      refine ⟨Nat.zero_le _, fun l6 nl6 => ?_⟩
      have z9 := same_new (H := G3) (o := .lst []) nl6
      refine ⟨.list [], .list [], emp (z9 _ _ eD3), emp upd_same, by decide +kernel, by decide +kernel, _, rfl, ?_⟩
      rw [show PyData.eqv (.list []) (.list []) = true from by decide +kernel]
      refine iteF ?_
      have sI := sD.trans (sF.trans (sH.trans z9))
      have agz : atI (bs.map vOpt) g = some (.int 0) := by
        rw [at_optI g0 (by omega), fe.goal]
        rfl
      refine ⟨.ref tb, rfl, .int g, rfl, tb, _, g, _, rfl, rfl, SqT.of (sI _ _ ebC), agz, rfl, _, rfl, ?_⟩
      rw [show (!decide (V.int 0 = V.int 0)) = false from rfl]
      exact iteF ⟨_, _, _, _, _, _, _, _, _, _, rfl, kZB.trans (kC.trans (.of sI)), stC.same sI⟩
    · obtain ⟨y3, y4, y5, y6, y7, y9, y10, y11, y12, y13, rfl, kz, st⟩ := h
      exact ⟨_, _, _, _, _, _, _, _, _, _, _, _, rfl, az _ kz⟩

end
end Wy

namespace Wy
open PySem PySem.Spec PyProof.Rows L2
set_option maxHeartbeats 4000000 in
theorem fin_mk {l : PySem.W.OpenLaw} {w : World} {K : PySem.W.Frag} {h : Heap} {mg : Str → Option Value} {fa f1 f2 fRO f3 f4 f5 fN fP fR fS fF fX fG fPr fI fH fAr fA fC fY fSt fCe fTk fNe fSh fWk fLd fGr fLe fWR fL Dk Dj Tk Tj : Addr} {t1 t2 t3 t4 t5 : Tok} {odT odU : Option Addr} {nT nU : Nat} {slT slU : Array (Option Value)}
    {od1 an1 : Option Addr} {sl1 : Array (Option Value)} {oc1 kV1 dc1 pm1 ct1 cd1 : Value}
    {od2 an2 : Option Addr} {sl2 : Array (Option Value)} {oc2 kV2 dc2 pm2 ct2 cd2 : Value}
{odRO anRO : Option Addr} {slRO : Array (Option Value)} {ocRO kVRO dcRO pmRO ctRO cdRO : Value}
    {od3 an3 : Option Addr} {sl3 : Array (Option Value)} {oc3 kV3 dc3 pm3 ct3 cd3 : Value}
    {od4 an4 : Option Addr} {sl4 : Array (Option Value)} {oc4 kV4 dc4 pm4 ct4 cd4 : Value}
    {od5 an5 : Option Addr} {sl5 : Array (Option Value)} {oc5 kV5 dc5 pm5 ct5 cd5 : Value}
    {odN anN : Option Addr} {slN : Array (Option Value)} {ocN kVN dcN pmN ctN cdN : Value}
    {odP anP : Option Addr} {slP : Array (Option Value)} {ocP kVP dcP pmP ctP cdP : Value}
    {odR anR : Option Addr} {slR : Array (Option Value)} {ocR kVR dcR pmR ctR cdR : Value}
    {odS anS : Option Addr} {slS : Array (Option Value)} {ocS kVS dcS pmS ctS cdS : Value}
    {odF anF : Option Addr} {slF : Array (Option Value)} {ocF kVF dcF pmF ctF cdF : Value}
    {odX anX : Option Addr} {slX : Array (Option Value)} {ocX kVX dcX pmX ctX cdX : Value}
    {odG anG : Option Addr} {slG : Array (Option Value)} {ocG kVG dcG pmG ctG cdG : Value}
    {odPr anPr : Option Addr} {slPr : Array (Option Value)} {ocPr dcPr pmPr ctPr cdPr : Value}
    {odI anI : Option Addr} {slI : Array (Option Value)} {ocI kVI dcI pmI ctI cdI : Value}
    {odH anH : Option Addr} {slH : Array (Option Value)} {ocH kVH dcH pmH ctH cdH : Value}
    {odAr anAr : Option Addr} {slAr : Array (Option Value)} {ocAr dcAr pmAr ctAr cdAr : Value}
    {odA anA : Option Addr} {slA : Array (Option Value)} {ocA kVA dcA pmA ctA cdA : Value}
    {odC anC : Option Addr} {slC : Array (Option Value)} {ocC kVC dcC pmC ctC cdC : Value}
    {odY anY : Option Addr} {slY : Array (Option Value)} {ocY kVY dcY pmY ctY cdY : Value}
    {odSt anSt : Option Addr} {slSt : Array (Option Value)} {ocSt kVSt dcSt pmSt ctSt cdSt : Value}
    {odCe anCe : Option Addr} {slCe : Array (Option Value)} {ocCe kVCe dcCe pmCe ctCe cdCe : Value}
    {odTk anTk : Option Addr} {slTk : Array (Option Value)} {ocTk kVTk dcTk pmTk ctTk cdTk : Value}
    {odNe anNe : Option Addr} {slNe : Array (Option Value)} {ocNe kVNe dcNe pmNe ctNe cdNe : Value}
    {odSh anSh : Option Addr} {slSh : Array (Option Value)} {ocSh kVSh dcSh pmSh ctSh cdSh : Value}
    {odWk anWk : Option Addr} {slWk : Array (Option Value)} {ocWk kVWk dcWk pmWk ctWk cdWk : Value}
    {odLd anLd : Option Addr} {slLd : Array (Option Value)} {ocLd kVLd dcLd pmLd ctLd cdLd : Value}
    {odGr anGr : Option Addr} {slGr : Array (Option Value)} {ocGr kVGr dcGr pmGr ctGr cdGr : Value}
    {odLe anLe : Option Addr} {slLe : Array (Option Value)} {ocLe kVLe dcLe pmLe ctLe cdLe : Value}
    {odWR anWR : Option Addr} {slWR : Array (Option Value)} {ocWR kVWR dcWR pmWR ctWR cdWR : Value}
    {odL anL : Option Addr} {slL : Array (Option Value)} {ocL kVL dcL pmL ctL cdL : Value}
    (X : K.In h) (G : h.Ns mainGlobals mg) (hfa : mg "law" = some (.ref fa))
    (a1 : PySem.W.nsIn K mainGlobals "is_whole" = some (some (.ref f1)))
    (l1 : K.lookup f1 = some ⟨oc1, od1, .func (PySem.W.fnOf "is_whole" "is_whole" (defArgs sWhole) (defBody sWhole) (defScope sWhole) .none kV1 dc1 pm1 an1 cd1 ct1), sl1⟩)
    (c1_ : PySem.W.codeIn K cd1 "is_whole" = true)
    (k1_ : PySem.W.keepIn K (.ref f1) = true)
    (a2 : PySem.W.nsIn K mainGlobals "is_within" = some (some (.ref f2)))
    (l2 : K.lookup f2 = some ⟨oc2, od2, .func (PySem.W.fnOf "is_within" "is_within" (defArgs sWithin) (defBody sWithin) (defScope sWithin) .none kV2 dc2 pm2 an2 cd2 ct2), sl2⟩)
    (c2_ : PySem.W.codeIn K cd2 "is_within" = true)
    (k2_ : PySem.W.keepIn K (.ref f2) = true)
    (aRO : PySem.W.nsIn K mainGlobals "is_road_of" = some (some (.ref fRO)))
    (lRO : K.lookup fRO = some ⟨ocRO, odRO, .func (PySem.W.fnOf "is_road_of" "is_road_of" (defArgs sRoadOf) (defBody sRoadOf) (defScope sRoadOf) .none kVRO dcRO pmRO anRO cdRO ctRO), slRO⟩)
    (cRO_ : PySem.W.codeIn K cdRO "is_road_of" = true)
    (kRO_ : PySem.W.keepIn K (.ref fRO) = true)
    (a3 : PySem.W.nsIn K mainGlobals "is_tuple_of" = some (some (.ref f3)))
    (l3 : K.lookup f3 = some ⟨oc3, od3, .func (PySem.W.fnOf "is_tuple_of" "is_tuple_of" (defArgs sTupOf) (defBody sTupOf) (defScope sTupOf) .none kV3 dc3 pm3 an3 cd3 ct3), sl3⟩)
    (c3_ : PySem.W.codeIn K cd3 "is_tuple_of" = true)
    (k3_ : PySem.W.keepIn K (.ref f3) = true)
    (a4 : PySem.W.nsIn K mainGlobals "is_road_among" = some (some (.ref f4)))
    (l4 : K.lookup f4 = some ⟨oc4, od4, .func (PySem.W.fnOf "is_road_among" "is_road_among" (defArgs sRoadQ) (defBody sRoadQ) (defScope sRoadQ) .none kV4 dc4 pm4 an4 cd4 ct4), sl4⟩)
    (c4_ : PySem.W.codeIn K cd4 "is_road_among" = true)
    (k4_ : PySem.W.keepIn K (.ref f4) = true)
    (a5 : PySem.W.nsIn K mainGlobals "is_net" = some (some (.ref f5)))
    (l5 : K.lookup f5 = some ⟨oc5, od5, .func (PySem.W.fnOf "is_net" "is_net" (defArgs sNetQ) (defBody sNetQ) (defScope sNetQ) .none kV5 dc5 pm5 an5 cd5 ct5), sl5⟩)
    (c5_ : PySem.W.codeIn K cd5 "is_net" = true)
    (k5_ : PySem.W.keepIn K (.ref f5) = true)
    (aN : PySem.W.nsIn K mainGlobals "check_net" = some (some (.ref fN)))
    (lN : K.lookup fN = some ⟨ocN, odN, .func (PySem.W.fnOf "check_net" "check_net" (defArgs sChkN) (defBody sChkN) (defScope sChkN) .none kVN dcN pmN anN cdN ctN), slN⟩)
    (cN_ : PySem.W.codeIn K cdN "check_net" = true)
    (kN_ : PySem.W.keepIn K (.ref fN) = true)
    (aP : PySem.W.nsIn K mainGlobals "check_place" = some (some (.ref fP)))
    (lP : K.lookup fP = some ⟨ocP, odP, .func (PySem.W.fnOf "check_place" "check_place" (defArgs sChkP) (defBody sChkP) (defScope sChkP) .none kVP dcP pmP anP cdP ctP), slP⟩)
    (cP_ : PySem.W.codeIn K cdP "check_place" = true)
    (kP_ : PySem.W.keepIn K (.ref fP) = true)
    (aR : PySem.W.nsIn K mainGlobals "is_rising" = some (some (.ref fR)))
    (lR : K.lookup fR = some ⟨ocR, odR, .func (PySem.W.fnOf "is_rising" "is_rising" (defArgs sRise) (defBody sRise) (defScope sRise) .none kVR dcR pmR anR cdR ctR), slR⟩)
    (cR_ : PySem.W.codeIn K cdR "is_rising" = true)
    (kR_ : PySem.W.keepIn K (.ref fR) = true)
    (aS : PySem.W.nsIn K mainGlobals "check_shut" = some (some (.ref fS)))
    (lS : K.lookup fS = some ⟨ocS, odS, .func (PySem.W.fnOf "check_shut" "check_shut" (defArgs sShutQ) (defBody sShutQ) (defScope sShutQ) .none kVS dcS pmS anS cdS ctS), slS⟩)
    (cS_ : PySem.W.codeIn K cdS "check_shut" = true)
    (kS_ : PySem.W.keepIn K (.ref fS) = true)
    (aF : PySem.W.nsIn K mainGlobals "free_roads" = some (some (.ref fF)))
    (lF : K.lookup fF = some ⟨ocF, odF, .func (PySem.W.fnOf "free_roads" "free_roads" (defArgs sFree) (defBody sFree) (defScope sFree) .none kVF dcF pmF anF cdF ctF), slF⟩)
    (cF_ : PySem.W.codeIn K cdF "free_roads" = true)
    (kF_ : PySem.W.keepIn K (.ref fF) = true)
    (aX : PySem.W.nsIn K mainGlobals "exceeds" = some (some (.ref fX)))
    (lX : K.lookup fX = some ⟨ocX, odX, .func (PySem.W.fnOf "exceeds" "exceeds" (defArgs sExc) (defBody sExc) (defScope sExc) .none kVX dcX pmX anX cdX ctX), slX⟩)
    (cX_ : PySem.W.codeIn K cdX "exceeds" = true)
    (kX_ : PySem.W.keepIn K (.ref fX) = true)
    (aG : PySem.W.nsIn K mainGlobals "greatest_prices" = some (some (.ref fG)))
    (lG : K.lookup fG = some ⟨ocG, odG, .func (PySem.W.fnOf "greatest_prices" "greatest_prices" (defArgs sGreat) (defBody sGreat) (defScope sGreat) .none kVG dcG pmG anG cdG ctG), slG⟩)
    (cG_ : PySem.W.codeIn K cdG "greatest_prices" = true)
    (kG_ : PySem.W.keepIn K (.ref fG) = true)
    (aPr : PySem.W.nsIn K mainGlobals "prices_of" = some (some (.ref fPr)))
    (lPr : K.lookup fPr = some ⟨ocPr, odPr, .func (PySem.W.fnOf "prices_of" "prices_of" (defArgs sPrices) (defBody sPrices) (defScope sPrices) .none (.ref Dk) dcPr pmPr anPr cdPr ctPr), slPr⟩)
    (cPr_ : PySem.W.codeIn K cdPr "prices_of" = true)
    (kPr_ : PySem.W.keepIn K (.ref fPr) = true)
    (aI : PySem.W.nsIn K mainGlobals "is_price" = some (some (.ref fI)))
    (lI : K.lookup fI = some ⟨ocI, odI, .func (PySem.W.fnOf "is_price" "is_price" (defArgs sIsP) (defBody sIsP) (defScope sIsP) .none kVI dcI pmI anI cdI ctI), slI⟩)
    (cI_ : PySem.W.codeIn K cdI "is_price" = true)
    (kI_ : PySem.W.keepIn K (.ref fI) = true)
    (aH : PySem.W.nsIn K mainGlobals "prices_hold" = some (some (.ref fH)))
    (lH : K.lookup fH = some ⟨ocH, odH, .func (PySem.W.fnOf "prices_hold" "prices_hold" (defArgs sHold) (defBody sHold) (defScope sHold) .none kVH dcH pmH anH cdH ctH), slH⟩)
    (cH_ : PySem.W.codeIn K cdH "prices_hold" = true)
    (kH_ : PySem.W.keepIn K (.ref fH) = true)
    (aAr : PySem.W.nsIn K mainGlobals "are_prices" = some (some (.ref fAr)))
    (lAr : K.lookup fAr = some ⟨ocAr, odAr, .func (PySem.W.fnOf "are_prices" "are_prices" (defArgs sAre) (defBody sAre) (defScope sAre) .none (.ref Dj) dcAr pmAr anAr cdAr ctAr), slAr⟩)
    (cAr_ : PySem.W.codeIn K cdAr "are_prices" = true)
    (kAr_ : PySem.W.keepIn K (.ref fAr) = true)
    (aA : PySem.W.nsIn K mainGlobals "places_along" = some (some (.ref fA)))
    (lA : K.lookup fA = some ⟨ocA, odA, .func (PySem.W.fnOf "places_along" "places_along" (defArgs sAlong) (defBody sAlong) (defScope sAlong) .none kVA dcA pmA anA cdA ctA), slA⟩)
    (cA_ : PySem.W.codeIn K cdA "places_along" = true)
    (kA_ : PySem.W.keepIn K (.ref fA) = true)
    (aC : PySem.W.nsIn K mainGlobals "cost_along" = some (some (.ref fC)))
    (lC : K.lookup fC = some ⟨ocC, odC, .func (PySem.W.fnOf "cost_along" "cost_along" (defArgs sCostA) (defBody sCostA) (defScope sCostA) .none kVC dcC pmC anC cdC ctC), slC⟩)
    (cC_ : PySem.W.codeIn K cdC "cost_along" = true)
    (kC_ : PySem.W.keepIn K (.ref fC) = true)
    (aY : PySem.W.nsIn K mainGlobals "way_of" = some (some (.ref fY)))
    (lY : K.lookup fY = some ⟨ocY, odY, .func (PySem.W.fnOf "way_of" "way_of" (defArgs sWayOf) (defBody sWayOf) (defScope sWayOf) .none kVY dcY pmY anY cdY ctY), slY⟩)
    (cY_ : PySem.W.codeIn K cdY "way_of" = true)
    (kY_ : PySem.W.keepIn K (.ref fY) = true)
    (aSt : PySem.W.nsIn K mainGlobals "_law_state" = some (some (.ref fSt)))
    (lSt : K.lookup fSt = some ⟨ocSt, odSt, .func (PySem.W.fnOf "_law_state" "_law_state" (defArgs sState) (defBody sState) (defScope sState) .none kVSt dcSt pmSt anSt cdSt ctSt), slSt⟩)
    (cSt_ : PySem.W.codeIn K cdSt "_law_state" = true)
    (kSt_ : PySem.W.keepIn K (.ref fSt) = true)
    (aCe : PySem.W.nsIn K mainGlobals "_law_cell_at" = some (some (.ref fCe)))
    (lCe : K.lookup fCe = some ⟨ocCe, odCe, .func (PySem.W.fnOf "_law_cell_at" "_law_cell_at" (defArgs sCell) (defBody sCell) (defScope sCell) .none kVCe dcCe pmCe anCe cdCe ctCe), slCe⟩)
    (cCe_ : PySem.W.codeIn K cdCe "_law_cell_at" = true)
    (kCe_ : PySem.W.keepIn K (.ref fCe) = true)
    (aTk : PySem.W.nsIn K mainGlobals "_law_take" = some (some (.ref fTk)))
    (lTk : K.lookup fTk = some ⟨ocTk, odTk, .func (PySem.W.fnOf "_law_take" "_law_take" (defArgs sTake) (defBody sTake) (defScope sTake) .none kVTk dcTk pmTk anTk cdTk ctTk), slTk⟩)
    (cTk_ : PySem.W.codeIn K cdTk "_law_take" = true)
    (kTk_ : PySem.W.keepIn K (.ref fTk) = true)
    (aNe : PySem.W.nsIn K mainGlobals "_law_net" = some (some (.ref fNe)))
    (lNe : K.lookup fNe = some ⟨ocNe, odNe, .func (PySem.W.fnOf "_law_net" "_law_net" (defArgs sNet) (defBody sNet) (defScope sNet) .none kVNe dcNe pmNe anNe cdNe ctNe), slNe⟩)
    (cNe_ : PySem.W.codeIn K cdNe "_law_net" = true)
    (kNe_ : PySem.W.keepIn K (.ref fNe) = true)
    (aSh : PySem.W.nsIn K mainGlobals "_law_shut" = some (some (.ref fSh)))
    (lSh : K.lookup fSh = some ⟨ocSh, odSh, .func (PySem.W.fnOf "_law_shut" "_law_shut" (defArgs sLSh) (defBody sLSh) (defScope sLSh) .none kVSh dcSh pmSh anSh cdSh ctSh), slSh⟩)
    (cSh_ : PySem.W.codeIn K cdSh "_law_shut" = true)
    (kSh_ : PySem.W.keepIn K (.ref fSh) = true)
    (aWk : PySem.W.nsIn K mainGlobals "_law_walk" = some (some (.ref fWk)))
    (lWk : K.lookup fWk = some ⟨ocWk, odWk, .func (PySem.W.fnOf "_law_walk" "_law_walk" (defArgs sWalk) (defBody sWalk) (defScope sWalk) .none kVWk dcWk pmWk anWk cdWk ctWk), slWk⟩)
    (cWk_ : PySem.W.codeIn K cdWk "_law_walk" = true)
    (kWk_ : PySem.W.keepIn K (.ref fWk) = true)
    (aLd : PySem.W.nsIn K mainGlobals "_law_led" = some (some (.ref fLd)))
    (lLd : K.lookup fLd = some ⟨ocLd, odLd, .func (PySem.W.fnOf "_law_led" "_law_led" (defArgs sLed) (defBody sLed) (defScope sLed) .none kVLd dcLd pmLd anLd cdLd ctLd), slLd⟩)
    (cLd_ : PySem.W.codeIn K cdLd "_law_led" = true)
    (kLd_ : PySem.W.keepIn K (.ref fLd) = true)
    (aGr : PySem.W.nsIn K mainGlobals "_law_greater" = some (some (.ref fGr)))
    (lGr : K.lookup fGr = some ⟨ocGr, odGr, .func (PySem.W.fnOf "_law_greater" "_law_greater" (defArgs sGr) (defBody sGr) (defScope sGr) .none kVGr dcGr pmGr anGr cdGr ctGr), slGr⟩)
    (cGr_ : PySem.W.codeIn K cdGr "_law_greater" = true)
    (kGr_ : PySem.W.keepIn K (.ref fGr) = true)
    (aLe : PySem.W.nsIn K mainGlobals "_law_lesser" = some (some (.ref fLe)))
    (lLe : K.lookup fLe = some ⟨ocLe, odLe, .func (PySem.W.fnOf "_law_lesser" "_law_lesser" (defArgs sLess) (defBody sLess) (defScope sLess) .none kVLe dcLe pmLe anLe cdLe ctLe), slLe⟩)
    (cLe_ : PySem.W.codeIn K cdLe "_law_lesser" = true)
    (kLe_ : PySem.W.keepIn K (.ref fLe) = true)
    (aWR : PySem.W.nsIn K mainGlobals "_law_ways_right" = some (some (.ref fWR)))
    (lWR : K.lookup fWR = some ⟨ocWR, odWR, .func (PySem.W.fnOf "_law_ways_right" "_law_ways_right" (defArgs sWR) (defBody sWR) (defScope sWR) .none kVWR dcWR pmWR anWR cdWR ctWR), slWR⟩)
    (cWR_ : PySem.W.codeIn K cdWR "_law_ways_right" = true)
    (kWR_ : PySem.W.keepIn K (.ref fWR) = true)
    (aL : PySem.W.nsIn K mainGlobals "law" = some (some (.ref fL)))
    (lL : K.lookup fL = some ⟨ocL, odL, .func (PySem.W.fnOf "law" "law" (defArgs sLaw) (defBody sLaw) (defScope sLaw) .none kVL dcL pmL anL cdL ctL), slL⟩)
    (cL_ : PySem.W.codeIn K cdL "law" = true)
    (kL_ : PySem.W.keepIn K (.ref fL) = true)
    (z_isinstance : PySem.W.nsIn K mainGlobals "isinstance" = some none)
    (z_int : PySem.W.nsIn K mainGlobals "int" = some none)
    (z_bool : PySem.W.nsIn K mainGlobals "bool" = some none)
    (z_tuple : PySem.W.nsIn K mainGlobals "tuple" = some none)
    (z_len : PySem.W.nsIn K mainGlobals "len" = some none)
    (z_all : PySem.W.nsIn K mainGlobals "all" = some none)
    (z_sum : PySem.W.nsIn K mainGlobals "sum" = some none)
    (z_set : PySem.W.nsIn K mainGlobals "set" = some none)
    (z_range : PySem.W.nsIn K mainGlobals "range" = some none)
    (z_max : PySem.W.nsIn K mainGlobals "max" = some none)
    (z_min : PySem.W.nsIn K mainGlobals "min" = some none)
    (z_zip : PySem.W.nsIn K mainGlobals "zip" = some none)
    (z_any : PySem.W.nsIn K mainGlobals "any" = some none)
    (z_enumerate : PySem.W.nsIn K mainGlobals "enumerate" = some none)
    (q1 : PySem.W.nsIn K mainGlobals "MOST_PLACES" = some (some (.int 10 t1)))
    (q2 : PySem.W.nsIn K mainGlobals "MOST_ROADS" = some (some (.int 30 t2)))
    (q3 : PySem.W.nsIn K mainGlobals "LEAST_COST" = some (some (.int 1 t3)))
    (q4 : PySem.W.nsIn K mainGlobals "MOST_COST" = some (some (.int 99 t4)))
    (q5 : PySem.W.nsIn K mainGlobals "MOST_TIME" = some (some (.int 99 t5)))
    (nk : PySem.W.nsIn K Dk "shut" = some (some (.ref Tk)))
    (nj : PySem.W.nsIn K Dj "shut" = some (some (.ref Tj)))
    (lj : K.lookup Tj = some ⟨.type "tuple", odU, .seq #[] nU, slU⟩)
    (lk : K.lookup Tk = some ⟨.type "tuple", odT, .seq #[] nT, slT⟩) :
    ∃ fd : FuncData, (∀ (s : Shared) (v : Value), BindsTo s fd ⟨[v], []⟩ [("_law_script", v)]) ∧ ∀ base : Heap, K.In base → base.Ns mainGlobals mg → FnOk l.prog w K mg base CX0 8 fa fd ["_law_script"] (spLaw K) := by
  have e := hfa.symm.trans (PySem.W.mg_of X G aL)
  cases e
  have F1 := fun_mk (st := sWhole) l1 c1_ k1_
  have B1 := F1.binds (ps := ["thing"]) fun _ _ _ _ _ _ us hl => match us, hl with | [_], _ => rfl
  have D1 : Df K mg "is_whole" sWhole ["thing"] f1 _ := ⟨F1, B1, PySem.W.mg_of X G a1⟩
  have F2 := fun_mk (st := sWithin) l2 c2_ k2_
  have B2 := F2.binds (ps := ["thing", "low", "high"]) fun _ _ _ _ _ _ us hl => match us, hl with | [_, _, _], _ => rfl
  have D2 : Df K mg "is_within" sWithin ["thing", "low", "high"] f2 _ := ⟨F2, B2, PySem.W.mg_of X G a2⟩
  have FRO := fun_mk (st := sRoadOf) lRO cRO_ kRO_
  have BRO := FRO.binds (ps := ["net", "thing"]) fun _ _ _ _ _ _ us hl => match us, hl with | [_, _], _ => rfl
  have DRO : Df K mg "is_road_of" sRoadOf ["net", "thing"] fRO _ := ⟨FRO, BRO, PySem.W.mg_of X G aRO⟩
  have F3 := fun_mk (st := sTupOf) l3 c3_ k3_
  have B3 := F3.binds (ps := ["thing", "many"]) fun _ _ _ _ _ _ us hl => match us, hl with | [_, _], _ => rfl
  have D3 : Df K mg "is_tuple_of" sTupOf ["thing", "many"] f3 _ := ⟨F3, B3, PySem.W.mg_of X G a3⟩
  have F4 := fun_mk (st := sRoadQ) l4 c4_ k4_
  have B4 := F4.binds (ps := ["places", "thing"]) fun _ _ _ _ _ _ us hl => match us, hl with | [_, _], _ => rfl
  have D4 : Df K mg "is_road_among" sRoadQ ["places", "thing"] f4 _ := ⟨F4, B4, PySem.W.mg_of X G a4⟩
  have F5 := fun_mk (st := sNetQ) l5 c5_ k5_
  have B5 := F5.binds (ps := ["thing"]) fun _ _ _ _ _ _ us hl => match us, hl with | [_], _ => rfl
  have D5 : Df K mg "is_net" sNetQ ["thing"] f5 _ := ⟨F5, B5, PySem.W.mg_of X G a5⟩
  have FN := fun_mk (st := sChkN) lN cN_ kN_
  have BN := FN.binds (ps := ["thing"]) fun _ _ _ _ _ _ us hl => match us, hl with | [_], _ => rfl
  have DN : Df K mg "check_net" sChkN ["thing"] fN _ := ⟨FN, BN, PySem.W.mg_of X G aN⟩
  have FP := fun_mk (st := sChkP) lP cP_ kP_
  have BP := FP.binds (ps := ["net", "thing"]) fun _ _ _ _ _ _ us hl => match us, hl with | [_, _], _ => rfl
  have DP : Df K mg "check_place" sChkP ["net", "thing"] fP _ := ⟨FP, BP, PySem.W.mg_of X G aP⟩
  have FR := fun_mk (st := sRise) lR cR_ kR_
  have BR := FR.binds (ps := ["things"]) fun _ _ _ _ _ _ us hl => match us, hl with | [_], _ => rfl
  have DR : Df K mg "is_rising" sRise ["things"] fR _ := ⟨FR, BR, PySem.W.mg_of X G aR⟩
  have FS := fun_mk (st := sShutQ) lS cS_ kS_
  have BS := FS.binds (ps := ["net", "goal", "thing"]) fun _ _ _ _ _ _ us hl => match us, hl with | [_, _, _], _ => rfl
  have DS : Df K mg "check_shut" sShutQ ["net", "goal", "thing"] fS _ := ⟨FS, BS, PySem.W.mg_of X G aS⟩
  have FF := fun_mk (st := sFree) lF cF_ kF_
  have BF := FF.binds (ps := ["net", "shut"]) fun _ _ _ _ _ _ us hl => match us, hl with | [_, _], _ => rfl
  have DF : Df K mg "free_roads" sFree ["net", "shut"] fF _ := ⟨FF, BF, PySem.W.mg_of X G aF⟩
  have FX := fun_mk (st := sExc) lX cX_ kX_
  have BX := FX.binds (ps := ["own", "cost", "ahead"]) fun _ _ _ _ _ _ us hl => match us, hl with | [_, _, _], _ => rfl
  have DX : Df K mg "exceeds" sExc ["own", "cost", "ahead"] fX _ := ⟨FX, BX, PySem.W.mg_of X G aX⟩
  have FG := fun_mk (st := sGreat) lG cG_ kG_
  have BG := FG.binds (ps := ["net", "goal", "shut"]) fun _ _ _ _ _ _ us hl => match us, hl with | [_, _, _], _ => rfl
  have DG : Df K mg "greatest_prices" sGreat ["net", "goal", "shut"] fG _ := ⟨FG, BG, PySem.W.mg_of X G aG⟩
  have FI := fun_mk (st := sIsP) lI cI_ kI_
  have BI := FI.binds (ps := ["thing"]) fun _ _ _ _ _ _ us hl => match us, hl with | [_], _ => rfl
  have DI : Df K mg "is_price" sIsP ["thing"] fI _ := ⟨FI, BI, PySem.W.mg_of X G aI⟩
  have FH := fun_mk (st := sHold) lH cH_ kH_
  have BH := FH.binds (ps := ["net", "goal", "thing", "shut"]) fun _ _ _ _ _ _ us hl => match us, hl with | [_, _, _, _], _ => rfl
  have DH : Df K mg "prices_hold" sHold ["net", "goal", "thing", "shut"] fH _ := ⟨FH, BH, PySem.W.mg_of X G aH⟩
  have FA := fun_mk (st := sAlong) lA cA_ kA_
  have BA := FA.binds (ps := ["net", "place", "thing"]) fun _ _ _ _ _ _ us hl => match us, hl with | [_, _, _], _ => rfl
  have DA : Df K mg "places_along" sAlong ["net", "place", "thing"] fA _ := ⟨FA, BA, PySem.W.mg_of X G aA⟩
  have FC := fun_mk (st := sCostA) lC cC_ kC_
  have BC := FC.binds (ps := ["net", "way"]) fun _ _ _ _ _ _ us hl => match us, hl with | [_, _], _ => rfl
  have DC : Df K mg "cost_along" sCostA ["net", "way"] fC _ := ⟨FC, BC, PySem.W.mg_of X G aC⟩
  have FY := fun_mk (st := sWayOf) lY cY_ kY_
  have BY := FY.binds (ps := ["net", "place", "thing"]) fun _ _ _ _ _ _ us hl => match us, hl with | [_, _, _], _ => rfl
  have DY : Df K mg "way_of" sWayOf ["net", "place", "thing"] fY _ := ⟨FY, BY, PySem.W.mg_of X G aY⟩
  have FSt := fun_mk (st := sState) lSt cSt_ kSt_
  have BSt := FSt.binds (ps := ["_law_script", "_law_k"]) fun _ _ _ _ _ _ us hl => match us, hl with | [_, _], _ => rfl
  have DSt : Df K mg "_law_state" sState ["_law_script", "_law_k"] fSt _ := ⟨FSt, BSt, PySem.W.mg_of X G aSt⟩
  have FCe := fun_mk (st := sCell) lCe cCe_ kCe_
  have BCe := FCe.binds (ps := ["_law_script", "_law_k"]) fun _ _ _ _ _ _ us hl => match us, hl with | [_, _], _ => rfl
  have DCe : Df K mg "_law_cell_at" sCell ["_law_script", "_law_k"] fCe _ := ⟨FCe, BCe, PySem.W.mg_of X G aCe⟩
  have FTk := fun_mk (st := sTake) lTk cTk_ kTk_
  have BTk := FTk.binds (ps := ["_law_state_here", "_law_much"]) fun _ _ _ _ _ _ us hl => match us, hl with | [_, _], _ => rfl
  have DTk : Df K mg "_law_take" sTake ["_law_state_here", "_law_much"] fTk _ := ⟨FTk, BTk, PySem.W.mg_of X G aTk⟩
  have FNe := fun_mk (st := sNet) lNe cNe_ kNe_
  have BNe := FNe.binds (ps := ["_law_state_here", "_law_most", "_law_roads"]) fun _ _ _ _ _ _ us hl => match us, hl with | [_, _, _], _ => rfl
  have DNe : Df K mg "_law_net" sNet ["_law_state_here", "_law_most", "_law_roads"] fNe _ := ⟨FNe, BNe, PySem.W.mg_of X G aNe⟩
  have FSh := fun_mk (st := sLSh) lSh cSh_ kSh_
  have BSh := FSh.binds (ps := ["_law_state_here", "_law_web", "_law_aim"]) fun _ _ _ _ _ _ us hl => match us, hl with | [_, _, _], _ => rfl
  have DSh : Df K mg "_law_shut" sLSh ["_law_state_here", "_law_web", "_law_aim"] fSh _ := ⟨FSh, BSh, PySem.W.mg_of X G aSh⟩
  have FWk := fun_mk (st := sWalk) lWk cWk_ kWk_
  have BWk := FWk.binds (ps := ["_law_state_here", "_law_web", "_law_spot", "_law_most"]) fun _ _ _ _ _ _ us hl => match us, hl with | [_, _, _, _], _ => rfl
  have DWk : Df K mg "_law_walk" sWalk ["_law_state_here", "_law_web", "_law_spot", "_law_most"] fWk _ := ⟨FWk, BWk, PySem.W.mg_of X G aWk⟩
  have FLd := fun_mk (st := sLed) lLd cLd_ kLd_
  have BLd := FLd.binds (ps := ["_law_web", "_law_spot", "_law_prices_here"]) fun _ _ _ _ _ _ us hl => match us, hl with | [_, _, _], _ => rfl
  have DLd : Df K mg "_law_led" sLed ["_law_web", "_law_spot", "_law_prices_here"] fLd _ := ⟨FLd, BLd, PySem.W.mg_of X G aLd⟩
  have FGr := fun_mk (st := sGr) lGr cGr_ kGr_
  have BGr := FGr.binds (ps := ["_law_one", "_law_other"]) fun _ _ _ _ _ _ us hl => match us, hl with | [_, _], _ => rfl
  have DGr : Df K mg "_law_greater" sGr ["_law_one", "_law_other"] fGr _ := ⟨FGr, BGr, PySem.W.mg_of X G aGr⟩
  have FLe := fun_mk (st := sLess) lLe cLe_ kLe_
  have BLe := FLe.binds (ps := ["_law_state_here", "_law_web", "_law_prices_here"]) fun _ _ _ _ _ _ us hl => match us, hl with | [_, _, _], _ => rfl
  have DLe : Df K mg "_law_lesser" sLess ["_law_state_here", "_law_web", "_law_prices_here"] fLe _ := ⟨FLe, BLe, PySem.W.mg_of X G aLe⟩
  have FWR := fun_mk (st := sWR) lWR cWR_ kWR_
  have BWR := FWR.binds (ps := ["_law_state_here", "_law_web", "_law_aim", "_law_some"]) fun _ _ _ _ _ _ us hl => match us, hl with | [_, _, _, _], _ => rfl
  have DWR : Df K mg "_law_ways_right" sWR ["_law_state_here", "_law_web", "_law_aim", "_law_some"] fWR _ := ⟨FWR, BWR, PySem.W.mg_of X G aWR⟩
  have FL := fun_mk (st := sLaw) lL cL_ kL_
  have BL := FL.binds (ps := ["_law_script"]) fun _ _ _ _ _ _ us hl => match us, hl with | [_], _ => rfl
  have DL : Df K mg "law" sLaw ["_law_script"] fa _ := ⟨FL, BL, PySem.W.mg_of X G aL⟩
  have m_isinstance := PySem.W.mg_none_of X G z_isinstance
  have m_int := PySem.W.mg_none_of X G z_int
  have m_bool := PySem.W.mg_none_of X G z_bool
  have m_tuple := PySem.W.mg_none_of X G z_tuple
  have m_len := PySem.W.mg_none_of X G z_len
  have m_all := PySem.W.mg_none_of X G z_all
  have m_sum := PySem.W.mg_none_of X G z_sum
  have m_set := PySem.W.mg_none_of X G z_set
  have m_range := PySem.W.mg_none_of X G z_range
  have m_max := PySem.W.mg_none_of X G z_max
  have m_min := PySem.W.mg_none_of X G z_min
  have m_zip := PySem.W.mg_none_of X G z_zip
  have m_any := PySem.W.mg_none_of X G z_any
  have m_enumerate := PySem.W.mg_none_of X G z_enumerate
  have S : Sm K mg f1 f2 f3 f4 f5 _ _ _ _ _ := { mi := m_isinstance, mI := m_int, mB := m_bool, mT := m_tuple, ml := m_len, mA := m_all, mS := m_sum, mE := m_set, c1 := ⟨_, PySem.W.mg_of X G q1⟩, c2 := ⟨_, PySem.W.mg_of X G q2⟩, c3 := ⟨_, PySem.W.mg_of X G q3⟩, c4 := ⟨_, PySem.W.mg_of X G q4⟩, c5 := ⟨_, PySem.W.mg_of X G q5⟩, whole := D1, within := D2, tupOf := D3, roadQ := D4, netQ := D5, roadOf := ⟨fRO, _, DRO⟩ }
  refine ⟨PySem.W.fnOf "law" "law" (defArgs sLaw) (defBody sLaw) (defScope sLaw) .none kVL dcL pmL anL cdL ctL, fun s v => .of_eq rfl, fun base KB GB => ?_⟩
  have FPr := fun_mk (st := sPrices) lPr cPr_ kPr_
  have FAr := fun_mk (st := sAre) lAr cAr_ kAr_
  have T : Pt K mg fN fP fR fS fF fX fG _ _ _ _ _ _ _ := { N := DN, P := DP, R := DR, S := DS, F := DF, X := DX, G := DG, mZ := m_zip, mR := m_range }
  have FDPr : FunD K "prices_of" "prices_of" (defArgs sPrices) (defBody sPrices) (defScope sPrices) [] [("shut", .ref Tk)] fPr _ := ⟨⟨_, _, _, _, _, _, _, _, _, _, rfl, lPr, cPr_, .inl ⟨rfl, rfl⟩, .inr ⟨Dk, rfl, fun q hq => by rw [List.mem_singleton.mp hq]; exact ⟨_, nk, rfl⟩⟩⟩, kPr_⟩
  have FDAr : FunD K "are_prices" "are_prices" (defArgs sAre) (defBody sAre) (defScope sAre) [] [("shut", .ref Tj)] fAr _ := ⟨⟨_, _, _, _, _, _, _, _, _, _, rfl, lAr, cAr_, .inl ⟨rfl, rfl⟩, .inr ⟨Dj, rfl, fun q hq => by rw [List.mem_singleton.mp hq]; exact ⟨_, nj, rfl⟩⟩⟩, kAr_⟩
  obtain ⟨ds, vD, bD⟩ := df_prices FDPr
  obtain ⟨ds2, vA, bA⟩ := df_are FDAr
  have hTk : ∀ H : Hp, SqT K H Tk [] := fun H => .inr ⟨_, #[], nT, lk, rfl, rfl, by decide, .nil⟩
  have hTj : ∀ H : Hp, SqT K H Tj [] := fun H => .inr ⟨_, #[], nU, lj, rfl, rfl, by decide, .nil⟩
  exact ok_law (ok_pr (k := 0) S T FPr) (PySem.W.mg_of X G aPr) kPr_ (kw_prices FPr) bD vD (ok_are (k := 0) S T m_any DI DH FAr) (PySem.W.mg_of X G aAr) kAr_ bA vA hTk hTj DGr (ok_gr (k := 5) m_tuple m_max m_zip DGr) DLe (ok_less (k := 4) m_tuple m_min DTk DLe) DLd (ok_led (k := 5) m_enumerate m_len DLd) DWR (ok_wr (k := 0) m_range DTk DWk DY (ok_take (k := 5) DTk) (ok_walk (k := 4) DTk m_range m_tuple m_enumerate m_len DWk) (ok_way0 (k := 0) S DN DP DC DA DY) DWR) DY (ok_way0 (k := 0) S DN DP DC DA DY) DSh (ok_lsh (k := 4) m_range m_tuple DTk DSh) DSt (ok_state (k := 4) DSt DCe m_len m_max) DTk (ok_take (k := 5) DTk) DNe (ok_net (k := 4) DTk m_range m_tuple DNe) m_range m_max m_min m_len m_all m_enumerate DL
end Wy

open PySem PySem.W PyProof.Rows
set_option maxHeartbeats 0 in
theorem PySem.Challenge.cw_waysranked_k06_whole_no_way_costs_less_holds : PySem.Challenge.rw_waysranked_k06_whole_no_way_costs_less.Holds := by
  w_on; o_law; k_head; (case hw => w_witness2)
  k_fill
  refine L2.walk_of (l := PySem.Challenge.rw_waysranked_k06_whole_no_way_costs_less) (n := 63) (k := 8) (x := "_law_script") (CX := fun _ => L2.CX0) (sp := fun w => Wy.spLaw _) rfl (by decide) rfl ⟨rfl, by decide, by decide⟩ (fun w h Y => PySem.W.kIn_of Y) ?F (fun _ _ a ns hl _ hS => ⟨a, ns, rfl, hS, hl, fun _ => rfl⟩) (fun _ _ _ _ _ h => h)
  case F =>
    intro w mg fa h KX G hmg
    refine' Wy.fin_mk KX G hmg ?zz_a1 ?zz_l1 ?zz_c1_ ?zz_k1_ ?zz_a2 ?zz_l2 ?zz_c2_ ?zz_k2_ ?zz_aRO ?zz_lRO ?zz_cRO_ ?zz_kRO_ ?zz_a3 ?zz_l3 ?zz_c3_ ?zz_k3_ ?zz_a4 ?zz_l4 ?zz_c4_ ?zz_k4_ ?zz_a5 ?zz_l5 ?zz_c5_ ?zz_k5_ ?zz_aN ?zz_lN ?zz_cN_ ?zz_kN_ ?zz_aP ?zz_lP ?zz_cP_ ?zz_kP_ ?zz_aR ?zz_lR ?zz_cR_ ?zz_kR_ ?zz_aS ?zz_lS ?zz_cS_ ?zz_kS_ ?zz_aF ?zz_lF ?zz_cF_ ?zz_kF_ ?zz_aX ?zz_lX ?zz_cX_ ?zz_kX_ ?zz_aG ?zz_lG ?zz_cG_ ?zz_kG_ ?zz_aPr ?zz_lPr ?zz_cPr_ ?zz_kPr_ ?zz_aI ?zz_lI ?zz_cI_ ?zz_kI_ ?zz_aH ?zz_lH ?zz_cH_ ?zz_kH_ ?zz_aAr ?zz_lAr ?zz_cAr_ ?zz_kAr_ ?zz_aA ?zz_lA ?zz_cA_ ?zz_kA_ ?zz_aC ?zz_lC ?zz_cC_ ?zz_kC_ ?zz_aY ?zz_lY ?zz_cY_ ?zz_kY_ ?zz_aSt ?zz_lSt ?zz_cSt_ ?zz_kSt_ ?zz_aCe ?zz_lCe ?zz_cCe_ ?zz_kCe_ ?zz_aTk ?zz_lTk ?zz_cTk_ ?zz_kTk_ ?zz_aNe ?zz_lNe ?zz_cNe_ ?zz_kNe_ ?zz_aSh ?zz_lSh ?zz_cSh_ ?zz_kSh_ ?zz_aWk ?zz_lWk ?zz_cWk_ ?zz_kWk_ ?zz_aLd ?zz_lLd ?zz_cLd_ ?zz_kLd_ ?zz_aGr ?zz_lGr ?zz_cGr_ ?zz_kGr_ ?zz_aLe ?zz_lLe ?zz_cLe_ ?zz_kLe_ ?zz_aWR ?zz_lWR ?zz_cWR_ ?zz_kWR_ ?zz_aL ?zz_lL ?zz_cL_ ?zz_kL_ ?zz_z_isinstance ?zz_z_int ?zz_z_bool ?zz_z_tuple ?zz_z_len ?zz_z_all ?zz_z_sum ?zz_z_set ?zz_z_range ?zz_z_max ?zz_z_min ?zz_z_zip ?zz_z_any ?zz_z_enumerate ?zz_q1 ?zz_q2 ?zz_q3 ?zz_q4 ?zz_q5 ?zz_nk ?zz_nj ?zz_lj ?zz_lk
    (case zz_a1 => first | k_is | rfl | decide +kernel | k_exc)
    (case zz_l1 => first | k_is | rfl | decide +kernel | k_exc)
    (case zz_c1_ => first | k_is | rfl | decide +kernel | k_exc)
    (case zz_k1_ => first | k_is | rfl | decide +kernel | k_exc)
    (case zz_a2 => first | k_is | rfl | decide +kernel | k_exc)
    (case zz_l2 => first | k_is | rfl | decide +kernel | k_exc)
    (case zz_c2_ => first | k_is | rfl | decide +kernel | k_exc)
    (case zz_aRO => first | k_is | rfl | decide +kernel | k_exc)
    (case zz_lRO => first | k_is | rfl | decide +kernel | k_exc)
    (case zz_cRO_ => first | k_is | rfl | decide +kernel | k_exc)
    (case zz_kRO_ => first | k_is | rfl | decide +kernel | k_exc)
    (case zz_k2_ => first | k_is | rfl | decide +kernel | k_exc)
    (case zz_a3 => first | k_is | rfl | decide +kernel | k_exc)
    (case zz_l3 => first | k_is | rfl | decide +kernel | k_exc)
    (case zz_c3_ => first | k_is | rfl | decide +kernel | k_exc)
    (case zz_k3_ => first | k_is | rfl | decide +kernel | k_exc)
    (case zz_a4 => first | k_is | rfl | decide +kernel | k_exc)
    (case zz_l4 => first | k_is | rfl | decide +kernel | k_exc)
    (case zz_c4_ => first | k_is | rfl | decide +kernel | k_exc)
    (case zz_k4_ => first | k_is | rfl | decide +kernel | k_exc)
    (case zz_a5 => first | k_is | rfl | decide +kernel | k_exc)
    (case zz_l5 => first | k_is | rfl | decide +kernel | k_exc)
    (case zz_c5_ => first | k_is | rfl | decide +kernel | k_exc)
    (case zz_k5_ => first | k_is | rfl | decide +kernel | k_exc)
    (case zz_aN => first | k_is | rfl | decide +kernel | k_exc)
    (case zz_lN => first | k_is | rfl | decide +kernel | k_exc)
    (case zz_cN_ => first | k_is | rfl | decide +kernel | k_exc)
    (case zz_kN_ => first | k_is | rfl | decide +kernel | k_exc)
    (case zz_aP => first | k_is | rfl | decide +kernel | k_exc)
    (case zz_lP => first | k_is | rfl | decide +kernel | k_exc)
    (case zz_cP_ => first | k_is | rfl | decide +kernel | k_exc)
    (case zz_kP_ => first | k_is | rfl | decide +kernel | k_exc)
    (case zz_aR => first | k_is | rfl | decide +kernel | k_exc)
    (case zz_lR => first | k_is | rfl | decide +kernel | k_exc)
    (case zz_cR_ => first | k_is | rfl | decide +kernel | k_exc)
    (case zz_kR_ => first | k_is | rfl | decide +kernel | k_exc)
    (case zz_aS => first | k_is | rfl | decide +kernel | k_exc)
    (case zz_lS => first | k_is | rfl | decide +kernel | k_exc)
    (case zz_cS_ => first | k_is | rfl | decide +kernel | k_exc)
    (case zz_kS_ => first | k_is | rfl | decide +kernel | k_exc)
    (case zz_aF => first | k_is | rfl | decide +kernel | k_exc)
    (case zz_lF => first | k_is | rfl | decide +kernel | k_exc)
    (case zz_cF_ => first | k_is | rfl | decide +kernel | k_exc)
    (case zz_kF_ => first | k_is | rfl | decide +kernel | k_exc)
    (case zz_aX => first | k_is | rfl | decide +kernel | k_exc)
    (case zz_lX => first | k_is | rfl | decide +kernel | k_exc)
    (case zz_cX_ => first | k_is | rfl | decide +kernel | k_exc)
    (case zz_kX_ => first | k_is | rfl | decide +kernel | k_exc)
    (case zz_aG => first | k_is | rfl | decide +kernel | k_exc)
    (case zz_lG => first | k_is | rfl | decide +kernel | k_exc)
    (case zz_cG_ => first | k_is | rfl | decide +kernel | k_exc)
    (case zz_kG_ => first | k_is | rfl | decide +kernel | k_exc)
    (case zz_aPr => first | k_is | rfl | decide +kernel | k_exc)
    (case zz_lPr => first | k_is | rfl | decide +kernel | k_exc)
    (case zz_cPr_ => first | k_is | rfl | decide +kernel | k_exc)
    (case zz_kPr_ => first | k_is | rfl | decide +kernel | k_exc)
    (case zz_aI => first | k_is | rfl | decide +kernel | k_exc)
    (case zz_lI => first | k_is | rfl | decide +kernel | k_exc)
    (case zz_cI_ => first | k_is | rfl | decide +kernel | k_exc)
    (case zz_kI_ => first | k_is | rfl | decide +kernel | k_exc)
    (case zz_aH => first | k_is | rfl | decide +kernel | k_exc)
    (case zz_lH => first | k_is | rfl | decide +kernel | k_exc)
    (case zz_cH_ => first | k_is | rfl | decide +kernel | k_exc)
    (case zz_kH_ => first | k_is | rfl | decide +kernel | k_exc)
    (case zz_aAr => first | k_is | rfl | decide +kernel | k_exc)
    (case zz_lAr => first | k_is | rfl | decide +kernel | k_exc)
    (case zz_cAr_ => first | k_is | rfl | decide +kernel | k_exc)
    (case zz_kAr_ => first | k_is | rfl | decide +kernel | k_exc)
    (case zz_aA => first | k_is | rfl | decide +kernel | k_exc)
    (case zz_lA => first | k_is | rfl | decide +kernel | k_exc)
    (case zz_cA_ => first | k_is | rfl | decide +kernel | k_exc)
    (case zz_kA_ => first | k_is | rfl | decide +kernel | k_exc)
    (case zz_aC => first | k_is | rfl | decide +kernel | k_exc)
    (case zz_lC => first | k_is | rfl | decide +kernel | k_exc)
    (case zz_cC_ => first | k_is | rfl | decide +kernel | k_exc)
    (case zz_kC_ => first | k_is | rfl | decide +kernel | k_exc)
    (case zz_aY => first | k_is | rfl | decide +kernel | k_exc)
    (case zz_lY => first | k_is | rfl | decide +kernel | k_exc)
    (case zz_cY_ => first | k_is | rfl | decide +kernel | k_exc)
    (case zz_kY_ => first | k_is | rfl | decide +kernel | k_exc)
    (case zz_aSt => first | k_is | rfl | decide +kernel | k_exc)
    (case zz_lSt => first | k_is | rfl | decide +kernel | k_exc)
    (case zz_cSt_ => first | k_is | rfl | decide +kernel | k_exc)
    (case zz_kSt_ => first | k_is | rfl | decide +kernel | k_exc)
    (case zz_aCe => first | k_is | rfl | decide +kernel | k_exc)
    (case zz_lCe => first | k_is | rfl | decide +kernel | k_exc)
    (case zz_cCe_ => first | k_is | rfl | decide +kernel | k_exc)
    (case zz_kCe_ => first | k_is | rfl | decide +kernel | k_exc)
    (case zz_aTk => first | k_is | rfl | decide +kernel | k_exc)
    (case zz_lTk => first | k_is | rfl | decide +kernel | k_exc)
    (case zz_cTk_ => first | k_is | rfl | decide +kernel | k_exc)
    (case zz_kTk_ => first | k_is | rfl | decide +kernel | k_exc)
    (case zz_aNe => first | k_is | rfl | decide +kernel | k_exc)
    (case zz_lNe => first | k_is | rfl | decide +kernel | k_exc)
    (case zz_cNe_ => first | k_is | rfl | decide +kernel | k_exc)
    (case zz_kNe_ => first | k_is | rfl | decide +kernel | k_exc)
    (case zz_aSh => first | k_is | rfl | decide +kernel | k_exc)
    (case zz_lSh => first | k_is | rfl | decide +kernel | k_exc)
    (case zz_cSh_ => first | k_is | rfl | decide +kernel | k_exc)
    (case zz_kSh_ => first | k_is | rfl | decide +kernel | k_exc)
    (case zz_aWk => first | k_is | rfl | decide +kernel | k_exc)
    (case zz_lWk => first | k_is | rfl | decide +kernel | k_exc)
    (case zz_cWk_ => first | k_is | rfl | decide +kernel | k_exc)
    (case zz_kWk_ => first | k_is | rfl | decide +kernel | k_exc)
    (case zz_aLd => first | k_is | rfl | decide +kernel | k_exc)
    (case zz_lLd => first | k_is | rfl | decide +kernel | k_exc)
    (case zz_cLd_ => first | k_is | rfl | decide +kernel | k_exc)
    (case zz_kLd_ => first | k_is | rfl | decide +kernel | k_exc)
    (case zz_aGr => first | k_is | rfl | decide +kernel | k_exc)
    (case zz_lGr => first | k_is | rfl | decide +kernel | k_exc)
    (case zz_cGr_ => first | k_is | rfl | decide +kernel | k_exc)
    (case zz_kGr_ => first | k_is | rfl | decide +kernel | k_exc)
    (case zz_aLe => first | k_is | rfl | decide +kernel | k_exc)
    (case zz_lLe => first | k_is | rfl | decide +kernel | k_exc)
    (case zz_cLe_ => first | k_is | rfl | decide +kernel | k_exc)
    (case zz_kLe_ => first | k_is | rfl | decide +kernel | k_exc)
    (case zz_aWR => first | k_is | rfl | decide +kernel | k_exc)
    (case zz_lWR => first | k_is | rfl | decide +kernel | k_exc)
    (case zz_cWR_ => first | k_is | rfl | decide +kernel | k_exc)
    (case zz_kWR_ => first | k_is | rfl | decide +kernel | k_exc)
    (case zz_aL => first | k_is | rfl | decide +kernel | k_exc)
    (case zz_lL => first | k_is | rfl | decide +kernel | k_exc)
    (case zz_cL_ => first | k_is | rfl | decide +kernel | k_exc)
    (case zz_kL_ => first | k_is | rfl | decide +kernel | k_exc)
    (case zz_z_isinstance => first | k_is | rfl | decide +kernel | k_exc)
    (case zz_z_int => first | k_is | rfl | decide +kernel | k_exc)
    (case zz_z_bool => first | k_is | rfl | decide +kernel | k_exc)
    (case zz_z_tuple => first | k_is | rfl | decide +kernel | k_exc)
    (case zz_z_len => first | k_is | rfl | decide +kernel | k_exc)
    (case zz_z_all => first | k_is | rfl | decide +kernel | k_exc)
    (case zz_z_sum => first | k_is | rfl | decide +kernel | k_exc)
    (case zz_z_set => first | k_is | rfl | decide +kernel | k_exc)
    (case zz_z_range => first | k_is | rfl | decide +kernel | k_exc)
    (case zz_z_max => first | k_is | rfl | decide +kernel | k_exc)
    (case zz_z_min => first | k_is | rfl | decide +kernel | k_exc)
    (case zz_z_zip => first | k_is | rfl | decide +kernel | k_exc)
    (case zz_z_any => first | k_is | rfl | decide +kernel | k_exc)
    (case zz_z_enumerate => first | k_is | rfl | decide +kernel | k_exc)
    (case zz_q1 => first | k_is | rfl | decide +kernel | k_exc)
    (case zz_q2 => first | k_is | rfl | decide +kernel | k_exc)
    (case zz_q3 => first | k_is | rfl | decide +kernel | k_exc)
    (case zz_q4 => first | k_is | rfl | decide +kernel | k_exc)
    (case zz_q5 => first | k_is | rfl | decide +kernel | k_exc)
    (case zz_nk => first | k_is | rfl | decide +kernel | k_exc)
    (case zz_nj => first | k_is | rfl | decide +kernel | k_exc)
    (case zz_lj => first | k_is | rfl | decide +kernel | k_exc)
    (case zz_lk => first | k_is | rfl | decide +kernel | k_exc)
