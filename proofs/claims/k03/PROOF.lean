import PyProof.Rows.All
import Wide.All
import OpenK.AllK
import Wide.FinOn
import PySem.Challenge.RW_waysranked_k03_the_greatest_prices
import HandS.ForMost
import HandS.ForExc
import HandS.IsInst
import HandS.ExcIs
import HandS.Lambda
import HandS.HotCalls
import HandS.Zip
import HandS.Strs
import HandS.Flow
import HandS.Style
import HandS.TupAny
import HandS.TupLe
import HandS.Defaults
import PyProof.ReprRoads
import HandS.Walk
import HandS.SetFor
import KE.DataMinMax
import KE.SortData
import KE.KNestM
set_option Elab.async false
set_option linter.all false
set_option maxRecDepth 100000
namespace Wy
open PySem PySem.Spec PyProof.Rows L2
def topS (i : Nat) : Stmt := PySem.Challenge.pw_waysranked_k03_the_greatest_prices.main.body.getD i (.Pass ⟨0, 0, 0, 0⟩)
abbrev sWhole : Stmt := topS 7
abbrev sWithin : Stmt := topS 8
abbrev sTupOf : Stmt := topS 17
abbrev sCell : Stmt := topS 28
abbrev sState : Stmt := topS 29
abbrev sTake : Stmt := topS 30
/-- a def of the text, where it stands, how its arguments bind -/
structure Df (K : PySem.W.Frag) (mg : Str → Option Value) (x : Str) (st : Stmt) (ps : List Str) (f : Addr) (fd : FuncData) : Prop where
  F : Fun K x x st f fd
  b : Binds K fd ps []
  g : mg x = some (.ref f)
/-- all but the state's list stays -/
def Keep (z : Addr) (H H' : Hp) : Prop := ∀ b o, H b = some o → b ≠ z → H' b = some o
def StOk (H : Hp) (z : Addr) : Prop := ∃ x y : Int, H z = some (.lst [.int x, .int y]) ∧ 0 ≤ x ∧ 0 ≤ y ∧ y < 2147483647
theorem Keep.refl (z : Addr) (H : Hp) : Keep z H H := fun _ _ h _ => h
theorem Keep.trans {z : Addr} {H H1 H2 : Hp} (a : Keep z H H1) (b : Keep z H1 H2) : Keep z H H2 := fun c o h n => b c o (a c o h n) n
theorem Keep.self {z : Addr} {H : Hp} {o : HO} : Keep z H (upd H z o) := fun b u h n => by rw [upd_ne n]; exact h
theorem Keep.new {z p : Addr} {H : Hp} {o : HO} (h : H p = none) : Keep z H (upd H p o) := fun b u e _ => by rw [upd_ne (ne_of_none e h)]; exact e
theorem Keep.of {z : Addr} {H H' : Hp} (h : Same H H') : Keep z H H' := fun b o e _ => h b o e
theorem same_new {H : Hp} {p : Addr} {o : HO} (h : H p = none) : Same H (upd H p o) := fun b x e => by
  rw [upd_ne (ne_of_none e h)]
  exact e
theorem StOk.same {H H' : Hp} {z : Addr} (s : StOk H z) (h : Same H H') : StOk H' z := let ⟨x, y, e, r⟩ := s; ⟨x, y, h _ _ e, r⟩
theorem StOk.ne {H : Hp} {z p : Addr} (s : StOk H z) (h : H p = none) : z ≠ p := let ⟨_, _, e, _⟩ := s; ne_of_none e h
/-- a thing of whatever kind, by its class -/
inductive Tg (H : Hp) : V → String → Prop where
  | non : Tg H .non "NoneType"
  | bl (b : Bool) : Tg H (.bl b) "bool"
  | int (i : Int) : Tg H (.int i) "int"
  | str (x : Str) : Tg H (.str x) "str"
  | lst {a : Addr} {xs : List V} : H a = some (.lst xs) → Tg H (.ref a) "list"
  | tup {a : Addr} {xs : List V} : H a = some (.tup xs) → Tg H (.ref a) "tuple"
  | dct {a : Addr} {xs : List (Key × V)} : H a = some (.dK xs) → Tg H (.ref a) "dict"
theorem Tg.tyx {K : PySem.W.Frag} {H : Hp} {v : V} {n : String} (t : Tg H v n) : TyX K H v (.type n) := by
  cases t with
  | non => exact .base .non
  | bl b => exact .base (.bl b)
  | int i => exact .base (.int i)
  | str x => exact .base (.str x)
  | lst e => exact .base (.lst e)
  | tup e => exact .base (.tup e)
  | dct e => exact .base (.dK e)
theorem Tg.keep {H H' : Hp} {v : V} {n : String} (t : Tg H v n) (h : Same H H') : Tg H' v n := by
  cases t with
  | non => exact .non
  | bl b => exact .bl b
  | int i => exact .int i
  | str x => exact .str x
  | lst e => exact .lst (h _ _ e)
  | tup e => exact .tup (h _ _ e)
  | dct e => exact .dct (h _ _ e)
def kInt (n : String) : Bool := n == "int" || n == "bool"
theorem isi_int {K : PySem.W.Frag} {H : Hp} {v : V} {n : String} (t : Tg H v n) : PySem.W.kitOne K (.type n) (.type "int") = some (kInt n) := by
  cases t <;> exact kit_ty (by decide +kernel)
theorem isi_bool {K : PySem.W.Frag} {H : Hp} {v : V} {n : String} (t : Tg H v n) : PySem.W.kitOne K (.type n) (.type "bool") = some (n == "bool") := by
  cases t <;> exact kit_ty (by decide +kernel)
theorem isi_tuple {K : PySem.W.Frag} {H : Hp} {v : V} {n : String} (t : Tg H v n) : PySem.W.kitOne K (.type n) (.type "tuple") = some (n == "tuple") := by
  cases t <;> exact kit_ty (by decide +kernel)
/-- a whole number from lo to hi -/
def isIn (v : V) (lo hi : Int) : Bool := match v with
  | .int i => decide (lo ≤ i) && decide (i ≤ hi)
  | _ => false
section
variable {P : Program} {w : World} {K : PySem.W.Frag} {mg : Str → Option Value} {base : Heap}
theorem scTake : FnScope ["_law_state_here", "_law_much", "_law_found", "_law_stirred"] ["_law_state_here", "_law_much"] (defScope sTake) := ⟨rfl, rfl, rfl, by decide +kernel, rfl, by decide +kernel, by decide +kernel⟩
def spTake : Sp := fun vs H Q _ => ∃ (z : Addr) (m : Int), vs = [.ref z, .int m] ∧ StOk H z ∧ 0 < m ∧ m < 1073741824 ∧
  ∀ H' n, Keep z H H' → StOk H' z → 0 ≤ n → n < m → Q (.int n) H'
theorem ok_take {f : Addr} {fd : FuncData} {k : Nat} (D : Df K mg "_law_take" sTake ["_law_state_here", "_law_much"] f fd) : FnOk P w K mg base CX0 (k + 1) f fd ["_law_state_here", "_law_much"] spTake := by
  refine D.F.ok scTake (fun vs H Q E h => ?_) (fun cdv A outer s H vs Q E hr h => ?_)
  · obtain ⟨_, _, rfl, _⟩ := h
    rfl
  · obtain ⟨z, m, rfl, ⟨x, y, e, hx, hy, hy2⟩, hm, hm2, q⟩ := h
    refine ⟨_, pss_cons (ps_if (pt_cmpR op_gt (pe_ix ix_list (pv 0) pe_int (fun _ _ => rfl)) pe_int (nomark _))
        (pss_cons (ps_set (i := 2) scTake.nd rfl (.inl rfl) (pe_op op_mod (pe_ix ix_list (pv 0) pe_int (fun _ _ => rfl)) (pv 1)))
        (pss_cons (ps_asg (pe_op op_fdiv (pe_ix ix_list (pv 0) pe_int (fun _ _ => rfl)) (pv 1)) (pg_sub (pv 0) pe_int set_list))
        (pss_one (ps_ret (pv 2))))) pss_nil)
      (pss_cons (ps_asg (pe_op op_mod (pe_op op_add (pe_op op_mul (pe_ix ix_list (pv 0) pe_int (fun _ _ => rfl)) pe_int) pe_int) pe_int) (pg_sub (pv 0) pe_int set_list))
      (pss_cons (ps_set (i := 3) scTake.nd rfl (.inl rfl) (pe_op op_mod (pe_op op_add (pe_op op_add (pe_op op_mul (pe_ix ix_list (pv 0) pe_int (fun _ _ => rfl)) (pe_ix ix_list (pv 0) pe_int (fun _ _ => rfl))) (pe_op op_mul pe_int (pe_ix ix_list (pv 0) pe_int (fun _ _ => rfl)))) pe_int) pe_int))
      (pss_cons (ps_set (i := 3) scTake.nd rfl (.inl rfl) (pe_op op_mod (pe_op op_add (pe_op op_mul (pv 3) (pv 3)) (pe_op op_mul pe_int (pv 3))) pe_int))
      (pss_one (ps_ret (pe_op op_mod (pe_op op_fdiv (pv 3) pe_int) (pv 1))))))), ?_⟩
    refine ⟨.ref z, rfl, z, _, 0, _, rfl, rfl, SqL.of e, rfl, x, 0, rfl, rfl, _, rfl, ite2 (fun c => ?_) (fun c => ?_)⟩
    · refine ⟨.ref z, rfl, z, _, 0, _, rfl, rfl, SqL.of e, rfl, .int m, rfl, x, m, rfl, rfl, hm, ?_⟩
      refine ⟨.ref z, rfl, z, _, 0, _, rfl, rfl, SqL.of e, rfl, .int m, rfl, x, m, rfl, rfl, ⟨hm, hm2⟩, ?_⟩
      refine ⟨.ref z, rfl, z, _, 0, 0, rfl, rfl, e, rfl, ?_⟩
      refine ⟨.int (x % m), rfl, q _ _ .self ⟨x / m, y, upd_same, Int.ediv_nonneg hx (Int.le_of_lt hm), hy, hy2⟩ (Int.emod_nonneg _ (by omega)) (Int.emod_lt_of_pos _ hm)⟩
    · have b1 := Int.emod_nonneg (y * 48271 + 29) (show (2147483647 : Int) ≠ 0 by decide)
      have b2 := Int.emod_lt_of_pos (y * 48271 + 29) (show (0 : Int) < 2147483647 by decide)
      refine ⟨.ref z, rfl, z, _, 1, _, rfl, rfl, SqL.of e, rfl, y, 48271, rfl, rfl, .inr ⟨by decide, by decide⟩, _, _, rfl, rfl, _, 2147483647, rfl, rfl, (by show (0 : Int) < 2147483647; decide), ?_⟩
      refine ⟨.ref z, rfl, z, _, 1, 1, rfl, rfl, e, rfl, ?_⟩
      have e2 : (upd H z (.lst [.int x, .int ((y * 48271 + 29) % 2147483647)])) z = some (.lst [.int x, .int ((y * 48271 + 29) % 2147483647)]) := upd_same
      obtain ⟨y2, ey⟩ : ∃ y2, y2 = (y * 48271 + 29) % 2147483647 := ⟨_, rfl⟩
      rw [← ey] at b1 b2 e2
      show (fun H0 : Hp => _) (upd H z (.lst [.int x, .int ((y * 48271 + 29) % 2147483647)]))
      rw [← ey]
      refine ⟨.ref z, rfl, z, _, 1, _, rfl, rfl, SqL.of e2, rfl, .ref z, rfl, z, _, 1, _, rfl, rfl, SqL.of e2, rfl, y2, y2, rfl, rfl, .inl ⟨by omega, by omega⟩, .ref z, rfl, z, _, 1, _, rfl, rfl, SqL.of e2, rfl, 39373, y2, rfl, rfl, .inl ⟨by decide, by decide⟩, _, _, rfl, rfl, _, 7, rfl, rfl, _, 2147483629, rfl, rfl, (by show (0 : Int) < 2147483629; decide), ?_⟩
      have c1 := Int.emod_nonneg (y2 * y2 + 39373 * y2 + 7) (show (2147483629 : Int) ≠ 0 by decide)
      have c2 := Int.emod_lt_of_pos (y2 * y2 + 39373 * y2 + 7) (show (0 : Int) < 2147483629 by decide)
      have d1 : -(2 : Int) ^ 64 < (y2 * y2 + 39373 * y2 + 7) % 2147483629 := Int.lt_of_lt_of_le (by decide) c1
      have d2 : (y2 * y2 + 39373 * y2 + 7) % 2147483629 < (2 : Int) ^ 64 := Int.lt_trans c2 (by decide)
      refine ⟨_, rfl, _, rfl, _, _, rfl, rfl, .inl ⟨d1, d2⟩, _, rfl, 16807, _, rfl, rfl, .inl ⟨by decide, by decide⟩, _, _, rfl, rfl, _, 2147483587, rfl, rfl, (by show (0 : Int) < 2147483587; decide), ?_⟩
      refine ⟨_, rfl, _, 8, rfl, rfl, ⟨by decide, by decide⟩, .int m, rfl, _, m, rfl, rfl, hm, ?_⟩
      exact q _ _ .self ⟨x, y2, e2, hx, b1, b2⟩ (Int.emod_nonneg _ (by omega)) (Int.emod_lt_of_pos _ hm)
theorem scCell : FnScope ["_law_script", "_law_k"] ["_law_script", "_law_k"] (defScope sCell) := ⟨rfl, rfl, rfl, by decide +kernel, rfl, by decide +kernel, by decide +kernel⟩
def spCell (K : PySem.W.Frag) : Sp := fun vs H Q _ => ∃ (a : Addr) (ns : List Int) (i : Nat), vs = [.ref a, .int (i : Int)] ∧ SqL K H a (ns.map V.int) ∧ ∀ n, Q (.int n) H
theorem ok_cell {f : Addr} {fd : FuncData} {k : Nat} (D : Df K mg "_law_cell_at" sCell ["_law_script", "_law_k"] f fd) (ml : mg "len" = none) : FnOk P w K mg base CX0 (k + 1) f fd ["_law_script", "_law_k"] (spCell K) := by
  refine D.F.ok scCell (fun vs H Q E h => ?_) (fun cdv A outer s H vs Q E hr h => ?_)
  · obtain ⟨_, _, _, rfl, _⟩ := h
    rfl
  · obtain ⟨a, ns, i, rfl, hS, q⟩ := h
    refine ⟨_, pss_cons (ps_if (pt_cmpR op_lt (pv 1) (pe_callB call_len_seq (by rfl) ml PySem.boot_len (pa_cons (pv 0) pa_nil)) (nomark _))
        (pss_one (ps_ret (pe_ix ix_list (pv 0) (pv 1) (fun _ _ => rfl)))) pss_nil) (pss_one (ps_ret pe_int)), ?_⟩
    refine ⟨.int i, rfl, .ref a, rfl, a, _, rfl, .inl hS, _, _, rfl, rfl, _, rfl, ite2 (fun c => ?_) (fun c => ?_)⟩
    · have c' : (i : Int) < ((ns.map V.int).length : Int) := of_decide_eq_true c
      rw [List.length_map] at c'
      have hi : i < ns.length := by omega
      refine ⟨.ref a, rfl, .int i, rfl, a, _, i, .int ns[i], rfl, rfl, hS, atI_nat ?_, q _⟩
      rw [List.getElem?_map, List.getElem?_eq_getElem hi]
      rfl
    · exact q _
theorem scState : FnScope ["_law_script", "_law_k", "_law_cell"] ["_law_script", "_law_k"] (defScope sState) := ⟨rfl, rfl, rfl, by decide +kernel, rfl, by decide +kernel, by decide +kernel⟩
def spState (K : PySem.W.Frag) : Sp := fun vs H Q _ => ∃ (a : Addr) (ns : List Int) (i : Nat), vs = [.ref a, .int (i : Int)] ∧ SqL K H a (ns.map V.int) ∧ ∀ H' z, Same H H' → H z = none → StOk H' z → Q (.ref z) H'
theorem ok_state {f fC : Addr} {fd fdC : FuncData} {k : Nat} (D : Df K mg "_law_state" sState ["_law_script", "_law_k"] f fd) (DC : Df K mg "_law_cell_at" sCell ["_law_script", "_law_k"] fC fdC) (ml : mg "len" = none) (mm : mg "max" = none) : FnOk P w K mg base CX0 (k + 2) f fd ["_law_script", "_law_k"] (spState K) := by
  have G : FnOk P w K mg base CX0 (k + 1) fC fdC ["_law_script", "_law_k"] (spCell K) := ok_cell DC ml
  refine D.F.ok scState (fun vs H Q E h => ?_) (fun cdv A outer s H vs Q E hr h => ?_)
  · obtain ⟨_, _, _, rfl, _⟩ := h
    rfl
  · obtain ⟨a, ns, i, rfl, hS, q⟩ := h
    refine ⟨_, pss_cons (ps_set (i := 2) scState.nd rfl (.inl rfl) (pe_call G hr (by rfl) DC.g DC.F.kp DC.b .nil pass0 (pa_cons (pv 0) (pa_cons (pv 1) pa_nil))))
      (pss_one (ps_ret (pe_lst (pa_cons (pe_callB (call_max2 rfl) (by rfl) mm (by decide +kernel) (pa_cons pe_int (pa_cons (pe_op op_sub (pv 2) (pe_op op_pow pe_int pe_int)) pa_nil)))
        (pa_cons (pe_op op_mod (pv 2) pe_int) pa_nil))))), ?_⟩
    refine ⟨.ref a, rfl, .int i, rfl, a, ns, i, rfl, hS, fun n => ?_⟩
    refine ⟨.int n, rfl, 10, 18, rfl, rfl, ⟨by decide, by decide, by decide⟩, n, _, rfl, rfl, 0, _, rfl, .int n, rfl, n, 2147483647, rfl, rfl, (by show (0 : Int) < 2147483647; decide), by show 2 ≤ sizeLine; decide, fun z hz => ?_⟩
    refine q _ z (same_new hz) hz ⟨_, _, upd_same, ?_, Int.emod_nonneg _ (by decide), Int.emod_lt_of_pos _ (by decide)⟩
    split <;> omega
end
end Wy

namespace Wy
open PySem PySem.Spec PyProof.Rows L2
abbrev sNetQ : Stmt := topS 16
abbrev sRoadQ : Stmt := topS 18
abbrev sChkN : Stmt := topS 19
abbrev sChkP : Stmt := topS 20
/-! ### nets -/
structure Road where
  one : Int
  other : Int
  cost : Int
  time : Int
def Road.vs (q : Road) : List V := [.int q.one, .int q.other, .int q.cost, .int q.time]
structure RoadOk (p : Int) (q : Road) : Prop where
  o1 : 0 ≤ q.one
  o2 : q.one ≤ p - 1
  t1 : 0 ≤ q.other
  t2 : q.other ≤ p - 1
  ne : q.one ≠ q.other
  c1 : 1 ≤ q.cost
  c2 : q.cost ≤ 99
  m1 : 0 ≤ q.time
  m2 : q.time ≤ 99
structure NetOk (p : Int) (rs : List Road) : Prop where
  p1 : 1 ≤ p
  p2 : p ≤ 10
  len : rs.length ≤ 30
  all : ∀ q ∈ rs, RoadOk p q
/-- the tuples at ts are the roads rs -/
def RoadsAt (H : Hp) : List Addr → List Road → Prop := Paired fun t q => H t = some (.tup q.vs)
def NetAt (H : Hp) (a r : Addr) (ts : List Addr) (p : Int) (rs : List Road) : Prop := H a = some (.tup [.int p, .ref r]) ∧ H r = some (.tup (ts.map V.ref)) ∧ RoadsAt H ts rs
theorem RoadsAt.keep {H H' : Hp} {ts : List Addr} {rs : List Road} (h : RoadsAt H ts rs) (k : ∀ b xs, H b = some (.tup xs) → H' b = some (.tup xs)) : RoadsAt H' ts rs := Paired.mapP h fun _ _ e => k _ _ e
theorem NetAt.keep {H H' : Hp} {a r : Addr} {ts : List Addr} {p : Int} {rs : List Road} (h : NetAt H a r ts p rs) (k : ∀ b xs, H b = some (.tup xs) → H' b = some (.tup xs)) : NetAt H' a r ts p rs := ⟨k _ _ h.1, k _ _ h.2.1, h.2.2.keep k⟩
theorem RoadsAt.len {H : Hp} {ts : List Addr} {rs : List Road} (h : RoadsAt H ts rs) : ts.length = rs.length := Paired.length h
theorem RoadsAt.get {H : Hp} : ∀ {ts : List Addr} {rs : List Road} {i : Nat} {t : Addr}, RoadsAt H ts rs → ts[i]? = some t → ∃ q, rs[i]? = some q ∧ H t = some (.tup q.vs)
  | _, _, _, _, .nil, e => by simp at e
  | _, _, 0, _, .cons r _, e => by
    simp at e
    subst e
    exact ⟨_, rfl, r⟩
  | _, _, i + 1, t, .cons _ s, e => by
    obtain ⟨q, h1, h2⟩ := RoadsAt.get (i := i) (t := t) s (by simpa using e)
    exact ⟨q, by simpa using h1, h2⟩
/-! ### ways -/
def step (rs : List Road) (here : Int) (v : V) : Option Road := match v with
  | .int i => if 0 ≤ i ∧ i ≤ (rs.length : Int) - 1 then (match rs[i.toNat]? with
    | some q => if q.one = here then some q else none
    | none => none) else none
  | _ => none
def goes (rs : List Road) : Int → List V → Option (List Road)
  | _, [] => some []
  | here, v :: r => match step rs here v with
    | none => none
    | some q => (goes rs q.other r).map (q :: ·)
def lastOf (here : Int) (qs : List Road) : Int := ((here :: qs.map Road.other).getLast?).getD here
def metOf (here : Int) (qs : List Road) : List Int := here :: qs.map Road.other
theorem lastOf_cons (here : Int) (q : Road) (qs : List Road) : lastOf here (q :: qs) = lastOf q.other qs := by
  unfold lastOf
  rw [List.map_cons, List.getLast?_cons_cons]
  cases e : (q.other :: qs.map Road.other).getLast? with
  | none => simp at e
  | some z => rfl
theorem lastOf_snoc (here : Int) (qs : List Road) (q : Road) : lastOf here (qs ++ [q]) = q.other := by
  unfold lastOf
  rw [List.map_append, List.map_singleton, ← List.cons_append, List.getLast?_append]
  rfl
theorem goes_snoc (rs : List Road) : ∀ (xs : List V) (here : Int) (v : V), goes rs here (xs ++ [v]) = (goes rs here xs).bind fun qs => (step rs (lastOf here qs) v).map fun q => qs ++ [q]
  | [], here, v => by
    show (match step rs here v with | none => none | some q => (some []).map (q :: ·)) = (step rs (lastOf here []) v).map fun q => [] ++ [q]
    show _ = (step rs here v).map fun q => [q]
    cases step rs here v <;> rfl
  | x :: r, here, v => by
    show (match step rs here x with | none => none | some q => (goes rs q.other (r ++ [v])).map (q :: ·)) = (match step rs here x with | none => none | some q => (goes rs q.other r).map (q :: ·)).bind _
    cases e : step rs here x with
    | none => rfl
    | some q =>
      show (goes rs q.other (r ++ [v])).map (q :: ·) = ((goes rs q.other r).map (q :: ·)).bind _
      rw [goes_snoc rs r q.other v]
      cases e2 : goes rs q.other r with
      | none => rfl
      | some qs =>
        show ((step rs (lastOf q.other qs) v).map fun q => qs ++ [q]).map (q :: ·) = (step rs (lastOf here (q :: qs)) v).map fun z => (q :: qs) ++ [z]
        rw [lastOf_cons]
        cases step rs (lastOf q.other qs) v <;> rfl
theorem goes_none (rs : List Road) : ∀ (ys xs : List V) (here : Int), goes rs here xs = none → goes rs here (xs ++ ys) = none
  | ys, [], here, h => by
    have h : some [] = (none : Option (List Road)) := h
    cases h
  | ys, x :: r, here, h => by
    show (match step rs here x with | none => none | some q => (goes rs q.other (r ++ ys)).map (q :: ·)) = none
    have h : (match step rs here x with | none => none | some q => (goes rs q.other r).map (q :: ·)) = none := h
    cases e : step rs here x with
    | none => rfl
    | some q =>
      rw [e] at h
      have h2 : goes rs q.other r = none := by
        cases e2 : goes rs q.other r with
        | none => rfl
        | some z =>
          have h3 : (goes rs q.other r).map (q :: ·) = none := h
          rw [e2] at h3
          cases h3
      show (goes rs q.other (r ++ ys)).map (q :: ·) = none
      rw [goes_none rs ys r q.other h2]
      rfl
theorem goes_stop (rs : List Road) {xs : List V} {here : Int} {i : Nat} {v : V} {qs : List Road} (hi : xs[i]? = some v) (h : goes rs here (xs.take i) = some qs) (hs : step rs (lastOf here qs) v = none) : goes rs here xs = none := by
  have e : goes rs here (xs.take (i + 1)) = none := by
    rw [List.take_add_one, hi]
    show goes rs here (xs.take i ++ [v]) = none
    rw [goes_snoc, h]
    show (step rs (lastOf here qs) v).map _ = none
    rw [hs]
    rfl
  have := goes_none rs (xs.drop (i + 1)) _ here e
  rwa [List.take_append_drop] at this
theorem goes_go (rs : List Road) {xs : List V} {here : Int} {i : Nat} {v : V} {qs : List Road} {q : Road} (hi : xs[i]? = some v) (h : goes rs here (xs.take i) = some qs) (hs : step rs (lastOf here qs) v = some q) : goes rs here (xs.take (i + 1)) = some (qs ++ [q]) := by
  rw [List.take_add_one, hi]
  show goes rs here (xs.take i ++ [v]) = _
  rw [goes_snoc, h]
  show (step rs (lastOf here qs) v).map _ = _
  rw [hs]
  rfl
theorem goes_len (rs : List Road) : ∀ {xs : List V} {here : Int} {qs : List Road}, goes rs here xs = some qs → qs.length = xs.length
  | [], _, _, h => by
    have h := Option.some.inj h
    subst h
    rfl
  | x :: r, here, qs, h => by
    have h : (match step rs here x with | none => none | some q => (goes rs q.other r).map (q :: ·)) = some qs := h
    cases e : step rs here x with
    | none =>
      rw [e] at h
      cases h
    | some q =>
      rw [e] at h
      obtain ⟨z, e1, e2⟩ := Option.map_eq_some_iff.mp h
      subst e2
      rw [List.length_cons, List.length_cons, goes_len rs e1]
/-- the roads of a way, by its numbers -/
theorem goes_at (rs : List Road) : ∀ {xs : List V} {here : Int} {qs : List Road} {i : Nat} {v : V}, goes rs here xs = some qs → xs[i]? = some v → ∃ (n : Nat) (q : Road), v = .int (n : Int) ∧ rs[n]? = some q ∧ qs[i]? = some q
  | [], _, _, _, _, _, e => by simp at e
  | x :: r, here, qs, i, v, h, e => by
    have h : (match step rs here x with | none => none | some q => (goes rs q.other r).map (q :: ·)) = some qs := h
    cases e1 : step rs here x with
    | none =>
      rw [e1] at h
      cases h
    | some q =>
      rw [e1] at h
      obtain ⟨z, e2, e3⟩ := Option.map_eq_some_iff.mp h
      subst e3
      cases i with
      | zero =>
        simp at e
        subst e
        unfold step at e1
        split at e1
        · rename_i k
          split at e1
          · rename_i hk
            split at e1
            · rename_i q' eq
              split at e1
              · cases e1
                exact ⟨k.toNat, q, by rw [Int.toNat_of_nonneg hk.1], eq, rfl⟩
              · cases e1
            · cases e1
          · cases e1
        · cases e1
      | succ i => exact goes_at rs (i := i) e2 (by simpa using e)
theorem step_int (rs : List Road) {here : Int} {n : Nat} {q : Road} (h : rs[n]? = some q) : step rs here (.int (n : Int)) = if q.one = here then some q else none := by
  have hn : n < rs.length := (List.getElem?_eq_some_iff.mp h).1
  unfold step
  dsimp only
  rw [if_pos (by omega), Int.toNat_natCast, h]
theorem step_out (rs : List Road) {here : Int} {v : V} (h : isIn v 0 ((rs.length : Int) - 1) = false) : step rs here v = none := by
  unfold step
  split
  · rename_i i
    have h : (decide (0 ≤ i) && decide (i ≤ (rs.length : Int) - 1)) = false := h
    rw [if_neg]
    rintro ⟨a, b⟩
    rw [decide_eq_true a, decide_eq_true b] at h
    cases h
  · rfl
theorem isIn_true {v : V} {lo hi : Int} (h : isIn v lo hi = true) : ∃ i, v = .int i ∧ lo ≤ i ∧ i ≤ hi := by
  unfold isIn at h
  split at h
  · rename_i i
    rw [Bool.and_eq_true, decide_eq_true_eq, decide_eq_true_eq] at h
    exact ⟨i, rfl, h.1, h.2⟩
  · cases h
section
variable {P : Program} {w : World} {K : PySem.W.Frag} {mg : Str → Option Value} {base : Heap}
theorem scWhole : FnScope ["thing"] ["thing"] (defScope sWhole) := ⟨rfl, rfl, rfl, by decide +kernel, rfl, by decide +kernel, by decide +kernel⟩
def isInt : V → Bool
  | .int _ => true
  | _ => false
def spWhole : Sp := fun vs H Q _ => ∃ (v : V) (n : String), vs = [v] ∧ Tg H v n ∧ Q (.bl (isInt v)) H
theorem ok_whole {f : Addr} {fd : FuncData} {k : Nat} (D : Df K mg "is_whole" sWhole ["thing"] f fd) (mi : mg "isinstance" = none) (mI : mg "int" = none) (mB : mg "bool" = none) : FnOk P w K mg base CX0 (k + 1) f fd ["thing"] spWhole := by
  refine D.F.ok scWhole (fun vs H Q E h => ?_) (fun cdv A outer s H vs Q E hr h => ?_)
  · obtain ⟨_, _, rfl, _⟩ := h
    rfl
  · obtain ⟨v, n, rfl, t, q⟩ := h
    refine ⟨_, pss_one (ps_ret (pe_and (pe_callB call_isi (by rfl) mi (by decide +kernel) (pa_cons (pv 0) (pa_cons (pe_bltn (v := .ty "int") (by rfl) mI (by decide +kernel) rfl) pa_nil)))
      (pe_one (pe_not (pe_callB call_isi (by rfl) mi (by decide +kernel) (pa_cons (pv 0) (pa_cons (pe_bltn (v := .ty "bool") (by rfl) mB (by decide +kernel) rfl) pa_nil))))))), ?_⟩
    refine ⟨v, rfl, v, .ty "int", .type n, .type "int", kInt n, rfl, .ty _, t.tyx, isi_int t, _, rfl, ?_⟩
    cases t with
    | int i => exact iteT ⟨_, rfl, .int i, .ty "bool", .type "int", .type "bool", false, rfl, .ty _, .base (.int i), isi_bool (.int (H := H) i), _, rfl, q⟩
    | bl b => exact iteT ⟨_, rfl, .bl b, .ty "bool", .type "bool", .type "bool", true, rfl, .ty _, .base (.bl b), isi_bool (.bl (H := H) b), _, rfl, q⟩
    | non => exact iteF q
    | str x => exact iteF q
    | lst e => exact iteF q
    | tup e => exact iteF q
    | dct e => exact iteF q
theorem scWithin : FnScope ["thing", "low", "high"] ["thing", "low", "high"] (defScope sWithin) := ⟨rfl, rfl, rfl, by decide +kernel, rfl, by decide +kernel, by decide +kernel⟩
/-- the defs of the two small modules -/
structure Sm (K : PySem.W.Frag) (mg : Str → Option Value) (f1 f2 f3 f4 f5 : Addr) (d1 d2 d3 d4 d5 : FuncData) : Prop where
  mi : mg "isinstance" = none
  mI : mg "int" = none
  mB : mg "bool" = none
  mT : mg "tuple" = none
  ml : mg "len" = none
  mA : mg "all" = none
  mS : mg "sum" = none
  mE : mg "set" = none
  c1 : ∃ t, mg "MOST_PLACES" = some (.int 10 t)
  c2 : ∃ t, mg "MOST_ROADS" = some (.int 30 t)
  c3 : ∃ t, mg "LEAST_COST" = some (.int 1 t)
  c4 : ∃ t, mg "MOST_COST" = some (.int 99 t)
  c5 : ∃ t, mg "MOST_TIME" = some (.int 99 t)
  whole : Df K mg "is_whole" sWhole ["thing"] f1 d1
  within : Df K mg "is_within" sWithin ["thing", "low", "high"] f2 d2
  tupOf : Df K mg "is_tuple_of" sTupOf ["thing", "many"] f3 d3
  roadQ : Df K mg "is_road_among" sRoadQ ["places", "thing"] f4 d4
  netQ : Df K mg "is_net" sNetQ ["thing"] f5 d5
variable {f1 f2 f3 f4 f5 : Addr} {d1 d2 d3 d4 d5 : FuncData}
def spWithin : Sp := fun vs H Q _ => ∃ (v : V) (n : String) (lo hi : Int), vs = [v, .int lo, .int hi] ∧ Tg H v n ∧ Q (.bl (isIn v lo hi)) H
theorem ok_within {k : Nat} (S : Sm K mg f1 f2 f3 f4 f5 d1 d2 d3 d4 d5) : FnOk P w K mg base CX0 (k + 2) f2 d2 ["thing", "low", "high"] spWithin := by
  have G : FnOk P w K mg base CX0 (k + 1) f1 d1 ["thing"] spWhole := ok_whole S.whole S.mi S.mI S.mB
  refine S.within.F.ok scWithin (fun vs H Q E h => ?_) (fun cdv A outer s H vs Q E hr h => ?_)
  · obtain ⟨_, _, _, _, rfl, _⟩ := h
    rfl
  · obtain ⟨v, n, lo, hi, rfl, t, q⟩ := h
    refine ⟨_, pss_one (ps_ret (pe_and (pe_call G hr (by rfl) S.whole.g S.whole.F.kp S.whole.b .nil pass0 (pa_cons (pv 0) pa_nil)) (pe_one (pe_chain op_le op_le (pv 1) (pv 0) (pv 2))))), ?_⟩
    refine ⟨v, rfl, v, n, rfl, t, _, rfl, ?_⟩
    cases v with
    | int i =>
      refine iteT ⟨.int lo, rfl, .int i, rfl, lo, i, rfl, rfl, _, rfl, ite2 (fun c => ?_) (fun c => ?_)⟩
      · refine ⟨.int hi, rfl, i, hi, rfl, rfl, ?_⟩
        have e : isIn (.int i) lo hi = decide (i ≤ hi) := by
          show (decide (lo ≤ i) && decide (i ≤ hi)) = _
          rw [c, Bool.true_and]
        rw [e] at q
        exact q
      · have e : isIn (.int i) lo hi = false := by
          show (decide (lo ≤ i) && decide (i ≤ hi)) = _
          rw [Bool.eq_false_iff.mpr c, Bool.false_and]
        rw [e] at q
        exact q
    | _ => exact iteF q
theorem scTupOf : FnScope ["thing", "many"] ["thing", "many"] (defScope sTupOf) := ⟨rfl, rfl, rfl, by decide +kernel, rfl, by decide +kernel, by decide +kernel⟩
def spTupOf : Sp := fun vs H Q _ => ∃ (a : Addr) (xs : List V) (m : Int), vs = [.ref a, .int m] ∧ H a = some (.tup xs) ∧ (xs.length : Int) = m ∧ Q (.bl true) H
theorem ok_tupOf {k : Nat} (S : Sm K mg f1 f2 f3 f4 f5 d1 d2 d3 d4 d5) : FnOk P w K mg base CX0 (k + 1) f3 d3 ["thing", "many"] spTupOf := by
  refine S.tupOf.F.ok scTupOf (fun vs H Q E h => ?_) (fun cdv A outer s H vs Q E hr h => ?_)
  · obtain ⟨_, _, _, rfl, _⟩ := h
    rfl
  · obtain ⟨a, xs, m, rfl, e, el, q⟩ := h
    refine ⟨_, pss_one (ps_ret (pe_and (pe_callB call_isi (by rfl) S.mi (by decide +kernel) (pa_cons (pv 0) (pa_cons (pe_bltn (v := .ty "tuple") (by rfl) S.mT (by decide +kernel) rfl) pa_nil)))
      (pe_one (pe_cmpR op_eq (pe_callB call_len_seq (by rfl) S.ml PySem.boot_len (pa_cons (pv 0) pa_nil)) (pv 1) (nomark _))))), ?_⟩
    have t : Tg H (.ref a) "tuple" := .tup e
    refine ⟨.ref a, rfl, .ref a, .ty "tuple", .type "tuple", .type "tuple", true, rfl, .ty _, t.tyx, isi_tuple t, _, rfl, iteT ?_⟩
    refine ⟨.ref a, rfl, a, xs, rfl, .inr (SqT.of e), .int m, rfl, rfl, ?_⟩
    rw [el, decide_eq_true rfl]
    exact q
theorem scRoadQ : FnScope ["places", "thing", "one", "other", "cost", "time"] ["places", "thing"] (defScope sRoadQ) := ⟨rfl, rfl, rfl, by decide +kernel, rfl, by decide +kernel, by decide +kernel⟩
def spRoadQ : Sp := fun vs H Q _ => ∃ (t : Addr) (p : Int) (q : Road), vs = [.int p, .ref t] ∧ H t = some (.tup q.vs) ∧ RoadOk p q ∧ Q (.bl true) H
theorem isIn_of {i lo hi : Int} (a : lo ≤ i) (b : i ≤ hi) : isIn (.int i) lo hi = true := by
  show (decide (lo ≤ i) && decide (i ≤ hi)) = true
  rw [decide_eq_true a, decide_eq_true b]
  rfl
theorem ok_roadQ {k : Nat} (S : Sm K mg f1 f2 f3 f4 f5 d1 d2 d3 d4 d5) : FnOk P w K mg base CX0 (k + 3) f4 d4 ["places", "thing"] spRoadQ := by
  have G : FnOk P w K mg base CX0 (k + 2) f2 d2 ["thing", "low", "high"] spWithin := ok_within S
  have GT : FnOk P w K mg base CX0 (k + 2) f3 d3 ["thing", "many"] spTupOf := ok_tupOf S
  obtain ⟨t3, c3⟩ := S.c3
  obtain ⟨t4, c4⟩ := S.c4
  obtain ⟨t5, c5⟩ := S.c5
  refine S.roadQ.F.ok scRoadQ (fun vs H Q E h => ?_) (fun cdv A outer s H vs Q E hr h => ?_)
  · obtain ⟨_, _, _, rfl, _⟩ := h
    rfl
  · obtain ⟨t, p, r, rfl, e, ok, q⟩ := h
    refine ⟨_, pss_cons (ps_if (pt_not (pt_val (pe_call GT hr (by rfl) S.tupOf.g S.tupOf.F.kp S.tupOf.b .nil pass0 (pa_cons (pv 1) (pa_cons pe_int pa_nil))))) pss_never pss_nil)
      (pss_cons (ps_asg (pv 1) (pg_tup (by rfl) (pgs_cons (pg_name (i := 2) scRoadQ.nd rfl (.inl rfl)) (pgs_cons (pg_name (i := 3) scRoadQ.nd rfl (.inl rfl)) (pgs_cons (pg_name (i := 4) scRoadQ.nd rfl (.inl rfl)) (pgs_cons (pg_name (i := 5) scRoadQ.nd rfl (.inl rfl)) pgs_nil))))))
      (pss_cons (ps_if (PW.pt (pw_or (pt_not (pt_val (pe_call G hr (by rfl) S.within.g S.within.F.kp S.within.b .nil pass0 (pa_cons (pv 2) (pa_cons pe_int (pa_cons (pe_op op_sub (pv 0) pe_int) pa_nil)))))) (pw_or1 (pt_not (pt_val (pe_call G hr (by rfl) S.within.g S.within.F.kp S.within.b .nil pass0 (pa_cons (pv 3) (pa_cons pe_int (pa_cons (pe_op op_sub (pv 0) pe_int) pa_nil)))))))))
        pss_never pss_nil)
      (pss_one (ps_ret (pe_and (pe_cmpR op_ne (pv 2) (pv 3) (nomark _)) (pe_and (pe_call G hr (by rfl) S.within.g S.within.F.kp S.within.b .nil pass0 (pa_cons (pv 4) (pa_cons (pe_glob (v := .int 1) (by rfl) c3 ⟨t3, rfl⟩) (pa_cons (pe_glob (v := .int 99) (by rfl) c4 ⟨t4, rfl⟩) pa_nil))))
        (pe_one (pe_call G hr (by rfl) S.within.g S.within.F.kp S.within.b .nil pass0 (pa_cons (pv 5) (pa_cons pe_int (pa_cons (pe_glob (v := .int 99) (by rfl) c5 ⟨t5, rfl⟩) pa_nil))))))))))), ?_⟩
    refine ⟨.ref t, rfl, t, _, 4, rfl, e, rfl, _, rfl, iteF ?_⟩
    refine ⟨.ref t, rfl, t, _, rfl, SqT.of e, rfl, .int r.one, _, rfl, .int r.other, _, rfl, .int r.cost, _, rfl, .int r.time, _, rfl, rfl, ?_⟩
    refine ⟨.int r.one, rfl, .int p, rfl, p, 1, rfl, rfl, .int r.one, "int", 0, p - 1, rfl, .int _, _, rfl, ?_⟩
    rw [isIn_of ok.o1 ok.o2]
    refine iteF ?_
    refine ⟨.int r.other, rfl, .int p, rfl, p, 1, rfl, rfl, .int r.other, "int", 0, p - 1, rfl, .int _, _, rfl, ?_⟩
    rw [isIn_of ok.t1 ok.t2]
    refine iteF ?_
    refine ⟨.int r.one, rfl, .int r.other, rfl, rfl, _, rfl, ?_⟩
    have hne : (V.int r.one) ≠ (V.int r.other) := fun z => ok.ne (V.int.inj z)
    rw [decide_eq_false hne]
    refine iteT ⟨.int r.cost, rfl, .int r.cost, "int", 1, 99, rfl, .int _, _, rfl, ?_⟩
    rw [isIn_of ok.c1 ok.c2]
    refine iteT ⟨.int r.time, rfl, .int r.time, "int", 0, 99, rfl, .int _, ?_⟩
    rw [isIn_of ok.m1 ok.m2]
    exact q
end
end Wy

namespace Wy
open PySem PySem.Spec PyProof.Rows L2
theorem Same.upd_lst {H H' : Hp} {D : Addr} {o : HO} (s : Same H H') (h : H D = none) : Same H (upd H' D o) := fun b x e => by
  rw [upd_ne (ne_of_none e h)]
  exact s b x e
/-! ### how many unlike numbers a list has -/
def manyOf (ns : List Int) : Nat := (PyProof.Rows.firstMet (fun i => ns.getD i 0) ns.length).length
theorem met_take {ns : List Int} : ∀ i, i ≤ ns.length → ((List.range i).map fun j => ns.getD j 0) = ns.take i
  | 0, _ => rfl
  | i + 1, hi => by
    rw [List.range_succ, List.map_append, met_take i (by omega), List.take_add_one, List.getElem?_eq_getElem (show i < ns.length from hi)]
    congr 1
    rw [List.map_singleton, List.getD_eq_getElem?_getD, List.getElem?_eq_getElem (show i < ns.length from hi)]
    rfl
theorem met_nodup {ns : List Int} : ∀ i, i ≤ ns.length → ((PyProof.Rows.firstMet (fun j => ns.getD j 0) i).length = i ↔ (ns.take i).Nodup)
  | 0, _ => by
    rw [PyProof.Rows.firstMet_zero]
    exact ⟨fun _ => List.nodup_nil, fun _ => rfl⟩
  | i + 1, hi => by
    have hlt : i < ns.length := hi
    have ih := met_nodup (ns := ns) i (by omega)
    have le := PyProof.Rows.firstMet_length_le (fun j => ns.getD j 0) i
    have ea := PyProof.Rows.firstMet_any (fun j => ns.getD j 0) i (ns.getD i 0)
    rw [met_take i (by omega)] at ea
    have ex : ns.getD i 0 = ns[i] := by
      rw [List.getD_eq_getElem?_getD, List.getElem?_eq_getElem hlt]
      rfl
    rw [PyProof.Rows.firstMet_succ, List.take_add_one, List.getElem?_eq_getElem hlt]
    show (PyProof.Rows.step_dedup _ (ns.getD i 0)).length = i + 1 ↔ (ns.take i ++ [ns[i]]).Nodup
    unfold PyProof.Rows.step_dedup
    rw [ea, ex]
    have hn : (ns.take i ++ [ns[i]]).Nodup ↔ (ns.take i).Nodup ∧ ns[i] ∉ ns.take i := by
      rw [List.nodup_append]
      constructor
      · rintro ⟨a, _, c⟩
        exact ⟨a, fun z => c _ z _ (List.mem_singleton.mpr rfl) rfl⟩
      · rintro ⟨a, c⟩
        refine ⟨a, List.Pairwise.cons (fun _ h => nomatch h) .nil, fun x hx y hy => ?_⟩
        rw [List.mem_singleton.mp hy]
        exact fun z => c (z ▸ hx)
    rw [hn]
    by_cases hm : ns[i] ∈ ns.take i
    · rw [if_pos (List.any_eq_true.mpr ⟨ns[i], hm, beq_self_eq_true ns[i]⟩ : ((List.take i ns).any fun x => x == ns[i]) = true)]
      constructor
      · intro z
        omega
      · intro z
        exact absurd hm z.2
    · rw [if_neg (fun (z : ((List.take i ns).any fun x => x == ns[i]) = true) => by
        obtain ⟨y, h1, h2⟩ := List.any_eq_true.mp z
        rw [eq_of_beq h2] at h1
        exact hm h1), List.length_append, List.length_singleton]
      constructor
      · intro z
        exact ⟨ih.mp (by omega), hm⟩
      · intro z
        have := ih.mpr z.1
        omega
theorem many_nodup (ns : List Int) : decide (manyOf ns = ns.length) = decide ns.Nodup := by
  have := met_nodup (ns := ns) ns.length (Nat.le_refl _)
  rw [List.take_length] at this
  exact decide_eq_decide.mpr this
def tSetLen (K : PySem.W.Frag) (ta : TE) : TE := fun σ H Q => ta σ H fun x G => ∃ (l : Addr) (ns : List Int), x = .ref l ∧ SqL K G l (ns.map V.int) ∧ ns.length ≤ 2000 ∧ Q (.int (manyOf ns : Nat)) G
theorem pe_setLen {X : Cx} {a : Expr} {ta : TE} {u1 u2 u3 u4 : Pos} (gl : Gl X "len") (ml : X.mg "len" = none) (gs : Gl X "set") (ms : X.mg "set" = none) (ha : PE X a ta) (calm : X.calm = true := by rfl)
    (st : starEach [a] X.env = (false, eval a X.env) :: starEach [] X.env := by rfl) : PE X (.Call (.Name "len" u1) [.Call (.Name "set" u2) [a] [] u3] [] u4) (tSetLen X.K ta) :=
  ⟨fun pins s σ H Q I h => by
    refine PyProof.Rows.Call_ (ld_blt I gl ml boot_len ?_)
    refine PyProof.Rows.callWith_builtin1 (PyProof.Rows.args_cons ?_ rfl) rfl rfl
    refine PyProof.Rows.Call_ (ld_blt I gs ms boot_set ?_)
    refine PyProof.Rows.callWith_type1 (PyProof.Rows.args_cons (thn (ha.run pins s σ H _ I h) fun v t ⟨x, G, J, rx, hx⟩ => PyProof.Rows.args_nil ?_) st) st rfl
    obtain ⟨l, ns, rfl, sq, len, fin⟩ := hx
    cases rx
    obtain ⟨items, vals, place, _⟩ := J.list sq
    have size : items.toArray.size = ns.length := by rw [List.size_toArray, ← vals.length, List.length_map]
    refine call_set_list (J.ok.hd calm) place.isList (by simpa using RZ.intsAre_vals vals) (by rw [size]; unfold scanBound; omega) fun h' tk made kept => ?_
    refine PyProof.Rows.args_nil ?_
    rw [size] at made
    have few := PyProof.Rows.firstMet_length_le (fun i => ns.getD i 0) ns.length
    obtain ⟨o, es, ep, t', ho, hex, hd, _, _, _, hf, hn⟩ := made
    have J2 : Inv X pins σ G { t with heap := h', toks := tk } := J.kept fun b o e => kept b o (Heap.lt_size e) e
    exact call_len_set ho hex hd hf (by rw [hn]; omega) ⟨.int (manyOf ns : Nat), G, J2.tok _, ⟨_, by rw [hn]; rfl⟩, fin⟩⟩
/-! ### what is handed in as a way -/
inductive Wh (H : Hp) : V → Option (List V) → Prop where
  | tup {b : Addr} {xs : List V} : H b = some (.tup xs) → (∀ y ∈ xs, ∃ n, Tg H y n) → xs.length ≤ 1000 → Wh H (.ref b) (some xs)
  | oth {v : V} {n : String} : Tg H v n → (n == "tuple") = false → Wh H v none
theorem Wh.keep {H H' : Hp} {v : V} {o : Option (List V)} (h : Wh H v o) (s : Same H H') : Wh H' v o := by
  cases h with
  | tup e a l =>
    refine .tup (s _ _ e) (fun y hy => ?_) l
    obtain ⟨n, t⟩ := a y hy
    exact ⟨n, t.keep s⟩
  | oth t n => exact .oth (t.keep s) n
def goesO (rs : List Road) (here : Int) (o : Option (List V)) : Option (List Road) := o.bind (goes rs here)
theorem met_last (here : Int) (qs : List Road) : atI ((metOf here qs).map V.int) (-1) = some (.int (lastOf here qs)) := by
  have e : metOf here qs ≠ [] := List.cons_ne_nil _ _
  have el : lastOf here qs = (metOf here qs).getLast e := by
    unfold lastOf
    show ((metOf here qs).getLast?).getD here = _
    rw [List.getLast?_eq_some_getLast e]
    rfl
  rw [el]
  conv => lhs; rw [← List.dropLast_concat_getLast e, List.map_append, List.map_singleton]
  exact atI_last _ _
theorem met_len (here : Int) (qs : List Road) : (metOf here qs).length = qs.length + 1 := by
  unfold metOf
  rw [List.length_cons, List.length_map]
theorem met_snoc (here : Int) (qs : List Road) (q : Road) : metOf here (qs ++ [q]) = metOf here qs ++ [q.other] := by
  unfold metOf
  rw [List.map_append, List.map_singleton, List.cons_append]
section
variable {P : Program} {w : World} {K : PySem.W.Frag} {mg : Str → Option Value} {base : Heap}
variable {f1 f2 f3 f4 f5 : Addr} {d1 d2 d3 d4 d5 : FuncData}
theorem scNetQ : FnScope ["thing", "places", "roads", "road"] ["thing"] (defScope sNetQ) := ⟨rfl, rfl, rfl, by decide +kernel, rfl, by decide +kernel, by decide +kernel⟩
def spNetQ : Sp := fun vs H Q _ => ∃ (a r : Addr) (ts : List Addr) (p : Int) (rs : List Road), vs = [.ref a] ∧ NetAt H a r ts p rs ∧ NetOk p rs ∧ ∀ H', Same H H' → Q (.bl true) H'
theorem all_yes (n : Nat) : (List.replicate n true).all id = true := by
  rw [List.all_eq_true]
  intro x hx
  rw [(List.mem_replicate.mp hx).2]
  rfl
theorem ok_netQ {k : Nat} (S : Sm K mg f1 f2 f3 f4 f5 d1 d2 d3 d4 d5) : FnOk P w K mg base CX0 (k + 4) f5 d5 ["thing"] spNetQ := by
  have G : FnOk P w K mg base CX0 (k + 3) f2 d2 ["thing", "low", "high"] spWithin := ok_within S
  have GT : FnOk P w K mg base CX0 (k + 3) f3 d3 ["thing", "many"] spTupOf := ok_tupOf S
  have GR : FnOk P w K mg base CX0 (k + 3) f4 d4 ["places", "thing"] spRoadQ := ok_roadQ S
  obtain ⟨t1, c1⟩ := S.c1
  obtain ⟨t2, c2⟩ := S.c2
  refine S.netQ.F.ok scNetQ (fun vs H Q E h => ?_) (fun cdv A outer s H vs Q E hr h => ?_)
  · obtain ⟨_, _, _, _, _, rfl, _⟩ := h
    rfl
  · obtain ⟨a, r, ts, p, rs, rfl, ⟨ea, er, et⟩, ok, q⟩ := h
    refine ⟨_, pss_cons (ps_if (pt_not (pt_val (pe_call GT hr (by rfl) S.tupOf.g S.tupOf.F.kp S.tupOf.b .nil pass0 (pa_cons (pv 0) (pa_cons pe_int pa_nil))))) pss_never pss_nil)
      (pss_cons (ps_asg (pv 0) (pg_tup (by rfl) (pgs_cons (pg_name (i := 1) scNetQ.nd rfl (.inr rfl)) (pgs_cons (pg_name (i := 2) scNetQ.nd rfl (.inl rfl)) pgs_nil))))
      (pss_cons (ps_if (pt_not (pt_val (pe_call G hr (by rfl) S.within.g S.within.F.kp S.within.b .nil pass0 (pa_cons (pv 1) (pa_cons pe_int (pa_cons (pe_glob (v := .int 10) (by rfl) c1 ⟨t1, rfl⟩) pa_nil)))))) pss_never pss_nil)
      (pss_cons (ps_if (PW.pt (pw_or (pt_not (pt_val (pe_callB call_isi (by rfl) S.mi (by decide +kernel) (pa_cons (pv 2) (pa_cons (pe_bltn (v := .ty "tuple") (by rfl) S.mT (by decide +kernel) rfl) pa_nil)))))
          (pw_or1 (pt_cmpR op_gt (pe_callB call_len_seq (by rfl) S.ml PySem.boot_len (pa_cons (pv 2) pa_nil)) (pe_glob (v := .int 30) (by rfl) c2 ⟨t2, rfl⟩) (nomark _))))) pss_never pss_nil)
      (pss_one (ps_ret (pe_callB (cr_all rfl) (by rfl) S.mA (by decide +kernel) (pa_cons
        (pe_lc (own := [("road", 3)]) (g := gName 3) (tt := tYes) rfl scNetQ.nd (pi_tup (pv 2)) (blkOk_by (N := ["thing", "places", "roads", "road"]) (sc := defScope sNetQ) (by decide +kernel))
          (fun _ _ _ _ _ => pg_name (i := 3) scNetQ.nd rfl (.inl rfl)) (fun _ _ _ _ _ => pts_nil)
          (fun _ _ _ _ _ => pe_call GR hr (by rfl) S.roadQ.g S.roadQ.F.kp S.roadQ.b .nil pass0 (pa_cons (pv 1) (pa_cons (pv 3) pa_nil)))) pa_nil))))))), ?_⟩
    refine ⟨.ref a, rfl, a, _, 2, rfl, ea, rfl, _, rfl, iteF ?_⟩
    refine ⟨.ref a, rfl, a, _, rfl, SqT.of ea, rfl, .int p, _, rfl, .ref r, _, rfl, rfl, ?_⟩
    refine ⟨.int p, rfl, .int p, "int", 1, 10, rfl, .int _, _, rfl, ?_⟩
    rw [isIn_of ok.p1 ok.p2]
    refine iteF ?_
    have t : Tg H (.ref r) "tuple" := .tup er
    refine ⟨.ref r, rfl, .ref r, .ty "tuple", .type "tuple", .type "tuple", true, rfl, .ty _, t.tyx, isi_tuple t, _, rfl, iteF ?_⟩
    have hl : ¬ ((30 : Int) < ((ts.map V.ref).length : Int)) := by
      rw [List.length_map, et.len]
      have := ok.len
      omega
    refine ⟨.ref r, rfl, r, _, rfl, .inr (SqT.of er), _, 30, rfl, rfl, _, rfl, ?_⟩
    rw [decide_eq_false hl]
    refine iteF ?_
    refine ⟨.ref r, rfl, r, rfl, ⟨_, SqT.of er⟩, fun D hD => ?_⟩
    refine lc_tup (xs := ts.map V.ref) (fun i H' => Same H H' ∧ H' D = some (.lst ((List.replicate i true).map V.bl))) ⟨same_new hD, upd_same⟩ (fun i H' _ h => SqT.of (h.1 _ _ er)) (fun i x H' hx h => ?_) (fun H' h => ?_)
    · obtain ⟨sm, eD⟩ := h
      have hi : i < ts.length := by
        have := (List.getElem?_eq_some_iff.mp hx).1
        rwa [List.length_map] at this
      rw [List.getElem?_map, List.getElem?_eq_getElem hi] at hx
      cases hx
      obtain ⟨rd, e1, e2⟩ := et.get (List.getElem?_eq_getElem hi)
      refine ⟨rfl, ?_⟩
      unfold tYes
      dsimp only
      rw [if_pos rfl]
      refine ⟨.int p, rfl, .ref ts[i], rfl, ts[i], p, rd, rfl, sm _ _ e2, ok.all _ (List.mem_of_getElem? e1), _, eD, ?_, ?_, ?_⟩
      · rw [List.length_map, List.length_replicate]
        have := ok.len
        rw [et.len] at hi
        exact small1000 (by omega)
      · exact Same.upd_lst sm hD
      · rw [upd_same, List.replicate_succ', List.map_append]
        rfl
    · obtain ⟨sm, eD⟩ := h
      refine ⟨D, _, rfl, SqL.of eD, ?_⟩
      rw [all_yes]
      exact q _ sm
theorem scChkN : FnScope ["thing"] ["thing"] (defScope sChkN) := ⟨rfl, rfl, rfl, by decide +kernel, rfl, by decide +kernel, by decide +kernel⟩
def spChkN : Sp := fun vs H Q _ => ∃ (a r : Addr) (ts : List Addr) (p : Int) (rs : List Road), vs = [.ref a] ∧ NetAt H a r ts p rs ∧ NetOk p rs ∧ ∀ H', Same H H' → Q .non H'
theorem ok_chkN {f : Addr} {fd : FuncData} {k : Nat} (S : Sm K mg f1 f2 f3 f4 f5 d1 d2 d3 d4 d5) (D : Df K mg "check_net" sChkN ["thing"] f fd) : FnOk P w K mg base CX0 (k + 5) f fd ["thing"] spChkN := by
  have G : FnOk P w K mg base CX0 (k + 4) f5 d5 ["thing"] spNetQ := ok_netQ S
  refine D.F.ok scChkN (fun vs H Q E h => ?_) (fun cdv A outer s H vs Q E hr h => ?_)
  · obtain ⟨_, _, _, _, _, rfl, _⟩ := h
    rfl
  · obtain ⟨a, r, ts, p, rs, rfl, hn, ok, q⟩ := h
    refine ⟨_, pss_one (ps_if (pt_not (pt_val (pe_call G hr (by rfl) S.netQ.g S.netQ.F.kp S.netQ.b .nil pass0 (pa_cons (pv 0) pa_nil)))) pss_never pss_nil), ?_⟩
    exact ⟨.ref a, rfl, a, r, ts, p, rs, rfl, hn, ok, fun H' sm => ⟨_, rfl, iteF (q _ sm)⟩⟩
/-- a class of refusals without an __init__ of its own -/
structure Ex (K : PySem.W.Frag) (mg : Str → Option Value) (x : Str) (C : Addr) : Prop where
  g : mg x = some (.ref C)
  x : PySem.W.excIn K C [.type "ValueError", .type "Exception", .type "BaseException", .type "object"] "ValueError.__new__" = true
  k : PySem.W.keepIn K (.ref C) = true
  b : PySem.W.subIn K (.ref C) (.type "BaseException") = some true
  t : PySem.W.typeIn K (.ref C) = some (.type "type")
theorem scChkP : FnScope ["net", "thing"] ["net", "thing"] (defScope sChkP) := ⟨rfl, rfl, rfl, by decide +kernel, rfl, by decide +kernel, by decide +kernel⟩
def spChkP (C : Addr) : Sp := fun vs H Q E => ∃ (a r : Addr) (ts : List Addr) (p : Int) (rs : List Road) (v : V) (n : String), vs = [.ref a, v] ∧ NetAt H a r ts p rs ∧ Tg H v n ∧ (isIn v 0 (p - 1) = true → Q .non H) ∧ (isIn v 0 (p - 1) = false → E (.ref C) none H)
theorem ok_chkP {f C : Addr} {fd : FuncData} {k : Nat} (S : Sm K mg f1 f2 f3 f4 f5 d1 d2 d3 d4 d5) (D : Df K mg "check_place" sChkP ["net", "thing"] f fd) (Z : Ex K mg "NoPlace" C) : FnOk P w K mg base (L2.CX P w) (k + 3) f fd ["net", "thing"] (spChkP C) := by
  have G : FnOk P w K mg base CX0 (k + 2) f2 d2 ["thing", "low", "high"] spWithin := ok_within S
  refine D.F.okX scChkP (fun vs H Q E h => ?_) (fun cdv A outer s H vs Q E hr h => ?_)
  · obtain ⟨_, _, _, _, _, _, _, rfl, _⟩ := h
    rfl
  · obtain ⟨a, r, ts, p, rs, v, n, rfl, ⟨ea, _, _⟩, t, q1, q2⟩ := h
    refine ⟨_, pss_one (ps_if (pt_not (pt_val (pe_call G hr (by rfl) S.within.g S.within.F.kp S.within.b .nil pass0 (pa_cons (pv 1) (pa_cons pe_int (pa_cons (pe_op op_sub (pe_ix ix_tup (pv 0) pe_int (fun _ _ => rfl)) pe_int) pa_nil))))))
      (pss_one (ps_raise rfl (takes_of rfl rfl rfl rfl) (pmk_own PySem.F.excBase_ValueError Z.x Z.g Z.k (raises_own Z.b Z.t) rfl))) pss_nil), ?_⟩
    refine ⟨v, rfl, .ref a, rfl, a, _, 0, _, rfl, rfl, SqT.of ea, rfl, p, 1, rfl, rfl, v, n, 0, p - 1, rfl, t, _, rfl, ?_⟩
    cases e : isIn v 0 (p - 1) with
    | true => exact iteF (q1 e)
    | false => exact iteT (q2 e)
end
end Wy

namespace Wy
open PySem PySem.Spec PyProof.Rows L2
abbrev sNet : Stmt := topS 31
/-! ### roads by their numbers -/
theorem road_at {H : Hp} {ts : List Addr} {rs : List Road} {n : Nat} (h : RoadsAt H ts rs) (hn : n < rs.length) : ∃ (t : Addr) (q : Road), ts[n]? = some t ∧ rs[n]? = some q ∧ H t = some (.tup q.vs) := by
  have h1 : n < ts.length := by rw [h.len]; exact hn
  obtain ⟨q, e1, e2⟩ := h.get (List.getElem?_eq_getElem h1)
  exact ⟨ts[n], q, List.getElem?_eq_getElem h1, e1, e2⟩
theorem ref_at {ts : List Addr} {n : Nat} {t : Addr} (h : ts[n]? = some t) : (ts.map V.ref)[n]? = some (.ref t) := by
  rw [List.getElem?_map, h]
  rfl
theorem ix_tupK {X : Cx} {K : PySem.W.Frag} (h : X.K = K) : IxR X (rIxT K) := by
  subst h
  exact ix_tup
theorem laid_snoc {H : Hp} {us : List Addr} {qs : List Road} {t : Addr} {q : Road} (h : RoadsAt H us qs) (e : H t = some (.tup q.vs)) : RoadsAt H (us ++ [t]) (qs ++ [q]) := by
  induction h with
  | nil => exact .cons e .nil
  | cons a _ ih => exact .cons a ih
/-! ### data of nets -/
def dRoad (q : Road) : PyData := .tuple [.int q.one, .int q.other, .int q.cost, .int q.time]
theorem road_dp {K : PySem.W.Frag} {H : Hp} {t : Addr} {q : Road} (e : H t = some (.tup q.vs)) : Dp K H (.ref t) (dRoad q) := .tup (SqT.of e) (.cons (.int _) (.cons (.int _) (.cons (.int _) (.cons (.int _) .nil))))
theorem roads_dp {K : PySem.W.Frag} {H : Hp} : ∀ {ts : List Addr} {rs : List Road}, RoadsAt H ts rs → DpAll K H (ts.map V.ref) (rs.map dRoad)
  | _, _, .nil => .nil
  | _, _, .cons e r => .cons (road_dp e) (roads_dp r)
theorem roads_lay : ∀ rs : List Road, PyData.canLayAll0 (rs.map dRoad) = true
  | [] => rfl
  | q :: r => by
    rw [List.map_cons, PyData.canLayAll0, roads_lay r]
    simp [dRoad, PyData.canLay0, PyData.canLayAll0]
theorem roads_deep : ∀ rs : List Road, PyData.depthAll (rs.map dRoad) ≤ 1
  | [] => by
    show PyData.depthAll [] ≤ 1
    rw [PyData.depthAll]
    omega
  | q :: r => by
    rw [List.map_cons, PyData.depthAll]
    have := roads_deep r
    have h2 : (dRoad q).depth ≤ 1 := by simp [dRoad, PyData.depth, PyData.depthAll]
    omega
theorem roads_shaped (rs : List Road) : SeqAt.shaped (.list (rs.map dRoad)) = true ∧ SeqAt.shaped (.tuple (rs.map dRoad)) = true := by
  have h := roads_deep rs
  constructor <;> (unfold SeqAt.shaped; rw [PyData.canLay0, roads_lay, PyData.depth, Bool.true_and]; exact decide_eq_true (by omega))
theorem pick {α : Type} {xs : List α} {n : Int} (h0 : 0 ≤ n) (h1 : n < (xs.length : Int)) : ∃ v, v ∈ xs ∧ atI xs n = some v := by
  obtain ⟨m, rfl⟩ := Int.eq_ofNat_of_zero_le h0
  have hm : m < xs.length := by omega
  exact ⟨xs[m], List.getElem_mem hm, atI_nat (List.getElem?_eq_getElem hm)⟩
theorem Keep.at {z b : Addr} {H H' : Hp} {o : HO} (k : Keep z H H') (h : H b = some o) (n : b ≠ z) : H' b = some o := k b o h n
theorem StOk.neT {H : Hp} {z b : Addr} {xs : List V} (s : StOk H z) (h : H b = some (.tup xs)) : b ≠ z := let ⟨_, _, e, _⟩ := s; ne_of h e (fun q => nomatch q)
theorem Keep.tups {z : Addr} {H H' : Hp} (k : Keep z H H') (s : StOk H z) : ∀ b xs, H b = some (.tup xs) → H' b = some (.tup xs) := fun b xs e => k b _ e (s.neT e)
end Wy

namespace Wy
open PySem PySem.Spec PyProof.Rows L2
def tCutE (t : TE) : TE := fun σ H Q => ∃ R : VK, t σ H R ∧ ∀ v H', R v H' → Q v H'
theorem pe_cut {X : Cx} {e : Expr} {t : TE} (h : PE X e t) : PE X e (tCutE t) := ⟨fun pins s σ H Q I hq => by
  obtain ⟨R, h1, h2⟩ := hq
  exact thn (h.run pins s σ H R I h1) fun u s1 ⟨v, G, J, r, q⟩ => ⟨v, G, J, r, h2 _ _ q⟩⟩
theorem other_ok {a b p : Int} (a0 : 0 ≤ a) (a1 : a < p) (b0 : 0 ≤ b) (b1 : b < p - 1) : 0 ≤ (a + 1 + b) % p ∧ (a + 1 + b) % p ≤ p - 1 ∧ a ≠ (a + 1 + b) % p := by
  by_cases h : a + 1 + b < p
  · rw [Int.emod_eq_of_lt (by omega) h]
    omega
  · have e : a + 1 + b = (a + 1 + b - p) + p := by omega
    rw [e, Int.add_emod_right, Int.emod_eq_of_lt (by omega) (by omega)]
    omega
theorem last_ref {ts : List Addr} {rs : List Road} {H : Hp} (h : RoadsAt H ts rs) (n : rs ≠ []) : ∃ t q, q ∈ rs ∧ H t = some (.tup q.vs) ∧ atI (ts.map V.ref) (-1) = some (.ref t) := by
  have hl := h.len
  have hn : ts ≠ [] := fun z => by
    rw [z] at hl
    cases rs with
    | nil => exact n rfl
    | cons _ _ => cases hl
  have hi : ts.length - 1 < ts.length := by
    cases ts with
    | nil => exact absurd rfl hn
    | cons _ _ => simp
  obtain ⟨q, e1, e2⟩ := h.get (List.getElem?_eq_getElem hi)
  refine ⟨ts[ts.length - 1], q, List.mem_of_getElem? e1, e2, ?_⟩
  rw [← List.getLast_eq_getElem hn]
  conv => lhs; rw [← List.dropLast_concat_getLast hn, List.map_append, List.map_singleton]
  exact atI_last _ _
def PvNet (z l : Addr) (m R p wd : Int) (H : Hp) (i : Nat) (σ : L2.St) (H' : Hp) : Prop :=
  ∃ y6 y7 y8 ts rs, σ = [some (.ref z), some (.int m), some (.int R), some (.int p), some (.ref l), some (.int wd), y6, y7, y8] ∧ Keep z H H' ∧ StOk H' z ∧ H' l = some (.lst (ts.map V.ref)) ∧ RoadsAt H' ts rs ∧ rs.length = i ∧ ∀ q ∈ rs, RoadOk p q
section
variable {P : Program} {w : World} {K : PySem.W.Frag} {mg : Str → Option Value} {base : Heap}
theorem scNet : FnScope ["_law_state_here", "_law_most", "_law_roads", "_law_places", "_law_found", "_law_wide", "_law_turn", "_law_one", "_law_other"] ["_law_state_here", "_law_most", "_law_roads"] (defScope sNet) := ⟨rfl, rfl, rfl, by decide +kernel, rfl, by decide +kernel, by decide +kernel⟩
def spNet : Sp := fun vs H Q _ => ∃ (z : Addr) (m R : Int), vs = [.ref z, .int m, .int R] ∧ StOk H z ∧ 0 < m ∧ m ≤ 10 ∧ 0 ≤ R ∧ R ≤ 30 ∧
  ∀ H' a r ts p rs, Keep z H H' → StOk H' z → NetAt H' a r ts p rs → NetOk p rs → Q (.ref a) H'
theorem ok_net {f fK : Addr} {fd dK : FuncData} {k : Nat} (DK : Df K mg "_law_take" sTake ["_law_state_here", "_law_much"] fK dK) (mR : mg "range" = none) (mT : mg "tuple" = none)
    (D : Df K mg "_law_net" sNet ["_law_state_here", "_law_most", "_law_roads"] f fd) : FnOk P w K mg base CX0 (k + 2) f fd ["_law_state_here", "_law_most", "_law_roads"] spNet := by
  have GK : FnOk P w K mg base CX0 (k + 1) fK dK ["_law_state_here", "_law_much"] spTake := ok_take DK
  refine D.F.ok scNet (fun vs H Q E h => ?_) (fun cdv A outer s H vs Q E hr h => ?_)
  · obtain ⟨_, _, _, rfl, _⟩ := h
    rfl
  · obtain ⟨z, m, R, rfl, st, hm0, hm1, hR0, hR1, q⟩ := h
    refine ⟨_, (pss_cons (ps_par (i := 3) (j := 4) (by rfl) scNet.nd rfl rfl (by decide) rfl rfl (pa_cons (pe_op op_add pe_int (pe_call GK hr (by rfl) DK.g DK.F.kp DK.b .nil pass0 (pa_cons (pv 0) (pa_cons (pv 1) pa_nil)))) (pa_cons (pe_lst pa_nil) pa_nil)) (by rfl))
    (pss_cons (ps_set (i := 5) scNet.nd rfl (.inl rfl) (pe_ix ix_list (pe_lst (pa_cons pe_int (pa_cons pe_int (pa_cons pe_int pa_nil)))) (pe_call GK hr (by rfl) DK.g DK.F.kp DK.b .nil pass0 (pa_cons (pv 0) (pa_cons pe_int pa_nil))) (fun _ _ => rfl)))
    (pss_cons (ps_for PassesOwn.never rfl (pi_range1 (by rfl) mR (pa_cons (pe_cut (pe_ifExp (pt_cmpR op_gt (pv 3) pe_int (nomark _)) (pe_ix ix_list (pe_lst (pa_cons (pv 2) (pa_cons (pe_call GK hr (by rfl) DK.g DK.F.kp DK.b .nil pass0 (pa_cons (pv 0) (pa_cons (pe_op op_add (pv 2) pe_int) pa_nil))) pa_nil))) (pe_call GK hr (by rfl) DK.g DK.F.kp DK.b .nil pass0 (pa_cons (pv 0) (pa_cons pe_int pa_nil))) (fun _ _ => rfl)) pe_int)) pa_nil)) (pg_name (i := 6) scNet.nd rfl (.inl rfl))
    (pss_cons (ps_set (i := 7) scNet.nd rfl (.inl rfl) (pe_call GK hr (by rfl) DK.g DK.F.kp DK.b .nil pass0 (pa_cons (pv 0) (pa_cons (pv 3) pa_nil))))
    (pss_cons (ps_set (i := 8) scNet.nd rfl (.inl rfl) (pe_op op_mod (pe_op op_add (pe_op op_add (pv 7) pe_int) (pe_call GK hr (by rfl) DK.g DK.F.kp DK.b .nil pass0 (pa_cons (pv 0) (pa_cons (pe_op op_sub (pv 3) pe_int) pa_nil)))) (pv 3)))
    (C8.pss_cut (ps_if (PW.pt (pw_and (pt_cmpR op_eq (pe_call GK hr (by rfl) DK.g DK.F.kp DK.b .nil pass0 (pa_cons (pv 0) (pa_cons pe_int pa_nil))) pe_int (nomark _)) (pw_and1 (pt_cmpR (op_neD hr.units) (pv 4) (pe_lst pa_nil) (nomark _))))) (pss_one (ps_asg (pe_slice sl_tup (pe_ix ix_list (pv 4) (pe_un un_neg pe_int) (fun _ _ => rfl)) po_none (po_some pe_int)) (pg_tup (by rfl) (pgs_cons (pg_name (i := 7) scNet.nd rfl (.inl rfl)) (pgs_cons (pg_name (i := 8) scNet.nd rfl (.inl rfl)) pgs_nil))))) pss_nil)
    (pss_one (ps_expr (pe_bm PySem.F.plainAttrs_list PySem.F.slot_list_append PySem.F.type_list_append mt_append (pv 4) (pa_cons (pe_tup (pa_cons (pv 7) (pa_cons (pv 8) (pa_cons (pe_op op_add pe_int (pe_call GK hr (by rfl) DK.g DK.F.kp DK.b .nil pass0 (pa_cons (pv 0) (pa_cons (pv 5) pa_nil)))) (pa_cons (pe_call GK hr (by rfl) DK.g DK.F.kp DK.b .nil pass0 (pa_cons (pv 0) (pa_cons (pe_ix ix_list (pe_lst (pa_cons pe_int (pa_cons pe_int pa_nil))) (pe_call GK hr (by rfl) DK.g DK.F.kp DK.b .nil pass0 (pa_cons (pv 0) (pa_cons pe_int pa_nil))) (fun _ _ => rfl)) pa_nil))) pa_nil))))) pa_nil))))))))
    (pss_one (ps_ret (pe_tup (pa_cons (pv 3) (pa_cons (pe_callTy call_tuple_of (by rfl) mT (by decide +kernel) (pa_cons (pv 4) pa_nil)) pa_nil)))))))), ?_⟩
    -- places, found
    refine ⟨.ref z, rfl, .int m, rfl, z, m, rfl, st, hm0, by omega, fun H1 n k1 st1 n0 n1 => ⟨1, n, rfl, rfl, Nat.zero_le _, fun l nl => ⟨_, _, rfl, ?_⟩⟩⟩
    have lz : l ≠ z := (st1.ne nl).symm
    have s2 : Same H1 (upd H1 l (.lst [])) := same_new nl
    have k2 : Keep z H (upd H1 l (.lst [])) := k1.trans (.of s2)
    -- wide
    refine ⟨by show 3 ≤ sizeLine; decide, fun b nb => ⟨.ref z, rfl, z, 3, rfl, (st1.same s2).same (same_new nb), by decide, by decide, fun H3 n3 k3 st3 a0 a1 => ?_⟩⟩
    have bz : b ≠ z := ((st1.same s2).ne nb).symm
    have lb : l ≠ b := ne_of_none upd_same nb
    have k3' : Keep z H H3 := k2.trans ((Keep.new nb).trans k3)
    have el : H3 l = some (.lst []) := k3 _ _ (by rw [upd_ne lb, upd_same]) lz
    obtain ⟨v, hv, ev⟩ := pick (xs := [V.int 2, V.int 4, V.int 99]) a0 a1
    obtain ⟨wd, rfl, w1, w2⟩ : ∃ wd, v = .int wd ∧ 1 ≤ wd ∧ wd ≤ 99 := by
      simp only [List.mem_cons, List.not_mem_nil, or_false] at hv
      rcases hv with rfl | rfl | rfl
      · exact ⟨2, rfl, by decide, by decide⟩
      · exact ⟨4, rfl, by decide, by decide⟩
      · exact ⟨99, rfl, by decide, by decide⟩
    refine ⟨b, _, n3, _, rfl, rfl, SqL.of (k3 _ _ upd_same bz), ev, ?_⟩
    -- range
    refine ⟨fun v H' => ∃ c : Int, v = .int c ∧ 0 ≤ c ∧ c ≤ 30 ∧ (1 < 1 + n ∨ c = 0) ∧ Keep z H H' ∧ StOk H' z ∧ H' l = some (.lst []), ?_, fun v H' hR => ?_⟩
    · refine ⟨.int (1 + n), rfl, _, _, rfl, rfl, _, rfl, ite2 (fun c => ?_) (fun c => ?_)⟩
      · have c' : 1 < 1 + n := of_decide_eq_true c
        refine ⟨.int R, rfl, .ref z, rfl, .int R, rfl, R, 1, rfl, rfl, z, _, rfl, st3, by omega, by omega, fun H4 n4 k4 st4 b0 b1 => ⟨by show 2 ≤ sizeLine; decide, fun d nd => ⟨.ref z, rfl, z, 2, rfl, st4.same (same_new nd), by decide, by decide, fun H5 n5 k5 st5 e0 e1 => ?_⟩⟩⟩
        have dz : d ≠ z := (st4.ne nd).symm
        obtain ⟨v, hv, ev⟩ := pick (xs := [V.int R, V.int n4]) e0 e1
        have el4 := k4 _ _ el lz
        have el5 : H5 l = some (.lst []) := k5 _ _ (by rw [upd_ne (ne_of_none el4 nd)]; exact el4) lz
        refine ⟨d, _, n5, v, rfl, rfl, SqL.of (k5 _ _ upd_same dz), ev, ?_⟩
        simp only [List.mem_cons, List.not_mem_nil, or_false] at hv
        have kk := k3'.trans (k4.trans ((Keep.new nd).trans k5))
        rcases hv with rfl | rfl
        · exact ⟨R, rfl, hR0, hR1, .inl c', kk, st5, el5⟩
        · exact ⟨n4, rfl, b0, by omega, .inl c', kk, st5, el5⟩
      · exact ⟨0, rfl, by decide, by decide, .inr rfl, k3', st3, el⟩
    · obtain ⟨c, rfl, c0, c1, cp, k5, st5, el5⟩ := hR
      refine ⟨c, rfl, by omega, by omega, ?_⟩
      refine for_range (lo := 0) (n := c.toNat) (PvNet z l m R (1 + n) wd H) ⟨none, none, none, [], [], rfl, k5, st5, el5, .nil, rfl, fun _ h => nomatch h⟩ (fun i σ H' hi h => ?_) (fun σ H' h => ?_)
      · obtain ⟨y6, y7, y8, ts, rs, rfl, kH, stH, eL, rA, hlen, rOk⟩ := h
        have hp : 1 < 1 + n := by
          rcases cp with z | z
          · exact z
          · rw [z] at hi
            exact absurd hi (Nat.not_lt_zero _)
        -- one, other
        refine ⟨.ref z, rfl, .int (1 + n), rfl, z, _, rfl, stH, by omega, by omega, fun Ha o1 ka sa u0 u1 => ?_⟩
        refine ⟨.int o1, rfl, o1, 1, rfl, rfl, .ref z, rfl, .int (1 + n), rfl, 1 + n, 1, rfl, rfl, z, _, rfl, sa, by omega, by omega, fun Hb o2 kb sb v0 v1 => ⟨_, o2, rfl, rfl, .int (1 + n), rfl, _, 1 + n, rfl, rfl, by omega, ?_⟩⟩
        obtain ⟨x0, x1, x2⟩ := other_ok u0 u1 v0 v1
        have kab := ka.trans kb
        have eLb := kab _ _ eL lz
        have rAb : RoadsAt Hb ts rs := rA.keep (kab.tups stH)
        -- if
        refine ⟨fun σ G => ∃ a b : Int, σ = [some (.ref z), some (.int m), some (.int R), some (.int (1 + n)), some (.ref l), some (.int wd), some (.int (0 + i)), some (.int a), some (.int b)] ∧ 0 ≤ a ∧ a ≤ 1 + n - 1 ∧ 0 ≤ b ∧ b ≤ 1 + n - 1 ∧ a ≠ b ∧ Keep z H G ∧ StOk G z ∧ G l = some (.lst (ts.map V.ref)) ∧ RoadsAt G ts rs, ?_, fun σ G hM => ?_⟩
        · refine ⟨.ref z, rfl, z, 5, rfl, sb, by decide, by decide, fun Hc t5 kc sc _ _ => ⟨rfl, _, rfl, ite2 (fun c5 => ?_) (fun c5 => ?_)⟩⟩
          · have eLc := kc _ _ eLb lz
            have rAc : RoadsAt Hc ts rs := rAb.keep (kc.tups sb)
            refine ⟨.ref l, rfl, Nat.zero_le _, fun e ne => ?_⟩
            have se : Same Hc (upd Hc e (.lst [])) := same_new ne
            have rAe : RoadsAt (upd Hc e (.lst [])) ts rs := rAc.keep fun b xs h => se _ _ h
            refine ⟨.list (rs.map dRoad), .list [], .lst (SqL.of (se _ _ eLc)) (roads_dp rAe), .lst (SqL.of upd_same) .nil, (roads_shaped rs).1, (roads_shaped []).1, _, rfl, ite2 (fun c6 => ?_) (fun c6 => ?_)⟩
            · have hne : rs ≠ [] := fun z => by
                rw [z] at c6
                have : PyData.eqv (.list ([].map dRoad)) (.list []) = true := SeqAt.eqv_refl _ rfl
                rw [this] at c6
                cases c6
              obtain ⟨t, rd, hq, et, ea⟩ := last_ref rAe hne
              have ok := rOk _ hq
              refine ⟨.ref l, rfl, 1, rfl, l, _, -1, _, rfl, rfl, SqL.of (se _ _ eLc), ea, 2, rfl, t, _, rfl, SqT.of et, (show ¬ (HT.sIx 4 0 none = 0 ∧ HT.sIx 4 4 (some 2) = 4) by decide), fun T nT => ?_⟩
              have sT := same_new (H := upd Hc e (.lst [])) (o := .tup (cutV rd.vs none (some 2))) nT
              refine ⟨T, _, rfl, SqT.of upd_same, rfl, .int rd.one, _, rfl, .int rd.other, _, rfl, rfl, ?_⟩
              exact ⟨rd.one, rd.other, rfl, ok.o1, ok.o2, ok.t1, ok.t2, ok.ne, (kH.trans (kab.trans kc)).trans (.of (se.trans sT)), (sc.same se).same sT, sT _ _ (se _ _ eLc), rAe.keep fun b xs h => sT _ _ h⟩
            · exact ⟨o1, _, rfl, u0, by omega, x0, x1, x2, (kH.trans (kab.trans kc)).trans (.of se), sc.same se, se _ _ eLc, rAe⟩
          · exact ⟨o1, _, rfl, u0, by omega, x0, x1, x2, kH.trans (kab.trans kc), sc, kc _ _ eLb lz, rAb.keep (kc.tups sb)⟩
        · obtain ⟨a, b, rfl, g1, g2, g3, g4, g5, kG, sG, eG, rG⟩ := hM
          refine ⟨.ref l, rfl, .inl ⟨rfl, _, SqL.of eG⟩, .int a, rfl, .int b, rfl, .ref z, rfl, .int wd, rfl, z, _, rfl, sG, by omega, by omega, fun Hd t7 kd sd c70 c71 => ⟨1, t7, rfl, rfl, .ref z, rfl, by show 2 ≤ sizeLine; decide, fun e ne => ?_⟩⟩
          have ez : e ≠ z := (sd.ne ne).symm
          refine ⟨.ref z, rfl, z, 2, rfl, sd.same (same_new ne), by decide, by decide, fun He t8 ke se c80 c81 => ?_⟩
          obtain ⟨v, hv, ev⟩ := pick (xs := [V.int 3, V.int 100]) c80 c81
          obtain ⟨tm, rfl, m1, m2⟩ : ∃ tm, v = .int tm ∧ 1 ≤ tm ∧ tm ≤ 100 := by
            simp only [List.mem_cons, List.not_mem_nil, or_false] at hv
            rcases hv with rfl | rfl
            · exact ⟨3, rfl, by decide, by decide⟩
            · exact ⟨100, rfl, by decide, by decide⟩
          refine ⟨e, _, t8, _, rfl, rfl, SqL.of (ke _ _ upd_same ez), ev, z, tm, rfl, se, by omega, by omega, fun Hf t9 kf sf c90 c91 => ⟨by show 4 ≤ sizeLine; decide, fun T nT => ?_⟩⟩
          have kdf : Keep z G Hf := kd.trans ((Keep.new ne).trans (ke.trans kf))
          have eF := kdf _ _ eG lz
          have rF : RoadsAt Hf ts rs := rG.keep (kdf.tups sG)
          have sT : Same Hf (upd Hf T (.tup [.int a, .int b, .int (1 + t7), .int t9])) := same_new nT
          have lT : l ≠ T := ne_of_none eF nT
          have ll : (ts.map V.ref).length < sizeLine := by
            rw [List.length_map, rF.len, hlen]
            exact small1000 (by omega)
          refine ⟨l, _, _, rfl, rfl, sT _ _ eF, ll, ?_⟩
          refine ⟨some (.int (0 + i)), some (.int a), some (.int b), ts ++ [T], rs ++ [⟨a, b, 1 + t7, t9⟩], rfl, fun c u hc hz => ?_, ?_, ?_, ?_, ?_, fun q hq => ?_⟩
          · by_cases hcl : c = l
            · exact absurd (k1 _ _ hc hz) (by rw [hcl, nl]; exact fun z => nomatch z)
            · rw [upd_ne hcl]
              exact sT _ _ (kdf _ _ (kG _ _ hc hz) hz)
          · obtain ⟨xx, yy, e1, e2⟩ := sf.same sT
            exact ⟨xx, yy, by rw [upd_ne lz.symm]; exact e1, e2⟩
          · rw [upd_same, List.map_append]
            rfl
          · refine laid_snoc ((rF.keep fun b xs h => sT _ _ h).keep fun b xs h => ?_) ?_
            · rw [upd_ne (ne_of h (sT _ _ eF) (fun q => nomatch q))]
              exact h
            · rw [upd_ne lT.symm]
              exact upd_same
          · rw [List.length_append, hlen]
            rfl
          · rcases List.mem_append.mp hq with h | h
            · exact rOk q h
            · rw [List.mem_singleton.mp h]
              exact ⟨g1, g2, g3, g4, g5, by show 1 ≤ 1 + t7; omega, by show 1 + t7 ≤ 99; omega, c90, by show t9 ≤ 99; omega⟩
      · obtain ⟨y6, y7, y8, ts, rs, rfl, kH, stH, eL, rA, hlen, rOk⟩ := h
        refine ⟨.int (1 + n), rfl, .ref l, rfl, l, _, rfl, .inl ⟨SqL.of eL, fun r nr => ⟨by show 2 ≤ sizeLine; decide, fun a na => ?_⟩⟩⟩
        have s1 := same_new (H := H') (o := .tup (ts.map V.ref)) nr
        have s2 := same_new (H := upd H' r (.tup (ts.map V.ref))) (o := .tup [.int (1 + n), .ref r]) na
        refine q _ a r ts (1 + n) rs ((kH.trans (.of s1)).trans (.of s2)) ((stH.same s1).same s2) ⟨upd_same, s2 _ _ upd_same, rA.keep fun b xs h => s2 _ _ (s1 _ _ h)⟩ ⟨by omega, by omega, by omega, rOk⟩
end
end Wy

namespace Wy
open PySem PySem.Spec PyProof.Rows L2
def tCutT (t : TT) : TT := fun σ H Q => ∃ R : Bool → Hp → Prop, t σ H R ∧ ∀ b H', R b H' → Q b H'
theorem pt_cut {X : Cx} {e : Expr} {t : TT} (h : PT X e t) : PT X e (tCutT t) := ⟨fun pins s σ H Q I hq => by
  obtain ⟨R, h1, h2⟩ := hq
  exact thn (h.run pins s σ H R I h1) fun b s1 ⟨G, J, q⟩ => ⟨G, J, h2 _ _ q⟩⟩
theorem ints_dp {K : PySem.W.Frag} {H : Hp} : ∀ ms : List Int, DpAll K H (ms.map V.int) (ms.map PyData.int)
  | [] => .nil
  | m :: r => .cons (.int m) (ints_dp r)
theorem ints_lay : ∀ ms : List Int, PyData.canLayAll0 (ms.map PyData.int) = true ∧ PyData.depthAll (ms.map PyData.int) = 0
  | [] => by
    rw [List.map_nil, PyData.canLayAll0, PyData.depthAll]
    exact ⟨rfl, rfl⟩
  | m :: r => by
    rw [List.map_cons, PyData.canLayAll0, PyData.depthAll, (ints_lay r).1, (ints_lay r).2, PyData.canLay0, PyData.depth]
    exact ⟨rfl, rfl⟩
theorem ints_shaped (ms : List Int) : SeqAt.shaped (.list (ms.map PyData.int)) = true := by
  unfold SeqAt.shaped
  rw [PyData.canLay0, (ints_lay ms).1, PyData.depth, (ints_lay ms).2]
  rfl
theorem Keep.free {z b : Addr} {H H' : Hp} (k : Keep z H H') (h : H' b = none) (n : b ≠ z) : H b = none := by
  cases e : H b with
  | none => rfl
  | some o =>
    rw [k _ _ e n] at h
    cases h
end Wy

namespace Wy
open PySem PySem.Spec PyProof.Rows L2 HT
/-! ### t[::-1] of a tuple -/
theorem rev_adjust (n : Nat) : Builtin.Slice.sliceAdjust none none (-1) (n : Int) = ((n : Int) - 1, -1) := by
  unfold Builtin.Slice.sliceAdjust
  rfl
theorem rev_places (n : Nat) : Builtin.Slice.slicePlaces ((n : Int) - 1) (-1) (-1) = n := by
  unfold Builtin.Slice.slicePlaces
  simp
  omega
theorem rev_pick (xs : List Value) : ((List.range xs.length).filterMap fun (k : Nat) => xs.toArray[(((xs.length : Int) - 1) + (k : Int) * (-1)).toNat]?) = xs.reverse := by
  have e : ∀ m, m ≤ xs.length → ((List.range m).filterMap fun (k : Nat) => xs.toArray[(((xs.length : Int) - 1) + (k : Int) * (-1)).toNat]?) = xs.reverse.take m := by
    intro m
    induction m with
    | zero =>
      intro _
      rfl
    | succ m ih =>
      intro h
      rw [List.range_succ, List.filterMap_append, ih (by omega), List.take_add_one]
      congr 1
      have hi : (((xs.length : Int) - 1) + (m : Int) * (-1)).toNat = xs.length - 1 - m := by omega
      have hr : xs.reverse[m]? = some xs[xs.length - 1 - m] := by
        rw [List.getElem?_reverse (by omega), List.getElem?_eq_getElem (by omega)]
      have ha : xs.toArray[xs.length - 1 - m]? = some xs[xs.length - 1 - m] := by
        rw [List.getElem?_toArray, List.getElem?_eq_getElem (by omega)]
      rw [hr]
      show List.filterMap _ [m] = [xs[xs.length - 1 - m]]
      rw [List.filterMap_cons_some (b := xs[xs.length - 1 - m]) (by rw [hi]; exact ha)]
      rfl
  rw [e _ (Nat.le_refl _), List.take_of_length_le (by rw [List.length_reverse]; exact Nat.le_refl _)]
section
variable {prog : Program} {w : World} {A : Around} {E : Value → Shared → Prop} {s : Shared}
theorem tuple_back {u sl : Addr} {its : List Value} {tk : Tok} {Q : Value → Shared → Prop} (hT : IsTup s.heap u its.toArray) (hs : s.heap.IsSliceOf sl .none .none (.int (-1) tk)) (hz : its.length ≤ sizeLine)
    (h : Q (.ref s.heap.objs.size) { s with heap := s.heap.push { cls := .type "tuple", data := .seq its.reverse.toArray } }) : wpAny (model prog w) A (getItem (.ref u) (.ref sl)) Q E s := by
  have fits : sizeOk (.seq its.reverse.toArray) := by
    show its.reverse.toArray.size ≤ sizeLine
    rw [List.size_toArray, List.length_reverse]
    exact hz
  obtain ⟨os, ho, hc, hd⟩ := id hs
  have ty : s.TypeIs (.ref sl) "slice" := ⟨os, ho, hc⟩
  unfold getItem
  try with_reducible refine wpAny_holding ?_
  first | refine wpAny_bind (wpAny_pure ?_) | skip
  refine wpAny_bind (wpAny_sequenceKey hT.typeIs (by decide) (wpAny_bind (wpAny_callSpecial?_slot (name := Str.ofString "__getitem__") hT.typeIs PyProof.Rows.slot_tuple_getitem (wpAny_call_entry PyProof.Rows.slot_tuple_getitem hT.typeIs entry_tuple_getitem ?_ (args_tuple_getitem _ _)))))
  show wpAny _ _ (Builtin.Tuple.tupleItemsOf (.ref u) >>= _) _ _ s
  refine wpAny_bind (tupleItemsOf_ hT (wpAny_bind (wpAny_typeOf ty ?_)))
  rw [if_pos (by decide)]
  refine wpAny_bind (m := Builtin.Slice.sliceApplied _ _) ?_
  unfold Builtin.Slice.sliceApplied Builtin.Slice.sliceFields
  refine wpAny_bind (wpAny_bind (wpAny_field ho hd (x := .none) rfl (wpAny_bind (wpAny_field ho hd (x := .none) rfl (wpAny_bind (wpAny_field ho hd (x := .int (-1) tk) rfl (wpAny_pure ?_)))))))
  refine wpAny_bind (slicePart_int ?_)
  show wpAny _ _ (if ((-1 : Int) == 0) = true then _ else _) _ _ s
  rw [if_neg (by decide)]
  refine wpAny_bind (slicePart_none (wpAny_bind (slicePart_none (wpAny_bind (wpAny_pure ?_)))))
  show wpAny _ _ (match Builtin.Slice.sliceAdjust none none (-1) (its.toArray.size : Int) with | (lo, hi) => pure (lo, (-1 : Int), Builtin.Slice.slicePlaces lo hi (-1))) _ _ s
  rw [rev_adjust]
  show wpAny _ _ (pure (((its.toArray.size : Int) - 1), (-1 : Int), Builtin.Slice.slicePlaces ((its.toArray.size : Int) - 1) (-1) (-1))) _ _ s
  rw [rev_places]
  refine wpAny_pure ?_
  show wpAny _ _ (if ((((its.toArray.size : Int) - 1) == 0 && (-1 : Int) == 1 && its.toArray.size == its.toArray.size) = true) then _ else _) _ _ s
  rw [if_neg (by simp), List.size_toArray, rev_pick]
  first
    | exact wpAny_bind (m := Builtin.Tuple.tupleExact _) (wpAny_newObj_type (wpAny_pure ⟨_, rfl, wpAny_pure h⟩) fits)
    | exact wpAny_bind (m := Builtin.Tuple.tupleExact _) (wpAny_newObj_type (wpAny_bind (wpAny_pure (wpAny_pure ⟨_, rfl, wpAny_pure h⟩))) fits)
    | exact wpAny_bind (wpAny_bind (m := Builtin.Tuple.tupleExact _) (wpAny_newObj_type (wpAny_pure (wpAny_pure ⟨_, rfl, wpAny_pure h⟩)) fits))
    | exact wpAny_bind (wpAny_bind (m := Builtin.Tuple.tupleExact _) (wpAny_newObj_type (wpAny_pure ⟨_, rfl, wpAny_pure h⟩) fits))
end
def tBackT (K : PySem.W.Frag) (te : TE) : TE := fun σ H Q => te σ H fun x G => ∃ a xs, x = .ref a ∧ SqT K G a xs ∧ ∀ p, G p = none → Q (.ref p) (upd G p (.tup xs.reverse))
theorem pe_backT {X : Cx} {e : Expr} {te : TE} {k : Nat} {u1 u2 u3 u4 : Pos} (he : PE X e te) : PE X (.Subscript e (.Slice none none (some (.UnaryOp .USub (.Constant (.int 1) k u1) u2)) u3) u4) (tBackT X.K te) := by
  refine ⟨fun pins s σ H Q I h => ?_⟩
  refine Subscript_ (thn (he.run pins s σ H _ I h) fun v t1 ⟨x, G1, J1, r1, g1⟩ => ?_)
  obtain ⟨a, xs, ex, hx, q⟩ := g1
  subst ex
  cases r1
  have step : PO X (some (.UnaryOp .USub (.Constant (.int 1) k u1) u2)) (tPart (tUn (rU fun i => .int (-i)) (tC (.int 1)))) := po_some (pe_un un_neg pe_int)
  refine wpAny_Slice (thn (po_none.run pins t1 σ G1 (fun o G => o = none ∧ G = G1) J1 ⟨rfl, rfl⟩) fun vl t2 ⟨l, G2, J2, pl, el, e2⟩ => ?_)
  subst el e2
  refine thn (po_none.run pins t2 σ G2 (fun o G => o = none ∧ G = G2) J2 ⟨rfl, rfl⟩) fun vu t3 ⟨u, G3, J3, pu, eu, e3⟩ => ?_
  subst eu e3
  refine thn (step.run pins t3 σ G3 (fun o G => o = some (-1) ∧ G = G3) J3 ⟨1, rfl, -1, rfl, rfl, rfl⟩) fun vs t4 ⟨o, G4, J4, ps, eo, e4⟩ => ?_
  subst eo e4
  have J5 : Inv X pins σ G4 { t4 with heap := t4.heap.push { cls := .type "slice", data := .fields #[vl, vu, vs] } } := J4.kept (t' := t4.toks) fun b ob z => Heap.get?_push_of_some _ z
  obtain ⟨its, r, hT, hz⟩ := J5.tuple hx
  have hlen := r.length
  show wpAny (model X.prog X.w) X.A (subscriptTail e (.Slice none none (some (.UnaryOp .USub (.Constant (.int 1) k u1) u2)) u3) (.ref a) (.ref t4.heap.objs.size)) (EP X pins σ Q) X.xe _
  refine tail_any (ops := [.ref a, .ref t4.heap.objs.size]) hT.typeIs (PyProof.Rows.slot_tuple_getitem.lookup) ?_ (by with_unfolding_all rfl)
  cases pl
  cases pu
  cases ps
  refine tuple_back hT (Heap.IsSliceOf.new _ _ _ _) (by omega) ?_
  refine ⟨.ref _, _, J5.laid (t' := t4.toks) (o := .tup xs.reverse) (fun b ob z => Heap.get?_push_of_some _ z) (Nat.le_refl _) ?_, rfl, q _ (J5.hok.fresh (Nat.le_refl _))⟩
  exact ⟨by rw [List.length_reverse]; exact hz, _, r.reverse, ⟨_, Heap.get?_push_size _ rfl, rfl, _, rfl⟩⟩
/-! ### repr of data -/
theorem dp_plain {K : PySem.W.Frag} {H : Hp} : ∀ {v : V} {d : PyData}, Dp K H v d → d.hasDict = false
  | _, _, .non => by simp only [PyData.hasDict]
  | _, _, .bl _ => by simp only [PyData.hasDict]
  | _, _, .int _ => by simp only [PyData.hasDict]
  | _, _, .str _ => by simp only [PyData.hasDict]
  | _, _, .lst _ a => by
    rw [PyData.hasDict]
    exact dpAll_plain a
  | _, _, .tup _ a => by
    rw [PyData.hasDict]
    exact dpAll_plain a
where dpAll_plain {K : PySem.W.Frag} {H : Hp} : ∀ {vs : List V} {ds : List PyData}, DpAll K H vs ds → PyData.hasDictAll ds = false
  | _, _, .nil => by simp only [PyData.hasDictAll]
  | _, _, .cons a b => by
    rw [PyData.hasDictAll, dp_plain a, dpAll_plain b]
    rfl
end Wy

namespace Wy
open PySem PySem.Spec PyProof.Rows L2
/-! ### how long a thing's text is -/
structure Sh (d : PyData) (n m : Nat) : Prop where
  s : d.showable = true
  l : d.shown.length ≤ n
  k : d.depth ≤ m
theorem Sh.mono {d : PyData} {n m n' m' : Nat} (h : Sh d n m) (a : n ≤ n') (b : m ≤ m') : Sh d n' m' := ⟨h.s, Nat.le_trans h.l a, Nat.le_trans h.k b⟩
theorem piled_le {c : Nat} : ∀ ts : List Str, (∀ t ∈ ts, t.length ≤ c) → piled ts ≤ ts.length * (c + 2)
  | [], _ => by
    show piled [] ≤ 0 * _
    simp [piled]
  | t :: r, h => by
    have h1 := h t List.mem_cons_self
    have h2 := piled_le r fun u hu => h u (List.mem_cons_of_mem _ hu)
    rw [piled_cons, List.length_cons, Nat.add_mul, Nat.one_mul]
    omega
theorem tuple_le {c : Nat} (ts : List Str) (h : ∀ t ∈ ts, t.length ≤ c) : (tupleText ts).length ≤ 4 + ts.length * (c + 2) := by
  unfold tupleText
  rw [strLen_append, strLen_append]
  have e1 : ((("(" : String) : Str)).length = 1 := rfl
  have e3 : (((if ts.length == 1 then ",)" else ")" : String) : Str)).length ≤ 2 := by split <;> decide
  have e4 := piled_le ts h
  rw [e1]
  by_cases hn : ts = []
  · subst hn
    have : (Str.join ", " []).length = 0 := rfl
    omega
  · have := join_length_add ts hn
    omega
theorem from_le {c : Nat} : ∀ (ts : List Str) (k : Nat) (acc : Str), (∀ t ∈ ts, t.length ≤ c) → (textFrom k acc ts).length ≤ acc.length + ts.length * (c + 2)
  | [], _, acc, _ => by
    show acc.length ≤ _
    omega
  | t :: r, k, acc, h => by
    have h1 := h t List.mem_cons_self
    have h2 := from_le r (k + 1) (acc ++ (if k > 0 then ", " else "" : String) ++ t) fun u hu => h u (List.mem_cons_of_mem _ hu)
    have e : (acc ++ (if k > 0 then ", " else "" : String) ++ t).length ≤ acc.length + 2 + t.length := by
      rw [strLen_append, strLen_append]
      have : (((if k > 0 then ", " else "" : String) : Str)).length ≤ 2 := by split <;> decide
      omega
    show (textFrom (k + 1) _ r).length ≤ _
    rw [List.length_cons, Nat.add_mul, Nat.one_mul]
    omega
theorem list_le {c : Nat} (ts : List Str) (h : ∀ t ∈ ts, t.length ≤ c) : (listText ts).length ≤ 4 + ts.length * (c + 2) := by
  unfold listText
  rw [strLen_append]
  have e1 : ((("[" : String) : Str)).length = 1 := rfl
  have e2 : ((("]" : String) : Str)).length = 1 := rfl
  have := from_le ts 0 "[" h
  rw [e2]
  omega
theorem shown_mem : ∀ {ds : List PyData} {t : Str}, t ∈ PyData.shownAll ds → ∃ d ∈ ds, t = d.shown
  | [], _, h => by
    rw [PyData.shownAll] at h
    cases h
  | d :: r, t, h => by
    rw [PyData.shownAll] at h
    rcases List.mem_cons.mp h with e | e
    · exact ⟨d, List.mem_cons_self, e⟩
    · obtain ⟨x, hx, e⟩ := shown_mem e
      exact ⟨x, List.mem_cons_of_mem _ hx, e⟩
theorem shown_len : ∀ ds : List PyData, (PyData.shownAll ds).length = ds.length
  | [] => by
    rw [PyData.shownAll]
    rfl
  | d :: r => by rw [PyData.shownAll, List.length_cons, List.length_cons, shown_len r]
theorem show_all : ∀ {ds : List PyData} {n m : Nat}, (∀ d ∈ ds, Sh d n m) → PyData.showableAll ds = true ∧ PyData.depthAll ds ≤ m
  | [], n, m, _ => by
    rw [PyData.showableAll, PyData.depthAll]
    exact ⟨rfl, Nat.zero_le _⟩
  | d :: r, n, m, h => by
    have h1 := h d List.mem_cons_self
    obtain ⟨h2, h3⟩ := show_all (n := n) (m := m) fun u hu => h u (List.mem_cons_of_mem _ hu)
    rw [PyData.showableAll, PyData.depthAll, h1.s, h2]
    have := h1.k
    exact ⟨rfl, by omega⟩
theorem Sh.tuple {ds : List PyData} {n m k : Nat} (h : ∀ d ∈ ds, Sh d n m) (hk : ds.length ≤ k) : Sh (.tuple ds) (4 + k * (n + 2)) (m + 1) := by
  obtain ⟨h1, h2⟩ := show_all h
  refine ⟨by rw [PyData.showable]; exact h1, ?_, by rw [PyData.depth]; omega⟩
  rw [PyData.shown]
  refine Nat.le_trans (tuple_le (c := n) _ fun t ht => ?_) ?_
  · obtain ⟨d, hd, e⟩ := shown_mem ht
    rw [e]
    exact (h d hd).l
  · rw [shown_len]
    have := Nat.mul_le_mul_right (n + 2) hk
    omega
theorem Sh.list {ds : List PyData} {n m k : Nat} (h : ∀ d ∈ ds, Sh d n m) (hk : ds.length ≤ k) : Sh (.list ds) (4 + k * (n + 2)) (m + 1) := by
  obtain ⟨h1, h2⟩ := show_all h
  refine ⟨by rw [PyData.showable]; exact h1, ?_, by rw [PyData.depth]; omega⟩
  rw [PyData.shown]
  refine Nat.le_trans (list_le (c := n) _ fun t ht => ?_) ?_
  · obtain ⟨d, hd, e⟩ := shown_mem ht
    rw [e]
    exact (h d hd).l
  · rw [shown_len]
    have := Nat.mul_le_mul_right (n + 2) hk
    omega
theorem Sh.int {i : Int} (h : i.natAbs < 10 ^ 30) : Sh (.int i) 40 0 := by
  refine ⟨?_, ?_, by rw [PyData.depth]; exact Nat.le_refl _⟩
  · rw [PyData.showable]
    refine decide_eq_true ?_
    by_cases h0 : i.natAbs = 0
    · rw [h0]
      decide
    · exact (Nat.log2_lt h0).mpr (Nat.lt_of_lt_of_le h (by decide +kernel))
  · rw [PyData.shown]
    show (Str.ofString (toString i)).length ≤ 40
    rw [PySem.ofString_length]
    have := int_text_length_le10 (k := 30) (by decide) h
    omega
theorem Sh.bool (b : Bool) : Sh (.bool b) 40 0 := by
  refine ⟨by rw [PyData.showable], ?_, by rw [PyData.depth]; exact Nat.le_refl _⟩
  rw [PyData.shown]
  cases b <;> decide
theorem Sh.none : Sh .none 40 0 := by
  refine ⟨by rw [PyData.showable], ?_, by rw [PyData.depth]; exact Nat.le_refl _⟩
  rw [PyData.shown]
  decide
theorem Sh.road {p : Int} {q : Road} (h : RoadOk p q) (hp : p ≤ 10) : Sh (dRoad q) 172 1 := by
  refine (Sh.tuple (n := 40) (m := 0) (k := 4) (fun d hd => ?_) (Nat.le_refl _)).mono (by decide) (Nat.le_refl _)
  have big : ∀ i : Int, 0 ≤ i → i ≤ 99 → Sh (.int i) 40 0 := fun i a b => Sh.int (Nat.lt_of_le_of_lt (show i.natAbs ≤ 99 by omega) (by decide +kernel))
  have o1 := h.o1
  have o2 := h.o2
  have t1 := h.t1
  have t2 := h.t2
  have c1 := h.c1
  simp only [List.mem_cons, List.not_mem_nil, or_false] at hd
  rcases hd with rfl | rfl | rfl | rfl
  · exact big _ h.o1 (by omega)
  · exact big _ h.t1 (by omega)
  · exact big _ (by omega) h.c2
  · exact big _ h.m1 h.m2
def dNet (p : Int) (rs : List Road) : PyData := .tuple [.int p, .tuple (rs.map dRoad)]
theorem Sh.net {p : Int} {rs : List Road} (h : NetOk p rs) : Sh (dNet p rs) 11000 3 := by
  have s1 : Sh (.tuple (rs.map dRoad)) (4 + 30 * (172 + 2)) 2 := Sh.tuple (n := 172) (m := 1) (k := 30) (fun d hd => by
    obtain ⟨q, hq, rfl⟩ := List.mem_map.mp hd
    exact Sh.road (h.all q hq) h.p2) (by rw [List.length_map]; exact h.len)
  have s2 : Sh (.int p) 40 0 := Sh.int (Nat.lt_of_le_of_lt (show p.natAbs ≤ 10 by have := h.p1; have := h.p2; omega) (by decide +kernel))
  refine (Sh.tuple (n := 4 + 30 * (172 + 2)) (m := 2) (k := 2) (fun d hd => ?_) (Nat.le_refl _)).mono (by decide) (Nat.le_refl _)
  simp only [List.mem_cons, List.not_mem_nil, or_false] at hd
  rcases hd with rfl | rfl
  · exact s2.mono (by decide) (by decide)
  · exact s1
/-! ### repr -/
inductive Dn (H : Hp) : V → PyData → Prop where
  | int (i : Int) : Dn H (.int i) (.int i)
  | tup {a : Addr} {xs : List V} {ds : List PyData} : H a = some (.tup xs) → Paired (Dn H) xs ds → Dn H (.ref a) (.tuple ds)
theorem net_reads {X : Cx} {pins : List (Addr × Obj)} {σ : L2.St} {H : Hp} {s : Shared} (I : Inv X pins σ H s) {a r : Addr} {ts : List Addr} {p : Int} {rs : List Road} (h : NetAt H a r ts p rs) : Reads s.heap (.ref a) (dNet p rs) [] := by
  obtain ⟨ea, er, et⟩ := h
  have rdInts : ∀ {ns : List Int} {us : List Value}, Vals (ns.map V.int) us → ReadsAll s.heap us (ns.map PyData.int) [] := by
    intro ns
    induction ns with
    | nil =>
      intro us r
      cases r
      exact .nil
    | cons n l ih =>
      intro us r
      cases r with
      | cons r1 r2 =>
        obtain ⟨t, rfl⟩ := r1
        exact ReadsAll.cons (as := []) (bs := []) (.int n t) (ih r2)
  have roads : ∀ {us : List Addr} {qs : List Road} {vs : List Value}, RoadsAt H us qs → Vals (us.map V.ref) vs → ReadsAll s.heap vs (qs.map dRoad) [] := by
    intro us qs vs h
    induction h generalizing vs with
    | nil =>
      intro r
      cases r
      exact .nil
    | @cons u q l l' e _ ih =>
      intro r
      cases r with
      | cons r1 r2 =>
        cases r1
        obtain ⟨its, rv, ⟨o, ho, hc, n, hd⟩, _⟩ := I.tuple (SqT.of (K := X.K) e)
        have hq : ReadsAll s.heap its [.int q.one, .int q.other, .int q.cost, .int q.time] [] := rdInts (ns := [q.one, q.other, q.cost, q.time]) rv
        exact ReadsAll.cons (as := []) (bs := []) (.tuple ho hc hd hq) (ih r2)
  obtain ⟨its, rv, ⟨o, ho, hc, n, hd⟩, _⟩ := I.tuple (SqT.of (K := X.K) ea)
  obtain ⟨its2, rv2, ⟨o2, ho2, hc2, n2, hd2⟩, _⟩ := I.tuple (SqT.of (K := X.K) er)
  refine .tuple ho hc hd ?_
  cases rv with
  | cons r1 r2 =>
    obtain ⟨t, rfl⟩ := r1
    cases r2 with
    | cons r3 r4 =>
      cases r3
      cases r4
      exact ReadsAll.cons (as := []) (bs := []) (.int p t) (ReadsAll.cons (as := []) (bs := []) (.tuple ho2 hc2 hd2 (roads et rv2)) .nil)
/-- the two dicts that the law hands in -/
inductive DictAt (H : Hp) (a : Addr) : List (PyData × PyData) → Prop where
  | nil : H a = some (.dK []) → DictAt H a []
  | one : H a = some (.dK [(Sum.inl 0, .int 1)]) → DictAt H a [(.int 0, .int 1)]
theorem dict_reads {X : Cx} {pins : List (Addr × Obj)} {σ : L2.St} {H : Hp} {s : Shared} (I : Inv X pins σ H s) {a : Addr} {kvs : List (PyData × PyData)} (h : DictAt H a kvs) : Reads s.heap (.ref a) (.dict kvs) [a] ∧ a ≠ sysModules := by
  cases h with
  | nil e =>
    obtain ⟨_, hs, vs, kv, o, es, ep, ho, hx, hd, _, hp, _⟩ := I.hok a _ e
    cases kv
    have he : es.toList = [] := by
      cases hes : es.toList with
      | nil => rfl
      | cons x l =>
        rw [hes] at hp
        cases hp
    refine ⟨?_, beq_eq_false_iff_ne.mp hs⟩
    have := Reads.dict (h := s.heap) (a := a) (es := es) (kvs := []) (as := []) (bs := []) ho hx.1 hd (by rw [he]; exact .nil) (by rw [he]; exact .nil)
    exact this
  | one e =>
    obtain ⟨_, hs, vs, kv, o, es, ep, ho, hx, hd, _, hp, _⟩ := I.hok a _ e
    cases kv with
    | @cons q0 q l1 l2 k1 k2 =>
      cases k2
      obtain ⟨ek, rv⟩ := k1
      obtain ⟨qk, qv⟩ := q
      obtain ⟨t, ev⟩ := rv
      have ek' : (Sum.inl 0 : Key) = qk := ek
      have ev' : qv = Value.int 1 t := ev
      cases hes : es.toList with
      | nil =>
        rw [hes] at hp
        cases hp
      | cons x r =>
        rw [hes] at hp
        cases hp with
        | cons h1 h2 h3 =>
          cases h3
          have h1' : keyIs qk x.key = true := h1
          rw [← ek'] at h1'
          obtain ⟨tk, hk⟩ : ∃ tk, x.key = .int 0 tk := by
            rcases keyIs_shape h1' with ⟨i, tk, e1, e2⟩ | ⟨y, tk, e1, e2⟩
            · cases e1
              exact ⟨tk, e2⟩
            · cases e1
          have hv : x.val = .int 1 t := h2.trans ev'
          refine ⟨?_, beq_eq_false_iff_ne.mp hs⟩
          have := Reads.dict (h := s.heap) (a := a) (es := es) (kvs := [(.int 0, .int 1)]) (as := []) (bs := []) ho hx.1 hd
            (by rw [hes]; show ReadsAll s.heap [x.key] [.int 0] []; rw [hk]; exact ReadsAll.cons (as := []) (bs := []) (.int 0 tk) .nil)
            (by rw [hes]; show ReadsAll s.heap [x.val] [.int 1] []; rw [hv]; exact ReadsAll.cons (as := []) (bs := []) (.int 1 t) .nil)
          exact this
/-- what repr is asked of -/
inductive Dr (K : PySem.W.Frag) (H : Hp) : V → PyData → Prop where
  | bl (b : Bool) : Dr K H (.bl b) (.bool b)
  | dp {a : Addr} {d : PyData} : Dp K H (.ref a) d → Dr K H (.ref a) d
  | dct {u a r b : Addr} {ts : List Addr} {p : Int} {rs : List Road} {kvs : List (PyData × PyData)} : H u = some (.tup [.ref a, .ref b]) → NetAt H a r ts p rs → DictAt H b kvs → Dr K H (.ref u) (.tuple [dNet p rs, .dict kvs])
def rRepr (K : PySem.W.Frag) : List V → Hp → VK → Prop := fun xs H Q => ∃ x d, xs = [x] ∧ Dr K H x d ∧ Sh d 30000 50 ∧ Q (.str d.shown) H
theorem call_reprD {X : Cx} (hg : X.A.guards = some []) (hu : X.A.units + 64 < cLine) : CallR X (.builtin "repr") (rRepr X.K) := by
  intro pins s σ H xs us Q I r h
  obtain ⟨x, d, rfl, hd, sh, q⟩ := h
  have fits : d.shown.length ≤ sizeLine := Nat.le_trans sh.l (by decide)
  have hk := sh.k
  cases r with
  | cons r1 r2 =>
    cases r2
    have go : ∀ {a : Addr} {as : List Addr}, Reads s.heap (.ref a) d as → (d.hasDict = true → sysModules ∉ as) → wpAny (model X.prog X.w) X.A (call (.builtin "repr") [.ref a]) (EP X pins σ Q) X.xe s := fun rd hs =>
      repr_of_reads' rd sh.s hs hg (by omega) (fun _ _ e => e) (fun h' u tk kept => ⟨.str d.shown, H, I.kept (t' := tk) kept, ⟨u, rfl⟩, q⟩) fits
    cases hd with
    | bl b =>
      cases r1
      refine PySem.P.repr_of_bool ⟨.str _, H, I.tok _, ⟨_, rfl⟩, ?_⟩
      rw [PyData.shown] at q
      cases b <;> exact q
    | dp hp =>
      cases r1
      obtain ⟨as, rd⟩ := Dp.reads I d _ _ hp rfl
      exact go rd (PyData.noDict_hsm (dp_plain hp))
    | dct hu' hn hb =>
      cases r1
      obtain ⟨hrd, hne⟩ := dict_reads I hb
      have hnr := net_reads I hn
      obtain ⟨its, rv, ⟨o, ho, hc, n, hdt⟩, _⟩ := I.tuple (SqT.of (K := X.K) hu')
      cases rv with
      | cons r3 r4 =>
        cases r4 with
        | cons r5 r6 =>
          cases r3
          cases r5
          cases r6
          refine go (.tuple ho hc hdt (ReadsAll.cons (as := []) hnr (ReadsAll.cons hrd .nil))) fun _ hm => ?_
          rcases List.mem_append.mp hm with z | z
          · cases z
          · rcases List.mem_append.mp z with z | z
            · exact hne (List.mem_singleton.mp z).symm
            · cases z
end Wy

namespace Wy
open PySem PySem.Spec PyProof.Rows L2 RZ
abbrev sRise : Stmt := topS 9
abbrev sShutQ : Stmt := topS 23
abbrev sFree : Stmt := topS 24
abbrev sExc : Stmt := topS 26
abbrev sGreat : Stmt := topS 25
abbrev sPrices : Stmt := topS 22
theorem walk_zipT {K : PySem.W.Frag} {a b : Addr} {xs ys : List V} {n : Nat} (hn : n = min xs.length ys.length) : Walk (ItzT K a b) n (fun H => SqT K H a xs ∧ SqT K H b ys) (YPair (fun i => xs[i]?) (fun i => ys[i]?)) := by
  subst hn
  constructor
  · intro i _ hi q
    have l1 : i < xs.length := by omega
    have l2 : i < ys.length := by omega
    exact ⟨xs, ys, xs[i], ys[i], q.1, q.2, by simp [l1], by simp [l2]⟩
  · exact fun _ q => ⟨xs, ys, q.1, q.2, by omega⟩
  · intro i H v H' _ q y
    obtain ⟨T, x, z, h1, h2, h3, h4, h5⟩ := y
    exact ⟨T, x, z, h1, h2, h3, h4 xs q.1, h5 ys q.2⟩
theorem cut_tail (ms : List Int) : cutV (ms.map V.int) (some 1) none = (ms.drop 1).map V.int := by
  unfold cutV
  have e1 : HT.sIx (ms.map V.int).length 0 (some 1) = min 1 ms.length := by
    unfold HT.sIx
    simp
  have e2 : HT.sIx (ms.map V.int).length (ms.map V.int).length none = ms.length := by
    unfold HT.sIx
    simp
  rw [e1, e2]
  cases ms with
  | nil => rfl
  | cons a r =>
    simp
    rw [List.take_of_length_le (by rw [List.length_map]; omega)]
/-- each greater than the one ahead -/
def riseB (ms : List Int) : Bool := ((ms.zip (ms.drop 1)).map fun q => decide (q.1 < q.2)).all id
theorem sqt_same {K : PySem.W.Frag} {H G : Hp} {a : Addr} {xs : List V} (h : SqT K H a xs) (s : Same H G) : SqT K G a xs := by
  rcases h with (h | ⟨o, h⟩) | h
  · exact .inl (.inl (s _ _ h))
  · exact .inl (.inr ⟨o, s _ _ h⟩)
  · exact .inr h
theorem sqt_ty {K : PySem.W.Frag} {H : Hp} {a : Addr} {xs : List V} (h : SqT K H a xs) : TyX K H (.ref a) (.type "tuple") := by
  rcases h with (h | ⟨o, h⟩) | ⟨o, its, n, h, c, _⟩
  · exact .base (.tup h)
  · exact .fTuple h
  · exact .kTuple h c
theorem isi_tt {K : PySem.W.Frag} : PySem.W.kitOne K (.type "tuple") (.type "tuple") = some true := kit_ty (by decide +kernel)
/-- t[lo:hi], whichever it is -/
def rSlS (K : PySem.W.Frag) : V → Option Int → Option Int → Hp → VK → Prop := fun x lo hi H Q => ∃ a xs, x = .ref a ∧ SqT K H a xs ∧ ∀ c H', Same H H' → SqT K H' c (cutV xs lo hi) → Q (.ref c) H'
theorem sl_tupS {X : Cx} : SlR X (rSlS X.K) := by
  intro pins s σ H x v vl vu lo hi sl Q I rx hs pl pu h
  obtain ⟨a, xs, rfl, e, q⟩ := h
  refine sl_tupA pins s σ H _ v vl vu lo hi sl Q I rx hs pl pu ⟨a, xs, rfl, e, fun hw => ?_, fun hw p np => ?_⟩
  · refine q a H (Same.refl _) ?_
    have e2 : cutV xs lo hi = xs := by
      unfold cutV
      rw [hw.1, hw.2, List.drop_zero, Nat.sub_zero, List.take_length]
    rw [e2]
    exact e
  · exact q p _ (same_new np) (SqT.of upd_same)
section
variable {P : Program} {w : World} {K : PySem.W.Frag} {mg : Str → Option Value} {base : Heap}
theorem scRise : FnScope ["things", "one", "other"] ["things"] (defScope sRise) := ⟨rfl, rfl, rfl, by decide +kernel, rfl, by decide +kernel, by decide +kernel⟩
def spRise (K : PySem.W.Frag) : Sp := fun vs H Q _ => ∃ (a : Addr) (ms : List Int), vs = [.ref a] ∧ SqT K H a (ms.map V.int) ∧ ms.length ≤ 1000 ∧ ∀ H', Same H H' → Q (.bl (riseB ms)) H'
theorem ok_rise {f : Addr} {fd : FuncData} {k : Nat} (mA : mg "all" = none) (mZ : mg "zip" = none) (D : Df K mg "is_rising" sRise ["things"] f fd) : FnOk P w K mg base CX0 (k + 1) f fd ["things"] (spRise K) := by
  refine D.F.ok scRise (fun vs H Q E h => ?_) (fun cdv A outer s H vs Q E hr h => ?_)
  · obtain ⟨_, _, rfl, _⟩ := h
    rfl
  · obtain ⟨a, ms, rfl, ea, hl, q⟩ := h
    refine ⟨_, pss_one (ps_ret (pe_callB (cr_all rfl) (by rfl) mA (by decide +kernel) (pa_cons
      (pe_lc (own := [("one", 1), ("other", 2)]) (g := gTup K 2 (gCons (gName 1) (gCons (gName 2) gNil))) (tt := tYes) rfl scRise.nd
        (pi_zipA (by rfl) mZ (pa_cons (pv 0) (pa_cons (pe_slice sl_tupS (pv 0) (po_some pe_int) po_none) pa_nil)))
        (blkOk_by (N := ["things", "one", "other"]) (sc := defScope sRise) (by decide +kernel))
        (fun _ _ _ _ _ => pg_tup rfl (pgs_cons (pg_name (i := 1) scRise.nd rfl (.inl rfl)) (pgs_cons (pg_name (i := 2) scRise.nd rfl (.inl rfl)) pgs_nil)))
        (fun _ _ _ _ _ => pts_nil) (fun _ _ _ _ _ => pe_cmpR op_lt (pv 1) (pv 2) (nomark _))) pa_nil))), ?_⟩
    refine ⟨.ref a, rfl, .ref a, rfl, 1, rfl, a, _, rfl, ea, fun b H1 s1 eb => ?_⟩
    rw [cut_tail] at eb
    have hn : min (ms.map V.int).length ((ms.drop 1).map V.int).length = (ms.zip (ms.drop 1)).length := by
      rw [List.length_map, List.length_map, List.length_zip]
    refine ⟨a, b, _, _, rfl, .inr ⟨sqt_same ea s1, eb, fun D nD => ?_⟩⟩
    refine lc_it (walk_zipT (n := (ms.zip (ms.drop 1)).length) hn.symm) (fun i H' => Same H1 H' ∧ H' D = some (.lst ((((ms.zip (ms.drop 1)).map fun q => decide (q.1 < q.2)).take i).map V.bl))) ⟨same_new nD, upd_same⟩ (fun i H' _ h => ⟨sqt_same (sqt_same ea s1) h.1, sqt_same eb h.1⟩) (fun i x H' H2 hi h hy => ?_) (fun H3 h => ?_)
    · obtain ⟨sm, eD⟩ := h
      obtain ⟨T, x', y', rfl, nT, rfl, hx, hy⟩ := hy
      have hi1 : i < ms.length := by
        rw [List.length_zip] at hi
        omega
      have hi2 : i < (ms.drop 1).length := by
        rw [List.length_zip] at hi
        omega
      have ex : x' = .int ms[i] := by
        dsimp only at hx
        rw [List.getElem?_map, List.getElem?_eq_getElem hi1] at hx
        exact (Option.some.inj hx).symm
      have ey : y' = .int (ms.drop 1)[i] := by
        dsimp only at hy
        rw [List.getElem?_map, List.getElem?_eq_getElem hi2] at hy
        exact (Option.some.inj hy).symm
      subst ex ey
      refine ⟨T, _, rfl, SqT.of upd_same, rfl, _, _, rfl, _, _, rfl, rfl, rfl, ?_⟩
      unfold tYes
      dsimp only
      rw [if_pos rfl]
      have eD2 := same_new (H := H') (o := .tup [.int ms[i], .int (ms.drop 1)[i]]) nT _ _ eD
      refine ⟨_, rfl, _, rfl, _, _, rfl, rfl, _, eD2, ?_, Same.upd_lst (sm.trans (same_new nT)) nD, ?_⟩
      · rw [List.length_map, List.length_take, List.length_map, List.length_zip]
        exact small1000 (by omega)
      · rw [upd_same, List.take_add_one, List.getElem?_map, List.getElem?_eq_getElem hi, List.getElem_zip, List.map_append]
        rfl
    · obtain ⟨s3, eD⟩ := h
      rw [List.take_of_length_le (by rw [List.length_map]; omega)] at eD
      exact ⟨D, _, rfl, SqL.of eD, q H3 (s1.trans s3)⟩
end
theorem op_notInK {X : Cx} {K : PySem.W.Frag} (h : X.K = K) : OpR X (compareOp .NotIn) (rIn K true) := by
  subst h
  exact op_notIn_seq
def vOpt : Option Int → V
  | none => .non
  | some n => .int n
def freeRoad (ms : List Int) (q : Road) : Bool := !inV (.int q.one) (ms.map V.int) && !inV (.int q.other) (ms.map V.int)
def freeR (ms : List Int) (rs : List Road) : List Road := rs.filter (freeRoad ms)
def excB (own : Option Int) (cost : Int) (ahead : Option Int) : Bool := match ahead with
  | none => false
  | some y => match own with
    | none => true
    | some x => decide (cost + y < x)
def relax (ps : List (Option Int)) (q : Road) : List (Option Int) :=
  if excB (ps.getD q.one.toNat none) q.cost (ps.getD q.other.toNat none) = true then ps.set q.one.toNat ((ps.getD q.other.toNat none).map (q.cost + ·)) else ps
def rounds (qs : List Road) (ps : List (Option Int)) : Nat → List (Option Int)
  | 0 => ps
  | n + 1 => qs.foldl relax (rounds qs ps n)
def firstP (p g : Int) : List (Option Int) := (List.replicate p.toNat none).set g.toNat (some 0)
def greatest (p : Int) (rs : List Road) (g : Int) (ms : List Int) : List (Option Int) := rounds (freeR ms rs) (firstP p g) (p - 1).toNat
theorem relax_len (ps : List (Option Int)) (q : Road) : (relax ps q).length = ps.length := by
  unfold relax
  split
  · rw [List.length_set]
  · rfl
theorem fold_len (qs : List Road) : ∀ ps : List (Option Int), (qs.foldl relax ps).length = ps.length := by
  induction qs with
  | nil => exact fun ps => rfl
  | cons q r ih => exact fun ps => (ih _).trans (relax_len ps q)
theorem rounds_len (qs : List Road) (ps : List (Option Int)) : ∀ n, (rounds qs ps n).length = ps.length
  | 0 => rfl
  | n + 1 => (fold_len qs _).trans (rounds_len qs ps n)
theorem first_len (p g : Int) : (firstP p g).length = p.toNat := by
  unfold firstP
  rw [List.length_set, List.length_replicate]
theorem flat_ints (ms : List Int) : (ms.map V.int).all flatV = true := by
  rw [List.all_map]
  exact List.all_eq_true.mpr fun _ _ => rfl
theorem at_opt {ps : List (Option Int)} {n : Int} (h0 : 0 ≤ n) (h1 : n.toNat < ps.length) : atI (ps.map vOpt) n = some (vOpt (ps.getD n.toNat none)) := by
  have e : (n.toNat : Int) = n := Int.toNat_of_nonneg h0
  have q := atI_nat (xs := ps.map vOpt) (j := n.toNat) (v := vOpt (ps.getD n.toNat none)) (by unfold List.getD; rw [List.getElem?_map, List.getElem?_eq_getElem h1]; rfl)
  rwa [e] at q
theorem ixN_of {m : Nat} {n : Int} (h0 : 0 ≤ n) (h1 : n.toNat < m) : ixN m n = some n.toNat := by
  unfold ixN
  rw [if_pos h0, if_pos (by omega)]
section
variable {P : Program} {w : World} {K : PySem.W.Frag} {mg : Str → Option Value} {base : Heap}
theorem scFree : FnScope ["net", "shut", "road"] ["net", "shut"] (defScope sFree) := ⟨rfl, rfl, rfl, by decide +kernel, rfl, by decide +kernel, by decide +kernel⟩
def spFree (K : PySem.W.Frag) : Sp := fun vs H Q _ => ∃ (a r : Addr) (ts : List Addr) (p : Int) (rs : List Road) (b : Addr) (ms : List Int), vs = [.ref a, .ref b] ∧ NetAt H a r ts p rs ∧ rs.length ≤ 1000 ∧ SqT K H b (ms.map V.int) ∧
  ∀ H' l us, Same H H' → H l = none → H' l = some (.lst (us.map V.ref)) → RoadsAt H' us (freeR ms rs) → Q (.ref l) H'
theorem ok_free {f : Addr} {fd : FuncData} {k : Nat} (D : Df K mg "free_roads" sFree ["net", "shut"] f fd) : FnOk P w K mg base CX0 (k + 1) f fd ["net", "shut"] (spFree K) := by
  refine D.F.ok scFree (fun vs H Q E h => ?_) (fun cdv A outer s H vs Q E hr h => ?_)
  · obtain ⟨_, _, _, _, _, _, _, rfl, _⟩ := h
    rfl
  · obtain ⟨a, r, ts, p, rs, b, ms, rfl, ⟨ea, er, et⟩, hl, eb, q⟩ := h
    refine ⟨_, pss_one (ps_ret (pe_lc (own := [("road", 2)]) (g := gName 2) rfl scFree.nd (pi_tup (pe_ix (ix_tupK (K := K) rfl) (pv 0) pe_int (fun _ _ => rfl))) (blkOk_by (N := ["net", "shut", "road"]) (sc := defScope sFree) (by decide +kernel))
          (fun _ _ _ _ _ => pg_name (i := 2) scFree.nd rfl (.inl rfl))
          (fun _ _ _ _ _ => pts_one (PW.pt (pw_and (pt_cmpR (op_notInK (K := K) rfl) (pe_ix (ix_tupK (K := K) rfl) (pv 2) pe_int (fun _ _ => rfl)) (pv 1) (by rfl)) (pw_and1 (pt_cmpR (op_notInK (K := K) rfl) (pe_ix (ix_tupK (K := K) rfl) (pv 2) pe_int (fun _ _ => rfl)) (pv 1) (by rfl))))))
          (fun _ _ _ _ _ => pv 2))), ?_⟩
    refine ⟨.ref a, rfl, a, _, 1, _, rfl, rfl, SqT.of ea, rfl, r, rfl, ⟨_, SqT.of er⟩, fun D nD => ?_⟩
    have lt := et.len
    refine lc_tup (xs := ts.map V.ref) (fun i H' => Same H H' ∧ ∃ us, H' D = some (.lst (us.map V.ref)) ∧ RoadsAt H us (freeR ms (rs.take i))) ⟨same_new nD, [], upd_same, .nil⟩ (fun i H' _ h => SqT.of (h.1 _ _ er)) (fun i x H' hx h => ?_) (fun H3 h => ?_)
    · obtain ⟨sm, us, eD, eu⟩ := h
      have hi : i < ts.length := by
        have := (List.getElem?_eq_some_iff.mp hx).1
        rwa [List.length_map] at this
      rw [List.getElem?_map, List.getElem?_eq_getElem hi] at hx
      cases hx
      obtain ⟨q', e1, e2⟩ := et.get (List.getElem?_eq_getElem hi)
      have tk : freeR ms (rs.take (i + 1)) = freeR ms (rs.take i) ++ (if freeRoad ms q' = true then [q'] else []) := by
        unfold freeR
        rw [List.take_add_one, e1, List.filter_append]
        congr 1
        show List.filter _ [q'] = _
        rw [List.filter_cons]
        rfl
      have lu : us.length ≤ 1000 := by
        have h1 := eu.len
        have h2 : (freeR ms (rs.take i)).length ≤ (rs.take i).length := List.length_filter_le _ _
        rw [List.length_take] at h2
        omega
      refine ⟨rfl, ?_⟩
      refine ⟨.ref ts[i], rfl, ts[i], _, 0, .int q'.one, rfl, rfl, SqT.of (sm _ _ e2), rfl, .ref b, rfl, b, _, rfl, .inr (sqt_same eb sm), rfl, flat_ints ms, _, rfl, ?_⟩
      cases c1 : inV (.int q'.one) (ms.map V.int) with
      | true =>
        refine iteF ?_
        dsimp only
        rw [if_neg (by decide)]
        refine ⟨sm, us, eD, ?_⟩
        rw [tk, if_neg (by unfold freeRoad; rw [c1]; exact Bool.false_ne_true), List.append_nil]
        exact eu
      | false =>
        refine iteT ?_
        refine ⟨.ref ts[i], rfl, ts[i], _, 1, .int q'.other, rfl, rfl, SqT.of (sm _ _ e2), rfl, .ref b, rfl, b, _, rfl, .inr (sqt_same eb sm), rfl, flat_ints ms, _, rfl, ?_⟩
        cases c2 : inV (.int q'.other) (ms.map V.int) with
        | true =>
          rw [if_neg (by decide)]
          refine ⟨sm, us, eD, ?_⟩
          rw [tk, if_neg (by unfold freeRoad; rw [c1, c2]; decide), List.append_nil]
          exact eu
        | false =>
          rw [if_pos (by decide)]
          refine ⟨.ref ts[i], rfl, _, eD, ?_, Same.upd_lst sm nD, us ++ [ts[i]], ?_, ?_⟩
          · rw [List.length_map]
            exact small1000 (by omega)
          · rw [upd_same, List.map_append]
            rfl
          · rw [tk, if_pos (by unfold freeRoad; rw [c1, c2]; rfl)]
            exact laid_snoc eu e2
    · obtain ⟨sm, us, eD, eu⟩ := h
      rw [List.length_map, lt, List.take_length] at eu
      exact q H3 D us sm nD eD (eu.keep fun b xs e => sm _ _ e)
theorem scExc : FnScope ["own", "cost", "ahead"] ["own", "cost", "ahead"] (defScope sExc) := ⟨rfl, rfl, rfl, by decide +kernel, rfl, by decide +kernel, by decide +kernel⟩
def spExc : Sp := fun vs H Q _ => ∃ (own ahead : Option Int) (c : Int), vs = [vOpt own, .int c, vOpt ahead] ∧ Q (.bl (excB own c ahead)) H
theorem ok_exc {f : Addr} {fd : FuncData} {k : Nat} (D : Df K mg "exceeds" sExc ["own", "cost", "ahead"] f fd) : FnOk P w K mg base CX0 (k + 1) f fd ["own", "cost", "ahead"] spExc := by
  refine D.F.ok scExc (fun vs H Q E h => ?_) (fun cdv A outer s H vs Q E hr h => ?_)
  · obtain ⟨_, _, _, rfl, _⟩ := h
    rfl
  · obtain ⟨own, ahead, c, rfl, q⟩ := h
    refine ⟨_, pss_one (ps_ret (pe_and (pe_cmpR op_notN (pv 2) pe_non (nomark _)) (pe_one (pe_or (pe_cmpR op_isN (pv 0) pe_non (nomark _)) (pe_one (pe_cmpR op_gt (pv 0) (pe_op op_add (pv 1) (pv 2)) (nomark _))))))), ?_⟩
    cases ahead with
    | none => exact ⟨.non, rfl, rfl, _, rfl, iteF q⟩
    | some y =>
      refine ⟨.int y, rfl, rfl, _, rfl, iteT ?_⟩
      cases own with
      | none => exact ⟨.non, rfl, rfl, _, rfl, iteT q⟩
      | some x => exact ⟨.int x, rfl, rfl, _, rfl, iteF ⟨.int x, rfl, .int c, rfl, .int y, rfl, c, y, rfl, rfl, x, c + y, rfl, rfl, q⟩⟩
theorem scGreat : FnScope ["net", "goal", "shut", "roads", "prices", "turn", "one", "other", "cost", "time"] ["net", "goal", "shut"] (defScope sGreat) := ⟨rfl, rfl, rfl, by decide +kernel, rfl, by decide +kernel, by decide +kernel⟩
def spGreat (K : PySem.W.Frag) : Sp := fun vs H Q _ => ∃ (a r : Addr) (ts : List Addr) (p : Int) (rs : List Road) (g : Int) (b : Addr) (ms : List Int), vs = [.ref a, .int g, .ref b] ∧ NetAt H a r ts p rs ∧ NetOk p rs ∧ 0 ≤ g ∧ g ≤ p - 1 ∧ SqT K H b (ms.map V.int) ∧
  ∀ H' t, Same H H' → H t = none → H' t = some (.tup ((greatest p rs g ms).map vOpt)) → Q (.ref t) H'
theorem ok_great {f fF fE : Addr} {fd dF dE : FuncData} {k : Nat} (mR : mg "range" = none) (mT : mg "tuple" = none) (DF : Df K mg "free_roads" sFree ["net", "shut"] fF dF) (DE : Df K mg "exceeds" sExc ["own", "cost", "ahead"] fE dE) (D : Df K mg "greatest_prices" sGreat ["net", "goal", "shut"] f fd) : FnOk P w K mg base CX0 (k + 2) f fd ["net", "goal", "shut"] (spGreat K) := by
  have GF : FnOk P w K mg base CX0 (k + 1) fF dF ["net", "shut"] (spFree K) := ok_free DF
  have GE : FnOk P w K mg base CX0 (k + 1) fE dE ["own", "cost", "ahead"] spExc := ok_exc DE
  refine D.F.ok scGreat (fun vs H Q E h => ?_) (fun cdv A outer s H vs Q E hr h => ?_)
  · obtain ⟨_, _, _, _, _, _, _, _, rfl, _⟩ := h
    rfl
  · obtain ⟨a, r, ts, p, rs, g, b, ms, rfl, hN, ok, g0, g1, eb, q⟩ := h
    obtain ⟨ea, er, et⟩ := id hN
    refine ⟨_, pss_cons (ps_set (i := 3) scGreat.nd rfl (.inl rfl) (pe_call GF hr (by rfl) DF.g DF.F.kp DF.b .nil pass0 (pa_cons (pv 0) (pa_cons (pv 2) pa_nil))))
      (pss_cons (ps_set (i := 4) scGreat.nd rfl (.inl rfl) (pe_op op_rep (pe_lst (pa_cons pe_non pa_nil)) (pe_ix (ix_tupK (K := K) rfl) (pv 0) pe_int (fun _ _ => rfl))))
      (pss_cons (ps_asg pe_int (pg_sub (pv 4) (pv 1) set_list))
      (pss_cons (ps_for PassesOwn.never rfl (pi_range2 (by rfl) mR (pa_cons pe_int (pa_cons (pe_ix (ix_tupK (K := K) rfl) (pv 0) pe_int (fun _ _ => rfl)) pa_nil))) (pg_name (i := 5) scGreat.nd rfl (.inl rfl))
        (pss_one (ps_for PassesOwn.never rfl (pi_list (pv 3)) (pg_tup rfl (pgs_cons (pg_name (i := 6) scGreat.nd rfl (.inl rfl)) (pgs_cons (pg_name (i := 7) scGreat.nd rfl (.inl rfl)) (pgs_cons (pg_name (i := 8) scGreat.nd rfl (.inl rfl)) (pgs_cons (pg_name (i := 9) scGreat.nd rfl (.inl rfl)) pgs_nil)))))
          (pss_one (ps_if (pt_val (pe_call GE hr (by rfl) DE.g DE.F.kp DE.b .nil pass0 (pa_cons (pe_ix ix_list (pv 4) (pv 6) (fun _ _ => rfl)) (pa_cons (pv 8) (pa_cons (pe_ix ix_list (pv 4) (pv 7) (fun _ _ => rfl)) pa_nil)))))
            (pss_one (ps_asg (pe_op op_add (pv 8) (pe_ix ix_list (pv 4) (pv 7) (fun _ _ => rfl))) (pg_sub (pv 4) (pv 6) set_list))) pss_nil)))))
      (pss_one (ps_ret (pe_callTy call_tuple_of (by rfl) mT (by decide +kernel) (pa_cons (pv 4) pa_nil))))))), ?_⟩
    have hp : 0 ≤ p := by
      have := ok.p1
      omega
    have p10 := ok.p2
    refine ⟨.ref a, rfl, .ref b, rfl, a, r, ts, p, rs, b, ms, rfl, hN, Nat.le_trans ok.len (by decide), eb, fun H1 lr us s1 nlr elr eu => ?_⟩
    have okF : ∀ x ∈ freeR ms rs, RoadOk p x := fun x hx => ok.all x (List.mem_filter.mp hx).1
    obtain ⟨qs, hqs⟩ : ∃ qs, qs = freeR ms rs := ⟨_, rfl⟩
    rw [← hqs] at eu okF
    refine ⟨by show 1 ≤ sizeLine; decide, fun l0 nl0 => ?_⟩
    have x1 := same_new (o := .lst [.non]) nl0
    refine ⟨.ref a, rfl, a, _, 0, _, rfl, rfl, SqT.of (x1 _ _ (s1 _ _ ea)), rfl, l0, p, _, rfl, rfl, upd_same, by omega, by omega, ?_, fun l nl => ?_⟩
    · show 1 * p.toNat ≤ sizeLine
      exact Nat.le_trans (by omega : 1 * p.toNat ≤ 10) (by decide)
    have e0 : (List.replicate p.toNat [V.non]).flatten = (List.replicate p.toNat (none : Option Int)).map vOpt := by
      rw [List.map_replicate]
      induction p.toNat with
      | zero => rfl
      | succ n ih => rw [List.replicate_succ, List.replicate_succ, List.flatten_cons, ih]; rfl
    rw [e0]
    refine ⟨.ref l, rfl, .int g, rfl, l, _, g, g.toNat, rfl, rfl, upd_same, ?_, ?_⟩
    · rw [List.length_map, List.length_replicate]
      exact ixN_of g0 (by omega)
    have e1 : (((List.replicate p.toNat (none : Option Int)).map vOpt).set g.toNat (.int 0)) = (firstP p g).map vOpt := by
      unfold firstP
      rw [List.map_set]
      rfl
    rw [e1, upd_upd]
    obtain ⟨H2, hH2⟩ : ∃ H2, H2 = upd (upd H1 l0 (.lst [.non])) l (.lst ((firstP p g).map vOpt)) := ⟨_, rfl⟩
    rw [← hH2]
    have s2 : Same H H2 := by
      rw [hH2]
      exact (s1.trans x1).trans (same_new nl)
    have el : H2 l = some (.lst ((firstP p g).map vOpt)) := by
      rw [hH2]
      exact upd_same
    have elr2 : H2 lr = some (.lst (us.map V.ref)) := by
      rw [hH2]
      exact same_new nl _ _ (x1 _ _ elr)
    have eu2 : RoadsAt H2 us qs := eu.keep fun c xs e => by
      rw [hH2]
      exact same_new nl _ _ (x1 _ _ e)
    have nlH : H l = none := s1.free (by
      cases e : H1 l with
      | none => rfl
      | some o => rw [x1 _ _ e] at nl; cases nl)
    have nlr : lr ≠ l := ne_of_none (x1 _ _ elr) nl
    refine ⟨.ref a, rfl, a, _, 0, _, rfl, rfl, SqT.of (s2 _ _ ea), rfl, 1, p, rfl, ⟨by omega, by omega, by omega, by omega⟩, ?_⟩
    have lenR : ∀ n, (rounds qs (firstP p g) n).length = p.toNat := fun n => (rounds_len _ _ _).trans (first_len p g)
    refine for_range (lo := 1) (fun i σ H' => ∃ y5 y6 y7 y8 y9 : Option V, σ = [some (.ref a), some (.int g), some (.ref b), some (.ref lr), some (.ref l), y5, y6, y7, y8, y9] ∧ Keep l H2 H' ∧ H' l = some (.lst ((rounds qs (firstP p g) i).map vOpt))) ⟨none, none, none, none, none, rfl, Keep.refl _ _, el⟩ (fun i σ H' hi h => ?_) (fun σ H' h => ?_)
    · obtain ⟨y5, y6, y7, y8, y9, rfl, kp, eL⟩ := h
      refine ⟨.ref lr, rfl, lr, rfl, ⟨_, SqL.of (kp _ _ elr2 nlr)⟩, ?_⟩
      refine for_list (xs := us.map V.ref) (fun j σ H' => ∃ y5 y6 y7 y8 y9 : Option V, σ = [some (.ref a), some (.int g), some (.ref b), some (.ref lr), some (.ref l), y5, y6, y7, y8, y9] ∧ Keep l H2 H' ∧ H' l = some (.lst (((qs.take j).foldl relax (rounds qs (firstP p g) i)).map vOpt))) ⟨_, _, _, _, _, rfl, kp, eL⟩ (fun j σ H' _ h => ?_) (fun j x σ H' hx h => ?_) (fun σ H' h => ?_)
      · obtain ⟨_, _, _, _, _, _, kp, _⟩ := h
        exact SqL.of (kp _ _ elr2 nlr)
      · obtain ⟨z5, z6, z7, z8, z9, rfl, kp, eL⟩ := h
        have hj : j < us.length := by
          have := (List.getElem?_eq_some_iff.mp hx).1
          rwa [List.length_map] at this
        rw [List.getElem?_map, List.getElem?_eq_getElem hj] at hx
        cases hx
        obtain ⟨rd, e1, e2⟩ := eu2.get (List.getElem?_eq_getElem hj)
        have o := okF rd (List.mem_of_getElem? e1)
        have ru : us[j] ≠ l := ne_of e2 el (fun z => nomatch z)
        obtain ⟨ps, hps⟩ : ∃ ps, ps = (qs.take j).foldl relax (rounds qs (firstP p g) i) := ⟨_, rfl⟩
        have lps : ps.length = p.toNat := by
          rw [hps, fold_len]
          exact lenR i
        have step : (qs.take (j + 1)).foldl relax (rounds qs (firstP p g) i) = relax ps rd := by
          rw [List.take_add_one, e1, List.foldl_append, hps]
          rfl
        rw [← hps] at eL
        have b1 := o.o1
        have b2 := o.o2
        have b3 := o.t1
        have b4 := o.t2
        have i1 : rd.one.toNat < ps.length := by omega
        have i2 : rd.other.toNat < ps.length := by omega
        refine ⟨us[j], _, rfl, SqT.of (kp _ _ e2 ru), rfl, _, _, rfl, _, _, rfl, _, _, rfl, _, _, rfl, rfl, ?_⟩
        refine ⟨.ref l, rfl, .int rd.one, rfl, l, _, rd.one, _, rfl, rfl, SqL.of eL, at_opt b1 i1, .int rd.cost, rfl, .ref l, rfl, .int rd.other, rfl, l, _, rd.other, _, rfl, rfl, SqL.of eL, at_opt b3 i2, _, _, rd.cost, rfl, _, rfl, ?_⟩
        cases c : excB (ps.getD rd.one.toNat none) rd.cost (ps.getD rd.other.toNat none) with
        | false =>
          refine iteF ⟨_, _, _, _, _, rfl, kp, ?_⟩
          rw [step]
          unfold relax
          rw [c, if_neg (by decide)]
          exact eL
        | true =>
          cases ah : ps.getD rd.other.toNat none with
          | none =>
            rw [ah] at c
            cases c
          | some y =>
            refine iteT ⟨.int rd.cost, rfl, .ref l, rfl, .int rd.other, rfl, l, _, rd.other, _, rfl, rfl, SqL.of eL, at_opt b3 i2, rd.cost, y, rfl, (by rw [ah]; rfl), .ref l, rfl, .int rd.one, rfl, l, _, rd.one, rd.one.toNat, rfl, rfl, eL, ixN_of b1 (by rw [List.length_map]; exact i1), _, _, _, _, _, rfl, ?_, ?_⟩
            · exact kp.trans Keep.self
            · rw [upd_same, step]
              unfold relax
              rw [if_pos c, ah, List.map_set]
              rfl
      · obtain ⟨z5, z6, z7, z8, z9, rfl, kp, eL⟩ := h
        refine ⟨_, _, _, _, _, rfl, kp, ?_⟩
        rw [List.length_map, eu2.len, List.take_length] at eL
        exact eL
    · obtain ⟨z5, z6, z7, z8, z9, rfl, kp, eL⟩ := h
      have sm : Same H H' := fun c o e => kp _ _ (s2 _ _ e) (ne_of_none e nlH)
      refine ⟨.ref l, rfl, l, _, rfl, .inl ⟨SqL.of eL, fun t nt => ?_⟩⟩
      have eg : rounds qs (firstP p g) (p - 1).toNat = greatest p rs g ms := by
        rw [hqs]
        rfl
      refine q _ t (sm.trans (same_new nt)) (sm.free nt) ?_
      rw [upd_same, eg]
end
end Wy

namespace Wy
open PySem PySem.Spec PyProof.Rows L2
/-! ### least costs -/
/-- a walk to g over the roads fr, at places of A alone: what it costs, how many roads it has -/
inductive Wk (fr : List Road) (g : Int) (A : Int → Prop) : Int → Int → Nat → Prop where
  | nil : A g → Wk fr g A g 0 0
  | cons {q : Road} {v : Int} {n : Nat} : q ∈ fr → A q.one → Wk fr g A q.other v n → Wk fr g A q.one (q.cost + v) (n + 1)
/-- roads among p places -/
structure Fr (p : Int) (fr : List Road) : Prop where
  o : ∀ q ∈ fr, 0 ≤ q.one ∧ q.one < p
  t : ∀ q ∈ fr, 0 ≤ q.other ∧ q.other < p
  c : ∀ q ∈ fr, 1 ≤ q.cost
def In (p a : Int) : Prop := 0 ≤ a ∧ a < p
theorem Wk.here {fr : List Road} {g a v : Int} {n : Nat} {A : Int → Prop} (h : Wk fr g A a v n) : A a := by
  cases h with
  | nil h => exact h
  | cons _ h _ => exact h
theorem Wk.nonneg {p : Int} {fr : List Road} (F : Fr p fr) {g a v : Int} {n : Nat} {A : Int → Prop} (h : Wk fr g A a v n) : 0 ≤ v := by
  induction h with
  | nil _ => exact Int.le_refl _
  | cons hq _ _ ih =>
    have := F.c _ hq
    omega
theorem Wk.mono {fr : List Road} {g a v : Int} {n : Nat} {A B : Int → Prop} (h : Wk fr g A a v n) (m : ∀ x, A x → B x) : Wk fr g B a v n := by
  induction h with
  | nil h => exact .nil (m _ h)
  | cons hq ha _ ih => exact .cons hq (m _ ha) ih
/-- where it is at b for the last time -/
theorem Wk.last {p : Int} {fr : List Road} (F : Fr p fr) {g a v : Int} {n : Nat} {A : Int → Prop} (b : Int) (h : Wk fr g A a v n) :
    Wk fr g (fun x => A x ∧ x ≠ b) a v n ∨ (b = g ∧ A g) ∨ ∃ q v' n', q ∈ fr ∧ q.one = b ∧ Wk fr g (fun x => A x ∧ x ≠ b) q.other v' n' ∧ q.cost + v' ≤ v := by
  induction h with
  | nil h =>
    by_cases e : g = b
    · exact .inr (.inl ⟨e.symm, h⟩)
    · exact .inl (.nil ⟨h, e⟩)
  | @cons q v n hq ha hw ih =>
    rcases ih with z | z | ⟨q', v', n', h1, h2, h3, h4⟩
    · by_cases e : q.one = b
      · exact .inr (.inr ⟨q, v, n, hq, e, z, Int.le_refl _⟩)
      · exact .inl (.cons hq ⟨ha, e⟩ z)
    · exact .inr (.inl z)
    · refine .inr (.inr ⟨q', v', n', h1, h2, h3, ?_⟩)
      have := F.c _ hq
      omega
/-- one with few roads that costs no more -/
theorem short {p : Int} {fr : List Road} (F : Fr p fr) {g : Int} : ∀ (k : Nat) (L : List Int), L.length = k → ∀ (A : Int → Prop), (∀ x, A x → x ∈ L) → ∀ {a v : Int} {n : Nat}, Wk fr g A a v n → ∃ v' n', v' ≤ v ∧ n' + 1 ≤ k ∧ Wk fr g A a v' n'
  | 0, L, hl, A, hA, a, v, n, h => by
    have := hA _ h.here
    rw [List.length_eq_zero_iff.mp hl] at this
    cases this
  | k + 1, L, hl, A, hA, a, v, n, h => by
    have ha := hA _ h.here
    rcases h.last F a with z | ⟨z, zg⟩ | ⟨q, v', n', h1, h2, h3, h4⟩
    · exact absurd rfl z.here.2
    · exact ⟨0, 0, h.nonneg F, by omega, by rw [z]; exact .nil zg⟩
    · obtain ⟨v2, n2, h5, h6, h7⟩ := short F k (L.erase a) (by rw [List.length_erase_of_mem ha]; omega) _ (fun x hx => (List.mem_erase_of_ne hx.2).mpr (hA _ hx.1)) h3
      refine ⟨q.cost + v2, n2 + 1, by omega, by omega, ?_⟩
      have := Wk.cons (A := A) h1 (by rw [h2]; exact h.here) (h7.mono fun x hx => hx.1)
      rwa [h2] at this
theorem in_list (p : Int) : ∃ L : List Int, L.length = p.toNat ∧ ∀ x, In p x → x ∈ L := by
  refine ⟨(List.range p.toNat).map fun (i : Nat) => (i : Int), by simp, fun x hx => ?_⟩
  obtain ⟨h0, h1⟩ := hx
  exact List.mem_map.mpr ⟨x.toNat, List.mem_range.mpr (by omega), by omega⟩
def at' (ps : List (Option Int)) (a : Int) : Option Int := ps.getD a.toNat none
/-- what each place costs at least, to g -/
structure Dist (p : Int) (fr : List Road) (g : Int) (d : Int → Option Int) : Prop where
  sound : ∀ a v, In p a → d a = some v → ∃ n, Wk fr g (In p) a v n
  least : ∀ a v n, Wk fr g (In p) a v n → ∃ u, d a = some u ∧ u ≤ v
theorem Dist.eq {p : Int} {fr : List Road} {g : Int} {d e : Int → Option Int} (D : Dist p fr g d) (E : Dist p fr g e) {a : Int} (ha : In p a) : d a = e a := by
  cases hd : d a with
  | none =>
    cases he : e a with
    | none => rfl
    | some v =>
      obtain ⟨n, w⟩ := E.sound a v ha he
      obtain ⟨u, h, _⟩ := D.least a v n w
      rw [hd] at h
      cases h
  | some u =>
    obtain ⟨n, w⟩ := D.sound a u ha hd
    obtain ⟨v, h1, h2⟩ := E.least a u n w
    obtain ⟨m, w2⟩ := E.sound a v ha h1
    obtain ⟨u', h3, h4⟩ := D.least a v m w2
    rw [hd] at h3
    cases h3
    rw [h1, show u = v by omega]
/-! ### rounds of the roads -/
def LeP (ps qs : List (Option Int)) : Prop := ∀ a u, at' ps a = some u → ∃ v, at' qs a = some v ∧ v ≤ u
theorem LeP.refl (ps : List (Option Int)) : LeP ps ps := fun _ u h => ⟨u, h, Int.le_refl _⟩
theorem LeP.trans {ps qs rs : List (Option Int)} (h : LeP ps qs) (k : LeP qs rs) : LeP ps rs := fun a u e => by
  obtain ⟨v, e1, e2⟩ := h a u e
  obtain ⟨w, e3, e4⟩ := k a v e1
  exact ⟨w, e3, by omega⟩
theorem at_set {ps : List (Option Int)} {a b : Int} {x : Option Int} (ha : 0 ≤ a) (hb : 0 ≤ b) (hl : a.toNat < ps.length) : at' (ps.set a.toNat x) b = if b = a then x else at' ps b := by
  unfold at' List.getD
  rw [List.getElem?_set]
  by_cases e : b = a
  · rw [if_pos e, e, if_pos rfl, if_pos hl]
    rfl
  · rw [if_neg e, if_neg (by omega)]
theorem relax_cases {p : Int} {ps : List (Option Int)} {q : Road} (hq : 0 ≤ q.one ∧ q.one < p) (hl : ps.length = p.toNat) :
    (relax ps q = ps ∧ ∀ v, at' ps q.other = some v → ∃ u, at' ps q.one = some u ∧ u ≤ q.cost + v) ∨
    ∃ v, at' ps q.other = some v ∧ (∀ u, at' ps q.one = some u → q.cost + v < u) ∧ ∀ b, 0 ≤ b → at' (relax ps q) b = if b = q.one then some (q.cost + v) else at' ps b := by
  by_cases h : excB (ps.getD q.one.toNat none) q.cost (ps.getD q.other.toNat none) = true
  · right
    have e : relax ps q = ps.set q.one.toNat ((ps.getD q.other.toNat none).map (q.cost + ·)) := by
      unfold relax
      rw [if_pos h]
    cases ho : ps.getD q.other.toNat none with
    | none =>
      rw [ho] at h
      cases h
    | some v =>
      refine ⟨v, ho, fun u hu => ?_, fun b hb => ?_⟩
      · have hu : ps.getD q.one.toNat none = some u := hu
        rw [ho, hu] at h
        exact of_decide_eq_true h
      · rw [e, ho, at_set hq.1 hb (by omega)]
        rfl
  · left
    refine ⟨by unfold relax; rw [if_neg h], fun v hv => ?_⟩
    have hv : ps.getD q.other.toNat none = some v := hv
    rw [hv] at h
    cases ho : ps.getD q.one.toNat none with
    | none =>
      rw [ho] at h
      exact absurd rfl h
    | some u =>
      rw [ho] at h
      exact ⟨u, ho, Int.not_lt.mp fun z => h (decide_eq_true z)⟩
/-- no negative index is asked for -/
theorem relax_le {p : Int} {ps : List (Option Int)} {q : Road} (hq : 0 ≤ q.one ∧ q.one < p) (hl : ps.length = p.toNat) : ∀ a u, 0 ≤ a → at' ps a = some u → ∃ v, at' (relax ps q) a = some v ∧ v ≤ u := by
  intro a u ha e
  rcases relax_cases hq hl with ⟨z, _⟩ | ⟨v, h1, h2, h3⟩
  · rw [z]
    exact ⟨u, e, Int.le_refl _⟩
  · rw [h3 a ha]
    by_cases k : a = q.one
    · rw [if_pos k]
      have := h2 u (k ▸ e)
      exact ⟨_, rfl, by omega⟩
    · rw [if_neg k]
      exact ⟨u, e, Int.le_refl _⟩
theorem relax_edge {p : Int} {ps : List (Option Int)} {q : Road} (hq : 0 ≤ q.one ∧ q.one < p) (hl : ps.length = p.toNat) {v : Int} (hv : at' ps q.other = some v) : ∃ u, at' (relax ps q) q.one = some u ∧ u ≤ q.cost + v := by
  rcases relax_cases hq hl with ⟨z, k⟩ | ⟨v', h1, h2, h3⟩
  · rw [z]
    exact k v hv
  · rw [hv] at h1
    cases h1
    rw [h3 _ hq.1, if_pos rfl]
    exact ⟨_, rfl, Int.le_refl _⟩
theorem fold_le {p : Int} : ∀ {qs : List Road} {ps : List (Option Int)}, (∀ q ∈ qs, 0 ≤ q.one ∧ q.one < p) → ps.length = p.toNat → ∀ a u, 0 ≤ a → at' ps a = some u → ∃ v, at' (qs.foldl relax ps) a = some v ∧ v ≤ u
  | [], _, _, _, _, u, _, e => ⟨u, e, Int.le_refl _⟩
  | q :: r, ps, hq, hl, a, u, ha, e => by
    obtain ⟨v, e1, e2⟩ := relax_le (hq q (List.mem_cons_self ..)) hl a u ha e
    obtain ⟨w, e3, e4⟩ := fold_le (qs := r) (fun x hx => hq x (List.mem_cons_of_mem _ hx)) ((relax_len ps q).trans hl) a v ha e1
    exact ⟨w, e3, by omega⟩
theorem fold_edge {p : Int} : ∀ {qs : List Road} {ps : List (Option Int)}, (∀ q ∈ qs, (0 ≤ q.one ∧ q.one < p) ∧ 0 ≤ q.other) → ps.length = p.toNat → ∀ q ∈ qs, ∀ v, at' ps q.other = some v → ∃ u, at' (qs.foldl relax ps) q.one = some u ∧ u ≤ q.cost + v
  | q' :: r, ps, hq, hl, q, hm, v, hv => by
    have h0 := hq q' (List.mem_cons_self ..)
    have hr : ∀ x ∈ r, (0 ≤ x.one ∧ x.one < p) ∧ 0 ≤ x.other := fun x hx => hq x (List.mem_cons_of_mem _ hx)
    have hl' := (relax_len ps q').trans hl
    rcases List.mem_cons.mp hm with rfl | hm
    · obtain ⟨u, e1, e2⟩ := relax_edge h0.1 hl hv
      obtain ⟨w, e3, e4⟩ := fold_le (qs := r) (fun x hx => (hr x hx).1) hl' _ u h0.1.1 e1
      exact ⟨w, e3, by omega⟩
    · obtain ⟨v', e1, e2⟩ := relax_le h0.1 hl q.other v (hr q hm).2 hv
      obtain ⟨u, e3, e4⟩ := fold_edge hr hl' q hm v' e1
      exact ⟨u, e3, by omega⟩
/-- each number is what some walk costs -/
def Snd (p : Int) (fr : List Road) (g : Int) (ps : List (Option Int)) : Prop := ∀ a v, In p a → at' ps a = some v → ∃ n, Wk fr g (In p) a v n
theorem relax_snd {p : Int} {fr : List Road} (F : Fr p fr) {g : Int} {ps : List (Option Int)} {q : Road} (hq : q ∈ fr) (hl : ps.length = p.toNat) (h : Snd p fr g ps) : Snd p fr g (relax ps q) := by
  intro a v ha e
  rcases relax_cases (F.o q hq) hl with ⟨z, _⟩ | ⟨x, h1, h2, h3⟩
  · rw [z] at e
    exact h a v ha e
  · rw [h3 a ha.1] at e
    by_cases k : a = q.one
    · rw [if_pos k] at e
      cases e
      obtain ⟨n, w⟩ := h _ x (F.t q hq) h1
      exact ⟨n + 1, k ▸ .cons hq (F.o q hq) w⟩
    · rw [if_neg k] at e
      exact h a v ha e
theorem fold_snd {p : Int} {fr : List Road} (F : Fr p fr) {g : Int} : ∀ {qs : List Road} {ps : List (Option Int)}, (∀ q ∈ qs, q ∈ fr) → ps.length = p.toNat → Snd p fr g ps → Snd p fr g (qs.foldl relax ps)
  | [], _, _, _, h => h
  | q :: r, ps, hq, hl, h => fold_snd F (qs := r) (fun x hx => hq x (List.mem_cons_of_mem _ hx)) ((relax_len ps q).trans hl) (relax_snd F (hq q (List.mem_cons_self ..)) hl h)
theorem first_at {p g : Int} (hg : In p g) (a : Int) (ha : 0 ≤ a) : at' (firstP p g) a = if a = g then some 0 else none := by
  unfold firstP
  rw [at_set hg.1 ha (by rw [List.length_replicate]; have := hg.1; have := hg.2; omega)]
  by_cases e : a = g
  · rw [if_pos e, if_pos e]
  · rw [if_neg e, if_neg e]
    unfold at' List.getD
    cases h : (List.replicate p.toNat (none : Option Int))[a.toNat]? with
    | none => rfl
    | some x =>
      rw [List.eq_of_mem_replicate (List.mem_of_getElem? h)]
      rfl
theorem rounds_snd {p : Int} {fr : List Road} (F : Fr p fr) {g : Int} (hg : In p g) : ∀ t, Snd p fr g (rounds fr (firstP p g) t)
  | 0 => fun a v ha e => by
    have e : at' (firstP p g) a = some v := e
    rw [first_at hg a ha.1] at e
    by_cases k : a = g
    · rw [if_pos k] at e
      cases e
      exact ⟨0, by rw [k]; exact .nil hg⟩
    · rw [if_neg k] at e
      cases e
  | t + 1 => fold_snd F (fun _ h => h) ((rounds_len fr _ t).trans (first_len p g)) (rounds_snd F hg t)
theorem rounds_least {p : Int} {fr : List Road} (F : Fr p fr) {g : Int} (hg : In p g) : ∀ t {a v : Int} {n : Nat}, n ≤ t → Wk fr g (In p) a v n → ∃ u, at' (rounds fr (firstP p g) t) a = some u ∧ u ≤ v
  | 0, a, v, n, hn, w => by
    cases w with
    | nil _ => exact ⟨0, by show at' (firstP p g) g = _; rw [first_at hg g hg.1, if_pos rfl], Int.le_refl _⟩
    | cons _ _ _ => omega
  | t + 1, a, v, n, hn, w => by
    have hl := (rounds_len fr _ t).trans (first_len p g)
    cases w with
    | nil h =>
      obtain ⟨u, e1, e2⟩ := rounds_least F hg t (Nat.zero_le _) (.nil h)
      obtain ⟨u', e3, e4⟩ := fold_le (qs := fr) F.o hl g u hg.1 e1
      exact ⟨u', e3, by omega⟩
    | @cons q v n hq ha w =>
      obtain ⟨u, e1, e2⟩ := rounds_least F hg t (by omega) w
      obtain ⟨u', e3, e4⟩ := fold_edge (qs := fr) (fun x hx => ⟨F.o x hx, (F.t x hx).1⟩) hl q hq u e1
      exact ⟨u', e3, by omega⟩
theorem rounds_dist {p : Int} {fr : List Road} (F : Fr p fr) {g : Int} (hg : In p g) : Dist p fr g (at' (rounds fr (firstP p g) (p - 1).toNat)) := by
  refine ⟨rounds_snd F hg _, fun a v n w => ?_⟩
  obtain ⟨L, h1, h2⟩ := in_list p
  obtain ⟨v', n', h3, h4, h5⟩ := short F _ L h1 (In p) h2 w
  obtain ⟨u, e1, e2⟩ := rounds_least F hg (p - 1).toNat (by omega) h5
  exact ⟨u, e1, by omega⟩
/-! ### place by place, the nearest first -/
/-- some places have their least cost -/
structure Near (p : Int) (fr : List Road) (g : Int) (f : Int → Option Int) : Prop where
  goal : f g = some 0
  inn : ∀ a v, f a = some v → In p a
  sound : ∀ a v, f a = some v → ∃ n, Wk fr g (In p) a v n
  least : ∀ a u, f a = some u → ∀ v n, Wk fr g (In p) a v n → u ≤ v
theorem Near.cross {p : Int} {fr : List Road} (F : Fr p fr) {g : Int} {f : Int → Option Int} (N : Near p fr g f) {a v : Int} {n : Nat} (w : Wk fr g (In p) a v n) (h : f a = none) : ∃ q u, q ∈ fr ∧ f q.one = none ∧ f q.other = some u ∧ q.cost + u ≤ v := by
  induction w with
  | nil _ =>
    rw [N.goal] at h
    cases h
  | @cons q v n hq ha w ih =>
    cases e : f q.other with
    | some u => exact ⟨q, u, hq, h, e, by have := N.least _ u e v n w; omega⟩
    | none =>
      obtain ⟨q', u, h1, h2, h3, h4⟩ := ih e
      have := F.c _ hq
      exact ⟨q', u, h1, h2, h3, by omega⟩
theorem Near.next {p : Int} {fr : List Road} (F : Fr p fr) {g : Int} {f : Int → Option Int} (N : Near p fr g f) {s : Int} {d : Int} {q : Road} {u : Int} (hq : q ∈ fr) (e1 : f q.one = none) (e2 : f q.other = some u) (es : q.one = s) (ed : q.cost + u = d)
    (hm : ∀ q' u', q' ∈ fr → f q'.one = none → f q'.other = some u' → d ≤ q'.cost + u') : Near p fr g (fun a => if a = s then some d else f a) := by
  have gs : g ≠ s := fun z => by
    rw [es, ← z, N.goal] at e1
    cases e1
  refine ⟨by rw [if_neg gs]; exact N.goal, fun a v h => ?_, fun a v h => ?_, fun a u' h v n w => ?_⟩
  · by_cases k : a = s
    · exact k ▸ es ▸ F.o q hq
    · rw [if_neg k] at h
      exact N.inn a v h
  · by_cases k : a = s
    · rw [if_pos k] at h
      cases h
      obtain ⟨n, w⟩ := N.sound _ u e2
      rw [k, ← es, ← ed]
      exact ⟨n + 1, .cons hq (F.o q hq) w⟩
    · rw [if_neg k] at h
      exact N.sound a v h
  · by_cases k : a = s
    · rw [if_pos k] at h
      cases h
      rw [k, ← es] at w
      obtain ⟨q', u2, h1, h2, h3, h4⟩ := N.cross F w e1
      have := hm q' u2 h1 h2 h3
      omega
    · rw [if_neg k] at h
      exact N.least a u' h v n w
theorem Near.done {p : Int} {fr : List Road} (F : Fr p fr) {g : Int} {f : Int → Option Int} (N : Near p fr g f) (h : ∀ q u, q ∈ fr → f q.one = none → f q.other = some u → False) : Dist p fr g f := by
  refine ⟨fun a v _ e => N.sound a v e, fun a v n w => ?_⟩
  cases e : f a with
  | none =>
    obtain ⟨q, u, h1, h2, h3, _⟩ := N.cross F w e
    exact (h q u h1 h2 h3).elim
  | some u => exact ⟨u, rfl, N.least a u e v n w⟩
theorem near_first {p : Int} {fr : List Road} (F : Fr p fr) {g : Int} (hg : In p g) : Near p fr g (fun a => if a = g then some 0 else none) := by
  refine ⟨if_pos rfl, fun a v h => ?_, fun a v h => ?_, fun a u h v n w => ?_⟩
  · by_cases k : a = g
    · exact k ▸ hg
    · rw [if_neg k] at h
      cases h
  · by_cases k : a = g
    · rw [if_pos k] at h
      cases h
      exact ⟨0, by rw [k]; exact .nil hg⟩
    · rw [if_neg k] at h
      cases h
  · by_cases k : a = g
    · rw [if_pos k] at h
      cases h
      exact w.nonneg F
    · rw [if_neg k] at h
      cases h
/-- how many places are still without -/
def left (p : Int) (f : Int → Option Int) : Nat := ((List.range p.toNat).filter fun (a : Nat) => (f (a : Int)).isNone).length
theorem left_first {p g : Int} (hg : In p g) : left p (fun a => if a = g then some 0 else none) + 1 = p.toNat := by
  unfold left
  obtain ⟨h0, h1⟩ := hg
  have key : ∀ n : Nat, ((List.range n).filter fun (a : Nat) => (if (a : Int) = g then some (0 : Int) else none).isNone).length + (if g.toNat < n then 1 else 0) = n := by
    intro n
    induction n with
    | zero => rfl
    | succ n ih =>
      rw [List.range_succ, List.filter_append, List.length_append]
      by_cases e : (n : Int) = g
      · have e2 : g.toNat = n := by omega
        rw [List.filter_cons_of_neg (by rw [if_pos e]; decide), List.filter_nil, List.length_nil]
        rw [if_neg (by omega)] at ih
        rw [if_pos (by omega)]
        omega
      · rw [List.filter_cons_of_pos (by rw [if_neg e]; rfl), List.filter_nil, List.length_singleton]
        by_cases k : g.toNat < n
        · rw [if_pos k] at ih
          rw [if_pos (by omega)]
          omega
        · rw [if_neg k] at ih
          rw [if_neg (by omega)]
          omega
  have := key p.toNat
  rw [if_pos (by omega)] at this
  exact this
theorem left_next {p : Int} {f : Int → Option Int} {s d : Int} (hs : In p s) (e : f s = none) : left p (fun a => if a = s then some d else f a) + 1 = left p f := by
  unfold left
  obtain ⟨h0, h1⟩ := hs
  have key : ∀ n : Nat, ((List.range n).filter fun (a : Nat) => (if (a : Int) = s then some d else f a).isNone).length + (if s.toNat < n then 1 else 0) = ((List.range n).filter fun (a : Nat) => (f (a : Int)).isNone).length := by
    intro n
    induction n with
    | zero => rfl
    | succ n ih =>
      rw [List.range_succ, List.filter_append, List.filter_append, List.length_append, List.length_append]
      by_cases k : (n : Int) = s
      · have e2 : s.toNat = n := by omega
        rw [List.filter_cons_of_neg (by rw [if_pos k]; exact Bool.false_ne_true), List.filter_nil, List.length_nil]
        rw [List.filter_cons_of_pos (by rw [k, e]; rfl), List.filter_nil, List.length_singleton]
        rw [if_neg (by omega)] at ih
        rw [if_pos (by omega)]
        omega
      · have e3 : ((if (n : Int) = s then some d else f n).isNone) = (f (n : Int)).isNone := by rw [if_neg k]
        have e4 : (List.filter (fun (a : Nat) => (if (a : Int) = s then some d else f a).isNone) [n]).length = (List.filter (fun (a : Nat) => (f (a : Int)).isNone) [n]).length := by
          rw [List.filter_cons, List.filter_cons, e3]
          cases (f (n : Int)).isNone <;> rfl
        rw [e4]
        by_cases k2 : s.toNat < n
        · rw [if_pos k2] at ih
          rw [if_pos (by omega)]
          omega
        · rw [if_neg k2] at ih
          rw [if_neg (by omega)]
          omega
  have := key p.toNat
  rw [if_pos (by omega)] at this
  exact this

theorem fr_of {p : Int} {rs : List Road} (ok : NetOk p rs) (ms : List Int) : Fr p (freeR ms rs) := by
  have h : ∀ q ∈ freeR ms rs, RoadOk p q := fun q hq => ok.all q (List.mem_filter.mp hq).1
  exact ⟨fun q hq => ⟨(h q hq).o1, by have := (h q hq).o2; omega⟩, fun q hq => ⟨(h q hq).t1, by have := (h q hq).t2; omega⟩, fun q hq => (h q hq).c1⟩
theorem great_dist {p g : Int} {rs : List Road} (ok : NetOk p rs) (ms : List Int) (hg : In p g) : Dist p (freeR ms rs) g (at' (greatest p rs g ms)) := rounds_dist (fr_of ok ms) hg
end Wy

namespace Wy
open PySem PySem.Spec PyProof.Rows L2

section
variable {P : Program} {w : World} {K : PySem.W.Frag} {mg : Str → Option Value} {base : Heap} {f1 f2 f3 f4 f5 : Addr} {d1 d2 d3 d4 d5 : FuncData}
def spP0 : Sp := fun vs H Q _ => ∃ (x r : Addr) (ts : List Addr) (p : Int) (rs : List Road) (a : Int), vs = [.ref x, .int a] ∧ NetAt H x r ts p rs ∧ 0 ≤ a ∧ a ≤ p - 1 ∧ Q .non H
theorem ok_P0 {f : Addr} {fd : FuncData} {k : Nat} (S : Sm K mg f1 f2 f3 f4 f5 d1 d2 d3 d4 d5) (D : Df K mg "check_place" sChkP ["net", "thing"] f fd) : FnOk P w K mg base CX0 (k + 3) f fd ["net", "thing"] spP0 := by
  have G : FnOk P w K mg base CX0 (k + 2) f2 d2 ["thing", "low", "high"] spWithin := ok_within S
  refine D.F.ok scChkP (fun vs H Q E h => ?_) (fun cdv A outer s H vs Q E hr h => ?_)
  · obtain ⟨_, _, _, _, _, _, rfl, _⟩ := h
    rfl
  · obtain ⟨x, r, ts, p, rs, a, rfl, ⟨ea, _, _⟩, a0, a1, q⟩ := h
    refine ⟨_, pss_one (ps_if (pt_not (pt_val (pe_call G hr (by rfl) S.within.g S.within.F.kp S.within.b .nil pass0 (pa_cons (pv 1) (pa_cons pe_int (pa_cons (pe_op op_sub (pe_ix ix_tup (pv 0) pe_int (fun _ _ => rfl)) pe_int) pa_nil)))))) pss_never pss_nil), ?_⟩
    refine ⟨.int a, rfl, .ref x, rfl, x, _, 0, _, rfl, rfl, SqT.of ea, rfl, p, 1, rfl, rfl, .int a, "int", 0, p - 1, rfl, .int _, _, rfl, ?_⟩
    rw [isIn_of a0 a1]
    exact iteF q
theorem scShutQ : FnScope ["net", "goal", "thing", "place"] ["net", "goal", "thing"] (defScope sShutQ) := ⟨rfl, rfl, rfl, by decide +kernel, rfl, by decide +kernel, by decide +kernel⟩
/-- places that may be shut -/
structure ShutOk (p g : Int) (ms : List Int) : Prop where
  inn : ∀ m ∈ ms, 0 ≤ m ∧ m ≤ p - 1 ∧ m ≠ g
  rise : riseB ms = true
  len : ms.length ≤ 1000
def spShut0 (K : PySem.W.Frag) : Sp := fun vs H Q _ => ∃ (x r : Addr) (ts : List Addr) (p : Int) (rs : List Road) (g : Int) (b : Addr) (ms : List Int), vs = [.ref x, .int g, .ref b] ∧ NetAt H x r ts p rs ∧ SqT K H b (ms.map V.int) ∧ ShutOk p g ms ∧ ∀ H', Same H H' → Q .non H'
theorem ok_shut0 {f fR : Addr} {fd dR : FuncData} {k : Nat} (S : Sm K mg f1 f2 f3 f4 f5 d1 d2 d3 d4 d5) (mZ : mg "zip" = none) (DR : Df K mg "is_rising" sRise ["things"] fR dR) (D : Df K mg "check_shut" sShutQ ["net", "goal", "thing"] f fd) : FnOk P w K mg base CX0 (k + 3) f fd ["net", "goal", "thing"] (spShut0 K) := by
  have G : FnOk P w K mg base CX0 (k + 2) f2 d2 ["thing", "low", "high"] spWithin := ok_within S
  have GR : FnOk P w K mg base CX0 (k + 2) fR dR ["things"] (spRise K) := ok_rise (k := k + 1) S.mA mZ DR
  refine D.F.ok scShutQ (fun vs H Q E h => ?_) (fun cdv A outer s H vs Q E hr h => ?_)
  · obtain ⟨_, _, _, _, _, _, _, _, rfl, _⟩ := h
    rfl
  · obtain ⟨a, r, ts, p, rs, g, b, ms, rfl, ⟨ea, _, _⟩, eb, ok, q⟩ := h
    refine ⟨_, pss_cons (ps_if (pt_not (pt_val (pe_callB call_isi (by rfl) S.mi (by decide +kernel) (pa_cons (pv 2) (pa_cons (pe_bltn (v := .ty "tuple") (by rfl) S.mT (by decide +kernel) rfl) pa_nil))))) pss_never pss_nil)
      (pss_cons (ps_if (pt_not (pt_val (pe_callB (cr_all rfl) (by rfl) S.mA (by decide +kernel) (pa_cons
        (pe_lc (own := [("place", 3)]) (g := gName 3) (tt := tYes) rfl scShutQ.nd (pi_tup (pv 2)) (blkOk_by (N := ["net", "goal", "thing", "place"]) (sc := defScope sShutQ) (by decide +kernel))
          (fun _ _ _ _ _ => pg_name (i := 3) scShutQ.nd rfl (.inl rfl)) (fun _ _ _ _ _ => pts_nil)
          (fun _ _ _ _ _ => pe_and (pe_call G hr (by rfl) S.within.g S.within.F.kp S.within.b .nil pass0 (pa_cons (pv 3) (pa_cons pe_int (pa_cons (pe_op op_sub (pe_ix (ix_tupK (K := K) rfl) (pv 0) pe_int (fun _ _ => rfl)) pe_int) pa_nil)))) (pe_one (pe_cmpR op_ne (pv 3) (pv 1) (nomark _))))) pa_nil)))) pss_never pss_nil)
      (pss_one (ps_if (pt_not (pt_val (pe_call GR hr (by rfl) DR.g DR.F.kp DR.b .nil pass0 (pa_cons (pv 2) pa_nil)))) pss_never pss_nil))), ?_⟩
    refine ⟨.ref b, rfl, .ref b, .ty "tuple", .type _, .type "tuple", _, rfl, .ty _, sqt_ty eb, isi_tt, _, rfl, iteF ?_⟩
    refine ⟨.ref b, rfl, b, rfl, ⟨_, eb⟩, fun D nD => ?_⟩
    refine lc_tup (xs := ms.map V.int) (fun j H' => Same H H' ∧ H' D = some (.lst ((List.replicate j true).map V.bl))) ⟨same_new nD, upd_same⟩ (fun j H' _ h => sqt_same eb h.1) (fun j x H' hx h => ?_) (fun H' h => ?_)
    · obtain ⟨sm, eD⟩ := h
      rw [List.getElem?_map] at hx
      obtain ⟨m, e1, rfl⟩ := Option.map_eq_some_iff.mp hx
      have hj := (List.getElem?_eq_some_iff.mp e1).1
      have hl := ok.len
      obtain ⟨m0, m1, m2⟩ := ok.inn m (List.mem_of_getElem? e1)
      refine ⟨rfl, ?_⟩
      unfold tYes
      dsimp only
      rw [if_pos rfl]
      refine ⟨.int m, rfl, .ref a, rfl, a, _, 0, _, rfl, rfl, SqT.of (sm _ _ ea), rfl, p, 1, rfl, rfl, .int m, "int", 0, p - 1, rfl, .int _, _, rfl, ?_⟩
      rw [isIn_of m0 m1]
      refine iteT ⟨.int m, rfl, .int g, rfl, rfl, _, eD, ?_, Same.upd_lst sm nD, ?_⟩
      · rw [List.length_map, List.length_replicate]
        exact small1000 (by omega)
      · rw [upd_same, List.replicate_succ', List.map_append, decide_eq_false (fun z => m2 (V.int.inj z))]
        rfl
    · obtain ⟨sm, eD⟩ := h
      refine ⟨D, _, rfl, SqL.of eD, _, rfl, ?_⟩
      rw [all_yes]
      refine iteF ⟨.ref b, rfl, b, ms, rfl, sqt_same eb sm, ok.len, fun H2 s2 => ⟨_, rfl, ?_⟩⟩
      rw [ok.rise]
      exact iteF (q _ (sm.trans s2))
theorem scPrices : FnScope ["net", "goal", "shut"] ["net", "goal", "shut"] (defScope sPrices) := ⟨rfl, rfl, rfl, by decide +kernel, rfl, by decide +kernel, by decide +kernel⟩
def spPr (K : PySem.W.Frag) : Sp := fun vs H Q _ => ∃ (x r : Addr) (ts : List Addr) (p : Int) (rs : List Road) (g : Int) (b : Addr) (ms : List Int), vs = [.ref x, .int g, .ref b] ∧ NetAt H x r ts p rs ∧ NetOk p rs ∧ 0 ≤ g ∧ g ≤ p - 1 ∧ SqT K H b (ms.map V.int) ∧ ShutOk p g ms ∧
  ∀ H' t, Same H H' → H t = none → H' t = some (.tup ((greatest p rs g ms).map vOpt)) → Q (.ref t) H'
/-- the program's prices, as they stand in the text -/
structure Pt (K : PySem.W.Frag) (mg : Str → Option Value) (fN fP fR fS fF fX fG : Addr) (dN dP dR dS dF dX dG : FuncData) : Prop where
  N : Df K mg "check_net" sChkN ["thing"] fN dN
  P : Df K mg "check_place" sChkP ["net", "thing"] fP dP
  R : Df K mg "is_rising" sRise ["things"] fR dR
  S : Df K mg "check_shut" sShutQ ["net", "goal", "thing"] fS dS
  F : Df K mg "free_roads" sFree ["net", "shut"] fF dF
  X : Df K mg "exceeds" sExc ["own", "cost", "ahead"] fX dX
  G : Df K mg "greatest_prices" sGreat ["net", "goal", "shut"] fG dG
  mZ : mg "zip" = none
  mR : mg "range" = none
variable {fN fP fR fS fF fX fG : Addr} {dN dP dR dS dF dX dG : FuncData}
theorem ok_pr {f : Addr} {fd : FuncData} {k : Nat} (S : Sm K mg f1 f2 f3 f4 f5 d1 d2 d3 d4 d5) (T : Pt K mg fN fP fR fS fF fX fG dN dP dR dS dF dX dG)
    (F : Fun K "prices_of" "prices_of" sPrices f fd) : FnOk P w K mg base CX0 (k + 6) f fd ["net", "goal", "shut"] (spPr K) := by
  have GN : FnOk P w K mg base CX0 (k + 5) fN dN ["thing"] spChkN := ok_chkN S T.N
  have GP : FnOk P w K mg base CX0 (k + 5) fP dP ["net", "thing"] spP0 := ok_P0 (k := k + 2) S T.P
  have GS : FnOk P w K mg base CX0 (k + 5) fS dS ["net", "goal", "thing"] (spShut0 K) := ok_shut0 (k := k + 2) S T.mZ T.R T.S
  have GG : FnOk P w K mg base CX0 (k + 5) fG dG ["net", "goal", "shut"] (spGreat K) := ok_great (k := k + 3) T.mR S.mT T.F T.X T.G
  refine F.ok scPrices (fun vs H Q E h => ?_) (fun cdv A outer s H vs Q E hr h => ?_)
  · obtain ⟨_, _, _, _, _, _, _, _, rfl, _⟩ := h
    rfl
  · obtain ⟨a, r, ts, p, rs, g, b, ms, rfl, hN, ok, g0, g1, eb, sh, q⟩ := h
    refine ⟨_, (pss_cons (ps_expr (pe_call GN hr (by rfl) T.N.g T.N.F.kp T.N.b .nil pass0 (pa_cons (pv 0) pa_nil)))
      (pss_cons (ps_expr (pe_call GP hr (by rfl) T.P.g T.P.F.kp T.P.b .nil pass0 (pa_cons (pv 0) (pa_cons (pv 1) pa_nil))))
      (pss_cons (ps_expr (pe_call GS hr (by rfl) T.S.g T.S.F.kp T.S.b .nil pass0 (pa_cons (pv 0) (pa_cons (pv 1) (pa_cons (pv 2) pa_nil)))))
      (pss_one (ps_ret (pe_call GG hr (by rfl) T.G.g T.G.F.kp T.G.b .nil pass0 (pa_cons (pv 0) (pa_cons (pv 1) (pa_cons (pv 2) pa_nil))))))))), ?_⟩
    have kp : ∀ {H' : Hp}, Same H H' → NetAt H' a r ts p rs := fun sm => hN.keep fun b xs e => sm b _ e
    refine ⟨.ref a, rfl, a, r, ts, p, rs, rfl, hN, ok, fun H1 s1 => ?_⟩
    refine ⟨.ref a, rfl, .int g, rfl, a, r, ts, p, rs, g, rfl, kp s1, g0, g1, ?_⟩
    refine ⟨.ref a, rfl, .int g, rfl, .ref b, rfl, a, r, ts, p, rs, g, b, ms, rfl, kp s1, sqt_same eb s1, sh, fun H2 s2 => ?_⟩
    have s12 := s1.trans s2
    exact ⟨.ref a, rfl, .int g, rfl, .ref b, rfl, a, r, ts, p, rs, g, b, ms, rfl, kp s12, ok, g0, g1, sqt_same eb s12, fun H3 t s3 nt et => q H3 t (s12.trans s3) (s12.free nt) et⟩
end
end Wy

namespace Wy
open PySem PySem.Spec PyProof.Rows L2
abbrev sOpen : Stmt := topS 32
abbrev sLPr : Stmt := topS 33
theorem sc_sLPr : FnScope ["_law_web", "_law_aim", "_law_closed", "_law_found", "_law_some", "_law_road", "_law_cost", "_law_spot"] ["_law_web", "_law_aim", "_law_closed"] (defScope sLPr) := ⟨rfl, rfl, rfl, by decide +kernel, rfl, by decide +kernel, by decide +kernel⟩
abbrev sLSh : Stmt := topS 34
theorem sc_sLSh : FnScope ["_law_state_here", "_law_web", "_law_aim", "_law_often", "_law_spot"] ["_law_state_here", "_law_web", "_law_aim"] (defScope sLSh) := ⟨rfl, rfl, rfl, by decide +kernel, rfl, by decide +kernel, by decide +kernel⟩

/-! ### the least of some pairs -/
open PySem.W in
theorem min_idx {prog : Program} {w : World} {A : Around} {E : Value → Shared → Prop} {s : Shared} {l : Addr} {vs : Array Value} {x : PyData} {xs : List PyData} {as : List Addr} {Q : Value → Shared → Prop} (hh : A.handled = none) (hl : s.heap.IsList l vs) (hr : ReadsAll s.heap vs.toList (x :: xs) as) (ha : AlikeAll (x :: xs)) (hu : A.units + 1 + PyData.depthAll (x :: xs) < cLine)
    (h : ∀ (i : Nat) v h' tk, vs[i]? = some v → (x :: xs).getD i .none = minD x xs → (∀ b o, s.heap.get? b = some o → h'.get? b = some o) → Q v { s with heap := h', toks := tk }) :
    wpAny (model prog w) A (call (.builtin "min") [.ref l]) Q E s := by
  have hn : vs.size = xs.length + 1 := readsAll_len hr
  refine call_min_walkH (iter_listW (A := A.in1) hh hl fun s₂ e W st hfp hw hk => ?_)
  refine ⟨_, _, _, _, _, _, _, s.heap, _, rfl, W, st, hfp, by omega, hw, hk, cmpIn_lt (A := A.in1) hr ha (by show A.units + 1 + _ < _; exact hu), fun v s' hP m => ?_⟩
  obtain ⟨h', tk, rfl, hk'⟩ := moved_old e rfl m
  have e1 : vs.size - 1 = xs.length := by omega
  have e2 := (argBest_fold dataLt PyData.none x xs xs.length (Nat.le_refl _)).2
  rw [List.take_length] at e2
  exact h _ v h' tk hP (by rw [e1]; unfold minD; exact e2) hk'
def dPair (p : Int × Int) : PyData := .tuple [.int p.1, .int p.2]
def PairsAt (H : Hp) : List Addr → List (Int × Int) → Prop := Paired fun t p => H t = some (.tup [.int p.1, .int p.2])
theorem PairsAt.same {H H' : Hp} {ts : List Addr} {ps : List (Int × Int)} (h : PairsAt H ts ps) (k : ∀ b xs, H b = some (.tup xs) → H' b = some (.tup xs)) : PairsAt H' ts ps := Paired.mapP h fun _ _ e => k _ _ e
theorem PairsAt.len {H : Hp} {ts : List Addr} {ps : List (Int × Int)} (h : PairsAt H ts ps) : ts.length = ps.length := Paired.length h
theorem PairsAt.get {H : Hp} : ∀ {ts : List Addr} {ps : List (Int × Int)} {i : Nat} {t : Addr}, PairsAt H ts ps → ts[i]? = some t → ∃ p, ps[i]? = some p ∧ H t = some (.tup [.int p.1, .int p.2])
  | _, _, _, _, .nil, e => by simp at e
  | _, _, 0, _, .cons r _, e => by
    simp at e
    subst e
    exact ⟨_, rfl, r⟩
  | _, _, i + 1, t, .cons _ s, e => by
    obtain ⟨q, h1, h2⟩ := PairsAt.get (i := i) (t := t) s (by simpa using e)
    exact ⟨q, by simpa using h1, h2⟩
theorem PairsAt.snoc {H : Hp} {us : List Addr} {qs : List (Int × Int)} {t : Addr} {q : Int × Int} (h : PairsAt H us qs) (e : H t = some (.tup [.int q.1, .int q.2])) : PairsAt H (us ++ [t]) (qs ++ [q]) := by
  induction h with
  | nil => exact .cons e .nil
  | cons a _ ih => exact .cons a ih
theorem pairs_dp {K : PySem.W.Frag} {H : Hp} : ∀ {ts : List Addr} {ps : List (Int × Int)}, PairsAt H ts ps → DpAll K H (ts.map V.ref) (ps.map dPair)
  | _, _, .nil => .nil
  | _, _, .cons e r => .cons (.tup (SqT.of e) (.cons (.int _) (.cons (.int _) .nil))) (pairs_dp r)
theorem pairs_lay : ∀ ps : List (Int × Int), PyData.canLayAll0 (ps.map dPair) = true
  | [] => rfl
  | q :: r => by
    rw [List.map_cons, PyData.canLayAll0, pairs_lay r]
    simp [dPair, PyData.canLay0, PyData.canLayAll0]
theorem pairs_deep : ∀ ps : List (Int × Int), PyData.depthAll (ps.map dPair) ≤ 1
  | [] => by
    show PyData.depthAll [] ≤ 1
    rw [PyData.depthAll]
    omega
  | q :: r => by
    rw [List.map_cons, PyData.depthAll]
    have := pairs_deep r
    have h2 : (dPair q).depth ≤ 1 := by simp [dPair, PyData.depth, PyData.depthAll]
    omega
theorem pairs_shaped (ps : List (Int × Int)) : SeqAt.shaped (.list (ps.map dPair)) = true := by
  have h := pairs_deep ps
  unfold SeqAt.shaped
  rw [PyData.canLay0, pairs_lay, PyData.depth, Bool.true_and]
  exact decide_eq_true (by omega)
/-- no greater, as tuples compare -/
def LeT (p q : Int × Int) : Prop := p.1 < q.1 ∨ (p.1 = q.1 ∧ p.2 ≤ q.2)
theorem LeT.refl (p : Int × Int) : LeT p p := .inr ⟨rfl, Int.le_refl _⟩
theorem LeT.trans {p q r : Int × Int} (h : LeT p q) (k : LeT q r) : LeT p r := by
  unfold LeT at *
  omega
theorem LeT.eq {p q : Int × Int} (h : LeT p q) (k : LeT q p) : p = q := by
  unfold LeT at *
  exact Prod.ext (by omega) (by omega)
theorem min_pairs : ∀ (ps : List (Int × Int)) (p : Int × Int), ∃ m, (m = p ∨ m ∈ ps) ∧ PySem.W.minD (dPair p) (ps.map dPair) = dPair m ∧ LeT m p ∧ ∀ r ∈ ps, LeT m r
  | [], p => ⟨p, .inl rfl, rfl, .refl p, fun _ h => nomatch h⟩
  | r :: ps, p => by
    have e : (if PySem.W.dataLt (dPair r) (dPair p) = true then dPair r else dPair p) = dPair (if r.1 < p.1 ∨ (r.1 = p.1 ∧ r.2 < p.2) then r else p) := by
      unfold dPair
      rw [PySem.W.dataLt_ii]
      by_cases h : r.1 < p.1 ∨ (r.1 = p.1 ∧ r.2 < p.2)
      · rw [if_pos (decide_eq_true h), if_pos h]
      · rw [if_neg (by rw [decide_eq_true_eq]; exact h), if_neg h]
    obtain ⟨m, h1, h2, h3, h4⟩ := min_pairs ps (if r.1 < p.1 ∨ (r.1 = p.1 ∧ r.2 < p.2) then r else p)
    have hd : PySem.W.minD (dPair p) ((r :: ps).map dPair) = PySem.W.minD (dPair (if r.1 < p.1 ∨ (r.1 = p.1 ∧ r.2 < p.2) then r else p)) (ps.map dPair) := by
      unfold PySem.W.minD
      rw [List.map_cons, List.foldl_cons, ← e]
    by_cases h : r.1 < p.1 ∨ (r.1 = p.1 ∧ r.2 < p.2)
    · rw [if_pos h] at h1 h2 h3 hd
      refine ⟨m, ?_, hd.trans h2, ?_, fun x hx => ?_⟩
      · rcases h1 with rfl | h1
        · exact .inr (List.mem_cons_self ..)
        · exact .inr (List.mem_cons_of_mem _ h1)
      · refine h3.trans ?_
        unfold LeT
        omega
      · rcases List.mem_cons.mp hx with rfl | hx
        · exact h3
        · exact h4 x hx
    · rw [if_neg h] at h1 h2 h3 hd
      refine ⟨m, ?_, hd.trans h2, h3, fun x hx => ?_⟩
      · rcases h1 with rfl | h1
        · exact .inl rfl
        · exact .inr (List.mem_cons_of_mem _ h1)
      · rcases List.mem_cons.mp hx with rfl | hx
        · refine h3.trans ?_
          unfold LeT
          omega
        · exact h4 x hx
theorem dPair_inj {p q : Int × Int} (h : dPair p = dPair q) : p = q := by
  unfold dPair at h
  simp at h
  exact Prod.ext h.1 h.2
def rMinP (K : PySem.W.Frag) : List V → Hp → VK → Prop := fun vs H Q => ∃ (a : Addr) (ts : List Addr) (ps : List (Int × Int)), vs = [.ref a] ∧ SqL K H a (ts.map V.ref) ∧ PairsAt H ts ps ∧ ps ≠ [] ∧
  ∀ (t : Addr) (p : Int × Int), H t = some (.tup [.int p.1, .int p.2]) → p ∈ ps → (∀ r ∈ ps, LeT p r) → Q (.ref t) H
theorem cr_minP {X : Cx} (hc : X.calm = true) (hu : X.A.units + 64 < cLine) : CallR X (.builtin "min") (rMinP X.K) := by
  intro pins s σ H vs us Q I r h
  obtain ⟨a, ts, ps, rfl, hs, hp, ne, q⟩ := h
  rw [Vals.ref1 r]
  obtain ⟨its, rv, hl, _⟩ := I.list hs
  obtain ⟨as, ra⟩ := Dp.readsAll I _ _ _ (pairs_dp hp) rv
  cases ps with
  | nil => exact absurd rfl ne
  | cons p ps =>
    have al : PySem.W.AlikeAll (dPair p :: ps.map dPair) := by
      have each : ∀ x ∈ dPair p :: ps.map dPair, ∃ r, x = dPair r := fun x hx => by
        rw [← List.map_cons] at hx
        obtain ⟨r, _, rfl⟩ := List.mem_map.mp hx
        exact ⟨r, rfl⟩
      refine ⟨fun x hx y hy => ?_, fun x hx => ?_⟩
      · obtain ⟨r, rfl⟩ := each x hx
        obtain ⟨r', rfl⟩ := each y hy
        simp [dPair, PySem.W.alike, PySem.W.alikeAll]
      · obtain ⟨r, rfl⟩ := each x hx
        exact fun z => nomatch z
    have dd := pairs_deep (p :: ps)
    rw [List.map_cons] at dd
    refine min_idx (I.ok.hd hc) hl.isList (by simpa using ra) al (by omega) fun i v h' tk hv hm hk => ?_
    obtain ⟨m, h1, h2, h3, h4⟩ := min_pairs ps p
    have hv' : its[i]? = some v := by simpa using hv
    have hi : i < (ts.map V.ref).length := by
      rw [rv.length]
      exact (List.getElem?_eq_some_iff.mp hv').1
    rw [List.length_map] at hi
    obtain ⟨u, e1, rel⟩ := rv.get (ref_at (List.getElem?_eq_getElem hi))
    rw [e1] at hv'
    cases hv'
    cases rel
    obtain ⟨pr, e2, e3⟩ := hp.get (List.getElem?_eq_getElem hi)
    have e4 : pr = m := by
      have e5 : (dPair p :: ps.map dPair).getD i .none = dPair pr := by
        rw [← List.map_cons]
        unfold List.getD
        rw [List.getElem?_map, e2]
        rfl
      exact dPair_inj (e5.symm.trans (hm.trans h2))
    subst e4
    exact ⟨.ref ts[i], H, I.kept (t' := tk) hk, rfl, q _ pr e3 (List.mem_of_getElem? e2) fun r hr => by
      rcases List.mem_cons.mp hr with rfl | hr
      · exact h3
      · exact h4 r hr⟩
/-! ### the law's own going through -/
def cand1 (f : Int → Option Int) (qs : List Road) : List (Int × Int) := qs.filterMap fun q => (f q.other).map fun v => (q.cost + v, q.one)
def cand2 (f : Int → Option Int) (ps : List (Int × Int)) : List (Int × Int) := ps.filter fun p => (f p.2).isNone
theorem cand_mem {f : Int → Option Int} {qs : List Road} {p : Int × Int} : p ∈ cand2 f (cand1 f qs) ↔ ∃ q u, q ∈ qs ∧ f q.one = none ∧ f q.other = some u ∧ p = (q.cost + u, q.one) := by
  unfold cand2 cand1
  rw [List.mem_filter, List.mem_filterMap]
  constructor
  · rintro ⟨⟨q, h1, h2⟩, h3⟩
    obtain ⟨u, h4, h5⟩ := Option.map_eq_some_iff.mp h2
    subst h5
    exact ⟨q, u, h1, Option.isNone_iff_eq_none.mp h3, h4, rfl⟩
  · rintro ⟨q, u, h1, h2, h3, rfl⟩
    exact ⟨⟨q, h1, by rw [h3]; rfl⟩, by rw [h2]; rfl⟩
theorem opt_range {ps : List (Option Int)} {p : Int} (hl : ps.length = p.toNat) {f : Int → Option Int} (h : ∀ a, In p a → at' ps a = f a) : ps.map vOpt = (List.range p.toNat).map fun (a : Nat) => vOpt (f (a : Int)) := by
  refine List.ext_getElem? fun i => ?_
  rw [List.getElem?_map, List.getElem?_map]
  by_cases hi : i < p.toNat
  · rw [List.getElem?_range hi, List.getElem?_eq_getElem (by omega)]
    have e := h i ⟨by omega, by omega⟩
    unfold at' List.getD at e
    rw [Int.toNat_natCast, List.getElem?_eq_getElem (by omega)] at e
    show some (vOpt _) = some (vOpt _)
    rw [← e]
    rfl
  · rw [List.getElem?_eq_none (by omega), List.getElem?_eq_none (by rw [List.length_range]; omega)]
    rfl
theorem great_len (p : Int) (rs : List Road) (g : Int) (ms : List Int) : (greatest p rs g ms).length = p.toNat := (rounds_len _ _ _).trans (first_len p g)
section
variable {P : Program} {w : World} {K : PySem.W.Frag} {mg : Str → Option Value} {base : Heap}
theorem scOpen : FnScope ["_law_web", "_law_closed", "_law_road"] ["_law_web", "_law_closed"] (defScope sOpen) := ⟨rfl, rfl, rfl, by decide +kernel, rfl, by decide +kernel, by decide +kernel⟩
def spOpen (K : PySem.W.Frag) : Sp := fun vs H Q _ => ∃ (a r : Addr) (ts : List Addr) (p : Int) (rs : List Road) (b : Addr) (ms : List Int), vs = [.ref a, .ref b] ∧ NetAt H a r ts p rs ∧ rs.length ≤ 1000 ∧ SqT K H b (ms.map V.int) ∧
  ∀ H' l us, Same H H' → H l = none → H' l = some (.lst (us.map V.ref)) → RoadsAt H' us (freeR ms rs) → Q (.ref l) H'
theorem ok_open {f : Addr} {fd : FuncData} {k : Nat} (D : Df K mg "_law_open" sOpen ["_law_web", "_law_closed"] f fd) : FnOk P w K mg base CX0 (k + 1) f fd ["_law_web", "_law_closed"] (spOpen K) := by
  refine D.F.ok scOpen (fun vs H Q E h => ?_) (fun cdv A outer s H vs Q E hr h => ?_)
  · obtain ⟨_, _, _, _, _, _, _, rfl, _⟩ := h
    rfl
  · obtain ⟨a, r, ts, p, rs, b, ms, rfl, ⟨ea, er, et⟩, hl, eb, q⟩ := h
    refine ⟨_, pss_one (ps_ret (pe_lc (own := [("_law_road", 2)]) (g := gName 2) rfl scOpen.nd (pi_tup (pe_ix (ix_tupK (K := K) rfl) (pv 0) pe_int (fun _ _ => rfl))) (blkOk_by (N := ["_law_web", "_law_closed", "_law_road"]) (sc := defScope sOpen) (by decide +kernel))
          (fun _ _ _ _ _ => pg_name (i := 2) scOpen.nd rfl (.inl rfl))
          (fun _ _ _ _ _ => pts_one (PW.pt (pw_and (pt_cmpR (op_notInK (K := K) rfl) (pe_ix (ix_tupK (K := K) rfl) (pv 2) pe_int (fun _ _ => rfl)) (pv 1) (by rfl)) (pw_and1 (pt_cmpR (op_notInK (K := K) rfl) (pe_ix (ix_tupK (K := K) rfl) (pv 2) pe_int (fun _ _ => rfl)) (pv 1) (by rfl))))))
          (fun _ _ _ _ _ => pv 2))), ?_⟩
    refine ⟨.ref a, rfl, a, _, 1, _, rfl, rfl, SqT.of ea, rfl, r, rfl, ⟨_, SqT.of er⟩, fun D nD => ?_⟩
    have lt := et.len
    refine lc_tup (xs := ts.map V.ref) (fun i H' => Same H H' ∧ ∃ us, H' D = some (.lst (us.map V.ref)) ∧ RoadsAt H us (freeR ms (rs.take i))) ⟨same_new nD, [], upd_same, .nil⟩ (fun i H' _ h => SqT.of (h.1 _ _ er)) (fun i x H' hx h => ?_) (fun H3 h => ?_)
    · obtain ⟨sm, us, eD, eu⟩ := h
      have hi : i < ts.length := by
        have := (List.getElem?_eq_some_iff.mp hx).1
        rwa [List.length_map] at this
      rw [List.getElem?_map, List.getElem?_eq_getElem hi] at hx
      cases hx
      obtain ⟨q', e1, e2⟩ := et.get (List.getElem?_eq_getElem hi)
      have tk : freeR ms (rs.take (i + 1)) = freeR ms (rs.take i) ++ (if freeRoad ms q' = true then [q'] else []) := by
        unfold freeR
        rw [List.take_add_one, e1, List.filter_append]
        congr 1
        show List.filter _ [q'] = _
        rw [List.filter_cons]
        rfl
      have lu : us.length ≤ 1000 := by
        have h1 := eu.len
        have h2 : (freeR ms (rs.take i)).length ≤ (rs.take i).length := List.length_filter_le _ _
        rw [List.length_take] at h2
        omega
      refine ⟨rfl, ?_⟩
      refine ⟨.ref ts[i], rfl, ts[i], _, 0, .int q'.one, rfl, rfl, SqT.of (sm _ _ e2), rfl, .ref b, rfl, b, _, rfl, .inr (sqt_same eb sm), rfl, flat_ints ms, _, rfl, ?_⟩
      cases c1 : inV (.int q'.one) (ms.map V.int) with
      | true =>
        refine iteF ?_
        dsimp only
        rw [if_neg (by decide)]
        refine ⟨sm, us, eD, ?_⟩
        rw [tk, if_neg (by unfold freeRoad; rw [c1]; exact Bool.false_ne_true), List.append_nil]
        exact eu
      | false =>
        refine iteT ?_
        refine ⟨.ref ts[i], rfl, ts[i], _, 1, .int q'.other, rfl, rfl, SqT.of (sm _ _ e2), rfl, .ref b, rfl, b, _, rfl, .inr (sqt_same eb sm), rfl, flat_ints ms, _, rfl, ?_⟩
        cases c2 : inV (.int q'.other) (ms.map V.int) with
        | true =>
          rw [if_neg (by decide)]
          refine ⟨sm, us, eD, ?_⟩
          rw [tk, if_neg (by unfold freeRoad; rw [c1, c2]; decide), List.append_nil]
          exact eu
        | false =>
          rw [if_pos (by decide)]
          refine ⟨.ref ts[i], rfl, _, eD, ?_, Same.upd_lst sm nD, us ++ [ts[i]], ?_, ?_⟩
          · rw [List.length_map]
            exact small1000 (by omega)
          · rw [upd_same, List.map_append]
            rfl
          · rw [tk, if_pos (by unfold freeRoad; rw [c1, c2]; rfl)]
            exact laid_snoc eu e2
    · obtain ⟨sm, us, eD, eu⟩ := h
      rw [List.length_map, lt, List.take_length] at eu
      exact q H3 D us sm nD eD (eu.keep fun b xs e => sm _ _ e)
end
end Wy

namespace Wy
open PySem PySem.Spec PyProof.Rows L2

section
variable {P : Program} {w : World} {K : PySem.W.Frag} {mg : Str → Option Value} {base : Heap}
def spLPr (K : PySem.W.Frag) : Sp := fun vs H Q _ => ∃ (x r : Addr) (ts : List Addr) (p : Int) (rs : List Road) (g : Int) (b : Addr) (ms : List Int), vs = [.ref x, .int g, .ref b] ∧ NetAt H x r ts p rs ∧ NetOk p rs ∧ 0 ≤ g ∧ g ≤ p - 1 ∧ SqT K H b (ms.map V.int) ∧
  ∀ H' t, Same H H' → H t = none → H' t = some (.tup ((greatest p rs g ms).map vOpt)) → Q (.ref t) H'
set_option maxHeartbeats 2000000 in
theorem ok_lpr {f fO : Addr} {fd dO : FuncData} {k : Nat} (mR : mg "range" = none) (mT : mg "tuple" = none) (mMn : mg "min" = none) (DO : Df K mg "_law_open" sOpen ["_law_web", "_law_closed"] fO dO) (D : Df K mg "_law_prices" sLPr ["_law_web", "_law_aim", "_law_closed"] f fd) : FnOk P w K mg base CX0 (k + 2) f fd ["_law_web", "_law_aim", "_law_closed"] (spLPr K) := by
  have GO : FnOk P w K mg base CX0 (k + 1) fO dO ["_law_web", "_law_closed"] (spOpen K) := ok_open DO
  refine D.F.ok sc_sLPr (fun vs H Q E h => ?_) (fun cdv A outer s H vs Q E hr h => ?_)
  · obtain ⟨_, _, _, _, _, _, _, _, rfl, _⟩ := h
    rfl
  · obtain ⟨x, r, ts, p, rs, g, b, ms, rfl, hN, ok, g0, g1, eb, q⟩ := h
    refine ⟨_, (pss_cons (ps_set (i := 3) sc_sLPr.nd rfl (.inr rfl) (pe_disp (pps_cons (pv 1) pe_int pps_nil) (by rfl) (by rfl) (fun z => by cases z) (by decide)))
    (pss_one (ps_while PassesOwn.never (pt_val pe_bl)
    (pss_cons (ps_setLc (i := 4) (own := [("_law_road", 5)]) (g := gName 5) rfl sc_sLPr.nd rfl rfl (sw_true rfl rfl rfl (by decide +kernel)) (pi_list (pe_call GO hr (by rfl) DO.g DO.F.kp DO.b .nil pass0 (pa_cons (pv 0) (pa_cons (pv 2) pa_nil)))) (blkOk_by (N := ["_law_web", "_law_aim", "_law_closed", "_law_found", "_law_some", "_law_road", "_law_cost", "_law_spot"]) (sc := defScope sLPr) (by decide +kernel)) (fun _ _ _ _ _ => (pg_name (i := 5) sc_sLPr.nd rfl (.inl rfl))) (fun _ _ _ _ _ => pts_one (pt_cmp (pc_din (hu_of hr) (pe_ix (ix_tupK (K := K) rfl) (pv 5) pe_int (fun _ _ => rfl)) (pv 3)))) (fun _ _ _ _ _ => pe_tup (pa_cons (pe_op op_add (pe_ix (ix_tupK (K := K) rfl) (pv 5) pe_int (fun _ _ => rfl)) (pe_dget (hu_of hr) (pv 3) (pe_ix (ix_tupK (K := K) rfl) (pv 5) pe_int (fun _ _ => rfl)) (fun _ _ => rfl))) (pa_cons (pe_ix (ix_tupK (K := K) rfl) (pv 5) pe_int (fun _ _ => rfl)) pa_nil))))
    (pss_cons (ps_setLc (i := 4) (own := [("_law_cost", 6), ("_law_spot", 7)]) (g := gTup K 2 (gCons (gName 6) (gCons (gName 7) gNil))) rfl sc_sLPr.nd rfl rfl (sw_true rfl rfl rfl (by decide +kernel)) (pi_list (pv 4)) (blkOk_by (N := ["_law_web", "_law_aim", "_law_closed", "_law_found", "_law_some", "_law_road", "_law_cost", "_law_spot"]) (sc := defScope sLPr) (by decide +kernel)) (fun _ _ _ _ _ => pg_tup rfl (pgs_cons (pg_name (i := 6) sc_sLPr.nd rfl (.inl rfl)) (pgs_cons (pg_name (i := 7) sc_sLPr.nd rfl (.inl rfl)) pgs_nil))) (fun _ _ _ _ _ => pts_one (pt_cmp (pc_dnotin (hu_of hr) (pv 7) (pv 3)))) (fun _ _ _ _ _ => pe_tup (pa_cons (pv 6) (pa_cons (pv 7) pa_nil))))
    (pss_cons (ps_if (pt_cmpR (op_eqD hr.units) (pv 4) (pe_lst pa_nil) (nomark _)) (pss_one (ps_ret (pe_callTy call_tuple_of (by rfl) mT (by decide +kernel) (pa_cons (pe_lc (own := [("_law_spot", 7)]) (g := gName 7) (tt := tYes) rfl sc_sLPr.nd (pi_range1 (by rfl) mR (pa_cons (pe_ix (ix_tupK (K := K) rfl) (pv 0) pe_int (fun _ _ => rfl)) pa_nil)) (blkOk_by (N := ["_law_web", "_law_aim", "_law_closed", "_law_found", "_law_some", "_law_road", "_law_cost", "_law_spot"]) (sc := defScope sLPr) (by decide +kernel)) (fun _ _ _ _ _ => (pg_name (i := 7) sc_sLPr.nd rfl (.inl rfl))) (fun _ _ _ _ _ => pts_nil) (fun _ _ _ _ _ => pe_dget1 (hu_of hr) (pv 3) (pv 7) ⟨rfl, rfl, rfl, rfl⟩)) pa_nil)))) pss_nil)
    (pss_one (ps_dput (hu_of hr) (pv 3) (pe_ix (ix_tupK (K := K) rfl) (pe_callB (cr_minP rfl hr.units) (by rfl) mMn (by decide +kernel) (pa_cons (pv 4) pa_nil)) pe_int (fun _ _ => rfl)) (pe_ix (ix_tupK (K := K) rfl) (pe_callB (cr_minP rfl hr.units) (by rfl) mMn (by decide +kernel) (pa_cons (pv 4) pa_nil)) pe_int (fun _ _ => rfl)) rfl)))))))), ?_⟩
    have p1 := ok.p1
    have p2 := ok.p2
    have F := fr_of ok ms
    have hg : In p g := ⟨g0, by omega⟩
    obtain ⟨qs, hqs⟩ : ∃ qs, qs = freeR ms rs := ⟨_, rfl⟩
    have lq : qs.length ≤ 30 := by
      rw [hqs]
      exact Nat.le_trans (List.length_filter_le _ _) ok.len
    refine fun d nd => ⟨.int g, rfl, upd_same, [(.inl g, .int 0)], rfl, by show 1 ≤ 15; decide, ?_⟩
    let IV : Nat → L2.St → Hp → Prop := fun m σ' H' => ∃ (y4 : Option V) (kvs : List (Key × V)) (f : Int → Option Int), σ' = [some (.ref x), some (.int g), some (.ref b), some (.ref d), y4, none, none, none] ∧ Same H H' ∧ H' d = some (.dK kvs) ∧ (∀ a : Int, valV kvs (.inl a) = (f a).map V.int) ∧ Near p qs g f ∧ kvs.length + m = p.toNat ∧ left p f = m
    refine ⟨IV, ⟨left p (fun a => if a = g then some 0 else none), ?_⟩, ?_⟩
    · refine ⟨none, _, fun a => if a = g then some 0 else none, rfl, fun c o e => ?_, upd_same, fun a => ?_, ?_, ?_, rfl⟩
      · rw [upd_ne (ne_of_none e nd)]
        exact same_new nd _ _ e
      · show valV (putK [] (Sum.inl g) (V.int 0)) (Sum.inl a) = _
        rw [valV_put]
        show _ = (if a = g then some (0 : Int) else none).map V.int
        by_cases e : a = g
        · rw [if_pos (by rw [e]), if_pos e]
          rfl
        · rw [if_neg (fun z => e (Sum.inl.inj z)), if_neg e]
          rfl
      · rw [hqs]
        exact near_first F hg
      · have := left_first hg
        show 1 + _ = _
        omega
    · rintro m σ' H' ⟨y4, kvs, f, rfl, sm, ed, hf, N, hk, hm⟩
      refine ⟨_, rfl, iteT ⟨fun σ2 H2 => m ≠ 0 ∧ IV (m - 1) σ2 H2, fun σ2 H2 h => ⟨m - 1, by omega, h.2⟩, ?_⟩⟩
      have hN' : NetAt H' x r ts p rs := hN.keep fun b xs h => sm _ _ h
      -- the roads to places that are found
      refine ⟨.ref x, rfl, .ref b, rfl, x, r, ts, p, rs, b, ms, rfl, hN', Nat.le_trans ok.len (by decide), sqt_same eb sm, fun H1 lr us s1 nlr elr eu => ?_⟩
      rw [← hqs] at eu
      refine ⟨lr, rfl, ⟨_, SqL.of elr⟩, fun D nD => ?_⟩
      have ed1 := s1 _ _ ed
      refine lc_list (xs := us.map V.ref) (fun i G => Same H1 G ∧ ∃ vs, G D = some (.lst (vs.map V.ref)) ∧ PairsAt G vs (cand1 f (qs.take i))) ⟨same_new nD, [], upd_same, .nil⟩ (fun i G _ h => SqL.of (h.1 _ _ elr)) (fun i v G hv h => ?_) (fun G h => ?_)
      · obtain ⟨sG, vs, eD, hvs⟩ := h
        rw [List.getElem?_map] at hv
        obtain ⟨t, e1, rfl⟩ := Option.map_eq_some_iff.mp hv
        obtain ⟨rd, e2, e3⟩ := eu.get e1
        have hi := (List.getElem?_eq_some_iff.mp e2).1
        have lv : vs.length ≤ 30 := by
          rw [hvs.len]
          refine Nat.le_trans (List.length_filterMap_le _ _) ?_
          rw [List.length_take]
          omega
        have tk : cand1 f (qs.take (i + 1)) = cand1 f (qs.take i) ++ (match f rd.other with | some v => [(rd.cost + v, rd.one)] | none => []) := by
          unfold cand1
          rw [List.take_add_one, e2, List.filterMap_append]
          congr 1
          show List.filterMap _ [rd] = _
          cases e : f rd.other with
          | none => rw [List.filterMap_cons_none (by rw [e]; rfl)]; rfl
          | some v => rw [List.filterMap_cons_some (b := (rd.cost + v, rd.one)) (by rw [e]; rfl)]; rfl
        refine ⟨rfl, ?_⟩
        have e3' := sG _ _ e3
        have ed' := sG _ _ ed1
        refine ⟨.ref t, rfl, t, _, 1, .int rd.other, rfl, rfl, SqT.of e3', rfl, .ref d, rfl, d, _, rfl, DGet.k (k := Sum.inl rd.other) ed', _, rfl, ?_⟩
        rw [hf]
        cases e : f rd.other with
        | none =>
          rw [e] at tk
          refine iteF ⟨sG, vs, eD, ?_⟩
          rw [tk, List.append_nil]
          exact hvs
        | some v =>
          rw [e] at tk
          refine iteT ?_
          have dg : DGet G d (.int rd.other) (some (.int v)) := by
            have := DGet.k (k := Sum.inl rd.other) ed'
            rw [hf, e] at this
            exact this
          refine ⟨.ref t, rfl, t, _, 2, .int rd.cost, rfl, rfl, SqT.of e3', rfl, .ref d, rfl, .ref t, rfl, t, _, 1, .int rd.other, rfl, rfl, SqT.of e3', rfl, d, _, rfl, dg, _, _, rfl, rfl, .ref t, rfl, t, _, 0, .int rd.one, rfl, rfl, SqT.of e3', rfl, by show 2 ≤ sizeLine; decide, fun t' nt' => ?_⟩
          have sT := same_new (H := G) (o := .tup [.int (rd.cost + v), .int rd.one]) nt'
          have Dt : D ≠ t' := ne_of_none eD nt'
          refine ⟨_, sT _ _ eD, ?_, Same.upd_lst (sG.trans sT) nD, vs ++ [t'], ?_, ?_⟩
          · rw [List.length_map]
            exact small1000 (by omega)
          · rw [upd_same, List.map_append]
            rfl
          · rw [tk]
            refine PairsAt.snoc ((hvs.same fun b xs h => sT _ _ h).same fun b xs h => ?_) ?_
            · rw [upd_ne (ne_of h (sT _ _ eD) (fun q => nomatch q))]
              exact h
            · rw [upd_ne Dt.symm]
              exact upd_same
      · obtain ⟨sG, vs, eD, hvs⟩ := h
        rw [List.length_map, eu.len, List.take_length] at hvs
        have ed2 := sG _ _ ed1
        have l1 : (cand1 f qs).length ≤ 30 := Nat.le_trans (List.length_filterMap_le _ _) lq
        -- those from places that are not
        refine ⟨.ref D, rfl, D, rfl, ⟨_, SqL.of eD⟩, fun D2 nD2 => ?_⟩
        refine lc_list (xs := vs.map V.ref) (fun i G2 => Same G G2 ∧ ∃ ws, G2 D2 = some (.lst (ws.map V.ref)) ∧ PairsAt G2 ws (cand2 f ((cand1 f qs).take i))) ⟨same_new nD2, [], upd_same, .nil⟩ (fun i G2 _ h => SqL.of (h.1 _ _ eD)) (fun i v G2 hv h => ?_) (fun G2 h => ?_)
        · obtain ⟨sG2, ws, eD2, hws⟩ := h
          rw [List.getElem?_map] at hv
          obtain ⟨t, e1, rfl⟩ := Option.map_eq_some_iff.mp hv
          obtain ⟨pr, e2, e3⟩ := hvs.get e1
          have lv : ws.length ≤ 30 := by
            rw [hws.len]
            refine Nat.le_trans (List.length_filter_le _ _) ?_
            rw [List.length_take]
            omega
          have tk : cand2 f ((cand1 f qs).take (i + 1)) = cand2 f ((cand1 f qs).take i) ++ (if (f pr.2).isNone = true then [pr] else []) := by
            unfold cand2
            rw [List.take_add_one, e2, List.filter_append]
            congr 1
            show List.filter _ [pr] = _
            rw [List.filter_cons]
            rfl
          have e3' := sG2 _ _ e3
          have ed' := sG2 _ _ ed2
          refine ⟨t, _, rfl, SqT.of e3', rfl, .int pr.1, _, rfl, .int pr.2, _, rfl, rfl, rfl, ?_⟩
          refine ⟨.int pr.2, rfl, .ref d, rfl, d, _, rfl, DGet.k (k := Sum.inl pr.2) ed', _, rfl, ?_⟩
          rw [hf]
          cases e : f pr.2 with
          | some v =>
            rw [e] at tk
            refine iteF ⟨sG2, ws, eD2, ?_⟩
            rw [tk, if_neg (show ¬ (some v).isNone = true from Bool.false_ne_true), List.append_nil]
            exact hws
          | none =>
            rw [e] at tk
            refine iteT ⟨.int pr.1, rfl, .int pr.2, rfl, by show 2 ≤ sizeLine; decide, fun t' nt' => ?_⟩
            have sT := same_new (H := G2) (o := .tup [.int pr.1, .int pr.2]) nt'
            have Dt : D2 ≠ t' := ne_of_none eD2 nt'
            refine ⟨_, sT _ _ eD2, ?_, Same.upd_lst (sG2.trans sT) nD2, ws ++ [t'], ?_, ?_⟩
            · rw [List.length_map]
              exact small1000 (by omega)
            · rw [upd_same, List.map_append]
              rfl
            · rw [tk, if_pos (show (none : Option Int).isNone = true from rfl)]
              refine PairsAt.snoc ((hws.same fun b xs h => sT _ _ h).same fun b xs h => ?_) ?_
              · rw [upd_ne (ne_of h (sT _ _ eD2) (fun q => nomatch q))]
                exact h
              · rw [upd_ne Dt.symm]
                exact upd_same
        · obtain ⟨sG2, ws, eD2, hws⟩ := h
          rw [List.length_map, hvs.len, List.take_length] at hws
          have sA : Same H G2 := sm.trans (s1.trans (sG.trans sG2))
          have edA := sG2 _ _ ed2
          refine ⟨.ref D2, rfl, Nat.zero_le _, fun l0 nl0 => ?_⟩
          have z0 := same_new (H := G2) (o := .lst []) nl0
          refine ⟨.list ((cand2 f (cand1 f qs)).map dPair), .list [], .lst (SqL.of (z0 _ _ eD2)) (pairs_dp (hws.same fun b xs h => z0 _ _ h)), .lst (SqL.of upd_same) .nil, pairs_shaped _, by decide +kernel, _, rfl, ?_⟩
          have sB := sA.trans z0
          have edB := z0 _ _ edA
          have eD2B := z0 _ _ eD2
          have hwsB : PairsAt (upd G2 l0 (.lst [])) ws (cand2 f (cand1 f qs)) := hws.same fun b xs h => z0 _ _ h
          generalize upd G2 l0 (.lst []) = G3 at sB edB eD2B hwsB ⊢
          cases hc : cand2 f (cand1 f qs) with
          | nil =>
            have : PyData.eqv (.list (([] : List (Int × Int)).map dPair)) (.list []) = true := SeqAt.eqv_refl _ rfl
            rw [this]
            refine iteT ?_
            have hNB : NetAt G3 x r ts p rs := hN.keep fun b xs h => sB _ _ h
            refine ⟨.ref x, rfl, x, _, 0, _, rfl, rfl, SqT.of hNB.1, rfl, p, rfl, by omega, by omega, fun D3 nD3 => ?_⟩
            have dist : Dist p qs g f := N.done (hqs ▸ F) fun q u h1 h2 h3 => by
              have := (cand_mem (f := f) (qs := qs) (p := (q.cost + u, q.one))).mpr ⟨q, u, h1, h2, h3, rfl⟩
              rw [hc] at this
              cases this
            refine lc_range (lo := 0) (n := p.toNat) (fun i G4 => Same G3 G4 ∧ G4 D3 = some (.lst ((List.range i).map fun (a : Nat) => vOpt (f (a : Int))))) ⟨same_new nD3, upd_same⟩ (fun i G4 hi h => ?_) (fun G4 h => ?_)
            · obtain ⟨s4, eD3⟩ := h
              refine ⟨rfl, ?_⟩
              unfold tYes
              dsimp only
              rw [if_pos rfl]
              have edC := s4 _ _ edB
              refine ⟨.ref d, rfl, d, rfl, .inl ⟨_, .inl edC⟩, .int (0 + (i : Int)), rfl, _, DGet.k (k := Sum.inl (0 + (i : Int))) edC, _, eD3, ?_, Same.upd_lst s4 nD3, ?_⟩
              · rw [List.length_map, List.length_range]
                exact small1000 (by omega)
              · rw [upd_same, List.range_succ, List.map_append, hf, Int.zero_add]
                show _ = some (HO.lst (_ ++ [vOpt (f (i : Int))]))
                cases f (i : Int) <;> rfl
            · obtain ⟨s4, eD3⟩ := h
              refine ⟨D3, _, rfl, .inl ⟨SqL.of eD3, fun t nt => ?_⟩⟩
              refine q _ t ((sB.trans s4).trans (same_new nt)) ((sB.trans s4).free nt) ?_
              rw [upd_same, opt_range (great_len p rs g ms) fun a ha => (great_dist ok ms hg).eq (hqs ▸ dist) ha]
          | cons c0 cr =>
            have : PyData.eqv (.list ((c0 :: cr).map dPair)) (.list []) = false := rfl
            rw [this]
            refine iteF ?_
            rw [hc] at hwsB
            refine ⟨.ref D2, rfl, D2, ws, _, rfl, SqL.of eD2B, hwsB, List.cons_ne_nil _ _, fun t1 c1 et1 hm1 hl1 => ?_⟩
            refine ⟨t1, _, 0, _, rfl, rfl, SqT.of et1, rfl, .ref d, rfl, ?_⟩
            refine ⟨.ref D2, rfl, D2, ws, _, rfl, SqL.of eD2B, hwsB, List.cons_ne_nil _ _, fun t2 c2 et2 hm2 hl2 => ?_⟩
            refine ⟨t2, _, 1, _, rfl, rfl, SqT.of et2, rfl, d, _, rfl, DPut.k (k := Sum.inl c2.2) edB ?_, ?_⟩
            · exact small1000 (by omega)
            have ec : c1 = c2 := (hl1 _ hm2).eq (hl2 _ hm1)
            subst ec
            rw [← hc] at hm1
            obtain ⟨qr, u, h1, h2, h3, h4⟩ := cand_mem.mp hm1
            have e1 : qr.cost + u = c1.1 := by rw [h4]
            have e2 : qr.one = c1.2 := by rw [h4]
            have hin : In p c1.2 := e2 ▸ (hqs ▸ F).o qr h1
            have hno : f c1.2 = none := e2 ▸ h2
            have lf := left_next (d := c1.1) hin hno
            refine ⟨by omega, _, _, fun a => if a = c1.2 then some c1.1 else f a, rfl, fun c o e => ?_, upd_same, fun a => ?_, ?_, ?_, by omega⟩
            · rw [upd_ne (ne_of_none e nd)]
              exact sB _ _ e
            · rw [valV_put]
              show _ = (if a = c1.2 then some c1.1 else f a).map V.int
              by_cases e : a = c1.2
              · rw [if_pos (by rw [e]), if_pos e]
                rfl
              · rw [if_neg (fun z => e (Sum.inl.inj z)), if_neg e, hf]
            · refine N.next (hqs ▸ F) h1 h2 h3 e2 e1 fun q' u' k1 k2 k3 => ?_
              have := (cand_mem (f := f) (qs := qs) (p := (q'.cost + u', q'.one))).mpr ⟨q', u', k1, k2, k3, rfl⟩
              rw [hc] at this
              have := hl1 _ this
              unfold LeT at this
              dsimp only at this
              omega
            · have : (putK kvs (Sum.inl c1.2) (V.int c1.1)).length = kvs.length + 1 := by
                unfold putK
                rw [if_neg, List.length_append]
                · rfl
                · rw [valV_any, hf, hno]
                  decide
              rw [this]
              omega
end
end Wy

namespace Wy
open PySem PySem.Spec PyProof.Rows L2
/-! ### a call by keywords alone -/
theorem pe_callK0 {X : Cx} {CX : CXT} {k : Nat} {f : Addr} {fd : FuncData} {ps ks : List Str} {sp : Sp} {E : XK} {x : Str} {u1 u2 : Pos} {kws : List Keyword} {tk : TA} {g : List Value → List Value → List Value} {gV : List V → List V → List V}
    (F : FnOk X.prog X.w X.K X.mg X.base CX k f fd ps sp) (hr : Room k X.A) (hg : Gl X x) (hm : X.mg x = some (.ref f)) (hk : PySem.W.keepIn X.K (.ref f) = true) (hb : KBinds X.K fd ps ks g gV) (hx : Passes CX X E) (hkw : PK X kws tk)
    (hall : (backToKw u2 (keywordEach kws X.env)).all (·.1.isSome) = true := by rfl) (hks : (backToKw u2 (keywordEach kws X.env)).filterMap (·.1) = ks := by rfl) (hdb : (x == ("__debug__" : Str)) = false := by decide)
    (hpl : ((backTo u2 (starEach [] X.env)).any (·.1) || (backToKw u2 (keywordEach kws X.env)).any (·.1.isNone)) = false := by rfl) : PE X (.Call (.Name x u1) [] kws u2) (fun σ H Q => tk σ H fun zs G => sp (gV [] zs) G Q E) := by
  refine ⟨fun pins s σ H Q I h => wpAny_Call_Name_kw (ld_glob I hg hm ?_ hdb)⟩
  refine PySem.W.callWith_KW0 (h₀ := X.base) I.ok.mod.kin hk hall (thn (hkw.run u2 pins s σ H _ I h) fun ws t1 ⟨zs, G, J, rz, q⟩ => ⟨J.kIn, ?_⟩) hpl
  rw [hks]
  exact run_fnk (us := []) (vs := []) F hr hb hx J .nil rz q

def gP2 (us ws : List Value) : List Value := match us, ws with
  | [n, g], [s] => [n, g, s]
  | _, _ => []
def gP2V (us ws : List V) : List V := match us, ws with
  | [n, g], [s] => [n, g, s]
  | _, _ => []

def gR3 (us ws : List Value) : List Value := match us, ws with
  | [], [s, g, n] => [n, g, s]
  | _, _ => []
def gR3V (us ws : List V) : List V := match us, ws with
  | [], [s, g, n] => [n, g, s]
  | _, _ => []
theorem rise_of : ∀ {ms : List Int}, ms.Pairwise (· < ·) → riseB ms = true
  | [], _ => rfl
  | [_], _ => rfl
  | a :: b :: r, h => by
    have h1 : a < b := (List.pairwise_cons.mp h).1 b (List.mem_cons_self ..)
    have h2 := rise_of (List.pairwise_cons.mp h).2
    unfold riseB at h2 ⊢
    show (decide (a < b) && _) = true
    rw [decide_eq_true h1, Bool.true_and]
    exact h2
section
variable {P : Program} {w : World} {K : PySem.W.Frag} {mg : Str → Option Value} {base : Heap}
theorem kw_prices {f : Addr} {fd : FuncData} (F : Fun K "prices_of" "prices_of" sPrices f fd) : KBinds K fd ["net", "goal", "shut"] ["shut"] gP2 gP2V := by
  obtain ⟨oc, od, kV, doc, pm, an, cdv, ct, osl, rfl, lk, hcd⟩ := F.ex
  refine ⟨fun s us ws _ hl => ?_, fun {vs us zs ws} r rz => ?_⟩
  · match us, ws, hl with
    | [n, g], [s], _ => exact .of_eq rfl
  · match r, rz with
    | .cons a (.cons b .nil), .cons c .nil => exact .cons a (.cons b (.cons c .nil))
    | .nil, _ => exact .nil
    | .cons _ .nil, _ => exact .nil
    | .cons _ (.cons _ (.cons _ _)), _ => exact .nil
    | .cons _ (.cons _ .nil), .nil => exact .nil
    | .cons _ (.cons _ .nil), .cons _ (.cons _ _) => exact .nil

theorem kw_prices3 {f : Addr} {fd : FuncData} (F : Fun K "prices_of" "prices_of" sPrices f fd) : KBinds K fd ["net", "goal", "shut"] ["shut", "goal", "net"] gR3 gR3V := by
  obtain ⟨oc, od, kV, doc, pm, an, cdv, ct, osl, rfl, lk, hcd⟩ := F.ex
  refine ⟨fun s us ws _ hl => ?_, fun {vs us zs ws} r rz => ?_⟩
  · match us, ws, hl with
    | [], [s, g, n], _ => exact .of_eq rfl
  · match r, rz with
    | .nil, .cons a (.cons b (.cons c .nil)) => exact .cons c (.cons b (.cons a .nil))
    | .nil, .nil => exact .nil
    | .nil, .cons _ .nil => exact .nil
    | .nil, .cons _ (.cons _ .nil) => exact .nil
    | .nil, .cons _ (.cons _ (.cons _ (.cons _ _))) => exact .nil
    | .cons _ _, _ => exact .nil
theorem df_prices {f T : Addr} {fd : FuncData} (F : FunD K "prices_of" "prices_of" (defArgs sPrices) (defBody sPrices) (defScope sPrices) [] [("shut", .ref T)] f fd) : ∃ ds, Vals [.ref T] ds ∧ Binds K fd ["net", "goal", "shut"] ds :=
  F.binds0 2 (List.cons_ne_nil _ _) rfl fun D doc pm an cdv ct us ks hu hk => match us, ks, hu, hk with
    | [a, b], [c], _, _ => ⟨_, _, _, _, _, _, rfl, rfl, rfl⟩
def spLSh : Sp := fun vs H Q _ => ∃ (z x r : Addr) (ts : List Addr) (p : Int) (rs : List Road) (g : Int), vs = [.ref z, .ref x, .int g] ∧ StOk H z ∧ NetAt H x r ts p rs ∧ NetOk p rs ∧ ∀ H' t ms, Keep z H H' → StOk H' z → H' t = some (.tup (ms.map V.int)) → ShutOk p g ms → Q (.ref t) H'
theorem ok_lsh {f fK : Addr} {fd dK : FuncData} {k : Nat} (mR : mg "range" = none) (mT : mg "tuple" = none) (DK : Df K mg "_law_take" sTake ["_law_state_here", "_law_much"] fK dK) (D : Df K mg "_law_shut" sLSh ["_law_state_here", "_law_web", "_law_aim"] f fd) : FnOk P w K mg base CX0 (k + 2) f fd ["_law_state_here", "_law_web", "_law_aim"] spLSh := by
  have GK : FnOk P w K mg base CX0 (k + 1) fK dK ["_law_state_here", "_law_much"] spTake := ok_take DK
  refine D.F.ok sc_sLSh (fun vs H Q E h => ?_) (fun cdv A outer s H vs Q E hr h => ?_)
  · obtain ⟨_, _, _, _, _, _, _, rfl, _⟩ := h
    rfl
  · obtain ⟨z, x, r, ts, p, rs, g, rfl, st, hN, ok, q⟩ := h
    refine ⟨_, (pss_cons (ps_set (i := 3) sc_sLSh.nd rfl (.inr rfl) (pe_op op_add pe_int (pe_call GK hr (by rfl) DK.g DK.F.kp DK.b .nil pass0 (pa_cons (pv 0) (pa_cons pe_int pa_nil)))))
    (pss_one (ps_ret (pe_callTy call_tuple_of (by rfl) mT (by decide +kernel) (pa_cons (pe_lc (own := [("_law_spot", 4)]) (g := gName 4) rfl sc_sLSh.nd (pi_range1 (by rfl) mR (pa_cons (pe_ix (ix_tupK (K := K) rfl) (pv 1) pe_int (fun _ _ => rfl)) pa_nil)) (blkOk_by (N := ["_law_state_here", "_law_web", "_law_aim", "_law_often", "_law_spot"]) (sc := defScope sLSh) (by decide +kernel)) (fun _ _ _ _ _ => (pg_name (i := 4) sc_sLSh.nd rfl (.inl rfl))) (fun _ _ _ _ _ => pts_one (PW.pt (pw_and (pt_cmpR op_ne (pv 4) (pv 2) (nomark _)) (pw_and1 (pt_cmpR op_eq (pe_call GK hr (by rfl) DK.g DK.F.kp DK.b .nil pass0 (pa_cons (pv 0) (pa_cons (pv 3) pa_nil))) pe_int (nomark _)))))) (fun _ _ _ _ _ => pv 4)) pa_nil))))), ?_⟩
    have p1 := ok.p1
    have p2 := ok.p2
    refine ⟨.ref z, rfl, z, 5, rfl, st, by decide, by decide, fun H1 o k1 st1 o0 o1 => ⟨1, o, rfl, rfl, ?_⟩⟩
    have hN1 := hN.keep (k1.tups st)
    refine ⟨.ref x, rfl, x, _, 0, _, rfl, rfl, SqT.of hN1.1, rfl, p, rfl, by omega, by omega, fun D nD => ?_⟩
    have Dz : D ≠ z := (st1.ne nD).symm
    have s2 := same_new (H := H1) (o := .lst []) nD
    refine lc_range (lo := 0) (n := p.toNat) (fun i G => Keep z H1 G ∧ StOk G z ∧ ∃ ms : List Int, G D = some (.lst (ms.map V.int)) ∧ (∀ m ∈ ms, 0 ≤ m ∧ m < i ∧ m ≠ g) ∧ ms.Pairwise (· < ·) ∧ ms.length ≤ i) ⟨.of s2, st1.same s2, [], upd_same, (fun _ h => nomatch h), .nil, Nat.le_refl _⟩ (fun i G hi h => ?_) (fun G h => ?_)
    · obtain ⟨kG, sG, ms, eD, hms, hp, hl⟩ := h
      refine ⟨rfl, ?_⟩
      refine ⟨.int (0 + (i : Int)), rfl, .int g, rfl, rfl, _, rfl, ite2 (fun hne => ?_) (fun hne => ?_)⟩
      · have hne : (i : Int) ≠ g := fun e => by
          rw [← e, Int.zero_add, decide_eq_true rfl] at hne
          cases hne
        refine ⟨.ref z, rfl, .int (1 + o), rfl, z, _, rfl, sG, by omega, by omega, fun G2 n k2 st2 n0 n1 => ⟨rfl, _, rfl, ?_⟩⟩
        have eD2 := k2 _ _ eD Dz
        have k3 := kG.trans k2
        refine ite2 (fun h1 => ?_) (fun h1 => ?_)
        · refine ⟨.int (0 + (i : Int)), rfl, _, eD2, ?_, fun c u hc hz => ?_, ?_, ms ++ [(i : Int)], ?_, fun m hm => ?_, ?_, ?_⟩
          · rw [List.length_map]
            exact small1000 (by omega)
          · rw [upd_ne (ne_of_none hc nD)]
            exact k3 _ _ hc hz
          · obtain ⟨xx, yy, e1, e2⟩ := st2
            exact ⟨xx, yy, by rw [upd_ne Dz.symm]; exact e1, e2⟩
          · rw [upd_same, List.map_append, Int.zero_add]
            rfl
          · rcases List.mem_append.mp hm with h | h
            · have := hms m h
              omega
            · rw [List.mem_singleton.mp h]
              omega
          · rw [List.pairwise_append]
            refine ⟨hp, List.pairwise_singleton _ _, fun a ha b hb => ?_⟩
            rw [List.mem_singleton.mp hb]
            exact (hms a ha).2.1
          · rw [List.length_append, List.length_singleton]
            omega
        · exact ⟨k3, st2, ms, eD2, fun m hm => by have := hms m hm; omega, hp, by omega⟩
      · exact iteF ⟨kG, sG, ms, eD, fun m hm => by have := hms m hm; omega, hp, by omega⟩
    · obtain ⟨kG, sG, ms, eD, hms, hp, hl⟩ := h
      refine ⟨D, _, rfl, .inl ⟨SqL.of eD, fun t nt => ?_⟩⟩
      have s3 := same_new (H := G) (o := .tup (ms.map V.int)) nt
      exact q _ t ms (k1.trans (kG.trans (.of s3))) (sG.same s3) upd_same ⟨fun m hm => by have := hms m hm; omega, rise_of hp, by omega⟩
end
end Wy

namespace Wy
open PySem PySem.Spec PyProof.Rows L2
/-- the law's call from its body at the caller's own surroundings; the script is tracked -/
theorem end_call0 {P : Program} {w : World} {K : PySem.W.Frag} {mg mb : Str → Option Value} {fa a : Addr} {st : Shared} {vs : List Value} {ns : List Int}
    (inK : K.In st.heap) (gl : st.heap.Ns mainGlobals mg) (bl : st.heap.Ns builtinsNs mb) (blt : ∀ x : Str, x ≠ "__name__" → mb x = bootBuiltins x) (lim : st.heap.NoLimit) (gen : st.gens = #[])
    (ha : st.heap.get? a = some { cls := .type "list", data := .seq vs.toArray }) (hi : IntsAre vs ns) (hl : ns.length ≤ sizeLine)
    (F : ∀ (base : Heap) (H : Hp), SqL K H a (ns.map V.int) → Env0 P w K mg base callerA [] st H →
      codeAny (model P w) callerA (.call (.ref fa) ⟨[.ref a], []⟩) (CR CX0 [] P w H st (fun v _ => v = .bl true) E0) st) :
    codeAny (model P w) callerA (.call (.ref fa) ⟨[.ref a], []⟩) (fun r t => r = .ok (.ret (.bool true)) ∧ OldK st.heap t.heap ∧ t.os = st.os ∧ AllBare t.gens) st := by
  have vals := vals_ints hi
  have nvs := hi.length
  obtain ⟨so, hso⟩ : ∃ so : Obj, so = { cls := .type "list", data := .seq vs.toArray } := ⟨_, rfl⟩
  rw [← hso] at ha
  obtain ⟨H, hH⟩ : ∃ H : Hp, H = fun b => if b = a ∧ K.lookup a = none then some (.frz so (.lst (ns.map V.int))) else none := ⟨_, rfl⟩
  have cases2 : ∀ b u, H b = some u → (b = a ∧ K.lookup a = none ∧ u = .frz so (.lst (ns.map V.int))) := fun b u e => by
    rw [hH] at e
    by_cases h2 : b = a ∧ K.lookup a = none
    · exact ⟨h2.1, h2.2, (Option.some.inj ((if_pos h2).symm.trans e)).symm⟩
    · exact nomatch (if_neg h2).symm.trans e
  have lsOk : ObjOk P w H st.heap a (.lst (ns.map V.int)) := by
    exact ⟨by rw [List.length_map]; exact hl, vs, _, vals, (hso ▸ ha : st.heap.get? a = some { cls := .type "list", data := .seq vs.toArray })⟩
  have hok : HOk P w H st.heap := fun b u e => by
    obtain ⟨rfl, _, rfl⟩ := cases2 b u e
    exact ⟨ha, lsOk⟩
  have apart : ∀ {b : Addr} {o : Obj}, st.heap.get? b = some o → (∀ x n, o.data ≠ .seq x n) → H b = none := fun {b o} e n1 => by
    cases q : H b with
    | none => rfl
    | some u =>
      obtain ⟨rfl, _, _⟩ := cases2 b u q
      rw [ha, hso] at e
      cases e
      exact absurd rfl (n1 _ _)
  have nsB : ∀ {b : Addr} {m : Str → Option Value}, st.heap.Ns b m → (hidT st.heap H).Ns b m := fun {b m} ⟨o, es, ep, e, d, r⟩ =>
    ⟨o, es, ep, hidT_get e (apart e (fun x n z => nomatch d.symm.trans z)), d, r⟩
  have inB : K.In (hidT st.heap H) := fun b o e => hidT_get (inK b o e) (by
    cases q : H b with
    | none => rfl
    | some u =>
      obtain ⟨rfl, n, _⟩ := cases2 b u q
      exact nomatch n.symm.trans e)
  have md : L2.Mod K mg (hidT st.heap H) := ⟨inB, nsB gl, ⟨mb, nsB bl, blt⟩, let ⟨mc, q1, q2⟩ := lim; ⟨mc, nsB q1, q2⟩⟩
  have sq : SqL K H a (ns.map V.int) := by
    cases q : K.lookup a with
    | some o =>
      have e := (inK a o q).symm.trans ha
      rw [hso] at e
      cases e
      exact .inr ⟨_, vs.toArray, _, q, rfl, rfl, rfl, by rw [List.size_toArray, nvs]; exact hl, by simpa using vals⟩
    | none =>
      refine .inl (.inr ⟨so, ?_⟩)
      rw [hH]
      exact if_pos ⟨rfl, q⟩
  have env : Env0 P w K mg (hidT st.heap H) callerA [] st H := ⟨rfl, md, fun b o e => of_hidT e, Nat.le_of_eq (hidT_size _ _), trivial, (fun b z => nomatch (show b ∈ ([] : List Addr) from z)), hok, .of_eq gen⟩
  refine codeAny_mono (F _ H sq env) fun r t h => ?_
  cases r with
  | error e => exact (show False from h).elim
  | ok fl =>
    cases fl with
    | next => exact (show False from h).elim
    | brk => exact (show False from h).elim
    | cont => exact (show False from h).elim
    | ret u =>
      obtain ⟨v, G, os, bare, un, okG, rv, q⟩ := h
      obtain rfl : v = .bl true := q
      obtain rfl : u = Value.bool true := rv
      have stays : ∀ b o, st.heap.get? b = some o → t.heap.get? b = some o := fun b o e => by
        cases q : H b with
        | none => exact un.keep b o e q (fun z => nomatch (show b ∈ ([] : List Addr) from z)) (by simp)
        | some u =>
          obtain ⟨rfl, _, rfl⟩ := cases2 b u q
          obtain ⟨e2, _⟩ := okG b _ (un.frzs b so _ q)
          rw [ha] at e
          cases e
          exact e2
      exact ⟨rfl, ⟨fun b o e => .inl (stays b o e), fun b o e => ⟨o, stays b o e⟩⟩, os, bare⟩
/-- what the law's def does from its place in the written part -/
def Runs0 (P : Program) (w : World) (K : PySem.W.Frag) (mg : Str → Option Value) (fa : Addr) : Prop := ∀ (base : Heap) (H : Hp) (s : Shared) (a : Addr) (ns : List Int), ns.length ≤ 63 → SqL K H a (ns.map V.int) → Env0 P w K mg base callerA [] s H →
  codeAny (model P w) callerA (.call (.ref fa) ⟨[.ref a], []⟩) (CR CX0 [] P w H s (fun v _ => v = .bl true) E0) s
theorem walk_end0 {l : PySem.W.OpenLaw} {q : Program} {loose : List Str} {XP : (Str → Option Value) → Heap → Prop} {YP : World → Heap → Prop} {d : DefRec} {K : Params → PySem.W.Frag}
    (most : l.most = some 63) (dflt : d.params.defaults = []) (inK : ∀ (w : World) (h : Heap), YP w h → (K w.params).In h)
    (F : ∀ (w : World) (mg : Str → Option Value) (fa : Addr) (h : Heap), (K w.params).In h → h.Ns mainGlobals mg → mg d.name = some (.ref fa) → Runs0 l.prog w (K w.params) mg fa) :
    PySem.W.WalkO q loose XP YP l.row.toRowW d [] (fun f vs => PySem.call f vs) := by
  refine Att.attach_call most dflt fun w s0 st mg mb fa o pm cd doc a vs ns G Y ho hd hcd hmg hobj hints hlen hg => ?_
  have KX := inK w _ Y
  have run := F w mg fa _ KX G.T.g hmg
  exact end_call0 KX G.T.g G.T.b G.T.builtins G.T.nolimit hg hobj hints (Nat.le_trans hlen (by decide)) fun base H sq env => run base H st a ns hlen sq env
end Wy

namespace Wy
open PySem PySem.Spec PyProof.Rows L2
abbrev sLaw : Stmt := topS 35
theorem scLaw : FnScope ["_law_script", "_law_k", "_law_state_here", "_law_turn", "_law_web", "_law_aim", "_law_others", "_law_spot", "_law_kept", "_law_closed", "_law_due", "_law_found"] ["_law_script"] (defScope sLaw) := ⟨rfl, rfl, rfl, by decide +kernel, rfl, by decide +kernel, by decide +kernel⟩

theorem sq_stays {K : PySem.W.Frag} {H H1 : Hp} {a z : Addr} {xs : List V} (h : SqL K H a xs) (s : Same H H1) (nz : H z = none) : ∀ G, Keep z H1 G → SqL K G a xs := fun G k => by
  rcases h with (h | ⟨o, h⟩) | h
  · exact .inl (.inl (k _ _ (s _ _ h) (ne_of_none h nz)))
  · exact .inl (.inr ⟨o, k _ _ (s _ _ h) (ne_of_none h nz)⟩)
  · exact .inr h
theorem sq_keep {K : PySem.W.Frag} {H G : Hp} {a z : Addr} {xs : List V} (h : SqL K H a xs) (nz : ∀ o, H z = some (.lst o) → a ≠ z ∨ K.lookup a ≠ none) (k : Keep z H G) : True := trivial
theorem sq_same {K : PySem.W.Frag} {H G : Hp} {a : Addr} {xs : List V} (h : SqL K H a xs) (s : Same H G) : SqL K G a xs := by
  rcases h with (h | ⟨o, h⟩) | h
  · exact .inl (.inl (s _ _ h))
  · exact .inl (.inr ⟨o, s _ _ h⟩)
  · exact .inr h
def dOpt : Option Int → PyData
  | none => .none
  | some v => .int v
def dPr (ps : List (Option Int)) : PyData := .tuple (ps.map dOpt)
theorem opts_dp {K : PySem.W.Frag} {H : Hp} : ∀ ps : List (Option Int), DpAll K H (ps.map vOpt) (ps.map dOpt)
  | [] => .nil
  | none :: r => .cons .non (opts_dp r)
  | some v :: r => .cons (.int v) (opts_dp r)
theorem pr_dp {K : PySem.W.Frag} {H : Hp} {t : Addr} {ps : List (Option Int)} (e : H t = some (.tup (ps.map vOpt))) : Dp K H (.ref t) (dPr ps) := .tup (SqT.of e) (opts_dp ps)
theorem net_dp {K : PySem.W.Frag} {H : Hp} {x r : Addr} {ts : List Addr} {p : Int} {rs : List Road} (h : NetAt H x r ts p rs) : Dp K H (.ref x) (dNet p rs) := .tup (SqT.of h.1) (.cons (.int _) (.cons (.tup (SqT.of h.2.1) (roads_dp h.2.2)) .nil))
theorem Wk.le {fr : List Road} (hc : ∀ q ∈ fr, q.cost ≤ 99) {g a v : Int} {n : Nat} {A : Int → Prop} (h : Wk fr g A a v n) : v ≤ 99 * n := by
  induction h with
  | nil _ => exact Int.le_refl _
  | cons hq _ _ ih =>
    have := hc _ hq
    omega
theorem price_le {p g : Int} {rs : List Road} (ok : NetOk p rs) (ms : List Int) (hg : In p g) {a v : Int} (ha : In p a) (h : at' (greatest p rs g ms) a = some v) : 0 ≤ v ∧ v ≤ 990 := by
  have D := great_dist ok ms hg
  have F := fr_of ok ms
  obtain ⟨n, w⟩ := D.sound a v ha h
  obtain ⟨L, h1, h2⟩ := in_list p
  obtain ⟨v', n', h3, h4, h5⟩ := short F _ L h1 (In p) h2 w
  obtain ⟨u, e1, e2⟩ := D.least a v' n' h5
  rw [h] at e1
  cases e1
  have h6 := h5.le fun q hq => (ok.all q (List.mem_filter.mp hq).1).c2
  have p2 := ok.p2
  exact ⟨w.nonneg F, by omega⟩
theorem price_show {p g : Int} {rs : List Road} (ok : NetOk p rs) (ms : List Int) (hg : In p g) : Sh (dPr (greatest p rs g ms)) 424 1 := by
  refine Sh.tuple (n := 40) (m := 0) (k := 10) (fun d hd => ?_) ?_
  · obtain ⟨o, ho, rfl⟩ := List.mem_map.mp hd
    cases o with
    | none => exact Sh.none
    | some v =>
      obtain ⟨i, hi⟩ := List.mem_iff_getElem?.mp ho
      have hlt := (List.getElem?_eq_some_iff.mp hi).1
      rw [great_len] at hlt
      have := price_le ok ms hg (a := (i : Int)) (v := v) ⟨by omega, by omega⟩ (by unfold at' List.getD; rw [Int.toNat_natCast, hi]; rfl)
      exact Sh.int (Nat.lt_of_le_of_lt (show v.natAbs ≤ 990 by omega) (by decide +kernel))
  · rw [List.length_map, great_len]
    have := ok.p2
    omega
theorem two_show {d : PyData} (h : Sh d 424 1) : Sh (.list [d, d]) 30000 50 := by
  refine (Sh.list (n := 424) (m := 1) (k := 2) (fun x hx => ?_) (Nat.le_refl _)).mono (by decide) (by decide)
  simp only [List.mem_cons, List.not_mem_nil, or_false] at hx
  rcases hx with rfl | rfl <;> exact h
section
variable {P : Program} {w : World} {K : PySem.W.Frag} {mg : Str → Option Value} {base : Heap}
set_option maxHeartbeats 4000000 in
theorem law_reads {fL fPr fLp fSh fSt fTk fNe a Tk : Addr} {dPrF dLp dSh dSt dTk dNe : FuncData} {ds : List Value} {cdv : Value} {s : Shared} {H : Hp} {ns : List Int}
    (GPr : FnOk P w K mg base CX0 6 fPr dPrF ["net", "goal", "shut"] (spPr K)) (gPr : mg "prices_of" = some (.ref fPr)) (kPr : PySem.W.keepIn K (.ref fPr) = true) (kb2 : KBinds K dPrF ["net", "goal", "shut"] ["shut"] gP2 gP2V) (kb3 : KBinds K dPrF ["net", "goal", "shut"] ["shut", "goal", "net"] gR3 gR3V) (bD : Binds K dPrF ["net", "goal", "shut"] ds) (vD : Vals [.ref Tk] ds) (hTk : ∀ H : Hp, SqT K H Tk [])
    (DLp : Df K mg "_law_prices" sLPr ["_law_web", "_law_aim", "_law_closed"] fLp dLp) (GLp : FnOk P w K mg base CX0 6 fLp dLp ["_law_web", "_law_aim", "_law_closed"] (spLPr K))
    (DSh : Df K mg "_law_shut" sLSh ["_law_state_here", "_law_web", "_law_aim"] fSh dSh) (GSh : FnOk P w K mg base CX0 6 fSh dSh ["_law_state_here", "_law_web", "_law_aim"] spLSh)
    (DSt : Df K mg "_law_state" sState ["_law_script", "_law_k"] fSt dSt) (GSt : FnOk P w K mg base CX0 6 fSt dSt ["_law_script", "_law_k"] (spState K)) (DK : Df K mg "_law_take" sTake ["_law_state_here", "_law_much"] fTk dTk) (GK : FnOk P w K mg base CX0 6 fTk dTk ["_law_state_here", "_law_much"] spTake)
    (DNe : Df K mg "_law_net" sNet ["_law_state_here", "_law_most", "_law_roads"] fNe dNe) (GNe : FnOk P w K mg base CX0 6 fNe dNe ["_law_state_here", "_law_most", "_law_roads"] spNet)
    (mR : mg "range" = none) (mMx : mg "max" = none) (mMn : mg "min" = none) (ml : mg "len" = none) (mT : mg "tuple" = none) (mRe : mg "repr" = none)
    (hr : Room 6 (callerA.deeper (envOfC "law" (defScope sLaw) s.heap.objs.size fL cdv))) (hS : SqL K H a (ns.map V.int)) :
    ∃ t, PSs (cxOf CX0 P w K mg base ["_law_script", "_law_k", "_law_state_here", "_law_turn", "_law_web", "_law_aim", "_law_others", "_law_spot", "_law_kept", "_law_closed", "_law_due", "_law_found"] "law" (defScope sLaw) fL cdv callerA [] s H E0).nox (defBody sLaw) t ∧ t { nx := fun _ _ => V.non = .bl true, rt := fun v _ => v = .bl true } (L2.start ["_law_script", "_law_k", "_law_state_here", "_law_turn", "_law_web", "_law_aim", "_law_others", "_law_spot", "_law_kept", "_law_closed", "_law_due", "_law_found"] [.ref a]) H := by
  refine ⟨_, (pss_cons (ps_for PassesOwn.never rfl (pi_range1 (by rfl) mR (pa_cons (pe_callB (call_max2 rfl) (by rfl) mMx (by decide +kernel) (pa_cons pe_int (pa_cons (pe_callB (call_min2 rfl) (by rfl) mMn (by decide +kernel) (pa_cons (pe_callB call_len_seq (by rfl) ml PySem.boot_len (pa_cons (pv 0) pa_nil)) (pa_cons pe_int pa_nil))) pa_nil))) pa_nil)) (pg_name (i := 1) scLaw.nd rfl (.inl rfl)) (pss_cons (ps_set (i := 2) scLaw.nd rfl (.inl rfl) (pe_call GSt (hr.mono (by decide)) (by rfl) DSt.g DSt.F.kp DSt.b .nil pass0 (pa_cons (pv 0) (pa_cons (pv 1) pa_nil))))
    (pss_one (ps_for PassesOwn.never rfl (pi_range1 (by rfl) mR (pa_cons pe_int pa_nil)) (pg_name (i := 3) scLaw.nd rfl (.inl rfl)) (pss_cons (ps_set (i := 4) scLaw.nd rfl (.inl rfl) (pe_call GNe (hr.mono (by decide)) (by rfl) DNe.g DNe.F.kp DNe.b .nil pass0 (pa_cons (pv 2) (pa_cons pe_int (pa_cons pe_int pa_nil)))))
    (pss_cons (ps_set (i := 5) scLaw.nd rfl (.inr rfl) (pe_call GK (hr.mono (by decide)) (by rfl) DK.g DK.F.kp DK.b .nil pass0 (pa_cons (pv 2) (pa_cons (pe_ix (ix_tupK (K := K) rfl) (pv 4) pe_int (fun _ _ => rfl)) pa_nil))))
    (pss_cons (ps_set (i := 6) scLaw.nd rfl (.inl rfl) (pe_callTy call_tuple_of (by rfl) mT (by decide +kernel) (pa_cons (pe_lc (own := [("_law_spot", 7)]) (g := gName 7) rfl scLaw.nd (pi_range1 (by rfl) mR (pa_cons (pe_ix (ix_tupK (K := K) rfl) (pv 4) pe_int (fun _ _ => rfl)) pa_nil)) (blkOk_by (N := ["_law_script", "_law_k", "_law_state_here", "_law_turn", "_law_web", "_law_aim", "_law_others", "_law_spot", "_law_kept", "_law_closed", "_law_due", "_law_found"]) (sc := defScope sLaw) (by decide +kernel)) (fun _ _ _ _ _ => pg_name (i := 7) scLaw.nd rfl (.inl rfl)) (fun _ _ _ _ _ => pts_one (pt_cmpR op_ne (pv 7) (pv 5) (nomark _))) (fun _ _ _ _ _ => pv 7)) pa_nil)))
    (pss_cons (ps_set (i := 8) scLaw.nd rfl (.inl rfl) (pe_callB (call_reprD (by rfl) hr.units) (by rfl) mRe (by decide +kernel) (pa_cons (pv 4) pa_nil)))
    (pss_cons (ps_for PassesOwn.never rfl (pi_list (pe_lst (pa_cons (pe_tup pa_nil) (pa_cons (pe_call GSh (hr.mono (by decide)) (by rfl) DSh.g DSh.F.kp DSh.b .nil pass0 (pa_cons (pv 2) (pa_cons (pv 4) (pa_cons (pv 5) pa_nil)))) (pa_cons (pv 6) pa_nil))))) (pg_name (i := 9) scLaw.nd rfl (.inl rfl)) (pss_cons (ps_set (i := 10) scLaw.nd rfl (.inl rfl) (pe_call GLp (hr.mono (by decide)) (by rfl) DLp.g DLp.F.kp DLp.b .nil pass0 (pa_cons (pv 4) (pa_cons (pv 5) (pa_cons (pv 9) pa_nil)))))
    (pss_cons (ps_set (i := 11) scLaw.nd rfl (.inl rfl) (pe_lst (pa_cons (pe_callK GPr (hr.mono (by decide)) (by rfl) gPr kPr kb2 pass0 (pa_cons (pv 4) (pa_cons (pv 5) pa_nil)) (pk_cons (pv 9) pk_nil)) (pa_cons (pe_callK0 GPr (hr.mono (by decide)) (by rfl) gPr kPr kb3 pass0 (pk_cons (pv 9) (pk_cons (pv 5) (pk_cons (pv 4) pk_nil)))) pa_nil))))
    (pss_one (ps_if (pt_cmpR op_ne (pe_callB (call_reprD (by rfl) hr.units) (by rfl) mRe (by decide +kernel) (pa_cons (pv 11) pa_nil)) (pe_callB (call_reprD (by rfl) hr.units) (by rfl) mRe (by decide +kernel) (pa_cons (pe_lst (pa_cons (pv 10) (pa_cons (pv 10) pa_nil))) pa_nil)) (nomark _)) (pss_one (ps_ret pe_bl)) pss_nil)))))
    (pss_cons (ps_if (pt_cmpR op_ne (pe_callB (call_reprD (by rfl) hr.units) (by rfl) mRe (by decide +kernel) (pa_cons (pe_lst (pa_cons (pe_call GPr (hr.mono (by decide)) (by rfl) gPr kPr bD vD pass0 (pa_cons (pv 4) (pa_cons (pv 5) pa_nil))) (pa_cons (pe_call GPr (hr.mono (by decide)) (by rfl) gPr kPr bD vD pass0 (pa_cons (pv 4) (pa_cons (pv 5) pa_nil))) pa_nil))) pa_nil)) (pe_callB (call_reprD (by rfl) hr.units) (by rfl) mRe (by decide +kernel) (pa_cons (pe_op op_rep (pe_lst (pa_cons (pe_call GLp (hr.mono (by decide)) (by rfl) DLp.g DLp.F.kp DLp.b .nil pass0 (pa_cons (pv 4) (pa_cons (pv 5) (pa_cons (pe_tup pa_nil) pa_nil)))) pa_nil)) pe_int) pa_nil)) (nomark _)) (pss_one (ps_ret pe_bl)) pss_nil)
    (pss_one (ps_if (pt_cmpR op_ne (pe_callB (call_reprD (by rfl) hr.units) (by rfl) mRe (by decide +kernel) (pa_cons (pv 4) pa_nil)) (pv 8) (nomark _)) (pss_one (ps_ret pe_bl)) pss_nil))))))))))))
    (pss_one (ps_ret pe_bl))), ?_⟩
  have len0 : (0 : Int) ≤ ((ns.map V.int).length : Int) := Int.natCast_nonneg _
  refine ⟨.ref a, rfl, a, _, rfl, .inl hS, _, 4, rfl, 1, _, rfl, _, rfl, by split <;> split <;> omega, by split <;> split <;> omega, ?_⟩
  refine for_range (lo := 0) (fun _ σ H' => ∃ y1 y2 y3 y4 y5 y6 y8 y9 y10 y11 : Option V, σ = [some (.ref a), y1, y2, y3, y4, y5, y6, none, y8, y9, y10, y11] ∧ SqL K H' a (ns.map V.int)) ⟨none, none, none, none, none, none, none, none, none, none, rfl, hS⟩ (fun i σ H' hi h => ?_) (fun σ H' h => rfl)
  obtain ⟨y1, y2, y3, y4, y5, y6, y8, y9, y10, y11, rfl, hSq⟩ := h
  refine ⟨.ref a, rfl, .int (0 + (i : Int)), rfl, a, ns, i, (by show [V.ref a, V.int (0 + (i : Int))] = _; rw [Int.zero_add]), hSq, fun Hz z sz nz stz => ?_⟩
  have az : ∀ G, Keep z Hz G → SqL K G a (ns.map V.int) := sq_stays hSq sz nz
  refine ⟨4, rfl, by decide, by decide, ?_⟩
  refine for_range (lo := 0) (n := 4) (fun _ σ H' => ∃ y3 y4 y5 y6 y8 y9 y10 y11 : Option V, σ = [some (.ref a), some (.int (0 + (i : Int))), some (.ref z), y3, y4, y5, y6, none, y8, y9, y10, y11] ∧ Keep z Hz H' ∧ StOk H' z) ⟨_, _, _, _, _, _, _, _, rfl, Keep.refl _ _, stz⟩ (fun j σ H' hj h => ?_) (fun σ H' h => ?_)
  · obtain ⟨y3, y4, y5, y6, y8, y9, y10, y11, rfl, kz, st⟩ := h
    refine ⟨.ref z, rfl, z, 10, 30, rfl, st, by decide, by decide, by decide, by decide, fun Hn x r ts p rs kn stn hN ok => ?_⟩
    have p1 := ok.p1
    have p2 := ok.p2
    refine ⟨.ref z, rfl, .ref x, rfl, x, _, 0, _, rfl, rfl, SqT.of hN.1, rfl, z, p, rfl, stn, by omega, by omega, fun Hg g kg stg g0 g1 => ?_⟩
    have hNg := hN.keep (kg.tups stn)
    have hg : In p g := ⟨g0, g1⟩
    -- the others
    refine ⟨.ref x, rfl, x, _, 0, _, rfl, rfl, SqT.of hNg.1, rfl, p, rfl, by omega, by omega, fun D nD => ?_⟩
    refine lc_range (lo := 0) (n := p.toNat) (fun i G => Same Hg G ∧ ∃ ms : List Int, G D = some (.lst (ms.map V.int)) ∧ (∀ m ∈ ms, 0 ≤ m ∧ m < i ∧ m ≠ g) ∧ ms.Pairwise (· < ·) ∧ ms.length ≤ i) ⟨same_new nD, [], upd_same, (fun _ h => nomatch h), .nil, Nat.le_refl _⟩ (fun e G he h => ?_) (fun G h => ?_)
    · obtain ⟨sG, ms, eD, hms, hp, hl⟩ := h
      refine ⟨rfl, .int (0 + (e : Int)), rfl, .int g, rfl, rfl, _, rfl, ite2 (fun hne => ?_) (fun hne => ?_)⟩
      · have hne : (e : Int) ≠ g := fun k => by
          rw [← k, Int.zero_add, decide_eq_true rfl] at hne
          cases hne
        refine ⟨.int (0 + (e : Int)), rfl, _, eD, ?_, Same.upd_lst sG nD, ms ++ [(e : Int)], ?_, fun m hm => ?_, ?_, ?_⟩
        · rw [List.length_map]
          exact small1000 (by omega)
        · rw [upd_same, List.map_append, Int.zero_add]
          rfl
        · rcases List.mem_append.mp hm with h | h
          · have := hms m h
            omega
          · rw [List.mem_singleton.mp h]
            omega
        · rw [List.pairwise_append]
          refine ⟨hp, List.pairwise_singleton _ _, fun a ha b hb => ?_⟩
          rw [List.mem_singleton.mp hb]
          exact (hms a ha).2.1
        · rw [List.length_append, List.length_singleton]
          omega
      · exact ⟨sG, ms, eD, fun m hm => by have := hms m hm; omega, hp, by omega⟩
    obtain ⟨sG, mo, eD, hms, hp, hl⟩ := h
    refine ⟨D, _, rfl, .inl ⟨SqL.of eD, fun tO ntO => ?_⟩⟩
    have shO : ShutOk p g mo := ⟨fun m hm => by have := hms m hm; omega, rise_of hp, by omega⟩
    have sO := sG.trans (same_new (H := G) (o := .tup (mo.map V.int)) ntO)
    have etO : (upd G tO (.tup (mo.map V.int))) tO = some (.tup (mo.map V.int)) := upd_same
    generalize upd G tO (.tup (mo.map V.int)) = H4 at sO etO ⊢
    have hN4 : NetAt H4 x r ts p rs := hNg.keep fun b xs h => sO _ _ h
    have st4 := stg.same sO
    have k4 : Keep z Hz H4 := kz.trans (kn.trans (kg.trans (.of sO)))
    refine ⟨.ref x, rfl, _, _, rfl, .dp (net_dp hN4), (Sh.net ok).mono (by decide) (by decide), ?_⟩
    -- none, some, all shut
    refine ⟨Nat.zero_le _, fun t0 nt0 => ?_⟩
    have s5 := same_new (H := H4) (o := .tup []) nt0
    refine ⟨.ref z, rfl, .ref x, rfl, .int g, rfl, z, x, r, ts, p, rs, g, rfl, st4.same s5, hN4.keep (fun b xs h => s5 _ _ h), ok, fun H6 tS mS k6 st6 etS shS => ?_⟩
    have t0z : t0 ≠ z := ((st4.ne nt0)).symm
    have et0 : H6 t0 = some (.tup (([] : List Int).map V.int)) := k6 _ _ upd_same t0z
    have etO6 : H6 tO = some (.tup (mo.map V.int)) := k6.tups (st4.same s5) _ _ (s5 _ _ etO)
    have hN6 : NetAt H6 x r ts p rs := (hN4.keep (fun b xs h => s5 _ _ h)).keep (k6.tups (st4.same s5))
    refine ⟨.ref tO, rfl, by show 3 ≤ sizeLine; decide, fun L nL => ⟨L, rfl, ⟨_, SqL.of upd_same⟩, ?_⟩⟩
    have s7 := same_new (H := H6) (o := .lst [.ref t0, .ref tS, .ref tO]) nL
    have k7 : Keep z Hz (upd H6 L (.lst [.ref t0, .ref tS, .ref tO])) := k4.trans ((Keep.of s5).trans (k6.trans (.of s7)))
    have st7 := st6.same s7
    have hN7 : NetAt (upd H6 L (.lst [.ref t0, .ref tS, .ref tO])) x r ts p rs := hN6.keep fun b xs h => s7 _ _ h
    have eL : (upd H6 L (.lst [.ref t0, .ref tS, .ref tO])) L = some (.lst [.ref t0, .ref tS, .ref tO]) := upd_same
    have each : ∀ v ∈ [V.ref t0, .ref tS, .ref tO], ∃ (b : Addr) (ms : List Int), v = .ref b ∧ (upd H6 L (.lst [.ref t0, .ref tS, .ref tO])) b = some (.tup (ms.map V.int)) ∧ ShutOk p g ms := fun v hv => by
      simp only [List.mem_cons, List.not_mem_nil, or_false] at hv
      rcases hv with rfl | rfl | rfl
      · exact ⟨t0, [], rfl, s7 _ _ et0, ⟨fun _ h => (nomatch h), rfl, by decide⟩⟩
      · exact ⟨tS, mS, rfl, s7 _ _ etS, shS⟩
      · exact ⟨tO, mo, rfl, s7 _ _ etO6, shO⟩
    generalize upd H6 L (.lst [.ref t0, .ref tS, .ref tO]) = H7 at k7 st7 hN7 eL each ⊢
    refine for_list (xs := [.ref t0, .ref tS, .ref tO]) (fun _ σ G => ∃ y9 y10 y11 : Option V, σ = [some (.ref a), some (.int (0 + (i : Int))), some (.ref z), some (.int (0 + (j : Int))), some (.ref x), some (.int g), some (.ref tO), none, some (.str (dNet p rs).shown), y9, y10, y11] ∧ Same H7 G) ⟨_, _, _, rfl, Same.refl _⟩ (fun _ σ G _ h => ?_) (fun e v σ G hv h => ?_) (fun σ G h => ?_)
    · obtain ⟨_, _, _, _, sm⟩ := h
      exact SqL.of (sm _ _ eL)
    · obtain ⟨y9, y10, y11, rfl, sm⟩ := h
      obtain ⟨b, ms, rfl, eb, sh⟩ := each v (List.mem_of_getElem? hv)
      have hNG : NetAt G x r ts p rs := hN7.keep fun b xs h => sm _ _ h
      refine ⟨.ref x, rfl, .int g, rfl, .ref b, rfl, x, r, ts, p, rs, g, b, ms, rfl, hNG, ok, g0, by omega, SqT.of (sm _ _ eb), fun G1 t1 s1 n1 e1 => ?_⟩
      have hN1 : NetAt G1 x r ts p rs := hNG.keep fun b xs h => s1 _ _ h
      have eb1 := s1 _ _ (sm _ _ eb)
      refine ⟨.ref x, rfl, .int g, rfl, .ref b, rfl, x, r, ts, p, rs, g, b, ms, rfl, hN1, ok, g0, by omega, SqT.of eb1, sh, fun G2 t2 s2 n2 e2 => ?_⟩
      have hN2 : NetAt G2 x r ts p rs := hN1.keep fun b xs h => s2 _ _ h
      have eb2 := s2 _ _ eb1
      refine ⟨.ref b, rfl, .int g, rfl, .ref x, rfl, x, r, ts, p, rs, g, b, ms, rfl, hN2, ok, g0, by omega, SqT.of eb2, sh, fun G3 t3 s3 n3 e3 => ⟨by show 2 ≤ sizeLine; decide, fun l1 nl1 => ?_⟩⟩
      have z1 := same_new (H := G3) (o := .lst [.ref t2, .ref t3]) nl1
      have sh2 := two_show (price_show ok ms hg)
      refine ⟨.ref l1, rfl, _, _, rfl, .dp (.lst (SqL.of upd_same) (.cons (pr_dp (z1 _ _ (s3 _ _ e2))) (.cons (pr_dp (z1 _ _ e3)) .nil))), sh2, ?_⟩
      refine ⟨.ref t1, rfl, .ref t1, rfl, by show 2 ≤ sizeLine; decide, fun l2 nl2 => ?_⟩
      have z2 := same_new (o := .lst [.ref t1, .ref t1]) nl2
      have e1' := z2 _ _ (z1 _ _ (s3 _ _ (s2 _ _ e1)))
      refine ⟨_, _, rfl, .dp (.lst (SqL.of upd_same) (.cons (pr_dp e1') (.cons (pr_dp e1') .nil))), sh2, ?_⟩
      refine ⟨rfl, _, rfl, ?_⟩
      rw [decide_eq_true rfl]
      exact iteF ⟨_, _, _, rfl, sm.trans (s1.trans (s2.trans (s3.trans (z1.trans z2))))⟩
    · obtain ⟨y9, y10, y11, rfl, sm⟩ := h
      have hNG : NetAt G x r ts p rs := hN7.keep fun b xs h => sm _ _ h
      have sh0 : ShutOk p g [] := ⟨fun _ h => (nomatch h), rfl, by decide⟩
      have sh2 := two_show (price_show ok [] hg)
      refine ⟨.ref x, rfl, .int g, rfl, x, r, ts, p, rs, g, Tk, [], rfl, hNG, ok, g0, by omega, hTk _, sh0, fun G1 t1 s1 n1 e1 => ?_⟩
      have hN1 : NetAt G1 x r ts p rs := hNG.keep fun b xs h => s1 _ _ h
      refine ⟨.ref x, rfl, .int g, rfl, x, r, ts, p, rs, g, Tk, [], rfl, hN1, ok, g0, by omega, hTk _, sh0, fun G2 t2 s2 n2 e2 => ⟨by show 2 ≤ sizeLine; decide, fun l1 nl1 => ?_⟩⟩
      have hN2 : NetAt G2 x r ts p rs := hN1.keep fun b xs h => s2 _ _ h
      have z1 := same_new (H := G2) (o := .lst [.ref t1, .ref t2]) nl1
      refine ⟨_, _, rfl, .dp (.lst (SqL.of upd_same) (.cons (pr_dp (z1 _ _ (s2 _ _ e1))) (.cons (pr_dp (z1 _ _ e2)) .nil))), sh2, ?_⟩
      have hN3 : NetAt (upd G2 l1 (.lst [.ref t1, .ref t2])) x r ts p rs := hN2.keep fun b xs h => z1 _ _ h
      have sA := sm.trans (s1.trans (s2.trans z1))
      generalize upd G2 l1 (.lst [.ref t1, .ref t2]) = G3 at hN3 sA ⊢
      refine ⟨.ref x, rfl, .int g, rfl, Nat.zero_le _, fun te nte => ?_⟩
      have z3 := same_new (H := G3) (o := .tup []) nte
      refine ⟨x, r, ts, p, rs, g, te, [], rfl, hN3.keep (fun b xs h => z3 _ _ h), ok, g0, by omega, SqT.of upd_same, fun G4 t4 s4 n4 e4 => ⟨by show 1 ≤ sizeLine; decide, fun l4 nl4 => ?_⟩⟩
      have z4 := same_new (H := G4) (o := .lst [.ref t4]) nl4
      refine ⟨l4, 2, _, rfl, rfl, upd_same, by decide, by decide, by show 2 ≤ sizeLine; decide, fun l5 nl5 => ?_⟩
      have z5 := same_new (H := upd G4 l4 (.lst [.ref t4])) (o := .lst [.ref t4, .ref t4]) nl5
      have e4' := z5 _ _ (z4 _ _ e4)
      refine ⟨_, _, rfl, .dp (.lst (SqL.of upd_same) (.cons (pr_dp e4') (.cons (pr_dp e4') .nil))), sh2, ?_⟩
      refine ⟨rfl, _, rfl, ?_⟩
      rw [decide_eq_true rfl]
      refine iteF ?_
      have sB := sA.trans (z3.trans (s4.trans (z4.trans z5)))
      have hN5 := hN7.keep fun b xs h => sB _ _ h
      refine ⟨.ref x, rfl, _, _, rfl, .dp (net_dp hN5), (Sh.net ok).mono (by decide) (by decide), ?_⟩
      refine ⟨_, rfl, rfl, _, rfl, ?_⟩
      rw [decide_eq_true rfl]
      exact iteF ⟨_, _, _, _, _, _, _, _, rfl, k7.trans (.of sB), st7.same sB⟩
  · obtain ⟨y3, y4, y5, y6, y8, y9, y10, y11, rfl, kz, st⟩ := h
    exact ⟨_, _, _, _, _, _, _, _, _, _, rfl, az _ kz⟩

end
end Wy

namespace Wy
open PySem PySem.Spec PyProof.Rows L2
set_option maxHeartbeats 4000000 in
theorem fin_mk {P : Program} {w : World} {K : PySem.W.Frag} {h : Heap} {mg : Str → Option Value} {fa f1 f2 f3 f4 f5 fN fP fR fS fF fX fG fPr fSt fCe fTk fNe fOp fLp fSh fL Dk Tk : Addr} {t1 t2 t3 t4 t5 : Tok} {odT : Option Addr} {nT : Nat} {slT : Array (Option Value)}
    {od1 an1 : Option Addr} {sl1 : Array (Option Value)} {oc1 kV1 dc1 pm1 ct1 cd1 : Value}
    {od2 an2 : Option Addr} {sl2 : Array (Option Value)} {oc2 kV2 dc2 pm2 ct2 cd2 : Value}
    {od3 an3 : Option Addr} {sl3 : Array (Option Value)} {oc3 kV3 dc3 pm3 ct3 cd3 : Value}
    {od4 an4 : Option Addr} {sl4 : Array (Option Value)} {oc4 kV4 dc4 pm4 ct4 cd4 : Value}
    {od5 an5 : Option Addr} {sl5 : Array (Option Value)} {oc5 kV5 dc5 pm5 ct5 cd5 : Value}
    {odN anN : Option Addr} {slN : Array (Option Value)} {ocN kVN dcN pmN ctN cdN : Value}
    {odP anP : Option Addr} {slP : Array (Option Value)} {ocP kVP dcP pmP ctP cdP : Value}
    {odR anR : Option Addr} {slR : Array (Option Value)} {ocR kVR dcR pmR ctR cdR : Value}
    {odS anS : Option Addr} {slS : Array (Option Value)} {ocS kVS dcS pmS ctS cdS : Value}
    {odF anF : Option Addr} {slF : Array (Option Value)} {ocF kVF dcF pmF ctF cdF : Value}
    {odX anX : Option Addr} {slX : Array (Option Value)} {ocX kVX dcX pmX ctX cdX : Value}
    {odG anG : Option Addr} {slG : Array (Option Value)} {ocG kVG dcG pmG ctG cdG : Value}
    {odPr anPr : Option Addr} {slPr : Array (Option Value)} {ocPr dcPr pmPr ctPr cdPr : Value}
    {odSt anSt : Option Addr} {slSt : Array (Option Value)} {ocSt kVSt dcSt pmSt ctSt cdSt : Value}
    {odCe anCe : Option Addr} {slCe : Array (Option Value)} {ocCe kVCe dcCe pmCe ctCe cdCe : Value}
    {odTk anTk : Option Addr} {slTk : Array (Option Value)} {ocTk kVTk dcTk pmTk ctTk cdTk : Value}
    {odNe anNe : Option Addr} {slNe : Array (Option Value)} {ocNe kVNe dcNe pmNe ctNe cdNe : Value}
    {odOp anOp : Option Addr} {slOp : Array (Option Value)} {ocOp kVOp dcOp pmOp ctOp cdOp : Value}
    {odLp anLp : Option Addr} {slLp : Array (Option Value)} {ocLp kVLp dcLp pmLp ctLp cdLp : Value}
    {odSh anSh : Option Addr} {slSh : Array (Option Value)} {ocSh kVSh dcSh pmSh ctSh cdSh : Value}
    {odL anL : Option Addr} {slL : Array (Option Value)} {ocL kVL dcL pmL ctL cdL : Value}
    (X : K.In h) (G : h.Ns mainGlobals mg) (hfa : mg "law" = some (.ref fa))
    (a1 : PySem.W.nsIn K mainGlobals "is_whole" = some (some (.ref f1)))
    (l1 : K.lookup f1 = some ⟨oc1, od1, .func (PySem.W.fnOf "is_whole" "is_whole" (defArgs sWhole) (defBody sWhole) (defScope sWhole) .none kV1 dc1 pm1 an1 cd1 ct1), sl1⟩)
    (c1_ : PySem.W.codeIn K cd1 "is_whole" = true)
    (k1_ : PySem.W.keepIn K (.ref f1) = true)
    (a2 : PySem.W.nsIn K mainGlobals "is_within" = some (some (.ref f2)))
    (l2 : K.lookup f2 = some ⟨oc2, od2, .func (PySem.W.fnOf "is_within" "is_within" (defArgs sWithin) (defBody sWithin) (defScope sWithin) .none kV2 dc2 pm2 an2 cd2 ct2), sl2⟩)
    (c2_ : PySem.W.codeIn K cd2 "is_within" = true)
    (k2_ : PySem.W.keepIn K (.ref f2) = true)
    (a3 : PySem.W.nsIn K mainGlobals "is_tuple_of" = some (some (.ref f3)))
    (l3 : K.lookup f3 = some ⟨oc3, od3, .func (PySem.W.fnOf "is_tuple_of" "is_tuple_of" (defArgs sTupOf) (defBody sTupOf) (defScope sTupOf) .none kV3 dc3 pm3 an3 cd3 ct3), sl3⟩)
    (c3_ : PySem.W.codeIn K cd3 "is_tuple_of" = true)
    (k3_ : PySem.W.keepIn K (.ref f3) = true)
    (a4 : PySem.W.nsIn K mainGlobals "is_road_among" = some (some (.ref f4)))
    (l4 : K.lookup f4 = some ⟨oc4, od4, .func (PySem.W.fnOf "is_road_among" "is_road_among" (defArgs sRoadQ) (defBody sRoadQ) (defScope sRoadQ) .none kV4 dc4 pm4 an4 cd4 ct4), sl4⟩)
    (c4_ : PySem.W.codeIn K cd4 "is_road_among" = true)
    (k4_ : PySem.W.keepIn K (.ref f4) = true)
    (a5 : PySem.W.nsIn K mainGlobals "is_net" = some (some (.ref f5)))
    (l5 : K.lookup f5 = some ⟨oc5, od5, .func (PySem.W.fnOf "is_net" "is_net" (defArgs sNetQ) (defBody sNetQ) (defScope sNetQ) .none kV5 dc5 pm5 an5 cd5 ct5), sl5⟩)
    (c5_ : PySem.W.codeIn K cd5 "is_net" = true)
    (k5_ : PySem.W.keepIn K (.ref f5) = true)
    (aN : PySem.W.nsIn K mainGlobals "check_net" = some (some (.ref fN)))
    (lN : K.lookup fN = some ⟨ocN, odN, .func (PySem.W.fnOf "check_net" "check_net" (defArgs sChkN) (defBody sChkN) (defScope sChkN) .none kVN dcN pmN anN cdN ctN), slN⟩)
    (cN_ : PySem.W.codeIn K cdN "check_net" = true)
    (kN_ : PySem.W.keepIn K (.ref fN) = true)
    (aP : PySem.W.nsIn K mainGlobals "check_place" = some (some (.ref fP)))
    (lP : K.lookup fP = some ⟨ocP, odP, .func (PySem.W.fnOf "check_place" "check_place" (defArgs sChkP) (defBody sChkP) (defScope sChkP) .none kVP dcP pmP anP cdP ctP), slP⟩)
    (cP_ : PySem.W.codeIn K cdP "check_place" = true)
    (kP_ : PySem.W.keepIn K (.ref fP) = true)
    (aR : PySem.W.nsIn K mainGlobals "is_rising" = some (some (.ref fR)))
    (lR : K.lookup fR = some ⟨ocR, odR, .func (PySem.W.fnOf "is_rising" "is_rising" (defArgs sRise) (defBody sRise) (defScope sRise) .none kVR dcR pmR anR cdR ctR), slR⟩)
    (cR_ : PySem.W.codeIn K cdR "is_rising" = true)
    (kR_ : PySem.W.keepIn K (.ref fR) = true)
    (aS : PySem.W.nsIn K mainGlobals "check_shut" = some (some (.ref fS)))
    (lS : K.lookup fS = some ⟨ocS, odS, .func (PySem.W.fnOf "check_shut" "check_shut" (defArgs sShutQ) (defBody sShutQ) (defScope sShutQ) .none kVS dcS pmS anS cdS ctS), slS⟩)
    (cS_ : PySem.W.codeIn K cdS "check_shut" = true)
    (kS_ : PySem.W.keepIn K (.ref fS) = true)
    (aF : PySem.W.nsIn K mainGlobals "free_roads" = some (some (.ref fF)))
    (lF : K.lookup fF = some ⟨ocF, odF, .func (PySem.W.fnOf "free_roads" "free_roads" (defArgs sFree) (defBody sFree) (defScope sFree) .none kVF dcF pmF anF cdF ctF), slF⟩)
    (cF_ : PySem.W.codeIn K cdF "free_roads" = true)
    (kF_ : PySem.W.keepIn K (.ref fF) = true)
    (aX : PySem.W.nsIn K mainGlobals "exceeds" = some (some (.ref fX)))
    (lX : K.lookup fX = some ⟨ocX, odX, .func (PySem.W.fnOf "exceeds" "exceeds" (defArgs sExc) (defBody sExc) (defScope sExc) .none kVX dcX pmX anX cdX ctX), slX⟩)
    (cX_ : PySem.W.codeIn K cdX "exceeds" = true)
    (kX_ : PySem.W.keepIn K (.ref fX) = true)
    (aG : PySem.W.nsIn K mainGlobals "greatest_prices" = some (some (.ref fG)))
    (lG : K.lookup fG = some ⟨ocG, odG, .func (PySem.W.fnOf "greatest_prices" "greatest_prices" (defArgs sGreat) (defBody sGreat) (defScope sGreat) .none kVG dcG pmG anG cdG ctG), slG⟩)
    (cG_ : PySem.W.codeIn K cdG "greatest_prices" = true)
    (kG_ : PySem.W.keepIn K (.ref fG) = true)
    (aPr : PySem.W.nsIn K mainGlobals "prices_of" = some (some (.ref fPr)))
    (lPr : K.lookup fPr = some ⟨ocPr, odPr, .func (PySem.W.fnOf "prices_of" "prices_of" (defArgs sPrices) (defBody sPrices) (defScope sPrices) .none (.ref Dk) dcPr pmPr anPr cdPr ctPr), slPr⟩)
    (cPr_ : PySem.W.codeIn K cdPr "prices_of" = true)
    (kPr_ : PySem.W.keepIn K (.ref fPr) = true)
    (aSt : PySem.W.nsIn K mainGlobals "_law_state" = some (some (.ref fSt)))
    (lSt : K.lookup fSt = some ⟨ocSt, odSt, .func (PySem.W.fnOf "_law_state" "_law_state" (defArgs sState) (defBody sState) (defScope sState) .none kVSt dcSt pmSt anSt cdSt ctSt), slSt⟩)
    (cSt_ : PySem.W.codeIn K cdSt "_law_state" = true)
    (kSt_ : PySem.W.keepIn K (.ref fSt) = true)
    (aCe : PySem.W.nsIn K mainGlobals "_law_cell_at" = some (some (.ref fCe)))
    (lCe : K.lookup fCe = some ⟨ocCe, odCe, .func (PySem.W.fnOf "_law_cell_at" "_law_cell_at" (defArgs sCell) (defBody sCell) (defScope sCell) .none kVCe dcCe pmCe anCe cdCe ctCe), slCe⟩)
    (cCe_ : PySem.W.codeIn K cdCe "_law_cell_at" = true)
    (kCe_ : PySem.W.keepIn K (.ref fCe) = true)
    (aTk : PySem.W.nsIn K mainGlobals "_law_take" = some (some (.ref fTk)))
    (lTk : K.lookup fTk = some ⟨ocTk, odTk, .func (PySem.W.fnOf "_law_take" "_law_take" (defArgs sTake) (defBody sTake) (defScope sTake) .none kVTk dcTk pmTk anTk cdTk ctTk), slTk⟩)
    (cTk_ : PySem.W.codeIn K cdTk "_law_take" = true)
    (kTk_ : PySem.W.keepIn K (.ref fTk) = true)
    (aNe : PySem.W.nsIn K mainGlobals "_law_net" = some (some (.ref fNe)))
    (lNe : K.lookup fNe = some ⟨ocNe, odNe, .func (PySem.W.fnOf "_law_net" "_law_net" (defArgs sNet) (defBody sNet) (defScope sNet) .none kVNe dcNe pmNe anNe cdNe ctNe), slNe⟩)
    (cNe_ : PySem.W.codeIn K cdNe "_law_net" = true)
    (kNe_ : PySem.W.keepIn K (.ref fNe) = true)
    (aOp : PySem.W.nsIn K mainGlobals "_law_open" = some (some (.ref fOp)))
    (lOp : K.lookup fOp = some ⟨ocOp, odOp, .func (PySem.W.fnOf "_law_open" "_law_open" (defArgs sOpen) (defBody sOpen) (defScope sOpen) .none kVOp dcOp pmOp anOp cdOp ctOp), slOp⟩)
    (cOp_ : PySem.W.codeIn K cdOp "_law_open" = true)
    (kOp_ : PySem.W.keepIn K (.ref fOp) = true)
    (aLp : PySem.W.nsIn K mainGlobals "_law_prices" = some (some (.ref fLp)))
    (lLp : K.lookup fLp = some ⟨ocLp, odLp, .func (PySem.W.fnOf "_law_prices" "_law_prices" (defArgs sLPr) (defBody sLPr) (defScope sLPr) .none kVLp dcLp pmLp anLp cdLp ctLp), slLp⟩)
    (cLp_ : PySem.W.codeIn K cdLp "_law_prices" = true)
    (kLp_ : PySem.W.keepIn K (.ref fLp) = true)
    (aSh : PySem.W.nsIn K mainGlobals "_law_shut" = some (some (.ref fSh)))
    (lSh : K.lookup fSh = some ⟨ocSh, odSh, .func (PySem.W.fnOf "_law_shut" "_law_shut" (defArgs sLSh) (defBody sLSh) (defScope sLSh) .none kVSh dcSh pmSh anSh cdSh ctSh), slSh⟩)
    (cSh_ : PySem.W.codeIn K cdSh "_law_shut" = true)
    (kSh_ : PySem.W.keepIn K (.ref fSh) = true)
    (aL : PySem.W.nsIn K mainGlobals "law" = some (some (.ref fL)))
    (lL : K.lookup fL = some ⟨ocL, odL, .func (PySem.W.fnOf "law" "law" (defArgs sLaw) (defBody sLaw) (defScope sLaw) .none kVL dcL pmL anL cdL ctL), slL⟩)
    (cL_ : PySem.W.codeIn K cdL "law" = true)
    (kL_ : PySem.W.keepIn K (.ref fL) = true)
    (z_isinstance : PySem.W.nsIn K mainGlobals "isinstance" = some none)
    (z_int : PySem.W.nsIn K mainGlobals "int" = some none)
    (z_bool : PySem.W.nsIn K mainGlobals "bool" = some none)
    (z_tuple : PySem.W.nsIn K mainGlobals "tuple" = some none)
    (z_len : PySem.W.nsIn K mainGlobals "len" = some none)
    (z_all : PySem.W.nsIn K mainGlobals "all" = some none)
    (z_sum : PySem.W.nsIn K mainGlobals "sum" = some none)
    (z_set : PySem.W.nsIn K mainGlobals "set" = some none)
    (z_range : PySem.W.nsIn K mainGlobals "range" = some none)
    (z_max : PySem.W.nsIn K mainGlobals "max" = some none)
    (z_min : PySem.W.nsIn K mainGlobals "min" = some none)
    (z_zip : PySem.W.nsIn K mainGlobals "zip" = some none)
    (z_repr : PySem.W.nsIn K mainGlobals "repr" = some none)
    (q1 : PySem.W.nsIn K mainGlobals "MOST_PLACES" = some (some (.int 10 t1)))
    (q2 : PySem.W.nsIn K mainGlobals "MOST_ROADS" = some (some (.int 30 t2)))
    (q3 : PySem.W.nsIn K mainGlobals "LEAST_COST" = some (some (.int 1 t3)))
    (q4 : PySem.W.nsIn K mainGlobals "MOST_COST" = some (some (.int 99 t4)))
    (q5 : PySem.W.nsIn K mainGlobals "MOST_TIME" = some (some (.int 99 t5)))
    (nk : PySem.W.nsIn K Dk "shut" = some (some (.ref Tk)))
    (lk : K.lookup Tk = some ⟨.type "tuple", odT, .seq #[] nT, slT⟩) :
    Runs0 P w K mg fa := by
  have e := hfa.symm.trans (PySem.W.mg_of X G aL)
  cases e
  have F1 := fun_mk (st := sWhole) l1 c1_ k1_
  have B1 := F1.binds (ps := ["thing"]) fun _ _ _ _ _ _ us hl => match us, hl with | [_], _ => rfl
  have D1 : Df K mg "is_whole" sWhole ["thing"] f1 _ := ⟨F1, B1, PySem.W.mg_of X G a1⟩
  have F2 := fun_mk (st := sWithin) l2 c2_ k2_
  have B2 := F2.binds (ps := ["thing", "low", "high"]) fun _ _ _ _ _ _ us hl => match us, hl with | [_, _, _], _ => rfl
  have D2 : Df K mg "is_within" sWithin ["thing", "low", "high"] f2 _ := ⟨F2, B2, PySem.W.mg_of X G a2⟩
  have F3 := fun_mk (st := sTupOf) l3 c3_ k3_
  have B3 := F3.binds (ps := ["thing", "many"]) fun _ _ _ _ _ _ us hl => match us, hl with | [_, _], _ => rfl
  have D3 : Df K mg "is_tuple_of" sTupOf ["thing", "many"] f3 _ := ⟨F3, B3, PySem.W.mg_of X G a3⟩
  have F4 := fun_mk (st := sRoadQ) l4 c4_ k4_
  have B4 := F4.binds (ps := ["places", "thing"]) fun _ _ _ _ _ _ us hl => match us, hl with | [_, _], _ => rfl
  have D4 : Df K mg "is_road_among" sRoadQ ["places", "thing"] f4 _ := ⟨F4, B4, PySem.W.mg_of X G a4⟩
  have F5 := fun_mk (st := sNetQ) l5 c5_ k5_
  have B5 := F5.binds (ps := ["thing"]) fun _ _ _ _ _ _ us hl => match us, hl with | [_], _ => rfl
  have D5 : Df K mg "is_net" sNetQ ["thing"] f5 _ := ⟨F5, B5, PySem.W.mg_of X G a5⟩
  have FN := fun_mk (st := sChkN) lN cN_ kN_
  have BN := FN.binds (ps := ["thing"]) fun _ _ _ _ _ _ us hl => match us, hl with | [_], _ => rfl
  have DN : Df K mg "check_net" sChkN ["thing"] fN _ := ⟨FN, BN, PySem.W.mg_of X G aN⟩
  have FP := fun_mk (st := sChkP) lP cP_ kP_
  have BP := FP.binds (ps := ["net", "thing"]) fun _ _ _ _ _ _ us hl => match us, hl with | [_, _], _ => rfl
  have DP : Df K mg "check_place" sChkP ["net", "thing"] fP _ := ⟨FP, BP, PySem.W.mg_of X G aP⟩
  have FR := fun_mk (st := sRise) lR cR_ kR_
  have BR := FR.binds (ps := ["things"]) fun _ _ _ _ _ _ us hl => match us, hl with | [_], _ => rfl
  have DR : Df K mg "is_rising" sRise ["things"] fR _ := ⟨FR, BR, PySem.W.mg_of X G aR⟩
  have FS := fun_mk (st := sShutQ) lS cS_ kS_
  have BS := FS.binds (ps := ["net", "goal", "thing"]) fun _ _ _ _ _ _ us hl => match us, hl with | [_, _, _], _ => rfl
  have DS : Df K mg "check_shut" sShutQ ["net", "goal", "thing"] fS _ := ⟨FS, BS, PySem.W.mg_of X G aS⟩
  have FF := fun_mk (st := sFree) lF cF_ kF_
  have BF := FF.binds (ps := ["net", "shut"]) fun _ _ _ _ _ _ us hl => match us, hl with | [_, _], _ => rfl
  have DF : Df K mg "free_roads" sFree ["net", "shut"] fF _ := ⟨FF, BF, PySem.W.mg_of X G aF⟩
  have FX := fun_mk (st := sExc) lX cX_ kX_
  have BX := FX.binds (ps := ["own", "cost", "ahead"]) fun _ _ _ _ _ _ us hl => match us, hl with | [_, _, _], _ => rfl
  have DX : Df K mg "exceeds" sExc ["own", "cost", "ahead"] fX _ := ⟨FX, BX, PySem.W.mg_of X G aX⟩
  have FG := fun_mk (st := sGreat) lG cG_ kG_
  have BG := FG.binds (ps := ["net", "goal", "shut"]) fun _ _ _ _ _ _ us hl => match us, hl with | [_, _, _], _ => rfl
  have DG : Df K mg "greatest_prices" sGreat ["net", "goal", "shut"] fG _ := ⟨FG, BG, PySem.W.mg_of X G aG⟩
  have FPr := fun_mk (st := sPrices) lPr cPr_ kPr_
  have FSt := fun_mk (st := sState) lSt cSt_ kSt_
  have BSt := FSt.binds (ps := ["_law_script", "_law_k"]) fun _ _ _ _ _ _ us hl => match us, hl with | [_, _], _ => rfl
  have DSt : Df K mg "_law_state" sState ["_law_script", "_law_k"] fSt _ := ⟨FSt, BSt, PySem.W.mg_of X G aSt⟩
  have FCe := fun_mk (st := sCell) lCe cCe_ kCe_
  have BCe := FCe.binds (ps := ["_law_script", "_law_k"]) fun _ _ _ _ _ _ us hl => match us, hl with | [_, _], _ => rfl
  have DCe : Df K mg "_law_cell_at" sCell ["_law_script", "_law_k"] fCe _ := ⟨FCe, BCe, PySem.W.mg_of X G aCe⟩
  have FTk := fun_mk (st := sTake) lTk cTk_ kTk_
  have BTk := FTk.binds (ps := ["_law_state_here", "_law_much"]) fun _ _ _ _ _ _ us hl => match us, hl with | [_, _], _ => rfl
  have DTk : Df K mg "_law_take" sTake ["_law_state_here", "_law_much"] fTk _ := ⟨FTk, BTk, PySem.W.mg_of X G aTk⟩
  have FNe := fun_mk (st := sNet) lNe cNe_ kNe_
  have BNe := FNe.binds (ps := ["_law_state_here", "_law_most", "_law_roads"]) fun _ _ _ _ _ _ us hl => match us, hl with | [_, _, _], _ => rfl
  have DNe : Df K mg "_law_net" sNet ["_law_state_here", "_law_most", "_law_roads"] fNe _ := ⟨FNe, BNe, PySem.W.mg_of X G aNe⟩
  have FOp := fun_mk (st := sOpen) lOp cOp_ kOp_
  have BOp := FOp.binds (ps := ["_law_web", "_law_closed"]) fun _ _ _ _ _ _ us hl => match us, hl with | [_, _], _ => rfl
  have DOp : Df K mg "_law_open" sOpen ["_law_web", "_law_closed"] fOp _ := ⟨FOp, BOp, PySem.W.mg_of X G aOp⟩
  have FLp := fun_mk (st := sLPr) lLp cLp_ kLp_
  have BLp := FLp.binds (ps := ["_law_web", "_law_aim", "_law_closed"]) fun _ _ _ _ _ _ us hl => match us, hl with | [_, _, _], _ => rfl
  have DLp : Df K mg "_law_prices" sLPr ["_law_web", "_law_aim", "_law_closed"] fLp _ := ⟨FLp, BLp, PySem.W.mg_of X G aLp⟩
  have FSh := fun_mk (st := sLSh) lSh cSh_ kSh_
  have BSh := FSh.binds (ps := ["_law_state_here", "_law_web", "_law_aim"]) fun _ _ _ _ _ _ us hl => match us, hl with | [_, _, _], _ => rfl
  have DSh : Df K mg "_law_shut" sLSh ["_law_state_here", "_law_web", "_law_aim"] fSh _ := ⟨FSh, BSh, PySem.W.mg_of X G aSh⟩
  have FL := fun_mk (st := sLaw) lL cL_ kL_
  have BL := FL.binds (ps := ["_law_script"]) fun _ _ _ _ _ _ us hl => match us, hl with | [_], _ => rfl
  have DL : Df K mg "law" sLaw ["_law_script"] fa _ := ⟨FL, BL, PySem.W.mg_of X G aL⟩
  have m_isinstance := PySem.W.mg_none_of X G z_isinstance
  have m_int := PySem.W.mg_none_of X G z_int
  have m_bool := PySem.W.mg_none_of X G z_bool
  have m_tuple := PySem.W.mg_none_of X G z_tuple
  have m_len := PySem.W.mg_none_of X G z_len
  have m_all := PySem.W.mg_none_of X G z_all
  have m_sum := PySem.W.mg_none_of X G z_sum
  have m_set := PySem.W.mg_none_of X G z_set
  have m_range := PySem.W.mg_none_of X G z_range
  have m_max := PySem.W.mg_none_of X G z_max
  have m_min := PySem.W.mg_none_of X G z_min
  have m_zip := PySem.W.mg_none_of X G z_zip
  have m_repr := PySem.W.mg_none_of X G z_repr
  have S : Sm K mg f1 f2 f3 f4 f5 _ _ _ _ _ := { mi := m_isinstance, mI := m_int, mB := m_bool, mT := m_tuple, ml := m_len, mA := m_all, mS := m_sum, mE := m_set, c1 := ⟨_, PySem.W.mg_of X G q1⟩, c2 := ⟨_, PySem.W.mg_of X G q2⟩, c3 := ⟨_, PySem.W.mg_of X G q3⟩, c4 := ⟨_, PySem.W.mg_of X G q4⟩, c5 := ⟨_, PySem.W.mg_of X G q5⟩, whole := D1, within := D2, tupOf := D3, roadQ := D4, netQ := D5 }
  have T : Pt K mg fN fP fR fS fF fX fG _ _ _ _ _ _ _ := { N := DN, P := DP, R := DR, S := DS, F := DF, X := DX, G := DG, mZ := m_zip, mR := m_range }
  have FD : FunD K "prices_of" "prices_of" (defArgs sPrices) (defBody sPrices) (defScope sPrices) [] [("shut", .ref Tk)] fPr _ := ⟨⟨_, _, _, _, _, _, _, _, _, _, rfl, lPr, cPr_, .inl ⟨rfl, rfl⟩, .inr ⟨Dk, rfl, fun q hq => by rw [List.mem_singleton.mp hq]; exact ⟨_, nk, rfl⟩⟩⟩, kPr_⟩
  obtain ⟨ds, vD, bD⟩ := df_prices FD
  have hTk : ∀ H : Hp, SqT K H Tk [] := fun H => .inr ⟨_, #[], nT, lk, rfl, rfl, by decide, .nil⟩
  intro base H s a ns hlen sq env
  refine LamX.run_ofS (k := 6) (N := ["_law_script", "_law_k", "_law_state_here", "_law_turn", "_law_web", "_law_aim", "_law_others", "_law_spot", "_law_kept", "_law_closed", "_law_due", "_law_found"]) (ps := ["_law_script"]) (us := [.ref a]) (vs := [.ref a]) lL cL_ scLaw ⟨rfl, by decide, by decide⟩ env (.of_eq rfl) (.cons rfl .nil) rfl fun hr => ?_
  obtain ⟨t, ht, hq⟩ := law_reads (P := P) (w := w) (base := base) (fL := fa) (s := s) (H := H) (a := a) (ns := ns) (ok_pr (k := 0) S T FPr) (PySem.W.mg_of X G aPr) kPr_ (kw_prices FPr) (kw_prices3 FPr) bD vD hTk DLp (ok_lpr (k := 4) m_range m_tuple m_min DOp DLp) DSh (ok_lsh (k := 4) m_range m_tuple DTk DSh) DSt (ok_state (k := 4) DSt DCe m_len m_max) DTk (ok_take (k := 5) DTk) DNe (ok_net (k := 4) DTk m_range m_tuple DNe) m_range m_max m_min m_len m_tuple m_repr hr sq
  exact ⟨t, ht.nox, hq⟩
end Wy

open PySem PySem.W PyProof.Rows
set_option maxHeartbeats 0 in
theorem PySem.Challenge.cw_waysranked_k03_the_greatest_prices_holds : PySem.Challenge.rw_waysranked_k03_the_greatest_prices.Holds := by
  w_on; o_law; k_head; (case hw => w_witness2)
  k_fill
  refine Wy.walk_end0 (l := PySem.Challenge.rw_waysranked_k03_the_greatest_prices) rfl rfl (fun w h Y => PySem.W.kIn_of Y) ?F
  case F =>
    intro w mg fa h KX G hmg
    refine' Wy.fin_mk KX G hmg ?zz_a1 ?zz_l1 ?zz_c1_ ?zz_k1_ ?zz_a2 ?zz_l2 ?zz_c2_ ?zz_k2_ ?zz_a3 ?zz_l3 ?zz_c3_ ?zz_k3_ ?zz_a4 ?zz_l4 ?zz_c4_ ?zz_k4_ ?zz_a5 ?zz_l5 ?zz_c5_ ?zz_k5_ ?zz_aN ?zz_lN ?zz_cN_ ?zz_kN_ ?zz_aP ?zz_lP ?zz_cP_ ?zz_kP_ ?zz_aR ?zz_lR ?zz_cR_ ?zz_kR_ ?zz_aS ?zz_lS ?zz_cS_ ?zz_kS_ ?zz_aF ?zz_lF ?zz_cF_ ?zz_kF_ ?zz_aX ?zz_lX ?zz_cX_ ?zz_kX_ ?zz_aG ?zz_lG ?zz_cG_ ?zz_kG_ ?zz_aPr ?zz_lPr ?zz_cPr_ ?zz_kPr_ ?zz_aSt ?zz_lSt ?zz_cSt_ ?zz_kSt_ ?zz_aCe ?zz_lCe ?zz_cCe_ ?zz_kCe_ ?zz_aTk ?zz_lTk ?zz_cTk_ ?zz_kTk_ ?zz_aNe ?zz_lNe ?zz_cNe_ ?zz_kNe_ ?zz_aOp ?zz_lOp ?zz_cOp_ ?zz_kOp_ ?zz_aLp ?zz_lLp ?zz_cLp_ ?zz_kLp_ ?zz_aSh ?zz_lSh ?zz_cSh_ ?zz_kSh_ ?zz_aL ?zz_lL ?zz_cL_ ?zz_kL_ ?zz_z_isinstance ?zz_z_int ?zz_z_bool ?zz_z_tuple ?zz_z_len ?zz_z_all ?zz_z_sum ?zz_z_set ?zz_z_range ?zz_z_max ?zz_z_min ?zz_z_zip ?zz_z_repr ?zz_q1 ?zz_q2 ?zz_q3 ?zz_q4 ?zz_q5 ?zz_nk ?zz_lk
    (case zz_a1 => first | k_is | rfl | decide +kernel | k_exc)
    (case zz_l1 => first | k_is | rfl | decide +kernel | k_exc)
    (case zz_c1_ => first | k_is | rfl | decide +kernel | k_exc)
    (case zz_k1_ => first | k_is | rfl | decide +kernel | k_exc)
    (case zz_a2 => first | k_is | rfl | decide +kernel | k_exc)
    (case zz_l2 => first | k_is | rfl | decide +kernel | k_exc)
    (case zz_c2_ => first | k_is | rfl | decide +kernel | k_exc)
    (case zz_k2_ => first | k_is | rfl | decide +kernel | k_exc)
    (case zz_a3 => first | k_is | rfl | decide +kernel | k_exc)
    (case zz_l3 => first | k_is | rfl | decide +kernel | k_exc)
    (case zz_c3_ => first | k_is | rfl | decide +kernel | k_exc)
    (case zz_k3_ => first | k_is | rfl | decide +kernel | k_exc)
    (case zz_a4 => first | k_is | rfl | decide +kernel | k_exc)
    (case zz_l4 => first | k_is | rfl | decide +kernel | k_exc)
    (case zz_c4_ => first | k_is | rfl | decide +kernel | k_exc)
    (case zz_k4_ => first | k_is | rfl | decide +kernel | k_exc)
    (case zz_a5 => first | k_is | rfl | decide +kernel | k_exc)
    (case zz_l5 => first | k_is | rfl | decide +kernel | k_exc)
    (case zz_c5_ => first | k_is | rfl | decide +kernel | k_exc)
    (case zz_k5_ => first | k_is | rfl | decide +kernel | k_exc)
    (case zz_aN => first | k_is | rfl | decide +kernel | k_exc)
    (case zz_lN => first | k_is | rfl | decide +kernel | k_exc)
    (case zz_cN_ => first | k_is | rfl | decide +kernel | k_exc)
    (case zz_kN_ => first | k_is | rfl | decide +kernel | k_exc)
    (case zz_aP => first | k_is | rfl | decide +kernel | k_exc)
    (case zz_lP => first | k_is | rfl | decide +kernel | k_exc)
    (case zz_cP_ => first | k_is | rfl | decide +kernel | k_exc)
    (case zz_kP_ => first | k_is | rfl | decide +kernel | k_exc)
    (case zz_aR => first | k_is | rfl | decide +kernel | k_exc)
    (case zz_lR => first | k_is | rfl | decide +kernel | k_exc)
    (case zz_cR_ => first | k_is | rfl | decide +kernel | k_exc)
    (case zz_kR_ => first | k_is | rfl | decide +kernel | k_exc)
    (case zz_aS => first | k_is | rfl | decide +kernel | k_exc)
    (case zz_lS => first | k_is | rfl | decide +kernel | k_exc)
    (case zz_cS_ => first | k_is | rfl | decide +kernel | k_exc)
    (case zz_kS_ => first | k_is | rfl | decide +kernel | k_exc)
    (case zz_aF => first | k_is | rfl | decide +kernel | k_exc)
    (case zz_lF => first | k_is | rfl | decide +kernel | k_exc)
    (case zz_cF_ => first | k_is | rfl | decide +kernel | k_exc)
    (case zz_kF_ => first | k_is | rfl | decide +kernel | k_exc)
    (case zz_aX => first | k_is | rfl | decide +kernel | k_exc)
    (case zz_lX => first | k_is | rfl | decide +kernel | k_exc)
    (case zz_cX_ => first | k_is | rfl | decide +kernel | k_exc)
    (case zz_kX_ => first | k_is | rfl | decide +kernel | k_exc)
    (case zz_aG => first | k_is | rfl | decide +kernel | k_exc)
    (case zz_lG => first | k_is | rfl | decide +kernel | k_exc)
    (case zz_cG_ => first | k_is | rfl | decide +kernel | k_exc)
    (case zz_kG_ => first | k_is | rfl | decide +kernel | k_exc)
    (case zz_aPr => first | k_is | rfl | decide +kernel | k_exc)
    (case zz_lPr => first | k_is | rfl | decide +kernel | k_exc)
    (case zz_cPr_ => first | k_is | rfl | decide +kernel | k_exc)
    (case zz_kPr_ => first | k_is | rfl | decide +kernel | k_exc)
    (case zz_aSt => first | k_is | rfl | decide +kernel | k_exc)
    (case zz_lSt => first | k_is | rfl | decide +kernel | k_exc)
    (case zz_cSt_ => first | k_is | rfl | decide +kernel | k_exc)
    (case zz_kSt_ => first | k_is | rfl | decide +kernel | k_exc)
    (case zz_aCe => first | k_is | rfl | decide +kernel | k_exc)
    (case zz_lCe => first | k_is | rfl | decide +kernel | k_exc)
    (case zz_cCe_ => first | k_is | rfl | decide +kernel | k_exc)
    (case zz_kCe_ => first | k_is | rfl | decide +kernel | k_exc)
    (case zz_aTk => first | k_is | rfl | decide +kernel | k_exc)
    (case zz_lTk => first | k_is | rfl | decide +kernel | k_exc)
    (case zz_cTk_ => first | k_is | rfl | decide +kernel | k_exc)
    (case zz_kTk_ => first | k_is | rfl | decide +kernel | k_exc)
    (case zz_aNe => first | k_is | rfl | decide +kernel | k_exc)
    (case zz_lNe => first | k_is | rfl | decide +kernel | k_exc)
    (case zz_cNe_ => first | k_is | rfl | decide +kernel | k_exc)
    (case zz_kNe_ => first | k_is | rfl | decide +kernel | k_exc)
    (case zz_aOp => first | k_is | rfl | decide +kernel | k_exc)
    (case zz_lOp => first | k_is | rfl | decide +kernel | k_exc)
    (case zz_cOp_ => first | k_is | rfl | decide +kernel | k_exc)
    (case zz_kOp_ => first | k_is | rfl | decide +kernel | k_exc)
    (case zz_aLp => first | k_is | rfl | decide +kernel | k_exc)
    (case zz_lLp => first | k_is | rfl | decide +kernel | k_exc)
    (case zz_cLp_ => first | k_is | rfl | decide +kernel | k_exc)
    (case zz_kLp_ => first | k_is | rfl | decide +kernel | k_exc)
    (case zz_aSh => first | k_is | rfl | decide +kernel | k_exc)
    (case zz_lSh => first | k_is | rfl | decide +kernel | k_exc)
    (case zz_cSh_ => first | k_is | rfl | decide +kernel | k_exc)
    (case zz_kSh_ => first | k_is | rfl | decide +kernel | k_exc)
    (case zz_aL => first | k_is | rfl | decide +kernel | k_exc)
    (case zz_lL => first | k_is | rfl | decide +kernel | k_exc)
    (case zz_cL_ => first | k_is | rfl | decide +kernel | k_exc)
    (case zz_kL_ => first | k_is | rfl | decide +kernel | k_exc)
    (case zz_z_isinstance => first | k_is | rfl | decide +kernel | k_exc)
    (case zz_z_int => first | k_is | rfl | decide +kernel | k_exc)
    (case zz_z_bool => first | k_is | rfl | decide +kernel | k_exc)
    (case zz_z_tuple => first | k_is | rfl | decide +kernel | k_exc)
    (case zz_z_len => first | k_is | rfl | decide +kernel | k_exc)
    (case zz_z_all => first | k_is | rfl | decide +kernel | k_exc)
    (case zz_z_sum => first | k_is | rfl | decide +kernel | k_exc)
    (case zz_z_set => first | k_is | rfl | decide +kernel | k_exc)
    (case zz_z_range => first | k_is | rfl | decide +kernel | k_exc)
    (case zz_z_max => first | k_is | rfl | decide +kernel | k_exc)
    (case zz_z_min => first | k_is | rfl | decide +kernel | k_exc)
    (case zz_z_zip => first | k_is | rfl | decide +kernel | k_exc)
    (case zz_z_repr => first | k_is | rfl | decide +kernel | k_exc)
    (case zz_q1 => first | k_is | rfl | decide +kernel | k_exc)
    (case zz_q2 => first | k_is | rfl | decide +kernel | k_exc)
    (case zz_q3 => first | k_is | rfl | decide +kernel | k_exc)
    (case zz_q4 => first | k_is | rfl | decide +kernel | k_exc)
    (case zz_q5 => first | k_is | rfl | decide +kernel | k_exc)
    (case zz_nk => first | k_is | rfl | decide +kernel | k_exc)
    (case zz_lk => first | k_is | rfl | decide +kernel | k_exc)
